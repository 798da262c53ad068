/-
  The parts behind a line's kind: what they tell. Of no program's walk.
-/
import Derived.Test.YtljngkjhhkccgaaGreatDoorLnI
namespace Go.Proofs.YtljngkjhhkccgaaGreatDoor
set_option linter.unusedVariables false
set_option linter.unusedSimpArgs false
open Go.ChangeShapes Go.WideShapes Go.ChangeAt Go.RowKit Go.PlainAid

structure Pt where
  rd : Bool
  rt : ByteArray
  tg : List ByteArray
  td : Bool
  ti : Nat
def pt0 : Pt := ⟨false, ByteArray.empty, [], false, 0⟩
def tl1 (p : ByteArray) : ByteArray := p.extract 1 p.size
def stepP (r : Pt) (p : ByteArray) : Option Pt :=
  if markN p = 1 then some { r with rd := true, rt := tl1 p } else
  if markN p = 2 then some { r with tg := splL (tl1 p) 44 } else
  if markN p = 3 then (timO (tl1 p)).map fun n => { r with td := true, ti := n } else none
def more : Nat → Pt → List ByteArray → Option Pt
  | _, r, [] => some r
  | a, r, p :: ps => if markN p ≤ a then none else match stepP r p with
    | some r' => more (markN p) r' ps
    | none => none
def moreS : Nat → Pt → List ByteArray → Option Pt
  | _, r, [] => some r
  | a, r, p :: ps => if markN p ≤ a then none else match stepP r p with
    | some r' => if markN p = 2 ∧ ¬ r'.tg.all tagB = true then none else moreS (markN p) r' ps
    | none => none
theorem more_no {a : Nat} {r : Pt} {p : ByteArray} {ps : List ByteArray} (h : markN p ≤ a) : more a r (p :: ps) = none := by
  unfold more; rw [if_pos h]
theorem more_step {a : Nat} {r r' : Pt} {p : ByteArray} {ps : List ByteArray} (h : ¬ markN p ≤ a) (hs : stepP r p = some r') : more a r (p :: ps) = more (markN p) r' ps := by
  rw [more, if_neg h, hs]
theorem more_ill {a : Nat} {r : Pt} {p : ByteArray} {ps : List ByteArray} (hs : stepP r p = none) : more a r (p :: ps) = none := by
  rw [more]; split
  · rfl
  · rw [hs]
theorem moreS_no {a : Nat} {r : Pt} {p : ByteArray} {ps : List ByteArray} (h : markN p ≤ a) : moreS a r (p :: ps) = none := by
  unfold moreS; rw [if_pos h]
theorem moreS_step {a : Nat} {r r' : Pt} {p : ByteArray} {ps : List ByteArray} (h : ¬ markN p ≤ a) (hs : stepP r p = some r') (ht : markN p = 2 → r'.tg.all tagB = true) : moreS a r (p :: ps) = moreS (markN p) r' ps := by
  rw [moreS, if_neg h, hs]
  show (if markN p = 2 ∧ ¬ r'.tg.all tagB = true then none else moreS (markN p) r' ps) = _
  rw [if_neg (fun k => k.2 (ht k.1))]
theorem moreS_bad {a : Nat} {r r' : Pt} {p : ByteArray} {ps : List ByteArray} (hs : stepP r p = some r') (h2 : markN p = 2) (ht : ¬ r'.tg.all tagB = true) : moreS a r (p :: ps) = none := by
  rw [moreS]; split
  · rfl
  · rw [hs]
    show (if markN p = 2 ∧ ¬ r'.tg.all tagB = true then none else moreS (markN p) r' ps) = _
    rw [if_pos ⟨h2, ht⟩]
theorem moreS_ill {a : Nat} {r : Pt} {p : ByteArray} {ps : List ByteArray} (hs : stepP r p = none) : moreS a r (p :: ps) = none := by
  rw [moreS]; split
  · rfl
  · rw [hs]
theorem step1 {r : Pt} {p : ByteArray} (h : markN p = 1) : stepP r p = some { r with rd := true, rt := tl1 p } := by unfold stepP; rw [if_pos h]
theorem step2 {r : Pt} {p : ByteArray} (h : markN p = 2) : stepP r p = some { r with tg := splL (tl1 p) 44 } := by unfold stepP; rw [if_neg (by omega), if_pos h]
theorem step3 {r : Pt} {p : ByteArray} (h : markN p = 3) : stepP r p = (timO (tl1 p)).map fun n => { r with td := true, ti := n } := by unfold stepP; rw [if_neg (by omega), if_neg (by omega), if_pos h]
theorem step0 {r : Pt} {p : ByteArray} (h : markN p = 0) : stepP r p = none := by unfold stepP; rw [if_neg (by omega), if_neg (by omega), if_neg (by omega)]
theorem step_tg {r r' : Pt} {p : ByteArray} (h : stepP r p = some r') (h2 : markN p ≠ 2) : r'.tg = r.tg := by
  have hb := markN_bd p
  have hc : markN p = 0 ∨ markN p = 1 ∨ markN p = 3 := by omega
  rcases hc with h0 | h1 | h3
  · rw [step0 h0] at h; cases h
  · rw [step1 h1] at h; cases h; rfl
  · rw [step3 h3] at h
    obtain ⟨n, _, rfl⟩ := Option.map_eq_some_iff.1 h; rfl
theorem more_tg : ∀ (ps : List ByteArray) (a : Nat) (r r' : Pt), 2 ≤ a → more a r ps = some r' → r'.tg = r.tg
  | [], a, r, r', _, h => by unfold more at h; cases h; rfl
  | p :: ps, a, r, r', ha, h => by
    by_cases hm : markN p ≤ a
    · rw [more_no hm] at h; cases h
    · cases hs : stepP r p with
      | none => rw [more_ill hs] at h; cases h
      | some r1 =>
        rw [more_step hm hs] at h
        rw [more_tg ps _ r1 r' (by omega) h, step_tg hs (by omega)]
def finT (r : Pt) : Option Pt := if r.tg.all tagB = true then some r else none
theorem moreS_eq : ∀ (ps : List ByteArray) (a : Nat) (r : Pt), r.tg.all tagB = true → moreS a r ps = (more a r ps).bind finT
  | [], a, r, h => by unfold moreS more; show _ = finT r; unfold finT; rw [if_pos h]
  | p :: ps, a, r, h => by
    by_cases hm : markN p ≤ a
    · rw [more_no hm, moreS_no hm]; rfl
    · cases hs : stepP r p with
      | none => rw [more_ill hs, moreS_ill hs]; rfl
      | some r1 =>
        rw [more_step hm hs]
        by_cases h2 : markN p = 2
        · by_cases ht : r1.tg.all tagB = true
          · rw [moreS_step hm hs (fun _ => ht), moreS_eq ps _ r1 ht]
          · rw [moreS_bad hs h2 ht]
            cases hq : more (markN p) r1 ps with
            | none => rfl
            | some r2 =>
              show none = finT r2
              unfold finT
              rw [more_tg ps _ r1 r2 (by omega) hq, if_neg ht]
        · rw [moreS_step hm hs (fun e => absurd e h2), moreS_eq ps _ r1 (by rw [step_tg hs h2]; exact h)]
end Go.Proofs.YtljngkjhhkccgaaGreatDoor
