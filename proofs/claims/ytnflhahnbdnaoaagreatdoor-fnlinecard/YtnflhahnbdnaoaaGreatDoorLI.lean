/-
  Of lines: kindOf, markPlace, whatOf, weightFor of the program; l06Kind, l06Time, l06What of the model.
-/
import Derived.Test.YtnflhahnbdnaoaaGreatDoorLF
import Derived.Test.YtnflhahnbdnaoaaGreatDoorLH
import Derived.Deep.LoopGhost
--LVR
namespace Go.Proofs.YtnflhahnbdnaoaaGreatDoor
set_option linter.unusedVariables false
set_option linter.unusedSimpArgs false
open Go.ChangeShapes Go.WideShapes Go.ChangeAt Go.RowKit Go.PlainAid
set_option maxRecDepth 10000

/-- The kind that a letter tells. -/
def kndV (t : ByteArray) : Int := if toL t = [99] then 1 else if toL t = [103] then 2 else if toL t = [104] then 3 else if toL t = [115] then 4 else 0
theorem kndV_bd (t : ByteArray) : kndV t = 0 ∨ kndV t = 1 ∨ kndV t = 2 ∨ kndV t = 3 ∨ kndV t = 4 := by
  unfold kndV; repeat' split
  all_goals simp
theorem ix_kind (c : UInt8) : Lib.indexByte [99, 103, 104, 115] c + 1 = kndV ⟨#[c]⟩ := by
  have e : toL ⟨#[c]⟩ = [c] := rfl
  unfold kndV
  rw [e]
  by_cases h1 : c = 99
  · subst h1; decide
  by_cases h2 : c = 103
  · subst h2; decide
  by_cases h3 : c = 104
  · subst h3; decide
  by_cases h4 : c = 115
  · subst h4; decide
  have g1 : ((99 : UInt8) == c) = false := by simpa using fun e => h1 e.symm
  have g2 : ((103 : UInt8) == c) = false := by simpa using fun e => h2 e.symm
  have g3 : ((104 : UInt8) == c) = false := by simpa using fun e => h3 e.symm
  have g4 : ((115 : UInt8) == c) = false := by simpa using fun e => h4 e.symm
  simp [Lib.indexByte, g1, g2, g3, g4, h1, h2, h3, h4]
theorem one_of {t : ByteArray} (h : t.size = 1) : ∃ c : UInt8, t = ⟨#[c]⟩ := by
  have hl : (toL t).length = 1 := by rw [toL_len]; exact h
  obtain ⟨c, hc⟩ := List.length_eq_one_iff.1 hl
  exact ⟨c, toL_inj hc⟩
theorem c_kindOf (t : ByteArray) (hz : t.size ≤ 100000) (w : World) :
    Calls Tryz.prog 60 #[.string t] w fun e w' => e = .returned (.int .i64 (kndV t)) ∧ w' = w := by
  by_cases h : t.size = 1
  · obtain ⟨c, rfl⟩ := one_of h
    have hi : ((⟨#[c]⟩ : ByteArray).size : Int) = 1 := by rw [h]; rfl
    have HX : Hid (Lib.indexByte [99, 103, 104, 115] c + 1 = kndV ⟨#[c]⟩) := ix_kind c
    have hbd := kndV_bd ⟨#[c]⟩
    generalize kndV ⟨#[c]⟩ = kv at HX hbd ⊢
    go_enter Tryz.func60, Tryz.ntmps60
    go_wp2_with (go_at_call 83; refine (Tryz.strings_Index_one _ c _).mono ?_; rintro e w1 ⟨rfl, hw⟩; obtain rfl := hw.symm)
    go_ret
    refine ⟨?_, rfl⟩
    show Ending.returned (.int .i64 (wrap64 (Lib.indexByte [99, 103, 104, 115] c + 1))) = _
    rw [HX.out]
    have hw6 : wrap64 kv = kv := by unfold wrap64; omega
    rw [hw6]
  · have hi : ¬ (t.size : Int) = 1 := by omega
    have HE : Hid (kndV t = 0) := (by
      have g : ∀ c : UInt8, toL t ≠ [c] := fun c e => h (by rw [← toL_len, e]; rfl)
      unfold kndV
      rw [if_neg (g _), if_neg (g _), if_neg (g _), if_neg (g _)] : kndV t = 0)
    go_enter Tryz.func60, Tryz.ntmps60
    go_wp2
    go_ret
    exact ⟨by rw [HE.out]; rfl, rfl⟩
/-- The place of a part's mark, from 1 on. -/
def markN (t : ByteArray) : Nat := if t.size = 0 then 0 else if bt t 0 = 64 then 1 else if bt t 0 = 35 then 2 else if bt t 0 = 84 then 3 else 0
theorem markN_bd (t : ByteArray) : markN t ≤ 3 := by
  unfold markN; repeat' split
  all_goals omega
theorem bt_bd (t : ByteArray) (k : Nat) : 0 ≤ bt t k ∧ bt t k ≤ 255 := by
  unfold bt
  split
  · have := (t[k]).toNat_lt; omega
  · omega
theorem ix_mark {t : ByteArray} (h : ¬ t.size = 0) : Lib.indexByte [64, 35, 84] (bt t 0).toNat.toUInt8 = (markN t : Int) - 1 := by
  obtain ⟨b0, b1⟩ := bt_bd t 0
  unfold markN
  rw [if_neg h]
  by_cases h1 : bt t 0 = 64
  · rw [h1]; decide
  by_cases h2 : bt t 0 = 35
  · rw [h2]; decide
  by_cases h3 : bt t 0 = 84
  · rw [h3]; decide
  rw [if_neg h1, if_neg h2, if_neg h3]
  have g : ∀ d : UInt8, bt t 0 ≠ (d.toNat : Int) → (d == (bt t 0).toNat.toUInt8) = false := fun d hd => by
    simp only [beq_eq_false_iff_ne]
    intro e
    have e2 := congrArg UInt8.toNat e
    have e3 : ((bt t 0).toNat.toUInt8).toNat = (bt t 0).toNat := by
      show (UInt8.ofNat (bt t 0).toNat).toNat = _
      rw [UInt8.toNat_ofNat']; exact Nat.mod_eq_of_lt (by omega)
    rw [e3] at e2; omega
  have g1 := g 64 h1
  have g2 := g 35 h2
  have g3 := g 84 h3
  simp [Lib.indexByte, g1, g2, g3]
theorem c_markPlace (t : ByteArray) (hz : t.size ≤ 100000) (w : World) :
    Calls Tryz.prog 103 #[.string t] w fun e w' => e = .returned (.int .i64 ((markN t : Int) - 1)) ∧ w' = w := by
  have hbt := get_bt t
  by_cases h : t.size = 0
  · have e : t = ByteArray.empty := toL_inj (List.eq_nil_of_length_eq_zero (by rw [toL_len]; exact h))
    subst e
    go_enter Tryz.func103, Tryz.ntmps103
    go_wp2
    go_ret
    exact ⟨rfl, rfl⟩
  · have hi : ¬ (t.size : Int) = 0 := by omega
    have hi2 : (0 : Int) < (t.size : Int) := by omega
    have he : (t.toList == []) = false := by
      cases hq : (t.toList == []) with
      | false => rfl
      | true =>
        have := eq_of_beq hq
        exact absurd (by rw [← toL_len]; unfold toL; rw [← ByteArray.toList_eq]; rw [this]; rfl) h
    have HX := hide (ix_mark h)
    have hbd := markN_bd t
    generalize markN t = m at HX hbd ⊢
    go_enter Tryz.func103, Tryz.ntmps103
    go_wp2_with (go_at_call 127; refine (Tryz.strings_IndexByte _ _ _).mono ?_; rintro e w1 ⟨rfl, hw⟩; obtain rfl := hw.symm)
    go_ret
    exact ⟨by rw [← HX.out]; rfl, rfl⟩
/-- What a line is of: the value, the word, whether it is right. -/
noncomputable def whV (k : Int) (t : ByteArray) : Int := if k = 4 then 0 else rvV t
def whW (k : Int) (t : ByteArray) : ByteArray := if k = 4 then t else ByteArray.empty
noncomputable def whB (k : Int) (t : ByteArray) : Bool := if k = 4 then tagB t else decide (rvC t = 0)
theorem c_whatOf (k : Int) (t : ByteArray) (hz : t.size ≤ 100000) (w : World) :
    Calls Tryz.prog 61 #[.int .i64 k, .string t] w fun e w' => e = .returned (.tuple #[.int .i64 (whV k t), .string (whW k t), .bool (whB k t)]) ∧ Below w.heap.size w w' := by
  have hm : t.size ≤ maxLen := by unfold maxLen; omega
  by_cases h : k = 4
  · have H1 : Hid (whV k t = 0 ∧ whW k t = t ∧ whB k t = tagB t) := (by unfold whV whW whB; rw [if_pos h, if_pos h, if_pos h]; exact ⟨rfl, rfl, rfl⟩ : whV k t = 0 ∧ whW k t = t ∧ whB k t = tagB t)
    go_enter Tryz.func61, Tryz.ntmps61
    go_wp2_with (go_at_call 55; refine (c_i_TagRight _ _ hm).mono ?_; rintro e w1 ⟨rfl, hw⟩; obtain rfl := hw.symm)
    go_ret3
    exact ⟨by rw [H1.out.1, H1.out.2.1, H1.out.2.2]; rfl, Below.refl _ _⟩
  · have H1 : Hid (whV k t = rvV t ∧ whW k t = ByteArray.empty ∧ whB k t = decide (rvC t = 0)) := (by unfold whV whW whB; rw [if_neg h, if_neg h, if_neg h]; exact ⟨rfl, rfl, rfl⟩ : whV k t = rvV t ∧ whW k t = ByteArray.empty ∧ whB k t = decide (rvC t = 0))
    by_cases hc : rvC t = 0
    · have he : errV (rvC t) = .nilIface := by unfold errV; rw [if_pos hc]
      go_enter Tryz.func61, Tryz.ntmps61
      go_wp2_with (go_at_call 84; refine (c_readValueAll _ hm _).mono ?_; rw [he]; rintro e w1 ⟨rfl, hw⟩; obtain rfl := hw.symm)
      go_quiet (fail)
      go_wp2
      go_ret3
      exact ⟨by rw [H1.out.1, H1.out.2.1, H1.out.2.2, decide_eq_true hc]; rfl, ⟨rfl, rfl, rfl, Nat.le_refl _, fun _ _ => rfl⟩⟩
    · have he : errV (rvC t) = .iface 82 (.agg #[.int .i64 (rvC t)]) := by unfold errV; rw [if_neg hc]
      go_enter Tryz.func61, Tryz.ntmps61
      go_wp2_with (go_at_call 84; refine (c_readValueAll _ hm _).mono ?_; rw [he]; rintro e w1 ⟨rfl, hw⟩; obtain rfl := hw.symm)
      go_quiet (fail)
      go_wp2
      go_ret3
      exact ⟨by rw [H1.out.1, H1.out.2.1, H1.out.2.2, decide_eq_false hc]; rfl, ⟨rfl, rfl, rfl, Nat.le_refl _, fun _ _ => rfl⟩⟩
theorem c_kindRightL (k : Int) (w : World) : Calls Tryz.prog 22 #[.int .i64 k] w fun e w' => e = .returned (.bool (decide (1 ≤ k) && decide (k ≤ 4))) ∧ w' = w := by
  by_cases h1 : 1 ≤ k <;> by_cases h2 : k ≤ 4 <;> (go_enter Tryz.func22, Tryz.ntmps22; go_wp2; go_ret; exact ⟨by simp [h1, h2], rfl⟩)
theorem c_rateAllowedL (k : Int) (w : World) : Calls Tryz.prog 57 #[.int .i64 k] w fun e w' => e = .returned (.bool (decide (k = 1) || decide (k = 3))) ∧ w' = w := by
  by_cases h1 : k = 1 <;> by_cases h2 : k = 3 <;> (go_enter Tryz.func57, Tryz.ntmps57; go_wp2; go_ret; exact ⟨by simp [h1, h2], rfl⟩)
/-- A rate that a sample of the kind may have. -/
def raP (k : Int) (r : ByteArray) : Prop := rvC r = 0 ∧ 1 ≤ rvV r ∧ rvV r ≤ 1000000 ∧ (k = 1 ∨ k = 3)
/-- The program's line. -/
def linV (nm wh kd : ByteArray) (rd : Bool) (rt : ByteArray) (tg : Value) (td : Bool) (ti : Int) : Value := .agg #[.string nm, .string wh, .string kd, .bool rd, .string rt, tg, .bool td, .int .i64 ti]
open Classical in
noncomputable def wtV (k : Int) (rd : Bool) (r : ByteArray) : Int := if rd = true then (if raP k r then 1000000 / rvV r else 0) else 1
open Classical in
noncomputable def wtB (k : Int) (rd : Bool) (r : ByteArray) : Bool := if rd = true then (if raP k r then true else false) else true
set_option maxHeartbeats 1000000 in
theorem c_weightFor (k : Int) (nm wh kd : ByteArray) (rd : Bool) (rt : ByteArray) (tg : Value) (td : Bool) (ti : Int) (hz : rt.size ≤ 100000) (w : World) :
    Calls Tryz.prog 62 #[linV nm wh kd rd rt tg td ti, .int .i64 k] w fun e w' => e = .returned (.tuple #[.int .u64 (wtV k rd rt), .bool (wtB k rd rt)]) ∧ Below w.heap.size w w' := by
  have hm : rt.size ≤ maxLen := by unfold maxLen; omega
  unfold linV
  cases rd with
  | false =>
    go_enter Tryz.func62, Tryz.ntmps62
    go_wp2
    go_ret2
    exact ⟨by unfold wtV wtB; rw [if_neg (by simp), if_neg (by simp)]; rfl, (Below.refl _ _).alloc (Nat.le_refl _) _⟩
  | true =>
    have hB : Below w.heap.size w (w.alloc (.cells #[.string nm, .string wh, .string kd, .bool true, .string rt, tg, .bool td, .int .i64 ti] 84)) := (Below.refl _ _).alloc (Nat.le_refl _) _
    have HB := hide hB
    clear hB
    have HF : Hid (¬ raP k rt → wtV k true rt = 0 ∧ wtB k true rt = false) := (fun h => by unfold wtV wtB; rw [if_pos rfl, if_pos rfl, if_neg h, if_neg h]; exact ⟨rfl, rfl⟩ : ¬ raP k rt → wtV k true rt = 0 ∧ wtB k true rt = false)
    by_cases hc : rvC rt = 0
    · have he : errV (rvC rt) = .nilIface := by unfold errV; rw [if_pos hc]
      by_cases h0 : rvV rt ≤ 0
      · obtain ⟨e1, e2⟩ := HF.out (fun h => by have := h.2.1; omega)
        generalize wtV k true rt = a at e1 ⊢
        generalize wtB k true rt = b at e2 ⊢
        subst e1 e2
        go_enter Tryz.func62, Tryz.ntmps62
        go_wp2_with (go_at_call 84; refine (c_readValueAll _ hm _).mono ?_; rw [he]; rintro e w1 ⟨rfl, hw⟩; obtain rfl := hw.symm)
        go_ret2
        exact ⟨rfl, HB.out⟩
      by_cases h6 : 1000000 < rvV rt
      · obtain ⟨e1, e2⟩ := HF.out (fun h => by have := h.2.2.1; omega)
        generalize wtV k true rt = a at e1 ⊢
        generalize wtB k true rt = b at e2 ⊢
        subst e1 e2
        go_enter Tryz.func62, Tryz.ntmps62
        go_wp2_with (go_at_call 84; refine (c_readValueAll _ hm _).mono ?_; rw [he]; rintro e w1 ⟨rfl, hw⟩; obtain rfl := hw.symm)
        go_ret2
        exact ⟨rfl, HB.out⟩
      by_cases hk : k = 1 ∨ k = 3
      · have hk2 : (decide (k = 1) || decide (k = 3)) = true := by rcases hk with h | h <;> simp [h]
        have hr : raP k rt := ⟨hc, by omega, by omega, hk⟩
        have e1 : wtV k true rt = 1000000 / rvV rt := by unfold wtV; rw [if_pos rfl, if_pos hr]
        have e2 : wtB k true rt = true := by unfold wtB; rw [if_pos rfl, if_pos hr]
        have HE := hide e1
        clear e1 hr
        generalize wtB k true rt = b at e2 ⊢
        subst e2
        go_enter Tryz.func62, Tryz.ntmps62
        go_wp2_with (first
          | (go_at_call 84; refine (c_readValueAll _ hm _).mono ?_; rw [he]; rintro e w1 ⟨rfl, hw⟩; obtain rfl := hw.symm)
          | (go_at_call 57; refine (c_rateAllowedL _ _).mono ?_; rw [hk2]; rintro e w1 ⟨rfl, hw⟩; obtain rfl := hw.symm))
        go_ret2
        exact ⟨by rw [HE.out]; rfl, HB.out⟩
      · have hk2 : (decide (k = 1) || decide (k = 3)) = false := by rw [decide_eq_false (fun h => hk (Or.inl h)), decide_eq_false (fun h => hk (Or.inr h))]; rfl
        obtain ⟨e1, e2⟩ := HF.out (fun h => hk h.2.2.2)
        generalize wtV k true rt = a at e1 ⊢
        generalize wtB k true rt = b at e2 ⊢
        subst e1 e2
        go_enter Tryz.func62, Tryz.ntmps62
        go_wp2_with (first
          | (go_at_call 84; refine (c_readValueAll _ hm _).mono ?_; rw [he]; rintro e w1 ⟨rfl, hw⟩; obtain rfl := hw.symm)
          | (go_at_call 57; refine (c_rateAllowedL _ _).mono ?_; rw [hk2]; rintro e w1 ⟨rfl, hw⟩; obtain rfl := hw.symm))
        go_ret2
        exact ⟨rfl, HB.out⟩
    · have he : errV (rvC rt) = .iface 82 (.agg #[.int .i64 (rvC rt)]) := by unfold errV; rw [if_neg hc]
      obtain ⟨e1, e2⟩ := HF.out (fun h => hc h.1)
      generalize wtV k true rt = a at e1 ⊢
      generalize wtB k true rt = b at e2 ⊢
      subst e1 e2
      go_enter Tryz.func62, Tryz.ntmps62
      go_wp2_with (go_at_call 84; refine (c_readValueAll _ hm _).mono ?_; rw [he]; rintro e w1 ⟨rfl, hw⟩; obtain rfl := hw.symm)
      go_ret2
      exact ⟨rfl, HB.out⟩
end Go.Proofs.YtnflhahnbdnaoaaGreatDoor

/-
  The parts behind a line's kind: what they tell. Of no program's walk.
-/
namespace Go.Proofs.YtnflhahnbdnaoaaGreatDoor
set_option linter.unusedVariables false
set_option linter.unusedSimpArgs false
open Go.ChangeShapes Go.WideShapes Go.ChangeAt Go.RowKit Go.PlainAid

structure Pt where
  rd : Bool
  rt : ByteArray
  tg : List ByteArray
  td : Bool
  ti : Nat
def pt0 : Pt := ⟨false, ByteArray.empty, [], false, 0⟩
def tl1 (p : ByteArray) : ByteArray := p.extract 1 p.size
def stepP (r : Pt) (p : ByteArray) : Option Pt :=
  if markN p = 1 then some { r with rd := true, rt := tl1 p } else
  if markN p = 2 then some { r with tg := splL (tl1 p) 44 } else
  if markN p = 3 then (timO (tl1 p)).map fun n => { r with td := true, ti := n } else none
def more : Nat → Pt → List ByteArray → Option Pt
  | _, r, [] => some r
  | a, r, p :: ps => if markN p ≤ a then none else match stepP r p with
    | some r' => more (markN p) r' ps
    | none => none
def moreS : Nat → Pt → List ByteArray → Option Pt
  | _, r, [] => some r
  | a, r, p :: ps => if markN p ≤ a then none else match stepP r p with
    | some r' => if markN p = 2 ∧ ¬ r'.tg.all tagB = true then none else moreS (markN p) r' ps
    | none => none
theorem more_no {a : Nat} {r : Pt} {p : ByteArray} {ps : List ByteArray} (h : markN p ≤ a) : more a r (p :: ps) = none := by
  unfold more; rw [if_pos h]
theorem more_step {a : Nat} {r r' : Pt} {p : ByteArray} {ps : List ByteArray} (h : ¬ markN p ≤ a) (hs : stepP r p = some r') : more a r (p :: ps) = more (markN p) r' ps := by
  rw [more, if_neg h, hs]
theorem more_ill {a : Nat} {r : Pt} {p : ByteArray} {ps : List ByteArray} (hs : stepP r p = none) : more a r (p :: ps) = none := by
  rw [more]; split
  · rfl
  · rw [hs]
theorem moreS_no {a : Nat} {r : Pt} {p : ByteArray} {ps : List ByteArray} (h : markN p ≤ a) : moreS a r (p :: ps) = none := by
  unfold moreS; rw [if_pos h]
theorem moreS_step {a : Nat} {r r' : Pt} {p : ByteArray} {ps : List ByteArray} (h : ¬ markN p ≤ a) (hs : stepP r p = some r') (ht : markN p = 2 → r'.tg.all tagB = true) : moreS a r (p :: ps) = moreS (markN p) r' ps := by
  rw [moreS, if_neg h, hs]
  show (if markN p = 2 ∧ ¬ r'.tg.all tagB = true then none else moreS (markN p) r' ps) = _
  rw [if_neg (fun k => k.2 (ht k.1))]
theorem moreS_bad {a : Nat} {r r' : Pt} {p : ByteArray} {ps : List ByteArray} (hs : stepP r p = some r') (h2 : markN p = 2) (ht : ¬ r'.tg.all tagB = true) : moreS a r (p :: ps) = none := by
  rw [moreS]; split
  · rfl
  · rw [hs]
    show (if markN p = 2 ∧ ¬ r'.tg.all tagB = true then none else moreS (markN p) r' ps) = _
    rw [if_pos ⟨h2, ht⟩]
theorem moreS_ill {a : Nat} {r : Pt} {p : ByteArray} {ps : List ByteArray} (hs : stepP r p = none) : moreS a r (p :: ps) = none := by
  rw [moreS]; split
  · rfl
  · rw [hs]
theorem step1 {r : Pt} {p : ByteArray} (h : markN p = 1) : stepP r p = some { r with rd := true, rt := tl1 p } := by unfold stepP; rw [if_pos h]
theorem step2 {r : Pt} {p : ByteArray} (h : markN p = 2) : stepP r p = some { r with tg := splL (tl1 p) 44 } := by unfold stepP; rw [if_neg (by omega), if_pos h]
theorem step3 {r : Pt} {p : ByteArray} (h : markN p = 3) : stepP r p = (timO (tl1 p)).map fun n => { r with td := true, ti := n } := by unfold stepP; rw [if_neg (by omega), if_neg (by omega), if_pos h]
theorem step0 {r : Pt} {p : ByteArray} (h : markN p = 0) : stepP r p = none := by unfold stepP; rw [if_neg (by omega), if_neg (by omega), if_neg (by omega)]
theorem step_tg {r r' : Pt} {p : ByteArray} (h : stepP r p = some r') (h2 : markN p ≠ 2) : r'.tg = r.tg := by
  have hb := markN_bd p
  have hc : markN p = 0 ∨ markN p = 1 ∨ markN p = 3 := by omega
  rcases hc with h0 | h1 | h3
  · rw [step0 h0] at h; cases h
  · rw [step1 h1] at h; cases h; rfl
  · rw [step3 h3] at h
    obtain ⟨n, _, rfl⟩ := Option.map_eq_some_iff.1 h; rfl
theorem more_tg : ∀ (ps : List ByteArray) (a : Nat) (r r' : Pt), 2 ≤ a → more a r ps = some r' → r'.tg = r.tg
  | [], a, r, r', _, h => by unfold more at h; cases h; rfl
  | p :: ps, a, r, r', ha, h => by
    by_cases hm : markN p ≤ a
    · rw [more_no hm] at h; cases h
    · cases hs : stepP r p with
      | none => rw [more_ill hs] at h; cases h
      | some r1 =>
        rw [more_step hm hs] at h
        rw [more_tg ps _ r1 r' (by omega) h, step_tg hs (by omega)]
def finT (r : Pt) : Option Pt := if r.tg.all tagB = true then some r else none
theorem moreS_eq : ∀ (ps : List ByteArray) (a : Nat) (r : Pt), r.tg.all tagB = true → moreS a r ps = (more a r ps).bind finT
  | [], a, r, h => by unfold moreS more; show _ = finT r; unfold finT; rw [if_pos h]
  | p :: ps, a, r, h => by
    by_cases hm : markN p ≤ a
    · rw [more_no hm, moreS_no hm]; rfl
    · cases hs : stepP r p with
      | none => rw [more_ill hs, moreS_ill hs]; rfl
      | some r1 =>
        rw [more_step hm hs]
        by_cases h2 : markN p = 2
        · by_cases ht : r1.tg.all tagB = true
          · rw [moreS_step hm hs (fun _ => ht), moreS_eq ps _ r1 ht]
          · rw [moreS_bad hs h2 ht]
            cases hq : more (markN p) r1 ps with
            | none => rfl
            | some r2 =>
              show none = finT r2
              unfold finT
              rw [more_tg ps _ r1 r2 (by omega) hq, if_neg ht]
        · rw [moreS_step hm hs (fun e => absurd e h2), moreS_eq ps _ r1 (by rw [step_tg hs h2]; exact h)]
end Go.Proofs.YtnflhahnbdnaoaaGreatDoor

/-
  takeParts of the program.
-/
namespace Go.Proofs.YtnflhahnbdnaoaaGreatDoor
set_option linter.unusedVariables false
set_option linter.unusedSimpArgs false
open Go.ChangeShapes Go.WideShapes Go.ChangeAt Go.RowKit Go.PlainAid
set_option maxRecDepth 10000

theorem tabF.below {w w' : World} {B : Nat} (h : tabF w) (hb : Below B w w') (hB : 1 < B ∧ 7 < B ∧ 8 < B ∧ 2 < B) : tabF w' := by
  unfold tabF Lib.TabIs World.var? at *
  rw [show Tryz.prog.globalNamed "internal/strconv.uint64pow10" = some 1 by kernel_rfl] at *
  simp only [Option.bind_some] at h ⊢
  rw [hb.block _ (by omega)]
  exact h
theorem LnG.below {w w' : World} {B : Nat} (h : LnG w) (hb : Below B w w') (hB : 1 < B ∧ 7 < B ∧ 8 < B ∧ 2 < B) : LnG w' :=
  ⟨h.tab.below hb hB, by obtain ⟨a, b, c⟩ := h.syn; exact ⟨a, b, by rw [hb.cell (show (⟨7, 0, none⟩ : Addr).block < B by show 7 < B; omega)]; exact c⟩, by obtain ⟨a, b, c⟩ := h.rng; exact ⟨a, b, by rw [hb.cell (show (⟨8, 0, none⟩ : Addr).block < B by show 8 < B; omega)]; exact c⟩⟩
theorem MX.below {w w' : World} {B : Nat} (h : MX w) (hb : Below B w w') (hB : 1 < B ∧ 7 < B ∧ 8 < B ∧ 2 < B) : MX w' := by
  obtain ⟨m, hm⟩ := h
  exact ⟨m, by rw [hb.cell (show (⟨2, 0, none⟩ : Addr).block < B by show 2 < B; omega)]; exact hm⟩
/-- The line in its box, while its parts are taken. -/
structure TP (w wr : World) (B : Nat) (ao : Option Addr) (L : List ByteArray) (nm wh kd : ByteArray) (r : Pt) (ta : Option Addr) (tc : Nat) : Prop where
  box : wr.heap[B]? = some (.cells #[.string nm, .string wh, .string kd, .bool r.rd, .string r.rt, .slice ta r.tg.length tc, .bool r.td, .int .i64 r.ti] 84 (0, 0))
  parts : StrsAt wr ao L
  tags : StrsAt wr ta r.tg
  tne : ∀ x, ta = some x → B < x.block
  bel : Below B w wr
theorem strs_set {wr : World} {ta : Option Addr} {L : List ByteArray} {B i : Nat} {v : Value} (h : StrsAt wr ta L) (hne : ∀ x, ta = some x → x.block ≠ B) : StrsAt (wr.setCell ⟨B, i, none⟩ v) ta L := fun h0 => by
  obtain ⟨b, off, e, hc⟩ := h h0
  exact ⟨b, off, e, fun j u hj => by rw [World.cell?_setCell_other _ _ _ _ (by have := hne _ e; intro e2; exact this (congrArg Addr.block e2).symm)]; exact hc j u hj⟩
theorem TP.past {w wr w2 : World} {B : Nat} {ao : Option Addr} {L : List ByteArray} {nm wh kd : ByteArray} {r : Pt} {ta : Option Addr} {tc : Nat} (h : TP w wr B ao L nm wh kd r ta tc) (hb : Below wr.heap.size wr w2) : TP w w2 B ao L nm wh kd r ta tc := by
  have hlt : B < wr.heap.size := by
    rcases Nat.lt_or_ge B wr.heap.size with h' | h'
    · exact h'
    · have := h.box; rw [Array.getElem?_eq_none h'] at this; cases this
  exact ⟨by rw [hb.block B hlt]; exact h.box, strs_past h.parts hb, strs_past h.tags hb, h.tne, h.bel.trans (hb.mono (by omega))⟩
theorem TP.set1 {w wr : World} {B : Nat} {ao : Option Addr} {L : List ByteArray} {nm wh kd : ByteArray} {r : Pt} {ta : Option Addr} {tc : Nat} (h : TP w wr B ao L nm wh kd r ta tc) (hne : ∀ x, ao = some x → x.block ≠ B) (v : ByteArray) :
    TP w ((wr.setCell ⟨B, 3, none⟩ (.bool true)).setCell ⟨B, 4, none⟩ (.string v)) B ao L nm wh kd { r with rd := true, rt := v } ta tc :=
  ⟨heap_setCell_same _ B 4 _ _ (.string v) (heap_setCell_same wr B 3 _ _ (.bool true) h.box), strs_set (strs_set h.parts hne) hne, strs_set (strs_set h.tags (fun x e => Nat.ne_of_gt (h.tne x e))) (fun x e => Nat.ne_of_gt (h.tne x e)), h.tne, (h.bel.setCell (Nat.le_refl _) _).setCell (Nat.le_refl _) _⟩
theorem TP.set2 {w wr : World} {B : Nat} {ao : Option Addr} {L : List ByteArray} {nm wh kd : ByteArray} {r : Pt} {ta : Option Addr} {tc : Nat} (h : TP w wr B ao L nm wh kd r ta tc) (hne : ∀ x, ao = some x → x.block ≠ B) {T : List ByteArray} {n : Nat} (hn : T.length = n) (tb : Option Addr) (td : Nat) (hT : StrsAt wr tb T) (tne : ∀ x, tb = some x → B < x.block) :
    TP w (wr.setCell ⟨B, 5, none⟩ (.slice tb n td)) B ao L nm wh kd { r with tg := T } tb td :=
  ⟨by subst hn; exact heap_setCell_same wr B 5 _ _ (.slice tb T.length td) h.box, strs_set h.parts hne, strs_set hT (fun x e => Nat.ne_of_gt (tne x e)), tne, h.bel.setCell (Nat.le_refl _) _⟩
theorem TP.set3 {w wr : World} {B : Nat} {ao : Option Addr} {L : List ByteArray} {nm wh kd : ByteArray} {r : Pt} {ta : Option Addr} {tc : Nat} (h : TP w wr B ao L nm wh kd r ta tc) (hne : ∀ x, ao = some x → x.block ≠ B) (n : Nat) (b : Bool) :
    TP w ((wr.setCell ⟨B, 7, none⟩ (.int .i64 n)).setCell ⟨B, 6, none⟩ (.bool b)) B ao L nm wh kd { r with td := b, ti := n } ta tc :=
  ⟨heap_setCell_same _ B 6 _ _ (.bool b) (heap_setCell_same wr B 7 _ _ (.int .i64 n) h.box), strs_set (strs_set h.parts hne) hne, strs_set (strs_set h.tags (fun x e => Nat.ne_of_gt (h.tne x e))) (fun x e => Nat.ne_of_gt (h.tne x e)), h.tne, (h.bel.setCell (Nat.le_refl _) _).setCell (Nat.le_refl _) _⟩
theorem TP.lt {w wr : World} {B : Nat} {ao : Option Addr} {L : List ByteArray} {nm wh kd : ByteArray} {r : Pt} {ta : Option Addr} {tc : Nat} (h : TP w wr B ao L nm wh kd r ta tc) : B < wr.heap.size := by
  rcases Nat.lt_or_ge B wr.heap.size with h' | h'
  · exact h'
  · have := h.box; rw [Array.getElem?_eq_none h'] at this; cases this
theorem drop_at {L : List ByteArray} {k : Nat} {y : ByteArray} (h : L[k]? = some y) : L.drop k = y :: L.drop (k + 1) := by
  obtain ⟨hk, e⟩ := List.getElem?_eq_some_iff.1 h
  rw [List.drop_eq_getElem_cons hk, e]
theorem mark_is {y : ByteArray} {m : Nat} (h : markN y = m) (hm : 1 ≤ m) : 0 < y.size ∧ (m = 1 → bt y 0 = 64) ∧ (m = 2 → bt y 0 = 35) ∧ (m = 3 → bt y 0 = 84) := by
  unfold markN at h
  by_cases h0 : y.size = 0
  · rw [if_pos h0] at h; omega
  rw [if_neg h0] at h
  refine ⟨by omega, ?_⟩
  by_cases h1 : bt y 0 = 64
  · rw [if_pos h1] at h; exact ⟨fun _ => h1, fun e => by omega, fun e => by omega⟩
  rw [if_neg h1] at h
  by_cases h2 : bt y 0 = 35
  · rw [if_pos h2] at h; exact ⟨fun e => by omega, fun _ => h2, fun e => by omega⟩
  rw [if_neg h2] at h
  by_cases h3 : bt y 0 = 84
  · rw [if_pos h3] at h; exact ⟨fun e => by omega, fun e => by omega, fun _ => h3⟩
  rw [if_neg h3] at h; omega
theorem tl1_size (y : ByteArray) : (tl1 y).size ≤ y.size := by unfold tl1; rw [ByteArray.size_extract]; omega
theorem splL_size (t : ByteArray) : (∀ u ∈ splL t 44, u.size ≤ t.size) ∧ (splL t 44).length ≤ t.size + 1 := by
  have e : splL t 44 = Lib.splitB ⟨#[44]⟩ 0 (Lib.countB t ⟨#[44]⟩) t := (splitB_splL 44 t).symm
  refine ⟨fun u hu => splitB_size _ _ _ u (by rw [← e]; exact hu), ?_⟩
  have := joinC_long 44 (splL t 44)
  have h2 : joinC 44 (splL t 44) = toL t := (splL_joins (c := 44) t.size t (Nat.le_refl _)).2.2
  rw [h2, toL_len] at this
  exact this
theorem TP.drew {w wr : World} {B : Nat} {ao : Option Addr} {L : List ByteArray} {nm wh kd : ByteArray} {r : Pt} {ta : Option Addr} {tc : Nat} (h : TP w wr B ao L nm wh kd r ta tc) : TP w wr.drew B ao L nm wh kd r ta tc :=
  h.past ⟨rfl, rfl, rfl, Nat.le_refl _, fun _ _ => rfl⟩
theorem MX.drew {w : World} (h : MX w) : MX w.drew := h.past ⟨rfl, rfl, rfl, Nat.le_refl _, fun _ _ => rfl⟩
theorem c_SplitL (t : ByteArray) (c : UInt8) (hz : t.size ≤ 1000000) (w : World) (hM : MX w) :
    Calls Tryz.prog 82 #[.string t, .string ⟨#[c]⟩] w fun e w' => ∃ g tc, e = .returned (.slice (some ⟨g, 0, none⟩) (splL t (c.toNat : Int)).length tc) ∧ w.heap.size ≤ g ∧ StrsAt w' (some ⟨g, 0, none⟩) (splL t (c.toNat : Int)) ∧ Below w.heap.size w w' := by
  obtain ⟨m, hm⟩ := hM
  refine (Tryz.strings_Split t ⟨#[c]⟩ m w (by omega) hm (by show 1 ≤ 1; omega)).mono ?_
  rintro e w' ⟨rfl, rfl⟩
  rw [splitB_splL]
  have hl : (splL t (c.toNat : Int)).length = Lib.countB t ⟨#[c]⟩ + 1 := by rw [← splitB_splL]; exact Lib.splitB_all ⟨#[c]⟩ (by show 1 ≤ 1; omega) 0 _ t rfl
  refine ⟨w.heap.size, _, by rw [hl], Nat.le_refl _, fun _ => ⟨w.heap.size, 0, rfl, fun i u hu => ?_⟩, (Below.refl _ _).alloc (Nat.le_refl _) _⟩
  rw [cell_of_row _ w.heap.size _ _ _ (0, 0) (heap_alloc_new w _), Nat.zero_add]
  simp [hu]
set_option maxHeartbeats 4000000 in
theorem c_takeParts {w : World} {ao : Option Addr} {L : List ByteArray} {nm wh kd : ByteArray} (B c n : Nat) (hB : 1 < B ∧ 7 < B ∧ 8 < B ∧ 2 < B) (hn : L.length = n) (hl : n ≤ 20100) (hu : ∀ u ∈ L, u.size ≤ 20000) (hne : ∀ x, ao = some x → x.block ≠ B) (hG : LnG w) (hM : MX w) (h0 : TP w w B ao L nm wh kd pt0 none 0) :
    Calls Tryz.prog 81 #[.pointer (some ⟨B, 0, none⟩), .slice ao n c] w fun e w' => ∃ r ta tc, e = .returned (.bool (more 0 pt0 L).isSome) ∧ (∀ r', more 0 pt0 L = some r' → r' = r) ∧ TP w w' B ao L nm wh kd r ta tc ∧ (∀ u ∈ r.tg, u.size ≤ 20000) ∧ r.tg.length ≤ 20001 ∧ r.rt.size ≤ 20000 := by
  go_enter Tryz.func81, Tryz.ntmps81
  have HN := hide hn
  have HU := hide hu
  have HG := hide hG
  have HM := hide hM
  have H0 := hide h0
  clear hn hu hG hM h0
  go_wp2
  go_step3
  go_wp2
  go_step3
  go_wp2
  go_loopw [5, 6, 12] (fun ri la i wr => ∃ (k a : Nat) (r : Pt) (ta : Option Addr) (tc : Nat), k ≤ n ∧ a ≤ 3 ∧ i = .int .i64 k ∧ ri = .bool true ∧ la = .int .i64 ((a : Int) - 1) ∧ Hid (more 0 pt0 L = more a r (L.drop k)) ∧ Hid (TP w wr B ao L nm wh kd r ta tc) ∧ Hid ((∀ u ∈ r.tg, u.size ≤ 20000) ∧ r.tg.length ≤ 20001 ∧ r.rt.size ≤ 20000)) (fun ri la i wr => n - (Go.RowKit.intOf i).toNat)
  case atStart => exact ⟨0, 0, pt0, none, 0, Nat.zero_le _, by omega, rfl, rfl, rfl, rfl, H0.out, ⟨(fun u hu => by cases hu), (by show 0 ≤ 20001; omega), (by show 0 ≤ 20000; omega)⟩⟩
  case round =>
    clear H0
    obtain ⟨k, a, r, ta, tc, hk, ha, rfl, rfl, rfl, HI, HT, HS⟩ := hrel
    by_cases hkn : k < n
    · obtain ⟨b, off, e, hcell⟩ := HT.out.parts (by have := HN.out; omega)
      obtain ⟨y, hy⟩ : ∃ y, L[k]? = some y := ⟨L[k]'(by have := HN.out; omega), List.getElem?_eq_getElem _⟩
      subst e
      have hc0 := hcell k y hy
      have HY := hide (drop_at hy)
      have hys := HU.out y (List.mem_of_getElem? hy)
      clear hcell hy
      have hbt := get_bt y
      have hmb := markN_bd y
      by_cases hm : markN y ≤ a
      · have HE : Hid (more 0 pt0 L = none) := (by rw [HI.out, HY.out, more_no hm] : more 0 pt0 L = none)
        have hmi : (markN y : Int) - 1 ≤ (a : Int) - 1 := by omega
        go_wp2_with (go_at_call 103; refine (c_markPlace y (by omega) _).mono ?_; rintro e w1 ⟨rfl, hw⟩; obtain rfl := hw.symm)
        try rw [Exit.noGoto_ret]
        go_ret
        exact ⟨r, ta, tc, by rw [HE.out]; rfl, (fun r' h => by rw [HE.out] at h; cases h), HT.out, HS.out⟩
      · have hmi : ¬ (markN y : Int) - 1 ≤ (a : Int) - 1 := by omega
        obtain ⟨hy0, g1, g2, g3⟩ := mark_is (y := y) rfl (by omega)
        have hy0i : (0 : Int) < (y.size : Int) := by omega
        have hc3 : wr.cell? ⟨B, 3, none⟩ = some (.bool r.rd) := by rw [cell_of_row wr B 3 _ _ (0, 0) HT.out.box]; rfl
        have hc4 : wr.cell? ⟨B, 4, none⟩ = some (.string r.rt) := by rw [cell_of_row wr B 4 _ _ (0, 0) HT.out.box]; rfl
        have hc5 : wr.cell? ⟨B, 5, none⟩ = some (.slice ta r.tg.length tc) := by rw [cell_of_row wr B 5 _ _ (0, 0) HT.out.box]; rfl
        have hc6 : wr.cell? ⟨B, 6, none⟩ = some (.bool r.td) := by rw [cell_of_row wr B 6 _ _ (0, 0) HT.out.box]; rfl
        have hc7 : wr.cell? ⟨B, 7, none⟩ = some (.int .i64 r.ti) := by rw [cell_of_row wr B 7 _ _ (0, 0) HT.out.box]; rfl
        have hf3 := frozen_of_row wr B 3 _ _ HT.out.box
        have hf4 := frozen_of_row wr B 4 _ _ HT.out.box
        have hf5 := frozen_of_row wr B 5 _ _ HT.out.box
        have hf6 := frozen_of_row wr B 6 _ _ HT.out.box
        have hf7 := frozen_of_row wr B 7 _ _ HT.out.box
        have htz := tl1_size y
        have hml : markN y = 1 ∨ markN y = 2 ∨ markN y = 3 := by omega
        rcases hml with h1 | h2 | h3
        · have hb0 := g1 h1
          clear g1 g2 g3 hc5 hc6 hc7 hf5 hf6 hf7
          have HX : Hid (more 0 pt0 L = more 1 { r with rd := true, rt := tl1 y } (L.drop (k + 1))) := (by rw [HI.out, HY.out, more_step hm (step1 h1), h1] : more 0 pt0 L = more 1 { r with rd := true, rt := tl1 y } (L.drop (k + 1)))
          rw [h1] at hmi
          go_wp2_with (go_at_call 103; refine (c_markPlace y (by omega) _).mono ?_; rw [h1]; rintro e w1 ⟨rfl, hw⟩; obtain rfl := hw.symm)
          go_region
          go_wp2
          go_roundw
          case rel => exact ⟨k + 1, 1, _, ta, tc, by omega, by omega, by go_num, rfl, rfl, HX.out, (HT.out.set1 hne (tl1 y)).drew, HS.out.1, HS.out.2.1, (by show (tl1 y).size ≤ 20000; omega)⟩
          case measure => simp [Go.RowKit.intOf]; omega
        · have hb0 := g2 h2
          clear g1 g2 g3 hc3 hc4 hc6 hc7 hf3 hf4 hf6 hf7
          have HX : Hid (more 0 pt0 L = more 2 { r with tg := splL (tl1 y) 44 } (L.drop (k + 1))) := (by rw [HI.out, HY.out, more_step hm (step2 h2), h2] : more 0 pt0 L = more 2 { r with tg := splL (tl1 y) 44 } (L.drop (k + 1)))
          have HSp := hide (c_SplitL (tl1 y) 44 (by omega) _ (HM.out.below HT.out.bel hB))
          have HZ := hide (splL_size (tl1 y))
          rw [h2] at hmi
          go_wp2_with (first
            | (go_at_call 103; refine (c_markPlace y (by omega) _).mono ?_; rw [h2]; rintro e w1 ⟨rfl, hw⟩; obtain rfl := hw.symm)
            | (go_at_call 82; refine HSp.out.mono ?_; rintro e w2 ⟨g, tc2, rfl, hg, hS, hb2⟩; have HS2 := hide hS; have HB2 := hide hb2; have hd5 := cell_past hb2 hc5; have hf5' := (frozen_past hb2 hc5).trans hf5; clear hS hb2 hc5 hf5))
          go_roundw
          case rel => exact ⟨k + 1, 2, _, _, tc2, by omega, by omega, by go_num, rfl, rfl, HX.out, (HT.out.past HB2.out).set2 hne rfl (some ⟨g, 0, none⟩) tc2 HS2.out (fun x e => by cases e; have := HT.out.lt; show B < g; omega), ⟨fun u hu => by have := HZ.out.1 u hu; omega, (by have := HZ.out.2; show (splL (tl1 y) 44).length ≤ 20001; omega), HS.out.2.2⟩⟩
          case measure => simp [Go.RowKit.intOf]; omega
        · have hb0 := g3 h3
          clear g1 g2 g3 hc3 hc4 hc5 hf3 hf4 hf5
          have HRT := hide (c_readTime (tl1 y) (by omega) wr (HG.out.below HT.out.bel hB))
          rw [h3] at hmi
          cases ht : timO (tl1 y) with
          | none =>
            have HE : Hid (more 0 pt0 L = none) := (by rw [HI.out, HY.out, more_ill (by rw [step3 h3, ht]; rfl)] : more 0 pt0 L = none)
            have HR2 := HRT.out
            rw [ht] at HR2
            have HR3 := hide HR2
            clear HRT HR2
            go_wp2_with (first
              | (go_at_call 103; refine (c_markPlace y (by omega) _).mono ?_; rw [h3]; rintro e w1 ⟨rfl, hw⟩; obtain rfl := hw.symm)
              | (go_at_call 104; refine HR3.out.mono ?_; rintro e w2 ⟨rfl, hb2⟩; have HB2 := hide hb2; have hd7 := cell_past hb2 hc7; have hf7' := (frozen_past hb2 hc7).trans hf7; have hd6 := cell_past hb2 hc6; have hf6' := (frozen_past hb2 hc6).trans hf6; clear hb2 hc7 hf7 hc6 hf6))
            try rw [Exit.noGoto_ret]
            go_ret
            exact ⟨_, ta, tc, by rw [HE.out]; rfl, (fun r' h => by rw [HE.out] at h; cases h), (HT.out.past HB2.out).set3 hne 0 false, HS.out⟩
          | some m =>
            have HX : Hid (more 0 pt0 L = more 3 { r with td := true, ti := m } (L.drop (k + 1))) := (by rw [HI.out, HY.out, more_step hm (by rw [step3 h3, ht]; rfl), h3] : more 0 pt0 L = more 3 { r with td := true, ti := m } (L.drop (k + 1)))
            have HR2 := HRT.out
            rw [ht] at HR2
            have HR3 := hide HR2
            clear HRT HR2
            go_wp2_with (first
              | (go_at_call 103; refine (c_markPlace y (by omega) _).mono ?_; rw [h3]; rintro e w1 ⟨rfl, hw⟩; obtain rfl := hw.symm)
              | (go_at_call 104; refine HR3.out.mono ?_; rintro e w2 ⟨rfl, hb2⟩; have HB2 := hide hb2; have hd7 := cell_past hb2 hc7; have hf7' := (frozen_past hb2 hc7).trans hf7; have hd6 := cell_past hb2 hc6; have hf6' := (frozen_past hb2 hc6).trans hf6; clear hb2 hc7 hf7 hc6 hf6))
            go_roundw
            case rel => exact ⟨k + 1, 3, _, ta, tc, by omega, by omega, by go_num, rfl, rfl, HX.out, (HT.out.past HB2.out).set3 hne m true, HS.out⟩
            case measure => simp [Go.RowKit.intOf]; omega
    · have HE : Hid (more 0 pt0 L = some r) := (by rw [HI.out, List.drop_eq_nil_of_le (by have := HN.out; omega)]; unfold more; rfl : more 0 pt0 L = some r)
      go_wp2
      try rw [Exit.noGoto_ret]
      go_ret
      exact ⟨r, ta, tc, by rw [HE.out]; rfl, (fun r' h => by rw [HE.out] at h; cases h; rfl), HT.out, HS.out⟩
end Go.Proofs.YtnflhahnbdnaoaaGreatDoor
