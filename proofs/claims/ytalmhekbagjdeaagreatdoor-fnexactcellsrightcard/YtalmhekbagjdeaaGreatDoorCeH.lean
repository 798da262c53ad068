/-
  Right cells: what it is.
-/
import Derived.Test.YtalmhekbagjdeaaGreatDoorCeE
import Derived.Test.YtalmhekbagjdeaaGreatDoorStrO
import Derived.Test.YtalmhekbagjdeaaGreatDoorSrtM
import Derived.Test.YtalmhekbagjdeaaGreatDoorAgU
namespace Go.Proofs.YtalmhekbagjdeaaGreatDoor
set_option linter.unusedVariables false
set_option linter.unusedSimpArgs false
open Go.ChangeShapes Go.WideShapes Go.ChangeAt Go.RowKit Go.PlainAid Go.Lib
set_option maxRecDepth 10000

/-- A cell stands ahead of another one. -/
def cAh (c d : Ce) : Bool := decide (c.n < d.n) || ((c.n == d.n) && strLt c.s d.s)
def winB (n : Int) : Bool := decide (0 ≤ n) && decide (n ≤ 1000000000)
/-- A cell that is right for itself. -/
noncomputable def cRi (c : Ce) : Bool := winB c.n && serRB c.s && agB c.g && !(c.g.s == 0)
/-- Cells that are right and rise, behind one that stands ahead. -/
noncomputable def cRs : Option Ce → List Ce → Bool
  | _, [] => true
  | none, c :: L => cRi c && cRs (some c) L
  | some b, c :: L => (cRi c && cAh b c) && cRs (some c) L
/-- The cell ahead of a place. -/
def preC (L : List Ce) (k : Nat) : Option Ce := if k = 0 then none else L[k - 1]?
theorem cRs_none {L : List Ce} {c : Ce} (hc : L[0]? = some c) : cRs (preC L 0) (L.drop 0) = (cRi c && cRs (preC L 1) (L.drop 1)) := by
  cases L with
  | nil => cases hc
  | cons d M =>
    obtain rfl : d = c := by simpa using hc
    simp [preC, cRs]
theorem cRs_some {L : List Ce} {k : Nat} {b c : Ce} (hb : L[k]? = some b) (hc : L[k + 1]? = some c) : cRs (preC L (k + 1)) (L.drop (k + 1)) = ((cRi c && cAh b c) && cRs (preC L (k + 1 + 1)) (L.drop (k + 1 + 1))) := by
  have h1 := (List.getElem?_eq_some_iff.1 hc).1
  rw [List.drop_eq_getElem_cons h1, (List.getElem?_eq_some_iff.1 hc).2]
  have e1 : preC L (k + 1) = some b := by unfold preC; rw [if_neg (by omega)]; simpa using hb
  have e2 : preC L (k + 1 + 1) = some c := by unfold preC; rw [if_neg (by omega)]; simpa using hc
  rw [e1, e2]
  rfl
/-- Right cells. -/
noncomputable def csR (L : List Ce) : Bool := decide (L.length ≤ 60) && cRs none L
theorem cRi_key {c c' : Ce} (h : c.key = c'.key) : cRi c = cRi c' := by
  obtain ⟨q, rfl⟩ := key_eq h
  rfl
theorem cAh_key {c d c' d' : Ce} (h : c.key = c'.key) (k : d.key = d'.key) : cAh c d = cAh c' d' := by
  obtain ⟨q, rfl⟩ := key_eq h
  obtain ⟨q', rfl⟩ := key_eq k
  rfl
theorem cRs_key : ∀ {L L' : List Ce} {b b' : Option Ce}, b.map Ce.key = b'.map Ce.key → L.map Ce.key = L'.map Ce.key → cRs b L = cRs b' L'
  | [], [], b, b', _, _ => by cases b <;> cases b' <;> rfl
  | c :: L, c' :: L', none, none, _, h => by
    simp only [List.map_cons, List.cons.injEq] at h
    unfold cRs
    rw [cRi_key h.1, cRs_key (b := some c) (b' := some c') (by simp [h.1]) h.2]
  | c :: L, c' :: L', some b, some b', k, h => by
    simp only [List.map_cons, List.cons.injEq] at h
    simp only [Option.map_some, Option.some.injEq] at k
    unfold cRs
    rw [cRi_key h.1, cAh_key k h.1, cRs_key (b := some c) (b' := some c') (by simp [h.1]) h.2]
  | _ :: _, _ :: _, none, some _, k, _ => by simp at k
  | _ :: _, _ :: _, some _, none, k, _ => by simp at k
  | [], _ :: _, _, _, _, h => by simp at h
  | _ :: _, [], _, _, _, h => by simp at h
theorem csR_key {L L' : List Ce} (h : L.map Ce.key = L'.map Ce.key) : csR L = csR L' := by
  have e1 : L.length = L'.length := by have := congrArg List.length h; simpa using this
  unfold csR
  rw [e1, cRs_key rfl h]
end Go.Proofs.YtalmhekbagjdeaaGreatDoor
