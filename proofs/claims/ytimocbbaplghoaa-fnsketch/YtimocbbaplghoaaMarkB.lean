/-
  The bins of a sketch written over, and held, as the exact laws do to see whose memory an answer is.
-/
import Derived.Test.YtimocbbaplghoaaSkP
namespace Go.Proofs.Ytimocbbaplghoaa
set_option linter.unusedVariables false
set_option linter.unusedSimpArgs false
open Go.ChangeShapes Go.WideShapes Go.ChangeAt Go.RowKit Go.PlainAid Go.Lib
set_option maxRecDepth 10000

/-- Two cells of it written. -/
theorem OwnB.put2 {w : World} {B b off c n k : Nat} {L : List Bn} (h : OwnB w B (.slice (some ⟨b, off, none⟩) n c) n L) (hk : k < n) (x : Bn) :
    OwnB ((w.setCell ⟨b, off + k * 2, none⟩ (.int .i64 x.1)).setCell ⟨b, off + k * 2 + 1, none⟩ (.int .u64 x.2)) B (.slice (some ⟨b, off, none⟩) n c) n (L.set k x) := by
  have hl := h.1
  refine ⟨by rw [List.length_set]; exact h.1, ?_⟩
  rcases h.2 with ⟨e, _⟩ | ⟨b', off', c', cur, e, h1, h2, h3⟩
  · cases e
  · cases e
    refine .inr ⟨b, off, c, _, rfl, h1, heap_setCell_same _ b _ _ _ _ (heap_setCell_same w b _ _ _ _ h2), fun j q hq => ?_, h3.2.1, h3.2.2.1, by simpa using h3.2.2.2⟩
    have hj := (List.getElem?_eq_some_iff.1 hq).1
    rw [fl_len encB2, List.length_set] at hj
    obtain ⟨q0, hq0⟩ : ∃ q0, (fl encB L)[j]? = some q0 := ⟨(fl encB L)[j]'(by rw [fl_len encB2]; omega), List.getElem?_eq_getElem _⟩
    have hc := h3.1 j q0 hq0
    have hsz := (Array.getElem?_eq_some_iff.1 hc).1
    rw [← fl_set encB2 L k x (by omega) (rfl : encB x = [.int .i64 x.1, .int .u64 x.2])] at hq
    rw [Array.getElem?_setIfInBounds, Array.getElem?_setIfInBounds]
    rw [List.getElem?_set, List.getElem?_set] at hq
    by_cases c1 : k * 2 + 1 = j
    · rw [if_pos c1, if_pos (by simp [fl_len encB2]; omega)] at hq
      rw [if_pos (by omega), if_pos (by simp; omega)]; exact hq
    · rw [if_neg c1] at hq
      rw [if_neg (by omega)]
      by_cases c2 : k * 2 = j
      · rw [if_pos c2, if_pos (by simp [fl_len encB2]; omega)] at hq
        rw [if_pos (by omega), if_pos (by omega)]; exact hq
      · rw [if_neg c2] at hq
        rw [if_neg (by omega)]
        exact h3.1 j q hq
theorem OwnB.cells {w : World} {B n k : Nat} {v : Value} {L : List Bn} {x : Bn} (h : OwnB w B v n L) (hk : L[k]? = some x) :
    ∃ b off c, v = .slice (some ⟨b, off, none⟩) n c ∧ w.cell? ⟨b, off + k * 2, none⟩ = some (.int .i64 x.1) ∧ w.cell? ⟨b, off + k * 2 + 1, none⟩ = some (.int .u64 x.2) ∧ w.frozen? ⟨b, off + k * 2, none⟩ = false ∧ w.frozen? ⟨b, off + k * 2 + 1, none⟩ = false ∧ b < w.heap.size := by
  have hkl := (List.getElem?_eq_some_iff.1 hk).1
  have hl := h.1
  obtain ⟨ao, c, rfl⟩ := h.any
  obtain ⟨b, off, rfl, hc⟩ := h.at (by omega)
  rcases h.2 with ⟨e, _⟩ | ⟨b', off', c', cur, e, h1, h2, h3⟩
  · cases e
  · cases e
    exact ⟨b, off, c, rfl, (hc k x hk).1, (hc k x hk).2, frozen_of_row w b _ _ _ h2, frozen_of_row w b _ _ _ h2, (Array.getElem?_eq_some_iff.1 h2).1⟩

def mkb (k0 : Nat) (i : Nat) : Bn := (((k0 + 2 * i : Nat) : Int), ((k0 + 2 * i + 1 : Nat) : Int))
def mkbs (k0 n : Nat) : List Bn := (List.range n).map (mkb k0)
theorem mkbs_len (k0 n : Nat) : (mkbs k0 n).length = n := by simp [mkbs]
theorem mkbs_at {k0 n i : Nat} (h : i < n) : (mkbs k0 n)[i]? = some (mkb k0 i) := by simp [mkbs, h]
/-- The first k are written over. -/
def ovb (k0 : Nat) (R : List Bn) (k : Nat) : List Bn := mkbs k0 k ++ R.drop k
theorem ovb_len (k0 : Nat) (R : List Bn) (k : Nat) (hk : k ≤ R.length) : (ovb k0 R k).length = R.length := by simp [ovb, mkbs_len]; omega
theorem ovb_set (k0 : Nat) {R : List Bn} {k : Nat} (hk : k < R.length) : (ovb k0 R k).set k (mkb k0 k) = ovb k0 R (k + 1) := by
  unfold ovb
  rw [List.set_append_right _ _ (by rw [mkbs_len]; omega), mkbs_len, Nat.sub_self]
  have e : R.drop k = R[k] :: R.drop (k + 1) := List.drop_eq_getElem_cons hk
  rw [e, List.set_cons_zero]
  show mkbs k0 k ++ mkb k0 k :: R.drop (k + 1) = (List.range (k + 1)).map (mkb k0) ++ R.drop (k + 1)
  rw [List.range_succ, List.map_append, List.append_assoc]; rfl
theorem ovb_all (k0 : Nat) (R : List Bn) : ovb k0 R R.length = mkbs k0 R.length := by simp [ovb]


end Go.Proofs.Ytimocbbaplghoaa
