/-
  Bins in memory, and what the exact laws do with sketches: their size, a copy, comparing them.
-/
import Derived.Test.YtimocbbaplghoaaRows
import Derived.Test.YtimocbbaplghoaaRowsG
import Derived.Deep.RegionHeld3
namespace Go.Proofs.Ytimocbbaplghoaa
set_option linter.unusedVariables false
set_option linter.unusedSimpArgs false
open Go.ChangeShapes Go.WideShapes Go.ChangeAt Go.RowKit Go.PlainAid Go.Lib
set_option maxRecDepth 10000

/-- A bin: its place and its weight. -/
abbrev Bn := Int × Int
def encB (x : Bn) : List Value := [.int .i64 x.1, .int .u64 x.2]
theorem encB2 (x : Bn) : (encB x).length = 2 := rfl
theorem encB_one (m : Bn) : ∀ u ∈ encB m, u.oneCell' = true := fun u hu => by simp [encB] at hu; rcases hu with rfl | rfl <;> rfl
theorem fl_oneB (R : List Bn) : ∀ u ∈ fl encB R, u.oneCell' = true := fun u hu => by
  obtain ⟨m, _, h⟩ := List.mem_flatMap.1 hu
  exact encB_one m u h
def BnOk (x : Bn) : Prop := I64 x.1 ∧ U64 x.2

/-- A slice of bins that lies in memory. -/
def BinsAt (w : World) (ao : Option Addr) (L : List Bn) : Prop :=
  0 < L.length → ∃ b off, ao = some ⟨b, off, none⟩ ∧ ∀ i x, L[i]? = some x → w.cell? ⟨b, off + i * 2, none⟩ = some (.int .i64 x.1) ∧ w.cell? ⟨b, off + i * 2 + 1, none⟩ = some (.int .u64 x.2)
theorem bins_past {w w' : World} {ao : Option Addr} {L : List Bn} (h : BinsAt w ao L) (hb : Below w.heap.size w w') : BinsAt w' ao L := fun h0 => by
  obtain ⟨b, off, e, hc⟩ := h h0
  exact ⟨b, off, e, fun i x hx => ⟨cell_past hb (hc i x hx).1, cell_past hb (hc i x hx).2⟩⟩
theorem bin_cells {w : World} {B g c n : Nat} {T : TypeId} {L : List Bn} {k : Nat} {x : Bn} (h : w.ownsRow B T 2 (.slice (some ⟨g, 0, none⟩) n c) n (fl encB L)) (hn : n = L.length) (hk : L[k]? = some x) :
    w.cell? ⟨g, k * 2, none⟩ = some (.int .i64 x.1) ∧ w.cell? ⟨g, k * 2 + 1, none⟩ = some (.int .u64 x.2) := by
  have hkl := (List.getElem?_eq_some_iff.1 hk).1
  have h0 := fl_at encB2 L k x 0 (by omega) hk
  have h1 := fl_at encB2 L k x 1 (by omega) hk
  rw [Nat.add_zero] at h0
  exact ⟨by rw [h.cellAt (k * 2) (by omega), h0]; rfl, by rw [h.cellAt (k * 2 + 1) (by omega), h1]; rfl⟩
theorem bins_owned {w : World} {B n : Nat} {T : TypeId} {v : Value} {ao : Option Addr} {c : Nat} {L : List Bn} (h : w.ownsRow B T 2 v n (fl encB L)) (hn : n = L.length) (e : v = .slice ao n c) : BinsAt w ao L := fun h0 => by
  obtain ⟨g, c', e'⟩ := own_form h (by omega)
  rw [e'] at e h
  cases e
  exact ⟨g, 0, rfl, fun i x hx => by have := bin_cells h hn hx; rw [Nat.zero_add]; exact this⟩
/-- A bin whose place in the row is known. -/
theorem own_bin {w : World} {B n : Nat} {T : TypeId} {v : Value} {R : List Bn} {k : Nat} {x : Bn} (h : w.ownsRow B T 2 v n (fl encB R)) (hn : n = R.length) (hk : R[k]? = some x) :
    ∃ g c, v = .slice (some ⟨g, 0, none⟩) n c ∧ w.cell? ⟨g, k * 2, none⟩ = some (.int .i64 x.1) ∧ w.cell? ⟨g, k * 2 + 1, none⟩ = some (.int .u64 x.2) ∧ w.frozen? ⟨g, k * 2, none⟩ = false ∧ w.frozen? ⟨g, k * 2 + 1, none⟩ = false ∧ g < w.heap.size := by
  have hkl := (List.getElem?_eq_some_iff.1 hk).1
  obtain ⟨g, c, rfl⟩ := own_form h (by omega)
  obtain ⟨h0, h1⟩ := bin_cells h hn hk
  exact ⟨g, c, rfl, h0, h1, h.frozenAt _, h.frozenAt _, World.block_lt_of_cell? _ _ h0⟩

theorem made_bins (n : Nat) : (madeCells (Value.agg #[.int .i64 0, .int .u64 0]).cells (n * 2)).toList = fl encB (List.replicate n ((0, 0) : Bn)) := by
  refine List.ext_getElem? fun j => ?_
  by_cases hj : j < n * 2
  · have h1 := fl_at encB2 (List.replicate n ((0, 0) : Bn)) (j / 2) (0, 0) (j % 2) (by omega) (by rw [List.getElem?_replicate, if_pos (by omega)])
    rw [show j / 2 * 2 + j % 2 = j by omega] at h1
    rw [h1]
    have : j % 2 = 0 ∨ j % 2 = 1 := by omega
    rcases this with e | e <;> simp [madeCells, hj, Value.cells, encB, e]
  · rw [List.getElem?_eq_none (by simp [size_madeCells]; omega), List.getElem?_eq_none (by rw [fl_len encB2]; simp; omega)]
/-- Filled up to k, zeros behind. -/
def fillB (L : List Bn) (k : Nat) : List Bn := L.take k ++ List.replicate (L.length - k) (0, 0)
theorem fillB_zero (L : List Bn) : fillB L 0 = List.replicate L.length (0, 0) := by simp [fillB]
theorem fillB_all (L : List Bn) : fillB L L.length = L := by simp [fillB]
theorem fillB_len (L : List Bn) (k : Nat) (hk : k ≤ L.length) : (fillB L k).length = L.length := by simp [fillB]; omega
theorem fillB_at (L : List Bn) (k : Nat) (hk : k < L.length) : (fillB L k)[k]? = some (0, 0) := by
  unfold fillB
  have hl : (L.take k).length = k := by simp; omega
  rw [List.getElem?_append_right (by omega), hl, Nat.sub_self, List.getElem?_replicate, if_pos (by omega)]
theorem fillB_set {L : List Bn} {x : Bn} {k : Nat} (h : L[k]? = some x) : (fillB L k).set k x = fillB L (k + 1) := by
  have hk := (List.getElem?_eq_some_iff.1 h).1
  have hl : (L.take k).length = k := by simp; omega
  unfold fillB
  rw [List.set_append_right _ _ (by omega), hl, Nat.sub_self, show L.length - k = (L.length - (k + 1)) + 1 by omega, List.replicate_succ, List.set_cons_zero, List.take_add_one, h]
  simp

theorem infoBin : (Try.prog.info? 50).map (fun i => (i.zero, i.size, i.bytes)) = some (some (.agg #[.int .i64 0, .int .u64 0]), 2, 16) := by kernel_rfl


end Go.Proofs.Ytimocbbaplghoaa
