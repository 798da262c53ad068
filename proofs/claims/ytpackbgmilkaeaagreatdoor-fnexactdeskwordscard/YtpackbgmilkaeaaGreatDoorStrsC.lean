/-
  Slices of strings in the laws: read (szStringS, eqStringS), copied (toStringS).
-/
import Derived.Test.YtpackbgmilkaeaaGreatDoorRowsG
import Derived.Test.YtpackbgmilkaeaaGreatDoorProg
import Derived.KernelRfl
import Derived.Test.YtpackbgmilkaeaaGreatDoorKeep
import Derived.Outline
import Derived.WalkKit
import Derived.RegionTactic
import Derived.BigRegion
import Derived.BigQuiet
import Derived.Deep.QuietTactic
import Derived.PlainAid
import Derived.SliceStrings
namespace Go.Proofs.YtpackbgmilkaeaaGreatDoor
set_option linter.unusedVariables false
set_option linter.unusedSimpArgs false
open Go.ChangeShapes Go.WideShapes Go.ChangeAt Go.RowKit Go.PlainAid

/-- A slice's address at which these texts lie. -/
def StrsAt (w : World) (ao : Option Addr) (L : List ByteArray) : Prop :=
  0 < L.length → ∃ b off, ao = some ⟨b, off, none⟩ ∧ ∀ i u, L[i]? = some u → w.cell? ⟨b, off + i, none⟩ = some (.string u)
theorem strs_past {w w' : World} {ao : Option Addr} {L : List ByteArray} (h : StrsAt w ao L) (hb : Below w.heap.size w w') : StrsAt w' ao L := fun h0 => by
  obtain ⟨b, off, e, hc⟩ := h h0
  exact ⟨b, off, e, fun i u hi => cell_past hb (hc i u hi)⟩
theorem strs_owned {w : World} {B g cap : Nat} {L : List ByteArray} (h : w.ownsRow B 9 1 (.slice (some ⟨g, 0, none⟩) L.length cap) L.length (L.map Value.string)) : StrsAt w (some ⟨g, 0, none⟩) L := fun _ =>
  ⟨g, 0, rfl, fun i u hi => by
    have hl := (List.getElem?_eq_some_iff.1 hi).1
    rw [Nat.zero_add, h.cellAt i (by omega)]; simp [hi]⟩

/-- The first k of xs stand, behind them what was there at first. -/
def fillL (xs : List Value) (z : Value) (k : Nat) : List Value := xs.take k ++ List.replicate (xs.length - k) z
theorem fillL_zero (xs : List Value) (z : Value) : fillL xs z 0 = List.replicate xs.length z := by simp [fillL]
theorem fillL_all (xs : List Value) (z : Value) : fillL xs z xs.length = xs := by simp [fillL]
theorem fillL_len (xs : List Value) (z : Value) (k : Nat) (hk : k ≤ xs.length) : (fillL xs z k).length = xs.length := by simp [fillL]; omega
theorem fillL_set {xs : List Value} {z u : Value} {k : Nat} (h : xs[k]? = some u) : (fillL xs z k).set k u = fillL xs z (k + 1) := by
  have hk := (List.getElem?_eq_some_iff.1 h).1
  have hl : (xs.take k).length = k := by simp; omega
  unfold fillL
  rw [List.set_append_right _ _ (by omega), hl, Nat.sub_self, show xs.length - k = (xs.length - (k + 1)) + 1 by omega, List.replicate_succ, List.set_cons_zero, List.take_add_one, h]
  simp

theorem infoStr : (Tryz.prog.info? 9).map (fun i => (i.zero, i.size, i.bytes)) = some (some (.string ByteArray.empty), 1, 16) := by kernel_rfl

set_option maxHeartbeats 1000000 in
theorem c_eqStringS {w : World} {ao bo : Option Addr} {L : List ByteArray} (cap cap' : Nat) (hl : L.length ≤ 1048576) (hA : StrsAt w ao L) (hB : StrsAt w bo L) :
    Calls Tryz.prog 6 #[.slice ao L.length cap, .slice bo L.length cap'] w fun e w' => e = .returned (.bool true) ∧ Below w.heap.size w w' := by
  obtain ⟨N, hN⟩ : ∃ N, L.length = N := ⟨_, rfl⟩
  rw [hN] at hl
  rw [hN]
  go_enter Tryz.func6, Tryz.ntmps6
  go_wp2
  go_loopw [5] (fun i wr => Below w.heap.size w wr ∧ ∃ k : Nat, k ≤ N ∧ i = .int .i64 k) (fun i wr => N - (intOf i).toNat)
  case atStart => exact ⟨Below.refl _ _, 0, Nat.zero_le _, rfl⟩
  case round =>
    obtain ⟨hbel, k, hk, rfl⟩ := hrel
    by_cases hkn : k < N
    · obtain ⟨b, off, rfl, hcell⟩ := hA (by omega)
      obtain ⟨b2, off2, rfl, hcell2⟩ := hB (by omega)
      obtain ⟨u, hku⟩ : ∃ u, L[k]? = some u := ⟨L[k]'(by omega), List.getElem?_eq_getElem (by omega)⟩
      have hc := cell_past hbel (hcell k u hku)
      have hc2 := cell_past hbel (hcell2 k u hku)
      have HB : Hid (Below w.heap.size w wr) := hbel
      clear hcell hcell2 hku hbel
      go_wp2
      go_quiet (fail)
      go_wp2
      go_roundw
      case rel => exact ⟨bel_drews HB.out _, k + 1, by omega, by go_num⟩
      case measure => simp [intOf]; omega
    · have HB : Hid (Below w.heap.size w wr) := hbel
      clear hbel hA hB
      go_wp2
      go_ret
      exact ⟨rfl, HB.out⟩
end Go.Proofs.YtpackbgmilkaeaaGreatDoor
