/-
  Slices of strings in the laws: read (szStringS, eqStringS), copied (toStringS).
-/
import Derived.Test.YtgdhojeobcpoiaaRowsG
import Derived.Test.YtgdhojeobcpoiaaRows
import Derived.Test.YtgdhojeobcpoiaaKeep
import Derived.Outline
import Derived.WalkKit
import Derived.RegionTactic
import Derived.BigRegion
import Derived.BigQuiet
import Derived.Deep.QuietTactic
import Derived.PlainAid
import Derived.SliceStrings
namespace Go.Proofs.Ytgdhojeobcpoiaa
set_option linter.unusedVariables false
set_option linter.unusedSimpArgs false
open Go.ChangeShapes Go.WideShapes Go.ChangeAt Go.RowKit Go.PlainAid

/-- A slice's address at which these texts lie. -/
def StrsAt (w : World) (ao : Option Addr) (L : List ByteArray) : Prop :=
  0 < L.length → ∃ b off, ao = some ⟨b, off, none⟩ ∧ ∀ i u, L[i]? = some u → w.cell? ⟨b, off + i, none⟩ = some (.string u)
theorem strs_past {w w' : World} {ao : Option Addr} {L : List ByteArray} (h : StrsAt w ao L) (hb : Below w.heap.size w w') : StrsAt w' ao L := fun h0 => by
  obtain ⟨b, off, e, hc⟩ := h h0
  exact ⟨b, off, e, fun i u hi => cell_past hb (hc i u hi)⟩
theorem strs_owned {w : World} {B g cap : Nat} {L : List ByteArray} (h : w.ownsRow B 9 1 (.slice (some ⟨g, 0, none⟩) L.length cap) L.length (L.map Value.string)) : StrsAt w (some ⟨g, 0, none⟩) L := fun _ =>
  ⟨g, 0, rfl, fun i u hi => by
    have hl := (List.getElem?_eq_some_iff.1 hi).1
    rw [Nat.zero_add, h.cellAt i (by omega)]; simp [hi]⟩

/-- The first k of xs stand, behind them what was there at first. -/
def fillL (xs : List Value) (z : Value) (k : Nat) : List Value := xs.take k ++ List.replicate (xs.length - k) z
theorem fillL_zero (xs : List Value) (z : Value) : fillL xs z 0 = List.replicate xs.length z := by simp [fillL]
theorem fillL_all (xs : List Value) (z : Value) : fillL xs z xs.length = xs := by simp [fillL]
theorem fillL_len (xs : List Value) (z : Value) (k : Nat) (hk : k ≤ xs.length) : (fillL xs z k).length = xs.length := by simp [fillL]; omega
theorem fillL_set {xs : List Value} {z u : Value} {k : Nat} (h : xs[k]? = some u) : (fillL xs z k).set k u = fillL xs z (k + 1) := by
  have hk := (List.getElem?_eq_some_iff.1 h).1
  have hl : (xs.take k).length = k := by simp; omega
  unfold fillL
  rw [List.set_append_right _ _ (by omega), hl, Nat.sub_self, show xs.length - k = (xs.length - (k + 1)) + 1 by omega, List.replicate_succ, List.set_cons_zero, List.take_add_one, h]
  simp

theorem infoStr : (Try.prog.info? 9).map (fun i => (i.zero, i.size, i.bytes)) = some (some (.string ByteArray.empty), 1, 16) := by kernel_rfl

set_option maxHeartbeats 1000000 in
theorem c_szStringS {w : World} {ao : Option Addr} {L : List ByteArray} (cap : Nat) (left : Int) (h0 : 0 ≤ left) (h1 : left ≤ 1048576) (hl : L.length ≤ maxLen) (hu : ∀ u ∈ L, u.size ≤ maxLen) (hS : StrsAt w ao L) :
    Calls Try.prog 4 #[.slice ao L.length cap, .int .i64 left] w fun e w' => ∃ v, e = .returned (.int .i64 v) ∧ v ≤ 1048576 ∧ (¬ v < 0 → L.length ≤ 1048576 ∧ ∀ u ∈ L, u.size ≤ 1048576) ∧ w' = w := by
  unfold maxLen at hl hu
  obtain ⟨N, hN⟩ : ∃ N, L.length = N := ⟨_, rfl⟩
  rw [hN] at hl
  rw [hN]
  by_cases hlt : left - (N : Int) < 0
  · go_enter Try.func4, Try.ntmps4
    go_wp2
    go_ret
    exact ⟨-1, rfl, by omega, fun h => by omega, rfl⟩
  · go_enter Try.func4, Try.ntmps4
    go_wp2
    go_loop [1, 5] (fun l i => ∃ (k : Nat) (m : Int), k ≤ N ∧ i = .int .i64 k ∧ l = .int .i64 m ∧ 0 ≤ m ∧ m ≤ left - N ∧ ∀ j u, j < k → L[j]? = some u → u.size ≤ 1048576) (fun l i => N - (intOf i).toNat)
    case atStart => exact ⟨0, left - N, Nat.zero_le _, rfl, rfl, by omega, by omega, fun j u hj => absurd hj (by omega)⟩
    case round =>
      obtain ⟨k, m, hk, rfl, rfl, hm0, hm1, hall⟩ := hrel
      have HA : Hid (∀ j u, j < k → L[j]? = some u → u.size ≤ 1048576) := hall
      clear hall
      by_cases hkn : k < N
      · obtain ⟨b, off, rfl, hcell⟩ := hS (by omega)
        obtain ⟨u, hku⟩ : ∃ u, L[k]? = some u := ⟨L[k]'(by omega), List.getElem?_eq_getElem (by omega)⟩
        have hc := hcell k u hku
        have hus := hu u (List.mem_of_getElem? hku)
        have HU : Hid (L[k]? = some u) := hku
        clear hcell hu hku
        by_cases hneg : m - (u.size : Int) < 0
        · go_wp2
          go_ret
          exact ⟨-1, rfl, by omega, fun h => by omega, rfl⟩
        · go_wp2
          go_round
          case rel =>
            refine ⟨k + 1, m - u.size, by omega, by go_num, rfl, by omega, by omega, fun j v hj hv => ?_⟩
            by_cases e : j = k
            · subst e; rw [HU.out] at hv; obtain rfl := Option.some.inj hv; omega
            · exact HA.out j v (by omega) hv
          case measure => simp [intOf]; omega
      · have e : k = N := by omega
        have HE : Hid (k = N) := e
        clear hS e hu
        go_wp2
        go_ret
        refine ⟨m, rfl, by omega, fun _ => ⟨by omega, fun u hu => ?_⟩, rfl⟩
        obtain ⟨j, hj⟩ := List.getElem?_of_mem hu
        have hjl := (List.getElem?_eq_some_iff.1 hj).1
        have := HE.out
        exact HA.out j u (by omega) hj
set_option maxHeartbeats 1000000 in
theorem c_eqStringS {w : World} {ao bo : Option Addr} {L : List ByteArray} (cap cap' : Nat) (hl : L.length ≤ 1048576) (hA : StrsAt w ao L) (hB : StrsAt w bo L) :
    Calls Try.prog 9 #[.slice ao L.length cap, .slice bo L.length cap'] w fun e w' => e = .returned (.bool true) ∧ Below w.heap.size w w' := by
  obtain ⟨N, hN⟩ : ∃ N, L.length = N := ⟨_, rfl⟩
  rw [hN] at hl
  rw [hN]
  go_enter Try.func9, Try.ntmps9
  go_wp2
  go_loopw [5] (fun i wr => Below w.heap.size w wr ∧ ∃ k : Nat, k ≤ N ∧ i = .int .i64 k) (fun i wr => N - (intOf i).toNat)
  case atStart => exact ⟨Below.refl _ _, 0, Nat.zero_le _, rfl⟩
  case round =>
    obtain ⟨hbel, k, hk, rfl⟩ := hrel
    by_cases hkn : k < N
    · obtain ⟨b, off, rfl, hcell⟩ := hA (by omega)
      obtain ⟨b2, off2, rfl, hcell2⟩ := hB (by omega)
      obtain ⟨u, hku⟩ : ∃ u, L[k]? = some u := ⟨L[k]'(by omega), List.getElem?_eq_getElem (by omega)⟩
      have hc := cell_past hbel (hcell k u hku)
      have hc2 := cell_past hbel (hcell2 k u hku)
      have HB : Hid (Below w.heap.size w wr) := hbel
      clear hcell hcell2 hku hbel
      go_wp2
      go_quiet (fail)
      go_wp2
      go_roundw
      case rel => exact ⟨bel_drews HB.out _, k + 1, by omega, by go_num⟩
      case measure => simp [intOf]; omega
    · have HB : Hid (Below w.heap.size w wr) := hbel
      clear hbel hA hB
      go_wp2
      go_ret
      exact ⟨rfl, HB.out⟩
set_option maxHeartbeats 1000000 in
theorem c_toStringS {w : World} {ao : Option Addr} {L : List ByteArray} (cap : Nat) (hl : L.length ≤ 1048576) (hA : StrsAt w ao L) :
    Calls Try.prog 6 #[.slice ao L.length cap] w fun e w' => ∃ g, e = .returned (.slice (some ⟨g, 0, none⟩) L.length L.length) ∧ w'.ownsRow w.heap.size 9 1 (.slice (some ⟨g, 0, none⟩) L.length L.length) L.length (L.map Value.string) ∧ Below w.heap.size w w' := by
  obtain ⟨i0, hi, hz0, hz1, hz2⟩ := info_parts infoStr
  obtain ⟨N, hN⟩ : ∃ N, L.length = N := ⟨_, rfl⟩
  have HN : Hid (L.length = N) := hN
  rw [hN] at hl
  rw [hN]
  clear hN
  go_enter Try.func6, Try.ntmps6
  go_wp2_with (at_make; refine wpList_make_full _ rfl _ _ 22 rfl w.heap.size 9 i0 (.string ByteArray.empty) 1 Try.underlying22 hi hz0 hz1 .i64 .i64 _ _ N rfl rfl rfl rfl (by rw [hz2]; omega) (by unfold maxLen; omega) (Nat.le_refl _) ?_; intro w0 hown0 hgrow0)
  have hB0 : Below w.heap.size w w0 := (Below.refl _ _).grown hgrow0 (Nat.le_refl _) (fun k e => by cases e)
  have hown1 : w0.ownsRow w.heap.size 9 1 (.slice (some ⟨w.heap.size, 0, none⟩) N N) N (fillL (L.map Value.string) (.string ByteArray.empty) 0) := by
    rw [fillL_zero, List.length_map, HN.out]
    have e : (madeCells (Value.string ByteArray.empty).cells (N * 1)).toList = List.replicate N (.string ByteArray.empty) := by
      rw [Nat.mul_one]; exact toList_madeCells_one _ _
    rw [e] at hown0; exact hown0
  clear hown0 hgrow0
  go_wp2
  go_loopw [4] (fun i wr => ∃ k : Nat, k ≤ N ∧ i = .int .i64 k ∧ wr.ownsRow w.heap.size 9 1 (.slice (some ⟨w.heap.size, 0, none⟩) N N) N (fillL (L.map Value.string) (.string ByteArray.empty) k) ∧ Below w.heap.size w wr) (fun i wr => N - (intOf i).toNat)
  case atStart => exact ⟨0, Nat.zero_le _, rfl, hown1, hB0⟩
  case round =>
    clear hown1 hB0
    obtain ⟨k, hk, rfl, hown, hbel⟩ := hrel
    by_cases hkn : k < N
    · obtain ⟨b, off, rfl, hcell⟩ := hA (by have := HN.out; omega)
      obtain ⟨u, hku⟩ : ∃ u, L[k]? = some u := ⟨L[k]'(by have := HN.out; omega), List.getElem?_eq_getElem _⟩
      have hc := cell_past hbel (hcell k u hku)
      have hf := hown.frozenAt k
      have hold : wr.cell? ⟨w.heap.size, k, none⟩ = some (.string ByteArray.empty) := by
        have hlen := HN.out
        rw [hown.cellAt k (by omega)]
        unfold fillL
        have hl2 : ((L.map Value.string).take k).length = k := by simp; omega
        rw [List.getElem?_append_right (by omega), hl2, Nat.sub_self, List.getElem?_replicate, if_pos (by simp; omega)]
      have HS : Hid ((fillL (L.map Value.string) (.string ByteArray.empty) k).set k (.string u) = fillL (L.map Value.string) (.string ByteArray.empty) (k + 1)) := fillL_set (by simp [hku])
      have HO : Hid (wr.ownsRow w.heap.size 9 1 (.slice (some ⟨w.heap.size, 0, none⟩) N N) N (fillL (L.map Value.string) (.string ByteArray.empty) k)) := hown
      have HB : Hid (Below w.heap.size w wr) := hbel
      clear hown hbel hcell hku
      go_wp2
      go_roundw
      case rel => exact ⟨k + 1, by omega, by go_num, by rw [← HS.out]; exact (HO.out.stored k _).1, HB.out.setCell (by exact Nat.le_refl _) _⟩
      case measure => simp [intOf]; omega
    · have e : k = N := by omega
      have HO : Hid (wr.ownsRow w.heap.size 9 1 (.slice (some ⟨w.heap.size, 0, none⟩) N N) N (L.map Value.string)) := by
        have := HN.out
        rw [e, show fillL (L.map Value.string) (.string ByteArray.empty) N = L.map Value.string by rw [← this, ← List.length_map (f := Value.string)]; exact fillL_all _ _] at hown
        exact hown
      have HB : Hid (Below w.heap.size w wr) := hbel
      clear hown hbel hA e
      go_wp2
      go_ret
      exact ⟨w.heap.size, rfl, HO.out, HB.out⟩
end Go.Proofs.Ytgdhojeobcpoiaa
