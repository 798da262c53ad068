/-
  Slices of numbers in the laws: their size, a copy, comparing two.
-/
import Derived.Test.YtalmhekbagjdeaaGreatDoorRows
import Derived.Test.YtalmhekbagjdeaaGreatDoorRowsG
import Derived.Deep.RegionHeld3
namespace Go.Proofs.YtalmhekbagjdeaaGreatDoor
set_option linter.unusedVariables false
set_option linter.unusedSimpArgs false
open Go.ChangeShapes Go.WideShapes Go.ChangeAt Go.RowKit Go.PlainAid Go.Lib
set_option maxRecDepth 10000

/-- A slice of numbers of one kind that lies in memory. -/
def NumsAt (kd : IntKind) (w : World) (ao : Option Addr) (L : List Int) : Prop :=
  0 < L.length → ∃ b off, ao = some ⟨b, off, none⟩ ∧ ∀ i x, L[i]? = some x → w.cell? ⟨b, off + i, none⟩ = some (.int kd x)
theorem nums_past {kd : IntKind} {w w' : World} {ao : Option Addr} {L : List Int} (h : NumsAt kd w ao L) (hb : Below w.heap.size w w') : NumsAt kd w' ao L := fun h0 => by
  obtain ⟨b, off, e, hc⟩ := h h0
  exact ⟨b, off, e, fun i x hx => cell_past hb (hc i x hx)⟩
theorem nums_owned {kd : IntKind} {w : World} {B g c n : Nat} {T : TypeId} {L : List Int} (h : w.ownsRow B T 1 (.slice (some ⟨g, 0, none⟩) n c) n (L.map (Value.int kd))) (hn : L.length = n) : NumsAt kd w (some ⟨g, 0, none⟩) L := fun _ =>
  ⟨g, 0, rfl, fun i u hi => by
    have hl := (List.getElem?_eq_some_iff.1 hi).1
    rw [Nat.zero_add, h.cellAt i (by omega)]; simp [hi]⟩
theorem ret_bn {a b : Bool} (h : a = b) : Ending.returned (.bool a) = .returned (.bool b) := by rw [h]
/-- Filled up to k, zeros behind. -/
def fillN (L : List Int) (k : Nat) : List Int := L.take k ++ List.replicate (L.length - k) 0
theorem fillN_zero (L : List Int) : fillN L 0 = List.replicate L.length 0 := by simp [fillN]
theorem fillN_all (L : List Int) : fillN L L.length = L := by simp [fillN]
theorem fillN_len (L : List Int) (k : Nat) (hk : k ≤ L.length) : (fillN L k).length = L.length := by simp [fillN]; omega
theorem fillN_at (L : List Int) (k : Nat) (hk : k < L.length) : (fillN L k)[k]? = some 0 := by
  unfold fillN
  have hl : (L.take k).length = k := by simp; omega
  rw [List.getElem?_append_right (by omega), hl, Nat.sub_self, List.getElem?_replicate, if_pos (by omega)]
theorem fillN_set {L : List Int} {x : Int} {k : Nat} (h : L[k]? = some x) : (fillN L k).set k x = fillN L (k + 1) := by
  have hk := (List.getElem?_eq_some_iff.1 h).1
  have hl : (L.take k).length = k := by simp; omega
  unfold fillN
  rw [List.set_append_right _ _ (by omega), hl, Nat.sub_self, show L.length - k = (L.length - (k + 1)) + 1 by omega, List.replicate_succ, List.set_cons_zero, List.take_add_one, h]
  simp
theorem fillN_map (kd : IntKind) {L : List Int} {x : Int} {k : Nat} (h : L[k]? = some x) : ((fillN L k).map (Value.int kd)).set k (.int kd x) = (fillN L (k + 1)).map (Value.int kd) := by
  rw [← fillN_set h, List.map_set]
theorem made_nums (kd : IntKind) (n : Nat) : (madeCells (Value.int kd 0).cells (n * 1)).toList = (List.replicate n (0 : Int)).map (Value.int kd) := by
  rw [Nat.mul_one, List.map_replicate]; exact toList_madeCells_one _ _
theorem drop_sameN {L M : List Int} {k : Nat} {a a' : Int} (h : L[k]? = some a) (g : M[k]? = some a') : decide (L.drop k = M.drop k) = ((a == a') && decide (L.drop (k + 1) = M.drop (k + 1))) := by
  have hk := (List.getElem?_eq_some_iff.1 h).1
  have gk := (List.getElem?_eq_some_iff.1 g).1
  rw [List.drop_eq_getElem_cons hk, (List.getElem?_eq_some_iff.1 h).2, List.drop_eq_getElem_cons gk, (List.getElem?_eq_some_iff.1 g).2]
  by_cases h1 : a = a' <;> simp [h1]

theorem infoUint64S : (Tryz.prog.info? 47).map (fun i => (i.zero, i.size, i.bytes)) = some (some (.int .u64 0), 1, 8) := by kernel_rfl
theorem c_szUint64S_neg (ao : Option Addr) (n cap : Nat) (left : Int) (h0 : 0 ≤ left) (h1 : left ≤ 1048576) (hl : n ≤ maxLen) (h : left - n < 0) (w : World) :
    Calls Tryz.prog 95 #[.slice ao n cap, .int .i64 left] w fun e w' => e = .returned (.int .i64 (-1)) ∧ w' = w := by
  unfold maxLen at hl
  go_enter Tryz.func95, Tryz.ntmps95
  go_wp2
  go_ret
  exact ⟨rfl, rfl⟩
theorem c_szUint64S_pos (ao : Option Addr) (n cap : Nat) (left : Int) (h0 : 0 ≤ left) (h1 : left ≤ 1048576) (hl : n ≤ maxLen) (h : ¬ left - n < 0) (w : World) :
    Calls Tryz.prog 95 #[.slice ao n cap, .int .i64 left] w fun e w' => e = .returned (.int .i64 (left - n)) ∧ w' = w := by
  unfold maxLen at hl
  go_enter Tryz.func95, Tryz.ntmps95
  go_wp2
  go_ret
  exact ⟨rfl, rfl⟩
set_option maxHeartbeats 1000000 in
theorem c_toUint64S {w : World} {ao : Option Addr} {L : List Int} (cap N : Nat) (hN : L.length = N) (hl : N ≤ 1048576) (hA : NumsAt .u64 w ao L) :
    Calls Tryz.prog 102 #[.slice ao N cap] w fun e w' => e = .returned (.slice (some ⟨w.heap.size, 0, none⟩) N N) ∧ w'.ownsRow w.heap.size 47 1 (.slice (some ⟨w.heap.size, 0, none⟩) N N) N (L.map (Value.int .u64)) ∧ Below w.heap.size w w' := by
  obtain ⟨i0, hi, hz0, hz1, hz2⟩ := info_parts infoUint64S
  have HN : Hid (L.length = N) := hN
  clear hN
  go_enter Tryz.func102, Tryz.ntmps102
  go_wp2_with (at_make; refine wpList_make_full _ rfl _ _ 53 rfl w.heap.size 47 i0 (.int .u64 0) 1 Tryz.underlying53 hi hz0 hz1 .i64 .i64 _ _ N rfl rfl rfl rfl (by rw [hz2]; omega) (by unfold maxLen; omega) (Nat.le_refl _) ?_; intro w0 hown0 hgrow0)
  have hB0 : Below w.heap.size w w0 := (Below.refl _ _).grown hgrow0 (Nat.le_refl _) (fun k e => by cases e)
  have hown1 : w0.ownsRow w.heap.size 47 1 (.slice (some ⟨w.heap.size, 0, none⟩) N N) N ((fillN L 0).map (Value.int .u64)) := by
    rw [fillN_zero, HN.out, ← made_nums]; exact hown0
  clear hown0 hgrow0
  go_wp2
  go_loopw [4] (fun i wr => ∃ k : Nat, k ≤ N ∧ i = .int .i64 k ∧ wr.ownsRow w.heap.size 47 1 (.slice (some ⟨w.heap.size, 0, none⟩) N N) N ((fillN L k).map (Value.int .u64)) ∧ Below w.heap.size w wr) (fun i wr => N - (intOf i).toNat)
  case atStart => exact ⟨0, Nat.zero_le _, rfl, hown1, hB0⟩
  case round =>
    clear hown1 hB0
    obtain ⟨k, hk, rfl, hown, hbel⟩ := hrel
    by_cases hkn : k < N
    · obtain ⟨b, off, rfl, hcell⟩ := hA (by have := HN.out; omega)
      obtain ⟨u, hku⟩ : ∃ u, L[k]? = some u := ⟨L[k]'(by have := HN.out; omega), List.getElem?_eq_getElem _⟩
      have hc := cell_past hbel (hcell k u hku)
      have hf := hown.frozenAt k
      have hold : wr.cell? ⟨w.heap.size, k, none⟩ = some (.int .u64 0) := by
        have hlen := HN.out
        rw [hown.cellAt k (by omega), List.getElem?_map, fillN_at L k (by omega)]; rfl
      have HS := hide (fillN_map .u64 hku)
      have HO := hide hown
      have HB := hide hbel
      clear hown hbel hcell hku
      go_wp2
      go_roundw
      case rel => exact ⟨k + 1, by omega, by go_num, by rw [← HS.out]; exact (HO.out.stored k _).1, HB.out.setCell (by exact Nat.le_refl _) _⟩
      case measure => simp [intOf]; omega
    · have e : k = N := by omega
      have HO : Hid (wr.ownsRow w.heap.size 47 1 (.slice (some ⟨w.heap.size, 0, none⟩) N N) N (L.map (Value.int .u64))) := by
        have := HN.out
        rw [e, show fillN L N = L by rw [← this]; exact fillN_all _] at hown
        exact hown
      have HB := hide hbel
      clear hown hbel hA e
      go_wp2
      go_ret
      exact ⟨rfl, HO.out, HB.out⟩
set_option maxHeartbeats 1000000 in
theorem c_eqUint64S {w : World} {ao bo : Option Addr} {L : List Int} (c c' N : Nat) (hn : L.length = N) (hl : N ≤ 1048576) (hA : NumsAt .u64 w ao L) (hB : NumsAt .u64 w bo L) :
    Calls Tryz.prog 116 #[.slice ao N c, .slice bo N c'] w fun e w' => e = .returned (.bool true) ∧ Below w.heap.size w w' := by
  have HN := hide hn
  clear hn
  go_enter Tryz.func116, Tryz.ntmps116
  go_wp2
  go_loopw [5] (fun i wr => Below w.heap.size w wr ∧ ∃ k : Nat, k ≤ N ∧ i = .int .i64 k) (fun i wr => N - (intOf i).toNat)
  case atStart => exact ⟨Below.refl _ _, 0, Nat.zero_le _, rfl⟩
  case round =>
    obtain ⟨hbel, k, hk, rfl⟩ := hrel
    have HB := hide hbel
    by_cases hkn : k < N
    · obtain ⟨u, hku⟩ : ∃ a, L[k]? = some a := ⟨L[k]'(by have := HN.out; omega), List.getElem?_eq_getElem _⟩
      obtain ⟨b, off, rfl, hcell⟩ := hA (by have := HN.out; omega)
      obtain ⟨b', off', rfl, hcell'⟩ := hB (by have := HN.out; omega)
      have hc0 := cell_past hbel (hcell k _ hku)
      have hd0 := cell_past hbel (hcell' k _ hku)
      clear hbel hku hcell hcell'
      go_wp2
      go_quiet (fail)
      go_wp2
      go_roundw
      case rel => exact ⟨bel_drews HB.out _, k + 1, by omega, by go_num⟩
      case measure => simp [intOf]; omega
    · clear hbel hA hB
      go_wp2
      go_ret
      exact ⟨rfl, HB.out⟩

theorem infoInt64S : (Tryz.prog.info? 2).map (fun i => (i.zero, i.size, i.bytes)) = some (some (.int .i64 0), 1, 8) := by kernel_rfl
theorem c_szInt64S_neg (ao : Option Addr) (n cap : Nat) (left : Int) (h0 : 0 ≤ left) (h1 : left ≤ 1048576) (hl : n ≤ maxLen) (h : left - n < 0) (w : World) :
    Calls Tryz.prog 96 #[.slice ao n cap, .int .i64 left] w fun e w' => e = .returned (.int .i64 (-1)) ∧ w' = w := by
  unfold maxLen at hl
  go_enter Tryz.func96, Tryz.ntmps96
  go_wp2
  go_ret
  exact ⟨rfl, rfl⟩
theorem c_szInt64S_pos (ao : Option Addr) (n cap : Nat) (left : Int) (h0 : 0 ≤ left) (h1 : left ≤ 1048576) (hl : n ≤ maxLen) (h : ¬ left - n < 0) (w : World) :
    Calls Tryz.prog 96 #[.slice ao n cap, .int .i64 left] w fun e w' => e = .returned (.int .i64 (left - n)) ∧ w' = w := by
  unfold maxLen at hl
  go_enter Tryz.func96, Tryz.ntmps96
  go_wp2
  go_ret
  exact ⟨rfl, rfl⟩
set_option maxHeartbeats 1000000 in
theorem c_toInt64S {w : World} {ao : Option Addr} {L : List Int} (cap N : Nat) (hN : L.length = N) (hl : N ≤ 1048576) (hA : NumsAt .i64 w ao L) :
    Calls Tryz.prog 103 #[.slice ao N cap] w fun e w' => e = .returned (.slice (some ⟨w.heap.size, 0, none⟩) N N) ∧ w'.ownsRow w.heap.size 2 1 (.slice (some ⟨w.heap.size, 0, none⟩) N N) N (L.map (Value.int .i64)) ∧ Below w.heap.size w w' := by
  obtain ⟨i0, hi, hz0, hz1, hz2⟩ := info_parts infoInt64S
  have HN : Hid (L.length = N) := hN
  clear hN
  go_enter Tryz.func103, Tryz.ntmps103
  go_wp2_with (at_make; refine wpList_make_full _ rfl _ _ 54 rfl w.heap.size 2 i0 (.int .i64 0) 1 Tryz.underlying54 hi hz0 hz1 .i64 .i64 _ _ N rfl rfl rfl rfl (by rw [hz2]; omega) (by unfold maxLen; omega) (Nat.le_refl _) ?_; intro w0 hown0 hgrow0)
  have hB0 : Below w.heap.size w w0 := (Below.refl _ _).grown hgrow0 (Nat.le_refl _) (fun k e => by cases e)
  have hown1 : w0.ownsRow w.heap.size 2 1 (.slice (some ⟨w.heap.size, 0, none⟩) N N) N ((fillN L 0).map (Value.int .i64)) := by
    rw [fillN_zero, HN.out, ← made_nums]; exact hown0
  clear hown0 hgrow0
  go_wp2
  go_loopw [4] (fun i wr => ∃ k : Nat, k ≤ N ∧ i = .int .i64 k ∧ wr.ownsRow w.heap.size 2 1 (.slice (some ⟨w.heap.size, 0, none⟩) N N) N ((fillN L k).map (Value.int .i64)) ∧ Below w.heap.size w wr) (fun i wr => N - (intOf i).toNat)
  case atStart => exact ⟨0, Nat.zero_le _, rfl, hown1, hB0⟩
  case round =>
    clear hown1 hB0
    obtain ⟨k, hk, rfl, hown, hbel⟩ := hrel
    by_cases hkn : k < N
    · obtain ⟨b, off, rfl, hcell⟩ := hA (by have := HN.out; omega)
      obtain ⟨u, hku⟩ : ∃ u, L[k]? = some u := ⟨L[k]'(by have := HN.out; omega), List.getElem?_eq_getElem _⟩
      have hc := cell_past hbel (hcell k u hku)
      have hf := hown.frozenAt k
      have hold : wr.cell? ⟨w.heap.size, k, none⟩ = some (.int .i64 0) := by
        have hlen := HN.out
        rw [hown.cellAt k (by omega), List.getElem?_map, fillN_at L k (by omega)]; rfl
      have HS := hide (fillN_map .i64 hku)
      have HO := hide hown
      have HB := hide hbel
      clear hown hbel hcell hku
      go_wp2
      go_roundw
      case rel => exact ⟨k + 1, by omega, by go_num, by rw [← HS.out]; exact (HO.out.stored k _).1, HB.out.setCell (by exact Nat.le_refl _) _⟩
      case measure => simp [intOf]; omega
    · have e : k = N := by omega
      have HO : Hid (wr.ownsRow w.heap.size 2 1 (.slice (some ⟨w.heap.size, 0, none⟩) N N) N (L.map (Value.int .i64))) := by
        have := HN.out
        rw [e, show fillN L N = L by rw [← this]; exact fillN_all _] at hown
        exact hown
      have HB := hide hbel
      clear hown hbel hA e
      go_wp2
      go_ret
      exact ⟨rfl, HO.out, HB.out⟩
set_option maxHeartbeats 1000000 in
theorem c_eqInt64S {w : World} {ao bo : Option Addr} {L : List Int} (c c' N : Nat) (hn : L.length = N) (hl : N ≤ 1048576) (hA : NumsAt .i64 w ao L) (hB : NumsAt .i64 w bo L) :
    Calls Tryz.prog 117 #[.slice ao N c, .slice bo N c'] w fun e w' => e = .returned (.bool true) ∧ Below w.heap.size w w' := by
  have HN := hide hn
  clear hn
  go_enter Tryz.func117, Tryz.ntmps117
  go_wp2
  go_loopw [5] (fun i wr => Below w.heap.size w wr ∧ ∃ k : Nat, k ≤ N ∧ i = .int .i64 k) (fun i wr => N - (intOf i).toNat)
  case atStart => exact ⟨Below.refl _ _, 0, Nat.zero_le _, rfl⟩
  case round =>
    obtain ⟨hbel, k, hk, rfl⟩ := hrel
    have HB := hide hbel
    by_cases hkn : k < N
    · obtain ⟨u, hku⟩ : ∃ a, L[k]? = some a := ⟨L[k]'(by have := HN.out; omega), List.getElem?_eq_getElem _⟩
      obtain ⟨b, off, rfl, hcell⟩ := hA (by have := HN.out; omega)
      obtain ⟨b', off', rfl, hcell'⟩ := hB (by have := HN.out; omega)
      have hc0 := cell_past hbel (hcell k _ hku)
      have hd0 := cell_past hbel (hcell' k _ hku)
      clear hbel hku hcell hcell'
      go_wp2
      go_quiet (fail)
      go_wp2
      go_roundw
      case rel => exact ⟨bel_drews HB.out _, k + 1, by omega, by go_num⟩
      case measure => simp [intOf]; omega
    · clear hbel hA hB
      go_wp2
      go_ret
      exact ⟨rfl, HB.out⟩
end Go.Proofs.YtalmhekbagjdeaaGreatDoor
