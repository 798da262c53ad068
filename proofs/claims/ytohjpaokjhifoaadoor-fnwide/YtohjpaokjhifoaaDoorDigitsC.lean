/-
  Contracts: impl.tenTimes and impl.wideOfDigits: a text's bytes, read as digits, modulo 2^128.
-/
import Derived.Test.YtohjpaokjhifoaaDoorWide
import Derived.Test.YtohjpaokjhifoaaDoorTimes
import Derived.Test.YtohjpaokjhifoaaDoorMathR
import Derived.Test.YtohjpaokjhifoaaDoorKeep
import Derived.Deep.RegionHeld3
import Derived.Outline
namespace Go.Proofs.YtohjpaokjhifoaaDoor
set_option linter.unusedVariables false
set_option linter.unusedSimpArgs false
open Go.ChangeShapes Go.WideShapes Go.ChangeAt Go.RowKit Go.PlainAid

theorem c_tenTimes (V : Int) (w : World) :
    Calls Tryd.prog 78 #[.agg #[.int .i64 (hiW V), .int .u64 (loW V)]] w fun e w' => e = .returned (.agg #[.int .i64 (hiW (10 * V)), .int .u64 (loW (10 * V))]) ∧ Below w.heap.size w w' := by
  have HE : Hid (_ ∧ _) := ten_hw V
  have HC : Hid (∀ w, Calls Tryd.prog 43 #[.int .u64 (loW V), .int .u64 10] w fun e w' => e = .returned (.tuple #[.int .u64 (mulH (loW V) 10), .int .u64 (uw (loW V * 10))]) ∧ w' = w) := fun w => c_Mul64 _ _ (loW_in V) (by unfold U64; omega) w
  go_enter Tryd.func78, Tryd.ntmps78
  go_wp2_with (go_at_call 43; refine (HC.out _).mono ?_; rintro e w1 ⟨rfl, hw⟩; obtain rfl := hw.symm)
  exact bodyPost_ret (v := .agg #[.int .i64 (wrap64 (wrap64 (hiW V * 10) + wrap64 (mulH (loW V) 10))), .int .u64 (uw (loW V * 10))]) (by simp [results, Tryd.results78, go_sem]) rfl ⟨ret_wide HE.out.1 HE.out.2, ((Below.refl _ _).alloc (Nat.le_refl _) _).alloc (by simp) _⟩

/-- A block of a wide number. -/
def WB (w : World) (G : Nat) (V : Int) : Prop := w.heap[G]? = some (.cells #[.int .i64 (hiW V), .int .u64 (loW V)] 32 (0, 0))
theorem wb_cells {w : World} {G : Nat} {V : Int} (h : WB w G V) : w.cell? ⟨G, 0, none⟩ = some (.int .i64 (hiW V)) ∧ w.cell? ⟨G, 1, none⟩ = some (.int .u64 (loW V)) ∧ w.frozen? ⟨G, 0, none⟩ = false ∧ w.frozen? ⟨G, 1, none⟩ = false := by
  refine ⟨?_, ?_, frozen_of_row w G 0 _ _ h, frozen_of_row w G 1 _ _ h⟩
  · rw [cell_of_row w G 0 _ _ (0, 0) h]; rfl
  · rw [cell_of_row w G 1 _ _ (0, 0) h]; rfl
theorem wb_lt {w : World} {G : Nat} {V : Int} (h : WB w G V) : G < w.heap.size := by
  rcases Nat.lt_or_ge G w.heap.size with k | k
  · exact k
  · unfold WB at h; rw [Array.getElem?_eq_none k] at h; cases h
theorem wb_past {w w1 : World} {G : Nat} {V : Int} (h : WB w G V) (hb : Below w.heap.size w w1) : WB w1 G V := by
  unfold WB; rw [hb.block G (wb_lt h)]; exact h
theorem wb_set {w : World} {G : Nat} {V X : Int} (h : WB w G V) : WB ((w.setCell ⟨G, 0, none⟩ (.int .i64 (hiW X))).setCell ⟨G, 1, none⟩ (.int .u64 (loW X))) G X := by
  have h1 := heap_setCell_same w G 0 _ _ (.int .i64 (hiW X)) h
  have h2 := heap_setCell_same _ G 1 _ _ (.int .u64 (loW X)) h1
  exact h2
theorem wb_other {w : World} {G H : Nat} {V X : Int} (h : WB w G V) (hne : G ≠ H) : WB ((w.setCell ⟨H, 0, none⟩ (.int .i64 (hiW X))).setCell ⟨H, 1, none⟩ (.int .u64 (loW X))) G V := by
  unfold WB
  rw [heap_setCell_other _ _ _ _ (by simpa using hne), heap_setCell_other _ _ _ _ (by simpa using hne)]
  exact h

set_option maxHeartbeats 2000000 in
theorem c_wideOfDigits (s : ByteArray) (hs : s.size ≤ maxLen) (w : World) :
    Calls Tryd.prog 60 #[.string s] w fun e w' => e = .returned (.agg #[.int .i64 (hiW (valB s s.size)), .int .u64 (loW (valB s s.size))]) ∧ Below w.heap.size w w' := by
  unfold maxLen at hs
  have hbt := get_bt s
  go_enter Tryd.func60, Tryd.ntmps60
  go_wp2
  go_loopw [7, 4] (fun i j wr => ∃ k : Nat, k ≤ s.size ∧ i = .int .i64 k ∧ WB wr w.heap.size 0 ∧ WB wr (w.heap.size + 1) (valB s k) ∧ Below w.heap.size w wr) (fun i j wr => s.size - (intOf i).toNat)
  case atStart => exact ⟨0, Nat.zero_le _, rfl, by unfold WB; rw [zero_hw.1, zero_hw.2, Below.heap_alloc _ _ _ (by simp)]; exact heap_alloc_new w _, by unfold WB valB; rw [zero_hw.1, zero_hw.2]; have := heap_alloc_new (w.alloc (.cells #[.int .i64 0, .int .u64 0] 32)) (.cells #[.int .i64 0, .int .u64 0] 32); simpa using this, ((Below.refl _ _).alloc (Nat.le_refl _) _).alloc (by simp) _⟩
  case round =>
    obtain ⟨k, hk, rfl, hR, hV, hbel⟩ := hrel
    obtain ⟨c0, c1, f0, f1⟩ := wb_cells hV
    by_cases hlt : k < s.size
    · have hb0 := bt_nonneg s k
      have hb1 := bt_le s k
      have hki : (k : Int) < (s.size : Int) := by omega
      have ew1 : IntKind.i64.wrap (bt s k) = bt s k := IntWalk.i64_in _ ⟨by omega, by omega⟩
      have ew2 : IntKind.i64.wrap (bt s k - 48) = bt s k - 48 := IntWalk.i64_in _ ⟨by omega, by omega⟩
      have HO : Hid (∀ w, Calls Tryd.prog 21 #[.int .i64 (bt s k - 48)] w fun e w' => e = .returned (.agg #[.int .i64 (hiW (bt s k - 48)), .int .u64 (loW (bt s k - 48))]) ∧ Below w.heap.size w w') := by
        intro w
        have h := of_hw (bt s k - 48) (by unfold I64; omega)
        rw [← h.1, ← h.2]
        exact c_i_WideOf _ w
      have HA : Hid (∀ w, Calls Tryd.prog 13 #[.agg #[.int .i64 (hiW (10 * valB s k)), .int .u64 (loW (10 * valB s k))], .agg #[.int .i64 (hiW (bt s k - 48)), .int .u64 (loW (bt s k - 48))]] w fun e w' => e = .returned (.agg #[.int .i64 (hiW (10 * valB s k + (bt s k - 48))), .int .u64 (loW (10 * valB s k + (bt s k - 48)))]) ∧ Below w.heap.size w w') := by
        intro w
        have h := add_hw (10 * valB s k) (bt s k - 48)
        rw [← h.1, ← h.2]
        exact c_i_WideAdd _ _ _ _ w (loW_in _) (loW_in _)
      go_wp2_with fail
      refine wp_region_held_drew (S := fun _ => True) (by kernel_rfl) trivial (fun _ => ?_)
      refine take_at (i := 2) (d := 12) (v := .string s) rfl rfl (by kernel_rfl) (by kernel_rfl) (by kernel_rfl) (fun _ _ _ h => h) (Or.inl ⟨by rfl, fun w _ => ?_⟩) ?_
      · go_simp
      simp only [List.setIfInBounds_toArray, List.set_cons_zero, List.set_cons_succ]
      refine take_at (i := 3) (d := 13) (v := .int .i64 k) rfl rfl (by kernel_rfl) (by kernel_rfl) (by kernel_rfl) (fun _ _ _ h => h) (Or.inl ⟨by rfl, fun w _ => ?_⟩) ?_
      · go_simp
      simp only [List.setIfInBounds_toArray, List.set_cons_zero, List.set_cons_succ]
      refine take_at (i := 4) (d := 14) (v := .int .u8 (bt s k)) rfl rfl (by kernel_rfl) (by kernel_rfl) (by kernel_rfl) (fun _ _ _ h => h) (Or.inl ⟨by rfl, fun w _ => ?_⟩) ?_
      · go_simp
      simp only [List.setIfInBounds_toArray, List.set_cons_zero, List.set_cons_succ]
      refine take_at (i := 5) (d := 15) (v := .int .i64 (bt s k)) rfl rfl (by kernel_rfl) (by kernel_rfl) (by kernel_rfl) (fun _ _ _ h => h) (Or.inl ⟨by rfl, fun w _ => ?_⟩) ?_
      · go_simp
      simp only [List.setIfInBounds_toArray, List.set_cons_zero, List.set_cons_succ]
      refine take_at (i := 6) (d := 16) (v := .int .i64 (bt s k - 48)) rfl rfl (by kernel_rfl) (by kernel_rfl) (by kernel_rfl) (fun _ _ _ h => h) (Or.inl ⟨by rfl, fun w _ => ?_⟩) ?_
      · go_simp
      simp only [List.setIfInBounds_toArray, List.set_cons_zero, List.set_cons_succ]
      refine wpAnyH_ready (rs := [0]) (by kernel_rfl) (by simp) ?_
      refine AllReadyH.cons (i := 0) rfl (fun K hK => ?_) AllReadyH.nil
      go_simp
      refine hK.out _ _ trivial (fun _ => ?_)
      clear hK K
      try simp only [Act.put, List.setIfInBounds_toArray, List.set_cons_zero, List.set_cons_succ]
      refine wpAnyH_ready (rs := [1]) (by kernel_rfl) (by simp) ?_
      refine AllReadyH.cons (i := 1) rfl (fun K hK => ?_) AllReadyH.nil
      go_simp
      refine (c_tenTimes _ _).mono ?_
      rintro e w1 ⟨rfl, hb1⟩
      dsimp only
      refine hK.out _ _ trivial (fun _ => ?_)
      clear hK K
      try simp only [Act.put, List.setIfInBounds_toArray, List.set_cons_zero, List.set_cons_succ]
      refine wpAnyH_ready (rs := [7]) (by kernel_rfl) (by simp) ?_
      refine AllReadyH.cons (i := 7) rfl (fun K hK => ?_) AllReadyH.nil
      go_simp
      refine (HO.out _).mono ?_
      rintro e w2 ⟨rfl, hb2⟩
      dsimp only
      refine hK.out _ _ trivial (fun _ => ?_)
      clear hK K
      try simp only [Act.put, List.setIfInBounds_toArray, List.set_cons_zero, List.set_cons_succ]
      refine wpAnyH_ready (rs := [8]) (by kernel_rfl) (by simp) ?_
      refine AllReadyH.cons (i := 8) rfl (fun K hK => ?_) AllReadyH.nil
      go_simp
      refine (HA.out _).mono ?_
      rintro e w3 ⟨rfl, hb3⟩
      dsimp only
      refine hK.out _ _ trivial (fun _ => ?_)
      clear hK K
      try simp only [Act.put, List.setIfInBounds_toArray, List.set_cons_zero, List.set_cons_succ]
      have hT := chain (chain hb1 hb2) hb3
      have hV3 := wb_past (w := wr.drew) hV hT
      have hR3 := wb_past (w := wr.drew) hR hT
      obtain ⟨d0, d1, g0, g1⟩ := wb_cells hV3
      refine wpAnyH_ready (rs := [9]) (by kernel_rfl) (by simp) ?_
      refine AllReadyH.cons (i := 9) rfl (fun K hK => ?_) AllReadyH.nil
      go_simp
      refine hK.out _ _ trivial (fun _ => ?_)
      clear hK K
      try simp only [Act.put, List.setIfInBounds_toArray, List.set_cons_zero, List.set_cons_succ]
      refine wpAnyH_done (by kernel_rfl) ?_ _
      have hV4 := wb_set (X := 10 * valB s k + (bt s k - 48)) hV3
      have hR4 := wb_other (X := 10 * valB s k + (bt s k - 48)) (H := w.heap.size + 1) hR3 (by omega)
      have hB4 : Below w.heap.size w ((w3.setCell ⟨w.heap.size + 1, 0, none⟩ (.int .i64 (hiW (10 * valB s k + (bt s k - 48))))).setCell ⟨w.heap.size + 1, 1, none⟩ (.int .u64 (loW (10 * valB s k + (bt s k - 48))))) := ((hbel.drew.trans (hT.mono hbel.size)).setCell (by dsimp only; omega) _).setCell (by dsimp only; omega) _
      clear hV3 hR3 hT hb1 hb2 hb3 hV hR c0 c1 f0 f1 d0 d1 g0 g1
      go_wp2
      go_roundw
      case rel => exact ⟨k + 1, by omega, by go_num, hR4, hV4, hB4⟩
      case measure => simp [intOf]; omega
    · have e : k = s.size := by omega
      obtain ⟨d0, d1, g0, g1⟩ := wb_cells hR
      rw [e] at c0 c1
      clear hV hR e
      go_wp2
      refine bodyPost_ret (v := .agg #[.int .i64 (hiW (valB s s.size)), .int .u64 (loW (valB s s.size))]) (by simp [results, Tryd.results60, go_sem, d0, d1]) rfl ⟨rfl, ?_⟩
      exact (hbel.setCell (by dsimp only; omega) _).setCell (by dsimp only; omega) _
end Go.Proofs.YtohjpaokjhifoaaDoor
