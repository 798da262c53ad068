/-
  The contract of spec.WideRead: what it tells of a text is what impl.WideRead tells.
-/
import Derived.Test.YtohjpaokjhifoaaDoorMathS
namespace Go.Proofs.YtohjpaokjhifoaaDoor
set_option linter.unusedVariables false
set_option linter.unusedSimpArgs false
open Go.ChangeShapes Go.WideShapes Go.ChangeAt Go.RowKit Go.PlainAid

/-- The result's block, as it is made. -/
def RB (w : World) (G : Nat) : Prop := w.heap[G]? = some (.cells #[.int .i64 0, .int .u64 0, .int .i64 0] 39 (0, 0))
theorem rb_cells {w : World} {G : Nat} (h : RB w G) : w.cell? ⟨G, 0, none⟩ = some (.int .i64 0) ∧ w.cell? ⟨G, 1, none⟩ = some (.int .u64 0) ∧ w.cell? ⟨G, 2, none⟩ = some (.int .i64 0) ∧ w.frozen? ⟨G, 0, none⟩ = false ∧ w.frozen? ⟨G, 1, none⟩ = false ∧ w.frozen? ⟨G, 2, none⟩ = false := by
  refine ⟨?_, ?_, ?_, frozen_of_row w G 0 _ _ h, frozen_of_row w G 1 _ _ h, frozen_of_row w G 2 _ _ h⟩
  · rw [cell_of_row w G 0 _ _ (0, 0) h]; rfl
  · rw [cell_of_row w G 1 _ _ (0, 0) h]; rfl
  · rw [cell_of_row w G 2 _ _ (0, 0) h]; rfl
theorem rb_lt {w : World} {G : Nat} (h : RB w G) : G < w.heap.size := by
  rcases Nat.lt_or_ge G w.heap.size with k | k
  · exact k
  · unfold RB at h; rw [Array.getElem?_eq_none k] at h; cases h
theorem rb_past {w w1 : World} {G : Nat} (h : RB w G) (hb : Below w.heap.size w w1) : RB w1 G := by
  unfold RB; rw [hb.block G (rb_lt h)]; exact h
theorem rb_other {w : World} {G H : Nat} {x y : Value} (h : RB w G) (hne : G ≠ H) : RB ((w.setCell ⟨H, 0, none⟩ x).setCell ⟨H, 1, none⟩ y) G := by
  unfold RB
  rw [heap_setCell_other _ _ _ _ (by simpa using hne), heap_setCell_other _ _ _ _ (by simpa using hne)]
  exact h

theorem ret_out {a b c d e f : Int} (h : a = d) (k : b = e) (l : c = f) : Ending.returned (.agg #[.int .i64 a, .int .u64 b, .int .i64 c]) = .returned (.agg #[.int .i64 d, .int .u64 e, .int .i64 f]) := by rw [h, k, l]

theorem rd_size {s : ByteArray} (h : fitB s = false) : (0 = rdH s) ∧ (0 = rdL s) ∧ (2 = rdC s) := by unfold rdH rdL rdC; rw [h]; exact ⟨rfl, rfl, rfl⟩
theorem rd_bad {s : ByteArray} (hf : fitB s = true) (h : rdB s = false) : (0 = rdH s) ∧ (0 = rdL s) ∧ (3 = rdC s) := by unfold rdH rdL rdC; rw [hf, h]; exact ⟨rfl, rfl, rfl⟩
theorem rd_ok {s : ByteArray} (hf : fitB s = true) (h : rdB s = true) : (hiW (rdV s) = rdH s) ∧ (loW (rdV s) = rdL s) ∧ (0 = rdC s) := by unfold rdH rdL rdC; rw [hf, h]; exact ⟨rfl, rfl, rfl⟩

theorem c_s_WideRead_size (s : ByteArray) (hs : s.size ≤ maxLen) (h : fitB s = false) (w : World) :
    Calls Tryd.prog 20 #[.string s] w fun e w' => e = .returned (.agg #[.int .i64 (rdH s), .int .u64 (rdL s), .int .i64 (rdC s)]) ∧ Below w.heap.size w w' := by
  have hz : (20000 : Int) < (s.size : Int) := by unfold fitB at h; have := of_decide_eq_false h; omega
  have HE : Hid (_ ∧ _ ∧ _) := rd_size h
  unfold maxLen at hs
  go_enter Tryd.func20, Tryd.ntmps20
  go_wp2
  exact bodyPost_ret (v := .agg #[.int .i64 0, .int .u64 0, .int .i64 2]) (by simp [results, Tryd.results20, go_sem]) rfl ⟨ret_out HE.out.1 HE.out.2.1 HE.out.2.2, (Below.refl _ _).alloc (Nat.le_refl _) _⟩

set_option maxRecDepth 10000 in
set_option maxHeartbeats 4000000 in
theorem c_s_WideRead_pos (s : ByteArray) (hs : s.size ≤ maxLen) (h : fitB s = true) (hn : negB s = false) (w : World) :
    Calls Tryd.prog 20 #[.string s] w fun e w' => e = .returned (.agg #[.int .i64 (rdH s), .int .u64 (rdL s), .int .i64 (rdC s)]) ∧ Below w.heap.size w w' := by
  have hz : ¬ (20000 : Int) < (s.size : Int) := by unfold fitB at h; have := of_decide_eq_true h; omega
  have hbt := get_bt s
  have hT : s = tailS s := by unfold tailS; rw [hn]; rfl
  have hTz : s.size ≤ 20000 := by unfold fitB at h; have := of_decide_eq_true h; omega
  have HT : Hid (s = tailS s) := hT
  have HV : Hid (rdV s = valB s s.size) := (by unfold rdV; rw [hn, ← hT]; rfl : rdV s = valB s s.size)
  have HX : Hid (rdB s = true → s.size ≤ 39 ∧ ∀ k, k < s.size → 48 ≤ bt s k ∧ bt s k ≤ 57) := by
    intro hr; have := rd_true s hr; rw [← hT] at this; exact this
  have HF : Hid (fitB s = true) := h
  clear hT hs h
  have hcase : ((decide ((0 : Int) < (s.size : Int)) = false) ∧ s.size = 0) ∨ ((0 : Int) < (s.size : Int) ∧ (bt s 0 == 45) = false) := by
    by_cases k : 0 < s.size
    · refine .inr ⟨by omega, ?_⟩
      unfold negB at hn; rw [decide_eq_true k] at hn; simpa using hn
    · exact .inl ⟨decide_eq_false (by omega), by omega⟩
  by_cases h40 : 40 < s.size
  · have HB : Hid (_ ∧ _ ∧ _) := rd_bad HF.out (by cases hr : rdB s with | false => rfl | true => exact absurd (HX.out hr).1 (by omega))
    have hj : (40 : Int) < (s.size : Int) := by omega
    rcases hcase with ⟨hc, hc0⟩ | ⟨hc, hc1⟩
    · omega
    · clear hn
      go_enter Tryd.func20, Tryd.ntmps20
      go_wp2
      exact bodyPost_ret (v := .agg #[.int .i64 0, .int .u64 0, .int .i64 3]) (by simp [results, Tryd.results20, go_sem]) rfl ⟨ret_out HB.out.1 HB.out.2.1 HB.out.2.2, (Below.refl _ _).alloc (Nat.le_refl _) _⟩
  · have hj : ¬ (40 : Int) < (s.size : Int) := by omega
    clear hn h40
    rcases hcase with ⟨hc, hc0⟩ | ⟨hc, hc1⟩
    · go_enter Tryd.func20, Tryd.ntmps20
      go_wp2
      go_loopw [6, 7, 8] (fun i h l wr => ∃ k : Nat, k ≤ s.size ∧ i = .int .i64 k ∧ (∀ j, j < k → 48 ≤ bt s j ∧ bt s j ≤ 57) ∧ RB wr w.heap.size ∧ WB wr (w.heap.size + 1) (valB s k) ∧ Below w.heap.size w wr) (fun i h l wr => s.size - (intOf i).toNat)
      case atStart => exact ⟨0, Nat.zero_le _, rfl, fun j hj => absurd hj (by omega), by unfold RB; rw [Below.heap_alloc _ _ _ (by simp)]; exact heap_alloc_new w _, by unfold WB valB; rw [zero_hw.1, zero_hw.2]; have := heap_alloc_new (w.alloc (.cells #[.int .i64 0, .int .u64 0, .int .i64 0] 39)) (.cells #[.int .i64 0, .int .u64 0] 32); simpa using this, ((Below.refl _ _).alloc (Nat.le_refl _) _).alloc (by simp) _⟩
      case round =>
        obtain ⟨k, hk, rfl, hdg, hR, hV, hbel⟩ := hrel
        obtain ⟨c0, c1, f0, f1⟩ := wb_cells hV
        have hb0 := bt_nonneg s k
        have hb1 := bt_le s k
        by_cases hlt : k < s.size
        · exact absurd hlt (by omega)
        · have e : k = s.size := by omega
          subst e
          have hki : ¬ (s.size : Int) < (s.size : Int) := by omega
          have hz0 := hbel.size
          clear hdg hb0 hb1
          rw [← HV.out] at c0 c1 hV
          cases hr : rdB s
          · have HB : Hid (_ ∧ _ ∧ _) := rd_bad HF.out hr
            unfold rdB at hr
            go_wp2_with (first
            | (go_at_call 44; refine (c_s_WideText _ _ (hiW_in _) (loW_in _) _).mono ?_; rintro e w3 ⟨rfl, hb3⟩; have hR3 := rb_past hR hb3; have hV3 := wb_past hV hb3; obtain ⟨p0, p1, q0, q1⟩ := wb_cells hV3; obtain ⟨r0, r1, r2, u0, u1, u2⟩ := rb_cells hR3))
            exact bodyPost_ret (v := .agg #[.int .i64 0, .int .u64 0, .int .i64 3]) (by simp [results, Tryd.results20, go_sem, r0, r1, r2]) rfl ⟨ret_out HB.out.1 HB.out.2.1 HB.out.2.2, (((hbel.trans (hb3.mono hbel.size)).setCell (by dsimp only; omega) _).setCell (by dsimp only; omega) _).setCell (by dsimp only; omega) _⟩
          · have HB : Hid (_ ∧ _ ∧ _) := rd_ok HF.out hr
            unfold rdB at hr
            go_wp2_with (first
            | (go_at_call 44; refine (c_s_WideText _ _ (hiW_in _) (loW_in _) _).mono ?_; rintro e w3 ⟨rfl, hb3⟩; have hR3 := rb_past hR hb3; have hV3 := wb_past hV hb3; obtain ⟨p0, p1, q0, q1⟩ := wb_cells hV3; obtain ⟨r0, r1, r2, u0, u1, u2⟩ := rb_cells hR3))
            exact bodyPost_ret (v := .agg #[.int .i64 (hiW (rdV s)), .int .u64 (loW (rdV s)), .int .i64 0]) (by simp [results, Tryd.results20, go_sem, r0, r1, r2]) rfl ⟨ret_out HB.out.1 HB.out.2.1 HB.out.2.2, (((hbel.trans (hb3.mono hbel.size)).setCell (by dsimp only; omega) _).setCell (by dsimp only; omega) _).setCell (by dsimp only; omega) _⟩
    · go_enter Tryd.func20, Tryd.ntmps20
      go_wp2
      go_loopw [6, 7, 8] (fun i h l wr => ∃ k : Nat, k ≤ s.size ∧ i = .int .i64 k ∧ (∀ j, j < k → 48 ≤ bt s j ∧ bt s j ≤ 57) ∧ RB wr w.heap.size ∧ WB wr (w.heap.size + 1) (valB s k) ∧ Below w.heap.size w wr) (fun i h l wr => s.size - (intOf i).toNat)
      case atStart => exact ⟨0, Nat.zero_le _, rfl, fun j hj => absurd hj (by omega), by unfold RB; rw [Below.heap_alloc _ _ _ (by simp)]; exact heap_alloc_new w _, by unfold WB valB; rw [zero_hw.1, zero_hw.2]; have := heap_alloc_new (w.alloc (.cells #[.int .i64 0, .int .u64 0, .int .i64 0] 39)) (.cells #[.int .i64 0, .int .u64 0] 32); simpa using this, ((Below.refl _ _).alloc (Nat.le_refl _) _).alloc (by simp) _⟩
      case round =>
        obtain ⟨k, hk, rfl, hdg, hR, hV, hbel⟩ := hrel
        obtain ⟨c0, c1, f0, f1⟩ := wb_cells hV
        have hb0 := bt_nonneg s k
        have hb1 := bt_le s k
        by_cases hlt : k < s.size
        · have hki : (k : Int) < (s.size : Int) := by omega
          have hcs : (bt s k < 48) ∨ (decide (bt s k < 48) = false ∧ 57 < bt s k) ∨ (decide (bt s k < 48) = false ∧ decide (57 < bt s k) = false ∧ 48 ≤ bt s k ∧ bt s k ≤ 57) := by
            simp only [decide_eq_false_iff_not]; omega
          rcases hcs with hd | ⟨hd, hd2⟩ | ⟨hd, hd2, hd3, hd4⟩
          · have HB : Hid (_ ∧ _ ∧ _) := rd_bad HF.out (by cases hr : rdB s with | false => rfl | true => exact absurd ((HX.out hr).2 k hlt) (by omega))
            obtain ⟨r0, r1, r2, u0, u1, u2⟩ := rb_cells hR
            clear hdg hV hR
            go_wp2
            exact bodyPost_ret (v := .agg #[.int .i64 0, .int .u64 0, .int .i64 3]) (by simp [results, Tryd.results20, go_sem, r0, r1, r2]) rfl ⟨ret_out HB.out.1 HB.out.2.1 HB.out.2.2, ((hbel.setCell (by dsimp only; omega) _).setCell (by dsimp only; omega) _).setCell (by dsimp only; omega) _⟩
          · have HB : Hid (_ ∧ _ ∧ _) := rd_bad HF.out (by cases hr : rdB s with | false => rfl | true => exact absurd ((HX.out hr).2 k hlt) (by omega))
            obtain ⟨r0, r1, r2, u0, u1, u2⟩ := rb_cells hR
            clear hdg hV hR
            go_wp2
            exact bodyPost_ret (v := .agg #[.int .i64 0, .int .u64 0, .int .i64 3]) (by simp [results, Tryd.results20, go_sem, r0, r1, r2]) rfl ⟨ret_out HB.out.1 HB.out.2.1 HB.out.2.2, ((hbel.setCell (by dsimp only; omega) _).setCell (by dsimp only; omega) _).setCell (by dsimp only; omega) _⟩
          have HD : Hid (∀ j, j < k + 1 → 48 ≤ bt s j ∧ bt s j ≤ 57) := (fun j hj => by
            rcases Nat.lt_or_ge j k with h1 | h1
            · exact hdg j h1
            · rw [show j = k by omega]; exact ⟨hd3, hd4⟩ : ∀ j, j < k + 1 → 48 ≤ bt s j ∧ bt s j ≤ 57)
          have HM : Hid (∀ w, Calls Tryd.prog 45 #[.int .u64 (loW (valB s k)), .int .u64 10] w fun e w' => e = .returned (.tuple #[.int .u64 (mulH (loW (valB s k)) 10), .int .u64 (loW (10 * valB s k))]) ∧ w' = w) := by
            rw [← (ten_hw _).2]; exact fun w => c_l01Mul _ _ (loW_in _) (by unfold U64; omega) w
          have e4 := ten_hw' (valB s k)
          rw [← i64_is] at e4
          have ew1 : IntKind.u8.wrap (bt s k - 48) = bt s k - 48 := IntWalk.u8_in _ ⟨by omega, by omega⟩
          have ew2 : IntKind.u64.wrap (bt s k - 48) = bt s k - 48 := IntWalk.u64_in _ ⟨by omega, by omega⟩
          have HA : Hid (∀ w, Calls Tryd.prog 14 #[.agg #[.int .i64 (hiW (10 * valB s k)), .int .u64 (loW (10 * valB s k))], .agg #[.int .i64 0, .int .u64 (bt s k - 48)]] w fun e w' => e = .returned (.agg #[.int .i64 (hiW (10 * valB s k + (bt s k - 48))), .int .u64 (loW (10 * valB s k + (bt s k - 48)))]) ∧ Below w.heap.size w w') := by
            intro w
            have h := add_hw (10 * valB s k) (bt s k - 48)
            have e1 : hiW (bt s k - 48) = 0 := by unfold hiW wrap64; omega
            have e2 : loW (bt s k - 48) = bt s k - 48 := by unfold loW uw; omega
            rw [e1, e2] at h
            rw [← h.1, ← h.2]
            exact c_s_WideAdd _ _ _ _ w (loW_in _) (by unfold U64; omega)
          clear hdg
          go_wp2_with (go_at_call 45; refine (HM.out _).mono ?_; rintro e w1 ⟨rfl, hw⟩; obtain rfl := hw.symm)
          refine wp_region_held_drew (S := fun _ => True) (by kernel_rfl) trivial (fun _ => ?_)
          refine take_at (i := 0) (d := 53) (v := .pointer (some ⟨w.heap.size + 1, 0, none⟩)) rfl rfl (by kernel_rfl) (by kernel_rfl) (by kernel_rfl) (fun _ _ _ h => h) (Or.inl ⟨by rfl, fun w _ => ?_⟩) ?_
          · go_simp
          simp only [List.setIfInBounds_toArray, List.set_cons_zero, List.set_cons_succ]
          refine take_at (i := 4) (d := 57) (v := .int .u64 (mulH (loW (valB s k)) 10)) rfl rfl (by kernel_rfl) (by kernel_rfl) (by kernel_rfl) (fun _ _ _ h => h) (Or.inl ⟨by rfl, fun w _ => ?_⟩) ?_
          · go_simp
          simp only [List.setIfInBounds_toArray, List.set_cons_zero, List.set_cons_succ]
          refine take_at (i := 7) (d := 60) (v := .int .u64 (loW (10 * valB s k))) rfl rfl (by kernel_rfl) (by kernel_rfl) (by kernel_rfl) (fun _ _ _ h => h) (Or.inl ⟨by rfl, fun w _ => ?_⟩) ?_
          · go_simp
          simp only [List.setIfInBounds_toArray, List.set_cons_zero, List.set_cons_succ]
          refine take_at (i := 9) (d := 62) (v := .string s) rfl rfl (by kernel_rfl) (by kernel_rfl) (by kernel_rfl) (fun _ _ _ h => h) (Or.inl ⟨by rfl, fun w _ => ?_⟩) ?_
          · go_simp
          simp only [List.setIfInBounds_toArray, List.set_cons_zero, List.set_cons_succ]
          refine take_at (i := 10) (d := 63) (v := .int .i64 k) rfl rfl (by kernel_rfl) (by kernel_rfl) (by kernel_rfl) (fun _ _ _ h => h) (Or.inl ⟨by rfl, fun w _ => ?_⟩) ?_
          · go_simp
          simp only [List.setIfInBounds_toArray, List.set_cons_zero, List.set_cons_succ]
          refine take_at (i := 11) (d := 64) (v := .int .u8 (bt s k)) rfl rfl (by kernel_rfl) (by kernel_rfl) (by kernel_rfl) (fun _ _ _ h => h) (Or.inl ⟨by rfl, fun w _ => ?_⟩) ?_
          · go_simp
          simp only [List.setIfInBounds_toArray, List.set_cons_zero, List.set_cons_succ]
          refine take_at (i := 12) (d := 65) (v := .int .u8 (bt s k - 48)) rfl rfl (by kernel_rfl) (by kernel_rfl) (by kernel_rfl) (fun _ _ _ h => h) (Or.inl ⟨by rfl, fun w _ => ?_⟩) ?_
          · go_simp
          simp only [List.setIfInBounds_toArray, List.set_cons_zero, List.set_cons_succ]
          refine take_at (i := 13) (d := 66) (v := .int .u64 (bt s k - 48)) rfl rfl (by kernel_rfl) (by kernel_rfl) (by kernel_rfl) (fun _ _ _ h => h) (Or.inl ⟨by rfl, fun w _ => ?_⟩) ?_
          · go_simp
          simp only [List.setIfInBounds_toArray, List.set_cons_zero, List.set_cons_succ]
          refine take_at (i := 14) (d := 67) (v := .agg #[.int .i64 0, .int .u64 (bt s k - 48)]) rfl rfl (by kernel_rfl) (by kernel_rfl) (by kernel_rfl) (fun _ _ _ h => h) (Or.inl ⟨by rfl, fun w _ => ?_⟩) ?_
          · go_simp
          simp only [List.setIfInBounds_toArray, List.set_cons_zero, List.set_cons_succ]
          refine wpAnyH_ready (rs := [1]) (by kernel_rfl) (by simp) ?_
          refine AllReadyH.cons (i := 1) rfl (fun K hK => ?_) AllReadyH.nil
          go_simp
          refine hK.out _ _ trivial (fun _ => ?_)
          clear hK K
          try simp only [Act.put, List.setIfInBounds_toArray, List.set_cons_zero, List.set_cons_succ]
          refine take_at (i := 2) (d := 55) (v := .int .u64 (IntKind.u64.wrap (hiW (valB s k)))) rfl rfl (by kernel_rfl) (by kernel_rfl) (by kernel_rfl) (fun _ _ _ h => h) (Or.inl ⟨by rfl, fun w _ => ?_⟩) ?_
          · go_simp
          simp only [List.setIfInBounds_toArray, List.set_cons_zero, List.set_cons_succ]
          refine take_at (i := 3) (d := 56) (v := .int .u64 (IntKind.u64.wrap (IntKind.u64.wrap (hiW (valB s k)) * 10))) rfl rfl (by kernel_rfl) (by kernel_rfl) (by kernel_rfl) (fun _ _ _ h => h) (Or.inl ⟨by rfl, fun w _ => ?_⟩) ?_
          · go_simp
          simp only [List.setIfInBounds_toArray, List.set_cons_zero, List.set_cons_succ]
          refine take_at (i := 5) (d := 58) (v := .int .u64 (IntKind.u64.wrap (IntKind.u64.wrap (IntKind.u64.wrap (hiW (valB s k)) * 10) + mulH (loW (valB s k)) 10))) rfl rfl (by kernel_rfl) (by kernel_rfl) (by kernel_rfl) (fun _ _ _ h => h) (Or.inl ⟨by rfl, fun w _ => ?_⟩) ?_
          · go_simp
          simp only [List.setIfInBounds_toArray, List.set_cons_zero, List.set_cons_succ]
          refine take_at (i := 6) (d := 59) (v := .int .i64 (hiW (10 * valB s k))) rfl rfl (by kernel_rfl) (by kernel_rfl) (by kernel_rfl) (fun _ _ _ h => h) (Or.inl ⟨by rfl, fun w _ => ?_⟩) ?_
          · go_simp
          simp only [List.setIfInBounds_toArray, List.set_cons_zero, List.set_cons_succ]
          refine take_at (i := 8) (d := 61) (v := .agg #[.int .i64 (hiW (10 * valB s k)), .int .u64 (loW (10 * valB s k))]) rfl rfl (by kernel_rfl) (by kernel_rfl) (by kernel_rfl) (fun _ _ _ h => h) (Or.inl ⟨by rfl, fun w _ => ?_⟩) ?_
          · go_simp
          simp only [List.setIfInBounds_toArray, List.set_cons_zero, List.set_cons_succ]
          refine wpAnyH_ready (rs := [15]) (by kernel_rfl) (by simp) ?_
          refine AllReadyH.cons (i := 15) rfl (fun K hK => ?_) AllReadyH.nil
          go_simp
          refine (HA.out _).mono ?_
          rintro e w3 ⟨rfl, hb3⟩
          dsimp only
          refine hK.out _ _ trivial (fun _ => ?_)
          clear hK K
          try simp only [Act.put, List.setIfInBounds_toArray, List.set_cons_zero, List.set_cons_succ]
          have hV3 := wb_past (w := wr.drew) hV hb3
          have hR3 := rb_past (w := wr.drew) hR hb3
          obtain ⟨d0, d1, g0, g1⟩ := wb_cells hV3
          refine wpAnyH_ready (rs := [16]) (by kernel_rfl) (by simp) ?_
          refine AllReadyH.cons (i := 16) rfl (fun K hK => ?_) AllReadyH.nil
          go_simp
          refine hK.out _ _ trivial (fun _ => ?_)
          clear hK K
          try simp only [Act.put, List.setIfInBounds_toArray, List.set_cons_zero, List.set_cons_succ]
          refine wpAnyH_done (by kernel_rfl) ?_ _
          have hV4 := wb_set (X := 10 * valB s k + (bt s k - 48)) hV3
          have hR4 := rb_other (H := w.heap.size + 1) (x := .int .i64 (hiW (10 * valB s k + (bt s k - 48)))) (y := .int .u64 (loW (10 * valB s k + (bt s k - 48)))) hR3 (by omega)
          have hB4 : Below w.heap.size w ((w3.setCell ⟨w.heap.size + 1, 0, none⟩ (.int .i64 (hiW (10 * valB s k + (bt s k - 48))))).setCell ⟨w.heap.size + 1, 1, none⟩ (.int .u64 (loW (10 * valB s k + (bt s k - 48))))) := ((hbel.drew.trans (hb3.mono hbel.size)).setCell (by dsimp only; omega) _).setCell (by dsimp only; omega) _
          clear hV3 hR3 hb3 hV hR c0 c1 f0 f1 d0 d1 g0 g1 ew1 ew2 e4
          go_wp2
          go_roundw
          case rel => exact ⟨k + 1, by omega, by go_num, HD.out, hR4, hV4, hB4⟩
          case measure => simp [intOf]; omega
        · have e : k = s.size := by omega
          subst e
          have hki : ¬ (s.size : Int) < (s.size : Int) := by omega
          have hz0 := hbel.size
          clear hdg hb0 hb1
          rw [← HV.out] at c0 c1 hV
          cases hr : rdB s
          · have HB : Hid (_ ∧ _ ∧ _) := rd_bad HF.out hr
            unfold rdB at hr
            go_wp2_with (first
            | (go_at_call 44; refine (c_s_WideText _ _ (hiW_in _) (loW_in _) _).mono ?_; rintro e w3 ⟨rfl, hb3⟩; have hR3 := rb_past hR hb3; have hV3 := wb_past hV hb3; obtain ⟨p0, p1, q0, q1⟩ := wb_cells hV3; obtain ⟨r0, r1, r2, u0, u1, u2⟩ := rb_cells hR3))
            exact bodyPost_ret (v := .agg #[.int .i64 0, .int .u64 0, .int .i64 3]) (by simp [results, Tryd.results20, go_sem, r0, r1, r2]) rfl ⟨ret_out HB.out.1 HB.out.2.1 HB.out.2.2, (((hbel.trans (hb3.mono hbel.size)).setCell (by dsimp only; omega) _).setCell (by dsimp only; omega) _).setCell (by dsimp only; omega) _⟩
          · have HB : Hid (_ ∧ _ ∧ _) := rd_ok HF.out hr
            unfold rdB at hr
            go_wp2_with (first
            | (go_at_call 44; refine (c_s_WideText _ _ (hiW_in _) (loW_in _) _).mono ?_; rintro e w3 ⟨rfl, hb3⟩; have hR3 := rb_past hR hb3; have hV3 := wb_past hV hb3; obtain ⟨p0, p1, q0, q1⟩ := wb_cells hV3; obtain ⟨r0, r1, r2, u0, u1, u2⟩ := rb_cells hR3))
            exact bodyPost_ret (v := .agg #[.int .i64 (hiW (rdV s)), .int .u64 (loW (rdV s)), .int .i64 0]) (by simp [results, Tryd.results20, go_sem, r0, r1, r2]) rfl ⟨ret_out HB.out.1 HB.out.2.1 HB.out.2.2, (((hbel.trans (hb3.mono hbel.size)).setCell (by dsimp only; omega) _).setCell (by dsimp only; omega) _).setCell (by dsimp only; omega) _⟩

set_option maxRecDepth 10000 in
set_option maxHeartbeats 4000000 in
theorem c_s_WideRead_neg (s : ByteArray) (hs : s.size ≤ maxLen) (h : fitB s = true) (hn : negB s = true) (w : World) :
    Calls Tryd.prog 20 #[.string s] w fun e w' => e = .returned (.agg #[.int .i64 (rdH s), .int .u64 (rdL s), .int .i64 (rdC s)]) ∧ Below w.heap.size w w' := by
  have hz : ¬ (20000 : Int) < (s.size : Int) := by unfold fitB at h; have := of_decide_eq_true h; omega
  have hbt := get_bt s
  obtain ⟨T, hT⟩ : ∃ T, T = tailS s := ⟨_, rfl⟩
  have hbT := get_bt T
  have hTs : T.size ≤ s.size := by rw [hT]; exact tailS_le s
  have hTz : T.size ≤ 20000 := by unfold fitB at h; have := of_decide_eq_true h; omega
  have ET : s.extract 1 s.size = T := by rw [hT]; unfold tailS; rw [hn]; rfl
  have hb45 : (bt s 0 == 45) = true := (Bool.and_eq_true_iff.1 hn).2
  have hp0 : (0 : Int) < (s.size : Int) := by have := of_decide_eq_true (Bool.and_eq_true_iff.1 hn).1; omega
  have hp1 : (1 : Int) ≤ (s.size : Int) := by omega
  have HT : Hid (T = tailS s) := hT
  have HV : Hid (rdV s = -(valB T T.size)) := (by unfold rdV; rw [hn, ← hT]; rfl : rdV s = -(valB T T.size))
  have HX : Hid (rdB s = true → T.size ≤ 39 ∧ ∀ k, k < T.size → 48 ≤ bt T k ∧ bt T k ≤ 57) := by
    intro hr; have := rd_true s hr; rw [← hT] at this; exact this
  have HF : Hid (fitB s = true) := h
  clear hT hs h hTs
  by_cases h40 : 40 < T.size
  · have HB : Hid (_ ∧ _ ∧ _) := rd_bad HF.out (by cases hr : rdB s with | false => rfl | true => exact absurd (HX.out hr).1 (by omega))
    have hj : (40 : Int) < (T.size : Int) := by omega
    clear hn
    go_enter Tryd.func20, Tryd.ntmps20
    go_wp2
    exact bodyPost_ret (v := .agg #[.int .i64 0, .int .u64 0, .int .i64 3]) (by simp [results, Tryd.results20, go_sem]) rfl ⟨ret_out HB.out.1 HB.out.2.1 HB.out.2.2, (Below.refl _ _).alloc (Nat.le_refl _) _⟩
  · have hj : ¬ (40 : Int) < (T.size : Int) := by omega
    clear hn h40
    · go_enter Tryd.func20, Tryd.ntmps20
      go_wp2
      go_loopw [6, 7, 8] (fun i h l wr => ∃ k : Nat, k ≤ T.size ∧ i = .int .i64 k ∧ (∀ j, j < k → 48 ≤ bt T j ∧ bt T j ≤ 57) ∧ RB wr w.heap.size ∧ WB wr (w.heap.size + 1) (valB T k) ∧ Below w.heap.size w wr) (fun i h l wr => T.size - (intOf i).toNat)
      case atStart => exact ⟨0, Nat.zero_le _, rfl, fun j hj => absurd hj (by omega), by unfold RB; rw [Below.heap_alloc _ _ _ (by simp)]; exact heap_alloc_new w _, by unfold WB valB; rw [zero_hw.1, zero_hw.2]; have := heap_alloc_new (w.alloc (.cells #[.int .i64 0, .int .u64 0, .int .i64 0] 39)) (.cells #[.int .i64 0, .int .u64 0] 32); simpa using this, ((Below.refl _ _).alloc (Nat.le_refl _) _).alloc (by simp) _⟩
      case round =>
        obtain ⟨k, hk, rfl, hdg, hR, hV, hbel⟩ := hrel
        obtain ⟨c0, c1, f0, f1⟩ := wb_cells hV
        have hb0 := bt_nonneg T k
        have hb1 := bt_le T k
        by_cases hlt : k < T.size
        · have hki : (k : Int) < (T.size : Int) := by omega
          have hcs : (bt T k < 48) ∨ (decide (bt T k < 48) = false ∧ 57 < bt T k) ∨ (decide (bt T k < 48) = false ∧ decide (57 < bt T k) = false ∧ 48 ≤ bt T k ∧ bt T k ≤ 57) := by
            simp only [decide_eq_false_iff_not]; omega
          rcases hcs with hd | ⟨hd, hd2⟩ | ⟨hd, hd2, hd3, hd4⟩
          · have HB : Hid (_ ∧ _ ∧ _) := rd_bad HF.out (by cases hr : rdB s with | false => rfl | true => exact absurd ((HX.out hr).2 k hlt) (by omega))
            obtain ⟨r0, r1, r2, u0, u1, u2⟩ := rb_cells hR
            clear hdg hV hR
            go_wp2
            exact bodyPost_ret (v := .agg #[.int .i64 0, .int .u64 0, .int .i64 3]) (by simp [results, Tryd.results20, go_sem, r0, r1, r2]) rfl ⟨ret_out HB.out.1 HB.out.2.1 HB.out.2.2, ((hbel.setCell (by dsimp only; omega) _).setCell (by dsimp only; omega) _).setCell (by dsimp only; omega) _⟩
          · have HB : Hid (_ ∧ _ ∧ _) := rd_bad HF.out (by cases hr : rdB s with | false => rfl | true => exact absurd ((HX.out hr).2 k hlt) (by omega))
            obtain ⟨r0, r1, r2, u0, u1, u2⟩ := rb_cells hR
            clear hdg hV hR
            go_wp2
            exact bodyPost_ret (v := .agg #[.int .i64 0, .int .u64 0, .int .i64 3]) (by simp [results, Tryd.results20, go_sem, r0, r1, r2]) rfl ⟨ret_out HB.out.1 HB.out.2.1 HB.out.2.2, ((hbel.setCell (by dsimp only; omega) _).setCell (by dsimp only; omega) _).setCell (by dsimp only; omega) _⟩
          have HD : Hid (∀ j, j < k + 1 → 48 ≤ bt T j ∧ bt T j ≤ 57) := (fun j hj => by
            rcases Nat.lt_or_ge j k with h1 | h1
            · exact hdg j h1
            · rw [show j = k by omega]; exact ⟨hd3, hd4⟩ : ∀ j, j < k + 1 → 48 ≤ bt T j ∧ bt T j ≤ 57)
          have HM : Hid (∀ w, Calls Tryd.prog 45 #[.int .u64 (loW (valB T k)), .int .u64 10] w fun e w' => e = .returned (.tuple #[.int .u64 (mulH (loW (valB T k)) 10), .int .u64 (loW (10 * valB T k))]) ∧ w' = w) := by
            rw [← (ten_hw _).2]; exact fun w => c_l01Mul _ _ (loW_in _) (by unfold U64; omega) w
          have e4 := ten_hw' (valB T k)
          rw [← i64_is] at e4
          have ew1 : IntKind.u8.wrap (bt T k - 48) = bt T k - 48 := IntWalk.u8_in _ ⟨by omega, by omega⟩
          have ew2 : IntKind.u64.wrap (bt T k - 48) = bt T k - 48 := IntWalk.u64_in _ ⟨by omega, by omega⟩
          have HA : Hid (∀ w, Calls Tryd.prog 14 #[.agg #[.int .i64 (hiW (10 * valB T k)), .int .u64 (loW (10 * valB T k))], .agg #[.int .i64 0, .int .u64 (bt T k - 48)]] w fun e w' => e = .returned (.agg #[.int .i64 (hiW (10 * valB T k + (bt T k - 48))), .int .u64 (loW (10 * valB T k + (bt T k - 48)))]) ∧ Below w.heap.size w w') := by
            intro w
            have h := add_hw (10 * valB T k) (bt T k - 48)
            have e1 : hiW (bt T k - 48) = 0 := by unfold hiW wrap64; omega
            have e2 : loW (bt T k - 48) = bt T k - 48 := by unfold loW uw; omega
            rw [e1, e2] at h
            rw [← h.1, ← h.2]
            exact c_s_WideAdd _ _ _ _ w (loW_in _) (by unfold U64; omega)
          clear hdg
          go_wp2_with (go_at_call 45; refine (HM.out _).mono ?_; rintro e w1 ⟨rfl, hw⟩; obtain rfl := hw.symm)
          refine wp_region_held_drew (S := fun _ => True) (by kernel_rfl) trivial (fun _ => ?_)
          refine take_at (i := 0) (d := 53) (v := .pointer (some ⟨w.heap.size + 1, 0, none⟩)) rfl rfl (by kernel_rfl) (by kernel_rfl) (by kernel_rfl) (fun _ _ _ h => h) (Or.inl ⟨by rfl, fun w _ => ?_⟩) ?_
          · go_simp
          simp only [List.setIfInBounds_toArray, List.set_cons_zero, List.set_cons_succ]
          refine take_at (i := 4) (d := 57) (v := .int .u64 (mulH (loW (valB T k)) 10)) rfl rfl (by kernel_rfl) (by kernel_rfl) (by kernel_rfl) (fun _ _ _ h => h) (Or.inl ⟨by rfl, fun w _ => ?_⟩) ?_
          · go_simp
          simp only [List.setIfInBounds_toArray, List.set_cons_zero, List.set_cons_succ]
          refine take_at (i := 7) (d := 60) (v := .int .u64 (loW (10 * valB T k))) rfl rfl (by kernel_rfl) (by kernel_rfl) (by kernel_rfl) (fun _ _ _ h => h) (Or.inl ⟨by rfl, fun w _ => ?_⟩) ?_
          · go_simp
          simp only [List.setIfInBounds_toArray, List.set_cons_zero, List.set_cons_succ]
          refine take_at (i := 9) (d := 62) (v := .string T) rfl rfl (by kernel_rfl) (by kernel_rfl) (by kernel_rfl) (fun _ _ _ h => h) (Or.inl ⟨by rfl, fun w _ => ?_⟩) ?_
          · go_simp
          simp only [List.setIfInBounds_toArray, List.set_cons_zero, List.set_cons_succ]
          refine take_at (i := 10) (d := 63) (v := .int .i64 k) rfl rfl (by kernel_rfl) (by kernel_rfl) (by kernel_rfl) (fun _ _ _ h => h) (Or.inl ⟨by rfl, fun w _ => ?_⟩) ?_
          · go_simp
          simp only [List.setIfInBounds_toArray, List.set_cons_zero, List.set_cons_succ]
          refine take_at (i := 11) (d := 64) (v := .int .u8 (bt T k)) rfl rfl (by kernel_rfl) (by kernel_rfl) (by kernel_rfl) (fun _ _ _ h => h) (Or.inl ⟨by rfl, fun w _ => ?_⟩) ?_
          · go_simp
          simp only [List.setIfInBounds_toArray, List.set_cons_zero, List.set_cons_succ]
          refine take_at (i := 12) (d := 65) (v := .int .u8 (bt T k - 48)) rfl rfl (by kernel_rfl) (by kernel_rfl) (by kernel_rfl) (fun _ _ _ h => h) (Or.inl ⟨by rfl, fun w _ => ?_⟩) ?_
          · go_simp
          simp only [List.setIfInBounds_toArray, List.set_cons_zero, List.set_cons_succ]
          refine take_at (i := 13) (d := 66) (v := .int .u64 (bt T k - 48)) rfl rfl (by kernel_rfl) (by kernel_rfl) (by kernel_rfl) (fun _ _ _ h => h) (Or.inl ⟨by rfl, fun w _ => ?_⟩) ?_
          · go_simp
          simp only [List.setIfInBounds_toArray, List.set_cons_zero, List.set_cons_succ]
          refine take_at (i := 14) (d := 67) (v := .agg #[.int .i64 0, .int .u64 (bt T k - 48)]) rfl rfl (by kernel_rfl) (by kernel_rfl) (by kernel_rfl) (fun _ _ _ h => h) (Or.inl ⟨by rfl, fun w _ => ?_⟩) ?_
          · go_simp
          simp only [List.setIfInBounds_toArray, List.set_cons_zero, List.set_cons_succ]
          refine wpAnyH_ready (rs := [1]) (by kernel_rfl) (by simp) ?_
          refine AllReadyH.cons (i := 1) rfl (fun K hK => ?_) AllReadyH.nil
          go_simp
          refine hK.out _ _ trivial (fun _ => ?_)
          clear hK K
          try simp only [Act.put, List.setIfInBounds_toArray, List.set_cons_zero, List.set_cons_succ]
          refine take_at (i := 2) (d := 55) (v := .int .u64 (IntKind.u64.wrap (hiW (valB T k)))) rfl rfl (by kernel_rfl) (by kernel_rfl) (by kernel_rfl) (fun _ _ _ h => h) (Or.inl ⟨by rfl, fun w _ => ?_⟩) ?_
          · go_simp
          simp only [List.setIfInBounds_toArray, List.set_cons_zero, List.set_cons_succ]
          refine take_at (i := 3) (d := 56) (v := .int .u64 (IntKind.u64.wrap (IntKind.u64.wrap (hiW (valB T k)) * 10))) rfl rfl (by kernel_rfl) (by kernel_rfl) (by kernel_rfl) (fun _ _ _ h => h) (Or.inl ⟨by rfl, fun w _ => ?_⟩) ?_
          · go_simp
          simp only [List.setIfInBounds_toArray, List.set_cons_zero, List.set_cons_succ]
          refine take_at (i := 5) (d := 58) (v := .int .u64 (IntKind.u64.wrap (IntKind.u64.wrap (IntKind.u64.wrap (hiW (valB T k)) * 10) + mulH (loW (valB T k)) 10))) rfl rfl (by kernel_rfl) (by kernel_rfl) (by kernel_rfl) (fun _ _ _ h => h) (Or.inl ⟨by rfl, fun w _ => ?_⟩) ?_
          · go_simp
          simp only [List.setIfInBounds_toArray, List.set_cons_zero, List.set_cons_succ]
          refine take_at (i := 6) (d := 59) (v := .int .i64 (hiW (10 * valB T k))) rfl rfl (by kernel_rfl) (by kernel_rfl) (by kernel_rfl) (fun _ _ _ h => h) (Or.inl ⟨by rfl, fun w _ => ?_⟩) ?_
          · go_simp
          simp only [List.setIfInBounds_toArray, List.set_cons_zero, List.set_cons_succ]
          refine take_at (i := 8) (d := 61) (v := .agg #[.int .i64 (hiW (10 * valB T k)), .int .u64 (loW (10 * valB T k))]) rfl rfl (by kernel_rfl) (by kernel_rfl) (by kernel_rfl) (fun _ _ _ h => h) (Or.inl ⟨by rfl, fun w _ => ?_⟩) ?_
          · go_simp
          simp only [List.setIfInBounds_toArray, List.set_cons_zero, List.set_cons_succ]
          refine wpAnyH_ready (rs := [15]) (by kernel_rfl) (by simp) ?_
          refine AllReadyH.cons (i := 15) rfl (fun K hK => ?_) AllReadyH.nil
          go_simp
          refine (HA.out _).mono ?_
          rintro e w3 ⟨rfl, hb3⟩
          dsimp only
          refine hK.out _ _ trivial (fun _ => ?_)
          clear hK K
          try simp only [Act.put, List.setIfInBounds_toArray, List.set_cons_zero, List.set_cons_succ]
          have hV3 := wb_past (w := wr.drew) hV hb3
          have hR3 := rb_past (w := wr.drew) hR hb3
          obtain ⟨d0, d1, g0, g1⟩ := wb_cells hV3
          refine wpAnyH_ready (rs := [16]) (by kernel_rfl) (by simp) ?_
          refine AllReadyH.cons (i := 16) rfl (fun K hK => ?_) AllReadyH.nil
          go_simp
          refine hK.out _ _ trivial (fun _ => ?_)
          clear hK K
          try simp only [Act.put, List.setIfInBounds_toArray, List.set_cons_zero, List.set_cons_succ]
          refine wpAnyH_done (by kernel_rfl) ?_ _
          have hV4 := wb_set (X := 10 * valB T k + (bt T k - 48)) hV3
          have hR4 := rb_other (H := w.heap.size + 1) (x := .int .i64 (hiW (10 * valB T k + (bt T k - 48)))) (y := .int .u64 (loW (10 * valB T k + (bt T k - 48)))) hR3 (by omega)
          have hB4 : Below w.heap.size w ((w3.setCell ⟨w.heap.size + 1, 0, none⟩ (.int .i64 (hiW (10 * valB T k + (bt T k - 48))))).setCell ⟨w.heap.size + 1, 1, none⟩ (.int .u64 (loW (10 * valB T k + (bt T k - 48))))) := ((hbel.drew.trans (hb3.mono hbel.size)).setCell (by dsimp only; omega) _).setCell (by dsimp only; omega) _
          clear hV3 hR3 hb3 hV hR c0 c1 f0 f1 d0 d1 g0 g1 ew1 ew2 e4
          go_wp2
          go_roundw
          case rel => exact ⟨k + 1, by omega, by go_num, HD.out, hR4, hV4, hB4⟩
          case measure => simp [intOf]; omega
        · have e : k = T.size := by omega
          subst e
          have hki : ¬ (T.size : Int) < (T.size : Int) := by omega
          have hz0 := hbel.size
          clear hdg hb0 hb1
          have HM : Hid (∀ w, Calls Tryd.prog 46 #[.agg #[.int .i64 (hiW (valB T T.size)), .int .u64 (loW (valB T T.size))]] w fun e w' => e = .returned (.agg #[.int .i64 (hiW (rdV s)), .int .u64 (loW (rdV s))]) ∧ Below w.heap.size w w') := by
            rw [HV.out, ← (neg_hw _).1, ← (neg_hw _).2]; exact fun w => c_l01Minus _ _ (hiW_in _) (loW_in _) w
          cases hr : rdB s
          · have HB : Hid (_ ∧ _ ∧ _) := rd_bad HF.out hr
            unfold rdB at hr
            go_wp2_with (first
            | (go_at_call 46; refine (HM.out _).mono ?_; rintro e w2 ⟨rfl, hb2⟩; have hR2 := rb_past hR hb2; have hV2 := wb_past hV hb2; obtain ⟨x0, x1, y0, y1⟩ := wb_cells hV2; have hz2 := hb2.size)
            | (go_at_call 44; refine (c_s_WideText _ _ (hiW_in _) (loW_in _) _).mono ?_; rintro e w3 ⟨rfl, hb3⟩; have hR3 := rb_past (rb_other (H := w.heap.size + 1) hR2 (by omega)) hb3; have hV3 := wb_past (wb_set hV2) hb3; obtain ⟨p0, p1, q0, q1⟩ := wb_cells hV3; obtain ⟨r0, r1, r2, u0, u1, u2⟩ := rb_cells hR3))
            exact bodyPost_ret (v := .agg #[.int .i64 0, .int .u64 0, .int .i64 3]) (by simp [results, Tryd.results20, go_sem, r0, r1, r2]) rfl ⟨ret_out HB.out.1 HB.out.2.1 HB.out.2.2, ((((((hbel.trans (hb2.mono hbel.size)).setCell (by dsimp only; omega) _).setCell (by dsimp only; omega) _).trans (hb3.mono (by simp; omega))).setCell (by dsimp only; omega) _).setCell (by dsimp only; omega) _).setCell (by dsimp only; omega) _⟩
          · have HB : Hid (_ ∧ _ ∧ _) := rd_ok HF.out hr
            unfold rdB at hr
            go_wp2_with (first
            | (go_at_call 46; refine (HM.out _).mono ?_; rintro e w2 ⟨rfl, hb2⟩; have hR2 := rb_past hR hb2; have hV2 := wb_past hV hb2; obtain ⟨x0, x1, y0, y1⟩ := wb_cells hV2; have hz2 := hb2.size)
            | (go_at_call 44; refine (c_s_WideText _ _ (hiW_in _) (loW_in _) _).mono ?_; rintro e w3 ⟨rfl, hb3⟩; have hR3 := rb_past (rb_other (H := w.heap.size + 1) hR2 (by omega)) hb3; have hV3 := wb_past (wb_set hV2) hb3; obtain ⟨p0, p1, q0, q1⟩ := wb_cells hV3; obtain ⟨r0, r1, r2, u0, u1, u2⟩ := rb_cells hR3))
            exact bodyPost_ret (v := .agg #[.int .i64 (hiW (rdV s)), .int .u64 (loW (rdV s)), .int .i64 0]) (by simp [results, Tryd.results20, go_sem, r0, r1, r2]) rfl ⟨ret_out HB.out.1 HB.out.2.1 HB.out.2.2, ((((((hbel.trans (hb2.mono hbel.size)).setCell (by dsimp only; omega) _).setCell (by dsimp only; omega) _).trans (hb3.mono (by simp; omega))).setCell (by dsimp only; omega) _).setCell (by dsimp only; omega) _).setCell (by dsimp only; omega) _⟩
end Go.Proofs.YtohjpaokjhifoaaDoor
