/-
  The contract of spec.ValueRead: what it tells of a text is what impl.ValueRead tells.
-/
import Derived.Test.YtnflhahnbdnaoaaGreatDoorLK
namespace Go.Proofs.YtnflhahnbdnaoaaGreatDoor
set_option linter.unusedVariables false
set_option linter.unusedSimpArgs false
open Go.ChangeShapes Go.WideShapes Go.ChangeAt Go.RowKit Go.PlainAid

theorem ret_v {a b c d : Int} (h : a = c) (k : b = d) : Ending.returned (.agg #[.int .i64 a, .int .i64 b]) = .returned (.agg #[.int .i64 c, .int .i64 d]) := by rw [h, k]

theorem c_s_ValueRead_size (s : ByteArray) (hs : s.size ≤ maxLen) (h : fitB s = false) (w : World) :
    Calls Tryz.prog 42 #[.string s] w fun e w' => e = .returned (.agg #[.int .i64 (rvV s), .int .i64 (rvC s)]) ∧ Below w.heap.size w w' := by
  have hz : (20000 : Int) < (s.size : Int) := by unfold fitB at h; have := of_decide_eq_false h; omega
  have HE : Hid (_ ∧ _) := rv_size h
  unfold maxLen at hs
  go_enter Tryz.func42, Tryz.ntmps42
  go_wp2
  exact bodyPost_ret (v := .agg #[.int .i64 0, .int .i64 2]) (by simp [results, Tryz.results42, go_sem]) rfl ⟨ret_v HE.out.1.symm HE.out.2.symm, (Below.refl _ _).alloc (Nat.le_refl _) _⟩

/-- l01Split, by its pieces. -/
theorem c_split {T u0 u1 : ByteArray} {n : Nat} (S : Sp T u0 u1 n) (hT : T.size ≤ 20000) (w : World) :
    Calls Tryz.prog 37 #[.string T, .int .u8 46] w fun e w' => ∃ g cap, e = .returned (.slice (some ⟨g, 0, none⟩) n cap) ∧ w.heap.size ≤ g ∧ w'.cell? ⟨g, 0, none⟩ = some (.string u0) ∧ (n = 2 → w'.cell? ⟨g, 1, none⟩ = some (.string u1)) ∧ Below w.heap.size w w' := by
  refine (c_l01Split T 46 (by omega) ⟨by omega, by omega⟩ w).mono ?_
  rintro e w' ⟨g, cap, rfl, hg, hc, hb⟩
  exact ⟨g, cap, by rw [S.len], hg, hc 0 u0 S.at0, fun h => hc 1 u1 (S.at1 h), hb⟩
theorem dgV_bd {u : ByteArray} (hu : u.size ≤ 12) : 0 ≤ dgV u ∧ dgV u ≤ 999999999999 := by
  unfold dgV; split
  · exact valD_17 (allD_dig _ ‹_›) hu
  · omega
theorem dgV_6 {u : ByteArray} (hu : u.size ≤ 6) : 0 ≤ dgV u * 10 ^ (6 - u.size) ∧ dgV u * 10 ^ (6 - u.size) ≤ 999999 := by
  unfold dgV; split
  · have b := valD_bd u.size (allD_dig _ ‹_›)
    revert b
    generalize valD u 0 u.size = x
    generalize u.size = p at hu
    have hc : p = 0 ∨ p = 1 ∨ p = 2 ∨ p = 3 ∨ p = 4 ∨ p = 5 ∨ p = 6 := by omega
    intro b
    rcases hc with rfl | rfl | rfl | rfl | rfl | rfl | rfl <;> simp only [show (10 : Int) ^ 1 = 10 from rfl, show (10 : Int) ^ 2 = 100 from rfl, show (10 : Int) ^ 3 = 1000 from rfl, show (10 : Int) ^ 4 = 10000 from rfl, show (10 : Int) ^ 5 = 100000 from rfl, show (10 : Int) ^ 6 = 1000000 from rfl, Nat.reduceSub, show (10 : Int) ^ 0 = 1 from rfl] at b ⊢ <;> omega
  · simp

set_option maxRecDepth 10000 in
set_option maxHeartbeats 1000000 in
theorem vr_pos_many {s T u0 u1 : ByteArray} {n : Nat} (hz : ¬ (20000 : Int) < (s.size : Int)) (hneg : negB s = false) (hT : T = tailS s) (hTz : T.size ≤ 20000) (h0z : u0.size ≤ 20000) (h1z : u1.size ≤ 20000) (hsp : ∀ w, Calls Tryz.prog 37 #[.string T, .int .u8 46] w fun e w' => ∃ g cap, e = .returned (.slice (some ⟨g, 0, none⟩) n cap) ∧ w.heap.size ≤ g ∧ w'.cell? ⟨g, 0, none⟩ = some (.string u0) ∧ (n = 2 → w'.cell? ⟨g, 1, none⟩ = some (.string u1)) ∧ Below w.heap.size w w')
    (hn : (2 : Int) < (n : Int)) (hR0 : 0 = rvV s ∧ 3 = rvC s) (w : World) :
    Calls Tryz.prog 42 #[.string s] w fun e w' => e = .returned (.agg #[.int .i64 (rvV s), .int .i64 (rvC s)]) ∧ Below w.heap.size w w' := by
  have HSp : Hid (∀ w, Calls Tryz.prog 37 #[.string T, .int .u8 46] w fun e w' => ∃ g cap, e = .returned (.slice (some ⟨g, 0, none⟩) n cap) ∧ w.heap.size ≤ g ∧ w'.cell? ⟨g, 0, none⟩ = some (.string u0) ∧ (n = 2 → w'.cell? ⟨g, 1, none⟩ = some (.string u1)) ∧ Below w.heap.size w w') := hsp
  have HR : Hid (_ ∧ _) := hR0
  clear hsp hR0
  have hbt := get_bt s
  have hbu := get_bt u0
  obtain rfl : T = s := by rw [hT]; unfold tailS; rw [hneg]; rfl
  have hcase : (decide ((0 : Int) < (T.size : Int)) = false ∧ T.size = 0) ∨ ((0 : Int) < (T.size : Int) ∧ (bt T 0 == 45) = false) := by
    by_cases k : 0 < T.size
    · refine .inr ⟨by omega, ?_⟩
      unfold negB at hneg; rw [decide_eq_true k] at hneg; simpa using hneg
    · exact .inl ⟨decide_eq_false (by omega), by omega⟩
  clear hT hneg
  rcases hcase with ⟨hc, hcc⟩ | ⟨hc, hcc⟩
  · go_enter Tryz.func42, Tryz.ntmps42
    go_wp2_with (first
        | (go_at_call 37; refine (HSp.out _).mono ?_; rintro e w1 ⟨g, cap, rfl, hg, hc0, hc1, hb1⟩; have s0 := cell_past (a := ⟨w.heap.size, 0, none⟩) (v := .int .i64 0) hb1 (by simp); have s1 := cell_past (a := ⟨w.heap.size, 1, none⟩) (v := .int .i64 0) hb1 (by simp); have t0 := hb1.frozen (p := ⟨w.heap.size, 0, none⟩) (by simp); have t1 := hb1.frozen (p := ⟨w.heap.size, 1, none⟩) (by simp); have hz1 := hb1.size; simp at t0 t1 hz1 hg)
        | (go_at_call 66; refine (c_l01Digits _ (by omega) _).mono ?_; rintro e w2 ⟨rfl, hw⟩; obtain rfl := hw.symm))
    exact bodyPost_ret (v := .agg #[.int .i64 0, .int .i64 3]) (by simp [results, Tryz.results42, go_sem, s0, s1]) rfl ⟨ret_v HR.out.1 HR.out.2, ((((Below.refl _ _).alloc (Nat.le_refl _) _).trans (hb1.mono (by simp))).setCell (by simp) _).setCell (by simp) _⟩
  · go_enter Tryz.func42, Tryz.ntmps42
    go_wp2_with (first
        | (go_at_call 37; refine (HSp.out _).mono ?_; rintro e w1 ⟨g, cap, rfl, hg, hc0, hc1, hb1⟩; have s0 := cell_past (a := ⟨w.heap.size, 0, none⟩) (v := .int .i64 0) hb1 (by simp); have s1 := cell_past (a := ⟨w.heap.size, 1, none⟩) (v := .int .i64 0) hb1 (by simp); have t0 := hb1.frozen (p := ⟨w.heap.size, 0, none⟩) (by simp); have t1 := hb1.frozen (p := ⟨w.heap.size, 1, none⟩) (by simp); have hz1 := hb1.size; simp at t0 t1 hz1 hg)
        | (go_at_call 66; refine (c_l01Digits _ (by omega) _).mono ?_; rintro e w2 ⟨rfl, hw⟩; obtain rfl := hw.symm))
    exact bodyPost_ret (v := .agg #[.int .i64 0, .int .i64 3]) (by simp [results, Tryz.results42, go_sem, s0, s1]) rfl ⟨ret_v HR.out.1 HR.out.2, ((((Below.refl _ _).alloc (Nat.le_refl _) _).trans (hb1.mono (by simp))).setCell (by simp) _).setCell (by simp) _⟩
set_option maxRecDepth 10000 in
set_option maxHeartbeats 1000000 in
theorem vr_pos_long {s T u0 u1 : ByteArray} {n : Nat} (hz : ¬ (20000 : Int) < (s.size : Int)) (hneg : negB s = false) (hT : T = tailS s) (hTz : T.size ≤ 20000) (h0z : u0.size ≤ 20000) (h1z : u1.size ≤ 20000) (hsp : ∀ w, Calls Tryz.prog 37 #[.string T, .int .u8 46] w fun e w' => ∃ g cap, e = .returned (.slice (some ⟨g, 0, none⟩) n cap) ∧ w.heap.size ≤ g ∧ w'.cell? ⟨g, 0, none⟩ = some (.string u0) ∧ (n = 2 → w'.cell? ⟨g, 1, none⟩ = some (.string u1)) ∧ Below w.heap.size w w')
    (hn : ¬ (2 : Int) < (n : Int)) (hn1 : (0 : Int) < (n : Int)) (hl : (12 : Int) < (u0.size : Int)) (hR0 : 0 = rvV s ∧ 3 = rvC s) (w : World) :
    Calls Tryz.prog 42 #[.string s] w fun e w' => e = .returned (.agg #[.int .i64 (rvV s), .int .i64 (rvC s)]) ∧ Below w.heap.size w w' := by
  have HSp : Hid (∀ w, Calls Tryz.prog 37 #[.string T, .int .u8 46] w fun e w' => ∃ g cap, e = .returned (.slice (some ⟨g, 0, none⟩) n cap) ∧ w.heap.size ≤ g ∧ w'.cell? ⟨g, 0, none⟩ = some (.string u0) ∧ (n = 2 → w'.cell? ⟨g, 1, none⟩ = some (.string u1)) ∧ Below w.heap.size w w') := hsp
  have HR : Hid (_ ∧ _) := hR0
  clear hsp hR0
  have hbt := get_bt s
  have hbu := get_bt u0
  obtain rfl : T = s := by rw [hT]; unfold tailS; rw [hneg]; rfl
  have hcase : (decide ((0 : Int) < (T.size : Int)) = false ∧ T.size = 0) ∨ ((0 : Int) < (T.size : Int) ∧ (bt T 0 == 45) = false) := by
    by_cases k : 0 < T.size
    · refine .inr ⟨by omega, ?_⟩
      unfold negB at hneg; rw [decide_eq_true k] at hneg; simpa using hneg
    · exact .inl ⟨decide_eq_false (by omega), by omega⟩
  clear hT hneg
  rcases hcase with ⟨hc, hcc⟩ | ⟨hc, hcc⟩
  · go_enter Tryz.func42, Tryz.ntmps42
    go_wp2_with (first
        | (go_at_call 37; refine (HSp.out _).mono ?_; rintro e w1 ⟨g, cap, rfl, hg, hc0, hc1, hb1⟩; have s0 := cell_past (a := ⟨w.heap.size, 0, none⟩) (v := .int .i64 0) hb1 (by simp); have s1 := cell_past (a := ⟨w.heap.size, 1, none⟩) (v := .int .i64 0) hb1 (by simp); have t0 := hb1.frozen (p := ⟨w.heap.size, 0, none⟩) (by simp); have t1 := hb1.frozen (p := ⟨w.heap.size, 1, none⟩) (by simp); have hz1 := hb1.size; simp at t0 t1 hz1 hg)
        | (go_at_call 66; refine (c_l01Digits _ (by omega) _).mono ?_; rintro e w2 ⟨rfl, hw⟩; obtain rfl := hw.symm))
    exact bodyPost_ret (v := .agg #[.int .i64 0, .int .i64 3]) (by simp [results, Tryz.results42, go_sem, s0, s1]) rfl ⟨ret_v HR.out.1 HR.out.2, ((((Below.refl _ _).alloc (Nat.le_refl _) _).trans (hb1.mono (by simp))).setCell (by simp) _).setCell (by simp) _⟩
  · go_enter Tryz.func42, Tryz.ntmps42
    go_wp2_with (first
        | (go_at_call 37; refine (HSp.out _).mono ?_; rintro e w1 ⟨g, cap, rfl, hg, hc0, hc1, hb1⟩; have s0 := cell_past (a := ⟨w.heap.size, 0, none⟩) (v := .int .i64 0) hb1 (by simp); have s1 := cell_past (a := ⟨w.heap.size, 1, none⟩) (v := .int .i64 0) hb1 (by simp); have t0 := hb1.frozen (p := ⟨w.heap.size, 0, none⟩) (by simp); have t1 := hb1.frozen (p := ⟨w.heap.size, 1, none⟩) (by simp); have hz1 := hb1.size; simp at t0 t1 hz1 hg)
        | (go_at_call 66; refine (c_l01Digits _ (by omega) _).mono ?_; rintro e w2 ⟨rfl, hw⟩; obtain rfl := hw.symm))
    exact bodyPost_ret (v := .agg #[.int .i64 0, .int .i64 3]) (by simp [results, Tryz.results42, go_sem, s0, s1]) rfl ⟨ret_v HR.out.1 HR.out.2, ((((Below.refl _ _).alloc (Nat.le_refl _) _).trans (hb1.mono (by simp))).setCell (by simp) _).setCell (by simp) _⟩
set_option maxRecDepth 10000 in
set_option maxHeartbeats 1000000 in
theorem vr_pos_lead {s T u0 u1 : ByteArray} {n : Nat} (hz : ¬ (20000 : Int) < (s.size : Int)) (hneg : negB s = false) (hT : T = tailS s) (hTz : T.size ≤ 20000) (h0z : u0.size ≤ 20000) (h1z : u1.size ≤ 20000) (hsp : ∀ w, Calls Tryz.prog 37 #[.string T, .int .u8 46] w fun e w' => ∃ g cap, e = .returned (.slice (some ⟨g, 0, none⟩) n cap) ∧ w.heap.size ≤ g ∧ w'.cell? ⟨g, 0, none⟩ = some (.string u0) ∧ (n = 2 → w'.cell? ⟨g, 1, none⟩ = some (.string u1)) ∧ Below w.heap.size w w')
    (hn : ¬ (2 : Int) < (n : Int)) (hn1 : (0 : Int) < (n : Int)) (hl : ¬ (12 : Int) < (u0.size : Int)) (hl1 : (1 : Int) < (u0.size : Int)) (h48 : (bt u0 0 == 48) = true) (hR0 : 0 = rvV s ∧ 3 = rvC s) (w : World) :
    Calls Tryz.prog 42 #[.string s] w fun e w' => e = .returned (.agg #[.int .i64 (rvV s), .int .i64 (rvC s)]) ∧ Below w.heap.size w w' := by
  have HSp : Hid (∀ w, Calls Tryz.prog 37 #[.string T, .int .u8 46] w fun e w' => ∃ g cap, e = .returned (.slice (some ⟨g, 0, none⟩) n cap) ∧ w.heap.size ≤ g ∧ w'.cell? ⟨g, 0, none⟩ = some (.string u0) ∧ (n = 2 → w'.cell? ⟨g, 1, none⟩ = some (.string u1)) ∧ Below w.heap.size w w') := hsp
  have HR : Hid (_ ∧ _) := hR0
  clear hsp hR0
  have hbt := get_bt s
  have hbu := get_bt u0
  obtain rfl : T = s := by rw [hT]; unfold tailS; rw [hneg]; rfl
  have hcase : (decide ((0 : Int) < (T.size : Int)) = false ∧ T.size = 0) ∨ ((0 : Int) < (T.size : Int) ∧ (bt T 0 == 45) = false) := by
    by_cases k : 0 < T.size
    · refine .inr ⟨by omega, ?_⟩
      unfold negB at hneg; rw [decide_eq_true k] at hneg; simpa using hneg
    · exact .inl ⟨decide_eq_false (by omega), by omega⟩
  clear hT hneg
  rcases hcase with ⟨hc, hcc⟩ | ⟨hc, hcc⟩
  · go_enter Tryz.func42, Tryz.ntmps42
    go_wp2_with (first
        | (go_at_call 37; refine (HSp.out _).mono ?_; rintro e w1 ⟨g, cap, rfl, hg, hc0, hc1, hb1⟩; have s0 := cell_past (a := ⟨w.heap.size, 0, none⟩) (v := .int .i64 0) hb1 (by simp); have s1 := cell_past (a := ⟨w.heap.size, 1, none⟩) (v := .int .i64 0) hb1 (by simp); have t0 := hb1.frozen (p := ⟨w.heap.size, 0, none⟩) (by simp); have t1 := hb1.frozen (p := ⟨w.heap.size, 1, none⟩) (by simp); have hz1 := hb1.size; simp at t0 t1 hz1 hg)
        | (go_at_call 66; refine (c_l01Digits _ (by omega) _).mono ?_; rintro e w2 ⟨rfl, hw⟩; obtain rfl := hw.symm))
    exact bodyPost_ret (v := .agg #[.int .i64 0, .int .i64 3]) (by simp [results, Tryz.results42, go_sem, s0, s1]) rfl ⟨ret_v HR.out.1 HR.out.2, ((((Below.refl _ _).alloc (Nat.le_refl _) _).trans (hb1.mono (by simp))).setCell (by simp) _).setCell (by simp) _⟩
  · go_enter Tryz.func42, Tryz.ntmps42
    go_wp2_with (first
        | (go_at_call 37; refine (HSp.out _).mono ?_; rintro e w1 ⟨g, cap, rfl, hg, hc0, hc1, hb1⟩; have s0 := cell_past (a := ⟨w.heap.size, 0, none⟩) (v := .int .i64 0) hb1 (by simp); have s1 := cell_past (a := ⟨w.heap.size, 1, none⟩) (v := .int .i64 0) hb1 (by simp); have t0 := hb1.frozen (p := ⟨w.heap.size, 0, none⟩) (by simp); have t1 := hb1.frozen (p := ⟨w.heap.size, 1, none⟩) (by simp); have hz1 := hb1.size; simp at t0 t1 hz1 hg)
        | (go_at_call 66; refine (c_l01Digits _ (by omega) _).mono ?_; rintro e w2 ⟨rfl, hw⟩; obtain rfl := hw.symm))
    exact bodyPost_ret (v := .agg #[.int .i64 0, .int .i64 3]) (by simp [results, Tryz.results42, go_sem, s0, s1]) rfl ⟨ret_v HR.out.1 HR.out.2, ((((Below.refl _ _).alloc (Nat.le_refl _) _).trans (hb1.mono (by simp))).setCell (by simp) _).setCell (by simp) _⟩
set_option maxRecDepth 10000 in
set_option maxHeartbeats 1000000 in
theorem vr_pos_bad0 {s T u0 u1 : ByteArray} {n : Nat} (hz : ¬ (20000 : Int) < (s.size : Int)) (hneg : negB s = false) (hT : T = tailS s) (hTz : T.size ≤ 20000) (h0z : u0.size ≤ 20000) (h1z : u1.size ≤ 20000) (hsp : ∀ w, Calls Tryz.prog 37 #[.string T, .int .u8 46] w fun e w' => ∃ g cap, e = .returned (.slice (some ⟨g, 0, none⟩) n cap) ∧ w.heap.size ≤ g ∧ w'.cell? ⟨g, 0, none⟩ = some (.string u0) ∧ (n = 2 → w'.cell? ⟨g, 1, none⟩ = some (.string u1)) ∧ Below w.heap.size w w')
    (hn : ¬ (2 : Int) < (n : Int)) (hn1 : (0 : Int) < (n : Int)) (hl : ¬ (12 : Int) < (u0.size : Int)) (hq0 : (¬ (1 : Int) < (u0.size : Int)) ∨ ((1 : Int) < (u0.size : Int) ∧ (bt u0 0 == 48) = false)) (hv0 : 0 ≤ dgV u0) (hv1 : dgV u0 ≤ 999999999999) (hb0 : dgB u0 = false) (hR0 : 0 = rvV s ∧ 3 = rvC s) (w : World) :
    Calls Tryz.prog 42 #[.string s] w fun e w' => e = .returned (.agg #[.int .i64 (rvV s), .int .i64 (rvC s)]) ∧ Below w.heap.size w w' := by
  have HSp : Hid (∀ w, Calls Tryz.prog 37 #[.string T, .int .u8 46] w fun e w' => ∃ g cap, e = .returned (.slice (some ⟨g, 0, none⟩) n cap) ∧ w.heap.size ≤ g ∧ w'.cell? ⟨g, 0, none⟩ = some (.string u0) ∧ (n = 2 → w'.cell? ⟨g, 1, none⟩ = some (.string u1)) ∧ Below w.heap.size w w') := hsp
  have HR : Hid (_ ∧ _) := hR0
  clear hsp hR0
  have hbt := get_bt s
  have hbu := get_bt u0
  obtain rfl : T = s := by rw [hT]; unfold tailS; rw [hneg]; rfl
  have hcase : (decide ((0 : Int) < (T.size : Int)) = false ∧ T.size = 0) ∨ ((0 : Int) < (T.size : Int) ∧ (bt T 0 == 45) = false) := by
    by_cases k : 0 < T.size
    · refine .inr ⟨by omega, ?_⟩
      unfold negB at hneg; rw [decide_eq_true k] at hneg; simpa using hneg
    · exact .inl ⟨decide_eq_false (by omega), by omega⟩
  clear hT hneg
  rcases hcase with ⟨hc, hcc⟩ | ⟨hc, hcc⟩
  · rcases hq0 with hq | ⟨hq, hq48⟩
    · go_enter Tryz.func42, Tryz.ntmps42
      go_wp2_with (first
            | (go_at_call 37; refine (HSp.out _).mono ?_; rintro e w1 ⟨g, cap, rfl, hg, hc0, hc1, hb1⟩; have s0 := cell_past (a := ⟨w.heap.size, 0, none⟩) (v := .int .i64 0) hb1 (by simp); have s1 := cell_past (a := ⟨w.heap.size, 1, none⟩) (v := .int .i64 0) hb1 (by simp); have t0 := hb1.frozen (p := ⟨w.heap.size, 0, none⟩) (by simp); have t1 := hb1.frozen (p := ⟨w.heap.size, 1, none⟩) (by simp); have hz1 := hb1.size; simp at t0 t1 hz1 hg)
            | (go_at_call 66; refine (c_l01Digits _ (by omega) _).mono ?_; rintro e w2 ⟨rfl, hw⟩; obtain rfl := hw.symm))
      exact bodyPost_ret (v := .agg #[.int .i64 0, .int .i64 3]) (by simp [results, Tryz.results42, go_sem, s0, s1]) rfl ⟨ret_v HR.out.1 HR.out.2, ((((Below.refl _ _).alloc (Nat.le_refl _) _).trans (hb1.mono (by simp))).setCell (by simp) _).setCell (by simp) _⟩
    · go_enter Tryz.func42, Tryz.ntmps42
      go_wp2_with (first
            | (go_at_call 37; refine (HSp.out _).mono ?_; rintro e w1 ⟨g, cap, rfl, hg, hc0, hc1, hb1⟩; have s0 := cell_past (a := ⟨w.heap.size, 0, none⟩) (v := .int .i64 0) hb1 (by simp); have s1 := cell_past (a := ⟨w.heap.size, 1, none⟩) (v := .int .i64 0) hb1 (by simp); have t0 := hb1.frozen (p := ⟨w.heap.size, 0, none⟩) (by simp); have t1 := hb1.frozen (p := ⟨w.heap.size, 1, none⟩) (by simp); have hz1 := hb1.size; simp at t0 t1 hz1 hg)
            | (go_at_call 66; refine (c_l01Digits _ (by omega) _).mono ?_; rintro e w2 ⟨rfl, hw⟩; obtain rfl := hw.symm))
      exact bodyPost_ret (v := .agg #[.int .i64 0, .int .i64 3]) (by simp [results, Tryz.results42, go_sem, s0, s1]) rfl ⟨ret_v HR.out.1 HR.out.2, ((((Below.refl _ _).alloc (Nat.le_refl _) _).trans (hb1.mono (by simp))).setCell (by simp) _).setCell (by simp) _⟩
  · rcases hq0 with hq | ⟨hq, hq48⟩
    · go_enter Tryz.func42, Tryz.ntmps42
      go_wp2_with (first
            | (go_at_call 37; refine (HSp.out _).mono ?_; rintro e w1 ⟨g, cap, rfl, hg, hc0, hc1, hb1⟩; have s0 := cell_past (a := ⟨w.heap.size, 0, none⟩) (v := .int .i64 0) hb1 (by simp); have s1 := cell_past (a := ⟨w.heap.size, 1, none⟩) (v := .int .i64 0) hb1 (by simp); have t0 := hb1.frozen (p := ⟨w.heap.size, 0, none⟩) (by simp); have t1 := hb1.frozen (p := ⟨w.heap.size, 1, none⟩) (by simp); have hz1 := hb1.size; simp at t0 t1 hz1 hg)
            | (go_at_call 66; refine (c_l01Digits _ (by omega) _).mono ?_; rintro e w2 ⟨rfl, hw⟩; obtain rfl := hw.symm))
      exact bodyPost_ret (v := .agg #[.int .i64 0, .int .i64 3]) (by simp [results, Tryz.results42, go_sem, s0, s1]) rfl ⟨ret_v HR.out.1 HR.out.2, ((((Below.refl _ _).alloc (Nat.le_refl _) _).trans (hb1.mono (by simp))).setCell (by simp) _).setCell (by simp) _⟩
    · go_enter Tryz.func42, Tryz.ntmps42
      go_wp2_with (first
            | (go_at_call 37; refine (HSp.out _).mono ?_; rintro e w1 ⟨g, cap, rfl, hg, hc0, hc1, hb1⟩; have s0 := cell_past (a := ⟨w.heap.size, 0, none⟩) (v := .int .i64 0) hb1 (by simp); have s1 := cell_past (a := ⟨w.heap.size, 1, none⟩) (v := .int .i64 0) hb1 (by simp); have t0 := hb1.frozen (p := ⟨w.heap.size, 0, none⟩) (by simp); have t1 := hb1.frozen (p := ⟨w.heap.size, 1, none⟩) (by simp); have hz1 := hb1.size; simp at t0 t1 hz1 hg)
            | (go_at_call 66; refine (c_l01Digits _ (by omega) _).mono ?_; rintro e w2 ⟨rfl, hw⟩; obtain rfl := hw.symm))
      exact bodyPost_ret (v := .agg #[.int .i64 0, .int .i64 3]) (by simp [results, Tryz.results42, go_sem, s0, s1]) rfl ⟨ret_v HR.out.1 HR.out.2, ((((Below.refl _ _).alloc (Nat.le_refl _) _).trans (hb1.mono (by simp))).setCell (by simp) _).setCell (by simp) _⟩
set_option maxRecDepth 10000 in
set_option maxHeartbeats 1000000 in
theorem vr_pos_good1 {s T u0 u1 : ByteArray} {n : Nat} (hz : ¬ (20000 : Int) < (s.size : Int)) (hneg : negB s = false) (hT : T = tailS s) (hTz : T.size ≤ 20000) (h0z : u0.size ≤ 20000) (h1z : u1.size ≤ 20000) (hsp : ∀ w, Calls Tryz.prog 37 #[.string T, .int .u8 46] w fun e w' => ∃ g cap, e = .returned (.slice (some ⟨g, 0, none⟩) n cap) ∧ w.heap.size ≤ g ∧ w'.cell? ⟨g, 0, none⟩ = some (.string u0) ∧ (n = 2 → w'.cell? ⟨g, 1, none⟩ = some (.string u1)) ∧ Below w.heap.size w w')
    (hn : n = 1) (hl : ¬ (12 : Int) < (u0.size : Int)) (hq0 : (¬ (1 : Int) < (u0.size : Int)) ∨ ((1 : Int) < (u0.size : Int) ∧ (bt u0 0 == 48) = false)) (hv0 : 0 ≤ dgV u0) (hv1 : dgV u0 ≤ 999999999999) (hb0 : dgB u0 = true) (hR0 : (dgV u0 * 1000000) = rvV s ∧ 0 = rvC s) (w : World) :
    Calls Tryz.prog 42 #[.string s] w fun e w' => e = .returned (.agg #[.int .i64 (rvV s), .int .i64 (rvC s)]) ∧ Below w.heap.size w w' := by
  have HSp : Hid (∀ w, Calls Tryz.prog 37 #[.string T, .int .u8 46] w fun e w' => ∃ g cap, e = .returned (.slice (some ⟨g, 0, none⟩) n cap) ∧ w.heap.size ≤ g ∧ w'.cell? ⟨g, 0, none⟩ = some (.string u0) ∧ (n = 2 → w'.cell? ⟨g, 1, none⟩ = some (.string u1)) ∧ Below w.heap.size w w') := hsp
  have HR : Hid (_ ∧ _) := hR0
  clear hsp hR0
  have hbt := get_bt s
  have hbu := get_bt u0
  obtain rfl : T = s := by rw [hT]; unfold tailS; rw [hneg]; rfl
  have hcase : (decide ((0 : Int) < (T.size : Int)) = false ∧ T.size = 0) ∨ ((0 : Int) < (T.size : Int) ∧ (bt T 0 == 45) = false) := by
    by_cases k : 0 < T.size
    · refine .inr ⟨by omega, ?_⟩
      unfold negB at hneg; rw [decide_eq_true k] at hneg; simpa using hneg
    · exact .inl ⟨decide_eq_false (by omega), by omega⟩
  clear hT hneg
  rcases hcase with ⟨hc, hcc⟩ | ⟨hc, hcc⟩
  · subst hn
    rcases hq0 with hq | ⟨hq, hq48⟩
    · go_enter Tryz.func42, Tryz.ntmps42
      go_wp2_with (first
            | (go_at_call 37; refine (HSp.out _).mono ?_; rintro e w1 ⟨g, cap, rfl, hg, hc0, hc1, hb1⟩; have s0 := cell_past (a := ⟨w.heap.size, 0, none⟩) (v := .int .i64 0) hb1 (by simp); have s1 := cell_past (a := ⟨w.heap.size, 1, none⟩) (v := .int .i64 0) hb1 (by simp); have t0 := hb1.frozen (p := ⟨w.heap.size, 0, none⟩) (by simp); have t1 := hb1.frozen (p := ⟨w.heap.size, 1, none⟩) (by simp); have hz1 := hb1.size; simp at t0 t1 hz1 hg)
            | (go_at_call 66; refine (c_l01Digits _ (by omega) _).mono ?_; rintro e w2 ⟨rfl, hw⟩; obtain rfl := hw.symm))
      exact bodyPost_ret (v := .agg #[.int .i64 ((dgV u0 * 1000000)), .int .i64 0]) (by simp [results, Tryz.results42, go_sem, s0, s1]) rfl ⟨ret_v HR.out.1 HR.out.2, ((((Below.refl _ _).alloc (Nat.le_refl _) _).trans (hb1.mono (by simp))).setCell (by simp) _).setCell (by simp) _⟩
    · go_enter Tryz.func42, Tryz.ntmps42
      go_wp2_with (first
            | (go_at_call 37; refine (HSp.out _).mono ?_; rintro e w1 ⟨g, cap, rfl, hg, hc0, hc1, hb1⟩; have s0 := cell_past (a := ⟨w.heap.size, 0, none⟩) (v := .int .i64 0) hb1 (by simp); have s1 := cell_past (a := ⟨w.heap.size, 1, none⟩) (v := .int .i64 0) hb1 (by simp); have t0 := hb1.frozen (p := ⟨w.heap.size, 0, none⟩) (by simp); have t1 := hb1.frozen (p := ⟨w.heap.size, 1, none⟩) (by simp); have hz1 := hb1.size; simp at t0 t1 hz1 hg)
            | (go_at_call 66; refine (c_l01Digits _ (by omega) _).mono ?_; rintro e w2 ⟨rfl, hw⟩; obtain rfl := hw.symm))
      exact bodyPost_ret (v := .agg #[.int .i64 ((dgV u0 * 1000000)), .int .i64 0]) (by simp [results, Tryz.results42, go_sem, s0, s1]) rfl ⟨ret_v HR.out.1 HR.out.2, ((((Below.refl _ _).alloc (Nat.le_refl _) _).trans (hb1.mono (by simp))).setCell (by simp) _).setCell (by simp) _⟩
  · subst hn
    rcases hq0 with hq | ⟨hq, hq48⟩
    · go_enter Tryz.func42, Tryz.ntmps42
      go_wp2_with (first
            | (go_at_call 37; refine (HSp.out _).mono ?_; rintro e w1 ⟨g, cap, rfl, hg, hc0, hc1, hb1⟩; have s0 := cell_past (a := ⟨w.heap.size, 0, none⟩) (v := .int .i64 0) hb1 (by simp); have s1 := cell_past (a := ⟨w.heap.size, 1, none⟩) (v := .int .i64 0) hb1 (by simp); have t0 := hb1.frozen (p := ⟨w.heap.size, 0, none⟩) (by simp); have t1 := hb1.frozen (p := ⟨w.heap.size, 1, none⟩) (by simp); have hz1 := hb1.size; simp at t0 t1 hz1 hg)
            | (go_at_call 66; refine (c_l01Digits _ (by omega) _).mono ?_; rintro e w2 ⟨rfl, hw⟩; obtain rfl := hw.symm))
      exact bodyPost_ret (v := .agg #[.int .i64 ((dgV u0 * 1000000)), .int .i64 0]) (by simp [results, Tryz.results42, go_sem, s0, s1]) rfl ⟨ret_v HR.out.1 HR.out.2, ((((Below.refl _ _).alloc (Nat.le_refl _) _).trans (hb1.mono (by simp))).setCell (by simp) _).setCell (by simp) _⟩
    · go_enter Tryz.func42, Tryz.ntmps42
      go_wp2_with (first
            | (go_at_call 37; refine (HSp.out _).mono ?_; rintro e w1 ⟨g, cap, rfl, hg, hc0, hc1, hb1⟩; have s0 := cell_past (a := ⟨w.heap.size, 0, none⟩) (v := .int .i64 0) hb1 (by simp); have s1 := cell_past (a := ⟨w.heap.size, 1, none⟩) (v := .int .i64 0) hb1 (by simp); have t0 := hb1.frozen (p := ⟨w.heap.size, 0, none⟩) (by simp); have t1 := hb1.frozen (p := ⟨w.heap.size, 1, none⟩) (by simp); have hz1 := hb1.size; simp at t0 t1 hz1 hg)
            | (go_at_call 66; refine (c_l01Digits _ (by omega) _).mono ?_; rintro e w2 ⟨rfl, hw⟩; obtain rfl := hw.symm))
      exact bodyPost_ret (v := .agg #[.int .i64 ((dgV u0 * 1000000)), .int .i64 0]) (by simp [results, Tryz.results42, go_sem, s0, s1]) rfl ⟨ret_v HR.out.1 HR.out.2, ((((Below.refl _ _).alloc (Nat.le_refl _) _).trans (hb1.mono (by simp))).setCell (by simp) _).setCell (by simp) _⟩
set_option maxRecDepth 10000 in
set_option maxHeartbeats 1000000 in
theorem vr_pos_long1 {s T u0 u1 : ByteArray} {n : Nat} (hz : ¬ (20000 : Int) < (s.size : Int)) (hneg : negB s = false) (hT : T = tailS s) (hTz : T.size ≤ 20000) (h0z : u0.size ≤ 20000) (h1z : u1.size ≤ 20000) (hsp : ∀ w, Calls Tryz.prog 37 #[.string T, .int .u8 46] w fun e w' => ∃ g cap, e = .returned (.slice (some ⟨g, 0, none⟩) n cap) ∧ w.heap.size ≤ g ∧ w'.cell? ⟨g, 0, none⟩ = some (.string u0) ∧ (n = 2 → w'.cell? ⟨g, 1, none⟩ = some (.string u1)) ∧ Below w.heap.size w w')
    (hn : n = 2) (hl : ¬ (12 : Int) < (u0.size : Int)) (hq0 : (¬ (1 : Int) < (u0.size : Int)) ∨ ((1 : Int) < (u0.size : Int) ∧ (bt u0 0 == 48) = false)) (hv0 : 0 ≤ dgV u0) (hv1 : dgV u0 ≤ 999999999999) (hb0 : dgB u0 = true) (hl6 : ¬ (u1.size : Int) ≤ 6) (hR0 : 0 = rvV s ∧ 3 = rvC s) (w : World) :
    Calls Tryz.prog 42 #[.string s] w fun e w' => e = .returned (.agg #[.int .i64 (rvV s), .int .i64 (rvC s)]) ∧ Below w.heap.size w w' := by
  have HSp : Hid (∀ w, Calls Tryz.prog 37 #[.string T, .int .u8 46] w fun e w' => ∃ g cap, e = .returned (.slice (some ⟨g, 0, none⟩) n cap) ∧ w.heap.size ≤ g ∧ w'.cell? ⟨g, 0, none⟩ = some (.string u0) ∧ (n = 2 → w'.cell? ⟨g, 1, none⟩ = some (.string u1)) ∧ Below w.heap.size w w') := hsp
  have HR : Hid (_ ∧ _) := hR0
  clear hsp hR0
  have hbt := get_bt s
  have hbu := get_bt u0
  obtain rfl : T = s := by rw [hT]; unfold tailS; rw [hneg]; rfl
  have hcase : (decide ((0 : Int) < (T.size : Int)) = false ∧ T.size = 0) ∨ ((0 : Int) < (T.size : Int) ∧ (bt T 0 == 45) = false) := by
    by_cases k : 0 < T.size
    · refine .inr ⟨by omega, ?_⟩
      unfold negB at hneg; rw [decide_eq_true k] at hneg; simpa using hneg
    · exact .inl ⟨decide_eq_false (by omega), by omega⟩
  clear hT hneg
  rcases hcase with ⟨hc, hcc⟩ | ⟨hc, hcc⟩
  · subst hn
    rcases hq0 with hq | ⟨hq, hq48⟩
    · go_enter Tryz.func42, Tryz.ntmps42
      go_wp2_with (first
            | (go_at_call 37; refine (HSp.out _).mono ?_; rintro e w1 ⟨g, cap, rfl, hg, hc0, hc1, hb1⟩; have s0 := cell_past (a := ⟨w.heap.size, 0, none⟩) (v := .int .i64 0) hb1 (by simp); have s1 := cell_past (a := ⟨w.heap.size, 1, none⟩) (v := .int .i64 0) hb1 (by simp); have t0 := hb1.frozen (p := ⟨w.heap.size, 0, none⟩) (by simp); have t1 := hb1.frozen (p := ⟨w.heap.size, 1, none⟩) (by simp); have hz1 := hb1.size; simp at t0 t1 hz1 hg; have hc1 := hc1 rfl)
            | (go_at_call 66; refine (c_l01Digits _ (by omega) _).mono ?_; rintro e w2 ⟨rfl, hw⟩; obtain rfl := hw.symm))
      go_loopw [7, 8] (fun m k wr => wr = w1 ∧ m = .int .i64 0 ∧ k = .int .i64 u1.size) (fun m k wr => 0)
      case atStart => exact ⟨rfl, rfl, rfl⟩
      case round =>
        obtain ⟨hwr, rfl, rfl⟩ := hrel
        subst hwr
        have hk6 : ¬ (u1.size : Int) < 6 := by omega
        have hd6 : decide ((u1.size : Int) ≤ 6) = false := decide_eq_false (by omega)
        go_wp2
        exact bodyPost_ret (v := .agg #[.int .i64 0, .int .i64 3]) (by simp [results, Tryz.results42, go_sem, s0, s1]) rfl ⟨ret_v HR.out.1 HR.out.2, ((((Below.refl _ _).alloc (Nat.le_refl _) _).trans (hb1.mono (by simp))).setCell (by simp) _).setCell (by simp) _⟩
    · go_enter Tryz.func42, Tryz.ntmps42
      go_wp2_with (first
            | (go_at_call 37; refine (HSp.out _).mono ?_; rintro e w1 ⟨g, cap, rfl, hg, hc0, hc1, hb1⟩; have s0 := cell_past (a := ⟨w.heap.size, 0, none⟩) (v := .int .i64 0) hb1 (by simp); have s1 := cell_past (a := ⟨w.heap.size, 1, none⟩) (v := .int .i64 0) hb1 (by simp); have t0 := hb1.frozen (p := ⟨w.heap.size, 0, none⟩) (by simp); have t1 := hb1.frozen (p := ⟨w.heap.size, 1, none⟩) (by simp); have hz1 := hb1.size; simp at t0 t1 hz1 hg; have hc1 := hc1 rfl)
            | (go_at_call 66; refine (c_l01Digits _ (by omega) _).mono ?_; rintro e w2 ⟨rfl, hw⟩; obtain rfl := hw.symm))
      go_loopw [7, 8] (fun m k wr => wr = w1 ∧ m = .int .i64 0 ∧ k = .int .i64 u1.size) (fun m k wr => 0)
      case atStart => exact ⟨rfl, rfl, rfl⟩
      case round =>
        obtain ⟨hwr, rfl, rfl⟩ := hrel
        subst hwr
        have hk6 : ¬ (u1.size : Int) < 6 := by omega
        have hd6 : decide ((u1.size : Int) ≤ 6) = false := decide_eq_false (by omega)
        go_wp2
        exact bodyPost_ret (v := .agg #[.int .i64 0, .int .i64 3]) (by simp [results, Tryz.results42, go_sem, s0, s1]) rfl ⟨ret_v HR.out.1 HR.out.2, ((((Below.refl _ _).alloc (Nat.le_refl _) _).trans (hb1.mono (by simp))).setCell (by simp) _).setCell (by simp) _⟩
  · subst hn
    rcases hq0 with hq | ⟨hq, hq48⟩
    · go_enter Tryz.func42, Tryz.ntmps42
      go_wp2_with (first
            | (go_at_call 37; refine (HSp.out _).mono ?_; rintro e w1 ⟨g, cap, rfl, hg, hc0, hc1, hb1⟩; have s0 := cell_past (a := ⟨w.heap.size, 0, none⟩) (v := .int .i64 0) hb1 (by simp); have s1 := cell_past (a := ⟨w.heap.size, 1, none⟩) (v := .int .i64 0) hb1 (by simp); have t0 := hb1.frozen (p := ⟨w.heap.size, 0, none⟩) (by simp); have t1 := hb1.frozen (p := ⟨w.heap.size, 1, none⟩) (by simp); have hz1 := hb1.size; simp at t0 t1 hz1 hg; have hc1 := hc1 rfl)
            | (go_at_call 66; refine (c_l01Digits _ (by omega) _).mono ?_; rintro e w2 ⟨rfl, hw⟩; obtain rfl := hw.symm))
      go_loopw [7, 8] (fun m k wr => wr = w1 ∧ m = .int .i64 0 ∧ k = .int .i64 u1.size) (fun m k wr => 0)
      case atStart => exact ⟨rfl, rfl, rfl⟩
      case round =>
        obtain ⟨hwr, rfl, rfl⟩ := hrel
        subst hwr
        have hk6 : ¬ (u1.size : Int) < 6 := by omega
        have hd6 : decide ((u1.size : Int) ≤ 6) = false := decide_eq_false (by omega)
        go_wp2
        exact bodyPost_ret (v := .agg #[.int .i64 0, .int .i64 3]) (by simp [results, Tryz.results42, go_sem, s0, s1]) rfl ⟨ret_v HR.out.1 HR.out.2, ((((Below.refl _ _).alloc (Nat.le_refl _) _).trans (hb1.mono (by simp))).setCell (by simp) _).setCell (by simp) _⟩
    · go_enter Tryz.func42, Tryz.ntmps42
      go_wp2_with (first
            | (go_at_call 37; refine (HSp.out _).mono ?_; rintro e w1 ⟨g, cap, rfl, hg, hc0, hc1, hb1⟩; have s0 := cell_past (a := ⟨w.heap.size, 0, none⟩) (v := .int .i64 0) hb1 (by simp); have s1 := cell_past (a := ⟨w.heap.size, 1, none⟩) (v := .int .i64 0) hb1 (by simp); have t0 := hb1.frozen (p := ⟨w.heap.size, 0, none⟩) (by simp); have t1 := hb1.frozen (p := ⟨w.heap.size, 1, none⟩) (by simp); have hz1 := hb1.size; simp at t0 t1 hz1 hg; have hc1 := hc1 rfl)
            | (go_at_call 66; refine (c_l01Digits _ (by omega) _).mono ?_; rintro e w2 ⟨rfl, hw⟩; obtain rfl := hw.symm))
      go_loopw [7, 8] (fun m k wr => wr = w1 ∧ m = .int .i64 0 ∧ k = .int .i64 u1.size) (fun m k wr => 0)
      case atStart => exact ⟨rfl, rfl, rfl⟩
      case round =>
        obtain ⟨hwr, rfl, rfl⟩ := hrel
        subst hwr
        have hk6 : ¬ (u1.size : Int) < 6 := by omega
        have hd6 : decide ((u1.size : Int) ≤ 6) = false := decide_eq_false (by omega)
        go_wp2
        exact bodyPost_ret (v := .agg #[.int .i64 0, .int .i64 3]) (by simp [results, Tryz.results42, go_sem, s0, s1]) rfl ⟨ret_v HR.out.1 HR.out.2, ((((Below.refl _ _).alloc (Nat.le_refl _) _).trans (hb1.mono (by simp))).setCell (by simp) _).setCell (by simp) _⟩
set_option maxRecDepth 10000 in
set_option maxHeartbeats 1000000 in
theorem vr_pos_bad1 {s T u0 u1 : ByteArray} {n : Nat} (hz : ¬ (20000 : Int) < (s.size : Int)) (hneg : negB s = false) (hT : T = tailS s) (hTz : T.size ≤ 20000) (h0z : u0.size ≤ 20000) (h1z : u1.size ≤ 20000) (hsp : ∀ w, Calls Tryz.prog 37 #[.string T, .int .u8 46] w fun e w' => ∃ g cap, e = .returned (.slice (some ⟨g, 0, none⟩) n cap) ∧ w.heap.size ≤ g ∧ w'.cell? ⟨g, 0, none⟩ = some (.string u0) ∧ (n = 2 → w'.cell? ⟨g, 1, none⟩ = some (.string u1)) ∧ Below w.heap.size w w')
    {X : Int} (hn : n = 2) (hl : ¬ (12 : Int) < (u0.size : Int)) (hq0 : (¬ (1 : Int) < (u0.size : Int)) ∨ ((1 : Int) < (u0.size : Int) ∧ (bt u0 0 == 48) = false)) (hv0 : 0 ≤ dgV u0) (hv1 : dgV u0 ≤ 999999999999) (hb0 : dgB u0 = true) (hl6 : (u1.size : Int) ≤ 6) (hb1d : dgB u1 = false) (hX : Scal (dgV u1) u1.size X) (hx0 : 0 ≤ X) (hx1 : X ≤ 999999) (hR0 : 0 = rvV s ∧ 3 = rvC s) (w : World) :
    Calls Tryz.prog 42 #[.string s] w fun e w' => e = .returned (.agg #[.int .i64 (rvV s), .int .i64 (rvC s)]) ∧ Below w.heap.size w w' := by
  have HSp : Hid (∀ w, Calls Tryz.prog 37 #[.string T, .int .u8 46] w fun e w' => ∃ g cap, e = .returned (.slice (some ⟨g, 0, none⟩) n cap) ∧ w.heap.size ≤ g ∧ w'.cell? ⟨g, 0, none⟩ = some (.string u0) ∧ (n = 2 → w'.cell? ⟨g, 1, none⟩ = some (.string u1)) ∧ Below w.heap.size w w') := hsp
  have HR : Hid (_ ∧ _) := hR0
  clear hsp hR0
  have hbt := get_bt s
  have hbu := get_bt u0
  obtain rfl : T = s := by rw [hT]; unfold tailS; rw [hneg]; rfl
  have hcase : (decide ((0 : Int) < (T.size : Int)) = false ∧ T.size = 0) ∨ ((0 : Int) < (T.size : Int) ∧ (bt T 0 == 45) = false) := by
    by_cases k : 0 < T.size
    · refine .inr ⟨by omega, ?_⟩
      unfold negB at hneg; rw [decide_eq_true k] at hneg; simpa using hneg
    · exact .inl ⟨decide_eq_false (by omega), by omega⟩
  clear hT hneg
  rcases hcase with ⟨hc, hcc⟩ | ⟨hc, hcc⟩
  · subst hn
    have HX : Hid (Scal (dgV u1) u1.size X) := hX
    clear hX
    rcases hq0 with hq | ⟨hq, hq48⟩
    · go_enter Tryz.func42, Tryz.ntmps42
      go_wp2_with (first
            | (go_at_call 37; refine (HSp.out _).mono ?_; rintro e w1 ⟨g, cap, rfl, hg, hc0, hc1, hb1⟩; have s0 := cell_past (a := ⟨w.heap.size, 0, none⟩) (v := .int .i64 0) hb1 (by simp); have s1 := cell_past (a := ⟨w.heap.size, 1, none⟩) (v := .int .i64 0) hb1 (by simp); have t0 := hb1.frozen (p := ⟨w.heap.size, 0, none⟩) (by simp); have t1 := hb1.frozen (p := ⟨w.heap.size, 1, none⟩) (by simp); have hz1 := hb1.size; simp at t0 t1 hz1 hg; have hc1 := hc1 rfl)
            | (go_at_call 66; refine (c_l01Digits _ (by omega) _).mono ?_; rintro e w2 ⟨rfl, hw⟩; obtain rfl := hw.symm))
      go_loopw [7, 8] (fun m k wr => wr = w1 ∧ ∃ p : Nat, p ≤ 6 ∧ k = .int .i64 p ∧ ∃ v : Int, m = .int .i64 v ∧ Scal v p X) (fun m k wr => 6 - (Go.RowKit.intOf k).toNat)
      case atStart => exact ⟨rfl, u1.size, by omega, rfl, dgV u1, rfl, HX.out⟩
      case round =>
        obtain ⟨hwr, p, hp, rfl, v, rfl, hsc⟩ := hrel
        subst hwr
        have HS : Hid (Scal v p X) := hsc
        clear hsc
        by_cases hlt : p < 6
        · have hki : (p : Int) < 6 := by omega
          have hvb := scal_bd HS.out hlt ⟨hx0, by omega⟩
          have ew : IntKind.i64.wrap (v * 10) = v * 10 := IntWalk.i64_in _ ⟨by omega, by omega⟩
          have HS2 : Hid (Scal (v * 10) (p + 1) X) := scal_step HS.out hlt
          clear HS
          go_wp2
          go_roundw
          case rel => exact ⟨trivial, p + 1, by omega, by go_num, v * 10, rfl, HS2.out⟩
          case measure => simp [Go.RowKit.intOf]; omega
        · have hki : ¬ (p : Int) < 6 := by omega
          obtain rfl := scal_end HS.out hlt
          clear HS HX
          go_wp2
          exact bodyPost_ret (v := .agg #[.int .i64 0, .int .i64 3]) (by simp [results, Tryz.results42, go_sem, s0, s1]) rfl ⟨ret_v HR.out.1 HR.out.2, ((((Below.refl _ _).alloc (Nat.le_refl _) _).trans (hb1.mono (by simp))).setCell (by simp) _).setCell (by simp) _⟩
    · go_enter Tryz.func42, Tryz.ntmps42
      go_wp2_with (first
            | (go_at_call 37; refine (HSp.out _).mono ?_; rintro e w1 ⟨g, cap, rfl, hg, hc0, hc1, hb1⟩; have s0 := cell_past (a := ⟨w.heap.size, 0, none⟩) (v := .int .i64 0) hb1 (by simp); have s1 := cell_past (a := ⟨w.heap.size, 1, none⟩) (v := .int .i64 0) hb1 (by simp); have t0 := hb1.frozen (p := ⟨w.heap.size, 0, none⟩) (by simp); have t1 := hb1.frozen (p := ⟨w.heap.size, 1, none⟩) (by simp); have hz1 := hb1.size; simp at t0 t1 hz1 hg; have hc1 := hc1 rfl)
            | (go_at_call 66; refine (c_l01Digits _ (by omega) _).mono ?_; rintro e w2 ⟨rfl, hw⟩; obtain rfl := hw.symm))
      go_loopw [7, 8] (fun m k wr => wr = w1 ∧ ∃ p : Nat, p ≤ 6 ∧ k = .int .i64 p ∧ ∃ v : Int, m = .int .i64 v ∧ Scal v p X) (fun m k wr => 6 - (Go.RowKit.intOf k).toNat)
      case atStart => exact ⟨rfl, u1.size, by omega, rfl, dgV u1, rfl, HX.out⟩
      case round =>
        obtain ⟨hwr, p, hp, rfl, v, rfl, hsc⟩ := hrel
        subst hwr
        have HS : Hid (Scal v p X) := hsc
        clear hsc
        by_cases hlt : p < 6
        · have hki : (p : Int) < 6 := by omega
          have hvb := scal_bd HS.out hlt ⟨hx0, by omega⟩
          have ew : IntKind.i64.wrap (v * 10) = v * 10 := IntWalk.i64_in _ ⟨by omega, by omega⟩
          have HS2 : Hid (Scal (v * 10) (p + 1) X) := scal_step HS.out hlt
          clear HS
          go_wp2
          go_roundw
          case rel => exact ⟨trivial, p + 1, by omega, by go_num, v * 10, rfl, HS2.out⟩
          case measure => simp [Go.RowKit.intOf]; omega
        · have hki : ¬ (p : Int) < 6 := by omega
          obtain rfl := scal_end HS.out hlt
          clear HS HX
          go_wp2
          exact bodyPost_ret (v := .agg #[.int .i64 0, .int .i64 3]) (by simp [results, Tryz.results42, go_sem, s0, s1]) rfl ⟨ret_v HR.out.1 HR.out.2, ((((Below.refl _ _).alloc (Nat.le_refl _) _).trans (hb1.mono (by simp))).setCell (by simp) _).setCell (by simp) _⟩
  · subst hn
    have HX : Hid (Scal (dgV u1) u1.size X) := hX
    clear hX
    rcases hq0 with hq | ⟨hq, hq48⟩
    · go_enter Tryz.func42, Tryz.ntmps42
      go_wp2_with (first
            | (go_at_call 37; refine (HSp.out _).mono ?_; rintro e w1 ⟨g, cap, rfl, hg, hc0, hc1, hb1⟩; have s0 := cell_past (a := ⟨w.heap.size, 0, none⟩) (v := .int .i64 0) hb1 (by simp); have s1 := cell_past (a := ⟨w.heap.size, 1, none⟩) (v := .int .i64 0) hb1 (by simp); have t0 := hb1.frozen (p := ⟨w.heap.size, 0, none⟩) (by simp); have t1 := hb1.frozen (p := ⟨w.heap.size, 1, none⟩) (by simp); have hz1 := hb1.size; simp at t0 t1 hz1 hg; have hc1 := hc1 rfl)
            | (go_at_call 66; refine (c_l01Digits _ (by omega) _).mono ?_; rintro e w2 ⟨rfl, hw⟩; obtain rfl := hw.symm))
      go_loopw [7, 8] (fun m k wr => wr = w1 ∧ ∃ p : Nat, p ≤ 6 ∧ k = .int .i64 p ∧ ∃ v : Int, m = .int .i64 v ∧ Scal v p X) (fun m k wr => 6 - (Go.RowKit.intOf k).toNat)
      case atStart => exact ⟨rfl, u1.size, by omega, rfl, dgV u1, rfl, HX.out⟩
      case round =>
        obtain ⟨hwr, p, hp, rfl, v, rfl, hsc⟩ := hrel
        subst hwr
        have HS : Hid (Scal v p X) := hsc
        clear hsc
        by_cases hlt : p < 6
        · have hki : (p : Int) < 6 := by omega
          have hvb := scal_bd HS.out hlt ⟨hx0, by omega⟩
          have ew : IntKind.i64.wrap (v * 10) = v * 10 := IntWalk.i64_in _ ⟨by omega, by omega⟩
          have HS2 : Hid (Scal (v * 10) (p + 1) X) := scal_step HS.out hlt
          clear HS
          go_wp2
          go_roundw
          case rel => exact ⟨trivial, p + 1, by omega, by go_num, v * 10, rfl, HS2.out⟩
          case measure => simp [Go.RowKit.intOf]; omega
        · have hki : ¬ (p : Int) < 6 := by omega
          obtain rfl := scal_end HS.out hlt
          clear HS HX
          go_wp2
          exact bodyPost_ret (v := .agg #[.int .i64 0, .int .i64 3]) (by simp [results, Tryz.results42, go_sem, s0, s1]) rfl ⟨ret_v HR.out.1 HR.out.2, ((((Below.refl _ _).alloc (Nat.le_refl _) _).trans (hb1.mono (by simp))).setCell (by simp) _).setCell (by simp) _⟩
    · go_enter Tryz.func42, Tryz.ntmps42
      go_wp2_with (first
            | (go_at_call 37; refine (HSp.out _).mono ?_; rintro e w1 ⟨g, cap, rfl, hg, hc0, hc1, hb1⟩; have s0 := cell_past (a := ⟨w.heap.size, 0, none⟩) (v := .int .i64 0) hb1 (by simp); have s1 := cell_past (a := ⟨w.heap.size, 1, none⟩) (v := .int .i64 0) hb1 (by simp); have t0 := hb1.frozen (p := ⟨w.heap.size, 0, none⟩) (by simp); have t1 := hb1.frozen (p := ⟨w.heap.size, 1, none⟩) (by simp); have hz1 := hb1.size; simp at t0 t1 hz1 hg; have hc1 := hc1 rfl)
            | (go_at_call 66; refine (c_l01Digits _ (by omega) _).mono ?_; rintro e w2 ⟨rfl, hw⟩; obtain rfl := hw.symm))
      go_loopw [7, 8] (fun m k wr => wr = w1 ∧ ∃ p : Nat, p ≤ 6 ∧ k = .int .i64 p ∧ ∃ v : Int, m = .int .i64 v ∧ Scal v p X) (fun m k wr => 6 - (Go.RowKit.intOf k).toNat)
      case atStart => exact ⟨rfl, u1.size, by omega, rfl, dgV u1, rfl, HX.out⟩
      case round =>
        obtain ⟨hwr, p, hp, rfl, v, rfl, hsc⟩ := hrel
        subst hwr
        have HS : Hid (Scal v p X) := hsc
        clear hsc
        by_cases hlt : p < 6
        · have hki : (p : Int) < 6 := by omega
          have hvb := scal_bd HS.out hlt ⟨hx0, by omega⟩
          have ew : IntKind.i64.wrap (v * 10) = v * 10 := IntWalk.i64_in _ ⟨by omega, by omega⟩
          have HS2 : Hid (Scal (v * 10) (p + 1) X) := scal_step HS.out hlt
          clear HS
          go_wp2
          go_roundw
          case rel => exact ⟨trivial, p + 1, by omega, by go_num, v * 10, rfl, HS2.out⟩
          case measure => simp [Go.RowKit.intOf]; omega
        · have hki : ¬ (p : Int) < 6 := by omega
          obtain rfl := scal_end HS.out hlt
          clear HS HX
          go_wp2
          exact bodyPost_ret (v := .agg #[.int .i64 0, .int .i64 3]) (by simp [results, Tryz.results42, go_sem, s0, s1]) rfl ⟨ret_v HR.out.1 HR.out.2, ((((Below.refl _ _).alloc (Nat.le_refl _) _).trans (hb1.mono (by simp))).setCell (by simp) _).setCell (by simp) _⟩
set_option maxRecDepth 10000 in
set_option maxHeartbeats 1000000 in
theorem vr_pos_good2 {s T u0 u1 : ByteArray} {n : Nat} (hz : ¬ (20000 : Int) < (s.size : Int)) (hneg : negB s = false) (hT : T = tailS s) (hTz : T.size ≤ 20000) (h0z : u0.size ≤ 20000) (h1z : u1.size ≤ 20000) (hsp : ∀ w, Calls Tryz.prog 37 #[.string T, .int .u8 46] w fun e w' => ∃ g cap, e = .returned (.slice (some ⟨g, 0, none⟩) n cap) ∧ w.heap.size ≤ g ∧ w'.cell? ⟨g, 0, none⟩ = some (.string u0) ∧ (n = 2 → w'.cell? ⟨g, 1, none⟩ = some (.string u1)) ∧ Below w.heap.size w w')
    {X : Int} (hn : n = 2) (hl : ¬ (12 : Int) < (u0.size : Int)) (hq0 : (¬ (1 : Int) < (u0.size : Int)) ∨ ((1 : Int) < (u0.size : Int) ∧ (bt u0 0 == 48) = false)) (hv0 : 0 ≤ dgV u0) (hv1 : dgV u0 ≤ 999999999999) (hb0 : dgB u0 = true) (hl6 : (u1.size : Int) ≤ 6) (hb1d : dgB u1 = true) (hX : Scal (dgV u1) u1.size X) (hx0 : 0 ≤ X) (hx1 : X ≤ 999999) (hR0 : (dgV u0 * 1000000 + X) = rvV s ∧ 0 = rvC s) (w : World) :
    Calls Tryz.prog 42 #[.string s] w fun e w' => e = .returned (.agg #[.int .i64 (rvV s), .int .i64 (rvC s)]) ∧ Below w.heap.size w w' := by
  have HSp : Hid (∀ w, Calls Tryz.prog 37 #[.string T, .int .u8 46] w fun e w' => ∃ g cap, e = .returned (.slice (some ⟨g, 0, none⟩) n cap) ∧ w.heap.size ≤ g ∧ w'.cell? ⟨g, 0, none⟩ = some (.string u0) ∧ (n = 2 → w'.cell? ⟨g, 1, none⟩ = some (.string u1)) ∧ Below w.heap.size w w') := hsp
  have HR : Hid (_ ∧ _) := hR0
  clear hsp hR0
  have hbt := get_bt s
  have hbu := get_bt u0
  obtain rfl : T = s := by rw [hT]; unfold tailS; rw [hneg]; rfl
  have hcase : (decide ((0 : Int) < (T.size : Int)) = false ∧ T.size = 0) ∨ ((0 : Int) < (T.size : Int) ∧ (bt T 0 == 45) = false) := by
    by_cases k : 0 < T.size
    · refine .inr ⟨by omega, ?_⟩
      unfold negB at hneg; rw [decide_eq_true k] at hneg; simpa using hneg
    · exact .inl ⟨decide_eq_false (by omega), by omega⟩
  clear hT hneg
  rcases hcase with ⟨hc, hcc⟩ | ⟨hc, hcc⟩
  · subst hn
    have HX : Hid (Scal (dgV u1) u1.size X) := hX
    clear hX
    rcases hq0 with hq | ⟨hq, hq48⟩
    · go_enter Tryz.func42, Tryz.ntmps42
      go_wp2_with (first
            | (go_at_call 37; refine (HSp.out _).mono ?_; rintro e w1 ⟨g, cap, rfl, hg, hc0, hc1, hb1⟩; have s0 := cell_past (a := ⟨w.heap.size, 0, none⟩) (v := .int .i64 0) hb1 (by simp); have s1 := cell_past (a := ⟨w.heap.size, 1, none⟩) (v := .int .i64 0) hb1 (by simp); have t0 := hb1.frozen (p := ⟨w.heap.size, 0, none⟩) (by simp); have t1 := hb1.frozen (p := ⟨w.heap.size, 1, none⟩) (by simp); have hz1 := hb1.size; simp at t0 t1 hz1 hg; have hc1 := hc1 rfl)
            | (go_at_call 66; refine (c_l01Digits _ (by omega) _).mono ?_; rintro e w2 ⟨rfl, hw⟩; obtain rfl := hw.symm))
      go_loopw [7, 8] (fun m k wr => wr = w1 ∧ ∃ p : Nat, p ≤ 6 ∧ k = .int .i64 p ∧ ∃ v : Int, m = .int .i64 v ∧ Scal v p X) (fun m k wr => 6 - (Go.RowKit.intOf k).toNat)
      case atStart => exact ⟨rfl, u1.size, by omega, rfl, dgV u1, rfl, HX.out⟩
      case round =>
        obtain ⟨hwr, p, hp, rfl, v, rfl, hsc⟩ := hrel
        subst hwr
        have HS : Hid (Scal v p X) := hsc
        clear hsc
        by_cases hlt : p < 6
        · have hki : (p : Int) < 6 := by omega
          have hvb := scal_bd HS.out hlt ⟨hx0, by omega⟩
          have ew : IntKind.i64.wrap (v * 10) = v * 10 := IntWalk.i64_in _ ⟨by omega, by omega⟩
          have HS2 : Hid (Scal (v * 10) (p + 1) X) := scal_step HS.out hlt
          clear HS
          go_wp2
          go_roundw
          case rel => exact ⟨trivial, p + 1, by omega, by go_num, v * 10, rfl, HS2.out⟩
          case measure => simp [Go.RowKit.intOf]; omega
        · have hki : ¬ (p : Int) < 6 := by omega
          obtain rfl := scal_end HS.out hlt
          clear HS HX
          go_wp2
          exact bodyPost_ret (v := .agg #[.int .i64 ((dgV u0 * 1000000 + v)), .int .i64 0]) (by simp [results, Tryz.results42, go_sem, s0, s1]) rfl ⟨ret_v HR.out.1 HR.out.2, ((((Below.refl _ _).alloc (Nat.le_refl _) _).trans (hb1.mono (by simp))).setCell (by simp) _).setCell (by simp) _⟩
    · go_enter Tryz.func42, Tryz.ntmps42
      go_wp2_with (first
            | (go_at_call 37; refine (HSp.out _).mono ?_; rintro e w1 ⟨g, cap, rfl, hg, hc0, hc1, hb1⟩; have s0 := cell_past (a := ⟨w.heap.size, 0, none⟩) (v := .int .i64 0) hb1 (by simp); have s1 := cell_past (a := ⟨w.heap.size, 1, none⟩) (v := .int .i64 0) hb1 (by simp); have t0 := hb1.frozen (p := ⟨w.heap.size, 0, none⟩) (by simp); have t1 := hb1.frozen (p := ⟨w.heap.size, 1, none⟩) (by simp); have hz1 := hb1.size; simp at t0 t1 hz1 hg; have hc1 := hc1 rfl)
            | (go_at_call 66; refine (c_l01Digits _ (by omega) _).mono ?_; rintro e w2 ⟨rfl, hw⟩; obtain rfl := hw.symm))
      go_loopw [7, 8] (fun m k wr => wr = w1 ∧ ∃ p : Nat, p ≤ 6 ∧ k = .int .i64 p ∧ ∃ v : Int, m = .int .i64 v ∧ Scal v p X) (fun m k wr => 6 - (Go.RowKit.intOf k).toNat)
      case atStart => exact ⟨rfl, u1.size, by omega, rfl, dgV u1, rfl, HX.out⟩
      case round =>
        obtain ⟨hwr, p, hp, rfl, v, rfl, hsc⟩ := hrel
        subst hwr
        have HS : Hid (Scal v p X) := hsc
        clear hsc
        by_cases hlt : p < 6
        · have hki : (p : Int) < 6 := by omega
          have hvb := scal_bd HS.out hlt ⟨hx0, by omega⟩
          have ew : IntKind.i64.wrap (v * 10) = v * 10 := IntWalk.i64_in _ ⟨by omega, by omega⟩
          have HS2 : Hid (Scal (v * 10) (p + 1) X) := scal_step HS.out hlt
          clear HS
          go_wp2
          go_roundw
          case rel => exact ⟨trivial, p + 1, by omega, by go_num, v * 10, rfl, HS2.out⟩
          case measure => simp [Go.RowKit.intOf]; omega
        · have hki : ¬ (p : Int) < 6 := by omega
          obtain rfl := scal_end HS.out hlt
          clear HS HX
          go_wp2
          exact bodyPost_ret (v := .agg #[.int .i64 ((dgV u0 * 1000000 + v)), .int .i64 0]) (by simp [results, Tryz.results42, go_sem, s0, s1]) rfl ⟨ret_v HR.out.1 HR.out.2, ((((Below.refl _ _).alloc (Nat.le_refl _) _).trans (hb1.mono (by simp))).setCell (by simp) _).setCell (by simp) _⟩
  · subst hn
    have HX : Hid (Scal (dgV u1) u1.size X) := hX
    clear hX
    rcases hq0 with hq | ⟨hq, hq48⟩
    · go_enter Tryz.func42, Tryz.ntmps42
      go_wp2_with (first
            | (go_at_call 37; refine (HSp.out _).mono ?_; rintro e w1 ⟨g, cap, rfl, hg, hc0, hc1, hb1⟩; have s0 := cell_past (a := ⟨w.heap.size, 0, none⟩) (v := .int .i64 0) hb1 (by simp); have s1 := cell_past (a := ⟨w.heap.size, 1, none⟩) (v := .int .i64 0) hb1 (by simp); have t0 := hb1.frozen (p := ⟨w.heap.size, 0, none⟩) (by simp); have t1 := hb1.frozen (p := ⟨w.heap.size, 1, none⟩) (by simp); have hz1 := hb1.size; simp at t0 t1 hz1 hg; have hc1 := hc1 rfl)
            | (go_at_call 66; refine (c_l01Digits _ (by omega) _).mono ?_; rintro e w2 ⟨rfl, hw⟩; obtain rfl := hw.symm))
      go_loopw [7, 8] (fun m k wr => wr = w1 ∧ ∃ p : Nat, p ≤ 6 ∧ k = .int .i64 p ∧ ∃ v : Int, m = .int .i64 v ∧ Scal v p X) (fun m k wr => 6 - (Go.RowKit.intOf k).toNat)
      case atStart => exact ⟨rfl, u1.size, by omega, rfl, dgV u1, rfl, HX.out⟩
      case round =>
        obtain ⟨hwr, p, hp, rfl, v, rfl, hsc⟩ := hrel
        subst hwr
        have HS : Hid (Scal v p X) := hsc
        clear hsc
        by_cases hlt : p < 6
        · have hki : (p : Int) < 6 := by omega
          have hvb := scal_bd HS.out hlt ⟨hx0, by omega⟩
          have ew : IntKind.i64.wrap (v * 10) = v * 10 := IntWalk.i64_in _ ⟨by omega, by omega⟩
          have HS2 : Hid (Scal (v * 10) (p + 1) X) := scal_step HS.out hlt
          clear HS
          go_wp2
          go_roundw
          case rel => exact ⟨trivial, p + 1, by omega, by go_num, v * 10, rfl, HS2.out⟩
          case measure => simp [Go.RowKit.intOf]; omega
        · have hki : ¬ (p : Int) < 6 := by omega
          obtain rfl := scal_end HS.out hlt
          clear HS HX
          go_wp2
          exact bodyPost_ret (v := .agg #[.int .i64 ((dgV u0 * 1000000 + v)), .int .i64 0]) (by simp [results, Tryz.results42, go_sem, s0, s1]) rfl ⟨ret_v HR.out.1 HR.out.2, ((((Below.refl _ _).alloc (Nat.le_refl _) _).trans (hb1.mono (by simp))).setCell (by simp) _).setCell (by simp) _⟩
    · go_enter Tryz.func42, Tryz.ntmps42
      go_wp2_with (first
            | (go_at_call 37; refine (HSp.out _).mono ?_; rintro e w1 ⟨g, cap, rfl, hg, hc0, hc1, hb1⟩; have s0 := cell_past (a := ⟨w.heap.size, 0, none⟩) (v := .int .i64 0) hb1 (by simp); have s1 := cell_past (a := ⟨w.heap.size, 1, none⟩) (v := .int .i64 0) hb1 (by simp); have t0 := hb1.frozen (p := ⟨w.heap.size, 0, none⟩) (by simp); have t1 := hb1.frozen (p := ⟨w.heap.size, 1, none⟩) (by simp); have hz1 := hb1.size; simp at t0 t1 hz1 hg; have hc1 := hc1 rfl)
            | (go_at_call 66; refine (c_l01Digits _ (by omega) _).mono ?_; rintro e w2 ⟨rfl, hw⟩; obtain rfl := hw.symm))
      go_loopw [7, 8] (fun m k wr => wr = w1 ∧ ∃ p : Nat, p ≤ 6 ∧ k = .int .i64 p ∧ ∃ v : Int, m = .int .i64 v ∧ Scal v p X) (fun m k wr => 6 - (Go.RowKit.intOf k).toNat)
      case atStart => exact ⟨rfl, u1.size, by omega, rfl, dgV u1, rfl, HX.out⟩
      case round =>
        obtain ⟨hwr, p, hp, rfl, v, rfl, hsc⟩ := hrel
        subst hwr
        have HS : Hid (Scal v p X) := hsc
        clear hsc
        by_cases hlt : p < 6
        · have hki : (p : Int) < 6 := by omega
          have hvb := scal_bd HS.out hlt ⟨hx0, by omega⟩
          have ew : IntKind.i64.wrap (v * 10) = v * 10 := IntWalk.i64_in _ ⟨by omega, by omega⟩
          have HS2 : Hid (Scal (v * 10) (p + 1) X) := scal_step HS.out hlt
          clear HS
          go_wp2
          go_roundw
          case rel => exact ⟨trivial, p + 1, by omega, by go_num, v * 10, rfl, HS2.out⟩
          case measure => simp [Go.RowKit.intOf]; omega
        · have hki : ¬ (p : Int) < 6 := by omega
          obtain rfl := scal_end HS.out hlt
          clear HS HX
          go_wp2
          exact bodyPost_ret (v := .agg #[.int .i64 ((dgV u0 * 1000000 + v)), .int .i64 0]) (by simp [results, Tryz.results42, go_sem, s0, s1]) rfl ⟨ret_v HR.out.1 HR.out.2, ((((Below.refl _ _).alloc (Nat.le_refl _) _).trans (hb1.mono (by simp))).setCell (by simp) _).setCell (by simp) _⟩
end Go.Proofs.YtnflhahnbdnaoaaGreatDoor
