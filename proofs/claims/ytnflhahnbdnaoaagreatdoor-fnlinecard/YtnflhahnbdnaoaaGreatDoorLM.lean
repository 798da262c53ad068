/-
  The contract of spec.ValueRead at a text that opens with a minus.
-/
import Derived.Test.YtnflhahnbdnaoaaGreatDoorLL
namespace Go.Proofs.YtnflhahnbdnaoaaGreatDoor
set_option linter.unusedVariables false
set_option linter.unusedSimpArgs false
open Go.ChangeShapes Go.WideShapes Go.ChangeAt Go.RowKit Go.PlainAid

set_option maxRecDepth 10000 in
set_option maxHeartbeats 1000000 in
theorem vr_neg_many {s T u0 u1 : ByteArray} {n : Nat} (hz : ¬ (20000 : Int) < (s.size : Int)) (hneg : negB s = true) (hT : T = tailS s) (hTz : T.size ≤ 20000) (h0z : u0.size ≤ 20000) (h1z : u1.size ≤ 20000) (hsp : ∀ w, Calls Tryz.prog 37 #[.string T, .int .u8 46] w fun e w' => ∃ g cap, e = .returned (.slice (some ⟨g, 0, none⟩) n cap) ∧ w.heap.size ≤ g ∧ w'.cell? ⟨g, 0, none⟩ = some (.string u0) ∧ (n = 2 → w'.cell? ⟨g, 1, none⟩ = some (.string u1)) ∧ Below w.heap.size w w')
    (hn : (2 : Int) < (n : Int)) (hR0 : 0 = rvV s ∧ 3 = rvC s) (w : World) :
    Calls Tryz.prog 42 #[.string s] w fun e w' => e = .returned (.agg #[.int .i64 (rvV s), .int .i64 (rvC s)]) ∧ Below w.heap.size w w' := by
  have HSp : Hid (∀ w, Calls Tryz.prog 37 #[.string T, .int .u8 46] w fun e w' => ∃ g cap, e = .returned (.slice (some ⟨g, 0, none⟩) n cap) ∧ w.heap.size ≤ g ∧ w'.cell? ⟨g, 0, none⟩ = some (.string u0) ∧ (n = 2 → w'.cell? ⟨g, 1, none⟩ = some (.string u1)) ∧ Below w.heap.size w w') := hsp
  have HR : Hid (_ ∧ _) := hR0
  clear hsp hR0
  have hbt := get_bt s
  have hbu := get_bt u0
  have ET : s.extract 1 s.size = T := by rw [hT]; unfold tailS; rw [hneg]; rfl
  have hb45 : (bt s 0 == 45) = true := (Bool.and_eq_true_iff.1 hneg).2
  have hp0 : (0 : Int) < (s.size : Int) := by have := of_decide_eq_true (Bool.and_eq_true_iff.1 hneg).1; omega
  have hp1 : (1 : Int) ≤ (s.size : Int) := by omega
  clear hT hneg
  go_enter Tryz.func42, Tryz.ntmps42
  go_wp2_with (first
      | (go_at_call 37; refine (HSp.out _).mono ?_; rintro e w1 ⟨g, cap, rfl, hg, hc0, hc1, hb1⟩; have s0 := cell_past (a := ⟨w.heap.size, 0, none⟩) (v := .int .i64 0) hb1 (by simp); have s1 := cell_past (a := ⟨w.heap.size, 1, none⟩) (v := .int .i64 0) hb1 (by simp); have t0 := hb1.frozen (p := ⟨w.heap.size, 0, none⟩) (by simp); have t1 := hb1.frozen (p := ⟨w.heap.size, 1, none⟩) (by simp); have hz1 := hb1.size; simp at t0 t1 hz1 hg)
      | (go_at_call 66; refine (c_l01Digits _ (by omega) _).mono ?_; rintro e w2 ⟨rfl, hw⟩; obtain rfl := hw.symm))
  exact bodyPost_ret (v := .agg #[.int .i64 0, .int .i64 3]) (by simp [results, Tryz.results42, go_sem, s0, s1]) rfl ⟨ret_v HR.out.1 HR.out.2, ((((Below.refl _ _).alloc (Nat.le_refl _) _).trans (hb1.mono (by simp))).setCell (by simp) _).setCell (by simp) _⟩

set_option maxRecDepth 10000 in
set_option maxHeartbeats 1000000 in
theorem vr_neg_long {s T u0 u1 : ByteArray} {n : Nat} (hz : ¬ (20000 : Int) < (s.size : Int)) (hneg : negB s = true) (hT : T = tailS s) (hTz : T.size ≤ 20000) (h0z : u0.size ≤ 20000) (h1z : u1.size ≤ 20000) (hsp : ∀ w, Calls Tryz.prog 37 #[.string T, .int .u8 46] w fun e w' => ∃ g cap, e = .returned (.slice (some ⟨g, 0, none⟩) n cap) ∧ w.heap.size ≤ g ∧ w'.cell? ⟨g, 0, none⟩ = some (.string u0) ∧ (n = 2 → w'.cell? ⟨g, 1, none⟩ = some (.string u1)) ∧ Below w.heap.size w w')
    (hn : ¬ (2 : Int) < (n : Int)) (hn1 : (0 : Int) < (n : Int)) (hl : (12 : Int) < (u0.size : Int)) (hR0 : 0 = rvV s ∧ 3 = rvC s) (w : World) :
    Calls Tryz.prog 42 #[.string s] w fun e w' => e = .returned (.agg #[.int .i64 (rvV s), .int .i64 (rvC s)]) ∧ Below w.heap.size w w' := by
  have HSp : Hid (∀ w, Calls Tryz.prog 37 #[.string T, .int .u8 46] w fun e w' => ∃ g cap, e = .returned (.slice (some ⟨g, 0, none⟩) n cap) ∧ w.heap.size ≤ g ∧ w'.cell? ⟨g, 0, none⟩ = some (.string u0) ∧ (n = 2 → w'.cell? ⟨g, 1, none⟩ = some (.string u1)) ∧ Below w.heap.size w w') := hsp
  have HR : Hid (_ ∧ _) := hR0
  clear hsp hR0
  have hbt := get_bt s
  have hbu := get_bt u0
  have ET : s.extract 1 s.size = T := by rw [hT]; unfold tailS; rw [hneg]; rfl
  have hb45 : (bt s 0 == 45) = true := (Bool.and_eq_true_iff.1 hneg).2
  have hp0 : (0 : Int) < (s.size : Int) := by have := of_decide_eq_true (Bool.and_eq_true_iff.1 hneg).1; omega
  have hp1 : (1 : Int) ≤ (s.size : Int) := by omega
  clear hT hneg
  go_enter Tryz.func42, Tryz.ntmps42
  go_wp2_with (first
      | (go_at_call 37; refine (HSp.out _).mono ?_; rintro e w1 ⟨g, cap, rfl, hg, hc0, hc1, hb1⟩; have s0 := cell_past (a := ⟨w.heap.size, 0, none⟩) (v := .int .i64 0) hb1 (by simp); have s1 := cell_past (a := ⟨w.heap.size, 1, none⟩) (v := .int .i64 0) hb1 (by simp); have t0 := hb1.frozen (p := ⟨w.heap.size, 0, none⟩) (by simp); have t1 := hb1.frozen (p := ⟨w.heap.size, 1, none⟩) (by simp); have hz1 := hb1.size; simp at t0 t1 hz1 hg)
      | (go_at_call 66; refine (c_l01Digits _ (by omega) _).mono ?_; rintro e w2 ⟨rfl, hw⟩; obtain rfl := hw.symm))
  exact bodyPost_ret (v := .agg #[.int .i64 0, .int .i64 3]) (by simp [results, Tryz.results42, go_sem, s0, s1]) rfl ⟨ret_v HR.out.1 HR.out.2, ((((Below.refl _ _).alloc (Nat.le_refl _) _).trans (hb1.mono (by simp))).setCell (by simp) _).setCell (by simp) _⟩

set_option maxRecDepth 10000 in
set_option maxHeartbeats 1000000 in
theorem vr_neg_lead {s T u0 u1 : ByteArray} {n : Nat} (hz : ¬ (20000 : Int) < (s.size : Int)) (hneg : negB s = true) (hT : T = tailS s) (hTz : T.size ≤ 20000) (h0z : u0.size ≤ 20000) (h1z : u1.size ≤ 20000) (hsp : ∀ w, Calls Tryz.prog 37 #[.string T, .int .u8 46] w fun e w' => ∃ g cap, e = .returned (.slice (some ⟨g, 0, none⟩) n cap) ∧ w.heap.size ≤ g ∧ w'.cell? ⟨g, 0, none⟩ = some (.string u0) ∧ (n = 2 → w'.cell? ⟨g, 1, none⟩ = some (.string u1)) ∧ Below w.heap.size w w')
    (hn : ¬ (2 : Int) < (n : Int)) (hn1 : (0 : Int) < (n : Int)) (hl : ¬ (12 : Int) < (u0.size : Int)) (hl1 : (1 : Int) < (u0.size : Int)) (h48 : (bt u0 0 == 48) = true) (hR0 : 0 = rvV s ∧ 3 = rvC s) (w : World) :
    Calls Tryz.prog 42 #[.string s] w fun e w' => e = .returned (.agg #[.int .i64 (rvV s), .int .i64 (rvC s)]) ∧ Below w.heap.size w w' := by
  have HSp : Hid (∀ w, Calls Tryz.prog 37 #[.string T, .int .u8 46] w fun e w' => ∃ g cap, e = .returned (.slice (some ⟨g, 0, none⟩) n cap) ∧ w.heap.size ≤ g ∧ w'.cell? ⟨g, 0, none⟩ = some (.string u0) ∧ (n = 2 → w'.cell? ⟨g, 1, none⟩ = some (.string u1)) ∧ Below w.heap.size w w') := hsp
  have HR : Hid (_ ∧ _) := hR0
  clear hsp hR0
  have hbt := get_bt s
  have hbu := get_bt u0
  have ET : s.extract 1 s.size = T := by rw [hT]; unfold tailS; rw [hneg]; rfl
  have hb45 : (bt s 0 == 45) = true := (Bool.and_eq_true_iff.1 hneg).2
  have hp0 : (0 : Int) < (s.size : Int) := by have := of_decide_eq_true (Bool.and_eq_true_iff.1 hneg).1; omega
  have hp1 : (1 : Int) ≤ (s.size : Int) := by omega
  clear hT hneg
  go_enter Tryz.func42, Tryz.ntmps42
  go_wp2_with (first
      | (go_at_call 37; refine (HSp.out _).mono ?_; rintro e w1 ⟨g, cap, rfl, hg, hc0, hc1, hb1⟩; have s0 := cell_past (a := ⟨w.heap.size, 0, none⟩) (v := .int .i64 0) hb1 (by simp); have s1 := cell_past (a := ⟨w.heap.size, 1, none⟩) (v := .int .i64 0) hb1 (by simp); have t0 := hb1.frozen (p := ⟨w.heap.size, 0, none⟩) (by simp); have t1 := hb1.frozen (p := ⟨w.heap.size, 1, none⟩) (by simp); have hz1 := hb1.size; simp at t0 t1 hz1 hg)
      | (go_at_call 66; refine (c_l01Digits _ (by omega) _).mono ?_; rintro e w2 ⟨rfl, hw⟩; obtain rfl := hw.symm))
  exact bodyPost_ret (v := .agg #[.int .i64 0, .int .i64 3]) (by simp [results, Tryz.results42, go_sem, s0, s1]) rfl ⟨ret_v HR.out.1 HR.out.2, ((((Below.refl _ _).alloc (Nat.le_refl _) _).trans (hb1.mono (by simp))).setCell (by simp) _).setCell (by simp) _⟩

set_option maxRecDepth 10000 in
set_option maxHeartbeats 1000000 in
theorem vr_neg_bad0 {s T u0 u1 : ByteArray} {n : Nat} (hz : ¬ (20000 : Int) < (s.size : Int)) (hneg : negB s = true) (hT : T = tailS s) (hTz : T.size ≤ 20000) (h0z : u0.size ≤ 20000) (h1z : u1.size ≤ 20000) (hsp : ∀ w, Calls Tryz.prog 37 #[.string T, .int .u8 46] w fun e w' => ∃ g cap, e = .returned (.slice (some ⟨g, 0, none⟩) n cap) ∧ w.heap.size ≤ g ∧ w'.cell? ⟨g, 0, none⟩ = some (.string u0) ∧ (n = 2 → w'.cell? ⟨g, 1, none⟩ = some (.string u1)) ∧ Below w.heap.size w w')
    (hn : ¬ (2 : Int) < (n : Int)) (hn1 : (0 : Int) < (n : Int)) (hl : ¬ (12 : Int) < (u0.size : Int)) (hq0 : (¬ (1 : Int) < (u0.size : Int)) ∨ ((1 : Int) < (u0.size : Int) ∧ (bt u0 0 == 48) = false)) (hv0 : 0 ≤ dgV u0) (hv1 : dgV u0 ≤ 999999999999) (hb0 : dgB u0 = false) (hR0 : 0 = rvV s ∧ 3 = rvC s) (w : World) :
    Calls Tryz.prog 42 #[.string s] w fun e w' => e = .returned (.agg #[.int .i64 (rvV s), .int .i64 (rvC s)]) ∧ Below w.heap.size w w' := by
  have HSp : Hid (∀ w, Calls Tryz.prog 37 #[.string T, .int .u8 46] w fun e w' => ∃ g cap, e = .returned (.slice (some ⟨g, 0, none⟩) n cap) ∧ w.heap.size ≤ g ∧ w'.cell? ⟨g, 0, none⟩ = some (.string u0) ∧ (n = 2 → w'.cell? ⟨g, 1, none⟩ = some (.string u1)) ∧ Below w.heap.size w w') := hsp
  have HR : Hid (_ ∧ _) := hR0
  clear hsp hR0
  have hbt := get_bt s
  have hbu := get_bt u0
  have ET : s.extract 1 s.size = T := by rw [hT]; unfold tailS; rw [hneg]; rfl
  have hb45 : (bt s 0 == 45) = true := (Bool.and_eq_true_iff.1 hneg).2
  have hp0 : (0 : Int) < (s.size : Int) := by have := of_decide_eq_true (Bool.and_eq_true_iff.1 hneg).1; omega
  have hp1 : (1 : Int) ≤ (s.size : Int) := by omega
  clear hT hneg
  rcases hq0 with hq | ⟨hq, hq48⟩
  · go_enter Tryz.func42, Tryz.ntmps42
    go_wp2_with (first
          | (go_at_call 37; refine (HSp.out _).mono ?_; rintro e w1 ⟨g, cap, rfl, hg, hc0, hc1, hb1⟩; have s0 := cell_past (a := ⟨w.heap.size, 0, none⟩) (v := .int .i64 0) hb1 (by simp); have s1 := cell_past (a := ⟨w.heap.size, 1, none⟩) (v := .int .i64 0) hb1 (by simp); have t0 := hb1.frozen (p := ⟨w.heap.size, 0, none⟩) (by simp); have t1 := hb1.frozen (p := ⟨w.heap.size, 1, none⟩) (by simp); have hz1 := hb1.size; simp at t0 t1 hz1 hg)
          | (go_at_call 66; refine (c_l01Digits _ (by omega) _).mono ?_; rintro e w2 ⟨rfl, hw⟩; obtain rfl := hw.symm))
    exact bodyPost_ret (v := .agg #[.int .i64 0, .int .i64 3]) (by simp [results, Tryz.results42, go_sem, s0, s1]) rfl ⟨ret_v HR.out.1 HR.out.2, ((((Below.refl _ _).alloc (Nat.le_refl _) _).trans (hb1.mono (by simp))).setCell (by simp) _).setCell (by simp) _⟩
  · go_enter Tryz.func42, Tryz.ntmps42
    go_wp2_with (first
          | (go_at_call 37; refine (HSp.out _).mono ?_; rintro e w1 ⟨g, cap, rfl, hg, hc0, hc1, hb1⟩; have s0 := cell_past (a := ⟨w.heap.size, 0, none⟩) (v := .int .i64 0) hb1 (by simp); have s1 := cell_past (a := ⟨w.heap.size, 1, none⟩) (v := .int .i64 0) hb1 (by simp); have t0 := hb1.frozen (p := ⟨w.heap.size, 0, none⟩) (by simp); have t1 := hb1.frozen (p := ⟨w.heap.size, 1, none⟩) (by simp); have hz1 := hb1.size; simp at t0 t1 hz1 hg)
          | (go_at_call 66; refine (c_l01Digits _ (by omega) _).mono ?_; rintro e w2 ⟨rfl, hw⟩; obtain rfl := hw.symm))
    exact bodyPost_ret (v := .agg #[.int .i64 0, .int .i64 3]) (by simp [results, Tryz.results42, go_sem, s0, s1]) rfl ⟨ret_v HR.out.1 HR.out.2, ((((Below.refl _ _).alloc (Nat.le_refl _) _).trans (hb1.mono (by simp))).setCell (by simp) _).setCell (by simp) _⟩

set_option maxRecDepth 10000 in
set_option maxHeartbeats 1000000 in
theorem vr_neg_good1 {s T u0 u1 : ByteArray} {n : Nat} (hz : ¬ (20000 : Int) < (s.size : Int)) (hneg : negB s = true) (hT : T = tailS s) (hTz : T.size ≤ 20000) (h0z : u0.size ≤ 20000) (h1z : u1.size ≤ 20000) (hsp : ∀ w, Calls Tryz.prog 37 #[.string T, .int .u8 46] w fun e w' => ∃ g cap, e = .returned (.slice (some ⟨g, 0, none⟩) n cap) ∧ w.heap.size ≤ g ∧ w'.cell? ⟨g, 0, none⟩ = some (.string u0) ∧ (n = 2 → w'.cell? ⟨g, 1, none⟩ = some (.string u1)) ∧ Below w.heap.size w w')
    (hn : n = 1) (hl : ¬ (12 : Int) < (u0.size : Int)) (hq0 : (¬ (1 : Int) < (u0.size : Int)) ∨ ((1 : Int) < (u0.size : Int) ∧ (bt u0 0 == 48) = false)) (hv0 : 0 ≤ dgV u0) (hv1 : dgV u0 ≤ 999999999999) (hb0 : dgB u0 = true) (hR0 : -(dgV u0 * 1000000) = rvV s ∧ 0 = rvC s) (w : World) :
    Calls Tryz.prog 42 #[.string s] w fun e w' => e = .returned (.agg #[.int .i64 (rvV s), .int .i64 (rvC s)]) ∧ Below w.heap.size w w' := by
  have HSp : Hid (∀ w, Calls Tryz.prog 37 #[.string T, .int .u8 46] w fun e w' => ∃ g cap, e = .returned (.slice (some ⟨g, 0, none⟩) n cap) ∧ w.heap.size ≤ g ∧ w'.cell? ⟨g, 0, none⟩ = some (.string u0) ∧ (n = 2 → w'.cell? ⟨g, 1, none⟩ = some (.string u1)) ∧ Below w.heap.size w w') := hsp
  have HR : Hid (_ ∧ _) := hR0
  clear hsp hR0
  have hbt := get_bt s
  have hbu := get_bt u0
  have ET : s.extract 1 s.size = T := by rw [hT]; unfold tailS; rw [hneg]; rfl
  have hb45 : (bt s 0 == 45) = true := (Bool.and_eq_true_iff.1 hneg).2
  have hp0 : (0 : Int) < (s.size : Int) := by have := of_decide_eq_true (Bool.and_eq_true_iff.1 hneg).1; omega
  have hp1 : (1 : Int) ≤ (s.size : Int) := by omega
  clear hT hneg
  subst hn
  rcases hq0 with hq | ⟨hq, hq48⟩
  · go_enter Tryz.func42, Tryz.ntmps42
    go_wp2_with (first
          | (go_at_call 37; refine (HSp.out _).mono ?_; rintro e w1 ⟨g, cap, rfl, hg, hc0, hc1, hb1⟩; have s0 := cell_past (a := ⟨w.heap.size, 0, none⟩) (v := .int .i64 0) hb1 (by simp); have s1 := cell_past (a := ⟨w.heap.size, 1, none⟩) (v := .int .i64 0) hb1 (by simp); have t0 := hb1.frozen (p := ⟨w.heap.size, 0, none⟩) (by simp); have t1 := hb1.frozen (p := ⟨w.heap.size, 1, none⟩) (by simp); have hz1 := hb1.size; simp at t0 t1 hz1 hg)
          | (go_at_call 66; refine (c_l01Digits _ (by omega) _).mono ?_; rintro e w2 ⟨rfl, hw⟩; obtain rfl := hw.symm))
    exact bodyPost_ret (v := .agg #[.int .i64 (-(dgV u0 * 1000000)), .int .i64 0]) (by simp [results, Tryz.results42, go_sem, s0, s1]) rfl ⟨ret_v HR.out.1 HR.out.2, ((((Below.refl _ _).alloc (Nat.le_refl _) _).trans (hb1.mono (by simp))).setCell (by simp) _).setCell (by simp) _⟩
  · go_enter Tryz.func42, Tryz.ntmps42
    go_wp2_with (first
          | (go_at_call 37; refine (HSp.out _).mono ?_; rintro e w1 ⟨g, cap, rfl, hg, hc0, hc1, hb1⟩; have s0 := cell_past (a := ⟨w.heap.size, 0, none⟩) (v := .int .i64 0) hb1 (by simp); have s1 := cell_past (a := ⟨w.heap.size, 1, none⟩) (v := .int .i64 0) hb1 (by simp); have t0 := hb1.frozen (p := ⟨w.heap.size, 0, none⟩) (by simp); have t1 := hb1.frozen (p := ⟨w.heap.size, 1, none⟩) (by simp); have hz1 := hb1.size; simp at t0 t1 hz1 hg)
          | (go_at_call 66; refine (c_l01Digits _ (by omega) _).mono ?_; rintro e w2 ⟨rfl, hw⟩; obtain rfl := hw.symm))
    exact bodyPost_ret (v := .agg #[.int .i64 (-(dgV u0 * 1000000)), .int .i64 0]) (by simp [results, Tryz.results42, go_sem, s0, s1]) rfl ⟨ret_v HR.out.1 HR.out.2, ((((Below.refl _ _).alloc (Nat.le_refl _) _).trans (hb1.mono (by simp))).setCell (by simp) _).setCell (by simp) _⟩

set_option maxRecDepth 10000 in
set_option maxHeartbeats 1000000 in
theorem vr_neg_long1 {s T u0 u1 : ByteArray} {n : Nat} (hz : ¬ (20000 : Int) < (s.size : Int)) (hneg : negB s = true) (hT : T = tailS s) (hTz : T.size ≤ 20000) (h0z : u0.size ≤ 20000) (h1z : u1.size ≤ 20000) (hsp : ∀ w, Calls Tryz.prog 37 #[.string T, .int .u8 46] w fun e w' => ∃ g cap, e = .returned (.slice (some ⟨g, 0, none⟩) n cap) ∧ w.heap.size ≤ g ∧ w'.cell? ⟨g, 0, none⟩ = some (.string u0) ∧ (n = 2 → w'.cell? ⟨g, 1, none⟩ = some (.string u1)) ∧ Below w.heap.size w w')
    (hn : n = 2) (hl : ¬ (12 : Int) < (u0.size : Int)) (hq0 : (¬ (1 : Int) < (u0.size : Int)) ∨ ((1 : Int) < (u0.size : Int) ∧ (bt u0 0 == 48) = false)) (hv0 : 0 ≤ dgV u0) (hv1 : dgV u0 ≤ 999999999999) (hb0 : dgB u0 = true) (hl6 : ¬ (u1.size : Int) ≤ 6) (hR0 : 0 = rvV s ∧ 3 = rvC s) (w : World) :
    Calls Tryz.prog 42 #[.string s] w fun e w' => e = .returned (.agg #[.int .i64 (rvV s), .int .i64 (rvC s)]) ∧ Below w.heap.size w w' := by
  have HSp : Hid (∀ w, Calls Tryz.prog 37 #[.string T, .int .u8 46] w fun e w' => ∃ g cap, e = .returned (.slice (some ⟨g, 0, none⟩) n cap) ∧ w.heap.size ≤ g ∧ w'.cell? ⟨g, 0, none⟩ = some (.string u0) ∧ (n = 2 → w'.cell? ⟨g, 1, none⟩ = some (.string u1)) ∧ Below w.heap.size w w') := hsp
  have HR : Hid (_ ∧ _) := hR0
  clear hsp hR0
  have hbt := get_bt s
  have hbu := get_bt u0
  have ET : s.extract 1 s.size = T := by rw [hT]; unfold tailS; rw [hneg]; rfl
  have hb45 : (bt s 0 == 45) = true := (Bool.and_eq_true_iff.1 hneg).2
  have hp0 : (0 : Int) < (s.size : Int) := by have := of_decide_eq_true (Bool.and_eq_true_iff.1 hneg).1; omega
  have hp1 : (1 : Int) ≤ (s.size : Int) := by omega
  clear hT hneg
  subst hn
  rcases hq0 with hq | ⟨hq, hq48⟩
  · go_enter Tryz.func42, Tryz.ntmps42
    go_wp2_with (first
          | (go_at_call 37; refine (HSp.out _).mono ?_; rintro e w1 ⟨g, cap, rfl, hg, hc0, hc1, hb1⟩; have s0 := cell_past (a := ⟨w.heap.size, 0, none⟩) (v := .int .i64 0) hb1 (by simp); have s1 := cell_past (a := ⟨w.heap.size, 1, none⟩) (v := .int .i64 0) hb1 (by simp); have t0 := hb1.frozen (p := ⟨w.heap.size, 0, none⟩) (by simp); have t1 := hb1.frozen (p := ⟨w.heap.size, 1, none⟩) (by simp); have hz1 := hb1.size; simp at t0 t1 hz1 hg; have hc1 := hc1 rfl)
          | (go_at_call 66; refine (c_l01Digits _ (by omega) _).mono ?_; rintro e w2 ⟨rfl, hw⟩; obtain rfl := hw.symm))
    go_loopw [7, 8] (fun m k wr => wr = w1 ∧ m = .int .i64 0 ∧ k = .int .i64 u1.size) (fun m k wr => 0)
    case atStart => exact ⟨rfl, rfl, rfl⟩
    case round =>
      obtain ⟨hwr, rfl, rfl⟩ := hrel
      subst hwr
      have hk6 : ¬ (u1.size : Int) < 6 := by omega
      have hd6 : decide ((u1.size : Int) ≤ 6) = false := decide_eq_false (by omega)
      go_wp2
      exact bodyPost_ret (v := .agg #[.int .i64 0, .int .i64 3]) (by simp [results, Tryz.results42, go_sem, s0, s1]) rfl ⟨ret_v HR.out.1 HR.out.2, ((((Below.refl _ _).alloc (Nat.le_refl _) _).trans (hb1.mono (by simp))).setCell (by simp) _).setCell (by simp) _⟩
  · go_enter Tryz.func42, Tryz.ntmps42
    go_wp2_with (first
          | (go_at_call 37; refine (HSp.out _).mono ?_; rintro e w1 ⟨g, cap, rfl, hg, hc0, hc1, hb1⟩; have s0 := cell_past (a := ⟨w.heap.size, 0, none⟩) (v := .int .i64 0) hb1 (by simp); have s1 := cell_past (a := ⟨w.heap.size, 1, none⟩) (v := .int .i64 0) hb1 (by simp); have t0 := hb1.frozen (p := ⟨w.heap.size, 0, none⟩) (by simp); have t1 := hb1.frozen (p := ⟨w.heap.size, 1, none⟩) (by simp); have hz1 := hb1.size; simp at t0 t1 hz1 hg; have hc1 := hc1 rfl)
          | (go_at_call 66; refine (c_l01Digits _ (by omega) _).mono ?_; rintro e w2 ⟨rfl, hw⟩; obtain rfl := hw.symm))
    go_loopw [7, 8] (fun m k wr => wr = w1 ∧ m = .int .i64 0 ∧ k = .int .i64 u1.size) (fun m k wr => 0)
    case atStart => exact ⟨rfl, rfl, rfl⟩
    case round =>
      obtain ⟨hwr, rfl, rfl⟩ := hrel
      subst hwr
      have hk6 : ¬ (u1.size : Int) < 6 := by omega
      have hd6 : decide ((u1.size : Int) ≤ 6) = false := decide_eq_false (by omega)
      go_wp2
      exact bodyPost_ret (v := .agg #[.int .i64 0, .int .i64 3]) (by simp [results, Tryz.results42, go_sem, s0, s1]) rfl ⟨ret_v HR.out.1 HR.out.2, ((((Below.refl _ _).alloc (Nat.le_refl _) _).trans (hb1.mono (by simp))).setCell (by simp) _).setCell (by simp) _⟩

set_option maxRecDepth 10000 in
set_option maxHeartbeats 1000000 in
theorem vr_neg_bad1 {s T u0 u1 : ByteArray} {n : Nat} (hz : ¬ (20000 : Int) < (s.size : Int)) (hneg : negB s = true) (hT : T = tailS s) (hTz : T.size ≤ 20000) (h0z : u0.size ≤ 20000) (h1z : u1.size ≤ 20000) (hsp : ∀ w, Calls Tryz.prog 37 #[.string T, .int .u8 46] w fun e w' => ∃ g cap, e = .returned (.slice (some ⟨g, 0, none⟩) n cap) ∧ w.heap.size ≤ g ∧ w'.cell? ⟨g, 0, none⟩ = some (.string u0) ∧ (n = 2 → w'.cell? ⟨g, 1, none⟩ = some (.string u1)) ∧ Below w.heap.size w w')
    {X : Int} (hn : n = 2) (hl : ¬ (12 : Int) < (u0.size : Int)) (hq0 : (¬ (1 : Int) < (u0.size : Int)) ∨ ((1 : Int) < (u0.size : Int) ∧ (bt u0 0 == 48) = false)) (hv0 : 0 ≤ dgV u0) (hv1 : dgV u0 ≤ 999999999999) (hb0 : dgB u0 = true) (hl6 : (u1.size : Int) ≤ 6) (hb1d : dgB u1 = false) (hX : Scal (dgV u1) u1.size X) (hx0 : 0 ≤ X) (hx1 : X ≤ 999999) (hR0 : 0 = rvV s ∧ 3 = rvC s) (w : World) :
    Calls Tryz.prog 42 #[.string s] w fun e w' => e = .returned (.agg #[.int .i64 (rvV s), .int .i64 (rvC s)]) ∧ Below w.heap.size w w' := by
  have HSp : Hid (∀ w, Calls Tryz.prog 37 #[.string T, .int .u8 46] w fun e w' => ∃ g cap, e = .returned (.slice (some ⟨g, 0, none⟩) n cap) ∧ w.heap.size ≤ g ∧ w'.cell? ⟨g, 0, none⟩ = some (.string u0) ∧ (n = 2 → w'.cell? ⟨g, 1, none⟩ = some (.string u1)) ∧ Below w.heap.size w w') := hsp
  have HR : Hid (_ ∧ _) := hR0
  clear hsp hR0
  have hbt := get_bt s
  have hbu := get_bt u0
  have ET : s.extract 1 s.size = T := by rw [hT]; unfold tailS; rw [hneg]; rfl
  have hb45 : (bt s 0 == 45) = true := (Bool.and_eq_true_iff.1 hneg).2
  have hp0 : (0 : Int) < (s.size : Int) := by have := of_decide_eq_true (Bool.and_eq_true_iff.1 hneg).1; omega
  have hp1 : (1 : Int) ≤ (s.size : Int) := by omega
  clear hT hneg
  subst hn
  have HX : Hid (Scal (dgV u1) u1.size X) := hX
  clear hX
  rcases hq0 with hq | ⟨hq, hq48⟩
  · go_enter Tryz.func42, Tryz.ntmps42
    go_wp2_with (first
          | (go_at_call 37; refine (HSp.out _).mono ?_; rintro e w1 ⟨g, cap, rfl, hg, hc0, hc1, hb1⟩; have s0 := cell_past (a := ⟨w.heap.size, 0, none⟩) (v := .int .i64 0) hb1 (by simp); have s1 := cell_past (a := ⟨w.heap.size, 1, none⟩) (v := .int .i64 0) hb1 (by simp); have t0 := hb1.frozen (p := ⟨w.heap.size, 0, none⟩) (by simp); have t1 := hb1.frozen (p := ⟨w.heap.size, 1, none⟩) (by simp); have hz1 := hb1.size; simp at t0 t1 hz1 hg; have hc1 := hc1 rfl)
          | (go_at_call 66; refine (c_l01Digits _ (by omega) _).mono ?_; rintro e w2 ⟨rfl, hw⟩; obtain rfl := hw.symm))
    go_loopw [7, 8] (fun m k wr => wr = w1 ∧ ∃ p : Nat, p ≤ 6 ∧ k = .int .i64 p ∧ ∃ v : Int, m = .int .i64 v ∧ Scal v p X) (fun m k wr => 6 - (Go.RowKit.intOf k).toNat)
    case atStart => exact ⟨rfl, u1.size, by omega, rfl, dgV u1, rfl, HX.out⟩
    case round =>
      obtain ⟨hwr, p, hp, rfl, v, rfl, hsc⟩ := hrel
      subst hwr
      have HS : Hid (Scal v p X) := hsc
      clear hsc
      by_cases hlt : p < 6
      · have hki : (p : Int) < 6 := by omega
        have hvb := scal_bd HS.out hlt ⟨hx0, by omega⟩
        have ew : IntKind.i64.wrap (v * 10) = v * 10 := IntWalk.i64_in _ ⟨by omega, by omega⟩
        have HS2 : Hid (Scal (v * 10) (p + 1) X) := scal_step HS.out hlt
        clear HS
        go_wp2
        go_roundw
        case rel => exact ⟨trivial, p + 1, by omega, by go_num, v * 10, rfl, HS2.out⟩
        case measure => simp [Go.RowKit.intOf]; omega
      · have hki : ¬ (p : Int) < 6 := by omega
        obtain rfl := scal_end HS.out hlt
        clear HS HX
        go_wp2
        exact bodyPost_ret (v := .agg #[.int .i64 0, .int .i64 3]) (by simp [results, Tryz.results42, go_sem, s0, s1]) rfl ⟨ret_v HR.out.1 HR.out.2, ((((Below.refl _ _).alloc (Nat.le_refl _) _).trans (hb1.mono (by simp))).setCell (by simp) _).setCell (by simp) _⟩
  · go_enter Tryz.func42, Tryz.ntmps42
    go_wp2_with (first
          | (go_at_call 37; refine (HSp.out _).mono ?_; rintro e w1 ⟨g, cap, rfl, hg, hc0, hc1, hb1⟩; have s0 := cell_past (a := ⟨w.heap.size, 0, none⟩) (v := .int .i64 0) hb1 (by simp); have s1 := cell_past (a := ⟨w.heap.size, 1, none⟩) (v := .int .i64 0) hb1 (by simp); have t0 := hb1.frozen (p := ⟨w.heap.size, 0, none⟩) (by simp); have t1 := hb1.frozen (p := ⟨w.heap.size, 1, none⟩) (by simp); have hz1 := hb1.size; simp at t0 t1 hz1 hg; have hc1 := hc1 rfl)
          | (go_at_call 66; refine (c_l01Digits _ (by omega) _).mono ?_; rintro e w2 ⟨rfl, hw⟩; obtain rfl := hw.symm))
    go_loopw [7, 8] (fun m k wr => wr = w1 ∧ ∃ p : Nat, p ≤ 6 ∧ k = .int .i64 p ∧ ∃ v : Int, m = .int .i64 v ∧ Scal v p X) (fun m k wr => 6 - (Go.RowKit.intOf k).toNat)
    case atStart => exact ⟨rfl, u1.size, by omega, rfl, dgV u1, rfl, HX.out⟩
    case round =>
      obtain ⟨hwr, p, hp, rfl, v, rfl, hsc⟩ := hrel
      subst hwr
      have HS : Hid (Scal v p X) := hsc
      clear hsc
      by_cases hlt : p < 6
      · have hki : (p : Int) < 6 := by omega
        have hvb := scal_bd HS.out hlt ⟨hx0, by omega⟩
        have ew : IntKind.i64.wrap (v * 10) = v * 10 := IntWalk.i64_in _ ⟨by omega, by omega⟩
        have HS2 : Hid (Scal (v * 10) (p + 1) X) := scal_step HS.out hlt
        clear HS
        go_wp2
        go_roundw
        case rel => exact ⟨trivial, p + 1, by omega, by go_num, v * 10, rfl, HS2.out⟩
        case measure => simp [Go.RowKit.intOf]; omega
      · have hki : ¬ (p : Int) < 6 := by omega
        obtain rfl := scal_end HS.out hlt
        clear HS HX
        go_wp2
        exact bodyPost_ret (v := .agg #[.int .i64 0, .int .i64 3]) (by simp [results, Tryz.results42, go_sem, s0, s1]) rfl ⟨ret_v HR.out.1 HR.out.2, ((((Below.refl _ _).alloc (Nat.le_refl _) _).trans (hb1.mono (by simp))).setCell (by simp) _).setCell (by simp) _⟩

set_option maxRecDepth 10000 in
set_option maxHeartbeats 1000000 in
theorem vr_neg_good2 {s T u0 u1 : ByteArray} {n : Nat} (hz : ¬ (20000 : Int) < (s.size : Int)) (hneg : negB s = true) (hT : T = tailS s) (hTz : T.size ≤ 20000) (h0z : u0.size ≤ 20000) (h1z : u1.size ≤ 20000) (hsp : ∀ w, Calls Tryz.prog 37 #[.string T, .int .u8 46] w fun e w' => ∃ g cap, e = .returned (.slice (some ⟨g, 0, none⟩) n cap) ∧ w.heap.size ≤ g ∧ w'.cell? ⟨g, 0, none⟩ = some (.string u0) ∧ (n = 2 → w'.cell? ⟨g, 1, none⟩ = some (.string u1)) ∧ Below w.heap.size w w')
    {X : Int} (hn : n = 2) (hl : ¬ (12 : Int) < (u0.size : Int)) (hq0 : (¬ (1 : Int) < (u0.size : Int)) ∨ ((1 : Int) < (u0.size : Int) ∧ (bt u0 0 == 48) = false)) (hv0 : 0 ≤ dgV u0) (hv1 : dgV u0 ≤ 999999999999) (hb0 : dgB u0 = true) (hl6 : (u1.size : Int) ≤ 6) (hb1d : dgB u1 = true) (hX : Scal (dgV u1) u1.size X) (hx0 : 0 ≤ X) (hx1 : X ≤ 999999) (hR0 : -(dgV u0 * 1000000 + X) = rvV s ∧ 0 = rvC s) (w : World) :
    Calls Tryz.prog 42 #[.string s] w fun e w' => e = .returned (.agg #[.int .i64 (rvV s), .int .i64 (rvC s)]) ∧ Below w.heap.size w w' := by
  have HSp : Hid (∀ w, Calls Tryz.prog 37 #[.string T, .int .u8 46] w fun e w' => ∃ g cap, e = .returned (.slice (some ⟨g, 0, none⟩) n cap) ∧ w.heap.size ≤ g ∧ w'.cell? ⟨g, 0, none⟩ = some (.string u0) ∧ (n = 2 → w'.cell? ⟨g, 1, none⟩ = some (.string u1)) ∧ Below w.heap.size w w') := hsp
  have HR : Hid (_ ∧ _) := hR0
  clear hsp hR0
  have hbt := get_bt s
  have hbu := get_bt u0
  have ET : s.extract 1 s.size = T := by rw [hT]; unfold tailS; rw [hneg]; rfl
  have hb45 : (bt s 0 == 45) = true := (Bool.and_eq_true_iff.1 hneg).2
  have hp0 : (0 : Int) < (s.size : Int) := by have := of_decide_eq_true (Bool.and_eq_true_iff.1 hneg).1; omega
  have hp1 : (1 : Int) ≤ (s.size : Int) := by omega
  clear hT hneg
  subst hn
  have HX : Hid (Scal (dgV u1) u1.size X) := hX
  clear hX
  rcases hq0 with hq | ⟨hq, hq48⟩
  · go_enter Tryz.func42, Tryz.ntmps42
    go_wp2_with (first
          | (go_at_call 37; refine (HSp.out _).mono ?_; rintro e w1 ⟨g, cap, rfl, hg, hc0, hc1, hb1⟩; have s0 := cell_past (a := ⟨w.heap.size, 0, none⟩) (v := .int .i64 0) hb1 (by simp); have s1 := cell_past (a := ⟨w.heap.size, 1, none⟩) (v := .int .i64 0) hb1 (by simp); have t0 := hb1.frozen (p := ⟨w.heap.size, 0, none⟩) (by simp); have t1 := hb1.frozen (p := ⟨w.heap.size, 1, none⟩) (by simp); have hz1 := hb1.size; simp at t0 t1 hz1 hg; have hc1 := hc1 rfl)
          | (go_at_call 66; refine (c_l01Digits _ (by omega) _).mono ?_; rintro e w2 ⟨rfl, hw⟩; obtain rfl := hw.symm))
    go_loopw [7, 8] (fun m k wr => wr = w1 ∧ ∃ p : Nat, p ≤ 6 ∧ k = .int .i64 p ∧ ∃ v : Int, m = .int .i64 v ∧ Scal v p X) (fun m k wr => 6 - (Go.RowKit.intOf k).toNat)
    case atStart => exact ⟨rfl, u1.size, by omega, rfl, dgV u1, rfl, HX.out⟩
    case round =>
      obtain ⟨hwr, p, hp, rfl, v, rfl, hsc⟩ := hrel
      subst hwr
      have HS : Hid (Scal v p X) := hsc
      clear hsc
      by_cases hlt : p < 6
      · have hki : (p : Int) < 6 := by omega
        have hvb := scal_bd HS.out hlt ⟨hx0, by omega⟩
        have ew : IntKind.i64.wrap (v * 10) = v * 10 := IntWalk.i64_in _ ⟨by omega, by omega⟩
        have HS2 : Hid (Scal (v * 10) (p + 1) X) := scal_step HS.out hlt
        clear HS
        go_wp2
        go_roundw
        case rel => exact ⟨trivial, p + 1, by omega, by go_num, v * 10, rfl, HS2.out⟩
        case measure => simp [Go.RowKit.intOf]; omega
      · have hki : ¬ (p : Int) < 6 := by omega
        obtain rfl := scal_end HS.out hlt
        clear HS HX
        go_wp2
        exact bodyPost_ret (v := .agg #[.int .i64 (-(dgV u0 * 1000000 + v)), .int .i64 0]) (by simp [results, Tryz.results42, go_sem, s0, s1]) rfl ⟨ret_v HR.out.1 HR.out.2, ((((Below.refl _ _).alloc (Nat.le_refl _) _).trans (hb1.mono (by simp))).setCell (by simp) _).setCell (by simp) _⟩
  · go_enter Tryz.func42, Tryz.ntmps42
    go_wp2_with (first
          | (go_at_call 37; refine (HSp.out _).mono ?_; rintro e w1 ⟨g, cap, rfl, hg, hc0, hc1, hb1⟩; have s0 := cell_past (a := ⟨w.heap.size, 0, none⟩) (v := .int .i64 0) hb1 (by simp); have s1 := cell_past (a := ⟨w.heap.size, 1, none⟩) (v := .int .i64 0) hb1 (by simp); have t0 := hb1.frozen (p := ⟨w.heap.size, 0, none⟩) (by simp); have t1 := hb1.frozen (p := ⟨w.heap.size, 1, none⟩) (by simp); have hz1 := hb1.size; simp at t0 t1 hz1 hg; have hc1 := hc1 rfl)
          | (go_at_call 66; refine (c_l01Digits _ (by omega) _).mono ?_; rintro e w2 ⟨rfl, hw⟩; obtain rfl := hw.symm))
    go_loopw [7, 8] (fun m k wr => wr = w1 ∧ ∃ p : Nat, p ≤ 6 ∧ k = .int .i64 p ∧ ∃ v : Int, m = .int .i64 v ∧ Scal v p X) (fun m k wr => 6 - (Go.RowKit.intOf k).toNat)
    case atStart => exact ⟨rfl, u1.size, by omega, rfl, dgV u1, rfl, HX.out⟩
    case round =>
      obtain ⟨hwr, p, hp, rfl, v, rfl, hsc⟩ := hrel
      subst hwr
      have HS : Hid (Scal v p X) := hsc
      clear hsc
      by_cases hlt : p < 6
      · have hki : (p : Int) < 6 := by omega
        have hvb := scal_bd HS.out hlt ⟨hx0, by omega⟩
        have ew : IntKind.i64.wrap (v * 10) = v * 10 := IntWalk.i64_in _ ⟨by omega, by omega⟩
        have HS2 : Hid (Scal (v * 10) (p + 1) X) := scal_step HS.out hlt
        clear HS
        go_wp2
        go_roundw
        case rel => exact ⟨trivial, p + 1, by omega, by go_num, v * 10, rfl, HS2.out⟩
        case measure => simp [Go.RowKit.intOf]; omega
      · have hki : ¬ (p : Int) < 6 := by omega
        obtain rfl := scal_end HS.out hlt
        clear HS HX
        go_wp2
        exact bodyPost_ret (v := .agg #[.int .i64 (-(dgV u0 * 1000000 + v)), .int .i64 0]) (by simp [results, Tryz.results42, go_sem, s0, s1]) rfl ⟨ret_v HR.out.1 HR.out.2, ((((Below.refl _ _).alloc (Nat.le_refl _) _).trans (hb1.mono (by simp))).setCell (by simp) _).setCell (by simp) _⟩

end Go.Proofs.YtnflhahnbdnaoaaGreatDoor

/-
  The contract of spec.ValueRead at every text.
-/
namespace Go.Proofs.YtnflhahnbdnaoaaGreatDoor
set_option linter.unusedVariables false
set_option linter.unusedSimpArgs false
open Go.ChangeShapes Go.WideShapes Go.ChangeAt Go.RowKit Go.PlainAid

theorem c_s_ValueRead (s : ByteArray) (hs : s.size ≤ maxLen) (w : World) :
    Calls Tryz.prog 42 #[.string s] w fun e w' => e = .returned (.agg #[.int .i64 (rvV s), .int .i64 (rvC s)]) ∧ Below w.heap.size w w' := by
  cases hf : fitB s
  · exact c_s_ValueRead_size s hs hf w
  · obtain ⟨u0, u1, n, S⟩ := sp_all (tailS s)
    have hz' : s.size ≤ 20000 := of_decide_eq_true hf
    have hz : ¬ (20000 : Int) < (s.size : Int) := by omega
    have hTz : (tailS s).size ≤ 20000 := by have := (shift_tail s).size; omega
    have h0z : u0.size ≤ 20000 := Nat.le_trans S.le0 hTz
    have h1z : u1.size ≤ 20000 := Nat.le_trans S.le1 hTz
    have hp := S.pos
    have hn1 : (0 : Int) < (n : Int) := by omega
    have hsp := c_split S hTz
    by_cases hm : 2 < n
    · have hn : (2 : Int) < (n : Int) := by omega
      have hR := rv_no hf (S.many hm)
      cases hneg : negB s
      · exact vr_pos_many hz hneg rfl hTz h0z h1z hsp hn hR w
      · exact vr_neg_many hz hneg rfl hTz h0z h1z hsp hn hR w
    have hn : ¬ (2 : Int) < (n : Int) := by omega
    have hn2 : n ≤ 2 := by omega
    by_cases hl : 12 < u0.size
    · have hli : (12 : Int) < (u0.size : Int) := by omega
      have hR := rv_no hf (S.long hn2 hl)
      cases hneg : negB s
      · exact vr_pos_long hz hneg rfl hTz h0z h1z hsp hn hn1 hli hR w
      · exact vr_neg_long hz hneg rfl hTz h0z h1z hsp hn hn1 hli hR w
    have hli : ¬ (12 : Int) < (u0.size : Int) := by omega
    have hl12 : u0.size ≤ 12 := by omega
    by_cases hq : 1 < u0.size ∧ bt u0 0 = 48
    · have hl1 : (1 : Int) < (u0.size : Int) := by omega
      have h48 : (bt u0 0 == 48) = true := by simp [hq.2]
      have hR := rv_no hf (S.lead hn2 hq.1 hq.2)
      cases hneg : negB s
      · exact vr_pos_lead hz hneg rfl hTz h0z h1z hsp hn hn1 hli hl1 h48 hR w
      · exact vr_neg_lead hz hneg rfl hTz h0z h1z hsp hn hn1 hli hl1 h48 hR w
    have hq0 : (¬ (1 : Int) < (u0.size : Int)) ∨ ((1 : Int) < (u0.size : Int) ∧ (bt u0 0 == 48) = false) := by
      by_cases h1 : 1 < u0.size
      · exact .inr ⟨by omega, beq_eq_false_iff_ne.2 (fun h => hq ⟨h1, h⟩)⟩
      · exact .inl (by omega)
    obtain ⟨hv0, hv1⟩ := dgV_bd hl12
    cases hb0 : dgB u0
    · have hR := rv_no hf (S.bad0 hn2 hb0)
      cases hneg : negB s
      · exact vr_pos_bad0 hz hneg rfl hTz h0z h1z hsp hn hn1 hli hq0 hv0 hv1 hb0 hR w
      · exact vr_neg_bad0 hz hneg rfl hTz h0z h1z hsp hn hn1 hli hq0 hv0 hv1 hb0 hR w
    by_cases e1 : n = 1
    · have hR := rv_yes hf (S.good1 e1 hl12 hq hb0)
      cases hneg : negB s
      · exact vr_pos_good1 hz hneg rfl hTz h0z h1z hsp e1 hli hq0 hv0 hv1 hb0 (by simpa [hneg] using hR) w
      · exact vr_neg_good1 hz hneg rfl hTz h0z h1z hsp e1 hli hq0 hv0 hv1 hb0 (by rw [hneg, if_pos rfl] at hR; exact hR) w
    have e2 : n = 2 := by omega
    by_cases h6 : 6 < u1.size
    · have hl6 : ¬ (u1.size : Int) ≤ 6 := by omega
      have hR := rv_no hf (S.long1 e2 h6)
      cases hneg : negB s
      · exact vr_pos_long1 hz hneg rfl hTz h0z h1z hsp e2 hli hq0 hv0 hv1 hb0 hl6 hR w
      · exact vr_neg_long1 hz hneg rfl hTz h0z h1z hsp e2 hli hq0 hv0 hv1 hb0 hl6 hR w
    have hl6 : (u1.size : Int) ≤ 6 := by omega
    have h6' : u1.size ≤ 6 := by omega
    have hX : Scal (dgV u1) u1.size (dgV u1 * 10 ^ (6 - u1.size)) := ⟨h6', rfl⟩
    obtain ⟨hx0, hx1⟩ := dgV_6 h6'
    cases hb1 : dgB u1
    · have hR := rv_no hf (S.bad1 e2 hb1)
      cases hneg : negB s
      · exact vr_pos_bad1 hz hneg rfl hTz h0z h1z hsp e2 hli hq0 hv0 hv1 hb0 hl6 hb1 hX hx0 hx1 hR w
      · exact vr_neg_bad1 hz hneg rfl hTz h0z h1z hsp e2 hli hq0 hv0 hv1 hb0 hl6 hb1 hX hx0 hx1 hR w
    · have hR := rv_yes hf (S.good2 e2 hl12 hq hb0 h6' hb1)
      cases hneg : negB s
      · exact vr_pos_good2 hz hneg rfl hTz h0z h1z hsp e2 hli hq0 hv0 hv1 hb0 hl6 hb1 hX hx0 hx1 (by rw [hneg, if_neg (by simp)] at hR; exact hR) w
      · exact vr_neg_good2 hz hneg rfl hTz h0z h1z hsp e2 hli hq0 hv0 hv1 hb0 hl6 hb1 hX hx0 hx1 (by rw [hneg, if_pos rfl] at hR; exact hR) w

end Go.Proofs.YtnflhahnbdnaoaaGreatDoor
