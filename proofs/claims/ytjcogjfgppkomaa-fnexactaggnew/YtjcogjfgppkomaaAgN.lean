/-
  AggNew of the program and of the model; marks in an Agg of nothing.
-/
import Derived.Test.YtjcogjfgppkomaaAgC
namespace Go.Proofs.Ytjcogjfgppkomaa
set_option linter.unusedVariables false
set_option linter.unusedSimpArgs false
open Go.ChangeShapes Go.WideShapes Go.ChangeAt Go.RowKit Go.PlainAid Go.Lib
set_option maxRecDepth 10000

theorem c_markBinS0 (k : Int) (w : World) : Calls Try.prog 52 #[.slice none 0 0, .int .i64 k] w fun e w' => e = .returned (.int .i64 k) ∧ w' = w := by
  go_enter Try.func52, Try.ntmps52
  go_wp2
  refine wp_loop_rounds 1 ?_
  rw [rounds_succ]
  go_wp2
  go_ret
  exact ⟨rfl, rfl⟩
theorem c_heldBinS0 (k : Int) (w : World) : Calls Try.prog 55 #[.slice none 0 0, .int .i64 k] w fun e w' => e = .returned (.int .i64 k) ∧ w' = w := by
  go_enter Try.func55, Try.ntmps55
  go_wp2
  refine wp_loop_rounds 1 ?_
  rw [rounds_succ]
  go_wp2
  go_ret
  exact ⟨rfl, rfl⟩
theorem c_markUint64S0 (k : Int) (w : World) : Calls Try.prog 53 #[.slice none 0 0, .int .i64 k] w fun e w' => e = .returned (.int .i64 k) ∧ w' = w := by
  go_enter Try.func53, Try.ntmps53
  go_wp2
  refine wp_loop_rounds 1 ?_
  rw [rounds_succ]
  go_wp2
  go_ret
  exact ⟨rfl, rfl⟩
theorem c_heldUint64S0 (k : Int) (w : World) : Calls Try.prog 56 #[.slice none 0 0, .int .i64 k] w fun e w' => e = .returned (.int .i64 k) ∧ w' = w := by
  go_enter Try.func56, Try.ntmps56
  go_wp2
  refine wp_loop_rounds 1 ?_
  rw [rounds_succ]
  go_wp2
  go_ret
  exact ⟨rfl, rfl⟩
theorem c_markInt64S0 (k : Int) (w : World) : Calls Try.prog 54 #[.slice none 0 0, .int .i64 k] w fun e w' => e = .returned (.int .i64 k) ∧ w' = w := by
  go_enter Try.func54, Try.ntmps54
  go_wp2
  refine wp_loop_rounds 1 ?_
  rw [rounds_succ]
  go_wp2
  go_ret
  exact ⟨rfl, rfl⟩
theorem c_heldInt64S0 (k : Int) (w : World) : Calls Try.prog 57 #[.slice none 0 0, .int .i64 k] w fun e w' => e = .returned (.int .i64 k) ∧ w' = w := by
  go_enter Try.func57, Try.ntmps57
  go_wp2
  refine wp_loop_rounds 1 ?_
  rw [rounds_succ]
  go_wp2
  go_ret
  exact ⟨rfl, rfl⟩
theorem c_markSketch0 (k : Int) (hk : 0 ≤ k) (w : World) : Calls Try.prog 34 #[.agg #[.int .u64 0, .slice none 0 0, .slice none 0 0, .int .i64 0, .int .u64 0], .int .i64 k] w fun e w' => e = .returned (.int .i64 k) ∧ Below w.heap.size w w' := by
  have hk2 : ¬ k < 0 := by omega
  go_enter Try.func34, Try.ntmps34
  go_wp2_with (go_at_call 52; refine (c_markBinS0 _ _).mono ?_; rintro e w1 ⟨rfl, hw⟩; subst hw)
  go_ret
  exact ⟨rfl, (Below.refl _ _).alloc (Nat.le_refl _) _⟩
theorem c_markHll0 (k : Int) (hk : 0 ≤ k) (w : World) : Calls Try.prog 35 #[.agg #[.slice none 0 0, .slice none 0 0], .int .i64 k] w fun e w' => e = .returned (.int .i64 k) ∧ Below w.heap.size w w' := by
  have hk2 : ¬ k < 0 := by omega
  go_enter Try.func35, Try.ntmps35
  go_wp2_with (first | (go_at_call 53; refine (c_markUint64S0 _ _).mono ?_; rintro e w1 ⟨rfl, hw⟩; subst hw) | (go_at_call 54; refine (c_markInt64S0 _ _).mono ?_; rintro e w1 ⟨rfl, hw⟩; subst hw))
  go_ret
  exact ⟨rfl, (Below.refl _ _).alloc (Nat.le_refl _) _⟩
theorem c_markAgg0 (kd t k : Int) (hk : 0 ≤ k) (w : World) : Calls Try.prog 13 #[.agg #[.int .i64 kd, .int .u64 0, .int .i64 0, .int .u64 0, .int .i64 0, .int .i64 t, .int .u64 0, .slice none 0 0, .slice none 0 0, .int .i64 0, .int .u64 0, .slice none 0 0, .slice none 0 0], .int .i64 k] w fun e w' => e = .returned (.int .i64 k) ∧ Below w.heap.size w w' := by
  have hk2 : ¬ k < 0 := by omega
  have HB : Hid (∀ o, Below w.heap.size w (w.alloc o)) := fun o => (Below.refl _ _).alloc (Nat.le_refl _) o
  go_enter Try.func13, Try.ntmps13
  go_wp2_with fail
  refine (c_markSketch0 k hk _).mono ?_
  rintro e w1 ⟨rfl, hb1⟩
  have HT1 := hide (chain (HB.out _) hb1)
  obtain ⟨hc1, _⟩ := bcell hb1
  simp at hc1
  clear hb1
  go_wp2_with fail
  refine (c_markHll0 k hk _).mono ?_
  rintro e w2 ⟨rfl, hb2⟩
  have HT2 := hide (chain HT1.out hb2)
  clear hb2
  go_wp2
  go_ret
  exact ⟨rfl, HT2.out⟩
theorem c_heldSketch0 (k : Int) (hk : 0 ≤ k) (w : World) : Calls Try.prog 36 #[.agg #[.int .u64 0, .slice none 0 0, .slice none 0 0, .int .i64 0, .int .u64 0], .int .i64 k] w fun e w' => e = .returned (.int .i64 k) ∧ Below w.heap.size w w' := by
  have hk2 : ¬ k < 0 := by omega
  go_enter Try.func36, Try.ntmps36
  go_wp2_with (go_at_call 55; refine (c_heldBinS0 _ _).mono ?_; rintro e w1 ⟨rfl, hw⟩; subst hw)
  go_ret
  exact ⟨rfl, (Below.refl _ _).alloc (Nat.le_refl _) _⟩
theorem c_heldHll0 (k : Int) (hk : 0 ≤ k) (w : World) : Calls Try.prog 37 #[.agg #[.slice none 0 0, .slice none 0 0], .int .i64 k] w fun e w' => e = .returned (.int .i64 k) ∧ Below w.heap.size w w' := by
  have hk2 : ¬ k < 0 := by omega
  go_enter Try.func37, Try.ntmps37
  go_wp2_with (first | (go_at_call 56; refine (c_heldUint64S0 _ _).mono ?_; rintro e w1 ⟨rfl, hw⟩; subst hw) | (go_at_call 57; refine (c_heldInt64S0 _ _).mono ?_; rintro e w1 ⟨rfl, hw⟩; subst hw))
  go_ret
  exact ⟨rfl, (Below.refl _ _).alloc (Nat.le_refl _) _⟩
theorem c_heldAgg0 (kd t k : Int) (hk : 0 ≤ k) (w : World) : Calls Try.prog 14 #[.agg #[.int .i64 kd, .int .u64 0, .int .i64 0, .int .u64 0, .int .i64 0, .int .i64 t, .int .u64 0, .slice none 0 0, .slice none 0 0, .int .i64 0, .int .u64 0, .slice none 0 0, .slice none 0 0], .int .i64 k] w fun e w' => e = .returned (.int .i64 k) ∧ Below w.heap.size w w' := by
  have hk2 : ¬ k < 0 := by omega
  have HB : Hid (∀ o, Below w.heap.size w (w.alloc o)) := fun o => (Below.refl _ _).alloc (Nat.le_refl _) o
  go_enter Try.func14, Try.ntmps14
  go_wp2_with fail
  refine (c_heldSketch0 k hk _).mono ?_
  rintro e w1 ⟨rfl, hb1⟩
  have HT1 := hide (chain (HB.out _) hb1)
  obtain ⟨hc1, _⟩ := bcell hb1
  simp at hc1
  clear hb1
  go_wp2_with fail
  refine (c_heldHll0 k hk _).mono ?_
  rintro e w2 ⟨rfl, hb2⟩
  have HT2 := hide (chain HT1.out hb2)
  clear hb2
  go_wp2
  go_ret
  exact ⟨rfl, HT2.out⟩

/-- The Agg of nothing, of a kind. -/
def agNew (k : Int) : Ag := if 1 ≤ k ∧ k ≤ 4 then ⟨k, 0, 0, 0, 0, if k = 2 then -1 else 0, 0, [], [], 0, 0, [], []⟩ else ⟨0, 0, 0, 0, 0, 0, 0, [], [], 0, 0, [], []⟩
def plNil : Pl := ⟨none, 0, none, 0, none, 0, none, 0⟩
abbrev agNewV (kd t : Int) : Value := .agg #[.int .i64 kd, .int .u64 0, .int .i64 0, .int .u64 0, .int .i64 0, .int .i64 t, .int .u64 0, .slice none 0 0, .slice none 0 0, .int .i64 0, .int .u64 0, .slice none 0 0, .slice none 0 0]

theorem c_kindRightA (k : Int) (w : World) : Calls Try.prog 33 #[.int .i64 k] w fun e w' => e = .returned (.bool (decide (1 ≤ k) && decide (k ≤ 4))) ∧ w' = w := by
  by_cases h1 : 1 ≤ k <;> by_cases h2 : k ≤ 4 <;> (go_enter Try.func33, Try.ntmps33; go_wp2; go_ret; exact ⟨by simp [h1, h2], rfl⟩)
theorem c_s_l01IsA (n lo hi : Int) (w : World) : Calls Try.prog 19 #[.int .i64 n, .int .i64 lo, .int .i64 hi] w fun e w' => e = .returned (.bool (decide (lo ≤ n) && decide (n ≤ hi))) ∧ w' = w := by
  by_cases h1 : lo ≤ n <;> by_cases h2 : n ≤ hi <;> (go_enter Try.func19, Try.ntmps19; go_wp2; go_ret; exact ⟨by simp [h1, h2], rfl⟩)

set_option maxHeartbeats 1000000 in
theorem c_i_AggNew (k : Int) (w : World) : Calls Try.prog 12 #[.int .i64 k] w fun e w' => e = .returned (agNewV (agNew k).k (agNew k).t) ∧ Below w.heap.size w w' := by
  by_cases h14 : 1 ≤ k ∧ k ≤ 4
  · have hb : (decide (1 ≤ k) && decide (k ≤ 4)) = true := by simp [h14.1, h14.2]
    by_cases h2 : k = 2
    · have HE : Hid ((agNew k).k = k ∧ (agNew k).t = -1) := by unfold agNew; rw [if_pos h14]; exact ⟨rfl, by simp [h2]⟩
      have b2 : (k == 2) = true := by simp [h2]
      clear h14 h2
      go_enter Try.func12, Try.ntmps12
      go_wp2_with (go_at_call 33; refine (c_kindRightA _ _).mono ?_; rintro e w1 ⟨rfl, hw⟩; subst hw; rw [hb])
      exact bodyPost_ret (v := agNewV k (-1)) (by simp [results, Try.results12, go_sem]) rfl ⟨by rw [HE.out.1, HE.out.2], ((Below.refl _ _).alloc (Nat.le_refl _) _).alloc (by simp) _⟩
    · have HE : Hid ((agNew k).k = k ∧ (agNew k).t = 0) := by unfold agNew; rw [if_pos h14]; exact ⟨rfl, by simp [h2]⟩
      have b2 : (k == 2) = false := beq_eq_false_iff_ne.2 h2
      clear h14 h2
      go_enter Try.func12, Try.ntmps12
      go_wp2_with (go_at_call 33; refine (c_kindRightA _ _).mono ?_; rintro e w1 ⟨rfl, hw⟩; subst hw; rw [hb])
      exact bodyPost_ret (v := agNewV k 0) (by simp [results, Try.results12, go_sem]) rfl ⟨by rw [HE.out.1, HE.out.2], ((Below.refl _ _).alloc (Nat.le_refl _) _).alloc (by simp) _⟩
  · have hb : (decide (1 ≤ k) && decide (k ≤ 4)) = false := by
      rw [Bool.eq_false_iff]; intro hh; simp at hh; exact h14 hh
    have HE : Hid ((agNew k).k = 0 ∧ (agNew k).t = 0) := by unfold agNew; rw [if_neg h14]; exact ⟨rfl, rfl⟩
    clear h14
    go_enter Try.func12, Try.ntmps12
    go_wp2_with (go_at_call 33; refine (c_kindRightA _ _).mono ?_; rintro e w1 ⟨rfl, hw⟩; subst hw; rw [hb])
    exact bodyPost_ret (v := agNewV 0 0) (by simp [results, Try.results12, go_sem]) rfl ⟨by rw [HE.out.1, HE.out.2], (Below.refl _ _).alloc (Nat.le_refl _) _⟩

set_option maxHeartbeats 1000000 in
theorem c_s_AggNew (k : Int) (w : World) : Calls Try.prog 11 #[.int .i64 k] w fun e w' => e = .returned (agNewV (agNew k).k (agNew k).t) ∧ Below w.heap.size w w' := by
  by_cases h14 : 1 ≤ k ∧ k ≤ 4
  · have hb : (decide (1 ≤ k) && decide (k ≤ 4)) = true := by simp [h14.1, h14.2]
    by_cases h2 : k = 2
    · have HE : Hid ((agNew k).k = k ∧ (agNew k).t = -1) := by unfold agNew; rw [if_pos h14]; exact ⟨rfl, by simp [h2]⟩
      have b2 : (k == 2) = true := by simp [h2]
      clear h14 h2
      go_enter Try.func11, Try.ntmps11
      go_wp2_with (go_at_call 19; refine (c_s_l01IsA _ _ _ _).mono ?_; rintro e w1 ⟨rfl, hw⟩; subst hw; rw [hb])
      exact bodyPost_ret (v := agNewV k (-1)) (by simp [results, Try.results11, go_sem]) rfl ⟨by rw [HE.out.1, HE.out.2], ((Below.refl _ _).alloc (Nat.le_refl _) _).alloc (by simp) _⟩
    · have HE : Hid ((agNew k).k = k ∧ (agNew k).t = 0) := by unfold agNew; rw [if_pos h14]; exact ⟨rfl, by simp [h2]⟩
      have b2 : (k == 2) = false := beq_eq_false_iff_ne.2 h2
      clear h14 h2
      go_enter Try.func11, Try.ntmps11
      go_wp2_with (go_at_call 19; refine (c_s_l01IsA _ _ _ _).mono ?_; rintro e w1 ⟨rfl, hw⟩; subst hw; rw [hb])
      exact bodyPost_ret (v := agNewV k 0) (by simp [results, Try.results11, go_sem]) rfl ⟨by rw [HE.out.1, HE.out.2], ((Below.refl _ _).alloc (Nat.le_refl _) _).alloc (by simp) _⟩
  · have hb : (decide (1 ≤ k) && decide (k ≤ 4)) = false := by
      rw [Bool.eq_false_iff]; intro hh; simp at hh; exact h14 hh
    have HE : Hid ((agNew k).k = 0 ∧ (agNew k).t = 0) := by unfold agNew; rw [if_neg h14]; exact ⟨rfl, rfl⟩
    clear h14
    go_enter Try.func11, Try.ntmps11
    go_wp2_with (go_at_call 19; refine (c_s_l01IsA _ _ _ _).mono ?_; rintro e w1 ⟨rfl, hw⟩; subst hw; rw [hb])
    exact bodyPost_ret (v := agNewV 0 0) (by simp [results, Try.results11, go_sem]) rfl ⟨by rw [HE.out.1, HE.out.2], (Below.refl _ _).alloc (Nat.le_refl _) _⟩

/-- The cells of an Agg of nothing, in a block of its own. -/
abbrev NwCell (w : World) (b : Nat) (kd t : Int) : Prop :=
  w.cell? ⟨b, 0, none⟩ = some (.int .i64 kd) ∧ w.cell? ⟨b, 1, none⟩ = some (.int .u64 0) ∧ w.cell? ⟨b, 2, none⟩ = some (.int .i64 0) ∧ w.cell? ⟨b, 3, none⟩ = some (.int .u64 0) ∧ w.cell? ⟨b, 4, none⟩ = some (.int .i64 0) ∧ w.cell? ⟨b, 5, none⟩ = some (.int .i64 t) ∧ w.cell? ⟨b, 6, none⟩ = some (.int .u64 0) ∧ w.cell? ⟨b, 7, none⟩ = some (.slice none 0 0) ∧ w.cell? ⟨b, 8, none⟩ = some (.slice none 0 0) ∧ w.cell? ⟨b, 9, none⟩ = some (.int .i64 0) ∧ w.cell? ⟨b, 10, none⟩ = some (.int .u64 0) ∧ w.cell? ⟨b, 11, none⟩ = some (.slice none 0 0) ∧ w.cell? ⟨b, 12, none⟩ = some (.slice none 0 0)
abbrev agx (kd t : Int) : Ag := ⟨kd, 0, 0, 0, 0, t, 0, [], [], 0, 0, [], []⟩
theorem nwc_past {w w' : World} {b : Nat} {kd t : Int} (k : NwCell w b kd t) (hb : Below w.heap.size w w') : NwCell w' b kd t := agc_past (g := agx kd t) (p := ⟨none, 0, none, 0, none, 0, none, 0⟩) k hb
theorem nwc_new (w : World) (T : TypeId) (kd t : Int) : NwCell (w.alloc (.cells #[.int .i64 kd, .int .u64 0, .int .i64 0, .int .u64 0, .int .i64 0, .int .i64 t, .int .u64 0, .slice none 0 0, .slice none 0 0, .int .i64 0, .int .u64 0, .slice none 0 0, .slice none 0 0] T)) w.heap.size kd t := agc_new w T (agx kd t) ⟨none, 0, none, 0, none, 0, none, 0⟩
theorem c_eqAgg0 (kd t : Int) (w : World) : Calls Try.prog 10 #[agNewV kd t, agNewV kd t] w fun e w' => e = .returned (.bool true) ∧ Below w.heap.size w w' :=
  c_eqAgg (g := agx kd t) (p := ⟨none, 0, none, 0, none, 0, none, 0⟩) (q := ⟨none, 0, none, 0, none, 0, none, 0⟩) ⟨by simp, by simp, by simp, by simp⟩ ⟨fun h => absurd h (Nat.lt_irrefl 0), fun h => absurd h (Nat.lt_irrefl 0), fun h => absurd h (Nat.lt_irrefl 0), fun h => absurd h (Nat.lt_irrefl 0)⟩ ⟨fun h => absurd h (Nat.lt_irrefl 0), fun h => absurd h (Nat.lt_irrefl 0), fun h => absurd h (Nat.lt_irrefl 0), fun h => absurd h (Nat.lt_irrefl 0)⟩
end Go.Proofs.Ytjcogjfgppkomaa
