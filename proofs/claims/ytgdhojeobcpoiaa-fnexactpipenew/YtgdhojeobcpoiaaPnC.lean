/-
  Contracts of PipeNew, of the program and of its model.
-/
import Derived.Test.YtgdhojeobcpoiaaPnA
import Derived.Test.YtgdhojeobcpoiaaMembC
import Derived.Test.YtgdhojeobcpoiaaKeepK
namespace Go.Proofs.Ytgdhojeobcpoiaa
set_option linter.unusedVariables false
set_option linter.unusedSimpArgs false
open Go.ChangeShapes Go.WideShapes Go.ChangeAt Go.RowKit Go.PlainAid Go.Lib
set_option maxRecDepth 10000

theorem c_l01IsP (n lo hi : Int) (w : World) : Calls Try.prog 14 #[.int .i64 n, .int .i64 lo, .int .i64 hi] w fun e w' => e = .returned (.bool (decide (lo ≤ n) && decide (n ≤ hi))) ∧ w' = w := by
  by_cases h : lo ≤ n
  · have h1 : decide (lo ≤ n) = true := decide_eq_true h
    rw [h1]
    go_enter Try.func14, Try.ntmps14
    go_wp2
    go_ret
    exact ⟨by simp, rfl⟩
  · have h1 : decide (lo ≤ n) = false := decide_eq_false h
    rw [h1]
    go_enter Try.func14, Try.ntmps14
    go_wp2
    go_ret
    exact ⟨rfl, rfl⟩
def inB (n lo hi : Int) : Bool := decide (lo ≤ n) && decide (n ≤ hi)
theorem c_windowRightP (n : Int) (w : World) : Calls Try.prog 24 #[.int .i64 n] w fun e w' => e = .returned (.bool (inB n 0 1000000000)) ∧ w' = w := by
  unfold inB
  by_cases h : 0 ≤ n
  · have h1 : decide (0 ≤ n) = true := decide_eq_true h
    rw [h1]
    go_enter Try.func24, Try.ntmps24
    go_wp2
    go_ret
    exact ⟨by simp, rfl⟩
  · have h1 : decide (0 ≤ n) = false := decide_eq_false h
    rw [h1]
    go_enter Try.func24, Try.ntmps24
    go_wp2
    go_ret
    exact ⟨rfl, rfl⟩
/-- A right clock. -/
def clkB (a b c d : Int) : Bool := inB a 1 1000 && inB b 0 1000 && inB c 0 1000000000 && inB d 0 1000000000
theorem c_clockOf (v : Value) (ao : Option Addr) (n cp : Nat) (hv : v = .slice ao n cp) (a b c d : Int) (w : World) : Calls Try.prog 16 #[.agg #[v, .int .i64 a, .int .i64 b, .int .i64 c, .int .i64 d]] w fun e w' => e = .returned (.agg #[.int .i64 a, .int .i64 b, .int .i64 c, .int .i64 d]) ∧ Below w.heap.size w w' := by
  subst hv
  go_enter Try.func16, Try.ntmps16
  go_wp2
  exact bodyPost_ret (v := .agg #[.int .i64 a, .int .i64 b, .int .i64 c, .int .i64 d]) (by simp [results, Try.results16, go_sem]) rfl ⟨rfl, ((Below.refl _ _).alloc (Nat.le_refl _) _).alloc (by simp) _⟩
theorem c_clockRight (a b c d : Int) (w : World) : Calls Try.prog 17 #[.agg #[.int .i64 a, .int .i64 b, .int .i64 c, .int .i64 d]] w fun e w' => e = .returned (.bool (clkB a b c d)) ∧ Below w.heap.size w w' := by
  have H0 : ∀ o, Hid (Below w.heap.size w (w.alloc o)) := fun o => (Below.refl _ _).alloc (Nat.le_refl _) _
  have H0 := hide H0
  by_cases h1 : inB a 1 1000 = true
  · by_cases h2 : inB b 0 1000 = true
    · by_cases h3 : inB c 0 1000000000 = true
      · obtain ⟨E, hE⟩ : ∃ E, clkB a b c d = E := ⟨_, rfl⟩
        have he : Hid (inB d 0 1000000000 = E) := by show _ = _; rw [← hE]; unfold clkB; rw [h1, h2, h3]; simp
        rw [hE]
        obtain ⟨p1, p2⟩ : 1 ≤ a ∧ a ≤ 1000 := by unfold inB at h1; simpa using h1
        obtain ⟨p3, p4⟩ : 0 ≤ b ∧ b ≤ 1000 := by unfold inB at h2; simpa using h2
        obtain ⟨p5, p6⟩ : 0 ≤ c ∧ c ≤ 1000000000 := by unfold inB at h3; simpa using h3
        clear h1 h2 h3 hE
        go_enter Try.func17, Try.ntmps17
        go_wp2_with (go_at_call 24; refine (c_windowRightP _ _).mono ?_; rintro e w1 ⟨rfl, hw⟩; obtain rfl := hw.symm)
        go_ret
        exact ⟨by rw [he.out]; rfl, (H0.out _).out⟩
      · have h3 : inB c 0 1000000000 = false := by simpa using h3
        have e : clkB a b c d = false := by unfold clkB; rw [h3]; simp
        rw [e]
        obtain ⟨p1, p2⟩ : 1 ≤ a ∧ a ≤ 1000 := by unfold inB at h1; simpa using h1
        obtain ⟨p3, p4⟩ : 0 ≤ b ∧ b ≤ 1000 := by unfold inB at h2; simpa using h2
        by_cases q : 0 ≤ c
        · have q2 : ¬ c ≤ 1000000000 := by unfold inB at h3; simp [q] at h3; omega
          clear h1 h2 h3 e
          go_enter Try.func17, Try.ntmps17
          go_wp2
          go_ret
          exact ⟨rfl, (H0.out _).out⟩
        · clear h1 h2 h3 e
          go_enter Try.func17, Try.ntmps17
          go_wp2
          go_ret
          exact ⟨rfl, (H0.out _).out⟩
    · have h2 : inB b 0 1000 = false := by simpa using h2
      have e : clkB a b c d = false := by unfold clkB; rw [h2]; simp
      rw [e]
      obtain ⟨p1, p2⟩ : 1 ≤ a ∧ a ≤ 1000 := by unfold inB at h1; simpa using h1
      by_cases q : b < 0
      · clear h1 h2 e
        go_enter Try.func17, Try.ntmps17
        go_wp2
        go_ret
        exact ⟨rfl, (H0.out _).out⟩
      · have q2 : 1000 < b := by unfold inB at h2; simp [show 0 ≤ b by omega] at h2; omega
        clear h1 h2 e
        go_enter Try.func17, Try.ntmps17
        go_wp2
        go_ret
        exact ⟨rfl, (H0.out _).out⟩
  · have h1 : inB a 1 1000 = false := by simpa using h1
    have e : clkB a b c d = false := by unfold clkB; rw [h1]; simp
    rw [e]
    by_cases q : a < 1
    · clear h1 e
      go_enter Try.func17, Try.ntmps17
      go_wp2
      go_ret
      exact ⟨rfl, (H0.out _).out⟩
    · have q2 : 1000 < a := by unfold inB at h1; simp [show 1 ≤ a by omega] at h1; omega
      clear h1 e
      go_enter Try.func17, Try.ntmps17
      go_wp2
      go_ret
      exact ⟨rfl, (H0.out _).out⟩
end Go.Proofs.Ytgdhojeobcpoiaa
