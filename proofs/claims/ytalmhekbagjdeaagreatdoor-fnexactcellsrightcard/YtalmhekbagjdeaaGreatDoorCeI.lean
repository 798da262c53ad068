/-
  Right cells: the order of two, as the program has it.
-/
import Derived.Test.YtalmhekbagjdeaaGreatDoorCeH
import Derived.Test.YtalmhekbagjdeaaGreatDoorCmpC
namespace Go.Proofs.YtalmhekbagjdeaaGreatDoor
set_option linter.unusedVariables false
set_option linter.unusedSimpArgs false
open Go.ChangeShapes Go.WideShapes Go.ChangeAt Go.RowKit Go.PlainAid Go.Lib
set_option maxRecDepth 10000

def cmpI (a b : Int) : Int := if a < b then -1 else if b < a then 1 else 0
def cmpK (n : Int) (s : ByteArray) (n' : Int) (s' : ByteArray) : Int := if cmpI n n' = 0 then cmpS s s' else cmpI n n'
theorem cmpS_in (a b : ByteArray) : -1 ≤ cmpS a b ∧ cmpS a b ≤ 1 := by
  unfold cmpS
  generalize a.data.toList = x
  generalize b.data.toList = y
  induction x generalizing y with
  | nil => cases y <;> simp [Lib.compareBytes]
  | cons p x ih =>
    cases y with
    | nil => simp [Lib.compareBytes]
    | cons q y =>
      unfold Lib.compareBytes
      split
      · omega
      split
      · omega
      · exact ih y
theorem cmpK_ge (c d : Ce) : decide (0 ≤ cmpK c.n c.s d.n d.s) = !cAh c d := by
  unfold cmpK cAh cmpI
  have h := cmpS_lt c.s d.s
  by_cases h1 : c.n < d.n
  · simp [h1]
  · by_cases h2 : d.n < c.n
    · have h3 : ¬ c.n = d.n := by omega
      simp [h1, h2, h3]
    · have h3 : c.n = d.n := by omega
      rw [h3]
      simp only [Int.lt_irrefl, if_false, if_true, decide_false, Bool.false_or, beq_self_eq_true, Bool.true_and]
      rw [← h]
      by_cases q : cmpS c.s d.s < 0
      · simp [q]
      · rw [decide_eq_false q, decide_eq_true (by omega)]; rfl
theorem ret_iR {a b : Int} (h : a = b) : Ending.returned (.int .i64 a) = .returned (.int .i64 b) := by rw [h]
theorem c_isNaN (a : Int) (w : World) : Calls Tryz.prog 113 #[.int .i64 a] w fun e w' => e = .returned (.bool false) ∧ w' = w := by
  have e1 : (a != a) = false := by simp
  go_enter Tryz.func113, Tryz.ntmps113
  go_wp2
  go_ret
  exact ⟨rfl, rfl⟩
theorem c_cmpCompare (a b : Int) (w : World) :
    Calls Tryz.prog 84 #[.int .i64 a, .int .i64 b] w fun e w' => e = .returned (.int .i64 (cmpI a b)) ∧ w' = w := by
  have e1 : (a != a) = false := by simp
  have e2 : (b != b) = false := by simp
  by_cases h1 : a < b
  · have HE : Hid (cmpI a b = -1) := (if_pos h1 : cmpI a b = -1)
    go_enter Tryz.func84, Tryz.ntmps84
    go_wp2_with (go_at_call 113; refine (c_isNaN _ _).mono ?_; rintro e w1 ⟨rfl, hw1⟩; obtain rfl := hw1)
    go_ret
    exact ⟨ret_iR HE.out.symm, rfl⟩
  · by_cases h2 : b < a
    · have HE : Hid (cmpI a b = 1) := ((if_neg h1).trans (if_pos h2) : cmpI a b = 1)
      go_enter Tryz.func84, Tryz.ntmps84
      go_wp2_with (go_at_call 113; refine (c_isNaN _ _).mono ?_; rintro e w1 ⟨rfl, hw1⟩; obtain rfl := hw1)
      go_ret
      exact ⟨ret_iR HE.out.symm, rfl⟩
    · have HE : Hid (cmpI a b = 0) := ((if_neg h1).trans (if_neg h2) : cmpI a b = 0)
      go_enter Tryz.func84, Tryz.ntmps84
      go_wp2_with (go_at_call 113; refine (c_isNaN _ _).mono ?_; rintro e w1 ⟨rfl, hw1⟩; obtain rfl := hw1)
      go_ret
      exact ⟨ret_iR HE.out.symm, rfl⟩
def orI (x y : Int) : Int := if x = 0 then y else x
/-- cmp.Or of two numbers. -/
theorem c_cmpOr {w : World} {b : Nat} (x y : Int) (h0 : w.cell? ⟨b, 0, none⟩ = some (.int .i64 x)) (h1 : w.cell? ⟨b, 1, none⟩ = some (.int .i64 y)) :
    Calls Tryz.prog 83 #[.slice (some ⟨b, 0, none⟩) 2 2] w fun e w' => e = .returned (.int .i64 (orI x y)) ∧ w' = w := by
  have H0 := hide h0
  have H1 := hide h1
  clear h0 h1
  go_enter Tryz.func83, Tryz.ntmps83
  go_wp2
  go_loopw [8] (fun i wr => (i = .int .i64 0 ∨ (i = .int .i64 1 ∧ Hid (x = 0)) ∨ (i = .int .i64 2 ∧ Hid (x = 0 ∧ y = 0))) ∧ wr = w) (fun i wr => 2 - (intOf i).toNat)
  case atStart => exact ⟨.inl rfl, rfl⟩
  case round =>
    obtain ⟨hi, rfl⟩ := hrel
    rcases hi with rfl | ⟨rfl, HX⟩ | ⟨rfl, HX⟩
    · have h0 := H0.out
      by_cases hx : x = 0
      · have HX := hide hx
        have bx : (x != 0) = false := by simp [hx]
        clear hx
        go_wp2
        go_roundw
        case rel => exact ⟨.inr (.inl ⟨by go_num, HX⟩), by first | rfl | trivial⟩
        case measure => simp [intOf]
      · have bx : (x != 0) = true := by simp [hx]
        have HF : Hid (orI x y = x) := (if_neg hx : orI x y = x)
        clear hx
        go_wp2
        go_ret
        exact ⟨ret_iR HF.out.symm, rfl⟩
    · have h1 := H1.out
      have HF : Hid (orI x y = y) := (if_pos HX.out : orI x y = y)
      by_cases hy : y = 0
      · have HY := hide (And.intro HX.out hy)
        have by' : (y != 0) = false := by simp [hy]
        clear hy
        go_wp2
        go_roundw
        case rel => exact ⟨.inr (.inr ⟨by go_num, HY⟩), by first | rfl | trivial⟩
        case measure => simp [intOf]
      · have by' : (y != 0) = true := by simp [hy]
        clear hy
        go_wp2
        go_ret
        exact ⟨ret_iR HF.out.symm, rfl⟩
    · have HF : Hid (orI x y = 0) := (by unfold orI; rw [if_pos HX.out.1]; exact HX.out.2 : orI x y = 0)
      go_wp2
      go_ret
      exact ⟨ret_iR HF.out.symm, rfl⟩
end Go.Proofs.YtalmhekbagjdeaaGreatDoor
