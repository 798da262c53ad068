/-
  Contracts of NameRight, of the program and of its model: one Bool of the text's bytes.
-/
import Derived.Test.YtpohfiipgdfeiaaRows
import Derived.WalkKit
import Derived.ProofKit
import Derived.OpenShut
import Derived.Below
import Derived.WalkSpells
import Derived.PlainAid
namespace Go.Proofs.Ytpohfiipgdfeiaa
open Go.ChangeShapes Go.WideShapes Go.ChangeAt Go.RowKit Go.PlainAid

def letB (c : Int) : Bool := decide (97 ≤ c) && decide (c ≤ 122)
def digB (c : Int) : Bool := decide (48 ≤ c) && decide (c ≤ 57)
def nmB (c : Int) : Bool := letB c || digB c || c == 95 || c == 46
/-- The first n bytes are a name's. -/
def allB (s : ByteArray) : Nat → Bool
  | 0 => true
  | n + 1 => allB s n && nmB (bt s n)
def nameB (s : ByteArray) : Bool := decide (1 ≤ s.size) && decide (s.size ≤ 40) && letB (bt s 0) && allB s s.size

theorem ret_bool {a b : Bool} (h : a = b) : Ending.returned (.bool a) = .returned (.bool b) := by rw [h]

theorem allB_le {s : ByteArray} {k : Nat} (h : nmB (bt s k) = false) : ∀ n, k < n → allB s n = false
  | 0, hk => by omega
  | n + 1, hk => by
    unfold allB
    by_cases e : k = n
    · subst e; rw [h]; simp
    · rw [allB_le h n (by omega)]; simp

theorem c_isLetter (c : Int) (w : World) :
    Calls Try.prog 7 #[.int .u8 c] w fun e w' => e = .returned (.bool (letB c)) ∧ w' = w := by
  by_cases h1 : 97 ≤ c <;> by_cases h2 : c ≤ 122 <;> (go_enter Try.func7, Try.ntmps7; go_wp2; go_ret; exact ⟨by simp [letB, h1, h2], rfl⟩)

theorem c_isDigit (c : Int) (w : World) :
    Calls Try.prog 8 #[.int .u8 c] w fun e w' => e = .returned (.bool (digB c)) ∧ w' = w := by
  by_cases h1 : 48 ≤ c <;> by_cases h2 : c ≤ 57 <;> (go_enter Try.func8, Try.ntmps8; go_wp2; go_ret; exact ⟨by simp [digB, h1, h2], rfl⟩)

theorem c_nameByte (c : Int) (w : World) :
    Calls Try.prog 6 #[.int .u8 c] w fun e w' => e = .returned (.bool (nmB c)) ∧ w' = w := by
  cases h1 : letB c <;> cases h2 : digB c <;> by_cases h3 : c = 95 <;> by_cases h4 : c = 46 <;>
  · go_enter Try.func6, Try.ntmps6
    go_wp2_with (first
      | (go_at_call 7; refine (c_isLetter _ _).mono ?_; rintro e w1 ⟨rfl, rfl⟩)
      | (go_at_call 8; refine (c_isDigit _ _).mono ?_; rintro e w1 ⟨rfl, rfl⟩))
    all_goals (go_ret; exact ⟨by simp [nmB, h1, h2, h3, h4], rfl⟩)

theorem letB_t {c : Int} (h : 97 ≤ c) (k : c ≤ 122) : letB c = true := by simp [letB, h, k]
theorem letB_f {c : Int} (h : c < 97 ∨ 122 < c) : letB c = false := by
  unfold letB; rcases h with h | h
  · rw [show decide (97 ≤ c) = false from decide_eq_false (by omega)]; rfl
  · rw [show decide (c ≤ 122) = false from decide_eq_false (by omega)]; simp
theorem digB_t {c : Int} (h : 48 ≤ c) (k : c ≤ 57) : digB c = true := by simp [digB, h, k]
theorem digB_f {c : Int} (h : c < 48 ∨ 57 < c) : digB c = false := by
  unfold digB; rcases h with h | h
  · rw [show decide (48 ≤ c) = false from decide_eq_false (by omega)]; rfl
  · rw [show decide (c ≤ 57) = false from decide_eq_false (by omega)]; simp
theorem nmB_cases (c : Int) : (97 ≤ c ∧ c ≤ 122) ∨ ((c < 97 ∨ 122 < c) ∧ ((48 ≤ c ∧ c ≤ 57) ∨ c = 95 ∨ c = 46 ∨ ((c < 48 ∨ 57 < c) ∧ (c == 95) = false ∧ (c == 46) = false))) := by
  by_cases a : 97 ≤ c ∧ c ≤ 122
  · exact .inl a
  · refine .inr ⟨by omega, ?_⟩
    by_cases b : 48 ≤ c ∧ c ≤ 57
    · exact .inl b
    · by_cases d : c = 95
      · exact .inr (.inl d)
      · by_cases e : c = 46
        · exact .inr (.inr (.inl e))
        · exact .inr (.inr (.inr ⟨by omega, by simpa using d, by simpa using e⟩))
theorem nmB_l {c : Int} (h : letB c = true) : nmB c = true := by simp [nmB, h]
theorem nmB_d {c : Int} (h : digB c = true) : nmB c = true := by simp [nmB, h]
theorem nmB_95 : nmB 95 = true := by decide
theorem nmB_46 : nmB 46 = true := by decide
theorem nmB_n {c : Int} (h : letB c = false) (k : digB c = false) (d : (c == 95) = false) (e : (c == 46) = false) : nmB c = false := by simp [nmB, h, k, d, e]

theorem nameB_f0 {s : ByteArray} (h : letB (bt s 0) = false) : nameB s = false := by unfold nameB; rw [h]; simp
theorem nameB_f {s : ByteArray} {k : Nat} (hk : k < s.size) (h : nmB (bt s k) = false) : nameB s = false := by unfold nameB; rw [allB_le h _ hk]; simp
theorem nameB_t {s : ByteArray} (h1 : ¬ s.size < 1) (h2 : ¬ 40 < s.size) (hl : letB (bt s 0) = true) (ha : allB s s.size = true) : nameB s = true := by
  unfold nameB; rw [hl, ha, show decide (1 ≤ s.size) = true from decide_eq_true (by omega), show decide (s.size ≤ 40) = true from decide_eq_true (by omega)]; rfl
theorem allB_succ {s : ByteArray} {k : Nat} (h : allB s k = true) (hn : nmB (bt s k) = true) : allB s (k + 1) = true := by unfold allB; rw [h, hn]; rfl

end Go.Proofs.Ytpohfiipgdfeiaa
