/-
  Lists of bins brought together: in any order, and however they are put together.
-/
import Derived.Test.YtimocbbaplghoaaMrgM
namespace Go.Proofs.Ytimocbbaplghoaa
set_option linter.unusedVariables false
set_option linter.unusedSimpArgs false

theorem wAdd_comm (a b : Int) : wAdd a b = wAdd b a := by unfold wAdd; rw [Int.add_comm]
theorem wAdd_assoc {a b c : Int} (ha : U64 a) (hb : U64 b) (hc : U64 c) : wAdd (wAdd a b) c = wAdd a (wAdd b c) := by
  unfold wAdd U64 at *
  split <;> split <;> split <;> split <;> omega

theorem mrg_comm : ∀ (n : Nat) (a b : List Bn), a.length + b.length ≤ n → mrg a b = mrg b a
  | _, [], b, _ => by rw [mrg_nil, mrg_nil']
  | _, x :: a, [], _ => by rw [mrg_nil, mrg_nil']
  | 0, x :: a, y :: b, h => by simp at h
  | n + 1, x :: a, y :: b, h => by
    simp only [List.length_cons] at h
    rcases Int.lt_trichotomy x.1 y.1 with c | c | c
    · rw [mrg_lt c, mrg_gt c, mrg_comm n a (y :: b) (by simp only [List.length_cons]; omega)]
    · rw [mrg_eq c, mrg_eq c.symm, mrg_comm n a b (by omega), wAdd_comm, c]
    · rw [mrg_gt c, mrg_lt c, mrg_comm n (x :: a) b (by simp only [List.length_cons]; omega)]

theorem mrg_assoc : ∀ (n : Nat) (a b c : List Bn), a.length + b.length + c.length ≤ n → (∀ x ∈ a, BnOk x) → (∀ x ∈ b, BnOk x) → (∀ x ∈ c, BnOk x) → mrg (mrg a b) c = mrg a (mrg b c)
  | _, [], b, c, _, _, _, _ => by rw [mrg_nil, mrg_nil]
  | _, x :: a, [], c, _, _, _, _ => by rw [mrg_nil, mrg_nil']
  | _, x :: a, y :: b, [], _, _, _, _ => by rw [mrg_nil', mrg_nil']
  | 0, x :: a, y :: b, z :: c, h, _, _, _ => by simp at h
  | n + 1, x :: a, y :: b, z :: c, h, ka, kb, kc => by
    simp only [List.length_cons] at h
    have ka' : ∀ x ∈ a, BnOk x := fun u hu => ka u (List.mem_cons_of_mem _ hu)
    have kb' : ∀ x ∈ b, BnOk x := fun u hu => kb u (List.mem_cons_of_mem _ hu)
    have kc' : ∀ x ∈ c, BnOk x := fun u hu => kc u (List.mem_cons_of_mem _ hu)
    have ux := (ka x (List.mem_cons_self ..)).2
    have uy := (kb y (List.mem_cons_self ..)).2
    have uz := (kc z (List.mem_cons_self ..)).2
    rcases Int.lt_trichotomy x.1 y.1 with c1 | c1 | c1 <;> rcases Int.lt_trichotomy y.1 z.1 with c2 | c2 | c2
    · rw [mrg_lt c1, mrg_lt (show x.1 < z.1 by omega), mrg_lt c2, mrg_lt c1, ← mrg_lt c2, mrg_assoc n a (y :: b) (z :: c) (by simp only [List.length_cons]; omega) ka' kb kc]
    · rw [mrg_lt c1, mrg_lt (show x.1 < z.1 by omega), mrg_eq c2, mrg_lt (show x.1 < (y.1, wAdd y.2 z.2).1 from c1), ← mrg_eq c2, mrg_assoc n a (y :: b) (z :: c) (by simp only [List.length_cons]; omega) ka' kb kc]
    · rw [mrg_lt c1, mrg_gt c2]
      rcases Int.lt_trichotomy x.1 z.1 with c3 | c3 | c3
      · rw [mrg_lt c3, mrg_lt c3, ← mrg_gt c2, mrg_assoc n a (y :: b) (z :: c) (by simp only [List.length_cons]; omega) ka' kb kc]
      · rw [mrg_eq c3, mrg_eq c3, mrg_assoc n a (y :: b) c (by simp only [List.length_cons]; omega) ka' kb kc']
      · rw [mrg_gt c3, mrg_gt c3, ← mrg_lt c1, mrg_assoc n (x :: a) (y :: b) c (by simp only [List.length_cons]; omega) ka kb kc']
    · rw [mrg_eq c1, mrg_lt (show (x.1, wAdd x.2 y.2).1 < z.1 by show x.1 < z.1; omega), mrg_lt c2, mrg_eq c1, mrg_assoc n a b (z :: c) (by simp only [List.length_cons]; omega) ka' kb' kc]
    · rw [mrg_eq c1, mrg_eq (show (x.1, wAdd x.2 y.2).1 = z.1 by show x.1 = z.1; omega), mrg_eq c2, mrg_eq (show x.1 = (y.1, wAdd y.2 z.2).1 from c1), mrg_assoc n a b c (by omega) ka' kb' kc', wAdd_assoc ux uy uz]
    · rw [mrg_eq c1, mrg_gt (show z.1 < (x.1, wAdd x.2 y.2).1 by show z.1 < x.1; omega), mrg_gt c2, mrg_gt (show z.1 < x.1 by omega), ← mrg_eq c1, mrg_assoc n (x :: a) (y :: b) c (by simp only [List.length_cons]; omega) ka kb kc']
    · rw [mrg_gt c1, mrg_lt c2, mrg_lt c2, mrg_gt c1, mrg_assoc n (x :: a) b (z :: c) (by simp only [List.length_cons]; omega) ka kb' kc]
    · rw [mrg_gt c1, mrg_eq c2, mrg_eq c2, mrg_gt (show (y.1, wAdd y.2 z.2).1 < x.1 from c1), mrg_assoc n (x :: a) b c (by simp only [List.length_cons]; omega) ka kb' kc']
    · rw [mrg_gt c1, mrg_gt c2, mrg_gt c2, mrg_gt (show z.1 < x.1 by omega), ← mrg_gt c1, mrg_assoc n (x :: a) (y :: b) c (by simp only [List.length_cons]; omega) ka kb kc']

theorem mrg_mem {x : Bn} : ∀ (n : Nat) (a b : List Bn), a.length + b.length ≤ n → x ∈ mrg a b → (∃ y ∈ a, y.1 = x.1) ∨ ∃ y ∈ b, y.1 = x.1
  | _, [], b, _, h => by rw [mrg_nil] at h; exact .inr ⟨x, h, rfl⟩
  | _, y :: a, [], _, h => by rw [mrg_nil'] at h; exact .inl ⟨x, h, rfl⟩
  | 0, y :: a, z :: b, h, _ => by simp at h
  | n + 1, y :: a, z :: b, h, hx => by
    simp only [List.length_cons] at h
    rcases Int.lt_trichotomy y.1 z.1 with c | c | c
    · rw [mrg_lt c] at hx
      rcases List.mem_cons.1 hx with rfl | hx
      · exact .inl ⟨x, List.mem_cons_self .., rfl⟩
      · rcases mrg_mem n a (z :: b) (by simp only [List.length_cons]; omega) hx with ⟨u, hu, e⟩ | h
        · exact .inl ⟨u, List.mem_cons_of_mem _ hu, e⟩
        · exact .inr h
    · rw [mrg_eq c] at hx
      rcases List.mem_cons.1 hx with rfl | hx
      · exact .inl ⟨y, List.mem_cons_self .., rfl⟩
      · rcases mrg_mem n a b (by omega) hx with ⟨u, hu, e⟩ | ⟨u, hu, e⟩
        · exact .inl ⟨u, List.mem_cons_of_mem _ hu, e⟩
        · exact .inr ⟨u, List.mem_cons_of_mem _ hu, e⟩
    · rw [mrg_gt c] at hx
      rcases List.mem_cons.1 hx with rfl | hx
      · exact .inr ⟨x, List.mem_cons_self .., rfl⟩
      · rcases mrg_mem n (y :: a) b (by simp only [List.length_cons]; omega) hx with h | ⟨u, hu, e⟩
        · exact .inl h
        · exact .inr ⟨u, List.mem_cons_of_mem _ hu, e⟩
end Go.Proofs.Ytimocbbaplghoaa
