/-
  Bins that rise, brought together: the list of it, of no program.
-/
import Derived.Test.YtimocbbaplghoaaGatM
namespace Go.Proofs.Ytimocbbaplghoaa
set_option linter.unusedVariables false
set_option linter.unusedSimpArgs false

/-- Two lists that rise, brought together. -/
def mrg : List Bn → List Bn → List Bn
  | [], b => b
  | x :: a, [] => x :: a
  | x :: a, y :: b => if x.1 < y.1 then x :: mrg a (y :: b) else if y.1 < x.1 then y :: mrg (x :: a) b else (x.1, wAdd x.2 y.2) :: mrg a b
termination_by a b => a.length + b.length
theorem mrg_nil (b : List Bn) : mrg [] b = b := by rw [mrg]
theorem mrg_nil' (a : List Bn) : mrg a [] = a := by cases a <;> rw [mrg]
theorem mrg_lt {x y : Bn} {a b : List Bn} (h : x.1 < y.1) : mrg (x :: a) (y :: b) = x :: mrg a (y :: b) := by rw [mrg, if_pos h]
theorem mrg_gt {x y : Bn} {a b : List Bn} (h : y.1 < x.1) : mrg (x :: a) (y :: b) = y :: mrg (x :: a) b := by rw [mrg, if_neg (by omega), if_pos h]
theorem mrg_eq {x y : Bn} {a b : List Bn} (h : x.1 = y.1) : mrg (x :: a) (y :: b) = (x.1, wAdd x.2 y.2) :: mrg a b := by rw [mrg, if_neg (by omega), if_neg (by omega)]
/-- One that is less than all. -/
theorem mrg_first {x : Bn} {a b : List Bn} (h : ∀ y ∈ b, x.1 < y.1) : mrg (x :: a) b = x :: mrg a b := by
  cases b with
  | nil => rw [mrg_nil', mrg_nil']
  | cons y r => exact mrg_lt (h y (List.mem_cons_self ..))
theorem ins_mrg {y : Bn} {M : List Bn} (hM : ∀ z ∈ M, y.1 < z.1) : ∀ P : List Bn, mrg (insB y P) M = mrg P (y :: M)
  | [] => by rw [insB, mrg_nil, mrg_first hM, mrg_nil]
  | x :: r => by
    unfold insB
    split
    · rename_i h
      rw [mrg_lt h, mrg_first (fun z hz => by have := hM z hz; omega), ins_mrg hM r]
    · split
      · rename_i h
        rw [mrg_eq h, mrg_first (fun z hz => by have := hM z hz; show x.1 < z.1; omega)]
      · rw [mrg_gt (by omega), mrg_first hM]
theorem insAll_mrg : ∀ {N P : List Bn}, Rise N → insAll P N = mrg P N
  | [], P, _ => by rw [mrg_nil']; rfl
  | y :: N, P, h => by
    obtain ⟨h1, h2⟩ := rise_cons.1 h
    show insAll (insB y P) N = _
    rw [insAll_mrg h2, ins_mrg h1]
theorem insAll_nil {P : List Bn} (h : Rise P) : insAll [] P = P := by rw [insAll_mrg h, mrg_nil]
theorem mrg_len (a b : List Bn) : (mrg a b).length ≤ a.length + b.length := by
  induction a, b using mrg.induct with
  | case1 b => simp [mrg_nil]
  | case2 x a => simp [mrg_nil']
  | case3 x a y b h ih => rw [mrg_lt h]; simp at ih ⊢; omega
  | case4 x a y b h h2 ih => rw [mrg_gt h2]; simp at ih ⊢; omega
  | case5 x a y b h h2 ih => rw [mrg_eq (by omega)]; simp at ih ⊢; omega
/-- A step of the loop that brings them together. -/
theorem mrg_drop_l {P N : List Bn} {i k : Nat} {x : Bn} (hx : P[i]? = some x) (h : k = N.length ∨ ∃ y, N[k]? = some y ∧ x.1 < y.1) : mrg (P.drop i) (N.drop k) = x :: mrg (P.drop (i + 1)) (N.drop k) := by
  have hi := (List.getElem?_eq_some_iff.1 hx).1
  rw [List.drop_eq_getElem_cons hi, (List.getElem?_eq_some_iff.1 hx).2]
  rcases h with rfl | ⟨y, hy, hlt⟩
  · rw [List.drop_length, mrg_nil', mrg_nil']
  · have hk := (List.getElem?_eq_some_iff.1 hy).1
    rw [List.drop_eq_getElem_cons hk, (List.getElem?_eq_some_iff.1 hy).2, mrg_lt hlt]
theorem mrg_drop_r {P N : List Bn} {i k : Nat} {y : Bn} (hy : N[k]? = some y) (h : i = P.length ∨ ∃ x, P[i]? = some x ∧ y.1 < x.1) : mrg (P.drop i) (N.drop k) = y :: mrg (P.drop i) (N.drop (k + 1)) := by
  have hk := (List.getElem?_eq_some_iff.1 hy).1
  rw [List.drop_eq_getElem_cons hk, (List.getElem?_eq_some_iff.1 hy).2]
  rcases h with rfl | ⟨x, hx, hlt⟩
  · rw [List.drop_length, mrg_nil, mrg_nil]
  · have hi := (List.getElem?_eq_some_iff.1 hx).1
    rw [List.drop_eq_getElem_cons hi, (List.getElem?_eq_some_iff.1 hx).2, mrg_gt hlt]
theorem mrg_drop_e {P N : List Bn} {i k : Nat} {x y : Bn} (hx : P[i]? = some x) (hy : N[k]? = some y) (h : x.1 = y.1) : mrg (P.drop i) (N.drop k) = (x.1, wAdd x.2 y.2) :: mrg (P.drop (i + 1)) (N.drop (k + 1)) := by
  have hi := (List.getElem?_eq_some_iff.1 hx).1
  have hk := (List.getElem?_eq_some_iff.1 hy).1
  rw [List.drop_eq_getElem_cons hi, (List.getElem?_eq_some_iff.1 hx).2, List.drop_eq_getElem_cons hk, (List.getElem?_eq_some_iff.1 hy).2, mrg_eq h]
end Go.Proofs.Ytimocbbaplghoaa
