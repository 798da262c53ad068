/-
  Gathering bins, the lists of it: of no program.
-/
import Derived.Test.YtimocbbaplghoaaGatA
namespace Go.Proofs.Ytimocbbaplghoaa
set_option linter.unusedVariables false
set_option linter.unusedSimpArgs false

/-- A bin put among bins that rise. -/
def insB (x : Bn) : List Bn → List Bn
  | [] => [x]
  | y :: r => if y.1 < x.1 then y :: insB x r else if y.1 = x.1 then (y.1, wAdd y.2 x.2) :: r else x :: y :: r

theorem pos_tail {y : Bn} {r : List Bn} {p : Int} {i : Nat} (h : PosAt (y :: r) p (i + 1)) : PosAt r p i :=
  ⟨by have := h.1; simp at this; exact this, fun t x hx ht => h.2.1 (t + 1) x (by simpa using hx) (by omega), fun t x hx ht => h.2.2 (t + 1) x (by simpa using hx) (by omega)⟩
theorem ins_found {a u a' u' : Int} : ∀ (L : List Bn) (i : Nat), PosAt L a i → L[i]? = some (a', u') → a' = a → insB (a, u) L = L.set i (a', wAdd u' u)
  | [], i, _, h, _ => by simp at h
  | y :: r, 0, hp, h, e => by
    obtain rfl : y = (a', u') := by simpa using h
    subst e
    simp [insB]
  | y :: r, i + 1, hp, h, e => by
    have hy := hp.2.1 0 y rfl (by omega)
    rw [insB, if_pos hy, ins_found r i (pos_tail hp) (by simpa using h) e]; rfl
theorem ins_new {a u : Int} : ∀ (L : List Bn) (i : Nat), PosAt L a i → (¬ ∃ x, L[i]? = some x ∧ x.1 = a) → insB (a, u) L = L.take i ++ (a, u) :: L.drop i
  | [], i, hp, h => by have := hp.1; simp at this; subst this; rfl
  | y :: r, 0, hp, h => by
    have hy := hp.2.2 0 y rfl (Nat.le_refl _)
    have hne : y.1 ≠ a := fun e => h ⟨y, rfl, e⟩
    rw [insB, if_neg (by show ¬ y.1 < a; omega), if_neg hne]; rfl
  | y :: r, i + 1, hp, h => by
    have hy := hp.2.1 0 y rfl (by omega)
    rw [insB, if_pos hy, ins_new r i (pos_tail hp) (by simpa using h)]; rfl
theorem ins_len (x : Bn) : ∀ L : List Bn, L.length ≤ (insB x L).length ∧ (insB x L).length ≤ L.length + 1
  | [] => by simp [insB]
  | y :: r => by
    have := ins_len x r
    unfold insB
    split
    · simp; omega
    · split <;> simp

theorem rise_cons {y : Bn} {r : List Bn} : Rise (y :: r) ↔ (∀ x ∈ r, y.1 < x.1) ∧ Rise r := by
  constructor
  · intro h
    refine ⟨fun x hx => ?_, fun i j a b ha hb hij => h (i + 1) (j + 1) a b (by simpa using ha) (by simpa using hb) (by omega)⟩
    obtain ⟨j, hj⟩ := List.getElem?_of_mem hx
    exact h 0 (j + 1) y x rfl (by simpa using hj) (by omega)
  · rintro ⟨h1, h2⟩ i j a b ha hb hij
    cases i with
    | zero =>
      obtain rfl : y = a := by simpa using ha
      cases j with
      | zero => omega
      | succ j => exact h1 b (List.mem_of_getElem? (by simpa using hb))
    | succ i =>
      cases j with
      | zero => omega
      | succ j => exact h2 i j a b (by simpa using ha) (by simpa using hb) (by omega)
theorem rise_nil : Rise [] := fun i j a b ha => by simp at ha
/-- What stands in the list with one put in. -/
theorem ins_mem {x : Bn} : ∀ {L : List Bn} {z : Bn}, z ∈ insB x L → z = x ∨ z ∈ L ∨ ∃ y ∈ L, y.1 = x.1 ∧ z = (y.1, wAdd y.2 x.2)
  | [], z, h => by simp [insB] at h; exact .inl h
  | y :: r, z, h => by
    unfold insB at h
    split at h
    · rcases List.mem_cons.1 h with rfl | h
      · exact .inr (.inl (List.mem_cons_self ..))
      · rcases ins_mem h with h | h | ⟨q, hq, e, e2⟩
        · exact .inl h
        · exact .inr (.inl (List.mem_cons_of_mem _ h))
        · exact .inr (.inr ⟨q, List.mem_cons_of_mem _ hq, e, e2⟩)
    · split at h
      · rename_i e
        rcases List.mem_cons.1 h with rfl | h
        · exact .inr (.inr ⟨y, List.mem_cons_self .., e, rfl⟩)
        · exact .inr (.inl (List.mem_cons_of_mem _ h))
      · rcases List.mem_cons.1 h with rfl | h
        · exact .inl rfl
        · exact .inr (.inl h)
theorem wAdd_ok {a b : Int} (ha : U64 a) (hb : U64 b) : U64 (wAdd a b) := by unfold wAdd; unfold U64 at *; split <;> omega
theorem ins_ok {x : Bn} {L : List Bn} (hx : BnOk x) (h : ∀ y ∈ L, BnOk y) : ∀ z ∈ insB x L, BnOk z := fun z hz => by
  rcases ins_mem hz with rfl | h1 | ⟨y, hy, e, rfl⟩
  · exact hx
  · exact h z h1
  · exact ⟨(h y hy).1, wAdd_ok (h y hy).2 hx.2⟩
theorem ins_rise {x : Bn} : ∀ {L : List Bn}, Rise L → Rise (insB x L)
  | [], _ => by rw [insB]; exact rise_cons.2 ⟨fun z hz => by simp at hz, rise_nil⟩
  | y :: r, h => by
    obtain ⟨h1, h2⟩ := rise_cons.1 h
    unfold insB
    split
    · rename_i hlt
      refine rise_cons.2 ⟨fun z hz => ?_, ins_rise h2⟩
      rcases ins_mem hz with rfl | hz | ⟨q, hq, e, rfl⟩
      · exact hlt
      · exact h1 z hz
      · exact h1 q hq
    · split
      · exact rise_cons.2 ⟨fun z hz => h1 z hz, h2⟩
      · refine rise_cons.2 ⟨fun z hz => ?_, h⟩
        rcases List.mem_cons.1 hz with rfl | hz
        · omega
        · have := h1 z hz; omega

/-- Some bins put one by one. -/
def insAll (L M : List Bn) : List Bn := M.foldl (fun s x => insB x s) L
theorem insAll_take {L M : List Bn} {j : Nat} {x : Bn} (h : M[j]? = some x) : insAll L (M.take (j + 1)) = insB x (insAll L (M.take j)) := by
  rw [List.take_add_one, h]; simp [insAll, List.foldl_append]
theorem insAll_ok : ∀ {M L : List Bn}, (∀ x ∈ M, BnOk x) → (∀ x ∈ L, BnOk x) → ∀ z ∈ insAll L M, BnOk z
  | [], L, _, h => h
  | x :: r, L, hM, hL => insAll_ok (M := r) (fun y hy => hM y (List.mem_cons_of_mem _ hy)) (ins_ok (hM x (List.mem_cons_self ..)) hL)
theorem insAll_rise : ∀ {M L : List Bn}, Rise L → Rise (insAll L M)
  | [], L, h => h
  | x :: r, L, h => insAll_rise (M := r) (ins_rise h)
theorem insAll_len : ∀ (M L : List Bn), (insAll L M).length ≤ L.length + M.length
  | [], L => by simp [insAll]
  | x :: r, L => by
    have h1 := insAll_len r (insB x L)
    have h2 := ins_len x L
    show (insAll (insB x L) r).length ≤ _
    simp; omega
end Go.Proofs.Ytimocbbaplghoaa
