/-
  Heavies put among heavies that rise, and lessened: the lists. Of no program.
-/
import Derived.Test.YtmhojmgemiphkaaFindH
namespace Go.Proofs.Ytmhojmgemiphkaa
set_option linter.unusedVariables false
set_option linter.unusedSimpArgs false
open Go.PlainAid

/-- A heavy put among heavies that rise. -/
def hvAdd : List Hv → Hv → List Hv
  | [], x => [x]
  | y :: r, x => if strLt y.1 x.1 = true then y :: hvAdd r x else if y.1 = x.1 then (y.1, y.2 + x.2) :: r else x :: y :: r
def addAll (L M : List Hv) : List Hv := M.foldl hvAdd L

theorem posH_tail {y : Hv} {r : List Hv} {p : ByteArray} {i : Nat} (h : PosH (y :: r) p (i + 1)) : PosH r p i :=
  ⟨by have := h.1; simp at this; exact this, fun t x hx ht => h.2.1 (t + 1) x (by simpa using hx) (by omega), fun t x hx ht => h.2.2 (t + 1) x (by simpa using hx) (by omega)⟩
theorem add_found {a : ByteArray} {u u' : Int} : ∀ (L : List Hv) (i : Nat), PosH L a i → L[i]? = some (a, u') → hvAdd L (a, u) = L.set i (a, u' + u)
  | [], i, _, h => by simp at h
  | y :: r, 0, hp, h => by
    obtain rfl : y = (a, u') := by simpa using h
    have : strLt a a = false := strLt_irr a
    simp [hvAdd, this]
  | y :: r, i + 1, hp, h => by
    have hy := hp.2.1 0 y rfl (by omega)
    rw [hvAdd, if_pos hy, add_found r i (posH_tail hp) (by simpa using h)]; rfl
theorem add_new {a : ByteArray} {u : Int} : ∀ (L : List Hv) (i : Nat), PosH L a i → (¬ ∃ x, L[i]? = some x ∧ x.1 = a) → hvAdd L (a, u) = L.take i ++ (a, u) :: L.drop i
  | [], i, hp, h => by have := hp.1; simp at this; subst this; rfl
  | y :: r, 0, hp, h => by
    have hy := hp.2.2 0 y rfl (Nat.le_refl _)
    have hne : y.1 ≠ a := fun e => h ⟨y, rfl, e⟩
    rw [hvAdd, if_neg (by show ¬ strLt y.1 a = true; rw [hy]; decide), if_neg hne]; rfl
  | y :: r, i + 1, hp, h => by
    have hy := hp.2.1 0 y rfl (by omega)
    rw [hvAdd, if_pos hy, add_new r i (posH_tail hp) (by simpa using h)]; rfl
theorem add_len (x : Hv) : ∀ L : List Hv, L.length ≤ (hvAdd L x).length ∧ (hvAdd L x).length ≤ L.length + 1
  | [] => by simp [hvAdd]
  | y :: r => by
    have := add_len x r
    unfold hvAdd
    split
    · simp; omega
    · split <;> simp
theorem riseH_cons {y : Hv} {r : List Hv} : RiseH (y :: r) ↔ (∀ x ∈ r, strLt y.1 x.1 = true) ∧ RiseH r := by
  constructor
  · intro h
    refine ⟨fun x hx => ?_, fun i j a b ha hb hij => h (i + 1) (j + 1) a b (by simpa using ha) (by simpa using hb) (by omega)⟩
    obtain ⟨j, hj⟩ := List.getElem?_of_mem hx
    exact h 0 (j + 1) y x rfl (by simpa using hj) (by omega)
  · rintro ⟨h1, h2⟩ i j a b ha hb hij
    cases i with
    | zero =>
      obtain rfl : y = a := by simpa using ha
      cases j with
      | zero => omega
      | succ j => exact h1 b (List.mem_of_getElem? (by simpa using hb))
    | succ i =>
      cases j with
      | zero => omega
      | succ j => exact h2 i j a b (by simpa using ha) (by simpa using hb) (by omega)
theorem riseH_nil : RiseH [] := fun i j a b ha => by simp at ha
/-- What stands in the list with one put in. -/
theorem add_mem {x : Hv} : ∀ {L : List Hv} {z : Hv}, z ∈ hvAdd L x → z = x ∨ z ∈ L ∨ ∃ y ∈ L, y.1 = x.1 ∧ z = (y.1, y.2 + x.2)
  | [], z, h => by simp [hvAdd] at h; exact .inl h
  | y :: r, z, h => by
    unfold hvAdd at h
    split at h
    · rcases List.mem_cons.1 h with rfl | h
      · exact .inr (.inl (List.mem_cons_self ..))
      · rcases add_mem h with h | h | ⟨q, hq, e, e2⟩
        · exact .inl h
        · exact .inr (.inl (List.mem_cons_of_mem _ h))
        · exact .inr (.inr ⟨q, List.mem_cons_of_mem _ hq, e, e2⟩)
    · split at h
      · rename_i e
        rcases List.mem_cons.1 h with rfl | h
        · exact .inr (.inr ⟨y, List.mem_cons_self .., e, rfl⟩)
        · exact .inr (.inl (List.mem_cons_of_mem _ h))
      · rcases List.mem_cons.1 h with rfl | h
        · exact .inl rfl
        · exact .inr (.inl h)
theorem add_key {x : Hv} {L : List Hv} {z : Hv} (h : z ∈ hvAdd L x) : z.1 = x.1 ∨ ∃ y ∈ L, z.1 = y.1 := by
  rcases add_mem h with rfl | h | ⟨y, hy, e, rfl⟩
  · exact .inl rfl
  · exact .inr ⟨z, h, rfl⟩
  · exact .inl e
theorem add_rise {x : Hv} : ∀ {L : List Hv}, RiseH L → RiseH (hvAdd L x)
  | [], _ => riseH_cons.2 ⟨fun y hy => by simp at hy, riseH_nil⟩
  | y :: r, h => by
    obtain ⟨h1, h2⟩ := riseH_cons.1 h
    unfold hvAdd
    split
    · rename_i hy
      refine riseH_cons.2 ⟨fun z hz => ?_, add_rise h2⟩
      rcases add_key hz with e | ⟨q, hq, e⟩
      · rw [e]; exact hy
      · rw [e]; exact h1 q hq
    · rename_i hy
      split
      · exact riseH_cons.2 ⟨h1, h2⟩
      · rename_i hne
        have hyx : strLt x.1 y.1 = true := by
          rcases strLt_tot (by simpa using hy) with h | h
          · exact h
          · exact absurd h hne
        refine riseH_cons.2 ⟨fun z hz => ?_, h⟩
        rcases List.mem_cons.1 hz with rfl | hz
        · exact hyx
        · exact strLt_trans hyx (h1 z hz)
theorem addAll_rise : ∀ {M L : List Hv}, RiseH L → RiseH (addAll L M)
  | [], _, h => h
  | x :: M, L, h => addAll_rise (M := M) (add_rise (x := x) h)

/-- Counts lessened; those that are not above 0 go. -/
def lessH (L : List Hv) (d : Int) : List Hv := L.filterMap fun x => if d < x.2 then some (x.1, x.2 - d) else none
theorem less_nil (d : Int) : lessH [] d = [] := rfl
theorem less_cons (x : Hv) (r : List Hv) (d : Int) : lessH (x :: r) d = if d < x.2 then (x.1, x.2 - d) :: lessH r d else lessH r d := by
  unfold lessH
  rw [List.filterMap_cons]
  split <;> rename_i h <;> split at h <;> simp_all
theorem less_zero : ∀ {L : List Hv}, (∀ x ∈ L, 1 ≤ x.2) → lessH L 0 = L
  | [], _ => rfl
  | x :: r, h => by
    have h1 := h x (List.mem_cons_self ..)
    rw [less_cons, if_pos (by omega), less_zero (fun y hy => h y (List.mem_cons_of_mem _ hy))]
    simp
theorem less_mem {L : List Hv} {d : Int} {z : Hv} (h : z ∈ lessH L d) : ∃ y ∈ L, z = (y.1, y.2 - d) ∧ d < y.2 := by
  unfold lessH at h
  obtain ⟨y, hy, e⟩ := List.mem_filterMap.1 h
  split at e
  · exact ⟨y, hy, (Option.some.inj e).symm, by assumption⟩
  · cases e
theorem less_rise {d : Int} : ∀ {L : List Hv}, RiseH L → RiseH (lessH L d)
  | [], _ => riseH_nil
  | x :: r, h => by
    obtain ⟨h1, h2⟩ := riseH_cons.1 h
    rw [less_cons]
    split
    · refine riseH_cons.2 ⟨fun z hz => ?_, less_rise h2⟩
      obtain ⟨y, hy, rfl, _⟩ := less_mem hz
      exact h1 y hy
    · exact less_rise h2
theorem add_front {x : Hv} {L : List Hv} (h : ∀ y ∈ L, strLt x.1 y.1 = true) : hvAdd L x = x :: L := by
  cases L with
  | nil => rfl
  | cons y r =>
    have hy := h y (List.mem_cons_self ..)
    unfold hvAdd
    rw [if_neg (by rw [strLt_ant hy]; decide), if_neg (fun e => by rw [e, strLt_irr] at hy; cases hy)]
/-- Put and lessened is lessened and put, of a new key. -/
theorem less_add {x : Hv} {d : Int} : ∀ {L : List Hv}, RiseH L → (∀ y ∈ L, y.1 ≠ x.1) → lessH (hvAdd L x) d = if d < x.2 then hvAdd (lessH L d) (x.1, x.2 - d) else lessH L d
  | [], _, _ => by
    show lessH [x] d = _
    rw [less_cons, less_nil]; split <;> rfl
  | y :: r, h, hk => by
    obtain ⟨h1, h2⟩ := riseH_cons.1 h
    have ih := less_add (x := x) (d := d) h2 (fun z hz => hk z (List.mem_cons_of_mem _ hz))
    have hne := hk y (List.mem_cons_self ..)
    rw [hvAdd]
    by_cases hy : strLt y.1 x.1 = true
    · rw [if_pos hy, less_cons, ih, less_cons]
      by_cases hd : d < y.2
      · rw [if_pos hd, if_pos hd]
        split
        · rw [hvAdd, if_pos (by exact hy)]
        · rfl
      · rw [if_neg hd, if_neg hd]
    · rw [if_neg hy, if_neg hne, less_cons]
      have hyx : strLt x.1 y.1 = true := by
        rcases strLt_tot (by simpa using hy) with h | h
        · exact h
        · exact absurd h hne
      have hall : ∀ z ∈ lessH (y :: r) d, strLt x.1 z.1 = true := fun z hz => by
        obtain ⟨q, hq, rfl, _⟩ := less_mem hz
        rcases List.mem_cons.1 hq with rfl | hq
        · exact hyx
        · exact strLt_trans hyx (h1 q hq)
      split
      · rw [add_front (x := (x.1, x.2 - d)) hall]
      · rfl
end Go.Proofs.Ytmhojmgemiphkaa
