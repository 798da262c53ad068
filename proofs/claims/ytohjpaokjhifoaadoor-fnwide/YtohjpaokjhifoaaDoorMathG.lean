/-
  Plain facts on the digits of a number below 2^128, the last one first. Of no program.
-/
import Derived.Test.YtohjpaokjhifoaaDoorMathD
namespace Go.Proofs.YtohjpaokjhifoaaDoor
set_option linter.unusedVariables false
set_option linter.unusedSimpArgs false
open Go.RowKit

/-- The digits of M, as bytes, the last first; none of nought. -/
def digs : Nat → Nat → List Int
  | 0, _ => []
  | f + 1, M => if M = 0 then [] else (48 + dgN M) :: digs f (M / 10)
/-- The text of M, from its end. -/
def decR (M : Nat) : List Int := if M = 0 then [48] else digs 40 M

theorem digs_zero (f : Nat) : digs f 0 = [] := by cases f <;> simp [digs]
theorem digs_len : ∀ (f M k : Nat), M < 10 ^ k → (digs f M).length ≤ k
  | 0, _, _, _ => by simp [digs]
  | f + 1, M, k, h => by
    unfold digs
    by_cases e : M = 0
    · rw [if_pos e]; simp
    · rw [if_neg e]
      cases k with
      | zero => simp at h; omega
      | succ k =>
        have := digs_len f (M / 10) k (by rw [Nat.pow_succ] at h; omega)
        simp only [List.length_cons]; omega
theorem decR_len (M : Nat) (h : M < 340282366920938463463374607431768211456) : 1 ≤ (decR M).length ∧ (decR M).length ≤ 39 := by
  unfold decR
  by_cases e : M = 0
  · rw [if_pos e]; simp
  · rw [if_neg e]
    refine ⟨?_, digs_len 40 M 39 (by omega)⟩
    show 1 ≤ (digs (39 + 1) M).length
    unfold digs; rw [if_neg e]; simp

/-- Where a round stands: L has been written, M is left. -/
def Dig (N M : Nat) (L : List Int) : Prop := L.length ≤ 39 ∧ M < 10 ^ (39 - L.length) ∧ ((L = [] ∧ M = N) ∨ (L ≠ [] ∧ decR N = L ++ digs (40 - L.length) M))

theorem dig_lt {N M : Nat} {L : List Int} (h : Dig N M L) (hN : N < 340282366920938463463374607431768211456) : M < 340282366920938463463374607431768211456 := by
  rcases h.2.2 with ⟨_, e⟩ | ⟨hL, _⟩
  · omega
  · have h1 := h.2.1
    have h2 : 39 - L.length ≤ 38 := by have := List.length_pos_iff.2 hL; omega
    have h3 := Nat.pow_le_pow_right (show 0 < 10 by omega) h2
    have h4 : (10 : Nat) ^ 38 < 340282366920938463463374607431768211456 := by decide
    omega
theorem dig_start (N : Nat) (h : N < 340282366920938463463374607431768211456) : Dig N N [] := by
  have h4 : (340282366920938463463374607431768211456 : Nat) < 10 ^ 39 := by decide
  exact ⟨by simp, by show N < 10 ^ 39; omega, .inl ⟨rfl, rfl⟩⟩
theorem dig_room {N M : Nat} {L : List Int} (h : Dig N M L) (hgo : L = [] ∨ M ≠ 0) : L.length ≤ 38 := by
  rcases hgo with rfl | hM
  · simp
  · have h1 := h.2.1
    have h2 := h.1
    rcases Nat.lt_or_ge L.length 39 with h3 | h3
    · omega
    · rw [show 39 - L.length = 0 by omega] at h1; omega
theorem dig_step {N M : Nat} {L : List Int} (h : Dig N M L) (hgo : L = [] ∨ M ≠ 0) : Dig N (M / 10) (L ++ [48 + dgN M]) := by
  have hr := dig_room h hgo
  obtain ⟨hl, hM, h⟩ := h
  refine ⟨by simp; omega, ?_, .inr ⟨by simp, ?_⟩⟩
  · rw [List.length_append, List.length_singleton]
    rw [show 39 - L.length = (39 - (L.length + 1)) + 1 by omega, Nat.pow_succ] at hM
    omega
  · rcases h with ⟨rfl, rfl⟩ | ⟨hL, hd⟩
    · unfold decR
      by_cases e : M = 0
      · subst e; rw [if_pos rfl]; show [48] = [48 + dgN 0] ++ digs 39 (0 / 10); rw [show 0 / 10 = 0 from rfl, digs_zero]; rfl
      · rw [if_neg e]; show digs (39 + 1) M = [48 + dgN M] ++ digs 39 (M / 10)
        rw [digs, if_neg e]; rfl
    · have e : M ≠ 0 := by
        rcases hgo with h | h
        · exact absurd h hL
        · exact h
      obtain ⟨f, hf⟩ : ∃ f, 40 - L.length = f + 1 := ⟨39 - L.length, by omega⟩
      rw [hd, hf, digs, if_neg e, List.length_append, List.length_singleton, show 40 - (L.length + 1) = f by omega]; simp
theorem dig_end {N : Nat} {L : List Int} (h : Dig N 0 L) (hL : L ≠ []) : L = decR N := by
  rcases h.2.2 with ⟨h, _⟩ | ⟨_, h⟩
  · exact absurd h hL
  · rw [h, digs_zero]; simp

/-- A row turned round, k from each end. -/
def revK (D : List Int) (k : Nat) : List Int := (List.range D.length).map fun j => if j < k ∨ D.length - 1 - j < k then D.getD (D.length - 1 - j) 0 else D.getD j 0
theorem revK_len (D : List Int) (k : Nat) : (revK D k).length = D.length := by simp [revK]
theorem revK_get (D : List Int) (k j : Nat) (h : j < D.length) : (revK D k)[j]? = some (if j < k ∨ D.length - 1 - j < k then D.getD (D.length - 1 - j) 0 else D.getD j 0) := by
  simp [revK, h]
theorem revK_zero (D : List Int) : revK D 0 = D := by
  apply List.ext_getElem?
  intro j
  rcases Nat.lt_or_ge j D.length with h | h
  · rw [revK_get D 0 j h, if_neg (by omega)]; simp [h]
  · rw [List.getElem?_eq_none (by rw [revK_len]; exact h), List.getElem?_eq_none h]
theorem revK_step (D : List Int) (k : Nat) (h : k < D.length / 2) : ((revK D k).set k (D.getD (D.length - 1 - k) 0)).set (D.length - 1 - k) (D.getD k 0) = revK D (k + 1) := by
  apply List.ext_getElem?
  intro j
  rcases Nat.lt_or_ge j D.length with hj | hj
  · rw [revK_get D (k + 1) j hj, List.getElem?_set, List.length_set, revK_len, List.getElem?_set, revK_len, revK_get D k j hj]
    by_cases e1 : D.length - 1 - k = j
    · subst e1
      rw [if_pos rfl, if_pos (by omega), if_pos (by omega), show D.length - 1 - (D.length - 1 - k) = k by omega]
    · rw [if_neg e1]
      by_cases e2 : k = j
      · subst e2; rw [if_pos rfl, if_pos (by omega), if_pos (by omega)]
      · rw [if_neg e2]
        by_cases e3 : j < k ∨ D.length - 1 - j < k
        · rw [if_pos e3, if_pos (by omega)]
        · rw [if_neg e3, if_neg (by omega)]
  · rw [List.getElem?_eq_none (by simp [revK_len]; omega), List.getElem?_eq_none (by rw [revK_len]; exact hj)]
theorem revK_end (D : List Int) : revK D (D.length / 2) = D.reverse := by
  apply List.ext_getElem?
  intro j
  rcases Nat.lt_or_ge j D.length with h | h
  · rw [revK_get D _ j h, List.getElem?_reverse h]
    have hn : D[D.length - 1 - j]? = some (D.getD (D.length - 1 - j) 0) := by
      rw [List.getD_eq_getElem?_getD, List.getElem?_eq_getElem (by omega)]; rfl
    rw [hn]
    by_cases e : j < D.length / 2 ∨ D.length - 1 - j < D.length / 2
    · rw [if_pos e]
    · rw [if_neg e, show D.length - 1 - j = j by omega]
  · rw [List.getElem?_eq_none (by rw [revK_len]; exact h), List.getElem?_eq_none (by simp; exact h)]
end Go.Proofs.YtohjpaokjhifoaaDoor
