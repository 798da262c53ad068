/-
  Thirty bins are kept ahead of bringing together, or behind: the same.
-/
import Derived.Test.YtimocbbaplghoaaMrgO
namespace Go.Proofs.Ytimocbbaplghoaa
set_option linter.unusedVariables false
set_option linter.unusedSimpArgs false

theorem mrg_rise {a b : List Bn} (ha : Rise a) (hb : Rise b) : Rise (mrg a b) := by rw [← insAll_mrg hb]; exact insAll_rise ha
theorem rise_filter (p : Bn → Bool) : ∀ {L : List Bn}, Rise L → Rise (L.filter p)
  | [], _ => rise_nil
  | y :: r, h => by
    have hc := rise_cons.1 h
    by_cases k : p y = true
    · rw [List.filter_cons_of_pos k]
      exact rise_cons.2 ⟨fun x hx => hc.1 x (List.mem_filter.1 hx).1, rise_filter p hc.2⟩
    · rw [List.filter_cons_of_neg k]
      exact rise_filter p hc.2
theorem mrg_len_ge : ∀ (n : Nat) (a b : List Bn), a.length + b.length ≤ n → a.length ≤ (mrg a b).length
  | _, [], b, _ => by simp
  | _, x :: a, [], _ => by rw [mrg_nil']; exact Nat.le_refl _
  | 0, x :: a, y :: b, h => by simp at h
  | n + 1, x :: a, y :: b, h => by
    simp only [List.length_cons] at h
    rcases Int.lt_trichotomy x.1 y.1 with c | c | c
    · rw [mrg_lt c]; have := mrg_len_ge n a (y :: b) (by simp only [List.length_cons]; omega); simp only [List.length_cons]; omega
    · rw [mrg_eq c]; have := mrg_len_ge n a b (by omega); simp only [List.length_cons]; omega
    · rw [mrg_gt c]; have := mrg_len_ge n (x :: a) b (by simp only [List.length_cons]; omega); simp only [List.length_cons] at this ⊢; omega
theorem mrg_pos : ∀ (n : Nat) (a b : List Bn) {y : Bn}, a.length + b.length ≤ n → y ∈ a → ∃ z ∈ mrg a b, z.1 = y.1
  | _, [], b, y, _, h => by simp at h
  | _, x :: a, [], y, _, h => by rw [mrg_nil']; exact ⟨y, h, rfl⟩
  | 0, x :: a, z :: b, y, h, _ => by simp at h
  | n + 1, x :: a, z :: b, y, h, hy => by
    simp only [List.length_cons] at h
    rcases Int.lt_trichotomy x.1 z.1 with c | c | c
    · rw [mrg_lt c]
      rcases List.mem_cons.1 hy with rfl | hy
      · exact ⟨_, List.mem_cons_self .., rfl⟩
      · obtain ⟨u, hu, e⟩ := mrg_pos n a (z :: b) (by simp only [List.length_cons]; omega) hy
        exact ⟨u, List.mem_cons_of_mem _ hu, e⟩
    · rw [mrg_eq c]
      rcases List.mem_cons.1 hy with rfl | hy
      · exact ⟨_, List.mem_cons_self .., rfl⟩
      · obtain ⟨u, hu, e⟩ := mrg_pos n a b (by omega) hy
        exact ⟨u, List.mem_cons_of_mem _ hu, e⟩
    · rw [mrg_gt c]
      obtain ⟨u, hu, e⟩ := mrg_pos n (x :: a) b (by simp only [List.length_cons]; omega) hy
      exact ⟨u, List.mem_cons_of_mem _ hu, e⟩
theorem high_high {m k : Int} (h : m ≤ k) : ∀ L : List Bn, highL k (highL m L) = highL k L
  | [] => rfl
  | x :: L => by
    by_cases c : m < x.1
    · rw [high_yes c]
      by_cases d : k < x.1
      · rw [high_yes d, high_yes d, high_high h L]
      · rw [high_no (by omega), high_no (by omega), high_high h L]
    · rw [high_no (by omega), high_no (show x.1 ≤ k by omega), high_high h L]
theorem high_less {m k : Int} {L : List Bn} {y : Bn} (h : m < k) (hy : y ∈ L) (e : y.1 = k) : (highL k L).length < (highL m L).length := by
  rw [← high_high (show m ≤ k by omega) L]
  exact List.length_filter_lt_length_iff_exists.2 ⟨y, List.mem_filter.2 ⟨hy, decide_eq_true (by omega)⟩, by simp; omega⟩
theorem place_one {m k : Int} {L : List Bn} (hm : ∃ y ∈ L, y.1 = m) (hk : ∃ y ∈ L, y.1 = k) (h : (highL m L).length = (highL k L).length) : m = k := by
  obtain ⟨y, hy, ey⟩ := hm
  obtain ⟨z, hz, ez⟩ := hk
  rcases Int.lt_trichotomy m k with c | c | c
  · have := high_less c hz ez; omega
  · exact c
  · have := high_less c hy ey; omega
theorem sum_part {m k : Int} (h : m ≤ k) : ∀ L : List Bn, sumW (lowL k L) = sumW (lowL m L) + sumW (lowL k (highL m L))
  | [] => rfl
  | x :: L => by
    have ih := sum_part h L
    by_cases c : m < x.1
    · rw [high_yes c, low_no c]
      by_cases d : x.1 ≤ k
      · rw [low_yes d, low_yes d, sumW_cons, sumW_cons]; omega
      · rw [low_no (by omega), low_no (by omega)]; exact ih
    · rw [high_no (by omega), low_yes (show x.1 ≤ m by omega), low_yes (show x.1 ≤ k by omega), sumW_cons, sumW_cons]; omega
/-- Where 29 lie above a place, this is what is kept. -/
theorem keep_at {L : List Bn} {m : Int} (hr : Rise L) (hk : ∀ x ∈ L, BnOk x) (h : 30 ≤ L.length) (hm : ∃ y ∈ L, y.1 = m) (h29 : (highL m L).length = 29) : keepL L = (m, capW (sumW (lowL m L))) :: highL m L := by
  by_cases c : 30 < L.length
  · obtain ⟨k, hk', e, h2⟩ := keep_col hr hk c
    obtain rfl := place_one hm hk' (by omega)
    exact e
  · have e30 : L.length = 30 := by omega
    obtain ⟨y, hy, rfl⟩ := hm
    obtain ⟨k, hk1, hk2⟩ := List.getElem_of_mem hy
    have hx : L[k]? = some y := by rw [List.getElem?_eq_getElem hk1, hk2]
    obtain ⟨p1, p2⟩ := part_rise hr hx
    rw [p2, List.length_drop] at h29
    obtain rfl : k = 0 := by omega
    rw [p1, p2]
    unfold keepL
    rw [if_pos (by omega)]
    cases L with
    | nil => simp at e30
    | cons x r =>
      obtain rfl : x = y := by simpa using hx
      have ux := (hk x (List.mem_cons_self ..)).2
      have e0 : capW x.2 = x.2 := by unfold capW; unfold U64 at ux; split <;> omega
      simp [sumW, e0]
theorem cap_in {t : Int} (h : 0 ≤ t) : U64 (capW t) := by unfold capW U64; split <;> omega
theorem keep_good {L : List Bn} (hr : Rise L) (hk : ∀ x ∈ L, BnOk x) : Rise (keepL L) ∧ ∀ x ∈ keepL L, BnOk x := by
  by_cases c : 30 < L.length
  · obtain ⟨m, ⟨y, hy, ey⟩, e, h2⟩ := keep_col hr hk c
    rw [e]
    refine ⟨rise_cons.2 ⟨fun x hx => of_decide_eq_true (List.mem_filter.1 hx).2, rise_filter _ hr⟩, fun x hx => ?_⟩
    rcases List.mem_cons.1 hx with rfl | hx
    · exact ⟨by show I64 m; rw [← ey]; exact (hk y hy).1, cap_in (sumW_pos (low_ok hk))⟩
    · exact high_ok hk x hx
  · unfold keepL; rw [if_pos (by omega)]; exact ⟨hr, hk⟩

theorem keep_mrg {A B : List Bn} (rA : Rise A) (rB : Rise B) (kA : ∀ x ∈ A, BnOk x) (kB : ∀ x ∈ B, BnOk x) : keepL (mrg (keepL A) B) = keepL (mrg A B) := by
  by_cases c : 30 < A.length
  · obtain ⟨a, ⟨ya, hya, eya⟩, eA, hA29⟩ := keep_col rA kA c
    have gK := keep_good rA kA
    have rU := mrg_rise rA rB
    have kU := mrg_bn _ A B (Nat.le_refl _) kA kB
    have lU := mrg_len_ge _ A B (Nat.le_refl _)
    obtain ⟨m, ⟨y, hy, ey⟩, eU, hU29⟩ := keep_col rU kU (by omega)
    have hUm := high_mrg (m := m) _ A B (Nat.le_refl _) rA rB
    have ham : a ≤ m := by
      rcases Int.lt_or_le m a with q | q
      · exfalso
        have h1 := high_less q hya eya
        have h2 := mrg_len_ge _ (highL m A) (highL m B) (Nat.le_refl _)
        rw [← hUm] at h2
        omega
      · exact q
    have hK : highL m (keepL A) = highL m A := by rw [eA, high_no (show (a, capW (sumW (lowL a A))).1 ≤ m from ham), high_high ham]
    have hVm := high_mrg (m := m) _ (keepL A) B (Nat.le_refl _) gK.1 rB
    rw [hK, ← hUm] at hVm
    have lK : (keepL A).length = 30 := by rw [eA, List.length_cons, hA29]
    have lV := mrg_len_ge _ (keepL A) B (Nat.le_refl _)
    have hpos : ∃ z ∈ mrg (keepL A) B, z.1 = m := by
      rcases mrg_mem _ A B (Nat.le_refl _) hy with ⟨u, hu, eu⟩ | ⟨u, hu, eu⟩
      · have : ∃ v ∈ keepL A, v.1 = m := by
          rw [eA]
          by_cases q : a < m
          · exact ⟨u, List.mem_cons_of_mem _ (List.mem_filter.2 ⟨hu, decide_eq_true (by omega)⟩), by omega⟩
          · exact ⟨_, List.mem_cons_self .., by show a = m; omega⟩
        obtain ⟨v, hv, ev⟩ := this
        obtain ⟨z, hz, ez⟩ := mrg_pos _ (keepL A) B (Nat.le_refl _) hv
        exact ⟨z, hz, by omega⟩
      · rw [mrg_comm _ (keepL A) B (Nat.le_refl _)]
        obtain ⟨z, hz, ez⟩ := mrg_pos _ B (keepL A) (Nat.le_refl _) hu
        exact ⟨z, hz, by omega⟩
    rw [keep_at (mrg_rise gK.1 rB) (mrg_bn _ _ _ (Nat.le_refl _) gK.2 kB) (by omega) hpos (by rw [hVm]; exact hU29), eU, hVm]
    congr 2
    have w1 := low_mrg (m := m) _ (keepL A) B 0 (Nat.le_refl _) (Int.le_refl _) gK.2 kB
    have w2 := low_mrg (m := m) _ A B 0 (Nat.le_refl _) (Int.le_refl _) kA kB
    simp only [Int.zero_add] at w1 w2
    rw [w1, w2, eA, low_yes (show (a, capW (sumW (lowL a A))).1 ≤ m from ham), sumW_cons, sum_part ham A]
    have p1 : 0 ≤ sumW (lowL a A) := sumW_pos (low_ok kA)
    have p2 : 0 ≤ sumW (lowL m (highL a A)) := sumW_pos (low_ok (high_ok kA))
    have p3 : 0 ≤ sumW (lowL m B) := sumW_pos (low_ok kB)
    show capW (capW (sumW (lowL a A)) + sumW (lowL m (highL a A)) + sumW (lowL m B)) = _
    rw [Int.add_assoc, cap_cap p1 (by omega)]
    congr 1; omega
  · rw [show keepL A = A by unfold keepL; rw [if_pos (by omega)]]
theorem keep_mrg' {A B : List Bn} (rA : Rise A) (rB : Rise B) (kA : ∀ x ∈ A, BnOk x) (kB : ∀ x ∈ B, BnOk x) : keepL (mrg A (keepL B)) = keepL (mrg A B) := by
  rw [mrg_comm _ A (keepL B) (Nat.le_refl _), keep_mrg rB rA kB kA, mrg_comm _ B A (Nat.le_refl _)]
end Go.Proofs.Ytimocbbaplghoaa
