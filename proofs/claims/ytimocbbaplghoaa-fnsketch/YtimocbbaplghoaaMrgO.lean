/-
  Bins above a place and the weights at it or below, in lists that are brought together.
-/
import Derived.Test.YtimocbbaplghoaaMrgN
import Derived.Test.YtimocbbaplghoaaGatK
namespace Go.Proofs.Ytimocbbaplghoaa
set_option linter.unusedVariables false
set_option linter.unusedSimpArgs false

/-- No more than a weight may be. -/
def capW (t : Int) : Int := if 18446744073709551615 < t then 18446744073709551615 else t
def sumW (L : List Bn) : Int := (L.map (fun x => x.2)).sum
theorem wAdd_cap (a b : Int) : wAdd a b = capW (a + b) := rfl
theorem cap_cap {a b : Int} (ha : 0 ≤ a) (hb : 0 ≤ b) : capW (capW a + b) = capW (a + b) := by
  unfold capW
  split <;> split <;> omega
theorem sumW_cons (x : Bn) (L : List Bn) : sumW (x :: L) = x.2 + sumW L := by simp [sumW]
theorem sumW_nil : sumW [] = 0 := rfl
theorem sumW_app (a b : List Bn) : sumW (a ++ b) = sumW a + sumW b := by simp [sumW, List.sum_append]
theorem sumW_pos : ∀ {L : List Bn}, (∀ x ∈ L, BnOk x) → 0 ≤ sumW L
  | [], _ => by simp [sumW]
  | x :: L, h => by
    rw [sumW_cons]
    have h1 := (h x (List.mem_cons_self ..)).2.1
    have h2 := sumW_pos (L := L) (fun y hy => h y (List.mem_cons_of_mem _ hy))
    omega
theorem foldW_cap : ∀ {L : List Bn} {x : Int}, 0 ≤ x → (∀ y ∈ L, BnOk y) → foldW (capW x) L = capW (x + sumW L)
  | [], x, hx, _ => by simp [foldW, sumW]
  | y :: L, x, hx, h => by
    have h1 := (h y (List.mem_cons_self ..)).2.1
    show foldW (wAdd (capW x) y.2) L = _
    rw [wAdd_cap, cap_cap hx h1, foldW_cap (by omega) (fun z hz => h z (List.mem_cons_of_mem _ hz)), sumW_cons, Int.add_assoc]

def lowL (m : Int) (L : List Bn) : List Bn := L.filter (fun x => decide (x.1 ≤ m))
def highL (m : Int) (L : List Bn) : List Bn := L.filter (fun x => decide (m < x.1))
theorem low_yes {m : Int} {x : Bn} {L : List Bn} (h : x.1 ≤ m) : lowL m (x :: L) = x :: lowL m L := by simp [lowL, h]
theorem low_no {m : Int} {x : Bn} {L : List Bn} (h : m < x.1) : lowL m (x :: L) = lowL m L := List.filter_cons_of_neg (by simp; omega)
theorem high_yes {m : Int} {x : Bn} {L : List Bn} (h : m < x.1) : highL m (x :: L) = x :: highL m L := by simp [highL, h]
theorem high_no {m : Int} {x : Bn} {L : List Bn} (h : x.1 ≤ m) : highL m (x :: L) = highL m L := List.filter_cons_of_neg (by simp; omega)

theorem rise_tail {x : Bn} {L : List Bn} (h : Rise (x :: L)) : Rise L := (rise_cons.1 h).2
theorem high_all {m : Int} {L : List Bn} (h : ∀ x ∈ L, m < x.1) : highL m L = L := List.filter_eq_self.2 (fun x hx => decide_eq_true (h x hx))
theorem low_none {m : Int} {L : List Bn} (h : ∀ x ∈ L, m < x.1) : lowL m L = [] := List.filter_eq_nil_iff.2 (fun x hx => by have := h x hx; simp; omega)

theorem high_mrg {m : Int} : ∀ (n : Nat) (a b : List Bn), a.length + b.length ≤ n → Rise a → Rise b → highL m (mrg a b) = mrg (highL m a) (highL m b)
  | _, [], b, _, _, _ => by rw [mrg_nil]; show _ = mrg [] _; rw [mrg_nil]
  | _, x :: a, [], _, _, _ => by rw [mrg_nil']; show _ = mrg _ []; rw [mrg_nil']
  | 0, x :: a, y :: b, h, _, _ => by simp at h
  | n + 1, x :: a, y :: b, h, ra, rb => by
    simp only [List.length_cons] at h
    have ra' := rise_tail ra
    have rb' := rise_tail rb
    rcases Int.lt_trichotomy x.1 y.1 with c | c | c
    · rw [mrg_lt c]
      have ih := high_mrg (m := m) n a (y :: b) (by simp only [List.length_cons]; omega) ra' rb
      by_cases k : m < x.1
      · rw [high_yes k, high_yes k, ih, high_yes (show m < y.1 by omega), mrg_lt c]
      · rw [high_no (by omega), high_no (show x.1 ≤ m by omega), ih]
    · rw [mrg_eq c]
      have ih := high_mrg (m := m) n a b (by omega) ra' rb'
      by_cases k : m < x.1
      · rw [high_yes (show m < (x.1, wAdd x.2 y.2).1 from k), high_yes k, ih, high_yes (show m < y.1 by omega), mrg_eq c]
      · rw [high_no (show (x.1, wAdd x.2 y.2).1 ≤ m by show x.1 ≤ m; omega), high_no (show x.1 ≤ m by omega), high_no (show y.1 ≤ m by omega), ih]
    · rw [mrg_gt c]
      have ih := high_mrg (m := m) n (x :: a) b (by simp only [List.length_cons]; omega) ra rb'
      by_cases k : m < y.1
      · rw [high_yes k, high_yes (show m < x.1 by omega), high_yes k, mrg_gt c, ih, high_yes (show m < x.1 by omega)]
      · rw [high_no (by omega), high_no (show y.1 ≤ m by omega), ih]

theorem mrg_bn : ∀ (n : Nat) (a b : List Bn), a.length + b.length ≤ n → (∀ x ∈ a, BnOk x) → (∀ x ∈ b, BnOk x) → ∀ x ∈ mrg a b, BnOk x
  | _, [], b, _, _, kb => by rw [mrg_nil]; exact kb
  | _, y :: a, [], _, ka, _ => by rw [mrg_nil']; exact ka
  | 0, y :: a, z :: b, h, _, _ => by simp at h
  | n + 1, y :: a, z :: b, h, ka, kb => by
    simp only [List.length_cons] at h
    have ka' : ∀ x ∈ a, BnOk x := fun u hu => ka u (List.mem_cons_of_mem _ hu)
    have kb' : ∀ x ∈ b, BnOk x := fun u hu => kb u (List.mem_cons_of_mem _ hu)
    have uy := ka y (List.mem_cons_self ..)
    have uz := kb z (List.mem_cons_self ..)
    intro x hx
    rcases Int.lt_trichotomy y.1 z.1 with c | c | c
    · rw [mrg_lt c] at hx
      rcases List.mem_cons.1 hx with rfl | hx
      · exact uy
      · exact mrg_bn n a (z :: b) (by simp only [List.length_cons]; omega) ka' kb x hx
    · rw [mrg_eq c] at hx
      rcases List.mem_cons.1 hx with rfl | hx
      · exact ⟨uy.1, wAdd_ok uy.2 uz.2⟩
      · exact mrg_bn n a b (by omega) ka' kb' x hx
    · rw [mrg_gt c] at hx
      rcases List.mem_cons.1 hx with rfl | hx
      · exact uz
      · exact mrg_bn n (y :: a) b (by simp only [List.length_cons]; omega) ka kb' x hx
theorem low_ok {m : Int} {L : List Bn} (h : ∀ x ∈ L, BnOk x) : ∀ x ∈ lowL m L, BnOk x := fun x hx => h x (List.mem_filter.1 hx).1
theorem high_ok {m : Int} {L : List Bn} (h : ∀ x ∈ L, BnOk x) : ∀ x ∈ highL m L, BnOk x := fun x hx => h x (List.mem_filter.1 hx).1

theorem low_mrg {m : Int} : ∀ (n : Nat) (a b : List Bn) (t : Int), a.length + b.length ≤ n → 0 ≤ t → (∀ x ∈ a, BnOk x) → (∀ x ∈ b, BnOk x) → capW (t + sumW (lowL m (mrg a b))) = capW (t + sumW (lowL m a) + sumW (lowL m b))
  | _, [], b, t, _, _, _, _ => by rw [mrg_nil]; simp [lowL, sumW]
  | _, x :: a, [], t, _, _, _, _ => by rw [mrg_nil']; simp [lowL, sumW]
  | 0, x :: a, y :: b, _, h, _, _, _ => by simp at h
  | n + 1, x :: a, y :: b, t, h, ht, ka, kb => by
    simp only [List.length_cons] at h
    have ka' : ∀ x ∈ a, BnOk x := fun u hu => ka u (List.mem_cons_of_mem _ hu)
    have kb' : ∀ x ∈ b, BnOk x := fun u hu => kb u (List.mem_cons_of_mem _ hu)
    have ux := (ka x (List.mem_cons_self ..)).2.1
    have uy := (kb y (List.mem_cons_self ..)).2.1
    rcases Int.lt_trichotomy x.1 y.1 with c | c | c
    · rw [mrg_lt c]
      by_cases k : x.1 ≤ m
      · rw [low_yes k, low_yes k, sumW_cons, sumW_cons, ← Int.add_assoc, low_mrg n a (y :: b) (t + x.2) (by simp only [List.length_cons]; omega) (by omega) ka' kb]
        congr 1; omega
      · rw [low_no (by omega), low_no (show m < x.1 by omega), low_mrg n a (y :: b) t (by simp only [List.length_cons]; omega) ht ka' kb]
    · rw [mrg_eq c]
      by_cases k : x.1 ≤ m
      · rw [low_yes (show (x.1, wAdd x.2 y.2).1 ≤ m from k), low_yes k, low_yes (show y.1 ≤ m by omega), sumW_cons, sumW_cons, sumW_cons]
        have ih := low_mrg (m := m) n a b (t + x.2 + y.2) (by omega) (by omega) ka' kb'
        have hs : 0 ≤ sumW (lowL m (mrg a b)) := sumW_pos (low_ok (mrg_bn _ a b (Nat.le_refl _) ka' kb'))
        show capW (t + (capW (x.2 + y.2) + sumW (lowL m (mrg a b)))) = _
        have e1 : t + (capW (x.2 + y.2) + sumW (lowL m (mrg a b))) = capW (x.2 + y.2) + (t + sumW (lowL m (mrg a b))) := by omega
        rw [e1, cap_cap (by omega) (by omega), show x.2 + y.2 + (t + sumW (lowL m (mrg a b))) = t + x.2 + y.2 + sumW (lowL m (mrg a b)) by omega, ih]
        congr 1; omega
      · rw [low_no (show m < (x.1, wAdd x.2 y.2).1 by show m < x.1; omega), low_no (show m < x.1 by omega), low_no (show m < y.1 by omega), low_mrg n a b t (by omega) ht ka' kb']
    · rw [mrg_gt c]
      by_cases k : y.1 ≤ m
      · rw [low_yes k, low_yes k, sumW_cons, sumW_cons, ← Int.add_assoc, low_mrg n (x :: a) b (t + y.2) (by simp only [List.length_cons]; omega) (by omega) ka kb']
        congr 1; omega
      · rw [low_no (by omega), low_no (show m < y.1 by omega), low_mrg n (x :: a) b t (by simp only [List.length_cons]; omega) ht ka kb']
/-- A list that rises, parted at one of its places. -/
theorem part_rise : ∀ {L : List Bn} {k : Nat} {x : Bn}, Rise L → L[k]? = some x → lowL x.1 L = L.take (k + 1) ∧ highL x.1 L = L.drop (k + 1)
  | [], k, x, _, h => by simp at h
  | y :: r, 0, x, hr, h => by
    obtain rfl : y = x := by simpa using h
    have hc := rise_cons.1 hr
    rw [low_yes (Int.le_refl _), high_no (Int.le_refl _), low_none hc.1, high_all hc.1]
    simp
  | y :: r, k + 1, x, hr, h => by
    have hc := rise_cons.1 hr
    have hx : r[k]? = some x := by simpa using h
    have hlt := hc.1 x (List.mem_of_getElem? hx)
    obtain ⟨h1, h2⟩ := part_rise hc.2 hx
    rw [low_yes (by omega), high_no (by omega), h1, h2]
    simp
theorem keep_col {L : List Bn} (hr : Rise L) (hk : ∀ x ∈ L, BnOk x) (h : 30 < L.length) :
    ∃ m, (∃ y ∈ L, y.1 = m) ∧ keepL L = (m, capW (sumW (lowL m L))) :: highL m L ∧ (highL m L).length = 29 := by
  obtain ⟨x, hx⟩ : ∃ x, L[L.length - 30]? = some x := ⟨L[L.length - 30]'(by omega), List.getElem?_eq_getElem _⟩
  obtain ⟨h1, h2⟩ := part_rise hr hx
  refine ⟨x.1, ⟨x, List.mem_of_getElem? hx, rfl⟩, ?_, by rw [h2, List.length_drop]; omega⟩
  have hd : L.drop (L.length - 30) = x :: L.drop (L.length - 30 + 1) := by
    rw [List.drop_eq_getElem_cons (by omega), (List.getElem?_eq_some_iff.1 hx).2]
  unfold keepL
  rw [if_neg (by omega), hd]
  simp only
  rw [h1, h2]
  have ux := (hk x (List.mem_of_getElem? hx)).2
  have e0 : x.2 = capW x.2 := by unfold capW; unfold U64 at ux; split <;> omega
  have e1 : L.take (L.length - 30 + 1) = L.take (L.length - 30) ++ [x] := by rw [List.take_add_one, hx]; rfl
  rw [e1, sumW_app, sumW_cons, sumW_nil]
  congr 2
  have := foldW_cap (x := x.2) (L := L.take (L.length - 30)) ux.1 (fun y hy => hk y (List.mem_of_mem_take hy))
  rw [← e0] at this
  rw [this]
  congr 1; omega
end Go.Proofs.Ytimocbbaplghoaa
