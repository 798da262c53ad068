/-
  The contracts of spec.l01Split and spec.l01Digits: a text's pieces between a byte, and the number of its digits.
-/
import Derived.Test.YtnflhahnbdnaoaaGreatDoorLG
import Derived.Test.YtnflhahnbdnaoaaGreatDoorLD
import Derived.Outline
import Derived.WalkKit
import Derived.Test.YtnflhahnbdnaoaaGreatDoorLH
namespace Go.Proofs.YtnflhahnbdnaoaaGreatDoor
set_option linter.unusedVariables false
set_option linter.unusedSimpArgs false
open Go.ChangeShapes Go.WideShapes Go.ChangeAt Go.RowKit Go.PlainAid

/-- Whether all are digits. -/
def allD (u : ByteArray) : Nat → Bool
  | 0 => true
  | k + 1 => allD u k && isDig (bt u k)
theorem allD_dig {u : ByteArray} : ∀ k, allD u k = true → dig u 0 k
  | 0, _ => fun j hj => absurd hj (by omega)
  | k + 1, h => by
    have h' := Bool.and_eq_true_iff.1 h
    exact dig_succ (allD_dig k h'.1) (by rw [Nat.zero_add]; exact h'.2)
theorem allD_of {u : ByteArray} : ∀ k, dig u 0 k → allD u k = true
  | 0, _ => rfl
  | k + 1, h => by
    have h1 := h k (by omega)
    rw [Nat.zero_add] at h1
    exact Bool.and_eq_true_iff.2 ⟨allD_of k (fun j hj => h j (by omega)), by simp [isDig, h1]⟩
/-- What l01Digits tells. -/
def dgV (u : ByteArray) : Int := if allD u u.size = true then valD u 0 u.size else 0
def dgB (u : ByteArray) : Bool := allD u u.size && decide (0 < u.size)
theorem ret_dg {a c : Int} {p q : Bool} (h : a = c) (k : p = q) : Ending.returned (.tuple #[.int .i64 a, .bool p]) = .returned (.tuple #[.int .i64 c, .bool q]) := by rw [h, k]

set_option maxHeartbeats 2000000 in
theorem c_l01Digits (u : ByteArray) (hu : u.size ≤ 12) (w : World) :
    Calls Tryz.prog 66 #[.string u] w fun e w' => e = .returned (.tuple #[.int .i64 (dgV u), .bool (dgB u)]) ∧ w' = w := by
  have hbt := get_bt u
  go_enter Tryz.func66, Tryz.ntmps66
  go_wp2
  go_loopw [4, 5] (fun n i wr => wr = w ∧ ∃ k : Nat, k ≤ u.size ∧ i = .int .i64 k ∧ n = .int .i64 (valD u 0 k) ∧ dig u 0 k) (fun n i wr => u.size - (Go.RowKit.intOf i).toNat)
  case atStart => exact ⟨rfl, 0, Nat.zero_le _, rfl, rfl, fun j hj => absurd hj (by omega)⟩
  case round =>
    obtain ⟨rfl, k, hk, rfl, rfl, hdg⟩ := hrel
    have hb0 := bt_nonneg u k
    have hb1 := bt_le u k
    have hvb := valD_17 hdg (by omega)
    obtain ⟨V, hV⟩ : ∃ V, V = valD u 0 k := ⟨_, rfl⟩
    rw [← hV] at hvb
    rw [← hV]
    by_cases hlt : k < u.size
    · have hki : (k : Int) < (u.size : Int) := by omega
      have hcs : (bt u k < 48) ∨ (decide (bt u k < 48) = false ∧ 57 < bt u k) ∨ (decide (bt u k < 48) = false ∧ decide (57 < bt u k) = false ∧ 48 ≤ bt u k ∧ bt u k ≤ 57) := by
        simp only [decide_eq_false_iff_not]; omega
      have HA : Hid (¬ (48 ≤ bt u k ∧ bt u k ≤ 57) → 0 = dgV u ∧ false = dgB u) := by
        intro hn
        have : allD u u.size = false := by
          cases h : allD u u.size with
          | false => rfl
          | true => have := allD_dig _ h k hlt; rw [Nat.zero_add] at this; exact absurd this hn
        unfold dgV dgB; rw [this]; exact ⟨rfl, rfl⟩
      rcases hcs with hd | ⟨hd, hd2⟩ | ⟨hd, hd2, hd3, hd4⟩
      · clear hdg hV
        go_wp2
        go_ret2
        exact ⟨ret_dg (HA.out (by omega)).1 (HA.out (by omega)).2, rfl⟩
      · clear hdg hV
        go_wp2
        go_ret2
        exact ⟨ret_dg (HA.out (by omega)).1 (HA.out (by omega)).2, rfl⟩
      · have HD : Hid (dig u 0 (k + 1)) := dig_succ hdg (by rw [Nat.zero_add]; simp [isDig, hd3, hd4])
        have HV : Hid (valD u 0 (k + 1) = 10 * V + (bt u k - 48)) := (by show valD u 0 k * 10 + (bt u (0 + k) - 48) = _; rw [Nat.zero_add, hV]; omega : valD u 0 (k + 1) = 10 * V + (bt u k - 48))
        clear hdg hV
        have ew1 : IntKind.u8.wrap (bt u k - 48) = bt u k - 48 := IntWalk.u8_in _ ⟨by omega, by omega⟩
        have ew2 : IntKind.i64.wrap (bt u k - 48) = bt u k - 48 := IntWalk.i64_in _ ⟨by omega, by omega⟩
        have ew3 : IntKind.i64.wrap (10 * V) = 10 * V := IntWalk.i64_in _ ⟨by omega, by omega⟩
        have ew4 : IntKind.i64.wrap (10 * V + (bt u k - 48)) = 10 * V + (bt u k - 48) := IntWalk.i64_in _ ⟨by omega, by omega⟩
        go_wp2
        go_roundw
        case rel => exact ⟨trivial, k + 1, by omega, by go_num, by rw [HV.out], HD.out⟩
        case measure => simp [Go.RowKit.intOf]; omega
    · have e : k = u.size := by omega
      subst e
      have hki : ¬ (u.size : Int) < (u.size : Int) := by omega
      have HD : Hid (V = dgV u ∧ decide (0 < u.size) = dgB u) := (by
        unfold dgV dgB; rw [allD_of _ hdg]; exact ⟨hV, by simp⟩ : V = dgV u ∧ decide (0 < u.size) = dgB u)
      clear hdg hV
      go_wp2
      go_ret2
      exact ⟨ret_dg HD.out.1 HD.out.2, rfl⟩
end Go.Proofs.YtnflhahnbdnaoaaGreatDoor

/-
  Plain facts: a value's text by its pieces between dots. Of no program but the pieces' words.
-/
namespace Go.Proofs.YtnflhahnbdnaoaaGreatDoor
set_option linter.unusedVariables false
set_option linter.unusedSimpArgs false
open Go.RowKit Go.PlainAid

theorem dig_eq {u t : ByteArray} {o o' : Nat} : ∀ n, (∀ j, j < n → bt u (o + j) = bt t (o' + j)) → (dig u o n ↔ dig t o' n) ∧ valD u o n = valD t o' n
  | 0, _ => ⟨⟨fun _ j hj => absurd hj (by omega), fun _ j hj => absurd hj (by omega)⟩, rfl⟩
  | n + 1, h => by
    have ih := dig_eq n (fun j hj => h j (by omega))
    have hn := h n (by omega)
    refine ⟨⟨fun hd j hj => by rw [← h j hj]; exact hd j hj, fun hd j hj => by rw [h j hj]; exact hd j hj⟩, ?_⟩
    show valD u o n * 10 + (bt u (o + n) - 48) = valD t o' n * 10 + (bt t (o' + n) - 48)
    rw [ih.2, hn]

/-- T is s from place F on. -/
structure Shift (s T : ByteArray) (F : Nat) : Prop where
  size : T.size + F = s.size
  at_ : ∀ j, bt T j = bt s (F + j)
theorem shift_tail (s : ByteArray) : Shift s (tailS s) (fst1 s) := by
  unfold tailS fst1
  cases hn : negB s
  · exact ⟨rfl, fun j => by simp⟩
  · have hp : 0 < s.size := of_decide_eq_true (Bool.and_eq_true_iff.1 hn).1
    refine ⟨by simp; omega, fun j => ?_⟩
    rcases Nat.lt_or_ge (1 + j) s.size with h | h
    · simp only [if_pos]; exact bt_extract s 1 s.size j (Nat.le_refl _) h
    · simp only [if_pos]; rw [bt_end _ (by rw [size_extract]; omega), bt_end _ h]
theorem parse_shift {s T : ByteArray} {F : Nat} (h : Shift s T F) (V : Int) : Parse s F V ↔ Parse T 0 V := by
  have hd : ∀ k, (dig T 0 k ↔ dig s F k) ∧ valD T 0 k = valD s F k := fun k => dig_eq k (fun j _ => by rw [h.at_, Nat.zero_add])
  have hd2 : ∀ k p, (dig T (0 + k + 1) p ↔ dig s (F + k + 1) p) ∧ valD T (0 + k + 1) p = valD s (F + k + 1) p := fun k p => dig_eq p (fun j _ => by rw [h.at_]; congr 1; omega)
  have h0 : bt T 0 = bt s F := h.at_ 0
  have hk : ∀ k, bt T (0 + k) = bt s (F + k) := fun k => by rw [h.at_, Nat.zero_add]
  have hz := h.size
  have key : ∀ k, (Whole T 0 k ∧ ((0 + k = T.size ∧ V = valD T 0 k * 1000000) ∨ ∃ p, 1 ≤ p ∧ p ≤ 6 ∧ 0 + k + 1 + p = T.size ∧ bt T (0 + k) = 46 ∧ dig T (0 + k + 1) p ∧ V = (valD T 0 k * 10 ^ p + valD T (0 + k + 1) p) * 10 ^ (6 - p))) ↔
      (Whole s F k ∧ ((F + k = s.size ∧ V = valD s F k * 1000000) ∨ ∃ p, 1 ≤ p ∧ p ≤ 6 ∧ F + k + 1 + p = s.size ∧ bt s (F + k) = 46 ∧ dig s (F + k + 1) p ∧ V = (valD s F k * 10 ^ p + valD s (F + k + 1) p) * 10 ^ (6 - p))) := by
    intro k
    unfold Whole
    rw [(hd k).2, h0, hk k]
    have e1 : (0 + k = T.size) ↔ (F + k = s.size) := by omega
    have e2 : ∀ p, (0 + k + 1 + p = T.size) ↔ (F + k + 1 + p = s.size) := fun p => by omega
    rw [e1, (hd k).1]
    refine and_congr Iff.rfl (or_congr Iff.rfl (exists_congr fun p => ?_))
    rw [e2 p, (hd2 k p).1, (hd2 k p).2]
  unfold Parse
  exact exists_congr fun k => (key k).symm

/-- What the pieces say of a text T. -/
structure Sp (T u0 u1 : ByteArray) (n : Nat) : Prop where
  len : (splL T 46).length = n
  pos : 1 ≤ n
  at0 : (splL T 46)[0]? = some u0
  at1 : n = 2 → (splL T 46)[1]? = some u1
  le0 : u0.size ≤ T.size
  le1 : u1.size ≤ T.size
  many : 2 < n → ∀ V, ¬ Parse T 0 V
  long : n ≤ 2 → 12 < u0.size → ∀ V, ¬ Parse T 0 V
  lead : n ≤ 2 → 1 < u0.size → bt u0 0 = 48 → ∀ V, ¬ Parse T 0 V
  bad0 : n ≤ 2 → dgB u0 = false → ∀ V, ¬ Parse T 0 V
  long1 : n = 2 → 6 < u1.size → ∀ V, ¬ Parse T 0 V
  bad1 : n = 2 → dgB u1 = false → ∀ V, ¬ Parse T 0 V
  good1 : n = 1 → u0.size ≤ 12 → ¬ (1 < u0.size ∧ bt u0 0 = 48) → dgB u0 = true → Parse T 0 (dgV u0 * 1000000)
  good2 : n = 2 → u0.size ≤ 12 → ¬ (1 < u0.size ∧ bt u0 0 = 48) → dgB u0 = true → u1.size ≤ 6 → dgB u1 = true → Parse T 0 (dgV u0 * 1000000 + dgV u1 * 10 ^ (6 - u1.size))

theorem dgB_true {u : ByteArray} (h : dgB u = true) : dig u 0 u.size ∧ 0 < u.size ∧ dgV u = valD u 0 u.size := by
  have h' := Bool.and_eq_true_iff.1 h
  exact ⟨allD_dig _ h'.1, of_decide_eq_true h'.2, by unfold dgV; rw [if_pos h'.1]⟩
theorem dgB_of {u : ByteArray} (h : dig u 0 u.size) (h1 : 0 < u.size) : dgB u = true := Bool.and_eq_true_iff.2 ⟨allD_of _ h, decide_eq_true h1⟩
theorem pow_num (p : Nat) (h1 : 1 ≤ p) (h6 : p ≤ 6) (a b : Int) : (a * 10 ^ p + b) * 10 ^ (6 - p) = a * 1000000 + b * 10 ^ (6 - p) := by
  rw [Int.add_mul, Int.mul_assoc, ← Int.pow_add, show p + (6 - p) = 6 by omega]; rfl

theorem sp_none {T : ByteArray} (h : ∀ j, j < T.size → ¬ bt T j = 46) : Sp T T T 1 := by
  have e : splL T 46 = [T] := by unfold splL; rw [spl_none _ h]; simp
  have key : ∀ V, Parse T 0 V → T.size ≤ 12 ∧ ¬ (1 < T.size ∧ bt T 0 = 48) ∧ dgB T = true := by
    rintro V ⟨k, hw, ⟨ek, hv⟩ | ⟨p, p1, p2, ek, e46, _⟩⟩
    · have ek' : k = T.size := by omega
      subst ek'
      exact ⟨hw.2.1, hw.2.2.2, dgB_of hw.2.2.1 hw.1⟩
    · exact absurd e46 (h _ (by omega))
  exact { len := by rw [e]; rfl, pos := Nat.le_refl _, at0 := by rw [e]; rfl, at1 := fun h => by omega, le0 := Nat.le_refl _, le1 := Nat.le_refl _, many := fun h => by omega,
          long := fun _ h V hp => by have := (key V hp).1; omega
          lead := fun _ h1 h2 V hp => (key V hp).2.1 ⟨h1, h2⟩
          bad0 := fun _ h1 V hp => by have := (key V hp).2.2; rw [h1] at this; cases this
          long1 := fun h => by omega, bad1 := fun h => by omega
          good1 := fun _ h1 h2 h3 => by
            obtain ⟨hd, hp, hv⟩ := dgB_true h3
            exact ⟨T.size, ⟨hp, h1, hd, h2⟩, .inl ⟨by omega, by rw [hv]⟩⟩
          good2 := fun h => by omega }

theorem sp_one {T : ByteArray} {d : Nat} (hd : bt T d = 46) (hl : d < T.size) (h : ∀ j, j < T.size → j ≠ d → ¬ bt T j = 46) : Sp T (T.extract 0 d) (T.extract (d + 1) T.size) 2 := by
  have e : splL T 46 = [T.extract 0 d, T.extract (d + 1) T.size] := by unfold splL; rw [spl_one hd _ hl h]; rfl
  have z0 : (T.extract 0 d).size = d := by rw [size_extract]; omega
  have z1 : (T.extract (d + 1) T.size).size = T.size - (d + 1) := by rw [size_extract]; omega
  have q0 := dig_eq (u := T.extract 0 d) (t := T) (o := 0) (o' := 0) d (fun j hj => by have := bt_extract T 0 d j (by omega) (by omega); simpa using this)
  have q1 := dig_eq (u := T.extract (d + 1) T.size) (t := T) (o := 0) (o' := 0 + d + 1) (T.size - (d + 1)) (fun j hj => by rw [Nat.zero_add, bt_extract T (d + 1) T.size j (Nat.le_refl _) (by omega)]; congr 1; omega)
  have b0 : 0 < d → bt (T.extract 0 d) 0 = bt T 0 := fun hp => by have := bt_extract T 0 d 0 (by omega) (by omega); simpa using this
  have key : ∀ V, Parse T 0 V → d ≤ 12 ∧ ¬ (1 < d ∧ bt T 0 = 48) ∧ dgB (T.extract 0 d) = true ∧ T.size - (d + 1) ≤ 6 ∧ dgB (T.extract (d + 1) T.size) = true := by
    rintro V ⟨k, hw, ⟨ek, hv⟩ | ⟨p, p1, p2, ek, e46, hdp, _⟩⟩
    · have := hw.2.2.1 d (by omega)
      rw [Nat.zero_add, hd] at this; omega
    · have ekd : k = d := by
        rcases Nat.lt_trichotomy k d with c | c | c
        · have := hdp (d - (k + 1)) (by omega)
          rw [show 0 + k + 1 + (d - (k + 1)) = d by omega, hd] at this; omega
        · exact c
        · have := hw.2.2.1 d c
          rw [Nat.zero_add, hd] at this; omega
      subst ekd
      have ep : p = T.size - (k + 1) := by omega
      subst ep
      exact ⟨hw.2.1, hw.2.2.2, dgB_of (by rw [z0]; exact q0.1.2 hw.2.2.1) (by rw [z0]; exact hw.1), p2, dgB_of (by rw [z1]; exact q1.1.2 hdp) (by rw [z1]; omega)⟩
  exact { len := by rw [e]; rfl, pos := by omega, at0 := by rw [e]; rfl, at1 := fun _ => by rw [e]; rfl, le0 := by omega, le1 := by omega, many := fun h => by omega,
          long := fun _ h V hp => by have := (key V hp).1; omega
          lead := fun _ h1 h2 V hp => (key V hp).2.1 ⟨by omega, by rw [← b0 (by omega)]; exact h2⟩
          bad0 := fun _ h1 V hp => by have := (key V hp).2.2.1; rw [h1] at this; cases this
          long1 := fun _ h V hp => by have := (key V hp).2.2.2.1; omega
          bad1 := fun _ h1 V hp => by have := (key V hp).2.2.2.2; rw [h1] at this; cases this
          good1 := fun h => by omega
          good2 := fun _ h1 h2 h3 h4 h5 => by
            obtain ⟨g0, p0, v0⟩ := dgB_true h3
            obtain ⟨g1, p1, v1⟩ := dgB_true h5
            rw [z0] at g0 p0 v0 h1 h2
            rw [z1] at g1 p1 v1 h4
            refine ⟨d, ⟨p0, h1, q0.1.1 g0, fun h => h2 ⟨h.1, by rw [b0 p0]; exact h.2⟩⟩, .inr ⟨T.size - (d + 1), p1, h4, by omega, by rw [Nat.zero_add]; exact hd, q1.1.1 g1, ?_⟩⟩
            rw [pow_num _ p1 h4, z1, v0, v1, q0.2, q1.2] }

theorem sp_many {T : ByteArray} {d e : Nat} (hd : bt T d = 46) (he : bt T e = 46) (hde : d < e) (hl : e < T.size) : ∃ u0 u1, Sp T u0 u1 (splL T 46).length := by
  have h2 := spl_two hd he hde hl
  have key : ∀ V, ¬ Parse T 0 V := by
    rintro V ⟨k, hw, ⟨ek, hv⟩ | ⟨p, p1, p2, ek, e46, hdp, _⟩⟩
    · have := hw.2.2.1 d (by omega)
      rw [Nat.zero_add, hd] at this; omega
    · have side : ∀ x, x < T.size → bt T x = 46 → x = k := fun x hx hx46 => by
        rcases Nat.lt_trichotomy x k with c | c | c
        · have := hw.2.2.1 x c
          rw [Nat.zero_add, hx46] at this; omega
        · exact c
        · have := hdp (x - (k + 1)) (by omega)
          rw [show 0 + k + 1 + (x - (k + 1)) = x by omega, hx46] at this; omega
      have := side d (by omega) hd
      have := side e (by omega) he
      omega
  have hsz : ∀ k, ∀ u ∈ (spl T 46 k).1, u.size ≤ T.size := by
    intro k
    induction k with
    | zero => intro u hu; cases hu
    | succ k ih =>
      intro u hu
      by_cases hb : bt T k = 46
      · rw [spl_hit hb] at hu
        rcases List.mem_append.1 hu with h | h
        · exact ih u h
        · rw [List.mem_singleton.1 h, size_extract]; omega
      · rw [spl_miss hb] at hu; exact ih u hu
  obtain ⟨u0, hu0⟩ : ∃ u0, (splL T 46)[0]? = some u0 := ⟨_, List.getElem?_eq_getElem (by omega)⟩
  have hu0s : u0.size ≤ T.size := by
    have hm := List.mem_of_getElem? hu0
    unfold splL at hm
    rcases List.mem_append.1 hm with h | h
    · exact hsz _ _ h
    · rw [List.mem_singleton.1 h, size_extract]; omega
  exact ⟨u0, T, { len := rfl, pos := by omega, at0 := hu0, at1 := fun h => by omega, le0 := hu0s, le1 := Nat.le_refl _, many := fun _ => key, long := fun _ _ => key, lead := fun _ _ _ => key, bad0 := fun _ _ => key, long1 := fun _ _ => key, bad1 := fun _ _ => key, good1 := fun h => by omega, good2 := fun h => by omega }⟩

theorem sp_all (T : ByteArray) : ∃ u0 u1 n, Sp T u0 u1 n := by
  by_cases h : ∃ d, d < T.size ∧ bt T d = 46
  · obtain ⟨d, hl, hd⟩ := h
    by_cases h2 : ∃ e, e < T.size ∧ e ≠ d ∧ bt T e = 46
    · obtain ⟨e, hel, hne, he⟩ := h2
      rcases Nat.lt_or_gt_of_ne hne with c | c
      · obtain ⟨u0, u1, hs⟩ := sp_many he hd c hl; exact ⟨u0, u1, _, hs⟩
      · obtain ⟨u0, u1, hs⟩ := sp_many hd he c hel; exact ⟨u0, u1, _, hs⟩
    · exact ⟨_, _, _, sp_one hd hl (fun j hj hne hb => h2 ⟨j, hj, hne, hb⟩)⟩
  · exact ⟨_, _, _, sp_none (fun j hj hb => h ⟨j, hj, hb⟩)⟩

theorem rv_no {s : ByteArray} (hf : fitB s = true) (h : ∀ V, ¬ Parse (tailS s) 0 V) : 0 = rvV s ∧ 3 = rvC s := by
  have := rv_bad hf (fun V hp => h V ((parse_shift (shift_tail s) V).1 hp))
  exact ⟨this.1.symm, this.2.symm⟩
theorem rv_yes {s : ByteArray} {V : Int} (hf : fitB s = true) (h : Parse (tailS s) 0 V) : (if negB s = true then -V else V) = rvV s ∧ 0 = rvC s := by
  have := rv_ok hf ((parse_shift (shift_tail s) V).2 h)
  exact ⟨this.1.symm, this.2.symm⟩
end Go.Proofs.YtnflhahnbdnaoaaGreatDoor
