/-
  Of the model's lines: l06Kind, l06Time, l06Ill.
-/
import Derived.Test.YtljngkjhhkccgaaGreatDoorLnL
import Derived.Test.YtljngkjhhkccgaaGreatDoorLValueReadC
namespace Go.Proofs.YtljngkjhhkccgaaGreatDoor
set_option linter.unusedVariables false
set_option linter.unusedSimpArgs false
open Go.ChangeShapes Go.WideShapes Go.ChangeAt Go.RowKit Go.PlainAid
set_option maxRecDepth 10000

theorem str_is (t : ByteArray) (l : List UInt8) : (t.toList == l) = decide (toL t = l) := by
  rw [ByteArray.toList_eq]
  by_cases h : toL t = l
  · rw [decide_eq_true h]; have : t.data.toList = l := h; rw [this]; simp
  · rw [decide_eq_false h]
    cases e : (t.data.toList == l) with
    | false => rfl
    | true => exact absurd (eq_of_beq e) h
theorem c_l06Kind (t : ByteArray) (w : World) :
    Calls Tryz.prog 11 #[.string t] w fun e w' => e = .returned (.int .i64 (kndV t)) ∧ w' = w := by
  have h1 := str_is t [99]
  have h2 := str_is t [103]
  have h3 := str_is t [104]
  have h4 := str_is t [115]
  have HK : Hid (kndV t = if toL t = [99] then 1 else if toL t = [103] then 2 else if toL t = [104] then 3 else if toL t = [115] then 4 else 0) := (rfl : kndV t = _)
  by_cases k1 : toL t = [99]
  · rw [decide_eq_true k1] at h1
    go_enter Tryz.func11, Tryz.ntmps11
    go_wp2
    go_ret
    exact ⟨by rw [HK.out, if_pos k1]; rfl, rfl⟩
  rw [decide_eq_false k1] at h1
  by_cases k2 : toL t = [103]
  · rw [decide_eq_true k2] at h2
    go_enter Tryz.func11, Tryz.ntmps11
    go_wp2
    go_ret
    exact ⟨by rw [HK.out, if_neg k1, if_pos k2]; rfl, rfl⟩
  rw [decide_eq_false k2] at h2
  by_cases k3 : toL t = [104]
  · rw [decide_eq_true k3] at h3
    go_enter Tryz.func11, Tryz.ntmps11
    go_wp2
    go_ret
    exact ⟨by rw [HK.out, if_neg k1, if_neg k2, if_pos k3]; rfl, rfl⟩
  rw [decide_eq_false k3] at h3
  by_cases k4 : toL t = [115]
  · rw [decide_eq_true k4] at h4
    go_enter Tryz.func11, Tryz.ntmps11
    go_wp2
    go_ret
    exact ⟨by rw [HK.out, if_neg k1, if_neg k2, if_neg k3, if_pos k4]; rfl, rfl⟩
  rw [decide_eq_false k4] at h4
  go_enter Tryz.func11, Tryz.ntmps11
  go_wp2
  go_ret
  exact ⟨by rw [HK.out, if_neg k1, if_neg k2, if_neg k3, if_neg k4]; rfl, rfl⟩
theorem bt_get {u : ByteArray} {k : Nat} (hk : k < (toL u).length) : bt u k = (((toL u)[k]).toNat : Int) := by
  rw [bt_toL, List.getElem?_eq_getElem hk]; rfl
theorem allD_take (u : ByteArray) : ∀ k, k ≤ (toL u).length → (allD u k = true ↔ tlD ((toL u).take k))
  | 0, _ => ⟨fun _ x hx => by simp at hx, fun _ => rfl⟩
  | k + 1, h => by
    have ih := allD_take u k (by omega)
    have hk : k < (toL u).length := by omega
    unfold allD
    rw [Bool.and_eq_true, ih, List.take_succ_eq_append_getElem hk, bt_get hk]
    constructor
    · rintro ⟨h1, h2⟩ x hx
      rcases List.mem_append.1 hx with hx | hx
      · exact h1 x hx
      · rw [List.mem_singleton.1 hx]; have := isDig_t h2; omega
    · intro h1
      refine ⟨fun x hx => h1 x (List.mem_append_left _ hx), ?_⟩
      have := h1 _ (List.mem_append_right _ (List.mem_singleton.2 rfl))
      unfold isDig
      rw [decide_eq_true (by omega), decide_eq_true (by omega)]; rfl
theorem valD_take (u : ByteArray) : ∀ k, k ≤ (toL u).length → tlD ((toL u).take k) → valD u 0 k = (tlF 0 ((toL u).take k) : Nat)
  | 0, _, _ => rfl
  | k + 1, h, hd => by
    have hk : k < (toL u).length := by omega
    rw [List.take_succ_eq_append_getElem hk] at hd ⊢
    have ih := valD_take u k (by omega) (fun x hx => hd x (List.mem_append_left _ hx))
    have hx := hd _ (List.mem_append_right _ (List.mem_singleton.2 rfl))
    rw [tlF_snoc]
    unfold valD
    rw [ih, Nat.zero_add, bt_get hk]
    omega
theorem allD_iff (u : ByteArray) : allD u u.size = true ↔ tlD (toL u) := by
  have := allD_take u u.size (by rw [toL_len]; exact Nat.le_refl _)
  rwa [List.take_of_length_le (by rw [toL_len]; exact Nat.le_refl _)] at this
theorem valD_eq {u : ByteArray} (h : tlD (toL u)) : valD u 0 u.size = (tlF 0 (toL u) : Nat) := by
  have e : (toL u).take u.size = toL u := List.take_of_length_le (by rw [toL_len]; exact Nat.le_refl _)
  have := valD_take u u.size (by rw [toL_len]; exact Nat.le_refl _) (by rw [e]; exact h)
  rwa [e] at this
theorem timO_no {t : ByteArray} (h : ¬ ∃ n, TimP t n) : timO t = none := by
  cases e : timO t with
  | none => rfl
  | some n => exact absurd ⟨n, timO_iff.1 e⟩ h
theorem c_l06Ill (c : Int) (w : World) :
    Calls Tryz.prog 7 #[.int .i64 c] w fun e w' => e = .returned (outL (illS c)) ∧ Below w.heap.size w w' := by
  go_enter Tryz.func7, Tryz.ntmps7
  go_wp2
  refine bodyPost_ret (v := .agg #[.int .i64 0, .string ⟨#[]⟩, .int .i64 0, .string ⟨#[]⟩, .int .u64 0, .bool false, .int .i64 0, .int .i64 c]) (by simp [results, Tryz.results7, go_sem]) rfl ?_
  exact ⟨rfl, (Below.refl _ _).alloc (Nat.le_refl _) _⟩
set_option maxHeartbeats 1000000 in
theorem c_l06Time (t : ByteArray) (hz : t.size ≤ 100000) (w : World) :
    Calls Tryz.prog 19 #[.string t] w fun e w' => ∃ n, e = .returned (.tuple #[.int .i64 n, .bool (timO t).isSome]) ∧ (∀ m, timO t = some m → n = m) ∧ w' = w := by
  have hbt := get_bt t
  have HSp := hide (TimP.spec (t := t))
  by_cases h0 : t.size < 1
  · have h0i : (t.size : Int) < 1 := by omega
    have HE : Hid (timO t = none) := timO_no (fun h => by have := (HSp.out.1 h).1; omega)
    go_enter Tryz.func19, Tryz.ntmps19
    go_wp2
    go_ret2
    exact ⟨0, by rw [HE.out]; rfl, (fun m h => by rw [HE.out] at h; cases h), rfl⟩
  have h0i : ¬ (t.size : Int) < 1 := by omega
  by_cases h1 : 10 < t.size
  · have h1i : (10 : Int) < (t.size : Int) := by omega
    have HE : Hid (timO t = none) := timO_no (fun h => by have := (HSp.out.1 h).2.1; omega)
    go_enter Tryz.func19, Tryz.ntmps19
    go_wp2
    go_ret2
    exact ⟨0, by rw [HE.out]; rfl, (fun m h => by rw [HE.out] at h; cases h), rfl⟩
  have h1i : ¬ (10 : Int) < (t.size : Int) := by omega
  have h0j : (0 : Int) < (t.size : Int) := by omega
  by_cases h2 : 1 < t.size ∧ bt t 0 = 48
  · have h2i : (1 : Int) < (t.size : Int) := by omega
    have h2b := h2.2
    have HE : Hid (timO t = none) := timO_no (fun h => absurd h2.2 ((HSp.out.1 h).2.2.1 h2.1))
    go_enter Tryz.func19, Tryz.ntmps19
    go_wp2
    go_ret2
    exact ⟨0, by rw [HE.out]; rfl, (fun m h => by rw [HE.out] at h; cases h), rfl⟩
  have HV : Hid (timO t = if dgB t = true ∧ dgV t ≤ 1000000000 then some (dgV t).toNat else none) := (by
    by_cases hd : dgB t = true ∧ dgV t ≤ 1000000000
    · rw [if_pos hd]
      obtain ⟨d1, d2⟩ := hd
      unfold dgB at d1
      rw [Bool.and_eq_true] at d1
      have hal := (allD_iff t).1 d1.1
      unfold dgV at d2 ⊢
      rw [if_pos d1.1, valD_eq hal] at d2 ⊢
      have hs := HSp.out.2 ⟨by omega, by omega, fun hx hy => h2 ⟨hx, hy⟩, hal, by omega⟩
      obtain ⟨n, hn⟩ := hs
      rw [timO_iff.2 hn]
      have e := (dec_digs n).2.1
      rw [← hn.1] at e
      rw [e]; simp
    · rw [if_neg hd]
      refine timO_no (fun h => hd ?_)
      obtain ⟨s1, s2, s3, s4, s5⟩ := HSp.out.1 h
      have ha := (allD_iff t).2 s4
      refine ⟨?_, ?_⟩
      · unfold dgB; rw [ha, decide_eq_true (by omega : 0 < t.size)]; rfl
      · unfold dgV; rw [if_pos ha, valD_eq s4]; omega : timO t = _)
  have hnn : dgB t = true → 0 ≤ dgV t := fun hb => by
    unfold dgB at hb
    rw [Bool.and_eq_true] at hb
    unfold dgV
    rw [if_pos hb.1, valD_eq ((allD_iff t).1 hb.1)]; omega
  have HN := hide hnn
  clear hnn
  have hcase : (¬ (1 : Int) < (t.size : Int)) ∨ ((1 : Int) < (t.size : Int) ∧ ¬ bt t 0 = 48) := by
    by_cases hx : 1 < t.size
    · exact Or.inr ⟨by omega, fun hy => h2 ⟨hx, hy⟩⟩
    · exact Or.inl (by omega)
  have fin : ∀ b : Bool, b = (dgB t && decide (dgV t ≤ 1000000000)) → b = (timO t).isSome ∧ (∀ m, timO t = some m → dgV t = m) := fun b hb => by
    rw [HV.out]
    by_cases hd : dgB t = true ∧ dgV t ≤ 1000000000
    · rw [if_pos hd, hb, hd.1, decide_eq_true hd.2]
      exact ⟨rfl, fun m h => by cases h; have := HN.out hd.1; omega⟩
    · rw [if_neg hd, hb]
      refine ⟨?_, fun m h => by cases h⟩
      cases hg : dgB t with
      | false => rfl
      | true => rw [decide_eq_false (fun h => hd ⟨hg, h⟩)]; rfl
  have HF := hide fin
  clear fin HV HN HSp h2
  cases hg : dgB t with
  | false =>
    rcases hcase with hc | ⟨hc, hc2⟩
    all_goals
      go_enter Tryz.func19, Tryz.ntmps19
      go_wp2_with (go_at_call 22; refine (c_l01Digits t (by omega) _).mono ?_; rw [hg]; rintro e w1 ⟨rfl, hw⟩; obtain rfl := hw.symm)
      go_ret2
      exact ⟨dgV t, by rw [← (HF.out false (by rw [hg]; rfl)).1]; rfl, (HF.out false (by rw [hg]; rfl)).2, rfl⟩
  | true =>
    rcases hcase with hc | ⟨hc, hc2⟩
    all_goals
      go_enter Tryz.func19, Tryz.ntmps19
      go_wp2_with (go_at_call 22; refine (c_l01Digits t (by omega) _).mono ?_; rw [hg]; rintro e w1 ⟨rfl, hw⟩; obtain rfl := hw.symm)
      go_ret2
      exact ⟨dgV t, by rw [← (HF.out (decide (dgV t ≤ 1000000000)) (by rw [hg]; rfl)).1]; rfl, (HF.out (decide (dgV t ≤ 1000000000)) (by rw [hg]; rfl)).2, rfl⟩
end Go.Proofs.YtljngkjhhkccgaaGreatDoor
