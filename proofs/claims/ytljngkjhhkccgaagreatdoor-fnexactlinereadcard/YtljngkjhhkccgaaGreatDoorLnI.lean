/-
  Of lines: kindOf, markPlace, whatOf, weightFor of the program; l06Kind, l06Time, l06What of the model.
-/
import Derived.Test.YtljngkjhhkccgaaGreatDoorLnF
import Derived.Test.YtljngkjhhkccgaaGreatDoorReadW
--LVR
namespace Go.Proofs.YtljngkjhhkccgaaGreatDoor
set_option linter.unusedVariables false
set_option linter.unusedSimpArgs false
open Go.ChangeShapes Go.WideShapes Go.ChangeAt Go.RowKit Go.PlainAid
set_option maxRecDepth 10000

/-- The kind that a letter tells. -/
def kndV (t : ByteArray) : Int := if toL t = [99] then 1 else if toL t = [103] then 2 else if toL t = [104] then 3 else if toL t = [115] then 4 else 0
theorem kndV_bd (t : ByteArray) : kndV t = 0 ∨ kndV t = 1 ∨ kndV t = 2 ∨ kndV t = 3 ∨ kndV t = 4 := by
  unfold kndV; repeat' split
  all_goals simp
theorem ix_kind (c : UInt8) : Lib.indexByte [99, 103, 104, 115] c + 1 = kndV ⟨#[c]⟩ := by
  have e : toL ⟨#[c]⟩ = [c] := rfl
  unfold kndV
  rw [e]
  by_cases h1 : c = 99
  · subst h1; decide
  by_cases h2 : c = 103
  · subst h2; decide
  by_cases h3 : c = 104
  · subst h3; decide
  by_cases h4 : c = 115
  · subst h4; decide
  have g1 : ((99 : UInt8) == c) = false := by simpa using fun e => h1 e.symm
  have g2 : ((103 : UInt8) == c) = false := by simpa using fun e => h2 e.symm
  have g3 : ((104 : UInt8) == c) = false := by simpa using fun e => h3 e.symm
  have g4 : ((115 : UInt8) == c) = false := by simpa using fun e => h4 e.symm
  simp [Lib.indexByte, g1, g2, g3, g4, h1, h2, h3, h4]
theorem one_of {t : ByteArray} (h : t.size = 1) : ∃ c : UInt8, t = ⟨#[c]⟩ := by
  have hl : (toL t).length = 1 := by rw [toL_len]; exact h
  obtain ⟨c, hc⟩ := List.length_eq_one_iff.1 hl
  exact ⟨c, toL_inj hc⟩
theorem c_kindOf (t : ByteArray) (hz : t.size ≤ 100000) (w : World) :
    Calls Tryz.prog 26 #[.string t] w fun e w' => e = .returned (.int .i64 (kndV t)) ∧ w' = w := by
  by_cases h : t.size = 1
  · obtain ⟨c, rfl⟩ := one_of h
    have hi : ((⟨#[c]⟩ : ByteArray).size : Int) = 1 := by rw [h]; rfl
    have HX : Hid (Lib.indexByte [99, 103, 104, 115] c + 1 = kndV ⟨#[c]⟩) := ix_kind c
    have hbd := kndV_bd ⟨#[c]⟩
    generalize kndV ⟨#[c]⟩ = kv at HX hbd ⊢
    go_enter Tryz.func26, Tryz.ntmps26
    go_wp2_with (go_at_call 39; refine (Tryz.strings_Index_one _ c _).mono ?_; rintro e w1 ⟨rfl, hw⟩; obtain rfl := hw.symm)
    go_ret
    refine ⟨?_, rfl⟩
    show Ending.returned (.int .i64 (wrap64 (Lib.indexByte [99, 103, 104, 115] c + 1))) = _
    rw [HX.out]
    have hw6 : wrap64 kv = kv := by unfold wrap64; omega
    rw [hw6]
  · have hi : ¬ (t.size : Int) = 1 := by omega
    have HE : Hid (kndV t = 0) := (by
      have g : ∀ c : UInt8, toL t ≠ [c] := fun c e => h (by rw [← toL_len, e]; rfl)
      unfold kndV
      rw [if_neg (g _), if_neg (g _), if_neg (g _), if_neg (g _)] : kndV t = 0)
    go_enter Tryz.func26, Tryz.ntmps26
    go_wp2
    go_ret
    exact ⟨by rw [HE.out]; rfl, rfl⟩
/-- The place of a part's mark, from 1 on. -/
def markN (t : ByteArray) : Nat := if t.size = 0 then 0 else if bt t 0 = 64 then 1 else if bt t 0 = 35 then 2 else if bt t 0 = 84 then 3 else 0
theorem markN_bd (t : ByteArray) : markN t ≤ 3 := by
  unfold markN; repeat' split
  all_goals omega
theorem bt_bd (t : ByteArray) (k : Nat) : 0 ≤ bt t k ∧ bt t k ≤ 255 := by
  unfold bt
  split
  · have := (t[k]).toNat_lt; omega
  · omega
theorem ix_mark {t : ByteArray} (h : ¬ t.size = 0) : Lib.indexByte [64, 35, 84] (bt t 0).toNat.toUInt8 = (markN t : Int) - 1 := by
  obtain ⟨b0, b1⟩ := bt_bd t 0
  unfold markN
  rw [if_neg h]
  by_cases h1 : bt t 0 = 64
  · rw [h1]; decide
  by_cases h2 : bt t 0 = 35
  · rw [h2]; decide
  by_cases h3 : bt t 0 = 84
  · rw [h3]; decide
  rw [if_neg h1, if_neg h2, if_neg h3]
  have g : ∀ d : UInt8, bt t 0 ≠ (d.toNat : Int) → (d == (bt t 0).toNat.toUInt8) = false := fun d hd => by
    simp only [beq_eq_false_iff_ne]
    intro e
    have e2 := congrArg UInt8.toNat e
    have e3 : ((bt t 0).toNat.toUInt8).toNat = (bt t 0).toNat := by
      show (UInt8.ofNat (bt t 0).toNat).toNat = _
      rw [UInt8.toNat_ofNat']; exact Nat.mod_eq_of_lt (by omega)
    rw [e3] at e2; omega
  have g1 := g 64 h1
  have g2 := g 35 h2
  have g3 := g 84 h3
  simp [Lib.indexByte, g1, g2, g3]
theorem c_markPlace (t : ByteArray) (hz : t.size ≤ 100000) (w : World) :
    Calls Tryz.prog 47 #[.string t] w fun e w' => e = .returned (.int .i64 ((markN t : Int) - 1)) ∧ w' = w := by
  have hbt := get_bt t
  by_cases h : t.size = 0
  · have e : t = ByteArray.empty := toL_inj (List.eq_nil_of_length_eq_zero (by rw [toL_len]; exact h))
    subst e
    go_enter Tryz.func47, Tryz.ntmps47
    go_wp2
    go_ret
    exact ⟨rfl, rfl⟩
  · have hi : ¬ (t.size : Int) = 0 := by omega
    have hi2 : (0 : Int) < (t.size : Int) := by omega
    have he : (t.toList == []) = false := by
      cases hq : (t.toList == []) with
      | false => rfl
      | true =>
        have := eq_of_beq hq
        exact absurd (by rw [← toL_len]; unfold toL; rw [← ByteArray.toList_eq]; rw [this]; rfl) h
    have HX := hide (ix_mark h)
    have hbd := markN_bd t
    generalize markN t = m at HX hbd ⊢
    go_enter Tryz.func47, Tryz.ntmps47
    go_wp2_with (go_at_call 64; refine (Tryz.strings_IndexByte _ _ _).mono ?_; rintro e w1 ⟨rfl, hw⟩; obtain rfl := hw.symm)
    go_ret
    exact ⟨by rw [← HX.out]; rfl, rfl⟩
/-- What a line is of: the value, the word, whether it is right. -/
noncomputable def whV (k : Int) (t : ByteArray) : Int := if k = 4 then 0 else rvV t
def whW (k : Int) (t : ByteArray) : ByteArray := if k = 4 then t else ByteArray.empty
noncomputable def whB (k : Int) (t : ByteArray) : Bool := if k = 4 then tagB t else decide (rvC t = 0)
theorem c_whatOf (k : Int) (t : ByteArray) (hz : t.size ≤ 100000) (w : World) :
    Calls Tryz.prog 28 #[.int .i64 k, .string t] w fun e w' => e = .returned (.tuple #[.int .i64 (whV k t), .string (whW k t), .bool (whB k t)]) ∧ Below w.heap.size w w' := by
  have hm : t.size ≤ maxLen := by unfold maxLen; omega
  by_cases h : k = 4
  · have H1 : Hid (whV k t = 0 ∧ whW k t = t ∧ whB k t = tagB t) := (by unfold whV whW whB; rw [if_pos h, if_pos h, if_pos h]; exact ⟨rfl, rfl, rfl⟩ : whV k t = 0 ∧ whW k t = t ∧ whB k t = tagB t)
    go_enter Tryz.func28, Tryz.ntmps28
    go_wp2_with (go_at_call 35; refine (c_i_TagRight _ _ hm).mono ?_; rintro e w1 ⟨rfl, hw⟩; obtain rfl := hw.symm)
    go_ret3
    exact ⟨by rw [H1.out.1, H1.out.2.1, H1.out.2.2]; rfl, Below.refl _ _⟩
  · have H1 : Hid (whV k t = rvV t ∧ whW k t = ByteArray.empty ∧ whB k t = decide (rvC t = 0)) := (by unfold whV whW whB; rw [if_neg h, if_neg h, if_neg h]; exact ⟨rfl, rfl, rfl⟩ : whV k t = rvV t ∧ whW k t = ByteArray.empty ∧ whB k t = decide (rvC t = 0))
    by_cases hc : rvC t = 0
    · have he : errV (rvC t) = .nilIface := by unfold errV; rw [if_pos hc]
      go_enter Tryz.func28, Tryz.ntmps28
      go_wp2_with (go_at_call 40; refine (c_readValueAll _ hm _).mono ?_; rw [he]; rintro e w1 ⟨rfl, hw⟩; obtain rfl := hw.symm)
      go_quiet (fail)
      go_wp2
      go_ret3
      exact ⟨by rw [H1.out.1, H1.out.2.1, H1.out.2.2, decide_eq_true hc]; rfl, ⟨rfl, rfl, rfl, Nat.le_refl _, fun _ _ => rfl⟩⟩
    · have he : errV (rvC t) = .iface 55 (.agg #[.int .i64 (rvC t)]) := by unfold errV; rw [if_neg hc]
      go_enter Tryz.func28, Tryz.ntmps28
      go_wp2_with (go_at_call 40; refine (c_readValueAll _ hm _).mono ?_; rw [he]; rintro e w1 ⟨rfl, hw⟩; obtain rfl := hw.symm)
      go_quiet (fail)
      go_wp2
      go_ret3
      exact ⟨by rw [H1.out.1, H1.out.2.1, H1.out.2.2, decide_eq_false hc]; rfl, ⟨rfl, rfl, rfl, Nat.le_refl _, fun _ _ => rfl⟩⟩
theorem c_kindRightL (k : Int) (w : World) : Calls Tryz.prog 27 #[.int .i64 k] w fun e w' => e = .returned (.bool (decide (1 ≤ k) && decide (k ≤ 4))) ∧ w' = w := by
  by_cases h1 : 1 ≤ k <;> by_cases h2 : k ≤ 4 <;> (go_enter Tryz.func27, Tryz.ntmps27; go_wp2; go_ret; exact ⟨by simp [h1, h2], rfl⟩)
theorem c_rateAllowedL (k : Int) (w : World) : Calls Tryz.prog 41 #[.int .i64 k] w fun e w' => e = .returned (.bool (decide (k = 1) || decide (k = 3))) ∧ w' = w := by
  by_cases h1 : k = 1 <;> by_cases h2 : k = 3 <;> (go_enter Tryz.func41, Tryz.ntmps41; go_wp2; go_ret; exact ⟨by simp [h1, h2], rfl⟩)
/-- A rate that a sample of the kind may have. -/
def raP (k : Int) (r : ByteArray) : Prop := rvC r = 0 ∧ 1 ≤ rvV r ∧ rvV r ≤ 1000000 ∧ (k = 1 ∨ k = 3)
/-- The program's line. -/
def linV (nm wh kd : ByteArray) (rd : Bool) (rt : ByteArray) (tg : Value) (td : Bool) (ti : Int) : Value := .agg #[.string nm, .string wh, .string kd, .bool rd, .string rt, tg, .bool td, .int .i64 ti]
open Classical in
noncomputable def wtV (k : Int) (rd : Bool) (r : ByteArray) : Int := if rd = true then (if raP k r then 1000000 / rvV r else 0) else 1
open Classical in
noncomputable def wtB (k : Int) (rd : Bool) (r : ByteArray) : Bool := if rd = true then (if raP k r then true else false) else true
set_option maxHeartbeats 1000000 in
theorem c_weightFor (k : Int) (nm wh kd : ByteArray) (rd : Bool) (rt : ByteArray) (tg : Value) (td : Bool) (ti : Int) (hz : rt.size ≤ 100000) (w : World) :
    Calls Tryz.prog 29 #[linV nm wh kd rd rt tg td ti, .int .i64 k] w fun e w' => e = .returned (.tuple #[.int .u64 (wtV k rd rt), .bool (wtB k rd rt)]) ∧ Below w.heap.size w w' := by
  have hm : rt.size ≤ maxLen := by unfold maxLen; omega
  unfold linV
  cases rd with
  | false =>
    go_enter Tryz.func29, Tryz.ntmps29
    go_wp2
    go_ret2
    exact ⟨by unfold wtV wtB; rw [if_neg (by simp), if_neg (by simp)]; rfl, (Below.refl _ _).alloc (Nat.le_refl _) _⟩
  | true =>
    have hB : Below w.heap.size w (w.alloc (.cells #[.string nm, .string wh, .string kd, .bool true, .string rt, tg, .bool td, .int .i64 ti] 57)) := (Below.refl _ _).alloc (Nat.le_refl _) _
    have HB := hide hB
    clear hB
    have HF : Hid (¬ raP k rt → wtV k true rt = 0 ∧ wtB k true rt = false) := (fun h => by unfold wtV wtB; rw [if_pos rfl, if_pos rfl, if_neg h, if_neg h]; exact ⟨rfl, rfl⟩ : ¬ raP k rt → wtV k true rt = 0 ∧ wtB k true rt = false)
    by_cases hc : rvC rt = 0
    · have he : errV (rvC rt) = .nilIface := by unfold errV; rw [if_pos hc]
      by_cases h0 : rvV rt ≤ 0
      · obtain ⟨e1, e2⟩ := HF.out (fun h => by have := h.2.1; omega)
        generalize wtV k true rt = a at e1 ⊢
        generalize wtB k true rt = b at e2 ⊢
        subst e1 e2
        go_enter Tryz.func29, Tryz.ntmps29
        go_wp2_with (go_at_call 40; refine (c_readValueAll _ hm _).mono ?_; rw [he]; rintro e w1 ⟨rfl, hw⟩; obtain rfl := hw.symm)
        go_ret2
        exact ⟨rfl, HB.out⟩
      by_cases h6 : 1000000 < rvV rt
      · obtain ⟨e1, e2⟩ := HF.out (fun h => by have := h.2.2.1; omega)
        generalize wtV k true rt = a at e1 ⊢
        generalize wtB k true rt = b at e2 ⊢
        subst e1 e2
        go_enter Tryz.func29, Tryz.ntmps29
        go_wp2_with (go_at_call 40; refine (c_readValueAll _ hm _).mono ?_; rw [he]; rintro e w1 ⟨rfl, hw⟩; obtain rfl := hw.symm)
        go_ret2
        exact ⟨rfl, HB.out⟩
      by_cases hk : k = 1 ∨ k = 3
      · have hk2 : (decide (k = 1) || decide (k = 3)) = true := by rcases hk with h | h <;> simp [h]
        have hr : raP k rt := ⟨hc, by omega, by omega, hk⟩
        have e1 : wtV k true rt = 1000000 / rvV rt := by unfold wtV; rw [if_pos rfl, if_pos hr]
        have e2 : wtB k true rt = true := by unfold wtB; rw [if_pos rfl, if_pos hr]
        have HE := hide e1
        clear e1 hr
        generalize wtB k true rt = b at e2 ⊢
        subst e2
        go_enter Tryz.func29, Tryz.ntmps29
        go_wp2_with (first
          | (go_at_call 40; refine (c_readValueAll _ hm _).mono ?_; rw [he]; rintro e w1 ⟨rfl, hw⟩; obtain rfl := hw.symm)
          | (go_at_call 41; refine (c_rateAllowedL _ _).mono ?_; rw [hk2]; rintro e w1 ⟨rfl, hw⟩; obtain rfl := hw.symm))
        go_ret2
        exact ⟨by rw [HE.out]; rfl, HB.out⟩
      · have hk2 : (decide (k = 1) || decide (k = 3)) = false := by rw [decide_eq_false (fun h => hk (Or.inl h)), decide_eq_false (fun h => hk (Or.inr h))]; rfl
        obtain ⟨e1, e2⟩ := HF.out (fun h => hk h.2.2.2)
        generalize wtV k true rt = a at e1 ⊢
        generalize wtB k true rt = b at e2 ⊢
        subst e1 e2
        go_enter Tryz.func29, Tryz.ntmps29
        go_wp2_with (first
          | (go_at_call 40; refine (c_readValueAll _ hm _).mono ?_; rw [he]; rintro e w1 ⟨rfl, hw⟩; obtain rfl := hw.symm)
          | (go_at_call 41; refine (c_rateAllowedL _ _).mono ?_; rw [hk2]; rintro e w1 ⟨rfl, hw⟩; obtain rfl := hw.symm))
        go_ret2
        exact ⟨rfl, HB.out⟩
    · have he : errV (rvC rt) = .iface 55 (.agg #[.int .i64 (rvC rt)]) := by unfold errV; rw [if_neg hc]
      obtain ⟨e1, e2⟩ := HF.out (fun h => hc h.1)
      generalize wtV k true rt = a at e1 ⊢
      generalize wtB k true rt = b at e2 ⊢
      subst e1 e2
      go_enter Tryz.func29, Tryz.ntmps29
      go_wp2_with (go_at_call 40; refine (c_readValueAll _ hm _).mono ?_; rw [he]; rintro e w1 ⟨rfl, hw⟩; obtain rfl := hw.symm)
      go_ret2
      exact ⟨rfl, HB.out⟩
end Go.Proofs.YtljngkjhhkccgaaGreatDoor
