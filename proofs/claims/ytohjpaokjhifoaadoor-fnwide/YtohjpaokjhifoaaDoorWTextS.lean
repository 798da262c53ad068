/-
  The contract of spec.WideText: a wide number in digits.
-/
import Derived.Test.YtohjpaokjhifoaaDoorL01W
namespace Go.Proofs.YtohjpaokjhifoaaDoor
set_option linter.unusedVariables false
set_option linter.unusedSimpArgs false
open Go.ChangeShapes Go.WideShapes Go.ChangeAt Go.RowKit

/-- The size of a wide number. -/
def mag (a b : Int) : Nat := if a < 0 then (-(a * 18446744073709551616 + b)).toNat else (a * 18446744073709551616 + b).toNat
/-- Its text. -/
def wtxt (a b : Int) : List Int := if a < 0 then 45 :: (decR (mag a b)).reverse else (decR (mag a b)).reverse

theorem mag_lt (a b : Int) (ha : I64 a) (hb : U64 b) : mag a b < 340282366920938463463374607431768211456 := by
  unfold I64 at ha; unfold U64 at hb; unfold mag; split <;> omega
theorem mag_pos (a b : Int) (ha : I64 a) (hb : U64 b) (h : ¬ a < 0) : IntKind.u64.wrap a = hiN (mag a b) ∧ b = loN (mag a b) := by
  unfold I64 at ha; unfold U64 at hb; unfold mag; rw [if_neg h, IntKind.wrap_u64]; unfold hiN loN; omega
theorem mag_neg (a b : Int) (ha : I64 a) (hb : U64 b) (h : a < 0) : IntKind.u64.wrap (negH a b) = hiN (mag a b) ∧ negL b = loN (mag a b) := by
  unfold I64 at ha; unfold U64 at hb; unfold mag; rw [if_pos h, IntKind.wrap_u64]; unfold negH negL hiN loN wrap64 uw
  by_cases k : b = 0
  · rw [if_pos k]; omega
  · rw [if_neg k]; omega

theorem str_cons (n : Int) (l : List Int) : (⟨#[UInt8.ofNat n.toNat]⟩ : ByteArray) ++ strOfNums l = strOfNums (n :: l) := by
  apply ByteArray.ext
  rw [ByteArray.data_append]
  simp [strOfNums]

set_option maxHeartbeats 1000000 in
theorem c_s_WideText (a b : Int) (ha : I64 a) (hb : U64 b) (w : World) :
    Calls Tryd.prog 44 #[.agg #[.int .i64 a, .int .u64 b]] w fun e w' => e = .returned (.string (strOfNums (wtxt a b))) ∧ Below w.heap.size w w' := by
  have HM : Hid (mag a b < 340282366920938463463374607431768211456) := mag_lt a b ha hb
  by_cases h : a < 0
  · obtain ⟨e1, e2⟩ := mag_neg a b ha hb h
    have HC : Hid (∀ w, Calls Tryd.prog 46 #[.agg #[.int .i64 a, .int .u64 b]] w fun e w' => e = .returned (.agg #[.int .i64 (negH a b), .int .u64 (negL b)]) ∧ Below w.heap.size w w') := fun w => c_l01Minus a b ha hb w
    have HT : Hid ((⟨#[45]⟩ : ByteArray) ++ strOfNums (decR (mag a b)).reverse = strOfNums (wtxt a b)) := (by unfold wtxt; rw [if_pos h]; exact str_cons 45 _ : (⟨#[45]⟩ : ByteArray) ++ strOfNums (decR (mag a b)).reverse = strOfNums (wtxt a b))
    have hsz : (strOfNums (decR (mag a b)).reverse).size ≤ 39 := by rw [strOfNums_size, List.length_reverse]; exact (decR_len _ HM.out).2
    clear ha hb
    go_enter Tryd.func44, Tryd.ntmps44
    go_wp2_with (first
      | (go_at_call 46; refine (HC.out _).mono ?_; rintro e w1 ⟨rfl, hb1⟩; have hz1 := hb1.size; simp at hz1)
      | (go_at_call 61; refine (c_l01Wide _ HM.out _).mono ?_; rintro e w2 ⟨rfl, hb2⟩))
    go_ret
    exact ⟨ret_str HT.out, ((((Below.refl _ _).alloc (Nat.le_refl _) _).trans (hb1.mono (by simp))).alloc (by omega) _).trans (hb2.mono (by simp; omega))⟩
  · obtain ⟨e1, e2⟩ := mag_pos a b ha hb h
    have HC : Hid (∀ w, Calls Tryd.prog 61 #[.int .u64 (hiN (mag a b)), .int .u64 b] w fun e w' => e = .returned (.string (strOfNums (decR (mag a b)).reverse)) ∧ Below w.heap.size w w') := by
      have := c_l01Wide (mag a b) HM.out
      rw [← e2] at this
      exact this
    have HT : Hid (wtxt a b = (decR (mag a b)).reverse) := if_neg h
    clear e2 ha hb
    go_enter Tryd.func44, Tryd.ntmps44
    go_wp2_with (go_at_call 61; refine (HC.out _).mono ?_; rintro e w2 ⟨rfl, hb2⟩)
    go_ret
    exact ⟨ret_str (by rw [HT.out]), ((Below.refl _ _).alloc (Nat.le_refl _) _).trans (hb2.mono (by simp))⟩
end Go.Proofs.YtohjpaokjhifoaaDoor
