/-
  The contracts of spec.l01Split and spec.l01Digits: a text's pieces between a byte, and the number of its digits.
-/
import Derived.Test.YtljngkjhhkccgaaGreatDoorMathV
import Derived.Test.YtljngkjhhkccgaaGreatDoorSplM
import Derived.Outline
import Derived.WalkKit
namespace Go.Proofs.YtljngkjhhkccgaaGreatDoor
set_option linter.unusedVariables false
set_option linter.unusedSimpArgs false
open Go.ChangeShapes Go.WideShapes Go.ChangeAt Go.RowKit Go.PlainAid

/-- Whether all are digits. -/
def allD (u : ByteArray) : Nat → Bool
  | 0 => true
  | k + 1 => allD u k && isDig (bt u k)
theorem allD_dig {u : ByteArray} : ∀ k, allD u k = true → dig u 0 k
  | 0, _ => fun j hj => absurd hj (by omega)
  | k + 1, h => by
    have h' := Bool.and_eq_true_iff.1 h
    exact dig_succ (allD_dig k h'.1) (by rw [Nat.zero_add]; exact h'.2)
theorem allD_of {u : ByteArray} : ∀ k, dig u 0 k → allD u k = true
  | 0, _ => rfl
  | k + 1, h => by
    have h1 := h k (by omega)
    rw [Nat.zero_add] at h1
    exact Bool.and_eq_true_iff.2 ⟨allD_of k (fun j hj => h j (by omega)), by simp [isDig, h1]⟩
/-- What l01Digits tells. -/
def dgV (u : ByteArray) : Int := if allD u u.size = true then valD u 0 u.size else 0
def dgB (u : ByteArray) : Bool := allD u u.size && decide (0 < u.size)
theorem ret_dg {a c : Int} {p q : Bool} (h : a = c) (k : p = q) : Ending.returned (.tuple #[.int .i64 a, .bool p]) = .returned (.tuple #[.int .i64 c, .bool q]) := by rw [h, k]

set_option maxHeartbeats 2000000 in
theorem c_l01Digits (u : ByteArray) (hu : u.size ≤ 12) (w : World) :
    Calls Tryz.prog 22 #[.string u] w fun e w' => e = .returned (.tuple #[.int .i64 (dgV u), .bool (dgB u)]) ∧ w' = w := by
  have hbt := get_bt u
  go_enter Tryz.func22, Tryz.ntmps22
  go_wp2
  go_loopw [4, 5] (fun n i wr => wr = w ∧ ∃ k : Nat, k ≤ u.size ∧ i = .int .i64 k ∧ n = .int .i64 (valD u 0 k) ∧ dig u 0 k) (fun n i wr => u.size - (intOf i).toNat)
  case atStart => exact ⟨rfl, 0, Nat.zero_le _, rfl, rfl, fun j hj => absurd hj (by omega)⟩
  case round =>
    obtain ⟨rfl, k, hk, rfl, rfl, hdg⟩ := hrel
    have hb0 := bt_nonneg u k
    have hb1 := bt_le u k
    have hvb := valD_17 hdg (by omega)
    obtain ⟨V, hV⟩ : ∃ V, V = valD u 0 k := ⟨_, rfl⟩
    rw [← hV] at hvb
    rw [← hV]
    by_cases hlt : k < u.size
    · have hki : (k : Int) < (u.size : Int) := by omega
      have hcs : (bt u k < 48) ∨ (decide (bt u k < 48) = false ∧ 57 < bt u k) ∨ (decide (bt u k < 48) = false ∧ decide (57 < bt u k) = false ∧ 48 ≤ bt u k ∧ bt u k ≤ 57) := by
        simp only [decide_eq_false_iff_not]; omega
      have HA : Hid (¬ (48 ≤ bt u k ∧ bt u k ≤ 57) → 0 = dgV u ∧ false = dgB u) := by
        intro hn
        have : allD u u.size = false := by
          cases h : allD u u.size with
          | false => rfl
          | true => have := allD_dig _ h k hlt; rw [Nat.zero_add] at this; exact absurd this hn
        unfold dgV dgB; rw [this]; exact ⟨rfl, rfl⟩
      rcases hcs with hd | ⟨hd, hd2⟩ | ⟨hd, hd2, hd3, hd4⟩
      · clear hdg hV
        go_wp2
        go_ret2
        exact ⟨ret_dg (HA.out (by omega)).1 (HA.out (by omega)).2, rfl⟩
      · clear hdg hV
        go_wp2
        go_ret2
        exact ⟨ret_dg (HA.out (by omega)).1 (HA.out (by omega)).2, rfl⟩
      · have HD : Hid (dig u 0 (k + 1)) := dig_succ hdg (by rw [Nat.zero_add]; simp [isDig, hd3, hd4])
        have HV : Hid (valD u 0 (k + 1) = 10 * V + (bt u k - 48)) := (by show valD u 0 k * 10 + (bt u (0 + k) - 48) = _; rw [Nat.zero_add, hV]; omega : valD u 0 (k + 1) = 10 * V + (bt u k - 48))
        clear hdg hV
        have ew1 : IntKind.u8.wrap (bt u k - 48) = bt u k - 48 := IntWalk.u8_in _ ⟨by omega, by omega⟩
        have ew2 : IntKind.i64.wrap (bt u k - 48) = bt u k - 48 := IntWalk.i64_in _ ⟨by omega, by omega⟩
        have ew3 : IntKind.i64.wrap (10 * V) = 10 * V := IntWalk.i64_in _ ⟨by omega, by omega⟩
        have ew4 : IntKind.i64.wrap (10 * V + (bt u k - 48)) = 10 * V + (bt u k - 48) := IntWalk.i64_in _ ⟨by omega, by omega⟩
        go_wp2
        go_roundw
        case rel => exact ⟨trivial, k + 1, by omega, by go_num, by rw [HV.out], HD.out⟩
        case measure => simp [intOf]; omega
    · have e : k = u.size := by omega
      subst e
      have hki : ¬ (u.size : Int) < (u.size : Int) := by omega
      have HD : Hid (V = dgV u ∧ decide (0 < u.size) = dgB u) := (by
        unfold dgV dgB; rw [allD_of _ hdg]; exact ⟨hV, by simp⟩ : V = dgV u ∧ decide (0 < u.size) = dgB u)
      clear hdg hV
      go_wp2
      go_ret2
      exact ⟨ret_dg HD.out.1 HD.out.2, rfl⟩
end Go.Proofs.YtljngkjhhkccgaaGreatDoor
