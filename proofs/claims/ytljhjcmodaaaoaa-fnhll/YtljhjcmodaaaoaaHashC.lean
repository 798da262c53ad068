/-
  Contracts of Hash, of the program and of its model: one number of the text's bytes.
-/
import Derived.Test.YtljhjcmodaaaoaaRows
import Derived.WalkKit
import Derived.ProofKit
import Derived.OpenShut
import Derived.Below
import Derived.WalkSpells
import Derived.PlainAid
import Derived.Outline
namespace Go.Proofs.Ytljhjcmodaaaoaa
open Go.ChangeShapes Go.WideShapes Go.ChangeAt Go.RowKit Go.PlainAid

/-- The hash of the first n bytes. -/
def hx (s : ByteArray) : Nat → Int
  | 0 => 14695981039346656037
  | n + 1 => IntKind.u64.wrap (bits BinOp.xor IntKind.u64 (hx s n) (bt s n) * 1099511628211)
def hashT (s : ByteArray) : Int := hx s s.size
/-- Of whatever text: none of one that is too long. -/
def hashF (s : ByteArray) : Int := if s.size ≤ 20000 then hashT s else 0
theorem hashF_le {s : ByteArray} (h : s.size ≤ 20000) : hashF s = hashT s := if_pos h
theorem hashF_gt {s : ByteArray} (h : ¬ s.size ≤ 20000) : hashF s = 0 := if_neg h
theorem ret_u {a b : Int} (h : a = b) : Ending.returned (.int .u64 a) = .returned (.int .u64 b) := by rw [h]
theorem hx_in (s : ByteArray) : ∀ n, 0 ≤ hx s n ∧ hx s n ≤ 18446744073709551615
  | 0 => by unfold hx; omega
  | n + 1 => by unfold hx; rw [IntKind.wrap_u64]; omega
theorem wrap_bt (s : ByteArray) (k : Nat) : IntKind.u64.wrap (bt s k) = bt s k := by
  have h0 := bt_nonneg s k
  have h1 := bt_le s k
  rw [IntKind.wrap_u64]; omega

set_option maxHeartbeats 1000000 in
theorem c_s_l02Hash (s : ByteArray) (hs : s.size ≤ maxLen) (w : World) :
    Calls Try.prog 46 #[.string s] w fun e w' => e = .returned (.int .u64 (hashT s)) ∧ w' = w := by
  unfold maxLen at hs
  have hbt := get_bt s
  go_enter Try.func46, Try.ntmps46
  go_wp2
  go_loop [3, 4] (fun h i => ∃ k : Nat, k ≤ s.size ∧ i = .int .i64 k ∧ h = .int .u64 (hx s k)) (fun h i => s.size - (intOf i).toNat)
  case atStart => exact ⟨0, Nat.zero_le _, rfl, rfl⟩
  case round =>
    obtain ⟨k, hk, rfl, rfl⟩ := hrel
    by_cases hlt : k < s.size
    · have hwb := wrap_bt s k
      obtain ⟨B, hB⟩ : ∃ B, bt s k = B := ⟨_, rfl⟩
      rw [hB] at hwb
      obtain ⟨H, hH⟩ : ∃ H, hx s k = H := ⟨_, rfl⟩
      have HS : Hid (IntKind.u64.wrap (bits BinOp.xor IntKind.u64 H B * 1099511628211) = hx s (k + 1)) := by rw [← hB, ← hH]; rfl
      go_wp2
      go_round
      case rel => exact ⟨k + 1, by omega, by go_num, by rw [← HS.out]⟩
      case measure => simp [intOf]; omega
    · have e : k = s.size := by omega
      have HB : Hid (hx s k = hashT s) := (by rw [e]; rfl : hx s k = hashT s)
      clear e
      go_wp2
      go_ret
      exact ⟨ret_u HB.out, rfl⟩

theorem c_s_Hash (s : ByteArray) (hs : s.size ≤ maxLen) (w : World) :
    Calls Try.prog 21 #[.string s] w fun e w' => e = .returned (.int .u64 (hashF s)) ∧ w' = w := by
  have hz : s.size ≤ 9223372036854775807 := hs
  by_cases h : s.size ≤ 20000
  · have e1 : ¬ (20000 : Int) < (s.size : Int) := by omega
    have HF : Hid (hashT s = hashF s) := (hashF_le h).symm
    clear h
    go_enter Try.func21, Try.ntmps21
    go_wp2_with (go_at_call 46; refine (c_s_l02Hash _ hs _).mono ?_; rintro e w1 ⟨rfl, rfl⟩)
    go_ret
    exact ⟨ret_u HF.out, rfl⟩
  · have e1 : (20000 : Int) < (s.size : Int) := by omega
    have HF : Hid (0 = hashF s) := (hashF_gt h).symm
    clear h
    go_enter Try.func21, Try.ntmps21
    go_wp2_with (go_at_call 46; refine (c_s_l02Hash _ hs _).mono ?_; rintro e w1 ⟨rfl, rfl⟩)
    go_ret
    exact ⟨ret_u HF.out, rfl⟩
end Go.Proofs.Ytljhjcmodaaaoaa
