/-
  Numbers in digits. Of no program's walk.
-/
import Derived.Test.YtpackbgmilkaeaaGreatDoorProg
import Derived.KernelRfl
import Derived.Test.YtpackbgmilkaeaaGreatDoorKeep
import Derived.Outline
import Derived.WalkKit
import Derived.PlainAid
import Derived.Lib.ItoaNum
import Derived.Lib.ItoaLen
namespace Go.Proofs.YtpackbgmilkaeaaGreatDoor
set_option linter.unusedVariables false
set_option linter.unusedSimpArgs false
open Go.ChangeShapes Go.WideShapes Go.ChangeAt Go.RowKit Go.PlainAid

theorem dec_ten {n : Nat} (h : ¬ n < 10) : Lib.decDigits n = Lib.decDigits (n / 10) ++ [UInt8.ofNat (48 + n % 10)] := by
  rw [Lib.decDigits, dif_neg h]
/-- What is still to be written is n, D stands behind it. -/
def DecR (N m : Nat) (D : List UInt8) : Prop := (m = 0 → D = Lib.decDigits N) ∧ (m ≠ 0 → Lib.decDigits m ++ D = Lib.decDigits N)
theorem decR_step {N m : Nat} {D : List UInt8} (h : DecR N m D) (hm : m ≠ 0) : DecR N (m / 10) (UInt8.ofNat (48 + m % 10) :: D) := by
  have h2 := h.2 hm
  by_cases k : m < 10
  · rw [Lib.decDigits_one k] at h2
    refine ⟨fun _ => by rw [Nat.mod_eq_of_lt k]; exact h2, fun h0 => absurd (Nat.div_eq_of_lt k) h0⟩
  · rw [dec_ten k, List.append_assoc] at h2
    exact ⟨fun h0 => by omega, fun _ => h2⟩
theorem decR_len {N m : Nat} {D : List UInt8} (h : DecR N m D) (hN : (Lib.decDigits N).length ≤ 21) : D.length ≤ 21 := by
  by_cases k : m = 0
  · rw [h.1 k]; exact hN
  · have := congrArg List.length (h.2 k); simp at this; omega
theorem dec_len (N : Nat) (h : N ≤ 9223372036854775807) : (Lib.decDigits N).length ≤ 21 := by
  have := Lib.itoa_length_le (N : Int) (by omega) (by omega)
  have e : Lib.itoa (N : Int) = Lib.decDigits N := by unfold Lib.itoa; rw [if_neg (by omega)]; simp
  rw [e] at this; exact this

theorem ret_str {a b : ByteArray} (h : a = b) : Ending.returned (.string a) = .returned (.string b) := by rw [h]
theorem str_cat (b : UInt8) (D : List UInt8) : (⟨#[b]⟩ : ByteArray) ++ ⟨D.toArray⟩ = ⟨(b :: D).toArray⟩ := by
  apply ByteArray.ext; rw [ByteArray.data_append]; simp

end Go.Proofs.YtpackbgmilkaeaaGreatDoor
