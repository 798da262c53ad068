/-
  The contract of spec.l01Dec: a number that is not negative in digits.
-/
import Derived.Test.YtljhjcmodaaaoaaRows
import Derived.Test.YtljhjcmodaaaoaaKeep
import Derived.Outline
import Derived.WalkKit
import Derived.PlainAid
import Derived.Lib.ItoaNum
import Derived.Lib.ItoaLen
import Derived.Test.YtljhjcmodaaaoaaDecM
namespace Go.Proofs.Ytljhjcmodaaaoaa
set_option linter.unusedVariables false
set_option linter.unusedSimpArgs false
open Go.ChangeShapes Go.WideShapes Go.ChangeAt Go.RowKit Go.PlainAid

set_option maxRecDepth 10000 in
set_option maxHeartbeats 1000000 in
theorem c_l01Dec_pos (N : Nat) (hN0 : N ≠ 0) (hN : N ≤ 9223372036854775807) (w : World) :
    Calls Try.prog 57 #[.int .i64 N] w fun e w' => e = .returned (.string ⟨(Lib.decDigits N).toArray⟩) ∧ Below w.heap.size w w' := by
  have hb0 : ((N : Int) == 0) = false := beq_eq_false_iff_ne.2 (by omega)
  have hb1 : decide ((N : Int) < 0) = false := decide_eq_false (by omega)
  go_enter Try.func57, Try.ntmps57
  go_wp2
  go_loopw [0, 4, 5] (fun n o d wr => ∃ (m : Nat) (D : List UInt8), m ≤ N ∧ n = .int .i64 m ∧ o = .string ⟨D.toArray⟩ ∧ DecR N m D ∧ Below w.heap.size w wr) (fun n o d wr => (intOf n).toNat)
  case atStart => exact ⟨N, [], Nat.le_refl _, rfl, rfl, ⟨fun h => absurd h hN0, fun _ => by simp⟩, Below.refl _ _⟩
  case round =>
    obtain ⟨m, D, hm, rfl, rfl, hR, hbel⟩ := hrel
    by_cases k : m = 0
    · subst k
      have HR : Hid (DecR N 0 D) := hR
      clear hR
      go_wp2
      go_ret
      exact ⟨ret_str (by rw [HR.out.1 rfl]), hbel⟩
    · obtain ⟨d, hd⟩ : ∃ d, d = m % 10 := ⟨_, rfl⟩
      obtain ⟨q, hq⟩ : ∃ q, q = m / 10 := ⟨_, rfl⟩
      have HR : Hid (DecR N q (UInt8.ofNat (48 + d) :: D)) := by rw [hd, hq]; exact decR_step hR k
      have hln := decR_len hR (dec_len N hN)
      have e1 : Int.tmod (m : Int) 10 = (d : Int) := by rw [hd]; rfl
      have e2 : Int.tdiv (m : Int) 10 = (q : Int) := by rw [hq]; rfl
      have hk : ((m : Int) != 0) = true := by simp; omega
      have hd9 : d < 10 := by omega
      have hqm : q < m := by omega
      have e3 : decide ((d : Int) < 0) = false := decide_eq_false (by omega)
      have e4 : IntKind.u8.wrap (48 + (d : Int)) = 48 + (d : Int) := IntWalk.u8_in _ ⟨by omega, by omega⟩
      obtain ⟨B, hB⟩ : ∃ B, B = strOfNums [48 + (d : Int)] := ⟨_, rfl⟩
      have kc := run_convert_bytes_arg (P := Try.prog) (wr.alloc (.cells #[.int .u8 (48 + (d : Int))] 5)) 33 5 Try.underlying33 Try.underlying5 wr.heap.size 0 1 1 [48 + (d : Int)] rfl (fun i hi => by
            obtain rfl : i = 0 := by omega
            simp) 9 Try.underlying9
      rw [← hB] at kc
      have hB1 : B.size = 1 := by rw [hB]; rfl
      have HB : Hid (B ++ ⟨D.toArray⟩ = (⟨(UInt8.ofNat (48 + d) :: D).toArray⟩ : ByteArray)) := (by
        rw [hB, ← str_cat]; congr 1; : B ++ ⟨D.toArray⟩ = (⟨(UInt8.ofNat (48 + d) :: D).toArray⟩ : ByteArray))
      have hD : (⟨D.toArray⟩ : ByteArray).size = D.length := rfl
      have HL : Hid (Below w.heap.size w wr) := hbel
      have hz := hbel.size
      clear hR hd hq k hb0 hb1 hB hbel
      go_wp2
      go_roundw
      case rel => exact ⟨q, UInt8.ofNat (48 + d) :: D, by omega, rfl, by rw [HB.out], HR.out, HL.out.alloc (by omega) _⟩
      case measure => simp [intOf]; omega
end Go.Proofs.Ytljhjcmodaaaoaa
