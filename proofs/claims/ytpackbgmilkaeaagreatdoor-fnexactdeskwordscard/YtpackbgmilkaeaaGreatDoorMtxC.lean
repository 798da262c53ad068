/-
  The texts of marks that the exact laws lay.
-/
import Derived.Test.YtpackbgmilkaeaaGreatDoorDecM
import Derived.Test.YtpackbgmilkaeaaGreatDoorKeep
import Derived.Laws.BytesArg
namespace Go.Proofs.YtpackbgmilkaeaaGreatDoor
set_option linter.unusedVariables false
set_option linter.unusedSimpArgs false
open Go.ChangeShapes Go.WideShapes Go.ChangeAt Go.RowKit Go.PlainAid
set_option maxRecDepth 10000

theorem str_addH {a b : ByteArray} (h : a.size + b.size ≤ 1000000) : Op.stringOp .add a b = pure (.string (a ++ b)) := by
  unfold Op.stringOp
  have : ¬ (((a.size + b.size : Nat) : Int) > IntKind.i64.max) := by
    have e : IntKind.i64.max = 9223372036854775807 := by decide
    rw [e]; omega
  simp only [if_neg this]
def mtx (k : Nat) : ByteArray := ⟨#[109]⟩ ++ ⟨(Lib.decDigits k).toArray⟩
set_option maxRecDepth 10000 in
set_option maxHeartbeats 1000000 in
theorem c_markText (N : Nat) (hN0 : 1 ≤ N) (hN : N ≤ 100000000) (w : World) :
    Calls Tryz.prog 12 #[.int .i64 N] w fun e w' => e = .returned (.string (mtx N)) ∧ Below w.heap.size w w' := by
  have hb1 : ¬ ((N : Int) ≤ 0) := by omega
  go_enter Tryz.func12, Tryz.ntmps12
  go_wp2
  go_loopw [0, 3] (fun n o wr => ∃ (m : Nat) (D : List UInt8), m ≤ N ∧ n = .int .i64 m ∧ o = .string ⟨D.toArray⟩ ∧ DecR N m D ∧ Below w.heap.size w wr) (fun n o wr => (intOf n).toNat)
  case atStart => exact ⟨N, [], Nat.le_refl _, rfl, rfl, ⟨fun h => absurd h (by omega), fun _ => by simp⟩, Below.refl _ _⟩
  case round =>
    obtain ⟨m, D, hm, rfl, rfl, hR, hbel⟩ := hrel
    have hln := decR_len hR (dec_len N (by omega))
    have hD : (⟨D.toArray⟩ : ByteArray).size = D.length := rfl
    by_cases k : m = 0
    · subst k
      have HR : Hid (DecR N 0 D) := hR
      have hadd : Op.stringOp .add ⟨#[109]⟩ ⟨D.toArray⟩ = pure (.string ((⟨#[109]⟩ : ByteArray) ++ ⟨D.toArray⟩)) := str_addH (by rw [hD]; show 1 + _ ≤ _; omega)
      clear hR
      go_wp2
      go_ret
      exact ⟨ret_str (by rw [HR.out.1 rfl]; rfl), hbel⟩
    · obtain ⟨d, hd⟩ : ∃ d, d = m % 10 := ⟨_, rfl⟩
      obtain ⟨q, hq⟩ : ∃ q, q = m / 10 := ⟨_, rfl⟩
      have HR : Hid (DecR N q (UInt8.ofNat (48 + d) :: D)) := by rw [hd, hq]; exact decR_step hR k
      have e1 : Int.tmod (m : Int) 10 = (d : Int) := by rw [hd]; rfl
      have e2 : Int.tdiv (m : Int) 10 = (q : Int) := by rw [hq]; rfl
      have hk : (0 : Int) < (m : Int) := by omega
      have hd9 : d < 10 := by omega
      have hqm : q < m := by omega
      have e4 : IntKind.u8.wrap (48 + (d : Int)) = 48 + (d : Int) := IntWalk.u8_in _ ⟨by omega, by omega⟩
      obtain ⟨B, hB⟩ : ∃ B, B = strOfNums [48 + (d : Int)] := ⟨_, rfl⟩
      have kc := run_convert_bytes_arg (P := Tryz.prog) (wr.alloc (.cells #[.int .u8 (48 + (d : Int))] 5)) 39 5 Tryz.underlying39 Tryz.underlying5 wr.heap.size 0 1 1 [48 + (d : Int)] rfl (fun i hi => by
            obtain rfl : i = 0 := by omega
            simp) 9 Tryz.underlying9
      rw [← hB] at kc
      have hB1 : B.size = 1 := by rw [hB]; rfl
      have HB : Hid (B ++ ⟨D.toArray⟩ = (⟨(UInt8.ofNat (48 + d) :: D).toArray⟩ : ByteArray)) := (by
        rw [hB, ← str_cat]; congr 1; : B ++ ⟨D.toArray⟩ = (⟨(UInt8.ofNat (48 + d) :: D).toArray⟩ : ByteArray))
      have HL : Hid (Below w.heap.size w wr) := hbel
      have hz := hbel.size
      clear hR hd hq k hB hbel
      go_wp2
      go_roundw
      case rel => exact ⟨q, UInt8.ofNat (48 + d) :: D, by omega, rfl, by rw [HB.out], HR.out, HL.out.alloc (by omega) _⟩
      case measure => simp [intOf]; omega
end Go.Proofs.YtpackbgmilkaeaaGreatDoor
