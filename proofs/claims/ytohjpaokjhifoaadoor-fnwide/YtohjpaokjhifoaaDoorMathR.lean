/-
  Plain facts: a whole number modulo 2^128, its halves; a text's digits as a number. Of no program.
-/
import Derived.Test.YtohjpaokjhifoaaDoorMathT
import Derived.PlainAid
namespace Go.Proofs.YtohjpaokjhifoaaDoor
set_option linter.unusedVariables false
open Go.RowKit Go.PlainAid

def hiW (V : Int) : Int := wrap64 (V / 18446744073709551616)
def loW (V : Int) : Int := uw V

theorem hiW_in (V : Int) : I64 (hiW V) := w64_in _
theorem loW_in (V : Int) : U64 (loW V) := uw_in _
theorem add_hw (A B : Int) : addH (hiW A) (loW A) (hiW B) (loW B) = hiW (A + B) ∧ addL (loW A) (loW B) = loW (A + B) := by
  unfold addH addL addC hiW loW uw wrap64; omega
theorem of_hw (n : Int) (h : I64 n) : ofH n = hiW n ∧ uw n = loW n := by
  unfold I64 at h; unfold ofH hiW loW uw wrap64; omega
theorem ten_q (V : Int) : 10 * V / 18446744073709551616 = 10 * (V / 18446744073709551616) + V % 18446744073709551616 * 10 / 18446744073709551616 := by omega
theorem ten_hw (V : Int) : wrap64 (wrap64 (hiW V * 10) + wrap64 (mulH (loW V) 10)) = hiW (10 * V) ∧ uw (loW V * 10) = loW (10 * V) := by
  have e := ten_q V
  unfold mulH hiW loW uw; rw [e]
  generalize V / 18446744073709551616 = c
  generalize V % 18446744073709551616 * 10 / 18446744073709551616 = f
  refine ⟨by unfold wrap64; omega, by omega⟩
theorem ten_hw' (V : Int) : wrap64 (IntKind.u64.wrap (IntKind.u64.wrap (IntKind.u64.wrap (hiW V) * 10) + mulH (loW V) 10)) = hiW (10 * V) := by
  simp only [IntKind.wrap_u64]
  have e := ten_q V
  unfold mulH hiW loW uw; rw [e]
  generalize V / 18446744073709551616 = c
  generalize V % 18446744073709551616 * 10 / 18446744073709551616 = f
  unfold wrap64; omega
theorem neg_hw (V : Int) : negH (hiW V) (loW V) = hiW (-V) ∧ negL (loW V) = loW (-V) := by
  unfold negH negL hiW loW uw wrap64
  by_cases k : V % 18446744073709551616 = 0
  · rw [if_pos k]; omega
  · rw [if_neg k]; omega
theorem zero_hw : hiW 0 = 0 ∧ loW 0 = 0 := by unfold hiW loW uw wrap64; omega

/-- The first k bytes as digits, whatever they are. -/
def valB (s : ByteArray) : Nat → Int
  | 0 => 0
  | k + 1 => 10 * valB s k + (bt s k - 48)
end Go.Proofs.YtohjpaokjhifoaaDoor
