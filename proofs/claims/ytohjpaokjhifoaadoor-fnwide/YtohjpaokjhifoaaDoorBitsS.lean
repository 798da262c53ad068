/-
  The law of a call of math/bits.Sub64 at nought, which the model stands in for.
-/
import Derived.Test.YtohjpaokjhifoaaDoorRows
import Derived.Test.YtohjpaokjhifoaaDoorMath
import Derived.Shelf.Spec.BitsCarry
namespace Go.Proofs.YtohjpaokjhifoaaDoor
open Go.ChangeShapes Go.WideShapes Go.ChangeAt Go.RowKit

/-- What is borrowed for 0 less y less b. -/
def brw (y b : Int) : Int := if 0 < y + b then 1 else 0

theorem c_Sub64 (y b : Int) (hy : U64 y) (hb0 : 0 ≤ b) (hb : b ≤ 1) (w : World) :
    (callFunc 57 #[.int .u64 0, .int .u64 y, .int .u64 b]).run Tryd.prog w =
      .ok (.value (.tuple #[.int .u64 (uw (-y - b)), .int .u64 (brw y b)])) w := by
  unfold U64 at hy
  obtain ⟨y, rfl⟩ := Int.eq_ofNat_of_zero_le hy.1
  obtain ⟨b, rfl⟩ := Int.eq_ofNat_of_zero_le hb0
  have h := run_sub64 (P := Tryd.prog) 0 y b (by omega) w
  have h' : (sub64Entry #[.int .u64 0, .int .u64 y, .int .u64 b]).run Tryd.prog w = _ := h
  rw [run_callFunc_extern Tryd.func57 (by kernel_rfl) (by kernel_rfl) (by kernel_rfl) (e := sub64Entry) (by kernel_rfl)]
  show Result.andThen ((sub64Entry #[.int .u64 0, .int .u64 y, .int .u64 b]).run Tryd.prog w) _ = _
  rw [h']
  simp only [Result.andThen]
  have e1 : (((0 + 18446744073709551616 - y - b) % 18446744073709551616 : Nat) : Int) = uw (-(y : Int) - (b : Int)) := by unfold uw; omega
  have e2 : ((if 0 < y + b then 1 else 0 : Nat) : Int) = brw y b := by
    unfold brw
    by_cases k : 0 < y + b
    · rw [if_pos k, if_pos (by omega)]; rfl
    · rw [if_neg k, if_neg (by omega)]; rfl
  rw [e1, e2]
end Go.Proofs.YtohjpaokjhifoaaDoor
