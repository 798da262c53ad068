/-
  The law of a call of math/bits.Add64, which the model stands in for.
-/
import Derived.Test.YtimocbbaplghoaaRows
import Derived.Test.YtimocbbaplghoaaMath
import Derived.Laws.Externs
namespace Go.Proofs.Ytimocbbaplghoaa
open Go.ChangeShapes Go.WideShapes Go.ChangeAt Go.RowKit

theorem c_Add64 (x y c : Int) (hx : 0 ≤ x) (hy : 0 ≤ y) (hc0 : 0 ≤ c) (hc : c ≤ 1) (w : World) :
    (callFunc 40 #[.int .u64 x, .int .u64 y, .int .u64 c]).run Try.prog w =
      .ok (.value (.tuple #[.int .u64 (uw (x + y + c)), .int .u64 (addC x (y + c))])) w := by
  rw [run_callFunc_extern Try.func40 (by kernel_rfl) (by kernel_rfl) (by kernel_rfl) (e := add64Entry) (by kernel_rfl), run_add64 x y c hx hy hc0 hc]
  simp only [Result.andThen]
  unfold uw addC; rw [← Int.add_assoc]
end Go.Proofs.Ytimocbbaplghoaa
