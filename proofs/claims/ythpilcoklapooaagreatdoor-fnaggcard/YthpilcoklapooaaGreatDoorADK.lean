/-
 Closed facts of the row FnAgg.
-/
import Derived.Test.YthpilcoklapooaaGreatDoorRows
import Derived.Test.YthpilcoklapooaaGreatDoorChecked
import Derived.JoinedOf
namespace Go.Proofs.YthpilcoklapooaaGreatDoor
set_option linter.unusedVariables false
set_option maxRecDepth 100000
theorem closedAgg:joinedFacts Tryz.prog 3 Tryz.f3 Rows.fnAggSpec Rows.fnAggRow=true:=by kernel_rfl
end Go.Proofs.YthpilcoklapooaaGreatDoor
