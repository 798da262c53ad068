/-
  A closed fact of the row FnExactShardTake.
-/
import Derived.Test.YthpilcoklapooaaGreatDoorRows
import Derived.JoinedOf
namespace Go.Proofs.YthpilcoklapooaaGreatDoor
set_option linter.unusedVariables false
set_option maxRecDepth 100000
theorem closedShardTake : joinedFacts Tryz.prog 4 Tryz.f4 Rows.fnExactShardTakeSpec Rows.fnExactShardTakeRow = true := by kernel_rfl
end Go.Proofs.YthpilcoklapooaaGreatDoor
