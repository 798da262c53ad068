/-
 A closed fact of the row FnExactCellsMerge.
-/
import Derived.Test.YtiiclgcpagdekaaGreatDoorRows
import Derived.JoinedOf
namespace Go.Proofs.YtiiclgcpagdekaaGreatDoor
set_option linter.unusedVariables false
set_option maxRecDepth 100000
theorem closedCellsMerge:joinedFacts Tryz.prog 4 Tryz.f4 Rows.fnExactCellsMergeSpec Rows.fnExactCellsMergeRow=true:=by kernel_rfl
end Go.Proofs.YtiiclgcpagdekaaGreatDoor
