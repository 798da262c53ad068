/-
 A closed fact of the row FnExactCellsOf.
-/
import Derived.Test.YtiiclgcpagdekaaGreatDoorRows
import Derived.JoinedOf
namespace Go.Proofs.YtiiclgcpagdekaaGreatDoor
set_option linter.unusedVariables false
set_option maxRecDepth 100000
theorem closedCellsOf:joinedFacts Tryz.prog 5 Tryz.f5 Rows.fnExactCellsOfSpec Rows.fnExactCellsOfRow=true:=by kernel_rfl
end Go.Proofs.YtiiclgcpagdekaaGreatDoor
