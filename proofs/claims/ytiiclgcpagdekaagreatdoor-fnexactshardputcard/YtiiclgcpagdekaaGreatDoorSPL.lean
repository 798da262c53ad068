/-
 A closed fact of the row FnExactShardPut.
-/
import Derived.Test.YtiiclgcpagdekaaGreatDoorRows
import Derived.JoinedOf
namespace Go.Proofs.YtiiclgcpagdekaaGreatDoor
set_option linter.unusedVariables false
set_option maxRecDepth 100000
theorem closedShardPut:joinedFacts Tryz.prog 3 Tryz.f3 Rows.fnExactShardPutSpec Rows.fnExactShardPutRow=true:=by kernel_rfl
end Go.Proofs.YtiiclgcpagdekaaGreatDoor
