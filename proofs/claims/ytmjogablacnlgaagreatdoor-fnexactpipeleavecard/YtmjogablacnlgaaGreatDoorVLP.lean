/-
 Closed facts of the row FnExactPipeLeave.
-/
import Derived.Test.YtmjogablacnlgaaGreatDoorRows
import Derived.JoinedOf
namespace Go.Proofs.YtmjogablacnlgaaGreatDoor
set_option linter.unusedVariables false
set_option maxRecDepth 100000
theorem inPlaceLv:(Rows.fnExactPipeLeaveRow.inPlace == Tryz.prog.inPlace 7)=true:=by kernel_rfl
end Go.Proofs.YtmjogablacnlgaaGreatDoor
