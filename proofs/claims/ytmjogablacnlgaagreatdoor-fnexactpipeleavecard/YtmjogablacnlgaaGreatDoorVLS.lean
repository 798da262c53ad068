/-
 Closed facts of the row FnExactPipeLeave.
-/
import Derived.Test.YtmjogablacnlgaaGreatDoorRows
import Derived.JoinedOf
namespace Go.Proofs.YtmjogablacnlgaaGreatDoor
set_option linter.unusedVariables false
set_option maxRecDepth 100000
theorem namedLv:(Rows.fnExactPipeLeaveRow.named == Tryz.prog.varsNamed 7)=true:=by kernel_rfl
end Go.Proofs.YtmjogablacnlgaaGreatDoor
