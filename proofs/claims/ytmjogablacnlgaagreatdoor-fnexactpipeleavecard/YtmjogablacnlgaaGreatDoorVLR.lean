/-
 Closed facts of the row FnExactPipeLeave.
-/
import Derived.Test.YtmjogablacnlgaaGreatDoorRows
import Derived.JoinedOf
namespace Go.Proofs.YtmjogablacnlgaaGreatDoor
set_option linter.unusedVariables false
set_option maxRecDepth 100000
theorem recurLv:(Rows.fnExactPipeLeaveRow.recurses == Tryz.prog.recurses 7)=true:=by kernel_rfl
end Go.Proofs.YtmjogablacnlgaaGreatDoor
