/-
 Closed facts of the row FnExactPipeClose.
-/
import Derived.Test.YtmjogablacnlgaaGreatDoorRows
import Derived.JoinedOf
namespace Go.Proofs.YtmjogablacnlgaaGreatDoor
set_option linter.unusedVariables false
set_option maxRecDepth 100000
theorem recurCo:(Rows.fnExactPipeCloseRow.recurses == Tryz.prog.recurses 8)=true:=by kernel_rfl
end Go.Proofs.YtmjogablacnlgaaGreatDoor
