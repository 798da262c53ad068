/-
 Closed facts of the row FnExactPipeTick.
-/
import Derived.Test.YtmjogablacnlgaaGreatDoorRows
import Derived.JoinedOf
namespace Go.Proofs.YtmjogablacnlgaaGreatDoor
set_option linter.unusedVariables false
set_option maxRecDepth 100000
theorem inPlacePT:(Rows.fnExactPipeTickRow.inPlace == Tryz.prog.inPlace 4)=true:=by kernel_rfl
end Go.Proofs.YtmjogablacnlgaaGreatDoor
