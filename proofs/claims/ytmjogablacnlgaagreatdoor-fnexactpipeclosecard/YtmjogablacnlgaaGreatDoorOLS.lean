/-
 Closed facts of the row FnExactPipeClose.
-/
import Derived.Test.YtmjogablacnlgaaGreatDoorRows
import Derived.JoinedOf
namespace Go.Proofs.YtmjogablacnlgaaGreatDoor
set_option linter.unusedVariables false
set_option maxRecDepth 100000
theorem namedCo:(Rows.fnExactPipeCloseRow.named == Tryz.prog.varsNamed 8)=true:=by kernel_rfl
end Go.Proofs.YtmjogablacnlgaaGreatDoor
