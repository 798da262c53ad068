/-
 Closed facts of the row FnExactPipeJoin.
-/
import Derived.Test.YtmjogablacnlgaaGreatDoorRows
import Derived.JoinedOf
namespace Go.Proofs.YtmjogablacnlgaaGreatDoor
set_option linter.unusedVariables false
set_option maxRecDepth 100000
theorem inPlaceJn:(Rows.fnExactPipeJoinRow.inPlace == Tryz.prog.inPlace 6)=true:=by kernel_rfl
end Go.Proofs.YtmjogablacnlgaaGreatDoor
