/-
 Closed facts of the row FnExactPipeJoin.
-/
import Derived.Test.YtmjogablacnlgaaGreatDoorJLP
import Derived.Test.YtmjogablacnlgaaGreatDoorJLQ
import Derived.Test.YtmjogablacnlgaaGreatDoorJLR
import Derived.Test.YtmjogablacnlgaaGreatDoorJLS
import Derived.Carry
import Derived.ChangeOld
import Derived.ChangeSame
import Derived.ChangeVars
import Derived.LaidLaws
import Derived.LaidHandle
import Derived.LaidSub
import Derived.Lay
import Derived.MakeChecks
import Derived.Stop.Joined
import Derived.WalkKit
import Derived.ProofKit
import Derived.OpenShut
namespace Go.Proofs.YtmjogablacnlgaaGreatDoor
set_option linter.unusedVariables false
set_option maxRecDepth 100000
theorem closedPipeJoin:joinedFacts Tryz.prog 6 Tryz.f6 Rows.fnExactPipeJoinSpec Rows.fnExactPipeJoinRow=true:=by
 unfold joinedFacts;rw [inPlaceJn,unfolJn,recurJn,namedJn]
 kernel_rfl
set_option linter.unusedSimpArgs false
open Go.RowKit
end Go.Proofs.YtmjogablacnlgaaGreatDoor
