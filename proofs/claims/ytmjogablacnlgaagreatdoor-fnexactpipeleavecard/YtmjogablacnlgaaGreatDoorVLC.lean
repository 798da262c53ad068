/-
 Closed facts of the row FnExactPipeLeave.
-/
import Derived.Test.YtmjogablacnlgaaGreatDoorVLP
import Derived.Test.YtmjogablacnlgaaGreatDoorVLQ
import Derived.Test.YtmjogablacnlgaaGreatDoorVLR
import Derived.Test.YtmjogablacnlgaaGreatDoorVLS
import Derived.Carry
import Derived.ChangeOld
import Derived.ChangeSame
import Derived.ChangeVars
import Derived.LaidLaws
import Derived.LaidHandle
import Derived.LaidSub
import Derived.Lay
import Derived.MakeChecks
import Derived.Stop.Joined
import Derived.WalkKit
import Derived.ProofKit
import Derived.OpenShut
namespace Go.Proofs.YtmjogablacnlgaaGreatDoor
set_option linter.unusedVariables false
set_option maxRecDepth 100000
theorem closedPipeLeave:joinedFacts Tryz.prog 7 Tryz.f7 Rows.fnExactPipeLeaveSpec Rows.fnExactPipeLeaveRow=true:=by
 unfold joinedFacts;rw [inPlaceLv,unfolLv,recurLv,namedLv]
 kernel_rfl
set_option linter.unusedSimpArgs false
open Go.RowKit
end Go.Proofs.YtmjogablacnlgaaGreatDoor
