/-
 Closed facts of the row FnExactPipeTick.
-/
import Derived.Test.YtmjogablacnlgaaGreatDoorTLP
import Derived.Test.YtmjogablacnlgaaGreatDoorTLQ
import Derived.Test.YtmjogablacnlgaaGreatDoorTLR
import Derived.Test.YtmjogablacnlgaaGreatDoorTLS
import Derived.Carry
import Derived.ChangeOld
import Derived.ChangeSame
import Derived.ChangeVars
import Derived.LaidLaws
import Derived.LaidHandle
import Derived.LaidSub
import Derived.Lay
import Derived.MakeChecks
import Derived.Stop.Joined
import Derived.WalkKit
import Derived.ProofKit
import Derived.OpenShut
namespace Go.Proofs.YtmjogablacnlgaaGreatDoor
set_option linter.unusedVariables false
set_option maxRecDepth 100000
theorem closedPipeTick:joinedFacts Tryz.prog 4 Tryz.f4 Rows.fnExactPipeTickSpec Rows.fnExactPipeTickRow=true:=by
 unfold joinedFacts;rw [inPlacePT,unfolPT,recurPT,namedPT]
 kernel_rfl
set_option linter.unusedSimpArgs false
open Go.RowKit
end Go.Proofs.YtmjogablacnlgaaGreatDoor
