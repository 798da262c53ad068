/-
 Closed facts of the row FnExactPipeCells.
-/
import Derived.Test.YtmjogablacnlgaaGreatDoorPLP
import Derived.Test.YtmjogablacnlgaaGreatDoorPLQ
import Derived.Test.YtmjogablacnlgaaGreatDoorPLR
import Derived.Test.YtmjogablacnlgaaGreatDoorPLS
import Derived.Carry
import Derived.ChangeOld
import Derived.ChangeSame
import Derived.ChangeVars
import Derived.LaidLaws
import Derived.LaidHandle
import Derived.LaidSub
import Derived.Lay
import Derived.MakeChecks
import Derived.Stop.Joined
import Derived.WalkKit
import Derived.ProofKit
import Derived.OpenShut
namespace Go.Proofs.YtmjogablacnlgaaGreatDoor
set_option linter.unusedVariables false
set_option maxRecDepth 100000
theorem closedPipeCells:joinedFacts Tryz.prog 5 Tryz.f5 Rows.fnExactPipeCellsSpec Rows.fnExactPipeCellsRow=true:=by
 unfold joinedFacts;rw [inPlacePC,unfolPC,recurPC,namedPC]
 kernel_rfl
set_option linter.unusedSimpArgs false
open Go.RowKit
end Go.Proofs.YtmjogablacnlgaaGreatDoor
