/-
  Closed facts of the row FnExactDeskWords.
-/
import Derived.Test.YtpackbgmilkaeaaGreatDoorRows
import Derived.Test.YtpackbgmilkaeaaGreatDoorLDskCa
import Derived.Test.YtpackbgmilkaeaaGreatDoorLDskCb
import Derived.Test.YtpackbgmilkaeaaGreatDoorLDskCc
import Derived.Test.YtpackbgmilkaeaaGreatDoorLDskCd
import Derived.JoinedOf
namespace Go.Proofs.YtpackbgmilkaeaaGreatDoor
set_option linter.unusedVariables false
set_option maxRecDepth 100000
theorem closedDeskWords : joinedFacts Tryz.prog 3 Tryz.f3 Rows.fnExactDeskWordsSpec Rows.fnExactDeskWordsRow = true := by
  unfold joinedFacts
  rw [inPlaceDW, unfolDW, recurDW, namedDW]
  kernel_rfl
end Go.Proofs.YtpackbgmilkaeaaGreatDoor
