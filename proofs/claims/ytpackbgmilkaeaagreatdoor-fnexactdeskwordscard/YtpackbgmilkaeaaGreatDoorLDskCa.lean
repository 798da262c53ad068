/-
  Closed facts of the row FnExactDeskWords.
-/
import Derived.Test.YtpackbgmilkaeaaGreatDoorRows
import Derived.JoinedOf
namespace Go.Proofs.YtpackbgmilkaeaaGreatDoor
set_option linter.unusedVariables false
set_option maxRecDepth 100000
theorem inPlaceDW : (Rows.fnExactDeskWordsRow.inPlace == Tryz.prog.inPlace 3) = true := by kernel_rfl
end Go.Proofs.YtpackbgmilkaeaaGreatDoor
