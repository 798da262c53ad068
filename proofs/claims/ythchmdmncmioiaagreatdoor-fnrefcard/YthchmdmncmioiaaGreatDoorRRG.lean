/-
 A closed fact of the row FnRef.
-/
import Derived.Test.YthchmdmncmioiaaGreatDoorRows
import Derived.JoinedOf
namespace Go.Proofs.YthchmdmncmioiaaGreatDoor
set_option linter.unusedVariables false
set_option maxRecDepth 100000
theorem closedRef:joinedFacts Tryz.prog 5 Tryz.f5 Rows.fnRefSpec Rows.fnRefRow=true:=by kernel_rfl
end Go.Proofs.YthchmdmncmioiaaGreatDoor
