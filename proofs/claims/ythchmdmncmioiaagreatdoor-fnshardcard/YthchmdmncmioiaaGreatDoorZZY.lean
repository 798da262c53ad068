/-
 A closed fact of the row FnShard.
-/
import Derived.Test.YthchmdmncmioiaaGreatDoorRows
import Derived.JoinedOf
namespace Go.Proofs.YthchmdmncmioiaaGreatDoor
set_option linter.unusedVariables false
set_option maxRecDepth 100000
theorem QjM:joinedFacts Tryz.prog 3 Tryz.f3 Rows.fnShardSpec Rows.fnShardRow=true:=by kernel_rfl
end Go.Proofs.YthchmdmncmioiaaGreatDoor
