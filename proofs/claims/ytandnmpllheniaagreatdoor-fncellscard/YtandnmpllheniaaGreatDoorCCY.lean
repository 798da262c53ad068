/-
 Parts.
-/
import Derived.Test.YtandnmpllheniaaGreatDoorRows
import Derived.JoinedOf
namespace Go.Proofs.YtandnmpllheniaaGreatDoor
set_option maxRecDepth 100000
theorem Qkr:joinedFacts Tryz.prog 4 Tryz.f4 Rows.fnCellsSpec Rows.fnCellsRow=true:=by kernel_rfl
end Go.Proofs.YtandnmpllheniaaGreatDoor
