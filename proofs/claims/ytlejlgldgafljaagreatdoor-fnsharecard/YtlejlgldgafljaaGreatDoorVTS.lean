/-
 Parts.
-/
import Derived.Test.YtlejlgldgafljaaGreatDoorRows
import Derived.JoinedOf
set_option linter.all false
namespace Go.Proofs.YtlejlgldgafljaaGreatDoor
set_option maxRecDepth 100000
theorem QuW:(Rows.fnShareRow.named == Tryz.prog.varsNamed 4)=true:=by kernel_rfl
end Go.Proofs.YtlejlgldgafljaaGreatDoor
