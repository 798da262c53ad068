/-
 Parts.
-/
import Derived.Test.YtlejlgldgafljaaGreatDoorRows
import Derived.JoinedOf
set_option linter.all false
namespace Go.Proofs.YtlejlgldgafljaaGreatDoor
set_option maxRecDepth 100000
theorem Qph:(Rows.fnShareRow.inPlace == Tryz.prog.inPlace 4)=true:=by kernel_rfl
end Go.Proofs.YtlejlgldgafljaaGreatDoor
