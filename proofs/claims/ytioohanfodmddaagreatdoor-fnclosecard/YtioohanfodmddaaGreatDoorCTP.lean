/-
 Parts.
-/
import Derived.Test.YtioohanfodmddaaGreatDoorRows
import Derived.JoinedOf
set_option linter.all false
namespace Go.Proofs.YtioohanfodmddaaGreatDoor
set_option maxRecDepth 100000
theorem QqJ:(Rows.fnCloseRow.inPlace == Tryz.prog.inPlace 3)=true:=by kernel_rfl
end Go.Proofs.YtioohanfodmddaaGreatDoor
