/-
 Parts.
-/
import Derived.Test.YtdbaabbmcfnjbaaGreatDoorRows
import Derived.JoinedOf
set_option linter.all false
namespace Go.Proofs.YtdbaabbmcfnjbaaGreatDoor
set_option maxRecDepth 100000
theorem Qor:(Rows.fnExactDeskFaultRow.inPlace == Tryz.prog.inPlace 3)=true:=by kernel_rfl
theorem QsX:(Rows.fnExactDeskFaultRow.unfollowed == Tryz.prog.unfollowed 3)=true:=by kernel_rfl
theorem QtQ:(Rows.fnExactDeskFaultRow.recurses == Tryz.prog.recurses 3)=true:=by kernel_rfl
theorem QsW:(Rows.fnExactDeskFaultRow.named == Tryz.prog.varsNamed 3)=true:=by kernel_rfl
end Go.Proofs.YtdbaabbmcfnjbaaGreatDoor
