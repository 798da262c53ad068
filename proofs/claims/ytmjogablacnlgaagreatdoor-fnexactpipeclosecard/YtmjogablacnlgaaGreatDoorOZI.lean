/-
 PipeJoin of the model.
-/
import Derived.Test.YtmjogablacnlgaaGreatDoorOZF
import Derived.Test.YtmjogablacnlgaaGreatDoorOZD
namespace Go.Proofs.YtmjogablacnlgaaGreatDoor
set_option linter.unusedVariables false
set_option linter.unusedSimpArgs false
open Go.ChangeShapes Go.WideShapes Go.ChangeAt Go.RowKit Go.PlainAid Go.Lib Go.Maps
set_option maxRecDepth 10000
set_option maxHeartbeats 1000000 in
theorem c_l10Ill (cd:Int) (w:World):Calls Tryz.prog 63 #[.int .i64 cd] w fun e w'=>e=.returned (.agg (poArr (.slice none 0 0) q0 (.slice none 0 0) cd))∧Below w.heap.size w w':=by
 have HB:Hid (∀ o1,Below w.heap.size w (w.alloc o1)):=fun o1=>(Below.refl _ _).alloc (Nat.le_refl _) _;go_enter Tryz.func63,Tryz.ntmps63;go_wp2;exact bodyPost_ret (v:=.agg (poArr (.slice none 0 0) q0 (.slice none 0 0) cd)) (by simp [results,Tryz.results63,go_sem]) rfl ⟨rfl,HB.out _⟩
end Go.Proofs.YtmjogablacnlgaaGreatDoor
