/-
 Parts.
-/
import Derived.Test.YtdbaabbmcfnjbaaGreatDoorDCD
set_option maxHeartbeats 1000000
set_option linter.all false
namespace Go.Proofs.YtdbaabbmcfnjbaaGreatDoor
open Go.ChangeShapes Go.WideShapes Go.ChangeAt Go.RowKit Go.PlainAid Tryz
set_option maxRecDepth 10000
noncomputable def shB (nm:ByteArray) (L:List Ce):Bool:=QaK nm && csR L
variable {L:List Ce}
theorem QsT {nm:ByteArray} {b c:Bool} (h1:QaK nm=b) (h2:csR L=c):Ending.returned (.bool (b && c))=.returned (.bool (shB nm L)):=by unfold shB;rw [h1,h2]
theorem QgB {w:World} {ao:Option Addr} {N ca:Nat} (nm:ByteArray) (hs:nm.size<=maxLen) (hN:L.length=N) (lN:N<=1048576) (ok:∀ c∈L,AgOk c.g) (sm:∀ c∈L,AgSm c.g) (ss:∀ c∈L,c.s.size<=maxLen) (hA:Qcl w ao L) :
  Calls prog 110 #[.agg #[.string nm,.slice ao N ca]] w fun e w'=>e=.returned (.bool (shB nm L))/\Below w.heap.size w w':=by
 have aa:Below w.heap.size w (w.alloc (.cells #[.string nm,.slice ao N ca] 60)):=(ZZb _ _).alloc (ZZa _) _;have ac:=Qaa aa;have HC:=Qaa (QgA (ca:=ca) hN lN ok sm ss (Qa6 hA aa));clear hN ok sm ss hA aa;go_enter func110,ntmps110;go_wp2_with fail;refine (QaL nm _ hs).mono ?_;rintro e wz ⟨rfl,ad⟩;obtain rfl:=ad.symm
 cases h1:QaK nm with
 | false=>
  go_wp2;go_ret;exact ⟨QsT (c:=csR L) h1 rfl,ac⟩
 | true=>
  go_wp2_with fail;refine HC.out.mono ?_;rintro e w1 ⟨rfl,ab⟩;have ae:=Qaa (Qac ac ab);clear ab HC
  cases h2:csR L <;> (go_wp2;go_ret;exact ⟨QsT h1 h2,ae⟩)
end Go.Proofs.YtdbaabbmcfnjbaaGreatDoor
