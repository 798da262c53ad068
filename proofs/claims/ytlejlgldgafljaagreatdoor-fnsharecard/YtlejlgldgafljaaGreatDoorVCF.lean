/-
 Parts.
-/
import Derived.Test.YtlejlgldgafljaaGreatDoorVCD
set_option maxHeartbeats 1000000
set_option linter.all false
namespace Go.Proofs.YtlejlgldgafljaaGreatDoor
open Go.ChangeShapes Go.WideShapes Go.ChangeAt Go.RowKit Go.PlainAid Tryz
set_option maxRecDepth 10000
noncomputable def shB (nm:ByteArray) (L:List Ce):Bool:=QaB nm && csR L
variable {L:List Ce}
theorem Qml {nm:ByteArray} {b c:Bool} (h1:QaB nm=b) (h2:csR L=c):Ending.returned (.bool (b && c))=.returned (.bool (shB nm L)):=by unfold shB;rw [h1,h2]
variable {w:World}
variable {ao:Option Addr}
variable {N ca:Nat}
theorem Qhz (nm:ByteArray) (hs:nm.size<=maxLen) (hN:L.length=N) (lN:N<=1048576) (ok:∀ c∈L,AgOk c.g) (sm:∀ c∈L,AgSm c.g) (ss:∀ c∈L,c.s.size<=maxLen) (hm:MX w) (hA:QbV w ao L) :
  Calls prog 93 #[.agg #[.string nm,.slice ao N ca]] w fun e w'=>e=.returned (.bool (shB nm L))/\Bw w w':=by
 have aa:Bw w (w.alloc (.cells #[.string nm,.slice ao N ca] 56)):=bA;have ab:=Qaa aa;have HC:=Qaa (QhB (ca:=ca) hN lN ok sm ss (hm.past aa) (QaP hA aa));clear hN ok sm ss hm hA aa;go_enter func93,ntmps93;go_wp2_with fail;refine (Qa9 nm _ hs).mono ?_;rintro e wz ⟨rfl,ad⟩;obtain rfl:=ad.symm
 cases h1:QaB nm with
 | false=>
  go_wp2;go_ret;exact ⟨Qml (c:=csR L) h1 rfl,ab⟩
 | true=>
  go_wp2_with fail;refine HC.mono ?_;rintro e w1 ⟨rfl,ac⟩;have ae:=Qaa (Qac ab ac);clear ac HC
  cases h2:csR L <;> (go_wp2;go_ret;exact ⟨Qml h1 h2,ae⟩)
theorem QhF (nm:ByteArray) (hs:nm.size<=maxLen) (hN:L.length=N) (lN:N<=1048576) (ok:∀ c∈L,AgOk c.g) (sm:∀ c∈L,AgSm c.g) (ss:∀ c∈L,c.s.size<=maxLen) (hA:QbV w ao L) :
  Calls prog 35 #[.agg #[.string nm,.slice ao N ca]] w fun e w'=>e=.returned (.bool (shB nm L))/\Bw w w':=by
 have aa:Bw w (w.alloc (.cells #[.string nm,.slice ao N ca] 56)):=bA;have ab:=Qaa aa;have HC:=Qaa (Qhw (ca:=ca) hN lN ok sm ss (QaP hA aa));clear hN ok sm ss hA aa;go_enter func35,ntmps35;go_wp2_with fail;refine (QaH nm _ hs).mono ?_;rintro e wz ⟨rfl,ad⟩;obtain rfl:=ad.symm
 cases h1:QaB nm with
 | false=>
  go_wp2;go_ret;exact ⟨Qml (c:=csR L) h1 rfl,ab⟩
 | true=>
  go_wp2_with fail;refine HC.mono ?_;rintro e w1 ⟨rfl,ac⟩;have ae:=Qaa (Qac ab ac);clear ac HC
  cases h2:csR L <;> (go_wp2;go_ret;exact ⟨Qml h1 h2,ae⟩)
end Go.Proofs.YtlejlgldgafljaaGreatDoor
