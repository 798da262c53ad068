/-
 Parts.
-/
import Derived.Test.YtioohanfodmddaaGreatDoorCCD
set_option maxHeartbeats 1000000
set_option linter.all false
namespace Go.Proofs.YtioohanfodmddaaGreatDoor
open Go.ChangeShapes Go.WideShapes Go.ChangeAt Go.RowKit Go.PlainAid Tryz
set_option maxRecDepth 10000
theorem mCo {p:Prop} (h:p:=by
 go_wp2_with fail;refine HC.mono ?_;rintro e w1 ⟨rfl,ab⟩;have ad:=Qaa (Qac ac ab);clear ab HC
 cases h2:csR L <;> (go_wp2;go_ret;exact ⟨Qnl h1 h2,ad⟩)):p:=h
noncomputable def shB (nm:ByteArray) (L:List Ce):Bool:=QaF nm && csR L
variable {L:List Ce}
theorem Qnl {nm:ByteArray} {b c:Bool} (h1:QaF nm=b) (h2:csR L=c):Ending.returned (.bool (b && c))=.returned (.bool (shB nm L)):=by unfold shB;rw [h1,h2]
variable {w:World}
variable {ao:Option Addr}
variable {N ca:Nat}
theorem Qed (nm:ByteArray) (hs:nm.size<=maxLen) (hN:L.length=N) (lN:N<=1048576) (ok:∀ c∈L,AgOk c.g) (sm:∀ c∈L,AgSm c.g) (ss:∀ c∈L,c.s.size<=maxLen) (hm:MX w) (hA:QbG w ao L) :
  Calls prog 95 #[.agg #[.string nm,.slice ao N ca]] w fun e w'=>e=.returned (.bool (shB nm L))/\Bw w w':=by
 have aa:Bw w (w.alloc (.cells #[.string nm,.slice ao N ca] 71)):=bAA;have ac:=Qaa aa;have HC:=Qaa (QhB (ca:=ca) hN lN ok sm ss (hm.past aa) (QaL hA aa));clear hN ok sm ss hm hA aa;go_enter func95,ntmps95;go_wp2_with fail;refine (Qbd nm _ hs).mono ?_;rintro e wz ⟨rfl,ae⟩;obtain rfl:=ae.symm
 cases h1:QaF nm with
 | false=>
  go_wp2;go_ret;exact ⟨Qnl (c:=csR L) h1 rfl,ac⟩
 | true=>
  exact mCo
theorem QhE (nm:ByteArray) (hs:nm.size<=maxLen) (hN:L.length=N) (lN:N<=1048576) (ok:∀ c∈L,AgOk c.g) (sm:∀ c∈L,AgSm c.g) (ss:∀ c∈L,c.s.size<=maxLen) (hA:QbG w ao L) :
  Calls prog 33 #[.agg #[.string nm,.slice ao N ca]] w fun e w'=>e=.returned (.bool (shB nm L))/\Bw w w':=by
 have aa:Bw w (w.alloc (.cells #[.string nm,.slice ao N ca] 71)):=bAA;have ac:=Qaa aa;have HC:=Qaa (Qcz (ca:=ca) hN lN ok sm ss (QaL hA aa));clear hN ok sm ss hA aa;go_enter func33,ntmps33;go_wp2_with fail;refine (QaH nm _ hs).mono ?_;rintro e wz ⟨rfl,ae⟩;obtain rfl:=ae.symm
 cases h1:QaF nm with
 | false=>
  go_wp2;go_ret;exact ⟨Qnl (c:=csR L) h1 rfl,ac⟩
 | true=>
  exact mCo
end Go.Proofs.YtioohanfodmddaaGreatDoor
