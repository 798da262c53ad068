/-
 Parts.
-/
import Derived.Test.YtlejlgldgafljaaGreatDoorKCD
set_option maxHeartbeats 1000000
set_option linter.all false
namespace Go.Proofs.YtlejlgldgafljaaGreatDoor
open Go.ChangeShapes Go.WideShapes Go.ChangeAt Go.RowKit Go.PlainAid Tryz
set_option maxRecDepth 10000
noncomputable def shB (nm:ByteArray) (L:List Ce):Bool:=QaE nm && csR L
variable {L:List Ce}
theorem Qmh {nm:ByteArray} {b c:Bool} (h1:QaE nm=b) (h2:csR L=c):Ending.returned (.bool (b && c))=.returned (.bool (shB nm L)):=by unfold shB;rw [h1,h2]
variable {w:World}
variable {ao:Option Addr}
variable {N ca:Nat}
theorem Qha (nm:ByteArray) (hs:nm.size<=maxLen) (hN:L.length=N) (lN:N<=1048576) (ok:∀ c∈L,AgOk c.g) (sm:∀ c∈L,AgSm c.g) (ss:∀ c∈L,c.s.size<=maxLen) (hm:MX w) (hA:QbC w ao L) :
  Calls prog 93 #[.agg #[.string nm,.slice ao N ca]] w fun e w'=>e=.returned (.bool (shB nm L))/\Below w.heap.size w w':=by
 have aa:Below w.heap.size w (w.alloc (.cells #[.string nm,.slice ao N ca] 56)):=(ZZb _ _).alloc (ZZa _) _;have ac:=Qaa aa;have HC:=Qaa (QgY (ca:=ca) hN lN ok sm ss (hm.past aa) (QaD hA aa));clear hN ok sm ss hm hA aa;go_enter func93,ntmps93;go_wp2_with fail;refine (Qbg nm _ hs).mono ?_;rintro e wz ⟨rfl,ad⟩;obtain rfl:=ad.symm
 cases h1:QaE nm with
 | false=>
  go_wp2;go_ret;exact ⟨Qmh (c:=csR L) h1 rfl,ac⟩
 | true=>
  go_wp2_with fail;refine HC.out.mono ?_;rintro e w1 ⟨rfl,ab⟩;have ae:=Qaa (Qac ac ab);clear ab HC
  cases h2:csR L <;> (go_wp2;go_ret;exact ⟨Qmh h1 h2,ae⟩)
theorem QgW (nm:ByteArray) (hs:nm.size<=maxLen) (hN:L.length=N) (lN:N<=1048576) (ok:∀ c∈L,AgOk c.g) (sm:∀ c∈L,AgSm c.g) (ss:∀ c∈L,c.s.size<=maxLen) (hA:QbC w ao L) :
  Calls prog 35 #[.agg #[.string nm,.slice ao N ca]] w fun e w'=>e=.returned (.bool (shB nm L))/\Below w.heap.size w w':=by
 have aa:Below w.heap.size w (w.alloc (.cells #[.string nm,.slice ao N ca] 56)):=(ZZb _ _).alloc (ZZa _) _;have ac:=Qaa aa;have HC:=Qaa (QgZ (ca:=ca) hN lN ok sm ss (QaD hA aa));clear hN ok sm ss hA aa;go_enter func35,ntmps35;go_wp2_with fail;refine (QaI nm _ hs).mono ?_;rintro e wz ⟨rfl,ad⟩;obtain rfl:=ad.symm
 cases h1:QaE nm with
 | false=>
  go_wp2;go_ret;exact ⟨Qmh (c:=csR L) h1 rfl,ac⟩
 | true=>
  go_wp2_with fail;refine HC.out.mono ?_;rintro e w1 ⟨rfl,ab⟩;have ae:=Qaa (Qac ac ab);clear ab HC
  cases h2:csR L <;> (go_wp2;go_ret;exact ⟨Qmh h1 h2,ae⟩)
end Go.Proofs.YtlejlgldgafljaaGreatDoor
