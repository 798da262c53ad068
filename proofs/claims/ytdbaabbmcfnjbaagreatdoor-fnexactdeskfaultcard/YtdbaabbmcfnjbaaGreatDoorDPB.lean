/-
 Parts.
-/
import Derived.Test.YtdbaabbmcfnjbaaGreatDoorDRA
import Derived.Maps.Own
import Derived.Maps.OwnOps
import Derived.Maps.Views
import Derived.Maps.Keyed
set_option linter.all false
namespace Go.Proofs.YtdbaabbmcfnjbaaGreatDoor
open Go.ChangeShapes Go.WideShapes Go.ChangeAt Go.RowKit Go.PlainAid Go.Maps
set_option maxRecDepth 10000
def CK (w w':World):Prop:=∀ a v,w.cell? a=some v->w'.cell? a=some v
def MpN (W:World) (b n:Nat) (E:List (ByteArray×Ce)):Prop:=∃ D:DataW Unit,W.ownsMap Tryz.prog 2 (plainElem Tryz.prog 3) b n D/\∀ x:Int,D.atKey (.int .i64 x) (.lit (.int .i64 0))=.lit (.int .i64 (Qg0 E x))
def Qhg (S:List Sd) (k:Nat):Nat:=(fcS (S.take k)).length
theorem Qf9 (S:List Sd):Qhg S 0=0:=by simp [Qhg,fcS]
variable {S:List Sd}
variable {k:Nat}
theorem QjB {s:Sd} (h:S[k]?=some s):Qhg S (k+1)=Qhg S k+s.L.length:=by
 unfold Qhg;rw [List.take_add_one,h,Qh9,List.length_append];simp [fcS]
theorem QpX (h:S.length<=k):Qhg S k=(fcS S).length:=by unfold Qhg;rw [List.take_of_length_le h]
noncomputable def plB (S:List Sd) (cl:Int):Bool:=@decide (PlP (fcS S) cl (QaR (S.map Sd.nm))) (Classical.propDecidable _)
variable {cl:Int}
theorem QlN (h:¬ PlP (fcS S) cl (QaR (S.map Sd.nm))):plB S cl=false:=by unfold plB;exact @ZZg _ (Classical.propDecidable _) h
theorem QdY (h:PlP (fcS S) cl (QaR (S.map Sd.nm))):plB S cl=true:=by unfold plB;exact @ZZh _ (Classical.propDecidable _) h
end Go.Proofs.YtdbaabbmcfnjbaaGreatDoor
