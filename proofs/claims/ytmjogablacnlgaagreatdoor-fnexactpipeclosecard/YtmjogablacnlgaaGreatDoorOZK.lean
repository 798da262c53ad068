/-
 The bounds of an answer of PipeJoin, PipeLeave.
-/
import Derived.Test.YtmjogablacnlgaaGreatDoorOZI
namespace Go.Proofs.YtmjogablacnlgaaGreatDoor
set_option linter.unusedVariables false
set_option linter.unusedSimpArgs false
open Go.ChangeShapes Go.WideShapes Go.ChangeAt Go.RowKit Go.PlainAid Go.Lib
set_option maxRecDepth 10000
theorem nilBd {M:List Sd} (h:M.map Sd.key=[]):SBd M∧SdsSm M:=by
 have e:M=[]:=List.map_eq_nil_iff.1 h;subst e;exact ⟨⟨by simp,(fun s hs=>by cases hs),(fun s hs=>by cases hs),by unfold totS;omega⟩,⟨by simp,(fun s hs=>by cases hs),(fun s hs=>by cases hs),(fun s hs=>by cases hs)⟩⟩
def PoA (w:World) (R:Pi→List (ByteArray×List (Int×ByteArray×Ag))→List (Int×ByteArray×Ag)→Int→Prop) (e:Ending) (w':World):Prop:=
 ∃ a n c q M d m f C cd,e=.returned (.agg (poArr (.slice a n c) q (.slice d m f) cd))∧R q (M.map Sd.key) (C.map Ce.key) cd∧PoB w' w.heap.size w'.heap.size (.slice a n c) M (.slice d m f) C∧Below w.heap.size w w'
def JnR (S:List Sd) (p:Pi) (mm:ByteArray) (q:Pi) (KM:List (ByteArray×List (Int×ByteArray×Ag))) (KC:List (Int×ByteArray×Ag)) (cd:Int):Prop:=MbR S p mm 7 (inK (S.map Sd.nm) mm) (decide (12≤S.length)) (insT (S.map Sd.nm) mm) q KM cd∧KC=[]
def LeR (S:List Sd) (p:Pi) (mm:ByteArray) (q:Pi) (KM:List (ByteArray×List (Int×ByteArray×Ag))) (KC:List (Int×ByteArray×Ag)) (cd:Int):Prop:=MbR S p mm 6 (!inK (S.map Sd.nm) mm) (decide (S.length=1)) (restK (S.map Sd.nm) mm) q KM cd∧KC=[]
section
variable {w w':World} {S T M:List Sd} {C:List Ce} {p q q':Pi} {mm:ByteArray} {en:Ending} {KM KM':List (ByteArray×List (Int×ByteArray×Ag))} {KC KC':List (Int×ByteArray×Ag)} {cd cd':Int}
theorem nilC (h:C.map Ce.key=[]):CBd C:=by
 have e:C=[]:=List.map_eq_nil_iff.1 h;subst e;exact CBd.of (by simp [ceTot])
end
end Go.Proofs.YtmjogablacnlgaaGreatDoor
