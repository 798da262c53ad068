/-
 What l08Merge of the model does to rows of cells: an Agg laid over, a cell between others.
-/
import Derived.Test.YthchmdmncmioiaaGreatDoorZRC
namespace Go.Proofs.YthchmdmncmioiaaGreatDoor
set_option linter.unusedVariables false
set_option linter.unusedSimpArgs false
open Go.ChangeShapes Go.WideShapes Go.ChangeAt Go.RowKit Go.PlainAid Go.Lib Go.Maps
set_option maxRecDepth 10000
structure CnJ (w wr:World) (a b:List Ce) (k:Nat) (vo:Value) (R:List Ce) (vm:Value) (Mo:List Ce):Prop where
 r:OwnC wr w.heap.size vo R
 m:OwnC wr w.heap.size vm Mo
 ap:ApV vo vm
 o:CesO wr w.heap.size (R ++ Mo.drop k)
 asc:AscC R
 mg:Mgs a (b.take k) R
 q:CnQ R
 ne:vo≠.slice none 0 0
 b:Below w.heap.size w wr
structure InsI (w W:World) (vn:Value) (Fn:List Ce) (vo:Value) (R:List Ce) (vm:Value) (Mo X:List Ce):Prop where
 n:OwnC W w.heap.size vn Fn
 r:OwnC W w.heap.size vo R
 m:OwnC W w.heap.size vm Mo
 a1:ApV vn vo
 a2:ApV vn vm
 a3:ApV vo vm
 o:CesO W w.heap.size X
 b:Below w.heap.size w W
 ne:vn≠.slice none 0 0
def MoA (w:World) (a b:List Ce) (e:Ending) (w':World):Prop:=
 ∃ v ok,e=.returned (.tuple #[v,.bool ok])/\((ok=true/\∃ R,Mgs a b R/\OwnC w' w.heap.size v R/\CesO w' w.heap.size R/\CnQ R/\v≠.slice none 0 0)∨(ok=false/\v=.slice none 0 0/\∃ k c M,b[k]?=some c/\Mgs a (b.take k) M/\MsB M c))/\Below w.heap.size w w'
theorem Mgs.cnq {A B R:List Ce} (h:Mgs A B R) (qa:CnQ A) (qb:CnQ B):CnQ R:=by
 induction h with
 | nil R h=>exact qa.keys h
 | snoc B R R' c h s ih=>
  have hc:c∈B ++ [c]:=by simp
  exact (ih ⟨fun d hd=>qb.ok d (by simp [hd]),fun d hd=>qb.sm d (by simp [hd]),fun d hd=>qb.rt d (by simp [hd]),fun d hd=>qb.ky d (by simp [hd])⟩).step s (qb.ok c hc) (qb.sm c hc) (qb.rt c hc) (qb.ky c hc)
structure MnB (R:List Ce):Prop where
 l:R.length<=1048576
 sm:∀ c∈R,AgSm c.g
 t:1+QqS R<=50000000
end Go.Proofs.YthchmdmncmioiaaGreatDoor
