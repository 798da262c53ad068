/-
 copyPipe of the program.
-/
import Derived.Test.YtmjogablacnlgaaGreatDoorVYN
import Derived.Test.YtmjogablacnlgaaGreatDoorVYM
namespace Go.Proofs.YtmjogablacnlgaaGreatDoor
set_option linter.unusedVariables false
set_option linter.unusedSimpArgs false
open Go.ChangeShapes Go.WideShapes Go.ChangeAt Go.RowKit Go.PlainAid Go.Lib
set_option maxRecDepth 10000
structure CqI (w wr:World) (S:List Sd) (p:Pi) (k:Nat) (v:Value) (M:List Sd):Prop where
 x0:wr.heap[w.heap.size]?=some (.cells (piArr v p) 29 (0,0))
 x1:wr.heap[w.heap.size+1]?=some (.cells zeroPi 29 (0,0))
 r:OwnD wr (w.heap.size+1+1) v M
 o:LvO wr (w.heap.size+1+1) (M.take k)
 dr:M.drop k=S.drop k
 ky:M.map Sd.key=S.map Sd.key
 b:Below w.heap.size w wr
def TkQ (w:World) (L mb:Nat) (p:Pi) (n:Int) (w':World):Prop:=∃ q:Pi,w'.heap[L]?=some (.cells (lvArr q mb) 82 (0,0))∧w.grownBy w' (some L)∧(0≤n→n≤1000000000 - p.c→q={ p with c:=p.c+n })∧(¬ 0≤n∨¬ n≤1000000000 - p.c→q=p)
end Go.Proofs.YtmjogablacnlgaaGreatDoor
