/-
 l10Share of the model: what its rounds keep.
-/
import Derived.Test.YtmjogablacnlgaaGreatDoorOZA
namespace Go.Proofs.YtmjogablacnlgaaGreatDoor
set_option linter.unusedVariables false
set_option linter.unusedSimpArgs false
open Go.ChangeShapes Go.WideShapes Go.ChangeAt Go.RowKit Go.PlainAid Go.Lib Go.Maps
set_option maxRecDepth 10000
structure SmO (w wr:World) (p:Pi) (K:List ByteArray) (R:List Ce) (va:Value) (i:Nat) (X:List Sd) (vo:Value):Prop where
 x1:wr.heap[w.heap.size+1]?=some (.cells zeroPi 29 (0,0))
 x2:wr.heap[w.heap.size+1+1]?=some (.cells (piArr vo p) 29 (0,0))
 d:OwnD wr (w.heap.size+1+1+1) vo X
 r:∀ s∈X,OwnC wr (w.heap.size+1+1+1) (slS s) s.L
 rap:X.Pairwise (fun s t=>ApV (slS s) (slS t))
 a:OwnC wr (w.heap.size+1+1+1) va R
 c:CesO wr (w.heap.size+1+1+1) R
 ra:∀ s∈X,ApV (slS s) va
 nm:X.map Sd.nm=K.take i
 l:∀ s∈X,s.L=R.filter (ownB K s.nm)
 b:Below w.heap.size w wr
structure SmI (w wr:World) (p:Pi) (K:List ByteArray) (R:List Ce) (va:Value) (i:Nat) (X:List Sd) (vo:Value) (bx:Nat) (u:ByteArray) (k:Nat) (vs:Value):Prop where
 o:SmO w wr p K R va i X vo
 y:wr.heap[bx]?=some (.cells #[.string u,vs] 55 (0,0))
 s:OwnC wr (w.heap.size+1+1+1) vs ((R.take k).filter (ownB K u))
 sa:ApV vs va
 sr:∀ s∈X,ApV (slS s) vs
 bo:∀ j,vo.ownBlock=some j→j<bx
 lo:w.heap.size+1+1+1≤bx
section
variable {w wr W w5:World} {p:Pi} {K:List ByteArray} {R:List Ce} {va vo vs v':Value} {i k bx:Nat} {X:List Sd} {u:ByteArray} {c:Ce}
end
def ShA (w:World) (S:List Sd) (p:Pi) (Kn:List ByteArray) (e:Ending) (w':World):Prop:=∃ v X L,e=.returned (.agg (piArr v p))∧AscC L∧(L.map Ce.key).Perm ((allC S).map Ce.key)∧ShrL Kn L X∧OwnD w' w.heap.size v X∧LvO w' w.heap.size X∧Below w.heap.size w w'
end Go.Proofs.YtmjogablacnlgaaGreatDoor
