/-
 Three boxes.
-/
import Derived.Test.YtiiclgcpagdekaaGreatDoorMPA
import Derived.Test.YtiiclgcpagdekaaGreatDoorMKD
import Derived.Test.YtiiclgcpagdekaaGreatDoorMKA
namespace Go.Proofs.YtiiclgcpagdekaaGreatDoor
set_option linter.unusedVariables false
set_option linter.unusedSimpArgs false
open Go.ChangeShapes Go.WideShapes Go.ChangeAt Go.RowKit Go.PlainAid Go.Lib
set_option maxRecDepth 10000
section
variable {g:Ag} {x:Sx} (ok:x.Ok) (hg:agB g=true) (hx:x.B=true) (e:g.k=x.k)
include ok hg hx e
end
structure PB (w W:World) (b:Nat) (g a:Ag) (p q:Pl) (x:Sx):Prop where
 bel:Below w.heap.size w W
 ra:W.heap[w.heap.size]?=some (.cells (agArr g p) 79 (0,0))
 rx:W.heap[w.heap.size+1]?=some (.cells (sxArr x) 37 (0,0))
 rr:W.heap[w.heap.size+1+1]?=some (.cells z13 79 (0,0))
 ro:W.heap[b]?=some (.cells (agArr a q) 79 (0,0))
 lo:w.heap.size+1+1+1≤b∧b<W.heap.size
 own:AgO W (w.heap.size+1+1+1) a q
 ne:∀ k,AgBlk a q k→k<b
end Go.Proofs.YtiiclgcpagdekaaGreatDoor
