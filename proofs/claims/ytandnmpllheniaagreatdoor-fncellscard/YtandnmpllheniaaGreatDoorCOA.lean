/-
 Parts.
-/
import Derived.Test.YtandnmpllheniaaGreatDoorCMA
set_option linter.all false
set_option maxRecDepth 10000
namespace Go.Proofs.YtandnmpllheniaaGreatDoor
open Go.ChangeShapes Go.WideShapes Go.ChangeAt Go.RowKit Go.PlainAid Go.Lib Go.Maps
def CoP (w:World) (L:List St) (e:Ending) (w':World):Prop:=∃ v R code,e=.returned (.agg #[v,.int .i64 code])/\CoR L R code/\OwnC w' w.heap.size v R/\CesO w' w.heap.size R/\Below w.heap.size w w'
structure CoJ (w wr:World) (L:List St) (k:Nat) (v:Value) (R:List Ce):Prop where
 r:OwnC wr (w.heap.size+1) v R
 o:CesO wr (w.heap.size+1) R
 m:CoI (L.take k) R
 b:Below w.heap.size w wr
 y:wr.heap[w.heap.size]?=some (.cells #[.slice none 0 0,.int .i64 0] 60 (0,0))
structure AlB (w:World) (A B:Nat) (R:List Ce):Prop where
 ex:∃ v,w.heap[A]?=some (.cells #[.string aln,v] 25 (0,0))/\OwnC w B v R
 o:CesO w B R
 lt:A<B
 le:B<=w.heap.size
def PuC (w:World) (A B:Nat) (R:List Ce) (n:Int) (x:Sx) (e:Ending) (w':World):Prop:=
 ∃ code,e=.returned (.int .i64 code)/\w.grownBy w' (some A)/\((code=0/\∃ R',AlB w' A B R'/\PtA aln R n x aln R' 0)∨(code≠0/\PtA aln R n x ⟨#[]⟩ [] code))
theorem Qlt {nm nm':ByteArray} {L R:List Ce} {win code:Int} {x:Sx} (h:PtA nm L win x nm' R code):(code=0/\nm'=nm)∨(code≠0/\nm'=⟨#[]⟩/\R=[]):=by
 cases h with
 | form=>exact .inr ⟨by decide,rfl,rfl⟩
 | kind=>exact .inr ⟨by decide,rfl,rfl⟩
 | there=>exact .inl ⟨rfl,rfl⟩
 | full=>exact .inr ⟨by decide,rfl,rfl⟩
 | new=>exact .inl ⟨rfl,rfl⟩
abbrev StO:={ s:St // s.x.Ok }
def encSt (x:StO):Array Value:=#[.int .i64 x.1.n,.agg (Qaz x.1.x)]
attribute [local go_sem] Oper.semAt_some
attribute [local go_sem] Oper.semAt_some
def NoC (W:World) (row:Option Nat):Prop:=∀ r,row=some r->∃ o:Obj,W.heap[r]?=some o/\o.isCells=false
theorem pta_ok {R R':List Ce} {n:Int} {x:Sx} {nm nm':ByteArray} (h:PtA nm R n x nm' R' 0):(x.B=true/\Qfq n=true)/\PuA R n x R' 0:=by
 generalize hz:(0:Int)=z at h
 cases h with
 | form=>cases hz
 | kind=>cases hz
 | full=>cases hz
 | there c o R1 h hc k1 k2 hk hp hR=>exact ⟨h.2,.there c o _ hc k1 k2 hk hp hR⟩
 | new o R1 h hn hl hp hR=>exact ⟨h.2,.new o _ hn hl hp hR⟩
structure CoK (w:World) (Pv:Value) (pre:List StO) (W:World):Prop where
 al:∃ R,AlB W (w.heap.size+1) (w.heap.size+4) R/\CoI (pre.map Subtype.val) R
 y:W.heap[w.heap.size]?=some (.cells #[.slice none 0 0,.int .i64 0] 60 (0,0))
 p:W.heap[w.heap.size+1+1]?=some (.cells #[Pv] 105 (0,0))
 b:Below w.heap.size w W
structure CoX (w:World) (c:Code) (pre:List StO) (W:World):Prop where
 c:c=.ret
 e:∃ ini last M code,pre=ini ++ [last]/\CoI (ini.map Subtype.val) M/\W.heap[w.heap.size]?=some (.cells #[.slice none 0 0,.int .i64 code] 60 (0,0))/\code≠0/\((¬ StR last.1/\code=1)∨(StR last.1/\PuA M last.1.n last.1.x [] code))
 b:Below w.heap.size w W
end Go.Proofs.YtandnmpllheniaaGreatDoor
