/-
 Parts.
-/
import Derived.Test.YtandnmpllheniaaGreatDoorCCO
import Derived.Test.YtandnmpllheniaaGreatDoorCPH
set_option linter.all false
namespace Go.Proofs.YtandnmpllheniaaGreatDoor
open Go.ChangeShapes Go.WideShapes Go.ChangeAt Go.RowKit Go.PlainAid
set_option maxRecDepth 10000
open Go.Lib
theorem AgO.plgX {w:World} {B:Nat} {g:Ag} {p:Pl} (h:AgO w B g p):PlG g p:=by
 have fb:∀ {ao:Option Addr} {n c:Nat} {L:List Bn},OwnB w B (.slice ao n c) n L->ao=none->c=0:=fun {ao n c L} o e=>by
  rcases o.2 with ⟨q,_⟩ | ⟨b,ab,c',aa,q,_⟩
  ·cases q;rfl
  ·cases q;cases e
 have fn:∀ {kd:IntKind} {T:TypeId} {ao:Option Addr} {n c:Nat} {L:List Int},OwnN kd T w B (.slice ao n c) n L->(ao=none->c=0)/\Qmw ao/\n<=c/\c<=maxLen:=fun {kd T ao n c L} o=>by
  rcases o.2.2 with ⟨q,q0⟩ | ⟨b,c',aa,q,_,_,q1,q2,_⟩
  ·cases q;exact ⟨fun _=>rfl,.inl rfl,ZZa _,ZZj _⟩
  ·cases q;exact ⟨(fun e=>by cases e),.inr ⟨_,_,rfl⟩,q1,q2⟩
 exact ⟨fb h.P,fb h.N,(fn h.E).1,(fn h.R).1,(fn h.E).2.1,(fn h.R).2.1,(fn h.E).2.2.1,(fn h.E).2.2.2⟩
structure CeQ (L:List Ce):Prop where
 ok:∀ c∈L,AgOk c.g
 sm:∀ c∈L,AgSm c.g
 ss:∀ c∈L,c.s.size<=maxLen
structure AnB (R O:List Ce):Prop where
 l1:R.length<=1048576
 l2:O.length<=1048576
 s1:∀ c∈R,AgSm c.g
 s2:∀ c∈O,AgSm c.g
 t:1+QrF R+QrF O<=50000000
structure ShR (w:World) (lo hi:Nat) (ar ap:Option Addr) (n1 n2 c1 c2:Nat) (R O:List Ce):Prop where
 l1:R.length=n1
 l2:O.length=n2
 r:OwnC w lo (.slice ar n1 c1) R
 o:OwnC w lo (.slice ap n2 c2) O
 av:ApV (.slice ar n1 c1) (.slice ap n2 c2)
 c:CesO w lo (R ++ O)
 hi:∀ k,ShBlk (.slice ar n1 c1) (.slice ap n2 c2) R O k->lo<=k/\k<hi
section
variable {w w':World} {lo hi:Nat} {ar ap:Option Addr} {n1 n2 c1 c2:Nat} {R O:List Ce}
end
theorem Qey {L:List Ce} (hL:AscC L) {c d:Ce} (hc:c∈L) (hd:d∈L) (h1:c.n=d.n) (h2:c.s=d.s):c=d:=by
 obtain ⟨i,hi,rfl⟩:=List.getElem_of_mem hc;obtain ⟨j,hj,rfl⟩:=List.getElem_of_mem hd;rcases Nat.lt_trichotomy i j with q | q | q
 ·exact absurd ⟨h1,h2⟩ (Qf5 ((List.pairwise_iff_getElem.1 hL) i j hi hj q))
 ·subst q;rfl
 ·exact absurd ⟨h1.symm,h2.symm⟩ (Qf5 ((List.pairwise_iff_getElem.1 hL) j i hj hi q))
theorem QhJ (L:List Bn):(Qan L).length<=30:=by
 unfold Qan
 split
 ·assumption
 ·have hd:(L.drop (L.length - 30)).length=30:=by rw [List.length_drop];omega
  split
  ·rename_i h;rw [h] at hd;simp at hd
  ·rename_i h;rw [h] at hd;simp at hd ⊢; omega
def AgFew (o:Ag):Prop:=o.P.length<=30/\o.N.length<=30/\o.E.length<=64/\o.R.length<=64
theorem AgFew.sm {o:Ag} (h:AgFew o):AgSm o:=⟨by have:=h.1;omega,by have:=h.2.1;omega,by have:=h.2.2.1;omega,by have:=h.2.2.2;omega⟩
theorem QlQ {g g' o:Ag} (h:AgMrg g g' o):AgFew o:=by
 unfold AgMrg at h
 split at h
 ·rename_i hg
  obtain ⟨E,R,m,rfl⟩:=h;have n:=QaQ hg.1;have n':=QaQ hg.2.1;have m':QeP g.E g.R g'.E g'.R E R:=by unfold QeP;rw [if_pos ⟨n.hl,n'.hl⟩];exact m
  have l:=Qdk (Qjc n.hl n'.hl m');exact ⟨QhJ _,QhJ _,by show E.length<=_;omega,by show R.length<=_;omega⟩
 ·subst h
  exact ⟨by simp [QbQ],by simp [QbQ],by simp [QbQ],by simp [QbQ]⟩
theorem Qk4 {g o:Ag} {x:Sx} (h:AgPut g x o) (hx:x.B=true) (hg:agB g=true) (hk:g.k=x.k):AgFew o:=by
 unfold AgPut at h
 split at h
 ·exact QlQ h
 ·rename_i q;exact absurd (by first | exact ⟨hg,hx,hk⟩ | exact ⟨hg,hk,hx⟩ | exact ⟨⟨hg,hx⟩,hk⟩) q
structure SpB (w w':World) (nm:ByteArray) (L:List Ce) (win:Int) (x:Sx) (G lo hi:Nat) (nm':ByteArray) (ar ap:Option Addr) (n1 n2 c1 c2:Nat) (R:List Ce) (code:Int):Prop where
 b:Below w.heap.size w w'
 y:w'.heap[G]?=some (.cells #[.string nm',.slice ar n1 c1,.slice ap n2 c2,.int .i64 code] 32 (0,0))
 r:ShR w' lo hi ar ap n1 n2 c1 c2 R []
 a:PtA nm L win x nm' R code
 z1:w.heap.size<=lo
 z2:hi<=w'.heap.size
 g0:w.heap.size<=G
 g1:G<lo∨hi<=G
end Go.Proofs.YtandnmpllheniaaGreatDoor
