/-
 A sample sized and copied, as the exact laws do.
-/
import Derived.Test.YthchmdmncmioiaaGreatDoorZCO
import Derived.Test.YthchmdmncmioiaaGreatDoorZPH
namespace Go.Proofs.YthchmdmncmioiaaGreatDoor
set_option linter.unusedVariables false
set_option linter.unusedSimpArgs false
open Go.ChangeShapes Go.WideShapes Go.ChangeAt Go.RowKit Go.PlainAid
set_option maxRecDepth 10000
open Go.Lib
theorem AgO.plgX {w:World} {B:Nat} {g:Ag} {p:Pl} (h:AgO w B g p):PlG g p:=by
 have fb:∀ {ao:Option Addr} {n c:Nat} {L:List Bn},OwnB w B (.slice ao n c) n L->ao=none->c=0:=fun {ao n c L} o e=>by
  rcases o.2 with ⟨q,_⟩ | ⟨b,off,c',cur,q,_⟩
  ·cases q;rfl
  ·cases q;cases e
 have fn:∀ {kd:IntKind} {T:TypeId} {ao:Option Addr} {n c:Nat} {L:List Int},OwnN kd T w B (.slice ao n c) n L->(ao=none->c=0)/\Qlz ao/\n<=c/\c<=maxLen:=fun {kd T ao n c L} o=>by
  rcases o.2.2 with ⟨q,q0⟩ | ⟨b,c',cur,q,_,_,q1,q2,_⟩
  ·cases q;exact ⟨fun _=>rfl,.inl rfl,ZZa _,ZZj _⟩
  ·cases q;exact ⟨(fun e=>by cases e),.inr ⟨_,_,rfl⟩,q1,q2⟩
 exact ⟨fb h.P,fb h.N,(fn h.E).1,(fn h.R).1,(fn h.E).2.1,(fn h.R).2.1,(fn h.E).2.2.1,(fn h.E).2.2.2⟩
structure CeQ (L:List Ce):Prop where
 ok:∀ c∈L,AgOk c.g
 sm:∀ c∈L,AgSm c.g
 ss:∀ c∈L,c.s.size<=maxLen
theorem TkA.same {nm n1 n2:ByteArray} {L R1 O1 R2 O2:List Ce} {win c1 c2:Int} (h:TkA nm L win n1 R1 O1 c1) (k:TkA nm L win n2 R2 O2 c2):n1=n2/\R1.map Ce.key=R2.map Ce.key/\O1.map Ce.key=O2.map Ce.key/\c1=c2:=by
 unfold TkA at h k
 split at h
 ·rename_i q
  rw [if_pos q] at k;exact ⟨h.1.trans k.1.symm,h.2.1.trans k.2.1.symm,h.2.2.1.trans k.2.2.1.symm,h.2.2.2.trans k.2.2.2.symm⟩
 ·rename_i q
  rw [if_neg q] at k;exact ⟨h.1.trans k.1.symm,by rw [h.2.1,k.2.1],by rw [h.2.2.1,k.2.2.1],h.2.2.2.trans k.2.2.2.symm⟩
structure AnB (R O:List Ce):Prop where
 l1:R.length<=1048576
 l2:O.length<=1048576
 s1:∀ c∈R,AgSm c.g
 s2:∀ c∈O,AgSm c.g
 t:1+QqS R+QqS O<=50000000
structure ShR (w:World) (lo hi:Nat) (ar ap:Option Addr) (n1 n2 c1 c2:Nat) (R O:List Ce):Prop where
 l1:R.length=n1
 l2:O.length=n2
 r:OwnC w lo (.slice ar n1 c1) R
 o:OwnC w lo (.slice ap n2 c2) O
 av:ApV (.slice ar n1 c1) (.slice ap n2 c2)
 c:CesO w lo (R ++ O)
 hi:∀ k,ShBlk (.slice ar n1 c1) (.slice ap n2 c2) R O k->lo<=k/\k<hi
section
variable {w w':World} {lo hi:Nat} {ar ap:Option Addr} {n1 n2 c1 c2:Nat} {R O:List Ce}
end
theorem ShO.open {w:World} {B:Nat} {v:Value} {nm:ByteArray} {R O:List Ce} {code:Int} (h:ShO w B v nm R O code):∃ ar ap n1 n2 c1 c2,v=.agg #[.string nm,.slice ar n1 c1,.slice ap n2 c2,.int .i64 code]/\ShR w B w.heap.size ar ap n1 n2 c1 c2 R O:=by
 obtain ⟨⟨vr,vo,e,h1,h2,h3⟩,h4⟩:=h;obtain ⟨ar,c1,rfl,_⟩:=h1.form;obtain ⟨ap,c2,rfl,_⟩:=h2.form;refine ⟨ar,ap,_,_,c1,c2,e,rfl,rfl,h1,h2,h3,h4,fun k q=>?_⟩;rcases q with (q | ⟨c,m,q⟩) | (q | ⟨c,m,q⟩)
 ·exact World.ownsRow.lt h1 k q
 ·exact (h4.o c (List.mem_append_left _ m)).lt q
 ·exact World.ownsRow.lt h2 k q
 ·exact (h4.o c (List.mem_append_right _ m)).lt q
theorem Qca {L:List Ce} (hL:AscC L) {c d:Ce} (hc:c∈L) (hd:d∈L) (h1:c.n=d.n) (h2:c.s=d.s):c=d:=by
 obtain ⟨i,hi,rfl⟩:=List.getElem_of_mem hc;obtain ⟨j,hj,rfl⟩:=List.getElem_of_mem hd;rcases Nat.lt_trichotomy i j with q | q | q
 ·exact absurd ⟨h1,h2⟩ (Qft ((List.pairwise_iff_getElem.1 hL) i j hi hj q))
 ·subst q;rfl
 ·exact absurd ⟨h1.symm,h2.symm⟩ (Qft ((List.pairwise_iff_getElem.1 hL) j i hj hi q))
theorem PtA.same {nm n1 n2:ByteArray} {L R1 R2:List Ce} {win c1 c2:Int} {x:Sx} (h:PtA nm L win x n1 R1 c1) (k:PtA nm L win x n2 R2 c2):n1=n2/\R1.map Ce.key=R2.map Ce.key/\([]:List Ce).map Ce.key=([]:List Ce).map Ce.key/\c1=c2:=by
 have asc:shB nm L=true/\x.B=true/\QdO win=true->AscC L:=fun q=>(csR_iff.1 (QcJ q.1)).2.2
 cases h with
 | form h=>cases k with
  | form _=>exact ⟨rfl,rfl,rfl,rfl⟩
  | kind _ q=>exact absurd q h
  | there _ _ _ q=>exact absurd q h
  | full q=>exact absurd q h
  | new _ _ q=>exact absurd q h
 | kind c h hc k1 k2 hk=>cases k with
  | form q=>exact absurd h q
  | kind=>exact ⟨rfl,rfl,rfl,rfl⟩
  | there d o R q hd e1 e2 e3=>rw [Qca (asc h) hc hd (k1.trans e1.symm) (k2.trans e2.symm)] at hk;exact absurd e3 hk
  | full q hn=>exact absurd ⟨c,hc,k1,k2⟩ hn
  | new o R q hn=>exact absurd ⟨c,hc,k1,k2⟩ hn
 | there c o R h hc k1 k2 hk hp hR=>cases k with
  | form q=>exact absurd h q
  | kind d q hd e1 e2 e3=>rw [Qca (asc h) hc hd (k1.trans e1.symm) (k2.trans e2.symm)] at hk;exact absurd hk e3
  | there d o' R' q hd e1 e2 e3 hp' hR'=>
   obtain rfl:=Qca (asc h) hc hd (k1.trans e1.symm) (k2.trans e2.symm);obtain rfl:=hp.one hp';exact ⟨rfl,hR.trans hR'.symm,rfl,rfl⟩
  | full q hn=>exact absurd ⟨c,hc,k1,k2⟩ hn
  | new o R q hn=>exact absurd ⟨c,hc,k1,k2⟩ hn
 | full h hn hl=>cases k with
  | form q=>exact absurd h q
  | kind d q hd e1 e2=>exact absurd ⟨d,hd,e1,e2⟩ hn
  | there d o' R' q hd e1 e2=>exact absurd ⟨d,hd,e1,e2⟩ hn
  | full=>exact ⟨rfl,rfl,rfl,rfl⟩
  | new o R q _ hl'=>exact absurd hl' (by omega)
 | new o R h hn hl hp hR=>cases k with
  | form q=>exact absurd h q
  | kind d q hd e1 e2=>exact absurd ⟨d,hd,e1,e2⟩ hn
  | there d o' R' q hd e1 e2=>exact absurd ⟨d,hd,e1,e2⟩ hn
  | full q _ hl'=>exact absurd hl (by omega)
  | new o' R' q _ _ hp' hR'=>
   obtain rfl:=hp.one hp';exact ⟨rfl,hR.trans hR'.symm,rfl,rfl⟩
theorem QgR (L:List Bn):(QaJ L).length<=30:=by
 unfold QaJ
 split
 ·assumption
 ·have hd:(L.drop (L.length - 30)).length=30:=by rw [List.length_drop];omega
  split
  ·rename_i h;rw [h] at hd;simp at hd
  ·rename_i h;rw [h] at hd;simp at hd ⊢; omega
def AgFew (o:Ag):Prop:=o.P.length<=30/\o.N.length<=30/\o.E.length<=64/\o.R.length<=64
theorem AgFew.sm {o:Ag} (h:AgFew o):AgSm o:=⟨by have:=h.1;omega,by have:=h.2.1;omega,by have:=h.2.2.1;omega,by have:=h.2.2.2;omega⟩
theorem Qkd {g g' o:Ag} (h:AgMrg g g' o):AgFew o:=by
 unfold AgMrg at h
 split at h
 ·rename_i hg
  obtain ⟨E,R,m,rfl⟩:=h;have n:=Qa9 hg.1;have n':=Qa9 hg.2.1;have m':QfR g.E g.R g'.E g'.R E R:=by unfold QfR;rw [if_pos ⟨n.hl,n'.hl⟩];exact m
  have l:=Qd3 (Qiw n.hl n'.hl m');exact ⟨QgR _,QgR _,by show E.length<=_;omega,by show R.length<=_;omega⟩
 ·subst h
  exact ⟨by simp [QbA],by simp [QbA],by simp [QbA],by simp [QbA]⟩
theorem Qln {g o:Ag} {x:Sx} (h:AgPut g x o) (hx:x.B=true) (hg:agB g=true) (hk:g.k=x.k):AgFew o:=by
 unfold AgPut at h
 split at h
 ·exact Qkd h
 ·rename_i q;exact absurd (by first | exact ⟨hg,hx,hk⟩ | exact ⟨hg,hk,hx⟩ | exact ⟨⟨hg,hx⟩,hk⟩) q
structure SpB (w w':World) (nm:ByteArray) (L:List Ce) (win:Int) (x:Sx) (G lo hi:Nat) (nm':ByteArray) (ar ap:Option Addr) (n1 n2 c1 c2:Nat) (R:List Ce) (code:Int):Prop where
 b:Below w.heap.size w w'
 y:w'.heap[G]?=some (.cells #[.string nm',.slice ar n1 c1,.slice ap n2 c2,.int .i64 code] 32 (0,0))
 r:ShR w' lo hi ar ap n1 n2 c1 c2 R []
 a:PtA nm L win x nm' R code
 z1:w.heap.size<=lo
 z2:hi<=w'.heap.size
 g0:w.heap.size<=G
 g1:G<lo∨hi<=G
end Go.Proofs.YthchmdmncmioiaaGreatDoor
