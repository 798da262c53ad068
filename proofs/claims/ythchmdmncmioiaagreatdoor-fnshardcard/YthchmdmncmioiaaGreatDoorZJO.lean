/-
 The model's sketch of how many: l04Merge.
-/
import Derived.Test.YthchmdmncmioiaaGreatDoorZJN
namespace Go.Proofs.YthchmdmncmioiaaGreatDoor
set_option linter.unusedVariables false
set_option linter.unusedSimpArgs false
open Go.ChangeShapes Go.WideShapes Go.ChangeAt Go.RowKit Go.PlainAid Go.Maps
set_option maxRecDepth 10000
theorem Qlj {E1:List Int} (h:upN E1=true) (E2:List Int):Qif E1 E2=Qda E1 E2:=by
 unfold Qif;rw [Qhy (l:=[]) (by simpa using QfP h)];rfl
theorem Qoo (x:Int) (E1 E2:List Int):x∈Qif E1 E2↔x∈E1∨x∈E2:=by
 unfold Qif;rw [Qcm,Qcm];simp
theorem Qh6 {R:List Int} (h:R.length=64):Qcq R=R:=by unfold Qcq;rw [if_neg (by omega)]
def MgOut (w:World) (E1 R1 E2 R2:List Int) (e:Ending) (w':World):Prop:=∃ v E R,e=.returned v/\Mg E1 R1 E2 R2 E R/\Qh9 w' w.heap.size v E R/\Below w.heap.size w w'
end Go.Proofs.YthchmdmncmioiaaGreatDoor
namespace Go.Proofs.YthchmdmncmioiaaGreatDoor
set_option linter.unusedVariables false
set_option linter.unusedSimpArgs false
set_option maxRecDepth 10000
def zer:List Int:=List.replicate 64 0
theorem Qqk:zer.length=64:=by simp [zer]
theorem Ql6 (i:Nat):zer.getD i 0=0:=by
 unfold zer;rw [List.getD_eq_getElem?_getD,List.getElem?_replicate];split <;> rfl
def mxx (A B:List Int):List Int:=mxL A B 64
theorem QfU (A B:List Int):(mxx A B).length=A.length:=Qga _ _ _
theorem Qg8 {A B:List Int} (hA:A.length=64) (i:Nat) (hi:i<64):(mxx A B).getD i 0=max (A.getD i 0) (B.getD i 0):=by
 unfold mxx;rw [Qjm A B 64 i (by omega),if_pos hi]
theorem Qnh {A B:List Int} (hA:A.length=64) (hB:B.length=64) (h:∀ i,i<64->A.getD i 0=B.getD i 0):A=B:=by
 apply List.ext_getElem (by omega);intro i h1 h2;have:=h i (by omega);rw [List.getD_eq_getElem?_getD,List.getD_eq_getElem?_getD,List.getElem?_eq_getElem h1,List.getElem?_eq_getElem h2] at this;exact this
def QdY (B:List Int):Prop:=B.length=64/\∀ i,i<64->0<=B.getD i 0/\B.getD i 0<=55
theorem Ql4:QdY zer:=⟨Qqk,fun i _=>by rw [Ql6];omega⟩
theorem mx_ok {A B:List Int} (a:QdY A) (b:QdY B):QdY (mxx A B):=⟨by rw [QfU];exact a.1,fun i hi=>by
 rw [Qg8 a.1 i hi];have:=a.2 i hi;have:=b.2 i hi;omega⟩
theorem QpN {A B:List Int} (a:QdY A) (b:QdY B):mxx A B=mxx B A:=
 Qnh (by rw [QfU];exact a.1) (by rw [QfU];exact b.1) fun i hi=>by rw [Qg8 a.1 i hi,Qg8 b.1 i hi];omega
theorem Qkc {A:List Int} (a:QdY A):mxx A zer=A:=
 Qnh (by rw [QfU];exact a.1) a.1 fun i hi=>by rw [Qg8 a.1 i hi,Ql6];have:=a.2 i hi;omega
theorem Laid.ok {B R:List Int} {S:Int->Prop} (b:QdY B) (h:Laid B S R):QdY R:=⟨by rw [h.1];exact b.1,fun i hi=>by
 obtain ⟨h1,h2,h3⟩:=h.2 i (by rw [b.1];exact hi);have:=b.2 i hi;rcases h3 with h3 | ⟨x,_,_,h3⟩
 ·omega
 ·have:=Ql7 x;omega⟩
theorem Laid.two {A A' B B':List Int} {S T U:Int->Prop} (a:QdY A) (b:QdY B) (h:Laid A S A') (g:Laid B T B') (hU:∀ x,U x↔S x∨T x):Laid (mxx A B) U (mxx A' B'):=by
 have a':=h.ok a;have b':=g.ok b;refine ⟨by rw [QfU,QfU,a.1,a'.1],fun i hi=>?_⟩;have hi:i<64:=by rw [QfU,a.1] at hi;exact hi
 obtain ⟨h1,h2,h3⟩:=h.2 i (by rw [a.1];exact hi);obtain ⟨g1,g2,g3⟩:=g.2 i (by rw [b.1];exact hi);rw [Qg8 a.1 i hi,Qg8 a'.1 i hi];refine ⟨by omega,fun x hx hr=>?_,?_⟩
 ·rcases (hU x).1 hx with hx | hx
  ·have:=h2 x hx hr;omega
  ·have:=g2 x hx hr;omega
 ·by_cases q:B'.getD i 0<=A'.getD i 0
  ·rcases h3 with h3 | ⟨x,hx,hr,h3⟩
   ·exact .inl (by omega)
   ·exact .inr ⟨x,(hU x).2 (.inl hx),hr,by omega⟩
  ·rcases g3 with g3 | ⟨x,hx,hr,g3⟩
   ·exact .inl (by omega)
   ·exact .inr ⟨x,(hU x).2 (.inr hx),hr,by omega⟩
structure Can (g:Prop) (U B E R:List Int):Prop where
 rise:U.Pairwise (· < ·)
 okB:QdY B
 no:¬ g->B=zer
 few:¬ g->U.length<=40->E=U/\R=[]
 many:g∨40<U.length->E=[]/\Laid B (·∈U) R
theorem Can.one {g g':Prop} {U B E R U' B' E' R':List Int} (h:Can g U B E R) (k:Can g' U' B' E' R') (hg:g↔g') (hU:∀ x,x∈U↔x∈U') (hB:B=B'):E=E'/\R=R':=by
 obtain rfl:=QhP U U' h.rise k.rise hU;subst hB;by_cases q:g∨40<U.length
 ·obtain ⟨a,b⟩:=h.many q
  obtain ⟨a',b'⟩:=k.many (q.imp hg.1 id);exact ⟨a.trans a'.symm,b.same b' fun _=>Iff.rfl⟩
 ·have q1:¬ g:=fun x=>q (.inl x)
  have q2:U.length<=40:=by omega
  obtain ⟨a,b⟩:=h.few q1 q2;obtain ⟨a',b'⟩:=k.few (fun x=>q1 (hg.2 x)) q2;exact ⟨a.trans a'.symm,b.trans b'.symm⟩
theorem QdJ:∀ {L:List Int},L.Pairwise (· < ·)->upN L=true
 | [],_=>rfl
 | [x],_=>rfl
 | x :: y :: r,h=>by
  have a:=List.pairwise_cons.1 h;simp only [upN,Bool.and_eq_true,decide_eq_true_eq];exact ⟨a.1 y (by simp),QdJ a.2⟩
theorem QpM {R:List Int} (h:QgB R=true):QdY R:=by
 unfold QgB at h;simp only [Bool.and_eq_true,decide_eq_true_eq] at h;refine ⟨h.1,fun i hi=>?_⟩;have hi':i<R.length:=by omega
 have:=List.all_eq_true.1 h.2 (R[i]) (List.getElem_mem hi');rw [List.getD_eq_getElem?_getD,List.getElem?_eq_getElem hi']
 simpa [inR] using this
theorem QqE {R:List Int} (h:QdY R):QgB R=true:=by
 unfold QgB;simp only [Bool.and_eq_true,decide_eq_true_eq];refine ⟨h.1,List.all_eq_true.2 fun x hx=>?_⟩;obtain ⟨i,hi,rfl⟩:=List.getElem_of_mem hx;have:=h.2 i (by rw [<- h.1];exact hi);rw [List.getD_eq_getElem?_getD,List.getElem?_eq_getElem hi] at this
 simpa [inR] using this
theorem Can.self {E R:List Int} (h:hlB E R=true):Can (R.length≠0) E (Qcq R) E R:=by
 rcases Qii h with ⟨rfl,hu⟩ | ⟨h64,rfl⟩
 ·refine ⟨QfP hu,?_,fun _=>rfl,fun _ _=>⟨rfl,rfl⟩,fun q=>?_⟩
  ·exact Ql4
  ·rcases q with q | q
   ·exact absurd rfl q
   ·have:=(Qd3 h).1;omega
 ·have hp:Qcq R=R:=Qh6 h64
  have hr:QgB R=true:=by
   unfold hlB at h;rw [if_neg (by omega)] at h;simp only [Bool.and_eq_true] at h;exact h.2
  refine ⟨List.Pairwise.nil,by rw [hp];exact QpM hr,fun q=>absurd (by omega) q,fun q=>absurd (by omega) q,fun _=>⟨rfl,?_⟩⟩;rw [hp];exact Laid.start R (fun x hx=>by simp at hx)
theorem Can.right {g:Prop} {U B E R:List Int} (h:Can g U B E R):hlB E R=true:=by
 by_cases q:g∨40<U.length
 ·obtain ⟨rfl,b⟩:=h.many q
  have ok:=b.ok h.okB;unfold hlB;rw [if_neg (by rw [ok.1];omega),QqE ok];rfl
 ·have q2:U.length<=40:=by omega
  obtain ⟨rfl,rfl⟩:=h.few (fun x=>q (.inl x)) q2;unfold hlB exB;rw [if_pos (by rfl:([]:List Int).length=0),QdJ h.rise]
  simpa using q2
theorem Can.part {g:Prop} {U B E R:List Int} (h:Can g U B E R):∃ S:Int->Prop,Laid B S (Qcq R)/\∀ x,x∈U↔S x∨x∈E:=by
 by_cases q:g∨40<U.length
 ·obtain ⟨rfl,b⟩:=h.many q
  exact ⟨(·∈U),by rw [Qh6 (b.ok h.okB).1];exact b,fun x=>by simp⟩
 ·have q2:U.length<=40:=by omega
  obtain ⟨rfl,rfl⟩:=h.few (fun x=>q (.inl x)) q2;refine ⟨fun _=>False,?_,fun x=>by simp⟩;rw [h.no (fun x=>q (.inl x))];exact Laid.start zer (fun _ x=>x)
theorem Qg3 {l m:List Int} (hl:l.Pairwise (· < ·)):∀ {k:List Int},k.Pairwise (· < ·)->(∀ x,x∈l->x∈k)->l.length<=k.length:=by
 intro k hk hs;have n:l.Nodup:=hl.imp fun h e=>by omega
 exact n.length_le_of_subset hs
theorem Qqo {A R:List Int} (a:QdY A) (hR:R.length=0∨R.length=64):mxL A R R.length=mxx A (Qcq R):=by
 rcases hR with h | h
 ·obtain rfl:=List.eq_nil_of_length_eq_zero h
  rw [List.length_nil,QdB];exact (Qkc a).symm
 ·rw [h,Qh6 h];rfl
theorem Ql3 {g1 g2:Prop} {U1 B1 E1 R1 U2 B2 E2 R2 E R:List Int} (h1:Can g1 U1 B1 E1 R1) (h2:Can g2 U2 B2 E2 R2) (hM:Mg E1 R1 E2 R2 E R):Can (g1∨g2) (Qda U1 U2) (mxx B1 B2) E R:=by
 have rise:=Ql2 U2 U1 h1.rise;have hu1:U1.length<=(Qda U1 U2).length:=Qg3 (m:=[]) h1.rise rise fun x hx=>(Qcm x U2 U1).2 (.inl hx);have hu2:U2.length<=(Qda U1 U2).length:=Qg3 (m:=[]) h2.rise rise fun x hx=>(Qcm x U2 U1).2 (.inr hx);have hr1:g1∨40<U1.length->R1.length=64:=fun q=>by obtain ⟨_,b⟩:=h1.many q;exact (b.ok h1.okB).1
 have hr2:g2∨40<U2.length->R2.length=64:=fun q=>by obtain ⟨_,b⟩:=h2.many q;exact (b.ok h2.okB).1
 refine ⟨rise,mx_ok h1.okB h2.okB,fun q=>?_,fun q1 q2=>?_,fun q=>?_⟩
 ·rw [h1.no (fun x=>q (.inl x)),h2.no (fun x=>q (.inr x))];exact Qkc Ql4
 ·obtain ⟨rfl,rfl⟩:=h1.few (fun x=>q1 (.inl x)) (by omega)
  obtain ⟨rfl,rfl⟩:=h2.few (fun x=>q1 (.inr x)) (by omega);have e:Qif E1 E2=Qda E1 E2:=Qlj (QdJ h1.rise) E2;rcases hM with ⟨_,_,_,a,b⟩ | ⟨a,_⟩
  ·exact ⟨a.trans e,b⟩
  ·exact absurd ⟨rfl,rfl,by rw [e];exact q2⟩ a
 ·rcases hM with ⟨a,b,c,_,_⟩ | ⟨a,rfl,c⟩
  ·have n1:¬ (g1∨40<U1.length):=fun q=>by have:=hr1 q;omega
   have n2:¬ (g2∨40<U2.length):=fun q=>by have:=hr2 q;omega
   obtain ⟨rfl,rfl⟩:=h1.few (fun x=>n1 (.inl x)) (by omega);obtain ⟨rfl,rfl⟩:=h2.few (fun x=>n2 (.inl x)) (by omega);rw [Qlj (QdJ h1.rise) E2] at c;rcases q with (q | q) | q
   ·exact absurd (.inl q) n1
   ·exact absurd (.inl q) n2
   ·omega
  ·obtain ⟨S1,l1,s1⟩:=h1.part
   obtain ⟨S2,l2,s2⟩:=h2.part;refine ⟨rfl,?_⟩;have hR2:R2.length=0∨R2.length=64:=(Qd3 h2.right).2;rw [Qqo (l1.ok h1.okB) hR2] at c;refine (Laid.two h1.okB h2.okB l1 l2 (fun x=>Iff.rfl)).trans c (fun x=>?_);rw [Qcm,Qoo,s1 x,s2 x];constructor
   ·rintro ((h | h) | (h | h)) <;> simp [h]
   ·rintro ((h | h) | (h | h)) <;> simp [h]
theorem Can.hash (x:Int):Can False [x] zer [x] []:=⟨by simp,Ql4,fun _=>rfl,fun _ _=>⟨rfl,rfl⟩,fun q=>by rcases q with q | q;exact q.elim;simp at q⟩
theorem QmU {g1 g2:Prop} {U1 B1 E1 R1 U2 B2 E2 R2 E R:List Int} (h1:Can g1 U1 B1 E1 R1) (h2:Can g2 U2 B2 E2 R2) (hM:QfR E1 R1 E2 R2 E R):Can (g1∨g2) (Qda U1 U2) (mxx B1 B2) E R:=by
 unfold QfR at hM;rw [if_pos ⟨h1.right,h2.right⟩] at hM;exact Ql3 h1 h2 hM
theorem Can.sub {g:Prop} {U B E R:List Int} (h:Can g U B E R):∀ x∈E,x∈U:=fun x hx=>by
 by_cases q:g∨40<U.length
 ·obtain ⟨rfl,_⟩:=h.many q;simp at hx
 ·obtain ⟨rfl,_⟩:=h.few (fun x=>q (.inl x)) (by omega);exact hx
theorem Qiw {E R F S A T:List Int} (h:hlB E R=true) (k:hlB F S=true) (p:QfR E R F S A T):hlB A T=true:=(QmU (Can.self h) (Can.self k) p).right
theorem Qqr {E R F S A T:List Int} (u:∀ y∈E,U64 y) (v:∀ y∈F,U64 y) (p:QfR E R F S A T):∀ y∈A,U64 y:=by
 by_cases hb:hlB E R=true/\hlB F S=true
 ·intro y hy
  have:=(QmU (Can.self hb.1) (Can.self hb.2) p).sub y hy;rw [Qcm] at this;exact this.elim (u y) (v y)
 ·unfold QfR at p
  rw [if_neg hb] at p;rw [p.1];intro y hy;simp at hy
open Go.ChangeAt Go.ChangeShapes Go.Maps Go.PlainAid Go.RowKit Go.WideShapes
end Go.Proofs.YthchmdmncmioiaaGreatDoor
