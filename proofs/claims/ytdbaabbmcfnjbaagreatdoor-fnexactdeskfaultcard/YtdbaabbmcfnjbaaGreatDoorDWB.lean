/-
 Parts.
-/
import Derived.Test.YtdbaabbmcfnjbaaGreatDoorDZW
import Derived.Test.YtdbaabbmcfnjbaaGreatDoorDWA
set_option maxRecDepth 10000
set_option maxHeartbeats 16000000
set_option linter.all false
namespace Go.Proofs.YtdbaabbmcfnjbaaGreatDoor
open Go.ChangeShapes Go.WideShapes Go.ChangeAt Go.RowKit Go.PlainAid Go.Maps Go.Lib Tryz
section
theorem Qjf:∀ (l:List Int) (x:Int),l.Pairwise (· < ·)->(Qb0 l x).Pairwise (· < ·)
 | [],x,_=>by simp [Qb0]
 | y :: r,x,h=>by
  have hr:=List.pairwise_cons.1 h;unfold Qb0
  split
  ·rename_i hlt
   refine List.pairwise_cons.2 ⟨fun z hz=>?_,Qjf r x hr.2⟩;rcases (Qfr z r x).1 hz with h' | h'
   ·omega
   ·exact hr.1 z h'
  ·split
   ·exact h
   ·rename_i h1 h2
    refine List.pairwise_cons.2 ⟨fun z hz=>?_,h⟩;rcases List.mem_cons.1 hz with h' | h'
    ·omega
    ·have:=hr.1 z h'; omega
theorem QoV (m:List Int):∀ l:List Int,l.Pairwise (· < ·)->(QcO l m).Pairwise (· < ·):=by
 induction m with
 | nil=>intro l h;exact h
 | cons x m ih=>intro l h;exact ih _ (Qjf l x h)
theorem QcT (z:Int) (m:List Int):∀ l:List Int,z∈QcO l m↔z∈l∨z∈m:=by
 induction m with
 | nil=>intro l;simp [QcO]
 | cons x m ih=>
  intro l
  show z∈QcO (Qb0 l x) m↔_
  rw [ih,Qfr,List.mem_cons];constructor
  ·rintro ((h | h) | h) <;> simp [h]
  ·rintro (h | h | h) <;> simp [h]
end
section
def PutH (E R:List Int) (x:Int) (E' R':List Int):Prop:=if hlB E R=true then Mg E R [x] [] E' R' else E'=E/\R'=R
def Qms (E1 R1 E2 R2 E R:List Int):Prop:=if hlB E1 R1=true/\hlB E2 R2=true then Mg E1 R1 E2 R2 E R else E=[]/\R=[]
end
variable {A B B1 B2 E E1 E2 F R R1 R2 S T U U1 U2:List Int}
section
theorem QdD (h:upN E1=true) (E2:List Int):QmH E1 E2=QcO E1 E2:=by
 unfold QmH;rw [Qic (l:=[]) (by simpa using Qfs h)];rfl
theorem Qmb (x:Int) (E1 E2:List Int):x∈QmH E1 E2↔x∈E1∨x∈E2:=by
 unfold QmH;rw [QcT,QcT];simp
theorem Qfl (h:R.length=64):QeC R=R:=by unfold QeC;rw [if_neg (by omega)]
end
variable {g1 g2:Prop}
section
def zer:List Int:=List.replicate 64 0
theorem Qu4:zer.length=64:=by simp [zer]
theorem QnA (i:Nat):zer.getD i 0=0:=by
 unfold zer;rw [List.getD_eq_getElem?_getD,List.getElem?_replicate];split <;> rfl
theorem Qt3 (hA:A.length=64) (hB:B.length=64) (h:∀ i,i<64->A.getD i 0=B.getD i 0):A=B:=by
 apply List.ext_getElem (by omega);intro i h1 h2;have:=h i (by omega);rw [List.getD_eq_getElem?_getD,List.getD_eq_getElem?_getD,List.getElem?_eq_getElem h1,List.getElem?_eq_getElem h2] at this;exact this
theorem QnJ:QeD zer:=⟨Qu4,fun i _=>by rw [QnA];omega⟩
theorem mx_ok (a:QeD A) (b:QeD B):QeD (mxx A B):=⟨by rw [Qiw];exact a.1,fun i hi=>by
 rw [Qlj a.1 i hi];have:=a.2 i hi;have:=b.2 i hi;omega⟩
theorem QsQ (a:QeD A):mxx A zer=A:=
 Qt3 (by rw [Qiw];exact a.1) a.1 fun i hi=>by rw [Qlj a.1 i hi,QnA];have:=a.2 i hi;omega
structure Can (g:Prop) (U B E R:List Int):Prop where
 rise:U.Pairwise (· < ·)
 okB:QeD B
 no:¬ g->B=zer
 few:¬ g->U.length<=40->E=U/\R=[]
 many:g∨40<U.length->E=[]/\Laid B (·∈U) R
theorem Qdx:∀ {L:List Int},L.Pairwise (· < ·)->upN L=true
 | [],_=>rfl
 | [x],_=>rfl
 | x :: y :: r,h=>by
  have a:=List.pairwise_cons.1 h;simp only [upN,Bool.and_eq_true,decide_eq_true_eq];exact ⟨a.1 y (by simp),Qdx a.2⟩
theorem Qtv (h:QmG R=true):QeD R:=by
 unfold QmG at h;simp only [Bool.and_eq_true,decide_eq_true_eq] at h;refine ⟨h.1,fun i hi=>?_⟩;have aa:i<R.length:=by omega
 have:=List.all_eq_true.1 h.2 (R[i]) (List.getElem_mem aa);rw [List.getD_eq_getElem?_getD,List.getElem?_eq_getElem aa]
 simpa [inR] using this
theorem QuB (h:QeD R):QmG R=true:=by
 unfold QmG;simp only [Bool.and_eq_true,decide_eq_true_eq];refine ⟨h.1,List.all_eq_true.2 fun x hx=>?_⟩;obtain ⟨i,hi,rfl⟩:=List.getElem_of_mem hx;have:=h.2 i (by rw [<- h.1];exact hi);rw [List.getD_eq_getElem?_getD,List.getElem?_eq_getElem hi] at this
 simpa [inR] using this
theorem Can.self (h:hlB E R=true):Can (R.length≠0) E (QeC R) E R:=by
 rcases Qga h with ⟨rfl,hu⟩ | ⟨aa,rfl⟩
 ·refine ⟨Qfs hu,?_,fun _=>rfl,fun _ _=>⟨rfl,rfl⟩,fun q=>?_⟩
  ·exact QnJ
  ·rcases q with q | q
   ·exact absurd rfl q
   ·have:=(Qc6 h).1;omega
 ·have hp:QeC R=R:=Qfl aa
  have hr:QmG R=true:=by
   unfold hlB at h;rw [if_neg (by omega)] at h;simp only [Bool.and_eq_true] at h;exact h.2
  refine ⟨List.Pairwise.nil,by rw [hp];exact Qtv hr,fun q=>absurd (by omega) q,fun q=>absurd (by omega) q,fun _=>⟨rfl,?_⟩⟩;rw [hp];exact Laid.start R (fun x hx=>by simp at hx)
theorem Can.right {g:Prop} (h:Can g U B E R):hlB E R=true:=by
 by_cases q:g∨40<U.length
 ·obtain ⟨rfl,b⟩:=h.many q
  have ok:=b.ok h.okB;unfold hlB;rw [if_neg (by rw [ok.1];omega),QuB ok];rfl
 ·have q2:U.length<=40:=by omega
  obtain ⟨rfl,rfl⟩:=h.few (fun x=>q (.inl x)) q2;unfold hlB exB;rw [if_pos (by rfl:([]:List Int).length=0),Qdx h.rise]
  simpa using q2
theorem Can.part {g:Prop} (h:Can g U B E R):∃ S:Int->Prop,Laid B S (QeC R)/\∀ x,x∈U↔S x∨x∈E:=by
 by_cases q:g∨40<U.length
 ·obtain ⟨rfl,b⟩:=h.many q
  exact ⟨(·∈U),by rw [Qfl (b.ok h.okB).1];exact b,fun x=>by simp⟩
 ·have q2:U.length<=40:=by omega
  obtain ⟨rfl,rfl⟩:=h.few (fun x=>q (.inl x)) q2;refine ⟨fun _=>False,?_,fun x=>by simp⟩;rw [h.no (fun x=>q (.inl x))];exact Laid.start zer (fun _ x=>x)
theorem Qg5 {l m:List Int} (hl:l.Pairwise (· < ·)):∀ {k:List Int},k.Pairwise (· < ·)->(∀ x,x∈l->x∈k)->l.length<=k.length:=by
 intro k hk hs;have n:l.Nodup:=hl.imp fun h e=>by omega
 exact n.length_le_of_subset hs
theorem Qt9 (a:QeD A) (hR:R.length=0∨R.length=64):mxL A R R.length=mxx A (QeC R):=by
 rcases hR with h | h
 ·obtain rfl:=List.eq_nil_of_length_eq_zero h
  rw [List.length_nil,Qdl];exact (QsQ a).symm
 ·rw [h,Qfl h];rfl
theorem mg_can (h1:Can g1 U1 B1 E1 R1) (h2:Can g2 U2 B2 E2 R2) (hM:Mg E1 R1 E2 R2 E R):Can (g1∨g2) (QcO U1 U2) (mxx B1 B2) E R:=by
 have rise:=QoV U2 U1 h1.rise;have ad:U1.length<=(QcO U1 U2).length:=Qg5 (m:=[]) h1.rise rise fun x hx=>(QcT x U2 U1).2 (.inl hx);have ae:U2.length<=(QcO U1 U2).length:=Qg5 (m:=[]) h2.rise rise fun x hx=>(QcT x U2 U1).2 (.inr hx);have ab:g1∨40<U1.length->R1.length=64:=fun q=>by obtain ⟨_,b⟩:=h1.many q;exact (b.ok h1.okB).1
 have ac:g2∨40<U2.length->R2.length=64:=fun q=>by obtain ⟨_,b⟩:=h2.many q;exact (b.ok h2.okB).1
 refine ⟨rise,mx_ok h1.okB h2.okB,fun q=>?_,fun q1 q2=>?_,fun q=>?_⟩
 ·rw [h1.no (fun x=>q (.inl x)),h2.no (fun x=>q (.inr x))];exact QsQ QnJ
 ·obtain ⟨rfl,rfl⟩:=h1.few (fun x=>q1 (.inl x)) (by omega)
  obtain ⟨rfl,rfl⟩:=h2.few (fun x=>q1 (.inr x)) (by omega);have e:QmH E1 E2=QcO E1 E2:=QdD (Qdx h1.rise) E2;rcases hM with ⟨_,_,_,a,b⟩ | ⟨a,_⟩
  ·exact ⟨a.trans e,b⟩
  ·exact absurd ⟨rfl,rfl,by rw [e];exact q2⟩ a
 ·rcases hM with ⟨a,b,c,_,_⟩ | ⟨a,rfl,c⟩
  ·have n1:¬ (g1∨40<U1.length):=fun q=>by have:=ab q;omega
   have n2:¬ (g2∨40<U2.length):=fun q=>by have:=ac q;omega
   obtain ⟨rfl,rfl⟩:=h1.few (fun x=>n1 (.inl x)) (by omega);obtain ⟨rfl,rfl⟩:=h2.few (fun x=>n2 (.inl x)) (by omega);rw [QdD (Qdx h1.rise) E2] at c;rcases q with (q | q) | q
   ·exact absurd (.inl q) n1
   ·exact absurd (.inl q) n2
   ·omega
  ·obtain ⟨S1,l1,s1⟩:=h1.part
   obtain ⟨S2,l2,s2⟩:=h2.part;refine ⟨rfl,?_⟩;have aa:R2.length=0∨R2.length=64:=(Qc6 h2.right).2;rw [Qt9 (l1.ok h1.okB) aa] at c;refine (Laid.two h1.okB h2.okB l1 l2 (fun x=>Iff.rfl)).trans c (fun x=>?_);rw [QcT,Qmb,s1 x,s2 x];constructor
   ·rintro ((h | h) | (h | h)) <;> simp [h]
   ·rintro ((h | h) | (h | h)) <;> simp [h]
theorem Can.hash (x:Int):Can False [x] zer [x] []:=⟨by simp,QnJ,fun _=>rfl,fun _ _=>⟨rfl,rfl⟩,fun q=>by rcases q with q | q;exact q.elim;simp at q⟩
theorem QpC (h1:Can g1 U1 B1 E1 R1) (h2:Can g2 U2 B2 E2 R2) (hM:Qms E1 R1 E2 R2 E R):Can (g1∨g2) (QcO U1 U2) (mxx B1 B2) E R:=by
 unfold Qms at hM;rw [if_pos ⟨h1.right,h2.right⟩] at hM;exact mg_can h1 h2 hM
theorem Can.sub {g:Prop} (h:Can g U B E R):∀ x∈E,x∈U:=fun x hx=>by
 by_cases q:g∨40<U.length
 ·obtain ⟨rfl,_⟩:=h.many q;simp at hx
 ·obtain ⟨rfl,_⟩:=h.few (fun x=>q (.inl x)) (by omega);exact hx
theorem QjP (h:hlB E R=true) (k:hlB F S=true) (p:Qms E R F S A T):hlB A T=true:=(QpC (Can.self h) (Can.self k) p).right
theorem QtV (u:∀ y∈E,U64 y) (v:∀ y∈F,U64 y) (p:Qms E R F S A T):∀ y∈A,U64 y:=by
 by_cases hb:hlB E R=true/\hlB F S=true
 ·intro y hy
  have:=(QpC (Can.self hb.1) (Can.self hb.2) p).sub y hy;rw [QcT] at this;exact this.elim (u y) (v y)
 ·unfold Qms at p
  rw [if_neg hb] at p;rw [p.1];intro y hy;simp at hy
end
section
def Qfi (L:List Bn):Prop:=∀ (i j:Nat) (x y:Bn),L[i]?=some x->L[j]?=some y->i<j->x.1<y.1
end
variable {y:Bn}
section
def QmZ (x:Bn):List Bn->List Bn
 | []=>[x]
 | y :: r=>if y.1<x.1 then y :: QmZ x r else if y.1=x.1 then (y.1,QaD y.2 x.2) :: r else x :: y :: r
theorem rise_cons {r:List Bn}:Qfi (y :: r)↔(∀ x∈r,y.1<x.1)/\Qfi r:=by
 constructor
 ·intro h
  refine ⟨fun x hx=>?_,fun i j a b ha hb aa=>h (i+1) (j+1) a b (by simpa using ha) (by simpa using hb) (by omega)⟩;obtain ⟨j,hj⟩:=List.getElem?_of_mem hx;exact h 0 (j+1) y x rfl (by simpa using hj) (by omega)
 ·rintro ⟨h1,h2⟩ i j a b ha hb aa
  cases i with
  | zero=>
   obtain rfl:y=a:=by simpa using ha
   cases j with
   | zero=>omega
   | succ j=>exact h1 b (List.mem_of_getElem? (by simpa using hb))
  | succ i=>
   cases j with
   | zero=>omega
   | succ j=>exact h2 i j a b (by simpa using ha) (by simpa using hb) (by omega)
theorem Qen:Qfi []:=fun i j a b ha=>by simp at ha
theorem Qph {x:Bn}:∀ {L:List Bn} {z:Bn},z∈QmZ x L->z=x∨z∈L∨∃ y∈L,y.1=x.1/\z=(y.1,QaD y.2 x.2)
 | [],z,h=>by simp [QmZ] at h;exact .inl h
 | y :: r,z,h=>by
  unfold QmZ at h
  split at h
  ·rcases List.mem_cons.1 h with rfl | h
   ·exact .inr (.inl (List.mem_cons_self ..))
   ·rcases Qph h with h | h | ⟨q,hq,e,e2⟩
    ·exact .inl h
    ·exact .inr (.inl (ZZm _ h))
    ·exact .inr (.inr ⟨q,ZZm _ hq,e,e2⟩)
  ·split at h
   ·rename_i e
    rcases List.mem_cons.1 h with rfl | h
    ·exact .inr (.inr ⟨y,List.mem_cons_self ..,e,rfl⟩)
    ·exact .inr (.inl (ZZm _ h))
   ·rcases List.mem_cons.1 h with rfl | h
    ·exact .inl rfl
    ·exact .inr (.inl h)
theorem Qly {x:Bn}:∀ {L:List Bn},Qfi L->Qfi (QmZ x L)
 | [],_=>by rw [QmZ];exact rise_cons.2 ⟨fun z hz=>by simp at hz,Qen⟩
 | y :: r,h=>by
  obtain ⟨h1,h2⟩:=rise_cons.1 h;unfold QmZ
  split
  ·rename_i hlt
   refine rise_cons.2 ⟨fun z hz=>?_,Qly h2⟩;rcases Qph hz with rfl | hz | ⟨q,hq,e,rfl⟩
   ·exact hlt
   ·exact h1 z hz
   ·exact h1 q hq
  ·split
   ·exact rise_cons.2 ⟨fun z hz=>h1 z hz,h2⟩
   ·refine rise_cons.2 ⟨fun z hz=>?_,h⟩
    rcases List.mem_cons.1 hz with rfl | hz
    ·omega
    ·have:=h1 z hz;omega
def Qod (L M:List Bn):List Bn:=M.foldl (fun s x=>QmZ x s) L
theorem QfM:∀ {M L:List Bn},Qfi L->Qfi (Qod L M)
 | [],L,h=>h
 | x :: r,L,h=>QfM (M:=r) (Qly h)
end
variable {L N P a b:List Bn}
section
theorem Qd6 {x:Bn} (h:∀ y∈b,x.1<y.1):mrg (x :: a) b=x :: mrg a b:=by
 cases b with
 | nil=>rw [QbN,QbN]
 | cons y r=>exact QgN (h y (List.mem_cons_self ..))
theorem Qnc {y:Bn} {M:List Bn} (hM:∀ z∈M,y.1<z.1):∀ P:List Bn,mrg (QmZ y P) M=mrg P (y :: M)
 | []=>by rw [QmZ,Qdf,Qd6 hM,Qdf]
 | x :: r=>by
  unfold QmZ
  split
  ·rename_i h
   rw [QgN h,Qd6 (fun z hz=>by have:=hM z hz;omega),Qnc hM r]
  ·split
   ·rename_i h
    rw [Qjk h,Qd6 (fun z hz=>by have:=hM z hz;show x.1<z.1;omega)]
   ·rw [QjO (by omega),Qd6 hM]
theorem Qhh:∀ {N P:List Bn},Qfi N->Qod P N=mrg P N
 | [],P,_=>by rw [QbN];rfl
 | y :: N,P,h=>by
  obtain ⟨h1,h2⟩:=rise_cons.1 h
  show Qod (QmZ y P) N=_
  rw [Qhh h2,Qnc h1]
end
section
def Qtx (P N:List Bn) (v wt:Int):Prop:=skB P N=true/\(-999999999999999999<=v/\v<=999999999999999999)/\wt≠0
end
section
theorem QlO:∀ {L:List Bn} {q:Int},Qbk q L=true->Qfi L/\∀ x∈L,q<x.1
 | [],_,_=>⟨Qen,fun x hx=>by simp at hx⟩
 | y :: r,q,h=>by
  simp only [Qbk,Bool.and_eq_true,decide_eq_true_eq] at h;obtain ⟨⟨⟨h1,h2⟩,h3⟩,h4⟩:=h;obtain ⟨k1,k2⟩:=QlO h4;refine ⟨rise_cons.2 ⟨k2,k1⟩,fun x hx=>?_⟩;rcases List.mem_cons.1 hx with rfl | hx
  ·exact h1
  ·have:=k2 x hx;omega
theorem Qim (h:QaU L=true):Qfi L/\L.length<=30:=by
 unfold QaU at h;simp only [Bool.and_eq_true,decide_eq_true_eq] at h;exact ⟨(QlO h.2).1,h.1⟩
theorem Qda (h:skB P N=true):(Qfi P/\P.length<=30)/\Qfi N/\N.length<=30:=by
 unfold skB at h;simp only [Bool.and_eq_true] at h;exact ⟨Qim h.1,Qim h.2⟩
theorem QqO (x:Bn):Qfi [x]:=rise_cons.2 ⟨fun y hy=>by simp at hy,Qen⟩
end
variable {g g' o:Ag}
variable {a' m n t t' v:Int}
section
def QhQ (a t a' t':Int):Bool:=decide (t<t') || ((t' == t) && decide (a<a'))
def gA (a t a' t':Int):Int:=if QhQ a t a' t'=true then a' else a
def gT (a t a' t':Int):Int:=if QhQ a t a' t'=true then t' else t
def QmJ (g g':Ag) (E R:List Int):Ag:=⟨g.k,QaD g.s g'.s,Qbg g.h g.l g'.h g'.l,Qbl g.l g'.l,if g.k=2 then gA g.a g.t g'.a g'.t else 0,if g.k=2 then gT g.a g.t g'.a g'.t else 0,QaD g.z g'.z,Qaq (mrg g.P g'.P),Qaq (mrg g.N g'.N),Qbg g.x g.y g'.x g'.y,Qbl g.y g'.y,E,R⟩
def AgMrg (g g' o:Ag):Prop:=if agB g=true/\agB g'=true/\g.k=g'.k then ∃ E R,Mg g.E g.R g'.E g'.R E R/\o=QmJ g g' E R else o=Qe8
structure AgNo (g:Ag):Prop where
 k1:1<=g.k
 k4:g.k<=4
 sk:skB g.P g.N=true
 hl:hlB g.E g.R=true
 nc:g.k≠1->g.h=0/\g.l=0
 ng:g.k≠2->g.a=0/\g.t=0
 nh:g.k≠3->g.z=0/\g.x=0/\g.y=0/\g.P=[]/\g.N=[]
 ns:g.k≠4->g.E=[]/\g.R=[]
theorem Qa9 (h:agB g=true):AgNo g:=by
 unfold agB at h;simp only [Bool.and_eq_true,Bool.or_eq_true,decide_eq_true_eq,beq_iff_eq,Qpx,Qm9] at h;obtain ⟨⟨⟨⟨⟨⟨⟨h1,h2⟩,h3⟩,h4⟩,h5⟩,h6⟩,h7⟩,h8⟩:=h;refine ⟨h1,h2,h3,h4,fun n=>?_,fun n=>?_,fun n=>?_,fun n=>?_⟩
 ·rcases h5 with h | h
  ·exact absurd h n
  ·simpa [Qij] using h
 ·rw [if_neg n] at h8;simpa using h8
 ·exact h6.elim (fun e=>absurd e n) id
 ·exact h7.elim (fun e=>absurd e n) id
theorem Qlm:Mg [] [] [] [] [] []:=.inl ⟨rfl,rfl,by simp [QmH,QcO],rfl,rfl⟩
theorem Qej:Qaq (mrg [] [])=[]:=by simp [mrg,Qaq]
theorem QfD:QaD 0 0=0:=by decide
theorem Qdm:Qbg 0 0 0 0=0:=by decide +kernel
theorem QdE:Qbl 0 0=0:=by decide
theorem mrgC (h:agB g=true) (h':agB g'=true) (e:g.k=g'.k) (k:g.k=1):AgMrg g g' ⟨1,QaD g.s g'.s,Qbg g.h g.l g'.h g'.l,Qbl g.l g'.l,0,0,0,[],[],0,0,[],[]⟩:=by
 have n:=Qa9 h;have n':=Qa9 h';unfold AgMrg;rw [if_pos ⟨h,h',e⟩];obtain ⟨a1,a2,a3,a4,a5⟩:=n.nh (by omega);obtain ⟨b1,b2,b3,b4,b5⟩:=n'.nh (by omega);obtain ⟨c1,c2⟩:=n.ns (by omega);obtain ⟨d1,d2⟩:=n'.ns (by omega);refine ⟨[],[],by rw [c1,c2,d1,d2];exact Qlm,?_⟩;unfold QmJ;rw [if_neg (by omega),if_neg (by omega),a1,a2,a3,a4,a5,b1,b2,b3,b4,b5,k,Qej,QfD,Qdm,QdE]
theorem mrgG (h:agB g=true) (h':agB g'=true) (e:g.k=g'.k) (k:g.k=2):AgMrg g g' ⟨2,QaD g.s g'.s,0,0,gA g.a g.t g'.a g'.t,gT g.a g.t g'.a g'.t,0,[],[],0,0,[],[]⟩:=by
 have n:=Qa9 h;have n':=Qa9 h';unfold AgMrg;rw [if_pos ⟨h,h',e⟩];obtain ⟨a1,a2,a3,a4,a5⟩:=n.nh (by omega);obtain ⟨b1,b2,b3,b4,b5⟩:=n'.nh (by omega);obtain ⟨c1,c2⟩:=n.ns (by omega);obtain ⟨d1,d2⟩:=n'.ns (by omega);obtain ⟨e1,e2⟩:=n.nc (by omega);obtain ⟨f1,f2⟩:=n'.nc (by omega);refine ⟨[],[],by rw [c1,c2,d1,d2];exact Qlm,?_⟩;unfold QmJ;rw [if_pos k,if_pos k,a1,a2,a3,a4,a5,b1,b2,b3,b4,b5,e1,e2,f1,f2,k,Qej,QfD,Qdm,QdE]
theorem mrgH (h:agB g=true) (h':agB g'=true) (e:g.k=g'.k) (k:g.k=3):AgMrg g g' ⟨3,QaD g.s g'.s,0,0,0,0,QaD g.z g'.z,Qaq (mrg g.P g'.P),Qaq (mrg g.N g'.N),Qbg g.x g.y g'.x g'.y,Qbl g.y g'.y,[],[]⟩:=by
 have n:=Qa9 h;have n':=Qa9 h';unfold AgMrg;rw [if_pos ⟨h,h',e⟩];obtain ⟨c1,c2⟩:=n.ns (by omega);obtain ⟨d1,d2⟩:=n'.ns (by omega);obtain ⟨e1,e2⟩:=n.nc (by omega);obtain ⟨f1,f2⟩:=n'.nc (by omega);refine ⟨[],[],by rw [c1,c2,d1,d2];exact Qlm,?_⟩;unfold QmJ;rw [if_neg (by omega),if_neg (by omega),e1,e2,f1,f2,k,Qdm,QdE]
theorem mrgS (h:agB g=true) (h':agB g'=true) (e:g.k=g'.k) (k:g.k=4) (m:Qms g.E g.R g'.E g'.R E R):AgMrg g g' ⟨4,QaD g.s g'.s,0,0,0,0,0,[],[],0,0,E,R⟩:=by
 have n:=Qa9 h;have n':=Qa9 h';unfold AgMrg;rw [if_pos ⟨h,h',e⟩];obtain ⟨a1,a2,a3,a4,a5⟩:=n.nh (by omega);obtain ⟨b1,b2,b3,b4,b5⟩:=n'.nh (by omega);obtain ⟨e1,e2⟩:=n.nc (by omega);obtain ⟨f1,f2⟩:=n'.nc (by omega);unfold Qms at m;rw [if_pos ⟨n.hl,n'.hl⟩] at m;refine ⟨E,R,m,?_⟩;unfold QmJ;rw [if_neg (by omega),if_neg (by omega),a1,a2,a3,a4,a5,b1,b2,b3,b4,b5,e1,e2,f1,f2,k,Qej,QfD,Qdm,QdE]
theorem Qhu {a:Int} (h:QhQ a t a' t'=true):gA a t a' t'=a'/\gT a t a' t'=t':=⟨if_pos h,if_pos h⟩
theorem Qmc {a:Int} (h:¬ QhQ a t a' t'=true):gA a t a' t'=a/\gT a t a' t'=t:=⟨if_neg h,if_neg h⟩
end
section
def QbT (k:Int):Ag:=if 1<=k/\k<=4 then ⟨k,0,0,0,0,if k=2 then -1 else 0,0,[],[],0,0,[],[]⟩ else ⟨0,0,0,0,0,0,0,[],[],0,0,[],[]⟩
abbrev QlW (kd t:Int):Value:=.agg #[.int .i64 kd,.int .u64 0,.int .i64 0,.int .u64 0,.int .i64 0,.int .i64 t,.int .u64 0,.slice none 0 0,.slice none 0 0,.int .i64 0,.int .u64 0,.slice none 0 0,.slice none 0 0]
theorem QeW (n lo hi:Int) (w:World):Calls prog 18 #[.int .i64 n,.int .i64 lo,.int .i64 hi] w fun e w'=>e=.returned (.bool (decide (lo<=n) && decide (n<=hi)))/\w'=w:=by
 by_cases h1:lo<=n <;> by_cases h2:n<=hi <;> (go_enter func18,ntmps18;go_wp2;go_ret;exact ⟨by simp [h1,h2],rfl⟩)
theorem Qha (k:Int) (w:World):Calls prog 82 #[.int .i64 k] w fun e w'=>e=.returned (QlW (QbT k).k (QbT k).t)/\Below w.heap.size w w':=by
 by_cases aa:1<=k/\k<=4
 ·have hb:(decide (1<=k) && decide (k<=4))=true:=by simp [aa.1,aa.2]
  by_cases h2:k=2
  ·have HE:Hid ((QbT k).k=k/\(QbT k).t=-1):=by unfold QbT;rw [if_pos aa];exact ⟨rfl,by simp [h2]⟩
   have b2:(k == 2)=true:=by simp [h2]
   clear aa h2;go_enter func82,ntmps82;go_wp2_with (go_at_call 18;refine (QeW _ _ _ _).mono ?_;rintro e w1 ⟨rfl,hw⟩;subst hw;rw [hb]);exact bodyPost_ret (v:=QlW k (-1)) (by simp [results,results82,go_sem]) rfl ⟨by rw [HE.out.1,HE.out.2],((Below.refl _ _).alloc (Nat.le_refl _) _).alloc (by simp) _⟩
  ·have HE:Hid ((QbT k).k=k/\(QbT k).t=0):=by unfold QbT;rw [if_pos aa];exact ⟨rfl,by simp [h2]⟩
   have b2:(k == 2)=false:=ZZf.2 h2;clear aa h2;go_enter func82,ntmps82;go_wp2_with (go_at_call 18;refine (QeW _ _ _ _).mono ?_;rintro e w1 ⟨rfl,hw⟩;subst hw;rw [hb]);exact bodyPost_ret (v:=QlW k 0) (by simp [results,results82,go_sem]) rfl ⟨by rw [HE.out.1,HE.out.2],((Below.refl _ _).alloc (Nat.le_refl _) _).alloc (by simp) _⟩
 ·have hb:(decide (1<=k) && decide (k<=4))=false:=by
   rw [Bool.eq_false_iff];intro hh;simp at hh;exact aa hh
  have HE:Hid ((QbT k).k=0/\(QbT k).t=0):=by unfold QbT;rw [if_neg aa];exact ⟨rfl,rfl⟩
  clear aa;go_enter func82,ntmps82;go_wp2_with (go_at_call 18;refine (QeW _ _ _ _).mono ?_;rintro e w1 ⟨rfl,hw⟩;subst hw;rw [hb]);exact bodyPost_ret (v:=QlW 0 0) (by simp [results,results82,go_sem]) rfl ⟨by rw [HE.out.1,HE.out.2],(Below.refl _ _).alloc (Nat.le_refl _) _⟩
end
section
def Qkz (t:Int):Int:=if 18446744073709551615<t then 18446744073709551615 else t
def QlM (L:List Bn):Int:=(L.map (fun x=>x.2)).sum
theorem QrY (a b:Int):QaD a b=Qkz (a+b):=rfl
theorem QtG {a b:Int} (ha:0<=a) (hb:0<=b):Qkz (Qkz a+b)=Qkz (a+b):=by
 unfold Qkz
 split <;> split <;> omega
theorem Qew (x:Bn) (L:List Bn):QlM (x :: L)=x.2+QlM L:=by simp [QlM]
theorem Qrf:QlM []=0:=rfl
theorem QrA (a b:List Bn):QlM (a ++ b)=QlM a+QlM b:=by simp [QlM,List.sum_append]
theorem Qhm:∀ {L:List Bn},(∀ x∈L,Qbw x)->0<=QlM L
 | [],_=>by simp [QlM]
 | x :: L,h=>by
  rw [Qew];have h1:=(h x (List.mem_cons_self ..)).2.1;have h2:=Qhm (L:=L) (fun y hy=>h y (ZZm _ hy));omega
theorem QiA:∀ {L:List Bn} {x:Int},0<=x->(∀ y∈L,Qbw y)->Qdc (Qkz x) L=Qkz (x+QlM L)
 | [],x,hx,_=>by simp [Qdc,QlM]
 | y :: L,x,hx,h=>by
  have h1:=(h y (List.mem_cons_self ..)).2.1
  show Qdc (QaD (Qkz x) y.2) L=_
  rw [QrY,QtG hx h1,QiA (by omega) (fun z hz=>h z (List.mem_cons_of_mem _ hz)),Qew,Int.add_assoc]
def Qsx (m:Int) (L:List Bn):List Bn:=L.filter (fun x=>decide (x.1<=m))
def Qko (m:Int) (L:List Bn):List Bn:=L.filter (fun x=>decide (m<x.1))
theorem Qn1 {x:Bn} (h:x.1<=m):Qsx m (x :: L)=x :: Qsx m L:=by simp [Qsx,h]
theorem QoD {x:Bn} (h:x.1<=m):Qko m (x :: L)=Qko m L:=List.filter_cons_of_neg (by simp;omega)
theorem Qrh (h:∀ x∈L,m<x.1):Qko m L=L:=List.filter_eq_self.2 (fun x hx=>ZZh (h x hx))
theorem Qrg (h:∀ x∈L,m<x.1):Qsx m L=[]:=List.filter_eq_nil_iff.2 (fun x hx=>by have:=h x hx;simp;omega)
theorem Qln:∀ (n:Nat) (a b:List Bn),a.length+b.length<=n->(∀ x∈a,Qbw x)->(∀ x∈b,Qbw x)->∀ x∈mrg a b,Qbw x
 | _,[],b,_,_,kb=>by rw [Qdf];exact kb
 | _,y :: a,[],_,ka,_=>by rw [QbN];exact ka
 | 0,y :: a,z :: b,h,_,_=>by simp at h
 | n+1,y :: a,z :: b,h,ka,kb=>by
  simp only [List.length_cons] at h;have ka':∀ x∈a,Qbw x:=fun u hu=>ka u (ZZm _ hu);have kb':∀ x∈b,Qbw x:=fun u hu=>kb u (ZZm _ hu);have uy:=ka y (List.mem_cons_self ..);have uz:=kb z (List.mem_cons_self ..);intro x hx;rcases Int.lt_trichotomy y.1 z.1 with c | c | c
  ·rw [QgN c] at hx
   rcases List.mem_cons.1 hx with rfl | hx
   ·exact uy
   ·exact Qln n a (z :: b) (by simp only [List.length_cons];omega) ka' kb x hx
  ·rw [Qjk c] at hx
   rcases List.mem_cons.1 hx with rfl | hx
   ·exact ⟨uy.1,Qh1 uy.2 uz.2⟩
   ·exact Qln n a b (by omega) ka' kb' x hx
  ·rw [QjO c] at hx
   rcases List.mem_cons.1 hx with rfl | hx
   ·exact uz
   ·exact Qln n (y :: a) b (by simp only [List.length_cons];omega) ka kb' x hx
theorem QsE (h:∀ x∈L,Qbw x):∀ x∈Qsx m L,Qbw x:=fun x hx=>h x (List.mem_filter.1 hx).1
theorem QtA (h:∀ x∈L,Qbw x):∀ x∈Qko m L,Qbw x:=fun x hx=>h x (List.mem_filter.1 hx).1
theorem QiW:∀ {L:List Bn} {k:Nat} {x:Bn},Qfi L->L[k]?=some x->Qsx x.1 L=L.take (k+1)/\Qko x.1 L=L.drop (k+1)
 | [],k,x,_,h=>by simp at h
 | y :: r,0,x,hr,h=>by
  obtain rfl:y=x:=by simpa using h
  have hc:=rise_cons.1 hr;rw [Qn1 (Int.le_refl _),QoD (Int.le_refl _),Qrg hc.1,Qrh hc.1];simp
 | y :: r,k+1,x,hr,h=>by
  have hc:=rise_cons.1 hr;have hx:r[k]?=some x:=by simpa using h
  have aa:=hc.1 x (ZZn hx);obtain ⟨h1,h2⟩:=QiW hc.2 hx;rw [Qn1 (by omega),QoD (by omega),h1,h2];simp
theorem QlY (hr:Qfi L) (hk:∀ x∈L,Qbw x) (h:30<L.length) :
  ∃ m,(∃ y∈L,y.1=m)/\Qaq L=(m,Qkz (QlM (Qsx m L))) :: Qko m L/\(Qko m L).length=29:=by
 obtain ⟨x,hx⟩:∃ x,L[L.length - 30]?=some x:=⟨L[L.length - 30]'(by omega),ZZe _⟩;obtain ⟨h1,h2⟩:=QiW hr hx;refine ⟨x.1,⟨x,List.mem_of_getElem? hx,rfl⟩,?_,by rw [h2,List.length_drop];omega⟩
 have hd:L.drop (L.length - 30)=x :: L.drop (L.length - 30+1):=by
  rw [List.drop_eq_getElem_cons (by omega),(List.getElem?_eq_some_iff.1 hx).2]
 unfold Qaq;rw [if_neg (by omega),hd];simp only;rw [h1,h2];have ux:=(hk x (ZZn hx)).2;have e0:x.2=Qkz x.2:=by unfold Qkz;unfold U64 at ux;split <;> omega
 have e1:L.take (L.length - 30+1)=L.take (L.length - 30) ++ [x]:=by rw [List.take_add_one,hx];rfl
 rw [e1,QrA,Qew,Qrf]
 congr 2
 have:=QiA (x:=x.2) (L:=L.take (L.length - 30)) ux.1 (fun y hy=>hk y (ZZo hy));rw [<- e0] at this;rw [this]
 congr 1;omega
end
section
theorem Qle (ha:Qfi a) (hb:Qfi b):Qfi (mrg a b):=by rw [<- Qhh hb];exact QfM ha
theorem Qd2 (p:Bn->Bool):∀ {L:List Bn},Qfi L->Qfi (L.filter p)
 | [],_=>Qen
 | y :: r,h=>by
  have hc:=rise_cons.1 h;by_cases k:p y=true
  ·rw [List.filter_cons_of_pos k]
   exact rise_cons.2 ⟨fun x hx=>hc.1 x (List.mem_filter.1 hx).1,Qd2 p hc.2⟩
  ·rw [List.filter_cons_of_neg k]
   exact Qd2 p hc.2
theorem cap_in (h:0<=t):U64 (Qkz t):=by unfold Qkz U64;split <;> omega
theorem Qok (hr:Qfi L) (hk:∀ x∈L,Qbw x):Qfi (Qaq L)/\∀ x∈Qaq L,Qbw x:=by
 by_cases c:30<L.length
 ·obtain ⟨m,⟨y,hy,ey⟩,e,h2⟩:=QlY hr hk c
  rw [e];refine ⟨rise_cons.2 ⟨fun x hx=>of_decide_eq_true (List.mem_filter.1 hx).2,Qd2 _ hr⟩,fun x hx=>?_⟩;rcases List.mem_cons.1 hx with rfl | hx
  ·exact ⟨by show I64 m;rw [<- ey];exact (hk y hy).1,cap_in (Qhm (QsE hk))⟩
  ·exact QtA hk x hx
 ·unfold Qaq;rw [if_pos (by omega)];exact ⟨hr,hk⟩
end
section
def BnR (x:Bn):Prop:=0<x.1/\x.1<=6878/\x.2≠0
theorem QjM:∀ {L:List Bn} {q:Int},Qbk q L=true↔Qfi L/\∀ x∈L,q<x.1/\x.1<=6878/\x.2≠0
 | [],q=>⟨fun _=>⟨Qen,fun x hx=>by simp at hx⟩,fun _=>rfl⟩
 | y :: r,q=>by
  simp only [Qbk,Bool.and_eq_true,decide_eq_true_eq,QjM (L:=r)];constructor
  ·rintro ⟨⟨⟨h1,h2⟩,h3⟩,h4,h5⟩
   refine ⟨rise_cons.2 ⟨fun x hx=>(h5 x hx).1,h4⟩,fun x hx=>?_⟩;rcases List.mem_cons.1 hx with rfl | hx
   ·exact ⟨h1,h2,h3⟩
   ·have:=h5 x hx;exact ⟨by omega,this.2⟩
  ·rintro ⟨h1,h2⟩
   have h0:=h2 y List.mem_cons_self;exact ⟨⟨⟨h0.1,h0.2.1⟩,h0.2.2⟩,(rise_cons.1 h1).2,fun x hx=>⟨(rise_cons.1 h1).1 x hx,(h2 x (ZZm _ hx)).2⟩⟩
theorem binsB_iff:QaU L=true↔L.length<=30/\Qfi L/\∀ x∈L,BnR x:=by
 unfold QaU BnR;simp only [Bool.and_eq_true,decide_eq_true_eq,QjM]
theorem QtD {a b:Int} (ha:U64 a) (hb:U64 b) (h:a≠0):QaD a b≠0:=by unfold QaD;unfold U64 at *; split <;> omega
theorem mrg_R (ka:∀ x∈a,Qbw x) (kb:∀ x∈b,Qbw x) (ha:∀ x∈a,BnR x) (hb:∀ x∈b,BnR x):∀ z∈mrg a b,BnR z:=by
 induction a,b using mrg.induct with
 | case1 b=>rw [Qdf];exact hb
 | case2 x a=>rw [QbN];exact ha
 | case3 x a y b h ih=>
  rw [QgN h];intro z hz;rcases List.mem_cons.1 hz with rfl | hz
  ·exact ha _ List.mem_cons_self
  ·exact ih (fun u hu=>ka u (ZZm _ hu)) kb (fun u hu=>ha u (ZZm _ hu)) hb z hz
 | case4 x a y b h h' ih=>
  rw [QjO h'];intro z hz;rcases List.mem_cons.1 hz with rfl | hz
  ·exact hb _ List.mem_cons_self
  ·exact ih ka (fun u hu=>kb u (ZZm _ hu)) ha (fun u hu=>hb u (ZZm _ hu)) z hz
 | case5 x a y b h h' ih=>
  rw [Qjk (by omega)];intro z hz;rcases List.mem_cons.1 hz with rfl | hz
  ·have h1:=ha x List.mem_cons_self
   exact ⟨h1.1,h1.2.1,QtD (ka x List.mem_cons_self).2 (kb y List.mem_cons_self).2 h1.2.2⟩
  ·exact ih (fun u hu=>ka u (ZZm _ hu)) (fun u hu=>kb u (ZZm _ hu)) (fun u hu=>ha u (ZZm _ hu)) (fun u hu=>hb u (ZZm _ hu)) z hz
theorem Qtn (hk:∀ x∈L,Qbw x) (hy:y∈L):y.2<=QlM L:=by
 induction L with
 | nil=>simp at hy
 | cons x r ih=>
  have h0:=Qhm (fun z hz=>hk z (ZZm _ hz));have h1:=(hk x List.mem_cons_self).2.1;rw [Qew];rcases List.mem_cons.1 hy with rfl | hy
  ·omega
  ·have:=ih (fun z hz=>hk z (ZZm _ hz)) hy;omega
theorem keep_R (hr:Qfi L) (hk:∀ x∈L,Qbw x) (hR:∀ x∈L,BnR x):∀ x∈Qaq L,BnR x:=by
 by_cases h:30<L.length
 ·obtain ⟨m,⟨y,hy,rfl⟩,e,_⟩:=QlY hr hk h
  rw [e];intro x hx;have h1:=hR y hy;rcases List.mem_cons.1 hx with rfl | hx
  ·have aa:y∈Qsx y.1 L:=List.mem_filter.2 ⟨hy,ZZh (Int.le_refl _)⟩
   have h2:=Qtn (QsE (m:=y.1) hk) aa;have h3:=(hk y hy).2.1;have h4:=h1.2.2;exact ⟨h1.1,h1.2.1,by show Qkz _≠0;unfold Qkz;split <;> omega⟩
  ·exact hR x (List.mem_filter.1 hx).1
 ·have:Qaq L=L:=by unfold Qaq;rw [if_pos (by omega)]
  rw [this];exact hR
theorem QmI (L:List Bn):(Qaq L).length<=30:=by
 unfold Qaq
 split
 ·assumption
 ·have hd:(L.drop (L.length - 30)).length=30:=by rw [List.length_drop];omega
  split
  ·rename_i h;rw [h] at hd;simp at hd
  ·rename_i h;rw [h] at hd;simp at hd ⊢; omega
theorem Qfu {A B:List Bn} (hA:QaU A=true) (hB:QaU B=true) (kA:∀ x∈A,Qbw x) (kB:∀ x∈B,Qbw x):QaU (Qaq (mrg A B))=true/\∀ x∈Qaq (mrg A B),Qbw x:=by
 obtain ⟨_,a2,a3⟩:=binsB_iff.1 hA;obtain ⟨_,b2,b3⟩:=binsB_iff.1 hB;have kM:=Qln _ A B (ZZa _) kA kB;have g:=Qok (Qle a2 b2) kM;exact ⟨binsB_iff.2 ⟨QmI _,g.1,keep_R (Qle a2 b2) kM (mrg_R kA kB a3 b3)⟩,g.2⟩
theorem skB_and:skB P N=true↔QaU P=true/\QaU N=true:=by unfold skB;simp
theorem sk_mrg {P' N':List Bn} (h:skB P N=true) (h':skB P' N'=true) (kP:∀ x∈P,Qbw x) (kN:∀ x∈N,Qbw x) (kP':∀ x∈P',Qbw x) (kN':∀ x∈N',Qbw x) :
  skB (Qaq (mrg P P')) (Qaq (mrg N N'))=true:=
 skB_and.2 ⟨(Qfu (skB_and.1 h).1 (skB_and.1 h').1 kP kP').1,(Qfu (skB_and.1 h).2 (skB_and.1 h').2 kN kN').1⟩
end
section
structure T5 where
 z:Int
 P:List Bn
 N:List Bn
 h:Int
 l:Int
def T5.M (a b:T5):T5:=⟨QaD a.z b.z,Qaq (mrg a.P b.P),Qaq (mrg a.N b.N),Qbg a.h a.l b.h b.l,Qbl a.l b.l⟩
structure T5.Ok (a:T5):Prop where
 hz:U64 a.z
 hl:U64 a.l
 kP:∀ x∈a.P,Qbw x
 kN:∀ x∈a.N,Qbw x
structure T5.Good (a:T5):Prop extends T5.Ok a where
 sk:skB a.P a.N=true
def Qqg (v w:Int):T5:=⟨if v=0 then w else 0,if 0<v then [(Qc7 v,w)] else [],if v<0 then [(Qc7 (-v),w)] else [],thH v w,thL v w⟩
theorem Qu7 {v:Nat} (h:1<=v):1<=QcZ v:=by
 unfold QcZ;split <;> omega
theorem binI_1 (h:1<=v) (h2:v<=999999999999999999):1<=Qc7 v:=by
 rw [Qfq h h2];have:=Qu7 (v:=v.toNat) (by omega);omega
theorem Qit:QaU []=true:=by decide
theorem QiI {w:Int} (h:1<=v) (h2:v<=999999999999999999) (hw:w≠0):QaU [(Qc7 v,w)]=true:=by
 refine binsB_iff.2 ⟨by simp,QqO _,fun x hx=>?_⟩;obtain rfl:=List.mem_singleton.1 hx;exact ⟨by have:=binI_1 h h2;show 0<Qc7 v;omega,(QhK v).2,hw⟩
theorem Qn2 {w:Int} (hw:U64 w):∀ x∈[(Qc7 v,w)],Qbw x:=fun x hx=>by
 obtain rfl:=List.mem_singleton.1 hx;have:=QhK v;exact ⟨by show I64 (Qc7 v);unfold I64;omega,hw⟩
theorem QlK {w:Int} (hv:-999999999999999999<=v/\v<=999999999999999999) (hw:U64 w) (h0:w≠0):(Qqg v w).Good:=by
 refine ⟨⟨?_,Qi4 _,?_,?_⟩,?_⟩
 ·show U64 (if v=0 then w else 0);split
  ·exact hw
  ·unfold U64;omega
 ·show ∀ x∈(if 0<v then [(Qc7 v,w)] else []),Qbw x;split
  ·exact Qn2 hw
  ·intro x hx;simp at hx
 ·show ∀ x∈(if v<0 then [(Qc7 (-v),w)] else []),Qbw x;split
  ·exact Qn2 hw
  ·intro x hx;simp at hx
 ·show skB (if 0<v then [(Qc7 v,w)] else []) (if v<0 then [(Qc7 (-v),w)] else [])=true
  refine skB_and.2 ⟨?_,?_⟩
  ·split
   ·exact QiI (by omega) (by omega) h0
   ·exact Qit
  ·split
   ·exact QiI (by omega) (by omega) h0
   ·exact Qit
theorem Qiz (h:P.length<=30):Qaq P=P:=by unfold Qaq;rw [if_pos h]
theorem wAdd_0 {z:Int} (h:U64 z):QaD z 0=z:=by unfold QaD;unfold U64 at h;rw [if_neg (by omega),Int.add_zero]
structure PutIs (a b:T5) (v w:Int):Prop where
 yes:Qtx a.P a.N v w->b=⟨QmX a.z v w,Qee a.P v w,Qeb a.N v w,Qbg a.h a.l (thH v w) (thL v w),Qbl a.l (thL v w)⟩
 no:¬ Qtx a.P a.N v w->b=a
theorem PutIs.M {a b:T5} {w:Int} (h:PutIs a b v w) (ha:a.Ok) (ok:Qtx a.P a.N v w):b=a.M (Qqg v w):=by
 rw [h.yes ok];have r:=Qda ok.1;unfold T5.M Qqg QmX Qee Qeb;dsimp only
 congr 1
 ·split
  ·rfl
  ·rw [wAdd_0 ha.hz]
 ·split
  ·rfl
  ·rw [QbN,Qiz r.1.2]
 ·split
  ·rfl
  ·rw [QbN,Qiz r.2.2]
end
variable {x:Sx}
variable {s:ByteArray}
section
theorem QmR (h:QbG s=true):s.size<=40:=by
 unfold QbG at h;simp only [Bool.and_eq_true,decide_eq_true_eq] at h;omega
def Qg9 (x:Sx):Ag:=
 if x.k=1 then ⟨1,1,thH x.v x.wt,thL x.v x.wt,0,0,0,[],[],0,0,[],[]⟩
 else if x.k=2 then ⟨2,1,0,0,x.v,x.ti,0,[],[],0,0,[],[]⟩
 else if x.k=3 then ⟨3,1,0,0,0,0,(Qqg x.v x.wt).z,(Qqg x.v x.wt).P,(Qqg x.v x.wt).N,thH x.v x.wt,thL x.v x.wt,[],[]⟩
 else ⟨4,1,0,0,0,0,0,[],[],0,0,[Qbx x.wd],[]⟩
theorem QbB (h:x.B=true):(1<=x.k/\x.k<=4)/\(-999999999999999999<=x.v/\x.v<=999999999999999999)/\x.wt≠0/\(0<=x.ti/\x.ti<=1000000000)/\x.wd.size<=40:=by
 unfold Sx.B Qlt at h;simp only [Bool.and_eq_true] at h;obtain ⟨⟨⟨⟨h1,_⟩,h2⟩,h3⟩,h4⟩:=h;unfold QqF at h1;simp only [Bool.and_eq_true,decide_eq_true_eq] at h1
 have a2:(-999999999999999999<=x.v/\x.v<=999999999999999999)/\x.wd.size<=40:=by
  unfold QrX at h2
  split at h2
  ·simp only [Bool.and_eq_true,decide_eq_true_eq] at h2
   exact ⟨by omega,QmR h2.2⟩
  ·unfold valB at h2
   simp only [Bool.and_eq_true,decide_eq_true_eq] at h2;exact ⟨h2.1,by omega⟩
 have a3:x.wt≠0:=by
  unfold QfI at h3;simp only [Bool.and_eq_true,Bool.or_eq_true,decide_eq_true_eq] at h3;omega
 have a4:0<=x.ti/\x.ti<=1000000000:=by
  unfold QmP at h4
  split at h4
  ·simpa using h4
  ·simp only [decide_eq_true_eq] at h4;omega
 exact ⟨h1,a2.1,a3,a4,a2.2⟩
theorem QgM (h:x.B=true):(Qg9 x).k=x.k:=by
 have p:=(QbB h).1;unfold Qg9
 split
 ·show (1:Int)=x.k;omega
 split
 ·show (2:Int)=x.k;omega
 split
 ·show (3:Int)=x.k;omega
 ·show (4:Int)=x.k;omega
theorem Qb8 (ok:x.Ok) (h:x.B=true):agB (Qg9 x)=true:=by
 obtain ⟨p1,p2,p3,p4,p5⟩:=QbB h;unfold Qg9
 split
 ·simp [agB,Qj4,Qkw,noS,QcN,noH]
 split
 ·have:Qc9 ⟨2,1,0,0,x.v,x.ti,0,[],[],0,0,[],[]⟩=true:=by
   unfold Qc9 QpS;simp only [Bool.and_eq_true,Bool.or_eq_true,decide_eq_true_eq];omega
  simp [agB,Qj4,Qkw,noS,QcN,noH,Qij,this]
 split
 ·have g:=(QlK p2 ok.wt p3).sk
  simp [agB,g,Qkw,noS,QcN,noH,Qij]
 ·have:hlB [Qbx x.wd] []=true:=(Can.hash _).right
  simp [agB,Qj4,this,noS,QcN,noH,Qij]
def Qcd (g:Ag) (x:Sx) (o:Ag):Prop:=if agB g=true/\x.B=true/\g.k=x.k then AgMrg g (Qg9 x) o else o=g
section
variable {g:Ag} {x:Sx} (ok:x.Ok) (hg:agB g=true) (hx:x.B=true) (e:g.k=x.k)
include ok hg hx e
theorem putC (k:g.k=1):Qcd g x ⟨1,QaD g.s 1,Qbg g.h g.l (thH x.v x.wt) (thL x.v x.wt),Qbl g.l (thL x.v x.wt),0,0,0,[],[],0,0,[],[]⟩:=by
 unfold Qcd;rw [if_pos ⟨hg,hx,e⟩];have:=mrgC hg (Qb8 ok hx) (e.trans (QgM hx).symm) k;have e1:Qg9 x=⟨1,1,thH x.v x.wt,thL x.v x.wt,0,0,0,[],[],0,0,[],[]⟩:=by unfold Qg9;rw [if_pos (by omega)]
 rw [e1] at this ⊢;exact this
theorem putG (k:g.k=2):Qcd g x ⟨2,QaD g.s 1,0,0,gA g.a g.t x.v x.ti,gT g.a g.t x.v x.ti,0,[],[],0,0,[],[]⟩:=by
 unfold Qcd;rw [if_pos ⟨hg,hx,e⟩];have:=mrgG hg (Qb8 ok hx) (e.trans (QgM hx).symm) k;have e1:Qg9 x=⟨2,1,0,0,x.v,x.ti,0,[],[],0,0,[],[]⟩:=by unfold Qg9;rw [if_neg (by omega),if_pos (by omega)]
 rw [e1] at this ⊢;exact this
theorem putHs (k:g.k=3) (go:AgOk g):Qcd g x ⟨3,QaD g.s 1,0,0,0,0,QmX g.z x.v x.wt,Qee g.P x.v x.wt,Qeb g.N x.v x.wt,Qbg g.x g.y (thH x.v x.wt) (thL x.v x.wt),Qbl g.y (thL x.v x.wt),[],[]⟩:=by
 unfold Qcd;rw [if_pos ⟨hg,hx,e⟩];obtain ⟨p1,p2,p3,p4,p5⟩:=QbB hx;have hm:=mrgH hg (Qb8 ok hx) (e.trans (QgM hx).symm) k;have e1:Qg9 x=⟨3,1,0,0,0,0,(Qqg x.v x.wt).z,(Qqg x.v x.wt).P,(Qqg x.v x.wt).N,thH x.v x.wt,thL x.v x.wt,[],[]⟩:=by unfold Qg9;rw [if_neg (by omega),if_neg (by omega),if_pos (by omega)]
 rw [e1] at hm ⊢;have q:PutIs ⟨g.z,g.P,g.N,g.x,g.y⟩ ⟨QmX g.z x.v x.wt,Qee g.P x.v x.wt,Qeb g.N x.v x.wt,Qbg g.x g.y (thH x.v x.wt) (thL x.v x.wt),Qbl g.y (thL x.v x.wt)⟩ x.v x.wt:=⟨fun _=>rfl,fun h=>absurd ⟨(Qa9 hg).sk,p2,p3⟩ h⟩;have:=q.M ⟨go.z,go.y,go.P,go.N⟩ ⟨(Qa9 hg).sk,p2,p3⟩;unfold T5.M at this;simp only [T5.mk.injEq] at this;obtain ⟨q1,q2,q3,q4,q5⟩:=this;rw [q1,q2,q3];exact hm
theorem putS (k:g.k=4) (m:PutH g.E g.R (Qbx x.wd) E R):Qcd g x ⟨4,QaD g.s 1,0,0,0,0,0,[],[],0,0,E,R⟩:=by
 unfold Qcd;rw [if_pos ⟨hg,hx,e⟩];have e1:Qg9 x=⟨4,1,0,0,0,0,0,[],[],0,0,[Qbx x.wd],[]⟩:=by unfold Qg9;rw [if_neg (by omega),if_neg (by omega),if_neg (by omega)]
 have hh:hlB [Qbx x.wd] []=true:=(Can.hash _).right
 have mm:Qms g.E g.R (Qg9 x).E (Qg9 x).R E R:=by
  rw [e1];unfold PutH at m;rw [if_pos (Qa9 hg).hl] at m;unfold Qms;rw [if_pos ⟨(Qa9 hg).hl,hh⟩];exact m
 have:=mrgS hg (Qb8 ok hx) (e.trans (QgM hx).symm) k mm;rw [e1] at this ⊢;exact this
end
end
section
theorem Qrq (s:ByteArray):U64 (Qbx s):=by have:=hx_in s s.size;unfold Qbx U64;omega
end
section
theorem QtK (w:World) (g:Ag) (p:Pl) (x:Sx):Hid (Below w.heap.size w (((w.alloc (.cells (Qan g p) 90)).alloc (.cells (QcA x) 71)).alloc (.cells z13 90)))/\Hid (∀ W,Below (((w.alloc (.cells (Qan g p) 90)).alloc (.cells (QcA x) 71)).alloc (.cells z13 90)).heap.size (((w.alloc (.cells (Qan g p) 90)).alloc (.cells (QcA x) 71)).alloc (.cells z13 90)) W->W.heap[w.heap.size]?=some (.cells (Qan g p) 90 (0,0))/\W.heap[w.heap.size+1]?=some (.cells (QcA x) 71 (0,0))/\W.heap[w.heap.size+1+1]?=some (.cells z13 90 (0,0)))/\Hid ((((w.alloc (.cells (Qan g p) 90)).alloc (.cells (QcA x) 71)).alloc (.cells z13 90)).heap.size=w.heap.size+1+1+1):=by
 have a1:∀ (W:World) o,Below W.heap.size W (W.alloc o):=fun W o=>(ZZb _ _).alloc (ZZa _) _;have k0:=ZZk w (.cells (Qan g p) 90);have k1:=ZZk (w.alloc (.cells (Qan g p) 90)) (.cells (QcA x) 71);have k2:=ZZk ((w.alloc (.cells (Qan g p) 90)).alloc (.cells (QcA x) 71)) (.cells z13 90);simp only [World.size_alloc] at k1 k2;exact ⟨Qaa (Qac (Qac (a1 _ _) (a1 _ _)) (a1 _ _)),Qaa (fun W hW=>⟨(hW.block _ (by simp <;> omega)).trans (((a1 _ _).block _ (by simp <;> omega)).trans (((a1 _ _).block _ (by simp)).trans k0)),(hW.block _ (by simp <;> omega)).trans (((a1 _ _).block _ (by simp)).trans k1),(hW.block _ (by simp)).trans k2⟩),(by simp;exact Qaa trivial)⟩
end
section
structure AgR2 (g g':Ag):Prop where
 r:agB g=true
 r':agB g'=true
 k:g.k=g'.k
theorem AgMrg.get (h:AgMrg g g' o) (q:AgR2 g g'):∃ E R,Mg g.E g.R g'.E g'.R E R/\o=QmJ g g' E R:=by
 unfold AgMrg at h;rw [if_pos ⟨q.r,q.r',q.k⟩] at h;exact h
theorem agB_of (n:AgNo g) (h2:g.k=2->Qc9 g=true):agB g=true:=by
 have c1:=n.k1;have c4:=n.k4;have a0:(decide (1<=g.k) && decide (g.k<=4))=true:=by rw [decide_eq_true c1,decide_eq_true c4];rfl
 have a1:((g.k == 1) || Qij g)=true:=by
  by_cases e:g.k=1
  ·rw [e];rfl
  ·obtain ⟨q1,q2⟩:=n.nc e
   unfold Qij;rw [q1,q2];simp
 have a3:((g.k == 3) || noS g)=true:=by
  by_cases e:g.k=3
  ·rw [e];rfl
  ·rw [(Qpx g).2 (n.nh e)];simp
 have a4:((g.k == 4) || noH g)=true:=by
  by_cases e:g.k=4
  ·rw [e];rfl
  ·rw [(Qm9 g).2 (n.ns e)];simp
 have a2:(if g.k=2 then Qc9 g else (g.a == 0) && (g.t == 0))=true:=by
  by_cases e:g.k=2
  ·rw [if_pos e];exact h2 e
  ·rw [if_neg e]
   obtain ⟨q1,q2⟩:=n.ng e;rw [q1,q2];rfl
 unfold agB;rw [a0,n.sk,n.hl,a1,a3,a4,a2]
 rfl
theorem QlA (h:agB g=true) (e:g.k=2):Qc9 g=true:=by
 unfold agB at h;simp only [Bool.and_eq_true] at h;have:=h.2;rw [if_pos e] at this;exact this
theorem QsY (h:hlB E R=true):∀ b∈R,I64 b:=fun b hb=>by
 unfold hlB at h
 split at h
 ·rename_i h0
  rw [List.eq_nil_of_length_eq_zero h0] at hb
  cases hb
 ·simp only [Bool.and_eq_true,QmG,List.all_eq_true,inR,decide_eq_true_eq] at h
  have:=h.2.2 b hb;unfold I64;omega
theorem Qiy (q:AgR2 g g') (ok:AgOk g) (ok':AgOk g') (h:AgMrg g g' o):agB o=true/\AgOk o/\o.k=g.k:=by
 obtain ⟨E,R,m,rfl⟩:=h.get q;have n:=Qa9 q.r;have n':=Qa9 q.r';have ek:=q.k;have mm:Qms g.E g.R g'.E g'.R E R:=by unfold Qms;rw [if_pos ⟨n.hl,n'.hl⟩];exact m
 have hl:=QjP n.hl n'.hl mm;refine ⟨agB_of ⟨n.k1,n.k4,sk_mrg n.sk n'.sk ok.P ok.N ok'.P ok'.N,hl,fun e=>?_,fun e=>?_,fun e=>?_,fun e=>?_⟩ (fun e=>?_),?_,rfl⟩
 ·obtain ⟨a1,a2⟩:=n.nc e
  obtain ⟨b1,b2⟩:=n'.nc (by rw [<- ek];exact e)
  show Qbg g.h g.l g'.h g'.l=0/\Qbl g.l g'.l=0
  rw [a1,a2,b1,b2];exact ⟨Qdm,QdE⟩
 ·show (if g.k=2 then gA g.a g.t g'.a g'.t else 0)=0/\(if g.k=2 then gT g.a g.t g'.a g'.t else 0)=0
  have e':¬ g.k=2:=e;rw [if_neg e',if_neg e'];exact ⟨rfl,rfl⟩
 ·obtain ⟨a1,a2,a3,a4,a5⟩:=n.nh e
  obtain ⟨b1,b2,b3,b4,b5⟩:=n'.nh (by rw [<- ek];exact e)
  show QaD g.z g'.z=0/\Qbg g.x g.y g'.x g'.y=0/\Qbl g.y g'.y=0/\Qaq (mrg g.P g'.P)=[]/\Qaq (mrg g.N g'.N)=[]
  rw [a1,a2,a3,a4,a5,b1,b2,b3,b4,b5];exact ⟨QfD,Qdm,QdE,Qej,Qej⟩
 ·obtain ⟨a1,a2⟩:=n.ns e
  obtain ⟨b1,b2⟩:=n'.ns (by rw [<- ek];exact e);rw [a1,a2,b1,b2] at m;exact m.one Qlm
 ·have e':g.k=2:=e
  have t1:=QlA q.r e';have t2:=QlA q.r' (by rw [<- ek];exact e')
  show Qc9 (QmJ g g' E R)=true
  unfold Qc9 at t1 t2 ⊢
  show (QpS (if g.k=2 then gA g.a g.t g'.a g'.t else 0) && (decide (-1<=(if g.k=2 then gT g.a g.t g'.a g'.t else 0)) && decide ((if g.k=2 then gT g.a g.t g'.a g'.t else 0)<=1000000000)) && (decide (0<=(if g.k=2 then gT g.a g.t g'.a g'.t else 0)) || ((if g.k=2 then gA g.a g.t g'.a g'.t else 0) == 0)))=true
  rw [if_pos e',if_pos e'];by_cases hL:QhQ g.a g.t g'.a g'.t=true
  ·rw [(Qhu hL).1,(Qhu hL).2];exact t2
  ·rw [(Qmc hL).1,(Qmc hL).2];exact t1
 ·have s1:=skB_and.1 n.sk
  have s2:=skB_and.1 n'.sk;refine ⟨ok.k,Qh1 ok.s ok'.s,Qir _,Qi4 _,?_,?_,Qh1 ok.z ok'.z,Qir _,Qi4 _,(Qfu s1.1 s2.1 ok.P ok'.P).2,(Qfu s1.2 s2.2 ok.N ok'.N).2,QtV ok.E ok'.E mm,fun b hb=>?_⟩
  ·show I64 (if g.k=2 then gA g.a g.t g'.a g'.t else 0)
   split
   ·unfold gA;split
    ·exact ok'.a
    ·exact ok.a
   ·unfold I64;omega
  ·show I64 (if g.k=2 then gT g.a g.t g'.a g'.t else 0)
   split
   ·unfold gT;split
    ·exact ok'.t
    ·exact ok.t
   ·unfold I64;omega
  ·exact QsY hl b hb
theorem QuL (ox:x.Ok) (hx:x.B=true):AgOk (Qg9 x):=by
 obtain ⟨p1,p2,p3,p4,p5⟩:=QbB hx;have z:I64 0:=by unfold I64;omega
 have zu:U64 0:=by unfold U64;omega
 have u1:U64 1:=by unfold U64;omega
 have nB:∀ b∈([]:List Bn),Qbw b:=fun b hb=>by cases hb
 have nU:∀ b∈([]:List Int),U64 b:=fun b hb=>by cases hb
 have nI:∀ b∈([]:List Int),I64 b:=fun b hb=>by cases hb
 unfold Qg9
 split
 ·exact ⟨by show I64 1;unfold I64;omega,u1,Qir _,Qi4 _,z,z,zu,z,zu,nB,nB,nU,nI⟩
 split
 ·exact ⟨by show I64 2;unfold I64;omega,u1,z,zu,ox.v,ox.ti,zu,z,zu,nB,nB,nU,nI⟩
 split
 ·have g:=QlK p2 ox.wt p3
  exact ⟨by show I64 3;unfold I64;omega,u1,z,zu,z,z,g.hz,Qir _,Qi4 _,g.kP,g.kN,nU,nI⟩
 ·refine ⟨by show I64 4;unfold I64;omega,u1,z,zu,z,z,zu,z,zu,nB,nB,fun b hb=>?_,nI⟩
  obtain rfl:=List.mem_singleton.1 hb;have:=hx_in x.wd x.wd.size;unfold Qbx U64;omega
theorem QjK (ox:x.Ok) (ok:AgOk g) (h:Qcd g x o):AgOk o/\(agB g=true->agB o=true)/\o.k=g.k:=by
 unfold Qcd at h
 split at h
 ·rename_i q
  obtain ⟨r,o',k⟩:=Qiy ⟨q.1,Qb8 ox q.2.1,q.2.2.trans (QgM q.2.1).symm⟩ ok (QuL ox q.2.1) h;exact ⟨o',fun _=>r,k⟩
 ·subst h;exact ⟨ok,id,rfl⟩
end
section
def PtL (L:List Ce) (n:Int) (s:ByteArray) (o:Ag) (R:List Ce):Prop:=R.map Ce.key=(L.filter (loF n s)).map Ce.key ++ (n,s,o) :: (L.filter (hiF n s)).map Ce.key
theorem QdW {n:Int} {s:ByteArray}:∀ {L M:List Ce},M.map Ce.key=L.map Ce.key->(M.filter (loF n s)).map Ce.key=(L.filter (loF n s)).map Ce.key/\(M.filter (hiF n s)).map Ce.key=(L.filter (hiF n s)).map Ce.key
 | [],[],_=>⟨rfl,rfl⟩
 | c :: L,d :: M,h=>by
  simp only [List.map_cons,List.cons.injEq] at h;obtain ⟨q1,q2⟩:=QdW (n:=n) (s:=s) h.2;have e1:loF n s d=loF n s c:=QhW (c:=d) (d:=kC n s) (c':=c) (d':=kC n s) h.1 rfl;have e2:hiF n s d=hiF n s c:=QhW (c:=kC n s) (d:=d) (c':=kC n s) (d':=c) rfl h.1;simp only [List.filter_cons,e1,e2];constructor
  ·cases loF n s c <;> simp [q1,h.1]
  ·cases hiF n s c <;> simp [q2,h.1]
 | [],_ :: _,h=>by simp at h
 | _ :: _,[],h=>by simp at h
end
section
theorem Qix (o:Ag) (p:Pl) (a' t':Int) (w:World):Calls prog 121 #[.agg (Qan o p),.int .i64 a',.int .i64 t'] w fun e w'=>e=.returned (.agg (Qan { o with a:=gA o.a o.t a' t',t:=gT o.a o.t a' t' } p))/\Below w.heap.size w w':=by
 have HB:Hid (∀ o o',Below w.heap.size w ((w.alloc o).alloc o')):=fun o o'=>((Below.refl _ _).alloc (Nat.le_refl _) o).alloc (by simp) o';obtain ⟨k,s,h,l,a,t,z,P,N,x,y,E,R⟩:=o
 show Calls prog 121 #[.agg (Qan ⟨k,s,h,l,a,t,z,P,N,x,y,E,R⟩ p),.int .i64 a',.int .i64 t'] w fun e w'=>e=.returned (.agg (Qan ⟨k,s,h,l,gA a t a' t',gT a t a' t',z,P,N,x,y,E,R⟩ p))/\Below w.heap.size w w'
 by_cases h1:t<t'
 ·have d1:decide (t<t')=true:=ZZh h1
  have HE:Hid (gA a t a' t'=a'/\gT a t a' t'=t'):=Qhu (by simp [QhQ,h1]);rw [HE.out.1,HE.out.2];clear HE;go_enter func121,ntmps121;go_wp2;refine bodyPost_ret (v:=.agg (Qan ⟨k,s,h,l,a',t',z,P,N,x,y,E,R⟩ p)) (by simp [results,results121,go_sem]) rfl ⟨rfl,?_⟩
  repeat (refine Below.setCell ?_ (by simp) _)
  exact HB.out _ _
 ·have d1:decide (t<t')=false:=ZZg h1
  by_cases h2:t'=t
  ·subst h2
   by_cases h3:a<a'
   ·have d3:decide (a<a')=true:=ZZh h3
    have HE:Hid (gA a t' a' t'=a'/\gT a t' a' t'=t'):=Qhu (by simp [QhQ,h3]);rw [HE.out.1,HE.out.2];clear HE;go_enter func121,ntmps121;go_wp2;refine bodyPost_ret (v:=.agg (Qan ⟨k,s,h,l,a',t',z,P,N,x,y,E,R⟩ p)) (by simp [results,results121,go_sem]) rfl ⟨rfl,?_⟩
    repeat (refine Below.setCell ?_ (by simp) _)
    exact HB.out _ _
   ·have d3:decide (a<a')=false:=ZZg h3
    have HE:Hid (gA a t' a' t'=a/\gT a t' a' t'=t'):=Qmc (by simp [QhQ,h3]);rw [HE.out.1,HE.out.2];clear HE;go_enter func121,ntmps121;go_wp2;refine bodyPost_ret (v:=.agg (Qan ⟨k,s,h,l,a,t',z,P,N,x,y,E,R⟩ p)) (by simp [results,results121,go_sem]) rfl ⟨rfl,?_⟩
    repeat (refine Below.setCell ?_ (by simp) _)
    exact HB.out _ _
  ·have e2:(t' == t)=false:=ZZf.2 h2
   have HE:Hid (gA a t a' t'=a/\gT a t a' t'=t):=Qmc (by simp [QhQ,h1,h2]);rw [HE.out.1,HE.out.2];clear HE;go_enter func121,ntmps121;go_wp2;refine bodyPost_ret (v:=.agg (Qan ⟨k,s,h,l,a,t,z,P,N,x,y,E,R⟩ p)) (by simp [results,results121,go_sem]) rfl ⟨rfl,?_⟩
   repeat (refine Below.setCell ?_ (by simp) _)
   exact HB.out _ _
end
variable {W w w0 w6:World}
variable {ca k r:Nat}
variable {p q:Pl}
section
theorem AgO.setNe {B j:Nat} (h:AgO w B o p) (hn:∀ k,Qd1 o p k->k≠r) (u:Value):AgO (w.setCell ⟨r,j,none⟩ u) B o p:=
 h.keptS (S:=fun k=>k=r) ⟨rfl,rfl,rfl,by simp [World.setCell],fun k hk hn=>Below.heap_setCell _ _ _ _ (fun e=>hn (by rw [e]))⟩ hn
section
variable {g:Ag} {x:Sx} (ok:x.Ok) (hg:agB g=true) (hx:x.B=true) (e:g.k=x.k)
include ok hg hx e
theorem putC' (k:g.k=1):Qcd g x ⟨g.k,QaD g.s 1,Qbg g.h g.l (thH x.v x.wt) (thL x.v x.wt),Qbl g.l (thL x.v x.wt),g.a,g.t,g.z,g.P,g.N,g.x,g.y,g.E,g.R⟩:=by
 have n:=Qa9 hg;obtain ⟨a1,a2,a3,a4,a5⟩:=n.nh (by omega);obtain ⟨c1,c2⟩:=n.ns (by omega);obtain ⟨d1,d2⟩:=n.ng (by omega);have:=putC ok hg hx e k;rw [a1,a2,a3,a4,a5,c1,c2,d1,d2,k];exact this
theorem putG' (k:g.k=2):Qcd g x ⟨g.k,QaD g.s 1,g.h,g.l,gA g.a g.t x.v x.ti,gT g.a g.t x.v x.ti,g.z,g.P,g.N,g.x,g.y,g.E,g.R⟩:=by
 have n:=Qa9 hg;obtain ⟨a1,a2,a3,a4,a5⟩:=n.nh (by omega);obtain ⟨c1,c2⟩:=n.ns (by omega);obtain ⟨d1,d2⟩:=n.nc (by omega);have:=putG ok hg hx e k;rw [a1,a2,a3,a4,a5,c1,c2,d1,d2,k];exact this
theorem putH' (k:g.k=3) (go:AgOk g):Qcd g x ⟨g.k,QaD g.s 1,g.h,g.l,g.a,g.t,QmX g.z x.v x.wt,Qee g.P x.v x.wt,Qeb g.N x.v x.wt,Qbg g.x g.y (thH x.v x.wt) (thL x.v x.wt),Qbl g.y (thL x.v x.wt),g.E,g.R⟩:=by
 have n:=Qa9 hg;obtain ⟨a1,a2⟩:=n.ng (by omega);obtain ⟨c1,c2⟩:=n.ns (by omega);obtain ⟨d1,d2⟩:=n.nc (by omega);have:=putHs ok hg hx e k go;rw [a1,a2,c1,c2,d1,d2,k];exact this
theorem putS' (k:g.k=4) (m:Mg g.E g.R [Qbx x.wd] [] E R):Qcd g x ⟨g.k,QaD g.s 1,g.h,g.l,g.a,g.t,g.z,g.P,g.N,g.x,g.y,E,R⟩:=by
 have n:=Qa9 hg;obtain ⟨a1,a2,a3,a4,a5⟩:=n.nh (by omega);obtain ⟨c1,c2⟩:=n.ng (by omega);obtain ⟨d1,d2⟩:=n.nc (by omega);have:=putS ok hg hx e k (E:=E) (R:=R) (by unfold PutH;rw [if_pos n.hl];exact m);rw [a1,a2,a3,a4,a5,c1,c2,d1,d2,k];exact this
end
structure PB (w W:World) (b:Nat) (g a:Ag) (p q:Pl) (x:Sx):Prop where
 bel:Below w.heap.size w W
 ra:W.heap[w.heap.size]?=some (.cells (Qan g p) 90 (0,0))
 rx:W.heap[w.heap.size+1]?=some (.cells (QcA x) 71 (0,0))
 rr:W.heap[w.heap.size+1+1]?=some (.cells z13 90 (0,0))
 ro:W.heap[b]?=some (.cells (Qan a q) 90 (0,0))
 lo:w.heap.size+1+1+1<=b/\b<W.heap.size
 own:AgO W (w.heap.size+1+1+1) a q
 ne:∀ k,Qd1 a q k->k<b
theorem PB.past {W':World} {b:Nat} {a:Ag} (h:PB w W b g a p q x) (hb:Below W.heap.size W W'):PB w W' b g a p q x:=
 ⟨Qac h.bel hb,(hb.block _ (ZZc.1 h.ra).1).trans h.ra,(hb.block _ (ZZc.1 h.rx).1).trans h.rx,(hb.block _ (ZZc.1 h.rr).1).trans h.rr,(hb.block _ (ZZc.1 h.ro).1).trans h.ro,⟨h.lo.1,Nat.lt_of_lt_of_le h.lo.2 hb.size⟩,h.own.past hb,h.ne⟩
theorem PB.sam {b:Nat} {a:Ag} (h:PB w W b g a p q x) (s:Int):PB w (W.setCell ⟨b,1,none⟩ (.int .u64 s)) b g { a with s:=s } p q x:=by
 have hl:=h.lo;have ot:∀ r o,r≠b->W.heap[r]?=some o->(W.setCell ⟨b,1,none⟩ (.int .u64 s)).heap[r]?=some o:=fun r o hr e=>by rw [heap_setCell_other _ _ _ _ (by simpa using hr)];exact e
 refine ⟨h.bel.setCell (by simp <;> omega) _,ot _ _ (by omega) h.ra,ot _ _ (by omega) h.rx,ot _ _ (by omega) h.rr,heap_setCell_same W b 1 _ _ _ h.ro,⟨hl.1,by simpa [World.setCell] using hl.2⟩,?_,h.ne⟩;have:=h.own.setNe (r:=b) (j:=1) (fun k e=>Nat.ne_of_lt (h.ne k e)) (.int .u64 s);exact ⟨this.P,this.N,this.ap,this.E,this.R⟩
theorem PB.made {w1:World} (hb:Below w.heap.size w w1) (h0:w1.heap[w.heap.size]?=some (.cells (Qan g p) 90 (0,0))) (h1:w1.heap[w.heap.size+1]?=some (.cells (QcA x) 71 (0,0))) (h2:w1.heap[w.heap.size+1+1]?=some (.cells z13 90 (0,0))) (hs:w.heap.size+1+1+1<=w1.heap.size) (ho:AgO w1 (w.heap.size+1+1+1) g q):PB w (w1.alloc (.cells (Qan g q) 90)) w1.heap.size g g p q x:=by
 have a1:Below w1.heap.size w1 (w1.alloc (.cells (Qan g q) 90)):=(ZZb _ _).alloc (ZZa _) _;exact ⟨Qac hb a1,(a1.block _ (Array.getElem?_eq_some_iff.1 h0).1).trans h0,(a1.block _ (Array.getElem?_eq_some_iff.1 h1).1).trans h1,(a1.block _ (Array.getElem?_eq_some_iff.1 h2).1).trans h2,heap_alloc_new w1 _,⟨hs,by simp⟩,ho.past a1,fun k e=>(ho.lt e).2⟩
theorem Qmv (x:Sx) (hg:agB g=true) (hx:x.B=true) (hk:g.k=x.k) (ok:AgOk g) (ox:x.Ok) (sm:AgSm g) (pl:PlG g p) (hA:AgAt w g p) :
  Calls prog 113 #[.agg (Qan g p),.agg (QcA x)] w fun e w'=>AgRes w (Qcd g x) e w':=by
 have HG:=Qaa hg;have HX:=Qaa hx;have aB:=Qaa hk;have OK:=Qaa ok;have OX:=Qaa ox;have SM:=Qaa sm;have PL:=Qaa pl;have HA:=Qaa hA;have NO:=Qaa (Qa9 hg);clear hg hx hk ok ox sm pl hA;obtain ⟨az,HC,ay⟩:=QtK w g p x;go_enter func113,ntmps113;go_wp2_with fail;generalize ((w.alloc (.cells (Qan g p) 90)).alloc (.cells (QcA x) 71)).alloc (.cells z13 90)=W0 at az HC ay ⊢;refine (Qjh SM PL (Qbj HA az)).mono ?_;rintro e w1 ⟨v,o,rfl,ho,⟨q,rfl,hO⟩,aA⟩;obtain rfl:g=o:=ho.symm;clear ho;have hR:=HC.out w1 aA;have aM:=aA.size;have HP:=Qaa (PB.made (Qac az aA) hR.1 hR.2.1 hR.2.2 (by have:=ay.out;omega) (hO.le (by have:=ay.out;omega)));have x1:=cellK hR.1 1 rfl;have aK:w.heap.size<w1.heap.size:=by have:=ay.out;omega
 have aO:¬ w.heap.size=w1.heap.size:=by omega
 clear hR aM aA hO HC ay az;go_wp2_with fail;clear x1 aK aO;generalize w1.alloc (.cells (Qan g q) 90)=W1 at HP ⊢;generalize w1.heap.size=b at HP ⊢;refine (Qax g.s 1 OK.out.s (by unfold U64;omega) _).mono ?_;rintro e wz ⟨rfl,aD⟩;obtain rfl:=aD.symm;have hl:=HP.out.lo;have aS:¬ w.heap.size=b:=by omega
 have aQ:¬ w.heap.size+1=b:=by omega
 have aR:¬ w.heap.size+1+1=b:=by omega
 have aN:g.k=1∨g.k=2∨g.k=3∨g.k=4:=by have:=NO.out.k1;have:=NO.out.k4;omega
 rcases aN with h | h | h | h
 ·have ar:=Qaa h
  have e1:(g.k == 1)=true:=by rw [h];rfl
  clear h;obtain ⟨c0,c1,c2,c3,c4,c5,c6,c7,c8,c9,ae,af,ag⟩:=Qdz HP.out.ro;obtain ⟨f0,f1,f2,f3,f4,f5,f6,f7,f8,f9,an,ak,am⟩:=QeL HP.out.ro;obtain ⟨x0,x1,x2,x3,x4,x5,x6,x7,x8,x9,aj,ai,ah⟩:=Qdz HP.out.ra;obtain ⟨y0,y1,y2,y3,y4,y5,y6⟩:=cA7 HP.out.rx;go_wp2_with fail;clear c0 c1 c2 c3 c4 c5 c6 c7 c8 c9 ae af ag f0 f1 f2 f3 f4 f5 f6 f7 f8 f9 an ak am x0 x1 x2 x3 x4 x5 x6 x7 x8 x9 aj ai ah y0 y1 y2 y3 y4 y5 y6;have ab:=Qaa (HP.out.sam (QaD g.s 1));generalize W1.setCell ⟨b,1,none⟩ (.int .u64 (QaD g.s 1))=W2 at ab ⊢;clear HP;have ad:(fun W=>Below W2.heap.size W2 W) W2.drew:=(ZZb _ _).drew;refine Qao (fun W=>Below W2.heap.size W2 W) 9 (by kernel_rfl) ?_;refine tkS 0 (.pointer (some ⟨w.heap.size,2,none⟩)) ad ?_;refine tkL 1 (.agg #[.int .i64 g.h,.int .u64 g.l]) ad (fun W hW=>?_) ?_
  ·have ac:=ab.out.past hW
   obtain ⟨x0,x1,x2,x3,x4,x5,x6,x7,x8,x9,aj,ai,ah⟩:=Qdz ac.ra;obtain ⟨y0,y1,y2,y3,y4,y5,y6⟩:=cA7 ac.rx;clear ac;clear hW;go_simp
  refine tkS 2 (.pointer (some ⟨w.heap.size+1,2,none⟩)) ad ?_;simp only [sX];refine tkL 3 (.int .i64 x.v) ad (fun W hW=>?_) ?_
  ·have ac:=ab.out.past hW
   obtain ⟨x0,x1,x2,x3,x4,x5,x6,x7,x8,x9,aj,ai,ah⟩:=Qdz ac.ra;obtain ⟨y0,y1,y2,y3,y4,y5,y6⟩:=cA7 ac.rx;clear ac;clear hW;go_simp
  refine tkS 4 (.pointer (some ⟨w.heap.size+1,4,none⟩)) ad ?_;refine tkL 5 (.int .u64 x.wt) ad (fun W hW=>?_) ?_
  ·have ac:=ab.out.past hW
   obtain ⟨x0,x1,x2,x3,x4,x5,x6,x7,x8,x9,aj,ai,ah⟩:=Qdz ac.ra;obtain ⟨y0,y1,y2,y3,y4,y5,y6⟩:=cA7 ac.rx;clear ac;clear hW;go_simp
  simp only [sX];refine onE 6 fun K hK=>?_;go_simp;refine (Qd8 x.v x.wt OX.out.v OX.out.wt _).mono ?_;rintro e w3 ⟨rfl,aH⟩;have aI:Hid (Below W2.heap.size W2 w3):=(ad:Below W2.heap.size W2 W2.drew).trans (aH.mono (ZZa _));clear aH;dsimp only;refine gK hK aI.out ?_
  try simp only [sX]
  refine onE 7 fun K hK=>?_;go_simp;refine (Qbs g.h g.l (thH x.v x.wt) (thL x.v x.wt) _ OK.out.l (show U64 (thL x.v x.wt) from Qi4 _)).mono ?_;rintro e w4 ⟨rfl,al⟩;have au:Hid (Below W2.heap.size W2 w4):=Qac aI al;have aa:=Qaa (ab.out.past au);clear al;obtain ⟨c0,c1,c2,c3,c4,c5,c6,c7,c8,c9,ae,af,ag⟩:=Qdz aa.out.ro;obtain ⟨f0,f1,f2,f3,f4,f5,f6,f7,f8,f9,an,ak,am⟩:=QeL aa.out.ro;obtain ⟨z0,z1,z2,z3,z4,z5,z6,z7,z8,z9,ax,aw,av⟩:=Qdz aa.out.rr;obtain ⟨k0,k1,k2,k3,k4,k5,k6,k7,k8,k9,aG,aE,aF⟩:=QeL aa.out.rr;have ao:Hid (AgO w4 (w.heap.size+1+1+1) ⟨g.k,QaD g.s 1,Qbg g.h g.l (thH x.v x.wt) (thL x.v x.wt),Qbl g.l (thL x.v x.wt),g.a,g.t,g.z,g.P,g.N,g.x,g.y,g.E,g.R⟩ q):=⟨aa.out.own.P,aa.out.own.N,aa.out.own.ap,aa.out.own.E,aa.out.own.R⟩;have aq:Hid (∀ k,Qd1 ⟨g.k,QaD g.s 1,Qbg g.h g.l (thH x.v x.wt) (thL x.v x.wt),Qbl g.l (thL x.v x.wt),g.a,g.t,g.z,g.P,g.N,g.x,g.y,g.E,g.R⟩ q k->k≠b):=fun k e=>Nat.ne_of_lt (aa.out.ne k e);dsimp only;refine gK hK au.out ?_
  try simp only [sX]
  refine tkS 8 (.pointer (some ⟨b,2,none⟩)) au ?_;simp only [sX];refine onE 9 fun K hK=>?_;go_simp;refine hK.out _ _ (fun h=>absurd rfl h) ?_
  try simp only [sX]
  refine dnE ?_ _;go_wp2;refine bodyPost_ret (v:=.agg (Qan ⟨g.k,QaD g.s 1,Qbg g.h g.l (thH x.v x.wt) (thL x.v x.wt),Qbl g.l (thL x.v x.wt),g.a,g.t,g.z,g.P,g.N,g.x,g.y,g.E,g.R⟩ q)) (by simp [results,results113,go_sem,c0,c1,c2,c3,c4,c5,c6,c7,c8,c9,ae,af,ag,z0,z1,z2,z3,z4,z5,z6,z7,z8,z9,ax,aw,av]) rfl (AgRes.mk (o:=⟨g.k,QaD g.s 1,Qbg g.h g.l (thH x.v x.wt) (thL x.v x.wt),Qbl g.l (thL x.v x.wt),g.a,g.t,g.z,g.P,g.N,g.x,g.y,g.E,g.R⟩) (p:=q) (putC' OX HG HX aB ar) ?_ ?_)
  ·refine AgO.le (B:=w.heap.size+1+1+1) ?_ (by omega)
   repeat (first | refine AgO.below ?_ (by omega) _ | refine AgO.setNe ?_ aq _)
   exact ao.out
  ·repeat (refine Below.setCell ?_ (by simp <;> omega) _)
   exact aa.out.bel
 ·have ar:=Qaa h
  have e1:(g.k == 1)=false:=ZZf.2 (by omega);have e2:(g.k == 2)=true:=by rw [h];rfl
  clear h;obtain ⟨c0,c1,c2,c3,c4,c5,c6,c7,c8,c9,ae,af,ag⟩:=Qdz HP.out.ro;obtain ⟨f0,f1,f2,f3,f4,f5,f6,f7,f8,f9,an,ak,am⟩:=QeL HP.out.ro;obtain ⟨x0,x1,x2,x3,x4,x5,x6,x7,x8,x9,aj,ai,ah⟩:=Qdz HP.out.ra;obtain ⟨y0,y1,y2,y3,y4,y5,y6⟩:=cA7 HP.out.rx;go_wp2_with fail;clear c0 c1 c2 c3 c4 c5 c6 c7 c8 c9 ae af ag f0 f1 f2 f3 f4 f5 f6 f7 f8 f9 an ak am x0 x1 x2 x3 x4 x5 x6 x7 x8 x9 aj ai ah y0 y1 y2 y3 y4 y5 y6;have ab:=Qaa (HP.out.sam (QaD g.s 1));generalize W1.setCell ⟨b,1,none⟩ (.int .u64 (QaD g.s 1))=W2 at ab ⊢;clear HP;refine (Qix { g with s:=QaD g.s 1 } q x.v x.ti _).mono ?_;rintro e w4 ⟨rfl,al⟩;have aa:=Qaa (ab.out.past al);clear al;obtain ⟨c0,c1,c2,c3,c4,c5,c6,c7,c8,c9,ae,af,ag⟩:=Qdz aa.out.ro;obtain ⟨f0,f1,f2,f3,f4,f5,f6,f7,f8,f9,an,ak,am⟩:=QeL aa.out.ro;obtain ⟨z0,z1,z2,z3,z4,z5,z6,z7,z8,z9,ax,aw,av⟩:=Qdz aa.out.rr;obtain ⟨k0,k1,k2,k3,k4,k5,k6,k7,k8,k9,aG,aE,aF⟩:=QeL aa.out.rr;have ao:Hid (AgO w4 (w.heap.size+1+1+1) ⟨g.k,QaD g.s 1,g.h,g.l,gA g.a g.t x.v x.ti,gT g.a g.t x.v x.ti,g.z,g.P,g.N,g.x,g.y,g.E,g.R⟩ q):=⟨aa.out.own.P,aa.out.own.N,aa.out.own.ap,aa.out.own.E,aa.out.own.R⟩;have aq:Hid (∀ k,Qd1 ⟨g.k,QaD g.s 1,g.h,g.l,gA g.a g.t x.v x.ti,gT g.a g.t x.v x.ti,g.z,g.P,g.N,g.x,g.y,g.E,g.R⟩ q k->k≠b):=fun k e=>Nat.ne_of_lt (aa.out.ne k e);go_wp2;refine bodyPost_ret (v:=.agg (Qan ⟨g.k,QaD g.s 1,g.h,g.l,gA g.a g.t x.v x.ti,gT g.a g.t x.v x.ti,g.z,g.P,g.N,g.x,g.y,g.E,g.R⟩ q)) (by simp [results,results113,go_sem,c0,c1,c2,c3,c4,c5,c6,c7,c8,c9,ae,af,ag,z0,z1,z2,z3,z4,z5,z6,z7,z8,z9,ax,aw,av]) rfl (AgRes.mk (o:=⟨g.k,QaD g.s 1,g.h,g.l,gA g.a g.t x.v x.ti,gT g.a g.t x.v x.ti,g.z,g.P,g.N,g.x,g.y,g.E,g.R⟩) (p:=q) (putG' OX HG HX aB ar) ?_ ?_)
  ·refine AgO.le (B:=w.heap.size+1+1+1) ?_ (by omega)
   repeat (first | refine AgO.below ?_ (by omega) _ | refine AgO.setNe ?_ aq _)
   exact ao.out
  ·repeat (refine Below.setCell ?_ (by simp <;> omega) _)
   exact aa.out.bel
 ·have ar:=Qaa h
  have e1:(g.k == 1)=false:=ZZf.2 (by omega);have e2:(g.k == 2)=false:=ZZf.2 (by omega);have e3:(g.k == 3)=true:=by rw [h];rfl
  clear h;obtain ⟨c0,c1,c2,c3,c4,c5,c6,c7,c8,c9,ae,af,ag⟩:=Qdz HP.out.ro;obtain ⟨f0,f1,f2,f3,f4,f5,f6,f7,f8,f9,an,ak,am⟩:=QeL HP.out.ro;obtain ⟨x0,x1,x2,x3,x4,x5,x6,x7,x8,x9,aj,ai,ah⟩:=Qdz HP.out.ra;obtain ⟨y0,y1,y2,y3,y4,y5,y6⟩:=cA7 HP.out.rx;go_wp2_with fail;clear c0 c1 c2 c3 c4 c5 c6 c7 c8 c9 ae af ag f0 f1 f2 f3 f4 f5 f6 f7 f8 f9 an ak am x0 x1 x2 x3 x4 x5 x6 x7 x8 x9 aj ai ah y0 y1 y2 y3 y4 y5 y6;have ab:=Qaa (HP.out.sam (QaD g.s 1));generalize W1.setCell ⟨b,1,none⟩ (.int .u64 (QaD g.s 1))=W2 at ab ⊢;clear HP;have aC:=Qda NO.out.sk;refine (QmU OK.out.z OK.out.y OX.out.v OX.out.wt rfl rfl aC.1.2 aC.2.2 (Qak HA.out.P ab.out.bel) (Qak HA.out.N ab.out.bel) OK.out.P OK.out.N (QbB HX).2.1 PL.out.cP PL.out.cN).mono ?_;clear aC;rintro e w4 ⟨v4,rfl,⟨vp,vn,pn,nn,rfl,o1,o2,aJ⟩,al⟩;obtain ⟨pa,pc,rfl⟩:=o1.any;obtain ⟨na,nc,rfl⟩:=o2.any;obtain rfl:=o1.1;obtain rfl:=o2.1;have aa:=Qaa (ab.out.past al);have aL:=ab.out.lo;have ao:Hid (AgO w4 (w.heap.size+1+1+1) ⟨g.k,QaD g.s 1,g.h,g.l,g.a,g.t,QmX g.z x.v x.wt,Qee g.P x.v x.wt,Qeb g.N x.v x.wt,Qbg g.x g.y (thH x.v x.wt) (thL x.v x.wt),Qbl g.y (thL x.v x.wt),g.E,g.R⟩ ⟨pa,pc,na,nc,q.ea,q.ec,q.ra,q.rc⟩):=⟨o1.le (by omega),o2.le (by omega),aJ,aa.out.own.E,aa.out.own.R⟩
  have aq:Hid (∀ k,Qd1 ⟨g.k,QaD g.s 1,g.h,g.l,g.a,g.t,QmX g.z x.v x.wt,Qee g.P x.v x.wt,Qeb g.N x.v x.wt,Qbg g.x g.y (thH x.v x.wt) (thL x.v x.wt),Qbl g.y (thL x.v x.wt),g.E,g.R⟩ ⟨pa,pc,na,nc,q.ea,q.ec,q.ra,q.rc⟩ k->k≠b):=fun k e=>by
   rcases e with (e | e) | e
   ·have:=(o1.lt k e).1;omega
   ·have:=(o2.lt k e).1;omega
   ·exact Nat.ne_of_lt (aa.out.ne k (.inr e))
  clear al o1 o2 aJ;obtain ⟨c0,c1,c2,c3,c4,c5,c6,c7,c8,c9,ae,af,ag⟩:=Qdz aa.out.ro;obtain ⟨f0,f1,f2,f3,f4,f5,f6,f7,f8,f9,an,ak,am⟩:=QeL aa.out.ro;obtain ⟨z0,z1,z2,z3,z4,z5,z6,z7,z8,z9,ax,aw,av⟩:=Qdz aa.out.rr;obtain ⟨k0,k1,k2,k3,k4,k5,k6,k7,k8,k9,aG,aE,aF⟩:=QeL aa.out.rr;go_wp2;refine bodyPost_ret (v:=.agg (Qan ⟨g.k,QaD g.s 1,g.h,g.l,g.a,g.t,QmX g.z x.v x.wt,Qee g.P x.v x.wt,Qeb g.N x.v x.wt,Qbg g.x g.y (thH x.v x.wt) (thL x.v x.wt),Qbl g.y (thL x.v x.wt),g.E,g.R⟩ ⟨pa,pc,na,nc,q.ea,q.ec,q.ra,q.rc⟩)) (by simp [results,results113,go_sem,c0,c1,c2,c3,c4,c5,c6,c7,c8,c9,ae,af,ag,z0,z1,z2,z3,z4,z5,z6,z7,z8,z9,ax,aw,av]) rfl (AgRes.mk (o:=⟨g.k,QaD g.s 1,g.h,g.l,g.a,g.t,QmX g.z x.v x.wt,Qee g.P x.v x.wt,Qeb g.N x.v x.wt,Qbg g.x g.y (thH x.v x.wt) (thL x.v x.wt),Qbl g.y (thL x.v x.wt),g.E,g.R⟩) (p:=⟨pa,pc,na,nc,q.ea,q.ec,q.ra,q.rc⟩) (putH' OX HG HX aB ar OK) ?_ ?_)
  ·refine AgO.le (B:=w.heap.size+1+1+1) ?_ (by omega)
   repeat (first | refine AgO.below ?_ (by omega) _ | refine AgO.setNe ?_ aq _)
   exact ao.out
  ·repeat (refine Below.setCell ?_ (by simp <;> omega) _)
   exact aa.out.bel
 ·have ar:=Qaa h
  have e1:(g.k == 1)=false:=ZZf.2 (by omega);have e2:(g.k == 2)=false:=ZZf.2 (by omega);have e3:(g.k == 3)=false:=ZZf.2 (by omega);clear h;obtain ⟨c0,c1,c2,c3,c4,c5,c6,c7,c8,c9,ae,af,ag⟩:=Qdz HP.out.ro;obtain ⟨f0,f1,f2,f3,f4,f5,f6,f7,f8,f9,an,ak,am⟩:=QeL HP.out.ro;obtain ⟨x0,x1,x2,x3,x4,x5,x6,x7,x8,x9,aj,ai,ah⟩:=Qdz HP.out.ra;obtain ⟨y0,y1,y2,y3,y4,y5,y6⟩:=cA7 HP.out.rx;go_wp2_with fail;clear c0 c1 c2 c3 c4 c5 c6 c7 c8 c9 ae af ag f0 f1 f2 f3 f4 f5 f6 f7 f8 f9 an ak am x0 x1 x2 x3 x4 x5 x6 x7 x8 x9 aj ai ah y0 y1 y2 y3 y4 y5 y6;have ab:=Qaa (HP.out.sam (QaD g.s 1));generalize W1.setCell ⟨b,1,none⟩ (.int .u64 (QaD g.s 1))=W2 at ab ⊢;clear HP;have ad:(fun W=>Below W2.heap.size W2 W) W2.drew:=(ZZb _ _).drew;refine Qao (fun W=>Below W2.heap.size W2 W) 7 (by kernel_rfl) ?_;refine tkS 0 (.pointer (some ⟨w.heap.size,11,none⟩)) ad ?_;refine tkL 1 (.agg #[.slice p.ea g.E.length p.ec,.slice p.ra g.R.length p.rc]) ad (fun W hW=>?_) ?_
  ·have ac:=ab.out.past hW
   obtain ⟨x0,x1,x2,x3,x4,x5,x6,x7,x8,x9,aj,ai,ah⟩:=Qdz ac.ra;obtain ⟨y0,y1,y2,y3,y4,y5,y6⟩:=cA7 ac.rx;clear ac;clear hW;go_simp
  refine tkS 2 (.pointer (some ⟨w.heap.size+1,3,none⟩)) ad ?_;simp only [sX];refine tkL 3 (.string x.wd) ad (fun W hW=>?_) ?_
  ·have ac:=ab.out.past hW
   obtain ⟨x0,x1,x2,x3,x4,x5,x6,x7,x8,x9,aj,ai,ah⟩:=Qdz ac.ra;obtain ⟨y0,y1,y2,y3,y4,y5,y6⟩:=cA7 ac.rx;clear ac;clear hW;go_simp
  simp only [sX];refine onE 4 fun K hK=>?_;go_simp;refine (QdO x.wd OX.out.wd _).mono ?_;rintro e wz ⟨rfl,aD⟩;obtain rfl:=aD.symm;dsimp only;refine gK hK ad ?_
  try simp only [sX]
  refine onE 5 fun K hK=>?_;go_simp;refine (Qqw (Qbx x.wd) NO.out.hl rfl rfl PL.out.lE PL.out.mE PL.out.fE PL.out.cE (Qah HA.out.E (Qac ab.out.bel ad)) (Qah HA.out.R (Qac ab.out.bel ad)) OK.out.E (Qrq _)).mono ?_;rintro e w4 ⟨v4,E,R,rfl,hM,⟨ve,vr,rfl,o3,o4⟩,al⟩;obtain ⟨ea,ec,rfl⟩:=Qag o3;obtain ⟨ra,rc,rfl⟩:=Qag o4;have HM:=Qaa hM;have au:Hid (Below W2.heap.size W2 w4):=(ad:Below W2.heap.size W2 W2.drew).trans (al.mono (ZZa _));have aa:=Qaa (ab.out.past au);have aL:=ab.out.lo;have aP:W2.drew.heap.size=W2.heap.size:=rfl;have ao:Hid (AgO w4 (w.heap.size+1+1+1) ⟨g.k,QaD g.s 1,g.h,g.l,g.a,g.t,g.z,g.P,g.N,g.x,g.y,E,R⟩ ⟨q.pa,q.pc,q.na,q.nc,ea,ec,ra,rc⟩):=⟨aa.out.own.P,aa.out.own.N,aa.out.own.ap,⟨rfl,Qa1 o3 (by omega)⟩,⟨rfl,Qa1 o4 (by omega)⟩⟩
  have aq:Hid (∀ k,Qd1 ⟨g.k,QaD g.s 1,g.h,g.l,g.a,g.t,g.z,g.P,g.N,g.x,g.y,E,R⟩ ⟨q.pa,q.pc,q.na,q.nc,ea,ec,ra,rc⟩ k->k≠b):=fun k e=>by
   rcases e with e | (e | e)
   ·exact Nat.ne_of_lt (aa.out.ne k (.inl e))
   ·have:=Qa4 o3 k e;omega
   ·have:=Qa4 o4 k e;omega
  clear al o3 o4 hM;obtain ⟨c0,c1,c2,c3,c4,c5,c6,c7,c8,c9,ae,af,ag⟩:=Qdz aa.out.ro;obtain ⟨f0,f1,f2,f3,f4,f5,f6,f7,f8,f9,an,ak,am⟩:=QeL aa.out.ro;obtain ⟨z0,z1,z2,z3,z4,z5,z6,z7,z8,z9,ax,aw,av⟩:=Qdz aa.out.rr;obtain ⟨k0,k1,k2,k3,k4,k5,k6,k7,k8,k9,aG,aE,aF⟩:=QeL aa.out.rr;dsimp only;refine gK hK au.out ?_
  try simp only [sX]
  refine tkS 6 (.pointer (some ⟨b,11,none⟩)) au ?_;simp only [sX];refine onE 7 fun K hK=>?_;go_simp;refine hK.out _ _ (fun h=>absurd rfl h) ?_
  try simp only [sX]
  refine dnE ?_ _;go_wp2;refine bodyPost_ret (v:=.agg (Qan ⟨g.k,QaD g.s 1,g.h,g.l,g.a,g.t,g.z,g.P,g.N,g.x,g.y,E,R⟩ ⟨q.pa,q.pc,q.na,q.nc,ea,ec,ra,rc⟩)) (by simp [results,results113,go_sem,c0,c1,c2,c3,c4,c5,c6,c7,c8,c9,ae,af,ag,z0,z1,z2,z3,z4,z5,z6,z7,z8,z9,ax,aw,av]) rfl (AgRes.mk (o:=⟨g.k,QaD g.s 1,g.h,g.l,g.a,g.t,g.z,g.P,g.N,g.x,g.y,E,R⟩) (p:=⟨q.pa,q.pc,q.na,q.nc,ea,ec,ra,rc⟩) (putS' OX HG HX aB ar HM) ?_ ?_)
  ·refine AgO.le (B:=w.heap.size+1+1+1) ?_ (by omega)
   repeat (first | refine AgO.below ?_ (by omega) _ | refine AgO.setNe ?_ aq _)
   exact ao.out
  ·repeat (refine Below.setCell ?_ (by simp <;> omega) _)
   exact aa.out.bel
end
variable {ao:Option Addr}
section
theorem Qqx {L:List Ce} (h:Qcl w ao L):Qcl w ao (L.take k):=by
 refine ⟨fun h0=>?_,fun c hc=>h.2 c (ZZo hc)⟩;obtain ⟨b,aa,e,hc⟩:=h.1 (by rw [List.length_take] at h0;omega);refine ⟨b,aa,e,fun i c hi=>hc i c ?_⟩;rw [List.getElem?_take] at hi
 split at hi
 ·exact hi
 ·cases hi
theorem Qlf {L:List Ce} (h:Qcl w ao L) (hc:L.length<=ca):Qcl w (if ca=k then ao else ao.map (·.add (k*15))) (L.drop k):=by
 refine ⟨fun h0=>?_,fun c hc=>h.2 c (ZZp hc)⟩;rw [List.length_drop] at h0;obtain ⟨b,aa,e,hx⟩:=h.1 (by omega);subst e;rw [if_neg (by omega)];refine ⟨b,aa+k*15,by simp [Addr.add],fun i c hi=>?_⟩;rw [List.getElem?_drop] at hi;have:=hx (k+i) c hi;rw [show aa+k*15+i*15=aa+(k+i)*15 by omega];exact this
inductive PuA (L:List Ce) (win:Int) (x:Sx):List Ce->Int->Prop
 | kind (c:Ce) (hc:c∈L) (k1:c.n=win) (k2:c.s=x.se) (hk:¬ c.g.k=x.k):PuA L win x [] 9
 | there (c:Ce) (o:Ag) (R:List Ce) (hc:c∈L) (k1:c.n=win) (k2:c.s=x.se) (hk:c.g.k=x.k) (hp:Qcd c.g x o) (hR:PtL L win x.se o R):PuA L win x R 0
 | full (hn:¬ Qfk L win x.se) (hl:60<=L.length):PuA L win x [] 8
 | new (o:Ag) (R:List Ce) (hn:¬ Qfk L win x.se) (hl:L.length<60) (hp:Qcd (QbT x.k) x o) (hR:PtL L win x.se o R):PuA L win x R 0
theorem QuW {L A B:List Ce} (hL:Qck L) (h:PlcA L n s k true) (hA:A.map Ce.key=(L.take k).map Ce.key) (hB:B.map Ce.key=(L.drop (k+1)).map Ce.key):PtL L n s o ((A ++ [⟨n,s,o,q⟩]) ++ B):=by
 obtain ⟨c,_,_,_,_,e⟩:=Qkm hL h;unfold PtL;rw [List.map_append,List.map_append,hA,hB,Qev hL h,e,List.append_assoc]
 rfl
theorem ptl_no {L A B:List Ce} (hL:Qck L) (h:PlcA L n s k false) (hA:A.map Ce.key=(L.take k).map Ce.key) (hB:B.map Ce.key=(L.drop k).map Ce.key):PtL L n s o ((A ++ [⟨n,s,o,q⟩]) ++ B):=by
 obtain ⟨e,_⟩:=QlJ hL h;unfold PtL;rw [List.map_append,List.map_append,hA,hB,Qev hL h,e,List.append_assoc]
 rfl
end
section
theorem AgO.plgP {B:Nat} (h:AgO w B g p):PlG g p:=by
 have fb:∀ {ao:Option Addr} {n c:Nat} {L:List Bn},OwnB w B (.slice ao n c) n L->ao=none->c=0:=fun {ao n c L} o e=>by
  rcases o.2 with ⟨q,_⟩ | ⟨b,ab,c',aa,q,_⟩
  ·cases q;rfl
  ·cases q;cases e
 have fn:∀ {kd:IntKind} {T:TypeId} {ao:Option Addr} {n c:Nat} {L:List Int},OwnN kd T w B (.slice ao n c) n L->(ao=none->c=0)/\QtM ao/\n<=c/\c<=maxLen:=fun {kd T ao n c L} o=>by
  rcases o.2.2 with ⟨q,q0⟩ | ⟨b,c',aa,q,_,_,q1,q2,_⟩
  ·cases q;exact ⟨fun _=>rfl,.inl rfl,ZZa _,ZZj _⟩
  ·cases q;exact ⟨(fun e=>by cases e),.inr ⟨_,_,rfl⟩,q1,q2⟩
 exact ⟨fb h.P,fb h.N,(fn h.E).1,(fn h.R).1,(fn h.E).2.1,(fn h.R).2.1,(fn h.E).2.2.1,(fn h.E).2.2.2⟩
theorem cells7 (h:w.heap[r]?=some (.cells (QcA x) 71 (0,0))):w.cell? ⟨r,0,none⟩=some (.int .i64 x.k)/\w.cell? ⟨r,1,none⟩=some (.string x.se)/\w.cell? ⟨r,2,none⟩=some (.int .i64 x.v)/\w.cell? ⟨r,3,none⟩=some (.string x.wd)/\w.cell? ⟨r,4,none⟩=some (.int .u64 x.wt)/\w.cell? ⟨r,5,none⟩=some (.bool x.tm)/\w.cell? ⟨r,6,none⟩=some (.int .i64 x.ti):=⟨QcI h 0 rfl,QcI h 1 rfl,QcI h 2 rfl,QcI h 3 rfl,QcI h 4 rfl,QcI h 5 rfl,QcI h 6 rfl⟩
end
variable {v':Value}
variable {c:Ce}
section
theorem rowAll {T:TypeId} {u0 u1 u2 u3 u4 u5 u6 u7 u8 u9 u10 u11 u12 u13 u14:Value} (h:w.heap[r]?=some (.cells #[u0,u1,u2,u3,u4,u5,u6,u7,u8,u9,u10,u11,u12,u13,u14] T (0,0))) (v0 v1 v2 v3 v4 v5 v6 v7 v8 v9 v10 v11 v12 v13 v14:Value) :
  (((((((((((((((w.setCell ⟨r,0,none⟩ (v0)).setCell ⟨r,1,none⟩ (v1)).setCell ⟨r,2,none⟩ (v2)).setCell ⟨r,3,none⟩ (v3)).setCell ⟨r,4,none⟩ (v4)).setCell ⟨r,5,none⟩ (v5)).setCell ⟨r,6,none⟩ (v6)).setCell ⟨r,7,none⟩ (v7)).setCell ⟨r,8,none⟩ (v8)).setCell ⟨r,9,none⟩ (v9)).setCell ⟨r,10,none⟩ (v10)).setCell ⟨r,11,none⟩ (v11)).setCell ⟨r,12,none⟩ (v12)).setCell ⟨r,13,none⟩ (v13)).setCell ⟨r,14,none⟩ (v14)).heap[r]?=some (.cells #[v0,v1,v2,v3,v4,v5,v6,v7,v8,v9,v10,v11,v12,v13,v14] T (0,0)):=
 QrE (ZZl _ r 1 _ _ v1 (ZZl _ r 0 _ _ v0 h))
theorem Qqo (h:Below w0.heap.size w0 w) (hr:w0.heap.size<=r) (v0 v1 v2 v3 v4 v5 v6 v7 v8 v9 v10 v11 v12 v13 v14:Value) :
  Below w0.heap.size w0 (((((((((((((((w.setCell ⟨r,0,none⟩ (v0)).setCell ⟨r,1,none⟩ (v1)).setCell ⟨r,2,none⟩ (v2)).setCell ⟨r,3,none⟩ (v3)).setCell ⟨r,4,none⟩ (v4)).setCell ⟨r,5,none⟩ (v5)).setCell ⟨r,6,none⟩ (v6)).setCell ⟨r,7,none⟩ (v7)).setCell ⟨r,8,none⟩ (v8)).setCell ⟨r,9,none⟩ (v9)).setCell ⟨r,10,none⟩ (v10)).setCell ⟨r,11,none⟩ (v11)).setCell ⟨r,12,none⟩ (v12)).setCell ⟨r,13,none⟩ (v13)).setCell ⟨r,14,none⟩ (v14)):=
 ((((((((((((((h.setCell hr v0).setCell hr v1).setCell hr v2).setCell hr v3).setCell hr v4).setCell hr v5).setCell hr v6).setCell hr v7).setCell hr v8).setCell hr v9).setCell hr v10).setCell hr v11).setCell hr v12).setCell hr v13).setCell hr v14
theorem Qpu {k:Int} (h1:1<=k) (h4:k<=4):Calls prog 82 #[.int .i64 k] w fun e w'=>e=.returned (.agg (Qan (QbT k) pl0))/\Below w.heap.size w w':=by
 refine (Qha k w).mono (fun e w' h=>?_);have e:QbT k=⟨k,0,0,0,0,if k=2 then -1 else 0,0,[],[],0,0,[],[]⟩:=by unfold QbT;rw [if_pos ⟨h1,h4⟩]
 rw [e] at h ⊢;exact h
theorem QuE {w2 W5:World} {G:Nat} {u:Value} {A:List Ce} (hr:OwnC w2 w.heap.size u A) (ho:CesO w2 w.heap.size A) (hb2:Below w.heap.size w w2) (hb5:Below w2.heap.size w2 W5) (hG:w2.heap.size<=G) (ha:AgO W5 (G+1) c.g c.p)
  (hown:w6.ownsRow w.heap.size 92 15 v' (A.length+1) (flC A ++ ceL c)) (hg:(W5.alloc (.cells (Qas c) 92)).grownBy w6 u.ownBlock):OwnC w6 w.heap.size v' (A ++ [c])/\CesO w6 w.heap.size (A ++ [c])/\Below w.heap.size w w6:=by
 have aa:Below w2.heap.size w2 (W5.alloc (.cells (Qas c) 92)):=hb5.alloc hb5.size _;have ab:Below w.heap.size w (W5.alloc (.cells (Qas c) 92)):=hb2.trans (aa.mono hb2.size);have a2:Below W5.heap.size W5 (W5.alloc (.cells (Qas c) 92)):=(ZZb _ _).alloc (ZZa _) _;have hO:=ho.add aa hb2.size (c:=c) ((ha.past a2).le (by omega));have hR:OwnC (W5.alloc (.cells (Qas c) 92)) w.heap.size u A:=hr.past aa;have hp:(c :: A:List Ce).Perm (A ++ [c]):=(List.perm_append_singleton _ _).symm;exact ⟨OwnC.mk hown,(hO.row hR hg).perm hp,ab.grown hg ab.size (fun j hj=>(World.ownsRow.lt hr j hj).1)⟩
theorem Qt2 {w7 w8:World} {B:Nat} {v'':Value} {A M:List Ce} (hr:OwnC w6 B v' A) (ho:CesO w6 B A) (hB:B<=w6.heap.size) (hb:Below B w w6) (hb7:Below w6.heap.size w6 w7) (hM:CesO w7 w6.heap.size M)
  (hown:w8.ownsRow B 92 15 v'' (A.length+M.length) (flC A ++ flC M)) (hg:w7.grownBy w8 v'.ownBlock):OwnC w8 B v'' (A ++ M)/\CesO w8 B (A ++ M)/\Below B w w8:=by
 refine ⟨?_,(ho.app hb7 hB hM).row (hr.past hb7) hg,(hb.trans (hb7.mono hB)).grown hg (Nat.le_trans hB hb7.size) (fun j hj=>(World.ownsRow.lt hr j hj).1)⟩
 show w8.ownsRow _ _ _ _ _ _
 rw [List.length_append,QeI];exact hown
theorem QiM {k:Int} (h1:1<=k) (h4:k<=4):agB (QbT k)=true/\AgOk (QbT k)/\AgSm (QbT k)/\(QbT k).k=k/\∀ w B,AgO w B (QbT k) pl0:=by
 have e:QbT k=⟨k,0,0,0,0,if k=2 then -1 else 0,0,[],[],0,0,[],[]⟩:=by unfold QbT;rw [if_pos ⟨h1,h4⟩]
 have zi:I64 0:=by unfold I64;omega
 have zu:U64 0:=by unfold U64;omega
 refine ⟨?_,?_,?_,by rw [e],fun w B=>?_⟩
 ·have:k=1∨k=2∨k=3∨k=4:=by omega
  rcases this with rfl | rfl | rfl | rfl <;> rfl
 ·rw [e]
  exact ⟨by show I64 k;unfold I64;omega,zu,zi,zu,zi,by show I64 (if k=2 then -1 else 0);split <;> (unfold I64;omega),zu,zi,zu,(fun b hb=>by cases hb),(fun b hb=>by cases hb),(fun b hb=>by cases hb),(fun b hb=>by cases hb)⟩
 ·rw [e];exact ⟨ZZj _,ZZj _,ZZj _,ZZj _⟩
 ·rw [e];exact AgO.nil _ _ rfl rfl rfl rfl
theorem QnT (h:Below w0.heap.size w0 w) (hr:w0.heap.size<=r) (v0 v1 v2 v3 v4 v5 v6 v7 v8 v9 v10 v11 v12:Value) :
  Below w0.heap.size w0 (((((((((((((w.setCell ⟨r,2,none⟩ (v0)).setCell ⟨r,3,none⟩ (v1)).setCell ⟨r,4,none⟩ (v2)).setCell ⟨r,5,none⟩ (v3)).setCell ⟨r,6,none⟩ (v4)).setCell ⟨r,7,none⟩ (v5)).setCell ⟨r,8,none⟩ (v6)).setCell ⟨r,9,none⟩ (v7)).setCell ⟨r,10,none⟩ (v8)).setCell ⟨r,11,none⟩ (v9)).setCell ⟨r,12,none⟩ (v10)).setCell ⟨r,13,none⟩ (v11)).setCell ⟨r,14,none⟩ (v12)):=
 ((((((((((((h.setCell hr v0).setCell hr v1).setCell hr v2).setCell hr v3).setCell hr v4).setCell hr v5).setCell hr v6).setCell hr v7).setCell hr v8).setCell hr v9).setCell hr v10).setCell hr v11).setCell hr v12
theorem QqI {N:Nat} {L:List Ce} (win:Int) (x:Sx) (hx:x.B=true) (ox:x.Ok) (hI:ShI w ao N L) (hca:N<=ca) (asc:Qck L) (rt:∀ c∈L,agB c.g=true) :
  Calls prog 57 #[.slice ao N ca,.int .i64 win,.agg (QcA x)] w fun e w'=>∃ v R code,e=.returned (.tuple #[v,.int .i64 code])/\PuA L win x R code/\OwnC w' w.heap.size v R/\CesO w' w.heap.size R/\Below w.heap.size w w':=by
 obtain ⟨i0,hi,aP,aX,a6⟩:=Qjr;have II:=Qaa hI;have HX:=Qaa hx;have OX:=Qaa ox;have AS:=Qaa asc;have RT:=Qaa rt;have aC:Hid (Below w.heap.size w (w.alloc (.cells (QcA x) 71))):=(ZZb _ _).alloc (ZZa _) _;have X0:=Qaa (ZZk w (.cells (QcA x) 71));have S0:Hid ((w.alloc (.cells (QcA x) 71)).heap.size=w.heap.size+1):=by show _=_;simp
 have z1:=QcI X0 1 rfl;obtain ⟨g0,a8⟩:∃ g,g=QbT x.k:=⟨_,rfl⟩;obtain ⟨p0,aV⟩:∃ p,p=pl0:=⟨_,rfl⟩;have HG:=Qaa a8;have aO:=Qaa aV;have K1:=Qaa (QbB hx).1.1;have K4:=Qaa (QbB hx).1.2;clear hI hx ox asc rt a8 aV;go_enter func57,ntmps57;go_wp2_with fail;clear z1;generalize w.alloc (.cells (QcA x) 71)=W0 at aC X0 S0 ⊢;refine (QeP win x.se II.out.hN II.out.lN (Qa6 II.out.mem aC)).mono ?_;rintro e w1 ⟨k,is,rfl,hp,aD⟩;have HP:=Qaa hp;have ak:=Qaa (Qac aC aD);have X1:=Qaa (QbD X0 aD);have S1:Hid (w.heap.size+1<=w1.heap.size):=by show _<=_;have:=aD.size;have:=S0.out;omega
 have bG:k<=N:=by have:=hp.le;have:=II.out.hN;omega
 clear hp aD aC X0 S0;have bM:(0:Int)<=(k:Int):=by omega
 have bK:(k:Int)<=(ca:Int):=by omega
 have aY:Hid ((L.take k).length=k):=by show _=_;rw [List.length_take];have:=II.out.hN;omega
 have lk:k<=1048576:=by have:=II.out.lN;omega
 cases is
 case' true=>
  obtain ⟨c,hc,hm,e1,e2,_⟩:=Qkm AS HP;have bI:k<N:=by have:=(ZZd.1 hc).1;have:=II.out.hN;omega
  have bs:(k:Int)<(N:Int):=by omega
  obtain ⟨b,bD,e,ab⟩:=II.out.mem.1 (by have:=II.out.hN;omega);subst e;obtain ⟨_,_,y2,_⟩:=QaP (ab k c hc) ak;have HC:=Qaa hc;have HM:=Qaa hm;have E1:=Qaa e1;have E2:=Qaa e2;have br:=Qaa ab;have z0:=QcI X1 0 rfl;clear hc hm e1 e2 ab;have bk:(c.g.k == x.k)=decide (c.g.k=x.k):=rfl;by_cases hk:c.g.k=x.k
  case' pos=>
   have HK:=Qaa hk;rw [decide_eq_true hk] at bk
  case' neg=>
   have HK:Hid (PuA L win x [] 9):=PuA.kind c HM E1 E2 hk;rw [decide_eq_false hk] at bk
  all_goals
   clear hk;go_upto_region 2 with fail
   go_region_held3 (fun W=>W.cell? ⟨b,bD+k*15+2,none⟩=some (.int .i64 c.g.k)/\W.cell? ⟨w.heap.size,0,none⟩=some (.int .i64 x.k))
    (exact ⟨by simpa using y2,by simpa using z0⟩)
    (fail)
   clear y2 z0
  ·go_wp2
   go_ret2;exact ⟨_,[],9,rfl,HK,World.ownsRow_nil _ _ _ _,CesO.nil _ _,ak.out.drew⟩
  have av:Hid (∀ (o:Ag) (q:Pl) (A M:List Ce),Qcd c.g x o->A.map Ce.key=(L.take k).map Ce.key->M.map Ce.key=(L.drop (k+1)).map Ce.key->PuA L win x ((A ++ [⟨win,x.se,o,q⟩]) ++ M) 0):=Qaa (fun o q A M h hA hM=>PuA.there c o _ HM E1 E2 HK h (QuW AS HP hA hM));go_wp2_with fail
 case' false=>
  obtain ⟨_,hn⟩:=QlJ AS HP;have a7:=Qaa hn;clear hn;go_upto_region 2 with fail;have aa:(fun _=>True) w1.drew:=trivial;refine Qao (fun _=>True) 99 (by kernel_rfl) ?_;refine tkS 0 (.bool false) aa ?_;refine tkS 1 (.bool false) aa ?_;refine tkU 2 aa ?_;simp only [sX];refine tkU 3 aa ?_;refine tkU 4 aa ?_;refine tkU 5 aa ?_;simp only [sX];refine tkU 6 aa ?_;refine tkU 7 aa ?_;refine tkU 8 aa ?_;simp only [sX];refine tkU 9 aa ?_;refine tkU 10 aa ?_;refine tkS 11 (.bool false) aa ?_;simp only [sX];refine dnE ?_ _;clear aa;by_cases hf:60<=N
  case pos=>
   have HR:Hid (PuA L win x [] 8):=PuA.full a7 (by have:=II.out.hN;omega);have bf:decide ((60:Int)<=(N:Int))=true:=ZZh (by omega);clear hf;go_wp2;go_ret2;exact ⟨_,[],8,rfl,HR,World.ownsRow_nil _ _ _ _,CesO.nil _ _,ak.out.drew⟩
  have bf:decide ((60:Int)<=(N:Int))=false:=ZZg (by omega);have HF:=Qaa hf;clear hf;have av:Hid (∀ (o:Ag) (q:Pl) (A M:List Ce),Qcd g0 x o->A.map Ce.key=(L.take k).map Ce.key->M.map Ce.key=(L.drop k).map Ce.key->PuA L win x ((A ++ [⟨win,x.se,o,q⟩]) ++ M) 0):=Qaa (fun o q A M h hA hM=>PuA.new o _ a7 (by have:=HF.out;have:=II.out.hN;omega) (HG.out ▸ h) (ptl_no AS HP hA hM));go_wp2_with fail
 all_goals
  refine (Qb9 (L:=L.take k) aY lk (fun d hd=>II.out.sm d (ZZo hd)) (fun d hd=>II.out.pl d (ZZo hd)) (Qa6 (Qqx II.out.mem) ak.out.drew)).mono ?_;rintro e w2 ⟨vA,A,rfl,hr,ho,bc,aJ,aT⟩;have aF:=Qaa (Qac ak.out.drew aJ);have X2:=Qaa (QbD (w:=w1.drew) X1 aJ);have aI:=Qaa (hr.le ak.out.drew.size);have bj:=Qaa (ho.le ak.out.drew.size);have bl:=Qaa bc;have bN:=Qaa aT;clear hr ho bc aT aJ;go_upto_region 7 with fail
  go_cut [11] (fun v w'=>∃ G:Nat,v=.pointer (some ⟨G,0,none⟩)/\Hid (w'.heap[G]?=some (.cells (Qas ⟨win,x.se,g0,p0⟩) 92 (0,0)))/\Hid (w2.heap.size<=G)/\Hid (Below w2.heap.size w2 w'))
  case first=>
   have aa:(fun W=>Below w2.heap.size w2 W) w2.drew:=(ZZb _ _).drew;refine Qao (fun W=>Below w2.heap.size w2 W) 8 (by kernel_rfl) ?_;refine tkS 0 (.int .i64 win) aa ?_;refine tkS 1 (.pointer (some ⟨w.heap.size,1,none⟩)) aa ?_;refine tkL 2 (.string x.se) aa (fun W hW=>?_) ?_
   ·have q:=QcI (QbD X2 hW) 1 rfl
    clear hW;go_simp
   simp only [sX];refine tkS 3 (.pointer (some ⟨w.heap.size,0,none⟩)) aa ?_;refine tkL 4 (.int .i64 x.k) aa (fun W hW=>?_) ?_
   ·have q:=QcI (QbD X2 hW) 0 rfl
    clear hW;go_simp
   simp only [sX];refine QjV (i:=5) (j:=7) (by kernel_rfl) rfl rfl (fun K hK=>?_) (fun K hK=>?_)
   focus
    go_simp;refine (Qpu K1 K4).mono ?_;rintro e w3 ⟨rfl,al⟩;rw [<- HG.out,<- aO.out];have au:Hid (Below w2.heap.size w2 w3):=(aa:Below w2.heap.size w2 _).trans (al.mono (aa:Below w2.heap.size w2 _).size);clear al
    try dsimp only
    refine gK hK au.out ?_
    try simp only [sX]
    refine tkS 6 (.agg (Qas ⟨win,x.se,g0,p0⟩)) au ?_;simp only [sX];refine onE 7 fun K hK=>?_;go_simp;have am:Hid (Below w2.heap.size w2 (w3.alloc (.cells QbI 92))):=au.out.alloc au.out.size _;have R0:=Qaa (ZZk w3 (.cells QbI 92))
    try dsimp only
    refine gK hK am.out ?_
    try simp only [sX]
    have hG:Hid (w2.heap.size<=w3.heap.size):=au.out.size;generalize w3.alloc _=Wa at am R0 ⊢
   rotate_left
   focus
    go_simp;have ap:Hid (Below w2.heap.size w2 (w2.alloc (.cells QbI 92)).drew):=((ZZb _ _).alloc (ZZa _) _).drew;have R1:Hid ((w2.alloc (.cells QbI 92)).drew.heap[w2.heap.size]?=some (.cells QbI 92 (0,0))):=ZZk w2 (.cells QbI 92)
    try dsimp only
    refine gK hK ap.out ?_
    try simp only [sX]
    generalize (w2.alloc _).drew=Wb at ap R1 ⊢;refine onE 5 fun K hK=>?_;go_simp;refine (Qpu K1 K4).mono ?_;rintro e Wa ⟨rfl,al⟩;rw [<- HG.out,<- aO.out];have am:Hid (Below w2.heap.size w2 Wa):=ap.out.trans (al.mono ap.out.size);have R0:=Qaa (QbD R1 al);have hG:Hid (w2.heap.size<=w2.heap.size):=ZZa _;clear al R1 ap
    try dsimp only
    refine gK hK am.out ?_
    try simp only [sX]
    refine tkS 6 (.agg (Qas ⟨win,x.se,g0,p0⟩)) am ?_;simp only [sX]
   all_goals
    obtain ⟨q0,q1,q2,q3,q4,q5,q6,q7,q8,q9,ag,af,ad,ae,ah⟩:=QuJ R0;obtain ⟨f0,f1,f2,f3,f4,f5,f6,f7,f8,f9,aB,an,ar,aA,ay⟩:=fA15 R0;refine onE 8 fun K hK=>?_;go_simp;clear q0 q1 q2 q3 q4 q5 q6 q7 q8 q9 ag af ad ae ah;clear f0 f1 f2 f3 f4 f5 f6 f7 f8 f9 aB an ar aA ay;refine hK.out _ _ (fun h=>absurd rfl h) ?_
    try simp only [sX]
    refine dnE ?_ _;go_wp2;go_meet;exact ⟨_,rfl,Qaa (rowAll R0 _ _ _ _ _ _ _ _ _ _ _ _ _ _ _),hG,Qaa (Qqo am hG _ _ _ _ _ _ _ _ _ _ _ _ _ _ _)⟩
  obtain ⟨G,rfl,RG,GG,BG⟩:=hcut
 focus
  obtain ⟨a1,a2,a3,a4,a5⟩:=QiM K1 K4;obtain ⟨W9,bC⟩:∃ X,X=wc:=⟨_,rfl⟩;subst bC;have R9:=RG;have B9:=BG;have HQ:Hid (agB g0=true/\g0.k=x.k/\AgOk g0/\AgSm g0/\PlG g0 p0/\AgAt W9 g0 p0):=Qaa (by rw [HG.out,aO.out];exact ⟨a1,a4,a2,a3,(a5 w2 0).plgP,(a5 _ 0).at⟩);clear a1 a2 a3 a4 a5 RG BG;go_upto_region 10 with fail
 rotate_left
 focus
  obtain ⟨_,_,y2,y3,y4,y5,y6,y7,y8,y9,bv,bB,bE,bA,bz⟩:=QaP (br.out k c HC) (Qac aF BG);obtain ⟨q0,q1,q2,q3,q4,q5,q6,q7,q8,q9,ag,af,ad,ae,ah⟩:=QuJ RG;obtain ⟨f0,f1,f2,f3,f4,f5,f6,f7,f8,f9,aB,an,ar,aA,ay⟩:=fA15 RG;go_upto_region 10 with fail;clear y2 y3 y4 y5 y6 y7 y8 y9 bv bB bE bA bz;clear q0 q1 q2 q3 q4 q5 q6 q7 q8 q9 ag af ad ae ah;clear f0 f1 f2 f3 f4 f5 f6 f7 f8 f9 aB an ar aA ay;generalize hW:World.setCell _ _ _=W9;have R9:Hid (W9.heap[G]?=some (.cells (Qas ⟨win,x.se,c.g,c.p⟩) 92 (0,0))):=Qaa (by rw [<- hW];exact QrE RG);have B9:Hid (Below w2.heap.size w2 W9):=Qaa (by rw [<- hW];exact QnT BG GG _ _ _ _ _ _ _ _ _ _ _ _ _);clear hW RG BG;have HQ:Hid (agB c.g=true/\c.g.k=x.k/\AgOk c.g/\AgSm c.g/\PlG c.g c.p/\AgAt W9 c.g c.p):=Qaa ⟨RT.out c HM,HK,II.out.ok c HM,II.out.sm c HM,II.out.pl c HM,Qbj (II.out.mem.2 c HM) (Qac aF B9)⟩
 all_goals
  have X9:=Qaa (QbD X2 B9);obtain ⟨s0,s1,s2,s3,s4,s5,s6⟩:=cells7 X9;obtain ⟨q0,q1,q2,q3,q4,q5,q6,q7,q8,q9,ag,af,ad,ae,ah⟩:=QuJ R9;go_wp2_with fail;clear s0 s1 s2 s3 s4 s5 s6;clear q0 q1 q2 q3 q4 q5 q6 q7 q8 q9 ag af ad ae ah;refine (Qmv x HQ.out.1 HX HQ.out.2.1 HQ.out.2.2.1 OX HQ.out.2.2.2.1 HQ.out.2.2.2.2.1 HQ.out.2.2.2.2.2).mono ?_;rintro e w4 ⟨v,o,rfl,az,⟨q,rfl,bd⟩,aG⟩;have R4:=Qaa (QbD R9 aG);have B4:=Qaa (B9.out.trans (aG.mono B9.out.size));have aL:=Qaa az;have aZ:=Qaa (bd.le (show G+1<=W9.heap.size from (ZZc.1 R9).1));clear az bd aG R9 B9 HQ X9;obtain ⟨q0,q1,q2,q3,q4,q5,q6,q7,q8,q9,ag,af,ad,ae,ah⟩:=QuJ R4;obtain ⟨f0,f1,f2,f3,f4,f5,f6,f7,f8,f9,aB,an,ar,aA,ay⟩:=fA15 R4;go_upto_region 11 with fail;clear q0 q1 q2 q3 q4 q5 q6 q7 q8 q9 ag af ad ae ah;clear f0 f1 f2 f3 f4 f5 f6 f7 f8 f9 aB an ar aA ay;generalize hW:World.setCell _ _ _=W5;have R5:Hid (W5.heap[G]?=some (.cells (Qas ⟨win,x.se,o,q⟩) 92 (0,0))):=Qaa (by rw [<- hW];exact QrE R4);have B5:Hid (Below w2.heap.size w2 W5):=Qaa (by rw [<- hW];exact QnT B4 GG _ _ _ _ _ _ _ _ _ _ _ _ _);have O5:Hid (AgO W5 (G+1) o q):=Qaa (by rw [<- hW];exact aZ.out.kept15 (Nat.lt_succ_self _));clear hW R4 B4 aZ;obtain ⟨q0,q1,q2,q3,q4,q5,q6,q7,q8,q9,ag,af,ad,ae,ah⟩:=QuJ R5;have aR:=Qaa (aI.out.past B5);have aE:Hid (A.length=k):=by show _=_;have:=congrArg List.length bl;simp at this;have:=aY.out;simp at this;omega
  have bH:w.heap.size<=W5.heap.size:=Nat.le_trans aF.out.size B5.out.size;have a9:=Qaa (fun v' w6=>QuE (c:=⟨win,x.se,o,q⟩) (v':=v') (w6:=w6) aI bj aF B5 GG O5);go_wp2_with (at_builtin;refine wpList_append_own _ rfl _ _ 58 rfl w.heap.size 92 i0 (.agg QbI) 15 192 underlying58 hi aP aX a6 rfl (by decide) _ _ _ rfl (World.ownsRow.alloc aR _) ⟨W5.heap.size,0,none⟩ 1 1 (ceL ⟨win,x.se,o,q⟩) rfl rfl ?c1 ?c2 ?c3 ?c4 ?c5 ?_)
  case c1=>first | exact Qb7 (c:=⟨win,x.se,o,q⟩) | exact fun j u hj=>hj
  case c2=>exact QdX _
  case c3=>have:=aE.out;unfold maxLen;omega
  case c4=>have:=aE.out;omega
  case c5=>first | (simp;omega) | omega
  intro v6 w6 ai ac ax;obtain ⟨bo,bg,aM⟩:=a9.out v6 w6 ai ac;have aS:=Qaa bo;have bt:=Qaa bg;have bi:=Qaa aM;have aW:w.heap.size<=w6.heap.size:=aM.size;clear ai ac ax bo bg aM a9 aR aI bj O5 R5 B5;clear q0 q1 q2 q3 q4 q5 q6 q7 q8 q9 ag af ad ae ah
 focus
  have bF:(0:Int)<=(k:Int)+1:=by omega
  have bJ:(k:Int)+1<=(N:Int):=by omega
  have bL:IntKind.i64.wrap ((k:Int)+1)=(k:Int)+1:=ZZi _ ⟨by omega,by omega⟩;have aK:Hid ((L.drop (k+1)).length=N - (k+1)):=by show _=_;rw [List.length_drop,II.out.hN]
  have ld:N - (k+1)<=1048576:=by have:=II.out.lN;omega
  have D1:=Qlf (k:=k+1) (ca:=ca) II.out.mem (by have:=II.out.hN;omega);by_cases aw:ca=k+1
  case' pos=>rw [if_pos aw] at D1
  case' neg=>
   rw [if_neg aw] at D1;simp only [Option.map_some,Addr.add] at D1
  all_goals have bh:=Qaa D1
 rotate_left 2
 focus
  have aK:Hid ((L.drop k).length=N - k):=by show _=_;rw [List.length_drop,II.out.hN]
  have ld:N - k<=1048576:=by have:=II.out.lN;omega
  have D1:=Qlf (k:=k) (ca:=ca) II.out.mem (by have:=II.out.hN;omega);by_cases aw:ca=k
  case' pos=>rw [if_pos aw] at D1
  case' neg=>rw [if_neg aw] at D1
  all_goals have bh:=Qaa D1
 all_goals
  clear D1;go_wp2_with fail;refine (Qb9 aK ld (fun d hd=>II.out.sm d (ZZp hd)) (fun d hd=>II.out.pl d (ZZp hd)) (Qa6 bh bi)).mono ?_;rintro e w7 ⟨vB,M,rfl,bp,ba,aH,aN,aU⟩;obtain ⟨gB,cB,rfl,bm⟩:=bp.src aU;have bq:=Qaa bm;have bx:=Qaa ba;have bu:=Qaa aH;have bb:=Qaa aN;have bn:=Qaa ((Qol aH).trans aK);have a0:=Qaa (aS.out.past bb);have bw:w.heap.size<=w7.heap.size:=Nat.le_trans aW aN.size;have aQ:=Qaa (fun v'' w8=>Qt2 (v'':=v'') (w8:=w8) aS bt aW bi bb bx);clear bm ba aH aN bp aU;go_wp2_with (at_builtin;refine wpList_append_own _ rfl _ _ 58 rfl w.heap.size 92 i0 (.agg QbI) 15 192 underlying58 hi aP aX a6 rfl (by decide) _ _ _ rfl a0 ⟨gB,0,none⟩ M.length cB (flC M) rfl (Qcv M) bq (Qfp M) ?c3 ?c4 bw ?_)
  case c3=>have:=aE.out;have:=bn.out;have:=II.out.lN;simp only [List.length_append,List.length_cons,List.length_nil];unfold maxLen;omega
  case c4=>have:=aE.out;have:=bn.out;have:=II.out.lN;simp only [List.length_append,List.length_cons,List.length_nil];omega
  intro v8 w8 aj be aq;obtain ⟨f1,f2,f3⟩:=aQ.out v8 w8 (by rw [List.length_append];exact aj) be;have F1:=Qaa f1;have F2:=Qaa f2;have F3:=Qaa f3;clear f1 f2 f3 aj be aq aQ a0;go_wp2;go_ret2;exact ⟨_,_,0,rfl,av.out _ _ _ _ aL bl bu,F1,F2,F3⟩
end
section
theorem Qi3 (h:cRi c=true):agB c.g=true:=by
 unfold cRi at h;simp only [Bool.and_eq_true] at h
 first | exact h.1.2 | exact h.2 | exact h.1.1.2 | exact h.2.1 | exact h.2.2
end
section
theorem Qhf (L:List Bn):(Qaq L).length<=30:=by
 unfold Qaq
 split
 ·assumption
 ·have hd:(L.drop (L.length - 30)).length=30:=by rw [List.length_drop];omega
  split
  ·rename_i h;rw [h] at hd;simp at hd
  ·rename_i h;rw [h] at hd;simp at hd ⊢; omega
def AgFew (o:Ag):Prop:=o.P.length<=30/\o.N.length<=30/\o.E.length<=64/\o.R.length<=64
theorem AgFew.sm (h:AgFew o):AgSm o:=⟨by have:=h.1;omega,by have:=h.2.1;omega,by have:=h.2.2.1;omega,by have:=h.2.2.2;omega⟩
theorem Qqe (h:AgMrg g g' o):AgFew o:=by
 unfold AgMrg at h
 split at h
 ·rename_i hg
  obtain ⟨E,R,m,rfl⟩:=h;have n:=Qa9 hg.1;have n':=Qa9 hg.2.1;have m':Qms g.E g.R g'.E g'.R E R:=by unfold Qms;rw [if_pos ⟨n.hl,n'.hl⟩];exact m
  have l:=Qc6 (QjP n.hl n'.hl m');exact ⟨Qhf _,Qhf _,by show E.length<=_;omega,by show R.length<=_;omega⟩
 ·subst h
  exact ⟨by simp [Qe8],by simp [Qe8],by simp [Qe8],by simp [Qe8]⟩
theorem Ql9 (h:Qcd g x o) (hx:x.B=true) (hg:agB g=true) (hk:g.k=x.k):AgFew o:=by
 unfold Qcd at h
 split at h
 ·exact Qqe h
 ·rename_i q;exact absurd (by first | exact ⟨hg,hx,hk⟩ | exact ⟨hg,hk,hx⟩ | exact ⟨⟨hg,hx⟩,hk⟩) q
end
section
theorem QuN {A R:List Ce} (h:PtL A n s o R) (a:Qck A):Qck R:=by
 refine QeM (L:=A.filter (loF n s) ++ ⟨n,s,o,⟨none,0,none,0,none,0,none,0⟩⟩ :: A.filter (hiF n s)) ?_ (Qnf (c:=⟨n,s,o,⟨none,0,none,0,none,0,none,0⟩⟩) a);rw [List.map_append,List.map_cons];exact h
structure CnQ (M:List Ce):Prop where
 ok:∀ c∈M,AgOk c.g
 sm:∀ c∈M,AgSm c.g
 rt:∀ c∈M,agB c.g=true
 ky:∀ c∈M,QmY c.n c.s
theorem CnQ.keys {M L:List Ce} (h:CnQ L) (k:M.map Ce.key=L.map Ce.key):CnQ M:=by
 refine ⟨fun c hc=>?_,fun c hc=>?_,fun c hc=>?_,fun c hc=>?_⟩ <;> obtain ⟨d,hd,e1,e2,e3⟩:=Qo5 k hc
 ·rw [<- e3];exact h.ok d hd
 ·rw [<- e3];exact h.sm d hd
 ·rw [<- e3];exact h.rt d hd
 ·rw [<- e1,<- e2];exact h.ky d hd
theorem CnQ.ptl {A R:List Ce} (q:CnQ A) (h:PtL A n s o R) (k:QmY n s) (ok:AgOk o) (sm:AgSm o) (rt:agB o=true):CnQ R:=by
 refine CnQ.keys (L:=A.filter (loF n s) ++ ⟨n,s,o,⟨none,0,none,0,none,0,none,0⟩⟩ :: A.filter (hiF n s)) ?_ (by rw [List.map_append,List.map_cons];exact h)
 have aa:∀ c∈A.filter (loF n s) ++ ⟨n,s,o,⟨none,0,none,0,none,0,none,0⟩⟩ :: A.filter (hiF n s),c∈A∨c=⟨n,s,o,⟨none,0,none,0,none,0,none,0⟩⟩:=fun c hc=>by
  rcases List.mem_append.1 hc with hc | hc
  ·exact .inl (List.mem_filter.1 hc).1
  ·rcases List.mem_cons.1 hc with rfl | hc
   ·exact .inr rfl
   ·exact .inl (List.mem_filter.1 hc).1
 refine ⟨fun c hc=>?_,fun c hc=>?_,fun c hc=>?_,fun c hc=>?_⟩ <;> rcases aa c hc with hc | rfl
 ·exact q.ok c hc
 ·exact ok
 ·exact q.sm c hc
 ·exact sm
 ·exact q.rt c hc
 ·exact rt
 ·exact q.ky c hc
 ·exact k
end
variable {R':List Ce}
section
theorem Qip (h:x.B=true):Qby x.se=true:=by
 unfold Sx.B Qlt at h;simp only [Bool.and_eq_true] at h;exact h.1.1.1.2
theorem Qn8 (h:Qcd g x o) (hg:agB g=true) (hx:x.B=true) (hk:g.k=x.k) (ok:AgOk g) (ox:x.Ok):o.s≠0:=by
 unfold Qcd at h;rw [if_pos (by first | exact ⟨hg,hx,hk⟩ | exact ⟨hg,hk,hx⟩)] at h;unfold AgMrg at h
 split at h
 ·obtain ⟨E,R,m,rfl⟩:=h
  show QaD g.s (Qg9 x).s≠0
  have e:(Qg9 x).s=1:=by unfold Qg9;split <;> first | rfl | (split <;> first | rfl | (split <;> rfl))
  rw [e];have:=ok.s;unfold U64 at this;unfold QaD
  split <;> omega
 ·rename_i q
  exact absurd ⟨hg,Qb8 ox hx,hk.trans (QgM hx).symm⟩ q
theorem QoU {R:List Ce} (r:csR R=true) (h:PtL R n s o R') (hn:Qjm n=true) (hs:Qby s=true) (ho:agB o=true) (hz:o.s≠0) (hl:R'.length<=60):csR R'=true:=by
 obtain ⟨h1,h2,h3⟩:=csR_iff.1 r;refine csR_iff.2 ⟨hl,fun c hc=>?_,QuN h h3⟩;have h':R'.map Ce.key=(R.filter (loF n s) ++ ⟨n,s,o,⟨none,0,none,0,none,0,none,0⟩⟩ :: R.filter (hiF n s)).map Ce.key:=by rw [List.map_append,List.map_cons];exact h
 obtain ⟨d,hd,e1,e2,e3⟩:=Qo5 h' hc;have e:cRi c=cRi d:=by unfold cRi;rw [e1,e2,e3]
 rw [e];rcases List.mem_append.1 hd with hd | hd
 ·exact h2 d (List.mem_filter.1 hd).1
 ·rcases List.mem_cons.1 hd with rfl | hd
  ·unfold cRi
   simp [hn,hs,ho,hz]
  ·exact h2 d (List.mem_filter.1 hd).1
theorem QlH {R:List Ce} (r:csR R=true) (q:CnQ R) (ox:x.Ok) (hx:x.B=true) (hn:Qjm n=true) (p:PuA R n x R' 0):csR R'=true/\CnQ R':=by
 have aa:=(csR_iff.1 r).2.2;have kw:QmY n x.se:=⟨Qka hn,ox.se⟩;generalize hc0:(0:Int)=c0 at p
 cases p with
 | kind=>exact absurd hc0 (by decide)
 | full=>exact absurd hc0 (by decide)
 | there c o R' hc k1 k2 hk hp hR=>
  obtain ⟨a1,a2,_⟩:=QjK ox (q.ok c hc) hp
  have hl:R'.length<=60:=by
   have e:=congrArg List.length hR;simp only [List.length_map,List.length_append,List.length_cons] at e;have sp:=congrArg List.length (Qgo aa hc);rw [k1,k2] at sp;simp only [List.length_append,List.length_cons] at sp;have:=(csR_iff.1 r).1;omega
  exact ⟨QoU r hR hn (Qip hx) (a2 (q.rt c hc)) (Qn8 hp (q.rt c hc) hx hk (q.ok c hc) ox) hl,q.ptl hR kw a1 (Ql9 hp hx (q.rt c hc) hk).sm (a2 (q.rt c hc))⟩
 | new o R' hno hl hp hR=>
  obtain ⟨b1,b4⟩:=(QbB hx).1;obtain ⟨g1,g2,g3,g4,_⟩:=QiM b1 b4;obtain ⟨a1,a2,_⟩:=QjK ox g2 hp
  have ab:R'.length<=60:=by
   have e:=congrArg List.length hR;simp only [List.length_map,List.length_append,List.length_cons] at e;have:=(QnH hno).length_eq;simp only [List.length_append] at this;omega
  exact ⟨QoU r hR hn (Qip hx) (a2 g1) (Qn8 hp g1 hx g4 g2 ox) ab,q.ptl hR kw a1 (Ql9 hp hx g1 g4).sm (a2 g1)⟩
end
section
theorem cnq_of {N:Nat} {L:List Ce} (h:ShI w ao N L) (r:csR L=true):CnQ L:=⟨h.ok,h.sm,fun c hc=>Qi3 ((csR_iff.1 r).2.1 c hc),Qmu h r⟩
end
end Go.Proofs.YtdbaabbmcfnjbaaGreatDoor
