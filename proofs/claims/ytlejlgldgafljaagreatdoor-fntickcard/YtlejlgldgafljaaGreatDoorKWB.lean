/-
 Parts.
-/
import Derived.Test.YtlejlgldgafljaaGreatDoorKZW
import Derived.Test.YtlejlgldgafljaaGreatDoorKWA
set_option maxRecDepth 10000
set_option maxHeartbeats 16000000
set_option linter.all false
namespace Go.Proofs.YtlejlgldgafljaaGreatDoor
open Go.ChangeShapes Go.WideShapes Go.ChangeAt Go.RowKit Go.PlainAid Go.Maps Go.Lib Tryz
section
theorem Qjv:∀ (l:List Int) (x:Int),l.Pairwise (· < ·)->(QcA l x).Pairwise (· < ·)
 | [],x,_=>by simp [QcA]
 | y :: r,x,h=>by
  have hr:=List.pairwise_cons.1 h;unfold QcA
  split
  ·rename_i hlt
   refine List.pairwise_cons.2 ⟨fun z hz=>?_,Qjv r x hr.2⟩;rcases (QfJ z r x).1 hz with h' | h'
   ·omega
   ·exact hr.1 z h'
  ·split
   ·exact h
   ·rename_i h1 h2
    refine List.pairwise_cons.2 ⟨fun z hz=>?_,h⟩;rcases List.mem_cons.1 hz with h' | h'
    ·omega
    ·have:=hr.1 z h'; omega
theorem Qm9 (m:List Int):∀ l:List Int,l.Pairwise (· < ·)->(Qjt l m).Pairwise (· < ·):=by
 induction m with
 | nil=>intro l h;exact h
 | cons x m ih=>intro l h;exact ih _ (Qjv l x h)
theorem Qdw (z:Int) (m:List Int):∀ l:List Int,z∈Qjt l m↔z∈l∨z∈m:=by
 induction m with
 | nil=>intro l;simp [Qjt]
 | cons x m ih=>
  intro l
  show z∈Qjt (QcA l x) m↔_
  rw [ih,QfJ,List.mem_cons];constructor
  ·rintro ((h | h) | h) <;> simp [h]
  ·rintro (h | h | h) <;> simp [h]
end
section
def PutH (E R:List Int) (x:Int) (E' R':List Int):Prop:=if hlB E R=true then Mg E R [x] [] E' R' else E'=E/\R'=R
def Qms (E1 R1 E2 R2 E R:List Int):Prop:=if hlB E1 R1=true/\hlB E2 R2=true then Mg E1 R1 E2 R2 E R else E=[]/\R=[]
end
variable {A B B1 B2 E E1 E2 F R R1 R2 S T U U1 U2:List Int}
section
theorem Qlz (h:upN E1=true) (E2:List Int):QmX E1 E2=Qjt E1 E2:=by
 unfold QmX;rw [Qij (l:=[]) (by simpa using QfP h)];rfl
theorem Qq1 (x:Int) (E1 E2:List Int):x∈QmX E1 E2↔x∈E1∨x∈E2:=by
 unfold QmX;rw [Qdw,Qdw];simp
theorem Qii (h:R.length=64):QhP R=R:=by unfold QhP;rw [if_neg (by omega)]
end
variable {g1 g2:Prop}
section
def zer:List Int:=List.replicate 64 0
theorem Qs7:zer.length=64:=by simp [zer]
theorem Qnn (i:Nat):zer.getD i 0=0:=by
 unfold zer;rw [List.getD_eq_getElem?_getD,List.getElem?_replicate];split <;> rfl
theorem QsL (hA:A.length=64) (hB:B.length=64) (h:∀ i,i<64->A.getD i 0=B.getD i 0):A=B:=by
 apply List.ext_getElem (by omega);intro i h1 h2;have:=h i (by omega);rw [List.getD_eq_getElem?_getD,List.getD_eq_getElem?_getD,List.getElem?_eq_getElem h1,List.getElem?_eq_getElem h2] at this;exact this
theorem Qoe:Qe5 zer:=⟨Qs7,fun i _=>by rw [Qnn];omega⟩
theorem mx_ok (a:Qe5 A) (b:Qe5 B):Qe5 (mxx A B):=⟨by rw [Qi6];exact a.1,fun i hi=>by
 rw [Qll a.1 i hi];have:=a.2 i hi;have:=b.2 i hi;omega⟩
theorem Qr4 (a:Qe5 A):mxx A zer=A:=
 QsL (by rw [Qi6];exact a.1) a.1 fun i hi=>by rw [Qll a.1 i hi,Qnn];have:=a.2 i hi;omega
structure Can (g:Prop) (U B E R:List Int):Prop where
 rise:U.Pairwise (· < ·)
 okB:Qe5 B
 no:¬ g->B=zer
 few:¬ g->U.length<=40->E=U/\R=[]
 many:g∨40<U.length->E=[]/\Laid B (·∈U) R
theorem QdB:∀ {L:List Int},L.Pairwise (· < ·)->upN L=true
 | [],_=>rfl
 | [x],_=>rfl
 | x :: y :: r,h=>by
  have a:=List.pairwise_cons.1 h;simp only [upN,Bool.and_eq_true,decide_eq_true_eq];exact ⟨a.1 y (by simp),QdB a.2⟩
theorem Qtp (h:QgQ R=true):Qe5 R:=by
 unfold QgQ at h;simp only [Bool.and_eq_true,decide_eq_true_eq] at h;refine ⟨h.1,fun i hi=>?_⟩;have aa:i<R.length:=by omega
 have:=List.all_eq_true.1 h.2 (R[i]) (List.getElem_mem aa);rw [List.getD_eq_getElem?_getD,List.getElem?_eq_getElem aa]
 simpa [inR] using this
theorem Qtz (h:Qe5 R):QgQ R=true:=by
 unfold QgQ;simp only [Bool.and_eq_true,decide_eq_true_eq];refine ⟨h.1,List.all_eq_true.2 fun x hx=>?_⟩;obtain ⟨i,hi,rfl⟩:=List.getElem_of_mem hx;have:=h.2 i (by rw [<- h.1];exact hi);rw [List.getD_eq_getElem?_getD,List.getElem?_eq_getElem hi] at this
 simpa [inR] using this
theorem Can.self (h:hlB E R=true):Can (R.length≠0) E (QhP R) E R:=by
 rcases Qjd h with ⟨rfl,hu⟩ | ⟨aa,rfl⟩
 ·refine ⟨QfP hu,?_,fun _=>rfl,fun _ _=>⟨rfl,rfl⟩,fun q=>?_⟩
  ·exact Qoe
  ·rcases q with q | q
   ·exact absurd rfl q
   ·have:=(QiJ h).1;omega
 ·have hp:QhP R=R:=Qii aa
  have hr:QgQ R=true:=by
   unfold hlB at h;rw [if_neg (by omega)] at h;simp only [Bool.and_eq_true] at h;exact h.2
  refine ⟨List.Pairwise.nil,by rw [hp];exact Qtp hr,fun q=>absurd (by omega) q,fun q=>absurd (by omega) q,fun _=>⟨rfl,?_⟩⟩;rw [hp];exact Laid.start R (fun x hx=>by simp at hx)
theorem Can.right {g:Prop} (h:Can g U B E R):hlB E R=true:=by
 by_cases q:g∨40<U.length
 ·obtain ⟨rfl,b⟩:=h.many q
  have ok:=b.ok h.okB;unfold hlB;rw [if_neg (by rw [ok.1];omega),Qtz ok];rfl
 ·have q2:U.length<=40:=by omega
  obtain ⟨rfl,rfl⟩:=h.few (fun x=>q (.inl x)) q2;unfold hlB exB;rw [if_pos (by rfl:([]:List Int).length=0),QdB h.rise]
  simpa using q2
theorem Can.part {g:Prop} (h:Can g U B E R):∃ S:Int->Prop,Laid B S (QhP R)/\∀ x,x∈U↔S x∨x∈E:=by
 by_cases q:g∨40<U.length
 ·obtain ⟨rfl,b⟩:=h.many q
  exact ⟨(·∈U),by rw [Qii (b.ok h.okB).1];exact b,fun x=>by simp⟩
 ·have q2:U.length<=40:=by omega
  obtain ⟨rfl,rfl⟩:=h.few (fun x=>q (.inl x)) q2;refine ⟨fun _=>False,?_,fun x=>by simp⟩;rw [h.no (fun x=>q (.inl x))];exact Laid.start zer (fun _ x=>x)
theorem Qhm {l m:List Int} (hl:l.Pairwise (· < ·)):∀ {k:List Int},k.Pairwise (· < ·)->(∀ x,x∈l->x∈k)->l.length<=k.length:=by
 intro k hk hs;have n:l.Nodup:=hl.imp fun h e=>by omega
 exact n.length_le_of_subset hs
theorem Qsu (a:Qe5 A) (hR:R.length=0∨R.length=64):mxL A R R.length=mxx A (QhP R):=by
 rcases hR with h | h
 ·obtain rfl:=List.eq_nil_of_length_eq_zero h
  rw [List.length_nil,QiQ];exact (Qr4 a).symm
 ·rw [h,Qii h];rfl
theorem mg_can (h1:Can g1 U1 B1 E1 R1) (h2:Can g2 U2 B2 E2 R2) (hM:Mg E1 R1 E2 R2 E R):Can (g1∨g2) (Qjt U1 U2) (mxx B1 B2) E R:=by
 have rise:=Qm9 U2 U1 h1.rise;have ae:U1.length<=(Qjt U1 U2).length:=Qhm (m:=[]) h1.rise rise fun x hx=>(Qdw x U2 U1).2 (.inl hx);have ad:U2.length<=(Qjt U1 U2).length:=Qhm (m:=[]) h2.rise rise fun x hx=>(Qdw x U2 U1).2 (.inr hx);have ab:g1∨40<U1.length->R1.length=64:=fun q=>by obtain ⟨_,b⟩:=h1.many q;exact (b.ok h1.okB).1
 have aa:g2∨40<U2.length->R2.length=64:=fun q=>by obtain ⟨_,b⟩:=h2.many q;exact (b.ok h2.okB).1
 refine ⟨rise,mx_ok h1.okB h2.okB,fun q=>?_,fun q1 q2=>?_,fun q=>?_⟩
 ·rw [h1.no (fun x=>q (.inl x)),h2.no (fun x=>q (.inr x))];exact Qr4 Qoe
 ·obtain ⟨rfl,rfl⟩:=h1.few (fun x=>q1 (.inl x)) (by omega)
  obtain ⟨rfl,rfl⟩:=h2.few (fun x=>q1 (.inr x)) (by omega);have e:QmX E1 E2=Qjt E1 E2:=Qlz (QdB h1.rise) E2;rcases hM with ⟨_,_,_,a,b⟩ | ⟨a,_⟩
  ·exact ⟨a.trans e,b⟩
  ·exact absurd ⟨rfl,rfl,by rw [e];exact q2⟩ a
 ·rcases hM with ⟨a,b,c,_,_⟩ | ⟨a,rfl,c⟩
  ·have n1:¬ (g1∨40<U1.length):=fun q=>by have:=ab q;omega
   have n2:¬ (g2∨40<U2.length):=fun q=>by have:=aa q;omega
   obtain ⟨rfl,rfl⟩:=h1.few (fun x=>n1 (.inl x)) (by omega);obtain ⟨rfl,rfl⟩:=h2.few (fun x=>n2 (.inl x)) (by omega);rw [Qlz (QdB h1.rise) E2] at c;rcases q with (q | q) | q
   ·exact absurd (.inl q) n1
   ·exact absurd (.inl q) n2
   ·omega
  ·obtain ⟨S1,l1,s1⟩:=h1.part
   obtain ⟨S2,l2,s2⟩:=h2.part;refine ⟨rfl,?_⟩;have ac:R2.length=0∨R2.length=64:=(QiJ h2.right).2;rw [Qsu (l1.ok h1.okB) ac] at c;refine (Laid.two h1.okB h2.okB l1 l2 (fun x=>Iff.rfl)).trans c (fun x=>?_);rw [Qdw,Qq1,s1 x,s2 x];constructor
   ·rintro ((h | h) | (h | h)) <;> simp [h]
   ·rintro ((h | h) | (h | h)) <;> simp [h]
theorem Can.hash (x:Int):Can False [x] zer [x] []:=⟨by simp,Qoe,fun _=>rfl,fun _ _=>⟨rfl,rfl⟩,fun q=>by rcases q with q | q;exact q.elim;simp at q⟩
theorem QpP (h1:Can g1 U1 B1 E1 R1) (h2:Can g2 U2 B2 E2 R2) (hM:Qms E1 R1 E2 R2 E R):Can (g1∨g2) (Qjt U1 U2) (mxx B1 B2) E R:=by
 unfold Qms at hM;rw [if_pos ⟨h1.right,h2.right⟩] at hM;exact mg_can h1 h2 hM
theorem Can.sub {g:Prop} (h:Can g U B E R):∀ x∈E,x∈U:=fun x hx=>by
 by_cases q:g∨40<U.length
 ·obtain ⟨rfl,_⟩:=h.many q;simp at hx
 ·obtain ⟨rfl,_⟩:=h.few (fun x=>q (.inl x)) (by omega);exact hx
theorem QiW (h:hlB E R=true) (k:hlB F S=true) (p:Qms E R F S A T):hlB A T=true:=(QpP (Can.self h) (Can.self k) p).right
theorem QsB (u:∀ y∈E,U64 y) (v:∀ y∈F,U64 y) (p:Qms E R F S A T):∀ y∈A,U64 y:=by
 by_cases hb:hlB E R=true/\hlB F S=true
 ·intro y hy
  have:=(QpP (Can.self hb.1) (Can.self hb.2) p).sub y hy;rw [Qdw] at this;exact this.elim (u y) (v y)
 ·unfold Qms at p
  rw [if_neg hb] at p;rw [p.1];intro y hy;simp at hy
end
section
def Qfz (L:List Bn):Prop:=∀ (i j:Nat) (x y:Bn),L[i]?=some x->L[j]?=some y->i<j->x.1<y.1
end
variable {y:Bn}
section
def Qm5 (x:Bn):List Bn->List Bn
 | []=>[x]
 | y :: r=>if y.1<x.1 then y :: Qm5 x r else if y.1=x.1 then (y.1,Qa9 y.2 x.2) :: r else x :: y :: r
theorem rise_cons {r:List Bn}:Qfz (y :: r)↔(∀ x∈r,y.1<x.1)/\Qfz r:=by
 constructor
 ·intro h
  refine ⟨fun x hx=>?_,fun i j a b ha hb aa=>h (i+1) (j+1) a b (by simpa using ha) (by simpa using hb) (by omega)⟩;obtain ⟨j,hj⟩:=List.getElem?_of_mem hx;exact h 0 (j+1) y x rfl (by simpa using hj) (by omega)
 ·rintro ⟨h1,h2⟩ i j a b ha hb aa
  cases i with
  | zero=>
   obtain rfl:y=a:=by simpa using ha
   cases j with
   | zero=>omega
   | succ j=>exact h1 b (List.mem_of_getElem? (by simpa using hb))
  | succ i=>
   cases j with
   | zero=>omega
   | succ j=>exact h2 i j a b (by simpa using ha) (by simpa using hb) (by omega)
theorem Qex:Qfz []:=fun i j a b ha=>by simp at ha
theorem Qnt {x:Bn}:∀ {L:List Bn} {z:Bn},z∈Qm5 x L->z=x∨z∈L∨∃ y∈L,y.1=x.1/\z=(y.1,Qa9 y.2 x.2)
 | [],z,h=>by simp [Qm5] at h;exact .inl h
 | y :: r,z,h=>by
  unfold Qm5 at h
  split at h
  ·rcases List.mem_cons.1 h with rfl | h
   ·exact .inr (.inl (List.mem_cons_self ..))
   ·rcases Qnt h with h | h | ⟨q,hq,e,e2⟩
    ·exact .inl h
    ·exact .inr (.inl (ZZm _ h))
    ·exact .inr (.inr ⟨q,ZZm _ hq,e,e2⟩)
  ·split at h
   ·rename_i e
    rcases List.mem_cons.1 h with rfl | h
    ·exact .inr (.inr ⟨y,List.mem_cons_self ..,e,rfl⟩)
    ·exact .inr (.inl (ZZm _ h))
   ·rcases List.mem_cons.1 h with rfl | h
    ·exact .inl rfl
    ·exact .inr (.inl h)
theorem QlP {x:Bn}:∀ {L:List Bn},Qfz L->Qfz (Qm5 x L)
 | [],_=>by rw [Qm5];exact rise_cons.2 ⟨fun z hz=>by simp at hz,Qex⟩
 | y :: r,h=>by
  obtain ⟨h1,h2⟩:=rise_cons.1 h;unfold Qm5
  split
  ·rename_i hlt
   refine rise_cons.2 ⟨fun z hz=>?_,QlP h2⟩;rcases Qnt hz with rfl | hz | ⟨q,hq,e,rfl⟩
   ·exact hlt
   ·exact h1 z hz
   ·exact h1 q hq
  ·split
   ·exact rise_cons.2 ⟨fun z hz=>h1 z hz,h2⟩
   ·refine rise_cons.2 ⟨fun z hz=>?_,h⟩
    rcases List.mem_cons.1 hz with rfl | hz
    ·omega
    ·have:=h1 z hz;omega
def QnF (L M:List Bn):List Bn:=M.foldl (fun s x=>Qm5 x s) L
theorem Qgl:∀ {M L:List Bn},Qfz L->Qfz (QnF L M)
 | [],L,h=>h
 | x :: r,L,h=>Qgl (M:=r) (QlP h)
end
variable {L N P a b:List Bn}
section
theorem QeS {x:Bn} (h:∀ y∈b,x.1<y.1):mrg (x :: a) b=x :: mrg a b:=by
 cases b with
 | nil=>rw [QbQ,QbQ]
 | cons y r=>exact Qhv (h y (List.mem_cons_self ..))
theorem Qn1 {y:Bn} {M:List Bn} (hM:∀ z∈M,y.1<z.1):∀ P:List Bn,mrg (Qm5 y P) M=mrg P (y :: M)
 | []=>by rw [Qm5,Qc9,QeS hM,Qc9]
 | x :: r=>by
  unfold Qm5
  split
  ·rename_i h
   rw [Qhv h,QeS (fun z hz=>by have:=hM z hz;omega),Qn1 hM r]
  ·split
   ·rename_i h
    rw [QjY h,QeS (fun z hz=>by have:=hM z hz;show x.1<z.1;omega)]
   ·rw [Qjp (by omega),QeS hM]
theorem Qhq:∀ {N P:List Bn},Qfz N->QnF P N=mrg P N
 | [],P,_=>by rw [QbQ];rfl
 | y :: N,P,h=>by
  obtain ⟨h1,h2⟩:=rise_cons.1 h
  show QnF (Qm5 y P) N=_
  rw [Qhq h2,Qn1 h1]
end
section
def Qtm (P N:List Bn) (v wt:Int):Prop:=skB P N=true/\(-999999999999999999<=v/\v<=999999999999999999)/\wt≠0
end
section
theorem QlT:∀ {L:List Bn} {q:Int},Qbx q L=true->Qfz L/\∀ x∈L,q<x.1
 | [],_,_=>⟨Qex,fun x hx=>by simp at hx⟩
 | y :: r,q,h=>by
  simp only [Qbx,Bool.and_eq_true,decide_eq_true_eq] at h;obtain ⟨⟨⟨h1,h2⟩,h3⟩,h4⟩:=h;obtain ⟨k1,k2⟩:=QlT h4;refine ⟨rise_cons.2 ⟨k2,k1⟩,fun x hx=>?_⟩;rcases List.mem_cons.1 hx with rfl | hx
  ·exact h1
  ·have:=k2 x hx;omega
theorem QiV (h:QaP L=true):Qfz L/\L.length<=30:=by
 unfold QaP at h;simp only [Bool.and_eq_true,decide_eq_true_eq] at h;exact ⟨(QlT h.2).1,h.1⟩
theorem Qpe (h:skB P N=true):(Qfz P/\P.length<=30)/\Qfz N/\N.length<=30:=by
 unfold skB at h;simp only [Bool.and_eq_true] at h;exact ⟨QiV h.1,QiV h.2⟩
theorem Qrk (x:Bn):Qfz [x]:=rise_cons.2 ⟨fun y hy=>by simp at hy,Qex⟩
end
variable {g g' o:Ag}
variable {a' m n t t' v:Int}
section
def Qiu (a t a' t':Int):Bool:=decide (t<t') || ((t' == t) && decide (a<a'))
def gA (a t a' t':Int):Int:=if Qiu a t a' t'=true then a' else a
def gT (a t a' t':Int):Int:=if Qiu a t a' t'=true then t' else t
def QsN (g g':Ag) (E R:List Int):Ag:=⟨g.k,Qa9 g.s g'.s,QeL g.h g.l g'.h g'.l,Qfa g.l g'.l,if g.k=2 then gA g.a g.t g'.a g'.t else 0,if g.k=2 then gT g.a g.t g'.a g'.t else 0,Qa9 g.z g'.z,Qbj (mrg g.P g'.P),Qbj (mrg g.N g'.N),QeL g.x g.y g'.x g'.y,Qfa g.y g'.y,E,R⟩
def AgMrg (g g' o:Ag):Prop:=if agB g=true/\agB g'=true/\g.k=g'.k then ∃ E R,Mg g.E g.R g'.E g'.R E R/\o=QsN g g' E R else o=QgG
structure AgNo (g:Ag):Prop where
 k1:1<=g.k
 k4:g.k<=4
 sk:skB g.P g.N=true
 hl:hlB g.E g.R=true
 nc:g.k≠1->g.h=0/\g.l=0
 ng:g.k≠2->g.a=0/\g.t=0
 nh:g.k≠3->g.z=0/\g.x=0/\g.y=0/\g.P=[]/\g.N=[]
 ns:g.k≠4->g.E=[]/\g.R=[]
theorem Qby (h:agB g=true):AgNo g:=by
 unfold agB at h;simp only [Bool.and_eq_true,Bool.or_eq_true,decide_eq_true_eq,beq_iff_eq,QbX,Qe3] at h;obtain ⟨⟨⟨⟨⟨⟨⟨h1,h2⟩,h3⟩,h4⟩,h5⟩,h6⟩,h7⟩,h8⟩:=h;refine ⟨h1,h2,h3,h4,fun n=>?_,fun n=>?_,fun n=>?_,fun n=>?_⟩
 ·rcases h5 with h | h
  ·exact absurd h n
  ·simpa [QgT] using h
 ·rw [if_neg n] at h8;simpa using h8
 ·exact h6.elim (fun e=>absurd e n) id
 ·exact h7.elim (fun e=>absurd e n) id
theorem Qk3:Mg [] [] [] [] [] []:=.inl ⟨rfl,rfl,by simp [QmX,Qjt],rfl,rfl⟩
theorem QeP:Qbj (mrg [] [])=[]:=by simp [mrg,Qbj]
theorem QfV:Qa9 0 0=0:=by decide
theorem QdK:QeL 0 0 0 0=0:=by decide +kernel
theorem Qdv:Qfa 0 0=0:=by decide
theorem mrgC (h:agB g=true) (h':agB g'=true) (e:g.k=g'.k) (k:g.k=1):AgMrg g g' ⟨1,Qa9 g.s g'.s,QeL g.h g.l g'.h g'.l,Qfa g.l g'.l,0,0,0,[],[],0,0,[],[]⟩:=by
 have n:=Qby h;have n':=Qby h';unfold AgMrg;rw [if_pos ⟨h,h',e⟩];obtain ⟨a1,a2,a3,a4,a5⟩:=n.nh (by omega);obtain ⟨b1,b2,b3,b4,b5⟩:=n'.nh (by omega);obtain ⟨c1,c2⟩:=n.ns (by omega);obtain ⟨d1,d2⟩:=n'.ns (by omega);refine ⟨[],[],by rw [c1,c2,d1,d2];exact Qk3,?_⟩;unfold QsN;rw [if_neg (by omega),if_neg (by omega),a1,a2,a3,a4,a5,b1,b2,b3,b4,b5,k,QeP,QfV,QdK,Qdv]
theorem mrgG (h:agB g=true) (h':agB g'=true) (e:g.k=g'.k) (k:g.k=2):AgMrg g g' ⟨2,Qa9 g.s g'.s,0,0,gA g.a g.t g'.a g'.t,gT g.a g.t g'.a g'.t,0,[],[],0,0,[],[]⟩:=by
 have n:=Qby h;have n':=Qby h';unfold AgMrg;rw [if_pos ⟨h,h',e⟩];obtain ⟨a1,a2,a3,a4,a5⟩:=n.nh (by omega);obtain ⟨b1,b2,b3,b4,b5⟩:=n'.nh (by omega);obtain ⟨c1,c2⟩:=n.ns (by omega);obtain ⟨d1,d2⟩:=n'.ns (by omega);obtain ⟨e1,e2⟩:=n.nc (by omega);obtain ⟨f1,f2⟩:=n'.nc (by omega);refine ⟨[],[],by rw [c1,c2,d1,d2];exact Qk3,?_⟩;unfold QsN;rw [if_pos k,if_pos k,a1,a2,a3,a4,a5,b1,b2,b3,b4,b5,e1,e2,f1,f2,k,QeP,QfV,QdK,Qdv]
theorem mrgH (h:agB g=true) (h':agB g'=true) (e:g.k=g'.k) (k:g.k=3):AgMrg g g' ⟨3,Qa9 g.s g'.s,0,0,0,0,Qa9 g.z g'.z,Qbj (mrg g.P g'.P),Qbj (mrg g.N g'.N),QeL g.x g.y g'.x g'.y,Qfa g.y g'.y,[],[]⟩:=by
 have n:=Qby h;have n':=Qby h';unfold AgMrg;rw [if_pos ⟨h,h',e⟩];obtain ⟨c1,c2⟩:=n.ns (by omega);obtain ⟨d1,d2⟩:=n'.ns (by omega);obtain ⟨e1,e2⟩:=n.nc (by omega);obtain ⟨f1,f2⟩:=n'.nc (by omega);refine ⟨[],[],by rw [c1,c2,d1,d2];exact Qk3,?_⟩;unfold QsN;rw [if_neg (by omega),if_neg (by omega),e1,e2,f1,f2,k,QdK,Qdv]
theorem mrgS (h:agB g=true) (h':agB g'=true) (e:g.k=g'.k) (k:g.k=4) (m:Qms g.E g.R g'.E g'.R E R):AgMrg g g' ⟨4,Qa9 g.s g'.s,0,0,0,0,0,[],[],0,0,E,R⟩:=by
 have n:=Qby h;have n':=Qby h';unfold AgMrg;rw [if_pos ⟨h,h',e⟩];obtain ⟨a1,a2,a3,a4,a5⟩:=n.nh (by omega);obtain ⟨b1,b2,b3,b4,b5⟩:=n'.nh (by omega);obtain ⟨e1,e2⟩:=n.nc (by omega);obtain ⟨f1,f2⟩:=n'.nc (by omega);unfold Qms at m;rw [if_pos ⟨n.hl,n'.hl⟩] at m;refine ⟨E,R,m,?_⟩;unfold QsN;rw [if_neg (by omega),if_neg (by omega),a1,a2,a3,a4,a5,b1,b2,b3,b4,b5,e1,e2,f1,f2,k,QeP,QfV,QdK,Qdv]
theorem Qia {a:Int} (h:Qiu a t a' t'=true):gA a t a' t'=a'/\gT a t a' t'=t':=⟨if_pos h,if_pos h⟩
theorem Qlj {a:Int} (h:¬ Qiu a t a' t'=true):gA a t a' t'=a/\gT a t a' t'=t:=⟨if_neg h,if_neg h⟩
end
section
def Qci (k:Int):Ag:=if 1<=k/\k<=4 then ⟨k,0,0,0,0,if k=2 then -1 else 0,0,[],[],0,0,[],[]⟩ else ⟨0,0,0,0,0,0,0,[],[],0,0,[],[]⟩
abbrev Qk1 (kd t:Int):Value:=.agg #[.int .i64 kd,.int .u64 0,.int .i64 0,.int .u64 0,.int .i64 0,.int .i64 t,.int .u64 0,.slice none 0 0,.slice none 0 0,.int .i64 0,.int .u64 0,.slice none 0 0,.slice none 0 0]
theorem Qfg (n lo hi:Int) (w:World):Calls prog 33 #[.int .i64 n,.int .i64 lo,.int .i64 hi] w fun e w'=>e=.returned (.bool (decide (lo<=n) && decide (n<=hi)))/\w'=w:=by
 by_cases h1:lo<=n <;> by_cases h2:n<=hi <;> (go_enter func33,ntmps33;go_wp2;go_ret;exact ⟨by simp [h1,h2],rfl⟩)
theorem QmC (k:Int) (w:World):Calls prog 57 #[.int .i64 k] w fun e w'=>e=.returned (Qk1 (Qci k).k (Qci k).t)/\Below w.heap.size w w':=by
 by_cases aa:1<=k/\k<=4
 ·have hb:(decide (1<=k) && decide (k<=4))=true:=by simp [aa.1,aa.2]
  by_cases h2:k=2
  ·have HE:Hid ((Qci k).k=k/\(Qci k).t=-1):=by unfold Qci;rw [if_pos aa];exact ⟨rfl,by simp [h2]⟩
   have b2:(k == 2)=true:=by simp [h2]
   clear aa h2;go_enter func57,ntmps57;go_wp2_with (go_at_call 33;refine (Qfg _ _ _ _).mono ?_;rintro e w1 ⟨rfl,hw⟩;subst hw;rw [hb]);exact bodyPost_ret (v:=Qk1 k (-1)) (by simp [results,results57,go_sem]) rfl ⟨by rw [HE.out.1,HE.out.2],((Below.refl _ _).alloc (Nat.le_refl _) _).alloc (by simp) _⟩
  ·have HE:Hid ((Qci k).k=k/\(Qci k).t=0):=by unfold Qci;rw [if_pos aa];exact ⟨rfl,by simp [h2]⟩
   have b2:(k == 2)=false:=ZZf.2 h2;clear aa h2;go_enter func57,ntmps57;go_wp2_with (go_at_call 33;refine (Qfg _ _ _ _).mono ?_;rintro e w1 ⟨rfl,hw⟩;subst hw;rw [hb]);exact bodyPost_ret (v:=Qk1 k 0) (by simp [results,results57,go_sem]) rfl ⟨by rw [HE.out.1,HE.out.2],((Below.refl _ _).alloc (Nat.le_refl _) _).alloc (by simp) _⟩
 ·have hb:(decide (1<=k) && decide (k<=4))=false:=by
   rw [Bool.eq_false_iff];intro hh;simp at hh;exact aa hh
  have HE:Hid ((Qci k).k=0/\(Qci k).t=0):=by unfold Qci;rw [if_neg aa];exact ⟨rfl,rfl⟩
  clear aa;go_enter func57,ntmps57;go_wp2_with (go_at_call 33;refine (Qfg _ _ _ _).mono ?_;rintro e w1 ⟨rfl,hw⟩;subst hw;rw [hb]);exact bodyPost_ret (v:=Qk1 0 0) (by simp [results,results57,go_sem]) rfl ⟨by rw [HE.out.1,HE.out.2],(Below.refl _ _).alloc (Nat.le_refl _) _⟩
end
section
def QkI (t:Int):Int:=if 18446744073709551615<t then 18446744073709551615 else t
def Qle (L:List Bn):Int:=(L.map (fun x=>x.2)).sum
theorem Qp9 (a b:Int):Qa9 a b=QkI (a+b):=rfl
theorem Qsv {a b:Int} (ha:0<=a) (hb:0<=b):QkI (QkI a+b)=QkI (a+b):=by
 unfold QkI
 split <;> split <;> omega
theorem Qel (x:Bn) (L:List Bn):Qle (x :: L)=x.2+Qle L:=by simp [Qle]
theorem Qq3:Qle []=0:=rfl
theorem Qqu (a b:List Bn):Qle (a ++ b)=Qle a+Qle b:=by simp [Qle,List.sum_append]
theorem QiC:∀ {L:List Bn},(∀ x∈L,Qb4 x)->0<=Qle L
 | [],_=>by simp [Qle]
 | x :: L,h=>by
  rw [Qel];have h1:=(h x (List.mem_cons_self ..)).2.1;have h2:=QiC (L:=L) (fun y hy=>h y (ZZm _ hy));omega
theorem QjG:∀ {L:List Bn} {x:Int},0<=x->(∀ y∈L,Qb4 y)->Qdl (QkI x) L=QkI (x+Qle L)
 | [],x,hx,_=>by simp [Qdl,Qle]
 | y :: L,x,hx,h=>by
  have h1:=(h y (List.mem_cons_self ..)).2.1
  show Qdl (Qa9 (QkI x) y.2) L=_
  rw [Qp9,Qsv hx h1,QjG (by omega) (fun z hz=>h z (List.mem_cons_of_mem _ hz)),Qel,Int.add_assoc]
def QrH (m:Int) (L:List Bn):List Bn:=L.filter (fun x=>decide (x.1<=m))
def Qkz (m:Int) (L:List Bn):List Bn:=L.filter (fun x=>decide (m<x.1))
theorem QpM {x:Bn} (h:x.1<=m):QrH m (x :: L)=x :: QrH m L:=by simp [QrH,h]
theorem Qor {x:Bn} (h:x.1<=m):Qkz m (x :: L)=Qkz m L:=List.filter_cons_of_neg (by simp;omega)
theorem QqV (h:∀ x∈L,m<x.1):Qkz m L=L:=List.filter_eq_self.2 (fun x hx=>ZZh (h x hx))
theorem Qqx (h:∀ x∈L,m<x.1):QrH m L=[]:=List.filter_eq_nil_iff.2 (fun x hx=>by have:=h x hx;simp;omega)
theorem QlG:∀ (n:Nat) (a b:List Bn),a.length+b.length<=n->(∀ x∈a,Qb4 x)->(∀ x∈b,Qb4 x)->∀ x∈mrg a b,Qb4 x
 | _,[],b,_,_,kb=>by rw [Qc9];exact kb
 | _,y :: a,[],_,ka,_=>by rw [QbQ];exact ka
 | 0,y :: a,z :: b,h,_,_=>by simp at h
 | n+1,y :: a,z :: b,h,ka,kb=>by
  simp only [List.length_cons] at h;have ka':∀ x∈a,Qb4 x:=fun u hu=>ka u (ZZm _ hu);have kb':∀ x∈b,Qb4 x:=fun u hu=>kb u (ZZm _ hu);have uy:=ka y (List.mem_cons_self ..);have uz:=kb z (List.mem_cons_self ..);intro x hx;rcases Int.lt_trichotomy y.1 z.1 with c | c | c
  ·rw [Qhv c] at hx
   rcases List.mem_cons.1 hx with rfl | hx
   ·exact uy
   ·exact QlG n a (z :: b) (by simp only [List.length_cons];omega) ka' kb x hx
  ·rw [QjY c] at hx
   rcases List.mem_cons.1 hx with rfl | hx
   ·exact ⟨uy.1,QiF uy.2 uz.2⟩
   ·exact QlG n a b (by omega) ka' kb' x hx
  ·rw [Qjp c] at hx
   rcases List.mem_cons.1 hx with rfl | hx
   ·exact uz
   ·exact QlG n (y :: a) b (by simp only [List.length_cons];omega) ka kb' x hx
theorem QrJ (h:∀ x∈L,Qb4 x):∀ x∈QrH m L,Qb4 x:=fun x hx=>h x (List.mem_filter.1 hx).1
theorem Qs5 (h:∀ x∈L,Qb4 x):∀ x∈Qkz m L,Qb4 x:=fun x hx=>h x (List.mem_filter.1 hx).1
theorem Qjn:∀ {L:List Bn} {k:Nat} {x:Bn},Qfz L->L[k]?=some x->QrH x.1 L=L.take (k+1)/\Qkz x.1 L=L.drop (k+1)
 | [],k,x,_,h=>by simp at h
 | y :: r,0,x,hr,h=>by
  obtain rfl:y=x:=by simpa using h
  have hc:=rise_cons.1 hr;rw [QpM (Int.le_refl _),Qor (Int.le_refl _),Qqx hc.1,QqV hc.1];simp
 | y :: r,k+1,x,hr,h=>by
  have hc:=rise_cons.1 hr;have hx:r[k]?=some x:=by simpa using h
  have aa:=hc.1 x (ZZn hx);obtain ⟨h1,h2⟩:=Qjn hc.2 hx;rw [QpM (by omega),Qor (by omega),h1,h2];simp
theorem QlU (hr:Qfz L) (hk:∀ x∈L,Qb4 x) (h:30<L.length) :
  ∃ m,(∃ y∈L,y.1=m)/\Qbj L=(m,QkI (Qle (QrH m L))) :: Qkz m L/\(Qkz m L).length=29:=by
 obtain ⟨x,hx⟩:∃ x,L[L.length - 30]?=some x:=⟨L[L.length - 30]'(by omega),ZZe _⟩;obtain ⟨h1,h2⟩:=Qjn hr hx;refine ⟨x.1,⟨x,List.mem_of_getElem? hx,rfl⟩,?_,by rw [h2,List.length_drop];omega⟩
 have hd:L.drop (L.length - 30)=x :: L.drop (L.length - 30+1):=by
  rw [List.drop_eq_getElem_cons (by omega),(List.getElem?_eq_some_iff.1 hx).2]
 unfold Qbj;rw [if_neg (by omega),hd];simp only;rw [h1,h2];have ux:=(hk x (ZZn hx)).2;have e0:x.2=QkI x.2:=by unfold QkI;unfold U64 at ux;split <;> omega
 have e1:L.take (L.length - 30+1)=L.take (L.length - 30) ++ [x]:=by rw [List.take_add_one,hx];rfl
 rw [e1,Qqu,Qel,Qq3]
 congr 2
 have:=QjG (x:=x.2) (L:=L.take (L.length - 30)) ux.1 (fun y hy=>hk y (ZZo hy));rw [<- e0] at this;rw [this]
 congr 1;omega
end
section
theorem Qlg (ha:Qfz a) (hb:Qfz b):Qfz (mrg a b):=by rw [<- Qhq hb];exact Qgl ha
theorem Qd9 (p:Bn->Bool):∀ {L:List Bn},Qfz L->Qfz (L.filter p)
 | [],_=>Qex
 | y :: r,h=>by
  have hc:=rise_cons.1 h;by_cases k:p y=true
  ·rw [List.filter_cons_of_pos k]
   exact rise_cons.2 ⟨fun x hx=>hc.1 x (List.mem_filter.1 hx).1,Qd9 p hc.2⟩
  ·rw [List.filter_cons_of_neg k]
   exact Qd9 p hc.2
theorem cap_in (h:0<=t):U64 (QkI t):=by unfold QkI U64;split <;> omega
theorem QnH (hr:Qfz L) (hk:∀ x∈L,Qb4 x):Qfz (Qbj L)/\∀ x∈Qbj L,Qb4 x:=by
 by_cases c:30<L.length
 ·obtain ⟨m,⟨y,hy,ey⟩,e,h2⟩:=QlU hr hk c
  rw [e];refine ⟨rise_cons.2 ⟨fun x hx=>of_decide_eq_true (List.mem_filter.1 hx).2,Qd9 _ hr⟩,fun x hx=>?_⟩;rcases List.mem_cons.1 hx with rfl | hx
  ·exact ⟨by show I64 m;rw [<- ey];exact (hk y hy).1,cap_in (QiC (QrJ hk))⟩
  ·exact Qs5 hk x hx
 ·unfold Qbj;rw [if_pos (by omega)];exact ⟨hr,hk⟩
end
section
def BnR (x:Bn):Prop:=0<x.1/\x.1<=6878/\x.2≠0
theorem QjP:∀ {L:List Bn} {q:Int},Qbx q L=true↔Qfz L/\∀ x∈L,q<x.1/\x.1<=6878/\x.2≠0
 | [],q=>⟨fun _=>⟨Qex,fun x hx=>by simp at hx⟩,fun _=>rfl⟩
 | y :: r,q=>by
  simp only [Qbx,Bool.and_eq_true,decide_eq_true_eq,QjP (L:=r)];constructor
  ·rintro ⟨⟨⟨h1,h2⟩,h3⟩,h4,h5⟩
   refine ⟨rise_cons.2 ⟨fun x hx=>(h5 x hx).1,h4⟩,fun x hx=>?_⟩;rcases List.mem_cons.1 hx with rfl | hx
   ·exact ⟨h1,h2,h3⟩
   ·have:=h5 x hx;exact ⟨by omega,this.2⟩
  ·rintro ⟨h1,h2⟩
   have h0:=h2 y List.mem_cons_self;exact ⟨⟨⟨h0.1,h0.2.1⟩,h0.2.2⟩,(rise_cons.1 h1).2,fun x hx=>⟨(rise_cons.1 h1).1 x hx,(h2 x (ZZm _ hx)).2⟩⟩
theorem binsB_iff:QaP L=true↔L.length<=30/\Qfz L/\∀ x∈L,BnR x:=by
 unfold QaP BnR;simp only [Bool.and_eq_true,decide_eq_true_eq,QjP]
theorem Qtr {a b:Int} (ha:U64 a) (hb:U64 b) (h:a≠0):Qa9 a b≠0:=by unfold Qa9;unfold U64 at *; split <;> omega
theorem mrg_R (ka:∀ x∈a,Qb4 x) (kb:∀ x∈b,Qb4 x) (ha:∀ x∈a,BnR x) (hb:∀ x∈b,BnR x):∀ z∈mrg a b,BnR z:=by
 induction a,b using mrg.induct with
 | case1 b=>rw [Qc9];exact hb
 | case2 x a=>rw [QbQ];exact ha
 | case3 x a y b h ih=>
  rw [Qhv h];intro z hz;rcases List.mem_cons.1 hz with rfl | hz
  ·exact ha _ List.mem_cons_self
  ·exact ih (fun u hu=>ka u (ZZm _ hu)) kb (fun u hu=>ha u (ZZm _ hu)) hb z hz
 | case4 x a y b h h' ih=>
  rw [Qjp h'];intro z hz;rcases List.mem_cons.1 hz with rfl | hz
  ·exact hb _ List.mem_cons_self
  ·exact ih ka (fun u hu=>kb u (ZZm _ hu)) ha (fun u hu=>hb u (ZZm _ hu)) z hz
 | case5 x a y b h h' ih=>
  rw [QjY (by omega)];intro z hz;rcases List.mem_cons.1 hz with rfl | hz
  ·have h1:=ha x List.mem_cons_self
   exact ⟨h1.1,h1.2.1,Qtr (ka x List.mem_cons_self).2 (kb y List.mem_cons_self).2 h1.2.2⟩
  ·exact ih (fun u hu=>ka u (ZZm _ hu)) (fun u hu=>kb u (ZZm _ hu)) (fun u hu=>ha u (ZZm _ hu)) (fun u hu=>hb u (ZZm _ hu)) z hz
theorem Qt1 (hk:∀ x∈L,Qb4 x) (hy:y∈L):y.2<=Qle L:=by
 induction L with
 | nil=>simp at hy
 | cons x r ih=>
  have h0:=QiC (fun z hz=>hk z (ZZm _ hz));have h1:=(hk x List.mem_cons_self).2.1;rw [Qel];rcases List.mem_cons.1 hy with rfl | hy
  ·omega
  ·have:=ih (fun z hz=>hk z (ZZm _ hz)) hy;omega
theorem keep_R (hr:Qfz L) (hk:∀ x∈L,Qb4 x) (hR:∀ x∈L,BnR x):∀ x∈Qbj L,BnR x:=by
 by_cases h:30<L.length
 ·obtain ⟨m,⟨y,hy,rfl⟩,e,_⟩:=QlU hr hk h
  rw [e];intro x hx;have h1:=hR y hy;rcases List.mem_cons.1 hx with rfl | hx
  ·have aa:y∈QrH y.1 L:=List.mem_filter.2 ⟨hy,ZZh (Int.le_refl _)⟩
   have h2:=Qt1 (QrJ (m:=y.1) hk) aa;have h3:=(hk y hy).2.1;have h4:=h1.2.2;exact ⟨h1.1,h1.2.1,by show QkI _≠0;unfold QkI;split <;> omega⟩
  ·exact hR x (List.mem_filter.1 hx).1
 ·have:Qbj L=L:=by unfold Qbj;rw [if_pos (by omega)]
  rw [this];exact hR
theorem Qmu (L:List Bn):(Qbj L).length<=30:=by
 unfold Qbj
 split
 ·assumption
 ·have hd:(L.drop (L.length - 30)).length=30:=by rw [List.length_drop];omega
  split
  ·rename_i h;rw [h] at hd;simp at hd
  ·rename_i h;rw [h] at hd;simp at hd ⊢; omega
theorem QfC {A B:List Bn} (hA:QaP A=true) (hB:QaP B=true) (kA:∀ x∈A,Qb4 x) (kB:∀ x∈B,Qb4 x):QaP (Qbj (mrg A B))=true/\∀ x∈Qbj (mrg A B),Qb4 x:=by
 obtain ⟨_,a2,a3⟩:=binsB_iff.1 hA;obtain ⟨_,b2,b3⟩:=binsB_iff.1 hB;have kM:=QlG _ A B (ZZa _) kA kB;have g:=QnH (Qlg a2 b2) kM;exact ⟨binsB_iff.2 ⟨Qmu _,g.1,keep_R (Qlg a2 b2) kM (mrg_R kA kB a3 b3)⟩,g.2⟩
theorem skB_and:skB P N=true↔QaP P=true/\QaP N=true:=by unfold skB;simp
theorem sk_mrg {P' N':List Bn} (h:skB P N=true) (h':skB P' N'=true) (kP:∀ x∈P,Qb4 x) (kN:∀ x∈N,Qb4 x) (kP':∀ x∈P',Qb4 x) (kN':∀ x∈N',Qb4 x) :
  skB (Qbj (mrg P P')) (Qbj (mrg N N'))=true:=
 skB_and.2 ⟨(QfC (skB_and.1 h).1 (skB_and.1 h').1 kP kP').1,(QfC (skB_and.1 h).2 (skB_and.1 h').2 kN kN').1⟩
end
section
structure T5 where
 z:Int
 P:List Bn
 N:List Bn
 h:Int
 l:Int
def T5.M (a b:T5):T5:=⟨Qa9 a.z b.z,Qbj (mrg a.P b.P),Qbj (mrg a.N b.N),QeL a.h a.l b.h b.l,Qfa a.l b.l⟩
structure T5.Ok (a:T5):Prop where
 hz:U64 a.z
 hl:U64 a.l
 kP:∀ x∈a.P,Qb4 x
 kN:∀ x∈a.N,Qb4 x
structure T5.Good (a:T5):Prop extends T5.Ok a where
 sk:skB a.P a.N=true
def Qp3 (v w:Int):T5:=⟨if v=0 then w else 0,if 0<v then [(Qdf v,w)] else [],if v<0 then [(Qdf (-v),w)] else [],thH v w,thL v w⟩
theorem QtC {v:Nat} (h:1<=v):1<=Qc5 v:=by
 unfold Qc5;split <;> omega
theorem binI_1 (h:1<=v) (h2:v<=999999999999999999):1<=Qdf v:=by
 rw [QfS h h2];have:=QtC (v:=v.toNat) (by omega);omega
theorem Qji:QaP []=true:=by decide
theorem Qi7 {w:Int} (h:1<=v) (h2:v<=999999999999999999) (hw:w≠0):QaP [(Qdf v,w)]=true:=by
 refine binsB_iff.2 ⟨by simp,Qrk _,fun x hx=>?_⟩;obtain rfl:=List.mem_singleton.1 hx;exact ⟨by have:=binI_1 h h2;show 0<Qdf v;omega,(QiA v).2,hw⟩
theorem Qoz {w:Int} (hw:U64 w):∀ x∈[(Qdf v,w)],Qb4 x:=fun x hx=>by
 obtain rfl:=List.mem_singleton.1 hx;have:=QiA v;exact ⟨by show I64 (Qdf v);unfold I64;omega,hw⟩
theorem QlD {w:Int} (hv:-999999999999999999<=v/\v<=999999999999999999) (hw:U64 w) (h0:w≠0):(Qp3 v w).Good:=by
 refine ⟨⟨?_,QjA _,?_,?_⟩,?_⟩
 ·show U64 (if v=0 then w else 0);split
  ·exact hw
  ·unfold U64;omega
 ·show ∀ x∈(if 0<v then [(Qdf v,w)] else []),Qb4 x;split
  ·exact Qoz hw
  ·intro x hx;simp at hx
 ·show ∀ x∈(if v<0 then [(Qdf (-v),w)] else []),Qb4 x;split
  ·exact Qoz hw
  ·intro x hx;simp at hx
 ·show skB (if 0<v then [(Qdf v,w)] else []) (if v<0 then [(Qdf (-v),w)] else [])=true
  refine skB_and.2 ⟨?_,?_⟩
  ·split
   ·exact Qi7 (by omega) (by omega) h0
   ·exact Qji
  ·split
   ·exact Qi7 (by omega) (by omega) h0
   ·exact Qji
theorem QjO (h:P.length<=30):Qbj P=P:=by unfold Qbj;rw [if_pos h]
theorem wAdd_0 {z:Int} (h:U64 z):Qa9 z 0=z:=by unfold Qa9;unfold U64 at h;rw [if_neg (by omega),Int.add_zero]
structure PutIs (a b:T5) (v w:Int):Prop where
 yes:Qtm a.P a.N v w->b=⟨QmH a.z v w,QeH a.P v w,QeD a.N v w,QeL a.h a.l (thH v w) (thL v w),Qfa a.l (thL v w)⟩
 no:¬ Qtm a.P a.N v w->b=a
theorem PutIs.M {a b:T5} {w:Int} (h:PutIs a b v w) (ha:a.Ok) (ok:Qtm a.P a.N v w):b=a.M (Qp3 v w):=by
 rw [h.yes ok];have r:=Qpe ok.1;unfold T5.M Qp3 QmH QeH QeD;dsimp only
 congr 1
 ·split
  ·rfl
  ·rw [wAdd_0 ha.hz]
 ·split
  ·rfl
  ·rw [QbQ,QjO r.1.2]
 ·split
  ·rfl
  ·rw [QbQ,QjO r.2.2]
end
variable {x:Sx}
variable {s:ByteArray}
section
theorem QmD (h:Qbk s=true):s.size<=40:=by
 unfold Qbk at h;simp only [Bool.and_eq_true,decide_eq_true_eq] at h;omega
def Qhe (x:Sx):Ag:=
 if x.k=1 then ⟨1,1,thH x.v x.wt,thL x.v x.wt,0,0,0,[],[],0,0,[],[]⟩
 else if x.k=2 then ⟨2,1,0,0,x.v,x.ti,0,[],[],0,0,[],[]⟩
 else if x.k=3 then ⟨3,1,0,0,0,0,(Qp3 x.v x.wt).z,(Qp3 x.v x.wt).P,(Qp3 x.v x.wt).N,thH x.v x.wt,thL x.v x.wt,[],[]⟩
 else ⟨4,1,0,0,0,0,0,[],[],0,0,[QbY x.wd],[]⟩
theorem QbL (h:x.B=true):(1<=x.k/\x.k<=4)/\(-999999999999999999<=x.v/\x.v<=999999999999999999)/\x.wt≠0/\(0<=x.ti/\x.ti<=1000000000)/\x.wd.size<=40:=by
 unfold Sx.B QbB at h;simp only [Bool.and_eq_true] at h;obtain ⟨⟨⟨⟨h1,_⟩,h2⟩,h3⟩,h4⟩:=h;unfold QiM at h1;simp only [Bool.and_eq_true,decide_eq_true_eq] at h1
 have a2:(-999999999999999999<=x.v/\x.v<=999999999999999999)/\x.wd.size<=40:=by
  unfold QjD at h2
  split at h2
  ·simp only [Bool.and_eq_true,decide_eq_true_eq] at h2
   exact ⟨by omega,QmD h2.2⟩
  ·unfold QrV at h2
   simp only [Bool.and_eq_true,decide_eq_true_eq] at h2;exact ⟨h2.1,by omega⟩
 have a3:x.wt≠0:=by
  unfold QcY at h3;simp only [Bool.and_eq_true,Bool.or_eq_true,decide_eq_true_eq] at h3;omega
 have a4:0<=x.ti/\x.ti<=1000000000:=by
  unfold Qgi at h4
  split at h4
  ·simpa using h4
  ·simp only [decide_eq_true_eq] at h4;omega
 exact ⟨h1,a2.1,a3,a4,a2.2⟩
theorem Qhn (h:x.B=true):(Qhe x).k=x.k:=by
 have p:=(QbL h).1;unfold Qhe
 split
 ·show (1:Int)=x.k;omega
 split
 ·show (2:Int)=x.k;omega
 split
 ·show (3:Int)=x.k;omega
 ·show (4:Int)=x.k;omega
theorem Qb6 (ok:x.Ok) (h:x.B=true):agB (Qhe x)=true:=by
 obtain ⟨p1,p2,p3,p4,p5⟩:=QbL h;unfold Qhe
 split
 ·simp [agB,QeY,Qfc,noS,Qa4,noH]
 split
 ·have:Qc2 ⟨2,1,0,0,x.v,x.ti,0,[],[],0,0,[],[]⟩=true:=by
   unfold Qc2 Qmv;simp only [Bool.and_eq_true,Bool.or_eq_true,decide_eq_true_eq];omega
  simp [agB,QeY,Qfc,noS,Qa4,noH,QgT,this]
 split
 ·have g:=(QlD p2 ok.wt p3).sk
  simp [agB,g,Qfc,noS,Qa4,noH,QgT]
 ·have:hlB [QbY x.wd] []=true:=(Can.hash _).right
  simp [agB,QeY,this,noS,Qa4,noH,QgT]
def QbF (g:Ag) (x:Sx) (o:Ag):Prop:=if agB g=true/\x.B=true/\g.k=x.k then AgMrg g (Qhe x) o else o=g
section
variable {g:Ag} {x:Sx} (ok:x.Ok) (hg:agB g=true) (hx:x.B=true) (e:g.k=x.k)
include ok hg hx e
theorem putC (k:g.k=1):QbF g x ⟨1,Qa9 g.s 1,QeL g.h g.l (thH x.v x.wt) (thL x.v x.wt),Qfa g.l (thL x.v x.wt),0,0,0,[],[],0,0,[],[]⟩:=by
 unfold QbF;rw [if_pos ⟨hg,hx,e⟩];have:=mrgC hg (Qb6 ok hx) (e.trans (Qhn hx).symm) k;have e1:Qhe x=⟨1,1,thH x.v x.wt,thL x.v x.wt,0,0,0,[],[],0,0,[],[]⟩:=by unfold Qhe;rw [if_pos (by omega)]
 rw [e1] at this ⊢;exact this
theorem putG (k:g.k=2):QbF g x ⟨2,Qa9 g.s 1,0,0,gA g.a g.t x.v x.ti,gT g.a g.t x.v x.ti,0,[],[],0,0,[],[]⟩:=by
 unfold QbF;rw [if_pos ⟨hg,hx,e⟩];have:=mrgG hg (Qb6 ok hx) (e.trans (Qhn hx).symm) k;have e1:Qhe x=⟨2,1,0,0,x.v,x.ti,0,[],[],0,0,[],[]⟩:=by unfold Qhe;rw [if_neg (by omega),if_pos (by omega)]
 rw [e1] at this ⊢;exact this
theorem putHs (k:g.k=3) (go:AgOk g):QbF g x ⟨3,Qa9 g.s 1,0,0,0,0,QmH g.z x.v x.wt,QeH g.P x.v x.wt,QeD g.N x.v x.wt,QeL g.x g.y (thH x.v x.wt) (thL x.v x.wt),Qfa g.y (thL x.v x.wt),[],[]⟩:=by
 unfold QbF;rw [if_pos ⟨hg,hx,e⟩];obtain ⟨p1,p2,p3,p4,p5⟩:=QbL hx;have hm:=mrgH hg (Qb6 ok hx) (e.trans (Qhn hx).symm) k;have e1:Qhe x=⟨3,1,0,0,0,0,(Qp3 x.v x.wt).z,(Qp3 x.v x.wt).P,(Qp3 x.v x.wt).N,thH x.v x.wt,thL x.v x.wt,[],[]⟩:=by unfold Qhe;rw [if_neg (by omega),if_neg (by omega),if_pos (by omega)]
 rw [e1] at hm ⊢;have q:PutIs ⟨g.z,g.P,g.N,g.x,g.y⟩ ⟨QmH g.z x.v x.wt,QeH g.P x.v x.wt,QeD g.N x.v x.wt,QeL g.x g.y (thH x.v x.wt) (thL x.v x.wt),Qfa g.y (thL x.v x.wt)⟩ x.v x.wt:=⟨fun _=>rfl,fun h=>absurd ⟨(Qby hg).sk,p2,p3⟩ h⟩;have:=q.M ⟨go.z,go.y,go.P,go.N⟩ ⟨(Qby hg).sk,p2,p3⟩;unfold T5.M at this;simp only [T5.mk.injEq] at this;obtain ⟨q1,q2,q3,q4,q5⟩:=this;rw [q1,q2,q3];exact hm
theorem putS (k:g.k=4) (m:PutH g.E g.R (QbY x.wd) E R):QbF g x ⟨4,Qa9 g.s 1,0,0,0,0,0,[],[],0,0,E,R⟩:=by
 unfold QbF;rw [if_pos ⟨hg,hx,e⟩];have e1:Qhe x=⟨4,1,0,0,0,0,0,[],[],0,0,[QbY x.wd],[]⟩:=by unfold Qhe;rw [if_neg (by omega),if_neg (by omega),if_neg (by omega)]
 have hh:hlB [QbY x.wd] []=true:=(Can.hash _).right
 have mm:Qms g.E g.R (Qhe x).E (Qhe x).R E R:=by
  rw [e1];unfold PutH at m;rw [if_pos (Qby hg).hl] at m;unfold Qms;rw [if_pos ⟨(Qby hg).hl,hh⟩];exact m
 have:=mrgS hg (Qb6 ok hx) (e.trans (Qhn hx).symm) k mm;rw [e1] at this ⊢;exact this
end
end
section
theorem Qqs (s:ByteArray):U64 (QbY s):=by have:=hx_in s s.size;unfold QbY U64;omega
end
section
theorem Qph (w:World) (g:Ag) (p:Pl) (x:Sx):Hid (Below w.heap.size w (((w.alloc (.cells (Qav g p) 73)).alloc (.cells (QaV x) 97)).alloc (.cells z13 73)))/\Hid (∀ W,Below (((w.alloc (.cells (Qav g p) 73)).alloc (.cells (QaV x) 97)).alloc (.cells z13 73)).heap.size (((w.alloc (.cells (Qav g p) 73)).alloc (.cells (QaV x) 97)).alloc (.cells z13 73)) W->W.heap[w.heap.size]?=some (.cells (Qav g p) 73 (0,0))/\W.heap[w.heap.size+1]?=some (.cells (QaV x) 97 (0,0))/\W.heap[w.heap.size+1+1]?=some (.cells z13 73 (0,0)))/\Hid ((((w.alloc (.cells (Qav g p) 73)).alloc (.cells (QaV x) 97)).alloc (.cells z13 73)).heap.size=w.heap.size+1+1+1):=by
 have a1:∀ (W:World) o,Below W.heap.size W (W.alloc o):=fun W o=>(ZZb _ _).alloc (ZZa _) _;have k0:=ZZk w (.cells (Qav g p) 73);have k1:=ZZk (w.alloc (.cells (Qav g p) 73)) (.cells (QaV x) 97);have k2:=ZZk ((w.alloc (.cells (Qav g p) 73)).alloc (.cells (QaV x) 97)) (.cells z13 73);simp only [World.size_alloc] at k1 k2;exact ⟨Qaa (Qac (Qac (a1 _ _) (a1 _ _)) (a1 _ _)),Qaa (fun W hW=>⟨(hW.block _ (by simp <;> omega)).trans (((a1 _ _).block _ (by simp <;> omega)).trans (((a1 _ _).block _ (by simp)).trans k0)),(hW.block _ (by simp <;> omega)).trans (((a1 _ _).block _ (by simp)).trans k1),(hW.block _ (by simp)).trans k2⟩),(by simp;exact Qaa trivial)⟩
end
section
structure AgR2 (g g':Ag):Prop where
 r:agB g=true
 r':agB g'=true
 k:g.k=g'.k
theorem AgMrg.get (h:AgMrg g g' o) (q:AgR2 g g'):∃ E R,Mg g.E g.R g'.E g'.R E R/\o=QsN g g' E R:=by
 unfold AgMrg at h;rw [if_pos ⟨q.r,q.r',q.k⟩] at h;exact h
theorem agB_of (n:AgNo g) (h2:g.k=2->Qc2 g=true):agB g=true:=by
 have c1:=n.k1;have c4:=n.k4;have a0:(decide (1<=g.k) && decide (g.k<=4))=true:=by rw [decide_eq_true c1,decide_eq_true c4];rfl
 have a1:((g.k == 1) || QgT g)=true:=by
  by_cases e:g.k=1
  ·rw [e];rfl
  ·obtain ⟨q1,q2⟩:=n.nc e
   unfold QgT;rw [q1,q2];simp
 have a3:((g.k == 3) || noS g)=true:=by
  by_cases e:g.k=3
  ·rw [e];rfl
  ·rw [(QbX g).2 (n.nh e)];simp
 have a4:((g.k == 4) || noH g)=true:=by
  by_cases e:g.k=4
  ·rw [e];rfl
  ·rw [(Qe3 g).2 (n.ns e)];simp
 have a2:(if g.k=2 then Qc2 g else (g.a == 0) && (g.t == 0))=true:=by
  by_cases e:g.k=2
  ·rw [if_pos e];exact h2 e
  ·rw [if_neg e]
   obtain ⟨q1,q2⟩:=n.ng e;rw [q1,q2];rfl
 unfold agB;rw [a0,n.sk,n.hl,a1,a3,a4,a2]
 rfl
theorem Qmg (h:agB g=true) (e:g.k=2):Qc2 g=true:=by
 unfold agB at h;simp only [Bool.and_eq_true] at h;have:=h.2;rw [if_pos e] at this;exact this
theorem Qtb (h:hlB E R=true):∀ b∈R,I64 b:=fun b hb=>by
 unfold hlB at h
 split at h
 ·rename_i h0
  rw [List.eq_nil_of_length_eq_zero h0] at hb
  cases hb
 ·simp only [Bool.and_eq_true,QgQ,List.all_eq_true,inR,decide_eq_true_eq] at h
  have:=h.2.2 b hb;unfold I64;omega
theorem Qow (q:AgR2 g g') (ok:AgOk g) (ok':AgOk g') (h:AgMrg g g' o):agB o=true/\AgOk o/\o.k=g.k:=by
 obtain ⟨E,R,m,rfl⟩:=h.get q;have n:=Qby q.r;have n':=Qby q.r';have ek:=q.k;have mm:Qms g.E g.R g'.E g'.R E R:=by unfold Qms;rw [if_pos ⟨n.hl,n'.hl⟩];exact m
 have hl:=QiW n.hl n'.hl mm;refine ⟨agB_of ⟨n.k1,n.k4,sk_mrg n.sk n'.sk ok.P ok.N ok'.P ok'.N,hl,fun e=>?_,fun e=>?_,fun e=>?_,fun e=>?_⟩ (fun e=>?_),?_,rfl⟩
 ·obtain ⟨a1,a2⟩:=n.nc e
  obtain ⟨b1,b2⟩:=n'.nc (by rw [<- ek];exact e)
  show QeL g.h g.l g'.h g'.l=0/\Qfa g.l g'.l=0
  rw [a1,a2,b1,b2];exact ⟨QdK,Qdv⟩
 ·show (if g.k=2 then gA g.a g.t g'.a g'.t else 0)=0/\(if g.k=2 then gT g.a g.t g'.a g'.t else 0)=0
  have e':¬ g.k=2:=e;rw [if_neg e',if_neg e'];exact ⟨rfl,rfl⟩
 ·obtain ⟨a1,a2,a3,a4,a5⟩:=n.nh e
  obtain ⟨b1,b2,b3,b4,b5⟩:=n'.nh (by rw [<- ek];exact e)
  show Qa9 g.z g'.z=0/\QeL g.x g.y g'.x g'.y=0/\Qfa g.y g'.y=0/\Qbj (mrg g.P g'.P)=[]/\Qbj (mrg g.N g'.N)=[]
  rw [a1,a2,a3,a4,a5,b1,b2,b3,b4,b5];exact ⟨QfV,QdK,Qdv,QeP,QeP⟩
 ·obtain ⟨a1,a2⟩:=n.ns e
  obtain ⟨b1,b2⟩:=n'.ns (by rw [<- ek];exact e);rw [a1,a2,b1,b2] at m;exact m.one Qk3
 ·have e':g.k=2:=e
  have t1:=Qmg q.r e';have t2:=Qmg q.r' (by rw [<- ek];exact e')
  show Qc2 (QsN g g' E R)=true
  unfold Qc2 at t1 t2 ⊢
  show (Qmv (if g.k=2 then gA g.a g.t g'.a g'.t else 0) && (decide (-1<=(if g.k=2 then gT g.a g.t g'.a g'.t else 0)) && decide ((if g.k=2 then gT g.a g.t g'.a g'.t else 0)<=1000000000)) && (decide (0<=(if g.k=2 then gT g.a g.t g'.a g'.t else 0)) || ((if g.k=2 then gA g.a g.t g'.a g'.t else 0) == 0)))=true
  rw [if_pos e',if_pos e'];by_cases hL:Qiu g.a g.t g'.a g'.t=true
  ·rw [(Qia hL).1,(Qia hL).2];exact t2
  ·rw [(Qlj hL).1,(Qlj hL).2];exact t1
 ·have s1:=skB_and.1 n.sk
  have s2:=skB_and.1 n'.sk;refine ⟨ok.k,QiF ok.s ok'.s,Qgg _,QjA _,?_,?_,QiF ok.z ok'.z,Qgg _,QjA _,(QfC s1.1 s2.1 ok.P ok'.P).2,(QfC s1.2 s2.2 ok.N ok'.N).2,QsB ok.E ok'.E mm,fun b hb=>?_⟩
  ·show I64 (if g.k=2 then gA g.a g.t g'.a g'.t else 0)
   split
   ·unfold gA;split
    ·exact ok'.a
    ·exact ok.a
   ·unfold I64;omega
  ·show I64 (if g.k=2 then gT g.a g.t g'.a g'.t else 0)
   split
   ·unfold gT;split
    ·exact ok'.t
    ·exact ok.t
   ·unfold I64;omega
  ·exact Qtb hl b hb
theorem QtL (ox:x.Ok) (hx:x.B=true):AgOk (Qhe x):=by
 obtain ⟨p1,p2,p3,p4,p5⟩:=QbL hx;have z:I64 0:=by unfold I64;omega
 have zu:U64 0:=by unfold U64;omega
 have u1:U64 1:=by unfold U64;omega
 have nB:∀ b∈([]:List Bn),Qb4 b:=fun b hb=>by cases hb
 have nU:∀ b∈([]:List Int),U64 b:=fun b hb=>by cases hb
 have nI:∀ b∈([]:List Int),I64 b:=fun b hb=>by cases hb
 unfold Qhe
 split
 ·exact ⟨by show I64 1;unfold I64;omega,u1,Qgg _,QjA _,z,z,zu,z,zu,nB,nB,nU,nI⟩
 split
 ·exact ⟨by show I64 2;unfold I64;omega,u1,z,zu,ox.v,ox.ti,zu,z,zu,nB,nB,nU,nI⟩
 split
 ·have g:=QlD p2 ox.wt p3
  exact ⟨by show I64 3;unfold I64;omega,u1,z,zu,z,z,g.hz,Qgg _,QjA _,g.kP,g.kN,nU,nI⟩
 ·refine ⟨by show I64 4;unfold I64;omega,u1,z,zu,z,z,zu,z,zu,nB,nB,fun b hb=>?_,nI⟩
  obtain rfl:=List.mem_singleton.1 hb;have:=hx_in x.wd x.wd.size;unfold QbY U64;omega
theorem Qgd (ox:x.Ok) (ok:AgOk g) (h:QbF g x o):AgOk o/\(agB g=true->agB o=true)/\o.k=g.k:=by
 unfold QbF at h
 split at h
 ·rename_i q
  obtain ⟨r,o',k⟩:=Qow ⟨q.1,Qb6 ox q.2.1,q.2.2.trans (Qhn q.2.1).symm⟩ ok (QtL ox q.2.1) h;exact ⟨o',fun _=>r,k⟩
 ·subst h;exact ⟨ok,id,rfl⟩
end
section
def PtL (L:List Ce) (n:Int) (s:ByteArray) (o:Ag) (R:List Ce):Prop:=R.map Ce.key=(L.filter (loF n s)).map Ce.key ++ (n,s,o) :: (L.filter (hiF n s)).map Ce.key
end
section
theorem Qn5 (o:Ag) (p:Pl) (a' t':Int) (w:World):Calls prog 131 #[.agg (Qav o p),.int .i64 a',.int .i64 t'] w fun e w'=>e=.returned (.agg (Qav { o with a:=gA o.a o.t a' t',t:=gT o.a o.t a' t' } p))/\Below w.heap.size w w':=by
 have HB:Hid (∀ o o',Below w.heap.size w ((w.alloc o).alloc o')):=fun o o'=>((Below.refl _ _).alloc (Nat.le_refl _) o).alloc (by simp) o';obtain ⟨k,s,h,l,a,t,z,P,N,x,y,E,R⟩:=o
 show Calls prog 131 #[.agg (Qav ⟨k,s,h,l,a,t,z,P,N,x,y,E,R⟩ p),.int .i64 a',.int .i64 t'] w fun e w'=>e=.returned (.agg (Qav ⟨k,s,h,l,gA a t a' t',gT a t a' t',z,P,N,x,y,E,R⟩ p))/\Below w.heap.size w w'
 by_cases h1:t<t'
 ·have d1:decide (t<t')=true:=ZZh h1
  have HE:Hid (gA a t a' t'=a'/\gT a t a' t'=t'):=Qia (by simp [Qiu,h1]);rw [HE.out.1,HE.out.2];clear HE;go_enter func131,ntmps131;go_wp2;refine bodyPost_ret (v:=.agg (Qav ⟨k,s,h,l,a',t',z,P,N,x,y,E,R⟩ p)) (by simp [results,results131,go_sem]) rfl ⟨rfl,?_⟩
  repeat (refine Below.setCell ?_ (by simp) _)
  exact HB.out _ _
 ·have d1:decide (t<t')=false:=ZZg h1
  by_cases h2:t'=t
  ·subst h2
   by_cases h3:a<a'
   ·have d3:decide (a<a')=true:=ZZh h3
    have HE:Hid (gA a t' a' t'=a'/\gT a t' a' t'=t'):=Qia (by simp [Qiu,h3]);rw [HE.out.1,HE.out.2];clear HE;go_enter func131,ntmps131;go_wp2;refine bodyPost_ret (v:=.agg (Qav ⟨k,s,h,l,a',t',z,P,N,x,y,E,R⟩ p)) (by simp [results,results131,go_sem]) rfl ⟨rfl,?_⟩
    repeat (refine Below.setCell ?_ (by simp) _)
    exact HB.out _ _
   ·have d3:decide (a<a')=false:=ZZg h3
    have HE:Hid (gA a t' a' t'=a/\gT a t' a' t'=t'):=Qlj (by simp [Qiu,h3]);rw [HE.out.1,HE.out.2];clear HE;go_enter func131,ntmps131;go_wp2;refine bodyPost_ret (v:=.agg (Qav ⟨k,s,h,l,a,t',z,P,N,x,y,E,R⟩ p)) (by simp [results,results131,go_sem]) rfl ⟨rfl,?_⟩
    repeat (refine Below.setCell ?_ (by simp) _)
    exact HB.out _ _
  ·have e2:(t' == t)=false:=ZZf.2 h2
   have HE:Hid (gA a t a' t'=a/\gT a t a' t'=t):=Qlj (by simp [Qiu,h1,h2]);rw [HE.out.1,HE.out.2];clear HE;go_enter func131,ntmps131;go_wp2;refine bodyPost_ret (v:=.agg (Qav ⟨k,s,h,l,a,t,z,P,N,x,y,E,R⟩ p)) (by simp [results,results131,go_sem]) rfl ⟨rfl,?_⟩
   repeat (refine Below.setCell ?_ (by simp) _)
   exact HB.out _ _
end
variable {W w w0 w6:World}
variable {ca k r:Nat}
variable {p q:Pl}
section
theorem AgO.setNe {B j:Nat} (h:AgO w B o p) (hn:∀ k,Qeb o p k->k≠r) (u:Value):AgO (w.setCell ⟨r,j,none⟩ u) B o p:=
 h.keptS (S:=fun k=>k=r) ⟨rfl,rfl,rfl,by simp [World.setCell],fun k hk hn=>Below.heap_setCell _ _ _ _ (fun e=>hn (by rw [e]))⟩ hn
section
variable {g:Ag} {x:Sx} (ok:x.Ok) (hg:agB g=true) (hx:x.B=true) (e:g.k=x.k)
include ok hg hx e
theorem putC' (k:g.k=1):QbF g x ⟨g.k,Qa9 g.s 1,QeL g.h g.l (thH x.v x.wt) (thL x.v x.wt),Qfa g.l (thL x.v x.wt),g.a,g.t,g.z,g.P,g.N,g.x,g.y,g.E,g.R⟩:=by
 have n:=Qby hg;obtain ⟨a1,a2,a3,a4,a5⟩:=n.nh (by omega);obtain ⟨c1,c2⟩:=n.ns (by omega);obtain ⟨d1,d2⟩:=n.ng (by omega);have:=putC ok hg hx e k;rw [a1,a2,a3,a4,a5,c1,c2,d1,d2,k];exact this
theorem putG' (k:g.k=2):QbF g x ⟨g.k,Qa9 g.s 1,g.h,g.l,gA g.a g.t x.v x.ti,gT g.a g.t x.v x.ti,g.z,g.P,g.N,g.x,g.y,g.E,g.R⟩:=by
 have n:=Qby hg;obtain ⟨a1,a2,a3,a4,a5⟩:=n.nh (by omega);obtain ⟨c1,c2⟩:=n.ns (by omega);obtain ⟨d1,d2⟩:=n.nc (by omega);have:=putG ok hg hx e k;rw [a1,a2,a3,a4,a5,c1,c2,d1,d2,k];exact this
theorem putH' (k:g.k=3) (go:AgOk g):QbF g x ⟨g.k,Qa9 g.s 1,g.h,g.l,g.a,g.t,QmH g.z x.v x.wt,QeH g.P x.v x.wt,QeD g.N x.v x.wt,QeL g.x g.y (thH x.v x.wt) (thL x.v x.wt),Qfa g.y (thL x.v x.wt),g.E,g.R⟩:=by
 have n:=Qby hg;obtain ⟨a1,a2⟩:=n.ng (by omega);obtain ⟨c1,c2⟩:=n.ns (by omega);obtain ⟨d1,d2⟩:=n.nc (by omega);have:=putHs ok hg hx e k go;rw [a1,a2,c1,c2,d1,d2,k];exact this
theorem putS' (k:g.k=4) (m:Mg g.E g.R [QbY x.wd] [] E R):QbF g x ⟨g.k,Qa9 g.s 1,g.h,g.l,g.a,g.t,g.z,g.P,g.N,g.x,g.y,E,R⟩:=by
 have n:=Qby hg;obtain ⟨a1,a2,a3,a4,a5⟩:=n.nh (by omega);obtain ⟨c1,c2⟩:=n.ng (by omega);obtain ⟨d1,d2⟩:=n.nc (by omega);have:=putS ok hg hx e k (E:=E) (R:=R) (by unfold PutH;rw [if_pos n.hl];exact m);rw [a1,a2,a3,a4,a5,c1,c2,d1,d2,k];exact this
end
structure PB (w W:World) (b:Nat) (g a:Ag) (p q:Pl) (x:Sx):Prop where
 bel:Below w.heap.size w W
 ra:W.heap[w.heap.size]?=some (.cells (Qav g p) 73 (0,0))
 rx:W.heap[w.heap.size+1]?=some (.cells (QaV x) 97 (0,0))
 rr:W.heap[w.heap.size+1+1]?=some (.cells z13 73 (0,0))
 ro:W.heap[b]?=some (.cells (Qav a q) 73 (0,0))
 lo:w.heap.size+1+1+1<=b/\b<W.heap.size
 own:AgO W (w.heap.size+1+1+1) a q
 ne:∀ k,Qeb a q k->k<b
theorem PB.past {W':World} {b:Nat} {a:Ag} (h:PB w W b g a p q x) (hb:Below W.heap.size W W'):PB w W' b g a p q x:=
 ⟨Qac h.bel hb,(hb.block _ (ZZc.1 h.ra).1).trans h.ra,(hb.block _ (ZZc.1 h.rx).1).trans h.rx,(hb.block _ (ZZc.1 h.rr).1).trans h.rr,(hb.block _ (ZZc.1 h.ro).1).trans h.ro,⟨h.lo.1,Nat.lt_of_lt_of_le h.lo.2 hb.size⟩,h.own.past hb,h.ne⟩
theorem PB.sam {b:Nat} {a:Ag} (h:PB w W b g a p q x) (s:Int):PB w (W.setCell ⟨b,1,none⟩ (.int .u64 s)) b g { a with s:=s } p q x:=by
 have hl:=h.lo;have ot:∀ r o,r≠b->W.heap[r]?=some o->(W.setCell ⟨b,1,none⟩ (.int .u64 s)).heap[r]?=some o:=fun r o hr e=>by rw [heap_setCell_other _ _ _ _ (by simpa using hr)];exact e
 refine ⟨h.bel.setCell (by simp <;> omega) _,ot _ _ (by omega) h.ra,ot _ _ (by omega) h.rx,ot _ _ (by omega) h.rr,heap_setCell_same W b 1 _ _ _ h.ro,⟨hl.1,by simpa [World.setCell] using hl.2⟩,?_,h.ne⟩;have:=h.own.setNe (r:=b) (j:=1) (fun k e=>Nat.ne_of_lt (h.ne k e)) (.int .u64 s);exact ⟨this.P,this.N,this.ap,this.E,this.R⟩
theorem PB.made {w1:World} (hb:Below w.heap.size w w1) (h0:w1.heap[w.heap.size]?=some (.cells (Qav g p) 73 (0,0))) (h1:w1.heap[w.heap.size+1]?=some (.cells (QaV x) 97 (0,0))) (h2:w1.heap[w.heap.size+1+1]?=some (.cells z13 73 (0,0))) (hs:w.heap.size+1+1+1<=w1.heap.size) (ho:AgO w1 (w.heap.size+1+1+1) g q):PB w (w1.alloc (.cells (Qav g q) 73)) w1.heap.size g g p q x:=by
 have a1:Below w1.heap.size w1 (w1.alloc (.cells (Qav g q) 73)):=(ZZb _ _).alloc (ZZa _) _;exact ⟨Qac hb a1,(a1.block _ (Array.getElem?_eq_some_iff.1 h0).1).trans h0,(a1.block _ (Array.getElem?_eq_some_iff.1 h1).1).trans h1,(a1.block _ (Array.getElem?_eq_some_iff.1 h2).1).trans h2,heap_alloc_new w1 _,⟨hs,by simp⟩,ho.past a1,fun k e=>(ho.lt e).2⟩
theorem Qe8 (x:Sx) (hg:agB g=true) (hx:x.B=true) (hk:g.k=x.k) (ok:AgOk g) (ox:x.Ok) (sm:AgSm g) (pl:PlG g p) (hA:AgAt w g p) :
  Calls prog 89 #[.agg (Qav g p),.agg (QaV x)] w fun e w'=>AgRes w (QbF g x) e w':=by
 have HG:=Qaa hg;have HX:=Qaa hx;have az:=Qaa hk;have OK:=Qaa ok;have OX:=Qaa ox;have SM:=Qaa sm;have PL:=Qaa pl;have HA:=Qaa hA;have NO:=Qaa (Qby hg);clear hg hx hk ok ox sm pl hA;obtain ⟨aB,HC,ay⟩:=Qph w g p x;go_enter func89,ntmps89;go_wp2_with fail;generalize ((w.alloc (.cells (Qav g p) 73)).alloc (.cells (QaV x) 97)).alloc (.cells z13 73)=W0 at aB HC ay ⊢;refine (Qdj SM PL (Qaz HA aB)).mono ?_;rintro e w1 ⟨v,o,rfl,ho,⟨q,rfl,hO⟩,aA⟩;obtain rfl:g=o:=ho.symm;clear ho;have hR:=HC.out w1 aA;have aK:=aA.size;have HP:=Qaa (PB.made (Qac aB aA) hR.1 hR.2.1 hR.2.2 (by have:=ay.out;omega) (hO.le (by have:=ay.out;omega)));have x1:=QeR hR.1 1 rfl;have aL:w.heap.size<w1.heap.size:=by have:=ay.out;omega
 have aM:¬ w.heap.size=w1.heap.size:=by omega
 clear hR aK aA hO HC ay aB;go_wp2_with fail;clear x1 aL aM;generalize w1.alloc (.cells (Qav g q) 73)=W1 at HP ⊢;generalize w1.heap.size=b at HP ⊢;refine (Qb3 g.s 1 OK.out.s (by unfold U64;omega) _).mono ?_;rintro e wz ⟨rfl,aF⟩;obtain rfl:=aF.symm;have hl:=HP.out.lo;have aS:¬ w.heap.size=b:=by omega
 have aQ:¬ w.heap.size+1=b:=by omega
 have aR:¬ w.heap.size+1+1=b:=by omega
 have aO:g.k=1∨g.k=2∨g.k=3∨g.k=4:=by have:=NO.out.k1;have:=NO.out.k4;omega
 rcases aO with h | h | h | h
 ·have ax:=Qaa h
  have e1:(g.k == 1)=true:=by rw [h];rfl
  clear h;obtain ⟨c0,c1,c2,c3,c4,c5,c6,c7,c8,c9,af,ae,ag⟩:=Qc8 HP.out.ro;obtain ⟨f0,f1,f2,f3,f4,f5,f6,f7,f8,f9,al,ak,am⟩:=QgR HP.out.ro;obtain ⟨x0,x1,x2,x3,x4,x5,x6,x7,x8,x9,ai,aj,ah⟩:=Qc8 HP.out.ra;obtain ⟨y0,y1,y2,y3,y4,y5,y6⟩:=cA7 HP.out.rx;go_wp2_with fail;clear c0 c1 c2 c3 c4 c5 c6 c7 c8 c9 af ae ag f0 f1 f2 f3 f4 f5 f6 f7 f8 f9 al ak am x0 x1 x2 x3 x4 x5 x6 x7 x8 x9 ai aj ah y0 y1 y2 y3 y4 y5 y6;have ab:=Qaa (HP.out.sam (Qa9 g.s 1));generalize W1.setCell ⟨b,1,none⟩ (.int .u64 (Qa9 g.s 1))=W2 at ab ⊢;clear HP;have ad:(fun W=>Below W2.heap.size W2 W) W2.drew:=(ZZb _ _).drew;refine Qal (fun W=>Below W2.heap.size W2 W) 9 (by kernel_rfl) ?_;refine tkS 0 (.pointer (some ⟨w.heap.size,2,none⟩)) ad ?_;refine tkL 1 (.agg #[.int .i64 g.h,.int .u64 g.l]) ad (fun W hW=>?_) ?_
  ·have ac:=ab.out.past hW
   obtain ⟨x0,x1,x2,x3,x4,x5,x6,x7,x8,x9,ai,aj,ah⟩:=Qc8 ac.ra;obtain ⟨y0,y1,y2,y3,y4,y5,y6⟩:=cA7 ac.rx;clear ac;clear hW;go_simp
  refine tkS 2 (.pointer (some ⟨w.heap.size+1,2,none⟩)) ad ?_;simp only [sX];refine tkL 3 (.int .i64 x.v) ad (fun W hW=>?_) ?_
  ·have ac:=ab.out.past hW
   obtain ⟨x0,x1,x2,x3,x4,x5,x6,x7,x8,x9,ai,aj,ah⟩:=Qc8 ac.ra;obtain ⟨y0,y1,y2,y3,y4,y5,y6⟩:=cA7 ac.rx;clear ac;clear hW;go_simp
  refine tkS 4 (.pointer (some ⟨w.heap.size+1,4,none⟩)) ad ?_;refine tkL 5 (.int .u64 x.wt) ad (fun W hW=>?_) ?_
  ·have ac:=ab.out.past hW
   obtain ⟨x0,x1,x2,x3,x4,x5,x6,x7,x8,x9,ai,aj,ah⟩:=Qc8 ac.ra;obtain ⟨y0,y1,y2,y3,y4,y5,y6⟩:=cA7 ac.rx;clear ac;clear hW;go_simp
  simp only [sX];refine onE 6 fun K hK=>?_;go_simp;refine (QeG x.v x.wt OX.out.v OX.out.wt _).mono ?_;rintro e w3 ⟨rfl,aI⟩;have aH:Hid (Below W2.heap.size W2 w3):=(ad:Below W2.heap.size W2 W2.drew).trans (aI.mono (ZZa _));clear aI;dsimp only;refine gK hK aH.out ?_
  try simp only [sX]
  refine onE 7 fun K hK=>?_;go_simp;refine (Qd8 g.h g.l (thH x.v x.wt) (thL x.v x.wt) _ OK.out.l (show U64 (thL x.v x.wt) from QjA _)).mono ?_;rintro e w4 ⟨rfl,an⟩;have av:Hid (Below W2.heap.size W2 w4):=Qac aH an;have aa:=Qaa (ab.out.past av);clear an;obtain ⟨c0,c1,c2,c3,c4,c5,c6,c7,c8,c9,af,ae,ag⟩:=Qc8 aa.out.ro;obtain ⟨f0,f1,f2,f3,f4,f5,f6,f7,f8,f9,al,ak,am⟩:=QgR aa.out.ro;obtain ⟨z0,z1,z2,z3,z4,z5,z6,z7,z8,z9,aq,aw,au⟩:=Qc8 aa.out.rr;obtain ⟨k0,k1,k2,k3,k4,k5,k6,k7,k8,k9,aE,aD,aG⟩:=QgR aa.out.rr;have ar:Hid (AgO w4 (w.heap.size+1+1+1) ⟨g.k,Qa9 g.s 1,QeL g.h g.l (thH x.v x.wt) (thL x.v x.wt),Qfa g.l (thL x.v x.wt),g.a,g.t,g.z,g.P,g.N,g.x,g.y,g.E,g.R⟩ q):=⟨aa.out.own.P,aa.out.own.N,aa.out.own.ap,aa.out.own.E,aa.out.own.R⟩;have ao:Hid (∀ k,Qeb ⟨g.k,Qa9 g.s 1,QeL g.h g.l (thH x.v x.wt) (thL x.v x.wt),Qfa g.l (thL x.v x.wt),g.a,g.t,g.z,g.P,g.N,g.x,g.y,g.E,g.R⟩ q k->k≠b):=fun k e=>Nat.ne_of_lt (aa.out.ne k e);dsimp only;refine gK hK av.out ?_
  try simp only [sX]
  refine tkS 8 (.pointer (some ⟨b,2,none⟩)) av ?_;simp only [sX];refine onE 9 fun K hK=>?_;go_simp;refine hK.out _ _ (fun h=>absurd rfl h) ?_
  try simp only [sX]
  refine dnE ?_ _;go_wp2;refine bodyPost_ret (v:=.agg (Qav ⟨g.k,Qa9 g.s 1,QeL g.h g.l (thH x.v x.wt) (thL x.v x.wt),Qfa g.l (thL x.v x.wt),g.a,g.t,g.z,g.P,g.N,g.x,g.y,g.E,g.R⟩ q)) (by simp [results,results89,go_sem,c0,c1,c2,c3,c4,c5,c6,c7,c8,c9,af,ae,ag,z0,z1,z2,z3,z4,z5,z6,z7,z8,z9,aq,aw,au]) rfl (AgRes.mk (o:=⟨g.k,Qa9 g.s 1,QeL g.h g.l (thH x.v x.wt) (thL x.v x.wt),Qfa g.l (thL x.v x.wt),g.a,g.t,g.z,g.P,g.N,g.x,g.y,g.E,g.R⟩) (p:=q) (putC' OX HG HX az ax) ?_ ?_)
  ·refine AgO.le (B:=w.heap.size+1+1+1) ?_ (by omega)
   repeat (first | refine AgO.below ?_ (by omega) _ | refine AgO.setNe ?_ ao _)
   exact ar.out
  ·repeat (refine Below.setCell ?_ (by simp <;> omega) _)
   exact aa.out.bel
 ·have ax:=Qaa h
  have e1:(g.k == 1)=false:=ZZf.2 (by omega);have e2:(g.k == 2)=true:=by rw [h];rfl
  clear h;obtain ⟨c0,c1,c2,c3,c4,c5,c6,c7,c8,c9,af,ae,ag⟩:=Qc8 HP.out.ro;obtain ⟨f0,f1,f2,f3,f4,f5,f6,f7,f8,f9,al,ak,am⟩:=QgR HP.out.ro;obtain ⟨x0,x1,x2,x3,x4,x5,x6,x7,x8,x9,ai,aj,ah⟩:=Qc8 HP.out.ra;obtain ⟨y0,y1,y2,y3,y4,y5,y6⟩:=cA7 HP.out.rx;go_wp2_with fail;clear c0 c1 c2 c3 c4 c5 c6 c7 c8 c9 af ae ag f0 f1 f2 f3 f4 f5 f6 f7 f8 f9 al ak am x0 x1 x2 x3 x4 x5 x6 x7 x8 x9 ai aj ah y0 y1 y2 y3 y4 y5 y6;have ab:=Qaa (HP.out.sam (Qa9 g.s 1));generalize W1.setCell ⟨b,1,none⟩ (.int .u64 (Qa9 g.s 1))=W2 at ab ⊢;clear HP;refine (Qn5 { g with s:=Qa9 g.s 1 } q x.v x.ti _).mono ?_;rintro e w4 ⟨rfl,an⟩;have aa:=Qaa (ab.out.past an);clear an;obtain ⟨c0,c1,c2,c3,c4,c5,c6,c7,c8,c9,af,ae,ag⟩:=Qc8 aa.out.ro;obtain ⟨f0,f1,f2,f3,f4,f5,f6,f7,f8,f9,al,ak,am⟩:=QgR aa.out.ro;obtain ⟨z0,z1,z2,z3,z4,z5,z6,z7,z8,z9,aq,aw,au⟩:=Qc8 aa.out.rr;obtain ⟨k0,k1,k2,k3,k4,k5,k6,k7,k8,k9,aE,aD,aG⟩:=QgR aa.out.rr;have ar:Hid (AgO w4 (w.heap.size+1+1+1) ⟨g.k,Qa9 g.s 1,g.h,g.l,gA g.a g.t x.v x.ti,gT g.a g.t x.v x.ti,g.z,g.P,g.N,g.x,g.y,g.E,g.R⟩ q):=⟨aa.out.own.P,aa.out.own.N,aa.out.own.ap,aa.out.own.E,aa.out.own.R⟩;have ao:Hid (∀ k,Qeb ⟨g.k,Qa9 g.s 1,g.h,g.l,gA g.a g.t x.v x.ti,gT g.a g.t x.v x.ti,g.z,g.P,g.N,g.x,g.y,g.E,g.R⟩ q k->k≠b):=fun k e=>Nat.ne_of_lt (aa.out.ne k e);go_wp2;refine bodyPost_ret (v:=.agg (Qav ⟨g.k,Qa9 g.s 1,g.h,g.l,gA g.a g.t x.v x.ti,gT g.a g.t x.v x.ti,g.z,g.P,g.N,g.x,g.y,g.E,g.R⟩ q)) (by simp [results,results89,go_sem,c0,c1,c2,c3,c4,c5,c6,c7,c8,c9,af,ae,ag,z0,z1,z2,z3,z4,z5,z6,z7,z8,z9,aq,aw,au]) rfl (AgRes.mk (o:=⟨g.k,Qa9 g.s 1,g.h,g.l,gA g.a g.t x.v x.ti,gT g.a g.t x.v x.ti,g.z,g.P,g.N,g.x,g.y,g.E,g.R⟩) (p:=q) (putG' OX HG HX az ax) ?_ ?_)
  ·refine AgO.le (B:=w.heap.size+1+1+1) ?_ (by omega)
   repeat (first | refine AgO.below ?_ (by omega) _ | refine AgO.setNe ?_ ao _)
   exact ar.out
  ·repeat (refine Below.setCell ?_ (by simp <;> omega) _)
   exact aa.out.bel
 ·have ax:=Qaa h
  have e1:(g.k == 1)=false:=ZZf.2 (by omega);have e2:(g.k == 2)=false:=ZZf.2 (by omega);have e3:(g.k == 3)=true:=by rw [h];rfl
  clear h;obtain ⟨c0,c1,c2,c3,c4,c5,c6,c7,c8,c9,af,ae,ag⟩:=Qc8 HP.out.ro;obtain ⟨f0,f1,f2,f3,f4,f5,f6,f7,f8,f9,al,ak,am⟩:=QgR HP.out.ro;obtain ⟨x0,x1,x2,x3,x4,x5,x6,x7,x8,x9,ai,aj,ah⟩:=Qc8 HP.out.ra;obtain ⟨y0,y1,y2,y3,y4,y5,y6⟩:=cA7 HP.out.rx;go_wp2_with fail;clear c0 c1 c2 c3 c4 c5 c6 c7 c8 c9 af ae ag f0 f1 f2 f3 f4 f5 f6 f7 f8 f9 al ak am x0 x1 x2 x3 x4 x5 x6 x7 x8 x9 ai aj ah y0 y1 y2 y3 y4 y5 y6;have ab:=Qaa (HP.out.sam (Qa9 g.s 1));generalize W1.setCell ⟨b,1,none⟩ (.int .u64 (Qa9 g.s 1))=W2 at ab ⊢;clear HP;have aC:=Qpe NO.out.sk;refine (Qm2 OK.out.z OK.out.y OX.out.v OX.out.wt rfl rfl aC.1.2 aC.2.2 (Qai HA.out.P ab.out.bel) (Qai HA.out.N ab.out.bel) OK.out.P OK.out.N (QbL HX).2.1 PL.out.cP PL.out.cN).mono ?_;clear aC;rintro e w4 ⟨v4,rfl,⟨vp,vn,pn,nn,rfl,o1,o2,aJ⟩,an⟩;obtain ⟨pa,pc,rfl⟩:=o1.any;obtain ⟨na,nc,rfl⟩:=o2.any;obtain rfl:=o1.1;obtain rfl:=o2.1;have aa:=Qaa (ab.out.past an);have aN:=ab.out.lo;have ar:Hid (AgO w4 (w.heap.size+1+1+1) ⟨g.k,Qa9 g.s 1,g.h,g.l,g.a,g.t,QmH g.z x.v x.wt,QeH g.P x.v x.wt,QeD g.N x.v x.wt,QeL g.x g.y (thH x.v x.wt) (thL x.v x.wt),Qfa g.y (thL x.v x.wt),g.E,g.R⟩ ⟨pa,pc,na,nc,q.ea,q.ec,q.ra,q.rc⟩):=⟨o1.le (by omega),o2.le (by omega),aJ,aa.out.own.E,aa.out.own.R⟩
  have ao:Hid (∀ k,Qeb ⟨g.k,Qa9 g.s 1,g.h,g.l,g.a,g.t,QmH g.z x.v x.wt,QeH g.P x.v x.wt,QeD g.N x.v x.wt,QeL g.x g.y (thH x.v x.wt) (thL x.v x.wt),Qfa g.y (thL x.v x.wt),g.E,g.R⟩ ⟨pa,pc,na,nc,q.ea,q.ec,q.ra,q.rc⟩ k->k≠b):=fun k e=>by
   rcases e with (e | e) | e
   ·have:=(o1.lt k e).1;omega
   ·have:=(o2.lt k e).1;omega
   ·exact Nat.ne_of_lt (aa.out.ne k (.inr e))
  clear an o1 o2 aJ;obtain ⟨c0,c1,c2,c3,c4,c5,c6,c7,c8,c9,af,ae,ag⟩:=Qc8 aa.out.ro;obtain ⟨f0,f1,f2,f3,f4,f5,f6,f7,f8,f9,al,ak,am⟩:=QgR aa.out.ro;obtain ⟨z0,z1,z2,z3,z4,z5,z6,z7,z8,z9,aq,aw,au⟩:=Qc8 aa.out.rr;obtain ⟨k0,k1,k2,k3,k4,k5,k6,k7,k8,k9,aE,aD,aG⟩:=QgR aa.out.rr;go_wp2;refine bodyPost_ret (v:=.agg (Qav ⟨g.k,Qa9 g.s 1,g.h,g.l,g.a,g.t,QmH g.z x.v x.wt,QeH g.P x.v x.wt,QeD g.N x.v x.wt,QeL g.x g.y (thH x.v x.wt) (thL x.v x.wt),Qfa g.y (thL x.v x.wt),g.E,g.R⟩ ⟨pa,pc,na,nc,q.ea,q.ec,q.ra,q.rc⟩)) (by simp [results,results89,go_sem,c0,c1,c2,c3,c4,c5,c6,c7,c8,c9,af,ae,ag,z0,z1,z2,z3,z4,z5,z6,z7,z8,z9,aq,aw,au]) rfl (AgRes.mk (o:=⟨g.k,Qa9 g.s 1,g.h,g.l,g.a,g.t,QmH g.z x.v x.wt,QeH g.P x.v x.wt,QeD g.N x.v x.wt,QeL g.x g.y (thH x.v x.wt) (thL x.v x.wt),Qfa g.y (thL x.v x.wt),g.E,g.R⟩) (p:=⟨pa,pc,na,nc,q.ea,q.ec,q.ra,q.rc⟩) (putH' OX HG HX az ax OK) ?_ ?_)
  ·refine AgO.le (B:=w.heap.size+1+1+1) ?_ (by omega)
   repeat (first | refine AgO.below ?_ (by omega) _ | refine AgO.setNe ?_ ao _)
   exact ar.out
  ·repeat (refine Below.setCell ?_ (by simp <;> omega) _)
   exact aa.out.bel
 ·have ax:=Qaa h
  have e1:(g.k == 1)=false:=ZZf.2 (by omega);have e2:(g.k == 2)=false:=ZZf.2 (by omega);have e3:(g.k == 3)=false:=ZZf.2 (by omega);clear h;obtain ⟨c0,c1,c2,c3,c4,c5,c6,c7,c8,c9,af,ae,ag⟩:=Qc8 HP.out.ro;obtain ⟨f0,f1,f2,f3,f4,f5,f6,f7,f8,f9,al,ak,am⟩:=QgR HP.out.ro;obtain ⟨x0,x1,x2,x3,x4,x5,x6,x7,x8,x9,ai,aj,ah⟩:=Qc8 HP.out.ra;obtain ⟨y0,y1,y2,y3,y4,y5,y6⟩:=cA7 HP.out.rx;go_wp2_with fail;clear c0 c1 c2 c3 c4 c5 c6 c7 c8 c9 af ae ag f0 f1 f2 f3 f4 f5 f6 f7 f8 f9 al ak am x0 x1 x2 x3 x4 x5 x6 x7 x8 x9 ai aj ah y0 y1 y2 y3 y4 y5 y6;have ab:=Qaa (HP.out.sam (Qa9 g.s 1));generalize W1.setCell ⟨b,1,none⟩ (.int .u64 (Qa9 g.s 1))=W2 at ab ⊢;clear HP;have ad:(fun W=>Below W2.heap.size W2 W) W2.drew:=(ZZb _ _).drew;refine Qal (fun W=>Below W2.heap.size W2 W) 7 (by kernel_rfl) ?_;refine tkS 0 (.pointer (some ⟨w.heap.size,11,none⟩)) ad ?_;refine tkL 1 (.agg #[.slice p.ea g.E.length p.ec,.slice p.ra g.R.length p.rc]) ad (fun W hW=>?_) ?_
  ·have ac:=ab.out.past hW
   obtain ⟨x0,x1,x2,x3,x4,x5,x6,x7,x8,x9,ai,aj,ah⟩:=Qc8 ac.ra;obtain ⟨y0,y1,y2,y3,y4,y5,y6⟩:=cA7 ac.rx;clear ac;clear hW;go_simp
  refine tkS 2 (.pointer (some ⟨w.heap.size+1,3,none⟩)) ad ?_;simp only [sX];refine tkL 3 (.string x.wd) ad (fun W hW=>?_) ?_
  ·have ac:=ab.out.past hW
   obtain ⟨x0,x1,x2,x3,x4,x5,x6,x7,x8,x9,ai,aj,ah⟩:=Qc8 ac.ra;obtain ⟨y0,y1,y2,y3,y4,y5,y6⟩:=cA7 ac.rx;clear ac;clear hW;go_simp
  simp only [sX];refine onE 4 fun K hK=>?_;go_simp;refine (QdZ x.wd OX.out.wd _).mono ?_;rintro e wz ⟨rfl,aF⟩;obtain rfl:=aF.symm;dsimp only;refine gK hK ad ?_
  try simp only [sX]
  refine onE 5 fun K hK=>?_;go_simp;refine (Qqr (QbY x.wd) NO.out.hl rfl rfl PL.out.lE PL.out.mE PL.out.fE PL.out.cE (Qak HA.out.E (Qac ab.out.bel ad)) (Qak HA.out.R (Qac ab.out.bel ad)) OK.out.E (Qqs _)).mono ?_;rintro e w4 ⟨v4,E,R,rfl,hM,⟨ve,vr,rfl,o3,o4⟩,an⟩;obtain ⟨ea,ec,rfl⟩:=Qan o3;obtain ⟨ra,rc,rfl⟩:=Qan o4;have HM:=Qaa hM;have av:Hid (Below W2.heap.size W2 w4):=(ad:Below W2.heap.size W2 W2.drew).trans (an.mono (ZZa _));have aa:=Qaa (ab.out.past av);have aN:=ab.out.lo;have aP:W2.drew.heap.size=W2.heap.size:=rfl;have ar:Hid (AgO w4 (w.heap.size+1+1+1) ⟨g.k,Qa9 g.s 1,g.h,g.l,g.a,g.t,g.z,g.P,g.N,g.x,g.y,E,R⟩ ⟨q.pa,q.pc,q.na,q.nc,ea,ec,ra,rc⟩):=⟨aa.out.own.P,aa.out.own.N,aa.out.own.ap,⟨rfl,Qbv o3 (by omega)⟩,⟨rfl,Qbv o4 (by omega)⟩⟩
  have ao:Hid (∀ k,Qeb ⟨g.k,Qa9 g.s 1,g.h,g.l,g.a,g.t,g.z,g.P,g.N,g.x,g.y,E,R⟩ ⟨q.pa,q.pc,q.na,q.nc,ea,ec,ra,rc⟩ k->k≠b):=fun k e=>by
   rcases e with e | (e | e)
   ·exact Nat.ne_of_lt (aa.out.ne k (.inl e))
   ·have:=Qa6 o3 k e;omega
   ·have:=Qa6 o4 k e;omega
  clear an o3 o4 hM;obtain ⟨c0,c1,c2,c3,c4,c5,c6,c7,c8,c9,af,ae,ag⟩:=Qc8 aa.out.ro;obtain ⟨f0,f1,f2,f3,f4,f5,f6,f7,f8,f9,al,ak,am⟩:=QgR aa.out.ro;obtain ⟨z0,z1,z2,z3,z4,z5,z6,z7,z8,z9,aq,aw,au⟩:=Qc8 aa.out.rr;obtain ⟨k0,k1,k2,k3,k4,k5,k6,k7,k8,k9,aE,aD,aG⟩:=QgR aa.out.rr;dsimp only;refine gK hK av.out ?_
  try simp only [sX]
  refine tkS 6 (.pointer (some ⟨b,11,none⟩)) av ?_;simp only [sX];refine onE 7 fun K hK=>?_;go_simp;refine hK.out _ _ (fun h=>absurd rfl h) ?_
  try simp only [sX]
  refine dnE ?_ _;go_wp2;refine bodyPost_ret (v:=.agg (Qav ⟨g.k,Qa9 g.s 1,g.h,g.l,g.a,g.t,g.z,g.P,g.N,g.x,g.y,E,R⟩ ⟨q.pa,q.pc,q.na,q.nc,ea,ec,ra,rc⟩)) (by simp [results,results89,go_sem,c0,c1,c2,c3,c4,c5,c6,c7,c8,c9,af,ae,ag,z0,z1,z2,z3,z4,z5,z6,z7,z8,z9,aq,aw,au]) rfl (AgRes.mk (o:=⟨g.k,Qa9 g.s 1,g.h,g.l,g.a,g.t,g.z,g.P,g.N,g.x,g.y,E,R⟩) (p:=⟨q.pa,q.pc,q.na,q.nc,ea,ec,ra,rc⟩) (putS' OX HG HX az ax HM) ?_ ?_)
  ·refine AgO.le (B:=w.heap.size+1+1+1) ?_ (by omega)
   repeat (first | refine AgO.below ?_ (by omega) _ | refine AgO.setNe ?_ ao _)
   exact ar.out
  ·repeat (refine Below.setCell ?_ (by simp <;> omega) _)
   exact aa.out.bel
end
variable {ao:Option Addr}
section
theorem Qk9 {L:List Ce} (h:QbC w ao L):QbC w ao (L.take k):=by
 refine ⟨fun h0=>?_,fun c hc=>h.2 c (ZZo hc)⟩;obtain ⟨b,aa,e,hc⟩:=h.1 (by rw [List.length_take] at h0;omega);refine ⟨b,aa,e,fun i c hi=>hc i c ?_⟩;rw [List.getElem?_take] at hi
 split at hi
 ·exact hi
 ·cases hi
theorem QfO {L:List Ce} (h:QbC w ao L) (hc:L.length<=ca):QbC w (if ca=k then ao else ao.map (·.add (k*15))) (L.drop k):=by
 refine ⟨fun h0=>?_,fun c hc=>h.2 c (ZZp hc)⟩;rw [List.length_drop] at h0;obtain ⟨b,aa,e,hx⟩:=h.1 (by omega);subst e;rw [if_neg (by omega)];refine ⟨b,aa+k*15,by simp [Addr.add],fun i c hi=>?_⟩;rw [List.getElem?_drop] at hi;have:=hx (k+i) c hi;rw [show aa+k*15+i*15=aa+(k+i)*15 by omega];exact this
inductive PuA (L:List Ce) (win:Int) (x:Sx):List Ce->Int->Prop
 | kind (c:Ce) (hc:c∈L) (k1:c.n=win) (k2:c.s=x.se) (hk:¬ c.g.k=x.k):PuA L win x [] 9
 | there (c:Ce) (o:Ag) (R:List Ce) (hc:c∈L) (k1:c.n=win) (k2:c.s=x.se) (hk:c.g.k=x.k) (hp:QbF c.g x o) (hR:PtL L win x.se o R):PuA L win x R 0
 | full (hn:¬ QpT L win x.se) (hl:60<=L.length):PuA L win x [] 8
 | new (o:Ag) (R:List Ce) (hn:¬ QpT L win x.se) (hl:L.length<60) (hp:QbF (Qci x.k) x o) (hR:PtL L win x.se o R):PuA L win x R 0
theorem QoA {L A B:List Ce} (hL:Qc3 L) (h:PlcA L n s k true) (hA:A.map Ce.key=(L.take k).map Ce.key) (hB:B.map Ce.key=(L.drop (k+1)).map Ce.key):PtL L n s o ((A ++ [⟨n,s,o,q⟩]) ++ B):=by
 obtain ⟨c,_,_,_,_,e⟩:=QkM hL h;unfold PtL;rw [List.map_append,List.map_append,hA,hB,QeA hL h,e,List.append_assoc]
 rfl
theorem Qsa {L A B:List Ce} (hL:Qc3 L) (h:PlcA L n s k false) (hA:A.map Ce.key=(L.take k).map Ce.key) (hB:B.map Ce.key=(L.drop k).map Ce.key):PtL L n s o ((A ++ [⟨n,s,o,q⟩]) ++ B):=by
 obtain ⟨e,_⟩:=QpL hL h;unfold PtL;rw [List.map_append,List.map_append,hA,hB,QeA hL h,e,List.append_assoc]
 rfl
end
section
theorem AgO.plgP {B:Nat} (h:AgO w B g p):PlG g p:=by
 have fb:∀ {ao:Option Addr} {n c:Nat} {L:List Bn},OwnB w B (.slice ao n c) n L->ao=none->c=0:=fun {ao n c L} o e=>by
  rcases o.2 with ⟨q,_⟩ | ⟨b,ab,c',aa,q,_⟩
  ·cases q;rfl
  ·cases q;cases e
 have fn:∀ {kd:IntKind} {T:TypeId} {ao:Option Addr} {n c:Nat} {L:List Int},OwnN kd T w B (.slice ao n c) n L->(ao=none->c=0)/\Qo3 ao/\n<=c/\c<=maxLen:=fun {kd T ao n c L} o=>by
  rcases o.2.2 with ⟨q,q0⟩ | ⟨b,c',aa,q,_,_,q1,q2,_⟩
  ·cases q;exact ⟨fun _=>rfl,.inl rfl,ZZa _,ZZj _⟩
  ·cases q;exact ⟨(fun e=>by cases e),.inr ⟨_,_,rfl⟩,q1,q2⟩
 exact ⟨fb h.P,fb h.N,(fn h.E).1,(fn h.R).1,(fn h.E).2.1,(fn h.R).2.1,(fn h.E).2.2.1,(fn h.E).2.2.2⟩
theorem QrZ (h:w.heap[r]?=some (.cells (QaV x) 97 (0,0))):w.cell? ⟨r,0,none⟩=some (.int .i64 x.k)/\w.cell? ⟨r,1,none⟩=some (.string x.se)/\w.cell? ⟨r,2,none⟩=some (.int .i64 x.v)/\w.cell? ⟨r,3,none⟩=some (.string x.wd)/\w.cell? ⟨r,4,none⟩=some (.int .u64 x.wt)/\w.cell? ⟨r,5,none⟩=some (.bool x.tm)/\w.cell? ⟨r,6,none⟩=some (.int .i64 x.ti):=⟨Qbh h 0 rfl,Qbh h 1 rfl,Qbh h 2 rfl,Qbh h 3 rfl,Qbh h 4 rfl,Qbh h 5 rfl,Qbh h 6 rfl⟩
end
variable {v':Value}
variable {c:Ce}
variable {M R':List Ce}
section
theorem QlR {T:TypeId} {u0 u1 u2 u3 u4 u5 u6 u7 u8 u9 u10 u11 u12 u13 u14:Value} (h:w.heap[r]?=some (.cells #[u0,u1,u2,u3,u4,u5,u6,u7,u8,u9,u10,u11,u12,u13,u14] T (0,0))) (v0 v1 v2 v3 v4 v5 v6 v7 v8 v9 v10 v11 v12 v13 v14:Value) :
  (((((((((((((((w.setCell ⟨r,0,none⟩ (v0)).setCell ⟨r,1,none⟩ (v1)).setCell ⟨r,2,none⟩ (v2)).setCell ⟨r,3,none⟩ (v3)).setCell ⟨r,4,none⟩ (v4)).setCell ⟨r,5,none⟩ (v5)).setCell ⟨r,6,none⟩ (v6)).setCell ⟨r,7,none⟩ (v7)).setCell ⟨r,8,none⟩ (v8)).setCell ⟨r,9,none⟩ (v9)).setCell ⟨r,10,none⟩ (v10)).setCell ⟨r,11,none⟩ (v11)).setCell ⟨r,12,none⟩ (v12)).setCell ⟨r,13,none⟩ (v13)).setCell ⟨r,14,none⟩ (v14)).heap[r]?=some (.cells #[v0,v1,v2,v3,v4,v5,v6,v7,v8,v9,v10,v11,v12,v13,v14] T (0,0)):=
 QpK (ZZl _ r 1 _ _ v1 (ZZl _ r 0 _ _ v0 h))
theorem QfM (h:Below w0.heap.size w0 w) (hr:w0.heap.size<=r) (v0 v1 v2 v3 v4 v5 v6 v7 v8 v9 v10 v11 v12 v13 v14:Value) :
  Below w0.heap.size w0 (((((((((((((((w.setCell ⟨r,0,none⟩ (v0)).setCell ⟨r,1,none⟩ (v1)).setCell ⟨r,2,none⟩ (v2)).setCell ⟨r,3,none⟩ (v3)).setCell ⟨r,4,none⟩ (v4)).setCell ⟨r,5,none⟩ (v5)).setCell ⟨r,6,none⟩ (v6)).setCell ⟨r,7,none⟩ (v7)).setCell ⟨r,8,none⟩ (v8)).setCell ⟨r,9,none⟩ (v9)).setCell ⟨r,10,none⟩ (v10)).setCell ⟨r,11,none⟩ (v11)).setCell ⟨r,12,none⟩ (v12)).setCell ⟨r,13,none⟩ (v13)).setCell ⟨r,14,none⟩ (v14)):=
 ((((((((((((((h.setCell hr v0).setCell hr v1).setCell hr v2).setCell hr v3).setCell hr v4).setCell hr v5).setCell hr v6).setCell hr v7).setCell hr v8).setCell hr v9).setCell hr v10).setCell hr v11).setCell hr v12).setCell hr v13).setCell hr v14
theorem Qgk {k:Int} (h1:1<=k) (h4:k<=4):Calls prog 57 #[.int .i64 k] w fun e w'=>e=.returned (.agg (Qav (Qci k) pl0))/\Below w.heap.size w w':=by
 refine (QmC k w).mono (fun e w' h=>?_);have e:Qci k=⟨k,0,0,0,0,if k=2 then -1 else 0,0,[],[],0,0,[],[]⟩:=by unfold Qci;rw [if_pos ⟨h1,h4⟩]
 rw [e] at h ⊢;exact h
theorem Qpf {w2 W5:World} {G:Nat} {u:Value} {A:List Ce} (hr:OwnC w2 w.heap.size u A) (ho:CesO w2 w.heap.size A) (hb2:Below w.heap.size w w2) (hb5:Below w2.heap.size w2 W5) (hG:w2.heap.size<=G) (ha:AgO W5 (G+1) c.g c.p)
  (hown:w6.ownsRow w.heap.size 75 15 v' (A.length+1) (flC A ++ ceL c)) (hg:(W5.alloc (.cells (Qap c) 75)).grownBy w6 u.ownBlock):OwnC w6 w.heap.size v' (A ++ [c])/\CesO w6 w.heap.size (A ++ [c])/\Below w.heap.size w w6:=by
 have aa:Below w2.heap.size w2 (W5.alloc (.cells (Qap c) 75)):=hb5.alloc hb5.size _;have ab:Below w.heap.size w (W5.alloc (.cells (Qap c) 75)):=hb2.trans (aa.mono hb2.size);have a2:Below W5.heap.size W5 (W5.alloc (.cells (Qap c) 75)):=(ZZb _ _).alloc (ZZa _) _;have hO:=ho.add aa hb2.size (c:=c) ((ha.past a2).le (by omega));have hR:OwnC (W5.alloc (.cells (Qap c) 75)) w.heap.size u A:=hr.past aa;have hp:(c :: A:List Ce).Perm (A ++ [c]):=(List.perm_append_singleton _ _).symm;exact ⟨OwnC.mk hown,(hO.row hR hg).perm hp,ab.grown hg ab.size (fun j hj=>(World.ownsRow.lt hr j hj).1)⟩
theorem QhZ {w7 w8:World} {B:Nat} {v'':Value} {A:List Ce} (hr:OwnC w6 B v' A) (ho:CesO w6 B A) (hB:B<=w6.heap.size) (hb:Below B w w6) (hb7:Below w6.heap.size w6 w7) (hM:CesO w7 w6.heap.size M)
  (hown:w8.ownsRow B 75 15 v'' (A.length+M.length) (flC A ++ flC M)) (hg:w7.grownBy w8 v'.ownBlock):OwnC w8 B v'' (A ++ M)/\CesO w8 B (A ++ M)/\Below B w w8:=by
 refine ⟨?_,(ho.app hb7 hB hM).row (hr.past hb7) hg,(hb.trans (hb7.mono hB)).grown hg (Nat.le_trans hB hb7.size) (fun j hj=>(World.ownsRow.lt hr j hj).1)⟩
 show w8.ownsRow _ _ _ _ _ _
 rw [List.length_append,Qe6];exact hown
theorem Qgx {k:Int} (h1:1<=k) (h4:k<=4):agB (Qci k)=true/\AgOk (Qci k)/\AgSm (Qci k)/\(Qci k).k=k/\∀ w B,AgO w B (Qci k) pl0:=by
 have e:Qci k=⟨k,0,0,0,0,if k=2 then -1 else 0,0,[],[],0,0,[],[]⟩:=by unfold Qci;rw [if_pos ⟨h1,h4⟩]
 have zi:I64 0:=by unfold I64;omega
 have zu:U64 0:=by unfold U64;omega
 refine ⟨?_,?_,?_,by rw [e],fun w B=>?_⟩
 ·have:k=1∨k=2∨k=3∨k=4:=by omega
  rcases this with rfl | rfl | rfl | rfl <;> rfl
 ·rw [e]
  exact ⟨by show I64 k;unfold I64;omega,zu,zi,zu,zi,by show I64 (if k=2 then -1 else 0);split <;> (unfold I64;omega),zu,zi,zu,(fun b hb=>by cases hb),(fun b hb=>by cases hb),(fun b hb=>by cases hb),(fun b hb=>by cases hb)⟩
 ·rw [e];exact ⟨ZZj _,ZZj _,ZZj _,ZZj _⟩
 ·rw [e];exact AgO.nil _ _ rfl rfl rfl rfl
theorem Qkl (h:Below w0.heap.size w0 w) (hr:w0.heap.size<=r) (v0 v1 v2 v3 v4 v5 v6 v7 v8 v9 v10 v11 v12:Value) :
  Below w0.heap.size w0 (((((((((((((w.setCell ⟨r,2,none⟩ (v0)).setCell ⟨r,3,none⟩ (v1)).setCell ⟨r,4,none⟩ (v2)).setCell ⟨r,5,none⟩ (v3)).setCell ⟨r,6,none⟩ (v4)).setCell ⟨r,7,none⟩ (v5)).setCell ⟨r,8,none⟩ (v6)).setCell ⟨r,9,none⟩ (v7)).setCell ⟨r,10,none⟩ (v8)).setCell ⟨r,11,none⟩ (v9)).setCell ⟨r,12,none⟩ (v10)).setCell ⟨r,13,none⟩ (v11)).setCell ⟨r,14,none⟩ (v12)):=
 ((((((((((((h.setCell hr v0).setCell hr v1).setCell hr v2).setCell hr v3).setCell hr v4).setCell hr v5).setCell hr v6).setCell hr v7).setCell hr v8).setCell hr v9).setCell hr v10).setCell hr v11).setCell hr v12
theorem Qrn {N:Nat} {L:List Ce} (win:Int) (x:Sx) (hx:x.B=true) (ox:x.Ok) (hI:ShI w ao N L) (hca:N<=ca) (asc:Qc3 L) (rt:∀ c∈L,agB c.g=true) :
  Calls prog 81 #[.slice ao N ca,.int .i64 win,.agg (QaV x)] w fun e w'=>∃ v R code,e=.returned (.tuple #[v,.int .i64 code])/\PuA L win x R code/\OwnC w' w.heap.size v R/\CesO w' w.heap.size R/\Below w.heap.size w w':=by
 obtain ⟨i0,hi,a9,bb,ba⟩:=Qf8;have II:=Qaa hI;have HX:=Qaa hx;have OX:=Qaa ox;have AS:=Qaa asc;have RT:=Qaa rt;have bs:Hid (Below w.heap.size w (w.alloc (.cells (QaV x) 97))):=(ZZb _ _).alloc (ZZa _) _;have X0:=Qaa (ZZk w (.cells (QaV x) 97));have S0:Hid ((w.alloc (.cells (QaV x) 97)).heap.size=w.heap.size+1):=by show _=_;simp
 have z1:=Qbh X0 1 rfl;obtain ⟨g0,bx⟩:∃ g,g=Qci x.k:=⟨_,rfl⟩;obtain ⟨p0,bw⟩:∃ p,p=pl0:=⟨_,rfl⟩;have HG:=Qaa bx;have bn:=Qaa bw;have K1:=Qaa (QbL hx).1.1;have K4:=Qaa (QbL hx).1.2;clear hI hx ox asc rt bx bw;go_enter func81,ntmps81;go_wp2_with fail;clear z1;generalize w.alloc (.cells (QaV x) 97)=W0 at bs X0 S0 ⊢;refine (Qe0 win x.se II.out.hN II.out.lN (QaD II.out.mem bs)).mono ?_;rintro e w1 ⟨k,is,rfl,hp,bt⟩;have HP:=Qaa hp;have aD:=Qaa (Qac bs bt);have X1:=Qaa (QaW X0 bt);have S1:Hid (w.heap.size+1<=w1.heap.size):=by show _<=_;have:=bt.size;have:=S0.out;omega
 have bM:k<=N:=by have:=hp.le;have:=II.out.hN;omega
 clear hp bt bs X0 S0
 cases is with
 | true=>
  obtain ⟨c,hc,hm,e1,e2,_⟩:=QkM AS HP;have bO:k<N:=by have:=(ZZd.1 hc).1;have:=II.out.hN;omega
  have bF:(k:Int)<(N:Int):=by omega
  obtain ⟨b,br,e,aI⟩:=II.out.mem.1 (by have:=II.out.hN;omega);subst e;obtain ⟨_,_,y2,_⟩:=Qag (aI k c hc) aD;have HC:=Qaa hc;have HM:=Qaa hm;have E1:=Qaa e1;have E2:=Qaa e2;have bz:=Qaa aI;have z0:=Qbh X1 0 rfl;clear hc hm e1 e2 aI;by_cases hk:c.g.k=x.k
  ·have bk:(c.g.k == x.k)=true:=by simp [hk]
   have HK:=Qaa hk;have bI:(0:Int)<=(k:Int):=by omega
   have bE:(k:Int)<=(ca:Int):=by omega
   clear hk;go_upto_region 2 with fail
   go_region_held3 (fun W=>W.cell? ⟨b,br+k*15+2,none⟩=some (.int .i64 c.g.k)/\W.cell? ⟨w.heap.size,0,none⟩=some (.int .i64 x.k))
    (exact ⟨by simpa using y2,by simpa using z0⟩)
    (fail)
   clear y2 z0;have bm:Hid ((L.take k).length=k):=by show _=_;rw [List.length_take];have:=II.out.hN;omega
   have lk:k<=1048576:=by have:=II.out.lN;omega
   go_wp2_with fail;refine (Qbl (L:=L.take k) bm lk (fun d hd=>II.out.sm d (ZZo hd)) (fun d hd=>II.out.pl d (ZZo hd)) (QaD (Qk9 II.out.mem) aD.out.drew)).mono ?_;rintro e w2 ⟨vA,A,rfl,hr,ho,bl,a7,bg⟩;have a8:=Qaa (Qac aD.out.drew a7);have X2:=Qaa (QaW (w:=w1.drew) X1 a7);have a6:=Qaa (hr.le aD.out.drew.size);have bp:=Qaa (ho.le aD.out.drew.size);have aV:=Qaa bl;have bK:=Qaa bg;clear hr ho bl bg a7;go_upto_region 7 with fail
   go_cut [11] (fun v w'=>∃ G:Nat,v=.pointer (some ⟨G,0,none⟩)/\Hid (w'.heap[G]?=some (.cells (Qap ⟨win,x.se,g0,p0⟩) 75 (0,0)))/\Hid (w2.heap.size<=G)/\Hid (Below w2.heap.size w2 w'))
   case first=>
    have ab:(fun W=>Below w2.heap.size w2 W) w2.drew:=(ZZb _ _).drew;refine Qal (fun W=>Below w2.heap.size w2 W) 8 (by kernel_rfl) ?_;refine tkS 0 (.int .i64 win) ab ?_;refine tkS 1 (.pointer (some ⟨w.heap.size,1,none⟩)) ab ?_;refine tkL 2 (.string x.se) ab (fun W hW=>?_) ?_
    ·have q:=Qbh (QaW X2 hW) 1 rfl
     clear hW;go_simp
    simp only [sX];refine tkS 3 (.pointer (some ⟨w.heap.size,0,none⟩)) ab ?_;refine tkL 4 (.int .i64 x.k) ab (fun W hW=>?_) ?_
    ·have q:=Qbh (QaW X2 hW) 0 rfl
     clear hW;go_simp
    simp only [sX];refine Qos (i:=5) (j:=7) (by kernel_rfl) rfl rfl (fun K hK=>?_) (fun K hK=>?_)
    ·go_simp
     refine (Qgk K1 K4).mono ?_;rintro e w3 ⟨rfl,au⟩;rw [<- HG.out,<- bn.out];have az:Hid (Below w2.heap.size w2 w3):=(ab:Below w2.heap.size w2 _).trans (au.mono (ab:Below w2.heap.size w2 _).size);clear au
     try dsimp only
     refine gK hK az.out ?_
     try simp only [sX]
     refine tkS 6 (.agg (Qap ⟨win,x.se,g0,p0⟩)) az ?_;simp only [sX];refine onE 7 fun K hK=>?_;go_simp;have ak:Hid (Below w2.heap.size w2 (w3.alloc (.cells #[.int .i64 0,.string ⟨#[]⟩,.int .i64 0,.int .u64 0,.int .i64 0,.int .u64 0,.int .i64 0,.int .i64 0,.int .u64 0,.slice none 0 0,.slice none 0 0,.int .i64 0,.int .u64 0,.slice none 0 0,.slice none 0 0] 75))):=az.out.alloc az.out.size _;have R0:=Qaa (ZZk w3 (.cells #[.int .i64 0,.string ⟨#[]⟩,.int .i64 0,.int .u64 0,.int .i64 0,.int .u64 0,.int .i64 0,.int .i64 0,.int .u64 0,.slice none 0 0,.slice none 0 0,.int .i64 0,.int .u64 0,.slice none 0 0,.slice none 0 0] 75))
     try dsimp only
     refine gK hK ak.out ?_
     try simp only [sX]
     have hG:Hid (w2.heap.size<=w3.heap.size):=az.out.size;generalize w3.alloc (.cells #[.int .i64 0,.string ⟨#[]⟩,.int .i64 0,.int .u64 0,.int .i64 0,.int .u64 0,.int .i64 0,.int .i64 0,.int .u64 0,.slice none 0 0,.slice none 0 0,.int .i64 0,.int .u64 0,.slice none 0 0,.slice none 0 0] 75)=Wa at ak R0 ⊢;generalize w3.heap.size=G at R0 hG ⊢;obtain ⟨q0,q1,q2,q3,q4,q5,q6,q7,q8,q9,af,ah,ai,ae,ag⟩:=Qr1 R0;obtain ⟨f0,f1,f2,f3,f4,f5,f6,f7,f8,f9,aq,ap,av,an,aw⟩:=fA15 R0;refine onE 8 fun K hK=>?_;go_simp;have ay:=Qaa (QlR R0 (.int .i64 win) (.string x.se) (.int .i64 g0.k) (.int .u64 g0.s) (.int .i64 g0.h) (.int .u64 g0.l) (.int .i64 g0.a) (.int .i64 g0.t) (.int .u64 g0.z) (.slice p0.pa g0.P.length p0.pc) (.slice p0.na g0.N.length p0.nc) (.int .i64 g0.x) (.int .u64 g0.y) (.slice p0.ea g0.E.length p0.ec) (.slice p0.ra g0.R.length p0.rc));have aA:=Qaa (QfM ak hG (.int .i64 win) (.string x.se) (.int .i64 g0.k) (.int .u64 g0.s) (.int .i64 g0.h) (.int .u64 g0.l) (.int .i64 g0.a) (.int .i64 g0.t) (.int .u64 g0.z) (.slice p0.pa g0.P.length p0.pc) (.slice p0.na g0.N.length p0.nc) (.int .i64 g0.x) (.int .u64 g0.y) (.slice p0.ea g0.E.length p0.ec) (.slice p0.ra g0.R.length p0.rc));clear q0 f0 q1 f1 q2 f2 q3 f3 q4 f4 q5 f5 q6 f6 q7 f7 q8 f8 q9 f9 af aq ah ap ai av ae an ag aw;refine hK.out _ _ (fun h=>absurd rfl h) ?_
     try simp only [sX]
     generalize (((((((((((((((Wa.setCell ⟨G,0,none⟩ (.int .i64 win)).setCell ⟨G,1,none⟩ (.string x.se)).setCell ⟨G,2,none⟩ (.int .i64 g0.k)).setCell ⟨G,3,none⟩ (.int .u64 g0.s)).setCell ⟨G,4,none⟩ (.int .i64 g0.h)).setCell ⟨G,5,none⟩ (.int .u64 g0.l)).setCell ⟨G,6,none⟩ (.int .i64 g0.a)).setCell ⟨G,7,none⟩ (.int .i64 g0.t)).setCell ⟨G,8,none⟩ (.int .u64 g0.z)).setCell ⟨G,9,none⟩ (.slice p0.pa g0.P.length p0.pc)).setCell ⟨G,10,none⟩ (.slice p0.na g0.N.length p0.nc)).setCell ⟨G,11,none⟩ (.int .i64 g0.x)).setCell ⟨G,12,none⟩ (.int .u64 g0.y)).setCell ⟨G,13,none⟩ (.slice p0.ea g0.E.length p0.ec)).setCell ⟨G,14,none⟩ (.slice p0.ra g0.R.length p0.rc))=W5 at ay aA ⊢;refine dnE ?_ _;go_wp2;go_meet;exact ⟨G,rfl,ay,hG,aA⟩
    ·go_simp
     have ax:Hid (Below w2.heap.size w2 (w2.alloc (.cells #[.int .i64 0,.string ⟨#[]⟩,.int .i64 0,.int .u64 0,.int .i64 0,.int .u64 0,.int .i64 0,.int .i64 0,.int .u64 0,.slice none 0 0,.slice none 0 0,.int .i64 0,.int .u64 0,.slice none 0 0,.slice none 0 0] 75)).drew):=((ZZb _ _).alloc (ZZa _) _).drew;have R0:Hid ((w2.alloc (.cells #[.int .i64 0,.string ⟨#[]⟩,.int .i64 0,.int .u64 0,.int .i64 0,.int .u64 0,.int .i64 0,.int .i64 0,.int .u64 0,.slice none 0 0,.slice none 0 0,.int .i64 0,.int .u64 0,.slice none 0 0,.slice none 0 0] 75)).drew.heap[w2.heap.size]?=some (.cells #[.int .i64 0,.string ⟨#[]⟩,.int .i64 0,.int .u64 0,.int .i64 0,.int .u64 0,.int .i64 0,.int .i64 0,.int .u64 0,.slice none 0 0,.slice none 0 0,.int .i64 0,.int .u64 0,.slice none 0 0,.slice none 0 0] 75 (0,0))):=ZZk w2 (.cells #[.int .i64 0,.string ⟨#[]⟩,.int .i64 0,.int .u64 0,.int .i64 0,.int .u64 0,.int .i64 0,.int .i64 0,.int .u64 0,.slice none 0 0,.slice none 0 0,.int .i64 0,.int .u64 0,.slice none 0 0,.slice none 0 0] 75)
     try dsimp only
     refine gK hK ax.out ?_
     try simp only [sX]
     generalize (w2.alloc (.cells #[.int .i64 0,.string ⟨#[]⟩,.int .i64 0,.int .u64 0,.int .i64 0,.int .u64 0,.int .i64 0,.int .i64 0,.int .u64 0,.slice none 0 0,.slice none 0 0,.int .i64 0,.int .u64 0,.slice none 0 0,.slice none 0 0] 75)).drew=Wb at ax R0 ⊢;refine onE 5 fun K hK=>?_;go_simp;refine (Qgk K1 K4).mono ?_;rintro e Wa ⟨rfl,au⟩;rw [<- HG.out,<- bn.out];have ak:Hid (Below w2.heap.size w2 Wa):=ax.out.trans (au.mono ax.out.size);have R1:=Qaa (QaW R0 au);have hG:Hid (w2.heap.size<=w2.heap.size):=ZZa _;clear au R0 ax
     try dsimp only
     refine gK hK ak.out ?_
     try simp only [sX]
     refine tkS 6 (.agg (Qap ⟨win,x.se,g0,p0⟩)) ak ?_;simp only [sX];obtain ⟨q0,q1,q2,q3,q4,q5,q6,q7,q8,q9,af,ah,ai,ae,ag⟩:=Qr1 R1;obtain ⟨f0,f1,f2,f3,f4,f5,f6,f7,f8,f9,aq,ap,av,an,aw⟩:=fA15 R1;refine onE 8 fun K hK=>?_;go_simp;have ay:=Qaa (QlR R1 (.int .i64 win) (.string x.se) (.int .i64 g0.k) (.int .u64 g0.s) (.int .i64 g0.h) (.int .u64 g0.l) (.int .i64 g0.a) (.int .i64 g0.t) (.int .u64 g0.z) (.slice p0.pa g0.P.length p0.pc) (.slice p0.na g0.N.length p0.nc) (.int .i64 g0.x) (.int .u64 g0.y) (.slice p0.ea g0.E.length p0.ec) (.slice p0.ra g0.R.length p0.rc));have aA:=Qaa (QfM ak hG (.int .i64 win) (.string x.se) (.int .i64 g0.k) (.int .u64 g0.s) (.int .i64 g0.h) (.int .u64 g0.l) (.int .i64 g0.a) (.int .i64 g0.t) (.int .u64 g0.z) (.slice p0.pa g0.P.length p0.pc) (.slice p0.na g0.N.length p0.nc) (.int .i64 g0.x) (.int .u64 g0.y) (.slice p0.ea g0.E.length p0.ec) (.slice p0.ra g0.R.length p0.rc));clear q0 f0 q1 f1 q2 f2 q3 f3 q4 f4 q5 f5 q6 f6 q7 f7 q8 f8 q9 f9 af aq ah ap ai av ae an ag aw;refine hK.out _ _ (fun h=>absurd rfl h) ?_
     try simp only [sX]
     generalize (((((((((((((((Wa.setCell ⟨w2.heap.size,0,none⟩ (.int .i64 win)).setCell ⟨w2.heap.size,1,none⟩ (.string x.se)).setCell ⟨w2.heap.size,2,none⟩ (.int .i64 g0.k)).setCell ⟨w2.heap.size,3,none⟩ (.int .u64 g0.s)).setCell ⟨w2.heap.size,4,none⟩ (.int .i64 g0.h)).setCell ⟨w2.heap.size,5,none⟩ (.int .u64 g0.l)).setCell ⟨w2.heap.size,6,none⟩ (.int .i64 g0.a)).setCell ⟨w2.heap.size,7,none⟩ (.int .i64 g0.t)).setCell ⟨w2.heap.size,8,none⟩ (.int .u64 g0.z)).setCell ⟨w2.heap.size,9,none⟩ (.slice p0.pa g0.P.length p0.pc)).setCell ⟨w2.heap.size,10,none⟩ (.slice p0.na g0.N.length p0.nc)).setCell ⟨w2.heap.size,11,none⟩ (.int .i64 g0.x)).setCell ⟨w2.heap.size,12,none⟩ (.int .u64 g0.y)).setCell ⟨w2.heap.size,13,none⟩ (.slice p0.ea g0.E.length p0.ec)).setCell ⟨w2.heap.size,14,none⟩ (.slice p0.ra g0.R.length p0.rc))=W5 at ay aA ⊢;refine dnE ?_ _;go_wp2;go_meet;exact ⟨w2.heap.size,rfl,ay,hG,aA⟩
   case rest=>
    obtain ⟨G,rfl,RG,GG,BG⟩:=hcut;obtain ⟨_,_,y2,y3,y4,y5,y6,y7,y8,y9,bD,bG,bJ,bA,bB⟩:=Qag (bz.out k c HC) (Qac a8 BG);have q2:=Qae RG 2 rfl;have q3:=Qae RG 3 rfl;have q4:=Qae RG 4 rfl;have q5:=Qae RG 5 rfl;have q6:=Qae RG 6 rfl;have q7:=Qae RG 7 rfl;have q8:=Qae RG 8 rfl;have q9:=Qae RG 9 rfl;have af:=Qae RG 10 rfl;have ah:=Qae RG 11 rfl;have ai:=Qae RG 12 rfl;have ae:=Qae RG 13 rfl;have ag:=Qae RG 14 rfl;have f2:=fzR 2 RG;have f3:=fzR 3 RG;have f4:=fzR 4 RG;have f5:=fzR 5 RG;have f6:=fzR 6 RG;have f7:=fzR 7 RG;have f8:=fzR 8 RG;have f9:=fzR 9 RG;have aq:=fzR 10 RG;have ap:=fzR 11 RG;have av:=fzR 12 RG;have an:=fzR 13 RG;have aw:=fzR 14 RG;have R9:=Qaa (QpK (v0:=.int .i64 c.g.k) (v1:=.int .u64 c.g.s) (v2:=.int .i64 c.g.h) (v3:=.int .u64 c.g.l) (v4:=.int .i64 c.g.a) (v5:=.int .i64 c.g.t) (v6:=.int .u64 c.g.z) (v7:=.slice c.p.pa c.g.P.length c.p.pc) (v8:=.slice c.p.na c.g.N.length c.p.nc) (v9:=.int .i64 c.g.x) (v10:=.int .u64 c.g.y) (v11:=.slice c.p.ea c.g.E.length c.p.ec) (v12:=.slice c.p.ra c.g.R.length c.p.rc) RG);have B9:=Qaa (Qkl BG GG (.int .i64 c.g.k) (.int .u64 c.g.s) (.int .i64 c.g.h) (.int .u64 c.g.l) (.int .i64 c.g.a) (.int .i64 c.g.t) (.int .u64 c.g.z) (.slice c.p.pa c.g.P.length c.p.pc) (.slice c.p.na c.g.N.length c.p.nc) (.int .i64 c.g.x) (.int .u64 c.g.y) (.slice c.p.ea c.g.E.length c.p.ec) (.slice c.p.ra c.g.R.length c.p.rc));go_upto_region 10 with fail;clear y2 q2 f2 y3 q3 f3 y4 q4 f4 y5 q5 f5 y6 q6 f6 y7 q7 f7 y8 q8 f8 y9 q9 f9 bD af aq bG ah ap bJ ai av bA ae an bB ag aw;generalize (((((((((((((wc.setCell ⟨G,2,none⟩ (.int .i64 c.g.k)).setCell ⟨G,3,none⟩ (.int .u64 c.g.s)).setCell ⟨G,4,none⟩ (.int .i64 c.g.h)).setCell ⟨G,5,none⟩ (.int .u64 c.g.l)).setCell ⟨G,6,none⟩ (.int .i64 c.g.a)).setCell ⟨G,7,none⟩ (.int .i64 c.g.t)).setCell ⟨G,8,none⟩ (.int .u64 c.g.z)).setCell ⟨G,9,none⟩ (.slice c.p.pa c.g.P.length c.p.pc)).setCell ⟨G,10,none⟩ (.slice c.p.na c.g.N.length c.p.nc)).setCell ⟨G,11,none⟩ (.int .i64 c.g.x)).setCell ⟨G,12,none⟩ (.int .u64 c.g.y)).setCell ⟨G,13,none⟩ (.slice c.p.ea c.g.E.length c.p.ec)).setCell ⟨G,14,none⟩ (.slice c.p.ra c.g.R.length c.p.rc))=W9 at R9 B9 ⊢;have X9:=Qaa (QaW X2 B9);obtain ⟨s0,s1,s2,s3,s4,s5,s6⟩:=QrZ X9;have q2:=Qae R9 2 rfl;have q3:=Qae R9 3 rfl;have q4:=Qae R9 4 rfl;have q5:=Qae R9 5 rfl;have q6:=Qae R9 6 rfl;have q7:=Qae R9 7 rfl;have q8:=Qae R9 8 rfl;have q9:=Qae R9 9 rfl;have af:=Qae R9 10 rfl;have ah:=Qae R9 11 rfl;have ai:=Qae R9 12 rfl;have ae:=Qae R9 13 rfl;have ag:=Qae R9 14 rfl;go_wp2_with fail;clear s0 s1 s2 s3 s4 s5 s6 q2 q3 q4 q5 q6 q7 q8 q9 af ah ai ae ag;refine (Qe8 x (RT.out c HM) HX HK (II.out.ok c HM) OX (II.out.sm c HM) (II.out.pl c HM) (Qaz (II.out.mem.2 c HM) (Qac a8 B9))).mono ?_;rintro e w4 ⟨v,o,rfl,aB,⟨q,rfl,aU⟩,aZ⟩;have R4:=Qaa (QaW R9 aZ);have B4:=Qaa (B9.out.trans (aZ.mono B9.out.size));have aE:=Qaa aB;have bH:=Qaa aU;have bv:=Qaa (aU.le (show G+1<=W9.heap.size from (ZZc.1 R9).1));clear aB aU aZ;have q2:=Qae R4 2 rfl;have q3:=Qae R4 3 rfl;have q4:=Qae R4 4 rfl;have q5:=Qae R4 5 rfl;have q6:=Qae R4 6 rfl;have q7:=Qae R4 7 rfl;have q8:=Qae R4 8 rfl;have q9:=Qae R4 9 rfl;have af:=Qae R4 10 rfl;have ah:=Qae R4 11 rfl;have ai:=Qae R4 12 rfl;have ae:=Qae R4 13 rfl;have ag:=Qae R4 14 rfl;have f2:=fzR 2 R4;have f3:=fzR 3 R4;have f4:=fzR 4 R4;have f5:=fzR 5 R4;have f6:=fzR 6 R4;have f7:=fzR 7 R4;have f8:=fzR 8 R4;have f9:=fzR 9 R4;have aq:=fzR 10 R4;have ap:=fzR 11 R4;have av:=fzR 12 R4;have an:=fzR 13 R4;have aw:=fzR 14 R4;have R5:=Qaa (QpK (v0:=.int .i64 o.k) (v1:=.int .u64 o.s) (v2:=.int .i64 o.h) (v3:=.int .u64 o.l) (v4:=.int .i64 o.a) (v5:=.int .i64 o.t) (v6:=.int .u64 o.z) (v7:=.slice q.pa o.P.length q.pc) (v8:=.slice q.na o.N.length q.nc) (v9:=.int .i64 o.x) (v10:=.int .u64 o.y) (v11:=.slice q.ea o.E.length q.ec) (v12:=.slice q.ra o.R.length q.rc) R4);have B5:=Qaa (Qkl B4 GG (.int .i64 o.k) (.int .u64 o.s) (.int .i64 o.h) (.int .u64 o.l) (.int .i64 o.a) (.int .i64 o.t) (.int .u64 o.z) (.slice q.pa o.P.length q.pc) (.slice q.na o.N.length q.nc) (.int .i64 o.x) (.int .u64 o.y) (.slice q.ea o.E.length q.ec) (.slice q.ra o.R.length q.rc));go_upto_region 11 with fail;clear q2 f2 q3 f3 q4 f4 q5 f5 q6 f6 q7 f7 q8 f8 q9 f9 af aq ah ap ai av ae an ag aw;have O5:Hid (AgO (((((((((((((w4.setCell ⟨G,2,none⟩ (.int .i64 o.k)).setCell ⟨G,3,none⟩ (.int .u64 o.s)).setCell ⟨G,4,none⟩ (.int .i64 o.h)).setCell ⟨G,5,none⟩ (.int .u64 o.l)).setCell ⟨G,6,none⟩ (.int .i64 o.a)).setCell ⟨G,7,none⟩ (.int .i64 o.t)).setCell ⟨G,8,none⟩ (.int .u64 o.z)).setCell ⟨G,9,none⟩ (.slice q.pa o.P.length q.pc)).setCell ⟨G,10,none⟩ (.slice q.na o.N.length q.nc)).setCell ⟨G,11,none⟩ (.int .i64 o.x)).setCell ⟨G,12,none⟩ (.int .u64 o.y)).setCell ⟨G,13,none⟩ (.slice q.ea o.E.length q.ec)).setCell ⟨G,14,none⟩ (.slice q.ra o.R.length q.rc)) (G+1) o q):=bv.out.kept15 (Nat.lt_succ_self _);generalize (((((((((((((w4.setCell ⟨G,2,none⟩ (.int .i64 o.k)).setCell ⟨G,3,none⟩ (.int .u64 o.s)).setCell ⟨G,4,none⟩ (.int .i64 o.h)).setCell ⟨G,5,none⟩ (.int .u64 o.l)).setCell ⟨G,6,none⟩ (.int .i64 o.a)).setCell ⟨G,7,none⟩ (.int .i64 o.t)).setCell ⟨G,8,none⟩ (.int .u64 o.z)).setCell ⟨G,9,none⟩ (.slice q.pa o.P.length q.pc)).setCell ⟨G,10,none⟩ (.slice q.na o.N.length q.nc)).setCell ⟨G,11,none⟩ (.int .i64 o.x)).setCell ⟨G,12,none⟩ (.int .u64 o.y)).setCell ⟨G,13,none⟩ (.slice q.ea o.E.length q.ec)).setCell ⟨G,14,none⟩ (.slice q.ra o.R.length q.rc))=W5 at R5 B5 O5 ⊢;obtain ⟨q0,q1,q2,q3,q4,q5,q6,q7,q8,q9,af,ah,ai,ae,ag⟩:=Qr1 R5;have be:=Qaa (a6.out.past B5);have ar:Hid (A.length=k):=by show _=_;have:=congrArg List.length aV;simp at this;have:=bm.out;simp at this;omega
    have bC:w.heap.size<=W5.heap.size:=Nat.le_trans a8.out.size B5.out.size;have bo:=Qaa (fun v' w6=>Qpf (c:=⟨win,x.se,o,q⟩) (v':=v') (w6:=w6) a6 bp a8 B5 GG O5);go_wp2_with (at_builtin;refine wpList_append_own _ rfl _ _ 35 rfl w.heap.size 75 i0 (.agg QbN) 15 192 underlying35 hi a9 bb ba rfl (by decide) _ _ _ rfl (World.ownsRow.alloc be _) ⟨W5.heap.size,0,none⟩ 1 1 (ceL ⟨win,x.se,o,q⟩) rfl rfl ?c1 ?c2 ?c3 ?c4 ?c5 ?_)
    case c1=>exact QbG (c:=⟨win,x.se,o,q⟩)
    case c2=>exact Qc1 _
    case c3=>have:=ar.out;unfold maxLen;omega
    case c4=>have:=ar.out;omega
    case c5=>simp;omega
    intro v6 w6 aj ac aC;obtain ⟨bh,bd,bj⟩:=bo.out v6 w6 aj ac;have aS:=Qaa bh;have bi:=Qaa bd;have aG:=Qaa bj;clear aj ac aC bh bd bj bo be a6 bp O5 R5 B5 q0 q1 q2 q3 q4 q5 q6 q7 q8 q9 af ah ai ae ag;have bL:(0:Int)<=(k:Int)+1:=by omega
    have bN:(k:Int)+1<=(N:Int):=by omega
    have bP:IntKind.i64.wrap ((k:Int)+1)=(k:Int)+1:=ZZi _ ⟨by omega,by omega⟩;have aQ:Hid ((L.drop (k+1)).length=N - (k+1)):=by show _=_;rw [List.length_drop,II.out.hN]
    have ld:N - (k+1)<=1048576:=by have:=II.out.lN;omega
    have aR:w.heap.size<=w6.heap.size:=aG.out.size;have D1:Hid (ca=k+1->QbC w (some ⟨b,br,none⟩) (L.drop (k+1))):=fun e=>by have:=QfO (k:=k+1) (ca:=ca) II.out.mem (by have:=II.out.hN;omega);rw [if_pos e] at this;exact this
    have D2:Hid (ca≠k+1->QbC w (some ⟨b,br+(k+1)*15,none⟩) (L.drop (k+1))):=fun e=>by have:=QfO (k:=k+1) (ca:=ca) II.out.mem (by have:=II.out.hN;omega);rw [if_neg e] at this;simpa [Addr.add] using this
    by_cases bq:ca=(k+1)
    ·have aX:=Qaa (D1.out bq)
     go_wp2_with fail
     skip
     refine (Qbl (L:=L.drop (k+1)) aQ ld (fun d hd=>II.out.sm d (ZZp hd)) (fun d hd=>II.out.pl d (ZZp hd)) (QaD aX aG)).mono ?_;rintro e w7 ⟨vB,M,rfl,aL,aP,al,am,aN⟩;obtain ⟨gB,cB,rfl,aO⟩:=aL.src aN;have aT:=Qaa aO;have aY:=Qaa aP;have a0:=Qaa al;have aH:=Qaa am;have aJ:Hid (M.length=N - (k+1)):=(Qdm al).trans aQ;have aF:=Qaa (aS.out.past aH);have aW:w.heap.size<=w7.heap.size:=Nat.le_trans aR am.size;have aM:=Qaa (fun v'' w8=>QhZ (v'':=v'') (w8:=w8) aS bi aR aG aH aY);clear aO aP al am aL aN;go_wp2_with (at_builtin;refine wpList_append_own _ rfl _ _ 35 rfl w.heap.size 75 i0 (.agg QbN) 15 192 underlying35 hi a9 bb ba rfl (by decide) _ _ _ rfl aF ⟨gB,0,none⟩ M.length cB (flC M) rfl (QbE M) aT (Qct M) ?c3 ?c4 aW ?_)
     case c3=>have:=ar.out;have:=aJ.out;have:=II.out.lN;simp only [List.length_append,List.length_cons,List.length_nil];unfold maxLen;omega
     case c4=>have:=ar.out;have:=aJ.out;have:=II.out.lN;simp only [List.length_append,List.length_cons,List.length_nil];omega
     intro v8 w8 aa aK ad;obtain ⟨f1,f2,f3⟩:=aM.out v8 w8 (by rw [List.length_append];exact aa) aK;have F1:=Qaa f1;have F2:=Qaa f2;have F3:=Qaa f3;clear f1 f2 f3 aa aK ad aM aF;go_wp2;go_ret2;exact ⟨_,_,0,rfl,PuA.there c o _ HM E1 E2 HK aE (QoA AS HP aV a0),F1,F2,F3⟩
    ·have aX:=Qaa (D2.out bq)
     go_wp2_with fail
     skip
     refine (Qbl (L:=L.drop (k+1)) aQ ld (fun d hd=>II.out.sm d (ZZp hd)) (fun d hd=>II.out.pl d (ZZp hd)) (QaD aX aG)).mono ?_;rintro e w7 ⟨vB,M,rfl,aL,aP,al,am,aN⟩;obtain ⟨gB,cB,rfl,aO⟩:=aL.src aN;have aT:=Qaa aO;have aY:=Qaa aP;have a0:=Qaa al;have aH:=Qaa am;have aJ:Hid (M.length=N - (k+1)):=(Qdm al).trans aQ;have aF:=Qaa (aS.out.past aH);have aW:w.heap.size<=w7.heap.size:=Nat.le_trans aR am.size;have aM:=Qaa (fun v'' w8=>QhZ (v'':=v'') (w8:=w8) aS bi aR aG aH aY);clear aO aP al am aL aN;go_wp2_with (at_builtin;refine wpList_append_own _ rfl _ _ 35 rfl w.heap.size 75 i0 (.agg QbN) 15 192 underlying35 hi a9 bb ba rfl (by decide) _ _ _ rfl aF ⟨gB,0,none⟩ M.length cB (flC M) rfl (QbE M) aT (Qct M) ?c3 ?c4 aW ?_)
     case c3=>have:=ar.out;have:=aJ.out;have:=II.out.lN;simp only [List.length_append,List.length_cons,List.length_nil];unfold maxLen;omega
     case c4=>have:=ar.out;have:=aJ.out;have:=II.out.lN;simp only [List.length_append,List.length_cons,List.length_nil];omega
     intro v8 w8 aa aK ad;obtain ⟨f1,f2,f3⟩:=aM.out v8 w8 (by rw [List.length_append];exact aa) aK;have F1:=Qaa f1;have F2:=Qaa f2;have F3:=Qaa f3;clear f1 f2 f3 aa aK ad aM aF;go_wp2;go_ret2;exact ⟨_,_,0,rfl,PuA.there c o _ HM E1 E2 HK aE (QoA AS HP aV a0),F1,F2,F3⟩
  ·have HR:Hid (PuA L win x [] 9):=PuA.kind c HM E1 E2 hk
   have bk:(c.g.k == x.k)=false:=by simp [hk]
   clear hk;go_upto_region 2 with fail
   go_region_held3 (fun W=>W.cell? ⟨b,br+k*15+2,none⟩=some (.int .i64 c.g.k)/\W.cell? ⟨w.heap.size,0,none⟩=some (.int .i64 x.k))
    (exact ⟨by simpa using y2,by simpa using z0⟩)
    (fail)
   go_wp2;go_ret2;exact ⟨_,[],9,rfl,HR,World.ownsRow_nil _ _ _ _,CesO.nil _ _,aD.out.drew⟩
 | false=>
  obtain ⟨_,hn⟩:=QpL AS HP;have bu:=Qaa hn;clear hn;go_upto_region 2 with fail;have ab:(fun _=>True) w1.drew:=trivial;refine Qal (fun _=>True) 99 (by kernel_rfl) ?_;refine tkS 0 (.bool false) ab ?_;refine tkS 1 (.bool false) ab ?_;refine tkU 2 ab ?_;simp only [sX];refine tkU 3 ab ?_;refine tkU 4 ab ?_;refine tkU 5 ab ?_;simp only [sX];refine tkU 6 ab ?_;refine tkU 7 ab ?_;refine tkU 8 ab ?_;simp only [sX];refine tkU 9 ab ?_;refine tkU 10 ab ?_;refine tkS 11 (.bool false) ab ?_;simp only [sX];refine dnE ?_ _;by_cases hf:60<=N
  ·have HR:Hid (PuA L win x [] 8):=PuA.full bu (by have:=II.out.hN;omega)
   have bf:decide ((60:Int)<=(N:Int))=true:=ZZh (by omega);clear hf;go_wp2;go_ret2;exact ⟨_,[],8,rfl,HR,World.ownsRow_nil _ _ _ _,CesO.nil _ _,aD.out.drew⟩
  ·have bf:decide ((60:Int)<=(N:Int))=false:=ZZg (by omega)
   have HF:=Qaa hf;have bI:(0:Int)<=(k:Int):=by omega
   have bE:(k:Int)<=(ca:Int):=by omega
   clear hf;go_wp2_with fail;have bm:Hid ((L.take k).length=k):=by show _=_;rw [List.length_take];have:=II.out.hN;omega
   have lk:k<=1048576:=by have:=II.out.lN;omega
   refine (Qbl (L:=L.take k) bm lk (fun d hd=>II.out.sm d (ZZo hd)) (fun d hd=>II.out.pl d (ZZo hd)) (QaD (Qk9 II.out.mem) aD.out.drew)).mono ?_;rintro e w2 ⟨vA,A,rfl,hr,ho,bl,a7,bg⟩;have a8:=Qaa (Qac aD.out.drew a7);have X2:=Qaa (QaW (w:=w1.drew) X1 a7);have a6:=Qaa (hr.le aD.out.drew.size);have bp:=Qaa (ho.le aD.out.drew.size);have aV:=Qaa bl;have bK:=Qaa bg;clear hr ho bl bg a7;go_upto_region 7 with fail
   go_cut [11] (fun v w'=>∃ G:Nat,v=.pointer (some ⟨G,0,none⟩)/\Hid (w'.heap[G]?=some (.cells (Qap ⟨win,x.se,g0,p0⟩) 75 (0,0)))/\Hid (w2.heap.size<=G)/\Hid (Below w2.heap.size w2 w'))
   case first=>
    have ab:(fun W=>Below w2.heap.size w2 W) w2.drew:=(ZZb _ _).drew;refine Qal (fun W=>Below w2.heap.size w2 W) 8 (by kernel_rfl) ?_;refine tkS 0 (.int .i64 win) ab ?_;refine tkS 1 (.pointer (some ⟨w.heap.size,1,none⟩)) ab ?_;refine tkL 2 (.string x.se) ab (fun W hW=>?_) ?_
    ·have q:=Qbh (QaW X2 hW) 1 rfl
     clear hW;go_simp
    simp only [sX];refine tkS 3 (.pointer (some ⟨w.heap.size,0,none⟩)) ab ?_;refine tkL 4 (.int .i64 x.k) ab (fun W hW=>?_) ?_
    ·have q:=Qbh (QaW X2 hW) 0 rfl
     clear hW;go_simp
    simp only [sX];refine Qos (i:=5) (j:=7) (by kernel_rfl) rfl rfl (fun K hK=>?_) (fun K hK=>?_)
    ·go_simp
     refine (Qgk K1 K4).mono ?_;rintro e w3 ⟨rfl,au⟩;rw [<- HG.out,<- bn.out];have az:Hid (Below w2.heap.size w2 w3):=(ab:Below w2.heap.size w2 _).trans (au.mono (ab:Below w2.heap.size w2 _).size);clear au
     try dsimp only
     refine gK hK az.out ?_
     try simp only [sX]
     refine tkS 6 (.agg (Qap ⟨win,x.se,g0,p0⟩)) az ?_;simp only [sX];refine onE 7 fun K hK=>?_;go_simp;have ak:Hid (Below w2.heap.size w2 (w3.alloc (.cells #[.int .i64 0,.string ⟨#[]⟩,.int .i64 0,.int .u64 0,.int .i64 0,.int .u64 0,.int .i64 0,.int .i64 0,.int .u64 0,.slice none 0 0,.slice none 0 0,.int .i64 0,.int .u64 0,.slice none 0 0,.slice none 0 0] 75))):=az.out.alloc az.out.size _;have R0:=Qaa (ZZk w3 (.cells #[.int .i64 0,.string ⟨#[]⟩,.int .i64 0,.int .u64 0,.int .i64 0,.int .u64 0,.int .i64 0,.int .i64 0,.int .u64 0,.slice none 0 0,.slice none 0 0,.int .i64 0,.int .u64 0,.slice none 0 0,.slice none 0 0] 75))
     try dsimp only
     refine gK hK ak.out ?_
     try simp only [sX]
     have hG:Hid (w2.heap.size<=w3.heap.size):=az.out.size;generalize w3.alloc (.cells #[.int .i64 0,.string ⟨#[]⟩,.int .i64 0,.int .u64 0,.int .i64 0,.int .u64 0,.int .i64 0,.int .i64 0,.int .u64 0,.slice none 0 0,.slice none 0 0,.int .i64 0,.int .u64 0,.slice none 0 0,.slice none 0 0] 75)=Wa at ak R0 ⊢;generalize w3.heap.size=G at R0 hG ⊢;obtain ⟨q0,q1,q2,q3,q4,q5,q6,q7,q8,q9,af,ah,ai,ae,ag⟩:=Qr1 R0;obtain ⟨f0,f1,f2,f3,f4,f5,f6,f7,f8,f9,aq,ap,av,an,aw⟩:=fA15 R0;refine onE 8 fun K hK=>?_;go_simp;have ay:=Qaa (QlR R0 (.int .i64 win) (.string x.se) (.int .i64 g0.k) (.int .u64 g0.s) (.int .i64 g0.h) (.int .u64 g0.l) (.int .i64 g0.a) (.int .i64 g0.t) (.int .u64 g0.z) (.slice p0.pa g0.P.length p0.pc) (.slice p0.na g0.N.length p0.nc) (.int .i64 g0.x) (.int .u64 g0.y) (.slice p0.ea g0.E.length p0.ec) (.slice p0.ra g0.R.length p0.rc));have aA:=Qaa (QfM ak hG (.int .i64 win) (.string x.se) (.int .i64 g0.k) (.int .u64 g0.s) (.int .i64 g0.h) (.int .u64 g0.l) (.int .i64 g0.a) (.int .i64 g0.t) (.int .u64 g0.z) (.slice p0.pa g0.P.length p0.pc) (.slice p0.na g0.N.length p0.nc) (.int .i64 g0.x) (.int .u64 g0.y) (.slice p0.ea g0.E.length p0.ec) (.slice p0.ra g0.R.length p0.rc));clear q0 f0 q1 f1 q2 f2 q3 f3 q4 f4 q5 f5 q6 f6 q7 f7 q8 f8 q9 f9 af aq ah ap ai av ae an ag aw;refine hK.out _ _ (fun h=>absurd rfl h) ?_
     try simp only [sX]
     generalize (((((((((((((((Wa.setCell ⟨G,0,none⟩ (.int .i64 win)).setCell ⟨G,1,none⟩ (.string x.se)).setCell ⟨G,2,none⟩ (.int .i64 g0.k)).setCell ⟨G,3,none⟩ (.int .u64 g0.s)).setCell ⟨G,4,none⟩ (.int .i64 g0.h)).setCell ⟨G,5,none⟩ (.int .u64 g0.l)).setCell ⟨G,6,none⟩ (.int .i64 g0.a)).setCell ⟨G,7,none⟩ (.int .i64 g0.t)).setCell ⟨G,8,none⟩ (.int .u64 g0.z)).setCell ⟨G,9,none⟩ (.slice p0.pa g0.P.length p0.pc)).setCell ⟨G,10,none⟩ (.slice p0.na g0.N.length p0.nc)).setCell ⟨G,11,none⟩ (.int .i64 g0.x)).setCell ⟨G,12,none⟩ (.int .u64 g0.y)).setCell ⟨G,13,none⟩ (.slice p0.ea g0.E.length p0.ec)).setCell ⟨G,14,none⟩ (.slice p0.ra g0.R.length p0.rc))=W5 at ay aA ⊢;refine dnE ?_ _;go_wp2;go_meet;exact ⟨G,rfl,ay,hG,aA⟩
    ·go_simp
     have ax:Hid (Below w2.heap.size w2 (w2.alloc (.cells #[.int .i64 0,.string ⟨#[]⟩,.int .i64 0,.int .u64 0,.int .i64 0,.int .u64 0,.int .i64 0,.int .i64 0,.int .u64 0,.slice none 0 0,.slice none 0 0,.int .i64 0,.int .u64 0,.slice none 0 0,.slice none 0 0] 75)).drew):=((ZZb _ _).alloc (ZZa _) _).drew;have R0:Hid ((w2.alloc (.cells #[.int .i64 0,.string ⟨#[]⟩,.int .i64 0,.int .u64 0,.int .i64 0,.int .u64 0,.int .i64 0,.int .i64 0,.int .u64 0,.slice none 0 0,.slice none 0 0,.int .i64 0,.int .u64 0,.slice none 0 0,.slice none 0 0] 75)).drew.heap[w2.heap.size]?=some (.cells #[.int .i64 0,.string ⟨#[]⟩,.int .i64 0,.int .u64 0,.int .i64 0,.int .u64 0,.int .i64 0,.int .i64 0,.int .u64 0,.slice none 0 0,.slice none 0 0,.int .i64 0,.int .u64 0,.slice none 0 0,.slice none 0 0] 75 (0,0))):=ZZk w2 (.cells #[.int .i64 0,.string ⟨#[]⟩,.int .i64 0,.int .u64 0,.int .i64 0,.int .u64 0,.int .i64 0,.int .i64 0,.int .u64 0,.slice none 0 0,.slice none 0 0,.int .i64 0,.int .u64 0,.slice none 0 0,.slice none 0 0] 75)
     try dsimp only
     refine gK hK ax.out ?_
     try simp only [sX]
     generalize (w2.alloc (.cells #[.int .i64 0,.string ⟨#[]⟩,.int .i64 0,.int .u64 0,.int .i64 0,.int .u64 0,.int .i64 0,.int .i64 0,.int .u64 0,.slice none 0 0,.slice none 0 0,.int .i64 0,.int .u64 0,.slice none 0 0,.slice none 0 0] 75)).drew=Wb at ax R0 ⊢;refine onE 5 fun K hK=>?_;go_simp;refine (Qgk K1 K4).mono ?_;rintro e Wa ⟨rfl,au⟩;rw [<- HG.out,<- bn.out];have ak:Hid (Below w2.heap.size w2 Wa):=ax.out.trans (au.mono ax.out.size);have R1:=Qaa (QaW R0 au);have hG:Hid (w2.heap.size<=w2.heap.size):=ZZa _;clear au R0 ax
     try dsimp only
     refine gK hK ak.out ?_
     try simp only [sX]
     refine tkS 6 (.agg (Qap ⟨win,x.se,g0,p0⟩)) ak ?_;simp only [sX];obtain ⟨q0,q1,q2,q3,q4,q5,q6,q7,q8,q9,af,ah,ai,ae,ag⟩:=Qr1 R1;obtain ⟨f0,f1,f2,f3,f4,f5,f6,f7,f8,f9,aq,ap,av,an,aw⟩:=fA15 R1;refine onE 8 fun K hK=>?_;go_simp;have ay:=Qaa (QlR R1 (.int .i64 win) (.string x.se) (.int .i64 g0.k) (.int .u64 g0.s) (.int .i64 g0.h) (.int .u64 g0.l) (.int .i64 g0.a) (.int .i64 g0.t) (.int .u64 g0.z) (.slice p0.pa g0.P.length p0.pc) (.slice p0.na g0.N.length p0.nc) (.int .i64 g0.x) (.int .u64 g0.y) (.slice p0.ea g0.E.length p0.ec) (.slice p0.ra g0.R.length p0.rc));have aA:=Qaa (QfM ak hG (.int .i64 win) (.string x.se) (.int .i64 g0.k) (.int .u64 g0.s) (.int .i64 g0.h) (.int .u64 g0.l) (.int .i64 g0.a) (.int .i64 g0.t) (.int .u64 g0.z) (.slice p0.pa g0.P.length p0.pc) (.slice p0.na g0.N.length p0.nc) (.int .i64 g0.x) (.int .u64 g0.y) (.slice p0.ea g0.E.length p0.ec) (.slice p0.ra g0.R.length p0.rc));clear q0 f0 q1 f1 q2 f2 q3 f3 q4 f4 q5 f5 q6 f6 q7 f7 q8 f8 q9 f9 af aq ah ap ai av ae an ag aw;refine hK.out _ _ (fun h=>absurd rfl h) ?_
     try simp only [sX]
     generalize (((((((((((((((Wa.setCell ⟨w2.heap.size,0,none⟩ (.int .i64 win)).setCell ⟨w2.heap.size,1,none⟩ (.string x.se)).setCell ⟨w2.heap.size,2,none⟩ (.int .i64 g0.k)).setCell ⟨w2.heap.size,3,none⟩ (.int .u64 g0.s)).setCell ⟨w2.heap.size,4,none⟩ (.int .i64 g0.h)).setCell ⟨w2.heap.size,5,none⟩ (.int .u64 g0.l)).setCell ⟨w2.heap.size,6,none⟩ (.int .i64 g0.a)).setCell ⟨w2.heap.size,7,none⟩ (.int .i64 g0.t)).setCell ⟨w2.heap.size,8,none⟩ (.int .u64 g0.z)).setCell ⟨w2.heap.size,9,none⟩ (.slice p0.pa g0.P.length p0.pc)).setCell ⟨w2.heap.size,10,none⟩ (.slice p0.na g0.N.length p0.nc)).setCell ⟨w2.heap.size,11,none⟩ (.int .i64 g0.x)).setCell ⟨w2.heap.size,12,none⟩ (.int .u64 g0.y)).setCell ⟨w2.heap.size,13,none⟩ (.slice p0.ea g0.E.length p0.ec)).setCell ⟨w2.heap.size,14,none⟩ (.slice p0.ra g0.R.length p0.rc))=W5 at ay aA ⊢;refine dnE ?_ _;go_wp2;go_meet;exact ⟨w2.heap.size,rfl,ay,hG,aA⟩
   case rest=>
    obtain ⟨G,rfl,RG,GG,BG⟩:=hcut;obtain ⟨a1,a2,a3,a4,a5⟩:=Qgx K1 K4;have bc:Hid (agB g0=true/\AgOk g0/\AgSm g0/\g0.k=x.k/\∀ w B,AgO w B g0 p0):=by show _/\_;rw [HG.out,bn.out];exact ⟨a1,a2,a3,a4,a5⟩
    clear a1 a2 a3 a4 a5;go_upto_region 10 with fail;have X9:=Qaa (QaW X2 BG);obtain ⟨s0,s1,s2,s3,s4,s5,s6⟩:=QrZ X9;have q2:=Qae RG 2 rfl;have q3:=Qae RG 3 rfl;have q4:=Qae RG 4 rfl;have q5:=Qae RG 5 rfl;have q6:=Qae RG 6 rfl;have q7:=Qae RG 7 rfl;have q8:=Qae RG 8 rfl;have q9:=Qae RG 9 rfl;have af:=Qae RG 10 rfl;have ah:=Qae RG 11 rfl;have ai:=Qae RG 12 rfl;have ae:=Qae RG 13 rfl;have ag:=Qae RG 14 rfl;go_wp2_with fail;clear s0 s1 s2 s3 s4 s5 s6 q2 q3 q4 q5 q6 q7 q8 q9 af ah ai ae ag;refine (Qe8 x bc.out.1 HX bc.out.2.2.2.1 bc.out.2.1 OX bc.out.2.2.1 (bc.out.2.2.2.2 w2 0).plgP (bc.out.2.2.2.2 _ 0).at).mono ?_;rintro e w4 ⟨v,o,rfl,aB,⟨q,rfl,aU⟩,aZ⟩;have R4:=Qaa (QaW RG aZ);have B4:=Qaa (BG.out.trans (aZ.mono BG.out.size));have aE:=Qaa aB;have bH:=Qaa aU;have bv:=Qaa (aU.le (show G+1<=wc.heap.size from (ZZc.1 RG).1));clear aB aU aZ;have q2:=Qae R4 2 rfl;have q3:=Qae R4 3 rfl;have q4:=Qae R4 4 rfl;have q5:=Qae R4 5 rfl;have q6:=Qae R4 6 rfl;have q7:=Qae R4 7 rfl;have q8:=Qae R4 8 rfl;have q9:=Qae R4 9 rfl;have af:=Qae R4 10 rfl;have ah:=Qae R4 11 rfl;have ai:=Qae R4 12 rfl;have ae:=Qae R4 13 rfl;have ag:=Qae R4 14 rfl;have f2:=fzR 2 R4;have f3:=fzR 3 R4;have f4:=fzR 4 R4;have f5:=fzR 5 R4;have f6:=fzR 6 R4;have f7:=fzR 7 R4;have f8:=fzR 8 R4;have f9:=fzR 9 R4;have aq:=fzR 10 R4;have ap:=fzR 11 R4;have av:=fzR 12 R4;have an:=fzR 13 R4;have aw:=fzR 14 R4;have R5:=Qaa (QpK (v0:=.int .i64 o.k) (v1:=.int .u64 o.s) (v2:=.int .i64 o.h) (v3:=.int .u64 o.l) (v4:=.int .i64 o.a) (v5:=.int .i64 o.t) (v6:=.int .u64 o.z) (v7:=.slice q.pa o.P.length q.pc) (v8:=.slice q.na o.N.length q.nc) (v9:=.int .i64 o.x) (v10:=.int .u64 o.y) (v11:=.slice q.ea o.E.length q.ec) (v12:=.slice q.ra o.R.length q.rc) R4);have B5:=Qaa (Qkl B4 GG (.int .i64 o.k) (.int .u64 o.s) (.int .i64 o.h) (.int .u64 o.l) (.int .i64 o.a) (.int .i64 o.t) (.int .u64 o.z) (.slice q.pa o.P.length q.pc) (.slice q.na o.N.length q.nc) (.int .i64 o.x) (.int .u64 o.y) (.slice q.ea o.E.length q.ec) (.slice q.ra o.R.length q.rc));go_upto_region 11 with fail;clear q2 f2 q3 f3 q4 f4 q5 f5 q6 f6 q7 f7 q8 f8 q9 f9 af aq ah ap ai av ae an ag aw;have O5:Hid (AgO (((((((((((((w4.setCell ⟨G,2,none⟩ (.int .i64 o.k)).setCell ⟨G,3,none⟩ (.int .u64 o.s)).setCell ⟨G,4,none⟩ (.int .i64 o.h)).setCell ⟨G,5,none⟩ (.int .u64 o.l)).setCell ⟨G,6,none⟩ (.int .i64 o.a)).setCell ⟨G,7,none⟩ (.int .i64 o.t)).setCell ⟨G,8,none⟩ (.int .u64 o.z)).setCell ⟨G,9,none⟩ (.slice q.pa o.P.length q.pc)).setCell ⟨G,10,none⟩ (.slice q.na o.N.length q.nc)).setCell ⟨G,11,none⟩ (.int .i64 o.x)).setCell ⟨G,12,none⟩ (.int .u64 o.y)).setCell ⟨G,13,none⟩ (.slice q.ea o.E.length q.ec)).setCell ⟨G,14,none⟩ (.slice q.ra o.R.length q.rc)) (G+1) o q):=bv.out.kept15 (Nat.lt_succ_self _);generalize (((((((((((((w4.setCell ⟨G,2,none⟩ (.int .i64 o.k)).setCell ⟨G,3,none⟩ (.int .u64 o.s)).setCell ⟨G,4,none⟩ (.int .i64 o.h)).setCell ⟨G,5,none⟩ (.int .u64 o.l)).setCell ⟨G,6,none⟩ (.int .i64 o.a)).setCell ⟨G,7,none⟩ (.int .i64 o.t)).setCell ⟨G,8,none⟩ (.int .u64 o.z)).setCell ⟨G,9,none⟩ (.slice q.pa o.P.length q.pc)).setCell ⟨G,10,none⟩ (.slice q.na o.N.length q.nc)).setCell ⟨G,11,none⟩ (.int .i64 o.x)).setCell ⟨G,12,none⟩ (.int .u64 o.y)).setCell ⟨G,13,none⟩ (.slice q.ea o.E.length q.ec)).setCell ⟨G,14,none⟩ (.slice q.ra o.R.length q.rc))=W5 at R5 B5 O5 ⊢;obtain ⟨q0,q1,q2,q3,q4,q5,q6,q7,q8,q9,af,ah,ai,ae,ag⟩:=Qr1 R5;have be:=Qaa (a6.out.past B5);have ar:Hid (A.length=k):=by show _=_;have:=congrArg List.length aV;simp at this;have:=bm.out;simp at this;omega
    have bC:w.heap.size<=W5.heap.size:=Nat.le_trans a8.out.size B5.out.size;have bo:=Qaa (fun v' w6=>Qpf (c:=⟨win,x.se,o,q⟩) (v':=v') (w6:=w6) a6 bp a8 B5 GG O5);go_wp2_with (at_builtin;refine wpList_append_own _ rfl _ _ 35 rfl w.heap.size 75 i0 (.agg QbN) 15 192 underlying35 hi a9 bb ba rfl (by decide) _ _ _ rfl (World.ownsRow.alloc be _) ⟨W5.heap.size,0,none⟩ 1 1 (ceL ⟨win,x.se,o,q⟩) rfl rfl ?c1 ?c2 ?c3 ?c4 ?c5 ?_)
    case c1=>exact QbG (c:=⟨win,x.se,o,q⟩)
    case c2=>exact Qc1 _
    case c3=>have:=ar.out;unfold maxLen;omega
    case c4=>have:=ar.out;omega
    case c5=>simp;omega
    intro v6 w6 aj ac aC;obtain ⟨bh,bd,bj⟩:=bo.out v6 w6 aj ac;have aS:=Qaa bh;have bi:=Qaa bd;have aG:=Qaa bj;clear aj ac aC bh bd bj bo be a6 bp O5 R5 B5 q0 q1 q2 q3 q4 q5 q6 q7 q8 q9 af ah ai ae ag;have aQ:Hid ((L.drop k).length=N - k):=by show _=_;rw [List.length_drop,II.out.hN]
    have ld:N - k<=1048576:=by have:=II.out.lN;omega
    have aR:w.heap.size<=w6.heap.size:=aG.out.size;have D1:Hid (ca=k->QbC w ao (L.drop k)):=fun e=>by have:=QfO (k:=k) (ca:=ca) II.out.mem (by have:=II.out.hN;omega);rw [if_pos e] at this;exact this
    have D2:Hid (ca≠k->QbC w (ao.map (·.add (k*15))) (L.drop k)):=fun e=>by have:=QfO (k:=k) (ca:=ca) II.out.mem (by have:=II.out.hN;omega);rw [if_neg e] at this;exact this
    by_cases bq:ca=k
    ·have aX:=Qaa (D1.out bq)
     go_wp2_with fail
     skip
     refine (Qbl (L:=L.drop k) aQ ld (fun d hd=>II.out.sm d (ZZp hd)) (fun d hd=>II.out.pl d (ZZp hd)) (QaD aX aG)).mono ?_;rintro e w7 ⟨vB,M,rfl,aL,aP,al,am,aN⟩;obtain ⟨gB,cB,rfl,aO⟩:=aL.src aN;have aT:=Qaa aO;have aY:=Qaa aP;have a0:=Qaa al;have aH:=Qaa am;have aJ:Hid (M.length=N - k):=(Qdm al).trans aQ;have aF:=Qaa (aS.out.past aH);have aW:w.heap.size<=w7.heap.size:=Nat.le_trans aR am.size;have aM:=Qaa (fun v'' w8=>QhZ (v'':=v'') (w8:=w8) aS bi aR aG aH aY);clear aO aP al am aL aN;go_wp2_with (at_builtin;refine wpList_append_own _ rfl _ _ 35 rfl w.heap.size 75 i0 (.agg QbN) 15 192 underlying35 hi a9 bb ba rfl (by decide) _ _ _ rfl aF ⟨gB,0,none⟩ M.length cB (flC M) rfl (QbE M) aT (Qct M) ?c3 ?c4 aW ?_)
     case c3=>have:=ar.out;have:=aJ.out;have:=II.out.lN;simp only [List.length_append,List.length_cons,List.length_nil];unfold maxLen;omega
     case c4=>have:=ar.out;have:=aJ.out;have:=II.out.lN;simp only [List.length_append,List.length_cons,List.length_nil];omega
     intro v8 w8 aa aK ad;obtain ⟨f1,f2,f3⟩:=aM.out v8 w8 (by rw [List.length_append];exact aa) aK;have F1:=Qaa f1;have F2:=Qaa f2;have F3:=Qaa f3;clear f1 f2 f3 aa aK ad aM aF;go_wp2;go_ret2;exact ⟨_,_,0,rfl,PuA.new o _ bu (by have:=HF.out;have:=II.out.hN;omega) (HG.out ▸ aE.out) (Qsa AS HP aV a0),F1,F2,F3⟩
    ·have aX:=Qaa (D2.out bq)
     go_wp2_with fail
     skip
     refine (Qbl (L:=L.drop k) aQ ld (fun d hd=>II.out.sm d (ZZp hd)) (fun d hd=>II.out.pl d (ZZp hd)) (QaD aX aG)).mono ?_;rintro e w7 ⟨vB,M,rfl,aL,aP,al,am,aN⟩;obtain ⟨gB,cB,rfl,aO⟩:=aL.src aN;have aT:=Qaa aO;have aY:=Qaa aP;have a0:=Qaa al;have aH:=Qaa am;have aJ:Hid (M.length=N - k):=(Qdm al).trans aQ;have aF:=Qaa (aS.out.past aH);have aW:w.heap.size<=w7.heap.size:=Nat.le_trans aR am.size;have aM:=Qaa (fun v'' w8=>QhZ (v'':=v'') (w8:=w8) aS bi aR aG aH aY);clear aO aP al am aL aN;go_wp2_with (at_builtin;refine wpList_append_own _ rfl _ _ 35 rfl w.heap.size 75 i0 (.agg QbN) 15 192 underlying35 hi a9 bb ba rfl (by decide) _ _ _ rfl aF ⟨gB,0,none⟩ M.length cB (flC M) rfl (QbE M) aT (Qct M) ?c3 ?c4 aW ?_)
     case c3=>have:=ar.out;have:=aJ.out;have:=II.out.lN;simp only [List.length_append,List.length_cons,List.length_nil];unfold maxLen;omega
     case c4=>have:=ar.out;have:=aJ.out;have:=II.out.lN;simp only [List.length_append,List.length_cons,List.length_nil];omega
     intro v8 w8 aa aK ad;obtain ⟨f1,f2,f3⟩:=aM.out v8 w8 (by rw [List.length_append];exact aa) aK;have F1:=Qaa f1;have F2:=Qaa f2;have F3:=Qaa f3;clear f1 f2 f3 aa aK ad aM aF;go_wp2;go_ret2;exact ⟨_,_,0,rfl,PuA.new o _ bu (by have:=HF.out;have:=II.out.hN;omega) (HG.out ▸ aE.out) (Qsa AS HP aV a0),F1,F2,F3⟩
end
section
theorem QrW (h:cRi c=true):agB c.g=true:=by
 unfold cRi at h;simp only [Bool.and_eq_true] at h
 first | exact h.1.2 | exact h.2 | exact h.1.1.2 | exact h.2.1 | exact h.2.2
end
section
theorem Qhj (L:List Bn):(Qbj L).length<=30:=by
 unfold Qbj
 split
 ·assumption
 ·have hd:(L.drop (L.length - 30)).length=30:=by rw [List.length_drop];omega
  split
  ·rename_i h;rw [h] at hd;simp at hd
  ·rename_i h;rw [h] at hd;simp at hd ⊢; omega
def AgFew (o:Ag):Prop:=o.P.length<=30/\o.N.length<=30/\o.E.length<=64/\o.R.length<=64
theorem AgFew.sm (h:AgFew o):AgSm o:=⟨by have:=h.1;omega,by have:=h.2.1;omega,by have:=h.2.2.1;omega,by have:=h.2.2.2;omega⟩
theorem Qlw (h:AgMrg g g' o):AgFew o:=by
 unfold AgMrg at h
 split at h
 ·rename_i hg
  obtain ⟨E,R,m,rfl⟩:=h;have n:=Qby hg.1;have n':=Qby hg.2.1;have m':Qms g.E g.R g'.E g'.R E R:=by unfold Qms;rw [if_pos ⟨n.hl,n'.hl⟩];exact m
  have l:=QiJ (QiW n.hl n'.hl m');exact ⟨Qhj _,Qhj _,by show E.length<=_;omega,by show R.length<=_;omega⟩
 ·subst h
  exact ⟨by simp [QgG],by simp [QgG],by simp [QgG],by simp [QgG]⟩
theorem Qlm (h:QbF g x o) (hx:x.B=true) (hg:agB g=true) (hk:g.k=x.k):AgFew o:=by
 unfold QbF at h
 split at h
 ·exact Qlw h
 ·rename_i q;exact absurd (by first | exact ⟨hg,hx,hk⟩ | exact ⟨hg,hk,hx⟩ | exact ⟨⟨hg,hx⟩,hk⟩) q
end
section
theorem QtF {A R:List Ce} (h:PtL A n s o R) (a:Qc3 A):Qc3 R:=by
 refine QgJ (L:=A.filter (loF n s) ++ ⟨n,s,o,⟨none,0,none,0,none,0,none,0⟩⟩ :: A.filter (hiF n s)) ?_ (QpN (c:=⟨n,s,o,⟨none,0,none,0,none,0,none,0⟩⟩) a);rw [List.map_append,List.map_cons];exact h
structure CnQ (M:List Ce):Prop where
 ok:∀ c∈M,AgOk c.g
 sm:∀ c∈M,AgSm c.g
 rt:∀ c∈M,agB c.g=true
 ky:∀ c∈M,Qmq c.n c.s
theorem CnQ.keys {L:List Ce} (h:CnQ L) (k:M.map Ce.key=L.map Ce.key):CnQ M:=by
 refine ⟨fun c hc=>?_,fun c hc=>?_,fun c hc=>?_,fun c hc=>?_⟩ <;> obtain ⟨d,hd,e1,e2,e3⟩:=Qog k hc
 ·rw [<- e3];exact h.ok d hd
 ·rw [<- e3];exact h.sm d hd
 ·rw [<- e3];exact h.rt d hd
 ·rw [<- e1,<- e2];exact h.ky d hd
theorem CnQ.ptl {A R:List Ce} (q:CnQ A) (h:PtL A n s o R) (k:Qmq n s) (ok:AgOk o) (sm:AgSm o) (rt:agB o=true):CnQ R:=by
 refine CnQ.keys (L:=A.filter (loF n s) ++ ⟨n,s,o,⟨none,0,none,0,none,0,none,0⟩⟩ :: A.filter (hiF n s)) ?_ (by rw [List.map_append,List.map_cons];exact h)
 have aa:∀ c∈A.filter (loF n s) ++ ⟨n,s,o,⟨none,0,none,0,none,0,none,0⟩⟩ :: A.filter (hiF n s),c∈A∨c=⟨n,s,o,⟨none,0,none,0,none,0,none,0⟩⟩:=fun c hc=>by
  rcases List.mem_append.1 hc with hc | hc
  ·exact .inl (List.mem_filter.1 hc).1
  ·rcases List.mem_cons.1 hc with rfl | hc
   ·exact .inr rfl
   ·exact .inl (List.mem_filter.1 hc).1
 refine ⟨fun c hc=>?_,fun c hc=>?_,fun c hc=>?_,fun c hc=>?_⟩ <;> rcases aa c hc with hc | rfl
 ·exact q.ok c hc
 ·exact ok
 ·exact q.sm c hc
 ·exact sm
 ·exact q.rt c hc
 ·exact rt
 ·exact q.ky c hc
 ·exact k
end
section
theorem Qmc (h:x.B=true):Qbn x.se=true:=by
 unfold Sx.B QbB at h;simp only [Bool.and_eq_true] at h;exact h.1.1.1.2
theorem QpO (h:QbF g x o) (hg:agB g=true) (hx:x.B=true) (hk:g.k=x.k) (ok:AgOk g) (ox:x.Ok):o.s≠0:=by
 unfold QbF at h;rw [if_pos (by first | exact ⟨hg,hx,hk⟩ | exact ⟨hg,hk,hx⟩)] at h;unfold AgMrg at h
 split at h
 ·obtain ⟨E,R,m,rfl⟩:=h
  show Qa9 g.s (Qhe x).s≠0
  have e:(Qhe x).s=1:=by unfold Qhe;split <;> first | rfl | (split <;> first | rfl | (split <;> rfl))
  rw [e];have:=ok.s;unfold U64 at this;unfold Qa9
  split <;> omega
 ·rename_i q
  exact absurd ⟨hg,Qb6 ox hx,hk.trans (Qhn hx).symm⟩ q
theorem QoD {R:List Ce} (r:csR R=true) (h:PtL R n s o R') (hn:Qig n=true) (hs:Qbn s=true) (ho:agB o=true) (hz:o.s≠0) (hl:R'.length<=60):csR R'=true:=by
 obtain ⟨h1,h2,h3⟩:=csR_iff.1 r;refine csR_iff.2 ⟨hl,fun c hc=>?_,QtF h h3⟩;have h':R'.map Ce.key=(R.filter (loF n s) ++ ⟨n,s,o,⟨none,0,none,0,none,0,none,0⟩⟩ :: R.filter (hiF n s)).map Ce.key:=by rw [List.map_append,List.map_cons];exact h
 obtain ⟨d,hd,e1,e2,e3⟩:=Qog h' hc;have e:cRi c=cRi d:=by unfold cRi;rw [e1,e2,e3]
 rw [e];rcases List.mem_append.1 hd with hd | hd
 ·exact h2 d (List.mem_filter.1 hd).1
 ·rcases List.mem_cons.1 hd with rfl | hd
  ·unfold cRi
   simp [hn,hs,ho,hz]
  ·exact h2 d (List.mem_filter.1 hd).1
theorem QrE {R:List Ce} (r:csR R=true) (q:CnQ R) (ox:x.Ok) (hx:x.B=true) (hn:Qig n=true) (p:PuA R n x R' 0):csR R'=true/\CnQ R':=by
 have ab:=(csR_iff.1 r).2.2;have kw:Qmq n x.se:=⟨QnQ hn,ox.se⟩;generalize hc0:(0:Int)=c0 at p
 cases p with
 | kind=>exact absurd hc0 (by decide)
 | full=>exact absurd hc0 (by decide)
 | there c o R' hc k1 k2 hk hp hR=>
  obtain ⟨a1,a2,_⟩:=Qgd ox (q.ok c hc) hp
  have hl:R'.length<=60:=by
   have e:=congrArg List.length hR;simp only [List.length_map,List.length_append,List.length_cons] at e;have sp:=congrArg List.length (Qjm ab hc);rw [k1,k2] at sp;simp only [List.length_append,List.length_cons] at sp;have:=(csR_iff.1 r).1;omega
  exact ⟨QoD r hR hn (Qmc hx) (a2 (q.rt c hc)) (QpO hp (q.rt c hc) hx hk (q.ok c hc) ox) hl,q.ptl hR kw a1 (Qlm hp hx (q.rt c hc) hk).sm (a2 (q.rt c hc))⟩
 | new o R' hno hl hp hR=>
  obtain ⟨b1,b4⟩:=(QbL hx).1;obtain ⟨g1,g2,g3,g4,_⟩:=Qgx b1 b4;obtain ⟨a1,a2,_⟩:=Qgd ox g2 hp
  have aa:R'.length<=60:=by
   have e:=congrArg List.length hR;simp only [List.length_map,List.length_append,List.length_cons] at e;have:=(QtR hno).length_eq;simp only [List.length_append] at this;omega
  exact ⟨QoD r hR hn (Qmc hx) (a2 g1) (QpO hp g1 hx g4 g2 ox) aa,q.ptl hR kw a1 (Qlm hp hx g1 g4).sm (a2 g1)⟩
end
section
theorem cnq_of {N:Nat} {L:List Ce} (h:ShI w ao N L) (r:csR L=true):CnQ L:=⟨h.ok,h.sm,fun c hc=>QrW ((csR_iff.1 r).2.1 c hc),Qm1 h r⟩
end
end Go.Proofs.YtlejlgldgafljaaGreatDoor
