/-
 Parts.
-/
import Derived.Test.YtlejlgldgafljaaGreatDoorVZW
import Derived.Test.YtlejlgldgafljaaGreatDoorVWA
set_option maxRecDepth 10000
set_option maxHeartbeats 16000000
set_option linter.all false
namespace Go.Proofs.YtlejlgldgafljaaGreatDoor
open Go.ChangeShapes Go.WideShapes Go.ChangeAt Go.RowKit Go.PlainAid Go.Maps Go.Lib Tryz
section
theorem Qju:∀ (l:List Int) (x:Int),l.Pairwise (· < ·)->(QcL l x).Pairwise (· < ·)
 | [],x,_=>by simp [QcL]
 | y :: r,x,h=>by
  have hr:=List.pairwise_cons.1 h;unfold QcL
  split
  ·rename_i hlt
   refine List.pairwise_cons.2 ⟨fun z hz=>?_,Qju r x hr.2⟩;rcases (Qf5 z r x).1 hz with h' | h'
   ·omega
   ·exact hr.1 z h'
  ·split
   ·exact h
   ·rename_i h1 h2
    refine List.pairwise_cons.2 ⟨fun z hz=>?_,h⟩;rcases List.mem_cons.1 hz with h' | h'
    ·omega
    ·have:=hr.1 z h'; omega
theorem Qoy (m:List Int):∀ l:List Int,l.Pairwise (· < ·)->(Qkp l m).Pairwise (· < ·):=by
 induction m with
 | nil=>intro l h;exact h
 | cons x m ih=>intro l h;exact ih _ (Qju l x h)
theorem QdT (z:Int) (m:List Int):∀ l:List Int,z∈Qkp l m↔z∈l∨z∈m:=by
 induction m with
 | nil=>intro l;simp [Qkp]
 | cons x m ih=>
  intro l
  show z∈Qkp (QcL l x) m↔_
  rw [ih,Qf5,List.mem_cons];constructor
  ·rintro ((h | h) | h) <;> simp [h]
  ·rintro (h | h | h) <;> simp [h]
end
section
def PutH (E R:List Int) (x:Int) (E' R':List Int):Prop:=if hlB E R=true then Mg E R [x] [] E' R' else E'=E/\R'=R
def Qn3 (E1 R1 E2 R2 E R:List Int):Prop:=if hlB E1 R1=true/\hlB E2 R2=true then Mg E1 R1 E2 R2 E R else E=[]/\R=[]
end
variable {A B B1 B2 E E1 E2 F R R1 R2 S T U U1 U2:List Int}
section
theorem Qmc (h:upN E1=true) (E2:List Int):QnG E1 E2=Qkp E1 E2:=by
 unfold QnG;rw [Qit (l:=[]) (by simpa using Qf8 h)];rfl
theorem Qrm (x:Int) (E1 E2:List Int):x∈QnG E1 E2↔x∈E1∨x∈E2:=by
 unfold QnG;rw [QdT,QdT];simp
theorem Qji (h:R.length=64):QhK R=R:=by unfold QhK;rw [if_neg (by omega)]
end
variable {g1 g2:Prop}
section
def zer:List Int:=List.replicate 64 0
theorem Quq:zer.length=64:=by simp [zer]
theorem QpO (i:Nat):zer.getD i 0=0:=by
 unfold zer;rw [List.getD_eq_getElem?_getD,List.getElem?_replicate];split <;> rfl
theorem Qtv (hA:A.length=64) (hB:B.length=64) (h:∀ i,i<64->A.getD i 0=B.getD i 0):A=B:=by
 apply List.ext_getElem (by omega);intro i h1 h2;have:=h i (by omega);rw [List.getD_eq_getElem?_getD,List.getD_eq_getElem?_getD,List.getElem?_eq_getElem h1,List.getElem?_eq_getElem h2] at this;exact this
theorem Qoh:Qfs zer:=⟨Quq,fun i _=>by rw [QpO];omega⟩
theorem mx_ok (a:Qfs A) (b:Qfs B):Qfs (mxx A B):=⟨by rw [QkG];exact a.1,fun i hi=>by
 rw [QlT a.1 i hi];have:=a.2 i hi;have:=b.2 i hi;omega⟩
theorem Qtm (a:Qfs A):mxx A zer=A:=
 Qtv (by rw [QkG];exact a.1) a.1 fun i hi=>by rw [QlT a.1 i hi,QpO];have:=a.2 i hi;omega
structure Can (g:Prop) (U B E R:List Int):Prop where
 rise:U.Pairwise (· < ·)
 okB:Qfs B
 no:¬ g->B=zer
 few:¬ g->U.length<=40->E=U/\R=[]
 many:g∨40<U.length->E=[]/\Laid B (·∈U) R
theorem QdJ:∀ {L:List Int},L.Pairwise (· < ·)->upN L=true
 | [],_=>rfl
 | [x],_=>rfl
 | x :: y :: r,h=>by
  have a:=List.pairwise_cons.1 h;simp only [upN,yB,decide_eq_true_eq];exact ⟨a.1 y (by simp),QdJ a.2⟩
theorem QtL (h:Qhm R=true):Qfs R:=by
 unfold Qhm at h;simp only [yB,decide_eq_true_eq] at h;refine ⟨h.1,fun i hi=>?_⟩;have aa:i<R.length:=by omega
 have:=List.all_eq_true.1 h.2 (R[i]) (List.getElem_mem aa);rw [List.getD_eq_getElem?_getD,List.getElem?_eq_getElem aa]
 simpa [inR] using this
theorem Qu0 (h:Qfs R):Qhm R=true:=by
 unfold Qhm;simp only [yB,decide_eq_true_eq];refine ⟨h.1,List.all_eq_true.2 fun x hx=>?_⟩;obtain ⟨i,hi,rfl⟩:=List.getElem_of_mem hx;have:=h.2 i (by rw [<- h.1];exact hi);rw [List.getD_eq_getElem?_getD,List.getElem?_eq_getElem hi] at this
 simpa [inR] using this
theorem Can.self (h:hlB E R=true):Can (R.length≠0) E (QhK R) E R:=by
 rcases QjM h with ⟨rfl,hu⟩ | ⟨aa,rfl⟩
 ·refine ⟨Qf8 hu,?_,fun _=>rfl,fun _ _=>⟨rfl,rfl⟩,fun q=>?_⟩
  ·exact Qoh
  ·rcases q with q | q
   ·exact absurd rfl q
   ·have:=(QiI h).1;omega
 ·have hp:QhK R=R:=Qji aa
  have hr:Qhm R=true:=by
   unfold hlB at h;rw [if_neg (by omega)] at h;simp only [yB] at h;exact h.2
  refine ⟨List.Pairwise.nil,by rw [hp];exact QtL hr,fun q=>absurd (by omega) q,fun q=>absurd (by omega) q,fun _=>⟨rfl,?_⟩⟩;rw [hp];exact Laid.start R (fun x hx=>by simp at hx)
theorem Can.right {g:Prop} (h:Can g U B E R):hlB E R=true:=by
 by_cases q:g∨40<U.length
 ·obtain ⟨rfl,b⟩:=h.many q
  have ok:=b.ok h.okB;unfold hlB;rw [if_neg (by rw [ok.1];omega),Qu0 ok];rfl
 ·have q2:U.length<=40:=by omega
  obtain ⟨rfl,rfl⟩:=h.few (fun x=>q (.inl x)) q2;unfold hlB exB;rw [if_pos (by rfl:([]:List Int).length=0),QdJ h.rise]
  simpa using q2
theorem Can.part {g:Prop} (h:Can g U B E R):∃ S:Int->Prop,Laid B S (QhK R)/\∀ x,x∈U↔S x∨x∈E:=by
 by_cases q:g∨40<U.length
 ·obtain ⟨rfl,b⟩:=h.many q
  exact ⟨(·∈U),by rw [Qji (b.ok h.okB).1];exact b,fun x=>by simp⟩
 ·have q2:U.length<=40:=by omega
  obtain ⟨rfl,rfl⟩:=h.few (fun x=>q (.inl x)) q2;refine ⟨fun _=>False,?_,fun x=>by simp⟩;rw [h.no (fun x=>q (.inl x))];exact Laid.start zer (fun _ x=>x)
theorem Qif {l m:List Int} (hl:l.Pairwise (· < ·)):∀ {k:List Int},k.Pairwise (· < ·)->(∀ x,x∈l->x∈k)->l.length<=k.length:=by
 intro k hk hs;have n:l.Nodup:=hl.imp fun h e=>by omega
 exact n.length_le_of_subset hs
theorem Qvb (a:Qfs A) (hR:R.length=0∨R.length=64):mxL A R R.length=mxx A (QhK R):=by
 rcases hR with h | h
 ·obtain rfl:=List.eq_nil_of_length_eq_zero h
  rw [List.length_nil,Qi8];exact (Qtm a).symm
 ·rw [h,Qji h];rfl
theorem mg_can (h1:Can g1 U1 B1 E1 R1) (h2:Can g2 U2 B2 E2 R2) (hM:Mg E1 R1 E2 R2 E R):Can (g1∨g2) (Qkp U1 U2) (mxx B1 B2) E R:=by
 have rise:=Qoy U2 U1 h1.rise;have ae:U1.length<=(Qkp U1 U2).length:=Qif (m:=[]) h1.rise rise fun x hx=>(QdT x U2 U1).2 (.inl hx);have ad:U2.length<=(Qkp U1 U2).length:=Qif (m:=[]) h2.rise rise fun x hx=>(QdT x U2 U1).2 (.inr hx);have aa:g1∨40<U1.length->R1.length=64:=fun q=>by obtain ⟨_,b⟩:=h1.many q;exact (b.ok h1.okB).1
 have ab:g2∨40<U2.length->R2.length=64:=fun q=>by obtain ⟨_,b⟩:=h2.many q;exact (b.ok h2.okB).1
 refine ⟨rise,mx_ok h1.okB h2.okB,fun q=>?_,fun q1 q2=>?_,fun q=>?_⟩
 ·rw [h1.no (fun x=>q (.inl x)),h2.no (fun x=>q (.inr x))];exact Qtm Qoh
 ·obtain ⟨rfl,rfl⟩:=h1.few (fun x=>q1 (.inl x)) (by omega)
  obtain ⟨rfl,rfl⟩:=h2.few (fun x=>q1 (.inr x)) (by omega);have e:QnG E1 E2=Qkp E1 E2:=Qmc (QdJ h1.rise) E2;rcases hM with ⟨_,_,_,a,b⟩ | ⟨a,_⟩
  ·exact ⟨a.trans e,b⟩
  ·exact absurd ⟨rfl,rfl,by rw [e];exact q2⟩ a
 ·rcases hM with ⟨a,b,c,_,_⟩ | ⟨a,rfl,c⟩
  ·have n1:¬ (g1∨40<U1.length):=fun q=>by have:=aa q;omega
   have n2:¬ (g2∨40<U2.length):=fun q=>by have:=ab q;omega
   obtain ⟨rfl,rfl⟩:=h1.few (fun x=>n1 (.inl x)) (by omega);obtain ⟨rfl,rfl⟩:=h2.few (fun x=>n2 (.inl x)) (by omega);rw [Qmc (QdJ h1.rise) E2] at c;rcases q with (q | q) | q
   ·exact absurd (.inl q) n1
   ·exact absurd (.inl q) n2
   ·omega
  ·obtain ⟨S1,l1,s1⟩:=h1.part
   obtain ⟨S2,l2,s2⟩:=h2.part;refine ⟨rfl,?_⟩;have ac:R2.length=0∨R2.length=64:=(QiI h2.right).2;rw [Qvb (l1.ok h1.okB) ac] at c;refine (Laid.two h1.okB h2.okB l1 l2 (fun x=>Iff.rfl)).trans c (fun x=>?_);rw [QdT,Qrm,s1 x,s2 x];constructor
   ·rintro ((h | h) | (h | h)) <;> simp [h]
   ·rintro ((h | h) | (h | h)) <;> simp [h]
theorem Can.hash (x:Int):Can False [x] zer [x] []:=⟨by simp,Qoh,fun _=>rfl,fun _ _=>⟨rfl,rfl⟩,fun q=>by rcases q with q | q;exact q.elim;simp at q⟩
theorem Qom (h1:Can g1 U1 B1 E1 R1) (h2:Can g2 U2 B2 E2 R2) (hM:Qn3 E1 R1 E2 R2 E R):Can (g1∨g2) (Qkp U1 U2) (mxx B1 B2) E R:=by
 unfold Qn3 at hM;rw [if_pos ⟨h1.right,h2.right⟩] at hM;exact mg_can h1 h2 hM
theorem Can.sub {g:Prop} (h:Can g U B E R):∀ x∈E,x∈U:=fun x hx=>by
 by_cases q:g∨40<U.length
 ·obtain ⟨rfl,_⟩:=h.many q;simp at hx
 ·obtain ⟨rfl,_⟩:=h.few (fun x=>q (.inl x)) (by omega);exact hx
theorem QjC (h:hlB E R=true) (k:hlB F S=true) (p:Qn3 E R F S A T):hlB A T=true:=(Qom (Can.self h) (Can.self k) p).right
theorem QtZ (u:∀ y∈E,U64 y) (v:∀ y∈F,U64 y) (p:Qn3 E R F S A T):∀ y∈A,U64 y:=by
 by_cases hb:hlB E R=true/\hlB F S=true
 ·intro y hy
  have:=(Qom (Can.self hb.1) (Can.self hb.2) p).sub y hy;rw [QdT] at this;exact this.elim (u y) (v y)
 ·unfold Qn3 at p
  rw [if_neg hb] at p;rw [p.1];intro y hy;simp at hy
end
section
def QfV (L:List Bn):Prop:=∀ (i j:Nat) (x y:Bn),L[i]?=some x->L[j]?=some y->i<j->x.1<y.1
end
variable {y:Bn}
section
def Qn7 (x:Bn):List Bn->List Bn
 | []=>[x]
 | y :: r=>if y.1<x.1 then y :: Qn7 x r else if y.1=x.1 then (y.1,Qbf y.2 x.2) :: r else x :: y :: r
theorem rise_cons {r:List Bn}:QfV (y :: r)↔(∀ x∈r,y.1<x.1)/\QfV r:=by
 constructor
 ·intro h
  refine ⟨fun x hx=>?_,fun i j a b ha hb aa=>h (i+1) (j+1) a b (by simpa using ha) (by simpa using hb) (by omega)⟩;obtain ⟨j,hj⟩:=List.getElem?_of_mem hx;exact h 0 (j+1) y x rfl (by simpa using hj) (by omega)
 ·rintro ⟨h1,h2⟩ i j a b ha hb aa
  cases i with
  | zero=>
   obtain rfl:y=a:=by simpa using ha
   cases j with
   | zero=>omega
   | succ j=>exact h1 b (List.mem_of_getElem? (by simpa using hb))
  | succ i=>
   cases j with
   | zero=>omega
   | succ j=>exact h2 i j a b (by simpa using ha) (by simpa using hb) (by omega)
theorem Qeu:QfV []:=fun i j a b ha=>by simp at ha
theorem Qpw {x:Bn}:∀ {L:List Bn} {z:Bn},z∈Qn7 x L->z=x∨z∈L∨∃ y∈L,y.1=x.1/\z=(y.1,Qbf y.2 x.2)
 | [],z,h=>by simp [Qn7] at h;exact .inl h
 | y :: r,z,h=>by
  unfold Qn7 at h
  split at h
  ·rcases List.mem_cons.1 h with rfl | h
   ·exact .inr (.inl (List.mem_cons_self ..))
   ·rcases Qpw h with h | h | ⟨q,hq,e,e2⟩
    ·exact .inl h
    ·exact .inr (.inl (ZZm _ h))
    ·exact .inr (.inr ⟨q,ZZm _ hq,e,e2⟩)
  ·split at h
   ·rename_i e
    rcases List.mem_cons.1 h with rfl | h
    ·exact .inr (.inr ⟨y,List.mem_cons_self ..,e,rfl⟩)
    ·exact .inr (.inl (ZZm _ h))
   ·rcases List.mem_cons.1 h with rfl | h
    ·exact .inl rfl
    ·exact .inr (.inl h)
theorem Qmg {x:Bn}:∀ {L:List Bn},QfV L->QfV (Qn7 x L)
 | [],_=>by rw [Qn7];exact rise_cons.2 ⟨fun z hz=>by simp at hz,Qeu⟩
 | y :: r,h=>by
  obtain ⟨h1,h2⟩:=rise_cons.1 h;unfold Qn7
  split
  ·rename_i hlt
   refine rise_cons.2 ⟨fun z hz=>?_,Qmg h2⟩;rcases Qpw hz with rfl | hz | ⟨q,hq,e,rfl⟩
   ·exact hlt
   ·exact h1 z hz
   ·exact h1 q hq
  ·split
   ·exact rise_cons.2 ⟨fun z hz=>h1 z hz,h2⟩
   ·refine rise_cons.2 ⟨fun z hz=>?_,h⟩
    rcases List.mem_cons.1 hz with rfl | hz
    ·omega
    ·have:=h1 z hz;omega
def Qo7 (L M:List Bn):List Bn:=M.foldl (fun s x=>Qn7 x s) L
theorem QgS:∀ {M L:List Bn},QfV L->QfV (Qo7 L M)
 | [],L,h=>h
 | x :: r,L,h=>QgS (M:=r) (Qmg h)
end
variable {L N P a b:List Bn}
section
theorem QeK {x:Bn} (h:∀ y∈b,x.1<y.1):mrg (x :: a) b=x :: mrg a b:=by
 cases b with
 | nil=>rw [Qb2,Qb2]
 | cons y r=>exact Qic (h y (List.mem_cons_self ..))
theorem QoZ {y:Bn} {M:List Bn} (hM:∀ z∈M,y.1<z.1):∀ P:List Bn,mrg (Qn7 y P) M=mrg P (y :: M)
 | []=>by rw [Qn7,Qdj,QeK hM,Qdj]
 | x :: r=>by
  unfold Qn7
  split
  ·rename_i h
   rw [Qic h,QeK (fun z hz=>by have:=hM z hz;omega),QoZ hM r]
  ·split
   ·rename_i h
    rw [QjX h,QeK (fun z hz=>by have:=hM z hz;show x.1<z.1;omega)]
   ·rw [QjD (by omega),QeK hM]
theorem Qh0:∀ {N P:List Bn},QfV N->Qo7 P N=mrg P N
 | [],P,_=>by rw [Qb2];rfl
 | y :: N,P,h=>by
  obtain ⟨h1,h2⟩:=rise_cons.1 h
  show Qo7 (Qn7 y P) N=_
  rw [Qh0 h2,QoZ h1]
end
section
def Qva (P N:List Bn) (v wt:Int):Prop:=skB P N=true/\(-999999999999999999<=v/\v<=999999999999999999)/\wt≠0
end
section
theorem QmH:∀ {L:List Bn} {q:Int},QbH q L=true->QfV L/\∀ x∈L,q<x.1
 | [],_,_=>⟨Qeu,fun x hx=>by simp at hx⟩
 | y :: r,q,h=>by
  simp only [QbH,yB,decide_eq_true_eq] at h;obtain ⟨⟨⟨h1,h2⟩,h3⟩,h4⟩:=h;obtain ⟨k1,k2⟩:=QmH h4;refine ⟨rise_cons.2 ⟨k2,k1⟩,fun x hx=>?_⟩;rcases List.mem_cons.1 hx with rfl | hx
  ·exact h1
  ·have:=k2 x hx;omega
theorem Qkw (h:QaT L=true):QfV L/\L.length<=30:=by
 unfold QaT at h;simp only [yB,decide_eq_true_eq] at h;exact ⟨(QmH h.2).1,h.1⟩
theorem QpV (h:skB P N=true):(QfV P/\P.length<=30)/\QfV N/\N.length<=30:=by
 unfold skB at h;simp only [yB] at h;exact ⟨Qkw h.1,Qkw h.2⟩
theorem Qsf (x:Bn):QfV [x]:=rise_cons.2 ⟨fun y hy=>by simp at hy,Qeu⟩
end
variable {g g' o:Ag}
variable {a' m n t t' v:Int}
section
def QiS (a t a' t':Int):Bool:=decide (t<t') || ((t' == t) && decide (a<a'))
def gA (a t a' t':Int):Int:=if QiS a t a' t'=true then a' else a
def gT (a t a' t':Int):Int:=if QiS a t a' t'=true then t' else t
def QuA (g g':Ag) (E R:List Int):Ag:=⟨g.k,Qbf g.s g'.s,QeN g.h g.l g'.h g'.l,Qfe g.l g'.l,if g.k=2 then gA g.a g.t g'.a g'.t else 0,if g.k=2 then gT g.a g.t g'.a g'.t else 0,Qbf g.z g'.z,Qbl (mrg g.P g'.P),Qbl (mrg g.N g'.N),QeN g.x g.y g'.x g'.y,Qfe g.y g'.y,E,R⟩
def AgMrg (g g' o:Ag):Prop:=if agB g=true/\agB g'=true/\g.k=g'.k then ∃ E R,Mg g.E g.R g'.E g'.R E R/\o=QuA g g' E R else o=Qgt
structure AgNo (g:Ag):Prop where
 k1:1<=g.k
 k4:g.k<=4
 sk:skB g.P g.N=true
 hl:hlB g.E g.R=true
 nc:g.k≠1->g.h=0/\g.l=0
 ng:g.k≠2->g.a=0/\g.t=0
 nh:g.k≠3->g.z=0/\g.x=0/\g.y=0/\g.P=[]/\g.N=[]
 ns:g.k≠4->g.E=[]/\g.R=[]
theorem QbG (h:agB g=true):AgNo g:=by
 unfold agB at h;simp only [yB,Bool.or_eq_true,decide_eq_true_eq,beq_iff_eq,Qcb,Qfu] at h;obtain ⟨⟨⟨⟨⟨⟨⟨h1,h2⟩,h3⟩,h4⟩,h5⟩,h6⟩,h7⟩,h8⟩:=h;refine ⟨h1,h2,h3,h4,fun n=>?_,fun n=>?_,fun n=>?_,fun n=>?_⟩
 ·rcases h5 with h | h
  ·exact absurd h n
  ·simpa [Qhl] using h
 ·rw [if_neg n] at h8;simpa using h8
 ·exact h6.elim (fun e=>absurd e n) id
 ·exact h7.elim (fun e=>absurd e n) id
theorem QmJ:Mg [] [] [] [] [] []:=.inl ⟨rfl,rfl,by simp [QnG,Qkp],rfl,rfl⟩
theorem QeO:Qbl (mrg [] [])=[]:=by simp [mrg,Qbl]
theorem Qf2:Qbf 0 0=0:=by decide
theorem QdQ:QeN 0 0 0 0=0:=by decide +kernel
theorem QdI:Qfe 0 0=0:=by decide
theorem mrgC (h:agB g=true) (h':agB g'=true) (e:g.k=g'.k) (k:g.k=1):AgMrg g g' ⟨1,Qbf g.s g'.s,QeN g.h g.l g'.h g'.l,Qfe g.l g'.l,0,0,0,[],[],0,0,[],[]⟩:=by
 have n:=QbG h;have n':=QbG h';unfold AgMrg;rw [if_pos ⟨h,h',e⟩];obtain ⟨a1,a2,a3,a4,a5⟩:=n.nh (by omega);obtain ⟨b1,b2,b3,b4,b5⟩:=n'.nh (by omega);obtain ⟨c1,c2⟩:=n.ns (by omega);obtain ⟨d1,d2⟩:=n'.ns (by omega);refine ⟨[],[],by rw [c1,c2,d1,d2];exact QmJ,?_⟩;unfold QuA;rw [if_neg (by omega),if_neg (by omega),a1,a2,a3,a4,a5,b1,b2,b3,b4,b5,k,QeO,Qf2,QdQ,QdI]
theorem mrgG (h:agB g=true) (h':agB g'=true) (e:g.k=g'.k) (k:g.k=2):AgMrg g g' ⟨2,Qbf g.s g'.s,0,0,gA g.a g.t g'.a g'.t,gT g.a g.t g'.a g'.t,0,[],[],0,0,[],[]⟩:=by
 have n:=QbG h;have n':=QbG h';unfold AgMrg;rw [if_pos ⟨h,h',e⟩];obtain ⟨a1,a2,a3,a4,a5⟩:=n.nh (by omega);obtain ⟨b1,b2,b3,b4,b5⟩:=n'.nh (by omega);obtain ⟨c1,c2⟩:=n.ns (by omega);obtain ⟨d1,d2⟩:=n'.ns (by omega);obtain ⟨e1,e2⟩:=n.nc (by omega);obtain ⟨f1,f2⟩:=n'.nc (by omega);refine ⟨[],[],by rw [c1,c2,d1,d2];exact QmJ,?_⟩;unfold QuA;rw [if_pos k,if_pos k,a1,a2,a3,a4,a5,b1,b2,b3,b4,b5,e1,e2,f1,f2,k,QeO,Qf2,QdQ,QdI]
theorem mrgH (h:agB g=true) (h':agB g'=true) (e:g.k=g'.k) (k:g.k=3):AgMrg g g' ⟨3,Qbf g.s g'.s,0,0,0,0,Qbf g.z g'.z,Qbl (mrg g.P g'.P),Qbl (mrg g.N g'.N),QeN g.x g.y g'.x g'.y,Qfe g.y g'.y,[],[]⟩:=by
 have n:=QbG h;have n':=QbG h';unfold AgMrg;rw [if_pos ⟨h,h',e⟩];obtain ⟨c1,c2⟩:=n.ns (by omega);obtain ⟨d1,d2⟩:=n'.ns (by omega);obtain ⟨e1,e2⟩:=n.nc (by omega);obtain ⟨f1,f2⟩:=n'.nc (by omega);refine ⟨[],[],by rw [c1,c2,d1,d2];exact QmJ,?_⟩;unfold QuA;rw [if_neg (by omega),if_neg (by omega),e1,e2,f1,f2,k,QdQ,QdI]
theorem mrgS (h:agB g=true) (h':agB g'=true) (e:g.k=g'.k) (k:g.k=4) (m:Qn3 g.E g.R g'.E g'.R E R):AgMrg g g' ⟨4,Qbf g.s g'.s,0,0,0,0,0,[],[],0,0,E,R⟩:=by
 have n:=QbG h;have n':=QbG h';unfold AgMrg;rw [if_pos ⟨h,h',e⟩];obtain ⟨a1,a2,a3,a4,a5⟩:=n.nh (by omega);obtain ⟨b1,b2,b3,b4,b5⟩:=n'.nh (by omega);obtain ⟨e1,e2⟩:=n.nc (by omega);obtain ⟨f1,f2⟩:=n'.nc (by omega);unfold Qn3 at m;rw [if_pos ⟨n.hl,n'.hl⟩] at m;refine ⟨E,R,m,?_⟩;unfold QuA;rw [if_neg (by omega),if_neg (by omega),a1,a2,a3,a4,a5,b1,b2,b3,b4,b5,e1,e2,f1,f2,k,QeO,Qf2,QdQ,QdI]
theorem QiL {a:Int} (h:QiS a t a' t'=true):gA a t a' t'=a'/\gT a t a' t'=t':=⟨if_pos h,if_pos h⟩
theorem QmL {a:Int} (h:¬ QiS a t a' t'=true):gA a t a' t'=a/\gT a t a' t'=t:=⟨if_neg h,if_neg h⟩
end
section
def Qcv (k:Int):Ag:=if 1<=k/\k<=4 then ⟨k,0,0,0,0,if k=2 then -1 else 0,0,[],[],0,0,[],[]⟩ else ⟨0,0,0,0,0,0,0,[],[],0,0,[],[]⟩
abbrev Qm0 (kd t:Int):Value:=.agg #[.int .i64 kd,.int .u64 0,.int .i64 0,.int .u64 0,.int .i64 0,.int .i64 t,.int .u64 0,.slice none 0 0,.slice none 0 0,.int .i64 0,.int .u64 0,.slice none 0 0,.slice none 0 0]
theorem Qfn (n lo hi:Int) (w:World):Calls prog 33 #[.int .i64 n,.int .i64 lo,.int .i64 hi] w fun e w'=>e=.returned (.bool (decide (lo<=n) && decide (n<=hi)))/\w'=w:=by
 by_cases h1:lo<=n <;> by_cases h2:n<=hi <;> (go_enter func33,ntmps33;go_wp2;go_ret;exact ⟨by simp [h1,h2],rfl⟩)
theorem Qnl (k:Int) (w:World):Calls prog 57 #[.int .i64 k] w fun e w'=>e=.returned (Qm0 (Qcv k).k (Qcv k).t)/\Bw w w':=by
 by_cases aa:1<=k/\k<=4
 ·have hb:(decide (1<=k) && decide (k<=4))=true:=by simp [aa.1,aa.2]
  by_cases h2:k=2
  ·have HE:Hid ((Qcv k).k=k/\(Qcv k).t=-1):=by unfold Qcv;rw [if_pos aa];exact ⟨rfl,by simp [h2]⟩
   have b2:(k == 2)=true:=by simp [h2]
   clear aa h2;go_enter func57,ntmps57;go_wp2_with (go_at_call 33;refine (Qfn _ _ _ _).mono ?_;rintro e w1 ⟨rfl,hw⟩;subst hw;rw [hb]);exact bodyPost_ret (v:=Qm0 k (-1)) (by simp [results,results57,go_sem]) rfl ⟨by rw [HE.1,HE.2],((Below.refl _ _).alloc (Nat.le_refl _) _).alloc (by simp) _⟩
  ·have HE:Hid ((Qcv k).k=k/\(Qcv k).t=0):=by unfold Qcv;rw [if_pos aa];exact ⟨rfl,by simp [h2]⟩
   have b2:(k == 2)=false:=ZZf.2 h2;clear aa h2;go_enter func57,ntmps57;go_wp2_with (go_at_call 33;refine (Qfn _ _ _ _).mono ?_;rintro e w1 ⟨rfl,hw⟩;subst hw;rw [hb]);exact bodyPost_ret (v:=Qm0 k 0) (by simp [results,results57,go_sem]) rfl ⟨by rw [HE.1,HE.2],((Below.refl _ _).alloc (Nat.le_refl _) _).alloc (by simp) _⟩
 ·have hb:(decide (1<=k) && decide (k<=4))=false:=by
   rw [Bool.eq_false_iff];intro hh;simp at hh;exact aa hh
  have HE:Hid ((Qcv k).k=0/\(Qcv k).t=0):=by unfold Qcv;rw [if_neg aa];exact ⟨rfl,rfl⟩
  clear aa;go_enter func57,ntmps57;go_wp2_with (go_at_call 33;refine (Qfn _ _ _ _).mono ?_;rintro e w1 ⟨rfl,hw⟩;subst hw;rw [hb]);exact bodyPost_ret (v:=Qm0 0 0) (by simp [results,results57,go_sem]) rfl ⟨by rw [HE.1,HE.2],(Below.refl _ _).alloc (Nat.le_refl _) _⟩
end
section
def QkX (t:Int):Int:=if 18446744073709551615<t then 18446744073709551615 else t
def QlP (L:List Bn):Int:=(L.map (fun x=>x.2)).sum
theorem Qsx (a b:Int):Qbf a b=QkX (a+b):=rfl
theorem Qup {a b:Int} (ha:0<=a) (hb:0<=b):QkX (QkX a+b)=QkX (a+b):=by
 unfold QkX
 split <;> split <;> omega
theorem Qev (x:Bn) (L:List Bn):QlP (x :: L)=x.2+QlP L:=by simp [QlP]
theorem QrA:QlP []=0:=rfl
theorem QrH (a b:List Bn):QlP (a ++ b)=QlP a+QlP b:=by simp [QlP,List.sum_append]
theorem Qi5:∀ {L:List Bn},(∀ x∈L,Qci x)->0<=QlP L
 | [],_=>by simp [QlP]
 | x :: L,h=>by
  rw [Qev];have h1:=(h x (List.mem_cons_self ..)).2.1;have h2:=Qi5 (L:=L) (fun y hy=>h y (ZZm _ hy));omega
theorem Qkk:∀ {L:List Bn} {x:Int},0<=x->(∀ y∈L,Qci y)->Qdp (QkX x) L=QkX (x+QlP L)
 | [],x,hx,_=>by simp [Qdp,QlP]
 | y :: L,x,hx,h=>by
  have h1:=(h y (List.mem_cons_self ..)).2.1
  show Qdp (Qbf (QkX x) y.2) L=_
  rw [Qsx,Qup hx h1,Qkk (by omega) (fun z hz=>h z (List.mem_cons_of_mem _ hz)),Qev,Int.add_assoc]
def Qto (m:Int) (L:List Bn):List Bn:=L.filter (fun x=>decide (x.1<=m))
def Qk0 (m:Int) (L:List Bn):List Bn:=L.filter (fun x=>decide (m<x.1))
theorem QqH {x:Bn} (h:x.1<=m):Qto m (x :: L)=x :: Qto m L:=by simp [Qto,h]
theorem Qpb {x:Bn} (h:x.1<=m):Qk0 m (x :: L)=Qk0 m L:=List.filter_cons_of_neg (by simp;omega)
theorem Qsz (h:∀ x∈L,m<x.1):Qk0 m L=L:=List.filter_eq_self.2 (fun x hx=>ZZh (h x hx))
theorem QsG (h:∀ x∈L,m<x.1):Qto m L=[]:=List.filter_eq_nil_iff.2 (fun x hx=>by have:=h x hx;simp;omega)
theorem Qm9:∀ (n:Nat) (a b:List Bn),a.length+b.length<=n->(∀ x∈a,Qci x)->(∀ x∈b,Qci x)->∀ x∈mrg a b,Qci x
 | _,[],b,_,_,kb=>by rw [Qdj];exact kb
 | _,y :: a,[],_,ka,_=>by rw [Qb2];exact ka
 | 0,y :: a,z :: b,h,_,_=>by simp at h
 | n+1,y :: a,z :: b,h,ka,kb=>by
  simp only [List.length_cons] at h;have ka':∀ x∈a,Qci x:=fun u hu=>ka u (ZZm _ hu);have kb':∀ x∈b,Qci x:=fun u hu=>kb u (ZZm _ hu);have uy:=ka y (List.mem_cons_self ..);have uz:=kb z (List.mem_cons_self ..);intro x hx;rcases Int.lt_trichotomy y.1 z.1 with c | c | c
  ·rw [Qic c] at hx
   rcases List.mem_cons.1 hx with rfl | hx
   ·exact uy
   ·exact Qm9 n a (z :: b) (by simp only [List.length_cons];omega) ka' kb x hx
  ·rw [QjX c] at hx
   rcases List.mem_cons.1 hx with rfl | hx
   ·exact ⟨uy.1,QiP uy.2 uz.2⟩
   ·exact Qm9 n a b (by omega) ka' kb' x hx
  ·rw [QjD c] at hx
   rcases List.mem_cons.1 hx with rfl | hx
   ·exact uz
   ·exact Qm9 n (y :: a) b (by simp only [List.length_cons];omega) ka kb' x hx
theorem Qs7 (h:∀ x∈L,Qci x):∀ x∈Qto m L,Qci x:=fun x hx=>h x (List.mem_filter.1 hx).1
theorem QtB (h:∀ x∈L,Qci x):∀ x∈Qk0 m L,Qci x:=fun x hx=>h x (List.mem_filter.1 hx).1
theorem Qkc:∀ {L:List Bn} {k:Nat} {x:Bn},QfV L->L[k]?=some x->Qto x.1 L=L.take (k+1)/\Qk0 x.1 L=L.drop (k+1)
 | [],k,x,_,h=>by simp at h
 | y :: r,0,x,hr,h=>by
  obtain rfl:y=x:=by simpa using h
  have hc:=rise_cons.1 hr;rw [QqH (Int.le_refl _),Qpb (Int.le_refl _),QsG hc.1,Qsz hc.1];simp
 | y :: r,k+1,x,hr,h=>by
  have hc:=rise_cons.1 hr;have hx:r[k]?=some x:=by simpa using h
  have aa:=hc.1 x (ZZn hx);obtain ⟨h1,h2⟩:=Qkc hc.2 hx;rw [QqH (by omega),Qpb (by omega),h1,h2];simp
theorem Qm1 (hr:QfV L) (hk:∀ x∈L,Qci x) (h:30<L.length) :
  ∃ m,(∃ y∈L,y.1=m)/\Qbl L=(m,QkX (QlP (Qto m L))) :: Qk0 m L/\(Qk0 m L).length=29:=by
 obtain ⟨x,hx⟩:∃ x,L[L.length - 30]?=some x:=⟨L[L.length - 30]'(by omega),ZZe _⟩;obtain ⟨h1,h2⟩:=Qkc hr hx;refine ⟨x.1,⟨x,List.mem_of_getElem? hx,rfl⟩,?_,by rw [h2,List.length_drop];omega⟩
 have hd:L.drop (L.length - 30)=x :: L.drop (L.length - 30+1):=by
  rw [List.drop_eq_getElem_cons (by omega),(List.getElem?_eq_some_iff.1 hx).2]
 unfold Qbl;rw [if_neg (by omega),hd];simp only;rw [h1,h2];have ux:=(hk x (ZZn hx)).2;have e0:x.2=QkX x.2:=by unfold QkX;unfold U64 at ux;split <;> omega
 have e1:L.take (L.length - 30+1)=L.take (L.length - 30) ++ [x]:=by rw [List.take_add_one,hx];rfl
 rw [e1,QrH,Qev,QrA]
 congr 2
 have:=Qkk (x:=x.2) (L:=L.take (L.length - 30)) ux.1 (fun y hy=>hk y (ZZo hy));rw [<- e0] at this;rw [this]
 congr 1;omega
end
section
theorem QlZ (ha:QfV a) (hb:QfV b):QfV (mrg a b):=by rw [<- Qh0 hb];exact QgS ha
theorem Qei (p:Bn->Bool):∀ {L:List Bn},QfV L->QfV (L.filter p)
 | [],_=>Qeu
 | y :: r,h=>by
  have hc:=rise_cons.1 h;by_cases k:p y=true
  ·rw [List.filter_cons_of_pos k]
   exact rise_cons.2 ⟨fun x hx=>hc.1 x (List.mem_filter.1 hx).1,Qei p hc.2⟩
  ·rw [List.filter_cons_of_neg k]
   exact Qei p hc.2
theorem cap_in (h:0<=t):U64 (QkX t):=by unfold QkX U64;split <;> omega
theorem Qoa (hr:QfV L) (hk:∀ x∈L,Qci x):QfV (Qbl L)/\∀ x∈Qbl L,Qci x:=by
 by_cases c:30<L.length
 ·obtain ⟨m,⟨y,hy,ey⟩,e,h2⟩:=Qm1 hr hk c
  rw [e];refine ⟨rise_cons.2 ⟨fun x hx=>of_decide_eq_true (List.mem_filter.1 hx).2,Qei _ hr⟩,fun x hx=>?_⟩;rcases List.mem_cons.1 hx with rfl | hx
  ·exact ⟨by show I64 m;rw [<- ey];exact (hk y hy).1,cap_in (Qi5 (Qs7 hk))⟩
  ·exact QtB hk x hx
 ·unfold Qbl;rw [if_pos (by omega)];exact ⟨hr,hk⟩
end
section
def BnR (x:Bn):Prop:=0<x.1/\x.1<=6878/\x.2≠0
theorem QjG:∀ {L:List Bn} {q:Int},QbH q L=true↔QfV L/\∀ x∈L,q<x.1/\x.1<=6878/\x.2≠0
 | [],q=>⟨fun _=>⟨Qeu,fun x hx=>by simp at hx⟩,fun _=>rfl⟩
 | y :: r,q=>by
  simp only [QbH,yB,decide_eq_true_eq,QjG (L:=r)];constructor
  ·rintro ⟨⟨⟨h1,h2⟩,h3⟩,h4,h5⟩
   refine ⟨rise_cons.2 ⟨fun x hx=>(h5 x hx).1,h4⟩,fun x hx=>?_⟩;rcases List.mem_cons.1 hx with rfl | hx
   ·exact ⟨h1,h2,h3⟩
   ·have:=h5 x hx;exact ⟨by omega,this.2⟩
  ·rintro ⟨h1,h2⟩
   have h0:=h2 y List.mem_cons_self;exact ⟨⟨⟨h0.1,h0.2.1⟩,h0.2.2⟩,(rise_cons.1 h1).2,fun x hx=>⟨(rise_cons.1 h1).1 x hx,(h2 x (ZZm _ hx)).2⟩⟩
theorem binsB_iff:QaT L=true↔L.length<=30/\QfV L/\∀ x∈L,BnR x:=by
 unfold QaT BnR;simp only [yB,decide_eq_true_eq,QjG]
theorem QuG {a b:Int} (ha:U64 a) (hb:U64 b) (h:a≠0):Qbf a b≠0:=by unfold Qbf;unfold U64 at *; split <;> omega
theorem mrg_R (ka:∀ x∈a,Qci x) (kb:∀ x∈b,Qci x) (ha:∀ x∈a,BnR x) (hb:∀ x∈b,BnR x):∀ z∈mrg a b,BnR z:=by
 induction a,b using mrg.induct with
 | case1 b=>rw [Qdj];exact hb
 | case2 x a=>rw [Qb2];exact ha
 | case3 x a y b h ih=>
  rw [Qic h];intro z hz;rcases List.mem_cons.1 hz with rfl | hz
  ·exact ha _ List.mem_cons_self
  ·exact ih (fun u hu=>ka u (ZZm _ hu)) kb (fun u hu=>ha u (ZZm _ hu)) hb z hz
 | case4 x a y b h h' ih=>
  rw [QjD h'];intro z hz;rcases List.mem_cons.1 hz with rfl | hz
  ·exact hb _ List.mem_cons_self
  ·exact ih ka (fun u hu=>kb u (ZZm _ hu)) ha (fun u hu=>hb u (ZZm _ hu)) z hz
 | case5 x a y b h h' ih=>
  rw [QjX (by omega)];intro z hz;rcases List.mem_cons.1 hz with rfl | hz
  ·have h1:=ha x List.mem_cons_self
   exact ⟨h1.1,h1.2.1,QuG (ka x List.mem_cons_self).2 (kb y List.mem_cons_self).2 h1.2.2⟩
  ·exact ih (fun u hu=>ka u (ZZm _ hu)) (fun u hu=>kb u (ZZm _ hu)) (fun u hu=>ha u (ZZm _ hu)) (fun u hu=>hb u (ZZm _ hu)) z hz
theorem QtU (hk:∀ x∈L,Qci x) (hy:y∈L):y.2<=QlP L:=by
 induction L with
 | nil=>simp at hy
 | cons x r ih=>
  have h0:=Qi5 (fun z hz=>hk z (ZZm _ hz));have h1:=(hk x List.mem_cons_self).2.1;rw [Qev];rcases List.mem_cons.1 hy with rfl | hy
  ·omega
  ·have:=ih (fun z hz=>hk z (ZZm _ hz)) hy;omega
theorem keep_R (hr:QfV L) (hk:∀ x∈L,Qci x) (hR:∀ x∈L,BnR x):∀ x∈Qbl L,BnR x:=by
 by_cases h:30<L.length
 ·obtain ⟨m,⟨y,hy,rfl⟩,e,_⟩:=Qm1 hr hk h
  rw [e];intro x hx;have h1:=hR y hy;rcases List.mem_cons.1 hx with rfl | hx
  ·have aa:y∈Qto y.1 L:=List.mem_filter.2 ⟨hy,ZZh (Int.le_refl _)⟩
   have h2:=QtU (Qs7 (m:=y.1) hk) aa;have h3:=(hk y hy).2.1;have h4:=h1.2.2;exact ⟨h1.1,h1.2.1,by show QkX _≠0;unfold QkX;split <;> omega⟩
  ·exact hR x (List.mem_filter.1 hx).1
 ·have:Qbl L=L:=by unfold Qbl;rw [if_pos (by omega)]
  rw [this];exact hR
theorem Qn6 (L:List Bn):(Qbl L).length<=30:=by
 unfold Qbl
 split
 ·assumption
 ·have hd:(L.drop (L.length - 30)).length=30:=by rw [List.length_drop];omega
  split
  ·rename_i h;rw [h] at hd;simp at hd
  ·rename_i h;rw [h] at hd;simp at hd ⊢; omega
theorem Qgh {A B:List Bn} (hA:QaT A=true) (hB:QaT B=true) (kA:∀ x∈A,Qci x) (kB:∀ x∈B,Qci x):QaT (Qbl (mrg A B))=true/\∀ x∈Qbl (mrg A B),Qci x:=by
 obtain ⟨_,a2,a3⟩:=binsB_iff.1 hA;obtain ⟨_,b2,b3⟩:=binsB_iff.1 hB;have kM:=Qm9 _ A B (ZZa _) kA kB;have g:=Qoa (QlZ a2 b2) kM;exact ⟨binsB_iff.2 ⟨Qn6 _,g.1,keep_R (QlZ a2 b2) kM (mrg_R kA kB a3 b3)⟩,g.2⟩
theorem skB_and:skB P N=true↔QaT P=true/\QaT N=true:=by unfold skB;simp
theorem sk_mrg {P' N':List Bn} (h:skB P N=true) (h':skB P' N'=true) (kP:∀ x∈P,Qci x) (kN:∀ x∈N,Qci x) (kP':∀ x∈P',Qci x) (kN':∀ x∈N',Qci x) :
  skB (Qbl (mrg P P')) (Qbl (mrg N N'))=true:=
 skB_and.2 ⟨(Qgh (skB_and.1 h).1 (skB_and.1 h').1 kP kP').1,(Qgh (skB_and.1 h).2 (skB_and.1 h').2 kN kN').1⟩
end
section
structure T5 where
 z:Int
 P:List Bn
 N:List Bn
 h:Int
 l:Int
def T5.M (a b:T5):T5:=⟨Qbf a.z b.z,Qbl (mrg a.P b.P),Qbl (mrg a.N b.N),QeN a.h a.l b.h b.l,Qfe a.l b.l⟩
structure T5.Ok (a:T5):Prop where
 hz:U64 a.z
 hl:U64 a.l
 kP:∀ x∈a.P,Qci x
 kN:∀ x∈a.N,Qci x
structure T5.Good (a:T5):Prop extends T5.Ok a where
 sk:skB a.P a.N=true
def Qss (v w:Int):T5:=⟨if v=0 then w else 0,if 0<v then [(QdC v,w)] else [],if v<0 then [(QdC (-v),w)] else [],thH v w,thL v w⟩
theorem Quk {v:Nat} (h:1<=v):1<=Qde v:=by
 unfold Qde;split <;> omega
theorem binI_1 (h:1<=v) (h2:v<=999999999999999999):1<=QdC v:=by
 rw [Qgc h h2];have:=Quk (v:=v.toNat) (by omega);omega
theorem QjR:QaT []=true:=by decide
theorem Qkg {w:Int} (h:1<=v) (h2:v<=999999999999999999) (hw:w≠0):QaT [(QdC v,w)]=true:=by
 refine binsB_iff.2 ⟨by simp,Qsf _,fun x hx=>?_⟩;obtain rfl:=List.mem_singleton.1 hx;exact ⟨by have:=binI_1 h h2;show 0<QdC v;omega,(QiV v).2,hw⟩
theorem Qp7 {w:Int} (hw:U64 w):∀ x∈[(QdC v,w)],Qci x:=fun x hx=>by
 obtain rfl:=List.mem_singleton.1 hx;have:=QiV v;exact ⟨by show I64 (QdC v);unfold I64;omega,hw⟩
theorem Qmy {w:Int} (hv:-999999999999999999<=v/\v<=999999999999999999) (hw:U64 w) (h0:w≠0):(Qss v w).Good:=by
 refine ⟨⟨?_,Qjz _,?_,?_⟩,?_⟩
 ·show U64 (if v=0 then w else 0);split
  ·exact hw
  ·unfold U64;omega
 ·show ∀ x∈(if 0<v then [(QdC v,w)] else []),Qci x;split
  ·exact Qp7 hw
  ·intro x hx;simp at hx
 ·show ∀ x∈(if v<0 then [(QdC (-v),w)] else []),Qci x;split
  ·exact Qp7 hw
  ·intro x hx;simp at hx
 ·show skB (if 0<v then [(QdC v,w)] else []) (if v<0 then [(QdC (-v),w)] else [])=true
  refine skB_and.2 ⟨?_,?_⟩
  ·split
   ·exact Qkg (by omega) (by omega) h0
   ·exact QjR
  ·split
   ·exact Qkg (by omega) (by omega) h0
   ·exact QjR
theorem QjT (h:P.length<=30):Qbl P=P:=by unfold Qbl;rw [if_pos h]
theorem wAdd_0 {z:Int} (h:U64 z):Qbf z 0=z:=by unfold Qbf;unfold U64 at h;rw [if_neg (by omega),Int.add_zero]
structure PutIs (a b:T5) (v w:Int):Prop where
 yes:Qva a.P a.N v w->b=⟨Qn0 a.z v w,QeG a.P v w,QeE a.N v w,QeN a.h a.l (thH v w) (thL v w),Qfe a.l (thL v w)⟩
 no:¬ Qva a.P a.N v w->b=a
theorem PutIs.M {a b:T5} {w:Int} (h:PutIs a b v w) (ha:a.Ok) (ok:Qva a.P a.N v w):b=a.M (Qss v w):=by
 rw [h.yes ok];have r:=QpV ok.1;unfold T5.M Qss Qn0 QeG QeE;dsimp only
 congr 1
 ·split
  ·rfl
  ·rw [wAdd_0 ha.hz]
 ·split
  ·rfl
  ·rw [Qb2,QjT r.1.2]
 ·split
  ·rfl
  ·rw [Qb2,QjT r.2.2]
end
variable {x:Sx}
variable {s:ByteArray}
section
theorem Qnz (h:Qbn s=true):s.size<=40:=by
 unfold Qbn at h;simp only [yB,decide_eq_true_eq] at h;omega
def QhI (x:Sx):Ag:=
 if x.k=1 then ⟨1,1,thH x.v x.wt,thL x.v x.wt,0,0,0,[],[],0,0,[],[]⟩
 else if x.k=2 then ⟨2,1,0,0,x.v,x.ti,0,[],[],0,0,[],[]⟩
 else if x.k=3 then ⟨3,1,0,0,0,0,(Qss x.v x.wt).z,(Qss x.v x.wt).P,(Qss x.v x.wt).N,thH x.v x.wt,thL x.v x.wt,[],[]⟩
 else ⟨4,1,0,0,0,0,0,[],[],0,0,[QbB x.wd],[]⟩
theorem QbR (h:x.B=true):(1<=x.k/\x.k<=4)/\(-999999999999999999<=x.v/\x.v<=999999999999999999)/\x.wt≠0/\(0<=x.ti/\x.ti<=1000000000)/\x.wd.size<=40:=by
 unfold Sx.B QbK at h;simp only [yB] at h;obtain ⟨⟨⟨⟨h1,_⟩,h2⟩,h3⟩,h4⟩:=h;unfold Qim at h1;simp only [yB,decide_eq_true_eq] at h1
 have a2:(-999999999999999999<=x.v/\x.v<=999999999999999999)/\x.wd.size<=40:=by
  unfold Qjw at h2
  split at h2
  ·simp only [yB,decide_eq_true_eq] at h2
   exact ⟨by omega,Qnz h2.2⟩
  ·unfold Qs5 at h2
   simp only [yB,decide_eq_true_eq] at h2;exact ⟨h2.1,by omega⟩
 have a3:x.wt≠0:=by
  unfold Qc1 at h3;simp only [yB,Bool.or_eq_true,decide_eq_true_eq] at h3;omega
 have a4:0<=x.ti/\x.ti<=1000000000:=by
  unfold Qhc at h4
  split at h4
  ·simpa using h4
  ·simp only [decide_eq_true_eq] at h4;omega
 exact ⟨h1,a2.1,a3,a4,a2.2⟩
theorem QhO (h:x.B=true):(QhI x).k=x.k:=by
 have p:=(QbR h).1;unfold QhI
 split
 ·show (1:Int)=x.k;omega
 split
 ·show (2:Int)=x.k;omega
 split
 ·show (3:Int)=x.k;omega
 ·show (4:Int)=x.k;omega
theorem Qcn (ok:x.Ok) (h:x.B=true):agB (QhI x)=true:=by
 obtain ⟨p1,p2,p3,p4,p5⟩:=QbR h;unfold QhI
 split
 ·simp [agB,Qff,Qfm,noS,Qbb,noH]
 split
 ·have:Qc6 ⟨2,1,0,0,x.v,x.ti,0,[],[],0,0,[],[]⟩=true:=by
   unfold Qc6 Qn4;simp only [yB,Bool.or_eq_true,decide_eq_true_eq];omega
  simp [agB,Qff,Qfm,noS,Qbb,noH,Qhl,this]
 split
 ·have g:=(Qmy p2 ok.wt p3).sk
  simp [agB,g,Qfm,noS,Qbb,noH,Qhl]
 ·have:hlB [QbB x.wd] []=true:=(Can.hash _).right
  simp [agB,Qff,this,noS,Qbb,noH,Qhl]
def QbD (g:Ag) (x:Sx) (o:Ag):Prop:=if agB g=true/\x.B=true/\g.k=x.k then AgMrg g (QhI x) o else o=g
section
variable {g:Ag} {x:Sx} (ok:x.Ok) (hg:agB g=true) (hx:x.B=true) (e:g.k=x.k)
include ok hg hx e
theorem putC (k:g.k=1):QbD g x ⟨1,Qbf g.s 1,QeN g.h g.l (thH x.v x.wt) (thL x.v x.wt),Qfe g.l (thL x.v x.wt),0,0,0,[],[],0,0,[],[]⟩:=by
 unfold QbD;rw [if_pos ⟨hg,hx,e⟩];have:=mrgC hg (Qcn ok hx) (e.trans (QhO hx).symm) k;have e1:QhI x=⟨1,1,thH x.v x.wt,thL x.v x.wt,0,0,0,[],[],0,0,[],[]⟩:=by unfold QhI;rw [if_pos (by omega)]
 rw [e1] at this ⊢;exact this
theorem putG (k:g.k=2):QbD g x ⟨2,Qbf g.s 1,0,0,gA g.a g.t x.v x.ti,gT g.a g.t x.v x.ti,0,[],[],0,0,[],[]⟩:=by
 unfold QbD;rw [if_pos ⟨hg,hx,e⟩];have:=mrgG hg (Qcn ok hx) (e.trans (QhO hx).symm) k;have e1:QhI x=⟨2,1,0,0,x.v,x.ti,0,[],[],0,0,[],[]⟩:=by unfold QhI;rw [if_neg (by omega),if_pos (by omega)]
 rw [e1] at this ⊢;exact this
theorem putHs (k:g.k=3) (go:AgOk g):QbD g x ⟨3,Qbf g.s 1,0,0,0,0,Qn0 g.z x.v x.wt,QeG g.P x.v x.wt,QeE g.N x.v x.wt,QeN g.x g.y (thH x.v x.wt) (thL x.v x.wt),Qfe g.y (thL x.v x.wt),[],[]⟩:=by
 unfold QbD;rw [if_pos ⟨hg,hx,e⟩];obtain ⟨p1,p2,p3,p4,p5⟩:=QbR hx;have hm:=mrgH hg (Qcn ok hx) (e.trans (QhO hx).symm) k;have e1:QhI x=⟨3,1,0,0,0,0,(Qss x.v x.wt).z,(Qss x.v x.wt).P,(Qss x.v x.wt).N,thH x.v x.wt,thL x.v x.wt,[],[]⟩:=by unfold QhI;rw [if_neg (by omega),if_neg (by omega),if_pos (by omega)]
 rw [e1] at hm ⊢;have q:PutIs ⟨g.z,g.P,g.N,g.x,g.y⟩ ⟨Qn0 g.z x.v x.wt,QeG g.P x.v x.wt,QeE g.N x.v x.wt,QeN g.x g.y (thH x.v x.wt) (thL x.v x.wt),Qfe g.y (thL x.v x.wt)⟩ x.v x.wt:=⟨fun _=>rfl,fun h=>absurd ⟨(QbG hg).sk,p2,p3⟩ h⟩;have:=q.M ⟨go.z,go.y,go.P,go.N⟩ ⟨(QbG hg).sk,p2,p3⟩;unfold T5.M at this;simp only [T5.mk.injEq] at this;obtain ⟨q1,q2,q3,q4,q5⟩:=this;rw [q1,q2,q3];exact hm
theorem putS (k:g.k=4) (m:PutH g.E g.R (QbB x.wd) E R):QbD g x ⟨4,Qbf g.s 1,0,0,0,0,0,[],[],0,0,E,R⟩:=by
 unfold QbD;rw [if_pos ⟨hg,hx,e⟩];have e1:QhI x=⟨4,1,0,0,0,0,0,[],[],0,0,[QbB x.wd],[]⟩:=by unfold QhI;rw [if_neg (by omega),if_neg (by omega),if_neg (by omega)]
 have hh:hlB [QbB x.wd] []=true:=(Can.hash _).right
 have mm:Qn3 g.E g.R (QhI x).E (QhI x).R E R:=by
  rw [e1];unfold PutH at m;rw [if_pos (QbG hg).hl] at m;unfold Qn3;rw [if_pos ⟨(QbG hg).hl,hh⟩];exact m
 have:=mrgS hg (Qcn ok hx) (e.trans (QhO hx).symm) k mm;rw [e1] at this ⊢;exact this
end
end
section
theorem Qrd (s:ByteArray):U64 (QbB s):=by have:=hx_in s s.size;unfold QbB U64;omega
end
section
theorem Qp6 (w:World) (g:Ag) (p:Pl) (x:Sx):Hid (Bw w (((w.alloc (.cells (QaC g p) 73)).alloc (.cells (Qa3 x) 97)).alloc (.cells z13 73)))/\Hid (∀ W,Below (((w.alloc (.cells (QaC g p) 73)).alloc (.cells (Qa3 x) 97)).alloc (.cells z13 73)).heap.size (((w.alloc (.cells (QaC g p) 73)).alloc (.cells (Qa3 x) 97)).alloc (.cells z13 73)) W->W.heap[w.heap.size]?=some (.cells (QaC g p) 73 (0,0))/\W.heap[w.heap.size+1]?=some (.cells (Qa3 x) 97 (0,0))/\W.heap[w.heap.size+1+1]?=some (.cells z13 73 (0,0)))/\Hid ((((w.alloc (.cells (QaC g p) 73)).alloc (.cells (Qa3 x) 97)).alloc (.cells z13 73)).heap.size=w.heap.size+1+1+1):=by
 have a1:∀ (W:World) o,Bw W (W.alloc o):=fun W o=>bA;have k0:=ZZk w (.cells (QaC g p) 73);have k1:=ZZk (w.alloc (.cells (QaC g p) 73)) (.cells (Qa3 x) 97);have k2:=ZZk ((w.alloc (.cells (QaC g p) 73)).alloc (.cells (Qa3 x) 97)) (.cells z13 73);simp only [World.size_alloc] at k1 k2;exact ⟨Qaa (Qac (Qac (a1 _ _) (a1 _ _)) (a1 _ _)),Qaa (fun W hW=>⟨(hW.block _ (by simp <;> omega)).trans (((a1 _ _).block _ (by simp <;> omega)).trans (((a1 _ _).block _ (by simp)).trans k0)),(hW.block _ (by simp <;> omega)).trans (((a1 _ _).block _ (by simp)).trans k1),(hW.block _ (by simp)).trans k2⟩),(by simp;exact Qaa trivial)⟩
end
section
structure AgR2 (g g':Ag):Prop where
 r:agB g=true
 r':agB g'=true
 k:g.k=g'.k
theorem AgMrg.get (h:AgMrg g g' o) (q:AgR2 g g'):∃ E R,Mg g.E g.R g'.E g'.R E R/\o=QuA g g' E R:=by
 unfold AgMrg at h;rw [if_pos ⟨q.r,q.r',q.k⟩] at h;exact h
theorem agB_of (n:AgNo g) (h2:g.k=2->Qc6 g=true):agB g=true:=by
 have c1:=n.k1;have c4:=n.k4;have a0:(decide (1<=g.k) && decide (g.k<=4))=true:=by rw [decide_eq_true c1,decide_eq_true c4];rfl
 have a1:((g.k == 1) || Qhl g)=true:=by
  by_cases e:g.k=1
  ·rw [e];rfl
  ·obtain ⟨q1,q2⟩:=n.nc e
   unfold Qhl;rw [q1,q2];simp
 have a3:((g.k == 3) || noS g)=true:=by
  by_cases e:g.k=3
  ·rw [e];rfl
  ·rw [(Qcb g).2 (n.nh e)];simp
 have a4:((g.k == 4) || noH g)=true:=by
  by_cases e:g.k=4
  ·rw [e];rfl
  ·rw [(Qfu g).2 (n.ns e)];simp
 have a2:(if g.k=2 then Qc6 g else (g.a == 0) && (g.t == 0))=true:=by
  by_cases e:g.k=2
  ·rw [if_pos e];exact h2 e
  ·rw [if_neg e]
   obtain ⟨q1,q2⟩:=n.ng e;rw [q1,q2];rfl
 unfold agB;rw [a0,n.sk,n.hl,a1,a3,a4,a2]
 rfl
theorem Ql1 (h:agB g=true) (e:g.k=2):Qc6 g=true:=by
 unfold agB at h;simp only [yB] at h;have:=h.2;rw [if_pos e] at this;exact this
theorem QtQ (h:hlB E R=true):∀ b∈R,I64 b:=fun b hb=>by
 unfold hlB at h
 split at h
 ·rename_i h0
  rw [List.eq_nil_of_length_eq_zero h0] at hb
  cases hb
 ·simp only [yB,Qhm,List.all_eq_true,inR,decide_eq_true_eq] at h
  have:=h.2.2 b hb;unfold I64;omega
theorem Qqu (q:AgR2 g g') (ok:AgOk g) (ok':AgOk g') (h:AgMrg g g' o):agB o=true/\AgOk o/\o.k=g.k:=by
 obtain ⟨E,R,m,rfl⟩:=h.get q;have n:=QbG q.r;have n':=QbG q.r';have ek:=q.k;have mm:Qn3 g.E g.R g'.E g'.R E R:=by unfold Qn3;rw [if_pos ⟨n.hl,n'.hl⟩];exact m
 have hl:=QjC n.hl n'.hl mm;refine ⟨agB_of ⟨n.k1,n.k4,sk_mrg n.sk n'.sk ok.P ok.N ok'.P ok'.N,hl,fun e=>?_,fun e=>?_,fun e=>?_,fun e=>?_⟩ (fun e=>?_),?_,rfl⟩
 ·obtain ⟨a1,a2⟩:=n.nc e
  obtain ⟨b1,b2⟩:=n'.nc (by rw [<- ek];exact e)
  show QeN g.h g.l g'.h g'.l=0/\Qfe g.l g'.l=0
  rw [a1,a2,b1,b2];exact ⟨QdQ,QdI⟩
 ·show (if g.k=2 then gA g.a g.t g'.a g'.t else 0)=0/\(if g.k=2 then gT g.a g.t g'.a g'.t else 0)=0
  have e':¬ g.k=2:=e;rw [if_neg e',if_neg e'];exact ⟨rfl,rfl⟩
 ·obtain ⟨a1,a2,a3,a4,a5⟩:=n.nh e
  obtain ⟨b1,b2,b3,b4,b5⟩:=n'.nh (by rw [<- ek];exact e)
  show Qbf g.z g'.z=0/\QeN g.x g.y g'.x g'.y=0/\Qfe g.y g'.y=0/\Qbl (mrg g.P g'.P)=[]/\Qbl (mrg g.N g'.N)=[]
  rw [a1,a2,a3,a4,a5,b1,b2,b3,b4,b5];exact ⟨Qf2,QdQ,QdI,QeO,QeO⟩
 ·obtain ⟨a1,a2⟩:=n.ns e
  obtain ⟨b1,b2⟩:=n'.ns (by rw [<- ek];exact e);rw [a1,a2,b1,b2] at m;exact m.one QmJ
 ·have e':g.k=2:=e
  have t1:=Ql1 q.r e';have t2:=Ql1 q.r' (by rw [<- ek];exact e')
  show Qc6 (QuA g g' E R)=true
  unfold Qc6 at t1 t2 ⊢
  show (Qn4 (if g.k=2 then gA g.a g.t g'.a g'.t else 0) && (decide (-1<=(if g.k=2 then gT g.a g.t g'.a g'.t else 0)) && decide ((if g.k=2 then gT g.a g.t g'.a g'.t else 0)<=1000000000)) && (decide (0<=(if g.k=2 then gT g.a g.t g'.a g'.t else 0)) || ((if g.k=2 then gA g.a g.t g'.a g'.t else 0) == 0)))=true
  rw [if_pos e',if_pos e'];by_cases hL:QiS g.a g.t g'.a g'.t=true
  ·rw [(QiL hL).1,(QiL hL).2];exact t2
  ·rw [(QmL hL).1,(QmL hL).2];exact t1
 ·have s1:=skB_and.1 n.sk
  have s2:=skB_and.1 n'.sk;refine ⟨ok.k,QiP ok.s ok'.s,QgX _,Qjz _,?_,?_,QiP ok.z ok'.z,QgX _,Qjz _,(Qgh s1.1 s2.1 ok.P ok'.P).2,(Qgh s1.2 s2.2 ok.N ok'.N).2,QtZ ok.E ok'.E mm,fun b hb=>?_⟩
  ·show I64 (if g.k=2 then gA g.a g.t g'.a g'.t else 0)
   split
   ·unfold gA;split
    ·exact ok'.a
    ·exact ok.a
   ·unfold I64;omega
  ·show I64 (if g.k=2 then gT g.a g.t g'.a g'.t else 0)
   split
   ·unfold gT;split
    ·exact ok'.t
    ·exact ok.t
   ·unfold I64;omega
  ·exact QtQ hl b hb
theorem QuX (ox:x.Ok) (hx:x.B=true):AgOk (QhI x):=by
 obtain ⟨p1,p2,p3,p4,p5⟩:=QbR hx;have z:I64 0:=by unfold I64;omega
 have zu:U64 0:=by unfold U64;omega
 have u1:U64 1:=by unfold U64;omega
 have nB:∀ b∈([]:List Bn),Qci b:=fun b hb=>by cases hb
 have nU:∀ b∈([]:List Int),U64 b:=fun b hb=>by cases hb
 have nI:∀ b∈([]:List Int),I64 b:=fun b hb=>by cases hb
 unfold QhI
 split
 ·exact ⟨by show I64 1;unfold I64;omega,u1,QgX _,Qjz _,z,z,zu,z,zu,nB,nB,nU,nI⟩
 split
 ·exact ⟨by show I64 2;unfold I64;omega,u1,z,zu,ox.v,ox.ti,zu,z,zu,nB,nB,nU,nI⟩
 split
 ·have g:=Qmy p2 ox.wt p3
  exact ⟨by show I64 3;unfold I64;omega,u1,z,zu,z,z,g.hz,QgX _,Qjz _,g.kP,g.kN,nU,nI⟩
 ·refine ⟨by show I64 4;unfold I64;omega,u1,z,zu,z,z,zu,z,zu,nB,nB,fun b hb=>?_,nI⟩
  obtain rfl:=List.mem_singleton.1 hb;have:=hx_in x.wd x.wd.size;unfold QbB U64;omega
theorem Qgw (ox:x.Ok) (ok:AgOk g) (h:QbD g x o):AgOk o/\(agB g=true->agB o=true)/\o.k=g.k:=by
 unfold QbD at h
 split at h
 ·rename_i q
  obtain ⟨r,o',k⟩:=Qqu ⟨q.1,Qcn ox q.2.1,q.2.2.trans (QhO q.2.1).symm⟩ ok (QuX ox q.2.1) h;exact ⟨o',fun _=>r,k⟩
 ·subst h;exact ⟨ok,id,rfl⟩
end
section
def PtL (L:List Ce) (n:Int) (s:ByteArray) (o:Ag) (R:List Ce):Prop:=R.map Ce.key=(L.filter (loF n s)).map Ce.key ++ (n,s,o) :: (L.filter (hiF n s)).map Ce.key
end
section
theorem Qpx (o:Ag) (p:Pl) (a' t':Int) (w:World):Calls prog 131 #[.agg (QaC o p),.int .i64 a',.int .i64 t'] w fun e w'=>e=.returned (.agg (QaC { o with a:=gA o.a o.t a' t',t:=gT o.a o.t a' t' } p))/\Bw w w':=by
 have HB:Hid (∀ o o',Bw w ((w.alloc o).alloc o')):=fun o o'=>((Below.refl _ _).alloc (Nat.le_refl _) o).alloc (by simp) o';obtain ⟨k,s,h,l,a,t,z,P,N,x,y,E,R⟩:=o
 show Calls prog 131 #[.agg (QaC ⟨k,s,h,l,a,t,z,P,N,x,y,E,R⟩ p),.int .i64 a',.int .i64 t'] w fun e w'=>e=.returned (.agg (QaC ⟨k,s,h,l,gA a t a' t',gT a t a' t',z,P,N,x,y,E,R⟩ p))/\Bw w w'
 by_cases h1:t<t'
 ·have d1:decide (t<t')=true:=ZZh h1
  have HE:Hid (gA a t a' t'=a'/\gT a t a' t'=t'):=QiL (by simp [QiS,h1]);rw [HE.1,HE.2];clear HE;go_enter func131,ntmps131;go_wp2;refine bodyPost_ret (v:=.agg (QaC ⟨k,s,h,l,a',t',z,P,N,x,y,E,R⟩ p)) (by simp [results,results131,go_sem]) rfl ⟨rfl,?_⟩
  repeat (refine Below.setCell ?_ (by simp) _)
  exact HB.out _ _
 ·have d1:decide (t<t')=false:=ZZg h1
  by_cases h2:t'=t
  ·subst h2
   by_cases h3:a<a'
   ·have d3:decide (a<a')=true:=ZZh h3
    have HE:Hid (gA a t' a' t'=a'/\gT a t' a' t'=t'):=QiL (by simp [QiS,h3]);rw [HE.1,HE.2];clear HE;go_enter func131,ntmps131;go_wp2;refine bodyPost_ret (v:=.agg (QaC ⟨k,s,h,l,a',t',z,P,N,x,y,E,R⟩ p)) (by simp [results,results131,go_sem]) rfl ⟨rfl,?_⟩
    repeat (refine Below.setCell ?_ (by simp) _)
    exact HB.out _ _
   ·have d3:decide (a<a')=false:=ZZg h3
    have HE:Hid (gA a t' a' t'=a/\gT a t' a' t'=t'):=QmL (by simp [QiS,h3]);rw [HE.1,HE.2];clear HE;go_enter func131,ntmps131;go_wp2;refine bodyPost_ret (v:=.agg (QaC ⟨k,s,h,l,a,t',z,P,N,x,y,E,R⟩ p)) (by simp [results,results131,go_sem]) rfl ⟨rfl,?_⟩
    repeat (refine Below.setCell ?_ (by simp) _)
    exact HB.out _ _
  ·have e2:(t' == t)=false:=ZZf.2 h2
   have HE:Hid (gA a t a' t'=a/\gT a t a' t'=t):=QmL (by simp [QiS,h1,h2]);rw [HE.1,HE.2];clear HE;go_enter func131,ntmps131;go_wp2;refine bodyPost_ret (v:=.agg (QaC ⟨k,s,h,l,a,t,z,P,N,x,y,E,R⟩ p)) (by simp [results,results131,go_sem]) rfl ⟨rfl,?_⟩
   repeat (refine Below.setCell ?_ (by simp) _)
   exact HB.out _ _
end
variable {W w w0 w6:World}
variable {ca k r:Nat}
variable {p q:Pl}
section
theorem AgO.setNe {B j:Nat} (h:AgO w B o p) (hn:∀ k,Qej o p k->k≠r) (u:Value):AgO (w.setCell ⟨r,j,none⟩ u) B o p:=
 h.keptS (S:=fun k=>k=r) ⟨rfl,rfl,rfl,by simp [World.setCell],fun k hk hn=>Below.heap_setCell _ _ _ _ (fun e=>hn (by rw [e]))⟩ hn
section
variable {g:Ag} {x:Sx} (ok:x.Ok) (hg:agB g=true) (hx:x.B=true) (e:g.k=x.k)
include ok hg hx e
theorem putC' (k:g.k=1):QbD g x ⟨g.k,Qbf g.s 1,QeN g.h g.l (thH x.v x.wt) (thL x.v x.wt),Qfe g.l (thL x.v x.wt),g.a,g.t,g.z,g.P,g.N,g.x,g.y,g.E,g.R⟩:=by
 have n:=QbG hg;obtain ⟨a1,a2,a3,a4,a5⟩:=n.nh (by omega);obtain ⟨c1,c2⟩:=n.ns (by omega);obtain ⟨d1,d2⟩:=n.ng (by omega);have:=putC ok hg hx e k;rw [a1,a2,a3,a4,a5,c1,c2,d1,d2,k];exact this
theorem putG' (k:g.k=2):QbD g x ⟨g.k,Qbf g.s 1,g.h,g.l,gA g.a g.t x.v x.ti,gT g.a g.t x.v x.ti,g.z,g.P,g.N,g.x,g.y,g.E,g.R⟩:=by
 have n:=QbG hg;obtain ⟨a1,a2,a3,a4,a5⟩:=n.nh (by omega);obtain ⟨c1,c2⟩:=n.ns (by omega);obtain ⟨d1,d2⟩:=n.nc (by omega);have:=putG ok hg hx e k;rw [a1,a2,a3,a4,a5,c1,c2,d1,d2,k];exact this
theorem putH' (k:g.k=3) (go:AgOk g):QbD g x ⟨g.k,Qbf g.s 1,g.h,g.l,g.a,g.t,Qn0 g.z x.v x.wt,QeG g.P x.v x.wt,QeE g.N x.v x.wt,QeN g.x g.y (thH x.v x.wt) (thL x.v x.wt),Qfe g.y (thL x.v x.wt),g.E,g.R⟩:=by
 have n:=QbG hg;obtain ⟨a1,a2⟩:=n.ng (by omega);obtain ⟨c1,c2⟩:=n.ns (by omega);obtain ⟨d1,d2⟩:=n.nc (by omega);have:=putHs ok hg hx e k go;rw [a1,a2,c1,c2,d1,d2,k];exact this
theorem putS' (k:g.k=4) (m:Mg g.E g.R [QbB x.wd] [] E R):QbD g x ⟨g.k,Qbf g.s 1,g.h,g.l,g.a,g.t,g.z,g.P,g.N,g.x,g.y,E,R⟩:=by
 have n:=QbG hg;obtain ⟨a1,a2,a3,a4,a5⟩:=n.nh (by omega);obtain ⟨c1,c2⟩:=n.ng (by omega);obtain ⟨d1,d2⟩:=n.nc (by omega);have:=putS ok hg hx e k (E:=E) (R:=R) (by unfold PutH;rw [if_pos n.hl];exact m);rw [a1,a2,a3,a4,a5,c1,c2,d1,d2,k];exact this
end
structure PB (w W:World) (b:Nat) (g a:Ag) (p q:Pl) (x:Sx):Prop where
 bel:Bw w W
 ra:W.heap[w.heap.size]?=some (.cells (QaC g p) 73 (0,0))
 rx:W.heap[w.heap.size+1]?=some (.cells (Qa3 x) 97 (0,0))
 rr:W.heap[w.heap.size+1+1]?=some (.cells z13 73 (0,0))
 ro:W.heap[b]?=some (.cells (QaC a q) 73 (0,0))
 lo:w.heap.size+1+1+1<=b/\b<W.heap.size
 own:AgO W (w.heap.size+1+1+1) a q
 ne:∀ k,Qej a q k->k<b
theorem PB.past {W':World} {b:Nat} {a:Ag} (h:PB w W b g a p q x) (hb:Bw W W'):PB w W' b g a p q x:=
 ⟨Qac h.bel hb,(hb.block _ (ZZc.1 h.ra).1).trans h.ra,(hb.block _ (ZZc.1 h.rx).1).trans h.rx,(hb.block _ (ZZc.1 h.rr).1).trans h.rr,(hb.block _ (ZZc.1 h.ro).1).trans h.ro,⟨h.lo.1,Nat.lt_of_lt_of_le h.lo.2 hb.size⟩,h.own.past hb,h.ne⟩
theorem PB.sam {b:Nat} {a:Ag} (h:PB w W b g a p q x) (s:Int):PB w (W.setCell ⟨b,1,none⟩ (.int .u64 s)) b g { a with s:=s } p q x:=by
 have hl:=h.lo;have ot:∀ r o,r≠b->W.heap[r]?=some o->(W.setCell ⟨b,1,none⟩ (.int .u64 s)).heap[r]?=some o:=fun r o hr e=>by rw [heap_setCell_other _ _ _ _ (by simpa using hr)];exact e
 refine ⟨h.bel.setCell (by simp <;> omega) _,ot _ _ (by omega) h.ra,ot _ _ (by omega) h.rx,ot _ _ (by omega) h.rr,heap_setCell_same W b 1 _ _ _ h.ro,⟨hl.1,by simpa [World.setCell] using hl.2⟩,?_,h.ne⟩;have:=h.own.setNe (r:=b) (j:=1) (fun k e=>Nat.ne_of_lt (h.ne k e)) (.int .u64 s);exact ⟨this.P,this.N,this.ap,this.E,this.R⟩
theorem PB.made {w1:World} (hb:Bw w w1) (h0:w1.heap[w.heap.size]?=some (.cells (QaC g p) 73 (0,0))) (h1:w1.heap[w.heap.size+1]?=some (.cells (Qa3 x) 97 (0,0))) (h2:w1.heap[w.heap.size+1+1]?=some (.cells z13 73 (0,0))) (hs:w.heap.size+1+1+1<=w1.heap.size) (ho:AgO w1 (w.heap.size+1+1+1) g q):PB w (w1.alloc (.cells (QaC g q) 73)) w1.heap.size g g p q x:=by
 have a1:Bw w1 (w1.alloc (.cells (QaC g q) 73)):=bA;exact ⟨Qac hb a1,(a1.block _ (Array.getElem?_eq_some_iff.1 h0).1).trans h0,(a1.block _ (Array.getElem?_eq_some_iff.1 h1).1).trans h1,(a1.block _ (Array.getElem?_eq_some_iff.1 h2).1).trans h2,heap_alloc_new w1 _,⟨hs,by simp⟩,ho.past a1,fun k e=>(ho.lt e).2⟩
theorem QhS (x:Sx) (hg:agB g=true) (hx:x.B=true) (hk:g.k=x.k) (ok:AgOk g) (ox:x.Ok) (sm:AgSm g) (pl:PlG g p) (hA:AgAt w g p) :
  Calls prog 89 #[.agg (QaC g p),.agg (Qa3 x)] w fun e w'=>AgRes w (QbD g x) e w':=by
 have HG:=Qaa hg;have HX:=Qaa hx;have az:=Qaa hk;have OK:=Qaa ok;have OX:=Qaa ox;have SM:=Qaa sm;have PL:=Qaa pl;have HA:=Qaa hA;have NO:=Qaa (QbG hg);clear hg hx hk ok ox sm pl hA;obtain ⟨aA,HC,ay⟩:=Qp6 w g p x;go_enter func89,ntmps89;go_wp2_with fail;generalize ((w.alloc _).alloc _).alloc _=W0 at aA HC ay ⊢;refine (Qdw SM PL (QaI HA aA)).mono ?_;rintro e w1 ⟨v,o,rfl,ho,⟨q,rfl,hO⟩,aB⟩;obtain rfl:g=o:=ho.symm;clear ho;have hR:=HC.out w1 aB;have aO:=aB.size;have HP:=Qaa (PB.made (Qac aA aB) hR.1 hR.2.1 hR.2.2 (by have:=ay.out;omega) (hO.le (by have:=ay.out;omega)));have x1:=Qez hR.1 1 rfl;have aK:w.heap.size<w1.heap.size:=by have:=ay.out;omega
 have aL:¬ w.heap.size=w1.heap.size:=by omega
 clear hR aO aB hO HC ay aA;go_wp2_with fail;clear x1 aK aL;generalize w1.alloc _=W1 at HP ⊢;generalize w1.heap.size=b at HP ⊢;refine (Qck g.s 1 OK.s (by unfold U64;omega) _).mono ?_;rintro e wz ⟨rfl,aF⟩;obtain rfl:=aF.symm;have hl:=HP.lo;have aQ:¬ w.heap.size=b:=by omega
 have aP:¬ w.heap.size+1=b:=by omega
 have aS:¬ w.heap.size+1+1=b:=by omega
 have aN:g.k=1∨g.k=2∨g.k=3∨g.k=4:=by have:=NO.k1;have:=NO.k4;omega
 rcases aN with h | h | h | h
 ·have aw:=Qaa h
  have e1:(g.k == 1)=true:=by rw [h];rfl
  clear h;obtain ⟨c0,c1,c2,c3,c4,c5,c6,c7,c8,c9,af,ae,ag⟩:=Qdh HP.ro;obtain ⟨f0,f1,f2,f3,f4,f5,f6,f7,f8,f9,an,ak,am⟩:=Qhj HP.ro;obtain ⟨x0,x1,x2,x3,x4,x5,x6,x7,x8,x9,ai,ah,aj⟩:=Qdh HP.ra;obtain ⟨y0,y1,y2,y3,y4,y5,y6⟩:=cA7 HP.rx;go_wp2_with fail;clear c0 c1 c2 c3 c4 c5 c6 c7 c8 c9 af ae ag f0 f1 f2 f3 f4 f5 f6 f7 f8 f9 an ak am x0 x1 x2 x3 x4 x5 x6 x7 x8 x9 ai ah aj y0 y1 y2 y3 y4 y5 y6;have ab:=Qaa (HP.sam (Qbf g.s 1));generalize W1.setCell ⟨b,1,none⟩ (.int .u64 (Qbf g.s 1))=W2 at ab ⊢;clear HP;have ad:(fun W=>Bw W2 W) W2.drew:=(ZZb _ _).drew;refine Qal (fun W=>Bw W2 W) 9 (by kernel_rfl) ?_;refine tkS 0 (.pointer (some ⟨w.heap.size,2,none⟩)) ad ?_;refine tkL 1 (.agg #[.int .i64 g.h,.int .u64 g.l]) ad (fun W hW=>?_) ?_
  ·have ac:=ab.past hW
   obtain ⟨x0,x1,x2,x3,x4,x5,x6,x7,x8,x9,ai,ah,aj⟩:=Qdh ac.ra;obtain ⟨y0,y1,y2,y3,y4,y5,y6⟩:=cA7 ac.rx;clear ac;clear hW;go_simp
  refine tkS 2 (.pointer (some ⟨w.heap.size+1,2,none⟩)) ad ?_;simp only [sX];refine tkL 3 (.int .i64 x.v) ad (fun W hW=>?_) ?_
  ·have ac:=ab.past hW
   obtain ⟨x0,x1,x2,x3,x4,x5,x6,x7,x8,x9,ai,ah,aj⟩:=Qdh ac.ra;obtain ⟨y0,y1,y2,y3,y4,y5,y6⟩:=cA7 ac.rx;clear ac;clear hW;go_simp
  refine tkS 4 (.pointer (some ⟨w.heap.size+1,4,none⟩)) ad ?_;refine tkL 5 (.int .u64 x.wt) ad (fun W hW=>?_) ?_
  ·have ac:=ab.past hW
   obtain ⟨x0,x1,x2,x3,x4,x5,x6,x7,x8,x9,ai,ah,aj⟩:=Qdh ac.ra;obtain ⟨y0,y1,y2,y3,y4,y5,y6⟩:=cA7 ac.rx;clear ac;clear hW;go_simp
  simp only [sX];refine onE 6 fun K hK=>?_;go_simp;refine (QeU x.v x.wt OX.v OX.wt _).mono ?_;rintro e w3 ⟨rfl,aH⟩;have aI:Hid (Bw W2 w3):=(ad:Bw W2 W2.drew).trans (aH.mono (ZZa _));clear aH;dsimp only;refine gK hK aI.out ?_
  try simp only [sX]
  refine onE 7 fun K hK=>?_;go_simp;refine (Qec g.h g.l (thH x.v x.wt) (thL x.v x.wt) _ OK.l (show U64 (thL x.v x.wt) from Qjz _)).mono ?_;rintro e w4 ⟨rfl,al⟩;have ax:Hid (Bw W2 w4):=Qac aI al;have aa:=Qaa (ab.past ax);clear al;obtain ⟨c0,c1,c2,c3,c4,c5,c6,c7,c8,c9,af,ae,ag⟩:=Qdh aa.ro;obtain ⟨f0,f1,f2,f3,f4,f5,f6,f7,f8,f9,an,ak,am⟩:=Qhj aa.ro;obtain ⟨z0,z1,z2,z3,z4,z5,z6,z7,z8,z9,au,ar,ao⟩:=Qdh aa.rr;obtain ⟨k0,k1,k2,k3,k4,k5,k6,k7,k8,k9,aD,aE,aG⟩:=Qhj aa.rr;have av:Hid (AgO w4 (w.heap.size+1+1+1) ⟨g.k,Qbf g.s 1,QeN g.h g.l (thH x.v x.wt) (thL x.v x.wt),Qfe g.l (thL x.v x.wt),g.a,g.t,g.z,g.P,g.N,g.x,g.y,g.E,g.R⟩ q):=⟨aa.own.P,aa.own.N,aa.own.ap,aa.own.E,aa.own.R⟩;have aq:Hid (∀ k,Qej ⟨g.k,Qbf g.s 1,QeN g.h g.l (thH x.v x.wt) (thL x.v x.wt),Qfe g.l (thL x.v x.wt),g.a,g.t,g.z,g.P,g.N,g.x,g.y,g.E,g.R⟩ q k->k≠b):=fun k e=>Nat.ne_of_lt (aa.ne k e);dsimp only;refine gK hK ax.out ?_
  try simp only [sX]
  refine tkS 8 (.pointer (some ⟨b,2,none⟩)) ax ?_;simp only [sX];refine onE 9 fun K hK=>?_;go_simp;refine hK.out _ _ (fun h=>absurd rfl h) ?_
  try simp only [sX]
  refine dnE ?_ _;go_wp2;refine bodyPost_ret (v:=.agg (QaC ⟨g.k,Qbf g.s 1,QeN g.h g.l (thH x.v x.wt) (thL x.v x.wt),Qfe g.l (thL x.v x.wt),g.a,g.t,g.z,g.P,g.N,g.x,g.y,g.E,g.R⟩ q)) (by simp [results,results89,go_sem,c0,c1,c2,c3,c4,c5,c6,c7,c8,c9,af,ae,ag,z0,z1,z2,z3,z4,z5,z6,z7,z8,z9,au,ar,ao]) rfl (AgRes.mk (o:=⟨g.k,Qbf g.s 1,QeN g.h g.l (thH x.v x.wt) (thL x.v x.wt),Qfe g.l (thL x.v x.wt),g.a,g.t,g.z,g.P,g.N,g.x,g.y,g.E,g.R⟩) (p:=q) (putC' OX HG HX az aw) ?_ ?_)
  ·refine AgO.le (B:=w.heap.size+1+1+1) ?_ (by omega)
   repeat (first | refine AgO.below ?_ (by omega) _ | refine AgO.setNe ?_ aq _)
   exact av.out
  ·repeat (refine Below.setCell ?_ (by simp <;> omega) _)
   exact aa.bel
 ·have aw:=Qaa h
  have e1:(g.k == 1)=false:=ZZf.2 (by omega);have e2:(g.k == 2)=true:=by rw [h];rfl
  clear h;obtain ⟨c0,c1,c2,c3,c4,c5,c6,c7,c8,c9,af,ae,ag⟩:=Qdh HP.ro;obtain ⟨f0,f1,f2,f3,f4,f5,f6,f7,f8,f9,an,ak,am⟩:=Qhj HP.ro;obtain ⟨x0,x1,x2,x3,x4,x5,x6,x7,x8,x9,ai,ah,aj⟩:=Qdh HP.ra;obtain ⟨y0,y1,y2,y3,y4,y5,y6⟩:=cA7 HP.rx;go_wp2_with fail;clear c0 c1 c2 c3 c4 c5 c6 c7 c8 c9 af ae ag f0 f1 f2 f3 f4 f5 f6 f7 f8 f9 an ak am x0 x1 x2 x3 x4 x5 x6 x7 x8 x9 ai ah aj y0 y1 y2 y3 y4 y5 y6;have ab:=Qaa (HP.sam (Qbf g.s 1));generalize W1.setCell ⟨b,1,none⟩ (.int .u64 (Qbf g.s 1))=W2 at ab ⊢;clear HP;refine (Qpx { g with s:=Qbf g.s 1 } q x.v x.ti _).mono ?_;rintro e w4 ⟨rfl,al⟩;have aa:=Qaa (ab.past al);clear al;obtain ⟨c0,c1,c2,c3,c4,c5,c6,c7,c8,c9,af,ae,ag⟩:=Qdh aa.ro;obtain ⟨f0,f1,f2,f3,f4,f5,f6,f7,f8,f9,an,ak,am⟩:=Qhj aa.ro;obtain ⟨z0,z1,z2,z3,z4,z5,z6,z7,z8,z9,au,ar,ao⟩:=Qdh aa.rr;obtain ⟨k0,k1,k2,k3,k4,k5,k6,k7,k8,k9,aD,aE,aG⟩:=Qhj aa.rr;have av:Hid (AgO w4 (w.heap.size+1+1+1) ⟨g.k,Qbf g.s 1,g.h,g.l,gA g.a g.t x.v x.ti,gT g.a g.t x.v x.ti,g.z,g.P,g.N,g.x,g.y,g.E,g.R⟩ q):=⟨aa.own.P,aa.own.N,aa.own.ap,aa.own.E,aa.own.R⟩;have aq:Hid (∀ k,Qej ⟨g.k,Qbf g.s 1,g.h,g.l,gA g.a g.t x.v x.ti,gT g.a g.t x.v x.ti,g.z,g.P,g.N,g.x,g.y,g.E,g.R⟩ q k->k≠b):=fun k e=>Nat.ne_of_lt (aa.ne k e);go_wp2;refine bodyPost_ret (v:=.agg (QaC ⟨g.k,Qbf g.s 1,g.h,g.l,gA g.a g.t x.v x.ti,gT g.a g.t x.v x.ti,g.z,g.P,g.N,g.x,g.y,g.E,g.R⟩ q)) (by simp [results,results89,go_sem,c0,c1,c2,c3,c4,c5,c6,c7,c8,c9,af,ae,ag,z0,z1,z2,z3,z4,z5,z6,z7,z8,z9,au,ar,ao]) rfl (AgRes.mk (o:=⟨g.k,Qbf g.s 1,g.h,g.l,gA g.a g.t x.v x.ti,gT g.a g.t x.v x.ti,g.z,g.P,g.N,g.x,g.y,g.E,g.R⟩) (p:=q) (putG' OX HG HX az aw) ?_ ?_)
  ·refine AgO.le (B:=w.heap.size+1+1+1) ?_ (by omega)
   repeat (first | refine AgO.below ?_ (by omega) _ | refine AgO.setNe ?_ aq _)
   exact av.out
  ·repeat (refine Below.setCell ?_ (by simp <;> omega) _)
   exact aa.bel
 ·have aw:=Qaa h
  have e1:(g.k == 1)=false:=ZZf.2 (by omega);have e2:(g.k == 2)=false:=ZZf.2 (by omega);have e3:(g.k == 3)=true:=by rw [h];rfl
  clear h;obtain ⟨c0,c1,c2,c3,c4,c5,c6,c7,c8,c9,af,ae,ag⟩:=Qdh HP.ro;obtain ⟨f0,f1,f2,f3,f4,f5,f6,f7,f8,f9,an,ak,am⟩:=Qhj HP.ro;obtain ⟨x0,x1,x2,x3,x4,x5,x6,x7,x8,x9,ai,ah,aj⟩:=Qdh HP.ra;obtain ⟨y0,y1,y2,y3,y4,y5,y6⟩:=cA7 HP.rx;go_wp2_with fail;clear c0 c1 c2 c3 c4 c5 c6 c7 c8 c9 af ae ag f0 f1 f2 f3 f4 f5 f6 f7 f8 f9 an ak am x0 x1 x2 x3 x4 x5 x6 x7 x8 x9 ai ah aj y0 y1 y2 y3 y4 y5 y6;have ab:=Qaa (HP.sam (Qbf g.s 1));generalize W1.setCell ⟨b,1,none⟩ (.int .u64 (Qbf g.s 1))=W2 at ab ⊢;clear HP;have aC:=QpV NO.sk;refine (Qnv OK.z OK.y OX.v OX.wt rfl rfl aC.1.2 aC.2.2 (Qaj HA.P ab.bel) (Qaj HA.N ab.bel) OK.P OK.N (QbR HX).2.1 PL.cP PL.cN).mono ?_;clear aC;rintro e w4 ⟨v4,rfl,⟨vp,vn,pn,nn,rfl,o1,o2,aJ⟩,al⟩;obtain ⟨pa,pc,rfl⟩:=o1.any;obtain ⟨na,nc,rfl⟩:=o2.any;obtain rfl:=o1.1;obtain rfl:=o2.1;have aa:=Qaa (ab.past al);have aM:=ab.lo;have av:Hid (AgO w4 (w.heap.size+1+1+1) ⟨g.k,Qbf g.s 1,g.h,g.l,g.a,g.t,Qn0 g.z x.v x.wt,QeG g.P x.v x.wt,QeE g.N x.v x.wt,QeN g.x g.y (thH x.v x.wt) (thL x.v x.wt),Qfe g.y (thL x.v x.wt),g.E,g.R⟩ ⟨pa,pc,na,nc,q.ea,q.ec,q.ra,q.rc⟩):=⟨o1.le (by omega),o2.le (by omega),aJ,aa.own.E,aa.own.R⟩
  have aq:Hid (∀ k,Qej ⟨g.k,Qbf g.s 1,g.h,g.l,g.a,g.t,Qn0 g.z x.v x.wt,QeG g.P x.v x.wt,QeE g.N x.v x.wt,QeN g.x g.y (thH x.v x.wt) (thL x.v x.wt),Qfe g.y (thL x.v x.wt),g.E,g.R⟩ ⟨pa,pc,na,nc,q.ea,q.ec,q.ra,q.rc⟩ k->k≠b):=fun k e=>by
   rcases e with (e | e) | e
   ·have:=(o1.lt k e).1;omega
   ·have:=(o2.lt k e).1;omega
   ·exact Nat.ne_of_lt (aa.ne k (.inr e))
  clear al o1 o2 aJ;obtain ⟨c0,c1,c2,c3,c4,c5,c6,c7,c8,c9,af,ae,ag⟩:=Qdh aa.ro;obtain ⟨f0,f1,f2,f3,f4,f5,f6,f7,f8,f9,an,ak,am⟩:=Qhj aa.ro;obtain ⟨z0,z1,z2,z3,z4,z5,z6,z7,z8,z9,au,ar,ao⟩:=Qdh aa.rr;obtain ⟨k0,k1,k2,k3,k4,k5,k6,k7,k8,k9,aD,aE,aG⟩:=Qhj aa.rr;go_wp2;refine bodyPost_ret (v:=.agg (QaC ⟨g.k,Qbf g.s 1,g.h,g.l,g.a,g.t,Qn0 g.z x.v x.wt,QeG g.P x.v x.wt,QeE g.N x.v x.wt,QeN g.x g.y (thH x.v x.wt) (thL x.v x.wt),Qfe g.y (thL x.v x.wt),g.E,g.R⟩ ⟨pa,pc,na,nc,q.ea,q.ec,q.ra,q.rc⟩)) (by simp [results,results89,go_sem,c0,c1,c2,c3,c4,c5,c6,c7,c8,c9,af,ae,ag,z0,z1,z2,z3,z4,z5,z6,z7,z8,z9,au,ar,ao]) rfl (AgRes.mk (o:=⟨g.k,Qbf g.s 1,g.h,g.l,g.a,g.t,Qn0 g.z x.v x.wt,QeG g.P x.v x.wt,QeE g.N x.v x.wt,QeN g.x g.y (thH x.v x.wt) (thL x.v x.wt),Qfe g.y (thL x.v x.wt),g.E,g.R⟩) (p:=⟨pa,pc,na,nc,q.ea,q.ec,q.ra,q.rc⟩) (putH' OX HG HX az aw OK) ?_ ?_)
  ·refine AgO.le (B:=w.heap.size+1+1+1) ?_ (by omega)
   repeat (first | refine AgO.below ?_ (by omega) _ | refine AgO.setNe ?_ aq _)
   exact av.out
  ·repeat (refine Below.setCell ?_ (by simp <;> omega) _)
   exact aa.bel
 ·have aw:=Qaa h
  have e1:(g.k == 1)=false:=ZZf.2 (by omega);have e2:(g.k == 2)=false:=ZZf.2 (by omega);have e3:(g.k == 3)=false:=ZZf.2 (by omega);clear h;obtain ⟨c0,c1,c2,c3,c4,c5,c6,c7,c8,c9,af,ae,ag⟩:=Qdh HP.ro;obtain ⟨f0,f1,f2,f3,f4,f5,f6,f7,f8,f9,an,ak,am⟩:=Qhj HP.ro;obtain ⟨x0,x1,x2,x3,x4,x5,x6,x7,x8,x9,ai,ah,aj⟩:=Qdh HP.ra;obtain ⟨y0,y1,y2,y3,y4,y5,y6⟩:=cA7 HP.rx;go_wp2_with fail;clear c0 c1 c2 c3 c4 c5 c6 c7 c8 c9 af ae ag f0 f1 f2 f3 f4 f5 f6 f7 f8 f9 an ak am x0 x1 x2 x3 x4 x5 x6 x7 x8 x9 ai ah aj y0 y1 y2 y3 y4 y5 y6;have ab:=Qaa (HP.sam (Qbf g.s 1));generalize W1.setCell ⟨b,1,none⟩ (.int .u64 (Qbf g.s 1))=W2 at ab ⊢;clear HP;have ad:(fun W=>Bw W2 W) W2.drew:=(ZZb _ _).drew;refine Qal (fun W=>Bw W2 W) 7 (by kernel_rfl) ?_;refine tkS 0 (.pointer (some ⟨w.heap.size,11,none⟩)) ad ?_;refine tkL 1 (.agg #[.slice p.ea g.E.length p.ec,.slice p.ra g.R.length p.rc]) ad (fun W hW=>?_) ?_
  ·have ac:=ab.past hW
   obtain ⟨x0,x1,x2,x3,x4,x5,x6,x7,x8,x9,ai,ah,aj⟩:=Qdh ac.ra;obtain ⟨y0,y1,y2,y3,y4,y5,y6⟩:=cA7 ac.rx;clear ac;clear hW;go_simp
  refine tkS 2 (.pointer (some ⟨w.heap.size+1,3,none⟩)) ad ?_;simp only [sX];refine tkL 3 (.string x.wd) ad (fun W hW=>?_) ?_
  ·have ac:=ab.past hW
   obtain ⟨x0,x1,x2,x3,x4,x5,x6,x7,x8,x9,ai,ah,aj⟩:=Qdh ac.ra;obtain ⟨y0,y1,y2,y3,y4,y5,y6⟩:=cA7 ac.rx;clear ac;clear hW;go_simp
  simp only [sX];refine onE 4 fun K hK=>?_;go_simp;refine (Qek x.wd OX.wd _).mono ?_;rintro e wz ⟨rfl,aF⟩;obtain rfl:=aF.symm;dsimp only;refine gK hK ad ?_
  try simp only [sX]
  refine onE 5 fun K hK=>?_;go_simp;refine (Qr7 (QbB x.wd) NO.hl rfl rfl PL.lE PL.mE PL.fE PL.cE (Qak HA.E (Qac ab.bel ad)) (Qak HA.R (Qac ab.bel ad)) OK.E (Qrd _)).mono ?_;rintro e w4 ⟨v4,E,R,rfl,hM,⟨ve,vr,rfl,o3,o4⟩,al⟩;obtain ⟨ea,ec,rfl⟩:=Qam o3;obtain ⟨ra,rc,rfl⟩:=Qam o4;have HM:=Qaa hM;have ax:Hid (Bw W2 w4):=(ad:Bw W2 W2.drew).trans (al.mono (ZZa _));have aa:=Qaa (ab.past ax);have aM:=ab.lo;have aR:W2.drew.heap.size=W2.heap.size:=rfl;have av:Hid (AgO w4 (w.heap.size+1+1+1) ⟨g.k,Qbf g.s 1,g.h,g.l,g.a,g.t,g.z,g.P,g.N,g.x,g.y,E,R⟩ ⟨q.pa,q.pc,q.na,q.nc,ea,ec,ra,rc⟩):=⟨aa.own.P,aa.own.N,aa.own.ap,⟨rfl,Qby o3 (by omega)⟩,⟨rfl,Qby o4 (by omega)⟩⟩
  have aq:Hid (∀ k,Qej ⟨g.k,Qbf g.s 1,g.h,g.l,g.a,g.t,g.z,g.P,g.N,g.x,g.y,E,R⟩ ⟨q.pa,q.pc,q.na,q.nc,ea,ec,ra,rc⟩ k->k≠b):=fun k e=>by
   rcases e with e | (e | e)
   ·exact Nat.ne_of_lt (aa.ne k (.inl e))
   ·have:=Qbd o3 k e;omega
   ·have:=Qbd o4 k e;omega
  clear al o3 o4 hM;obtain ⟨c0,c1,c2,c3,c4,c5,c6,c7,c8,c9,af,ae,ag⟩:=Qdh aa.ro;obtain ⟨f0,f1,f2,f3,f4,f5,f6,f7,f8,f9,an,ak,am⟩:=Qhj aa.ro;obtain ⟨z0,z1,z2,z3,z4,z5,z6,z7,z8,z9,au,ar,ao⟩:=Qdh aa.rr;obtain ⟨k0,k1,k2,k3,k4,k5,k6,k7,k8,k9,aD,aE,aG⟩:=Qhj aa.rr;dsimp only;refine gK hK ax.out ?_
  try simp only [sX]
  refine tkS 6 (.pointer (some ⟨b,11,none⟩)) ax ?_;simp only [sX];refine onE 7 fun K hK=>?_;go_simp;refine hK.out _ _ (fun h=>absurd rfl h) ?_
  try simp only [sX]
  refine dnE ?_ _;go_wp2;refine bodyPost_ret (v:=.agg (QaC ⟨g.k,Qbf g.s 1,g.h,g.l,g.a,g.t,g.z,g.P,g.N,g.x,g.y,E,R⟩ ⟨q.pa,q.pc,q.na,q.nc,ea,ec,ra,rc⟩)) (by simp [results,results89,go_sem,c0,c1,c2,c3,c4,c5,c6,c7,c8,c9,af,ae,ag,z0,z1,z2,z3,z4,z5,z6,z7,z8,z9,au,ar,ao]) rfl (AgRes.mk (o:=⟨g.k,Qbf g.s 1,g.h,g.l,g.a,g.t,g.z,g.P,g.N,g.x,g.y,E,R⟩) (p:=⟨q.pa,q.pc,q.na,q.nc,ea,ec,ra,rc⟩) (putS' OX HG HX az aw HM) ?_ ?_)
  ·refine AgO.le (B:=w.heap.size+1+1+1) ?_ (by omega)
   repeat (first | refine AgO.below ?_ (by omega) _ | refine AgO.setNe ?_ aq _)
   exact av.out
  ·repeat (refine Below.setCell ?_ (by simp <;> omega) _)
   exact aa.bel
end
variable {ao:Option Addr}
section
theorem Qq3 {L:List Ce} (h:QbV w ao L):QbV w ao (L.take k):=by
 refine ⟨fun h0=>?_,fun c hc=>h.2 c (ZZo hc)⟩;obtain ⟨b,aa,e,hc⟩:=h.1 (by rw [List.length_take] at h0;omega);refine ⟨b,aa,e,fun i c hi=>hc i c ?_⟩;rw [List.getElem?_take] at hi
 split at hi
 ·exact hi
 ·cases hi
theorem Qmz {L:List Ce} (h:QbV w ao L) (hc:L.length<=ca):QbV w (if ca=k then ao else ao.map (·.add (k*15))) (L.drop k):=by
 refine ⟨fun h0=>?_,fun c hc=>h.2 c (ZZp hc)⟩;rw [List.length_drop] at h0;obtain ⟨b,aa,e,hx⟩:=h.1 (by omega);subst e;rw [if_neg (by omega)];refine ⟨b,aa+k*15,by simp [Addr.add],fun i c hi=>?_⟩;rw [List.getElem?_drop] at hi;have:=hx (k+i) c hi;rw [show aa+k*15+i*15=aa+(k+i)*15 by omega];exact this
inductive PuA (L:List Ce) (win:Int) (x:Sx):List Ce->Int->Prop
 | kind (c:Ce) (hc:c∈L) (k1:c.n=win) (k2:c.s=x.se) (hk:¬ c.g.k=x.k):PuA L win x [] 9
 | there (c:Ce) (o:Ag) (R:List Ce) (hc:c∈L) (k1:c.n=win) (k2:c.s=x.se) (hk:c.g.k=x.k) (hp:QbD c.g x o) (hR:PtL L win x.se o R):PuA L win x R 0
 | full (hn:¬ QoG L win x.se) (hl:60<=L.length):PuA L win x [] 8
 | new (o:Ag) (R:List Ce) (hn:¬ QoG L win x.se) (hl:L.length<60) (hp:QbD (Qcv x.k) x o) (hR:PtL L win x.se o R):PuA L win x R 0
theorem QtW {L A B:List Ce} (hL:AscC L) (h:PlcA L n s k true) (hA:A.map Ce.key=(L.take k).map Ce.key) (hB:B.map Ce.key=(L.drop (k+1)).map Ce.key):PtL L n s o ((A ++ [⟨n,s,o,q⟩]) ++ B):=by
 obtain ⟨c,_,_,_,_,e⟩:=QkW hL h;unfold PtL;rw [List.map_append,List.map_append,hA,hB,QeQ hL h,e,List.append_assoc]
 rfl
theorem ptl_no {L A B:List Ce} (hL:AscC L) (h:PlcA L n s k false) (hA:A.map Ce.key=(L.take k).map Ce.key) (hB:B.map Ce.key=(L.drop k).map Ce.key):PtL L n s o ((A ++ [⟨n,s,o,q⟩]) ++ B):=by
 obtain ⟨e,_⟩:=QoD hL h;unfold PtL;rw [List.map_append,List.map_append,hA,hB,QeQ hL h,e,List.append_assoc]
 rfl
end
section
theorem AgO.plgP {B:Nat} (h:AgO w B g p):PlG g p:=by
 have fb:∀ {ao:Option Addr} {n c:Nat} {L:List Bn},OwnB w B (.slice ao n c) n L->ao=none->c=0:=fun {ao n c L} o e=>by
  rcases o.2 with ⟨q,_⟩ | ⟨b,ab,c',aa,q,_⟩
  ·cases q;rfl
  ·cases q;cases e
 have fn:∀ {kd:IntKind} {T:TypeId} {ao:Option Addr} {n c:Nat} {L:List Int},OwnN kd T w B (.slice ao n c) n L->(ao=none->c=0)/\QpF ao/\n<=c/\c<=maxLen:=fun {kd T ao n c L} o=>by
  rcases o.2.2 with ⟨q,q0⟩ | ⟨b,c',aa,q,_,_,q1,q2,_⟩
  ·cases q;exact ⟨fun _=>rfl,.inl rfl,ZZa _,ZZj _⟩
  ·cases q;exact ⟨(fun e=>by cases e),.inr ⟨_,_,rfl⟩,q1,q2⟩
 exact ⟨fb h.P,fb h.N,(fn h.E).1,(fn h.R).1,(fn h.E).2.1,(fn h.R).2.1,(fn h.E).2.2.1,(fn h.E).2.2.2⟩
theorem cells7 (h:w.heap[r]?=some (.cells (Qa3 x) 97 (0,0))):w.cell? ⟨r,0,none⟩=some (.int .i64 x.k)/\w.cell? ⟨r,1,none⟩=some (.string x.se)/\w.cell? ⟨r,2,none⟩=some (.int .i64 x.v)/\w.cell? ⟨r,3,none⟩=some (.string x.wd)/\w.cell? ⟨r,4,none⟩=some (.int .u64 x.wt)/\w.cell? ⟨r,5,none⟩=some (.bool x.tm)/\w.cell? ⟨r,6,none⟩=some (.int .i64 x.ti):=⟨QaX h 0 rfl,QaX h 1 rfl,QaX h 2 rfl,QaX h 3 rfl,QaX h 4 rfl,QaX h 5 rfl,QaX h 6 rfl⟩
end
variable {v':Value}
variable {c:Ce}
section
theorem rowAll {T:TypeId} {u0 u1 u2 u3 u4 u5 u6 u7 u8 u9 u10 u11 u12 u13 u14:Value} (h:w.heap[r]?=some (.cells #[u0,u1,u2,u3,u4,u5,u6,u7,u8,u9,u10,u11,u12,u13,u14] T (0,0))) (v0 v1 v2 v3 v4 v5 v6 v7 v8 v9 v10 v11 v12 v13 v14:Value) :
  (((((((((((((((w.setCell ⟨r,0,none⟩ (v0)).setCell ⟨r,1,none⟩ (v1)).setCell ⟨r,2,none⟩ (v2)).setCell ⟨r,3,none⟩ (v3)).setCell ⟨r,4,none⟩ (v4)).setCell ⟨r,5,none⟩ (v5)).setCell ⟨r,6,none⟩ (v6)).setCell ⟨r,7,none⟩ (v7)).setCell ⟨r,8,none⟩ (v8)).setCell ⟨r,9,none⟩ (v9)).setCell ⟨r,10,none⟩ (v10)).setCell ⟨r,11,none⟩ (v11)).setCell ⟨r,12,none⟩ (v12)).setCell ⟨r,13,none⟩ (v13)).setCell ⟨r,14,none⟩ (v14)).heap[r]?=some (.cells #[v0,v1,v2,v3,v4,v5,v6,v7,v8,v9,v10,v11,v12,v13,v14] T (0,0)):=
 Qrb (ZZl _ r 1 _ _ v1 (ZZl _ r 0 _ _ v0 h))
theorem QrO (h:Bw w0 w) (hr:w0.heap.size<=r) (v0 v1 v2 v3 v4 v5 v6 v7 v8 v9 v10 v11 v12 v13 v14:Value) :
  Bw w0 (((((((((((((((w.setCell ⟨r,0,none⟩ (v0)).setCell ⟨r,1,none⟩ (v1)).setCell ⟨r,2,none⟩ (v2)).setCell ⟨r,3,none⟩ (v3)).setCell ⟨r,4,none⟩ (v4)).setCell ⟨r,5,none⟩ (v5)).setCell ⟨r,6,none⟩ (v6)).setCell ⟨r,7,none⟩ (v7)).setCell ⟨r,8,none⟩ (v8)).setCell ⟨r,9,none⟩ (v9)).setCell ⟨r,10,none⟩ (v10)).setCell ⟨r,11,none⟩ (v11)).setCell ⟨r,12,none⟩ (v12)).setCell ⟨r,13,none⟩ (v13)).setCell ⟨r,14,none⟩ (v14)):=
 ((((((((((((((h.setCell hr v0).setCell hr v1).setCell hr v2).setCell hr v3).setCell hr v4).setCell hr v5).setCell hr v6).setCell hr v7).setCell hr v8).setCell hr v9).setCell hr v10).setCell hr v11).setCell hr v12).setCell hr v13).setCell hr v14
theorem QlL {k:Int} (h1:1<=k) (h4:k<=4):Calls prog 57 #[.int .i64 k] w fun e w'=>e=.returned (.agg (QaC (Qcv k) pl0))/\Bw w w':=by
 refine (Qnl k w).mono (fun e w' h=>?_);have e:Qcv k=⟨k,0,0,0,0,if k=2 then -1 else 0,0,[],[],0,0,[],[]⟩:=by unfold Qcv;rw [if_pos ⟨h1,h4⟩]
 rw [e] at h ⊢;exact h
theorem QuS {w2 W5:World} {G:Nat} {u:Value} {A:List Ce} (hr:OwnC w2 w.heap.size u A) (ho:CesO w2 w.heap.size A) (hb2:Bw w w2) (hb5:Bw w2 W5) (hG:w2.heap.size<=G) (ha:AgO W5 (G+1) c.g c.p)
  (hown:w6.ownsRow w.heap.size 75 15 v' (A.length+1) (flC A ++ ceL c)) (hg:(W5.alloc (.cells (Qan c) 75)).grownBy w6 u.ownBlock):OwnC w6 w.heap.size v' (A ++ [c])/\CesO w6 w.heap.size (A ++ [c])/\Bw w w6:=by
 have aa:Bw w2 (W5.alloc (.cells (Qan c) 75)):=hb5.alloc hb5.size _;have ab:Bw w (W5.alloc (.cells (Qan c) 75)):=hb2.trans (aa.mono hb2.size);have a2:Bw W5 (W5.alloc (.cells (Qan c) 75)):=bA;have hO:=ho.add aa hb2.size (c:=c) ((ha.past a2).le (by omega));have hR:OwnC (W5.alloc (.cells (Qan c) 75)) w.heap.size u A:=hr.past aa;have hp:(c :: A:List Ce).Perm (A ++ [c]):=(List.perm_append_singleton _ _).symm;exact ⟨OwnC.mk hown,(hO.row hR hg).perm hp,ab.grown hg ab.size (fun j hj=>(World.ownsRow.lt hr j hj).1)⟩
theorem QuF {w7 w8:World} {B:Nat} {v'':Value} {A M:List Ce} (hr:OwnC w6 B v' A) (ho:CesO w6 B A) (hB:B<=w6.heap.size) (hb:Below B w w6) (hb7:Bw w6 w7) (hM:CesO w7 w6.heap.size M)
  (hown:w8.ownsRow B 75 15 v'' (A.length+M.length) (flC A ++ flC M)) (hg:w7.grownBy w8 v'.ownBlock):OwnC w8 B v'' (A ++ M)/\CesO w8 B (A ++ M)/\Below B w w8:=by
 refine ⟨?_,(ho.app hb7 hB hM).row (hr.past hb7) hg,(hb.trans (hb7.mono hB)).grown hg (Nat.le_trans hB hb7.size) (fun j hj=>(World.ownsRow.lt hr j hj).1)⟩
 show w8.ownsRow _ _ _ _ _ _
 rw [List.length_append,Qer];exact hown
theorem Qgv {k:Int} (h1:1<=k) (h4:k<=4):agB (Qcv k)=true/\AgOk (Qcv k)/\AgSm (Qcv k)/\(Qcv k).k=k/\∀ w B,AgO w B (Qcv k) pl0:=by
 have e:Qcv k=⟨k,0,0,0,0,if k=2 then -1 else 0,0,[],[],0,0,[],[]⟩:=by unfold Qcv;rw [if_pos ⟨h1,h4⟩]
 have zi:I64 0:=by unfold I64;omega
 have zu:U64 0:=by unfold U64;omega
 refine ⟨?_,?_,?_,by rw [e],fun w B=>?_⟩
 ·have:k=1∨k=2∨k=3∨k=4:=by omega
  rcases this with rfl | rfl | rfl | rfl <;> rfl
 ·rw [e]
  exact ⟨by show I64 k;unfold I64;omega,zu,zi,zu,zi,by show I64 (if k=2 then -1 else 0);split <;> (unfold I64;omega),zu,zi,zu,(fun b hb=>by cases hb),(fun b hb=>by cases hb),(fun b hb=>by cases hb),(fun b hb=>by cases hb)⟩
 ·rw [e];exact ⟨ZZj _,ZZj _,ZZj _,ZZj _⟩
 ·rw [e];exact AgO.nil _ _ rfl rfl rfl rfl
theorem Qqm (h:Bw w0 w) (hr:w0.heap.size<=r) (v0 v1 v2 v3 v4 v5 v6 v7 v8 v9 v10 v11 v12:Value) :
  Bw w0 (((((((((((((w.setCell ⟨r,2,none⟩ (v0)).setCell ⟨r,3,none⟩ (v1)).setCell ⟨r,4,none⟩ (v2)).setCell ⟨r,5,none⟩ (v3)).setCell ⟨r,6,none⟩ (v4)).setCell ⟨r,7,none⟩ (v5)).setCell ⟨r,8,none⟩ (v6)).setCell ⟨r,9,none⟩ (v7)).setCell ⟨r,10,none⟩ (v8)).setCell ⟨r,11,none⟩ (v9)).setCell ⟨r,12,none⟩ (v10)).setCell ⟨r,13,none⟩ (v11)).setCell ⟨r,14,none⟩ (v12)):=
 ((((((((((((h.setCell hr v0).setCell hr v1).setCell hr v2).setCell hr v3).setCell hr v4).setCell hr v5).setCell hr v6).setCell hr v7).setCell hr v8).setCell hr v9).setCell hr v10).setCell hr v11).setCell hr v12
theorem Qq7 {N:Nat} {L:List Ce} (win:Int) (x:Sx) (hx:x.B=true) (ox:x.Ok) (hI:ShI w ao N L) (hca:N<=ca) (asc:AscC L) (rt:∀ c∈L,agB c.g=true) :
  Calls prog 81 #[.slice ao N ca,.int .i64 win,.agg (Qa3 x)] w fun e w'=>∃ v R code,e=.returned (.tuple #[v,.int .i64 code])/\PuA L win x R code/\OwnC w' w.heap.size v R/\CesO w' w.heap.size R/\Bw w w':=by
 obtain ⟨i0,hi,a9,bh,aW⟩:=Qe8;have II:=Qaa hI;have HX:=Qaa hx;have OX:=Qaa ox;have AS:=Qaa asc;have RT:=Qaa rt;have aD:Hid (Bw w (w.alloc (.cells (Qa3 x) 97))):=bA;have X0:=Qaa (ZZk w (.cells (Qa3 x) 97));have S0:Hid ((w.alloc (.cells (Qa3 x) 97)).heap.size=w.heap.size+1):=by show _=_;simp
 have z1:=QaX X0 1 rfl;obtain ⟨g0,aS⟩:∃ g,g=Qcv x.k:=⟨_,rfl⟩;obtain ⟨p0,bn⟩:∃ p,p=pl0:=⟨_,rfl⟩;have HG:=Qaa aS;have aL:=Qaa bn;have K1:=Qaa (QbR hx).1.1;have K4:=Qaa (QbR hx).1.2;clear hI hx ox asc rt aS bn;go_enter func81,ntmps81;go_wp2_with fail;clear z1;generalize w.alloc _=W0 at aD X0 S0 ⊢;refine (Qfg win x.se II.hN II.lN (QaP II.mem aD)).mono ?_;rintro e w1 ⟨k,is,rfl,hp,aE⟩;have HP:=Qaa hp;have ak:=Qaa (Qac aD aE);have X1:=Qaa (QbS X0 aE);have S1:Hid (w.heap.size+1<=w1.heap.size):=by show _<=_;have:=aE.size;have:=S0.out;omega
 have bJ:k<=N:=by have:=hp.le;have:=II.hN;omega
 clear hp aE aD X0 S0;have bK:(0:Int)<=(k:Int):=by omega
 have bI:(k:Int)<=(ca:Int):=by omega
 have aP:Hid ((L.take k).length=k):=by show _=_;rw [List.length_take];have:=II.hN;omega
 have lk:k<=1048576:=by have:=II.lN;omega
 cases is
 case' true=>
  obtain ⟨c,hc,hm,e1,e2,_⟩:=QkW AS HP;have bG:k<N:=by have:=(ZZd.1 hc).1;have:=II.hN;omega
  have bC:(k:Int)<(N:Int):=by omega
  obtain ⟨b,bs,e,ab⟩:=II.mem.1 (by have:=II.hN;omega);subst e;obtain ⟨_,_,y2,_⟩:=Qas (ab k c hc) ak;have HC:=Qaa hc;have HM:=Qaa hm;have E1:=Qaa e1;have E2:=Qaa e2;have bA:=Qaa ab;have z0:=QaX X1 0 rfl;clear hc hm e1 e2 ab;have bk:(c.g.k == x.k)=decide (c.g.k=x.k):=rfl;by_cases hk:c.g.k=x.k
  case' pos=>
   have HK:=Qaa hk;rw [decide_eq_true hk] at bk
  case' neg=>
   have HK:Hid (PuA L win x [] 9):=PuA.kind c HM E1 E2 hk;rw [decide_eq_false hk] at bk
  all_goals
   clear hk;go_upto_region 2 with fail
   go_region_held3 (fun W=>W.cell? ⟨b,bs+k*15+2,none⟩=some (.int .i64 c.g.k)/\W.cell? ⟨w.heap.size,0,none⟩=some (.int .i64 x.k))
    (exact ⟨by simpa using y2,by simpa using z0⟩)
    (fail)
   clear y2 z0
  ·go_wp2
   go_ret2;exact ⟨_,[],9,rfl,HK,World.ownsRow_nil _ _ _ _,CesO.nil _ _,ak.drew⟩
  have av:Hid (∀ (o:Ag) (q:Pl) (A M:List Ce),QbD c.g x o->A.map Ce.key=(L.take k).map Ce.key->M.map Ce.key=(L.drop (k+1)).map Ce.key->PuA L win x ((A ++ [⟨win,x.se,o,q⟩]) ++ M) 0):=Qaa (fun o q A M h hA hM=>PuA.there c o _ HM E1 E2 HK h (QtW AS HP hA hM));go_wp2_with fail
 case' false=>
  obtain ⟨_,hn⟩:=QoD AS HP;have a0:=Qaa hn;clear hn;go_upto_region 2 with fail;have aa:(fun _=>True) w1.drew:=trivial;refine Qal (fun _=>True) 99 (by kernel_rfl) ?_;refine tkS 0 (.bool false) aa ?_;refine tkS 1 (.bool false) aa ?_;refine tkU 2 aa ?_;simp only [sX];refine tkU 3 aa ?_;refine tkU 4 aa ?_;refine tkU 5 aa ?_;simp only [sX];refine tkU 6 aa ?_;refine tkU 7 aa ?_;refine tkU 8 aa ?_;simp only [sX];refine tkU 9 aa ?_;refine tkU 10 aa ?_;refine tkS 11 (.bool false) aa ?_;simp only [sX];refine dnE ?_ _;clear aa;by_cases hf:60<=N
  case pos=>
   have HR:Hid (PuA L win x [] 8):=PuA.full a0 (by have:=II.hN;omega);have bf:decide ((60:Int)<=(N:Int))=true:=ZZh (by omega);clear hf;go_wp2;go_ret2;exact ⟨_,[],8,rfl,HR,World.ownsRow_nil _ _ _ _,CesO.nil _ _,ak.drew⟩
  have bf:decide ((60:Int)<=(N:Int))=false:=ZZg (by omega);have HF:=Qaa hf;clear hf;have av:Hid (∀ (o:Ag) (q:Pl) (A M:List Ce),QbD g0 x o->A.map Ce.key=(L.take k).map Ce.key->M.map Ce.key=(L.drop k).map Ce.key->PuA L win x ((A ++ [⟨win,x.se,o,q⟩]) ++ M) 0):=Qaa (fun o q A M h hA hM=>PuA.new o _ a0 (by have:=HF.out;have:=II.hN;omega) (HG.out ▸ h) (ptl_no AS HP hA hM));go_wp2_with fail
 all_goals
  refine (Qcm (L:=L.take k) aP lk (fun d hd=>II.sm d (ZZo hd)) (fun d hd=>II.pl d (ZZo hd)) (QaP (Qq3 II.mem) ak.drew)).mono ?_;rintro e w2 ⟨vA,A,rfl,hr,ho,aQ,aN,bl⟩;have aC:=Qaa (Qac ak.drew aN);have X2:=Qaa (QbS (w:=w1.drew) X1 aN);have aH:=Qaa (hr.le ak.drew.size);have be:=Qaa (ho.le ak.drew.size);have bo:=Qaa aQ;have bM:=Qaa bl;clear hr ho aQ bl aN;go_upto_region 7 with fail
  go_cut [11] (fun v w'=>∃ G:Nat,v=.pointer (some ⟨G,0,none⟩)/\Hid (w'.heap[G]?=some (.cells (Qan ⟨win,x.se,g0,p0⟩) 75 (0,0)))/\Hid (w2.heap.size<=G)/\Hid (Bw w2 w'))
  case first=>
   have aa:(fun W=>Bw w2 W) w2.drew:=(ZZb _ _).drew;refine Qal (fun W=>Bw w2 W) 8 (by kernel_rfl) ?_;refine tkS 0 (.int .i64 win) aa ?_;refine tkS 1 (.pointer (some ⟨w.heap.size,1,none⟩)) aa ?_;refine tkL 2 (.string x.se) aa (fun W hW=>?_) ?_
   ·have q:=QaX (QbS X2 hW) 1 rfl
    clear hW;go_simp
   simp only [sX];refine tkS 3 (.pointer (some ⟨w.heap.size,0,none⟩)) aa ?_;refine tkL 4 (.int .i64 x.k) aa (fun W hW=>?_) ?_
   ·have q:=QaX (QbS X2 hW) 0 rfl
    clear hW;go_simp
   simp only [sX];refine QqX (i:=5) (j:=7) (by kernel_rfl) rfl rfl (fun K hK=>?_) (fun K hK=>?_)
   focus
    go_simp;refine (QlL K1 K4).mono ?_;rintro e w3 ⟨rfl,am⟩;rw [<- HG.out,<- aL.out];have ax:Hid (Bw w2 w3):=(aa:Bw w2 _).trans (am.mono (aa:Bw w2 _).size);clear am
    try dsimp only
    refine gK hK ax.out ?_
    try simp only [sX]
    refine tkS 6 (.agg (Qan ⟨win,x.se,g0,p0⟩)) ax ?_;simp only [sX];refine onE 7 fun K hK=>?_;go_simp;have al:Hid (Bw w2 (w3.alloc (.cells QbC 75))):=ax.alloc ax.size _;have R0:=Qaa (ZZk w3 (.cells QbC 75))
    try dsimp only
    refine gK hK al.out ?_
    try simp only [sX]
    have hG:Hid (w2.heap.size<=w3.heap.size):=ax.size;generalize w3.alloc _=Wa at al R0 ⊢
   rotate_left
   focus
    go_simp;have aA:Hid (Bw w2 (w2.alloc (.cells QbC 75)).drew):=((ZZb _ _).alloc (ZZa _) _).drew;have R1:Hid ((w2.alloc (.cells QbC 75)).drew.heap[w2.heap.size]?=some (.cells QbC 75 (0,0))):=ZZk w2 (.cells QbC 75)
    try dsimp only
    refine gK hK aA.out ?_
    try simp only [sX]
    generalize (w2.alloc _).drew=Wb at aA R1 ⊢;refine onE 5 fun K hK=>?_;go_simp;refine (QlL K1 K4).mono ?_;rintro e Wa ⟨rfl,am⟩;rw [<- HG.out,<- aL.out];have al:Hid (Bw w2 Wa):=aA.trans (am.mono aA.size);have R0:=Qaa (QbS R1 am);have hG:Hid (w2.heap.size<=w2.heap.size):=ZZa _;clear am R1 aA
    try dsimp only
    refine gK hK al.out ?_
    try simp only [sX]
    refine tkS 6 (.agg (Qan ⟨win,x.se,g0,p0⟩)) al ?_;simp only [sX]
   all_goals
    obtain ⟨q0,q1,q2,q3,q4,q5,q6,q7,q8,q9,ad,af,ae,ag,ah⟩:=QuH R0;obtain ⟨f0,f1,f2,f3,f4,f5,f6,f7,f8,f9,aB,an,az,au,aq⟩:=fA15 R0;refine onE 8 fun K hK=>?_;go_simp;clear q0 q1 q2 q3 q4 q5 q6 q7 q8 q9 ad af ae ag ah;clear f0 f1 f2 f3 f4 f5 f6 f7 f8 f9 aB an az au aq;refine hK.out _ _ (fun h=>absurd rfl h) ?_
    try simp only [sX]
    refine dnE ?_ _;go_wp2;go_meet;exact ⟨_,rfl,Qaa (rowAll R0 _ _ _ _ _ _ _ _ _ _ _ _ _ _ _),hG,Qaa (QrO al hG _ _ _ _ _ _ _ _ _ _ _ _ _ _ _)⟩
  obtain ⟨G,rfl,RG,GG,BG⟩:=hcut
 focus
  obtain ⟨a1,a2,a3,a4,a5⟩:=Qgv K1 K4;obtain ⟨W9,bu⟩:∃ X,X=wc:=⟨_,rfl⟩;subst bu;have R9:=RG;have B9:=BG;have HQ:Hid (agB g0=true/\g0.k=x.k/\AgOk g0/\AgSm g0/\PlG g0 p0/\AgAt W9 g0 p0):=Qaa (by rw [HG.out,aL.out];exact ⟨a1,a4,a2,a3,(a5 w2 0).plgP,(a5 _ 0).at⟩);clear a1 a2 a3 a4 a5 RG BG;go_upto_region 10 with fail
 rotate_left
 focus
  obtain ⟨_,_,y2,y3,y4,y5,y6,y7,y8,y9,bD,bw,bz,bE,bt⟩:=Qas (bA.out k c HC) (Qac aC BG);obtain ⟨q0,q1,q2,q3,q4,q5,q6,q7,q8,q9,ad,af,ae,ag,ah⟩:=QuH RG;obtain ⟨f0,f1,f2,f3,f4,f5,f6,f7,f8,f9,aB,an,az,au,aq⟩:=fA15 RG;go_upto_region 10 with fail;clear y2 y3 y4 y5 y6 y7 y8 y9 bD bw bz bE bt;clear q0 q1 q2 q3 q4 q5 q6 q7 q8 q9 ad af ae ag ah;clear f0 f1 f2 f3 f4 f5 f6 f7 f8 f9 aB an az au aq;generalize hW:World.setCell _ _ _=W9;have R9:Hid (W9.heap[G]?=some (.cells (Qan ⟨win,x.se,c.g,c.p⟩) 75 (0,0))):=Qaa (by rw [<- hW];exact Qrb RG);have B9:Hid (Bw w2 W9):=Qaa (by rw [<- hW];exact Qqm BG GG _ _ _ _ _ _ _ _ _ _ _ _ _);clear hW RG BG;have HQ:Hid (agB c.g=true/\c.g.k=x.k/\AgOk c.g/\AgSm c.g/\PlG c.g c.p/\AgAt W9 c.g c.p):=Qaa ⟨RT.out c HM,HK,II.ok c HM,II.sm c HM,II.pl c HM,QaI (II.mem.2 c HM) (Qac aC B9)⟩
 all_goals
  have X9:=Qaa (QbS X2 B9);obtain ⟨s0,s1,s2,s3,s4,s5,s6⟩:=cells7 X9;obtain ⟨q0,q1,q2,q3,q4,q5,q6,q7,q8,q9,ad,af,ae,ag,ah⟩:=QuH R9;go_wp2_with fail;clear s0 s1 s2 s3 s4 s5 s6;clear q0 q1 q2 q3 q4 q5 q6 q7 q8 q9 ad af ae ag ah;refine (QhS x HQ.1 HX HQ.2.1 HQ.2.2.1 OX HQ.2.2.2.1 HQ.2.2.2.2.1 HQ.2.2.2.2.2).mono ?_;rintro e w4 ⟨v,o,rfl,ay,⟨q,rfl,aX⟩,aI⟩;have R4:=Qaa (QbS R9 aI);have B4:=Qaa (B9.trans (aI.mono B9.size));have aG:=Qaa ay;have a6:=Qaa (aX.le (show G+1<=W9.heap.size from (ZZc.1 R9).1));clear ay aX aI R9 B9 HQ X9;obtain ⟨q0,q1,q2,q3,q4,q5,q6,q7,q8,q9,ad,af,ae,ag,ah⟩:=QuH R4;obtain ⟨f0,f1,f2,f3,f4,f5,f6,f7,f8,f9,aB,an,az,au,aq⟩:=fA15 R4;go_upto_region 11 with fail;clear q0 q1 q2 q3 q4 q5 q6 q7 q8 q9 ad af ae ag ah;clear f0 f1 f2 f3 f4 f5 f6 f7 f8 f9 aB an az au aq;generalize hW:World.setCell _ _ _=W5;have R5:Hid (W5.heap[G]?=some (.cells (Qan ⟨win,x.se,o,q⟩) 75 (0,0))):=Qaa (by rw [<- hW];exact Qrb R4);have B5:Hid (Bw w2 W5):=Qaa (by rw [<- hW];exact Qqm B4 GG _ _ _ _ _ _ _ _ _ _ _ _ _);have O5:Hid (AgO W5 (G+1) o q):=Qaa (by rw [<- hW];exact a6.kept15 (Nat.lt_succ_self _));clear hW R4 B4 a6;obtain ⟨q0,q1,q2,q3,q4,q5,q6,q7,q8,q9,ad,af,ae,ag,ah⟩:=QuH R5;have bj:=Qaa (aH.past B5);have aF:Hid (A.length=k):=by show _=_;have:=congrArg List.length bo;simp at this;have:=aP.out;simp at this;omega
  have bL:w.heap.size<=W5.heap.size:=Nat.le_trans aC.size B5.size;have a8:=Qaa (fun v' w6=>QuS (c:=⟨win,x.se,o,q⟩) (v':=v') (w6:=w6) aH be aC B5 GG O5);go_wp2_with (at_builtin;refine wpList_append_own _ rfl _ _ 35 rfl w.heap.size 75 i0 (.agg QbC) 15 192 underlying35 hi a9 bh aW rfl (by decide) _ _ _ rfl (World.ownsRow.alloc bj _) ⟨W5.heap.size,0,none⟩ 1 1 (ceL ⟨win,x.se,o,q⟩) rfl rfl ?c1 ?c2 ?c3 ?c4 ?c5 ?_)
  case c1=>first | exact QbO (c:=⟨win,x.se,o,q⟩) | exact fun j u hj=>hj
  case c2=>exact QcK _
  case c3=>have:=aF.out;unfold maxLen;omega
  case c4=>have:=aF.out;omega
  case c5=>first | (simp;omega) | omega
  intro v6 w6 aj ac aw;obtain ⟨bg,aR,aJ⟩:=a8.out v6 w6 aj ac;have aT:=Qaa bg;have bq:=Qaa aR;have bb:=Qaa aJ;have ba:w.heap.size<=w6.heap.size:=aJ.size;clear aj ac aw bg aR aJ a8 bj aH be O5 R5 B5;clear q0 q1 q2 q3 q4 q5 q6 q7 q8 q9 ad af ae ag ah
 focus
  have bN:(0:Int)<=(k:Int)+1:=by omega
  have bH:(k:Int)+1<=(N:Int):=by omega
  have bF:IntKind.i64.wrap ((k:Int)+1)=(k:Int)+1:=ZZi _ ⟨by omega,by omega⟩;have aM:Hid ((L.drop (k+1)).length=N - (k+1)):=by show _=_;rw [List.length_drop,II.hN]
  have ld:N - (k+1)<=1048576:=by have:=II.lN;omega
  have D1:=Qmz (k:=k+1) (ca:=ca) II.mem (by have:=II.hN;omega);by_cases ar:ca=k+1
  case' pos=>rw [if_pos ar] at D1
  case' neg=>
   rw [if_neg ar] at D1;simp only [Option.map_some,Addr.add] at D1
  all_goals have bd:=Qaa D1
 rotate_left 2
 focus
  have aM:Hid ((L.drop k).length=N - k):=by show _=_;rw [List.length_drop,II.hN]
  have ld:N - k<=1048576:=by have:=II.lN;omega
  have D1:=Qmz (k:=k) (ca:=ca) II.mem (by have:=II.hN;omega);by_cases ar:ca=k
  case' pos=>rw [if_pos ar] at D1
  case' neg=>rw [if_neg ar] at D1
  all_goals have bd:=Qaa D1
 all_goals
  clear D1;go_wp2_with fail;refine (Qcm aM ld (fun d hd=>II.sm d (ZZp hd)) (fun d hd=>II.pl d (ZZp hd)) (QaP bd bb)).mono ?_;rintro e w7 ⟨vB,M,rfl,a7,bm,aO,aK,aZ⟩;obtain ⟨gB,cB,rfl,aU⟩:=a7.src aZ;have bx:=Qaa aU;have bB:=Qaa bm;have bv:=Qaa aO;have bc:=Qaa aK;have aY:=Qaa ((Qjc aO).trans aM);have aV:=Qaa (aT.past bc);have br:w.heap.size<=w7.heap.size:=Nat.le_trans ba aK.size;have bp:=Qaa (fun v'' w8=>QuF (v'':=v'') (w8:=w8) aT bq ba bb bc bB);clear aU bm aO aK a7 aZ;go_wp2_with (at_builtin;refine wpList_append_own _ rfl _ _ 35 rfl w.heap.size 75 i0 (.agg QbC) 15 192 underlying35 hi a9 bh aW rfl (by decide) _ _ _ rfl aV ⟨gB,0,none⟩ M.length cB (flC M) rfl (QbE M) bx (QdX M) ?c3 ?c4 br ?_)
  case c3=>have:=aF.out;have:=aY.out;have:=II.lN;simp only [List.length_append,List.length_cons,List.length_nil];unfold maxLen;omega
  case c4=>have:=aF.out;have:=aY.out;have:=II.lN;simp only [List.length_append,List.length_cons,List.length_nil];omega
  intro v8 w8 ai bi ap;obtain ⟨f1,f2,f3⟩:=bp.out v8 w8 (by rw [List.length_append];exact ai) bi;have F1:=Qaa f1;have F2:=Qaa f2;have F3:=Qaa f3;clear f1 f2 f3 ai bi ap bp aV;go_wp2;go_ret2;exact ⟨_,_,0,rfl,av.out _ _ _ _ aG bo bv,F1,F2,F3⟩
end
section
theorem Qte (h:cRi c=true):agB c.g=true:=by
 unfold cRi at h;simp only [yB] at h
 first | exact h.1.2 | exact h.2 | exact h.1.1.2 | exact h.2.1 | exact h.2.2
end
section
theorem QhL (L:List Bn):(Qbl L).length<=30:=by
 unfold Qbl
 split
 ·assumption
 ·have hd:(L.drop (L.length - 30)).length=30:=by rw [List.length_drop];omega
  split
  ·rename_i h;rw [h] at hd;simp at hd
  ·rename_i h;rw [h] at hd;simp at hd ⊢; omega
def AgFew (o:Ag):Prop:=o.P.length<=30/\o.N.length<=30/\o.E.length<=64/\o.R.length<=64
theorem AgFew.sm (h:AgFew o):AgSm o:=⟨by have:=h.1;omega,by have:=h.2.1;omega,by have:=h.2.2.1;omega,by have:=h.2.2.2;omega⟩
theorem QmR (h:AgMrg g g' o):AgFew o:=by
 unfold AgMrg at h
 split at h
 ·rename_i hg
  obtain ⟨E,R,m,rfl⟩:=h;have n:=QbG hg.1;have n':=QbG hg.2.1;have m':Qn3 g.E g.R g'.E g'.R E R:=by unfold Qn3;rw [if_pos ⟨n.hl,n'.hl⟩];exact m
  have l:=QiI (QjC n.hl n'.hl m');exact ⟨QhL _,QhL _,by show E.length<=_;omega,by show R.length<=_;omega⟩
 ·subst h
  exact ⟨by simp [Qgt],by simp [Qgt],by simp [Qgt],by simp [Qgt]⟩
theorem Qmx (h:QbD g x o) (hx:x.B=true) (hg:agB g=true) (hk:g.k=x.k):AgFew o:=by
 unfold QbD at h
 split at h
 ·exact QmR h
 ·rename_i q;exact absurd (by first | exact ⟨hg,hx,hk⟩ | exact ⟨hg,hk,hx⟩ | exact ⟨⟨hg,hx⟩,hk⟩) q
end
section
theorem QtT {A R:List Ce} (h:PtL A n s o R) (a:AscC A):AscC R:=by
 refine QgT (L:=A.filter (loF n s) ++ ⟨n,s,o,⟨none,0,none,0,none,0,none,0⟩⟩ :: A.filter (hiF n s)) ?_ (QkT (c:=⟨n,s,o,⟨none,0,none,0,none,0,none,0⟩⟩) a);rw [List.map_append,List.map_cons];exact h
structure CnQ (M:List Ce):Prop where
 ok:∀ c∈M,AgOk c.g
 sm:∀ c∈M,AgSm c.g
 rt:∀ c∈M,agB c.g=true
 ky:∀ c∈M,Qnq c.n c.s
theorem CnQ.keys {M L:List Ce} (h:CnQ L) (k:M.map Ce.key=L.map Ce.key):CnQ M:=by
 refine ⟨fun c hc=>?_,fun c hc=>?_,fun c hc=>?_,fun c hc=>?_⟩ <;> obtain ⟨d,hd,e1,e2,e3⟩:=QoY k hc
 ·rw [<- e3];exact h.ok d hd
 ·rw [<- e3];exact h.sm d hd
 ·rw [<- e3];exact h.rt d hd
 ·rw [<- e1,<- e2];exact h.ky d hd
theorem CnQ.ptl {A R:List Ce} (q:CnQ A) (h:PtL A n s o R) (k:Qnq n s) (ok:AgOk o) (sm:AgSm o) (rt:agB o=true):CnQ R:=by
 refine CnQ.keys (L:=A.filter (loF n s) ++ ⟨n,s,o,⟨none,0,none,0,none,0,none,0⟩⟩ :: A.filter (hiF n s)) ?_ (by rw [List.map_append,List.map_cons];exact h)
 have aa:∀ c∈A.filter (loF n s) ++ ⟨n,s,o,⟨none,0,none,0,none,0,none,0⟩⟩ :: A.filter (hiF n s),c∈A∨c=⟨n,s,o,⟨none,0,none,0,none,0,none,0⟩⟩:=fun c hc=>by
  rcases List.mem_append.1 hc with hc | hc
  ·exact .inl (List.mem_filter.1 hc).1
  ·rcases List.mem_cons.1 hc with rfl | hc
   ·exact .inr rfl
   ·exact .inl (List.mem_filter.1 hc).1
 refine ⟨fun c hc=>?_,fun c hc=>?_,fun c hc=>?_,fun c hc=>?_⟩ <;> rcases aa c hc with hc | rfl
 ·exact q.ok c hc
 ·exact ok
 ·exact q.sm c hc
 ·exact sm
 ·exact q.rt c hc
 ·exact rt
 ·exact q.ky c hc
 ·exact k
end
variable {R':List Ce}
section
theorem QlQ (h:x.B=true):Qbt x.se=true:=by
 unfold Sx.B QbK at h;simp only [yB] at h;exact h.1.1.1.2
theorem Qog (h:QbD g x o) (hg:agB g=true) (hx:x.B=true) (hk:g.k=x.k) (ok:AgOk g) (ox:x.Ok):o.s≠0:=by
 unfold QbD at h;rw [if_pos (by first | exact ⟨hg,hx,hk⟩ | exact ⟨hg,hk,hx⟩)] at h;unfold AgMrg at h
 split at h
 ·obtain ⟨E,R,m,rfl⟩:=h
  show Qbf g.s (QhI x).s≠0
  have e:(QhI x).s=1:=by unfold QhI;split <;> first | rfl | (split <;> first | rfl | (split <;> rfl))
  rw [e];have:=ok.s;unfold U64 at this;unfold Qbf
  split <;> omega
 ·rename_i q
  exact absurd ⟨hg,Qcn ox hx,hk.trans (QhO hx).symm⟩ q
theorem Qpt {R:List Ce} (r:csR R=true) (h:PtL R n s o R') (hn:Qjn n=true) (hs:Qbt s=true) (ho:agB o=true) (hz:o.s≠0) (hl:R'.length<=60):csR R'=true:=by
 obtain ⟨h1,h2,h3⟩:=csR_iff.1 r;refine csR_iff.2 ⟨hl,fun c hc=>?_,QtT h h3⟩;have h':R'.map Ce.key=(R.filter (loF n s) ++ ⟨n,s,o,⟨none,0,none,0,none,0,none,0⟩⟩ :: R.filter (hiF n s)).map Ce.key:=by rw [List.map_append,List.map_cons];exact h
 obtain ⟨d,hd,e1,e2,e3⟩:=QoY h' hc;have e:cRi c=cRi d:=by unfold cRi;rw [e1,e2,e3]
 rw [e];rcases List.mem_append.1 hd with hd | hd
 ·exact h2 d (List.mem_filter.1 hd).1
 ·rcases List.mem_cons.1 hd with rfl | hd
  ·unfold cRi
   simp [hn,hs,ho,hz]
  ·exact h2 d (List.mem_filter.1 hd).1
theorem Qri {R:List Ce} (r:csR R=true) (q:CnQ R) (ox:x.Ok) (hx:x.B=true) (hn:Qjn n=true) (p:PuA R n x R' 0):csR R'=true/\CnQ R':=by
 have aa:=(csR_iff.1 r).2.2;have kw:Qnq n x.se:=⟨Qo2 hn,ox.se⟩;generalize hc0:(0:Int)=c0 at p
 cases p with
 | kind=>exact absurd hc0 (by decide)
 | full=>exact absurd hc0 (by decide)
 | there c o R' hc k1 k2 hk hp hR=>
  obtain ⟨a1,a2,_⟩:=Qgw ox (q.ok c hc) hp
  have hl:R'.length<=60:=by
   have e:=congrArg List.length hR;simp only [yA,List.length_append,List.length_cons] at e;have sp:=congrArg List.length (Qjs aa hc);rw [k1,k2] at sp;simp only [List.length_append,List.length_cons] at sp;have:=(csR_iff.1 r).1;omega
  exact ⟨Qpt r hR hn (QlQ hx) (a2 (q.rt c hc)) (Qog hp (q.rt c hc) hx hk (q.ok c hc) ox) hl,q.ptl hR kw a1 (Qmx hp hx (q.rt c hc) hk).sm (a2 (q.rt c hc))⟩
 | new o R' hno hl hp hR=>
  obtain ⟨b1,b4⟩:=(QbR hx).1;obtain ⟨g1,g2,g3,g4,_⟩:=Qgv b1 b4;obtain ⟨a1,a2,_⟩:=Qgw ox g2 hp
  have ab:R'.length<=60:=by
   have e:=congrArg List.length hR;simp only [yA,List.length_append,List.length_cons] at e;have:=(QpB hno).length_eq;simp only [List.length_append] at this;omega
  exact ⟨Qpt r hR hn (QlQ hx) (a2 g1) (Qog hp g1 hx g4 g2 ox) ab,q.ptl hR kw a1 (Qmx hp hx g1 g4).sm (a2 g1)⟩
end
section
theorem cnq_of {N:Nat} {L:List Ce} (h:ShI w ao N L) (r:csR L=true):CnQ L:=⟨h.ok,h.sm,fun c hc=>Qte ((csR_iff.1 r).2.1 c hc),QnF h r⟩
end
end Go.Proofs.YtlejlgldgafljaaGreatDoor
