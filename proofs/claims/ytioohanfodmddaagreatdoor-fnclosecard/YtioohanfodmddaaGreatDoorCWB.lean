/-
 Parts.
-/
import Derived.Test.YtioohanfodmddaaGreatDoorCZW
import Derived.Test.YtioohanfodmddaaGreatDoorCWA
set_option maxRecDepth 10000
set_option maxHeartbeats 16000000
set_option linter.all false
namespace Go.Proofs.YtioohanfodmddaaGreatDoor
open Go.ChangeShapes Go.WideShapes Go.ChangeAt Go.RowKit Go.PlainAid Go.Maps Go.Lib Tryz
theorem mBf {p:Prop} (h:p:=by
 refine AgO.le (B:=w.heap.size+1+1+1) ?_ oB
 repeat (first | refine AgO.below ?_ oB _ | refine AgO.setNe ?_ ar _)
 exact ax.out):p:=h
theorem mBy {p:Prop} (h:p:=by
 rw [HE.1,HE.2];clear HE;go_enter func109,ntmps109;go_wp2;refine bodyPost_ret (v:=.agg (Qau ⟨k,s,h,l,a',t',z,P,N,x,y,E,R⟩ p)) (by simp [results,results109,go_sem]) rfl ⟨rfl,?_⟩
 repeat (refine Below.setCell ?_ oE _)
 exact HB.out _ _):p:=h
theorem mB5 {p:Prop} (h:p:=by
 unfold Qbe
 split
 ·assumption
 ·have hd:(L.drop (L.length - 30)).length=30:=by rw [List.length_drop];omega
  split
  ·rename_i h;rw [h] at hd;simp at hd
  ·rename_i h;rw [h] at hd;simp at hd ⊢; omega):p:=h
theorem mD4 {p:Prop} (h:p:=by
 unfold PtL;rw [List.map_append,List.map_append,hA,hB,Qfc hL h,e,List.append_assoc]
 rfl):p:=h
theorem mEe {p:Prop} (h:p:=by rw [a1,a2,a3,a4,a5,c1,c2,d1,d2,k];exact this):p:=h
section
theorem QjE:∀ (l:List Int) (x:Int),l.Pairwise (· < ·)->(QcC l x).Pairwise (· < ·)
 | [],x,_=>by simp [QcC]
 | y :: r,x,h=>by
  have hr:=List.pairwise_cons.1 h;unfold QcC
  split
  ·rename_i hlt
   refine List.pairwise_cons.2 ⟨fun z hz=>?_,QjE r x hr.2⟩;rcases (Qge z r x).1 hz with h' | h'
   ·omega
   ·exact hr.1 z h'
  ·split
   ·exact h
   ·rename_i h1 h2
    refine List.pairwise_cons.2 ⟨fun z hz=>?_,h⟩;rcases List.mem_cons.1 hz with h' | h'
    ·omega
    ·have:=hr.1 z h'; omega
theorem Qqf (m:List Int):∀ l:List Int,l.Pairwise (· < ·)->(Qka l m).Pairwise (· < ·):=by
 induction m with
 | nil=>intro l h;exact h
 | cons x m ih=>intro l h;exact ih _ (QjE l x h)
theorem QdE (z:Int) (m:List Int):∀ l:List Int,z∈Qka l m↔z∈l∨z∈m:=by
 induction m with
 | nil=>intro l;simp [Qka]
 | cons x m ih=>
  intro l
  show z∈Qka (QcC l x) m↔_
  rw [ih,Qge,List.mem_cons];constructor
  ·rintro ((h | h) | h) <;> simp [h]
  ·rintro (h | h | h) <;> simp [h]
end
section
def PutH (E R:List Int) (x:Int) (E' R':List Int):Prop:=if hlB E R=true then Mg E R [x] [] E' R' else E'=E/\R'=R
def Qoq (E1 R1 E2 R2 E R:List Int):Prop:=if hlB E1 R1=true/\hlB E2 R2=true then Mg E1 R1 E2 R2 E R else E=[]/\R=[]
end
variable {A B B1 B2 E E1 E2 F R R1 R2 S T U U1 U2:List Int}
section
theorem QmR (h:upN E1=true) (E2:List Int):QnN E1 E2=Qka E1 E2:=by
 unfold QnN;rw [Qjm (l:=[]) (by simpa using Qgd h)];rfl
theorem QrH (x:Int) (E1 E2:List Int):x∈QnN E1 E2↔x∈E1∨x∈E2:=by
 unfold QnN;rw [QdE,QdE];simp
theorem Qja (h:R.length=64):Qil R=R:=by unfold Qil;rw [if_neg oB]
end
variable {g1 g2:Prop}
section
def zer:List Int:=List.replicate 64 0
theorem Qu7:zer.length=64:=by simp [zer]
theorem Qpe (i:Nat):zer.getD i 0=0:=by
 unfold zer;rw [List.getD_eq_getElem?_getD,List.getElem?_replicate];split <;> rfl
theorem QvP (hA:A.length=64) (hB:B.length=64) (h:∀ i,i<64->A.getD i 0=B.getD i 0):A=B:=by
 apply List.ext_getElem oB;intro i h1 h2;have:=h i oB;rw [List.getD_eq_getElem?_getD,List.getD_eq_getElem?_getD,List.getElem?_eq_getElem h1,List.getElem?_eq_getElem h2] at this;exact this
theorem QqA:Qfo zer:=⟨Qu7,fun i _=>by rw [Qpe];omega⟩
theorem mx_ok (a:Qfo A) (b:Qfo B):Qfo (mxx A B):=⟨by rw [QkF];exact a.1,fun i hi=>by
 rw [Qnh a.1 i hi];have:=a.2 i hi;have:=b.2 i hi;omega⟩
theorem QtG (a:Qfo A):mxx A zer=A:=
 QvP (by rw [QkF];exact a.1) a.1 fun i hi=>by rw [Qnh a.1 i hi,Qpe];have:=a.2 i hi;omega
structure Can (g:Prop) (U B E R:List Int):Prop where
 rise:U.Pairwise (· < ·)
 okB:Qfo B
 no:¬ g->B=zer
 few:¬ g->U.length<=40->E=U/\R=[]
 many:g∨40<U.length->E=[]/\Laid B (·∈U) R
theorem QdT:∀ {L:List Int},L.Pairwise (· < ·)->upN L=true
 | [],_=>rfl
 | [x],_=>rfl
 | x :: y :: r,h=>by
  have a:=List.pairwise_cons.1 h;simp only [upN,yB,decide_eq_true_eq];exact ⟨a.1 y oE,QdT a.2⟩
theorem Qu0 (h:Qhv R=true):Qfo R:=by
 unfold Qhv at h;simp only [yB,decide_eq_true_eq] at h;refine ⟨h.1,fun i hi=>?_⟩;have aa:i<R.length:=oB
 have:=List.all_eq_true.1 h.2 (R[i]) (List.getElem_mem aa);rw [List.getD_eq_getElem?_getD,List.getElem?_eq_getElem aa]
 simpa [inR] using this
theorem Qv0 (h:Qfo R):Qhv R=true:=by
 unfold Qhv;simp only [yB,decide_eq_true_eq];refine ⟨h.1,List.all_eq_true.2 fun x hx=>?_⟩;obtain ⟨i,hi,rfl⟩:=List.getElem_of_mem hx;have:=h.2 i (by rw [<- h.1];exact hi);rw [List.getD_eq_getElem?_getD,List.getElem?_eq_getElem hi] at this
 simpa [inR] using this
theorem Can.self (h:hlB E R=true):Can (R.length≠0) E (Qil R) E R:=by
 rcases Qkq h with ⟨rfl,hu⟩ | ⟨aa,rfl⟩
 ·refine ⟨Qgd hu,?_,fun _=>rfl,fun _ _=>⟨rfl,rfl⟩,fun q=>?_⟩
  ·exact QqA
  ·rcases q with q | q
   ·exact absurd rfl q
   ·have:=(Qi5 h).1;omega
 ·have hp:Qil R=R:=Qja aa
  have hr:Qhv R=true:=by
   unfold hlB at h;rw [if_neg oB] at h;simp only [yB] at h;exact h.2
  refine ⟨List.Pairwise.nil,by rw [hp];exact Qu0 hr,fun q=>absurd oB q,fun q=>absurd oB q,fun _=>⟨rfl,?_⟩⟩;rw [hp];exact Laid.start R (fun x hx=>by simp at hx)
theorem Can.right {g:Prop} (h:Can g U B E R):hlB E R=true:=by
 by_cases q:g∨40<U.length
 ·obtain ⟨rfl,b⟩:=h.many q
  have ok:=b.ok h.okB;unfold hlB;rw [if_neg (by rw [ok.1];omega),Qv0 ok];rfl
 ·have q2:U.length<=40:=by omega
  obtain ⟨rfl,rfl⟩:=h.few (fun x=>q (.inl x)) q2;unfold hlB exB;rw [if_pos (by rfl:([]:List Int).length=0),QdT h.rise]
  simpa using q2
theorem Can.part {g:Prop} (h:Can g U B E R):∃ S:Int->Prop,Laid B S (Qil R)/\∀ x,x∈U↔S x∨x∈E:=by
 by_cases q:g∨40<U.length
 ·obtain ⟨rfl,b⟩:=h.many q
  exact ⟨(·∈U),by rw [Qja (b.ok h.okB).1];exact b,fun x=>by simp⟩
 ·have q2:U.length<=40:=by omega
  obtain ⟨rfl,rfl⟩:=h.few (fun x=>q (.inl x)) q2;refine ⟨fun _=>False,?_,fun x=>by simp⟩;rw [h.no (fun x=>q (.inl x))];exact Laid.start zer (fun _ x=>x)
theorem Qh2 {l m:List Int} (hl:l.Pairwise (· < ·)):∀ {k:List Int},k.Pairwise (· < ·)->(∀ x,x∈l->x∈k)->l.length<=k.length:=by
 intro k hk hs;have n:l.Nodup:=hl.imp fun h e=>by omega
 exact n.length_le_of_subset hs
theorem QuT (a:Qfo A) (hR:R.length=0∨R.length=64):mxL A R R.length=mxx A (Qil R):=by
 rcases hR with h | h
 ·obtain rfl:=List.eq_nil_of_length_eq_zero h
  rw [List.length_nil,Qji];exact (QtG a).symm
 ·rw [h,Qja h];rfl
theorem mg_can (h1:Can g1 U1 B1 E1 R1) (h2:Can g2 U2 B2 E2 R2) (hM:Mg E1 R1 E2 R2 E R):Can (g1∨g2) (Qka U1 U2) (mxx B1 B2) E R:=by
 have rise:=Qqf U2 U1 h1.rise;have ae:U1.length<=(Qka U1 U2).length:=Qh2 (m:=[]) h1.rise rise fun x hx=>(QdE x U2 U1).2 (.inl hx);have ad:U2.length<=(Qka U1 U2).length:=Qh2 (m:=[]) h2.rise rise fun x hx=>(QdE x U2 U1).2 (.inr hx);have ac:g1∨40<U1.length->R1.length=64:=fun q=>by obtain ⟨_,b⟩:=h1.many q;exact (b.ok h1.okB).1
 have aa:g2∨40<U2.length->R2.length=64:=fun q=>by obtain ⟨_,b⟩:=h2.many q;exact (b.ok h2.okB).1
 refine ⟨rise,mx_ok h1.okB h2.okB,fun q=>?_,fun q1 q2=>?_,fun q=>?_⟩
 ·rw [h1.no (fun x=>q (.inl x)),h2.no (fun x=>q (.inr x))];exact QtG QqA
 ·obtain ⟨rfl,rfl⟩:=h1.few (fun x=>q1 (.inl x)) oB
  obtain ⟨rfl,rfl⟩:=h2.few (fun x=>q1 (.inr x)) oB;have e:QnN E1 E2=Qka E1 E2:=QmR (QdT h1.rise) E2;rcases hM with ⟨_,_,_,a,b⟩ | ⟨a,_⟩
  ·exact ⟨a.trans e,b⟩
  ·exact absurd ⟨rfl,rfl,by rw [e];exact q2⟩ a
 ·rcases hM with ⟨a,b,c,_,_⟩ | ⟨a,rfl,c⟩
  ·have n1:¬ (g1∨40<U1.length):=fun q=>by have:=ac q;omega
   have n2:¬ (g2∨40<U2.length):=fun q=>by have:=aa q;omega
   obtain ⟨rfl,rfl⟩:=h1.few (fun x=>n1 (.inl x)) oB;obtain ⟨rfl,rfl⟩:=h2.few (fun x=>n2 (.inl x)) oB;rw [QmR (QdT h1.rise) E2] at c;rcases q with (q | q) | q
   ·exact absurd (.inl q) n1
   ·exact absurd (.inl q) n2
   ·omega
  ·obtain ⟨S1,l1,s1⟩:=h1.part
   obtain ⟨S2,l2,s2⟩:=h2.part;refine ⟨rfl,?_⟩;have ab:R2.length=0∨R2.length=64:=(Qi5 h2.right).2;rw [QuT (l1.ok h1.okB) ab] at c;refine (Laid.two h1.okB h2.okB l1 l2 (fun x=>Iff.rfl)).trans c (fun x=>?_);rw [QdE,QrH,s1 x,s2 x];constructor
   ·rintro ((h | h) | (h | h)) <;> simp [h]
   ·rintro ((h | h) | (h | h)) <;> simp [h]
theorem Can.hash (x:Int):Can False [x] zer [x] []:=⟨by simp,QqA,fun _=>rfl,fun _ _=>⟨rfl,rfl⟩,fun q=>by rcases q with q | q;exact q.elim;simp at q⟩
theorem Qpm (h1:Can g1 U1 B1 E1 R1) (h2:Can g2 U2 B2 E2 R2) (hM:Qoq E1 R1 E2 R2 E R):Can (g1∨g2) (Qka U1 U2) (mxx B1 B2) E R:=by
 unfold Qoq at hM;rw [if_pos ⟨h1.right,h2.right⟩] at hM;exact mg_can h1 h2 hM
theorem Can.sub {g:Prop} (h:Can g U B E R):∀ x∈E,x∈U:=fun x hx=>by
 by_cases q:g∨40<U.length
 ·obtain ⟨rfl,_⟩:=h.many q;simp at hx
 ·obtain ⟨rfl,_⟩:=h.few (fun x=>q (.inl x)) oB;exact hx
theorem QjV (h:hlB E R=true) (k:hlB F S=true) (p:Qoq E R F S A T):hlB A T=true:=(Qpm (Can.self h) (Can.self k) p).right
theorem QvZ (u:∀ y∈E,U64 y) (v:∀ y∈F,U64 y) (p:Qoq E R F S A T):∀ y∈A,U64 y:=by
 by_cases hb:hlB E R=true/\hlB F S=true
 ·intro y hy
  have:=(Qpm (Can.self hb.1) (Can.self hb.2) p).sub y hy;rw [QdE] at this;exact this.elim (u y) (v y)
 ·unfold Qoq at p
  rw [if_neg hb] at p;rw [p.1];intro y hy;simp at hy
end
section
def Qf4 (L:List Bn):Prop:=∀ (i j:Nat) (x y:Bn),L[i]?=some x->L[j]?=some y->i<j->x.1<y.1
end
variable {y:Bn}
section
def Qox (x:Bn):List Bn->List Bn
 | []=>[x]
 | y :: r=>if y.1<x.1 then y :: Qox x r else if y.1=x.1 then (y.1,Qbb y.2 x.2) :: r else x :: y :: r
theorem rise_cons {r:List Bn}:Qf4 (y :: r)↔(∀ x∈r,y.1<x.1)/\Qf4 r:=by
 constructor
 ·intro h
  refine ⟨fun x hx=>?_,fun i j a b ha hb aa=>h (i+1) (j+1) a b (by simpa using ha) xF oB⟩;obtain ⟨j,hj⟩:=List.getElem?_of_mem hx;exact h 0 (j+1) y x rfl (by simpa using hj) oB
 ·rintro ⟨h1,h2⟩ i j a b ha hb aa
  cases i with
  | zero=>
   obtain rfl:y=a:=by simpa using ha
   cases j with
   | zero=>omega
   | succ j=>exact h1 b (List.mem_of_getElem? xF)
  | succ i=>
   cases j with
   | zero=>omega
   | succ j=>exact h2 i j a b (by simpa using ha) xF oB
theorem Qff:Qf4 []:=fun i j a b ha=>by simp at ha
theorem QoU {x:Bn}:∀ {L:List Bn} {z:Bn},z∈Qox x L->z=x∨z∈L∨∃ y∈L,y.1=x.1/\z=(y.1,Qbb y.2 x.2)
 | [],z,h=>by simp [Qox] at h;exact .inl h
 | y :: r,z,h=>by
  unfold Qox at h
  split at h
  ·rcases List.mem_cons.1 h with rfl | h
   ·exact .inr (.inl (List.mem_cons_self ..))
   ·rcases QoU h with h | h | ⟨q,hq,e,e2⟩
    ·exact .inl h
    ·exact .inr (.inl (ZZm _ h))
    ·exact .inr (.inr ⟨q,ZZm _ hq,e,e2⟩)
  ·split at h
   ·rename_i e
    rcases List.mem_cons.1 h with rfl | h
    ·exact .inr (.inr ⟨y,List.mem_cons_self ..,e,rfl⟩)
    ·exact .inr (.inl (ZZm _ h))
   ·rcases List.mem_cons.1 h with rfl | h
    ·exact .inl rfl
    ·exact .inr (.inl h)
theorem QmH {x:Bn}:∀ {L:List Bn},Qf4 L->Qf4 (Qox x L)
 | [],_=>by rw [Qox];exact rise_cons.2 ⟨fun z hz=>by simp at hz,Qff⟩
 | y :: r,h=>by
  obtain ⟨h1,h2⟩:=rise_cons.1 h;unfold Qox
  split
  ·rename_i hlt
   refine rise_cons.2 ⟨fun z hz=>?_,QmH h2⟩;rcases QoU hz with rfl | hz | ⟨q,hq,e,rfl⟩
   ·exact hlt
   ·exact h1 z hz
   ·exact h1 q hq
  ·split
   ·exact rise_cons.2 ⟨fun z hz=>h1 z hz,h2⟩
   ·refine rise_cons.2 ⟨fun z hz=>?_,h⟩
    rcases List.mem_cons.1 hz with rfl | hz
    ·omega
    ·have:=h1 z hz;omega
def QqE (L M:List Bn):List Bn:=M.foldl (fun s x=>Qox x s) L
theorem Qgv:∀ {M L:List Bn},Qf4 L->Qf4 (QqE L M)
 | [],L,h=>h
 | x :: r,L,h=>Qgv (M:=r) (QmH h)
end
variable {L N P a b:List Bn}
section
theorem Qe3 {x:Bn} (h:∀ y∈b,x.1<y.1):mrg (x :: a) b=x :: mrg a b:=by
 cases b with
 | nil=>rw [QbU,QbU]
 | cons y r=>exact Qh7 (h y (List.mem_cons_self ..))
theorem Qpo {y:Bn} {M:List Bn} (hM:∀ z∈M,y.1<z.1):∀ P:List Bn,mrg (Qox y P) M=mrg P (y :: M)
 | []=>by rw [Qox,Qdv,Qe3 hM,Qdv]
 | x :: r=>by
  unfold Qox
  split
  ·rename_i h
   rw [Qh7 h,Qe3 (fun z hz=>by have:=hM z hz;omega),Qpo hM r]
  ·split
   ·rename_i h
    rw [Qj4 h,Qe3 (fun z hz=>by have:=hM z hz;show x.1<z.1;omega)]
   ·rw [Qkg oB,Qe3 hM]
theorem QhP:∀ {N P:List Bn},Qf4 N->QqE P N=mrg P N
 | [],P,_=>by rw [QbU];rfl
 | y :: N,P,h=>by
  obtain ⟨h1,h2⟩:=rise_cons.1 h
  show QqE (Qox y P) N=_
  rw [QhP h2,Qpo h1]
end
section
def QuD (P N:List Bn) (v wt:Int):Prop:=skB P N=true/\(-999999999999999999<=v/\v<=999999999999999999)/\wt≠0
end
section
theorem Qna:∀ {L:List Bn} {q:Int},Qbx q L=true->Qf4 L/\∀ x∈L,q<x.1
 | [],_,_=>⟨Qff,fun x hx=>by simp at hx⟩
 | y :: r,q,h=>by
  simp only [Qbx,yB,decide_eq_true_eq] at h;obtain ⟨⟨⟨h1,h2⟩,h3⟩,h4⟩:=h;obtain ⟨k1,k2⟩:=Qna h4;refine ⟨rise_cons.2 ⟨k2,k1⟩,fun x hx=>?_⟩;rcases List.mem_cons.1 hx with rfl | hx
  ·exact h1
  ·have:=k2 x hx;omega
theorem Qk2 (h:QaT L=true):Qf4 L/\L.length<=30:=by
 unfold QaT at h;simp only [yB,decide_eq_true_eq] at h;exact ⟨(Qna h.2).1,h.1⟩
theorem QpM (h:skB P N=true):(Qf4 P/\P.length<=30)/\Qf4 N/\N.length<=30:=by
 unfold skB at h;simp only [yB] at h;exact ⟨Qk2 h.1,Qk2 h.2⟩
theorem Qr6 (x:Bn):Qf4 [x]:=rise_cons.2 ⟨fun y hy=>by simp at hy,Qff⟩
end
variable {g g' o:Ag}
variable {a' m n t t' v:Int}
section
def Qje (a t a' t':Int):Bool:=decide (t<t') || ((t' == t) && decide (a<a'))
def gA (a t a' t':Int):Int:=if Qje a t a' t'=true then a' else a
def gT (a t a' t':Int):Int:=if Qje a t a' t'=true then t' else t
def QvF (g g':Ag) (E R:List Int):Ag:=⟨g.k,Qbb g.s g'.s,QeV g.h g.l g'.h g'.l,QfH g.l g'.l,if g.k=2 then gA g.a g.t g'.a g'.t else 0,if g.k=2 then gT g.a g.t g'.a g'.t else 0,Qbb g.z g'.z,Qbe (mrg g.P g'.P),Qbe (mrg g.N g'.N),QeV g.x g.y g'.x g'.y,QfH g.y g'.y,E,R⟩
def AgMrg (g g' o:Ag):Prop:=if agB g=true/\agB g'=true/\g.k=g'.k then ∃ E R,Mg g.E g.R g'.E g'.R E R/\o=QvF g g' E R else o=Qg1
structure AgNo (g:Ag):Prop where
 k1:1<=g.k
 k4:g.k<=4
 sk:skB g.P g.N=true
 hl:hlB g.E g.R=true
 nc:g.k≠1->g.h=0/\g.l=0
 ng:g.k≠2->g.a=0/\g.t=0
 nh:g.k≠3->g.z=0/\g.x=0/\g.y=0/\g.P=[]/\g.N=[]
 ns:g.k≠4->g.E=[]/\g.R=[]
theorem Qbz (h:agB g=true):AgNo g:=by
 unfold agB at h;simp only [yB,Bool.or_eq_true,decide_eq_true_eq,beq_iff_eq,Qb0,Qfp] at h;obtain ⟨⟨⟨⟨⟨⟨⟨h1,h2⟩,h3⟩,h4⟩,h5⟩,h6⟩,h7⟩,h8⟩:=h;refine ⟨h1,h2,h3,h4,fun n=>?_,fun n=>?_,fun n=>?_,fun n=>?_⟩
 ·rcases h5 with h | h
  ·exact absurd h n
  ·simpa [Qhu] using h
 ·rw [if_neg n] at h8;simpa using h8
 ·exact h6.elim (fun e=>absurd e n) id
 ·exact h7.elim (fun e=>absurd e n) id
theorem Qmy:Mg [] [] [] [] [] []:=.inl ⟨rfl,rfl,by simp [QnN,Qka],rfl,rfl⟩
theorem QeC:Qbe (mrg [] [])=[]:=by simp [mrg,Qbe]
theorem Qgj:Qbb 0 0=0:=oF
theorem QdN:QeV 0 0 0 0=0:=by decide +kernel
theorem QdL:QfH 0 0=0:=oF
theorem mrgC (h:agB g=true) (h':agB g'=true) (e:g.k=g'.k) (k:g.k=1):AgMrg g g' ⟨1,Qbb g.s g'.s,QeV g.h g.l g'.h g'.l,QfH g.l g'.l,0,0,0,[],[],0,0,[],[]⟩:=by
 have n:=Qbz h;have n':=Qbz h';unfold AgMrg;rw [if_pos ⟨h,h',e⟩];obtain ⟨a1,a2,a3,a4,a5⟩:=n.nh oB;obtain ⟨b1,b2,b3,b4,b5⟩:=n'.nh oB;obtain ⟨c1,c2⟩:=n.ns oB;obtain ⟨d1,d2⟩:=n'.ns oB;refine ⟨[],[],by rw [c1,c2,d1,d2];exact Qmy,?_⟩;unfold QvF;rw [if_neg oB,if_neg oB,a1,a2,a3,a4,a5,b1,b2,b3,b4,b5,k,QeC,Qgj,QdN,QdL]
theorem mrgG (h:agB g=true) (h':agB g'=true) (e:g.k=g'.k) (k:g.k=2):AgMrg g g' ⟨2,Qbb g.s g'.s,0,0,gA g.a g.t g'.a g'.t,gT g.a g.t g'.a g'.t,0,[],[],0,0,[],[]⟩:=by
 have n:=Qbz h;have n':=Qbz h';unfold AgMrg;rw [if_pos ⟨h,h',e⟩];obtain ⟨a1,a2,a3,a4,a5⟩:=n.nh oB;obtain ⟨b1,b2,b3,b4,b5⟩:=n'.nh oB;obtain ⟨c1,c2⟩:=n.ns oB;obtain ⟨d1,d2⟩:=n'.ns oB;obtain ⟨e1,e2⟩:=n.nc oB;obtain ⟨f1,f2⟩:=n'.nc oB;refine ⟨[],[],by rw [c1,c2,d1,d2];exact Qmy,?_⟩;unfold QvF;rw [if_pos k,if_pos k,a1,a2,a3,a4,a5,b1,b2,b3,b4,b5,e1,e2,f1,f2,k,QeC,Qgj,QdN,QdL]
theorem mrgH (h:agB g=true) (h':agB g'=true) (e:g.k=g'.k) (k:g.k=3):AgMrg g g' ⟨3,Qbb g.s g'.s,0,0,0,0,Qbb g.z g'.z,Qbe (mrg g.P g'.P),Qbe (mrg g.N g'.N),QeV g.x g.y g'.x g'.y,QfH g.y g'.y,[],[]⟩:=by
 have n:=Qbz h;have n':=Qbz h';unfold AgMrg;rw [if_pos ⟨h,h',e⟩];obtain ⟨c1,c2⟩:=n.ns oB;obtain ⟨d1,d2⟩:=n'.ns oB;obtain ⟨e1,e2⟩:=n.nc oB;obtain ⟨f1,f2⟩:=n'.nc oB;refine ⟨[],[],by rw [c1,c2,d1,d2];exact Qmy,?_⟩;unfold QvF;rw [if_neg oB,if_neg oB,e1,e2,f1,f2,k,QdN,QdL]
theorem mrgS (h:agB g=true) (h':agB g'=true) (e:g.k=g'.k) (k:g.k=4) (m:Qoq g.E g.R g'.E g'.R E R):AgMrg g g' ⟨4,Qbb g.s g'.s,0,0,0,0,0,[],[],0,0,E,R⟩:=by
 have n:=Qbz h;have n':=Qbz h';unfold AgMrg;rw [if_pos ⟨h,h',e⟩];obtain ⟨a1,a2,a3,a4,a5⟩:=n.nh oB;obtain ⟨b1,b2,b3,b4,b5⟩:=n'.nh oB;obtain ⟨e1,e2⟩:=n.nc oB;obtain ⟨f1,f2⟩:=n'.nc oB;unfold Qoq at m;rw [if_pos ⟨n.hl,n'.hl⟩] at m;refine ⟨E,R,m,?_⟩;unfold QvF;rw [if_neg oB,if_neg oB,a1,a2,a3,a4,a5,b1,b2,b3,b4,b5,e1,e2,f1,f2,k,QeC,Qgj,QdN,QdL]
theorem QiL {a:Int} (h:Qje a t a' t'=true):gA a t a' t'=a'/\gT a t a' t'=t':=⟨if_pos h,if_pos h⟩
theorem Qnx {a:Int} (h:¬ Qje a t a' t'=true):gA a t a' t'=a/\gT a t a' t'=t:=⟨if_neg h,if_neg h⟩
end
section
def Qcs (k:Int):Ag:=if 1<=k/\k<=4 then ⟨k,0,0,0,0,if k=2 then -1 else 0,0,[],[],0,0,[],[]⟩ else ⟨0,0,0,0,0,0,0,[],[],0,0,[],[]⟩
abbrev Qm5 (kd t:Int):Value:=.agg #[.int .i64 kd,.int .u64 0,.int .i64 0,.int .u64 0,.int .i64 0,.int .i64 t,.int .u64 0,.slice none 0 0,.slice none 0 0,.int .i64 0,.int .u64 0,.slice none 0 0,.slice none 0 0]
theorem QfE (n lo hi:Int) (w:World):Calls prog 31 #[.int .i64 n,.int .i64 lo,.int .i64 hi] w fun e w'=>e=.returned (.bool (decide (lo<=n) && decide (n<=hi)))/\w'=w:=by
 by_cases h1:lo<=n <;> by_cases h2:n<=hi <;> (go_enter func31,ntmps31;go_wp2;go_ret;exact ⟨by simp [h1,h2],rfl⟩)
theorem Qn0 (k:Int) (w:World):Calls prog 51 #[.int .i64 k] w fun e w'=>e=.returned (Qm5 (Qcs k).k (Qcs k).t)/\Bw w w':=by
 by_cases aa:1<=k/\k<=4
 ·have hb:(decide (1<=k) && decide (k<=4))=true:=by simp [aa.1,aa.2]
  by_cases h2:k=2
  ·have HE:Hid ((Qcs k).k=k/\(Qcs k).t=-1):=by unfold Qcs;rw [if_pos aa];exact ⟨rfl,by simp [h2]⟩
   have b2:(k == 2)=true:=by simp [h2]
   clear aa h2;go_enter func51,ntmps51;go_wp2_with (go_at_call 31;refine (QfE _ _ _ _).mono ?_;rintro e w1 ⟨rfl,hw⟩;subst hw;rw [hb]);exact bodyPost_ret (v:=Qm5 k (-1)) (by simp [results,results51,go_sem]) rfl ⟨by rw [HE.1,HE.2],((Below.refl _ _).alloc (Nat.le_refl _) _).alloc oE _⟩
  ·have HE:Hid ((Qcs k).k=k/\(Qcs k).t=0):=by unfold Qcs;rw [if_pos aa];exact ⟨rfl,by simp [h2]⟩
   have b2:(k == 2)=false:=ZZf.2 h2;clear aa h2;go_enter func51,ntmps51;go_wp2_with (go_at_call 31;refine (QfE _ _ _ _).mono ?_;rintro e w1 ⟨rfl,hw⟩;subst hw;rw [hb]);exact bodyPost_ret (v:=Qm5 k 0) (by simp [results,results51,go_sem]) rfl ⟨by rw [HE.1,HE.2],((Below.refl _ _).alloc (Nat.le_refl _) _).alloc oE _⟩
 ·have hb:(decide (1<=k) && decide (k<=4))=false:=by
   rw [Bool.eq_false_iff];intro hh;simp at hh;exact aa hh
  have HE:Hid ((Qcs k).k=0/\(Qcs k).t=0):=by unfold Qcs;rw [if_neg aa];exact ⟨rfl,rfl⟩
  clear aa;go_enter func51,ntmps51;go_wp2_with (go_at_call 31;refine (QfE _ _ _ _).mono ?_;rintro e w1 ⟨rfl,hw⟩;subst hw;rw [hb]);exact bodyPost_ret (v:=Qm5 0 0) (by simp [results,results51,go_sem]) rfl ⟨by rw [HE.1,HE.2],(Below.refl _ _).alloc (Nat.le_refl _) _⟩
end
section
def QlT (t:Int):Int:=if 18446744073709551615<t then 18446744073709551615 else t
def Qns (L:List Bn):Int:=(L.map (fun x=>x.2)).sum
theorem Qr1 (a b:Int):Qbb a b=QlT (a+b):=rfl
theorem Qve {a b:Int} (ha:0<=a) (hb:0<=b):QlT (QlT a+b)=QlT (a+b):=by
 unfold QlT
 split <;> split <;> omega
theorem QeK (x:Bn) (L:List Bn):Qns (x :: L)=x.2+Qns L:=by simp [Qns]
theorem QsL:Qns []=0:=rfl
theorem Qsy (a b:List Bn):Qns (a ++ b)=Qns a+Qns b:=by simp [Qns,List.sum_append]
theorem Qis:∀ {L:List Bn},(∀ x∈L,Qb4 x)->0<=Qns L
 | [],_=>by simp [Qns]
 | x :: L,h=>by
  rw [QeK];have h1:=(h x (List.mem_cons_self ..)).2.1;have h2:=Qis (L:=L) (fun y hy=>h y (ZZm _ hy));omega
theorem QjG:∀ {L:List Bn} {x:Int},0<=x->(∀ y∈L,Qb4 y)->Qdi (QlT x) L=QlT (x+Qns L)
 | [],x,hx,_=>by simp [Qdi,Qns]
 | y :: L,x,hx,h=>by
  have h1:=(h y (List.mem_cons_self ..)).2.1
  show Qdi (Qbb (QlT x) y.2) L=_
  rw [Qr1,Qve hx h1,QjG oB (fun z hz=>h z (List.mem_cons_of_mem _ hz)),QeK,Int.add_assoc]
def Qtk (m:Int) (L:List Bn):List Bn:=L.filter (fun x=>decide (x.1<=m))
def Ql6 (m:Int) (L:List Bn):List Bn:=L.filter (fun x=>decide (m<x.1))
theorem QpD {x:Bn} (h:x.1<=m):Qtk m (x :: L)=x :: Qtk m L:=by simp [Qtk,h]
theorem QoZ {x:Bn} (h:x.1<=m):Ql6 m (x :: L)=Ql6 m L:=List.filter_cons_of_neg oH
theorem Qs4 (h:∀ x∈L,m<x.1):Ql6 m L=L:=List.filter_eq_self.2 (fun x hx=>ZZh (h x hx))
theorem QsB (h:∀ x∈L,m<x.1):Qtk m L=[]:=List.filter_eq_nil_iff.2 (fun x hx=>by have:=h x hx;simp;omega)
theorem Qm6:∀ (n:Nat) (a b:List Bn),a.length+b.length<=n->(∀ x∈a,Qb4 x)->(∀ x∈b,Qb4 x)->∀ x∈mrg a b,Qb4 x
 | _,[],b,_,_,kb=>by rw [Qdv];exact kb
 | _,y :: a,[],_,ka,_=>by rw [QbU];exact ka
 | 0,y :: a,z :: b,h,_,_=>by simp at h
 | n+1,y :: a,z :: b,h,ka,kb=>by
  simp only [List.length_cons] at h;have ka':∀ x∈a,Qb4 x:=fun u hu=>ka u (ZZm _ hu);have kb':∀ x∈b,Qb4 x:=fun u hu=>kb u (ZZm _ hu);have uy:=ka y (List.mem_cons_self ..);have uz:=kb z (List.mem_cons_self ..);intro x hx;rcases Int.lt_trichotomy y.1 z.1 with c | c | c
  ·rw [Qh7 c] at hx
   rcases List.mem_cons.1 hx with rfl | hx
   ·exact uy
   ·exact Qm6 n a (z :: b) (by simp only [List.length_cons];omega) ka' kb x hx
  ·rw [Qj4 c] at hx
   rcases List.mem_cons.1 hx with rfl | hx
   ·exact ⟨uy.1,QiQ uy.2 uz.2⟩
   ·exact Qm6 n a b oB ka' kb' x hx
  ·rw [Qkg c] at hx
   rcases List.mem_cons.1 hx with rfl | hx
   ·exact uz
   ·exact Qm6 n (y :: a) b (by simp only [List.length_cons];omega) ka kb' x hx
theorem Qtt (h:∀ x∈L,Qb4 x):∀ x∈Qtk m L,Qb4 x:=fun x hx=>h x (List.mem_filter.1 hx).1
theorem QuG (h:∀ x∈L,Qb4 x):∀ x∈Ql6 m L,Qb4 x:=fun x hx=>h x (List.mem_filter.1 hx).1
theorem Qj6:∀ {L:List Bn} {k:Nat} {x:Bn},Qf4 L->L[k]?=some x->Qtk x.1 L=L.take (k+1)/\Ql6 x.1 L=L.drop (k+1)
 | [],k,x,_,h=>by simp at h
 | y :: r,0,x,hr,h=>by
  obtain rfl:y=x:=oU
  have hc:=rise_cons.1 hr;rw [QpD (Int.le_refl _),QoZ (Int.le_refl _),QsB hc.1,Qs4 hc.1];simp
 | y :: r,k+1,x,hr,h=>by
  have hc:=rise_cons.1 hr;have hx:r[k]?=some x:=oU
  have aa:=hc.1 x (ZZn hx);obtain ⟨h1,h2⟩:=Qj6 hc.2 hx;rw [QpD oB,QoZ oB,h1,h2];simp
theorem Qmz (hr:Qf4 L) (hk:∀ x∈L,Qb4 x) (h:30<L.length) :
  ∃ m,(∃ y∈L,y.1=m)/\Qbe L=(m,QlT (Qns (Qtk m L))) :: Ql6 m L/\(Ql6 m L).length=29:=by
 obtain ⟨x,hx⟩:∃ x,L[L.length - 30]?=some x:=⟨L[L.length - 30]'oB,ZZe _⟩;obtain ⟨h1,h2⟩:=Qj6 hr hx;refine ⟨x.1,⟨x,List.mem_of_getElem? hx,rfl⟩,?_,by rw [h2,List.length_drop];omega⟩
 have hd:L.drop (L.length - 30)=x :: L.drop (L.length - 30+1):=by
  rw [List.drop_eq_getElem_cons oB,(List.getElem?_eq_some_iff.1 hx).2]
 unfold Qbe;rw [if_neg oB,hd];simp only;rw [h1,h2];have ux:=(hk x (ZZn hx)).2;have e0:x.2=QlT x.2:=by unfold QlT;unfold U64 at ux;split <;> omega
 have e1:L.take (L.length - 30+1)=L.take (L.length - 30) ++ [x]:=by rw [List.take_add_one,hx];rfl
 rw [e1,Qsy,QeK,QsL]
 congr 2
 have:=QjG (x:=x.2) (L:=L.take (L.length - 30)) ux.1 (fun y hy=>hk y (ZZo hy));rw [<- e0] at this;rw [this]
 congr 1;omega
end
section
theorem Qmf (ha:Qf4 a) (hb:Qf4 b):Qf4 (mrg a b):=by rw [<- QhP hb];exact Qgv ha
theorem Qen (p:Bn->Bool):∀ {L:List Bn},Qf4 L->Qf4 (L.filter p)
 | [],_=>Qff
 | y :: r,h=>by
  have hc:=rise_cons.1 h;by_cases k:p y=true
  ·rw [List.filter_cons_of_pos k]
   exact rise_cons.2 ⟨fun x hx=>hc.1 x (List.mem_filter.1 hx).1,Qen p hc.2⟩
  ·rw [List.filter_cons_of_neg k]
   exact Qen p hc.2
theorem cap_in (h:0<=t):U64 (QlT t):=by unfold QlT U64;split <;> omega
theorem Qra (hr:Qf4 L) (hk:∀ x∈L,Qb4 x):Qf4 (Qbe L)/\∀ x∈Qbe L,Qb4 x:=by
 by_cases c:30<L.length
 ·obtain ⟨m,⟨y,hy,ey⟩,e,h2⟩:=Qmz hr hk c
  rw [e];refine ⟨rise_cons.2 ⟨fun x hx=>of_decide_eq_true (List.mem_filter.1 hx).2,Qen _ hr⟩,fun x hx=>?_⟩;rcases List.mem_cons.1 hx with rfl | hx
  ·exact ⟨by show I64 m;rw [<- ey];exact (hk y hy).1,cap_in (Qis (Qtt hk))⟩
  ·exact QuG hk x hx
 ·unfold Qbe;rw [if_pos oB];exact ⟨hr,hk⟩
end
section
def BnR (x:Bn):Prop:=0<x.1/\x.1<=6878/\x.2≠0
theorem Qj5:∀ {L:List Bn} {q:Int},Qbx q L=true↔Qf4 L/\∀ x∈L,q<x.1/\x.1<=6878/\x.2≠0
 | [],q=>⟨fun _=>⟨Qff,fun x hx=>by simp at hx⟩,fun _=>rfl⟩
 | y :: r,q=>by
  simp only [Qbx,yB,decide_eq_true_eq,Qj5 (L:=r)];constructor
  ·rintro ⟨⟨⟨h1,h2⟩,h3⟩,h4,h5⟩
   refine ⟨rise_cons.2 ⟨fun x hx=>(h5 x hx).1,h4⟩,fun x hx=>?_⟩;rcases List.mem_cons.1 hx with rfl | hx
   ·exact ⟨h1,h2,h3⟩
   ·have:=h5 x hx;exact ⟨by omega,this.2⟩
  ·rintro ⟨h1,h2⟩
   have h0:=h2 y List.mem_cons_self;exact ⟨⟨⟨h0.1,h0.2.1⟩,h0.2.2⟩,(rise_cons.1 h1).2,fun x hx=>⟨(rise_cons.1 h1).1 x hx,(h2 x (ZZm _ hx)).2⟩⟩
theorem binsB_iff:QaT L=true↔L.length<=30/\Qf4 L/\∀ x∈L,BnR x:=by
 unfold QaT BnR;simp only [yB,decide_eq_true_eq,Qj5]
theorem QvE {a b:Int} (ha:U64 a) (hb:U64 b) (h:a≠0):Qbb a b≠0:=by unfold Qbb;unfold U64 at *; split <;> omega
theorem mrg_R (ka:∀ x∈a,Qb4 x) (kb:∀ x∈b,Qb4 x) (ha:∀ x∈a,BnR x) (hb:∀ x∈b,BnR x):∀ z∈mrg a b,BnR z:=by
 induction a,b using mrg.induct with
 | case1 b=>rw [Qdv];exact hb
 | case2 x a=>rw [QbU];exact ha
 | case3 x a y b h ih=>
  rw [Qh7 h];intro z hz;rcases List.mem_cons.1 hz with rfl | hz
  ·exact ha _ List.mem_cons_self
  ·exact ih (fun u hu=>ka u (ZZm _ hu)) kb (fun u hu=>ha u (ZZm _ hu)) hb z hz
 | case4 x a y b h h' ih=>
  rw [Qkg h'];intro z hz;rcases List.mem_cons.1 hz with rfl | hz
  ·exact hb _ List.mem_cons_self
  ·exact ih ka (fun u hu=>kb u (ZZm _ hu)) ha (fun u hu=>hb u (ZZm _ hu)) z hz
 | case5 x a y b h h' ih=>
  rw [Qj4 oB];intro z hz;rcases List.mem_cons.1 hz with rfl | hz
  ·have h1:=ha x List.mem_cons_self
   exact ⟨h1.1,h1.2.1,QvE (ka x List.mem_cons_self).2 (kb y List.mem_cons_self).2 h1.2.2⟩
  ·exact ih (fun u hu=>ka u (ZZm _ hu)) (fun u hu=>kb u (ZZm _ hu)) (fun u hu=>ha u (ZZm _ hu)) (fun u hu=>hb u (ZZm _ hu)) z hz
theorem Qu2 (hk:∀ x∈L,Qb4 x) (hy:y∈L):y.2<=Qns L:=by
 induction L with
 | nil=>simp at hy
 | cons x r ih=>
  have h0:=Qis (fun z hz=>hk z (ZZm _ hz));have h1:=(hk x List.mem_cons_self).2.1;rw [QeK];rcases List.mem_cons.1 hy with rfl | hy
  ·omega
  ·have:=ih (fun z hz=>hk z (ZZm _ hz)) hy;omega
theorem keep_R (hr:Qf4 L) (hk:∀ x∈L,Qb4 x) (hR:∀ x∈L,BnR x):∀ x∈Qbe L,BnR x:=by
 by_cases h:30<L.length
 ·obtain ⟨m,⟨y,hy,rfl⟩,e,_⟩:=Qmz hr hk h
  rw [e];intro x hx;have h1:=hR y hy;rcases List.mem_cons.1 hx with rfl | hx
  ·have aa:y∈Qtk y.1 L:=List.mem_filter.2 ⟨hy,ZZh (Int.le_refl _)⟩
   have h2:=Qu2 (Qtt (m:=y.1) hk) aa;have h3:=(hk y hy).2.1;have h4:=h1.2.2;exact ⟨h1.1,h1.2.1,by show QlT _≠0;unfold QlT;split <;> omega⟩
  ·exact hR x (List.mem_filter.1 hx).1
 ·have:Qbe L=L:=by unfold Qbe;rw [if_pos oB]
  rw [this];exact hR
theorem Qod (L:List Bn):(Qbe L).length<=30:=by
 exact mB5
theorem Qgb {A B:List Bn} (hA:QaT A=true) (hB:QaT B=true) (kA:∀ x∈A,Qb4 x) (kB:∀ x∈B,Qb4 x):QaT (Qbe (mrg A B))=true/\∀ x∈Qbe (mrg A B),Qb4 x:=by
 obtain ⟨_,a2,a3⟩:=binsB_iff.1 hA;obtain ⟨_,b2,b3⟩:=binsB_iff.1 hB;have kM:=Qm6 _ A B (ZZa _) kA kB;have g:=Qra (Qmf a2 b2) kM;exact ⟨binsB_iff.2 ⟨Qod _,g.1,keep_R (Qmf a2 b2) kM (mrg_R kA kB a3 b3)⟩,g.2⟩
theorem skB_and:skB P N=true↔QaT P=true/\QaT N=true:=by unfold skB;simp
theorem sk_mrg {P' N':List Bn} (h:skB P N=true) (h':skB P' N'=true) (kP:∀ x∈P,Qb4 x) (kN:∀ x∈N,Qb4 x) (kP':∀ x∈P',Qb4 x) (kN':∀ x∈N',Qb4 x) :
  skB (Qbe (mrg P P')) (Qbe (mrg N N'))=true:=
 skB_and.2 ⟨(Qgb (skB_and.1 h).1 (skB_and.1 h').1 kP kP').1,(Qgb (skB_and.1 h).2 (skB_and.1 h').2 kN kN').1⟩
end
section
structure T5 where
 z:Int
 P:List Bn
 N:List Bn
 h:Int
 l:Int
def T5.M (a b:T5):T5:=⟨Qbb a.z b.z,Qbe (mrg a.P b.P),Qbe (mrg a.N b.N),QeV a.h a.l b.h b.l,QfH a.l b.l⟩
structure T5.Ok (a:T5):Prop where
 hz:U64 a.z
 hl:U64 a.l
 kP:∀ x∈a.P,Qb4 x
 kN:∀ x∈a.N,Qb4 x
structure T5.Good (a:T5):Prop extends T5.Ok a where
 sk:skB a.P a.N=true
def QsX (v w:Int):T5:=⟨if v=0 then w else 0,if 0<v then [(Qdg v,w)] else [],if v<0 then [(Qdg (-v),w)] else [],thH v w,thL v w⟩
theorem Qvo {v:Nat} (h:1<=v):1<=Qdf v:=by
 unfold Qdf;split <;> omega
theorem binI_1 (h:1<=v) (h2:v<=999999999999999999):1<=Qdg v:=by
 rw [Qgr h h2];have:=Qvo (v:=v.toNat) oB;omega
theorem QjY:QaT []=true:=oF
theorem Qk7 {w:Int} (h:1<=v) (h2:v<=999999999999999999) (hw:w≠0):QaT [(Qdg v,w)]=true:=by
 refine binsB_iff.2 ⟨by simp,Qr6 _,fun x hx=>?_⟩;obtain rfl:=List.mem_singleton.1 hx;exact ⟨by have:=binI_1 h h2;show 0<Qdg v;omega,(Qi2 v).2,hw⟩
theorem Qrj {w:Int} (hw:U64 w):∀ x∈[(Qdg v,w)],Qb4 x:=fun x hx=>by
 obtain rfl:=List.mem_singleton.1 hx;have:=Qi2 v;exact ⟨by show I64 (Qdg v);unfold I64;omega,hw⟩
theorem QmY {w:Int} (hv:-999999999999999999<=v/\v<=999999999999999999) (hw:U64 w) (h0:w≠0):(QsX v w).Good:=by
 refine ⟨⟨?_,QjN _,?_,?_⟩,?_⟩
 ·show U64 (if v=0 then w else 0);split
  ·exact hw
  ·unfold U64;omega
 ·show ∀ x∈(if 0<v then [(Qdg v,w)] else []),Qb4 x;split
  ·exact Qrj hw
  ·intro x hx;simp at hx
 ·show ∀ x∈(if v<0 then [(Qdg (-v),w)] else []),Qb4 x;split
  ·exact Qrj hw
  ·intro x hx;simp at hx
 ·show skB (if 0<v then [(Qdg v,w)] else []) (if v<0 then [(Qdg (-v),w)] else [])=true
  refine skB_and.2 ⟨?_,?_⟩
  ·split
   ·exact Qk7 oB oB h0
   ·exact QjY
  ·split
   ·exact Qk7 oB oB h0
   ·exact QjY
theorem QkL (h:P.length<=30):Qbe P=P:=by unfold Qbe;rw [if_pos h]
theorem wAdd_0 {z:Int} (h:U64 z):Qbb z 0=z:=by unfold Qbb;unfold U64 at h;rw [if_neg oB,Int.add_zero]
structure PutIs (a b:T5) (v w:Int):Prop where
 yes:QuD a.P a.N v w->b=⟨Qol a.z v w,QeM a.P v w,Qfe a.N v w,QeV a.h a.l (thH v w) (thL v w),QfH a.l (thL v w)⟩
 no:¬ QuD a.P a.N v w->b=a
theorem PutIs.M {a b:T5} {w:Int} (h:PutIs a b v w) (ha:a.Ok) (ok:QuD a.P a.N v w):b=a.M (QsX v w):=by
 rw [h.yes ok];have r:=QpM ok.1;unfold T5.M QsX Qol QeM Qfe;dsimp only
 congr 1
 ·split
  ·rfl
  ·rw [wAdd_0 ha.hz]
 ·split
  ·rfl
  ·rw [QbU,QkL r.1.2]
 ·split
  ·rfl
  ·rw [QbU,QkL r.2.2]
end
variable {x:Sx}
variable {s:ByteArray}
section
theorem Qn1 (h:Qbg s=true):s.size<=40:=by
 unfold Qbg at h;simp only [yB,decide_eq_true_eq] at h;omega
def QhX (x:Sx):Ag:=
 if x.k=1 then ⟨1,1,thH x.v x.wt,thL x.v x.wt,0,0,0,[],[],0,0,[],[]⟩
 else if x.k=2 then ⟨2,1,0,0,x.v,x.ti,0,[],[],0,0,[],[]⟩
 else if x.k=3 then ⟨3,1,0,0,0,0,(QsX x.v x.wt).z,(QsX x.v x.wt).P,(QsX x.v x.wt).N,thH x.v x.wt,thL x.v x.wt,[],[]⟩
 else ⟨4,1,0,0,0,0,0,[],[],0,0,[QbZ x.wd],[]⟩
theorem QbK (h:x.B=true):(1<=x.k/\x.k<=4)/\(-999999999999999999<=x.v/\x.v<=999999999999999999)/\x.wt≠0/\(0<=x.ti/\x.ti<=1000000000)/\x.wd.size<=40:=by
 unfold Sx.B QbC at h;simp only [yB] at h;obtain ⟨⟨⟨⟨h1,_⟩,h2⟩,h3⟩,h4⟩:=h;unfold Qir at h1;simp only [yB,decide_eq_true_eq] at h1
 have a2:(-999999999999999999<=x.v/\x.v<=999999999999999999)/\x.wd.size<=40:=by
  unfold Qkc at h2
  split at h2
  ·simp only [yB,decide_eq_true_eq] at h2
   exact ⟨by omega,Qn1 h2.2⟩
  ·unfold Qt4 at h2
   simp only [yB,decide_eq_true_eq] at h2;exact ⟨h2.1,by omega⟩
 have a3:x.wt≠0:=by
  unfold Qc0 at h3;simp only [yB,Bool.or_eq_true,decide_eq_true_eq] at h3;omega
 have a4:0<=x.ti/\x.ti<=1000000000:=by
  unfold Qhe at h4
  split at h4
  ·simpa using h4
  ·simp only [decide_eq_true_eq] at h4;omega
 exact ⟨h1,a2.1,a3,a4,a2.2⟩
theorem QhW (h:x.B=true):(QhX x).k=x.k:=by
 have p:=(QbK h).1;unfold QhX
 split
 ·show (1:Int)=x.k;omega
 split
 ·show (2:Int)=x.k;omega
 split
 ·show (3:Int)=x.k;omega
 ·show (4:Int)=x.k;omega
theorem Qcb (ok:x.Ok) (h:x.B=true):agB (QhX x)=true:=by
 obtain ⟨p1,p2,p3,p4,p5⟩:=QbK h;unfold QhX
 split
 ·simp [agB,QfD,Qfy,noS,Qa8,noH]
 split
 ·have:QcZ ⟨2,1,0,0,x.v,x.ti,0,[],[],0,0,[],[]⟩=true:=by
   unfold QcZ QnY;simp only [yB,Bool.or_eq_true,decide_eq_true_eq];omega
  simp [agB,QfD,Qfy,noS,Qa8,noH,Qhu,this]
 split
 ·have g:=(QmY p2 ok.wt p3).sk
  simp [agB,g,Qfy,noS,Qa8,noH,Qhu]
 ·have:hlB [QbZ x.wd] []=true:=(Can.hash _).right
  simp [agB,QfD,this,noS,Qa8,noH,Qhu]
def Qbv (g:Ag) (x:Sx) (o:Ag):Prop:=if agB g=true/\x.B=true/\g.k=x.k then AgMrg g (QhX x) o else o=g
section
variable {g:Ag} {x:Sx} (ok:x.Ok) (hg:agB g=true) (hx:x.B=true) (e:g.k=x.k)
include ok hg hx e
theorem putC (k:g.k=1):Qbv g x ⟨1,Qbb g.s 1,QeV g.h g.l (thH x.v x.wt) (thL x.v x.wt),QfH g.l (thL x.v x.wt),0,0,0,[],[],0,0,[],[]⟩:=by
 unfold Qbv;rw [if_pos ⟨hg,hx,e⟩];have:=mrgC hg (Qcb ok hx) (e.trans (QhW hx).symm) k;have e1:QhX x=⟨1,1,thH x.v x.wt,thL x.v x.wt,0,0,0,[],[],0,0,[],[]⟩:=by unfold QhX;rw [if_pos oB]
 rw [e1] at this ⊢;exact this
theorem putG (k:g.k=2):Qbv g x ⟨2,Qbb g.s 1,0,0,gA g.a g.t x.v x.ti,gT g.a g.t x.v x.ti,0,[],[],0,0,[],[]⟩:=by
 unfold Qbv;rw [if_pos ⟨hg,hx,e⟩];have:=mrgG hg (Qcb ok hx) (e.trans (QhW hx).symm) k;have e1:QhX x=⟨2,1,0,0,x.v,x.ti,0,[],[],0,0,[],[]⟩:=by unfold QhX;rw [if_neg oB,if_pos oB]
 rw [e1] at this ⊢;exact this
theorem putHs (k:g.k=3) (go:AgOk g):Qbv g x ⟨3,Qbb g.s 1,0,0,0,0,Qol g.z x.v x.wt,QeM g.P x.v x.wt,Qfe g.N x.v x.wt,QeV g.x g.y (thH x.v x.wt) (thL x.v x.wt),QfH g.y (thL x.v x.wt),[],[]⟩:=by
 unfold Qbv;rw [if_pos ⟨hg,hx,e⟩];obtain ⟨p1,p2,p3,p4,p5⟩:=QbK hx;have hm:=mrgH hg (Qcb ok hx) (e.trans (QhW hx).symm) k;have e1:QhX x=⟨3,1,0,0,0,0,(QsX x.v x.wt).z,(QsX x.v x.wt).P,(QsX x.v x.wt).N,thH x.v x.wt,thL x.v x.wt,[],[]⟩:=by unfold QhX;rw [if_neg oB,if_neg oB,if_pos oB]
 rw [e1] at hm ⊢;have q:PutIs ⟨g.z,g.P,g.N,g.x,g.y⟩ ⟨Qol g.z x.v x.wt,QeM g.P x.v x.wt,Qfe g.N x.v x.wt,QeV g.x g.y (thH x.v x.wt) (thL x.v x.wt),QfH g.y (thL x.v x.wt)⟩ x.v x.wt:=⟨fun _=>rfl,fun h=>absurd ⟨(Qbz hg).sk,p2,p3⟩ h⟩;have:=q.M ⟨go.z,go.y,go.P,go.N⟩ ⟨(Qbz hg).sk,p2,p3⟩;unfold T5.M at this;simp only [T5.mk.injEq] at this;obtain ⟨q1,q2,q3,q4,q5⟩:=this;rw [q1,q2,q3];exact hm
theorem putS (k:g.k=4) (m:PutH g.E g.R (QbZ x.wd) E R):Qbv g x ⟨4,Qbb g.s 1,0,0,0,0,0,[],[],0,0,E,R⟩:=by
 unfold Qbv;rw [if_pos ⟨hg,hx,e⟩];have e1:QhX x=⟨4,1,0,0,0,0,0,[],[],0,0,[QbZ x.wd],[]⟩:=by unfold QhX;rw [if_neg oB,if_neg oB,if_neg oB]
 have hh:hlB [QbZ x.wd] []=true:=(Can.hash _).right
 have mm:Qoq g.E g.R (QhX x).E (QhX x).R E R:=by
  rw [e1];unfold PutH at m;rw [if_pos (Qbz hg).hl] at m;unfold Qoq;rw [if_pos ⟨(Qbz hg).hl,hh⟩];exact m
 have:=mrgS hg (Qcb ok hx) (e.trans (QhW hx).symm) k mm;rw [e1] at this ⊢;exact this
end
end
section
theorem Qr0 (s:ByteArray):U64 (QbZ s):=by have:=hx_in s s.size;unfold QbZ U64;omega
end
section
theorem Qqd (w:World) (g:Ag) (p:Pl) (x:Sx):Hid (Bw w (((w.alloc (.cells (Qau g p) 44)).alloc (.cells (Qa0 x) 85)).alloc (.cells z13 44)))/\Hid (∀ W,Below (((w.alloc (.cells (Qau g p) 44)).alloc (.cells (Qa0 x) 85)).alloc (.cells z13 44)).heap.size (((w.alloc (.cells (Qau g p) 44)).alloc (.cells (Qa0 x) 85)).alloc (.cells z13 44)) W->W.heap[w.heap.size]?=some (.cells (Qau g p) 44 (0,0))/\W.heap[w.heap.size+1]?=some (.cells (Qa0 x) 85 (0,0))/\W.heap[w.heap.size+1+1]?=some (.cells z13 44 (0,0)))/\Hid ((((w.alloc (.cells (Qau g p) 44)).alloc (.cells (Qa0 x) 85)).alloc (.cells z13 44)).heap.size=w.heap.size+1+1+1):=by
 have a1:∀ (W:World) o,Bw W (W.alloc o):=fun W o=>bAA;have k0:=ZZk w (.cells (Qau g p) 44);have k1:=ZZk (w.alloc (.cells (Qau g p) 44)) (.cells (Qa0 x) 85);have k2:=ZZk ((w.alloc (.cells (Qau g p) 44)).alloc (.cells (Qa0 x) 85)) (.cells z13 44);simp only [World.size_alloc] at k1 k2;exact ⟨Qaa (Qac (Qac (a1 _ _) (a1 _ _)) (a1 _ _)),Qaa (fun W hW=>⟨(hW.block _ oJ).trans (((a1 _ _).block _ oJ).trans (((a1 _ _).block _ oE).trans k0)),(hW.block _ oJ).trans (((a1 _ _).block _ oE).trans k1),(hW.block _ oE).trans k2⟩),(by simp;exact Qaa trivial)⟩
end
section
structure AgR2 (g g':Ag):Prop where
 r:agB g=true
 r':agB g'=true
 k:g.k=g'.k
theorem AgMrg.get (h:AgMrg g g' o) (q:AgR2 g g'):∃ E R,Mg g.E g.R g'.E g'.R E R/\o=QvF g g' E R:=by
 unfold AgMrg at h;rw [if_pos ⟨q.r,q.r',q.k⟩] at h;exact h
theorem agB_of (n:AgNo g) (h2:g.k=2->QcZ g=true):agB g=true:=by
 have c1:=n.k1;have c4:=n.k4;have a0:(decide (1<=g.k) && decide (g.k<=4))=true:=by rw [decide_eq_true c1,decide_eq_true c4];rfl
 have a1:((g.k == 1) || Qhu g)=true:=by
  by_cases e:g.k=1
  ·rw [e];rfl
  ·obtain ⟨q1,q2⟩:=n.nc e
   unfold Qhu;rw [q1,q2];simp
 have a3:((g.k == 3) || noS g)=true:=by
  by_cases e:g.k=3
  ·rw [e];rfl
  ·rw [(Qb0 g).2 (n.nh e)];simp
 have a4:((g.k == 4) || noH g)=true:=by
  by_cases e:g.k=4
  ·rw [e];rfl
  ·rw [(Qfp g).2 (n.ns e)];simp
 have a2:(if g.k=2 then QcZ g else (g.a == 0) && (g.t == 0))=true:=by
  by_cases e:g.k=2
  ·rw [if_pos e];exact h2 e
  ·rw [if_neg e]
   obtain ⟨q1,q2⟩:=n.ng e;rw [q1,q2];rfl
 unfold agB;rw [a0,n.sk,n.hl,a1,a3,a4,a2]
 rfl
theorem Qnq (h:agB g=true) (e:g.k=2):QcZ g=true:=by
 unfold agB at h;simp only [yB] at h;have:=h.2;rw [if_pos e] at this;exact this
theorem Qug (h:hlB E R=true):∀ b∈R,I64 b:=fun b hb=>by
 unfold hlB at h
 split at h
 ·rename_i h0
  rw [List.eq_nil_of_length_eq_zero h0] at hb
  cases hb
 ·simp only [yB,Qhv,List.all_eq_true,inR,decide_eq_true_eq] at h
  have:=h.2.2 b hb;unfold I64;omega
theorem Qpt (q:AgR2 g g') (ok:AgOk g) (ok':AgOk g') (h:AgMrg g g' o):agB o=true/\AgOk o/\o.k=g.k:=by
 obtain ⟨E,R,m,rfl⟩:=h.get q;have n:=Qbz q.r;have n':=Qbz q.r';have ek:=q.k;have mm:Qoq g.E g.R g'.E g'.R E R:=by unfold Qoq;rw [if_pos ⟨n.hl,n'.hl⟩];exact m
 have hl:=QjV n.hl n'.hl mm;refine ⟨agB_of ⟨n.k1,n.k4,sk_mrg n.sk n'.sk ok.P ok.N ok'.P ok'.N,hl,fun e=>?_,fun e=>?_,fun e=>?_,fun e=>?_⟩ (fun e=>?_),?_,rfl⟩
 ·obtain ⟨a1,a2⟩:=n.nc e
  obtain ⟨b1,b2⟩:=n'.nc xY
  show QeV g.h g.l g'.h g'.l=0/\QfH g.l g'.l=0
  rw [a1,a2,b1,b2];exact ⟨QdN,QdL⟩
 ·show (if g.k=2 then gA g.a g.t g'.a g'.t else 0)=0/\(if g.k=2 then gT g.a g.t g'.a g'.t else 0)=0
  have e':¬ g.k=2:=e;rw [if_neg e',if_neg e'];exact ⟨rfl,rfl⟩
 ·obtain ⟨a1,a2,a3,a4,a5⟩:=n.nh e
  obtain ⟨b1,b2,b3,b4,b5⟩:=n'.nh xY
  show Qbb g.z g'.z=0/\QeV g.x g.y g'.x g'.y=0/\QfH g.y g'.y=0/\Qbe (mrg g.P g'.P)=[]/\Qbe (mrg g.N g'.N)=[]
  rw [a1,a2,a3,a4,a5,b1,b2,b3,b4,b5];exact ⟨Qgj,QdN,QdL,QeC,QeC⟩
 ·obtain ⟨a1,a2⟩:=n.ns e
  obtain ⟨b1,b2⟩:=n'.ns xY;rw [a1,a2,b1,b2] at m;exact m.one Qmy
 ·have e':g.k=2:=e
  have t1:=Qnq q.r e';have t2:=Qnq q.r' (by rw [<- ek];exact e')
  show QcZ (QvF g g' E R)=true
  unfold QcZ at t1 t2 ⊢
  show (QnY (if g.k=2 then gA g.a g.t g'.a g'.t else 0) && (decide (-1<=(if g.k=2 then gT g.a g.t g'.a g'.t else 0)) && decide ((if g.k=2 then gT g.a g.t g'.a g'.t else 0)<=1000000000)) && (decide (0<=(if g.k=2 then gT g.a g.t g'.a g'.t else 0)) || ((if g.k=2 then gA g.a g.t g'.a g'.t else 0) == 0)))=true
  rw [if_pos e',if_pos e'];by_cases hL:Qje g.a g.t g'.a g'.t=true
  ·rw [(QiL hL).1,(QiL hL).2];exact t2
  ·rw [(Qnx hL).1,(Qnx hL).2];exact t1
 ·have s1:=skB_and.1 n.sk
  have s2:=skB_and.1 n'.sk;refine ⟨ok.k,QiQ ok.s ok'.s,Qhk _,QjN _,?_,?_,QiQ ok.z ok'.z,Qhk _,QjN _,(Qgb s1.1 s2.1 ok.P ok'.P).2,(Qgb s1.2 s2.2 ok.N ok'.N).2,QvZ ok.E ok'.E mm,fun b hb=>?_⟩
  ·show I64 (if g.k=2 then gA g.a g.t g'.a g'.t else 0)
   split
   ·unfold gA;split
    ·exact ok'.a
    ·exact ok.a
   ·unfold I64;omega
  ·show I64 (if g.k=2 then gT g.a g.t g'.a g'.t else 0)
   split
   ·unfold gT;split
    ·exact ok'.t
    ·exact ok.t
   ·unfold I64;omega
  ·exact Qug hl b hb
theorem Qvf (ox:x.Ok) (hx:x.B=true):AgOk (QhX x):=by
 obtain ⟨p1,p2,p3,p4,p5⟩:=QbK hx;have z:I64 0:=by unfold I64;omega
 have zu:U64 0:=by unfold U64;omega
 have u1:U64 1:=by unfold U64;omega
 have nB:∀ b∈([]:List Bn),Qb4 b:=fun b hb=>by cases hb
 have nU:∀ b∈([]:List Int),U64 b:=fun b hb=>by cases hb
 have nI:∀ b∈([]:List Int),I64 b:=fun b hb=>by cases hb
 unfold QhX
 split
 ·exact ⟨by show I64 1;unfold I64;omega,u1,Qhk _,QjN _,z,z,zu,z,zu,nB,nB,nU,nI⟩
 split
 ·exact ⟨by show I64 2;unfold I64;omega,u1,z,zu,ox.v,ox.ti,zu,z,zu,nB,nB,nU,nI⟩
 split
 ·have g:=QmY p2 ox.wt p3
  exact ⟨by show I64 3;unfold I64;omega,u1,z,zu,z,z,g.hz,Qhk _,QjN _,g.kP,g.kN,nU,nI⟩
 ·refine ⟨by show I64 4;unfold I64;omega,u1,z,zu,z,z,zu,z,zu,nB,nB,fun b hb=>?_,nI⟩
  obtain rfl:=List.mem_singleton.1 hb;have:=hx_in x.wd x.wd.size;unfold QbZ U64;omega
theorem QgZ (ox:x.Ok) (ok:AgOk g) (h:Qbv g x o):AgOk o/\(agB g=true->agB o=true)/\o.k=g.k:=by
 unfold Qbv at h
 split at h
 ·rename_i q
  obtain ⟨r,o',k⟩:=Qpt ⟨q.1,Qcb ox q.2.1,q.2.2.trans (QhW q.2.1).symm⟩ ok (Qvf ox q.2.1) h;exact ⟨o',fun _=>r,k⟩
 ·subst h;exact ⟨ok,id,rfl⟩
end
section
def PtL (L:List Ce) (n:Int) (s:ByteArray) (o:Ag) (R:List Ce):Prop:=R.map Ce.key=(L.filter (loF n s)).map Ce.key ++ (n,s,o) :: (L.filter (hiF n s)).map Ce.key
end
section
theorem Qq9 (o:Ag) (p:Pl) (a' t':Int) (w:World):Calls prog 109 #[.agg (Qau o p),.int .i64 a',.int .i64 t'] w fun e w'=>e=.returned (.agg (Qau { o with a:=gA o.a o.t a' t',t:=gT o.a o.t a' t' } p))/\Bw w w':=by
 have HB:Hid (∀ o o',Bw w ((w.alloc o).alloc o')):=fun o o'=>((Below.refl _ _).alloc (Nat.le_refl _) o).alloc oE o';obtain ⟨k,s,h,l,a,t,z,P,N,x,y,E,R⟩:=o
 show Calls prog 109 #[.agg (Qau ⟨k,s,h,l,a,t,z,P,N,x,y,E,R⟩ p),.int .i64 a',.int .i64 t'] w fun e w'=>e=.returned (.agg (Qau ⟨k,s,h,l,gA a t a' t',gT a t a' t',z,P,N,x,y,E,R⟩ p))/\Bw w w'
 by_cases h1:t<t'
 ·have d1:decide (t<t')=true:=ZZh h1
  have HE:Hid (gA a t a' t'=a'/\gT a t a' t'=t'):=QiL (by simp [Qje,h1]);exact mBy
 ·have d1:decide (t<t')=false:=ZZg h1
  by_cases h2:t'=t
  ·subst h2
   by_cases h3:a<a'
   ·have d3:decide (a<a')=true:=ZZh h3
    have HE:Hid (gA a t' a' t'=a'/\gT a t' a' t'=t'):=QiL (by simp [Qje,h3]);exact mBy
   ·have d3:decide (a<a')=false:=ZZg h3
    have HE:Hid (gA a t' a' t'=a/\gT a t' a' t'=t'):=Qnx (by simp [Qje,h3]);rw [HE.1,HE.2];clear HE;go_enter func109,ntmps109;go_wp2;refine bodyPost_ret (v:=.agg (Qau ⟨k,s,h,l,a,t',z,P,N,x,y,E,R⟩ p)) (by simp [results,results109,go_sem]) rfl ⟨rfl,?_⟩
    repeat (refine Below.setCell ?_ oE _)
    exact HB.out _ _
  ·have e2:(t' == t)=false:=ZZf.2 h2
   have HE:Hid (gA a t a' t'=a/\gT a t a' t'=t):=Qnx (by simp [Qje,h1,h2]);rw [HE.1,HE.2];clear HE;go_enter func109,ntmps109;go_wp2;refine bodyPost_ret (v:=.agg (Qau ⟨k,s,h,l,a,t,z,P,N,x,y,E,R⟩ p)) (by simp [results,results109,go_sem]) rfl ⟨rfl,?_⟩
   repeat (refine Below.setCell ?_ oE _)
   exact HB.out _ _
end
variable {W w w0 w6:World}
variable {ca k r:Nat}
variable {p q:Pl}
section
theorem AgO.setNe {B j:Nat} (h:AgO w B o p) (hn:∀ k,Qdz o p k->k≠r) (u:Value):AgO (w.setCell ⟨r,j,none⟩ u) B o p:=
 h.keptS (S:=fun k=>k=r) ⟨rfl,rfl,rfl,by simp [World.setCell],fun k hk hn=>Below.heap_setCell _ _ _ _ (fun e=>hn xP)⟩ hn
section
variable {g:Ag} {x:Sx} (ok:x.Ok) (hg:agB g=true) (hx:x.B=true) (e:g.k=x.k)
include ok hg hx e
theorem putC' (k:g.k=1):Qbv g x ⟨g.k,Qbb g.s 1,QeV g.h g.l (thH x.v x.wt) (thL x.v x.wt),QfH g.l (thL x.v x.wt),g.a,g.t,g.z,g.P,g.N,g.x,g.y,g.E,g.R⟩:=by
 have n:=Qbz hg;obtain ⟨a1,a2,a3,a4,a5⟩:=n.nh oB;obtain ⟨c1,c2⟩:=n.ns oB;obtain ⟨d1,d2⟩:=n.ng oB;have:=putC ok hg hx e k;exact mEe
theorem putG' (k:g.k=2):Qbv g x ⟨g.k,Qbb g.s 1,g.h,g.l,gA g.a g.t x.v x.ti,gT g.a g.t x.v x.ti,g.z,g.P,g.N,g.x,g.y,g.E,g.R⟩:=by
 have n:=Qbz hg;obtain ⟨a1,a2,a3,a4,a5⟩:=n.nh oB;obtain ⟨c1,c2⟩:=n.ns oB;obtain ⟨d1,d2⟩:=n.nc oB;have:=putG ok hg hx e k;exact mEe
theorem putH' (k:g.k=3) (go:AgOk g):Qbv g x ⟨g.k,Qbb g.s 1,g.h,g.l,g.a,g.t,Qol g.z x.v x.wt,QeM g.P x.v x.wt,Qfe g.N x.v x.wt,QeV g.x g.y (thH x.v x.wt) (thL x.v x.wt),QfH g.y (thL x.v x.wt),g.E,g.R⟩:=by
 have n:=Qbz hg;obtain ⟨a1,a2⟩:=n.ng oB;obtain ⟨c1,c2⟩:=n.ns oB;obtain ⟨d1,d2⟩:=n.nc oB;have:=putHs ok hg hx e k go;rw [a1,a2,c1,c2,d1,d2,k];exact this
theorem putS' (k:g.k=4) (m:Mg g.E g.R [QbZ x.wd] [] E R):Qbv g x ⟨g.k,Qbb g.s 1,g.h,g.l,g.a,g.t,g.z,g.P,g.N,g.x,g.y,E,R⟩:=by
 have n:=Qbz hg;obtain ⟨a1,a2,a3,a4,a5⟩:=n.nh oB;obtain ⟨c1,c2⟩:=n.ng oB;obtain ⟨d1,d2⟩:=n.nc oB;have:=putS ok hg hx e k (E:=E) (R:=R) (by unfold PutH;rw [if_pos n.hl];exact m);exact mEe
end
structure PB (w W:World) (b:Nat) (g a:Ag) (p q:Pl) (x:Sx):Prop where
 bel:Bw w W
 ra:W.heap[w.heap.size]?=some (.cells (Qau g p) 44 (0,0))
 rx:W.heap[w.heap.size+1]?=some (.cells (Qa0 x) 85 (0,0))
 rr:W.heap[w.heap.size+1+1]?=some (.cells z13 44 (0,0))
 ro:W.heap[b]?=some (.cells (Qau a q) 44 (0,0))
 lo:w.heap.size+1+1+1<=b/\b<W.heap.size
 own:AgO W (w.heap.size+1+1+1) a q
 ne:∀ k,Qdz a q k->k<b
theorem PB.past {W':World} {b:Nat} {a:Ag} (h:PB w W b g a p q x) (hb:Bw W W'):PB w W' b g a p q x:=
 ⟨Qac h.bel hb,(hb.block _ (ZZc.1 h.ra).1).trans h.ra,(hb.block _ (ZZc.1 h.rx).1).trans h.rx,(hb.block _ (ZZc.1 h.rr).1).trans h.rr,(hb.block _ (ZZc.1 h.ro).1).trans h.ro,⟨h.lo.1,Nat.lt_of_lt_of_le h.lo.2 hb.size⟩,h.own.past hb,h.ne⟩
theorem PB.sam {b:Nat} {a:Ag} (h:PB w W b g a p q x) (s:Int):PB w (W.setCell ⟨b,1,none⟩ (.int .u64 s)) b g { a with s:=s } p q x:=by
 have hl:=h.lo;have ot:∀ r o,r≠b->W.heap[r]?=some o->(W.setCell ⟨b,1,none⟩ (.int .u64 s)).heap[r]?=some o:=fun r o hr e=>by rw [heap_setCell_other _ _ _ _ (by simpa using hr)];exact e
 refine ⟨h.bel.setCell oJ _,ot _ _ oB h.ra,ot _ _ oB h.rx,ot _ _ oB h.rr,heap_setCell_same W b 1 _ _ _ h.ro,⟨hl.1,by simpa [World.setCell] using hl.2⟩,?_,h.ne⟩;have:=h.own.setNe (r:=b) (j:=1) (fun k e=>Nat.ne_of_lt (h.ne k e)) (.int .u64 s);exact ⟨this.P,this.N,this.ap,this.E,this.R⟩
theorem PB.made {w1:World} (hb:Bw w w1) (h0:w1.heap[w.heap.size]?=some (.cells (Qau g p) 44 (0,0))) (h1:w1.heap[w.heap.size+1]?=some (.cells (Qa0 x) 85 (0,0))) (h2:w1.heap[w.heap.size+1+1]?=some (.cells z13 44 (0,0))) (hs:w.heap.size+1+1+1<=w1.heap.size) (ho:AgO w1 (w.heap.size+1+1+1) g q):PB w (w1.alloc (.cells (Qau g q) 44)) w1.heap.size g g p q x:=by
 have a1:Bw w1 (w1.alloc (.cells (Qau g q) 44)):=bAA;exact ⟨Qac hb a1,(a1.block _ (Array.getElem?_eq_some_iff.1 h0).1).trans h0,(a1.block _ (Array.getElem?_eq_some_iff.1 h1).1).trans h1,(a1.block _ (Array.getElem?_eq_some_iff.1 h2).1).trans h2,heap_alloc_new w1 _,⟨hs,by simp⟩,ho.past a1,fun k e=>(ho.lt e).2⟩
theorem Qig (x:Sx) (hg:agB g=true) (hx:x.B=true) (hk:g.k=x.k) (ok:AgOk g) (ox:x.Ok) (sm:AgSm g) (pl:PlG g p) (hA:AgAt w g p) :
  Calls prog 91 #[.agg (Qau g p),.agg (Qa0 x)] w fun e w'=>AgRes w (Qbv g x) e w':=by
 have HG:=Qaa hg;have HX:=Qaa hx;have az:=Qaa hk;have OK:=Qaa ok;have OX:=Qaa ox;have SM:=Qaa sm;have PL:=Qaa pl;have HA:=Qaa hA;have NO:=Qaa (Qbz hg);clear hg hx hk ok ox sm pl hA;obtain ⟨aA,HC,ay⟩:=Qqd w g p x;go_enter func91,ntmps91;go_wp2_with fail;generalize ((w.alloc _).alloc _).alloc _=W0 at aA HC ay ⊢;refine (Qdq SM PL (QaD HA aA)).mono ?_;rintro e w1 ⟨v,o,rfl,ho,⟨q,rfl,hO⟩,aB⟩;obtain rfl:g=o:=ho.symm;clear ho;have hR:=HC.out w1 aB;have aN:=aB.size;have HP:=Qaa (PB.made (Qac aA aB) hR.1 hR.2.1 hR.2.2 (oA ay.out) (hO.le (oA ay.out)));have x1:=Qe9 hR.1 1 rfl;have aL:w.heap.size<w1.heap.size:=by have:=ay.out;omega
 have aK:¬ w.heap.size=w1.heap.size:=oB
 clear hR aN aB hO HC ay aA;go_wp2_with fail;clear x1 aL aK;generalize w1.alloc _=W1 at HP ⊢;generalize w1.heap.size=b at HP ⊢;refine (Qb7 g.s 1 OK.s (by unfold U64;omega) _).mono ?_;rintro e wz ⟨rfl,aD⟩;obtain rfl:=aD.symm;have hl:=HP.lo;have aS:¬ w.heap.size=b:=oB
 have aQ:¬ w.heap.size+1=b:=oB
 have aR:¬ w.heap.size+1+1=b:=oB
 have aO:g.k=1∨g.k=2∨g.k=3∨g.k=4:=by have:=NO.k1;have:=NO.k4;omega
 rcases aO with h | h | h | h
 ·have aw:=Qaa h
  have e1:(g.k == 1)=true:=by rw [h];rfl
  clear h;obtain ⟨c0,c1,c2,c3,c4,c5,c6,c7,c8,c9,ag,af,ae⟩:=Qde HP.ro;obtain ⟨f0,f1,f2,f3,f4,f5,f6,f7,f8,f9,al,an,am⟩:=Qhr HP.ro;obtain ⟨x0,x1,x2,x3,x4,x5,x6,x7,x8,x9,aj,ah,ai⟩:=Qde HP.ra;obtain ⟨y0,y1,y2,y3,y4,y5,y6⟩:=cA7 HP.rx;go_wp2_with fail;clear c0 c1 c2 c3 c4 c5 c6 c7 c8 c9 ag af ae f0 f1 f2 f3 f4 f5 f6 f7 f8 f9 al an am x0 x1 x2 x3 x4 x5 x6 x7 x8 x9 aj ah ai y0 y1 y2 y3 y4 y5 y6;have ab:=Qaa (HP.sam (Qbb g.s 1));generalize W1.setCell ⟨b,1,none⟩ (.int .u64 (Qbb g.s 1))=W2 at ab ⊢;clear HP;have ad:(fun W=>Bw W2 W) W2.drew:=(ZZb _ _).drew;refine Qal (fun W=>Bw W2 W) 9 oG ?_;refine tkS 0 (.pointer (some ⟨w.heap.size,2,none⟩)) ad ?_;refine tkL 1 (.agg #[.int .i64 g.h,.int .u64 g.l]) ad (fun W hW=>?_) ?_
  ·have ac:=ab.past hW
   obtain ⟨x0,x1,x2,x3,x4,x5,x6,x7,x8,x9,aj,ah,ai⟩:=Qde ac.ra;obtain ⟨y0,y1,y2,y3,y4,y5,y6⟩:=cA7 ac.rx;clear ac;exact mAo
  refine tkS 2 (.pointer (some ⟨w.heap.size+1,2,none⟩)) ad ?_;simp only [sX];refine tkL 3 (.int .i64 x.v) ad (fun W hW=>?_) ?_
  ·have ac:=ab.past hW
   obtain ⟨x0,x1,x2,x3,x4,x5,x6,x7,x8,x9,aj,ah,ai⟩:=Qde ac.ra;obtain ⟨y0,y1,y2,y3,y4,y5,y6⟩:=cA7 ac.rx;clear ac;exact mAo
  refine tkS 4 (.pointer (some ⟨w.heap.size+1,4,none⟩)) ad ?_;refine tkL 5 (.int .u64 x.wt) ad (fun W hW=>?_) ?_
  ·have ac:=ab.past hW
   obtain ⟨x0,x1,x2,x3,x4,x5,x6,x7,x8,x9,aj,ah,ai⟩:=Qde ac.ra;obtain ⟨y0,y1,y2,y3,y4,y5,y6⟩:=cA7 ac.rx;clear ac;exact mAo
  simp only [sX];refine onE 6 fun K hK=>?_;go_simp;refine (Qfa x.v x.wt OX.v OX.wt _).mono ?_;rintro e w3 ⟨rfl,aJ⟩;have aH:Hid (Bw W2 w3):=(ad:Bw W2 W2.drew).trans (aJ.mono (ZZa _));clear aJ;dsimp only;refine gK hK aH.out ?_
  try simp only [sX]
  refine onE 7 fun K hK=>?_;go_simp;refine (Qeu g.h g.l (thH x.v x.wt) (thL x.v x.wt) _ OK.l (show U64 (thL x.v x.wt) from QjN _)).mono ?_;rintro e w4 ⟨rfl,ak⟩;have au:Hid (Bw W2 w4):=Qac aH ak;have aa:=Qaa (ab.past au);clear ak;obtain ⟨c0,c1,c2,c3,c4,c5,c6,c7,c8,c9,ag,af,ae⟩:=Qde aa.ro;obtain ⟨f0,f1,f2,f3,f4,f5,f6,f7,f8,f9,al,an,am⟩:=Qhr aa.ro;obtain ⟨z0,z1,z2,z3,z4,z5,z6,z7,z8,z9,aq,av,ao⟩:=Qde aa.rr;obtain ⟨k0,k1,k2,k3,k4,k5,k6,k7,k8,k9,aE,aF,aC⟩:=Qhr aa.rr;have ax:Hid (AgO w4 (w.heap.size+1+1+1) ⟨g.k,Qbb g.s 1,QeV g.h g.l (thH x.v x.wt) (thL x.v x.wt),QfH g.l (thL x.v x.wt),g.a,g.t,g.z,g.P,g.N,g.x,g.y,g.E,g.R⟩ q):=⟨aa.own.P,aa.own.N,aa.own.ap,aa.own.E,aa.own.R⟩;have ar:Hid (∀ k,Qdz ⟨g.k,Qbb g.s 1,QeV g.h g.l (thH x.v x.wt) (thL x.v x.wt),QfH g.l (thL x.v x.wt),g.a,g.t,g.z,g.P,g.N,g.x,g.y,g.E,g.R⟩ q k->k≠b):=fun k e=>Nat.ne_of_lt (aa.ne k e);dsimp only;refine gK hK au.out ?_
  try simp only [sX]
  refine tkS 8 (.pointer (some ⟨b,2,none⟩)) au ?_;simp only [sX];refine onE 9 fun K hK=>?_;go_simp;refine hK.out _ _ (fun h=>absurd rfl h) ?_
  try simp only [sX]
  refine dnE ?_ _;go_wp2;refine bodyPost_ret (v:=.agg (Qau ⟨g.k,Qbb g.s 1,QeV g.h g.l (thH x.v x.wt) (thL x.v x.wt),QfH g.l (thL x.v x.wt),g.a,g.t,g.z,g.P,g.N,g.x,g.y,g.E,g.R⟩ q)) (by simp [results,results91,go_sem,c0,c1,c2,c3,c4,c5,c6,c7,c8,c9,ag,af,ae,z0,z1,z2,z3,z4,z5,z6,z7,z8,z9,aq,av,ao]) rfl (AgRes.mk (o:=⟨g.k,Qbb g.s 1,QeV g.h g.l (thH x.v x.wt) (thL x.v x.wt),QfH g.l (thL x.v x.wt),g.a,g.t,g.z,g.P,g.N,g.x,g.y,g.E,g.R⟩) (p:=q) (putC' OX HG HX az aw) ?_ ?_)
  ·exact mBf
  ·repeat (refine Below.setCell ?_ oJ _)
   exact aa.bel
 ·have aw:=Qaa h
  have e1:(g.k == 1)=false:=ZZf.2 oB;have e2:(g.k == 2)=true:=by rw [h];rfl
  clear h;obtain ⟨c0,c1,c2,c3,c4,c5,c6,c7,c8,c9,ag,af,ae⟩:=Qde HP.ro;obtain ⟨f0,f1,f2,f3,f4,f5,f6,f7,f8,f9,al,an,am⟩:=Qhr HP.ro;obtain ⟨x0,x1,x2,x3,x4,x5,x6,x7,x8,x9,aj,ah,ai⟩:=Qde HP.ra;obtain ⟨y0,y1,y2,y3,y4,y5,y6⟩:=cA7 HP.rx;go_wp2_with fail;clear c0 c1 c2 c3 c4 c5 c6 c7 c8 c9 ag af ae f0 f1 f2 f3 f4 f5 f6 f7 f8 f9 al an am x0 x1 x2 x3 x4 x5 x6 x7 x8 x9 aj ah ai y0 y1 y2 y3 y4 y5 y6;have ab:=Qaa (HP.sam (Qbb g.s 1));generalize W1.setCell ⟨b,1,none⟩ (.int .u64 (Qbb g.s 1))=W2 at ab ⊢;clear HP;refine (Qq9 { g with s:=Qbb g.s 1 } q x.v x.ti _).mono ?_;rintro e w4 ⟨rfl,ak⟩;have aa:=Qaa (ab.past ak);clear ak;obtain ⟨c0,c1,c2,c3,c4,c5,c6,c7,c8,c9,ag,af,ae⟩:=Qde aa.ro;obtain ⟨f0,f1,f2,f3,f4,f5,f6,f7,f8,f9,al,an,am⟩:=Qhr aa.ro;obtain ⟨z0,z1,z2,z3,z4,z5,z6,z7,z8,z9,aq,av,ao⟩:=Qde aa.rr;obtain ⟨k0,k1,k2,k3,k4,k5,k6,k7,k8,k9,aE,aF,aC⟩:=Qhr aa.rr;have ax:Hid (AgO w4 (w.heap.size+1+1+1) ⟨g.k,Qbb g.s 1,g.h,g.l,gA g.a g.t x.v x.ti,gT g.a g.t x.v x.ti,g.z,g.P,g.N,g.x,g.y,g.E,g.R⟩ q):=⟨aa.own.P,aa.own.N,aa.own.ap,aa.own.E,aa.own.R⟩;have ar:Hid (∀ k,Qdz ⟨g.k,Qbb g.s 1,g.h,g.l,gA g.a g.t x.v x.ti,gT g.a g.t x.v x.ti,g.z,g.P,g.N,g.x,g.y,g.E,g.R⟩ q k->k≠b):=fun k e=>Nat.ne_of_lt (aa.ne k e);go_wp2;refine bodyPost_ret (v:=.agg (Qau ⟨g.k,Qbb g.s 1,g.h,g.l,gA g.a g.t x.v x.ti,gT g.a g.t x.v x.ti,g.z,g.P,g.N,g.x,g.y,g.E,g.R⟩ q)) (by simp [results,results91,go_sem,c0,c1,c2,c3,c4,c5,c6,c7,c8,c9,ag,af,ae,z0,z1,z2,z3,z4,z5,z6,z7,z8,z9,aq,av,ao]) rfl (AgRes.mk (o:=⟨g.k,Qbb g.s 1,g.h,g.l,gA g.a g.t x.v x.ti,gT g.a g.t x.v x.ti,g.z,g.P,g.N,g.x,g.y,g.E,g.R⟩) (p:=q) (putG' OX HG HX az aw) ?_ ?_)
  ·exact mBf
  ·repeat (refine Below.setCell ?_ oJ _)
   exact aa.bel
 ·have aw:=Qaa h
  have e1:(g.k == 1)=false:=ZZf.2 oB;have e2:(g.k == 2)=false:=ZZf.2 oB;have e3:(g.k == 3)=true:=by rw [h];rfl
  clear h;obtain ⟨c0,c1,c2,c3,c4,c5,c6,c7,c8,c9,ag,af,ae⟩:=Qde HP.ro;obtain ⟨f0,f1,f2,f3,f4,f5,f6,f7,f8,f9,al,an,am⟩:=Qhr HP.ro;obtain ⟨x0,x1,x2,x3,x4,x5,x6,x7,x8,x9,aj,ah,ai⟩:=Qde HP.ra;obtain ⟨y0,y1,y2,y3,y4,y5,y6⟩:=cA7 HP.rx;go_wp2_with fail;clear c0 c1 c2 c3 c4 c5 c6 c7 c8 c9 ag af ae f0 f1 f2 f3 f4 f5 f6 f7 f8 f9 al an am x0 x1 x2 x3 x4 x5 x6 x7 x8 x9 aj ah ai y0 y1 y2 y3 y4 y5 y6;have ab:=Qaa (HP.sam (Qbb g.s 1));generalize W1.setCell ⟨b,1,none⟩ (.int .u64 (Qbb g.s 1))=W2 at ab ⊢;clear HP;have aG:=QpM NO.sk;refine (Qoh OK.z OK.y OX.v OX.wt rfl rfl aG.1.2 aG.2.2 (Qai HA.P ab.bel) (Qai HA.N ab.bel) OK.P OK.N (QbK HX).2.1 PL.cP PL.cN).mono ?_;clear aG;rintro e w4 ⟨v4,rfl,⟨vp,vn,pn,nn,rfl,o1,o2,aI⟩,ak⟩;obtain ⟨pa,pc,rfl⟩:=o1.any;obtain ⟨na,nc,rfl⟩:=o2.any;obtain rfl:=o1.1;obtain rfl:=o2.1;have aa:=Qaa (ab.past ak);have aM:=ab.lo;have ax:Hid (AgO w4 (w.heap.size+1+1+1) ⟨g.k,Qbb g.s 1,g.h,g.l,g.a,g.t,Qol g.z x.v x.wt,QeM g.P x.v x.wt,Qfe g.N x.v x.wt,QeV g.x g.y (thH x.v x.wt) (thL x.v x.wt),QfH g.y (thL x.v x.wt),g.E,g.R⟩ ⟨pa,pc,na,nc,q.ea,q.ec,q.ra,q.rc⟩):=⟨o1.le oB,o2.le oB,aI,aa.own.E,aa.own.R⟩
  have ar:Hid (∀ k,Qdz ⟨g.k,Qbb g.s 1,g.h,g.l,g.a,g.t,Qol g.z x.v x.wt,QeM g.P x.v x.wt,Qfe g.N x.v x.wt,QeV g.x g.y (thH x.v x.wt) (thL x.v x.wt),QfH g.y (thL x.v x.wt),g.E,g.R⟩ ⟨pa,pc,na,nc,q.ea,q.ec,q.ra,q.rc⟩ k->k≠b):=fun k e=>by
   rcases e with (e | e) | e
   ·have:=(o1.lt k e).1;omega
   ·have:=(o2.lt k e).1;omega
   ·exact Nat.ne_of_lt (aa.ne k (.inr e))
  clear ak o1 o2 aI;obtain ⟨c0,c1,c2,c3,c4,c5,c6,c7,c8,c9,ag,af,ae⟩:=Qde aa.ro;obtain ⟨f0,f1,f2,f3,f4,f5,f6,f7,f8,f9,al,an,am⟩:=Qhr aa.ro;obtain ⟨z0,z1,z2,z3,z4,z5,z6,z7,z8,z9,aq,av,ao⟩:=Qde aa.rr;obtain ⟨k0,k1,k2,k3,k4,k5,k6,k7,k8,k9,aE,aF,aC⟩:=Qhr aa.rr;go_wp2;refine bodyPost_ret (v:=.agg (Qau ⟨g.k,Qbb g.s 1,g.h,g.l,g.a,g.t,Qol g.z x.v x.wt,QeM g.P x.v x.wt,Qfe g.N x.v x.wt,QeV g.x g.y (thH x.v x.wt) (thL x.v x.wt),QfH g.y (thL x.v x.wt),g.E,g.R⟩ ⟨pa,pc,na,nc,q.ea,q.ec,q.ra,q.rc⟩)) (by simp [results,results91,go_sem,c0,c1,c2,c3,c4,c5,c6,c7,c8,c9,ag,af,ae,z0,z1,z2,z3,z4,z5,z6,z7,z8,z9,aq,av,ao]) rfl (AgRes.mk (o:=⟨g.k,Qbb g.s 1,g.h,g.l,g.a,g.t,Qol g.z x.v x.wt,QeM g.P x.v x.wt,Qfe g.N x.v x.wt,QeV g.x g.y (thH x.v x.wt) (thL x.v x.wt),QfH g.y (thL x.v x.wt),g.E,g.R⟩) (p:=⟨pa,pc,na,nc,q.ea,q.ec,q.ra,q.rc⟩) (putH' OX HG HX az aw OK) ?_ ?_)
  ·exact mBf
  ·repeat (refine Below.setCell ?_ oJ _)
   exact aa.bel
 ·have aw:=Qaa h
  have e1:(g.k == 1)=false:=ZZf.2 oB;have e2:(g.k == 2)=false:=ZZf.2 oB;have e3:(g.k == 3)=false:=ZZf.2 oB;clear h;obtain ⟨c0,c1,c2,c3,c4,c5,c6,c7,c8,c9,ag,af,ae⟩:=Qde HP.ro;obtain ⟨f0,f1,f2,f3,f4,f5,f6,f7,f8,f9,al,an,am⟩:=Qhr HP.ro;obtain ⟨x0,x1,x2,x3,x4,x5,x6,x7,x8,x9,aj,ah,ai⟩:=Qde HP.ra;obtain ⟨y0,y1,y2,y3,y4,y5,y6⟩:=cA7 HP.rx;go_wp2_with fail;clear c0 c1 c2 c3 c4 c5 c6 c7 c8 c9 ag af ae f0 f1 f2 f3 f4 f5 f6 f7 f8 f9 al an am x0 x1 x2 x3 x4 x5 x6 x7 x8 x9 aj ah ai y0 y1 y2 y3 y4 y5 y6;have ab:=Qaa (HP.sam (Qbb g.s 1));generalize W1.setCell ⟨b,1,none⟩ (.int .u64 (Qbb g.s 1))=W2 at ab ⊢;clear HP;have ad:(fun W=>Bw W2 W) W2.drew:=(ZZb _ _).drew;refine Qal (fun W=>Bw W2 W) 7 oG ?_;refine tkS 0 (.pointer (some ⟨w.heap.size,11,none⟩)) ad ?_;refine tkL 1 (.agg #[.slice p.ea g.E.length p.ec,.slice p.ra g.R.length p.rc]) ad (fun W hW=>?_) ?_
  ·have ac:=ab.past hW
   obtain ⟨x0,x1,x2,x3,x4,x5,x6,x7,x8,x9,aj,ah,ai⟩:=Qde ac.ra;obtain ⟨y0,y1,y2,y3,y4,y5,y6⟩:=cA7 ac.rx;clear ac;exact mAo
  refine tkS 2 (.pointer (some ⟨w.heap.size+1,3,none⟩)) ad ?_;simp only [sX];refine tkL 3 (.string x.wd) ad (fun W hW=>?_) ?_
  ·have ac:=ab.past hW
   obtain ⟨x0,x1,x2,x3,x4,x5,x6,x7,x8,x9,aj,ah,ai⟩:=Qde ac.ra;obtain ⟨y0,y1,y2,y3,y4,y5,y6⟩:=cA7 ac.rx;clear ac;exact mAo
  simp only [sX];refine onE 4 fun K hK=>?_;go_simp;refine (Qej x.wd OX.wd _).mono ?_;rintro e wz ⟨rfl,aD⟩;obtain rfl:=aD.symm;dsimp only;refine gK hK ad ?_
  try simp only [sX]
  refine onE 5 fun K hK=>?_;go_simp;refine (QsO (QbZ x.wd) NO.hl rfl rfl PL.lE PL.mE PL.fE PL.cE (Qak HA.E (Qac ab.bel ad)) (Qak HA.R (Qac ab.bel ad)) OK.E (Qr0 _)).mono ?_;rintro e w4 ⟨v4,E,R,rfl,hM,⟨ve,vr,rfl,o3,o4⟩,ak⟩;obtain ⟨ea,ec,rfl⟩:=Qan o3;obtain ⟨ra,rc,rfl⟩:=Qan o4;have HM:=Qaa hM;have au:Hid (Bw W2 w4):=(ad:Bw W2 W2.drew).trans (ak.mono (ZZa _));have aa:=Qaa (ab.past au);have aM:=ab.lo;have aP:W2.drew.heap.size=W2.heap.size:=rfl;have ax:Hid (AgO w4 (w.heap.size+1+1+1) ⟨g.k,Qbb g.s 1,g.h,g.l,g.a,g.t,g.z,g.P,g.N,g.x,g.y,E,R⟩ ⟨q.pa,q.pc,q.na,q.nc,ea,ec,ra,rc⟩):=⟨aa.own.P,aa.own.N,aa.own.ap,⟨rfl,Qbu o3 oB⟩,⟨rfl,Qbu o4 oB⟩⟩
  have ar:Hid (∀ k,Qdz ⟨g.k,Qbb g.s 1,g.h,g.l,g.a,g.t,g.z,g.P,g.N,g.x,g.y,E,R⟩ ⟨q.pa,q.pc,q.na,q.nc,ea,ec,ra,rc⟩ k->k≠b):=fun k e=>by
   rcases e with e | (e | e)
   ·exact Nat.ne_of_lt (aa.ne k (.inl e))
   ·have:=Qa9 o3 k e;omega
   ·have:=Qa9 o4 k e;omega
  clear ak o3 o4 hM;obtain ⟨c0,c1,c2,c3,c4,c5,c6,c7,c8,c9,ag,af,ae⟩:=Qde aa.ro;obtain ⟨f0,f1,f2,f3,f4,f5,f6,f7,f8,f9,al,an,am⟩:=Qhr aa.ro;obtain ⟨z0,z1,z2,z3,z4,z5,z6,z7,z8,z9,aq,av,ao⟩:=Qde aa.rr;obtain ⟨k0,k1,k2,k3,k4,k5,k6,k7,k8,k9,aE,aF,aC⟩:=Qhr aa.rr;dsimp only;refine gK hK au.out ?_
  try simp only [sX]
  refine tkS 6 (.pointer (some ⟨b,11,none⟩)) au ?_;simp only [sX];refine onE 7 fun K hK=>?_;go_simp;refine hK.out _ _ (fun h=>absurd rfl h) ?_
  try simp only [sX]
  refine dnE ?_ _;go_wp2;refine bodyPost_ret (v:=.agg (Qau ⟨g.k,Qbb g.s 1,g.h,g.l,g.a,g.t,g.z,g.P,g.N,g.x,g.y,E,R⟩ ⟨q.pa,q.pc,q.na,q.nc,ea,ec,ra,rc⟩)) (by simp [results,results91,go_sem,c0,c1,c2,c3,c4,c5,c6,c7,c8,c9,ag,af,ae,z0,z1,z2,z3,z4,z5,z6,z7,z8,z9,aq,av,ao]) rfl (AgRes.mk (o:=⟨g.k,Qbb g.s 1,g.h,g.l,g.a,g.t,g.z,g.P,g.N,g.x,g.y,E,R⟩) (p:=⟨q.pa,q.pc,q.na,q.nc,ea,ec,ra,rc⟩) (putS' OX HG HX az aw HM) ?_ ?_)
  ·exact mBf
  ·repeat (refine Below.setCell ?_ oJ _)
   exact aa.bel
end
variable {ao:Option Addr}
section
theorem QsT {L:List Ce} (h:QbG w ao L):QbG w ao (L.take k):=by
 refine ⟨fun h0=>?_,fun c hc=>h.2 c (ZZo hc)⟩;obtain ⟨b,aa,e,hc⟩:=h.1 OQ;refine ⟨b,aa,e,fun i c hi=>hc i c ?_⟩;rw [List.getElem?_take] at hi
 split at hi
 ·exact hi
 ·cases hi
theorem QmZ {L:List Ce} (h:QbG w ao L) (hc:L.length<=ca):QbG w (if ca=k then ao else ao.map (·.add (k*15))) (L.drop k):=by
 refine ⟨fun h0=>?_,fun c hc=>h.2 c (ZZp hc)⟩;rw [List.length_drop] at h0;obtain ⟨b,aa,e,hx⟩:=h.1 oB;subst e;rw [if_neg oB];refine ⟨b,aa+k*15,by simp [Addr.add],fun i c hi=>?_⟩;rw [List.getElem?_drop] at hi;have:=hx (k+i) c hi;rw [show aa+k*15+i*15=aa+(k+i)*15 by omega];exact this
inductive PuA (L:List Ce) (win:Int) (x:Sx):List Ce->Int->Prop
 | kind (c:Ce) (hc:c∈L) (k1:c.n=win) (k2:c.s=x.se) (hk:¬ c.g.k=x.k):PuA L win x [] 9
 | there (c:Ce) (o:Ag) (R:List Ce) (hc:c∈L) (k1:c.n=win) (k2:c.s=x.se) (hk:c.g.k=x.k) (hp:Qbv c.g x o) (hR:PtL L win x.se o R):PuA L win x R 0
 | full (hn:¬ Qoc L win x.se) (hl:60<=L.length):PuA L win x [] 8
 | new (o:Ag) (R:List Ce) (hn:¬ Qoc L win x.se) (hl:L.length<60) (hp:Qbv (Qcs x.k) x o) (hR:PtL L win x.se o R):PuA L win x R 0
theorem Qut {L A B:List Ce} (hL:AscC L) (h:PlcA L n s k true) (hA:A.map Ce.key=(L.take k).map Ce.key) (hB:B.map Ce.key=(L.drop (k+1)).map Ce.key):PtL L n s o ((A ++ [⟨n,s,o,q⟩]) ++ B):=by
 obtain ⟨c,_,_,_,_,e⟩:=QlC hL h;exact mD4
theorem ptl_no {L A B:List Ce} (hL:AscC L) (h:PlcA L n s k false) (hA:A.map Ce.key=(L.take k).map Ce.key) (hB:B.map Ce.key=(L.drop k).map Ce.key):PtL L n s o ((A ++ [⟨n,s,o,q⟩]) ++ B):=by
 obtain ⟨e,_⟩:=QqM hL h;exact mD4
end
section
theorem AgO.plgP {B:Nat} (h:AgO w B g p):PlG g p:=by
 exact mAu
theorem cells7 (h:w.heap[r]?=some (.cells (Qa0 x) 85 (0,0))):w.cell? ⟨r,0,none⟩=some (.int .i64 x.k)/\w.cell? ⟨r,1,none⟩=some (.string x.se)/\w.cell? ⟨r,2,none⟩=some (.int .i64 x.v)/\w.cell? ⟨r,3,none⟩=some (.string x.wd)/\w.cell? ⟨r,4,none⟩=some (.int .u64 x.wt)/\w.cell? ⟨r,5,none⟩=some (.bool x.tm)/\w.cell? ⟨r,6,none⟩=some (.int .i64 x.ti):=⟨QaG h 0 rfl,QaG h 1 rfl,QaG h 2 rfl,QaG h 3 rfl,QaG h 4 rfl,QaG h 5 rfl,QaG h 6 rfl⟩
end
variable {v':Value}
variable {c:Ce}
section
theorem rowAll {T:TypeId} {u0 u1 u2 u3 u4 u5 u6 u7 u8 u9 u10 u11 u12 u13 u14:Value} (h:w.heap[r]?=some (.cells #[u0,u1,u2,u3,u4,u5,u6,u7,u8,u9,u10,u11,u12,u13,u14] T (0,0))) (v0 v1 v2 v3 v4 v5 v6 v7 v8 v9 v10 v11 v12 v13 v14:Value) :
  (((((((((((((((w.setCell ⟨r,0,none⟩ (v0)).setCell ⟨r,1,none⟩ (v1)).setCell ⟨r,2,none⟩ (v2)).setCell ⟨r,3,none⟩ (v3)).setCell ⟨r,4,none⟩ (v4)).setCell ⟨r,5,none⟩ (v5)).setCell ⟨r,6,none⟩ (v6)).setCell ⟨r,7,none⟩ (v7)).setCell ⟨r,8,none⟩ (v8)).setCell ⟨r,9,none⟩ (v9)).setCell ⟨r,10,none⟩ (v10)).setCell ⟨r,11,none⟩ (v11)).setCell ⟨r,12,none⟩ (v12)).setCell ⟨r,13,none⟩ (v13)).setCell ⟨r,14,none⟩ (v14)).heap[r]?=some (.cells #[v0,v1,v2,v3,v4,v5,v6,v7,v8,v9,v10,v11,v12,v13,v14] T (0,0)):=
 QrY (ZZl _ r 1 _ _ v1 (ZZl _ r 0 _ _ v0 h))
theorem Qrw (h:Bw w0 w) (hr:w0.heap.size<=r) (v0 v1 v2 v3 v4 v5 v6 v7 v8 v9 v10 v11 v12 v13 v14:Value) :
  Bw w0 (((((((((((((((w.setCell ⟨r,0,none⟩ (v0)).setCell ⟨r,1,none⟩ (v1)).setCell ⟨r,2,none⟩ (v2)).setCell ⟨r,3,none⟩ (v3)).setCell ⟨r,4,none⟩ (v4)).setCell ⟨r,5,none⟩ (v5)).setCell ⟨r,6,none⟩ (v6)).setCell ⟨r,7,none⟩ (v7)).setCell ⟨r,8,none⟩ (v8)).setCell ⟨r,9,none⟩ (v9)).setCell ⟨r,10,none⟩ (v10)).setCell ⟨r,11,none⟩ (v11)).setCell ⟨r,12,none⟩ (v12)).setCell ⟨r,13,none⟩ (v13)).setCell ⟨r,14,none⟩ (v14)):=
 ((((((((((((((h.setCell hr v0).setCell hr v1).setCell hr v2).setCell hr v3).setCell hr v4).setCell hr v5).setCell hr v6).setCell hr v7).setCell hr v8).setCell hr v9).setCell hr v10).setCell hr v11).setCell hr v12).setCell hr v13).setCell hr v14
theorem Qlo {k:Int} (h1:1<=k) (h4:k<=4):Calls prog 51 #[.int .i64 k] w fun e w'=>e=.returned (.agg (Qau (Qcs k) pl0))/\Bw w w':=by
 refine (Qn0 k w).mono (fun e w' h=>?_);have e:Qcs k=⟨k,0,0,0,0,if k=2 then -1 else 0,0,[],[],0,0,[],[]⟩:=by unfold Qcs;rw [if_pos ⟨h1,h4⟩]
 rw [e] at h ⊢;exact h
theorem Que {w2 W5:World} {G:Nat} {u:Value} {A:List Ce} (hr:OwnC w2 w.heap.size u A) (ho:CesO w2 w.heap.size A) (hb2:Bw w w2) (hb5:Bw w2 W5) (hG:w2.heap.size<=G) (ha:AgO W5 (G+1) c.g c.p)
  (hown:w6.ownsRow w.heap.size 46 15 v' (A.length+1) (flC A ++ ceL c)) (hg:(W5.alloc (.cells (Qao c) 46)).grownBy w6 u.ownBlock):OwnC w6 w.heap.size v' (A ++ [c])/\CesO w6 w.heap.size (A ++ [c])/\Bw w w6:=by
 have aa:Bw w2 (W5.alloc (.cells (Qao c) 46)):=hb5.alloc hb5.size _;have ab:Bw w (W5.alloc (.cells (Qao c) 46)):=hb2.trans (aa.mono hb2.size);have a2:Bw W5 (W5.alloc (.cells (Qao c) 46)):=bAA;have hO:=ho.add aa hb2.size (c:=c) ((ha.past a2).le oB);have hR:OwnC (W5.alloc (.cells (Qao c) 46)) w.heap.size u A:=hr.past aa;have hp:(c :: A:List Ce).Perm (A ++ [c]):=(List.perm_append_singleton _ _).symm;exact ⟨OwnC.mk hown,(hO.row hR hg).perm hp,ab.grown hg ab.size (fun j hj=>(World.ownsRow.lt hr j hj).1)⟩
theorem QvY {w7 w8:World} {B:Nat} {v'':Value} {A M:List Ce} (hr:OwnC w6 B v' A) (ho:CesO w6 B A) (hB:B<=w6.heap.size) (hb:Below B w w6) (hb7:Bw w6 w7) (hM:CesO w7 w6.heap.size M)
  (hown:w8.ownsRow B 46 15 v'' (A.length+M.length) (flC A ++ flC M)) (hg:w7.grownBy w8 v'.ownBlock):OwnC w8 B v'' (A ++ M)/\CesO w8 B (A ++ M)/\Below B w w8:=by
 refine ⟨?_,(ho.app hb7 hB hM).row (hr.past hb7) hg,(hb.trans (hb7.mono hB)).grown hg (Nat.le_trans hB hb7.size) (fun j hj=>(World.ownsRow.lt hr j hj).1)⟩
 show w8.ownsRow _ _ _ _ _ _
 rw [List.length_append,Qc1];exact hown
theorem QgQ {k:Int} (h1:1<=k) (h4:k<=4):agB (Qcs k)=true/\AgOk (Qcs k)/\AgSm (Qcs k)/\(Qcs k).k=k/\∀ w B,AgO w B (Qcs k) pl0:=by
 have e:Qcs k=⟨k,0,0,0,0,if k=2 then -1 else 0,0,[],[],0,0,[],[]⟩:=by unfold Qcs;rw [if_pos ⟨h1,h4⟩]
 have zi:I64 0:=by unfold I64;omega
 have zu:U64 0:=by unfold U64;omega
 refine ⟨?_,?_,?_,by rw [e],fun w B=>?_⟩
 ·have:k=1∨k=2∨k=3∨k=4:=by omega
  rcases this with rfl | rfl | rfl | rfl <;> rfl
 ·rw [e]
  exact ⟨by show I64 k;unfold I64;omega,zu,zi,zu,zi,by show I64 (if k=2 then -1 else 0);split <;> (unfold I64;omega),zu,zi,zu,(fun b hb=>by cases hb),(fun b hb=>by cases hb),(fun b hb=>by cases hb),(fun b hb=>by cases hb)⟩
 ·rw [e];exact ⟨ZZj _,ZZj _,ZZj _,ZZj _⟩
 ·rw [e];exact AgO.nil _ _ rfl rfl rfl rfl
theorem QqP (h:Bw w0 w) (hr:w0.heap.size<=r) (v0 v1 v2 v3 v4 v5 v6 v7 v8 v9 v10 v11 v12:Value) :
  Bw w0 (((((((((((((w.setCell ⟨r,2,none⟩ (v0)).setCell ⟨r,3,none⟩ (v1)).setCell ⟨r,4,none⟩ (v2)).setCell ⟨r,5,none⟩ (v3)).setCell ⟨r,6,none⟩ (v4)).setCell ⟨r,7,none⟩ (v5)).setCell ⟨r,8,none⟩ (v6)).setCell ⟨r,9,none⟩ (v7)).setCell ⟨r,10,none⟩ (v8)).setCell ⟨r,11,none⟩ (v9)).setCell ⟨r,12,none⟩ (v10)).setCell ⟨r,13,none⟩ (v11)).setCell ⟨r,14,none⟩ (v12)):=
 ((((((((((((h.setCell hr v0).setCell hr v1).setCell hr v2).setCell hr v3).setCell hr v4).setCell hr v5).setCell hr v6).setCell hr v7).setCell hr v8).setCell hr v9).setCell hr v10).setCell hr v11).setCell hr v12
theorem Qsq {N:Nat} {L:List Ce} (win:Int) (x:Sx) (hx:x.B=true) (ox:x.Ok) (hI:ShI w ao N L) (hca:N<=ca) (asc:AscC L) (rt:∀ c∈L,agB c.g=true) :
  Calls prog 84 #[.slice ao N ca,.int .i64 win,.agg (Qa0 x)] w fun e w'=>∃ v R code,e=.returned (.tuple #[v,.int .i64 code])/\PuA L win x R code/\OwnC w' w.heap.size v R/\CesO w' w.heap.size R/\Bw w w':=by
 obtain ⟨i0,hi,a9,bh,aY⟩:=Qeb;have II:=Qaa hI;have HX:=Qaa hx;have OX:=Qaa ox;have AS:=Qaa asc;have RT:=Qaa rt;have aC:Hid (Bw w (w.alloc (.cells (Qa0 x) 85))):=bAA;have X0:=Qaa (ZZk w (.cells (Qa0 x) 85));have S0:Hid ((w.alloc (.cells (Qa0 x) 85)).heap.size=w.heap.size+1):=by show _=_;simp
 have z1:=QaG X0 1 rfl;obtain ⟨g0,a7⟩:∃ g,g=Qcs x.k:=⟨_,rfl⟩;obtain ⟨p0,bl⟩:∃ p,p=pl0:=⟨_,rfl⟩;have HG:=Qaa a7;have aM:=Qaa bl;have K1:=Qaa (QbK hx).1.1;have K4:=Qaa (QbK hx).1.2;clear hI hx ox asc rt a7 bl;go_enter func84,ntmps84;go_wp2_with fail;clear z1;generalize w.alloc _=W0 at aC X0 S0 ⊢;refine (Qfq win x.se II.hN II.lN (QaL II.mem aC)).mono ?_;rintro e w1 ⟨k,is,rfl,hp,aE⟩;have HP:=Qaa hp;have ak:=Qaa (Qac aC aE);have X1:=Qaa (QbH X0 aE);have S1:Hid (w.heap.size+1<=w1.heap.size):=by show _<=_;have:=aE.size;have:=S0.out;omega
 have bN:k<=N:=by have:=hp.le;have:=II.hN;omega
 clear hp aE aC X0 S0;have bM:(0:Int)<=(k:Int):=oB
 have bK:(k:Int)<=(ca:Int):=oB
 have a8:Hid ((L.take k).length=k):=by show _=_;rw [List.length_take];have:=II.hN;omega
 have lk:k<=1048576:=by have:=II.lN;omega
 cases is
 case' true=>
  obtain ⟨c,hc,hm,e1,e2,_⟩:=QlC AS HP;have bG:k<N:=by have:=(ZZd.1 hc).1;have:=II.hN;omega
  have bu:(k:Int)<(N:Int):=oB
  obtain ⟨b,bC,e,ab⟩:=II.mem.1 (oA II.hN);subst e;obtain ⟨_,_,y2,_⟩:=Qaq (ab k c hc) ak;have HC:=Qaa hc;have HM:=Qaa hm;have E1:=Qaa e1;have E2:=Qaa e2;have bw:=Qaa ab;have z0:=QaG X1 0 rfl;clear hc hm e1 e2 ab;have bk:(c.g.k == x.k)=decide (c.g.k=x.k):=rfl;by_cases hk:c.g.k=x.k
  case' pos=>
   have HK:=Qaa hk;rw [decide_eq_true hk] at bk
  case' neg=>
   have HK:Hid (PuA L win x [] 9):=PuA.kind c HM E1 E2 hk;rw [decide_eq_false hk] at bk
  all_goals
   clear hk;go_upto_region 2 with fail
   go_region_held3 (fun W=>W.cell? ⟨b,bC+k*15+2,none⟩=some (.int .i64 c.g.k)/\W.cell? ⟨w.heap.size,0,none⟩=some (.int .i64 x.k))
    (exact ⟨by simpa using y2,by simpa using z0⟩)
    (fail)
   clear y2 z0
  ·go_wp2
   go_ret2;exact ⟨_,[],9,rfl,HK,World.ownsRow_nil _ _ _ _,CesO.nil _ _,ak.drew⟩
  have an:Hid (∀ (o:Ag) (q:Pl) (A M:List Ce),Qbv c.g x o->A.map Ce.key=(L.take k).map Ce.key->M.map Ce.key=(L.drop (k+1)).map Ce.key->PuA L win x ((A ++ [⟨win,x.se,o,q⟩]) ++ M) 0):=Qaa (fun o q A M h hA hM=>PuA.there c o _ HM E1 E2 HK h (Qut AS HP hA hM));go_wp2_with fail
 case' false=>
  obtain ⟨_,hn⟩:=QqM AS HP;have aZ:=Qaa hn;clear hn;go_upto_region 2 with fail;have aa:(fun _=>True) w1.drew:=trivial;refine Qal (fun _=>True) 99 oG ?_;refine tkS 0 (.bool false) aa ?_;refine tkS 1 (.bool false) aa ?_;refine tkU 2 aa ?_;simp only [sX];refine tkU 3 aa ?_;refine tkU 4 aa ?_;refine tkU 5 aa ?_;simp only [sX];refine tkU 6 aa ?_;refine tkU 7 aa ?_;refine tkU 8 aa ?_;simp only [sX];refine tkU 9 aa ?_;refine tkU 10 aa ?_;refine tkS 11 (.bool false) aa ?_;simp only [sX];refine dnE ?_ _;clear aa;by_cases hf:60<=N
  case pos=>
   have HR:Hid (PuA L win x [] 8):=PuA.full aZ (oA II.hN);have bf:decide ((60:Int)<=(N:Int))=true:=ZZh oB;clear hf;go_wp2;go_ret2;exact ⟨_,[],8,rfl,HR,World.ownsRow_nil _ _ _ _,CesO.nil _ _,ak.drew⟩
  have bf:decide ((60:Int)<=(N:Int))=false:=ZZg oB;have HF:=Qaa hf;clear hf;have an:Hid (∀ (o:Ag) (q:Pl) (A M:List Ce),Qbv g0 x o->A.map Ce.key=(L.take k).map Ce.key->M.map Ce.key=(L.drop k).map Ce.key->PuA L win x ((A ++ [⟨win,x.se,o,q⟩]) ++ M) 0):=Qaa (fun o q A M h hA hM=>PuA.new o _ aZ (by have:=HF.out;have:=II.hN;omega) (HG.out ▸ h) (ptl_no AS HP hA hM));go_wp2_with fail
 all_goals
  refine (Qca (L:=L.take k) a8 lk (fun d hd=>II.sm d (ZZo hd)) (fun d hd=>II.pl d (ZZo hd)) (QaL (QsT II.mem) ak.drew)).mono ?_;rintro e w2 ⟨vA,A,rfl,hr,ho,bg,aI,bj⟩;have aF:=Qaa (Qac ak.drew aI);have X2:=Qaa (QbH (w:=w1.drew) X1 aI);have aN:=Qaa (hr.le ak.drew.size);have bi:=Qaa (ho.le ak.drew.size);have bn:=Qaa bg;have bL:=Qaa bj;clear hr ho bg bj aI;go_upto_region 7 with fail
  go_cut [11] (fun v w'=>∃ G:Nat,v=.pointer (some ⟨G,0,none⟩)/\Hid (w'.heap[G]?=some (.cells (Qao ⟨win,x.se,g0,p0⟩) 46 (0,0)))/\Hid (w2.heap.size<=G)/\Hid (Bw w2 w'))
  case first=>
   have aa:(fun W=>Bw w2 W) w2.drew:=(ZZb _ _).drew;refine Qal (fun W=>Bw w2 W) 8 oG ?_;refine tkS 0 (.int .i64 win) aa ?_;refine tkS 1 (.pointer (some ⟨w.heap.size,1,none⟩)) aa ?_;refine tkL 2 (.string x.se) aa (fun W hW=>?_) ?_
   ·have q:=QaG (QbH X2 hW) 1 rfl
    exact mAo
   simp only [sX];refine tkS 3 (.pointer (some ⟨w.heap.size,0,none⟩)) aa ?_;refine tkL 4 (.int .i64 x.k) aa (fun W hW=>?_) ?_
   ·have q:=QaG (QbH X2 hW) 0 rfl
    exact mAo
   simp only [sX];refine Qoj (i:=5) (j:=7) oG rfl rfl (fun K hK=>?_) (fun K hK=>?_)
   focus
    go_simp;refine (Qlo K1 K4).mono ?_;rintro e w3 ⟨rfl,am⟩;rw [<- HG.out,<- aM.out];have ap:Hid (Bw w2 w3):=(aa:Bw w2 _).trans (am.mono (aa:Bw w2 _).size);clear am
    try dsimp only
    refine gK hK ap.out ?_
    try simp only [sX]
    refine tkS 6 (.agg (Qao ⟨win,x.se,g0,p0⟩)) ap ?_;simp only [sX];refine onE 7 fun K hK=>?_;go_simp;have al:Hid (Bw w2 (w3.alloc (.cells Qbo 46))):=ap.alloc ap.size _;have R0:=Qaa (ZZk w3 (.cells Qbo 46))
    try dsimp only
    refine gK hK al.out ?_
    try simp only [sX]
    have hG:Hid (w2.heap.size<=w3.heap.size):=ap.size;generalize w3.alloc _=Wa at al R0 ⊢
   rotate_left
   focus
    go_simp;have ay:Hid (Bw w2 (w2.alloc (.cells Qbo 46)).drew):=((ZZb _ _).alloc (ZZa _) _).drew;have R1:Hid ((w2.alloc (.cells Qbo 46)).drew.heap[w2.heap.size]?=some (.cells Qbo 46 (0,0))):=ZZk w2 (.cells Qbo 46)
    try dsimp only
    refine gK hK ay.out ?_
    try simp only [sX]
    generalize (w2.alloc _).drew=Wb at ay R1 ⊢;refine onE 5 fun K hK=>?_;go_simp;refine (Qlo K1 K4).mono ?_;rintro e Wa ⟨rfl,am⟩;rw [<- HG.out,<- aM.out];have al:Hid (Bw w2 Wa):=ay.trans (am.mono ay.size);have R0:=Qaa (QbH R1 am);have hG:Hid (w2.heap.size<=w2.heap.size):=ZZa _;clear am R1 ay
    try dsimp only
    refine gK hK al.out ?_
    try simp only [sX]
    refine tkS 6 (.agg (Qao ⟨win,x.se,g0,p0⟩)) al ?_;simp only [sX]
   all_goals
    obtain ⟨q0,q1,q2,q3,q4,q5,q6,q7,q8,q9,ae,ag,ad,af,ah⟩:=Qu3 R0;obtain ⟨f0,f1,f2,f3,f4,f5,f6,f7,f8,f9,ar,ax,aw,aq,au⟩:=fA15 R0;refine onE 8 fun K hK=>?_;go_simp;clear q0 q1 q2 q3 q4 q5 q6 q7 q8 q9 ae ag ad af ah;clear f0 f1 f2 f3 f4 f5 f6 f7 f8 f9 ar ax aw aq au;refine hK.out _ _ (fun h=>absurd rfl h) ?_
    try simp only [sX]
    refine dnE ?_ _;go_wp2;go_meet;exact ⟨_,rfl,Qaa (rowAll R0 _ _ _ _ _ _ _ _ _ _ _ _ _ _ _),hG,Qaa (Qrw al hG _ _ _ _ _ _ _ _ _ _ _ _ _ _ _)⟩
  obtain ⟨G,rfl,RG,GG,BG⟩:=hcut
 focus
  obtain ⟨a1,a2,a3,a4,a5⟩:=QgQ K1 K4;obtain ⟨W9,br⟩:∃ X,X=wc:=⟨_,rfl⟩;subst br;have R9:=RG;have B9:=BG;have HQ:Hid (agB g0=true/\g0.k=x.k/\AgOk g0/\AgSm g0/\PlG g0 p0/\AgAt W9 g0 p0):=Qaa (by rw [HG.out,aM.out];exact ⟨a1,a4,a2,a3,(a5 w2 0).plgP,(a5 _ 0).at⟩);clear a1 a2 a3 a4 a5 RG BG;go_upto_region 10 with fail
 rotate_left
 focus
  obtain ⟨_,_,y2,y3,y4,y5,y6,y7,y8,y9,bz,bt,bx,bE,bs⟩:=Qaq (bw.out k c HC) (Qac aF BG);obtain ⟨q0,q1,q2,q3,q4,q5,q6,q7,q8,q9,ae,ag,ad,af,ah⟩:=Qu3 RG;obtain ⟨f0,f1,f2,f3,f4,f5,f6,f7,f8,f9,ar,ax,aw,aq,au⟩:=fA15 RG;go_upto_region 10 with fail;clear y2 y3 y4 y5 y6 y7 y8 y9 bz bt bx bE bs;clear q0 q1 q2 q3 q4 q5 q6 q7 q8 q9 ae ag ad af ah;clear f0 f1 f2 f3 f4 f5 f6 f7 f8 f9 ar ax aw aq au;generalize hW:World.setCell _ _ _=W9;have R9:Hid (W9.heap[G]?=some (.cells (Qao ⟨win,x.se,c.g,c.p⟩) 46 (0,0))):=Qaa (by rw [<- hW];exact QrY RG);have B9:Hid (Bw w2 W9):=Qaa (by rw [<- hW];exact QqP BG GG _ _ _ _ _ _ _ _ _ _ _ _ _);clear hW RG BG;have HQ:Hid (agB c.g=true/\c.g.k=x.k/\AgOk c.g/\AgSm c.g/\PlG c.g c.p/\AgAt W9 c.g c.p):=Qaa ⟨RT.out c HM,HK,II.ok c HM,II.sm c HM,II.pl c HM,QaD (II.mem.2 c HM) (Qac aF B9)⟩
 all_goals
  have X9:=Qaa (QbH X2 B9);obtain ⟨s0,s1,s2,s3,s4,s5,s6⟩:=cells7 X9;obtain ⟨q0,q1,q2,q3,q4,q5,q6,q7,q8,q9,ae,ag,ad,af,ah⟩:=Qu3 R9;go_wp2_with fail;clear s0 s1 s2 s3 s4 s5 s6;clear q0 q1 q2 q3 q4 q5 q6 q7 q8 q9 ae ag ad af ah;refine (Qig x HQ.1 HX HQ.2.1 HQ.2.2.1 OX HQ.2.2.2.1 HQ.2.2.2.2.1 HQ.2.2.2.2.2).mono ?_;rintro e w4 ⟨v,o,rfl,az,⟨q,rfl,aQ⟩,aH⟩;have R4:=Qaa (QbH R9 aH);have B4:=Qaa (B9.trans (aH.mono B9.size));have aL:=Qaa az;have aU:=Qaa (aQ.le (show G+1<=W9.heap.size from (ZZc.1 R9).1));clear az aQ aH R9 B9 HQ X9;obtain ⟨q0,q1,q2,q3,q4,q5,q6,q7,q8,q9,ae,ag,ad,af,ah⟩:=Qu3 R4;obtain ⟨f0,f1,f2,f3,f4,f5,f6,f7,f8,f9,ar,ax,aw,aq,au⟩:=fA15 R4;go_upto_region 11 with fail;clear q0 q1 q2 q3 q4 q5 q6 q7 q8 q9 ae ag ad af ah;clear f0 f1 f2 f3 f4 f5 f6 f7 f8 f9 ar ax aw aq au;generalize hW:World.setCell _ _ _=W5;have R5:Hid (W5.heap[G]?=some (.cells (Qao ⟨win,x.se,o,q⟩) 46 (0,0))):=Qaa (by rw [<- hW];exact QrY R4);have B5:Hid (Bw w2 W5):=Qaa (by rw [<- hW];exact QqP B4 GG _ _ _ _ _ _ _ _ _ _ _ _ _);have O5:Hid (AgO W5 (G+1) o q):=Qaa (by rw [<- hW];exact aU.kept15 (Nat.lt_succ_self _));clear hW R4 B4 aU;obtain ⟨q0,q1,q2,q3,q4,q5,q6,q7,q8,q9,ae,ag,ad,af,ah⟩:=Qu3 R5;have aW:=Qaa (aN.past B5);have aD:Hid (A.length=k):=by show _=_;have:=congrArg List.length bn;simp at this;have:=a8.out;simp at this;omega
  have bH:w.heap.size<=W5.heap.size:=Nat.le_trans aF.size B5.size;have aX:=Qaa (fun v' w6=>Que (c:=⟨win,x.se,o,q⟩) (v':=v') (w6:=w6) aN bi aF B5 GG O5);go_wp2_with (at_builtin;refine wpList_append_own _ rfl _ _ 27 rfl w.heap.size 46 i0 (.agg Qbo) 15 192 underlying27 hi a9 bh aY rfl oF _ _ _ rfl (World.ownsRow.alloc aW _) ⟨W5.heap.size,0,none⟩ 1 1 (ceL ⟨win,x.se,o,q⟩) rfl rfl ?c1 ?c2 ?c3 ?c4 ?c5 ?_)
  case c1=>first | exact QbD (c:=⟨win,x.se,o,q⟩) | exact fun j u hj=>hj
  case c2=>exact QcG _
  case c3=>have:=aD.out;unfold maxLen;omega
  case c4=>have:=aD.out;omega
  case c5=>first | (simp;omega) | omega
  intro v6 w6 ai ac aB;obtain ⟨bo,bm,aO⟩:=aX.out v6 w6 ai ac;have be:=Qaa bo;have bv:=Qaa bm;have bc:=Qaa aO;have a6:w.heap.size<=w6.heap.size:=aO.size;clear ai ac aB bo bm aO aX aW aN bi O5 R5 B5;clear q0 q1 q2 q3 q4 q5 q6 q7 q8 q9 ae ag ad af ah
 focus
  have bF:(0:Int)<=(k:Int)+1:=oB
  have bJ:(k:Int)+1<=(N:Int):=oB
  have bI:IntKind.i64.wrap ((k:Int)+1)=(k:Int)+1:=ZZi _ ⟨by omega,by omega⟩;have aK:Hid ((L.drop (k+1)).length=N - (k+1)):=by show _=_;rw [List.length_drop,II.hN]
  have ld:N - (k+1)<=1048576:=by have:=II.lN;omega
  have D1:=QmZ (k:=k+1) (ca:=ca) II.mem (oA II.hN);by_cases av:ca=k+1
  case' pos=>rw [if_pos av] at D1
  case' neg=>
   rw [if_neg av] at D1;simp only [Option.map_some,Addr.add] at D1
  all_goals have bd:=Qaa D1
 rotate_left 2
 focus
  have aK:Hid ((L.drop k).length=N - k):=by show _=_;rw [List.length_drop,II.hN]
  have ld:N - k<=1048576:=by have:=II.lN;omega
  have D1:=QmZ (k:=k) (ca:=ca) II.mem (oA II.hN);by_cases av:ca=k
  case' pos=>rw [if_pos av] at D1
  case' neg=>rw [if_neg av] at D1
  all_goals have bd:=Qaa D1
 all_goals
  clear D1;go_wp2_with fail;refine (Qca aK ld (fun d hd=>II.sm d (ZZp hd)) (fun d hd=>II.pl d (ZZp hd)) (QaL bd bc)).mono ?_;rintro e w7 ⟨vB,M,rfl,bp,bb,aJ,aG,ba⟩;obtain ⟨gB,cB,rfl,aP⟩:=bp.src ba;have bq:=Qaa aP;have bD:=Qaa bb;have bA:=Qaa aJ;have aS:=Qaa aG;have aV:=Qaa ((Qg7 aJ).trans aK);have aR:=Qaa (be.past aS);have bB:w.heap.size<=w7.heap.size:=Nat.le_trans a6 aG.size;have aT:=Qaa (fun v'' w8=>QvY (v'':=v'') (w8:=w8) be bv a6 bc aS bD);clear aP bb aJ aG bp ba;go_wp2_with (at_builtin;refine wpList_append_own _ rfl _ _ 27 rfl w.heap.size 46 i0 (.agg Qbo) 15 192 underlying27 hi a9 bh aY rfl oF _ _ _ rfl aR ⟨gB,0,none⟩ M.length cB (flC M) rfl (Qbn M) bq (Qc3 M) ?c3 ?c4 bB ?_)
  case c3=>have:=aD.out;have:=aV.out;have:=II.lN;simp only [List.length_append,List.length_cons,List.length_nil];unfold maxLen;omega
  case c4=>have:=aD.out;have:=aV.out;have:=II.lN;simp only [List.length_append,List.length_cons,List.length_nil];omega
  intro v8 w8 aj a0 aA;obtain ⟨f1,f2,f3⟩:=aT.out v8 w8 (by rw [List.length_append];exact aj) a0;have F1:=Qaa f1;have F2:=Qaa f2;have F3:=Qaa f3;clear f1 f2 f3 aj a0 aA aT aR;go_wp2;go_ret2;exact ⟨_,_,0,rfl,an.out _ _ _ _ aL bn bA,F1,F2,F3⟩
end
section
theorem QtR (h:cRi c=true):agB c.g=true:=by
 unfold cRi at h;simp only [yB] at h
 first | exact h.1.2 | exact h.2 | exact h.1.1.2 | exact h.2.1 | exact h.2.2
end
section
theorem QhU (L:List Bn):(Qbe L).length<=30:=by
 exact mB5
def AgFew (o:Ag):Prop:=o.P.length<=30/\o.N.length<=30/\o.E.length<=64/\o.R.length<=64
theorem AgFew.sm (h:AgFew o):AgSm o:=⟨by have:=h.1;omega,by have:=h.2.1;omega,by have:=h.2.2.1;omega,by have:=h.2.2.2;omega⟩
theorem QmC (h:AgMrg g g' o):AgFew o:=by
 unfold AgMrg at h
 split at h
 ·rename_i hg
  obtain ⟨E,R,m,rfl⟩:=h;have n:=Qbz hg.1;have n':=Qbz hg.2.1;have m':Qoq g.E g.R g'.E g'.R E R:=by unfold Qoq;rw [if_pos ⟨n.hl,n'.hl⟩];exact m
  have l:=Qi5 (QjV n.hl n'.hl m');exact ⟨QhU _,QhU _,by show E.length<=_;omega,by show R.length<=_;omega⟩
 ·subst h
  exact ⟨by simp [Qg1],by simp [Qg1],by simp [Qg1],by simp [Qg1]⟩
theorem QmI (h:Qbv g x o) (hx:x.B=true) (hg:agB g=true) (hk:g.k=x.k):AgFew o:=by
 unfold Qbv at h
 split at h
 ·exact QmC h
 ·rename_i q;exact absurd (by first | exact ⟨hg,hx,hk⟩ | exact ⟨hg,hk,hx⟩ | exact ⟨⟨hg,hx⟩,hk⟩) q
end
section
theorem Qv3 {A R:List Ce} (h:PtL A n s o R) (a:AscC A):AscC R:=by
 refine Qek (L:=A.filter (loF n s) ++ ⟨n,s,o,⟨none,0,none,0,none,0,none,0⟩⟩ :: A.filter (hiF n s)) ?_ (Qlu (c:=⟨n,s,o,⟨none,0,none,0,none,0,none,0⟩⟩) a);rw [List.map_append,List.map_cons];exact h
structure CnQ (M:List Ce):Prop where
 ok:∀ c∈M,AgOk c.g
 sm:∀ c∈M,AgSm c.g
 rt:∀ c∈M,agB c.g=true
 ky:∀ c∈M,Qdc c.n c.s
theorem CnQ.keys {M L:List Ce} (h:CnQ L) (k:M.map Ce.key=L.map Ce.key):CnQ M:=by
 refine ⟨fun c hc=>?_,fun c hc=>?_,fun c hc=>?_,fun c hc=>?_⟩ <;> obtain ⟨d,hd,e1,e2,e3⟩:=QlS k hc
 ·rw [<- e3];exact h.ok d hd
 ·rw [<- e3];exact h.sm d hd
 ·rw [<- e3];exact h.rt d hd
 ·rw [<- e1,<- e2];exact h.ky d hd
theorem CnQ.ptl {A R:List Ce} (q:CnQ A) (h:PtL A n s o R) (k:Qdc n s) (ok:AgOk o) (sm:AgSm o) (rt:agB o=true):CnQ R:=by
 refine CnQ.keys (L:=A.filter (loF n s) ++ ⟨n,s,o,⟨none,0,none,0,none,0,none,0⟩⟩ :: A.filter (hiF n s)) ?_ (by rw [List.map_append,List.map_cons];exact h)
 have aa:∀ c∈A.filter (loF n s) ++ ⟨n,s,o,⟨none,0,none,0,none,0,none,0⟩⟩ :: A.filter (hiF n s),c∈A∨c=⟨n,s,o,⟨none,0,none,0,none,0,none,0⟩⟩:=fun c hc=>by
  rcases List.mem_append.1 hc with hc | hc
  ·exact .inl (List.mem_filter.1 hc).1
  ·rcases List.mem_cons.1 hc with rfl | hc
   ·exact .inr rfl
   ·exact .inl (List.mem_filter.1 hc).1
 refine ⟨fun c hc=>?_,fun c hc=>?_,fun c hc=>?_,fun c hc=>?_⟩ <;> rcases aa c hc with hc | rfl
 ·exact q.ok c hc
 ·exact ok
 ·exact q.sm c hc
 ·exact sm
 ·exact q.rt c hc
 ·exact rt
 ·exact q.ky c hc
 ·exact k
end
variable {R':List Ce}
section
theorem Qnk (h:x.B=true):Qbl x.se=true:=by
 unfold Sx.B QbC at h;simp only [yB] at h;exact h.1.1.1.2
theorem QqN (h:Qbv g x o) (hg:agB g=true) (hx:x.B=true) (hk:g.k=x.k) (ok:AgOk g) (ox:x.Ok):o.s≠0:=by
 unfold Qbv at h;rw [if_pos (by first | exact ⟨hg,hx,hk⟩ | exact ⟨hg,hk,hx⟩)] at h;unfold AgMrg at h
 split at h
 ·obtain ⟨E,R,m,rfl⟩:=h
  show Qbb g.s (QhX x).s≠0
  have e:(QhX x).s=1:=by unfold QhX;split <;> first | rfl | (split <;> first | rfl | (split <;> rfl))
  rw [e];have:=ok.s;unfold U64 at this;unfold Qbb
  split <;> omega
 ·rename_i q
  exact absurd ⟨hg,Qcb ox hx,hk.trans (QhW hx).symm⟩ q
theorem QoE {R:List Ce} (r:csR R=true) (h:PtL R n s o R') (hn:Qf7 n=true) (hs:Qbl s=true) (ho:agB o=true) (hz:o.s≠0) (hl:R'.length<=60):csR R'=true:=by
 obtain ⟨h1,h2,h3⟩:=csR_iff.1 r;refine csR_iff.2 ⟨hl,fun c hc=>?_,Qv3 h h3⟩;have h':R'.map Ce.key=(R.filter (loF n s) ++ ⟨n,s,o,⟨none,0,none,0,none,0,none,0⟩⟩ :: R.filter (hiF n s)).map Ce.key:=by rw [List.map_append,List.map_cons];exact h
 obtain ⟨d,hd,e1,e2,e3⟩:=QlS h' hc;have e:cRi c=cRi d:=by unfold cRi;rw [e1,e2,e3]
 rw [e];rcases List.mem_append.1 hd with hd | hd
 ·exact h2 d (List.mem_filter.1 hd).1
 ·rcases List.mem_cons.1 hd with rfl | hd
  ·unfold cRi
   simp [hn,hs,ho,hz]
  ·exact h2 d (List.mem_filter.1 hd).1
theorem Qsp {R:List Ce} (r:csR R=true) (q:CnQ R) (ox:x.Ok) (hx:x.B=true) (hn:Qf7 n=true) (p:PuA R n x R' 0):csR R'=true/\CnQ R':=by
 have ab:=(csR_iff.1 r).2.2;have kw:Qdc n x.se:=⟨QpB hn,ox.se⟩;generalize hc0:(0:Int)=c0 at p
 cases p with
 | kind=>exact absurd hc0 oF
 | full=>exact absurd hc0 oF
 | there c o R' hc k1 k2 hk hp hR=>
  obtain ⟨a1,a2,_⟩:=QgZ ox (q.ok c hc) hp
  have hl:R'.length<=60:=by
   have e:=congrArg List.length hR;simp only [yA,List.length_append,List.length_cons] at e;have sp:=congrArg List.length (QjD ab hc);rw [k1,k2] at sp;simp only [List.length_append,List.length_cons] at sp;have:=(csR_iff.1 r).1;omega
  exact ⟨QoE r hR hn (Qnk hx) (a2 (q.rt c hc)) (QqN hp (q.rt c hc) hx hk (q.ok c hc) ox) hl,q.ptl hR kw a1 (QmI hp hx (q.rt c hc) hk).sm (a2 (q.rt c hc))⟩
 | new o R' hno hl hp hR=>
  obtain ⟨b1,b4⟩:=(QbK hx).1;obtain ⟨g1,g2,g3,g4,_⟩:=QgQ b1 b4;obtain ⟨a1,a2,_⟩:=QgZ ox g2 hp
  have aa:R'.length<=60:=by
   have e:=congrArg List.length hR;simp only [yA,List.length_append,List.length_cons] at e;have:=(Qqb hno).length_eq;simp only [List.length_append] at this;omega
  exact ⟨QoE r hR hn (Qnk hx) (a2 g1) (QqN hp g1 hx g4 g2 ox) aa,q.ptl hR kw a1 (QmI hp hx g1 g4).sm (a2 g1)⟩
end
section
theorem cnq_of {N:Nat} {L:List Ce} (h:ShI w ao N L) (r:csR L=true):CnQ L:=⟨h.ok,h.sm,fun c hc=>QtR ((csR_iff.1 r).2.1 c hc),Qia h r⟩
end
end Go.Proofs.YtioohanfodmddaaGreatDoor
