/-
 Lists of bins brought together: in any order, and however they are put together.
-/
import Derived.Test.YthchmdmncmioiaaGreatDoorZJV
namespace Go.Proofs.YthchmdmncmioiaaGreatDoor
set_option linter.unusedVariables false
set_option linter.unusedSimpArgs false
def QjI (t:Int):Int:=if 18446744073709551615<t then 18446744073709551615 else t
def Qlh (L:List Bn):Int:=(L.map (fun x=>x.2)).sum
theorem QoG (a b:Int):QaA a b=QjI (a+b):=rfl
theorem QqN {a b:Int} (ha:0<=a) (hb:0<=b):QjI (QjI a+b)=QjI (a+b):=by
 unfold QjI
 split <;> split <;> omega
theorem QeD (x:Bn) (L:List Bn):Qlh (x :: L)=x.2+Qlh L:=by simp [Qlh]
theorem Qn2:Qlh []=0:=rfl
theorem QoM (a b:List Bn):Qlh (a ++ b)=Qlh a+Qlh b:=by simp [Qlh,List.sum_append]
theorem Qhs:∀ {L:List Bn},(∀ x∈L,Qbk x)->0<=Qlh L
 | [],_=>by simp [Qlh]
 | x :: L,h=>by
  rw [QeD];have h1:=(h x (List.mem_cons_self ..)).2.1;have h2:=Qhs (L:=L) (fun y hy=>h y (ZZm _ hy));omega
theorem QiX:∀ {L:List Bn} {x:Int},0<=x->(∀ y∈L,Qbk y)->Qb9 (QjI x) L=QjI (x+Qlh L)
 | [],x,hx,_=>by simp [Qb9,Qlh]
 | y :: L,x,hx,h=>by
  have h1:=(h y (List.mem_cons_self ..)).2.1
  show Qb9 (QaA (QjI x) y.2) L=_
  rw [QoG,QqN hx h1,QiX (by omega) (fun z hz=>h z (List.mem_cons_of_mem _ hz)),QeD,Int.add_assoc]
def lowL (m:Int) (L:List Bn):List Bn:=L.filter (fun x=>decide (x.1<=m))
def QeU (m:Int) (L:List Bn):List Bn:=L.filter (fun x=>decide (m<x.1))
theorem QnO {m:Int} {x:Bn} {L:List Bn} (h:x.1<=m):lowL m (x :: L)=x :: lowL m L:=by simp [lowL,h]
theorem QbO {m:Int} {x:Bn} {L:List Bn} (h:m<x.1):QeU m (x :: L)=x :: QeU m L:=by simp [QeU,h]
theorem QcX {m:Int} {x:Bn} {L:List Bn} (h:x.1<=m):QeU m (x :: L)=QeU m L:=List.filter_cons_of_neg (by simp;omega)
theorem Qik {x:Bn} {L:List Bn} (h:Qc9 (x :: L)):Qc9 L:=(rise_cons.1 h).2
theorem QoX {m:Int} {L:List Bn} (h:∀ x∈L,m<x.1):QeU m L=L:=List.filter_eq_self.2 (fun x hx=>ZZh (h x hx))
theorem QoC {m:Int} {L:List Bn} (h:∀ x∈L,m<x.1):lowL m L=[]:=List.filter_eq_nil_iff.2 (fun x hx=>by have:=h x hx;simp;omega)
theorem QhF {m:Int}:∀ (n:Nat) (a b:List Bn),a.length+b.length<=n->Qc9 a->Qc9 b->QeU m (mrg a b)=mrg (QeU m a) (QeU m b)
 | _,[],b,_,_,_=>by rw [QbN];show _=mrg [] _;rw [QbN]
 | _,x :: a,[],_,_,_=>by rw [Qbf];show _=mrg _ [];rw [Qbf]
 | 0,x :: a,y :: b,h,_,_=>by simp at h
 | n+1,x :: a,y :: b,h,ra,rb=>by
  simp only [List.length_cons] at h;have ra':=Qik ra;have rb':=Qik rb;rcases Int.lt_trichotomy x.1 y.1 with c | c | c
  ·rw [Qfm c]
   have ih:=QhF (m:=m) n a (y :: b) (by simp only [List.length_cons];omega) ra' rb;by_cases k:m<x.1
   ·rw [QbO k,QbO k,ih,QbO (show m<y.1 by omega),Qfm c]
   ·rw [QcX (by omega),QcX (show x.1<=m by omega),ih]
  ·rw [Qgy c]
   have ih:=QhF (m:=m) n a b (by omega) ra' rb';by_cases k:m<x.1
   ·rw [QbO (show m<(x.1,QaA x.2 y.2).1 from k),QbO k,ih,QbO (show m<y.1 by omega),Qgy c]
   ·rw [QcX (show (x.1,QaA x.2 y.2).1<=m by show x.1<=m;omega),QcX (show x.1<=m by omega),QcX (show y.1<=m by omega),ih]
  ·rw [Qgw c]
   have ih:=QhF (m:=m) n (x :: a) b (by simp only [List.length_cons];omega) ra rb';by_cases k:m<y.1
   ·rw [QbO k,QbO (show m<x.1 by omega),QbO k,Qgw c,ih,QbO (show m<x.1 by omega)]
   ·rw [QcX (by omega),QcX (show y.1<=m by omega),ih]
theorem Qki:∀ (n:Nat) (a b:List Bn),a.length+b.length<=n->(∀ x∈a,Qbk x)->(∀ x∈b,Qbk x)->∀ x∈mrg a b,Qbk x
 | _,[],b,_,_,kb=>by rw [QbN];exact kb
 | _,y :: a,[],_,ka,_=>by rw [Qbf];exact ka
 | 0,y :: a,z :: b,h,_,_=>by simp at h
 | n+1,y :: a,z :: b,h,ka,kb=>by
  simp only [List.length_cons] at h;have ka':∀ x∈a,Qbk x:=fun u hu=>ka u (ZZm _ hu);have kb':∀ x∈b,Qbk x:=fun u hu=>kb u (ZZm _ hu);have uy:=ka y (List.mem_cons_self ..);have uz:=kb z (List.mem_cons_self ..);intro x hx;rcases Int.lt_trichotomy y.1 z.1 with c | c | c
  ·rw [Qfm c] at hx
   rcases List.mem_cons.1 hx with rfl | hx
   ·exact uy
   ·exact Qki n a (z :: b) (by simp only [List.length_cons];omega) ka' kb x hx
  ·rw [Qgy c] at hx
   rcases List.mem_cons.1 hx with rfl | hx
   ·exact ⟨uy.1,Qf8 uy.2 uz.2⟩
   ·exact Qki n a b (by omega) ka' kb' x hx
  ·rw [Qgw c] at hx
   rcases List.mem_cons.1 hx with rfl | hx
   ·exact uz
   ·exact Qki n (y :: a) b (by simp only [List.length_cons];omega) ka kb' x hx
theorem Qpd {m:Int} {L:List Bn} (h:∀ x∈L,Qbk x):∀ x∈lowL m L,Qbk x:=fun x hx=>h x (List.mem_filter.1 hx).1
theorem QpS {m:Int} {L:List Bn} (h:∀ x∈L,Qbk x):∀ x∈QeU m L,Qbk x:=fun x hx=>h x (List.mem_filter.1 hx).1
theorem QiF:∀ {L:List Bn} {k:Nat} {x:Bn},Qc9 L->L[k]?=some x->lowL x.1 L=L.take (k+1)/\QeU x.1 L=L.drop (k+1)
 | [],k,x,_,h=>by simp at h
 | y :: r,0,x,hr,h=>by
  obtain rfl:y=x:=by simpa using h
  have hc:=rise_cons.1 hr;rw [QnO (Int.le_refl _),QcX (Int.le_refl _),QoC hc.1,QoX hc.1];simp
 | y :: r,k+1,x,hr,h=>by
  have hc:=rise_cons.1 hr;have hx:r[k]?=some x:=by simpa using h
  have hlt:=hc.1 x (ZZn hx);obtain ⟨h1,h2⟩:=QiF hc.2 hx;rw [QnO (by omega),QcX (by omega),h1,h2];simp
theorem Qkg {L:List Bn} (hr:Qc9 L) (hk:∀ x∈L,Qbk x) (h:30<L.length) :
  ∃ m,(∃ y∈L,y.1=m)/\QaJ L=(m,QjI (Qlh (lowL m L))) :: QeU m L/\(QeU m L).length=29:=by
 obtain ⟨x,hx⟩:∃ x,L[L.length - 30]?=some x:=⟨L[L.length - 30]'(by omega),ZZe _⟩;obtain ⟨h1,h2⟩:=QiF hr hx;refine ⟨x.1,⟨x,List.mem_of_getElem? hx,rfl⟩,?_,by rw [h2,List.length_drop];omega⟩
 have hd:L.drop (L.length - 30)=x :: L.drop (L.length - 30+1):=by
  rw [List.drop_eq_getElem_cons (by omega),(List.getElem?_eq_some_iff.1 hx).2]
 unfold QaJ;rw [if_neg (by omega),hd];simp only;rw [h1,h2];have ux:=(hk x (ZZn hx)).2;have e0:x.2=QjI x.2:=by unfold QjI;unfold U64 at ux;split <;> omega
 have e1:L.take (L.length - 30+1)=L.take (L.length - 30) ++ [x]:=by rw [List.take_add_one,hx];rfl
 rw [e1,QoM,QeD,Qn2]
 congr 2
 have:=QiX (x:=x.2) (L:=L.take (L.length - 30)) ux.1 (fun y hy=>hk y (ZZo hy));rw [<- e0] at this;rw [this]
 congr 1;omega
theorem Qkm {a b:List Bn} (ha:Qc9 a) (hb:Qc9 b):Qc9 (mrg a b):=by rw [<- QdA hb];exact Qcg ha
theorem Qea (p:Bn->Bool):∀ {L:List Bn},Qc9 L->Qc9 (L.filter p)
 | [],_=>Qc1
 | y :: r,h=>by
  have hc:=rise_cons.1 h;by_cases k:p y=true
  ·rw [List.filter_cons_of_pos k]
   exact rise_cons.2 ⟨fun x hx=>hc.1 x (List.mem_filter.1 hx).1,Qea p hc.2⟩
  ·rw [List.filter_cons_of_neg k]
   exact Qea p hc.2
theorem cap_in {t:Int} (h:0<=t):U64 (QjI t):=by unfold QjI U64;split <;> omega
theorem Qnw {L:List Bn} (hr:Qc9 L) (hk:∀ x∈L,Qbk x):Qc9 (QaJ L)/\∀ x∈QaJ L,Qbk x:=by
 by_cases c:30<L.length
 ·obtain ⟨m,⟨y,hy,ey⟩,e,h2⟩:=Qkg hr hk c
  rw [e];refine ⟨rise_cons.2 ⟨fun x hx=>of_decide_eq_true (List.mem_filter.1 hx).2,Qea _ hr⟩,fun x hx=>?_⟩;rcases List.mem_cons.1 hx with rfl | hx
  ·exact ⟨by show I64 m;rw [<- ey];exact (hk y hy).1,cap_in (Qhs (Qpd hk))⟩
  ·exact QpS hk x hx
 ·unfold QaJ;rw [if_pos (by omega)];exact ⟨hr,hk⟩
set_option maxRecDepth 10000
open Go.ChangeAt Go.ChangeShapes Go.Lib Go.PlainAid Go.RowKit Go.WideShapes
def satU (n:Int):Int:=if 18446744073709551615<n then 18446744073709551615 else n
def wsum:List Bn->Int
 | []=>0
 | x :: r=>x.2+wsum r
def skW (z:Int) (P N:List Bn):Int:=if skB P N=true then satU (z+wsum P+wsum N) else 0
def BnR (x:Bn):Prop:=0<x.1/\x.1<=6878/\x.2≠0
theorem QiN:∀ {L:List Bn} {q:Int},Qbt q L=true↔Qc9 L/\∀ x∈L,q<x.1/\x.1<=6878/\x.2≠0
 | [],q=>⟨fun _=>⟨Qc1,fun x hx=>by simp at hx⟩,fun _=>rfl⟩
 | y :: r,q=>by
  simp only [Qbt,Bool.and_eq_true,decide_eq_true_eq,QiN (L:=r)];constructor
  ·rintro ⟨⟨⟨h1,h2⟩,h3⟩,h4,h5⟩
   refine ⟨rise_cons.2 ⟨fun x hx=>(h5 x hx).1,h4⟩,fun x hx=>?_⟩;rcases List.mem_cons.1 hx with rfl | hx
   ·exact ⟨h1,h2,h3⟩
   ·have:=h5 x hx;exact ⟨by omega,this.2⟩
  ·rintro ⟨h1,h2⟩
   have h0:=h2 y List.mem_cons_self;exact ⟨⟨⟨h0.1,h0.2.1⟩,h0.2.2⟩,(rise_cons.1 h1).2,fun x hx=>⟨(rise_cons.1 h1).1 x hx,(h2 x (ZZm _ hx)).2⟩⟩
theorem binsB_iff {L:List Bn}:QaS L=true↔L.length<=30/\Qc9 L/\∀ x∈L,BnR x:=by
 unfold QaS BnR;simp only [Bool.and_eq_true,decide_eq_true_eq,QiN]
theorem Qqf {a b:Int} (ha:U64 a) (hb:U64 b) (h:a≠0):QaA a b≠0:=by unfold QaA;unfold U64 at *; split <;> omega
theorem mrg_R {a b:List Bn} (ka:∀ x∈a,Qbk x) (kb:∀ x∈b,Qbk x) (ha:∀ x∈a,BnR x) (hb:∀ x∈b,BnR x):∀ z∈mrg a b,BnR z:=by
 induction a,b using mrg.induct with
 | case1 b=>rw [QbN];exact hb
 | case2 x a=>rw [Qbf];exact ha
 | case3 x a y b h ih=>
  rw [Qfm h];intro z hz;rcases List.mem_cons.1 hz with rfl | hz
  ·exact ha _ List.mem_cons_self
  ·exact ih (fun u hu=>ka u (ZZm _ hu)) kb (fun u hu=>ha u (ZZm _ hu)) hb z hz
 | case4 x a y b h h' ih=>
  rw [Qgw h'];intro z hz;rcases List.mem_cons.1 hz with rfl | hz
  ·exact hb _ List.mem_cons_self
  ·exact ih ka (fun u hu=>kb u (ZZm _ hu)) ha (fun u hu=>hb u (ZZm _ hu)) z hz
 | case5 x a y b h h' ih=>
  rw [Qgy (by omega)];intro z hz;rcases List.mem_cons.1 hz with rfl | hz
  ·have h1:=ha x List.mem_cons_self
   exact ⟨h1.1,h1.2.1,Qqf (ka x List.mem_cons_self).2 (kb y List.mem_cons_self).2 h1.2.2⟩
  ·exact ih (fun u hu=>ka u (ZZm _ hu)) (fun u hu=>kb u (ZZm _ hu)) (fun u hu=>ha u (ZZm _ hu)) (fun u hu=>hb u (ZZm _ hu)) z hz
theorem Qqt {L:List Bn} (hk:∀ x∈L,Qbk x) {y:Bn} (hy:y∈L):y.2<=Qlh L:=by
 induction L with
 | nil=>simp at hy
 | cons x r ih=>
  have h0:=Qhs (fun z hz=>hk z (ZZm _ hz));have h1:=(hk x List.mem_cons_self).2.1;rw [QeD];rcases List.mem_cons.1 hy with rfl | hy
  ·omega
  ·have:=ih (fun z hz=>hk z (ZZm _ hz)) hy;omega
theorem keep_R {L:List Bn} (hr:Qc9 L) (hk:∀ x∈L,Qbk x) (hR:∀ x∈L,BnR x):∀ x∈QaJ L,BnR x:=by
 by_cases h:30<L.length
 ·obtain ⟨m,⟨y,hy,rfl⟩,e,_⟩:=Qkg hr hk h
  rw [e];intro x hx;have h1:=hR y hy;rcases List.mem_cons.1 hx with rfl | hx
  ·have hy2:y∈lowL y.1 L:=List.mem_filter.2 ⟨hy,ZZh (Int.le_refl _)⟩
   have h2:=Qqt (Qpd (m:=y.1) hk) hy2;have h3:=(hk y hy).2.1;have h4:=h1.2.2;exact ⟨h1.1,h1.2.1,by show QjI _≠0;unfold QjI;split <;> omega⟩
  ·exact hR x (List.mem_filter.1 hx).1
 ·have:QaJ L=L:=by unfold QaJ;rw [if_pos (by omega)]
  rw [this];exact hR
theorem QlM (L:List Bn):(QaJ L).length<=30:=by
 unfold QaJ
 split
 ·assumption
 ·have hd:(L.drop (L.length - 30)).length=30:=by rw [List.length_drop];omega
  split
  ·rename_i h;rw [h] at hd;simp at hd
  ·rename_i h;rw [h] at hd;simp at hd ⊢; omega
theorem QfB {A B:List Bn} (hA:QaS A=true) (hB:QaS B=true) (kA:∀ x∈A,Qbk x) (kB:∀ x∈B,Qbk x):QaS (QaJ (mrg A B))=true/\∀ x∈QaJ (mrg A B),Qbk x:=by
 obtain ⟨_,a2,a3⟩:=binsB_iff.1 hA;obtain ⟨_,b2,b3⟩:=binsB_iff.1 hB;have kM:=Qki _ A B (ZZa _) kA kB;have g:=Qnw (Qkm a2 b2) kM;exact ⟨binsB_iff.2 ⟨QlM _,g.1,keep_R (Qkm a2 b2) kM (mrg_R kA kB a3 b3)⟩,g.2⟩
theorem skB_and {P N:List Bn}:skB P N=true↔QaS P=true/\QaS N=true:=by unfold skB;simp
theorem sk_mrg {P N P' N':List Bn} (h:skB P N=true) (h':skB P' N'=true) (kP:∀ x∈P,Qbk x) (kN:∀ x∈N,Qbk x) (kP':∀ x∈P',Qbk x) (kN':∀ x∈N',Qbk x) :
  skB (QaJ (mrg P P')) (QaJ (mrg N N'))=true:=
 skB_and.2 ⟨(QfB (skB_and.1 h).1 (skB_and.1 h').1 kP kP').1,(QfB (skB_and.1 h).2 (skB_and.1 h').2 kN kN').1⟩
structure T5 where
 z:Int
 P:List Bn
 N:List Bn
 h:Int
 l:Int
def T5.M (a b:T5):T5:=⟨QaA a.z b.z,QaJ (mrg a.P b.P),QaJ (mrg a.N b.N),Qbp a.h a.l b.h b.l,Qbu a.l b.l⟩
structure T5.Ok (a:T5):Prop where
 hz:U64 a.z
 hl:U64 a.l
 kP:∀ x∈a.P,Qbk x
 kN:∀ x∈a.N,Qbk x
structure T5.Good (a:T5):Prop extends T5.Ok a where
 sk:skB a.P a.N=true
def Qox (v w:Int):T5:=⟨if v=0 then w else 0,if 0<v then [(Qc8 v,w)] else [],if v<0 then [(Qc8 (-v),w)] else [],thH v w,thL v w⟩
theorem QpJ {v:Nat} (h:1<=v):1<=Qc6 v:=by
 unfold Qc6;split <;> omega
theorem binI_1 {v:Int} (h:1<=v) (h2:v<=999999999999999999):1<=Qc8 v:=by
 rw [QfO h h2];have:=QpJ (v:=v.toNat) (by omega);omega
theorem Qih:QaS []=true:=by decide
theorem Qi8 {v w:Int} (h:1<=v) (h2:v<=999999999999999999) (hw:w≠0):QaS [(Qc8 v,w)]=true:=by
 refine binsB_iff.2 ⟨by simp,Qhx _,fun x hx=>?_⟩;obtain rfl:=List.mem_singleton.1 hx;exact ⟨by have:=binI_1 h h2;show 0<Qc8 v;omega,(Qe7 v).2,hw⟩
theorem Qnt {v w:Int} (hw:U64 w):∀ x∈[(Qc8 v,w)],Qbk x:=fun x hx=>by
 obtain rfl:=List.mem_singleton.1 hx;have:=Qe7 v;exact ⟨by show I64 (Qc8 v);unfold I64;omega,hw⟩
theorem Qli {v w:Int} (hv:-999999999999999999<=v/\v<=999999999999999999) (hw:U64 w) (h0:w≠0):(Qox v w).Good:=by
 refine ⟨⟨?_,Qd4 _,?_,?_⟩,?_⟩
 ·show U64 (if v=0 then w else 0);split
  ·exact hw
  ·unfold U64;omega
 ·show ∀ x∈(if 0<v then [(Qc8 v,w)] else []),Qbk x;split
  ·exact Qnt hw
  ·intro x hx;simp at hx
 ·show ∀ x∈(if v<0 then [(Qc8 (-v),w)] else []),Qbk x;split
  ·exact Qnt hw
  ·intro x hx;simp at hx
 ·show skB (if 0<v then [(Qc8 v,w)] else []) (if v<0 then [(Qc8 (-v),w)] else [])=true
  refine skB_and.2 ⟨?_,?_⟩
  ·split
   ·exact Qi8 (by omega) (by omega) h0
   ·exact Qih
  ·split
   ·exact Qi8 (by omega) (by omega) h0
   ·exact Qih
theorem QcM {P:List Bn} (h:P.length<=30):QaJ P=P:=by unfold QaJ;rw [if_pos h]
theorem QnH {z:Int} (h:U64 z):QaA z 0=z:=by unfold QaA;unfold U64 at h;rw [if_neg (by omega),Int.add_zero]
structure PutIs (a b:T5) (v w:Int):Prop where
 yes:Qjo a.P a.N v w->b=⟨Qec a.z v w,Qcz a.P v w,Qcy a.N v w,Qbp a.h a.l (thH v w) (thL v w),Qbu a.l (thL v w)⟩
 no:¬ Qjo a.P a.N v w->b=a
structure MrgIs (a b c:T5):Prop where
 yes:QiA a.P a.N b.P b.N->c=a.M b
 no:¬ QiA a.P a.N b.P b.N->c=⟨0,[],[],0,0⟩
theorem PutIs.M {a b:T5} {v w:Int} (h:PutIs a b v w) (ha:a.Ok) (ok:Qjo a.P a.N v w):b=a.M (Qox v w):=by
 rw [h.yes ok];have r:=QcI ok.1;unfold T5.M Qox Qec Qcz Qcy;dsimp only
 congr 1
 ·split
  ·rfl
  ·rw [QnH ha.hz]
 ·split
  ·rfl
  ·rw [Qbf,QcM r.1.2]
 ·split
  ·rfl
  ·rw [Qbf,QcM r.2.2]
end Go.Proofs.YthchmdmncmioiaaGreatDoor
