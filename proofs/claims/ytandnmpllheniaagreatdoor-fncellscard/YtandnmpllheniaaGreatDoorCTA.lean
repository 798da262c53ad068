/-
 Parts.
-/
import Derived.Test.YtandnmpllheniaaGreatDoorCJV
set_option linter.all false
namespace Go.Proofs.YtandnmpllheniaaGreatDoor
theorem QdE (a b:Int):Qar a b=Qar b a:=by unfold Qar;rw [Int.add_comm]
theorem Qee {a b c:Int} (ha:U64 a) (hb:U64 b) (hc:U64 c):Qar (Qar a b) c=Qar a (Qar b c):=by
 unfold Qar U64 at *
 split <;> split <;> split <;> split <;> omega
theorem Qdl:∀ (n:Nat) (a b:List Bn),a.length+b.length<=n->mrg a b=mrg b a
 | _,[],b,_=>by rw [Qbf,QaK]
 | _,x :: a,[],_=>by rw [Qbf,QaK]
 | 0,x :: a,y :: b,h=>by simp at h
 | n+1,x :: a,y :: b,h=>by
  simp only [List.length_cons] at h;rcases Int.lt_trichotomy x.1 y.1 with c | c | c
  ·rw [Qa2 c,Qa7 c,Qdl n a (y :: b) (by simp only [List.length_cons];omega)]
  ·rw [Qbi c,Qbi c.symm,Qdl n a b (by omega),QdE,c]
  ·rw [Qa7 c,Qa2 c,Qdl n (x :: a) b (by simp only [List.length_cons];omega)]
theorem Qbl:∀ (n:Nat) (a b c:List Bn),a.length+b.length+c.length<=n->(∀ x∈a,Qa8 x)->(∀ x∈b,Qa8 x)->(∀ x∈c,Qa8 x)->mrg (mrg a b) c=mrg a (mrg b c)
 | _,[],b,c,_,_,_,_=>by rw [Qbf,Qbf]
 | _,x :: a,[],c,_,_,_,_=>by rw [Qbf,QaK]
 | _,x :: a,y :: b,[],_,_,_,_=>by rw [QaK,QaK]
 | 0,x :: a,y :: b,z :: c,h,_,_,_=>by simp at h
 | n+1,x :: a,y :: b,z :: c,h,ka,kb,kc=>by
  simp only [List.length_cons] at h;have ka':∀ x∈a,Qa8 x:=fun u hu=>ka u (ZZm _ hu);have kb':∀ x∈b,Qa8 x:=fun u hu=>kb u (ZZm _ hu);have kc':∀ x∈c,Qa8 x:=fun u hu=>kc u (ZZm _ hu);have ux:=(ka x (List.mem_cons_self ..)).2;have uy:=(kb y (List.mem_cons_self ..)).2;have uz:=(kc z (List.mem_cons_self ..)).2;rcases Int.lt_trichotomy x.1 y.1 with c1 | c1 | c1 <;> rcases Int.lt_trichotomy y.1 z.1 with c2 | c2 | c2
  ·rw [Qa2 c1,Qa2 (show x.1<z.1 by omega),Qa2 c2,Qa2 c1,<- Qa2 c2,Qbl n a (y :: b) (z :: c) (by simp only [List.length_cons];omega) ka' kb kc]
  ·rw [Qa2 c1,Qa2 (show x.1<z.1 by omega),Qbi c2,Qa2 (show x.1<(y.1,Qar y.2 z.2).1 from c1),<- Qbi c2,Qbl n a (y :: b) (z :: c) (by simp only [List.length_cons];omega) ka' kb kc]
  ·rw [Qa2 c1,Qa7 c2]
   rcases Int.lt_trichotomy x.1 z.1 with c3 | c3 | c3
   ·rw [Qa2 c3,Qa2 c3,<- Qa7 c2,Qbl n a (y :: b) (z :: c) (by simp only [List.length_cons];omega) ka' kb kc]
   ·rw [Qbi c3,Qbi c3,Qbl n a (y :: b) c (by simp only [List.length_cons];omega) ka' kb kc']
   ·rw [Qa7 c3,Qa7 c3,<- Qa2 c1,Qbl n (x :: a) (y :: b) c (by simp only [List.length_cons];omega) ka kb kc']
  ·rw [Qbi c1,Qa2 (show (x.1,Qar x.2 y.2).1<z.1 by show x.1<z.1;omega),Qa2 c2,Qbi c1,Qbl n a b (z :: c) (by simp only [List.length_cons];omega) ka' kb' kc]
  ·rw [Qbi c1,Qbi (show (x.1,Qar x.2 y.2).1=z.1 by show x.1=z.1;omega),Qbi c2,Qbi (show x.1=(y.1,Qar y.2 z.2).1 from c1),Qbl n a b c (by omega) ka' kb' kc',Qee ux uy uz]
  ·rw [Qbi c1,Qa7 (show z.1<(x.1,Qar x.2 y.2).1 by show z.1<x.1;omega),Qa7 c2,Qa7 (show z.1<x.1 by omega),<- Qbi c1,Qbl n (x :: a) (y :: b) c (by simp only [List.length_cons];omega) ka kb kc']
  ·rw [Qa7 c1,Qa2 c2,Qa2 c2,Qa7 c1,Qbl n (x :: a) b (z :: c) (by simp only [List.length_cons];omega) ka kb' kc]
  ·rw [Qa7 c1,Qbi c2,Qbi c2,Qa7 (show (y.1,Qar y.2 z.2).1<x.1 from c1),Qbl n (x :: a) b c (by simp only [List.length_cons];omega) ka kb' kc']
  ·rw [Qa7 c1,Qa7 c2,Qa7 c2,Qa7 (show z.1<x.1 by omega),<- Qa7 c1,Qbl n (x :: a) (y :: b) c (by simp only [List.length_cons];omega) ka kb kc']
theorem Qib {x:Bn}:∀ (n:Nat) (a b:List Bn),a.length+b.length<=n->x∈mrg a b->(∃ y∈a,y.1=x.1)∨∃ y∈b,y.1=x.1
 | _,[],b,_,h=>by rw [Qbf] at h;exact .inr ⟨x,h,rfl⟩
 | _,y :: a,[],_,h=>by rw [QaK] at h;exact .inl ⟨x,h,rfl⟩
 | 0,y :: a,z :: b,h,_=>by simp at h
 | n+1,y :: a,z :: b,h,hx=>by
  simp only [List.length_cons] at h;rcases Int.lt_trichotomy y.1 z.1 with c | c | c
  ·rw [Qa2 c] at hx
   rcases List.mem_cons.1 hx with rfl | hx
   ·exact .inl ⟨x,List.mem_cons_self ..,rfl⟩
   ·rcases Qib n a (z :: b) (by simp only [List.length_cons];omega) hx with ⟨u,hu,e⟩ | h
    ·exact .inl ⟨u,ZZm _ hu,e⟩
    ·exact .inr h
  ·rw [Qbi c] at hx
   rcases List.mem_cons.1 hx with rfl | hx
   ·exact .inl ⟨y,List.mem_cons_self ..,rfl⟩
   ·rcases Qib n a b (by omega) hx with ⟨u,hu,e⟩ | ⟨u,hu,e⟩
    ·exact .inl ⟨u,ZZm _ hu,e⟩
    ·exact .inr ⟨u,ZZm _ hu,e⟩
  ·rw [Qa7 c] at hx
   rcases List.mem_cons.1 hx with rfl | hx
   ·exact .inr ⟨x,List.mem_cons_self ..,rfl⟩
   ·rcases Qib n (y :: a) b (by simp only [List.length_cons];omega) hx with h | ⟨u,hu,e⟩
    ·exact .inl h
    ·exact .inr ⟨u,ZZm _ hu,e⟩
def Qfp (t:Int):Int:=if 18446744073709551615<t then 18446744073709551615 else t
def Qdr (L:List Bn):Int:=(L.map (fun x=>x.2)).sum
theorem Qpw (a b:Int):Qar a b=Qfp (a+b):=rfl
theorem Qkd {a b:Int} (ha:0<=a) (hb:0<=b):Qfp (Qfp a+b)=Qfp (a+b):=by
 unfold Qfp
 split <;> split <;> omega
theorem QaX (x:Bn) (L:List Bn):Qdr (x :: L)=x.2+Qdr L:=by simp [Qdr]
theorem Qpg:Qdr []=0:=rfl
theorem QpT (a b:List Bn):Qdr (a ++ b)=Qdr a+Qdr b:=by simp [Qdr,List.sum_append]
theorem Qdg:∀ {L:List Bn},(∀ x∈L,Qa8 x)->0<=Qdr L
 | [],_=>by simp [Qdr]
 | x :: L,h=>by
  rw [QaX];have h1:=(h x (List.mem_cons_self ..)).2.1;have h2:=Qdg (L:=L) (fun y hy=>h y (ZZm _ hy));omega
theorem QiW:∀ {L:List Bn} {x:Int},0<=x->(∀ y∈L,Qa8 y)->QcA (Qfp x) L=Qfp (x+Qdr L)
 | [],x,hx,_=>by simp [QcA,Qdr]
 | y :: L,x,hx,h=>by
  have h1:=(h y (List.mem_cons_self ..)).2.1
  show QcA (Qar (Qfp x) y.2) L=_
  rw [Qpw,Qkd hx h1,QiW (by omega) (fun z hz=>h z (List.mem_cons_of_mem _ hz)),QaX,Int.add_assoc]
def lowL (m:Int) (L:List Bn):List Bn:=L.filter (fun x=>decide (x.1<=m))
def QbW (m:Int) (L:List Bn):List Bn:=L.filter (fun x=>decide (m<x.1))
theorem QbX {m:Int} {x:Bn} {L:List Bn} (h:x.1<=m):lowL m (x :: L)=x :: lowL m L:=by simp [lowL,h]
theorem Qel {m:Int} {x:Bn} {L:List Bn} (h:m<x.1):lowL m (x :: L)=lowL m L:=List.filter_cons_of_neg (by simp;omega)
theorem Qbr {m:Int} {x:Bn} {L:List Bn} (h:m<x.1):QbW m (x :: L)=x :: QbW m L:=by simp [QbW,h]
theorem QbJ {m:Int} {x:Bn} {L:List Bn} (h:x.1<=m):QbW m (x :: L)=QbW m L:=List.filter_cons_of_neg (by simp;omega)
theorem Qi8 {x:Bn} {L:List Bn} (h:Qc6 (x :: L)):Qc6 L:=(rise_cons.1 h).2
theorem Qpy {m:Int} {L:List Bn} (h:∀ x∈L,m<x.1):QbW m L=L:=List.filter_eq_self.2 (fun x hx=>ZZh (h x hx))
theorem Qps {m:Int} {L:List Bn} (h:∀ x∈L,m<x.1):lowL m L=[]:=List.filter_eq_nil_iff.2 (fun x hx=>by have:=h x hx;simp;omega)
theorem Qfo {m:Int}:∀ (n:Nat) (a b:List Bn),a.length+b.length<=n->Qc6 a->Qc6 b->QbW m (mrg a b)=mrg (QbW m a) (QbW m b)
 | _,[],b,_,_,_=>by rw [Qbf];show _=mrg [] _;rw [Qbf]
 | _,x :: a,[],_,_,_=>by rw [QaK];show _=mrg _ [];rw [QaK]
 | 0,x :: a,y :: b,h,_,_=>by simp at h
 | n+1,x :: a,y :: b,h,ra,rb=>by
  simp only [List.length_cons] at h;have ra':=Qi8 ra;have rb':=Qi8 rb;rcases Int.lt_trichotomy x.1 y.1 with c | c | c
  ·rw [Qa2 c]
   have ih:=Qfo (m:=m) n a (y :: b) (by simp only [List.length_cons];omega) ra' rb;by_cases k:m<x.1
   ·rw [Qbr k,Qbr k,ih,Qbr (show m<y.1 by omega),Qa2 c]
   ·rw [QbJ (by omega),QbJ (show x.1<=m by omega),ih]
  ·rw [Qbi c]
   have ih:=Qfo (m:=m) n a b (by omega) ra' rb';by_cases k:m<x.1
   ·rw [Qbr (show m<(x.1,Qar x.2 y.2).1 from k),Qbr k,ih,Qbr (show m<y.1 by omega),Qbi c]
   ·rw [QbJ (show (x.1,Qar x.2 y.2).1<=m by show x.1<=m;omega),QbJ (show x.1<=m by omega),QbJ (show y.1<=m by omega),ih]
  ·rw [Qa7 c]
   have ih:=Qfo (m:=m) n (x :: a) b (by simp only [List.length_cons];omega) ra rb';by_cases k:m<y.1
   ·rw [Qbr k,Qbr (show m<x.1 by omega),Qbr k,Qa7 c,ih,Qbr (show m<x.1 by omega)]
   ·rw [QbJ (by omega),QbJ (show y.1<=m by omega),ih]
theorem Qfb:∀ (n:Nat) (a b:List Bn),a.length+b.length<=n->(∀ x∈a,Qa8 x)->(∀ x∈b,Qa8 x)->∀ x∈mrg a b,Qa8 x
 | _,[],b,_,_,kb=>by rw [Qbf];exact kb
 | _,y :: a,[],_,ka,_=>by rw [QaK];exact ka
 | 0,y :: a,z :: b,h,_,_=>by simp at h
 | n+1,y :: a,z :: b,h,ka,kb=>by
  simp only [List.length_cons] at h;have ka':∀ x∈a,Qa8 x:=fun u hu=>ka u (ZZm _ hu);have kb':∀ x∈b,Qa8 x:=fun u hu=>kb u (ZZm _ hu);have uy:=ka y (List.mem_cons_self ..);have uz:=kb z (List.mem_cons_self ..);intro x hx;rcases Int.lt_trichotomy y.1 z.1 with c | c | c
  ·rw [Qa2 c] at hx
   rcases List.mem_cons.1 hx with rfl | hx
   ·exact uy
   ·exact Qfb n a (z :: b) (by simp only [List.length_cons];omega) ka' kb x hx
  ·rw [Qbi c] at hx
   rcases List.mem_cons.1 hx with rfl | hx
   ·exact ⟨uy.1,QgC uy.2 uz.2⟩
   ·exact Qfb n a b (by omega) ka' kb' x hx
  ·rw [Qa7 c] at hx
   rcases List.mem_cons.1 hx with rfl | hx
   ·exact uz
   ·exact Qfb n (y :: a) b (by simp only [List.length_cons];omega) ka kb' x hx
theorem QhG {m:Int} {L:List Bn} (h:∀ x∈L,Qa8 x):∀ x∈lowL m L,Qa8 x:=fun x hx=>h x (List.mem_filter.1 hx).1
theorem Qom {m:Int} {L:List Bn} (h:∀ x∈L,Qa8 x):∀ x∈QbW m L,Qa8 x:=fun x hx=>h x (List.mem_filter.1 hx).1
theorem QdU {m:Int}:∀ (n:Nat) (a b:List Bn) (t:Int),a.length+b.length<=n->0<=t->(∀ x∈a,Qa8 x)->(∀ x∈b,Qa8 x)->Qfp (t+Qdr (lowL m (mrg a b)))=Qfp (t+Qdr (lowL m a)+Qdr (lowL m b))
 | _,[],b,t,_,_,_,_=>by rw [Qbf];simp [lowL,Qdr]
 | _,x :: a,[],t,_,_,_,_=>by rw [QaK];simp [lowL,Qdr]
 | 0,x :: a,y :: b,_,h,_,_,_=>by simp at h
 | n+1,x :: a,y :: b,t,h,ht,ka,kb=>by
  simp only [List.length_cons] at h;have ka':∀ x∈a,Qa8 x:=fun u hu=>ka u (ZZm _ hu);have kb':∀ x∈b,Qa8 x:=fun u hu=>kb u (ZZm _ hu);have ux:=(ka x (List.mem_cons_self ..)).2.1;have uy:=(kb y (List.mem_cons_self ..)).2.1;rcases Int.lt_trichotomy x.1 y.1 with c | c | c
  ·rw [Qa2 c]
   by_cases k:x.1<=m
   ·rw [QbX k,QbX k,QaX,QaX,<- Int.add_assoc,QdU n a (y :: b) (t+x.2) (by simp only [List.length_cons];omega) (by omega) ka' kb]
    congr 1;omega
   ·rw [Qel (by omega),Qel (show m<x.1 by omega),QdU n a (y :: b) t (by simp only [List.length_cons];omega) ht ka' kb]
  ·rw [Qbi c]
   by_cases k:x.1<=m
   ·rw [QbX (show (x.1,Qar x.2 y.2).1<=m from k),QbX k,QbX (show y.1<=m by omega),QaX,QaX,QaX]
    have ih:=QdU (m:=m) n a b (t+x.2+y.2) (by omega) (by omega) ka' kb';have hs:0<=Qdr (lowL m (mrg a b)):=Qdg (QhG (Qfb _ a b (ZZa _) ka' kb'))
    show Qfp (t+(Qfp (x.2+y.2)+Qdr (lowL m (mrg a b))))=_
    have e1:t+(Qfp (x.2+y.2)+Qdr (lowL m (mrg a b)))=Qfp (x.2+y.2)+(t+Qdr (lowL m (mrg a b))):=by omega
    rw [e1,Qkd (by omega) (by omega),show x.2+y.2+(t+Qdr (lowL m (mrg a b)))=t+x.2+y.2+Qdr (lowL m (mrg a b)) by omega,ih]
    congr 1;omega
   ·rw [Qel (show m<(x.1,Qar x.2 y.2).1 by show m<x.1;omega),Qel (show m<x.1 by omega),Qel (show m<y.1 by omega),QdU n a b t (by omega) ht ka' kb']
  ·rw [Qa7 c]
   by_cases k:y.1<=m
   ·rw [QbX k,QbX k,QaX,QaX,<- Int.add_assoc,QdU n (x :: a) b (t+y.2) (by simp only [List.length_cons];omega) (by omega) ka kb']
    congr 1;omega
   ·rw [Qel (by omega),Qel (show m<y.1 by omega),QdU n (x :: a) b t (by simp only [List.length_cons];omega) ht ka kb']
theorem QgY:∀ {L:List Bn} {k:Nat} {x:Bn},Qc6 L->L[k]?=some x->lowL x.1 L=L.take (k+1)/\QbW x.1 L=L.drop (k+1)
 | [],k,x,_,h=>by simp at h
 | y :: r,0,x,hr,h=>by
  obtain rfl:y=x:=by simpa using h
  have hc:=rise_cons.1 hr;rw [QbX (Int.le_refl _),QbJ (Int.le_refl _),Qps hc.1,Qpy hc.1];simp
 | y :: r,k+1,x,hr,h=>by
  have hc:=rise_cons.1 hr;have hx:r[k]?=some x:=by simpa using h
  have aa:=hc.1 x (ZZn hx);obtain ⟨h1,h2⟩:=QgY hc.2 hx;rw [QbX (by omega),QbJ (by omega),h1,h2];simp
theorem QeY {L:List Bn} (hr:Qc6 L) (hk:∀ x∈L,Qa8 x) (h:30<L.length) :
  ∃ m,(∃ y∈L,y.1=m)/\Qan L=(m,Qfp (Qdr (lowL m L))) :: QbW m L/\(QbW m L).length=29:=by
 obtain ⟨x,hx⟩:∃ x,L[L.length - 30]?=some x:=⟨L[L.length - 30]'(by omega),ZZe _⟩;obtain ⟨h1,h2⟩:=QgY hr hx;refine ⟨x.1,⟨x,List.mem_of_getElem? hx,rfl⟩,?_,by rw [h2,List.length_drop];omega⟩
 have hd:L.drop (L.length - 30)=x :: L.drop (L.length - 30+1):=by
  rw [List.drop_eq_getElem_cons (by omega),(List.getElem?_eq_some_iff.1 hx).2]
 unfold Qan;rw [if_neg (by omega),hd];simp only;rw [h1,h2];have ux:=(hk x (ZZn hx)).2;have e0:x.2=Qfp x.2:=by unfold Qfp;unfold U64 at ux;split <;> omega
 have e1:L.take (L.length - 30+1)=L.take (L.length - 30) ++ [x]:=by rw [List.take_add_one,hx];rfl
 rw [e1,QpT,QaX,Qpg]
 congr 2
 have:=QiW (x:=x.2) (L:=L.take (L.length - 30)) ux.1 (fun y hy=>hk y (ZZo hy));rw [<- e0] at this;rw [this]
 congr 1;omega
theorem Qef {a b:List Bn} (ha:Qc6 a) (hb:Qc6 b):Qc6 (mrg a b):=by rw [<- Qed hb];exact QcB ha
theorem Qew (p:Bn->Bool):∀ {L:List Bn},Qc6 L->Qc6 (L.filter p)
 | [],_=>Qda
 | y :: r,h=>by
  have hc:=rise_cons.1 h;by_cases k:p y=true
  ·rw [List.filter_cons_of_pos k]
   exact rise_cons.2 ⟨fun x hx=>hc.1 x (List.mem_filter.1 hx).1,Qew p hc.2⟩
  ·rw [List.filter_cons_of_neg k]
   exact Qew p hc.2
theorem Qcp:∀ (n:Nat) (a b:List Bn),a.length+b.length<=n->a.length<=(mrg a b).length
 | _,[],b,_=>by simp
 | _,x :: a,[],_=>by rw [QaK];exact ZZa _
 | 0,x :: a,y :: b,h=>by simp at h
 | n+1,x :: a,y :: b,h=>by
  simp only [List.length_cons] at h;rcases Int.lt_trichotomy x.1 y.1 with c | c | c
  ·rw [Qa2 c];have:=Qcp n a (y :: b) (by simp only [List.length_cons];omega);simp only [List.length_cons];omega
  ·rw [Qbi c];have:=Qcp n a b (by omega);simp only [List.length_cons];omega
  ·rw [Qa7 c];have:=Qcp n (x :: a) b (by simp only [List.length_cons];omega);simp only [List.length_cons] at this ⊢; omega
theorem Qg1:∀ (n:Nat) (a b:List Bn) {y:Bn},a.length+b.length<=n->y∈a->∃ z∈mrg a b,z.1=y.1
 | _,[],b,y,_,h=>by simp at h
 | _,x :: a,[],y,_,h=>by rw [QaK];exact ⟨y,h,rfl⟩
 | 0,x :: a,z :: b,y,h,_=>by simp at h
 | n+1,x :: a,z :: b,y,h,hy=>by
  simp only [List.length_cons] at h;rcases Int.lt_trichotomy x.1 z.1 with c | c | c
  ·rw [Qa2 c]
   rcases List.mem_cons.1 hy with rfl | hy
   ·exact ⟨_,List.mem_cons_self ..,rfl⟩
   ·obtain ⟨u,hu,e⟩:=Qg1 n a (z :: b) (by simp only [List.length_cons];omega) hy
    exact ⟨u,ZZm _ hu,e⟩
  ·rw [Qbi c]
   rcases List.mem_cons.1 hy with rfl | hy
   ·exact ⟨_,List.mem_cons_self ..,rfl⟩
   ·obtain ⟨u,hu,e⟩:=Qg1 n a b (by omega) hy
    exact ⟨u,ZZm _ hu,e⟩
  ·rw [Qa7 c]
   obtain ⟨u,hu,e⟩:=Qg1 n (x :: a) b (by simp only [List.length_cons];omega) hy;exact ⟨u,ZZm _ hu,e⟩
theorem QdG {m k:Int} (h:m<=k):∀ L:List Bn,QbW k (QbW m L)=QbW k L
 | []=>rfl
 | x :: L=>by
  by_cases c:m<x.1
  ·rw [Qbr c]
   by_cases d:k<x.1
   ·rw [Qbr d,Qbr d,QdG h L]
   ·rw [QbJ (by omega),QbJ (by omega),QdG h L]
  ·rw [QbJ (by omega),QbJ (show x.1<=k by omega),QdG h L]
theorem Qhb {m k:Int} {L:List Bn} {y:Bn} (h:m<k) (hy:y∈L) (e:y.1=k):(QbW k L).length<(QbW m L).length:=by
 rw [<- QdG (show m<=k by omega) L];exact List.length_filter_lt_length_iff_exists.2 ⟨y,List.mem_filter.2 ⟨hy,decide_eq_true (by omega)⟩,by simp;omega⟩
theorem Qm4 {m k:Int} {L:List Bn} (hm:∃ y∈L,y.1=m) (hk:∃ y∈L,y.1=k) (h:(QbW m L).length=(QbW k L).length):m=k:=by
 obtain ⟨y,hy,ey⟩:=hm;obtain ⟨z,hz,ez⟩:=hk;rcases Int.lt_trichotomy m k with c | c | c
 ·have:=Qhb c hz ez;omega
 ·exact c
 ·have:=Qhb c hy ey;omega
theorem Qlq {m k:Int} (h:m<=k):∀ L:List Bn,Qdr (lowL k L)=Qdr (lowL m L)+Qdr (lowL k (QbW m L))
 | []=>rfl
 | x :: L=>by
  have ih:=Qlq h L;by_cases c:m<x.1
  ·rw [Qbr c,Qel c]
   by_cases d:x.1<=k
   ·rw [QbX d,QbX d,QaX,QaX];omega
   ·rw [Qel (by omega),Qel (by omega)];exact ih
  ·rw [QbJ (by omega),QbX (show x.1<=m by omega),QbX (show x.1<=k by omega),QaX,QaX];omega
theorem QqW {L:List Bn} {m:Int} (hr:Qc6 L) (hk:∀ x∈L,Qa8 x) (h:30<=L.length) (hm:∃ y∈L,y.1=m) (h29:(QbW m L).length=29):Qan L=(m,Qfp (Qdr (lowL m L))) :: QbW m L:=by
 by_cases c:30<L.length
 ·obtain ⟨k,ab,e,h2⟩:=QeY hr hk c
  obtain rfl:=Qm4 hm ab (by omega);exact e
 ·have aa:L.length=30:=by omega
  obtain ⟨y,hy,rfl⟩:=hm;obtain ⟨k,ac,ad⟩:=List.getElem_of_mem hy;have hx:L[k]?=some y:=by rw [List.getElem?_eq_getElem ac,ad]
  obtain ⟨p1,p2⟩:=QgY hr hx;rw [p2,List.length_drop] at h29;obtain rfl:k=0:=by omega
  rw [p1,p2];unfold Qan;rw [if_pos (by omega)]
  cases L with
  | nil=>simp at aa
  | cons x r=>
   obtain rfl:x=y:=by simpa using hx
   have ux:=(hk x (List.mem_cons_self ..)).2;have e0:Qfp x.2=x.2:=by unfold Qfp;unfold U64 at ux;split <;> omega
   simp [Qdr,e0]
theorem cap_in {t:Int} (h:0<=t):U64 (Qfp t):=by unfold Qfp U64;split <;> omega
theorem QjO {L:List Bn} (hr:Qc6 L) (hk:∀ x∈L,Qa8 x):Qc6 (Qan L)/\∀ x∈Qan L,Qa8 x:=by
 by_cases c:30<L.length
 ·obtain ⟨m,⟨y,hy,ey⟩,e,h2⟩:=QeY hr hk c
  rw [e];refine ⟨rise_cons.2 ⟨fun x hx=>of_decide_eq_true (List.mem_filter.1 hx).2,Qew _ hr⟩,fun x hx=>?_⟩;rcases List.mem_cons.1 hx with rfl | hx
  ·exact ⟨by show I64 m;rw [<- ey];exact (hk y hy).1,cap_in (Qdg (QhG hk))⟩
  ·exact Qom hk x hx
 ·unfold Qan;rw [if_pos (by omega)];exact ⟨hr,hk⟩
theorem QlR {A B:List Bn} (rA:Qc6 A) (rB:Qc6 B) (kA:∀ x∈A,Qa8 x) (kB:∀ x∈B,Qa8 x):Qan (mrg (Qan A) B)=Qan (mrg A B):=by
 by_cases c:30<A.length
 ·obtain ⟨a,⟨ya,ah,ag⟩,eA,ae⟩:=QeY rA kA c
  have gK:=QjO rA kA;have rU:=Qef rA rB;have kU:=Qfb _ A B (ZZa _) kA kB;have lU:=Qcp _ A B (ZZa _);obtain ⟨m,⟨y,hy,ey⟩,eU,ac⟩:=QeY rU kU (by omega);have af:=Qfo (m:=m) _ A B (ZZa _) rA rB
  have aa:a<=m:=by
   rcases Int.lt_or_le m a with q | q
   ·exfalso
    have h1:=Qhb q ah ag;have h2:=Qcp _ (QbW m A) (QbW m B) (ZZa _);rw [<- af] at h2;omega
   ·exact q
  have hK:QbW m (Qan A)=QbW m A:=by rw [eA,QbJ (show (a,Qfp (Qdr (lowL a A))).1<=m from aa),QdG aa]
  have ad:=Qfo (m:=m) _ (Qan A) B (ZZa _) gK.1 rB;rw [hK,<- af] at ad;have lK:(Qan A).length=30:=by rw [eA,List.length_cons,ae]
  have lV:=Qcp _ (Qan A) B (ZZa _)
  have ab:∃ z∈mrg (Qan A) B,z.1=m:=by
   rcases Qib _ A B (ZZa _) hy with ⟨u,hu,eu⟩ | ⟨u,hu,eu⟩
   ·have:∃ v∈Qan A,v.1=m:=by
     rw [eA];by_cases q:a<m
     ·exact ⟨u,ZZm _ (List.mem_filter.2 ⟨hu,ZZh (by omega)⟩),by omega⟩
     ·exact ⟨_,List.mem_cons_self ..,by show a=m;omega⟩
    obtain ⟨v,hv,ev⟩:=this;obtain ⟨z,hz,ez⟩:=Qg1 _ (Qan A) B (ZZa _) hv;exact ⟨z,hz,by omega⟩
   ·rw [Qdl _ (Qan A) B (Nat.le_refl _)]
    obtain ⟨z,hz,ez⟩:=Qg1 _ B (Qan A) (ZZa _) hu;exact ⟨z,hz,by omega⟩
  rw [QqW (Qef gK.1 rB) (Qfb _ _ _ (Nat.le_refl _) gK.2 kB) (by omega) ab (by rw [ad];exact ac),eU,ad]
  congr 2
  have w1:=QdU (m:=m) _ (Qan A) B 0 (ZZa _) (Int.le_refl _) gK.2 kB;have w2:=QdU (m:=m) _ A B 0 (ZZa _) (Int.le_refl _) kA kB;simp only [Int.zero_add] at w1 w2;rw [w1,w2,eA,QbX (show (a,Qfp (Qdr (lowL a A))).1<=m from aa),QaX,Qlq aa A];have p1:0<=Qdr (lowL a A):=Qdg (QhG kA);have p2:0<=Qdr (lowL m (QbW a A)):=Qdg (QhG (Qom kA));have p3:0<=Qdr (lowL m B):=Qdg (QhG kB)
  show Qfp (Qfp (Qdr (lowL a A))+Qdr (lowL m (QbW a A))+Qdr (lowL m B))=_
  rw [Int.add_assoc,Qkd p1 (by omega)]
  congr 1;omega
 ·rw [show Qan A=A by unfold Qan;rw [if_pos (by omega)]]
theorem QmM {A B:List Bn} (rA:Qc6 A) (rB:Qc6 B) (kA:∀ x∈A,Qa8 x) (kB:∀ x∈B,Qa8 x):Qan (mrg A (Qan B))=Qan (mrg A B):=by
 rw [Qdl _ A (Qan B) (Nat.le_refl _),QlR rB rA kB kA,Qdl _ B A (Nat.le_refl _)]
set_option maxRecDepth 10000
open Go.ChangeAt Go.ChangeShapes Go.Lib Go.PlainAid Go.RowKit Go.WideShapes
def satU (n:Int):Int:=if 18446744073709551615<n then 18446744073709551615 else n
def wsum:List Bn->Int
 | []=>0
 | x :: r=>x.2+wsum r
def skW (z:Int) (P N:List Bn):Int:=if skB P N=true then satU (z+wsum P+wsum N) else 0
def BnR (x:Bn):Prop:=0<x.1/\x.1<=6878/\x.2≠0
theorem Qjl:∀ {L:List Bn} {q:Int},QbF q L=true↔Qc6 L/\∀ x∈L,q<x.1/\x.1<=6878/\x.2≠0
 | [],q=>⟨fun _=>⟨Qda,fun x hx=>by simp at hx⟩,fun _=>rfl⟩
 | y :: r,q=>by
  simp only [QbF,Bool.and_eq_true,decide_eq_true_eq,Qjl (L:=r)];constructor
  ·rintro ⟨⟨⟨h1,h2⟩,h3⟩,h4,h5⟩
   refine ⟨rise_cons.2 ⟨fun x hx=>(h5 x hx).1,h4⟩,fun x hx=>?_⟩;rcases List.mem_cons.1 hx with rfl | hx
   ·exact ⟨h1,h2,h3⟩
   ·have:=h5 x hx;exact ⟨by omega,this.2⟩
  ·rintro ⟨h1,h2⟩
   have h0:=h2 y List.mem_cons_self;exact ⟨⟨⟨h0.1,h0.2.1⟩,h0.2.2⟩,(rise_cons.1 h1).2,fun x hx=>⟨(rise_cons.1 h1).1 x hx,(h2 x (ZZm _ hx)).2⟩⟩
theorem binsB_iff {L:List Bn}:QaR L=true↔L.length<=30/\Qc6 L/\∀ x∈L,BnR x:=by
 unfold QaR BnR;simp only [Bool.and_eq_true,decide_eq_true_eq,Qjl]
theorem QqA {a b:Int} (ha:U64 a) (hb:U64 b) (h:a≠0):Qar a b≠0:=by unfold Qar;unfold U64 at *; split <;> omega
theorem mrg_R {a b:List Bn} (ka:∀ x∈a,Qa8 x) (kb:∀ x∈b,Qa8 x) (ha:∀ x∈a,BnR x) (hb:∀ x∈b,BnR x):∀ z∈mrg a b,BnR z:=by
 induction a,b using mrg.induct with
 | case1 b=>rw [Qbf];exact hb
 | case2 x a=>rw [QaK];exact ha
 | case3 x a y b h ih=>
  rw [Qa2 h];intro z hz;rcases List.mem_cons.1 hz with rfl | hz
  ·exact ha _ List.mem_cons_self
  ·exact ih (fun u hu=>ka u (ZZm _ hu)) kb (fun u hu=>ha u (ZZm _ hu)) hb z hz
 | case4 x a y b h h' ih=>
  rw [Qa7 h'];intro z hz;rcases List.mem_cons.1 hz with rfl | hz
  ·exact hb _ List.mem_cons_self
  ·exact ih ka (fun u hu=>kb u (ZZm _ hu)) ha (fun u hu=>hb u (ZZm _ hu)) z hz
 | case5 x a y b h h' ih=>
  rw [Qbi (by omega)];intro z hz;rcases List.mem_cons.1 hz with rfl | hz
  ·have h1:=ha x List.mem_cons_self
   exact ⟨h1.1,h1.2.1,QqA (ka x List.mem_cons_self).2 (kb y List.mem_cons_self).2 h1.2.2⟩
  ·exact ih (fun u hu=>ka u (ZZm _ hu)) (fun u hu=>kb u (ZZm _ hu)) (fun u hu=>ha u (ZZm _ hu)) (fun u hu=>hb u (ZZm _ hu)) z hz
theorem QqG {L:List Bn} (hk:∀ x∈L,Qa8 x) {y:Bn} (hy:y∈L):y.2<=Qdr L:=by
 induction L with
 | nil=>simp at hy
 | cons x r ih=>
  have h0:=Qdg (fun z hz=>hk z (ZZm _ hz));have h1:=(hk x List.mem_cons_self).2.1;rw [QaX];rcases List.mem_cons.1 hy with rfl | hy
  ·omega
  ·have:=ih (fun z hz=>hk z (ZZm _ hz)) hy;omega
theorem keep_R {L:List Bn} (hr:Qc6 L) (hk:∀ x∈L,Qa8 x) (hR:∀ x∈L,BnR x):∀ x∈Qan L,BnR x:=by
 by_cases h:30<L.length
 ·obtain ⟨m,⟨y,hy,rfl⟩,e,_⟩:=QeY hr hk h
  rw [e];intro x hx;have h1:=hR y hy;rcases List.mem_cons.1 hx with rfl | hx
  ·have aa:y∈lowL y.1 L:=List.mem_filter.2 ⟨hy,ZZh (Int.le_refl _)⟩
   have h2:=QqG (QhG (m:=y.1) hk) aa;have h3:=(hk y hy).2.1;have h4:=h1.2.2;exact ⟨h1.1,h1.2.1,by show Qfp _≠0;unfold Qfp;split <;> omega⟩
  ·exact hR x (List.mem_filter.1 hx).1
 ·have:Qan L=L:=by unfold Qan;rw [if_pos (by omega)]
  rw [this];exact hR
theorem Qmr (L:List Bn):(Qan L).length<=30:=by
 unfold Qan
 split
 ·assumption
 ·have hd:(L.drop (L.length - 30)).length=30:=by rw [List.length_drop];omega
  split
  ·rename_i h;rw [h] at hd;simp at hd
  ·rename_i h;rw [h] at hd;simp at hd ⊢; omega
theorem Qgu {A B:List Bn} (hA:QaR A=true) (hB:QaR B=true) (kA:∀ x∈A,Qa8 x) (kB:∀ x∈B,Qa8 x):QaR (Qan (mrg A B))=true/\∀ x∈Qan (mrg A B),Qa8 x:=by
 obtain ⟨_,a2,a3⟩:=binsB_iff.1 hA;obtain ⟨_,b2,b3⟩:=binsB_iff.1 hB;have kM:=Qfb _ A B (ZZa _) kA kB;have g:=QjO (Qef a2 b2) kM;exact ⟨binsB_iff.2 ⟨Qmr _,g.1,keep_R (Qef a2 b2) kM (mrg_R kA kB a3 b3)⟩,g.2⟩
theorem skB_and {P N:List Bn}:skB P N=true↔QaR P=true/\QaR N=true:=by unfold skB;simp
theorem sk_mrg {P N P' N':List Bn} (h:skB P N=true) (h':skB P' N'=true) (kP:∀ x∈P,Qa8 x) (kN:∀ x∈N,Qa8 x) (kP':∀ x∈P',Qa8 x) (kN':∀ x∈N',Qa8 x) :
  skB (Qan (mrg P P')) (Qan (mrg N N'))=true:=
 skB_and.2 ⟨(Qgu (skB_and.1 h).1 (skB_and.1 h').1 kP kP').1,(Qgu (skB_and.1 h).2 (skB_and.1 h').2 kN kN').1⟩
theorem QhF {A B C:List Bn} (hA:QaR A=true) (hB:QaR B=true) (hC:QaR C=true) (kA:∀ x∈A,Qa8 x) (kB:∀ x∈B,Qa8 x) (kC:∀ x∈C,Qa8 x) :
  Qan (mrg (Qan (mrg A B)) C)=Qan (mrg A (Qan (mrg B C))):=by
 have a:=(binsB_iff.1 hA).2.1;have b:=(binsB_iff.1 hB).2.1;have c:=(binsB_iff.1 hC).2.1;rw [QlR (Qef a b) c (Qfb _ A B (Nat.le_refl _) kA kB) kC,QmM a (Qef b c) kA (Qfb _ B C (Nat.le_refl _) kB kC),Qbl _ A B C (Nat.le_refl _) kA kB kC]
theorem Qe5 (A B:List Bn):Qan (mrg A B)=Qan (mrg B A):=by rw [Qdl _ A B (Nat.le_refl _)]
theorem QmY (a c e:Int) {b d f:Int} (hb:U64 b) (hd:U64 d) (hf:U64 f) :
  QaO (QaO a b c d) (QaS b d) e f=QaO a b (QaO c d e f) (QaS d f)/\QaS (QaS b d) f=QaS b (QaS d f):=by
 unfold U64 at *; unfold QaO QaS Qhl uw wrap64;omega
theorem Qgr (a b c d:Int):QaO a b c d=QaO c d a b/\QaS b d=QaS d b:=by
 unfold QaO QaS Qhl;rw [Int.add_comm a c,Int.add_comm b d];exact ⟨rfl,rfl⟩
structure T5 where
 z:Int
 P:List Bn
 N:List Bn
 h:Int
 l:Int
def T5.M (a b:T5):T5:=⟨Qar a.z b.z,Qan (mrg a.P b.P),Qan (mrg a.N b.N),QaO a.h a.l b.h b.l,QaS a.l b.l⟩
structure T5.Ok (a:T5):Prop where
 hz:U64 a.z
 hl:U64 a.l
 kP:∀ x∈a.P,Qa8 x
 kN:∀ x∈a.N,Qa8 x
structure T5.Good (a:T5):Prop extends T5.Ok a where
 sk:skB a.P a.N=true
theorem T5.comm (a b:T5):a.M b=b.M a:=by
 unfold T5.M;rw [QdE a.z,Qe5 a.P,Qe5 a.N,(Qgr a.h a.l b.h b.l).1,(Qgr a.h a.l b.h b.l).2]
theorem T5.assoc {a b c:T5} (ha:a.Good) (hb:b.Good) (hc:c.Good):(a.M b).M c=a.M (b.M c):=by
 have s1:=skB_and.1 ha.sk;have s2:=skB_and.1 hb.sk;have s3:=skB_and.1 hc.sk;have q:=QmY a.h b.h c.h ha.hl hb.hl hc.hl;unfold T5.M;dsimp only;rw [Qee ha.hz hb.hz hc.hz,QhF s1.1 s2.1 s3.1 ha.kP hb.kP hc.kP,QhF s1.2 s2.2 s3.2 ha.kN hb.kN hc.kN,q.1,q.2]
theorem T5.swap {a b c:T5} (ha:a.Good) (hb:b.Good) (hc:c.Good):(a.M b).M c=(a.M c).M b:=by
 rw [T5.assoc ha hb hc,T5.comm b c,<- T5.assoc ha hc hb]
def QoF (v w:Int):T5:=⟨if v=0 then w else 0,if 0<v then [(Qdv v,w)] else [],if v<0 then [(Qdv (-v),w)] else [],thH v w,thL v w⟩
theorem Qrx {v:Nat} (h:1<=v):1<=Qdx v:=by
 unfold Qdx;split <;> omega
theorem binI_1 {v:Int} (h:1<=v) (h2:v<=999999999999999999):1<=Qdv v:=by
 rw [Qgk h h2];have:=Qrx (v:=v.toNat) (by omega);omega
theorem Qjs:QaR []=true:=by decide
theorem QjH {v w:Int} (h:1<=v) (h2:v<=999999999999999999) (hw:w≠0):QaR [(Qdv v,w)]=true:=by
 refine binsB_iff.2 ⟨by simp,Qh6 _,fun x hx=>?_⟩;obtain rfl:=List.mem_singleton.1 hx;exact ⟨by have:=binI_1 h h2;show 0<Qdv v;omega,(QfH v).2,hw⟩
theorem Qow {v w:Int} (hw:U64 w):∀ x∈[(Qdv v,w)],Qa8 x:=fun x hx=>by
 obtain rfl:=List.mem_singleton.1 hx;have:=QfH v;exact ⟨by show I64 (Qdv v);unfold I64;omega,hw⟩
theorem Qld {v w:Int} (hv:-999999999999999999<=v/\v<=999999999999999999) (hw:U64 w) (h0:w≠0):(QoF v w).Good:=by
 refine ⟨⟨?_,QeJ _,?_,?_⟩,?_⟩
 ·show U64 (if v=0 then w else 0);split
  ·exact hw
  ·unfold U64;omega
 ·show ∀ x∈(if 0<v then [(Qdv v,w)] else []),Qa8 x;split
  ·exact Qow hw
  ·intro x hx;simp at hx
 ·show ∀ x∈(if v<0 then [(Qdv (-v),w)] else []),Qa8 x;split
  ·exact Qow hw
  ·intro x hx;simp at hx
 ·show skB (if 0<v then [(Qdv v,w)] else []) (if v<0 then [(Qdv (-v),w)] else [])=true
  refine skB_and.2 ⟨?_,?_⟩
  ·split
   ·exact QjH (by omega) (by omega) h0
   ·exact Qjs
  ·split
   ·exact QjH (by omega) (by omega) h0
   ·exact Qjs
theorem QcZ {P:List Bn} (h:P.length<=30):Qan P=P:=by unfold Qan;rw [if_pos h]
theorem Qn3 {z:Int} (h:U64 z):Qar z 0=z:=by unfold Qar;unfold U64 at h;rw [if_neg (by omega),Int.add_zero]
structure PutIs (a b:T5) (v w:Int):Prop where
 yes:QjY a.P a.N v w->b=⟨QeF a.z v w,QcW a.P v w,QcP a.N v w,QaO a.h a.l (thH v w) (thL v w),QaS a.l (thL v w)⟩
 no:¬ QjY a.P a.N v w->b=a
structure MrgIs (a b c:T5):Prop where
 yes:QjA a.P a.N b.P b.N->c=a.M b
 no:¬ QjA a.P a.N b.P b.N->c=⟨0,[],[],0,0⟩
theorem PutIs.M {a b:T5} {v w:Int} (h:PutIs a b v w) (ha:a.Ok) (ok:QjY a.P a.N v w):b=a.M (QoF v w):=by
 rw [h.yes ok];have r:=QbV ok.1;unfold T5.M QoF QeF QcW QcP;dsimp only
 congr 1
 ·split
  ·rfl
  ·rw [Qn3 ha.hz]
 ·split
  ·rfl
  ·rw [QaK,QcZ r.1.2]
 ·split
  ·rfl
  ·rw [QaK,QcZ r.2.2]
end Go.Proofs.YtandnmpllheniaaGreatDoor
