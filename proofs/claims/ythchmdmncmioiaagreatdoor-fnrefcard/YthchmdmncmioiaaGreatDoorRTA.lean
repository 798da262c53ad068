/-
 Lists of bins brought together: in any order, and however they are put together.
-/
import Derived.Test.YthchmdmncmioiaaGreatDoorRJV
namespace Go.Proofs.YthchmdmncmioiaaGreatDoor
set_option linter.unusedVariables false
set_option linter.unusedSimpArgs false
theorem wAdd_comm (a b:Int):wAdd a b=wAdd b a:=by unfold wAdd;rw [Int.add_comm]
theorem wAdd_assoc {a b c:Int} (ha:U64 a) (hb:U64 b) (hc:U64 c):wAdd (wAdd a b) c=wAdd a (wAdd b c):=by
 unfold wAdd U64 at *
 split <;> split <;> split <;> split <;> omega
theorem mrg_comm:∀ (n:Nat) (a b:List Bn),a.length+b.length≤n→mrg a b=mrg b a
 | _,[],b,_=>by rw [mrg_nil,mrg_nil']
 | _,x :: a,[],_=>by rw [mrg_nil,mrg_nil']
 | 0,x :: a,y :: b,h=>by simp at h
 | n+1,x :: a,y :: b,h=>by
  simp only [List.length_cons] at h;rcases Int.lt_trichotomy x.1 y.1 with c | c | c
  ·rw [mrg_lt c,mrg_gt c,mrg_comm n a (y :: b) (by simp only [List.length_cons];omega)]
  ·rw [mrg_eq c,mrg_eq c.symm,mrg_comm n a b (by omega),wAdd_comm,c]
  ·rw [mrg_gt c,mrg_lt c,mrg_comm n (x :: a) b (by simp only [List.length_cons];omega)]
theorem mrg_assoc:∀ (n:Nat) (a b c:List Bn),a.length+b.length+c.length≤n→(∀ x∈a,BnOk x)→(∀ x∈b,BnOk x)→(∀ x∈c,BnOk x)→mrg (mrg a b) c=mrg a (mrg b c)
 | _,[],b,c,_,_,_,_=>by rw [mrg_nil,mrg_nil]
 | _,x :: a,[],c,_,_,_,_=>by rw [mrg_nil,mrg_nil']
 | _,x :: a,y :: b,[],_,_,_,_=>by rw [mrg_nil',mrg_nil']
 | 0,x :: a,y :: b,z :: c,h,_,_,_=>by simp at h
 | n+1,x :: a,y :: b,z :: c,h,ka,kb,kc=>by
  simp only [List.length_cons] at h;have ka':∀ x∈a,BnOk x:=fun u hu=>ka u (List.mem_cons_of_mem _ hu);have kb':∀ x∈b,BnOk x:=fun u hu=>kb u (List.mem_cons_of_mem _ hu);have kc':∀ x∈c,BnOk x:=fun u hu=>kc u (List.mem_cons_of_mem _ hu);have ux:=(ka x (List.mem_cons_self ..)).2;have uy:=(kb y (List.mem_cons_self ..)).2;have uz:=(kc z (List.mem_cons_self ..)).2;rcases Int.lt_trichotomy x.1 y.1 with c1 | c1 | c1 <;> rcases Int.lt_trichotomy y.1 z.1 with c2 | c2 | c2
  ·rw [mrg_lt c1,mrg_lt (show x.1<z.1 by omega),mrg_lt c2,mrg_lt c1,← mrg_lt c2,mrg_assoc n a (y :: b) (z :: c) (by simp only [List.length_cons];omega) ka' kb kc]
  ·rw [mrg_lt c1,mrg_lt (show x.1<z.1 by omega),mrg_eq c2,mrg_lt (show x.1<(y.1,wAdd y.2 z.2).1 from c1),← mrg_eq c2,mrg_assoc n a (y :: b) (z :: c) (by simp only [List.length_cons];omega) ka' kb kc]
  ·rw [mrg_lt c1,mrg_gt c2]
   rcases Int.lt_trichotomy x.1 z.1 with c3 | c3 | c3
   ·rw [mrg_lt c3,mrg_lt c3,← mrg_gt c2,mrg_assoc n a (y :: b) (z :: c) (by simp only [List.length_cons];omega) ka' kb kc]
   ·rw [mrg_eq c3,mrg_eq c3,mrg_assoc n a (y :: b) c (by simp only [List.length_cons];omega) ka' kb kc']
   ·rw [mrg_gt c3,mrg_gt c3,← mrg_lt c1,mrg_assoc n (x :: a) (y :: b) c (by simp only [List.length_cons];omega) ka kb kc']
  ·rw [mrg_eq c1,mrg_lt (show (x.1,wAdd x.2 y.2).1<z.1 by show x.1<z.1;omega),mrg_lt c2,mrg_eq c1,mrg_assoc n a b (z :: c) (by simp only [List.length_cons];omega) ka' kb' kc]
  ·rw [mrg_eq c1,mrg_eq (show (x.1,wAdd x.2 y.2).1=z.1 by show x.1=z.1;omega),mrg_eq c2,mrg_eq (show x.1=(y.1,wAdd y.2 z.2).1 from c1),mrg_assoc n a b c (by omega) ka' kb' kc',wAdd_assoc ux uy uz]
  ·rw [mrg_eq c1,mrg_gt (show z.1<(x.1,wAdd x.2 y.2).1 by show z.1<x.1;omega),mrg_gt c2,mrg_gt (show z.1<x.1 by omega),← mrg_eq c1,mrg_assoc n (x :: a) (y :: b) c (by simp only [List.length_cons];omega) ka kb kc']
  ·rw [mrg_gt c1,mrg_lt c2,mrg_lt c2,mrg_gt c1,mrg_assoc n (x :: a) b (z :: c) (by simp only [List.length_cons];omega) ka kb' kc]
  ·rw [mrg_gt c1,mrg_eq c2,mrg_eq c2,mrg_gt (show (y.1,wAdd y.2 z.2).1<x.1 from c1),mrg_assoc n (x :: a) b c (by simp only [List.length_cons];omega) ka kb' kc']
  ·rw [mrg_gt c1,mrg_gt c2,mrg_gt c2,mrg_gt (show z.1<x.1 by omega),← mrg_gt c1,mrg_assoc n (x :: a) (y :: b) c (by simp only [List.length_cons];omega) ka kb kc']
theorem mrg_mem {x:Bn}:∀ (n:Nat) (a b:List Bn),a.length+b.length≤n→x∈mrg a b→(∃ y∈a,y.1=x.1)∨∃ y∈b,y.1=x.1
 | _,[],b,_,h=>by rw [mrg_nil] at h;exact .inr ⟨x,h,rfl⟩
 | _,y :: a,[],_,h=>by rw [mrg_nil'] at h;exact .inl ⟨x,h,rfl⟩
 | 0,y :: a,z :: b,h,_=>by simp at h
 | n+1,y :: a,z :: b,h,hx=>by
  simp only [List.length_cons] at h;rcases Int.lt_trichotomy y.1 z.1 with c | c | c
  ·rw [mrg_lt c] at hx
   rcases List.mem_cons.1 hx with rfl | hx
   ·exact .inl ⟨x,List.mem_cons_self ..,rfl⟩
   ·rcases mrg_mem n a (z :: b) (by simp only [List.length_cons];omega) hx with ⟨u,hu,e⟩ | h
    ·exact .inl ⟨u,List.mem_cons_of_mem _ hu,e⟩
    ·exact .inr h
  ·rw [mrg_eq c] at hx
   rcases List.mem_cons.1 hx with rfl | hx
   ·exact .inl ⟨y,List.mem_cons_self ..,rfl⟩
   ·rcases mrg_mem n a b (by omega) hx with ⟨u,hu,e⟩ | ⟨u,hu,e⟩
    ·exact .inl ⟨u,List.mem_cons_of_mem _ hu,e⟩
    ·exact .inr ⟨u,List.mem_cons_of_mem _ hu,e⟩
  ·rw [mrg_gt c] at hx
   rcases List.mem_cons.1 hx with rfl | hx
   ·exact .inr ⟨x,List.mem_cons_self ..,rfl⟩
   ·rcases mrg_mem n (y :: a) b (by simp only [List.length_cons];omega) hx with h | ⟨u,hu,e⟩
    ·exact .inl h
    ·exact .inr ⟨u,List.mem_cons_of_mem _ hu,e⟩
def capW (t:Int):Int:=if 18446744073709551615<t then 18446744073709551615 else t
def sumW (L:List Bn):Int:=(L.map (fun x=>x.2)).sum
theorem wAdd_cap (a b:Int):wAdd a b=capW (a+b):=rfl
theorem cap_cap {a b:Int} (ha:0≤a) (hb:0≤b):capW (capW a+b)=capW (a+b):=by
 unfold capW
 split <;> split <;> omega
theorem sumW_cons (x:Bn) (L:List Bn):sumW (x :: L)=x.2+sumW L:=by simp [sumW]
theorem sumW_nil:sumW []=0:=rfl
theorem sumW_app (a b:List Bn):sumW (a ++ b)=sumW a+sumW b:=by simp [sumW,List.sum_append]
theorem sumW_pos:∀ {L:List Bn},(∀ x∈L,BnOk x)→0≤sumW L
 | [],_=>by simp [sumW]
 | x :: L,h=>by
  rw [sumW_cons];have h1:=(h x (List.mem_cons_self ..)).2.1;have h2:=sumW_pos (L:=L) (fun y hy=>h y (List.mem_cons_of_mem _ hy));omega
theorem foldW_cap:∀ {L:List Bn} {x:Int},0≤x→(∀ y∈L,BnOk y)→foldW (capW x) L=capW (x+sumW L)
 | [],x,hx,_=>by simp [foldW,sumW]
 | y :: L,x,hx,h=>by
  have h1:=(h y (List.mem_cons_self ..)).2.1
  show foldW (wAdd (capW x) y.2) L=_
  rw [wAdd_cap,cap_cap hx h1,foldW_cap (by omega) (fun z hz=>h z (List.mem_cons_of_mem _ hz)),sumW_cons,Int.add_assoc]
def lowL (m:Int) (L:List Bn):List Bn:=L.filter (fun x=>decide (x.1≤m))
def highL (m:Int) (L:List Bn):List Bn:=L.filter (fun x=>decide (m<x.1))
theorem low_yes {m:Int} {x:Bn} {L:List Bn} (h:x.1≤m):lowL m (x :: L)=x :: lowL m L:=by simp [lowL,h]
theorem low_no {m:Int} {x:Bn} {L:List Bn} (h:m<x.1):lowL m (x :: L)=lowL m L:=List.filter_cons_of_neg (by simp;omega)
theorem high_yes {m:Int} {x:Bn} {L:List Bn} (h:m<x.1):highL m (x :: L)=x :: highL m L:=by simp [highL,h]
theorem high_no {m:Int} {x:Bn} {L:List Bn} (h:x.1≤m):highL m (x :: L)=highL m L:=List.filter_cons_of_neg (by simp;omega)
theorem rise_tail {x:Bn} {L:List Bn} (h:Rise (x :: L)):Rise L:=(rise_cons.1 h).2
theorem high_all {m:Int} {L:List Bn} (h:∀ x∈L,m<x.1):highL m L=L:=List.filter_eq_self.2 (fun x hx=>decide_eq_true (h x hx))
theorem low_none {m:Int} {L:List Bn} (h:∀ x∈L,m<x.1):lowL m L=[]:=List.filter_eq_nil_iff.2 (fun x hx=>by have:=h x hx;simp;omega)
theorem high_mrg {m:Int}:∀ (n:Nat) (a b:List Bn),a.length+b.length≤n→Rise a→Rise b→highL m (mrg a b)=mrg (highL m a) (highL m b)
 | _,[],b,_,_,_=>by rw [mrg_nil];show _=mrg [] _;rw [mrg_nil]
 | _,x :: a,[],_,_,_=>by rw [mrg_nil'];show _=mrg _ [];rw [mrg_nil']
 | 0,x :: a,y :: b,h,_,_=>by simp at h
 | n+1,x :: a,y :: b,h,ra,rb=>by
  simp only [List.length_cons] at h;have ra':=rise_tail ra;have rb':=rise_tail rb;rcases Int.lt_trichotomy x.1 y.1 with c | c | c
  ·rw [mrg_lt c]
   have ih:=high_mrg (m:=m) n a (y :: b) (by simp only [List.length_cons];omega) ra' rb;by_cases k:m<x.1
   ·rw [high_yes k,high_yes k,ih,high_yes (show m<y.1 by omega),mrg_lt c]
   ·rw [high_no (by omega),high_no (show x.1≤m by omega),ih]
  ·rw [mrg_eq c]
   have ih:=high_mrg (m:=m) n a b (by omega) ra' rb';by_cases k:m<x.1
   ·rw [high_yes (show m<(x.1,wAdd x.2 y.2).1 from k),high_yes k,ih,high_yes (show m<y.1 by omega),mrg_eq c]
   ·rw [high_no (show (x.1,wAdd x.2 y.2).1≤m by show x.1≤m;omega),high_no (show x.1≤m by omega),high_no (show y.1≤m by omega),ih]
  ·rw [mrg_gt c]
   have ih:=high_mrg (m:=m) n (x :: a) b (by simp only [List.length_cons];omega) ra rb';by_cases k:m<y.1
   ·rw [high_yes k,high_yes (show m<x.1 by omega),high_yes k,mrg_gt c,ih,high_yes (show m<x.1 by omega)]
   ·rw [high_no (by omega),high_no (show y.1≤m by omega),ih]
theorem mrg_bn:∀ (n:Nat) (a b:List Bn),a.length+b.length≤n→(∀ x∈a,BnOk x)→(∀ x∈b,BnOk x)→∀ x∈mrg a b,BnOk x
 | _,[],b,_,_,kb=>by rw [mrg_nil];exact kb
 | _,y :: a,[],_,ka,_=>by rw [mrg_nil'];exact ka
 | 0,y :: a,z :: b,h,_,_=>by simp at h
 | n+1,y :: a,z :: b,h,ka,kb=>by
  simp only [List.length_cons] at h;have ka':∀ x∈a,BnOk x:=fun u hu=>ka u (List.mem_cons_of_mem _ hu);have kb':∀ x∈b,BnOk x:=fun u hu=>kb u (List.mem_cons_of_mem _ hu);have uy:=ka y (List.mem_cons_self ..);have uz:=kb z (List.mem_cons_self ..);intro x hx;rcases Int.lt_trichotomy y.1 z.1 with c | c | c
  ·rw [mrg_lt c] at hx
   rcases List.mem_cons.1 hx with rfl | hx
   ·exact uy
   ·exact mrg_bn n a (z :: b) (by simp only [List.length_cons];omega) ka' kb x hx
  ·rw [mrg_eq c] at hx
   rcases List.mem_cons.1 hx with rfl | hx
   ·exact ⟨uy.1,wAdd_ok uy.2 uz.2⟩
   ·exact mrg_bn n a b (by omega) ka' kb' x hx
  ·rw [mrg_gt c] at hx
   rcases List.mem_cons.1 hx with rfl | hx
   ·exact uz
   ·exact mrg_bn n (y :: a) b (by simp only [List.length_cons];omega) ka kb' x hx
theorem low_ok {m:Int} {L:List Bn} (h:∀ x∈L,BnOk x):∀ x∈lowL m L,BnOk x:=fun x hx=>h x (List.mem_filter.1 hx).1
theorem high_ok {m:Int} {L:List Bn} (h:∀ x∈L,BnOk x):∀ x∈highL m L,BnOk x:=fun x hx=>h x (List.mem_filter.1 hx).1
theorem low_mrg {m:Int}:∀ (n:Nat) (a b:List Bn) (t:Int),a.length+b.length≤n→0≤t→(∀ x∈a,BnOk x)→(∀ x∈b,BnOk x)→capW (t+sumW (lowL m (mrg a b)))=capW (t+sumW (lowL m a)+sumW (lowL m b))
 | _,[],b,t,_,_,_,_=>by rw [mrg_nil];simp [lowL,sumW]
 | _,x :: a,[],t,_,_,_,_=>by rw [mrg_nil'];simp [lowL,sumW]
 | 0,x :: a,y :: b,_,h,_,_,_=>by simp at h
 | n+1,x :: a,y :: b,t,h,ht,ka,kb=>by
  simp only [List.length_cons] at h;have ka':∀ x∈a,BnOk x:=fun u hu=>ka u (List.mem_cons_of_mem _ hu);have kb':∀ x∈b,BnOk x:=fun u hu=>kb u (List.mem_cons_of_mem _ hu);have ux:=(ka x (List.mem_cons_self ..)).2.1;have uy:=(kb y (List.mem_cons_self ..)).2.1;rcases Int.lt_trichotomy x.1 y.1 with c | c | c
  ·rw [mrg_lt c]
   by_cases k:x.1≤m
   ·rw [low_yes k,low_yes k,sumW_cons,sumW_cons,← Int.add_assoc,low_mrg n a (y :: b) (t+x.2) (by simp only [List.length_cons];omega) (by omega) ka' kb]
    congr 1;omega
   ·rw [low_no (by omega),low_no (show m<x.1 by omega),low_mrg n a (y :: b) t (by simp only [List.length_cons];omega) ht ka' kb]
  ·rw [mrg_eq c]
   by_cases k:x.1≤m
   ·rw [low_yes (show (x.1,wAdd x.2 y.2).1≤m from k),low_yes k,low_yes (show y.1≤m by omega),sumW_cons,sumW_cons,sumW_cons]
    have ih:=low_mrg (m:=m) n a b (t+x.2+y.2) (by omega) (by omega) ka' kb';have hs:0≤sumW (lowL m (mrg a b)):=sumW_pos (low_ok (mrg_bn _ a b (Nat.le_refl _) ka' kb'))
    show capW (t+(capW (x.2+y.2)+sumW (lowL m (mrg a b))))=_
    have e1:t+(capW (x.2+y.2)+sumW (lowL m (mrg a b)))=capW (x.2+y.2)+(t+sumW (lowL m (mrg a b))):=by omega
    rw [e1,cap_cap (by omega) (by omega),show x.2+y.2+(t+sumW (lowL m (mrg a b)))=t+x.2+y.2+sumW (lowL m (mrg a b)) by omega,ih]
    congr 1;omega
   ·rw [low_no (show m<(x.1,wAdd x.2 y.2).1 by show m<x.1;omega),low_no (show m<x.1 by omega),low_no (show m<y.1 by omega),low_mrg n a b t (by omega) ht ka' kb']
  ·rw [mrg_gt c]
   by_cases k:y.1≤m
   ·rw [low_yes k,low_yes k,sumW_cons,sumW_cons,← Int.add_assoc,low_mrg n (x :: a) b (t+y.2) (by simp only [List.length_cons];omega) (by omega) ka kb']
    congr 1;omega
   ·rw [low_no (by omega),low_no (show m<y.1 by omega),low_mrg n (x :: a) b t (by simp only [List.length_cons];omega) ht ka kb']
theorem part_rise:∀ {L:List Bn} {k:Nat} {x:Bn},Rise L→L[k]?=some x→lowL x.1 L=L.take (k+1)∧highL x.1 L=L.drop (k+1)
 | [],k,x,_,h=>by simp at h
 | y :: r,0,x,hr,h=>by
  obtain rfl:y=x:=by simpa using h
  have hc:=rise_cons.1 hr;rw [low_yes (Int.le_refl _),high_no (Int.le_refl _),low_none hc.1,high_all hc.1];simp
 | y :: r,k+1,x,hr,h=>by
  have hc:=rise_cons.1 hr;have hx:r[k]?=some x:=by simpa using h
  have hlt:=hc.1 x (List.mem_of_getElem? hx);obtain ⟨h1,h2⟩:=part_rise hc.2 hx;rw [low_yes (by omega),high_no (by omega),h1,h2];simp
theorem keep_col {L:List Bn} (hr:Rise L) (hk:∀ x∈L,BnOk x) (h:30<L.length) :
  ∃ m,(∃ y∈L,y.1=m)∧keepL L=(m,capW (sumW (lowL m L))) :: highL m L∧(highL m L).length=29:=by
 obtain ⟨x,hx⟩:∃ x,L[L.length - 30]?=some x:=⟨L[L.length - 30]'(by omega),List.getElem?_eq_getElem _⟩;obtain ⟨h1,h2⟩:=part_rise hr hx;refine ⟨x.1,⟨x,List.mem_of_getElem? hx,rfl⟩,?_,by rw [h2,List.length_drop];omega⟩
 have hd:L.drop (L.length - 30)=x :: L.drop (L.length - 30+1):=by
  rw [List.drop_eq_getElem_cons (by omega),(List.getElem?_eq_some_iff.1 hx).2]
 unfold keepL;rw [if_neg (by omega),hd];simp only;rw [h1,h2];have ux:=(hk x (List.mem_of_getElem? hx)).2;have e0:x.2=capW x.2:=by unfold capW;unfold U64 at ux;split <;> omega
 have e1:L.take (L.length - 30+1)=L.take (L.length - 30) ++ [x]:=by rw [List.take_add_one,hx];rfl
 rw [e1,sumW_app,sumW_cons,sumW_nil]
 congr 2
 have:=foldW_cap (x:=x.2) (L:=L.take (L.length - 30)) ux.1 (fun y hy=>hk y (List.mem_of_mem_take hy));rw [← e0] at this;rw [this]
 congr 1;omega
theorem mrg_rise {a b:List Bn} (ha:Rise a) (hb:Rise b):Rise (mrg a b):=by rw [← insAll_mrg hb];exact insAll_rise ha
theorem rise_filter (p:Bn→Bool):∀ {L:List Bn},Rise L→Rise (L.filter p)
 | [],_=>rise_nil
 | y :: r,h=>by
  have hc:=rise_cons.1 h;by_cases k:p y=true
  ·rw [List.filter_cons_of_pos k]
   exact rise_cons.2 ⟨fun x hx=>hc.1 x (List.mem_filter.1 hx).1,rise_filter p hc.2⟩
  ·rw [List.filter_cons_of_neg k]
   exact rise_filter p hc.2
theorem mrg_len_ge:∀ (n:Nat) (a b:List Bn),a.length+b.length≤n→a.length≤(mrg a b).length
 | _,[],b,_=>by simp
 | _,x :: a,[],_=>by rw [mrg_nil'];exact Nat.le_refl _
 | 0,x :: a,y :: b,h=>by simp at h
 | n+1,x :: a,y :: b,h=>by
  simp only [List.length_cons] at h;rcases Int.lt_trichotomy x.1 y.1 with c | c | c
  ·rw [mrg_lt c];have:=mrg_len_ge n a (y :: b) (by simp only [List.length_cons];omega);simp only [List.length_cons];omega
  ·rw [mrg_eq c];have:=mrg_len_ge n a b (by omega);simp only [List.length_cons];omega
  ·rw [mrg_gt c];have:=mrg_len_ge n (x :: a) b (by simp only [List.length_cons];omega);simp only [List.length_cons] at this ⊢; omega
theorem mrg_pos:∀ (n:Nat) (a b:List Bn) {y:Bn},a.length+b.length≤n→y∈a→∃ z∈mrg a b,z.1=y.1
 | _,[],b,y,_,h=>by simp at h
 | _,x :: a,[],y,_,h=>by rw [mrg_nil'];exact ⟨y,h,rfl⟩
 | 0,x :: a,z :: b,y,h,_=>by simp at h
 | n+1,x :: a,z :: b,y,h,hy=>by
  simp only [List.length_cons] at h;rcases Int.lt_trichotomy x.1 z.1 with c | c | c
  ·rw [mrg_lt c]
   rcases List.mem_cons.1 hy with rfl | hy
   ·exact ⟨_,List.mem_cons_self ..,rfl⟩
   ·obtain ⟨u,hu,e⟩:=mrg_pos n a (z :: b) (by simp only [List.length_cons];omega) hy
    exact ⟨u,List.mem_cons_of_mem _ hu,e⟩
  ·rw [mrg_eq c]
   rcases List.mem_cons.1 hy with rfl | hy
   ·exact ⟨_,List.mem_cons_self ..,rfl⟩
   ·obtain ⟨u,hu,e⟩:=mrg_pos n a b (by omega) hy
    exact ⟨u,List.mem_cons_of_mem _ hu,e⟩
  ·rw [mrg_gt c]
   obtain ⟨u,hu,e⟩:=mrg_pos n (x :: a) b (by simp only [List.length_cons];omega) hy;exact ⟨u,List.mem_cons_of_mem _ hu,e⟩
theorem high_high {m k:Int} (h:m≤k):∀ L:List Bn,highL k (highL m L)=highL k L
 | []=>rfl
 | x :: L=>by
  by_cases c:m<x.1
  ·rw [high_yes c]
   by_cases d:k<x.1
   ·rw [high_yes d,high_yes d,high_high h L]
   ·rw [high_no (by omega),high_no (by omega),high_high h L]
  ·rw [high_no (by omega),high_no (show x.1≤k by omega),high_high h L]
theorem high_less {m k:Int} {L:List Bn} {y:Bn} (h:m<k) (hy:y∈L) (e:y.1=k):(highL k L).length<(highL m L).length:=by
 rw [← high_high (show m≤k by omega) L];exact List.length_filter_lt_length_iff_exists.2 ⟨y,List.mem_filter.2 ⟨hy,decide_eq_true (by omega)⟩,by simp;omega⟩
theorem place_one {m k:Int} {L:List Bn} (hm:∃ y∈L,y.1=m) (hk:∃ y∈L,y.1=k) (h:(highL m L).length=(highL k L).length):m=k:=by
 obtain ⟨y,hy,ey⟩:=hm;obtain ⟨z,hz,ez⟩:=hk;rcases Int.lt_trichotomy m k with c | c | c
 ·have:=high_less c hz ez;omega
 ·exact c
 ·have:=high_less c hy ey;omega
theorem sum_part {m k:Int} (h:m≤k):∀ L:List Bn,sumW (lowL k L)=sumW (lowL m L)+sumW (lowL k (highL m L))
 | []=>rfl
 | x :: L=>by
  have ih:=sum_part h L;by_cases c:m<x.1
  ·rw [high_yes c,low_no c]
   by_cases d:x.1≤k
   ·rw [low_yes d,low_yes d,sumW_cons,sumW_cons];omega
   ·rw [low_no (by omega),low_no (by omega)];exact ih
  ·rw [high_no (by omega),low_yes (show x.1≤m by omega),low_yes (show x.1≤k by omega),sumW_cons,sumW_cons];omega
theorem keep_at {L:List Bn} {m:Int} (hr:Rise L) (hk:∀ x∈L,BnOk x) (h:30≤L.length) (hm:∃ y∈L,y.1=m) (h29:(highL m L).length=29):keepL L=(m,capW (sumW (lowL m L))) :: highL m L:=by
 by_cases c:30<L.length
 ·obtain ⟨k,hk',e,h2⟩:=keep_col hr hk c
  obtain rfl:=place_one hm hk' (by omega);exact e
 ·have e30:L.length=30:=by omega
  obtain ⟨y,hy,rfl⟩:=hm;obtain ⟨k,hk1,hk2⟩:=List.getElem_of_mem hy;have hx:L[k]?=some y:=by rw [List.getElem?_eq_getElem hk1,hk2]
  obtain ⟨p1,p2⟩:=part_rise hr hx;rw [p2,List.length_drop] at h29;obtain rfl:k=0:=by omega
  rw [p1,p2];unfold keepL;rw [if_pos (by omega)]
  cases L with
  | nil=>simp at e30
  | cons x r=>
   obtain rfl:x=y:=by simpa using hx
   have ux:=(hk x (List.mem_cons_self ..)).2;have e0:capW x.2=x.2:=by unfold capW;unfold U64 at ux;split <;> omega
   simp [sumW,e0]
theorem cap_in {t:Int} (h:0≤t):U64 (capW t):=by unfold capW U64;split <;> omega
theorem keep_good {L:List Bn} (hr:Rise L) (hk:∀ x∈L,BnOk x):Rise (keepL L)∧∀ x∈keepL L,BnOk x:=by
 by_cases c:30<L.length
 ·obtain ⟨m,⟨y,hy,ey⟩,e,h2⟩:=keep_col hr hk c
  rw [e];refine ⟨rise_cons.2 ⟨fun x hx=>of_decide_eq_true (List.mem_filter.1 hx).2,rise_filter _ hr⟩,fun x hx=>?_⟩;rcases List.mem_cons.1 hx with rfl | hx
  ·exact ⟨by show I64 m;rw [← ey];exact (hk y hy).1,cap_in (sumW_pos (low_ok hk))⟩
  ·exact high_ok hk x hx
 ·unfold keepL;rw [if_pos (by omega)];exact ⟨hr,hk⟩
theorem keep_mrg {A B:List Bn} (rA:Rise A) (rB:Rise B) (kA:∀ x∈A,BnOk x) (kB:∀ x∈B,BnOk x):keepL (mrg (keepL A) B)=keepL (mrg A B):=by
 by_cases c:30<A.length
 ·obtain ⟨a,⟨ya,hya,eya⟩,eA,hA29⟩:=keep_col rA kA c
  have gK:=keep_good rA kA;have rU:=mrg_rise rA rB;have kU:=mrg_bn _ A B (Nat.le_refl _) kA kB;have lU:=mrg_len_ge _ A B (Nat.le_refl _);obtain ⟨m,⟨y,hy,ey⟩,eU,hU29⟩:=keep_col rU kU (by omega);have hUm:=high_mrg (m:=m) _ A B (Nat.le_refl _) rA rB
  have ham:a≤m:=by
   rcases Int.lt_or_le m a with q | q
   ·exfalso
    have h1:=high_less q hya eya;have h2:=mrg_len_ge _ (highL m A) (highL m B) (Nat.le_refl _);rw [← hUm] at h2;omega
   ·exact q
  have hK:highL m (keepL A)=highL m A:=by rw [eA,high_no (show (a,capW (sumW (lowL a A))).1≤m from ham),high_high ham]
  have hVm:=high_mrg (m:=m) _ (keepL A) B (Nat.le_refl _) gK.1 rB;rw [hK,← hUm] at hVm;have lK:(keepL A).length=30:=by rw [eA,List.length_cons,hA29]
  have lV:=mrg_len_ge _ (keepL A) B (Nat.le_refl _)
  have hpos:∃ z∈mrg (keepL A) B,z.1=m:=by
   rcases mrg_mem _ A B (Nat.le_refl _) hy with ⟨u,hu,eu⟩ | ⟨u,hu,eu⟩
   ·have:∃ v∈keepL A,v.1=m:=by
     rw [eA];by_cases q:a<m
     ·exact ⟨u,List.mem_cons_of_mem _ (List.mem_filter.2 ⟨hu,decide_eq_true (by omega)⟩),by omega⟩
     ·exact ⟨_,List.mem_cons_self ..,by show a=m;omega⟩
    obtain ⟨v,hv,ev⟩:=this;obtain ⟨z,hz,ez⟩:=mrg_pos _ (keepL A) B (Nat.le_refl _) hv;exact ⟨z,hz,by omega⟩
   ·rw [mrg_comm _ (keepL A) B (Nat.le_refl _)]
    obtain ⟨z,hz,ez⟩:=mrg_pos _ B (keepL A) (Nat.le_refl _) hu;exact ⟨z,hz,by omega⟩
  rw [keep_at (mrg_rise gK.1 rB) (mrg_bn _ _ _ (Nat.le_refl _) gK.2 kB) (by omega) hpos (by rw [hVm];exact hU29),eU,hVm]
  congr 2
  have w1:=low_mrg (m:=m) _ (keepL A) B 0 (Nat.le_refl _) (Int.le_refl _) gK.2 kB;have w2:=low_mrg (m:=m) _ A B 0 (Nat.le_refl _) (Int.le_refl _) kA kB;simp only [Int.zero_add] at w1 w2;rw [w1,w2,eA,low_yes (show (a,capW (sumW (lowL a A))).1≤m from ham),sumW_cons,sum_part ham A];have p1:0≤sumW (lowL a A):=sumW_pos (low_ok kA);have p2:0≤sumW (lowL m (highL a A)):=sumW_pos (low_ok (high_ok kA));have p3:0≤sumW (lowL m B):=sumW_pos (low_ok kB)
  show capW (capW (sumW (lowL a A))+sumW (lowL m (highL a A))+sumW (lowL m B))=_
  rw [Int.add_assoc,cap_cap p1 (by omega)]
  congr 1;omega
 ·rw [show keepL A=A by unfold keepL;rw [if_pos (by omega)]]
theorem keep_mrg' {A B:List Bn} (rA:Rise A) (rB:Rise B) (kA:∀ x∈A,BnOk x) (kB:∀ x∈B,BnOk x):keepL (mrg A (keepL B))=keepL (mrg A B):=by
 rw [mrg_comm _ A (keepL B) (Nat.le_refl _),keep_mrg rB rA kB kA,mrg_comm _ B A (Nat.le_refl _)]
set_option maxRecDepth 10000
open Go.ChangeAt Go.ChangeShapes Go.Lib Go.PlainAid Go.RowKit Go.WideShapes
def satU (n:Int):Int:=if 18446744073709551615<n then 18446744073709551615 else n
def wsum:List Bn→Int
 | []=>0
 | x :: r=>x.2+wsum r
def skW (z:Int) (P N:List Bn):Int:=if skB P N=true then satU (z+wsum P+wsum N) else 0
set_option maxRecDepth 512
def BnR (x:Bn):Prop:=0<x.1∧x.1≤6878∧x.2≠0
theorem riseB_iff:∀ {L:List Bn} {q:Int},riseB q L=true↔Rise L∧∀ x∈L,q<x.1∧x.1≤6878∧x.2≠0
 | [],q=>⟨fun _=>⟨rise_nil,fun x hx=>by simp at hx⟩,fun _=>rfl⟩
 | y :: r,q=>by
  simp only [riseB,Bool.and_eq_true,decide_eq_true_eq,riseB_iff (L:=r)];constructor
  ·rintro ⟨⟨⟨h1,h2⟩,h3⟩,h4,h5⟩
   refine ⟨rise_cons.2 ⟨fun x hx=>(h5 x hx).1,h4⟩,fun x hx=>?_⟩;rcases List.mem_cons.1 hx with rfl | hx
   ·exact ⟨h1,h2,h3⟩
   ·have:=h5 x hx;exact ⟨by omega,this.2⟩
  ·rintro ⟨h1,h2⟩
   have h0:=h2 y List.mem_cons_self;exact ⟨⟨⟨h0.1,h0.2.1⟩,h0.2.2⟩,(rise_cons.1 h1).2,fun x hx=>⟨(rise_cons.1 h1).1 x hx,(h2 x (List.mem_cons_of_mem _ hx)).2⟩⟩
theorem binsB_iff {L:List Bn}:binsB L=true↔L.length≤30∧Rise L∧∀ x∈L,BnR x:=by
 unfold binsB BnR;simp only [Bool.and_eq_true,decide_eq_true_eq,riseB_iff]
theorem wAdd_ne {a b:Int} (ha:U64 a) (hb:U64 b) (h:a≠0):wAdd a b≠0:=by unfold wAdd;unfold U64 at *; split <;> omega
theorem mrg_R {a b:List Bn} (ka:∀ x∈a,BnOk x) (kb:∀ x∈b,BnOk x) (ha:∀ x∈a,BnR x) (hb:∀ x∈b,BnR x):∀ z∈mrg a b,BnR z:=by
 induction a,b using mrg.induct with
 | case1 b=>rw [mrg_nil];exact hb
 | case2 x a=>rw [mrg_nil'];exact ha
 | case3 x a y b h ih=>
  rw [mrg_lt h];intro z hz;rcases List.mem_cons.1 hz with rfl | hz
  ·exact ha _ List.mem_cons_self
  ·exact ih (fun u hu=>ka u (List.mem_cons_of_mem _ hu)) kb (fun u hu=>ha u (List.mem_cons_of_mem _ hu)) hb z hz
 | case4 x a y b h h' ih=>
  rw [mrg_gt h'];intro z hz;rcases List.mem_cons.1 hz with rfl | hz
  ·exact hb _ List.mem_cons_self
  ·exact ih ka (fun u hu=>kb u (List.mem_cons_of_mem _ hu)) ha (fun u hu=>hb u (List.mem_cons_of_mem _ hu)) z hz
 | case5 x a y b h h' ih=>
  rw [mrg_eq (by omega)];intro z hz;rcases List.mem_cons.1 hz with rfl | hz
  ·have h1:=ha x List.mem_cons_self
   exact ⟨h1.1,h1.2.1,wAdd_ne (ka x List.mem_cons_self).2 (kb y List.mem_cons_self).2 h1.2.2⟩
  ·exact ih (fun u hu=>ka u (List.mem_cons_of_mem _ hu)) (fun u hu=>kb u (List.mem_cons_of_mem _ hu)) (fun u hu=>ha u (List.mem_cons_of_mem _ hu)) (fun u hu=>hb u (List.mem_cons_of_mem _ hu)) z hz
theorem sumW_ge {L:List Bn} (hk:∀ x∈L,BnOk x) {y:Bn} (hy:y∈L):y.2≤sumW L:=by
 induction L with
 | nil=>simp at hy
 | cons x r ih=>
  have h0:=sumW_pos (fun z hz=>hk z (List.mem_cons_of_mem _ hz));have h1:=(hk x List.mem_cons_self).2.1;rw [sumW_cons];rcases List.mem_cons.1 hy with rfl | hy
  ·omega
  ·have:=ih (fun z hz=>hk z (List.mem_cons_of_mem _ hz)) hy;omega
theorem keep_R {L:List Bn} (hr:Rise L) (hk:∀ x∈L,BnOk x) (hR:∀ x∈L,BnR x):∀ x∈keepL L,BnR x:=by
 by_cases h:30<L.length
 ·obtain ⟨m,⟨y,hy,rfl⟩,e,_⟩:=keep_col hr hk h
  rw [e];intro x hx;have h1:=hR y hy;rcases List.mem_cons.1 hx with rfl | hx
  ·have hy2:y∈lowL y.1 L:=List.mem_filter.2 ⟨hy,decide_eq_true (Int.le_refl _)⟩
   have h2:=sumW_ge (low_ok (m:=y.1) hk) hy2;have h3:=(hk y hy).2.1;have h4:=h1.2.2;exact ⟨h1.1,h1.2.1,by show capW _≠0;unfold capW;split <;> omega⟩
  ·exact hR x (List.mem_filter.1 hx).1
 ·have:keepL L=L:=by unfold keepL;rw [if_pos (by omega)]
  rw [this];exact hR
theorem keep_len30 (L:List Bn):(keepL L).length≤30:=by
 unfold keepL
 split
 ·assumption
 ·have hd:(L.drop (L.length - 30)).length=30:=by rw [List.length_drop];omega
  split
  ·rename_i h;rw [h] at hd;simp at hd
  ·rename_i h;rw [h] at hd;simp at hd ⊢; omega
theorem bins_mrg {A B:List Bn} (hA:binsB A=true) (hB:binsB B=true) (kA:∀ x∈A,BnOk x) (kB:∀ x∈B,BnOk x):binsB (keepL (mrg A B))=true∧∀ x∈keepL (mrg A B),BnOk x:=by
 obtain ⟨_,a2,a3⟩:=binsB_iff.1 hA;obtain ⟨_,b2,b3⟩:=binsB_iff.1 hB;have kM:=mrg_bn _ A B (Nat.le_refl _) kA kB;have g:=keep_good (mrg_rise a2 b2) kM;exact ⟨binsB_iff.2 ⟨keep_len30 _,g.1,keep_R (mrg_rise a2 b2) kM (mrg_R kA kB a3 b3)⟩,g.2⟩
theorem skB_and {P N:List Bn}:skB P N=true↔binsB P=true∧binsB N=true:=by unfold skB;simp
theorem sk_mrg {P N P' N':List Bn} (h:skB P N=true) (h':skB P' N'=true) (kP:∀ x∈P,BnOk x) (kN:∀ x∈N,BnOk x) (kP':∀ x∈P',BnOk x) (kN':∀ x∈N',BnOk x) :
  skB (keepL (mrg P P')) (keepL (mrg N N'))=true:=
 skB_and.2 ⟨(bins_mrg (skB_and.1 h).1 (skB_and.1 h').1 kP kP').1,(bins_mrg (skB_and.1 h).2 (skB_and.1 h').2 kN kN').1⟩
theorem keep_three {A B C:List Bn} (hA:binsB A=true) (hB:binsB B=true) (hC:binsB C=true) (kA:∀ x∈A,BnOk x) (kB:∀ x∈B,BnOk x) (kC:∀ x∈C,BnOk x) :
  keepL (mrg (keepL (mrg A B)) C)=keepL (mrg A (keepL (mrg B C))):=by
 have a:=(binsB_iff.1 hA).2.1;have b:=(binsB_iff.1 hB).2.1;have c:=(binsB_iff.1 hC).2.1;rw [keep_mrg (mrg_rise a b) c (mrg_bn _ A B (Nat.le_refl _) kA kB) kC,keep_mrg' a (mrg_rise b c) kA (mrg_bn _ B C (Nat.le_refl _) kB kC),mrg_assoc _ A B C (Nat.le_refl _) kA kB kC]
theorem keep_comm (A B:List Bn):keepL (mrg A B)=keepL (mrg B A):=by rw [mrg_comm _ A B (Nat.le_refl _)]
theorem sum_assoc (a c e:Int) {b d f:Int} (hb:U64 b) (hd:U64 d) (hf:U64 f) :
  addH (addH a b c d) (addL b d) e f=addH a b (addH c d e f) (addL d f)∧addL (addL b d) f=addL b (addL d f):=by
 unfold U64 at *; unfold addH addL addC uw wrap64;omega
theorem sum_comm (a b c d:Int):addH a b c d=addH c d a b∧addL b d=addL d b:=by
 unfold addH addL addC;rw [Int.add_comm a c,Int.add_comm b d];exact ⟨rfl,rfl⟩
structure T5 where
 z:Int
 P:List Bn
 N:List Bn
 h:Int
 l:Int
def T5.M (a b:T5):T5:=⟨wAdd a.z b.z,keepL (mrg a.P b.P),keepL (mrg a.N b.N),addH a.h a.l b.h b.l,addL a.l b.l⟩
structure T5.Ok (a:T5):Prop where
 hz:U64 a.z
 hl:U64 a.l
 kP:∀ x∈a.P,BnOk x
 kN:∀ x∈a.N,BnOk x
structure T5.Good (a:T5):Prop extends T5.Ok a where
 sk:skB a.P a.N=true
theorem T5.comm (a b:T5):a.M b=b.M a:=by
 unfold T5.M;rw [wAdd_comm a.z,keep_comm a.P,keep_comm a.N,(sum_comm a.h a.l b.h b.l).1,(sum_comm a.h a.l b.h b.l).2]
theorem T5.assoc {a b c:T5} (ha:a.Good) (hb:b.Good) (hc:c.Good):(a.M b).M c=a.M (b.M c):=by
 have s1:=skB_and.1 ha.sk;have s2:=skB_and.1 hb.sk;have s3:=skB_and.1 hc.sk;have q:=sum_assoc a.h b.h c.h ha.hl hb.hl hc.hl;unfold T5.M;dsimp only;rw [wAdd_assoc ha.hz hb.hz hc.hz,keep_three s1.1 s2.1 s3.1 ha.kP hb.kP hc.kP,keep_three s1.2 s2.2 s3.2 ha.kN hb.kN hc.kN,q.1,q.2]
theorem T5.swap {a b c:T5} (ha:a.Good) (hb:b.Good) (hc:c.Good):(a.M b).M c=(a.M c).M b:=by
 rw [T5.assoc ha hb hc,T5.comm b c,← T5.assoc ha hc hb]
def one5 (v w:Int):T5:=⟨if v=0 then w else 0,if 0<v then [(binI v,w)] else [],if v<0 then [(binI (-v),w)] else [],thH v w,thL v w⟩
theorem binW_1' {v:Nat} (h:1≤v):1≤binW v:=by
 unfold binW;split <;> omega
theorem binI_1 {v:Int} (h:1≤v) (h2:v≤999999999999999999):1≤binI v:=by
 rw [binI_yes h h2];have:=binW_1' (v:=v.toNat) (by omega);omega
theorem bins_nilB:binsB []=true:=by decide
theorem bins_oneB {v w:Int} (h:1≤v) (h2:v≤999999999999999999) (hw:w≠0):binsB [(binI v,w)]=true:=by
 refine binsB_iff.2 ⟨by simp,rise_one _,fun x hx=>?_⟩;obtain rfl:=List.mem_singleton.1 hx;exact ⟨by have:=binI_1 h h2;show 0<binI v;omega,(binI_in v).2,hw⟩
theorem ok_oneB {v w:Int} (hw:U64 w):∀ x∈[(binI v,w)],BnOk x:=fun x hx=>by
 obtain rfl:=List.mem_singleton.1 hx;have:=binI_in v;exact ⟨by show I64 (binI v);unfold I64;omega,hw⟩
theorem one_good {v w:Int} (hv:-999999999999999999≤v∧v≤999999999999999999) (hw:U64 w) (h0:w≠0):(one5 v w).Good:=by
 refine ⟨⟨?_,uw_in _,?_,?_⟩,?_⟩
 ·show U64 (if v=0 then w else 0);split
  ·exact hw
  ·unfold U64;omega
 ·show ∀ x∈(if 0<v then [(binI v,w)] else []),BnOk x;split
  ·exact ok_oneB hw
  ·intro x hx;simp at hx
 ·show ∀ x∈(if v<0 then [(binI (-v),w)] else []),BnOk x;split
  ·exact ok_oneB hw
  ·intro x hx;simp at hx
 ·show skB (if 0<v then [(binI v,w)] else []) (if v<0 then [(binI (-v),w)] else [])=true
  refine skB_and.2 ⟨?_,?_⟩
  ·split
   ·exact bins_oneB (by omega) (by omega) h0
   ·exact bins_nilB
  ·split
   ·exact bins_oneB (by omega) (by omega) h0
   ·exact bins_nilB
theorem keep_same {P:List Bn} (h:P.length≤30):keepL P=P:=by unfold keepL;rw [if_pos h]
theorem wAdd_0 {z:Int} (h:U64 z):wAdd z 0=z:=by unfold wAdd;unfold U64 at h;rw [if_neg (by omega),Int.add_zero]
structure PutIs (a b:T5) (v w:Int):Prop where
 yes:putOk a.P a.N v w→b=⟨putZ a.z v w,putPS a.P v w,putNS a.N v w,addH a.h a.l (thH v w) (thL v w),addL a.l (thL v w)⟩
 no:¬ putOk a.P a.N v w→b=a
structure MrgIs (a b c:T5):Prop where
 yes:mrgOk a.P a.N b.P b.N→c=a.M b
 no:¬ mrgOk a.P a.N b.P b.N→c=⟨0,[],[],0,0⟩
theorem PutIs.M {a b:T5} {v w:Int} (h:PutIs a b v w) (ha:a.Ok) (ok:putOk a.P a.N v w):b=a.M (one5 v w):=by
 rw [h.yes ok];have r:=sk_rise ok.1;unfold T5.M one5 putZ putPS putNS;dsimp only
 congr 1
 ·split
  ·rfl
  ·rw [wAdd_0 ha.hz]
 ·split
  ·rfl
  ·rw [mrg_nil',keep_same r.1.2]
 ·split
  ·rfl
  ·rw [mrg_nil',keep_same r.2.2]
end Go.Proofs.YthchmdmncmioiaaGreatDoor
