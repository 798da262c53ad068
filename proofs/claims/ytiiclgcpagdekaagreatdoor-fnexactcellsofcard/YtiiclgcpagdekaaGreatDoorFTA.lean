/-
 Lists of bins brought together: in any order, and however they are put together.
-/
import Derived.Test.YtiiclgcpagdekaaGreatDoorFJV
namespace Go.Proofs.YtiiclgcpagdekaaGreatDoor
set_option linter.unusedVariables false
set_option linter.unusedSimpArgs false
def capW (t:Int):Int:=if 18446744073709551615<t then 18446744073709551615 else t
def sumW (L:List Bn):Int:=(L.map (fun x=>x.2)).sum
theorem wAdd_cap (a b:Int):wAdd a b=capW (a+b):=rfl
theorem cap_cap {a b:Int} (ha:0≤a) (hb:0≤b):capW (capW a+b)=capW (a+b):=by
 unfold capW
 split <;> split <;> omega
theorem sumW_cons (x:Bn) (L:List Bn):sumW (x :: L)=x.2+sumW L:=by simp [sumW]
theorem sumW_nil:sumW []=0:=rfl
theorem sumW_app (a b:List Bn):sumW (a ++ b)=sumW a+sumW b:=by simp [sumW,List.sum_append]
theorem sumW_pos:∀ {L:List Bn},(∀ x∈L,BnOk x)→0≤sumW L
 | [],_=>by simp [sumW]
 | x :: L,h=>by
  rw [sumW_cons]
  have h1:=(h x (List.mem_cons_self ..)).2.1
  have h2:=sumW_pos (L:=L) (fun y hy=>h y (List.mem_cons_of_mem _ hy))
  omega
theorem foldW_cap:∀ {L:List Bn} {x:Int},0≤x→(∀ y∈L,BnOk y)→foldW (capW x) L=capW (x+sumW L)
 | [],x,hx,_=>by simp [foldW,sumW]
 | y :: L,x,hx,h=>by
  have h1:=(h y (List.mem_cons_self ..)).2.1
  show foldW (wAdd (capW x) y.2) L=_
  rw [wAdd_cap,cap_cap hx h1,foldW_cap (by omega) (fun z hz=>h z (List.mem_cons_of_mem _ hz)),sumW_cons,Int.add_assoc]
def lowL (m:Int) (L:List Bn):List Bn:=L.filter (fun x=>decide (x.1≤m))
def highL (m:Int) (L:List Bn):List Bn:=L.filter (fun x=>decide (m<x.1))
theorem low_yes {m:Int} {x:Bn} {L:List Bn} (h:x.1≤m):lowL m (x :: L)=x :: lowL m L:=by simp [lowL,h]
theorem high_yes {m:Int} {x:Bn} {L:List Bn} (h:m<x.1):highL m (x :: L)=x :: highL m L:=by simp [highL,h]
theorem high_no {m:Int} {x:Bn} {L:List Bn} (h:x.1≤m):highL m (x :: L)=highL m L:=List.filter_cons_of_neg (by simp;omega)
theorem rise_tail {x:Bn} {L:List Bn} (h:Rise (x :: L)):Rise L:=(rise_cons.1 h).2
theorem high_all {m:Int} {L:List Bn} (h:∀ x∈L,m<x.1):highL m L=L:=List.filter_eq_self.2 (fun x hx=>decide_eq_true (h x hx))
theorem low_none {m:Int} {L:List Bn} (h:∀ x∈L,m<x.1):lowL m L=[]:=List.filter_eq_nil_iff.2 (fun x hx=>by have:=h x hx;simp;omega)
theorem high_mrg {m:Int}:∀ (n:Nat) (a b:List Bn),a.length+b.length≤n→Rise a→Rise b→highL m (mrg a b)=mrg (highL m a) (highL m b)
 | _,[],b,_,_,_=>by rw [mrg_nil];show _=mrg [] _;rw [mrg_nil]
 | _,x :: a,[],_,_,_=>by rw [mrg_nil'];show _=mrg _ [];rw [mrg_nil']
 | 0,x :: a,y :: b,h,_,_=>by simp at h
 | n+1,x :: a,y :: b,h,ra,rb=>by
  simp only [List.length_cons] at h
  have ra':=rise_tail ra
  have rb':=rise_tail rb
  rcases Int.lt_trichotomy x.1 y.1 with c | c | c
  ·rw [mrg_lt c]
   have ih:=high_mrg (m:=m) n a (y :: b) (by simp only [List.length_cons];omega) ra' rb
   by_cases k:m<x.1
   ·rw [high_yes k,high_yes k,ih,high_yes (show m<y.1 by omega),mrg_lt c]
   ·rw [high_no (by omega),high_no (show x.1≤m by omega),ih]
  ·rw [mrg_eq c]
   have ih:=high_mrg (m:=m) n a b (by omega) ra' rb'
   by_cases k:m<x.1
   ·rw [high_yes (show m<(x.1,wAdd x.2 y.2).1 from k),high_yes k,ih,high_yes (show m<y.1 by omega),mrg_eq c]
   ·rw [high_no (show (x.1,wAdd x.2 y.2).1≤m by show x.1≤m;omega),high_no (show x.1≤m by omega),high_no (show y.1≤m by omega),ih]
  ·rw [mrg_gt c]
   have ih:=high_mrg (m:=m) n (x :: a) b (by simp only [List.length_cons];omega) ra rb'
   by_cases k:m<y.1
   ·rw [high_yes k,high_yes (show m<x.1 by omega),high_yes k,mrg_gt c,ih,high_yes (show m<x.1 by omega)]
   ·rw [high_no (by omega),high_no (show y.1≤m by omega),ih]
theorem mrg_bn:∀ (n:Nat) (a b:List Bn),a.length+b.length≤n→(∀ x∈a,BnOk x)→(∀ x∈b,BnOk x)→∀ x∈mrg a b,BnOk x
 | _,[],b,_,_,kb=>by rw [mrg_nil];exact kb
 | _,y :: a,[],_,ka,_=>by rw [mrg_nil'];exact ka
 | 0,y :: a,z :: b,h,_,_=>by simp at h
 | n+1,y :: a,z :: b,h,ka,kb=>by
  simp only [List.length_cons] at h
  have ka':∀ x∈a,BnOk x:=fun u hu=>ka u (List.mem_cons_of_mem _ hu)
  have kb':∀ x∈b,BnOk x:=fun u hu=>kb u (List.mem_cons_of_mem _ hu)
  have uy:=ka y (List.mem_cons_self ..)
  have uz:=kb z (List.mem_cons_self ..)
  intro x hx
  rcases Int.lt_trichotomy y.1 z.1 with c | c | c
  ·rw [mrg_lt c] at hx
   rcases List.mem_cons.1 hx with rfl | hx
   ·exact uy
   ·exact mrg_bn n a (z :: b) (by simp only [List.length_cons];omega) ka' kb x hx
  ·rw [mrg_eq c] at hx
   rcases List.mem_cons.1 hx with rfl | hx
   ·exact ⟨uy.1,wAdd_ok uy.2 uz.2⟩
   ·exact mrg_bn n a b (by omega) ka' kb' x hx
  ·rw [mrg_gt c] at hx
   rcases List.mem_cons.1 hx with rfl | hx
   ·exact uz
   ·exact mrg_bn n (y :: a) b (by simp only [List.length_cons];omega) ka kb' x hx
theorem low_ok {m:Int} {L:List Bn} (h:∀ x∈L,BnOk x):∀ x∈lowL m L,BnOk x:=fun x hx=>h x (List.mem_filter.1 hx).1
theorem high_ok {m:Int} {L:List Bn} (h:∀ x∈L,BnOk x):∀ x∈highL m L,BnOk x:=fun x hx=>h x (List.mem_filter.1 hx).1
theorem part_rise:∀ {L:List Bn} {k:Nat} {x:Bn},Rise L→L[k]?=some x→lowL x.1 L=L.take (k+1)∧highL x.1 L=L.drop (k+1)
 | [],k,x,_,h=>by simp at h
 | y :: r,0,x,hr,h=>by
  obtain rfl:y=x:=by simpa using h
  have hc:=rise_cons.1 hr
  rw [low_yes (Int.le_refl _),high_no (Int.le_refl _),low_none hc.1,high_all hc.1]
  simp
 | y :: r,k+1,x,hr,h=>by
  have hc:=rise_cons.1 hr
  have hx:r[k]?=some x:=by simpa using h
  have hlt:=hc.1 x (List.mem_of_getElem? hx)
  obtain ⟨h1,h2⟩:=part_rise hc.2 hx
  rw [low_yes (by omega),high_no (by omega),h1,h2]
  simp
theorem keep_col {L:List Bn} (hr:Rise L) (hk:∀ x∈L,BnOk x) (h:30<L.length) :
  ∃ m,(∃ y∈L,y.1=m)∧keepL L=(m,capW (sumW (lowL m L))) :: highL m L∧(highL m L).length=29:=by
 obtain ⟨x,hx⟩:∃ x,L[L.length - 30]?=some x:=⟨L[L.length - 30]'(by omega),List.getElem?_eq_getElem _⟩
 obtain ⟨h1,h2⟩:=part_rise hr hx
 refine ⟨x.1,⟨x,List.mem_of_getElem? hx,rfl⟩,?_,by rw [h2,List.length_drop];omega⟩
 have hd:L.drop (L.length - 30)=x :: L.drop (L.length - 30+1):=by
  rw [List.drop_eq_getElem_cons (by omega),(List.getElem?_eq_some_iff.1 hx).2]
 unfold keepL
 rw [if_neg (by omega),hd]
 simp only
 rw [h1,h2]
 have ux:=(hk x (List.mem_of_getElem? hx)).2
 have e0:x.2=capW x.2:=by unfold capW;unfold U64 at ux;split <;> omega
 have e1:L.take (L.length - 30+1)=L.take (L.length - 30) ++ [x]:=by rw [List.take_add_one,hx];rfl
 rw [e1,sumW_app,sumW_cons,sumW_nil]
 congr 2
 have:=foldW_cap (x:=x.2) (L:=L.take (L.length - 30)) ux.1 (fun y hy=>hk y (List.mem_of_mem_take hy))
 rw [← e0] at this
 rw [this]
 congr 1;omega
theorem mrg_rise {a b:List Bn} (ha:Rise a) (hb:Rise b):Rise (mrg a b):=by rw [← insAll_mrg hb];exact insAll_rise ha
theorem rise_filter (p:Bn→Bool):∀ {L:List Bn},Rise L→Rise (L.filter p)
 | [],_=>rise_nil
 | y :: r,h=>by
  have hc:=rise_cons.1 h
  by_cases k:p y=true
  ·rw [List.filter_cons_of_pos k]
   exact rise_cons.2 ⟨fun x hx=>hc.1 x (List.mem_filter.1 hx).1,rise_filter p hc.2⟩
  ·rw [List.filter_cons_of_neg k]
   exact rise_filter p hc.2
theorem cap_in {t:Int} (h:0≤t):U64 (capW t):=by unfold capW U64;split <;> omega
theorem keep_good {L:List Bn} (hr:Rise L) (hk:∀ x∈L,BnOk x):Rise (keepL L)∧∀ x∈keepL L,BnOk x:=by
 by_cases c:30<L.length
 ·obtain ⟨m,⟨y,hy,ey⟩,e,h2⟩:=keep_col hr hk c
  rw [e]
  refine ⟨rise_cons.2 ⟨fun x hx=>of_decide_eq_true (List.mem_filter.1 hx).2,rise_filter _ hr⟩,fun x hx=>?_⟩
  rcases List.mem_cons.1 hx with rfl | hx
  ·exact ⟨by show I64 m;rw [← ey];exact (hk y hy).1,cap_in (sumW_pos (low_ok hk))⟩
  ·exact high_ok hk x hx
 ·unfold keepL;rw [if_pos (by omega)];exact ⟨hr,hk⟩
set_option maxRecDepth 10000
open Go.ChangeAt Go.ChangeShapes Go.Lib Go.PlainAid Go.RowKit Go.WideShapes
def satU (n:Int):Int:=if 18446744073709551615<n then 18446744073709551615 else n
def wsum:List Bn→Int
 | []=>0
 | x :: r=>x.2+wsum r
def skW (z:Int) (P N:List Bn):Int:=if skB P N=true then satU (z+wsum P+wsum N) else 0
set_option maxRecDepth 512
def BnR (x:Bn):Prop:=0<x.1∧x.1≤6878∧x.2≠0
theorem riseB_iff:∀ {L:List Bn} {q:Int},riseB q L=true↔Rise L∧∀ x∈L,q<x.1∧x.1≤6878∧x.2≠0
 | [],q=>⟨fun _=>⟨rise_nil,fun x hx=>by simp at hx⟩,fun _=>rfl⟩
 | y :: r,q=>by
  simp only [riseB,Bool.and_eq_true,decide_eq_true_eq,riseB_iff (L:=r)]
  constructor
  ·rintro ⟨⟨⟨h1,h2⟩,h3⟩,h4,h5⟩
   refine ⟨rise_cons.2 ⟨fun x hx=>(h5 x hx).1,h4⟩,fun x hx=>?_⟩
   rcases List.mem_cons.1 hx with rfl | hx
   ·exact ⟨h1,h2,h3⟩
   ·have:=h5 x hx;exact ⟨by omega,this.2⟩
  ·rintro ⟨h1,h2⟩
   have h0:=h2 y List.mem_cons_self
   exact ⟨⟨⟨h0.1,h0.2.1⟩,h0.2.2⟩,(rise_cons.1 h1).2,fun x hx=>⟨(rise_cons.1 h1).1 x hx,(h2 x (List.mem_cons_of_mem _ hx)).2⟩⟩
theorem binsB_iff {L:List Bn}:binsB L=true↔L.length≤30∧Rise L∧∀ x∈L,BnR x:=by
 unfold binsB BnR
 simp only [Bool.and_eq_true,decide_eq_true_eq,riseB_iff]
theorem wAdd_ne {a b:Int} (ha:U64 a) (hb:U64 b) (h:a≠0):wAdd a b≠0:=by unfold wAdd;unfold U64 at *; split <;> omega
theorem mrg_R {a b:List Bn} (ka:∀ x∈a,BnOk x) (kb:∀ x∈b,BnOk x) (ha:∀ x∈a,BnR x) (hb:∀ x∈b,BnR x):∀ z∈mrg a b,BnR z:=by
 induction a,b using mrg.induct with
 | case1 b=>rw [mrg_nil];exact hb
 | case2 x a=>rw [mrg_nil'];exact ha
 | case3 x a y b h ih=>
  rw [mrg_lt h];intro z hz
  rcases List.mem_cons.1 hz with rfl | hz
  ·exact ha _ List.mem_cons_self
  ·exact ih (fun u hu=>ka u (List.mem_cons_of_mem _ hu)) kb (fun u hu=>ha u (List.mem_cons_of_mem _ hu)) hb z hz
 | case4 x a y b h h' ih=>
  rw [mrg_gt h'];intro z hz
  rcases List.mem_cons.1 hz with rfl | hz
  ·exact hb _ List.mem_cons_self
  ·exact ih ka (fun u hu=>kb u (List.mem_cons_of_mem _ hu)) ha (fun u hu=>hb u (List.mem_cons_of_mem _ hu)) z hz
 | case5 x a y b h h' ih=>
  rw [mrg_eq (by omega)];intro z hz
  rcases List.mem_cons.1 hz with rfl | hz
  ·have h1:=ha x List.mem_cons_self
   exact ⟨h1.1,h1.2.1,wAdd_ne (ka x List.mem_cons_self).2 (kb y List.mem_cons_self).2 h1.2.2⟩
  ·exact ih (fun u hu=>ka u (List.mem_cons_of_mem _ hu)) (fun u hu=>kb u (List.mem_cons_of_mem _ hu)) (fun u hu=>ha u (List.mem_cons_of_mem _ hu)) (fun u hu=>hb u (List.mem_cons_of_mem _ hu)) z hz
theorem sumW_ge {L:List Bn} (hk:∀ x∈L,BnOk x) {y:Bn} (hy:y∈L):y.2≤sumW L:=by
 induction L with
 | nil=>simp at hy
 | cons x r ih=>
  have h0:=sumW_pos (fun z hz=>hk z (List.mem_cons_of_mem _ hz))
  have h1:=(hk x List.mem_cons_self).2.1
  rw [sumW_cons]
  rcases List.mem_cons.1 hy with rfl | hy
  ·omega
  ·have:=ih (fun z hz=>hk z (List.mem_cons_of_mem _ hz)) hy;omega
theorem keep_R {L:List Bn} (hr:Rise L) (hk:∀ x∈L,BnOk x) (hR:∀ x∈L,BnR x):∀ x∈keepL L,BnR x:=by
 by_cases h:30<L.length
 ·obtain ⟨m,⟨y,hy,rfl⟩,e,_⟩:=keep_col hr hk h
  rw [e]
  intro x hx
  have h1:=hR y hy
  rcases List.mem_cons.1 hx with rfl | hx
  ·have hy2:y∈lowL y.1 L:=List.mem_filter.2 ⟨hy,decide_eq_true (Int.le_refl _)⟩
   have h2:=sumW_ge (low_ok (m:=y.1) hk) hy2
   have h3:=(hk y hy).2.1
   have h4:=h1.2.2
   exact ⟨h1.1,h1.2.1,by show capW _≠0;unfold capW;split <;> omega⟩
  ·exact hR x (List.mem_filter.1 hx).1
 ·have:keepL L=L:=by unfold keepL;rw [if_pos (by omega)]
  rw [this];exact hR
theorem keep_len30 (L:List Bn):(keepL L).length≤30:=by
 unfold keepL
 split
 ·assumption
 ·have hd:(L.drop (L.length - 30)).length=30:=by rw [List.length_drop];omega
  split
  ·rename_i h;rw [h] at hd;simp at hd
  ·rename_i h;rw [h] at hd;simp at hd ⊢; omega
theorem bins_mrg {A B:List Bn} (hA:binsB A=true) (hB:binsB B=true) (kA:∀ x∈A,BnOk x) (kB:∀ x∈B,BnOk x):binsB (keepL (mrg A B))=true∧∀ x∈keepL (mrg A B),BnOk x:=by
 obtain ⟨_,a2,a3⟩:=binsB_iff.1 hA
 obtain ⟨_,b2,b3⟩:=binsB_iff.1 hB
 have kM:=mrg_bn _ A B (Nat.le_refl _) kA kB
 have g:=keep_good (mrg_rise a2 b2) kM
 exact ⟨binsB_iff.2 ⟨keep_len30 _,g.1,keep_R (mrg_rise a2 b2) kM (mrg_R kA kB a3 b3)⟩,g.2⟩
theorem skB_and {P N:List Bn}:skB P N=true↔binsB P=true∧binsB N=true:=by unfold skB;simp
theorem sk_mrg {P N P' N':List Bn} (h:skB P N=true) (h':skB P' N'=true) (kP:∀ x∈P,BnOk x) (kN:∀ x∈N,BnOk x) (kP':∀ x∈P',BnOk x) (kN':∀ x∈N',BnOk x) :
  skB (keepL (mrg P P')) (keepL (mrg N N'))=true:=
 skB_and.2 ⟨(bins_mrg (skB_and.1 h).1 (skB_and.1 h').1 kP kP').1,(bins_mrg (skB_and.1 h).2 (skB_and.1 h').2 kN kN').1⟩
structure T5 where
 z:Int
 P:List Bn
 N:List Bn
 h:Int
 l:Int
def T5.M (a b:T5):T5:=⟨wAdd a.z b.z,keepL (mrg a.P b.P),keepL (mrg a.N b.N),addH a.h a.l b.h b.l,addL a.l b.l⟩
structure T5.Ok (a:T5):Prop where
 hz:U64 a.z
 hl:U64 a.l
 kP:∀ x∈a.P,BnOk x
 kN:∀ x∈a.N,BnOk x
structure T5.Good (a:T5):Prop extends T5.Ok a where
 sk:skB a.P a.N=true
def one5 (v w:Int):T5:=⟨if v=0 then w else 0,if 0<v then [(binI v,w)] else [],if v<0 then [(binI (-v),w)] else [],thH v w,thL v w⟩
theorem binW_1' {v:Nat} (h:1≤v):1≤binW v:=by
 unfold binW;split <;> omega
theorem binI_1 {v:Int} (h:1≤v) (h2:v≤999999999999999999):1≤binI v:=by
 rw [binI_yes h h2];have:=binW_1' (v:=v.toNat) (by omega);omega
theorem bins_nilB:binsB []=true:=by decide
theorem bins_oneB {v w:Int} (h:1≤v) (h2:v≤999999999999999999) (hw:w≠0):binsB [(binI v,w)]=true:=by
 refine binsB_iff.2 ⟨by simp,rise_one _,fun x hx=>?_⟩
 obtain rfl:=List.mem_singleton.1 hx
 exact ⟨by have:=binI_1 h h2;show 0<binI v;omega,(binI_in v).2,hw⟩
theorem ok_oneB {v w:Int} (hw:U64 w):∀ x∈[(binI v,w)],BnOk x:=fun x hx=>by
 obtain rfl:=List.mem_singleton.1 hx
 have:=binI_in v
 exact ⟨by show I64 (binI v);unfold I64;omega,hw⟩
theorem one_good {v w:Int} (hv:-999999999999999999≤v∧v≤999999999999999999) (hw:U64 w) (h0:w≠0):(one5 v w).Good:=by
 refine ⟨⟨?_,uw_in _,?_,?_⟩,?_⟩
 ·show U64 (if v=0 then w else 0);split
  ·exact hw
  ·unfold U64;omega
 ·show ∀ x∈(if 0<v then [(binI v,w)] else []),BnOk x;split
  ·exact ok_oneB hw
  ·intro x hx;simp at hx
 ·show ∀ x∈(if v<0 then [(binI (-v),w)] else []),BnOk x;split
  ·exact ok_oneB hw
  ·intro x hx;simp at hx
 ·show skB (if 0<v then [(binI v,w)] else []) (if v<0 then [(binI (-v),w)] else [])=true
  refine skB_and.2 ⟨?_,?_⟩
  ·split
   ·exact bins_oneB (by omega) (by omega) h0
   ·exact bins_nilB
  ·split
   ·exact bins_oneB (by omega) (by omega) h0
   ·exact bins_nilB
theorem keep_same {P:List Bn} (h:P.length≤30):keepL P=P:=by unfold keepL;rw [if_pos h]
theorem wAdd_0 {z:Int} (h:U64 z):wAdd z 0=z:=by unfold wAdd;unfold U64 at h;rw [if_neg (by omega),Int.add_zero]
structure PutIs (a b:T5) (v w:Int):Prop where
 yes:putOk a.P a.N v w→b=⟨putZ a.z v w,putPS a.P v w,putNS a.N v w,addH a.h a.l (thH v w) (thL v w),addL a.l (thL v w)⟩
 no:¬ putOk a.P a.N v w→b=a
structure MrgIs (a b c:T5):Prop where
 yes:mrgOk a.P a.N b.P b.N→c=a.M b
 no:¬ mrgOk a.P a.N b.P b.N→c=⟨0,[],[],0,0⟩
theorem PutIs.M {a b:T5} {v w:Int} (h:PutIs a b v w) (ha:a.Ok) (ok:putOk a.P a.N v w):b=a.M (one5 v w):=by
 rw [h.yes ok]
 have r:=sk_rise ok.1
 unfold T5.M one5 putZ putPS putNS
 dsimp only
 congr 1
 ·split
  ·rfl
  ·rw [wAdd_0 ha.hz]
 ·split
  ·rfl
  ·rw [mrg_nil',keep_same r.1.2]
 ·split
  ·rfl
  ·rw [mrg_nil',keep_same r.2.2]
end Go.Proofs.YtiiclgcpagdekaaGreatDoor
