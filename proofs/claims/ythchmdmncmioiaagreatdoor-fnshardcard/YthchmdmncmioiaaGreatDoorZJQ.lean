/-
 Contracts of WeightAdd, of the program and of its model: the sum, up to 2^64-1.
-/
import Derived.Test.YthchmdmncmioiaaGreatDoorZJD
import Derived.Shelf.Spec.SlicesInsert
import Derived.Lib.AppendZerosOnto
import Derived.Laws.NewBlocks
import Derived.Deep.Onto
import Derived.Lib.OwnKind
set_option maxHeartbeats 4000000
namespace Go.Proofs.YthchmdmncmioiaaGreatDoor
open Go.ChangeShapes Go.WideShapes Go.ChangeAt Go.RowKit
def QaA (a b:Int):Int:=if 18446744073709551615<a+b then 18446744073709551615 else a+b
theorem QhA {a b:Int} (h:a=b):Ending.returned (.int .u64 a)=.returned (.int .u64 b):=by rw [h]
theorem QbF (a b:Int) (ha:U64 a) (hb:U64 b) (w:World) :
  Calls Tryz.prog 132 #[.int .u64 a,.int .u64 b] w fun e w'=>e=.returned (.int .u64 (QaA a b))/\w'=w:=by
 have Ha:Hid (U64 a):=ha;have Hb:Hid (U64 b):=hb;clear ha hb;go_enter Tryz.func132,Tryz.ntmps132;go_wp2
 ·have h:=‹IntKind.u64.wrap (a+b)<a›
  have ha:=Ha.out;have hb:=Hb.out;go_ret;refine ⟨QhA ?_,rfl⟩;rw [IntKind.wrap_u64] at h;unfold U64 at ha hb;unfold QaA;rw [if_pos (by omega)]
 ·have h:=‹a<=IntKind.u64.wrap (a+b)›
  have ha:=Ha.out;have hb:=Hb.out;go_ret;refine ⟨QhA ?_,rfl⟩;rw [IntKind.wrap_u64] at h ⊢; unfold U64 at ha hb;unfold QaA;rw [if_neg (by omega)];omega
theorem QaH (a b:Int) (ha:U64 a) (hb:U64 b) (w:World) :
  Calls Tryz.prog 86 #[.int .u64 a,.int .u64 b] w fun e w'=>e=.returned (.int .u64 (QaA a b))/\w'=w:=by
 have k1:=fun w=>Qjc a b 0 ha.1 hb.1 (by omega) (by omega) w;simp only [Int.add_zero] at k1;have Ha:Hid (U64 a):=ha;have Hb:Hid (U64 b):=hb;clear ha hb;go_enter Tryz.func86,Tryz.ntmps86;go_wp2
 ·have h:=‹0<Qhi a b›
  have ha:=Ha.out;have hb:=Hb.out;go_ret;refine ⟨QhA ?_,rfl⟩;unfold Qhi at h;unfold U64 at ha hb;unfold QaA;rw [if_pos (by omega)]
 ·have h:=‹Qhi a b<=0›
  have ha:=Ha.out;have hb:=Hb.out;go_ret;refine ⟨QhA ?_,rfl⟩;unfold Qhi at h;unfold uw;unfold U64 at ha hb;unfold QaA;rw [if_neg (by omega)];omega
set_option linter.unusedVariables false
set_option linter.unusedSimpArgs false
set_option maxRecDepth 10000
open Go.Lib Go.PlainAid
theorem Qj3 (a u:Int) (w:World) :
  Calls Tryz.prog 295 #[.agg #[.int .i64 a,.int .u64 u]] w fun e w'=>e=.returned (.int .i64 a)/\Below w.heap.size w w':=by
 go_enter Tryz.func295,Tryz.ntmps295;go_wp2;go_ret;exact ⟨rfl,(ZZb _ _).alloc (ZZa _) _⟩
abbrev QaL (w:World) (g:Nat) (a u:Int):Prop:=w.cell? ⟨g,0,none⟩=some (.int .i64 a)/\w.cell? ⟨g,1,none⟩=some (.int .u64 u)
theorem Qgg {w w':World} {g:Nat} {a u:Int} (h:QaL w g a u) (hb:Below w.heap.size w w'):QaL w' g a u:=⟨Qab hb h.1,Qab hb h.2⟩
theorem Qfo (w:World) (t:TypeId) (a u:Int):QaL (w.alloc (.cells #[.int .i64 a,.int .u64 u] t)) w.heap.size a u:=by
 have hb:=ZZk w (.cells #[.int .i64 a,.int .u64 u] t);exact ⟨by rw [cell_of_row _ w.heap.size 0 _ _ (0,0) hb];rfl,by rw [cell_of_row _ w.heap.size 1 _ _ (0,0) hb];rfl⟩
theorem Qpu (a u b v:Int) (hu:U64 u) (hv:U64 v) (w:World) :
  Calls Tryz.prog 296 #[.agg #[.int .i64 a,.int .u64 u],.agg #[.int .i64 b,.int .u64 v]] w fun e w'=>e=.returned (.agg #[.int .i64 a,.int .u64 (QaA u v)])/\Below w.heap.size w w':=by
 go_enter Tryz.func296,Tryz.ntmps296;go_wp2_with fail;generalize hW0:(w.alloc (Obj.cells #[.int .i64 a,.int .u64 u] 199)).alloc (Obj.cells #[.int .i64 b,.int .u64 v] 199)=W0;have T0:Below w.heap.size w W0:=by rw [<- hW0];exact ((Below.refl _ _).alloc (Nat.le_refl _) _).alloc (by simp) _
 have A0:QaL W0 w.heap.size a u:=by rw [<- hW0];exact Qgg (Qfo w _ _ _) ((ZZb _ _).alloc (ZZa _) _)
 have B0:QaL W0 (w.heap.size+1) b v:=by
  rw [<- hW0]
  simpa using Qfo (w.alloc (Obj.cells #[.int .i64 a,.int .u64 u] 199)) 199 b v
 have hsz0:W0.heap.size=w.heap.size+2:=by rw [<- hW0];simp
 clear hW0;have HT0:=Qaa T0;have hC:∀ W,Below W0.heap.size W0 W->QaL W w.heap.size a u/\QaL W (w.heap.size+1) b v:=fun W hW=>⟨Qgg A0 hW,Qgg B0 hW⟩;have HC:=Qaa hC;clear T0 hC;have hS0:∀ o,QaL (W0.alloc o).drew w.heap.size a u/\QaL (W0.alloc o).drew (w.heap.size+1) b v:=fun o=>HC.out _ (((ZZb _ _).alloc (ZZa _) o).drew)
 go_region_held3 (fun W=>QaL W w.heap.size a u/\QaL W (w.heap.size+1) b v)
  (first | exact hS0 _ | (trace_state;fail))
  (first | (go_at_call 86;refine (QaH _ _ hu hv _).mono ?_;rintro e w1 ⟨rfl,rfl⟩))
 go_wp2;have rb:=Qfo W0 199 a (QaA u v);rw [hsz0] at rb;obtain ⟨r0,r1⟩:=rb;have r0':((W0.alloc (Obj.cells #[.int .i64 a,.int .u64 (QaA u v)] 199)).drew).cell? ⟨w.heap.size+1+1,0,none⟩=some (.int .i64 a):=r0;have r1':((W0.alloc (Obj.cells #[.int .i64 a,.int .u64 (QaA u v)] 199)).drew).cell? ⟨w.heap.size+1+1,1,none⟩=some (.int .u64 (QaA u v)):=r1;exact bodyPost_ret (v:=.agg #[.int .i64 a,.int .u64 (QaA u v)]) (by simp [results,Tryz.results296,go_sem,r0',r1']) rfl ⟨rfl,(HT0.out.alloc HT0.out.size _).drew⟩
abbrev fnPl:Value:=.func (.func 295) #[] #[]
abbrev Qqj:Value:=.func (.func 296) #[] #[]
abbrev QhM (w:World) (g:Nat):Prop:=w.cell? ⟨g,1,none⟩=some fnPl/\w.cell? ⟨g,2,none⟩=some Qqj
theorem QcS {w w':World} {g:Nat} (h:QhM w g) (hb:Below w.heap.size w w'):QhM w' g:=⟨Qab hb h.1,Qab hb h.2⟩
def Qjf (a p:Int):Int:=if a<p then -1 else if p<a then 1 else 0
theorem Qf2 (g:Nat) (a u p:Int) (w:World) (hG:QhM w g) :
  Calls Tryz.prog 300 #[.pointer (some ⟨g,0,none⟩),.agg #[.int .i64 a,.int .u64 u],.int .i64 p] w fun e w'=>e=.returned (.int .i64 (Qjf a p))/\Below w.heap.size w w':=by
 go_enter Tryz.func300,Tryz.ntmps300;go_wp2_with fail;generalize hW0:w.alloc (Obj.cells #[.int .i64 a,.int .u64 u] 199)=W0;have T0:Below w.heap.size w W0:=by rw [<- hW0];exact (ZZb _ _).alloc (ZZa _) _
 have A0:QaL W0 w.heap.size a u:=by rw [<- hW0];exact Qfo w _ _ _
 have G0:QhM W0 g:=QcS hG T0;clear hW0;have HT0:=Qaa T0;have hC:∀ W,Below W0.heap.size W0 W->QaL W w.heap.size a u/\QhM W g:=fun W hW=>⟨Qgg A0 hW,QcS G0 hW⟩;have HC:=Qaa hC;clear T0 hC A0 G0 hG
 go_region_held3 (fun W=>Qd0 W0.heap.size W0 W/\QaL W w.heap.size a u/\QhM W g)
  (first | exact hS3 | exact ⟨held (Below.refl _ _).drew (by simp),HC.out _ (Below.refl _ _).drew⟩)
  (first
   | (go_at_call 295;have hS:=(‹Qd0 _ _ _/\_›).1;refine (Qj3 _ _ _).mono ?_;rintro e w6 ⟨rfl,hb6⟩;have hS1:=(Qbc hb6 hS).1;have hS3:Qd0 W0.heap.size W0 w6/\_:=⟨held hS1 (ZZa _),HC.out _ hS1⟩;clear hb6 hS1))
 have HT6:=Qaa (Qad HT0.out hS3.1.1);have hC6:∀ W,Below w6.heap.size w6 W->QaL W w.heap.size a u/\QhM W g:=fun W hW=>HC.out W (Qad hS3.1.1 hW);have HC6:=Qaa hC6;clear hS3 hC6 HC;by_cases h1:a<p
 ·have HE:Hid (-1=Qjf a p):=(if_pos h1).symm
  go_wp2;go_ret;exact ⟨QjF HE.out,HT6.out⟩
 ·have d1:decide (a<p)=false:=ZZg h1
  go_wp2_with fail
  go_region_held3 (fun W=>Qd0 w6.heap.size w6 W/\QaL W w.heap.size a u/\QhM W g)
   (first | exact hS3 | exact ⟨held (Below.refl _ _).drew (by simp),HC6.out _ (Below.refl _ _).drew⟩)
   (first
    | (go_at_call 295;have hS:=(‹Qd0 _ _ _/\_›).1;refine (Qj3 _ _ _).mono ?_;rintro e w7 ⟨rfl,hb6⟩;have hS1:=(Qbc hb6 hS).1;have hS3:Qd0 w6.heap.size w6 w7/\_:=⟨held hS1 (ZZa _),HC6.out _ hS1⟩;clear hb6 hS1))
  have HT7:=Qaa (Qad HT6.out hS3.1.1);clear hS3;by_cases h2:p<a
  ·have HE:Hid (1=Qjf a p):=(by rw [Qjf,if_neg (by omega),if_pos h2]:1=Qjf a p)
   go_wp2;go_ret;exact ⟨QjF HE.out,HT7.out⟩
  ·have HE:Hid (0=Qjf a p):=(by rw [Qjf,if_neg (by omega),if_neg (by omega)]:0=Qjf a p)
   go_wp2;go_ret;exact ⟨QjF HE.out,HT7.out⟩
def QjX (L:List Bn) (p:Int) (i:Nat):Prop:=i<=L.length/\(∀ (t:Nat) (x:Bn),L[t]?=some x->t<i->x.1<p)/\(∀ (t:Nat) (x:Bn),L[t]?=some x->i<=t->p<=x.1)
def Qc9 (L:List Bn):Prop:=∀ (i j:Nat) (x y:Bn),L[i]?=some x->L[j]?=some y->i<j->x.1<y.1
theorem QoB {w:World} {B n g:Nat} {v:Value} {L:List Bn} (p:Int) (hn:n=L.length) (hl:n<=1000) (hL:Qc9 L) (hO:w.ownsRow B 199 2 v n (fl QaK L)) (hG:QhM w g) :
  Calls Tryz.prog 299 #[v,.int .i64 p,.func (.func 300) #[.pointer (some ⟨g,0,none⟩)] #[]] w fun e w'=>∃ (i:Nat) (f:Bool),e=.returned (.tuple #[.int .i64 i,.bool f])/\QjX L p i/\(f=true↔∃ x,L[i]?=some x/\x.1=p)/\Below w.heap.size w w':=by
 obtain ⟨ao,c,rfl⟩:=Qam hO;have HO:=Qaa hO;have HN:=Qaa hn;have HL:=Qaa hL;have HG:=Qaa hG;clear hO hn hL hG;go_enter Tryz.func299,Tryz.ntmps299;go_wp2
 go_loopw [9,10] (fun i j wr=>Below w.heap.size w wr/\∃ (s t:Nat),s<=t/\t<=n/\i=.int .i64 s/\j=.int .i64 t/\Hid (∀ q x,L[q]?=some x->q<s->x.1<p)/\Hid (∀ q x,L[q]?=some x->t<=q->p<=x.1)) (fun i j wr=>(Go.RowKit.intOf j).toNat - (Go.RowKit.intOf i).toNat)
 case atStart=>exact ⟨ZZb _ _,0,n,ZZj _,ZZa _,rfl,rfl,(fun q x h k=>absurd k (by omega):∀ q x,L[q]?=some x->q<0->x.1<p),(fun q x h k=>absurd (ZZd.1 h).1 (by have:=HN.out;omega):∀ q x,L[q]?=some x->n<=q->p<=x.1)⟩
 case round=>
  obtain ⟨hbel,s,t,hst,htn,rfl,rfl,H1,H2⟩:=hrel;have HB:=Qaa hbel;by_cases hlt:s<t
  ·obtain ⟨m,hm⟩:∃ m:Nat,(s+t) / 2=m:=⟨_,rfl⟩
   obtain ⟨⟨a,u⟩,hRk⟩:∃ a,L[m]?=some a:=⟨L[m]'(by have:=HN.out;omega),ZZe _⟩;obtain ⟨g0,cc,e,hc0,hc1,_,_,_⟩:=Qjh (QaP HO.out hbel) HN.out hRk
   cases e
   have hG7:=QcS HG.out hbel;have hms:s<=m/\m<t:=by omega
   have HR:=Qaa hRk;clear hbel hRk;have e1:((s:Int)+(t:Int)) / 2=(m:Int):=by omega
   clear hm;by_cases hap:a<p
   ·have d1:Qjf a p=-1:=if_pos hap
    have HX:Hid (∀ q x,L[q]?=some x->q<m+1->x.1<p):=(fun q x h k=>by
     by_cases e:q=m
     ·subst e;rw [HR.out] at h;obtain rfl:=Option.some.inj h;exact hap
     ·have:=HL.out q m x _ h HR.out (by omega);have:x.1<a:=this;omega:∀ q x,L[q]?=some x->q<m+1->x.1<p)
    go_wp2_with (go_at_call 300;refine (Qf2 _ _ _ _ _ hG7).mono ?_;rintro e w1 ⟨rfl,hb1⟩;rw [d1];have HB1:=Qaa hb1;clear hb1);go_roundw
    case rel=>exact ⟨Qad HB.out HB1.out,m+1,t,by omega,by omega,by go_num,rfl,HX,H2⟩
    case measure=>simp [Go.RowKit.intOf];omega
   ·have hd1:¬ Qjf a p<0:=by unfold Qjf;rw [if_neg hap];split <;> omega
    have HX:Hid (∀ q x,L[q]?=some x->m<=q->p<=x.1):=(fun q x h k=>by
     by_cases e:q=m
     ·subst e;rw [HR.out] at h;obtain rfl:=Option.some.inj h;show p<=a;omega
     ·have:=HL.out m q _ x HR.out h (by omega);have:a<x.1:=this;omega:∀ q x,L[q]?=some x->m<=q->p<=x.1)
    go_wp2_with (go_at_call 300;refine (Qf2 _ _ _ _ _ hG7).mono ?_;rintro e w1 ⟨rfl,hb1⟩;have HB1:=Qaa hb1;clear hb1);go_roundw
    case rel=>exact ⟨Qad HB.out HB1.out,s,m,by omega,by omega,rfl,rfl,H1,HX⟩
    case measure=>simp [Go.RowKit.intOf];omega
  ·have est:s=t:=by omega
   subst est;have HP:Hid (QjX L p s):=(⟨by have:=HN.out;omega,fun q x h k=>H1.out q x h k,fun q x h k=>H2.out q x h k⟩:QjX L p s);by_cases hsn:s<n
   ·obtain ⟨⟨a,u⟩,hRk⟩:∃ a,L[s]?=some a:=⟨L[s]'(by have:=HN.out;omega),ZZe _⟩
    obtain ⟨g0,cc,e,hc0,hc1,_,_,_⟩:=Qjh (QaP HO.out hbel) HN.out hRk
    cases e
    have hG7:=QcS HG.out hbel;have hpa:=H2.out s _ hRk (ZZa _);have HR:=Qaa hRk;clear hbel hRk;simp only at hpa
    have HF:Hid ((Qjf a p == 0)=true↔∃ x,L[s]?=some x/\x.1=p):=by
     refine (?_:(Qjf a p == 0)=true↔∃ x,L[s]?=some x/\x.1=p);rw [HR.out];constructor
     ·intro h
      refine ⟨_,rfl,?_⟩
      show a=p
      unfold Qjf at h;rw [if_neg (by omega)] at h
      split at h
      ·simp at h
      ·omega
     ·rintro ⟨x,h,hx⟩
      obtain rfl:=Option.some.inj h;have:a=p:=hx;unfold Qjf;rw [if_neg (by omega),if_neg (by omega)];rfl
    go_wp2_with (go_at_call 300;refine (Qf2 _ _ _ _ _ hG7).mono ?_;rintro e w1 ⟨rfl,hb1⟩;have HB1:=Qaa hb1;clear hb1);go_ret2;exact ⟨s,_,rfl,HP.out,HF.out,Qad HB.out HB1.out⟩
   ·have HF:Hid (false=true↔∃ x,L[s]?=some x/\x.1=p):=(⟨fun h=>(by cases h),fun ⟨x,h,_⟩=>absurd (ZZd.1 h).1 (by have:=HN.out;omega)⟩:false=true↔∃ x,L[s]?=some x/\x.1=p)
    clear hbel;go_wp2;go_ret2;exact ⟨s,_,rfl,HP.out,HF.out,HB.out⟩
theorem Qcw {P:Program} (w:World) (dT sT ty elem:TypeId) (b o dLen dCap:Nat) (a:Addr) (sLen sCap:Nat) (cs:List Value)
  (hu:P.underlying dT=some (.slice elem)) (hs:(P.info? elem).map (·.size)=some 2) (hn:cs.length=Nat.min sLen dLen*2)
  (hsrc:∀ j v,cs[j]?=some v->w.cell? (a.add j)=some v) (hc:∀ j,j<cs.length->(w.cell? ⟨b,o+j,none⟩).isSome=true) (hf:∀ j,j<cs.length->w.frozen? ⟨b,o+j,none⟩=false) (h1:∀ v∈cs,v.oneCell'=true) :
  (Builtin.copy_ #[dT,sT] ty #[.slice (some ⟨b,o,none⟩) dLen dCap,.slice (some a) sLen sCap]).run P w=.ok (goInt (Nat.min sLen dLen)) (w.setCells b o cs):=by
 have hl:=run_loadCells_list (P:=P) w a cs hsrc;have hst:=run_storeCells_cells (P:=P) b o cs 0 w (by simpa using hc) (by simpa using hf) h1
 cases hq:P.info? elem with
 | none=>simp [hq] at hs
 | some i=>
  have hi:i.size=2:=by simpa [hq] using hs
  simp [Builtin.copy_,run_underlying hu,Builtin.lenOf,Builtin.firstCells,sizeOf,typeInfo,hq,hi,<- hn,hl,hst]
theorem QbD {g:Nat} {e:TypeId}:∀ (vs:List Value) (o:Nat) (w:World) (cur:Array Value),w.heap[g]?=some (.cells cur e (0,0))->∃ cur':Array Value,(w.setCells g o vs).heap[g]?=some (.cells cur' e (0,0))/\cur'.size=cur.size/\∀ j,cur'[j]?=if o<=j/\j<o+vs.length/\j<cur.size then vs[j - o]? else cur[j]?
 | [],o,w,cur,h=>⟨cur,h,rfl,fun j=>by rw [if_neg (by simp;omega)]⟩
 | v :: r,o,w,cur,h=>by
  have h1:(w.setCell ⟨g,o,none⟩ v).heap[g]?=some (.cells (cur.setIfInBounds o v) e (0,0)):=ZZl w g o _ _ v h;obtain ⟨cur',h2,h3,h4⟩:=QbD r (o+1) _ _ h1;refine ⟨cur',h2,by rw [h3];simp,fun j=>?_⟩;rw [h4 j];simp only [Array.size_setIfInBounds,List.length_cons];by_cases hj:j<cur.size
  ·by_cases e1:j=o
   ·subst e1
    rw [if_neg (by omega),if_pos (by omega)];simp [hj]
   ·by_cases e2:o+1<=j/\j<o+1+r.length
    ·rw [if_pos (by omega),if_pos (by omega),show j - o=(j - (o+1))+1 by omega];simp
    ·rw [if_neg (by omega),if_neg (by omega)]
     simp [Array.getElem?_setIfInBounds,Ne.symm e1]
  ·rw [if_neg (by omega),if_neg (by omega)]
   rw [Array.getElem?_eq_none (by simp;omega),Array.getElem?_eq_none (by omega)]
theorem Qbs (g:Nat):∀ (vs:List Value) (o:Nat) (w:World),w.grownBy (w.setCells g o vs) (some g)
 | [],o,w=>World.grownBy.refl _ _
 | v :: r,o,w=>(QaX w g o v).trans (Qbs g r (o+1) _)
def QeH (L:List Bn) (i:Nat) (x:Bn):List Bn:=L.take i ++ x :: L.drop i
theorem Qgi (L:List Bn) (i:Nat) (x:Bn) (h:i<=L.length):(QeH L i x).length=L.length+1:=by simp [QeH];omega
theorem Qon (L:List Bn) (i:Nat) (x:Bn):fl QaK (QeH L i x)=fl QaK (L.take i) ++ (QaK x ++ fl QaK (L.drop i)):=by
 rw [QeH,QmP,Qcf]
theorem QmL {α:Type} {e:α->List Value} (he:∀ x,(e x).length=2):∀ (L:List α) (i:Nat),fl e (L.take i)=(fl e L).take (i*2)
 | [],i=>by simp [fl]
 | x :: L,0=>by simp [fl]
 | x :: L,i+1=>by
  rw [List.take_succ_cons,Qcf,Qcf,QmL he L i,List.take_append,he,show List.take ((i+1)*2) (e x)=e x from List.take_of_length_le (by rw [he];omega),show (i+1)*2 - 2=i*2 by omega]
theorem QhI {α:Type} {e:α->List Value} (he:∀ x,(e x).length=2):∀ (L:List α) (i:Nat),fl e (L.drop i)=(fl e L).drop (i*2)
 | [],i=>by simp [fl]
 | x :: L,0=>by simp [fl]
 | x :: L,i+1=>by
  rw [List.drop_succ_cons,Qcf,QhI he L i,List.drop_append,he,show List.drop ((i+1)*2) (e x)=[] from List.drop_of_length_le (by rw [he];omega),show (i+1)*2 - 2=i*2 by omega];rfl
theorem QiT {L:List Bn} {i n cap:Nat} {x:Bn} {c1:Array Value} (hn:n=L.length) (hi:i<=n) (hcap:n+1<=cap) (hsz:c1.size=cap*2)
  (h:∀ j,j<(n+1)*2->c1[j]?=if j<i*2 then (fl QaK L)[j]? else if j<i*2+2 then (QaK x)[j - i*2]? else (fl QaK L)[j - 2]?) :
  c1.toList.take ((n+1)*2)=fl QaK (QeH L i x):=by
 have hl:=Qcv Qbl L;refine List.ext_getElem? fun j=>?_;by_cases hj:j<(n+1)*2
 ·rw [List.getElem?_take,if_pos hj,Array.getElem?_toList,h j hj,Qon,QmL Qbl,QhI Qbl]
  have ht:((fl QaK L).take (i*2)).length=i*2:=by rw [List.length_take];omega
  split
  ·rename_i h1;rw [List.getElem?_append_left (by omega),List.getElem?_take,if_pos h1]
  ·rename_i h1
   rw [List.getElem?_append_right (by omega),ht]
   split
   ·rename_i h2;rw [List.getElem?_append_left (by rw [Qbl];omega)]
   ·rename_i h2;rw [List.getElem?_append_right (by rw [Qbl];omega),Qbl,List.getElem?_drop,show i*2+(j - i*2 - 2)=j - 2 by omega]
 ·rw [List.getElem?_eq_none (by rw [List.length_take];omega),List.getElem?_eq_none (by rw [Qcv Qbl,Qgi _ _ _ (by omega)];omega)]
theorem Qfh (L:List Bn) (k:Nat):∀ u∈(fl QaK L).drop k,u.oneCell'=true:=fun u hu=>Qfe L u (ZZp hu)
theorem QpG {w:World} {B n vb:Nat} {v:Value} {L:List Bn} {a u:Int} (hn:n=L.length) (hl:n<=1000) (hO:w.ownsRow B 199 2 v n (fl QaK L)) (hB:B<=w.heap.size)
  (hv:w.heap[vb]?=some (.cells #[.int .i64 a,.int .u64 u] 199 (0,0))) :
  Calls Tryz.prog 301 #[v,.int .i64 n,.slice (some ⟨vb,0,none⟩) 1 1] w fun e w'=>∃ v',e=.returned v'/\w'.ownsRow B 199 2 v' (n+1) (fl QaK (QeH L n (a,u)))/\w.grownBy w' v.ownBlock:=by
 obtain ⟨i0,hi,hz0,hz1,hz2⟩:=info_parts Qf5
 have hc:∀ j q,(QaK (a,u))[j]?=some q->w.cell? ((⟨vb,0,none⟩:Addr).add j)=some q:=fun j q hj=>by
  rw [Addr.add_lit,Nat.zero_add,cell_of_row w vb j _ _ (0,0) hv];simpa [QaK] using hj
 have HE:Hid (fl QaK L ++ QaK (a,u)=fl QaK (QeH L n (a,u))):=by
  refine (?_:fl QaK L ++ QaK (a,u)=fl QaK (QeH L n (a,u)));rw [QeH,hn,List.take_length,List.drop_length,QmP,QpB]
 have HC:=Qaa hc;have HO:=Qaa hO;obtain ⟨ao,c,rfl⟩:=Qam hO;rcases hO.2 with ⟨e,e0⟩ | ⟨g,cap,cur,e,h1,h2,h3,h4,h5,h6⟩
 ·cases e
  have HNn:=Qaa hn;clear hO hc hv e0 hn;go_enter Tryz.func301,Tryz.ntmps301;go_wp2_with (at_builtin;refine wpList_append_own _ rfl (.tmp 23) (.tmp 24) 41 rfl B 199 i0 (.agg #[.int .i64 0,.int .u64 0]) 2 16 Tryz.underlying41 hi hz0 hz1 hz2 rfl (by decide) _ _ _ rfl HO.out ⟨vb,0,none⟩ 1 1 (QaK (a,u)) rfl rfl HC.out (QbP _) (by unfold maxLen;omega) (by omega) hB ?_;intro v1 w1 hown1 hgrow1 hnil1;have O1:=Qaa hown1;have G1:=Qaa hgrow1;clear hown1 hgrow1 hnil1);go_ret;exact ⟨v1,rfl,by rw [<- HE.out];exact O1.out,G1.out⟩
 ·cases e
  have HNn:=Qaa hn;clear hO hc hv h2 h6 hn;go_enter Tryz.func301,Tryz.ntmps301;go_wp2_with (at_builtin;refine wpList_append_own _ rfl (.tmp 23) (.tmp 24) 41 rfl B 199 i0 (.agg #[.int .i64 0,.int .u64 0]) 2 16 Tryz.underlying41 hi hz0 hz1 hz2 rfl (by decide) _ _ _ rfl HO.out ⟨vb,0,none⟩ 1 1 (QaK (a,u)) rfl rfl HC.out (QbP _) (by unfold maxLen;omega) (by omega) hB ?_;intro v1 w1 hown1 hgrow1 hnil1;have O1:=Qaa hown1;have G1:=Qaa hgrow1;clear hown1 hgrow1 hnil1)
  all_goals
   go_ret;exact ⟨v1,rfl,by rw [<- HE.out];exact O1.out,G1.out⟩
theorem QlZ {w:World} {B n vb g c i:Nat} {L:List Bn} {a u:Int} (hn:n=L.length) (hl:n<=1000) (hin:i<n) (hroom:n+1<=c) (hO:w.ownsRow B 199 2 (.slice (some ⟨g,0,none⟩) n c) n (fl QaK L)) (hB:B<=w.heap.size) (hne:vb≠g)
  (hv:w.heap[vb]?=some (.cells #[.int .i64 a,.int .u64 u] 199 (0,0))) :
  Calls Tryz.prog 301 #[.slice (some ⟨g,0,none⟩) n c,.int .i64 i,.slice (some ⟨vb,0,none⟩) 1 1] w fun e w'=>∃ v',e=.returned v'/\w'.ownsRow B 199 2 v' (n+1) (fl QaK (QeH L i (a,u)))/\w.grownBy w' (some g):=by
 rcases hO.2 with ⟨e,_⟩ | ⟨g',cap,cur,e,h1,h2,h3,h4,h5,h6⟩
 ·cases e
 cases e
 have hlen:=Qcv Qbl L;have hc63:c<=9223372036854775807:=h4;have hsz:(Tryz.prog.info? 199).map (·.size)=some 2:=by kernel_rfl
 have hcur:∀ j,w.cell? ⟨g,j,none⟩=cur[j]?:=fun j=>cell_of_row w g j _ _ (0,0) h2;have hfz:∀ j,w.frozen? ⟨g,j,none⟩=false:=fun j=>frozen_of_row w g j _ _ h2
 have hcs:∀ j q,(fl QaK L)[j]?=some q->cur[j]?=some q:=fun j q hq=>by
  rw [<- h6,List.getElem?_take] at hq
  split at hq
  ·rwa [Array.getElem?_toList] at hq
  ·cases hq
 have hsa:w.shape? vb=some (199,2):=by simp [World.shape?,hv]
 have hsb:w.shape? g=some (199,c*2):=by simp [World.shape?,h2,h5]
 have hov:∀ lb cb,(callFunc 302 #[.slice (some ⟨vb,0,none⟩) 1 1,.slice (some ⟨g,(i+1)*2,none⟩) lb cb]).run Tryz.prog w=.ok (.value (.bool false)) w:=fun lb cb=>by
  rw [run_callFunc_extern Tryz.func302 (by kernel_rfl) (by kernel_rfl) (by kernel_rfl) (e:=Extern.SlicesOverlaps.overlaps #[41,41] #[4]) (by kernel_rfl),
   Lib.run_overlaps_apart w 41 4 199 Tryz.underlying41 2 Tryz.sizeOf199 ⟨vb,0,none⟩ ⟨g,(i+1)*2,none⟩ 1 1 lb cb hne 199 199 2 (c*2) hsa hsb (by omega) (frozen_of_row w vb 0 _ _ hv) (frozen_of_row w vb 2 _ _ hv)]
  rfl
 have hzb2:¬ (c=i+1):=by omega
 have hzb4:¬ (c=i):=by omega
 have hdl:((fl QaK L).drop (i*2)).length=(n - i)*2:=by rw [List.length_drop,hlen];omega
 have hcp1:∀ ty dc sc,(Builtin.copy_ #[41,41] ty #[.slice (some ⟨g,(i+1)*2,none⟩) (n - i) dc,.slice (some ⟨g,i*2,none⟩) (n+1 - i) sc]).run Tryz.prog w.drew=.ok (goInt (Nat.min (n+1 - i) (n - i))) (w.drew.setCells g ((i+1)*2) ((fl QaK L).drop (i*2))):=fun ty dc sc=>
  Qcw w.drew _ _ ty 199 g ((i+1)*2) (n - i) dc ⟨g,i*2,none⟩ (n+1 - i) sc ((fl QaK L).drop (i*2)) Tryz.underlying41 hsz (by rw [hdl];simp only [Nat.min_def];split <;> omega)
   (fun q x hq=>by rw [Addr.add_lit];exact (hcur _).trans (hcs (i*2+q) x (by rwa [List.getElem?_drop] at hq)))
   (fun q hq=>by have:w.drew.cell? ⟨g,(i+1)*2+q,none⟩=cur[(i+1)*2+q]?:=hcur _;rw [this,Array.getElem?_eq_getElem (by omega)];rfl) (fun q hq=>hfz _) (Qfh L _)
 obtain ⟨W1,hW1⟩:∃ W1,W1=w.drew.setCells g ((i+1)*2) ((fl QaK L).drop (i*2)):=⟨_,rfl⟩;obtain ⟨c1,k1,k2,k3⟩:=QbD (e:=199) ((fl QaK L).drop (i*2)) ((i+1)*2) w.drew cur h2;have g1:=Qbs g ((fl QaK L).drop (i*2)) ((i+1)*2) w.drew;rw [<- hW1] at k1 hcp1 g1;have hv1:W1.heap[vb]?=some (.cells #[.int .i64 a,.int .u64 u] 199 (0,0)):=by rw [g1.block vb (Array.getElem?_eq_some_iff.1 hv).1 (fun e=>hne (Option.some.inj e))];exact hv
 have hcp2:∀ (W:World),(∀ x,W.cell? x=W1.cell? x)->(∀ x,W.frozen? x=W1.frozen? x)->∀ ty dc,(Builtin.copy_ #[41,41] ty #[.slice (some ⟨g,i*2,none⟩) (n+1 - i) dc,.slice (some ⟨vb,0,none⟩) 1 1]).run Tryz.prog W=.ok (goInt (Nat.min 1 (n+1 - i))) (W.setCells g (i*2) (QaK (a,u))):=fun W hWc hWf ty dc=>
  Qcw W _ _ ty 199 g (i*2) (n+1 - i) dc ⟨vb,0,none⟩ 1 1 (QaK (a,u)) Tryz.underlying41 hsz (by rw [Qbl];simp only [Nat.min_def];split <;> omega)
   (fun q x hq=>by rw [Addr.add_lit,Nat.zero_add,hWc,cell_of_row W1 vb q _ _ (0,0) hv1];simpa [QaK] using hq)
   (fun q hq=>by rw [hWc,cell_of_row W1 g _ _ _ (0,0) k1,Array.getElem?_eq_getElem (by rw [Qbl] at hq;omega)];rfl)
   (fun q hq=>by rw [hWf];exact frozen_of_row W1 g _ _ _ k1) (QbP _)
 obtain ⟨c2,m1,m2,m3⟩:=QbD (e:=199) (QaK (a,u)) (i*2) W1 c1 k1;have g2:=Qbs g (QaK (a,u)) (i*2) W1
 have fin:((W1.setCells g (i*2) (QaK (a,u))).ownsRow B 199 2 (.slice (some ⟨g,0,none⟩) (n+1) c) (n+1) (fl QaK (QeH L i (a,u)))/\w.grownBy (W1.setCells g (i*2) (QaK (a,u))) (some g)):=by
  refine ⟨⟨?_,.inr ⟨g,c,c2,rfl,h1,m1,hroom,h4,by omega,?_⟩⟩,?_⟩
  ·rw [Qcv Qbl,Qgi _ _ _ (by omega),hn]
  ·refine QiT hn (by omega) hroom (by omega) (fun j hj=>?_)
   rw [m3 j];have e2:(QaK (a,u)).length=2:=rfl;by_cases q1:j<i*2
   ·rw [if_neg (by omega),if_pos q1,k3 j,if_neg (by omega)]
    obtain ⟨x,hx⟩:∃ x,(fl QaK L)[j]?=some x:=⟨_,ZZe (by omega)⟩;rw [hx];exact hcs j x hx
   ·by_cases q2:j<i*2+2
    ·rw [if_pos (by omega),if_neg q1,if_pos q2]
    ·rw [if_neg (by omega),if_neg q1,if_neg q2,k3 j,if_pos (by omega),List.getElem?_drop,show i*2+(j - (i+1)*2)=j - 2 by omega]
  ·exact World.grownBy.trans ⟨g1.os,g1.tape,g1.output,g1.size,g1.block⟩ g2
 have FIN:=Qaa fin;have hw1:IntKind.i64.wrap ((i:Int)+1)=(i:Int)+1:=by rw [IntKind.wrap_i64];omega
 have hb1:(0:Int)<=(i:Int)+1:=by omega
 have htn:((i:Int)+1).toNat=i+1:=by omega
 have hb3:(i:Int)<=(n:Int):=by omega
 have hb5:(i:Int)<=(n:Int)+1:=by omega
 have mixed:Tryz.prog.follows Departure.mixedOrders=true:=by kernel_rfl
 clear fin;have HW1:=Qaa hW1;have hni:((i:Int) == (n:Int))=false:=ZZf.2 (by omega);clear hn hO hB hv h6 h1 h2 h3 h5 hlen hcur hfz hcs hsa hsb hdl k1 k2 k3 g1 hv1 m1 m2 m3 g2 hW1 h4;go_enter Tryz.func301,Tryz.ntmps301;go_wp2_with (simp only [hov])
 go_region_law_o (refine step_copy_runI rfl _ _ 41 41 rfl _ _ (by simp [Act.eval,Act.put]) (by simp [Act.eval,Act.put]) (hcp1 _ _ _) ?_)
 go_wp2_with (at_builtin;refine wpList_copy_runI _ rfl _ _ 41 41 rfl _ _ rfl rfl (hcp2 _ (fun _=>rfl) (fun _=>rfl) _ _) ?_);go_ret;exact ⟨_,rfl,FIN.out⟩
theorem QnV {w:World} {B n vb g c i:Nat} {L:List Bn} {a u:Int} (hn:n=L.length) (hl:n<=1000) (hin:i<n) (hroom:c<n+1) (hO:w.ownsRow B 199 2 (.slice (some ⟨g,0,none⟩) n c) n (fl QaK L)) (hB:B<=w.heap.size)
  (hv:w.heap[vb]?=some (.cells #[.int .i64 a,.int .u64 u] 199 (0,0))) :
  Calls Tryz.prog 301 #[.slice (some ⟨g,0,none⟩) n c,.int .i64 i,.slice (some ⟨vb,0,none⟩) 1 1] w fun e w'=>∃ v',e=.returned v'/\w'.ownsRow B 199 2 v' (n+1) (fl QaK (QeH L i (a,u)))/\w.grownBy w' (some g):=by
 obtain ⟨i0,hi0,hz0,hzs,hzb⟩:=info_parts Qf5;rcases hO.2 with ⟨e,_⟩ | ⟨g',cap,cur,e,h1,h2,h3,h4,h5,h6⟩
 ·cases e
 cases e
 have hlen:=Qcv Qbl L;have hsz:(Tryz.prog.info? 199).map (·.size)=some 2:=by kernel_rfl
 have hcur:∀ j,w.cell? ⟨g,j,none⟩=cur[j]?:=fun j=>cell_of_row w g j _ _ (0,0) h2
 have hcs:∀ j q,(fl QaK L)[j]?=some q->w.cell? ⟨g,j,none⟩=some q:=fun j q hq=>by
  rw [hcur];rw [<- h6,List.getElem?_take] at hq
  split at hq
  ·rwa [Array.getElem?_toList] at hq
  ·cases hq
 have hgw:g<w.heap.size:=(ZZc.1 h2).1;have hvw:vb<w.heap.size:=(ZZc.1 hv).1;have hkk:(n:Int)+1 - (i:Int)=((n+1 - i:Nat):Int):=by omega
 have hik:i+(n+1 - i)=n+1:=by omega
 have htl:((fl QaK L).take (i*2)).length=i*2:=by rw [List.length_take];omega
 have hold:(Builtin.firstCells i0.size i (.slice (some ⟨g,0,none⟩) i c)).run Tryz.prog w.drew=.ok ((fl QaK L).take (i*2)).toArray w.drew:=by
  rw [hzs]
  exact run_firstCells_some w.drew 2 i ⟨g,0,none⟩ i c ((fl QaK L).take (i*2)) htl (fun j v hj=>by
   rw [Addr.add_lit,Nat.zero_add];rw [List.getElem?_take] at hj
   split at hj
   ·exact hcs j v hj
   ·cases hj)
 obtain ⟨G,hG⟩:∃ G,G=grownCap w (n+1) c 199:=⟨_,rfl⟩;obtain ⟨ROW,hROW⟩:∃ ROW:Array Value,ROW=((fl QaK L).take (i*2)).toArray ++ Builtin.zeroCells (Value.agg #[.int .i64 0,.int .u64 0]).cells (n+1 - i) ++ Builtin.zeroCells (Value.agg #[.int .i64 0,.int .u64 0]).cells (G - (n+1)):=⟨_,rfl⟩
 have hrz:∀ ty,(Builtin.append_ #[41,3] ty #[.slice (some ⟨g,0,none⟩) i c,.int .i64 ((n:Int)+1 - (i:Int))]).run Tryz.prog w=.ok (.slice (some ⟨w.heap.size,0,none⟩) (n+1) G) (w.drew.alloc (.cells ROW 199)):=fun ty=>by
  have h:=Lib.run_append_grow_zeros w 41 3 ty 199 i0 _ .i64 .i64 Tryz.underlying41 Tryz.underlying3 hi0 hz0 (some ⟨g,0,none⟩) i c ((fl QaK L).take (i*2)) hold (n+1 - i) (by omega) (by omega) (by omega) (by omega) (by rw [hzb];omega) (by rw [hzb,hik];exact growslice_fits hroom (by omega));rw [hik] at h;rw [hkk,hROW,hG];exact h
 have hGn:n+1<=G:=by rw [hG];exact grownCap_ge w _ _ _
 have hGm:G<=maxLen:=by rw [hG];exact grownCap_le_maxLen w (n+1) c 199 (by unfold maxLen;omega)
 have hG63:G<=9223372036854775807:=hGm
 have hRl:ROW.size=G*2:=by
  rw [hROW];simp only [Array.size_append,List.size_toArray,htl,size_zeroCells];have e:(Value.agg #[.int .i64 0,.int .u64 0]).cells.size=2:=rfl;rw [e];omega
 have hR0:∀ j,j<i*2->ROW[j]?=(fl QaK L)[j]?:=fun j hj=>by
  rw [hROW,Array.append_assoc,Array.getElem?_append_left (by simp [htl,hj]),List.getElem?_toArray,List.getElem?_take,if_pos hj]
 obtain ⟨W1,hW1⟩:∃ W1,W1=w.drew.alloc (.cells ROW 199):=⟨_,rfl⟩;have hr1:W1.heap[w.heap.size]?=some (.cells ROW 199 (0,0)):=by rw [hW1];exact ZZk w.drew _
 have hb1:Below w.heap.size w W1:=by rw [hW1];exact ((ZZb w.heap.size w).drew).alloc (ZZa _) _
 have hv1:W1.heap[vb]?=some (.cells #[.int .i64 a,.int .u64 u] 199 (0,0)):=by rw [hb1.block vb hvw];exact hv
 have hcpA:∀ (W:World),(∀ x,W.cell? x=W1.cell? x)->(∀ x,W.frozen? x=W1.frozen? x)->∀ ty dc,(Builtin.copy_ #[41,41] ty #[.slice (some ⟨w.heap.size,i*2,none⟩) (n+1 - i) dc,.slice (some ⟨vb,0,none⟩) 1 1]).run Tryz.prog W=.ok (goInt (Nat.min 1 (n+1 - i))) (W.setCells w.heap.size (i*2) (QaK (a,u))):=fun W hWc hWf ty dc=>
  Qcw W _ _ ty 199 w.heap.size (i*2) (n+1 - i) dc ⟨vb,0,none⟩ 1 1 (QaK (a,u)) Tryz.underlying41 hsz (by rw [Qbl];simp only [Nat.min_def];split <;> omega)
   (fun q x hq=>by rw [Addr.add_lit,Nat.zero_add,hWc,cell_of_row W1 vb q _ _ (0,0) hv1];simpa [QaK] using hq)
   (fun q hq=>by rw [hWc,cell_of_row W1 w.heap.size _ _ _ (0,0) hr1,Array.getElem?_eq_getElem (by rw [Qbl] at hq;omega)];rfl)
   (fun q hq=>by rw [hWf];exact frozen_of_row W1 w.heap.size _ _ _ hr1) (QbP _)
 obtain ⟨c1,k1,k2,k3⟩:=QbD (e:=199) (QaK (a,u)) (i*2) W1 ROW hr1;obtain ⟨W2,hW2⟩:∃ W2,W2=W1.setCells w.heap.size (i*2) (QaK (a,u)):=⟨_,rfl⟩;have g1:=Qbs w.heap.size (QaK (a,u)) (i*2) W1;rw [<- hW2] at k1 g1
 have hcs2:∀ j q,(fl QaK L)[j]?=some q->W2.cell? ⟨g,j,none⟩=some q:=fun j q hq=>by
  have e1:W2.heap[g]?=some (.cells cur 199 (0,0)):=by rw [g1.block g (Nat.lt_of_lt_of_le hgw hb1.size) (fun e=>by have:=Option.some.inj e;omega),hb1.block g hgw];exact h2
  rw [cell_of_row W2 g j _ _ (0,0) e1,<- hcur];exact hcs j q hq
 have hdl:((fl QaK L).drop (i*2)).length=(n - i)*2:=by rw [List.length_drop,hlen];omega
 have hcpB:∀ (W:World),(∀ x,W.cell? x=W2.cell? x)->(∀ x,W.frozen? x=W2.frozen? x)->∀ ty dc sc,(Builtin.copy_ #[41,41] ty #[.slice (some ⟨w.heap.size,(i+1)*2,none⟩) (n - i) dc,.slice (some ⟨g,i*2,none⟩) (n - i) sc]).run Tryz.prog W=.ok (goInt (Nat.min (n - i) (n - i))) (W.setCells w.heap.size ((i+1)*2) ((fl QaK L).drop (i*2))):=fun W hWc hWf ty dc sc=>
  Qcw W _ _ ty 199 w.heap.size ((i+1)*2) (n - i) dc ⟨g,i*2,none⟩ (n - i) sc ((fl QaK L).drop (i*2)) Tryz.underlying41 hsz (by rw [hdl];simp only [Nat.min_def];split <;> omega)
   (fun q x hq=>by rw [Addr.add_lit,hWc];exact hcs2 (i*2+q) x (by rwa [List.getElem?_drop] at hq))
   (fun q hq=>by rw [hWc,cell_of_row W2 w.heap.size _ _ _ (0,0) k1,Array.getElem?_eq_getElem (by omega)];rfl)
   (fun q hq=>by rw [hWf];exact frozen_of_row W2 w.heap.size _ _ _ k1) (Qfh L _)
 obtain ⟨c2,m1,m2,m3⟩:=QbD (e:=199) ((fl QaK L).drop (i*2)) ((i+1)*2) W2 c1 k1;have g2:=Qbs w.heap.size ((fl QaK L).drop (i*2)) ((i+1)*2) W2
 have fin:((W2.setCells w.heap.size ((i+1)*2) ((fl QaK L).drop (i*2))).ownsRow B 199 2 (.slice (some ⟨w.heap.size,0,none⟩) (n+1) G) (n+1) (fl QaK (QeH L i (a,u)))/\w.grownBy (W2.setCells w.heap.size ((i+1)*2) ((fl QaK L).drop (i*2))) (some g)):=by
  refine ⟨⟨?_,.inr ⟨w.heap.size,G,c2,rfl,hB,m1,hGn,hGm,by omega,?_⟩⟩,?_⟩
  ·rw [Qcv Qbl,Qgi _ _ _ (by omega),hn]
  ·refine QiT hn (by omega) hGn (by omega) (fun j hj=>?_)
   rw [m3 j];have e2:(QaK (a,u)).length=2:=rfl;by_cases q1:j<i*2
   ·rw [if_neg (by omega),if_pos q1,k3 j,if_neg (by omega)];exact hR0 j q1
   ·by_cases q2:j<i*2+2
    ·rw [if_neg (by omega),if_neg q1,if_pos q2,k3 j,if_pos (by omega)]
    ·rw [if_pos (by omega),if_neg q1,if_neg q2,List.getElem?_drop,show i*2+(j - (i+1)*2)=j - 2 by omega]
  ·have hB2:Below w.heap.size w (W2.setCells w.heap.size ((i+1)*2) ((fl QaK L).drop (i*2))):=(hb1.grown g1 hb1.size (fun k e=>by cases e;exact ZZa _)).grown g2 (Nat.le_trans hb1.size g1.size) (fun k e=>by cases e;exact ZZa _)
   exact ⟨hB2.os,hB2.tape,hB2.output,hB2.size,fun k hk _=>hB2.block k hk⟩
 have FIN:=Qaa fin;have HW2:=Qaa hW2;have hw1:IntKind.i64.wrap ((i:Int)+1)=(i:Int)+1:=by rw [IntKind.wrap_i64];omega
 have hb0:(0:Int)<=(i:Int)+1:=by omega
 have htn:((i:Int)+1).toNat=i+1:=by omega
 have hb3:(i:Int)<=(n:Int):=by omega
 have hb5:(i:Int)<=(n:Int)+1:=by omega
 have hz3:(c:Int)<(n:Int)+1:=by omega
 have hGi:¬ (G=i):=by omega
 have hGim:¬ (G=i+1):=by omega
 have hci:¬ (c=i):=by omega
 have hic:i<=c:=by omega
 have mixed:Tryz.prog.follows Departure.mixedOrders=true:=by kernel_rfl
 have hni:((i:Int) == (n:Int))=false:=ZZf.2 (by omega);subst hW1;have hE1:∀ x,((w.alloc (.cells ROW 199)).drew).cell? x=(w.drew.alloc (.cells ROW 199)).cell? x:=fun x=>rfl;have hE2:∀ x,((w.alloc (.cells ROW 199)).drew).frozen? x=(w.drew.alloc (.cells ROW 199)).frozen? x:=fun x=>rfl;subst hW2;clear fin hn hO hB hv h6 h1 h2 h3 h4 h5 hlen hcur hcs hold hROW hG hRl hR0 hdl k1 k2 k3 g1 hv1 m1 m2 m3 g2 hr1 hb1 hcs2 hkk hik htl HW2;go_enter Tryz.func301,Tryz.ntmps301
 go_wp2_with (first
  | (at_builtin;refine Lib.wpList_append_run _ rfl _ _ _ _ rfl _ _ rfl rfl _ _ (hrz _) ?_)
  | (at_builtin;refine wpList_copy_runI _ rfl _ _ 41 41 rfl _ _ rfl rfl (hcpA _ hE1 hE2 _ _) ?_))
 have hF1:∀ x,(((w.alloc (.cells ROW 199)).drew.setCells w.heap.size (i*2) (QaK (a,u))).drew).cell? x=((w.drew.alloc (.cells ROW 199)).setCells w.heap.size (i*2) (QaK (a,u))).cell? x:=fun x=>rfl;have hF2:∀ x,(((w.alloc (.cells ROW 199)).drew.setCells w.heap.size (i*2) (QaK (a,u))).drew).frozen? x=((w.drew.alloc (.cells ROW 199)).setCells w.heap.size (i*2) (QaK (a,u))).frozen? x:=fun x=>rfl
 go_region_law_o (refine step_copy_runI rfl _ _ 41 41 rfl (.slice (some ⟨w.heap.size,(i+1)*2,none⟩) (n - i) (G - (i+1))) (.slice (some ⟨g,i*2,none⟩) (n - i) (c - i)) (by simp [Act.eval,Act.put]) (by simp [Act.eval,Act.put]) (hcpB _ hF1 hF2 3 (G - (i+1)) (c - i)) ?_)
 go_wp2;go_ret;refine ⟨_,rfl,?_⟩;rw [<- drew_setCells];exact ⟨FIN.out.1,⟨FIN.out.2.os,FIN.out.2.tape,FIN.out.2.output,FIN.out.2.size,FIN.out.2.block⟩⟩
theorem Qn7 {w:World} {B n vb i:Nat} {v:Value} {L:List Bn} {a u:Int} (hn:n=L.length) (hl:n<=1000) (hin:i<=n) (hO:w.ownsRow B 199 2 v n (fl QaK L)) (hB:B<=w.heap.size) (hne:v.ownBlock≠some vb)
  (hv:w.heap[vb]?=some (.cells #[.int .i64 a,.int .u64 u] 199 (0,0))) :
  Calls Tryz.prog 301 #[v,.int .i64 i,.slice (some ⟨vb,0,none⟩) 1 1] w fun e w'=>∃ v',e=.returned v'/\w'.ownsRow B 199 2 v' (n+1) (fl QaK (QeH L i (a,u)))/\w.grownBy w' v.ownBlock:=by
 by_cases h:i=n
 ·subst h;exact QpG hn hl hO hB hv
 ·obtain ⟨g,c,rfl⟩:=Qfz hO (by omega)
  by_cases hr:n+1<=c
  ·exact QlZ hn hl (by omega) hr hO hB (fun e=>hne (by rw [e];rfl)) hv
  ·exact QnV hn hl (by omega) (by omega) hO hB hv
end Go.Proofs.YthchmdmncmioiaaGreatDoor
namespace Go.Proofs.YthchmdmncmioiaaGreatDoor
set_option linter.unusedVariables false
set_option linter.unusedSimpArgs false
def Qeh (x:Bn):List Bn->List Bn
 | []=>[x]
 | y :: r=>if y.1<x.1 then y :: Qeh x r else if y.1=x.1 then (y.1,QaA y.2 x.2) :: r else x :: y :: r
theorem QkK {y:Bn} {r:List Bn} {p:Int} {i:Nat} (h:QjX (y :: r) p (i+1)):QjX r p i:=
 ⟨by have:=h.1;simp at this;exact this,fun t x hx ht=>h.2.1 (t+1) x (by simpa using hx) (by omega),fun t x hx ht=>h.2.2 (t+1) x (by simpa using hx) (by omega)⟩
theorem Qiu {a u a' u':Int}:∀ (L:List Bn) (i:Nat),QjX L a i->L[i]?=some (a',u')->a'=a->Qeh (a,u) L=L.set i (a',QaA u' u)
 | [],i,_,h,_=>by simp at h
 | y :: r,0,hp,h,e=>by
  obtain rfl:y=(a',u'):=by simpa using h
  subst e;simp [Qeh]
 | y :: r,i+1,hp,h,e=>by
  have hy:=hp.2.1 0 y rfl (by omega);rw [Qeh,if_pos hy,Qiu r i (QkK hp) (by simpa using h) e];rfl
theorem QjE {a u:Int}:∀ (L:List Bn) (i:Nat),QjX L a i->(¬ ∃ x,L[i]?=some x/\x.1=a)->Qeh (a,u) L=L.take i ++ (a,u) :: L.drop i
 | [],i,hp,h=>by have:=hp.1;simp at this;subst this;rfl
 | y :: r,0,hp,h=>by
  have hy:=hp.2.2 0 y rfl (ZZa _);have hne:y.1≠a:=fun e=>h ⟨y,rfl,e⟩;rw [Qeh,if_neg (by show ¬ y.1<a;omega),if_neg hne];rfl
 | y :: r,i+1,hp,h=>by
  have hy:=hp.2.1 0 y rfl (by omega);rw [Qeh,if_pos hy,QjE r i (QkK hp) (by simpa using h)];rfl
theorem QmC (x:Bn):∀ L:List Bn,L.length<=(Qeh x L).length/\(Qeh x L).length<=L.length+1
 | []=>by simp [Qeh]
 | y :: r=>by
  have:=QmC x r;unfold Qeh
  split
  ·simp;omega
  ·split <;> simp
theorem rise_cons {y:Bn} {r:List Bn}:Qc9 (y :: r)↔(∀ x∈r,y.1<x.1)/\Qc9 r:=by
 constructor
 ·intro h
  refine ⟨fun x hx=>?_,fun i j a b ha hb hij=>h (i+1) (j+1) a b (by simpa using ha) (by simpa using hb) (by omega)⟩;obtain ⟨j,hj⟩:=List.getElem?_of_mem hx;exact h 0 (j+1) y x rfl (by simpa using hj) (by omega)
 ·rintro ⟨h1,h2⟩ i j a b ha hb hij
  cases i with
  | zero=>
   obtain rfl:y=a:=by simpa using ha
   cases j with
   | zero=>omega
   | succ j=>exact h1 b (List.mem_of_getElem? (by simpa using hb))
  | succ i=>
   cases j with
   | zero=>omega
   | succ j=>exact h2 i j a b (by simpa using ha) (by simpa using hb) (by omega)
theorem Qc1:Qc9 []:=fun i j a b ha=>by simp at ha
theorem Qjz {x:Bn}:∀ {L:List Bn} {z:Bn},z∈Qeh x L->z=x∨z∈L∨∃ y∈L,y.1=x.1/\z=(y.1,QaA y.2 x.2)
 | [],z,h=>by simp [Qeh] at h;exact .inl h
 | y :: r,z,h=>by
  unfold Qeh at h
  split at h
  ·rcases List.mem_cons.1 h with rfl | h
   ·exact .inr (.inl (List.mem_cons_self ..))
   ·rcases Qjz h with h | h | ⟨q,hq,e,e2⟩
    ·exact .inl h
    ·exact .inr (.inl (ZZm _ h))
    ·exact .inr (.inr ⟨q,ZZm _ hq,e,e2⟩)
  ·split at h
   ·rename_i e
    rcases List.mem_cons.1 h with rfl | h
    ·exact .inr (.inr ⟨y,List.mem_cons_self ..,e,rfl⟩)
    ·exact .inr (.inl (ZZm _ h))
   ·rcases List.mem_cons.1 h with rfl | h
    ·exact .inl rfl
    ·exact .inr (.inl h)
theorem Qf8 {a b:Int} (ha:U64 a) (hb:U64 b):U64 (QaA a b):=by unfold QaA;unfold U64 at *; split <;> omega
theorem ins_ok {x:Bn} {L:List Bn} (hx:Qbk x) (h:∀ y∈L,Qbk y):∀ z∈Qeh x L,Qbk z:=fun z hz=>by
 rcases Qjz hz with rfl | h1 | ⟨y,hy,e,rfl⟩
 ·exact hx
 ·exact h z h1
 ·exact ⟨(h y hy).1,Qf8 (h y hy).2 hx.2⟩
theorem QkQ {x:Bn}:∀ {L:List Bn},Qc9 L->Qc9 (Qeh x L)
 | [],_=>by rw [Qeh];exact rise_cons.2 ⟨fun z hz=>by simp at hz,Qc1⟩
 | y :: r,h=>by
  obtain ⟨h1,h2⟩:=rise_cons.1 h;unfold Qeh
  split
  ·rename_i hlt
   refine rise_cons.2 ⟨fun z hz=>?_,QkQ h2⟩;rcases Qjz hz with rfl | hz | ⟨q,hq,e,rfl⟩
   ·exact hlt
   ·exact h1 z hz
   ·exact h1 q hq
  ·split
   ·exact rise_cons.2 ⟨fun z hz=>h1 z hz,h2⟩
   ·refine rise_cons.2 ⟨fun z hz=>?_,h⟩
    rcases List.mem_cons.1 hz with rfl | hz
    ·omega
    ·have:=h1 z hz;omega
def QaW (L M:List Bn):List Bn:=M.foldl (fun s x=>Qeh x s) L
theorem Qf7 {L M:List Bn} {j:Nat} {x:Bn} (h:M[j]?=some x):QaW L (M.take (j+1))=Qeh x (QaW L (M.take j)):=by
 rw [List.take_add_one,h];simp [QaW,List.foldl_append]
theorem Qey:∀ {M L:List Bn},(∀ x∈M,Qbk x)->(∀ x∈L,Qbk x)->∀ z∈QaW L M,Qbk z
 | [],L,_,h=>h
 | x :: r,L,hM,hL=>Qey (M:=r) (fun y hy=>hM y (ZZm _ hy)) (ins_ok (hM x (List.mem_cons_self ..)) hL)
theorem Qcg:∀ {M L:List Bn},Qc9 L->Qc9 (QaW L M)
 | [],L,h=>h
 | x :: r,L,h=>Qcg (M:=r) (QkQ h)
theorem Qdz:∀ (M L:List Bn),(QaW L M).length<=L.length+M.length
 | [],L=>by simp [QaW]
 | x :: r,L=>by
  have h1:=Qdz r (Qeh x L);have h2:=QmC x L
  show (QaW (Qeh x L) r).length<=_
  simp;omega
set_option maxRecDepth 10000
open Go.ChangeAt Go.ChangeShapes Go.Lib Go.PlainAid Go.RowKit Go.WideShapes
structure Gat (w:World) (B g:Nat) (v:Value) (n:Nat) (L:List Bn):Prop where
 blk:w.heap[g]?=some (.cells #[v,fnPl,Qqj] 310 (0,0))
 own:w.ownsRow B 199 2 v n (fl QaK L)
 len:n=L.length
 hB:B<=g
theorem Gat.lt {w:World} {B g n:Nat} {v:Value} {L:List Bn} (h:Gat w B g v n L):g<w.heap.size:=(ZZc.1 h.blk).1
theorem Gat.ne {w:World} {B g n:Nat} {v:Value} {L:List Bn} (h:Gat w B g v n L):v.ownBlock≠some g:=fun e=>by
 obtain ⟨c,fz,hc⟩:=ownsRow_kind h.own g e;rw [h.blk] at hc
 cases hc
theorem Gat.cells {w:World} {B g n:Nat} {v:Value} {L:List Bn} (h:Gat w B g v n L):w.cell? ⟨g,0,none⟩=some v/\QhM w g:=
 ⟨by rw [cell_of_row w g 0 _ _ (0,0) h.blk];rfl,by rw [cell_of_row w g 1 _ _ (0,0) h.blk];rfl,by rw [cell_of_row w g 2 _ _ (0,0) h.blk];rfl⟩
theorem Gat.frozen {w:World} {B g n:Nat} {v:Value} {L:List Bn} (h:Gat w B g v n L) (j:Nat):w.frozen? ⟨g,j,none⟩=false:=frozen_of_row w g j _ _ h.blk
theorem Gat.past {w w':World} {B g n:Nat} {v:Value} {L:List Bn} (h:Gat w B g v n L) (hb:Below w.heap.size w w'):Gat w' B g v n L:=
 ⟨by rw [hb.block g h.lt];exact h.blk,QaP h.own hb,h.len,h.hB⟩
theorem c_put {w:World} {B g n:Nat} {v:Value} {L:List Bn} (a u:Int) (ha:I64 a) (hu:U64 u) (hL:Qc9 L) (hok:∀ x∈L,Qbk x) (hl:n<=500) (h:Gat w B g v n L) :
  Calls Tryz.prog 297 #[.pointer (some ⟨g,0,none⟩),.agg #[.int .i64 a,.int .u64 u]] w fun e w'=>∃ r v' n',e=.returned r/\Gat w' B g v' n' (Qeh (a,u) L)/\Below B w w':=by
 obtain ⟨c0,cG⟩:=h.cells;have HH:=Qaa h;have HL:=Qaa hL;have HK:=Qaa hok;clear h hL hok;go_enter Tryz.func297,Tryz.ntmps297;go_wp2_with fail;generalize hW0:w.alloc (Obj.cells #[.int .i64 a,.int .u64 u] 199)=W0;have T0:Below w.heap.size w W0:=by rw [<- hW0];exact (ZZb _ _).alloc (ZZa _) _
 have A0:QaL W0 w.heap.size a u:=by rw [<- hW0];exact Qfo w _ _ _
 have G0:W0.cell? ⟨g,0,none⟩=some v/\QhM W0 g:=⟨Qab T0 c0,QcS cG T0⟩;clear hW0;have HT0:=Qaa T0;have hC:∀ W,Below W0.heap.size W0 W->QaL W w.heap.size a u/\W.cell? ⟨g,0,none⟩=some v/\QhM W g:=fun W hW=>⟨Qgg A0 hW,Qab hW G0.1,QcS G0.2 hW⟩;have HC:=Qaa hC;clear T0 hC A0 G0 c0 cG
 go_region_held3 (fun W=>Qd0 W0.heap.size W0 W/\QaL W w.heap.size a u/\W.cell? ⟨g,0,none⟩=some v/\QhM W g)
  (first | exact hS3 | exact ⟨held (Below.refl _ _).drew (by simp),HC.out _ (Below.refl _ _).drew⟩)
  (first
   | (go_at_call 295;have hS:=(‹Qd0 _ _ _/\_›).1;refine (Qj3 _ _ _).mono ?_;rintro e w6 ⟨rfl,hb6⟩;have hS1:=(Qbc hb6 hS).1;have hS3:Qd0 W0.heap.size W0 w6/\_:=⟨held hS1 (ZZa _),HC.out _ hS1⟩;clear hb6 hS1)
   | (go_at_call 299;have hS:=(‹Qd0 _ _ _/\_›).1;refine (QoB _ HH.out.len (by omega) HL.out (HH.out.past (Qad HT0.out hS.1)).own (HH.out.past (Qad HT0.out hS.1)).cells.2).mono ?_;rintro e w7 ⟨i,f,rfl,hpos,hf,hb6⟩;have hS1:=(Qbc hb6 hS).1;have hS3:Qd0 W0.heap.size W0 w7/\_:=⟨held hS1 (ZZa _),HC.out _ hS1⟩;clear hb6 hS1))
 all_goals
  have HT7:=Qaa (Qad HT0.out hS3.1.1);have HB7:=Qaa hS3.1.1;have hC7:∀ W,Below w7.heap.size w7 W->QaL W w.heap.size a u/\W.cell? ⟨g,0,none⟩=some v/\QhM W g:=fun W hW=>HC.out W (Qad HB7.out hW);have HC7:=Qaa hC7;clear hS3 hC7 HC;have H7:=Qaa (HH.out.past HT7.out)
  cases f with
  | true=>
   obtain ⟨⟨a',u'⟩,hRk,hap⟩:=hf.1 rfl;obtain ⟨_,hu'⟩:=HK.out _ (ZZn hRk);obtain ⟨go,cc,e,hc0,hc1,hf0,hf1,_⟩:=Qjh H7.out.own H7.out.len hRk;subst e;have hin:i<n:=by have:=(ZZd.1 hRk).1;have:=H7.out.len;omega
   have HRk:=Qaa hRk;have HPos:=Qaa hpos;clear hf hRk hpos;simp only at hu';have hC8:∀ W,Below w7.heap.size w7 W->QaL W w.heap.size a u/\W.cell? ⟨g,0,none⟩=some (.slice (some ⟨go,0,none⟩) n cc)/\QhM W g/\W.cell? ⟨go,i*2,none⟩=some (.int .i64 a')/\W.cell? ⟨go,i*2+1,none⟩=some (.int .u64 u')/\W.frozen? ⟨go,i*2,none⟩=false/\W.frozen? ⟨go,i*2+1,none⟩=false:=fun W hW=>⟨(HC7.out W hW).1,(HC7.out W hW).2.1,(HC7.out W hW).2.2,Qab hW hc0,Qab hW hc1,by rw [QbL hW hc0];exact hf0,by rw [QbL hW hc1];exact hf1⟩;have HC8:=Qaa hC8;clear hC8 hc0 hc1 hf0 hf1;go_wp2_with fail;have HS0:(fun W=>Below w7.heap.size w7 W/\QaL W w.heap.size a u/\W.cell? ⟨g,0,none⟩=some (.slice (some ⟨go,0,none⟩) n cc)/\QhM W g/\W.cell? ⟨go,i*2,none⟩=some (.int .i64 a')/\W.cell? ⟨go,i*2+1,none⟩=some (.int .u64 u')/\W.frozen? ⟨go,i*2,none⟩=false/\W.frozen? ⟨go,i*2+1,none⟩=false) w7.drew:=⟨(ZZb _ _).drew,HC8.out _ (ZZb _ _).drew⟩;refine Qaj (fun W=>Below w7.heap.size w7 W/\QaL W w.heap.size a u/\W.cell? ⟨g,0,none⟩=some (.slice (some ⟨go,0,none⟩) n cc)/\QhM W g/\W.cell? ⟨go,i*2,none⟩=some (.int .i64 a')/\W.cell? ⟨go,i*2+1,none⟩=some (.int .u64 u')/\W.frozen? ⟨go,i*2,none⟩=false/\W.frozen? ⟨go,i*2+1,none⟩=false) 19 (by kernel_rfl) ?_;refine tkL (i:=0) (v:=.pointer (some ⟨g,0,none⟩)) rfl rfl HS0 (fun W hW=>?_) ?_
   ·obtain ⟨_,⟨x0,x1⟩,x2,⟨x3,x4⟩,x5,x6,x7,x8⟩:=hW
    go_simp
   refine tkL (i:=1) (v:=.pointer (some ⟨g,0,none⟩)) rfl rfl HS0 (fun W hW=>?_) ?_
   ·obtain ⟨_,⟨x0,x1⟩,x2,⟨x3,x4⟩,x5,x6,x7,x8⟩:=hW
    go_simp
   refine tkL (i:=2) (v:=.pointer (some ⟨g,0,none⟩)) rfl rfl HS0 (fun W hW=>?_) ?_
   ·obtain ⟨_,⟨x0,x1⟩,x2,⟨x3,x4⟩,x5,x6,x7,x8⟩:=hW
    go_simp
   simp only [sA,sB,sC];refine tkL (i:=3) (v:=.slice (some ⟨go,0,none⟩) n cc) rfl rfl HS0 (fun W hW=>?_) ?_
   ·obtain ⟨_,⟨x0,x1⟩,x2,⟨x3,x4⟩,x5,x6,x7,x8⟩:=hW
    go_simp
   refine tkL (i:=4) (v:=.int .i64 i) rfl rfl HS0 (fun W hW=>?_) ?_
   ·obtain ⟨_,⟨x0,x1⟩,x2,⟨x3,x4⟩,x5,x6,x7,x8⟩:=hW
    go_simp
   refine tkL (i:=5) (v:=.pointer (some ⟨g,0,none⟩)) rfl rfl HS0 (fun W hW=>?_) ?_
   ·obtain ⟨_,⟨x0,x1⟩,x2,⟨x3,x4⟩,x5,x6,x7,x8⟩:=hW
    go_simp
   simp only [sA,sB,sC];refine tkL (i:=6) (v:=.pointer (some ⟨g,0,none⟩)) rfl rfl HS0 (fun W hW=>?_) ?_
   ·obtain ⟨_,⟨x0,x1⟩,x2,⟨x3,x4⟩,x5,x6,x7,x8⟩:=hW
    go_simp
   refine tkL (i:=7) (v:=.pointer (some ⟨g,2,none⟩)) rfl rfl HS0 (fun W hW=>?_) ?_
   ·obtain ⟨_,⟨x0,x1⟩,x2,⟨x3,x4⟩,x5,x6,x7,x8⟩:=hW
    go_simp
   refine tkL (i:=8) (v:=Qqj) rfl rfl HS0 (fun W hW=>?_) ?_
   ·obtain ⟨_,⟨x0,x1⟩,x2,⟨x3,x4⟩,x5,x6,x7,x8⟩:=hW
    go_simp
   simp only [sA,sB,sC];refine tkL (i:=9) (v:=.pointer (some ⟨g,0,none⟩)) rfl rfl HS0 (fun W hW=>?_) ?_
   ·obtain ⟨_,⟨x0,x1⟩,x2,⟨x3,x4⟩,x5,x6,x7,x8⟩:=hW
    go_simp
   refine tkL (i:=10) (v:=.pointer (some ⟨g,0,none⟩)) rfl rfl HS0 (fun W hW=>?_) ?_
   ·obtain ⟨_,⟨x0,x1⟩,x2,⟨x3,x4⟩,x5,x6,x7,x8⟩:=hW
    go_simp
   refine tkL (i:=11) (v:=.pointer (some ⟨g,0,none⟩)) rfl rfl HS0 (fun W hW=>?_) ?_
   ·obtain ⟨_,⟨x0,x1⟩,x2,⟨x3,x4⟩,x5,x6,x7,x8⟩:=hW
    go_simp
   simp only [sA,sB,sC];refine tkL (i:=12) (v:=.slice (some ⟨go,0,none⟩) n cc) rfl rfl HS0 (fun W hW=>?_) ?_
   ·obtain ⟨_,⟨x0,x1⟩,x2,⟨x3,x4⟩,x5,x6,x7,x8⟩:=hW
    go_simp
   refine tkL (i:=13) (v:=.int .i64 i) rfl rfl HS0 (fun W hW=>?_) ?_
   ·obtain ⟨_,⟨x0,x1⟩,x2,⟨x3,x4⟩,x5,x6,x7,x8⟩:=hW
    go_simp
   refine tkL (i:=14) (v:=.pointer (some ⟨go,i*2,none⟩)) rfl rfl HS0 (fun W hW=>?_) ?_
   ·obtain ⟨_,⟨x0,x1⟩,x2,⟨x3,x4⟩,x5,x6,x7,x8⟩:=hW
    go_simp
   simp only [sA,sB,sC];refine tkL (i:=15) (v:=.agg #[.int .i64 a',.int .u64 u']) rfl rfl HS0 (fun W hW=>?_) ?_
   ·obtain ⟨_,⟨x0,x1⟩,x2,⟨x3,x4⟩,x5,x6,x7,x8⟩:=hW
    go_simp
   refine tkL (i:=16) (v:=.agg #[.int .i64 a,.int .u64 u]) rfl rfl HS0 (fun W hW=>?_) ?_
   ·obtain ⟨_,⟨x0,x1⟩,x2,⟨x3,x4⟩,x5,x6,x7,x8⟩:=hW
    go_simp
   simp only [sA,sB,sC];refine onE (i:=17) rfl (fun K hK=>?_);go_simp;refine (Qpu _ _ _ _ hu' hu _).mono ?_;rintro e w8 ⟨rfl,hb8⟩;dsimp only;refine hK.out _ _ (fun _=>⟨((ZZb _ _).drew).trans hb8,HC8.out _ (((ZZb _ _).drew).trans hb8)⟩) ?_;clear hK K
   try simp only [Act.put,sA,sB,sC]
   have HB8:=Qaa (((ZZb w7.heap.size w7).drew).trans hb8);obtain ⟨x0,x2,x3,x5,x6,x7,x8⟩:=HC8.out _ HB8.out;clear hb8;refine onE (i:=18) rfl (fun K hK=>?_);go_simp;refine hK.out _ _ (fun _=>⟨HB8.out,HC8.out _ HB8.out⟩) ?_;clear hK K
   try simp only [Act.put,sA,sB,sC]
   have oF:w8.ownsRow B 199 2 (.slice (some ⟨go,0,none⟩) n cc) n (fl QaK L):=(H7.out.past HB8.out).own;have hgo:go≠g:=fun e=>H7.out.ne (by rw [e];rfl)
   have fin:Gat ((w8.setCell ⟨go,i*2,none⟩ (.int .i64 a')).setCell ⟨go,i*2+1,none⟩ (.int .u64 (QaA u' u))) B g (.slice (some ⟨go,0,none⟩) n cc) n (Qeh (a,u) L)/\Below B w ((w8.setCell ⟨go,i*2,none⟩ (.int .i64 a')).setCell ⟨go,i*2+1,none⟩ (.int .u64 (QaA u' u))):=by
    have hlt:=(ZZd.1 HRk.out).1;rw [Qiu L i HPos.out HRk.out hap];refine ⟨⟨?_,?_,by rw [List.length_set];exact H7.out.len,H7.out.hB⟩,?_⟩
    ·rw [heap_setCell_other _ _ _ _ (by simpa using hgo.symm),heap_setCell_other _ _ _ _ (by simpa using hgo.symm)];exact (H7.out.past HB8.out).blk
    ·have:=(((oF.stored (i*2) (.int .i64 a')).1).stored (i*2+1) (.int .u64 (QaA u' u))).1
     rwa [Qkw Qbl L i (a',QaA u' u) hlt rfl] at this
    ·have hBg:=(Qlb oF).1
     exact (((HT7.out.mono (Nat.le_trans HH.out.hB (Nat.le_of_lt HH.out.lt))).trans (HB8.out.mono (Nat.le_trans (Nat.le_trans HH.out.hB (Nat.le_of_lt HH.out.lt)) HT7.out.size))).setCell hBg _).setCell hBg _
   rw [hap] at fin;have FIN:=Qaa fin;clear fin oF;refine onE (i:=19) rfl (fun K hK=>?_);go_simp;refine hK.out _ _ (fun h=>absurd rfl h) ?_;clear hK K
   try simp only [Act.put,sA,sB,sC]
   refine Qar (by kernel_rfl) ?_ _;go_wp2;exact bodyPost_ret (v:=.tuple #[]) (by simp [results,Tryz.results297,go_sem]) rfl ⟨⟨_,rfl⟩,⟨_,_,FIN.out.1⟩,FIN.out.2⟩
  | false=>
   have HF:=Qaa (fun h=>by cases hf.2 h:¬ ∃ x,L[i]?=some x/\x.1=a);have HPos:=Qaa hpos;clear hf hpos;have HS0:(fun W=>QaL W w.heap.size a u/\W.cell? ⟨g,0,none⟩=some v/\W.frozen? ⟨g,0,none⟩=false) w7.drew:=⟨(HC7.out _ (ZZb _ _).drew).1,(HC7.out _ (ZZb _ _).drew).2.1,H7.out.frozen 0⟩;go_wp2_with fail;refine Qaj (fun W=>QaL W w.heap.size a u/\W.cell? ⟨g,0,none⟩=some v/\W.frozen? ⟨g,0,none⟩=false) 11 (by kernel_rfl) ?_;refine tkL (i:=0) (v:=.pointer (some ⟨g,0,none⟩)) rfl rfl HS0 (fun W hW=>?_) ?_
   ·obtain ⟨⟨x0,x1⟩,x2,x3⟩:=hW
    go_simp
   refine tkL (i:=1) (v:=.pointer (some ⟨g,0,none⟩)) rfl rfl HS0 (fun W hW=>?_) ?_
   ·obtain ⟨⟨x0,x1⟩,x2,x3⟩:=hW
    go_simp
   refine tkL (i:=2) (v:=.pointer (some ⟨g,0,none⟩)) rfl rfl HS0 (fun W hW=>?_) ?_
   ·obtain ⟨⟨x0,x1⟩,x2,x3⟩:=hW
    go_simp
   simp only [sA,sB,sC];refine tkL (i:=3) (v:=.pointer (some ⟨g,0,none⟩)) rfl rfl HS0 (fun W hW=>?_) ?_
   ·obtain ⟨⟨x0,x1⟩,x2,x3⟩:=hW
    go_simp
   refine tkL (i:=4) (v:=v) rfl rfl HS0 (fun W hW=>?_) ?_
   ·obtain ⟨⟨x0,x1⟩,x2,x3⟩:=hW
    go_simp
   refine tkL (i:=5) (v:=.int .i64 i) rfl rfl HS0 (fun W hW=>?_) ?_
   ·obtain ⟨⟨x0,x1⟩,x2,x3⟩:=hW
    go_simp
   simp only [sA,sB,sC];refine tkL (i:=6) (v:=.agg #[.int .i64 a,.int .u64 u]) rfl rfl HS0 (fun W hW=>?_) ?_
   ·obtain ⟨⟨x0,x1⟩,x2,x3⟩:=hW
    go_simp
   simp only [sA,sB,sC];refine onE (i:=7) rfl (fun K hK=>?_);go_simp;have hbA:∀ o,Below w7.heap.size w7 (w7.alloc o).drew:=fun o=>((ZZb _ _).alloc (ZZa _) o).drew;refine hK.out _ _ (fun _=>⟨(HC7.out _ (hbA _)).1,(HC7.out _ (hbA _)).2.1,(H7.out.past (hbA _)).frozen 0⟩) ?_;clear hK K
   try simp only [Act.put,sA,sB,sC]
   obtain ⟨WA,hWA⟩:∃ WA,WA=(w7.alloc (Obj.cells #[.int .i64 a,.int .u64 u] 199)).drew:=⟨_,rfl⟩;rw [<- hWA];have HA:=H7.out.past (hbA (Obj.cells #[.int .i64 a,.int .u64 u] 199));have hvA:WA.heap[w7.heap.size]?=some (.cells #[.int .i64 a,.int .u64 u] 199 (0,0)):=by rw [hWA];exact ZZk w7 _
   rw [<- hWA] at HA;have hBA:Below w7.heap.size w7 WA:=by rw [hWA];exact hbA _
   have hBw:B<=w.heap.size:=Nat.le_trans HH.out.hB (Nat.le_of_lt HH.out.lt);have hne:v.ownBlock≠some w7.heap.size:=fun e=>by have:=(H7.out.own.lt _ e).2;omega
   have HBA:=Qaa hBA;have HHA:=Qaa HA;have HvA:=Qaa hvA;clear HA hvA hBA hbA hWA;refine onE (i:=8) rfl (fun K hK=>?_);go_simp;refine (Qn7 HHA.out.len (by omega) (by have:=HPos.out.1;have:=HHA.out.len;omega) HHA.out.own (by have:=HBA.out.size;have:=HT7.out.size;omega) hne HvA.out).mono ?_;rintro e w8 ⟨v',rfl,ho8,hg8⟩;dsimp only;obtain ⟨ao8,c8',rfl⟩:=Qam ho8;have hgn:some g≠v.ownBlock:=fun e=>HHA.out.ne e.symm;have hb8:w8.heap[g]?=some (.cells #[v,fnPl,Qqj] 310 (0,0)):=by rw [hg8.block g HHA.out.lt hgn];exact HHA.out.blk
   have hbox:∀ j,w8.cell? ⟨w.heap.size,j,none⟩=WA.cell? ⟨w.heap.size,j,none⟩:=fun j=>by
    have hlt:w.heap.size<WA.heap.size:=by have:=World.block_lt_of_cell? _ _ (HC7.out _ HBA.out).1.1;exact this
    have hnb:some w.heap.size≠v.ownBlock:=fun e=>by have:=(HH.out.own.lt _ e.symm).2;omega
    exact World.cell?_of_block (w:=WA) (hg8.block _ hlt hnb)
   have S8:QaL w8 w.heap.size a u/\w8.cell? ⟨g,0,none⟩=some v/\w8.frozen? ⟨g,0,none⟩=false:=⟨⟨by rw [hbox];exact (HC7.out _ HBA.out).1.1,by rw [hbox];exact (HC7.out _ HBA.out).1.2⟩,by rw [cell_of_row w8 g 0 _ _ (0,0) hb8];rfl,frozen_of_row w8 g 0 _ _ hb8⟩;refine hK.out _ _ (fun _=>S8) ?_;clear hK K
   try simp only [Act.put,sA,sB,sC]
   have f8:=fzR 0 hb8;have c8:w8.cell? ⟨g,0,none⟩=some v:=by rw [cell_of_row w8 g 0 _ _ (0,0) hb8];rfl
   have fin:Gat (w8.setCell ⟨g,0,none⟩ (.slice ao8 (n+1) c8')) B g (.slice ao8 (n+1) c8') (n+1) (Qeh (a,u) L)/\Below B w (w8.setCell ⟨g,0,none⟩ (.slice ao8 (n+1) c8')):=by
    have hv9:(Value.slice ao8 (n+1) c8').ownBlock≠some g:=fun e=>by
     obtain ⟨c,fz,hc⟩:=ownsRow_kind ho8 g e;rw [hb8] at hc
     cases hc
    have hlen:(Qeh (a,u) L).length=n+1:=by
     rw [QjE L i HPos.out HF.out];have:=HPos.out.1;have:=HHA.out.len;simp;omega
    refine ⟨⟨ZZl w8 g 0 _ _ (.slice ao8 (n+1) c8') hb8,?_,hlen.symm,HH.out.hB⟩,?_⟩
    ·rw [QjE L i HPos.out HF.out]
     exact ownsRow_setCell_other ho8 hv9 _
    ·have h1:Below B w WA:=(HT7.out.mono hBw).trans (HBA.out.mono (by have:=HT7.out.size;omega))
     have h2:Below B w w8:=h1.grown hg8 (by have:=h1.size;omega) (fun k e=>(HHA.out.own.lt k e).1);exact h2.setCell HH.out.hB _
   have FIN:=Qaa fin;have HS8:=Qaa S8;clear fin ho8 hg8 hb8 hbox S8;refine onE (i:=9) rfl (fun K hK=>?_);go_simp;refine hK.out _ _ (fun _=>HS8.out) ?_;clear hK K
   try simp only [Act.put,sA,sB,sC]
   refine onE (i:=10) rfl (fun K hK=>?_);go_simp;refine hK.out _ _ (fun _=>HS8.out) ?_;clear hK K
   try simp only [Act.put,sA,sB,sC]
   refine onE (i:=11) rfl (fun K hK=>?_);go_simp;refine hK.out _ _ (fun h=>absurd rfl h) ?_;clear hK K
   try simp only [Act.put,sA,sB,sC]
   refine Qar (by kernel_rfl) ?_ _;go_wp2;exact bodyPost_end (v:=.tuple #[]) (by simp [results,Tryz.results297,go_sem]) rfl ⟨_,_,_,rfl,FIN.out.1,FIN.out.2⟩
end Go.Proofs.YthchmdmncmioiaaGreatDoor
