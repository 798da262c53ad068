/-
 Parts.
-/
import Derived.Test.YtandnmpllheniaaGreatDoorCJD
import Derived.Shelf.Spec.SlicesInsert
import Derived.Lib.AppendZerosOnto
import Derived.Laws.NewBlocks
import Derived.Deep.Onto
import Derived.Lib.OwnKind
set_option linter.all false
set_option maxHeartbeats 4000000
set_option maxRecDepth 10000
namespace Go.Proofs.YtandnmpllheniaaGreatDoor
open Go.ChangeShapes Go.WideShapes Go.ChangeAt Go.RowKit
def Qar (a b:Int):Int:=if 18446744073709551615<a+b then 18446744073709551615 else a+b
theorem Qiy {a b:Int} (h:a=b):Ending.returned (.int .u64 a)=.returned (.int .u64 b):=by rw [h]
theorem Qbj (a b:Int) (ha:U64 a) (hb:U64 b) (w:World) :
  Calls Tryz.prog 132 #[.int .u64 a,.int .u64 b] w fun e w'=>e=.returned (.int .u64 (Qar a b))/\w'=w:=by
 have Ha:Hid (U64 a):=ha;have Hb:Hid (U64 b):=hb;clear ha hb;go_enter Tryz.func132,Tryz.ntmps132;go_wp2
 ·have h:=‹IntKind.u64.wrap (a+b)<a›
  have ha:=Ha.out;have hb:=Hb.out;go_ret;refine ⟨Qiy ?_,rfl⟩;rw [IntKind.wrap_u64] at h;unfold U64 at ha hb;unfold Qar;rw [if_pos (by omega)]
 ·have h:=‹a<=IntKind.u64.wrap (a+b)›
  have ha:=Ha.out;have hb:=Hb.out;go_ret;refine ⟨Qiy ?_,rfl⟩;rw [IntKind.wrap_u64] at h ⊢; unfold U64 at ha hb;unfold Qar;rw [if_neg (by omega)];omega
theorem QaJ (a b:Int) (ha:U64 a) (hb:U64 b) (w:World) :
  Calls Tryz.prog 86 #[.int .u64 a,.int .u64 b] w fun e w'=>e=.returned (.int .u64 (Qar a b))/\w'=w:=by
 have k1:=fun w=>QkD a b 0 ha.1 hb.1 (by omega) (by omega) w;simp only [Int.add_zero] at k1;have Ha:Hid (U64 a):=ha;have Hb:Hid (U64 b):=hb;clear ha hb;go_enter Tryz.func86,Tryz.ntmps86;go_wp2
 ·have h:=‹0<Qhl a b›
  have ha:=Ha.out;have hb:=Hb.out;go_ret;refine ⟨Qiy ?_,rfl⟩;unfold Qhl at h;unfold U64 at ha hb;unfold Qar;rw [if_pos (by omega)]
 ·have h:=‹Qhl a b<=0›
  have ha:=Ha.out;have hb:=Hb.out;go_ret;refine ⟨Qiy ?_,rfl⟩;unfold Qhl at h;unfold uw;unfold U64 at ha hb;unfold Qar;rw [if_neg (by omega)];omega
open Go.Lib Go.PlainAid
theorem Qkj (a u:Int) (w:World) :
  Calls Tryz.prog 295 #[.agg #[.int .i64 a,.int .u64 u]] w fun e w'=>e=.returned (.int .i64 a)/\Below w.heap.size w w':=by
 go_enter Tryz.func295,Tryz.ntmps295;go_wp2;go_ret;exact ⟨rfl,(ZZb _ _).alloc (ZZa _) _⟩
abbrev QaM (w:World) (g:Nat) (a u:Int):Prop:=w.cell? ⟨g,0,none⟩=some (.int .i64 a)/\w.cell? ⟨g,1,none⟩=some (.int .u64 u)
theorem QgW {w w':World} {g:Nat} {a u:Int} (h:QaM w g a u) (hb:Below w.heap.size w w'):QaM w' g a u:=⟨Qab hb h.1,Qab hb h.2⟩
theorem Qf3 (w:World) (t:TypeId) (a u:Int):QaM (w.alloc (.cells #[.int .i64 a,.int .u64 u] t)) w.heap.size a u:=by
 have hb:=ZZk w (.cells #[.int .i64 a,.int .u64 u] t);exact ⟨by rw [cell_of_row _ w.heap.size 0 _ _ (0,0) hb];rfl,by rw [cell_of_row _ w.heap.size 1 _ _ (0,0) hb];rfl⟩
theorem Qp9 (a u b v:Int) (hu:U64 u) (hv:U64 v) (w:World) :
  Calls Tryz.prog 296 #[.agg #[.int .i64 a,.int .u64 u],.agg #[.int .i64 b,.int .u64 v]] w fun e w'=>e=.returned (.agg #[.int .i64 a,.int .u64 (Qar u v)])/\Below w.heap.size w w':=by
 go_enter Tryz.func296,Tryz.ntmps296;go_wp2_with fail;generalize hW0:(w.alloc (Obj.cells #[.int .i64 a,.int .u64 u] 199)).alloc (Obj.cells #[.int .i64 b,.int .u64 v] 199)=W0;have T0:Below w.heap.size w W0:=by rw [<- hW0];exact ((Below.refl _ _).alloc (Nat.le_refl _) _).alloc (by simp) _
 have A0:QaM W0 w.heap.size a u:=by rw [<- hW0];exact QgW (Qf3 w _ _ _) ((ZZb _ _).alloc (ZZa _) _)
 have B0:QaM W0 (w.heap.size+1) b v:=by
  rw [<- hW0]
  simpa using Qf3 (w.alloc (Obj.cells #[.int .i64 a,.int .u64 u] 199)) 199 b v
 have aa:W0.heap.size=w.heap.size+2:=by rw [<- hW0];simp
 clear hW0;have ab:=Qaa T0;have hC:∀ W,Below W0.heap.size W0 W->QaM W w.heap.size a u/\QaM W (w.heap.size+1) b v:=fun W hW=>⟨QgW A0 hW,QgW B0 hW⟩;have HC:=Qaa hC;clear T0 hC;have ae:∀ o,QaM (W0.alloc o).drew w.heap.size a u/\QaM (W0.alloc o).drew (w.heap.size+1) b v:=fun o=>HC.out _ (((ZZb _ _).alloc (ZZa _) o).drew)
 go_region_held3 (fun W=>QaM W w.heap.size a u/\QaM W (w.heap.size+1) b v)
  (first | exact ae _ | (trace_state;fail))
  (first | (go_at_call 86;refine (QaJ _ _ hu hv _).mono ?_;rintro e w1 ⟨rfl,rfl⟩))
 go_wp2;have rb:=Qf3 W0 199 a (Qar u v);rw [aa] at rb;obtain ⟨r0,r1⟩:=rb;have ac:((W0.alloc (Obj.cells #[.int .i64 a,.int .u64 (Qar u v)] 199)).drew).cell? ⟨w.heap.size+1+1,0,none⟩=some (.int .i64 a):=r0;have ad:((W0.alloc (Obj.cells #[.int .i64 a,.int .u64 (Qar u v)] 199)).drew).cell? ⟨w.heap.size+1+1,1,none⟩=some (.int .u64 (Qar u v)):=r1;exact bodyPost_ret (v:=.agg #[.int .i64 a,.int .u64 (Qar u v)]) (by simp [results,Tryz.results296,go_sem,ac,ad]) rfl ⟨rfl,(ab.out.alloc ab.out.size _).drew⟩
abbrev fnPl:Value:=.func (.func 295) #[] #[]
abbrev QqN:Value:=.func (.func 296) #[] #[]
abbrev Qih (w:World) (g:Nat):Prop:=w.cell? ⟨g,1,none⟩=some fnPl/\w.cell? ⟨g,2,none⟩=some QqN
theorem Qdn {w w':World} {g:Nat} (h:Qih w g) (hb:Below w.heap.size w w'):Qih w' g:=⟨Qab hb h.1,Qab hb h.2⟩
def Qkt (a p:Int):Int:=if a<p then -1 else if p<a then 1 else 0
theorem Qg9 (g:Nat) (a u p:Int) (w:World) (hG:Qih w g) :
  Calls Tryz.prog 300 #[.pointer (some ⟨g,0,none⟩),.agg #[.int .i64 a,.int .u64 u],.int .i64 p] w fun e w'=>e=.returned (.int .i64 (Qkt a p))/\Below w.heap.size w w':=by
 go_enter Tryz.func300,Tryz.ntmps300;go_wp2_with fail;generalize hW0:w.alloc (Obj.cells #[.int .i64 a,.int .u64 u] 199)=W0;have T0:Below w.heap.size w W0:=by rw [<- hW0];exact (ZZb _ _).alloc (ZZa _) _
 have A0:QaM W0 w.heap.size a u:=by rw [<- hW0];exact Qf3 w _ _ _
 have G0:Qih W0 g:=Qdn hG T0;clear hW0;have ah:=Qaa T0;have hC:∀ W,Below W0.heap.size W0 W->QaM W w.heap.size a u/\Qih W g:=fun W hW=>⟨QgW A0 hW,Qdn G0 hW⟩;have HC:=Qaa hC;clear T0 hC A0 G0 hG
 go_region_held3 (fun W=>Qes W0.heap.size W0 W/\QaM W w.heap.size a u/\Qih W g)
  (first | exact aa | exact ⟨held (Below.refl _ _).drew (by simp),HC.out _ (Below.refl _ _).drew⟩)
  (first
   | (go_at_call 295;have hS:=(‹Qes _ _ _/\_›).1;refine (Qkj _ _ _).mono ?_;rintro e w6 ⟨rfl,ac⟩;have ab:=(Qbn ac hS).1;have aa:Qes W0.heap.size W0 w6/\_:=⟨held ab (ZZa _),HC.out _ ab⟩;clear ac ab))
 have af:=Qaa (Qac ah aa.1.1);have ae:∀ W,Below w6.heap.size w6 W->QaM W w.heap.size a u/\Qih W g:=fun W hW=>HC.out W (Qac aa.1.1 hW);have ag:=Qaa ae;clear aa ae HC;by_cases h1:a<p
 ·have HE:Hid (-1=Qkt a p):=(if_pos h1).symm
  go_wp2;go_ret;exact ⟨Qkv HE,af⟩
 ·have d1:decide (a<p)=false:=ZZg h1
  go_wp2_with fail
  go_region_held3 (fun W=>Qes w6.heap.size w6 W/\QaM W w.heap.size a u/\Qih W g)
   (first | exact aa | exact ⟨held (Below.refl _ _).drew (by simp),ag.out _ (Below.refl _ _).drew⟩)
   (first
    | (go_at_call 295;have hS:=(‹Qes _ _ _/\_›).1;refine (Qkj _ _ _).mono ?_;rintro e w7 ⟨rfl,ac⟩;have ab:=(Qbn ac hS).1;have aa:Qes w6.heap.size w6 w7/\_:=⟨held ab (ZZa _),ag.out _ ab⟩;clear ac ab))
  have ad:=Qaa (Qac af aa.1.1);clear aa;by_cases h2:p<a
  ·have HE:Hid (1=Qkt a p):=(by rw [Qkt,if_neg (by omega),if_pos h2]:1=Qkt a p)
   go_wp2;go_ret;exact ⟨Qkv HE,ad⟩
  ·have HE:Hid (0=Qkt a p):=(by rw [Qkt,if_neg (by omega),if_neg (by omega)]:0=Qkt a p)
   go_wp2;go_ret;exact ⟨Qkv HE,ad⟩
def Qkh (L:List Bn) (p:Int) (i:Nat):Prop:=i<=L.length/\(∀ (t:Nat) (x:Bn),L[t]?=some x->t<i->x.1<p)/\(∀ (t:Nat) (x:Bn),L[t]?=some x->i<=t->p<=x.1)
def Qc6 (L:List Bn):Prop:=∀ (i j:Nat) (x y:Bn),L[i]?=some x->L[j]?=some y->i<j->x.1<y.1
theorem Qpf {w:World} {B n g:Nat} {v:Value} {L:List Bn} (p:Int) (hn:n=L.length) (hl:n<=1000) (hL:Qc6 L) (hO:w.ownsRow B 199 2 v n (fl QaL L)) (hG:Qih w g) :
  Calls Tryz.prog 299 #[v,.int .i64 p,.func (.func 300) #[.pointer (some ⟨g,0,none⟩)] #[]] w fun e w'=>∃ (i:Nat) (f:Bool),e=.returned (.tuple #[.int .i64 i,.bool f])/\Qkh L p i/\(f=true↔∃ x,L[i]?=some x/\x.1=p)/\Below w.heap.size w w':=by
 obtain ⟨ao,c,rfl⟩:=Qam hO;have HO:=Qaa hO;have HN:=Qaa hn;have HL:=Qaa hL;have HG:=Qaa hG;clear hO hn hL hG;go_enter Tryz.func299,Tryz.ntmps299;go_wp2
 go_loopw [9,10] (fun i j wr=>Below w.heap.size w wr/\∃ (s t:Nat),s<=t/\t<=n/\i=.int .i64 s/\j=.int .i64 t/\Hid (∀ q x,L[q]?=some x->q<s->x.1<p)/\Hid (∀ q x,L[q]?=some x->t<=q->p<=x.1)) (fun i j wr=>(Go.RowKit.intOf j).toNat - (Go.RowKit.intOf i).toNat)
 case atStart=>exact ⟨ZZb _ _,0,n,ZZj _,ZZa _,rfl,rfl,(fun q x h k=>absurd k (by omega):∀ q x,L[q]?=some x->q<0->x.1<p),(fun q x h k=>absurd (ZZd.1 h).1 (by have:=HN.out;omega):∀ q x,L[q]?=some x->n<=q->p<=x.1)⟩
 case round=>
  obtain ⟨aa,s,t,am,ap,rfl,rfl,H1,H2⟩:=hrel;have HB:=Qaa aa;by_cases ak:s<t
  ·obtain ⟨m,hm⟩:∃ m:Nat,(s+t) / 2=m:=⟨_,rfl⟩
   obtain ⟨⟨a,u⟩,ab⟩:∃ a,L[m]?=some a:=⟨L[m]'(by have:=HN.out;omega),ZZe _⟩;obtain ⟨g0,cc,e,aj,ah,_,_,_⟩:=Qkb (QaU HO aa) HN ab
   cases e
   have ae:=Qdn HG aa;have an:s<=m/\m<t:=by omega
   have HR:=Qaa ab;clear aa ab;have e1:((s:Int)+(t:Int)) / 2=(m:Int):=by omega
   clear hm;by_cases af:a<p
   ·have d1:Qkt a p=-1:=if_pos af
    have HX:Hid (∀ q x,L[q]?=some x->q<m+1->x.1<p):=(fun q x h k=>by
     by_cases e:q=m
     ·subst e;rw [HR.out] at h;obtain rfl:=Option.some.inj h;exact af
     ·have:=HL.out q m x _ h HR (by omega);have:x.1<a:=this;omega:∀ q x,L[q]?=some x->q<m+1->x.1<p)
    go_wp2_with (go_at_call 300;refine (Qg9 _ _ _ _ _ ae).mono ?_;rintro e w1 ⟨rfl,ac⟩;rw [d1];have ad:=Qaa ac;clear ac);go_roundw
    case rel=>exact ⟨Qac HB ad,m+1,t,by omega,by omega,by go_num,rfl,HX,H2⟩
    case measure=>simp [zI];omega
   ·have aq:¬ Qkt a p<0:=by unfold Qkt;rw [if_neg af];split <;> omega
    have HX:Hid (∀ q x,L[q]?=some x->m<=q->p<=x.1):=(fun q x h k=>by
     by_cases e:q=m
     ·subst e;rw [HR.out] at h;obtain rfl:=Option.some.inj h;show p<=a;omega
     ·have:=HL.out m q _ x HR h (by omega);have:a<x.1:=this;omega:∀ q x,L[q]?=some x->m<=q->p<=x.1)
    go_wp2_with (go_at_call 300;refine (Qg9 _ _ _ _ _ ae).mono ?_;rintro e w1 ⟨rfl,ac⟩;have ad:=Qaa ac;clear ac);go_roundw
    case rel=>exact ⟨Qac HB ad,s,m,by omega,by omega,rfl,rfl,H1,HX⟩
    case measure=>simp [zI];omega
  ·have ai:s=t:=by omega
   subst ai;have HP:Hid (Qkh L p s):=(⟨by have:=HN.out;omega,fun q x h k=>H1.out q x h k,fun q x h k=>H2.out q x h k⟩:Qkh L p s);by_cases al:s<n
   ·obtain ⟨⟨a,u⟩,ab⟩:∃ a,L[s]?=some a:=⟨L[s]'(by have:=HN.out;omega),ZZe _⟩
    obtain ⟨g0,cc,e,aj,ah,_,_,_⟩:=Qkb (QaU HO aa) HN ab
    cases e
    have ae:=Qdn HG aa;have ag:=H2.out s _ ab (ZZa _);have HR:=Qaa ab;clear aa ab;simp only at ag
    have HF:Hid ((Qkt a p == 0)=true↔∃ x,L[s]?=some x/\x.1=p):=by
     refine (?_:(Qkt a p == 0)=true↔∃ x,L[s]?=some x/\x.1=p);rw [HR.out];constructor
     ·intro h
      refine ⟨_,rfl,?_⟩
      show a=p
      unfold Qkt at h;rw [if_neg (by omega)] at h
      split at h
      ·simp at h
      ·omega
     ·rintro ⟨x,h,hx⟩
      obtain rfl:=Option.some.inj h;have:a=p:=hx;unfold Qkt;rw [if_neg (by omega),if_neg (by omega)];rfl
    go_wp2_with (go_at_call 300;refine (Qg9 _ _ _ _ _ ae).mono ?_;rintro e w1 ⟨rfl,ac⟩;have ad:=Qaa ac;clear ac);go_ret2;exact ⟨s,_,rfl,HP,HF,Qac HB ad⟩
   ·have HF:Hid (false=true↔∃ x,L[s]?=some x/\x.1=p):=(⟨fun h=>(by cases h),fun ⟨x,h,_⟩=>absurd (ZZd.1 h).1 (by have:=HN.out;omega)⟩:false=true↔∃ x,L[s]?=some x/\x.1=p)
    clear aa;go_wp2;go_ret2;exact ⟨s,_,rfl,HP,HF,HB⟩
theorem QcG {P:Program} (w:World) (dT sT ty elem:TypeId) (b o dLen dCap:Nat) (a:Addr) (sLen sCap:Nat) (cs:List Value)
  (hu:P.underlying dT=some (.slice elem)) (hs:(P.info? elem).map (·.size)=some 2) (hn:cs.length=Nat.min sLen dLen*2)
  (hsrc:∀ j v,cs[j]?=some v->w.cell? (a.add j)=some v) (hc:∀ j,j<cs.length->(w.cell? ⟨b,o+j,none⟩).isSome=true) (hf:∀ j,j<cs.length->w.frozen? ⟨b,o+j,none⟩=false) (h1:∀ v∈cs,v.oneCell'=true) :
  (Builtin.copy_ #[dT,sT] ty #[.slice (some ⟨b,o,none⟩) dLen dCap,.slice (some a) sLen sCap]).run P w=.ok (goInt (Nat.min sLen dLen)) (w.setCells b o cs):=by
 have hl:=run_loadCells_list (P:=P) w a cs hsrc;have aa:=run_storeCells_cells (P:=P) b o cs 0 w (by simpa using hc) (by simpa using hf) h1
 cases hq:P.info? elem with
 | none=>simp [hq] at hs
 | some i=>
  have hi:i.size=2:=by simpa [hq] using hs
  simp [Builtin.copy_,run_underlying hu,Builtin.lenOf,Builtin.firstCells,sizeOf,typeInfo,hq,hi,<- hn,hl,aa]
theorem QbU {g:Nat} {e:TypeId}:∀ (vs:List Value) (o:Nat) (w:World) (cur:Array Value),w.heap[g]?=some (.cells cur e (0,0))->∃ cur':Array Value,(w.setCells g o vs).heap[g]?=some (.cells cur' e (0,0))/\cur'.size=cur.size/\∀ j,cur'[j]?=if o<=j/\j<o+vs.length/\j<cur.size then vs[j - o]? else cur[j]?
 | [],o,w,cur,h=>⟨cur,h,rfl,fun j=>by rw [if_neg (by simp;omega)]⟩
 | v :: r,o,w,cur,h=>by
  have h1:(w.setCell ⟨g,o,none⟩ v).heap[g]?=some (.cells (cur.setIfInBounds o v) e (0,0)):=ZZl w g o _ _ v h;obtain ⟨cur',h2,h3,h4⟩:=QbU r (o+1) _ _ h1;refine ⟨cur',h2,by rw [h3];simp,fun j=>?_⟩;rw [h4 j];simp only [Array.size_setIfInBounds,List.length_cons];by_cases hj:j<cur.size
  ·by_cases e1:j=o
   ·subst e1
    rw [if_neg (by omega),if_pos (by omega)];simp [hj]
   ·by_cases e2:o+1<=j/\j<o+1+r.length
    ·rw [if_pos (by omega),if_pos (by omega),show j - o=(j - (o+1))+1 by omega];simp
    ·rw [if_neg (by omega),if_neg (by omega)]
     simp [Array.getElem?_setIfInBounds,Ne.symm e1]
  ·rw [if_neg (by omega),if_neg (by omega)]
   rw [Array.getElem?_eq_none (by simp;omega),Array.getElem?_eq_none (by omega)]
theorem QbG (g:Nat):∀ (vs:List Value) (o:Nat) (w:World),w.grownBy (w.setCells g o vs) (some g)
 | [],o,w=>World.grownBy.refl _ _
 | v :: r,o,w=>(Qau w g o v).trans (QbG g r (o+1) _)
def Qe3 (L:List Bn) (i:Nat) (x:Bn):List Bn:=L.take i ++ x :: L.drop i
theorem QgF (L:List Bn) (i:Nat) (x:Bn) (h:i<=L.length):(Qe3 L i x).length=L.length+1:=by simp [Qe3];omega
theorem Qpm (L:List Bn) (i:Nat) (x:Bn):fl QaL (Qe3 L i x)=fl QaL (L.take i) ++ (QaL x ++ fl QaL (L.drop i)):=by
 rw [Qe3,Qm9,Qcs]
theorem Qnx {α:Type} {e:α->List Value} (he:∀ x,(e x).length=2):∀ (L:List α) (i:Nat),fl e (L.take i)=(fl e L).take (i*2)
 | [],i=>by simp [fl]
 | x :: L,0=>by simp [fl]
 | x :: L,i+1=>by
  rw [List.take_succ_cons,Qcs,Qcs,Qnx he L i,List.take_append,he,show List.take ((i+1)*2) (e x)=e x from List.take_of_length_le (by rw [he];omega),show (i+1)*2 - 2=i*2 by omega]
theorem QiO {α:Type} {e:α->List Value} (he:∀ x,(e x).length=2):∀ (L:List α) (i:Nat),fl e (L.drop i)=(fl e L).drop (i*2)
 | [],i=>by simp [fl]
 | x :: L,0=>by simp [fl]
 | x :: L,i+1=>by
  rw [List.drop_succ_cons,Qcs,QiO he L i,List.drop_append,he,show List.drop ((i+1)*2) (e x)=[] from List.drop_of_length_le (by rw [he];omega),show (i+1)*2 - 2=i*2 by omega];rfl
theorem Qjk {L:List Bn} {i n cap:Nat} {x:Bn} {c1:Array Value} (hn:n=L.length) (hi:i<=n) (hcap:n+1<=cap) (hsz:c1.size=cap*2)
  (h:∀ j,j<(n+1)*2->c1[j]?=if j<i*2 then (fl QaL L)[j]? else if j<i*2+2 then (QaL x)[j - i*2]? else (fl QaL L)[j - 2]?) :
  c1.toList.take ((n+1)*2)=fl QaL (Qe3 L i x):=by
 have hl:=QcO Qbx L;refine List.ext_getElem? fun j=>?_;by_cases hj:j<(n+1)*2
 ·rw [List.getElem?_take,if_pos hj,Array.getElem?_toList,h j hj,Qpm,Qnx Qbx,QiO Qbx]
  have ht:((fl QaL L).take (i*2)).length=i*2:=by rw [List.length_take];omega
  split
  ·rename_i h1;rw [List.getElem?_append_left (by omega),List.getElem?_take,if_pos h1]
  ·rename_i h1
   rw [List.getElem?_append_right (by omega),ht]
   split
   ·rename_i h2;rw [List.getElem?_append_left (by rw [Qbx];omega)]
   ·rename_i h2;rw [List.getElem?_append_right (by rw [Qbx];omega),Qbx,List.getElem?_drop,show i*2+(j - i*2 - 2)=j - 2 by omega]
 ·rw [List.getElem?_eq_none (by rw [List.length_take];omega),List.getElem?_eq_none (by rw [QcO Qbx,QgF _ _ _ (by omega)];omega)]
theorem Qf0 (L:List Bn) (k:Nat):∀ u∈(fl QaL L).drop k,u.oneCell'=true:=fun u hu=>QfM L u (ZZp hu)
theorem QqU {w:World} {B n vb:Nat} {v:Value} {L:List Bn} {a u:Int} (hn:n=L.length) (hl:n<=1000) (hO:w.ownsRow B 199 2 v n (fl QaL L)) (hB:B<=w.heap.size)
  (hv:w.heap[vb]?=some (.cells #[.int .i64 a,.int .u64 u] 199 (0,0))) :
  Calls Tryz.prog 301 #[v,.int .i64 n,.slice (some ⟨vb,0,none⟩) 1 1] w fun e w'=>∃ v',e=.returned v'/\w'.ownsRow B 199 2 v' (n+1) (fl QaL (Qe3 L n (a,u)))/\w.grownBy w' v.ownBlock:=by
 obtain ⟨i0,hi,af,ad,ae⟩:=info_parts QgE
 have hc:∀ j q,(QaL (a,u))[j]?=some q->w.cell? ((⟨vb,0,none⟩:Addr).add j)=some q:=fun j q hj=>by
  rw [Addr.add_lit,Nat.zero_add,cell_of_row w vb j _ _ (0,0) hv];simpa [QaL] using hj
 have HE:Hid (fl QaL L ++ QaL (a,u)=fl QaL (Qe3 L n (a,u))):=by
  refine (?_:fl QaL L ++ QaL (a,u)=fl QaL (Qe3 L n (a,u)));rw [Qe3,hn,List.take_length,List.drop_length,Qm9,Qp0]
 have HC:=Qaa hc;have HO:=Qaa hO;obtain ⟨ao,c,rfl⟩:=Qam hO;rcases hO.2 with ⟨e,e0⟩ | ⟨g,ai,ah,e,h1,h2,h3,h4,h5,h6⟩
 ·cases e
  have ag:=Qaa hn;clear hO hc hv e0 hn;go_enter Tryz.func301,Tryz.ntmps301;go_wp2_with (at_builtin;refine wpList_append_own _ rfl (.tmp 23) (.tmp 24) 41 rfl B 199 i0 (.agg #[.int .i64 0,.int .u64 0]) 2 16 Tryz.underlying41 hi af ad ae rfl (by decide) _ _ _ rfl HO ⟨vb,0,none⟩ 1 1 (QaL (a,u)) rfl rfl HC (Qb5 _) (by unfold maxLen;omega) (by omega) hB ?_;intro v1 w1 ab aa ac;have O1:=Qaa ab;have G1:=Qaa aa;clear ab aa ac);go_ret;exact ⟨v1,rfl,by rw [<- HE.out];exact O1.out,G1⟩
 ·cases e
  have ag:=Qaa hn;clear hO hc hv h2 h6 hn;go_enter Tryz.func301,Tryz.ntmps301;go_wp2_with (at_builtin;refine wpList_append_own _ rfl (.tmp 23) (.tmp 24) 41 rfl B 199 i0 (.agg #[.int .i64 0,.int .u64 0]) 2 16 Tryz.underlying41 hi af ad ae rfl (by decide) _ _ _ rfl HO ⟨vb,0,none⟩ 1 1 (QaL (a,u)) rfl rfl HC (Qb5 _) (by unfold maxLen;omega) (by omega) hB ?_;intro v1 w1 ab aa ac;have O1:=Qaa ab;have G1:=Qaa aa;clear ab aa ac)
  all_goals
   go_ret;exact ⟨v1,rfl,by rw [<- HE.out];exact O1.out,G1⟩
theorem Qnq {w:World} {B n vb g c i:Nat} {L:List Bn} {a u:Int} (hn:n=L.length) (hl:n<=1000) (hin:i<n) (hroom:n+1<=c) (hO:w.ownsRow B 199 2 (.slice (some ⟨g,0,none⟩) n c) n (fl QaL L)) (hB:B<=w.heap.size) (hne:vb≠g)
  (hv:w.heap[vb]?=some (.cells #[.int .i64 a,.int .u64 u] 199 (0,0))) :
  Calls Tryz.prog 301 #[.slice (some ⟨g,0,none⟩) n c,.int .i64 i,.slice (some ⟨vb,0,none⟩) 1 1] w fun e w'=>∃ v',e=.returned v'/\w'.ownsRow B 199 2 v' (n+1) (fl QaL (Qe3 L i (a,u)))/\w.grownBy w' (some g):=by
 rcases hO.2 with ⟨e,_⟩ | ⟨g',aC,ad,e,h1,h2,h3,h4,h5,h6⟩
 ·cases e
 cases e
 have ab:=QcO Qbx L;have av:c<=9223372036854775807:=h4;have am:(Tryz.prog.info? 199).map (·.size)=some 2:=by kernel_rfl
 have aa:∀ j,w.cell? ⟨g,j,none⟩=ad[j]?:=fun j=>cell_of_row w g j _ _ (0,0) h2;have aj:∀ j,w.frozen? ⟨g,j,none⟩=false:=fun j=>frozen_of_row w g j _ _ h2
 have ae:∀ j q,(fl QaL L)[j]?=some q->ad[j]?=some q:=fun j q hq=>by
  rw [<- h6,List.getElem?_take] at hq
  split at hq
  ·rwa [Array.getElem?_toList] at hq
  ·cases hq
 have al:w.shape? vb=some (199,2):=by simp [World.shape?,hv]
 have ai:w.shape? g=some (199,c*2):=by simp [World.shape?,h2,h5]
 have ar:∀ lb cb,(callFunc 302 #[.slice (some ⟨vb,0,none⟩) 1 1,.slice (some ⟨g,(i+1)*2,none⟩) lb cb]).run Tryz.prog w=.ok (.value (.bool false)) w:=fun lb cb=>by
  rw [run_callFunc_extern Tryz.func302 (by kernel_rfl) (by kernel_rfl) (by kernel_rfl) (e:=Extern.SlicesOverlaps.overlaps #[41,41] #[4]) (by kernel_rfl),
   Lib.run_overlaps_apart w 41 4 199 Tryz.underlying41 2 Tryz.sizeOf199 ⟨vb,0,none⟩ ⟨g,(i+1)*2,none⟩ 1 1 lb cb hne 199 199 2 (c*2) al ai (by omega) (frozen_of_row w vb 0 _ _ hv) (frozen_of_row w vb 2 _ _ hv)]
  rfl
 have au:¬ (c=i+1):=by omega
 have aq:¬ (c=i):=by omega
 have an:((fl QaL L).drop (i*2)).length=(n - i)*2:=by rw [List.length_drop,ab];omega
 have ac:∀ ty dc sc,(Builtin.copy_ #[41,41] ty #[.slice (some ⟨g,(i+1)*2,none⟩) (n - i) dc,.slice (some ⟨g,i*2,none⟩) (n+1 - i) sc]).run Tryz.prog w.drew=.ok (goInt (Nat.min (n+1 - i) (n - i))) (w.drew.setCells g ((i+1)*2) ((fl QaL L).drop (i*2))):=fun ty dc sc=>
  QcG w.drew _ _ ty 199 g ((i+1)*2) (n - i) dc ⟨g,i*2,none⟩ (n+1 - i) sc ((fl QaL L).drop (i*2)) Tryz.underlying41 am (by rw [an];simp only [Nat.min_def];split <;> omega)
   (fun q x hq=>by rw [Addr.add_lit];exact (aa _).trans (ae (i*2+q) x (by rwa [List.getElem?_drop] at hq)))
   (fun q hq=>by have:w.drew.cell? ⟨g,(i+1)*2+q,none⟩=ad[(i+1)*2+q]?:=aa _;rw [this,Array.getElem?_eq_getElem (by omega)];rfl) (fun q hq=>aj _) (Qf0 L _)
 obtain ⟨W1,af⟩:∃ W1,W1=w.drew.setCells g ((i+1)*2) ((fl QaL L).drop (i*2)):=⟨_,rfl⟩;obtain ⟨c1,k1,k2,k3⟩:=QbU (e:=199) ((fl QaL L).drop (i*2)) ((i+1)*2) w.drew ad h2;have g1:=QbG g ((fl QaL L).drop (i*2)) ((i+1)*2) w.drew;rw [<- af] at k1 ac g1;have ah:W1.heap[vb]?=some (.cells #[.int .i64 a,.int .u64 u] 199 (0,0)):=by rw [g1.block vb (Array.getElem?_eq_some_iff.1 hv).1 (fun e=>hne (Option.some.inj e))];exact hv
 have ag:∀ (W:World),(∀ x,W.cell? x=W1.cell? x)->(∀ x,W.frozen? x=W1.frozen? x)->∀ ty dc,(Builtin.copy_ #[41,41] ty #[.slice (some ⟨g,i*2,none⟩) (n+1 - i) dc,.slice (some ⟨vb,0,none⟩) 1 1]).run Tryz.prog W=.ok (goInt (Nat.min 1 (n+1 - i))) (W.setCells g (i*2) (QaL (a,u))):=fun W hWc hWf ty dc=>
  QcG W _ _ ty 199 g (i*2) (n+1 - i) dc ⟨vb,0,none⟩ 1 1 (QaL (a,u)) Tryz.underlying41 am (by rw [Qbx];simp only [Nat.min_def];split <;> omega)
   (fun q x hq=>by rw [Addr.add_lit,Nat.zero_add,hWc,cell_of_row W1 vb q _ _ (0,0) ah];simpa [QaL] using hq)
   (fun q hq=>by rw [hWc,cell_of_row W1 g _ _ _ (0,0) k1,Array.getElem?_eq_getElem (by rw [Qbx] at hq;omega)];rfl)
   (fun q hq=>by rw [hWf];exact frozen_of_row W1 g _ _ _ k1) (Qb5 _)
 obtain ⟨c2,m1,m2,m3⟩:=QbU (e:=199) (QaL (a,u)) (i*2) W1 c1 k1;have g2:=QbG g (QaL (a,u)) (i*2) W1
 have ao:((W1.setCells g (i*2) (QaL (a,u))).ownsRow B 199 2 (.slice (some ⟨g,0,none⟩) (n+1) c) (n+1) (fl QaL (Qe3 L i (a,u)))/\w.grownBy (W1.setCells g (i*2) (QaL (a,u))) (some g)):=by
  refine ⟨⟨?_,.inr ⟨g,c,c2,rfl,h1,m1,hroom,h4,by omega,?_⟩⟩,?_⟩
  ·rw [QcO Qbx,QgF _ _ _ (by omega),hn]
  ·refine Qjk hn (by omega) hroom (by omega) (fun j hj=>?_)
   rw [m3 j];have e2:(QaL (a,u)).length=2:=rfl;by_cases q1:j<i*2
   ·rw [if_neg (by omega),if_pos q1,k3 j,if_neg (by omega)]
    obtain ⟨x,hx⟩:∃ x,(fl QaL L)[j]?=some x:=⟨_,ZZe (by omega)⟩;rw [hx];exact ae j x hx
   ·by_cases q2:j<i*2+2
    ·rw [if_pos (by omega),if_neg q1,if_pos q2]
    ·rw [if_neg (by omega),if_neg q1,if_neg q2,k3 j,if_pos (by omega),List.getElem?_drop,show i*2+(j - (i+1)*2)=j - 2 by omega]
  ·exact World.grownBy.trans ⟨g1.os,g1.tape,g1.output,g1.size,g1.block⟩ g2
 have ap:=Qaa ao;have aw:IntKind.i64.wrap ((i:Int)+1)=(i:Int)+1:=by rw [IntKind.wrap_i64];omega
 have ay:(0:Int)<=(i:Int)+1:=by omega
 have aD:((i:Int)+1).toNat=i+1:=by omega
 have ax:(i:Int)<=(n:Int):=by omega
 have az:(i:Int)<=(n:Int)+1:=by omega
 have ak:Tryz.prog.follows Departure.mixedOrders=true:=by kernel_rfl
 clear ao;have aA:=Qaa af;have aB:((i:Int) == (n:Int))=false:=ZZf.2 (by omega);clear hn hO hB hv h6 h1 h2 h3 h5 ab aa aj ae al ai an k1 k2 k3 g1 ah m1 m2 m3 g2 af h4;go_enter Tryz.func301,Tryz.ntmps301;go_wp2_with (simp only [ar])
 go_region_law_o (refine step_copy_runI rfl _ _ 41 41 rfl _ _ (by simp [Act.eval,Act.put]) (by simp [Act.eval,Act.put]) (ac _ _ _) ?_)
 go_wp2_with (at_builtin;refine wpList_copy_runI _ rfl _ _ 41 41 rfl _ _ rfl rfl (ag _ (fun _=>rfl) (fun _=>rfl) _ _) ?_);go_ret;exact ⟨_,rfl,ap⟩
theorem Qo0 {w:World} {B n vb g c i:Nat} {L:List Bn} {a u:Int} (hn:n=L.length) (hl:n<=1000) (hin:i<n) (hroom:c<n+1) (hO:w.ownsRow B 199 2 (.slice (some ⟨g,0,none⟩) n c) n (fl QaL L)) (hB:B<=w.heap.size)
  (hv:w.heap[vb]?=some (.cells #[.int .i64 a,.int .u64 u] 199 (0,0))) :
  Calls Tryz.prog 301 #[.slice (some ⟨g,0,none⟩) n c,.int .i64 i,.slice (some ⟨vb,0,none⟩) 1 1] w fun e w'=>∃ v',e=.returned v'/\w'.ownsRow B 199 2 v' (n+1) (fl QaL (Qe3 L i (a,u)))/\w.grownBy w' (some g):=by
 obtain ⟨i0,aN,aQ,aP,av⟩:=info_parts QgE;rcases hO.2 with ⟨e,_⟩ | ⟨g',aV,ar,e,h1,h2,h3,h4,h5,h6⟩
 ·cases e
 cases e
 have ag:=QcO Qbx L;have aC:(Tryz.prog.info? 199).map (·.size)=some 2:=by kernel_rfl
 have ac:∀ j,w.cell? ⟨g,j,none⟩=ar[j]?:=fun j=>cell_of_row w g j _ _ (0,0) h2
 have ao:∀ j q,(fl QaL L)[j]?=some q->w.cell? ⟨g,j,none⟩=some q:=fun j q hq=>by
  rw [ac];rw [<- h6,List.getElem?_take] at hq
  split at hq
  ·rwa [Array.getElem?_toList] at hq
  ·cases hq
 have aw:g<w.heap.size:=(ZZc.1 h2).1;have aO:vb<w.heap.size:=(ZZc.1 hv).1;have au:(n:Int)+1 - (i:Int)=((n+1 - i:Nat):Int):=by omega
 have an:i+(n+1 - i)=n+1:=by omega
 have aj:((fl QaL L).take (i*2)).length=i*2:=by rw [List.length_take];omega
 have ah:(Builtin.firstCells i0.size i (.slice (some ⟨g,0,none⟩) i c)).run Tryz.prog w.drew=.ok ((fl QaL L).take (i*2)).toArray w.drew:=by
  rw [aP]
  exact run_firstCells_some w.drew 2 i ⟨g,0,none⟩ i c ((fl QaL L).take (i*2)) aj (fun j v hj=>by
   rw [Addr.add_lit,Nat.zero_add];rw [List.getElem?_take] at hj
   split at hj
   ·exact ao j v hj
   ·cases hj)
 obtain ⟨G,hG⟩:∃ G,G=grownCap w (n+1) c 199:=⟨_,rfl⟩;obtain ⟨aa,ab⟩:∃ aa:Array Value,aa=((fl QaL L).take (i*2)).toArray ++ Builtin.zeroCells (Value.agg #[.int .i64 0,.int .u64 0]).cells (n+1 - i) ++ Builtin.zeroCells (Value.agg #[.int .i64 0,.int .u64 0]).cells (G - (n+1)):=⟨_,rfl⟩
 have aJ:∀ ty,(Builtin.append_ #[41,3] ty #[.slice (some ⟨g,0,none⟩) i c,.int .i64 ((n:Int)+1 - (i:Int))]).run Tryz.prog w=.ok (.slice (some ⟨w.heap.size,0,none⟩) (n+1) G) (w.drew.alloc (.cells aa 199)):=fun ty=>by
  have h:=Lib.run_append_grow_zeros w 41 3 ty 199 i0 _ .i64 .i64 Tryz.underlying41 Tryz.underlying3 aN aQ (some ⟨g,0,none⟩) i c ((fl QaL L).take (i*2)) ah (n+1 - i) (by omega) (by omega) (by omega) (by omega) (by rw [av];omega) (by rw [av,an];exact growslice_fits hroom (by omega));rw [an] at h;rw [au,ab,hG];exact h
 have ax:n+1<=G:=by rw [hG];exact grownCap_ge w _ _ _
 have ay:G<=maxLen:=by rw [hG];exact grownCap_le_maxLen w (n+1) c 199 (by unfold maxLen;omega)
 have aG:G<=9223372036854775807:=ay
 have aM:aa.size=G*2:=by
  rw [ab];simp only [Array.size_append,List.size_toArray,aj,size_zeroCells];have e:(Value.agg #[.int .i64 0,.int .u64 0]).cells.size=2:=rfl;rw [e];omega
 have aB:∀ j,j<i*2->aa[j]?=(fl QaL L)[j]?:=fun j hj=>by
  rw [ab,Array.append_assoc,Array.getElem?_append_left (by simp [aj,hj]),List.getElem?_toArray,List.getElem?_take,if_pos hj]
 obtain ⟨W1,aq⟩:∃ W1,W1=w.drew.alloc (.cells aa 199):=⟨_,rfl⟩;have ak:W1.heap[w.heap.size]?=some (.cells aa 199 (0,0)):=by rw [aq];exact ZZk w.drew _
 have ad:Below w.heap.size w W1:=by rw [aq];exact ((ZZb w.heap.size w).drew).alloc (ZZa _) _
 have az:W1.heap[vb]?=some (.cells #[.int .i64 a,.int .u64 u] 199 (0,0)):=by rw [ad.block vb aO];exact hv
 have al:∀ (W:World),(∀ x,W.cell? x=W1.cell? x)->(∀ x,W.frozen? x=W1.frozen? x)->∀ ty dc,(Builtin.copy_ #[41,41] ty #[.slice (some ⟨w.heap.size,i*2,none⟩) (n+1 - i) dc,.slice (some ⟨vb,0,none⟩) 1 1]).run Tryz.prog W=.ok (goInt (Nat.min 1 (n+1 - i))) (W.setCells w.heap.size (i*2) (QaL (a,u))):=fun W hWc hWf ty dc=>
  QcG W _ _ ty 199 w.heap.size (i*2) (n+1 - i) dc ⟨vb,0,none⟩ 1 1 (QaL (a,u)) Tryz.underlying41 aC (by rw [Qbx];simp only [Nat.min_def];split <;> omega)
   (fun q x hq=>by rw [Addr.add_lit,Nat.zero_add,hWc,cell_of_row W1 vb q _ _ (0,0) az];simpa [QaL] using hq)
   (fun q hq=>by rw [hWc,cell_of_row W1 w.heap.size _ _ _ (0,0) ak,Array.getElem?_eq_getElem (by rw [Qbx] at hq;omega)];rfl)
   (fun q hq=>by rw [hWf];exact frozen_of_row W1 w.heap.size _ _ _ ak) (Qb5 _)
 obtain ⟨c1,k1,k2,k3⟩:=QbU (e:=199) (QaL (a,u)) (i*2) W1 aa ak;obtain ⟨W2,am⟩:∃ W2,W2=W1.setCells w.heap.size (i*2) (QaL (a,u)):=⟨_,rfl⟩;have g1:=QbG w.heap.size (QaL (a,u)) (i*2) W1;rw [<- am] at k1 g1
 have af:∀ j q,(fl QaL L)[j]?=some q->W2.cell? ⟨g,j,none⟩=some q:=fun j q hq=>by
  have e1:W2.heap[g]?=some (.cells ar 199 (0,0)):=by rw [g1.block g (Nat.lt_of_lt_of_le aw ad.size) (fun e=>by have:=Option.some.inj e;omega),ad.block g aw];exact h2
  rw [cell_of_row W2 g j _ _ (0,0) e1,<- ac];exact ao j q hq
 have aD:((fl QaL L).drop (i*2)).length=(n - i)*2:=by rw [List.length_drop,ag];omega
 have ap:∀ (W:World),(∀ x,W.cell? x=W2.cell? x)->(∀ x,W.frozen? x=W2.frozen? x)->∀ ty dc sc,(Builtin.copy_ #[41,41] ty #[.slice (some ⟨w.heap.size,(i+1)*2,none⟩) (n - i) dc,.slice (some ⟨g,i*2,none⟩) (n - i) sc]).run Tryz.prog W=.ok (goInt (Nat.min (n - i) (n - i))) (W.setCells w.heap.size ((i+1)*2) ((fl QaL L).drop (i*2))):=fun W hWc hWf ty dc sc=>
  QcG W _ _ ty 199 w.heap.size ((i+1)*2) (n - i) dc ⟨g,i*2,none⟩ (n - i) sc ((fl QaL L).drop (i*2)) Tryz.underlying41 aC (by rw [aD];simp only [Nat.min_def];split <;> omega)
   (fun q x hq=>by rw [Addr.add_lit,hWc];exact af (i*2+q) x (by rwa [List.getElem?_drop] at hq))
   (fun q hq=>by rw [hWc,cell_of_row W2 w.heap.size _ _ _ (0,0) k1,Array.getElem?_eq_getElem (by omega)];rfl)
   (fun q hq=>by rw [hWf];exact frozen_of_row W2 w.heap.size _ _ _ k1) (Qf0 L _)
 obtain ⟨c2,m1,m2,m3⟩:=QbU (e:=199) ((fl QaL L).drop (i*2)) ((i+1)*2) W2 c1 k1;have g2:=QbG w.heap.size ((fl QaL L).drop (i*2)) ((i+1)*2) W2
 have aE:((W2.setCells w.heap.size ((i+1)*2) ((fl QaL L).drop (i*2))).ownsRow B 199 2 (.slice (some ⟨w.heap.size,0,none⟩) (n+1) G) (n+1) (fl QaL (Qe3 L i (a,u)))/\w.grownBy (W2.setCells w.heap.size ((i+1)*2) ((fl QaL L).drop (i*2))) (some g)):=by
  refine ⟨⟨?_,.inr ⟨w.heap.size,G,c2,rfl,hB,m1,ax,ay,by omega,?_⟩⟩,?_⟩
  ·rw [QcO Qbx,QgF _ _ _ (by omega),hn]
  ·refine Qjk hn (by omega) ax (by omega) (fun j hj=>?_)
   rw [m3 j];have e2:(QaL (a,u)).length=2:=rfl;by_cases q1:j<i*2
   ·rw [if_neg (by omega),if_pos q1,k3 j,if_neg (by omega)];exact aB j q1
   ·by_cases q2:j<i*2+2
    ·rw [if_neg (by omega),if_neg q1,if_pos q2,k3 j,if_pos (by omega)]
    ·rw [if_pos (by omega),if_neg q1,if_neg q2,List.getElem?_drop,show i*2+(j - (i+1)*2)=j - 2 by omega]
  ·have ai:Below w.heap.size w (W2.setCells w.heap.size ((i+1)*2) ((fl QaL L).drop (i*2))):=(ad.grown g1 ad.size (fun k e=>by cases e;exact ZZa _)).grown g2 (Nat.le_trans ad.size g1.size) (fun k e=>by cases e;exact ZZa _)
   exact ⟨ai.os,ai.tape,ai.output,ai.size,fun k hk _=>ai.block k hk⟩
 have ae:=Qaa aE;have aR:=Qaa am;have aS:IntKind.i64.wrap ((i:Int)+1)=(i:Int)+1:=by rw [IntKind.wrap_i64];omega
 have a2:(0:Int)<=(i:Int)+1:=by omega
 have aU:((i:Int)+1).toNat=i+1:=by omega
 have aZ:(i:Int)<=(n:Int):=by omega
 have aX:(i:Int)<=(n:Int)+1:=by omega
 have aY:(c:Int)<(n:Int)+1:=by omega
 have aW:¬ (G=i):=by omega
 have aI:¬ (G=i+1):=by omega
 have aT:¬ (c=i):=by omega
 have a0:i<=c:=by omega
 have aA:Tryz.prog.follows Departure.mixedOrders=true:=by kernel_rfl
 have a1:((i:Int) == (n:Int))=false:=ZZf.2 (by omega);subst aq;have aK:∀ x,((w.alloc (.cells aa 199)).drew).cell? x=(w.drew.alloc (.cells aa 199)).cell? x:=fun x=>rfl;have aF:∀ x,((w.alloc (.cells aa 199)).drew).frozen? x=(w.drew.alloc (.cells aa 199)).frozen? x:=fun x=>rfl;subst am;clear aE hn hO hB hv h6 h1 h2 h3 h4 h5 ag ac ao ah ab hG aM aB aD k1 k2 k3 g1 az m1 m2 m3 g2 ak ad af au an aj aR;go_enter Tryz.func301,Tryz.ntmps301
 go_wp2_with (first
  | (at_builtin;refine Lib.wpList_append_run _ rfl _ _ _ _ rfl _ _ rfl rfl _ _ (aJ _) ?_)
  | (at_builtin;refine wpList_copy_runI _ rfl _ _ 41 41 rfl _ _ rfl rfl (al _ aK aF _ _) ?_))
 have aL:∀ x,(((w.alloc (.cells aa 199)).drew.setCells w.heap.size (i*2) (QaL (a,u))).drew).cell? x=((w.drew.alloc (.cells aa 199)).setCells w.heap.size (i*2) (QaL (a,u))).cell? x:=fun x=>rfl;have aH:∀ x,(((w.alloc (.cells aa 199)).drew.setCells w.heap.size (i*2) (QaL (a,u))).drew).frozen? x=((w.drew.alloc (.cells aa 199)).setCells w.heap.size (i*2) (QaL (a,u))).frozen? x:=fun x=>rfl
 go_region_law_o (refine step_copy_runI rfl _ _ 41 41 rfl (.slice (some ⟨w.heap.size,(i+1)*2,none⟩) (n - i) (G - (i+1))) (.slice (some ⟨g,i*2,none⟩) (n - i) (c - i)) (by simp [Act.eval,Act.put]) (by simp [Act.eval,Act.put]) (ap _ aL aH 3 (G - (i+1)) (c - i)) ?_)
 go_wp2;go_ret;refine ⟨_,rfl,?_⟩;rw [<- drew_setCells];exact ⟨ae.out.1,⟨ae.out.2.os,ae.out.2.tape,ae.out.2.output,ae.out.2.size,ae.out.2.block⟩⟩
theorem Qo6 {w:World} {B n vb i:Nat} {v:Value} {L:List Bn} {a u:Int} (hn:n=L.length) (hl:n<=1000) (hin:i<=n) (hO:w.ownsRow B 199 2 v n (fl QaL L)) (hB:B<=w.heap.size) (hne:v.ownBlock≠some vb)
  (hv:w.heap[vb]?=some (.cells #[.int .i64 a,.int .u64 u] 199 (0,0))) :
  Calls Tryz.prog 301 #[v,.int .i64 i,.slice (some ⟨vb,0,none⟩) 1 1] w fun e w'=>∃ v',e=.returned v'/\w'.ownsRow B 199 2 v' (n+1) (fl QaL (Qe3 L i (a,u)))/\w.grownBy w' v.ownBlock:=by
 by_cases h:i=n
 ·subst h;exact QqU hn hl hO hB hv
 ·obtain ⟨g,c,rfl⟩:=Qff hO (by omega)
  by_cases hr:n+1<=c
  ·exact Qnq hn hl (by omega) hr hO hB (fun e=>hne (by rw [e];rfl)) hv
  ·exact Qo0 hn hl (by omega) (by omega) hO hB hv
end Go.Proofs.YtandnmpllheniaaGreatDoor
namespace Go.Proofs.YtandnmpllheniaaGreatDoor
def QeQ (x:Bn):List Bn->List Bn
 | []=>[x]
 | y :: r=>if y.1<x.1 then y :: QeQ x r else if y.1=x.1 then (y.1,Qar y.2 x.2) :: r else x :: y :: r
theorem Qlb {y:Bn} {r:List Bn} {p:Int} {i:Nat} (h:Qkh (y :: r) p (i+1)):Qkh r p i:=
 ⟨by have:=h.1;simp at this;exact this,fun t x hx ht=>h.2.1 (t+1) x (by simpa using hx) (by omega),fun t x hx ht=>h.2.2 (t+1) x (by simpa using hx) (by omega)⟩
theorem Qi1 {a u a' u':Int}:∀ (L:List Bn) (i:Nat),Qkh L a i->L[i]?=some (a',u')->a'=a->QeQ (a,u) L=L.set i (a',Qar u' u)
 | [],i,_,h,_=>by simp at h
 | y :: r,0,hp,h,e=>by
  obtain rfl:y=(a',u'):=by simpa using h
  subst e;simp [QeQ]
 | y :: r,i+1,hp,h,e=>by
  have hy:=hp.2.1 0 y rfl (by omega);rw [QeQ,if_pos hy,Qi1 r i (Qlb hp) (by simpa using h) e];rfl
theorem Qkn {a u:Int}:∀ (L:List Bn) (i:Nat),Qkh L a i->(¬ ∃ x,L[i]?=some x/\x.1=a)->QeQ (a,u) L=L.take i ++ (a,u) :: L.drop i
 | [],i,hp,h=>by have:=hp.1;simp at this;subst this;rfl
 | y :: r,0,hp,h=>by
  have hy:=hp.2.2 0 y rfl (ZZa _);have hne:y.1≠a:=fun e=>h ⟨y,rfl,e⟩;rw [QeQ,if_neg (by show ¬ y.1<a;omega),if_neg hne];rfl
 | y :: r,i+1,hp,h=>by
  have hy:=hp.2.1 0 y rfl (by omega);rw [QeQ,if_pos hy,Qkn r i (Qlb hp) (by simpa using h)];rfl
theorem Qoa (x:Bn):∀ L:List Bn,L.length<=(QeQ x L).length/\(QeQ x L).length<=L.length+1
 | []=>by simp [QeQ]
 | y :: r=>by
  have:=Qoa x r;unfold QeQ
  split
  ·simp;omega
  ·split <;> simp
theorem rise_cons {y:Bn} {r:List Bn}:Qc6 (y :: r)↔(∀ x∈r,y.1<x.1)/\Qc6 r:=by
 constructor
 ·intro h
  refine ⟨fun x hx=>?_,fun i j a b ha hb aa=>h (i+1) (j+1) a b (by simpa using ha) (by simpa using hb) (by omega)⟩;obtain ⟨j,hj⟩:=List.getElem?_of_mem hx;exact h 0 (j+1) y x rfl (by simpa using hj) (by omega)
 ·rintro ⟨h1,h2⟩ i j a b ha hb aa
  cases i with
  | zero=>
   obtain rfl:y=a:=by simpa using ha
   cases j with
   | zero=>omega
   | succ j=>exact h1 b (List.mem_of_getElem? (by simpa using hb))
  | succ i=>
   cases j with
   | zero=>omega
   | succ j=>exact h2 i j a b (by simpa using ha) (by simpa using hb) (by omega)
theorem Qda:Qc6 []:=fun i j a b ha=>by simp at ha
theorem QkI {x:Bn}:∀ {L:List Bn} {z:Bn},z∈QeQ x L->z=x∨z∈L∨∃ y∈L,y.1=x.1/\z=(y.1,Qar y.2 x.2)
 | [],z,h=>by simp [QeQ] at h;exact .inl h
 | y :: r,z,h=>by
  unfold QeQ at h
  split at h
  ·rcases List.mem_cons.1 h with rfl | h
   ·exact .inr (.inl (List.mem_cons_self ..))
   ·rcases QkI h with h | h | ⟨q,hq,e,e2⟩
    ·exact .inl h
    ·exact .inr (.inl (ZZm _ h))
    ·exact .inr (.inr ⟨q,ZZm _ hq,e,e2⟩)
  ·split at h
   ·rename_i e
    rcases List.mem_cons.1 h with rfl | h
    ·exact .inr (.inr ⟨y,List.mem_cons_self ..,e,rfl⟩)
    ·exact .inr (.inl (ZZm _ h))
   ·rcases List.mem_cons.1 h with rfl | h
    ·exact .inl rfl
    ·exact .inr (.inl h)
theorem QgC {a b:Int} (ha:U64 a) (hb:U64 b):U64 (Qar a b):=by unfold Qar;unfold U64 at *; split <;> omega
theorem ins_ok {x:Bn} {L:List Bn} (hx:Qa8 x) (h:∀ y∈L,Qa8 y):∀ z∈QeQ x L,Qa8 z:=fun z hz=>by
 rcases QkI hz with rfl | h1 | ⟨y,hy,e,rfl⟩
 ·exact hx
 ·exact h z h1
 ·exact ⟨(h y hy).1,QgC (h y hy).2 hx.2⟩
theorem Qlk {x:Bn}:∀ {L:List Bn},Qc6 L->Qc6 (QeQ x L)
 | [],_=>by rw [QeQ];exact rise_cons.2 ⟨fun z hz=>by simp at hz,Qda⟩
 | y :: r,h=>by
  obtain ⟨h1,h2⟩:=rise_cons.1 h;unfold QeQ
  split
  ·rename_i hlt
   refine rise_cons.2 ⟨fun z hz=>?_,Qlk h2⟩;rcases QkI hz with rfl | hz | ⟨q,hq,e,rfl⟩
   ·exact hlt
   ·exact h1 z hz
   ·exact h1 q hq
  ·split
   ·exact rise_cons.2 ⟨fun z hz=>h1 z hz,h2⟩
   ·refine rise_cons.2 ⟨fun z hz=>?_,h⟩
    rcases List.mem_cons.1 hz with rfl | hz
    ·omega
    ·have:=h1 z hz;omega
def QaZ (L M:List Bn):List Bn:=M.foldl (fun s x=>QeQ x s) L
theorem QgT {L M:List Bn} {j:Nat} {x:Bn} (h:M[j]?=some x):QaZ L (M.take (j+1))=QeQ x (QaZ L (M.take j)):=by
 rw [List.take_add_one,h];simp [QaZ,List.foldl_append]
theorem Qfn:∀ {M L:List Bn},(∀ x∈M,Qa8 x)->(∀ x∈L,Qa8 x)->∀ z∈QaZ L M,Qa8 z
 | [],L,_,h=>h
 | x :: r,L,hM,hL=>Qfn (M:=r) (fun y hy=>hM y (ZZm _ hy)) (ins_ok (hM x (List.mem_cons_self ..)) hL)
theorem QcB:∀ {M L:List Bn},Qc6 L->Qc6 (QaZ L M)
 | [],L,h=>h
 | x :: r,L,h=>QcB (M:=r) (Qlk h)
theorem Qd9:∀ (M L:List Bn),(QaZ L M).length<=L.length+M.length
 | [],L=>by simp [QaZ]
 | x :: r,L=>by
  have h1:=Qd9 r (QeQ x L);have h2:=Qoa x L
  show (QaZ (QeQ x L) r).length<=_
  simp;omega
open Go.ChangeAt Go.ChangeShapes Go.Lib Go.PlainAid Go.RowKit Go.WideShapes
structure Gat (w:World) (B g:Nat) (v:Value) (n:Nat) (L:List Bn):Prop where
 blk:w.heap[g]?=some (.cells #[v,fnPl,QqN] 310 (0,0))
 own:w.ownsRow B 199 2 v n (fl QaL L)
 len:n=L.length
 hB:B<=g
theorem Gat.lt {w:World} {B g n:Nat} {v:Value} {L:List Bn} (h:Gat w B g v n L):g<w.heap.size:=(ZZc.1 h.blk).1
theorem Gat.ne {w:World} {B g n:Nat} {v:Value} {L:List Bn} (h:Gat w B g v n L):v.ownBlock≠some g:=fun e=>by
 obtain ⟨c,fz,hc⟩:=ownsRow_kind h.own g e;rw [h.blk] at hc
 cases hc
theorem Gat.cells {w:World} {B g n:Nat} {v:Value} {L:List Bn} (h:Gat w B g v n L):w.cell? ⟨g,0,none⟩=some v/\Qih w g:=
 ⟨by rw [cell_of_row w g 0 _ _ (0,0) h.blk];rfl,by rw [cell_of_row w g 1 _ _ (0,0) h.blk];rfl,by rw [cell_of_row w g 2 _ _ (0,0) h.blk];rfl⟩
theorem Gat.frozen {w:World} {B g n:Nat} {v:Value} {L:List Bn} (h:Gat w B g v n L) (j:Nat):w.frozen? ⟨g,j,none⟩=false:=frozen_of_row w g j _ _ h.blk
theorem Gat.past {w w':World} {B g n:Nat} {v:Value} {L:List Bn} (h:Gat w B g v n L) (hb:Below w.heap.size w w'):Gat w' B g v n L:=
 ⟨by rw [hb.block g h.lt];exact h.blk,QaU h.own hb,h.len,h.hB⟩
theorem c_put {w:World} {B g n:Nat} {v:Value} {L:List Bn} (a u:Int) (ha:I64 a) (hu:U64 u) (hL:Qc6 L) (hok:∀ x∈L,Qa8 x) (hl:n<=500) (h:Gat w B g v n L) :
  Calls Tryz.prog 297 #[.pointer (some ⟨g,0,none⟩),.agg #[.int .i64 a,.int .u64 u]] w fun e w'=>∃ r v' n',e=.returned r/\Gat w' B g v' n' (QeQ (a,u) L)/\Below B w w':=by
 obtain ⟨c0,cG⟩:=h.cells;have HH:=Qaa h;have HL:=Qaa hL;have HK:=Qaa hok;clear h hL hok;go_enter Tryz.func297,Tryz.ntmps297;go_wp2_with fail;generalize hW0:w.alloc (Obj.cells #[.int .i64 a,.int .u64 u] 199)=W0;have T0:Below w.heap.size w W0:=by rw [<- hW0];exact (ZZb _ _).alloc (ZZa _) _
 have A0:QaM W0 w.heap.size a u:=by rw [<- hW0];exact Qf3 w _ _ _
 have G0:W0.cell? ⟨g,0,none⟩=some v/\Qih W0 g:=⟨Qab T0 c0,Qdn cG T0⟩;clear hW0;have aB:=Qaa T0;have hC:∀ W,Below W0.heap.size W0 W->QaM W w.heap.size a u/\W.cell? ⟨g,0,none⟩=some v/\Qih W g:=fun W hW=>⟨QgW A0 hW,Qab hW G0.1,Qdn G0.2 hW⟩;have HC:=Qaa hC;clear T0 hC A0 G0 c0 cG
 go_region_held3 (fun W=>Qes W0.heap.size W0 W/\QaM W w.heap.size a u/\W.cell? ⟨g,0,none⟩=some v/\Qih W g)
  (first | exact ao | exact ⟨held (Below.refl _ _).drew (by simp),HC.out _ (Below.refl _ _).drew⟩)
  (first
   | (go_at_call 295;have hS:=(‹Qes _ _ _/\_›).1;refine (Qkj _ _ _).mono ?_;rintro e w6 ⟨rfl,am⟩;have ag:=(Qbn am hS).1;have ao:Qes W0.heap.size W0 w6/\_:=⟨held ag (ZZa _),HC.out _ ag⟩;clear am ag)
   | (go_at_call 299;have hS:=(‹Qes _ _ _/\_›).1;refine (Qpf _ HH.out.len (by omega) HL (HH.out.past (Qac aB hS.1)).own (HH.out.past (Qac aB hS.1)).cells.2).mono ?_;rintro e w7 ⟨i,f,rfl,ae,hf,am⟩;have ag:=(Qbn am hS).1;have ao:Qes W0.heap.size W0 w7/\_:=⟨held ag (ZZa _),HC.out _ ag⟩;clear am ag))
 all_goals
  have aj:=Qaa (Qac aB ao.1.1);have aQ:=Qaa ao.1.1;have aN:∀ W,Below w7.heap.size w7 W->QaM W w.heap.size a u/\W.cell? ⟨g,0,none⟩=some v/\Qih W g:=fun W hW=>HC.out W (Qac aQ hW);have ad:=Qaa aN;clear ao aN HC;have H7:=Qaa (HH.out.past aj)
  cases f with
  | true=>
   obtain ⟨⟨a',u'⟩,au,aI⟩:=hf.1 rfl;obtain ⟨_,aM⟩:=HK.out _ (ZZn au);obtain ⟨go,cc,e,aD,aA,aL,aP,_⟩:=Qkb H7.out.own H7.out.len au;subst e;have aX:i<n:=by have:=(ZZd.1 au).1;have:=H7.out.len;omega
   have aO:=Qaa au;have ab:=Qaa ae;clear hf au ae;simp only at aM;have aF:∀ W,Below w7.heap.size w7 W->QaM W w.heap.size a u/\W.cell? ⟨g,0,none⟩=some (.slice (some ⟨go,0,none⟩) n cc)/\Qih W g/\W.cell? ⟨go,i*2,none⟩=some (.int .i64 a')/\W.cell? ⟨go,i*2+1,none⟩=some (.int .u64 u')/\W.frozen? ⟨go,i*2,none⟩=false/\W.frozen? ⟨go,i*2+1,none⟩=false:=fun W hW=>⟨(ad.out W hW).1,(ad.out W hW).2.1,(ad.out W hW).2.2,Qab hW aD,Qab hW aA,by rw [Qb3 hW aD];exact aL,by rw [Qb3 hW aA];exact aP⟩;have ay:=Qaa aF;clear aF aD aA aL aP;go_wp2_with fail;have aa:(fun W=>Below w7.heap.size w7 W/\QaM W w.heap.size a u/\W.cell? ⟨g,0,none⟩=some (.slice (some ⟨go,0,none⟩) n cc)/\Qih W g/\W.cell? ⟨go,i*2,none⟩=some (.int .i64 a')/\W.cell? ⟨go,i*2+1,none⟩=some (.int .u64 u')/\W.frozen? ⟨go,i*2,none⟩=false/\W.frozen? ⟨go,i*2+1,none⟩=false) w7.drew:=⟨(ZZb _ _).drew,ay.out _ (ZZb _ _).drew⟩;refine Qaj (fun W=>Below w7.heap.size w7 W/\QaM W w.heap.size a u/\W.cell? ⟨g,0,none⟩=some (.slice (some ⟨go,0,none⟩) n cc)/\Qih W g/\W.cell? ⟨go,i*2,none⟩=some (.int .i64 a')/\W.cell? ⟨go,i*2+1,none⟩=some (.int .u64 u')/\W.frozen? ⟨go,i*2,none⟩=false/\W.frozen? ⟨go,i*2+1,none⟩=false) 19 (by kernel_rfl) ?_;refine tkL 0 (.pointer (some ⟨g,0,none⟩)) aa (fun W hW=>?_) ?_
   ·obtain ⟨_,⟨x0,x1⟩,x2,⟨x3,x4⟩,x5,x6,x7,x8⟩:=hW
    go_simp
   refine tkL 1 (.pointer (some ⟨g,0,none⟩)) aa (fun W hW=>?_) ?_
   ·obtain ⟨_,⟨x0,x1⟩,x2,⟨x3,x4⟩,x5,x6,x7,x8⟩:=hW
    go_simp
   refine tkL 2 (.pointer (some ⟨g,0,none⟩)) aa (fun W hW=>?_) ?_
   ·obtain ⟨_,⟨x0,x1⟩,x2,⟨x3,x4⟩,x5,x6,x7,x8⟩:=hW
    go_simp
   simp only [sX];refine tkL 3 (.slice (some ⟨go,0,none⟩) n cc) aa (fun W hW=>?_) ?_
   ·obtain ⟨_,⟨x0,x1⟩,x2,⟨x3,x4⟩,x5,x6,x7,x8⟩:=hW
    go_simp
   refine tkL 4 (.int .i64 i) aa (fun W hW=>?_) ?_
   ·obtain ⟨_,⟨x0,x1⟩,x2,⟨x3,x4⟩,x5,x6,x7,x8⟩:=hW
    go_simp
   refine tkL 5 (.pointer (some ⟨g,0,none⟩)) aa (fun W hW=>?_) ?_
   ·obtain ⟨_,⟨x0,x1⟩,x2,⟨x3,x4⟩,x5,x6,x7,x8⟩:=hW
    go_simp
   simp only [sX];refine tkL 6 (.pointer (some ⟨g,0,none⟩)) aa (fun W hW=>?_) ?_
   ·obtain ⟨_,⟨x0,x1⟩,x2,⟨x3,x4⟩,x5,x6,x7,x8⟩:=hW
    go_simp
   refine tkL 7 (.pointer (some ⟨g,2,none⟩)) aa (fun W hW=>?_) ?_
   ·obtain ⟨_,⟨x0,x1⟩,x2,⟨x3,x4⟩,x5,x6,x7,x8⟩:=hW
    go_simp
   refine tkL 8 QqN aa (fun W hW=>?_) ?_
   ·obtain ⟨_,⟨x0,x1⟩,x2,⟨x3,x4⟩,x5,x6,x7,x8⟩:=hW
    go_simp
   simp only [sX];refine tkL 9 (.pointer (some ⟨g,0,none⟩)) aa (fun W hW=>?_) ?_
   ·obtain ⟨_,⟨x0,x1⟩,x2,⟨x3,x4⟩,x5,x6,x7,x8⟩:=hW
    go_simp
   refine tkL 10 (.pointer (some ⟨g,0,none⟩)) aa (fun W hW=>?_) ?_
   ·obtain ⟨_,⟨x0,x1⟩,x2,⟨x3,x4⟩,x5,x6,x7,x8⟩:=hW
    go_simp
   refine tkL 11 (.pointer (some ⟨g,0,none⟩)) aa (fun W hW=>?_) ?_
   ·obtain ⟨_,⟨x0,x1⟩,x2,⟨x3,x4⟩,x5,x6,x7,x8⟩:=hW
    go_simp
   simp only [sX];refine tkL 12 (.slice (some ⟨go,0,none⟩) n cc) aa (fun W hW=>?_) ?_
   ·obtain ⟨_,⟨x0,x1⟩,x2,⟨x3,x4⟩,x5,x6,x7,x8⟩:=hW
    go_simp
   refine tkL 13 (.int .i64 i) aa (fun W hW=>?_) ?_
   ·obtain ⟨_,⟨x0,x1⟩,x2,⟨x3,x4⟩,x5,x6,x7,x8⟩:=hW
    go_simp
   refine tkL 14 (.pointer (some ⟨go,i*2,none⟩)) aa (fun W hW=>?_) ?_
   ·obtain ⟨_,⟨x0,x1⟩,x2,⟨x3,x4⟩,x5,x6,x7,x8⟩:=hW
    go_simp
   simp only [sX];refine tkL 15 (.agg #[.int .i64 a',.int .u64 u']) aa (fun W hW=>?_) ?_
   ·obtain ⟨_,⟨x0,x1⟩,x2,⟨x3,x4⟩,x5,x6,x7,x8⟩:=hW
    go_simp
   refine tkL 16 (.agg #[.int .i64 a,.int .u64 u]) aa (fun W hW=>?_) ?_
   ·obtain ⟨_,⟨x0,x1⟩,x2,⟨x3,x4⟩,x5,x6,x7,x8⟩:=hW
    go_simp
   simp only [sX];refine onE 17 fun K hK=>?_;go_simp;refine (Qp9 _ _ _ _ aM hu _).mono ?_;rintro e w8 ⟨rfl,ac⟩;dsimp only;refine hK.out _ _ (fun _=>⟨((ZZb _ _).drew).trans ac,ay.out _ (((ZZb _ _).drew).trans ac)⟩) ?_
   try simp only [sX]
   have ai:=Qaa (((ZZb w7.heap.size w7).drew).trans ac);obtain ⟨x0,x2,x3,x5,x6,x7,x8⟩:=ay.out _ ai;clear ac;refine onE 18 fun K hK=>?_;go_simp;refine hK.out _ _ (fun _=>⟨ai,ay.out _ ai⟩) ?_
   try simp only [sX]
   have oF:w8.ownsRow B 199 2 (.slice (some ⟨go,0,none⟩) n cc) n (fl QaL L):=(H7.out.past ai).own;have aJ:go≠g:=fun e=>H7.out.ne (by rw [e];rfl)
   have al:Gat ((w8.setCell ⟨go,i*2,none⟩ (.int .i64 a')).setCell ⟨go,i*2+1,none⟩ (.int .u64 (Qar u' u))) B g (.slice (some ⟨go,0,none⟩) n cc) n (QeQ (a,u) L)/\Below B w ((w8.setCell ⟨go,i*2,none⟩ (.int .i64 a')).setCell ⟨go,i*2+1,none⟩ (.int .u64 (Qar u' u))):=by
    have az:=(ZZd.1 aO).1;rw [Qi1 L i ab.out aO.out aI];refine ⟨⟨?_,?_,by rw [List.length_set];exact H7.out.len,H7.out.hB⟩,?_⟩
    ·rw [heap_setCell_other _ _ _ _ (by simpa using aJ.symm),heap_setCell_other _ _ _ _ (by simpa using aJ.symm)];exact (H7.out.past ai).blk
    ·have:=(((oF.stored (i*2) (.int .i64 a')).1).stored (i*2+1) (.int .u64 (Qar u' u))).1
     rwa [Qlp Qbx L i (a',Qar u' u) az rfl] at this
    ·have aE:=(Qlf oF).1
     exact (((aj.out.mono (Nat.le_trans HH.out.hB (Nat.le_of_lt HH.out.lt))).trans (ai.out.mono (Nat.le_trans (Nat.le_trans HH.out.hB (Nat.le_of_lt HH.out.lt)) aj.out.size))).setCell aE _).setCell aE _
   rw [aI] at al;have ar:=Qaa al;clear al oF;refine onE 19 fun K hK=>?_;go_simp;refine hK.out _ _ (fun h=>absurd rfl h) ?_
   try simp only [sX]
   refine dnE ?_ _;go_wp2;exact bodyPost_ret (v:=.tuple #[]) (by simp [results,Tryz.results297,go_sem]) rfl ⟨⟨_,rfl⟩,⟨_,_,ar.out.1⟩,ar.out.2⟩
  | false=>
   have HF:=Qaa (fun h=>by cases hf.2 h:¬ ∃ x,L[i]?=some x/\x.1=a);have ab:=Qaa ae;clear hf ae;have aa:(fun W=>QaM W w.heap.size a u/\W.cell? ⟨g,0,none⟩=some v/\W.frozen? ⟨g,0,none⟩=false) w7.drew:=⟨(ad.out _ (ZZb _ _).drew).1,(ad.out _ (ZZb _ _).drew).2.1,H7.out.frozen 0⟩;go_wp2_with fail;refine Qaj (fun W=>QaM W w.heap.size a u/\W.cell? ⟨g,0,none⟩=some v/\W.frozen? ⟨g,0,none⟩=false) 11 (by kernel_rfl) ?_;refine tkL 0 (.pointer (some ⟨g,0,none⟩)) aa (fun W hW=>?_) ?_
   ·obtain ⟨⟨x0,x1⟩,x2,x3⟩:=hW
    go_simp
   refine tkL 1 (.pointer (some ⟨g,0,none⟩)) aa (fun W hW=>?_) ?_
   ·obtain ⟨⟨x0,x1⟩,x2,x3⟩:=hW
    go_simp
   refine tkL 2 (.pointer (some ⟨g,0,none⟩)) aa (fun W hW=>?_) ?_
   ·obtain ⟨⟨x0,x1⟩,x2,x3⟩:=hW
    go_simp
   simp only [sX];refine tkL 3 (.pointer (some ⟨g,0,none⟩)) aa (fun W hW=>?_) ?_
   ·obtain ⟨⟨x0,x1⟩,x2,x3⟩:=hW
    go_simp
   refine tkL 4 v aa (fun W hW=>?_) ?_
   ·obtain ⟨⟨x0,x1⟩,x2,x3⟩:=hW
    go_simp
   refine tkL 5 (.int .i64 i) aa (fun W hW=>?_) ?_
   ·obtain ⟨⟨x0,x1⟩,x2,x3⟩:=hW
    go_simp
   simp only [sX];refine tkL 6 (.agg #[.int .i64 a,.int .u64 u]) aa (fun W hW=>?_) ?_
   ·obtain ⟨⟨x0,x1⟩,x2,x3⟩:=hW
    go_simp
   simp only [sX];refine onE 7 fun K hK=>?_;go_simp;have ak:∀ o,Below w7.heap.size w7 (w7.alloc o).drew:=fun o=>((ZZb _ _).alloc (ZZa _) o).drew;refine hK.out _ _ (fun _=>⟨(ad.out _ (ak _)).1,(ad.out _ (ak _)).2.1,(H7.out.past (ak _)).frozen 0⟩) ?_
   try simp only [sX]
   obtain ⟨WA,av⟩:∃ WA,WA=(w7.alloc (Obj.cells #[.int .i64 a,.int .u64 u] 199)).drew:=⟨_,rfl⟩;rw [<- av];have HA:=H7.out.past (ak (Obj.cells #[.int .i64 a,.int .u64 u] 199));have aG:WA.heap[w7.heap.size]?=some (.cells #[.int .i64 a,.int .u64 u] 199 (0,0)):=by rw [av];exact ZZk w7 _
   rw [<- av] at HA;have aK:Below w7.heap.size w7 WA:=by rw [av];exact ak _
   have aV:B<=w.heap.size:=Nat.le_trans HH.out.hB (Nat.le_of_lt HH.out.lt);have aT:v.ownBlock≠some w7.heap.size:=fun e=>by have:=(H7.out.own.lt _ e).2;omega
   have ap:=Qaa aK;have af:=Qaa HA;have aS:=Qaa aG;clear HA aG aK ak av;refine onE 8 fun K hK=>?_;go_simp;refine (Qo6 af.out.len (by omega) (by have:=ab.out.1;have:=af.out.len;omega) af.out.own (by have:=ap.out.size;have:=aj.out.size;omega) aT aS).mono ?_;rintro e w8 ⟨v',rfl,ax,aw⟩;dsimp only;obtain ⟨aq,an,rfl⟩:=Qam ax;have aW:some g≠v.ownBlock:=fun e=>af.out.ne e.symm;have ac:w8.heap[g]?=some (.cells #[v,fnPl,QqN] 310 (0,0)):=by rw [aw.block g af.out.lt aW];exact af.out.blk
   have ah:∀ j,w8.cell? ⟨w.heap.size,j,none⟩=WA.cell? ⟨w.heap.size,j,none⟩:=fun j=>by
    have az:w.heap.size<WA.heap.size:=by have:=World.block_lt_of_cell? _ _ (ad.out _ ap).1.1;exact this
    have aU:some w.heap.size≠v.ownBlock:=fun e=>by have:=(HH.out.own.lt _ e.symm).2;omega
    exact World.cell?_of_block (w:=WA) (aw.block _ az aU)
   have S8:QaM w8 w.heap.size a u/\w8.cell? ⟨g,0,none⟩=some v/\w8.frozen? ⟨g,0,none⟩=false:=⟨⟨by rw [ah];exact (ad.out _ ap).1.1,by rw [ah];exact (ad.out _ ap).1.2⟩,by rw [cell_of_row w8 g 0 _ _ (0,0) ac];rfl,frozen_of_row w8 g 0 _ _ ac⟩;refine gK hK S8 ?_
   try simp only [sX]
   have f8:=fzR 0 ac;have c8:w8.cell? ⟨g,0,none⟩=some v:=by rw [cell_of_row w8 g 0 _ _ (0,0) ac];rfl
   have al:Gat (w8.setCell ⟨g,0,none⟩ (.slice aq (n+1) an)) B g (.slice aq (n+1) an) (n+1) (QeQ (a,u) L)/\Below B w (w8.setCell ⟨g,0,none⟩ (.slice aq (n+1) an)):=by
    have aR:(Value.slice aq (n+1) an).ownBlock≠some g:=fun e=>by
     obtain ⟨c,fz,hc⟩:=ownsRow_kind ax g e;rw [ac] at hc
     cases hc
    have aC:(QeQ (a,u) L).length=n+1:=by
     rw [Qkn L i ab.out HF.out];have:=ab.out.1;have:=af.out.len;simp;omega
    refine ⟨⟨ZZl w8 g 0 _ _ (.slice aq (n+1) an) ac,?_,aC.symm,HH.out.hB⟩,?_⟩
    ·rw [Qkn L i ab.out HF.out]
     exact ownsRow_setCell_other ax aR _
    ·have h1:Below B w WA:=(aj.out.mono aV).trans (ap.out.mono (by have:=aj.out.size;omega))
     have h2:Below B w w8:=h1.grown aw (by have:=h1.size;omega) (fun k e=>(af.out.own.lt k e).1);exact h2.setCell HH.out.hB _
   have ar:=Qaa al;have aH:=Qaa S8;clear al ax aw ac ah S8;refine onE 9 fun K hK=>?_;go_simp;refine gK hK aH.out ?_
   try simp only [sX]
   refine onE 10 fun K hK=>?_;go_simp;refine gK hK aH.out ?_
   try simp only [sX]
   refine onE 11 fun K hK=>?_;go_simp;refine hK.out _ _ (fun h=>absurd rfl h) ?_
   try simp only [sX]
   refine dnE ?_ _;go_wp2;exact bodyPost_end (v:=.tuple #[]) (by simp [results,Tryz.results297,go_sem]) rfl ⟨_,_,_,rfl,ar.out.1,ar.out.2⟩
end Go.Proofs.YtandnmpllheniaaGreatDoor
