/-
 Contracts of WeightAdd, of the program and of its model: the sum, up to 2^64-1.
-/
import Derived.Test.YthpilcoklapooaaGreatDoorAJA
import Derived.Test.YthpilcoklapooaaGreatDoorAJD
namespace Go.Proofs.YthpilcoklapooaaGreatDoor
open Go.ChangeShapes Go.WideShapes Go.ChangeAt Go.RowKit
/-- The sum of two weights. -/
def wAdd (a b:Int):Int:=if 18446744073709551615<a+b then 18446744073709551615 else a+b
theorem ret_u64 {a b:Int} (h:a=b):Ending.returned (.int .u64 a)=.returned (.int .u64 b):=by rw [h]
theorem c_s_WeightAdd (a b:Int) (ha:U64 a) (hb:U64 b) (w:World) :
  Calls Tryz.prog 130 #[.int .u64 a,.int .u64 b] w fun e w'=>e=.returned (.int .u64 (wAdd a b))∧w'=w:=by
 have Ha:Hid (U64 a):=ha
 have Hb:Hid (U64 b):=hb
 clear ha hb
 go_enter Tryz.func130,Tryz.ntmps130
 go_wp2
 ·have h:=‹IntKind.u64.wrap (a+b)<a›
  have ha:=Ha.out;have hb:=Hb.out
  go_ret
  refine ⟨ret_u64 ?_,rfl⟩
  rw [IntKind.wrap_u64] at h;unfold U64 at ha hb;unfold wAdd;rw [if_pos (by omega)]
 ·have h:=‹a≤IntKind.u64.wrap (a+b)›
  have ha:=Ha.out;have hb:=Hb.out
  go_ret
  refine ⟨ret_u64 ?_,rfl⟩
  rw [IntKind.wrap_u64] at h ⊢; unfold U64 at ha hb;unfold wAdd;rw [if_neg (by omega)];omega
theorem c_i_WeightAdd (a b:Int) (ha:U64 a) (hb:U64 b) (w:World) :
  Calls Tryz.prog 61 #[.int .u64 a,.int .u64 b] w fun e w'=>e=.returned (.int .u64 (wAdd a b))∧w'=w:=by
 have k1:=fun w=>c_Add64 a b 0 ha.1 hb.1 (by omega) (by omega) w
 simp only [Int.add_zero] at k1
 have Ha:Hid (U64 a):=ha
 have Hb:Hid (U64 b):=hb
 clear ha hb
 go_enter Tryz.func61,Tryz.ntmps61
 go_wp2
 ·have h:=‹0<addC a b›
  have ha:=Ha.out;have hb:=Hb.out
  go_ret
  refine ⟨ret_u64 ?_,rfl⟩
  unfold addC at h;unfold U64 at ha hb;unfold wAdd;rw [if_pos (by omega)]
 ·have h:=‹addC a b≤0›
  have ha:=Ha.out;have hb:=Hb.out
  go_ret
  refine ⟨ret_u64 ?_,rfl⟩
  unfold addC at h;unfold uw;unfold U64 at ha hb;unfold wAdd;rw [if_neg (by omega)];omega
end Go.Proofs.YthpilcoklapooaaGreatDoor
/-
 Gathering bins, as the program does: the closures, comparing places, the search.
-/
namespace Go.Proofs.YthpilcoklapooaaGreatDoor
set_option linter.unusedVariables false
set_option linter.unusedSimpArgs false
open Go.ChangeShapes Go.WideShapes Go.ChangeAt Go.RowKit Go.PlainAid Go.Lib
set_option maxRecDepth 10000
theorem c_place (a u:Int) (w:World) :
  Calls Tryz.prog 311 #[.agg #[.int .i64 a,.int .u64 u]] w fun e w'=>e=.returned (.int .i64 a)∧Below w.heap.size w w':=by
 go_enter Tryz.func311,Tryz.ntmps311
 go_wp2
 go_ret
 exact ⟨rfl,(Below.refl _ _).alloc (Nat.le_refl _) _⟩
abbrev BinCell (w:World) (g:Nat) (a u:Int):Prop:=w.cell? ⟨g,0,none⟩=some (.int .i64 a)∧w.cell? ⟨g,1,none⟩=some (.int .u64 u)
theorem bc_past {w w':World} {g:Nat} {a u:Int} (h:BinCell w g a u) (hb:Below w.heap.size w w'):BinCell w' g a u:=⟨cell_past hb h.1,cell_past hb h.2⟩
theorem bc_new (w:World) (t:TypeId) (a u:Int):BinCell (w.alloc (.cells #[.int .i64 a,.int .u64 u] t)) w.heap.size a u:=by
 have hb:=heap_alloc_new w (.cells #[.int .i64 a,.int .u64 u] t)
 exact ⟨by rw [cell_of_row _ w.heap.size 0 _ _ (0,0) hb];rfl,by rw [cell_of_row _ w.heap.size 1 _ _ (0,0) hb];rfl⟩
set_option maxHeartbeats 1000000 in
theorem c_join (a u b v:Int) (hu:U64 u) (hv:U64 v) (w:World) :
  Calls Tryz.prog 312 #[.agg #[.int .i64 a,.int .u64 u],.agg #[.int .i64 b,.int .u64 v]] w fun e w'=>e=.returned (.agg #[.int .i64 a,.int .u64 (wAdd u v)])∧Below w.heap.size w w':=by
 go_enter Tryz.func312,Tryz.ntmps312
 go_wp2_with fail
 generalize hW0:(w.alloc (Obj.cells #[.int .i64 a,.int .u64 u] 188)).alloc (Obj.cells #[.int .i64 b,.int .u64 v] 188)=W0
 have T0:Below w.heap.size w W0:=by rw [← hW0];exact ((Below.refl _ _).alloc (Nat.le_refl _) _).alloc (by simp) _
 have A0:BinCell W0 w.heap.size a u:=by rw [← hW0];exact bc_past (bc_new w _ _ _) ((Below.refl _ _).alloc (Nat.le_refl _) _)
 have B0:BinCell W0 (w.heap.size+1) b v:=by
  rw [← hW0]
  simpa using bc_new (w.alloc (Obj.cells #[.int .i64 a,.int .u64 u] 188)) 188 b v
 have hsz0:W0.heap.size=w.heap.size+2:=by rw [← hW0];simp
 clear hW0
 have HT0:=hide T0
 have hC:∀ W,Below W0.heap.size W0 W→BinCell W w.heap.size a u∧BinCell W (w.heap.size+1) b v:=fun W hW=>⟨bc_past A0 hW,bc_past B0 hW⟩
 have HC:=hide hC
 clear T0 hC
 have hS0:∀ o,BinCell (W0.alloc o).drew w.heap.size a u∧BinCell (W0.alloc o).drew (w.heap.size+1) b v:=fun o=>HC.out _ (((Below.refl _ _).alloc (Nat.le_refl _) o).drew)
 go_region_held3 (fun W=>BinCell W w.heap.size a u∧BinCell W (w.heap.size+1) b v)
  (first | exact hS0 _ | (trace_state;fail))
  (first | (go_at_call 61;refine (c_i_WeightAdd _ _ hu hv _).mono ?_;rintro e w1 ⟨rfl,rfl⟩))
 go_wp2
 have rb:=bc_new W0 188 a (wAdd u v)
 rw [hsz0] at rb
 obtain ⟨r0,r1⟩:=rb
 have r0':((W0.alloc (Obj.cells #[.int .i64 a,.int .u64 (wAdd u v)] 188)).drew).cell? ⟨w.heap.size+1+1,0,none⟩=some (.int .i64 a):=r0
 have r1':((W0.alloc (Obj.cells #[.int .i64 a,.int .u64 (wAdd u v)] 188)).drew).cell? ⟨w.heap.size+1+1,1,none⟩=some (.int .u64 (wAdd u v)):=r1
 exact bodyPost_ret (v:=.agg #[.int .i64 a,.int .u64 (wAdd u v)]) (by simp [results,Tryz.results312,go_sem,r0',r1']) rfl ⟨rfl,(HT0.out.alloc HT0.out.size _).drew⟩
/-- The gathering's block. -/
abbrev fnPl:Value:=.func (.func 311) #[] #[]
abbrev fnJo:Value:=.func (.func 312) #[] #[]
abbrev GatC (w:World) (g:Nat):Prop:=w.cell? ⟨g,1,none⟩=some fnPl∧w.cell? ⟨g,2,none⟩=some fnJo
theorem gat_past {w w':World} {g:Nat} (h:GatC w g) (hb:Below w.heap.size w w'):GatC w' g:=⟨cell_past hb h.1,cell_past hb h.2⟩
/-- -1, 0, 1. -/
def cmpI (a p:Int):Int:=if a<p then -1 else if p<a then 1 else 0
set_option maxHeartbeats 1000000 in
theorem c_compare (g:Nat) (a u p:Int) (w:World) (hG:GatC w g) :
  Calls Tryz.prog 316 #[.pointer (some ⟨g,0,none⟩),.agg #[.int .i64 a,.int .u64 u],.int .i64 p] w fun e w'=>e=.returned (.int .i64 (cmpI a p))∧Below w.heap.size w w':=by
 go_enter Tryz.func316,Tryz.ntmps316
 go_wp2_with fail
 generalize hW0:w.alloc (Obj.cells #[.int .i64 a,.int .u64 u] 188)=W0
 have T0:Below w.heap.size w W0:=by rw [← hW0];exact (Below.refl _ _).alloc (Nat.le_refl _) _
 have A0:BinCell W0 w.heap.size a u:=by rw [← hW0];exact bc_new w _ _ _
 have G0:GatC W0 g:=gat_past hG T0
 clear hW0
 have HT0:=hide T0
 have hC:∀ W,Below W0.heap.size W0 W→BinCell W w.heap.size a u∧GatC W g:=fun W hW=>⟨bc_past A0 hW,gat_past G0 hW⟩
 have HC:=hide hC
 clear T0 hC A0 G0 hG
 go_region_held3 (fun W=>Kept W0.heap.size W0 W∧BinCell W w.heap.size a u∧GatC W g)
  (first | exact hS3 | exact ⟨held (Below.refl _ _).drew (by simp),HC.out _ (Below.refl _ _).drew⟩)
  (first
   | (go_at_call 311;have hS:=(‹Kept _ _ _∧_›).1;refine (c_place _ _ _).mono ?_;rintro e w6 ⟨rfl,hb6⟩;have hS1:=(held_call hb6 hS).1;have hS3:Kept W0.heap.size W0 w6∧_:=⟨held hS1 (Nat.le_refl _),HC.out _ hS1⟩;clear hb6 hS1))
 have HT6:=hide (chain HT0.out hS3.1.1)
 have hC6:∀ W,Below w6.heap.size w6 W→BinCell W w.heap.size a u∧GatC W g:=fun W hW=>HC.out W (chain hS3.1.1 hW)
 have HC6:=hide hC6
 clear hS3 hC6 HC
 by_cases h1:a<p
 ·have HE:Hid (-1=cmpI a p):=(if_pos h1).symm
  go_wp2
  go_ret
  exact ⟨ret_i HE.out,HT6.out⟩
 ·have d1:decide (a<p)=false:=decide_eq_false h1
  go_wp2_with fail
  go_region_held3 (fun W=>Kept w6.heap.size w6 W∧BinCell W w.heap.size a u∧GatC W g)
   (first | exact hS3 | exact ⟨held (Below.refl _ _).drew (by simp),HC6.out _ (Below.refl _ _).drew⟩)
   (first
    | (go_at_call 311;have hS:=(‹Kept _ _ _∧_›).1;refine (c_place _ _ _).mono ?_;rintro e w7 ⟨rfl,hb6⟩;have hS1:=(held_call hb6 hS).1;have hS3:Kept w6.heap.size w6 w7∧_:=⟨held hS1 (Nat.le_refl _),HC6.out _ hS1⟩;clear hb6 hS1))
  have HT7:=hide (chain HT6.out hS3.1.1)
  clear hS3
  by_cases h2:p<a
  ·have HE:Hid (1=cmpI a p):=(by rw [cmpI,if_neg (by omega),if_pos h2]:1=cmpI a p)
   go_wp2
   go_ret
   exact ⟨ret_i HE.out,HT7.out⟩
  ·have HE:Hid (0=cmpI a p):=(by rw [cmpI,if_neg (by omega),if_neg (by omega)]:0=cmpI a p)
   go_wp2
   go_ret
   exact ⟨ret_i HE.out,HT7.out⟩
/-- Where a place stands in a list that rises. -/
def PosAt (L:List Bn) (p:Int) (i:Nat):Prop:=i≤L.length∧(∀ (t:Nat) (x:Bn),L[t]?=some x→t<i→x.1<p)∧(∀ (t:Nat) (x:Bn),L[t]?=some x→i≤t→p≤x.1)
def Rise (L:List Bn):Prop:=∀ (i j:Nat) (x y:Bn),L[i]?=some x→L[j]?=some y→i<j→x.1<y.1
set_option maxHeartbeats 2000000 in
theorem c_search {w:World} {B n g:Nat} {v:Value} {L:List Bn} (p:Int) (hn:n=L.length) (hl:n≤1000) (hL:Rise L) (hO:w.ownsRow B 188 2 v n (fl encB L)) (hG:GatC w g) :
  Calls Tryz.prog 315 #[v,.int .i64 p,.func (.func 316) #[.pointer (some ⟨g,0,none⟩)] #[]] w fun e w'=>∃ (i:Nat) (f:Bool),e=.returned (.tuple #[.int .i64 i,.bool f])∧PosAt L p i∧(f=true↔∃ x,L[i]?=some x∧x.1=p)∧Below w.heap.size w w':=by
 obtain ⟨ao,c,rfl⟩:=own_any hO
 have HO:=hide hO
 have HN:=hide hn
 have HL:=hide hL
 have HG:=hide hG
 clear hO hn hL hG
 go_enter Tryz.func315,Tryz.ntmps315
 go_wp2
 go_loopw [9,10] (fun i j wr=>Below w.heap.size w wr∧∃ (s t:Nat),s≤t∧t≤n∧i=.int .i64 s∧j=.int .i64 t∧Hid (∀ q x,L[q]?=some x→q<s→x.1<p)∧Hid (∀ q x,L[q]?=some x→t≤q→p≤x.1)) (fun i j wr=>(Go.RowKit.intOf j).toNat - (Go.RowKit.intOf i).toNat)
 case atStart=>exact ⟨Below.refl _ _,0,n,Nat.zero_le _,Nat.le_refl _,rfl,rfl,(fun q x h k=>absurd k (by omega):∀ q x,L[q]?=some x→q<0→x.1<p),(fun q x h k=>absurd (List.getElem?_eq_some_iff.1 h).1 (by have:=HN.out;omega):∀ q x,L[q]?=some x→n≤q→p≤x.1)⟩
 case round=>
  obtain ⟨hbel,s,t,hst,htn,rfl,rfl,H1,H2⟩:=hrel
  have HB:=hide hbel
  by_cases hlt:s<t
  ·obtain ⟨m,hm⟩:∃ m:Nat,(s+t) / 2=m:=⟨_,rfl⟩
   obtain ⟨⟨a,u⟩,hRk⟩:∃ a,L[m]?=some a:=⟨L[m]'(by have:=HN.out;omega),List.getElem?_eq_getElem _⟩
   obtain ⟨g0,cc,e,hc0,hc1,_,_,_⟩:=own_bin (own_past HO.out hbel) HN.out hRk
   cases e
   have hG7:=gat_past HG.out hbel
   have hms:s≤m∧m<t:=by omega
   have HR:=hide hRk
   clear hbel hRk
   have e1:((s:Int)+(t:Int)) / 2=(m:Int):=by omega
   clear hm
   by_cases hap:a<p
   ·have d1:cmpI a p=-1:=if_pos hap
    have HX:Hid (∀ q x,L[q]?=some x→q<m+1→x.1<p):=(fun q x h k=>by
     by_cases e:q=m
     ·subst e;rw [HR.out] at h;obtain rfl:=Option.some.inj h;exact hap
     ·have:=HL.out q m x _ h HR.out (by omega);have:x.1<a:=this;omega:∀ q x,L[q]?=some x→q<m+1→x.1<p)
    go_wp2_with (go_at_call 316;refine (c_compare _ _ _ _ _ hG7).mono ?_;rintro e w1 ⟨rfl,hb1⟩;rw [d1];have HB1:=hide hb1;clear hb1)
    go_roundw
    case rel=>exact ⟨chain HB.out HB1.out,m+1,t,by omega,by omega,by go_num,rfl,HX,H2⟩
    case measure=>simp [Go.RowKit.intOf];omega
   ·have hd1:¬ cmpI a p<0:=by unfold cmpI;rw [if_neg hap];split <;> omega
    have HX:Hid (∀ q x,L[q]?=some x→m≤q→p≤x.1):=(fun q x h k=>by
     by_cases e:q=m
     ·subst e;rw [HR.out] at h;obtain rfl:=Option.some.inj h;show p≤a;omega
     ·have:=HL.out m q _ x HR.out h (by omega);have:a<x.1:=this;omega:∀ q x,L[q]?=some x→m≤q→p≤x.1)
    go_wp2_with (go_at_call 316;refine (c_compare _ _ _ _ _ hG7).mono ?_;rintro e w1 ⟨rfl,hb1⟩;have HB1:=hide hb1;clear hb1)
    go_roundw
    case rel=>exact ⟨chain HB.out HB1.out,s,m,by omega,by omega,rfl,rfl,H1,HX⟩
    case measure=>simp [Go.RowKit.intOf];omega
  ·have est:s=t:=by omega
   subst est
   have HP:Hid (PosAt L p s):=(⟨by have:=HN.out;omega,fun q x h k=>H1.out q x h k,fun q x h k=>H2.out q x h k⟩:PosAt L p s)
   by_cases hsn:s<n
   ·obtain ⟨⟨a,u⟩,hRk⟩:∃ a,L[s]?=some a:=⟨L[s]'(by have:=HN.out;omega),List.getElem?_eq_getElem _⟩
    obtain ⟨g0,cc,e,hc0,hc1,_,_,_⟩:=own_bin (own_past HO.out hbel) HN.out hRk
    cases e
    have hG7:=gat_past HG.out hbel
    have hpa:=H2.out s _ hRk (Nat.le_refl _)
    have HR:=hide hRk
    clear hbel hRk
    simp only at hpa
    have HF:Hid ((cmpI a p == 0)=true↔∃ x,L[s]?=some x∧x.1=p):=by
     refine (?_:(cmpI a p == 0)=true↔∃ x,L[s]?=some x∧x.1=p)
     rw [HR.out]
     constructor
     ·intro h
      refine ⟨_,rfl,?_⟩
      show a=p
      unfold cmpI at h
      rw [if_neg (by omega)] at h
      split at h
      ·simp at h
      ·omega
     ·rintro ⟨x,h,hx⟩
      obtain rfl:=Option.some.inj h
      have:a=p:=hx
      unfold cmpI
      rw [if_neg (by omega),if_neg (by omega)];rfl
    go_wp2_with (go_at_call 316;refine (c_compare _ _ _ _ _ hG7).mono ?_;rintro e w1 ⟨rfl,hb1⟩;have HB1:=hide hb1;clear hb1)
    go_ret2
    exact ⟨s,_,rfl,HP.out,HF.out,chain HB.out HB1.out⟩
   ·have HF:Hid (false=true↔∃ x,L[s]?=some x∧x.1=p):=(⟨fun h=>(by cases h),fun ⟨x,h,_⟩=>absurd (List.getElem?_eq_some_iff.1 h).1 (by have:=HN.out;omega)⟩:false=true↔∃ x,L[s]?=some x∧x.1=p)
    clear hbel
    go_wp2
    go_ret2
    exact ⟨s,_,rfl,HP.out,HF.out,HB.out⟩
end Go.Proofs.YthpilcoklapooaaGreatDoor
