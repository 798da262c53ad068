/-
 Slices of numbers in the laws: their size, a copy, comparing two.
-/
import Derived.Test.YtmjogablacnlgaaGreatDoorOJA
namespace Go.Proofs.YtmjogablacnlgaaGreatDoor
set_option linter.unusedVariables false
set_option linter.unusedSimpArgs false
open Go.ChangeShapes Go.WideShapes Go.ChangeAt Go.RowKit Go.PlainAid Go.Lib
set_option maxRecDepth 10000
def NumsAt (kd:IntKind) (w:World) (ao:Option Addr) (L:List Int):Prop:=
 0<L.length→∃ b off,ao=some ⟨b,off,none⟩∧∀ i x,L[i]?=some x→w.cell? ⟨b,off+i,none⟩=some (.int kd x)
theorem nums_past {kd:IntKind} {w w':World} {ao:Option Addr} {L:List Int} (h:NumsAt kd w ao L) (hb:Below w.heap.size w w'):NumsAt kd w' ao L:=fun h0=>by
 obtain ⟨b,off,e,hc⟩:=h h0;exact ⟨b,off,e,fun i x hx=>cell_past hb (hc i x hx)⟩
theorem ret_bn {a b:Bool} (h:a=b):Ending.returned (.bool a)=.returned (.bool b):=by rw [h]
def fillN (L:List Int) (k:Nat):List Int:=L.take k ++ List.replicate (L.length - k) 0
theorem fillN_zero (L:List Int):fillN L 0=List.replicate L.length 0:=by simp [fillN]
theorem fillN_all (L:List Int):fillN L L.length=L:=by simp [fillN]
theorem fillN_at (L:List Int) (k:Nat) (hk:k<L.length):(fillN L k)[k]?=some 0:=by
 unfold fillN;have hl:(L.take k).length=k:=by simp;omega
 rw [List.getElem?_append_right (by omega),hl,Nat.sub_self,List.getElem?_replicate,if_pos (by omega)]
theorem fillN_set {L:List Int} {x:Int} {k:Nat} (h:L[k]?=some x):(fillN L k).set k x=fillN L (k+1):=by
 have hk:=(List.getElem?_eq_some_iff.1 h).1;have hl:(L.take k).length=k:=by simp;omega
 unfold fillN;rw [List.set_append_right _ _ (by omega),hl,Nat.sub_self,show L.length - k=(L.length - (k+1))+1 by omega,List.replicate_succ,List.set_cons_zero,List.take_add_one,h];simp
theorem fillN_map (kd:IntKind) {L:List Int} {x:Int} {k:Nat} (h:L[k]?=some x):((fillN L k).map (Value.int kd)).set k (.int kd x)=(fillN L (k+1)).map (Value.int kd):=by
 rw [← fillN_set h,List.map_set]
theorem made_nums (kd:IntKind) (n:Nat):(madeCells (Value.int kd 0).cells (n*1)).toList=(List.replicate n (0:Int)).map (Value.int kd):=by
 rw [Nat.mul_one,List.map_replicate];exact toList_madeCells_one _ _
theorem drop_sameN {L M:List Int} {k:Nat} {a a':Int} (h:L[k]?=some a) (g:M[k]?=some a'):decide (L.drop k=M.drop k)=((a == a') && decide (L.drop (k+1)=M.drop (k+1))):=by
 have hk:=(List.getElem?_eq_some_iff.1 h).1;have gk:=(List.getElem?_eq_some_iff.1 g).1;rw [List.drop_eq_getElem_cons hk,(List.getElem?_eq_some_iff.1 h).2,List.drop_eq_getElem_cons gk,(List.getElem?_eq_some_iff.1 g).2];by_cases h1:a=a' <;> simp [h1]
theorem infoUint64S:(Tryz.prog.info? 56).map (fun i=>(i.zero,i.size,i.bytes))=some (some (.int .u64 0),1,8):=by kernel_rfl
theorem c_szUint64S_neg (ao:Option Addr) (n cap:Nat) (left:Int) (h0:0≤left) (h1:left≤1048576) (hl:n≤maxLen) (h:left - n<0) (w:World) :
  Calls Tryz.prog 223 #[.slice ao n cap,.int .i64 left] w fun e w'=>e=.returned (.int .i64 (-1))∧w'=w:=by
 unfold maxLen at hl;go_enter Tryz.func223,Tryz.ntmps223;go_wp2;go_ret;exact ⟨rfl,rfl⟩
theorem c_szUint64S_pos (ao:Option Addr) (n cap:Nat) (left:Int) (h0:0≤left) (h1:left≤1048576) (hl:n≤maxLen) (h:¬ left - n<0) (w:World) :
  Calls Tryz.prog 223 #[.slice ao n cap,.int .i64 left] w fun e w'=>e=.returned (.int .i64 (left - n))∧w'=w:=by
 unfold maxLen at hl;go_enter Tryz.func223,Tryz.ntmps223;go_wp2;go_ret;exact ⟨rfl,rfl⟩
set_option maxHeartbeats 1000000 in
theorem c_toUint64S {w:World} {ao:Option Addr} {L:List Int} (cap N:Nat) (hN:L.length=N) (hl:N≤1048576) (hA:NumsAt .u64 w ao L) :
  Calls Tryz.prog 226 #[.slice ao N cap] w fun e w'=>e=.returned (.slice (some ⟨w.heap.size,0,none⟩) N N)∧w'.ownsRow w.heap.size 56 1 (.slice (some ⟨w.heap.size,0,none⟩) N N) N (L.map (Value.int .u64))∧Below w.heap.size w w':=by
 obtain ⟨i0,hi,hz0,hz1,hz2⟩:=info_parts infoUint64S;have HN:Hid (L.length=N):=hN;clear hN;go_enter Tryz.func226,Tryz.ntmps226;go_wp2_with (at_make;refine wpList_make_full _ rfl _ _ 62 rfl w.heap.size 56 i0 (.int .u64 0) 1 Tryz.underlying62 hi hz0 hz1 .i64 .i64 _ _ N rfl rfl rfl rfl (by rw [hz2];omega) (by unfold maxLen;omega) (Nat.le_refl _) ?_;intro w0 hown0 hgrow0);have hB0:Below w.heap.size w w0:=(Below.refl _ _).grown hgrow0 (Nat.le_refl _) (fun k e=>by cases e)
 have hown1:w0.ownsRow w.heap.size 56 1 (.slice (some ⟨w.heap.size,0,none⟩) N N) N ((fillN L 0).map (Value.int .u64)):=by
  rw [fillN_zero,HN.out,← made_nums];exact hown0
 clear hown0 hgrow0;go_wp2
 go_loopw [4] (fun i wr=>∃ k:Nat,k≤N∧i=.int .i64 k∧wr.ownsRow w.heap.size 56 1 (.slice (some ⟨w.heap.size,0,none⟩) N N) N ((fillN L k).map (Value.int .u64))∧Below w.heap.size w wr) (fun i wr=>N - (Go.RowKit.intOf i).toNat)
 case atStart=>exact ⟨0,Nat.zero_le _,rfl,hown1,hB0⟩
 case round=>
  clear hown1 hB0;obtain ⟨k,hk,rfl,hown,hbel⟩:=hrel;by_cases hkn:k<N
  ·obtain ⟨b,off,rfl,hcell⟩:=hA (by have:=HN.out;omega)
   obtain ⟨u,hku⟩:∃ u,L[k]?=some u:=⟨L[k]'(by have:=HN.out;omega),List.getElem?_eq_getElem _⟩;have hc:=cell_past hbel (hcell k u hku);have hf:=hown.frozenAt k
   have hold:wr.cell? ⟨w.heap.size,k,none⟩=some (.int .u64 0):=by
    have hlen:=HN.out;rw [hown.cellAt k (by omega),List.getElem?_map,fillN_at L k (by omega)];rfl
   have HS:=hide (fillN_map .u64 hku);have HO:=hide hown;have HB:=hide hbel;clear hown hbel hcell hku;go_wp2;go_roundw
   case rel=>exact ⟨k+1,by omega,by go_num,by rw [← HS.out];exact (HO.out.stored k _).1,HB.out.setCell (by exact Nat.le_refl _) _⟩
   case measure=>simp [Go.RowKit.intOf];omega
  ·have e:k=N:=by omega
   have HO:Hid (wr.ownsRow w.heap.size 56 1 (.slice (some ⟨w.heap.size,0,none⟩) N N) N (L.map (Value.int .u64))):=by
    have:=HN.out;rw [e,show fillN L N=L by rw [← this];exact fillN_all _] at hown;exact hown
   have HB:=hide hbel;clear hown hbel hA e;go_wp2;go_ret;exact ⟨rfl,HO.out,HB.out⟩
set_option maxHeartbeats 1000000 in
theorem c_eqUint64S {w:World} {ao bo:Option Addr} {L:List Int} (c c' N:Nat) (hn:L.length=N) (hl:N≤1048576) (hA:NumsAt .u64 w ao L) (hB:NumsAt .u64 w bo L) :
  Calls Tryz.prog 163 #[.slice ao N c,.slice bo N c'] w fun e w'=>e=.returned (.bool true)∧Below w.heap.size w w':=by
 have HN:=hide hn;clear hn;go_enter Tryz.func163,Tryz.ntmps163;go_wp2
 go_loopw [5] (fun i wr=>Below w.heap.size w wr∧∃ k:Nat,k≤N∧i=.int .i64 k) (fun i wr=>N - (Go.RowKit.intOf i).toNat)
 case atStart=>exact ⟨Below.refl _ _,0,Nat.zero_le _,rfl⟩
 case round=>
  obtain ⟨hbel,k,hk,rfl⟩:=hrel;have HB:=hide hbel;by_cases hkn:k<N
  ·obtain ⟨u,hku⟩:∃ a,L[k]?=some a:=⟨L[k]'(by have:=HN.out;omega),List.getElem?_eq_getElem _⟩
   obtain ⟨b,off,rfl,hcell⟩:=hA (by have:=HN.out;omega);obtain ⟨b',off',rfl,hcell'⟩:=hB (by have:=HN.out;omega);have hc0:=cell_past hbel (hcell k _ hku);have hd0:=cell_past hbel (hcell' k _ hku);clear hbel hku hcell hcell';go_wp2
   go_quiet (fail)
   go_wp2;go_roundw
   case rel=>exact ⟨bel_drews HB.out _,k+1,by omega,by go_num⟩
   case measure=>simp [Go.RowKit.intOf];omega
  ·clear hbel hA hB
   go_wp2;go_ret;exact ⟨rfl,HB.out⟩
theorem infoInt64S:(Tryz.prog.info? 2).map (fun i=>(i.zero,i.size,i.bytes))=some (some (.int .i64 0),1,8):=by kernel_rfl
theorem c_szInt64S_neg (ao:Option Addr) (n cap:Nat) (left:Int) (h0:0≤left) (h1:left≤1048576) (hl:n≤maxLen) (h:left - n<0) (w:World) :
  Calls Tryz.prog 224 #[.slice ao n cap,.int .i64 left] w fun e w'=>e=.returned (.int .i64 (-1))∧w'=w:=by
 unfold maxLen at hl;go_enter Tryz.func224,Tryz.ntmps224;go_wp2;go_ret;exact ⟨rfl,rfl⟩
theorem c_szInt64S_pos (ao:Option Addr) (n cap:Nat) (left:Int) (h0:0≤left) (h1:left≤1048576) (hl:n≤maxLen) (h:¬ left - n<0) (w:World) :
  Calls Tryz.prog 224 #[.slice ao n cap,.int .i64 left] w fun e w'=>e=.returned (.int .i64 (left - n))∧w'=w:=by
 unfold maxLen at hl;go_enter Tryz.func224,Tryz.ntmps224;go_wp2;go_ret;exact ⟨rfl,rfl⟩
set_option maxHeartbeats 1000000 in
theorem c_toInt64S {w:World} {ao:Option Addr} {L:List Int} (cap N:Nat) (hN:L.length=N) (hl:N≤1048576) (hA:NumsAt .i64 w ao L) :
  Calls Tryz.prog 227 #[.slice ao N cap] w fun e w'=>e=.returned (.slice (some ⟨w.heap.size,0,none⟩) N N)∧w'.ownsRow w.heap.size 2 1 (.slice (some ⟨w.heap.size,0,none⟩) N N) N (L.map (Value.int .i64))∧Below w.heap.size w w':=by
 obtain ⟨i0,hi,hz0,hz1,hz2⟩:=info_parts infoInt64S;have HN:Hid (L.length=N):=hN;clear hN;go_enter Tryz.func227,Tryz.ntmps227;go_wp2_with (at_make;refine wpList_make_full _ rfl _ _ 63 rfl w.heap.size 2 i0 (.int .i64 0) 1 Tryz.underlying63 hi hz0 hz1 .i64 .i64 _ _ N rfl rfl rfl rfl (by rw [hz2];omega) (by unfold maxLen;omega) (Nat.le_refl _) ?_;intro w0 hown0 hgrow0);have hB0:Below w.heap.size w w0:=(Below.refl _ _).grown hgrow0 (Nat.le_refl _) (fun k e=>by cases e)
 have hown1:w0.ownsRow w.heap.size 2 1 (.slice (some ⟨w.heap.size,0,none⟩) N N) N ((fillN L 0).map (Value.int .i64)):=by
  rw [fillN_zero,HN.out,← made_nums];exact hown0
 clear hown0 hgrow0;go_wp2
 go_loopw [4] (fun i wr=>∃ k:Nat,k≤N∧i=.int .i64 k∧wr.ownsRow w.heap.size 2 1 (.slice (some ⟨w.heap.size,0,none⟩) N N) N ((fillN L k).map (Value.int .i64))∧Below w.heap.size w wr) (fun i wr=>N - (Go.RowKit.intOf i).toNat)
 case atStart=>exact ⟨0,Nat.zero_le _,rfl,hown1,hB0⟩
 case round=>
  clear hown1 hB0;obtain ⟨k,hk,rfl,hown,hbel⟩:=hrel;by_cases hkn:k<N
  ·obtain ⟨b,off,rfl,hcell⟩:=hA (by have:=HN.out;omega)
   obtain ⟨u,hku⟩:∃ u,L[k]?=some u:=⟨L[k]'(by have:=HN.out;omega),List.getElem?_eq_getElem _⟩;have hc:=cell_past hbel (hcell k u hku);have hf:=hown.frozenAt k
   have hold:wr.cell? ⟨w.heap.size,k,none⟩=some (.int .i64 0):=by
    have hlen:=HN.out;rw [hown.cellAt k (by omega),List.getElem?_map,fillN_at L k (by omega)];rfl
   have HS:=hide (fillN_map .i64 hku);have HO:=hide hown;have HB:=hide hbel;clear hown hbel hcell hku;go_wp2;go_roundw
   case rel=>exact ⟨k+1,by omega,by go_num,by rw [← HS.out];exact (HO.out.stored k _).1,HB.out.setCell (by exact Nat.le_refl _) _⟩
   case measure=>simp [Go.RowKit.intOf];omega
  ·have e:k=N:=by omega
   have HO:Hid (wr.ownsRow w.heap.size 2 1 (.slice (some ⟨w.heap.size,0,none⟩) N N) N (L.map (Value.int .i64))):=by
    have:=HN.out;rw [e,show fillN L N=L by rw [← this];exact fillN_all _] at hown;exact hown
   have HB:=hide hbel;clear hown hbel hA e;go_wp2;go_ret;exact ⟨rfl,HO.out,HB.out⟩
set_option maxHeartbeats 1000000 in
theorem c_eqInt64S {w:World} {ao bo:Option Addr} {L:List Int} (c c' N:Nat) (hn:L.length=N) (hl:N≤1048576) (hA:NumsAt .i64 w ao L) (hB:NumsAt .i64 w bo L) :
  Calls Tryz.prog 164 #[.slice ao N c,.slice bo N c'] w fun e w'=>e=.returned (.bool true)∧Below w.heap.size w w':=by
 have HN:=hide hn;clear hn;go_enter Tryz.func164,Tryz.ntmps164;go_wp2
 go_loopw [5] (fun i wr=>Below w.heap.size w wr∧∃ k:Nat,k≤N∧i=.int .i64 k) (fun i wr=>N - (Go.RowKit.intOf i).toNat)
 case atStart=>exact ⟨Below.refl _ _,0,Nat.zero_le _,rfl⟩
 case round=>
  obtain ⟨hbel,k,hk,rfl⟩:=hrel;have HB:=hide hbel;by_cases hkn:k<N
  ·obtain ⟨u,hku⟩:∃ a,L[k]?=some a:=⟨L[k]'(by have:=HN.out;omega),List.getElem?_eq_getElem _⟩
   obtain ⟨b,off,rfl,hcell⟩:=hA (by have:=HN.out;omega);obtain ⟨b',off',rfl,hcell'⟩:=hB (by have:=HN.out;omega);have hc0:=cell_past hbel (hcell k _ hku);have hd0:=cell_past hbel (hcell' k _ hku);clear hbel hku hcell hcell';go_wp2
   go_quiet (fail)
   go_wp2;go_roundw
   case rel=>exact ⟨bel_drews HB.out _,k+1,by omega,by go_num⟩
   case measure=>simp [Go.RowKit.intOf];omega
  ·clear hbel hA hB
   go_wp2;go_ret;exact ⟨rfl,HB.out⟩
abbrev HlCell (w:World) (g:Nat) (p n:Value):Prop:=w.cell? ⟨g,0,none⟩=some p∧w.cell? ⟨g,1,none⟩=some n
theorem hl_past {w w':World} {g:Nat} {p n:Value} (k:HlCell w g p n) (hb:Below w.heap.size w w'):HlCell w' g p n:=
 ⟨cell_past hb k.1,cell_past hb k.2⟩
theorem hl_new (w:World) (t:TypeId) (p n:Value):HlCell (w.alloc (.cells #[p,n] t)) w.heap.size p n:=by
 have hb:=heap_alloc_new w (.cells #[p,n] t);exact ⟨by rw [cell_of_row _ w.heap.size 0 _ _ (0,0) hb];rfl,by rw [cell_of_row _ w.heap.size 1 _ _ (0,0) hb];rfl⟩
set_option maxHeartbeats 1000000 in
theorem c_toHll {w:World} {pa na:Option Addr} {pn pc nn nc:Nat} {P N:List Int} (hp:P.length=pn) (hn:N.length=nn) (lp:pn≤1048576) (ln:nn≤1048576) (hP:NumsAt .u64 w pa P) (hN:NumsAt .i64 w na N) :
  Calls Tryz.prog 203 #[.agg #[.slice pa pn pc,.slice na nn nc]] w fun e w'=>∃ gp gn,e=.returned (.agg #[.slice (some ⟨gp,0,none⟩) pn pn,.slice (some ⟨gn,0,none⟩) nn nn]) ∧
   w.heap.size≤gp∧gp<gn∧gn<w'.heap.size∧w'.ownsRow w.heap.size 56 1 (.slice (some ⟨gp,0,none⟩) pn pn) pn (P.map (Value.int .u64))∧w'.ownsRow w.heap.size 2 1 (.slice (some ⟨gn,0,none⟩) nn nn) nn (N.map (Value.int .i64))∧Below w.heap.size w w':=by
 have HP:=hide hP;have HN:=hide hN;clear hP hN;go_enter Tryz.func203,Tryz.ntmps203;go_wp2_with fail;refine (c_toUint64S _ _ hp lp (nums_past HP.out (by repeat (first | exact Below.refl _ _ | refine Below.setCell ?_ (by simp) _ | refine Below.alloc ?_ (by simp <;> omega) _)))).mono ?_;rintro e w1 ⟨rfl,ho1,hb1⟩;obtain ⟨hc1,hf1⟩:=bcell hb1;have hz1:=hb1.size;have hT1:Below w.heap.size w w1:=Below.trans (by repeat (first | exact Below.refl _ _ | refine Below.setCell ?_ (by simp) _ | refine Below.alloc ?_ (by simp <;> omega) _)) (hb1.mono (by simp <;> omega));simp at hz1 hc1 hf1;have HO1:=hide ho1;have HB1:=hide hb1;have HT1:=hide hT1;clear ho1 hb1 hT1;go_wp2_with fail;refine (c_toInt64S _ _ hn ln (nums_past HN.out (HT1.out.setCell (by simp <;> omega) _))).mono ?_;rintro e w2 ⟨rfl,ho2,hb2⟩;obtain ⟨hc2,hf2⟩:=bcell hb2;have hz2:=hb2.size;have hT2:Below w.heap.size w w2:=(HT1.out.setCell (by simp <;> omega) _).trans (hb2.mono (by simp <;> omega));simp at hz2 hc2 hf2;replace hc2:=fun b o (h:b<w.heap.size+1+1+1)=>hc2 b o (by omega);replace hf2:=fun b o (h:b<w.heap.size+1+1+1)=>hf2 b o (by omega);have HO2:=hide ho2;have HB2:=hide hb2;have HT2:=hide hT2;clear ho2 hb2 hT2;go_wp2;have oP1:w1.ownsRow (w.heap.size+1+1+1) 56 1 (.slice (some ⟨w.heap.size+1+1+1,0,none⟩) pn pn) pn (P.map (Value.int .u64)):=by simpa using HO1.out
 have oP3:=own_past (ownsRow_setCell_below oP1 (a:=⟨w.heap.size+1+1,0,none⟩) (by simp) _) HB2.out;have oN2:w2.ownsRow w1.heap.size 2 1 (.slice (some ⟨w1.heap.size,0,none⟩) nn nn) nn (N.map (Value.int .i64)):=by simpa using HO2.out
 have hzn:=(own_lt oN2).2;have hzp:=(own_lt oP1).2
 have r:∀ j,j<2→∃ u,w2.cell? ⟨w.heap.size+1,j,none⟩=some u:=fun j hj=>by
  rw [hc2 _ _ (by omega),World.cell?_setCell_other _ _ _ _ (by simp),hc1 _ _ (by omega)];rw [cell_of_row _ (w.heap.size+1) j _ _ (0,0) (mid_row w _ _ _ _)];exact ⟨_,Array.getElem?_eq_getElem (by simpa using hj)⟩
 obtain ⟨u0,r0⟩:=r 0 (by omega);obtain ⟨u1,r1⟩:=r 1 (by omega);refine bodyPost_ret (v:=.agg #[.slice (some ⟨w.heap.size+1+1+1,0,none⟩) pn pn,.slice (some ⟨w1.heap.size,0,none⟩) nn nn]) (by simp [results,Tryz.results203,go_sem,r0,r1]) rfl ⟨_,_,rfl,by omega,by omega,by simp;omega,?_,?_,?_⟩
 ·refine own_le (B:=w.heap.size+1+1+1) ?_ (by omega)
  repeat (refine ownsRow_setCell_below ?_ (by simp) _)
  exact oP3
 ·refine own_le (B:=w1.heap.size) ?_ (by omega)
  repeat (refine ownsRow_setCell_below ?_ (by simp;omega) _)
  exact oN2
 ·repeat (refine Below.setCell ?_ (by simp <;> omega) _)
  exact HT2.out
set_option maxHeartbeats 1000000 in
theorem c_eqHll {w:World} {pa na pb nb:Option Addr} {pn pc nn nc pd nd:Nat} {P N:List Int} (hp:P.length=pn) (hn:N.length=nn) (lp:pn≤1048576) (ln:nn≤1048576) (hP:NumsAt .u64 w pa P) (hN:NumsAt .i64 w na N) (hP2:NumsAt .u64 w pb P) (hN2:NumsAt .i64 w nb N) :
  Calls Tryz.prog 121 #[.agg #[.slice pa pn pc,.slice na nn nc],.agg #[.slice pb pn pd,.slice nb nn nd]] w fun e w'=>e=.returned (.bool true)∧Below w.heap.size w w':=by
 have HP:=hide hP;have HN:=hide hN;have HP2:=hide hP2;have HN2:=hide hN2;clear hP hN hP2 hN2;have hW:∀ o1 o2,Below w.heap.size w ((w.alloc o1).alloc o2):=fun o1 o2=>((Below.refl _ _).alloc (Nat.le_refl _) _).alloc (by simp) _;have HW:=hide hW;clear hW;go_enter Tryz.func121,Tryz.ntmps121;go_wp2_with fail;refine (c_eqUint64S _ _ _ hp lp (nums_past HP.out (HW.out _ _)) (nums_past HP2.out (HW.out _ _))).mono ?_;rintro e w1 ⟨rfl,hb1⟩;have hT1:=(HW.out _ _).trans (hb1.mono (by simp <;> omega));obtain ⟨hc1,_⟩:=bcell hb1;have hz1:=hb1.size;simp at hc1 hz1;have HT1:=hide hT1;clear hb1 hT1;go_wp2_with fail;refine (c_eqInt64S _ _ _ hn ln (nums_past HN.out HT1.out) (nums_past HN2.out HT1.out)).mono ?_;rintro e w2 ⟨rfl,hb2⟩;have HT2:=hide (chain HT1.out hb2);clear hb2;go_wp2;go_ret;exact ⟨rfl,HT2.out⟩
structure Ag where
 k:Int
 s:Int
 h:Int
 l:Int
 a:Int
 t:Int
 z:Int
 P:List Bn
 N:List Bn
 x:Int
 y:Int
 E:List Int
 R:List Int
structure Pl where
 pa:Option Addr
 pc:Nat
 na:Option Addr
 nc:Nat
 ea:Option Addr
 ec:Nat
 ra:Option Addr
 rc:Nat
abbrev agArr (g:Ag) (p:Pl):Array Value:=#[.int .i64 g.k,.int .u64 g.s,.int .i64 g.h,.int .u64 g.l,.int .i64 g.a,.int .i64 g.t,.int .u64 g.z,.slice p.pa g.P.length p.pc,.slice p.na g.N.length p.nc,.int .i64 g.x,.int .u64 g.y,.slice p.ea g.E.length p.ec,.slice p.ra g.R.length p.rc]
structure AgAt (w:World) (g:Ag) (p:Pl):Prop where
 P:BinsAt w p.pa g.P
 N:BinsAt w p.na g.N
 E:NumsAt .u64 w p.ea g.E
 R:NumsAt .i64 w p.ra g.R
theorem ag_past {w w':World} {g:Ag} {p:Pl} (h:AgAt w g p) (hb:Below w.heap.size w w'):AgAt w' g p:=⟨bins_past h.P hb,bins_past h.N hb,nums_past h.E hb,nums_past h.R hb⟩
structure AgSm (g:Ag):Prop where
 P:g.P.length≤1048576
 N:g.N.length≤1048576
 E:g.E.length≤1048576
 R:g.R.length≤1048576
structure AgLen (g:Ag):Prop where
 P:g.P.length≤maxLen
 N:g.N.length≤maxLen
 E:g.E.length≤maxLen
 R:g.R.length≤maxLen
abbrev AgCell (w:World) (b:Nat) (g:Ag) (p:Pl):Prop:=
 w.cell? ⟨b,0,none⟩=some (.int .i64 g.k)∧w.cell? ⟨b,1,none⟩=some (.int .u64 g.s)∧w.cell? ⟨b,2,none⟩=some (.int .i64 g.h)∧w.cell? ⟨b,3,none⟩=some (.int .u64 g.l)∧w.cell? ⟨b,4,none⟩=some (.int .i64 g.a)∧w.cell? ⟨b,5,none⟩=some (.int .i64 g.t)∧w.cell? ⟨b,6,none⟩=some (.int .u64 g.z)∧w.cell? ⟨b,7,none⟩=some (.slice p.pa g.P.length p.pc)∧w.cell? ⟨b,8,none⟩=some (.slice p.na g.N.length p.nc)∧w.cell? ⟨b,9,none⟩=some (.int .i64 g.x)∧w.cell? ⟨b,10,none⟩=some (.int .u64 g.y)∧w.cell? ⟨b,11,none⟩=some (.slice p.ea g.E.length p.ec)∧w.cell? ⟨b,12,none⟩=some (.slice p.ra g.R.length p.rc)
theorem agc_past {w w':World} {b:Nat} {g:Ag} {p:Pl} (k:AgCell w b g p) (hb:Below w.heap.size w w'):AgCell w' b g p:=by
 obtain ⟨k0,k1,k2,k3,k4,k5,k6,k7,k8,k9,k10,k11,k12⟩:=k;exact ⟨cell_past hb k0,cell_past hb k1,cell_past hb k2,cell_past hb k3,cell_past hb k4,cell_past hb k5,cell_past hb k6,cell_past hb k7,cell_past hb k8,cell_past hb k9,cell_past hb k10,cell_past hb k11,cell_past hb k12⟩
theorem agc_new (w:World) (t:TypeId) (g:Ag) (p:Pl):AgCell (w.alloc (.cells (agArr g p) t)) w.heap.size g p:=by
 have hb:=heap_alloc_new w (.cells (agArr g p) t);have h:∀ j,(w.alloc (.cells (agArr g p) t)).cell? ⟨w.heap.size,j,none⟩=(agArr g p)[j]?:=fun j=>cell_of_row _ w.heap.size j _ _ (0,0) hb;exact ⟨by rw [h];rfl,by rw [h];rfl,by rw [h];rfl,by rw [h];rfl,by rw [h];rfl,by rw [h];rfl,by rw [h];rfl,by rw [h];rfl,by rw [h];rfl,by rw [h];rfl,by rw [h];rfl,by rw [h];rfl,by rw [h];rfl⟩
abbrev plNew (g:Ag) (gp gn ge gr:Nat):Pl:=⟨some ⟨gp,0,none⟩,g.P.length,some ⟨gn,0,none⟩,g.N.length,some ⟨ge,0,none⟩,g.E.length,some ⟨gr,0,none⟩,g.R.length⟩
structure AgOwn (w:World) (B:Nat) (g:Ag) (p:Pl):Prop where
 P:w.ownsRow B 128 2 (.slice p.pa g.P.length p.pc) g.P.length (fl encB g.P)
 N:w.ownsRow B 128 2 (.slice p.na g.N.length p.nc) g.N.length (fl encB g.N)
 E:w.ownsRow B 56 1 (.slice p.ea g.E.length p.ec) g.E.length (g.E.map (Value.int .u64))
 R:w.ownsRow B 2 1 (.slice p.ra g.R.length p.rc) g.R.length (g.R.map (Value.int .i64))
set_option maxHeartbeats 4000000 in
theorem c_toAgg {w:World} {g:Ag} {p:Pl} (hs:AgSm g) (hA:AgAt w g p) :
  Calls Tryz.prog 176 #[.agg (agArr g p)] w fun e w'=>∃ gp gn ge gr,e=.returned (.agg (agArr g (plNew g gp gn ge gr)))∧w.heap.size≤gp∧gp<gn∧gn<ge∧ge<gr∧gr<w'.heap.size∧AgOwn w' w.heap.size g (plNew g gp gn ge gr)∧Below w.heap.size w w':=by
 obtain ⟨k,s,h,l,a,t,z,P,N,x,y,E,R⟩:=g;obtain ⟨pa,pc,na,nc,ea,ec,ra,rc⟩:=p;obtain ⟨gP,gN,gE,gR⟩:=hs;obtain ⟨aP,aN,aE,aR⟩:=hA;simp only at gP gN gE gR aP aN aE aR;have HP:=hide aP;have HN:=hide aN;have HE:=hide aE;have HR:=hide aR;simp only [agArr,plNew];obtain ⟨pn,ep⟩:∃ n,P.length=n:=⟨_,rfl⟩;obtain ⟨nn,en⟩:∃ n,N.length=n:=⟨_,rfl⟩;obtain ⟨xn,ex⟩:∃ n,E.length=n:=⟨_,rfl⟩;obtain ⟨rn,er⟩:∃ n,R.length=n:=⟨_,rfl⟩;rw [ep] at gP;rw [en] at gN;rw [ex] at gE;rw [er] at gR;rw [ep,en,ex,er];have EP:=hide ep;have EN:=hide en;have EX:=hide ex;have ER:=hide er;clear ep en ex er aP aN aE aR;go_enter Tryz.func176,Tryz.ntmps176;go_wp2_with fail;refine (c_toWide _ _ _).mono ?_;rintro e w1 ⟨rfl,hb1⟩;obtain ⟨hc1,hf1⟩:=bcell hb1;have hz1:=hb1.size;have hT1:Below w.heap.size w w1:=Below.trans (by repeat (first | exact Below.refl _ _ | refine Below.setCell ?_ (by simp) _ | refine Below.alloc ?_ (by simp <;> omega) _)) (hb1.mono (by simp <;> omega));simp at hz1 hc1 hf1;have HB1:=hide hb1;have HT1:=hide hT1;clear hb1 hT1;go_wp2_with fail;refine (c_toSketch EP.out EN.out gP gN (bins_past HP.out (by (repeat (refine Below.setCell ?_ (by simp <;> omega) _));exact HT1.out)) (bins_past HN.out (by (repeat (refine Below.setCell ?_ (by simp <;> omega) _));exact HT1.out))).mono ?_;rintro e w2 ⟨gp,gn,rfl,kp,kpn,knw,oP,oN,hb2⟩;obtain ⟨hc2,hf2⟩:=bcell hb2;have hz2:=hb2.size;have hT2:Below w.heap.size w w2:=Below.trans (by (repeat (refine Below.setCell ?_ (by simp <;> omega) _));exact HT1.out) (hb2.mono (by simp <;> omega));simp at hz2 hc2 hf2 kp;replace hc2:=fun b o (h:b<w.heap.size+1+1+1)=>hc2 b o (by omega);replace hf2:=fun b o (h:b<w.heap.size+1+1+1)=>hf2 b o (by omega);have HO2:Hid (w2.ownsRow w1.heap.size 128 2 (.slice (some ⟨gp,0,none⟩) pn pn) pn (fl encB P)∧w2.ownsRow w1.heap.size 128 2 (.slice (some ⟨gn,0,none⟩) nn nn) nn (fl encB N)):=⟨by simpa using oP,by simpa using oN⟩;have HK2:Hid (w1.heap.size≤gp∧gp<gn∧gn<w2.heap.size):=⟨by omega,kpn,knw⟩;have HT2:=hide hT2;clear oP oN hb2 hT2 kp kpn knw;go_wp2_with fail;refine (c_toHll EX.out ER.out gE gR (nums_past HE.out (by (repeat (refine Below.setCell ?_ (by simp <;> omega) _));exact HT2.out)) (nums_past HR.out (by (repeat (refine Below.setCell ?_ (by simp <;> omega) _));exact HT2.out))).mono ?_;rintro e w3 ⟨ge,gr,rfl,ke,ker,krw,oE,oR,hb3⟩;obtain ⟨hc3,hf3⟩:=bcell hb3;have hz3:=hb3.size;have hT3:Below w.heap.size w w3:=Below.trans (by (repeat (refine Below.setCell ?_ (by simp <;> omega) _));exact HT2.out) (hb3.mono (by simp <;> omega));simp at hz3 hc3 hf3 ke;replace hc3:=fun b o (h:b<w.heap.size+1+1+1)=>hc3 b o (by omega);replace hf3:=fun b o (h:b<w.heap.size+1+1+1)=>hf3 b o (by omega);have HO3:Hid (w3.ownsRow w2.heap.size 56 1 (.slice (some ⟨ge,0,none⟩) xn xn) xn (E.map (Value.int .u64))∧w3.ownsRow w2.heap.size 2 1 (.slice (some ⟨gr,0,none⟩) rn rn) rn (R.map (Value.int .i64))):=⟨by simpa using oE,by simpa using oR⟩;have HK3:Hid (w2.heap.size≤ge∧ge<gr∧gr<w3.heap.size):=⟨by omega,ker,krw⟩;have HB3:=hide hb3;have HT3:=hide hT3;clear oE oR hb3 hT3 ke ker krw;go_wp2
 have r:∀ j,j<13→∃ u,w3.cell? ⟨w.heap.size+1,j,none⟩=some u:=fun j hj=>by
  rw [hc3 _ _ (by omega)]
  (repeat rw [World.cell?_setCell_other _ _ _ _ (by simp)])
  rw [hc2 _ _ (by omega)]
  (repeat rw [World.cell?_setCell_other _ _ _ _ (by simp)])
  rw [hc1 _ _ (by omega),cell_of_row _ (w.heap.size+1) j _ _ (0,0) (mid_row w _ _ _ _)];exact ⟨_,Array.getElem?_eq_getElem (by simpa using hj)⟩
 obtain ⟨u0,r0⟩:=r 0 (by omega);obtain ⟨u1,r1⟩:=r 1 (by omega);obtain ⟨u2,r2⟩:=r 2 (by omega);obtain ⟨u3,r3⟩:=r 3 (by omega);obtain ⟨u4,r4⟩:=r 4 (by omega);obtain ⟨u5,r5⟩:=r 5 (by omega);obtain ⟨u6,r6⟩:=r 6 (by omega);obtain ⟨u7,r7⟩:=r 7 (by omega);obtain ⟨u8,r8⟩:=r 8 (by omega);obtain ⟨u9,r9⟩:=r 9 (by omega);obtain ⟨u10,r10⟩:=r 10 (by omega);obtain ⟨u11,r11⟩:=r 11 (by omega);obtain ⟨u12,r12⟩:=r 12 (by omega);clear r;have k2:=HK2.out;have k3:=HK3.out;have hz1':=HT1.out.size;refine bodyPost_ret (v:=.agg #[.int .i64 k,.int .u64 s,.int .i64 h,.int .u64 l,.int .i64 a,.int .i64 t,.int .u64 z,.slice (some ⟨gp,0,none⟩) pn pn,.slice (some ⟨gn,0,none⟩) nn nn,.int .i64 x,.int .u64 y,.slice (some ⟨ge,0,none⟩) xn xn,.slice (some ⟨gr,0,none⟩) rn rn]) (by simp [results,Tryz.results176,go_sem,r0,r1,r2,r3,r4,r5,r6,r7,r8,r9,r10,r11,r12]) rfl ⟨gp,gn,ge,gr,rfl,by omega,by omega,by omega,by omega,by simp;omega,⟨?_,?_,?_,?_⟩,?_⟩
 ·refine own_le (B:=w1.heap.size) ?_ (by omega)
  (repeat (refine ownsRow_setCell_below ?_ (by simp;omega) _))
  refine own_past ?_ HB3.out
  (repeat (refine ownsRow_setCell_below ?_ (by simp;omega) _))
  simpa [EP.out] using HO2.out.1
 ·refine own_le (B:=w1.heap.size) ?_ (by omega)
  (repeat (refine ownsRow_setCell_below ?_ (by simp;omega) _))
  refine own_past ?_ HB3.out
  (repeat (refine ownsRow_setCell_below ?_ (by simp;omega) _))
  simpa [EN.out] using HO2.out.2
 ·refine own_le (B:=w2.heap.size) ?_ (by omega)
  (repeat (refine ownsRow_setCell_below ?_ (by simp;omega) _))
  simpa [EX.out] using HO3.out.1
 ·refine own_le (B:=w2.heap.size) ?_ (by omega)
  (repeat (refine ownsRow_setCell_below ?_ (by simp;omega) _))
  simpa [ER.out] using HO3.out.2
 ·(repeat (refine Below.setCell ?_ (by simp <;> omega) _))
  exact HT3.out
set_option maxHeartbeats 2000000 in
theorem c_eqAgg {w:World} {g:Ag} {p q:Pl} (hs:AgSm g) (hA:AgAt w g p) (hB:AgAt w g q) :
  Calls Tryz.prog 93 #[.agg (agArr g p),.agg (agArr g q)] w fun e w'=>e=.returned (.bool true)∧Below w.heap.size w w':=by
 obtain ⟨k,s,h,l,a,t,z,P,N,x,y,E,R⟩:=g;obtain ⟨pa,pc,na,nc,ea,ec,ra,rc⟩:=p;obtain ⟨pa',pc',na',nc',ea',ec',ra',rc'⟩:=q;obtain ⟨gP,gN,gE,gR⟩:=hs;obtain ⟨aP,aN,aE,aR⟩:=hA;obtain ⟨bP,bN,bE,bR⟩:=hB;simp only at gP gN gE gR aP aN aE aR bP bN bE bR;have HA:=hide (And.intro (And.intro aP aN) (And.intro aE aR));have HB:=hide (And.intro (And.intro bP bN) (And.intro bE bR));simp only [agArr];obtain ⟨pn,ep⟩:∃ n,P.length=n:=⟨_,rfl⟩;obtain ⟨nn,en⟩:∃ n,N.length=n:=⟨_,rfl⟩;obtain ⟨xn,ex⟩:∃ n,E.length=n:=⟨_,rfl⟩;obtain ⟨rn,er⟩:∃ n,R.length=n:=⟨_,rfl⟩;rw [ep] at gP;rw [en] at gN;rw [ex] at gE;rw [er] at gR;rw [ep,en,ex,er];have EP:=hide ep;have EN:=hide en;have EX:=hide ex;have ER:=hide er;clear ep en ex er aP aN aE aR bP bN bE bR;have hW:∀ o1 o2,Below w.heap.size w ((w.alloc o1).alloc o2):=fun o1 o2=>((Below.refl _ _).alloc (Nat.le_refl _) _).alloc (by simp) _;have HW:=hide hW;clear hW;go_enter Tryz.func93,Tryz.ntmps93;go_wp2_with fail;refine (c_eqWide _ _ _).mono ?_;rintro e w1 ⟨rfl,hb1⟩;have HT1:=hide ((HW.out _ _).trans (hb1.mono (by simp <;> omega)));obtain ⟨hc1,_⟩:=bcell hb1;have hz1:=hb1.size;simp at hc1 hz1;clear hb1;go_wp2_with fail;refine (c_eqSketch EP.out EN.out gP gN (bins_past HA.out.1.1 HT1.out) (bins_past HA.out.1.2 HT1.out) (bins_past HB.out.1.1 HT1.out) (bins_past HB.out.1.2 HT1.out)).mono ?_;rintro e w2 ⟨rfl,hb2⟩;have HT2:=hide (chain HT1.out hb2);obtain ⟨hc2,_⟩:=bcell hb2;replace hc2:=fun b o (h:b<w.heap.size+1+1)=>hc2 b o (by omega);clear hb2;go_wp2_with fail;refine (c_eqHll EX.out ER.out gE gR (nums_past HA.out.2.1 HT2.out) (nums_past HA.out.2.2 HT2.out) (nums_past HB.out.2.1 HT2.out) (nums_past HB.out.2.2 HT2.out)).mono ?_;rintro e w3 ⟨rfl,hb3⟩;have HT3:=hide (chain HT2.out hb3);clear hb3;go_wp2;go_ret;exact ⟨rfl,HT3.out⟩
end Go.Proofs.YtmjogablacnlgaaGreatDoor
