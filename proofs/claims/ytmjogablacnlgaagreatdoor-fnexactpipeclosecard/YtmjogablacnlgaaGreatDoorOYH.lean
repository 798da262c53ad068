/-
 Pipes as the laws count, copy and mark them.
-/
import Derived.Test.YtmjogablacnlgaaGreatDoorOYS
namespace Go.Proofs.YtmjogablacnlgaaGreatDoor
set_option linter.unusedVariables false
set_option linter.unusedSimpArgs false
open Go.ChangeShapes Go.WideShapes Go.ChangeAt Go.RowKit Go.PlainAid Go.Lib
set_option maxRecDepth 10000
set_option maxHeartbeats 1000000 in
theorem c_szShardU {w:World} {ao:Option Addr} {N:Nat} {L:List Ce} (nm:ByteArray) (cap:Nat) (left:Int) (h0:0≤left) (h1:left≤1048576) (hs:nm.size≤maxLen) (hN:L.length=N) (hl:CesLen L) (hA:CesAt w ao L) :
  Calls Tryz.prog 76 #[.agg #[.string nm,.slice ao N cap],.int .i64 left] w fun e w'=>∃ v:Int,e=.returned (.int .i64 v)∧v≤1048576∧(¬ v<0→(0≤v∧v+(N:Int)+(ceTot L:Int)≤left)∧nm.size≤1048576)∧Below w.heap.size w w':=by
 have HN:=hide hN;have HL:=hide hl;have HA:=hide hA;have hb0:Below w.heap.size w (w.alloc (.cells #[.string nm,.slice ao N cap] 107)):=(Below.refl _ _).alloc (Nat.le_refl _) _;have HT0:=hide hb0;have HC:=hide (sh_box w nm (.slice ao N cap) 107);clear hN hl hA hb0;unfold maxLen at hs;have hw:IntKind.i64.wrap (left - (nm.size:Int))=left - (nm.size:Int):=by rw [IntKind.wrap_i64];omega
 by_cases hlt:left - (nm.size:Int)<0
 ·go_enter Tryz.func76,Tryz.ntmps76
  go_wp2;go_ret;exact ⟨-1,rfl,by omega,fun h=>absurd h (by omega),HT0.out⟩
 ·obtain ⟨x0,x1⟩:=HC.out _ (Below.refl _ _)
  go_enter Tryz.func76,Tryz.ntmps76;go_wp2_with fail;refine (c_szCellST cap (left - (nm.size:Int)) (by omega) (by omega) HN.out HL.out (ces_past HA.out HT0.out)).mono ?_;rintro e w1 ⟨v,rfl,hv,hsm,hb1⟩;have HT1:=hide (chain HT0.out hb1);have HSM:=hide hsm;clear hb1 hsm x0 x1;by_cases hv0:v<0
  ·go_wp2
   go_ret;exact ⟨-1,rfl,by omega,fun h=>absurd h (by omega),HT1.out⟩
  ·go_wp2
   go_ret;exact ⟨v,rfl,by omega,fun h=>⟨⟨(HSM.out hv0).1,by have:=HSM.out hv0;omega⟩,by omega⟩,HT1.out⟩
def sdTot:List Sd→Nat
 | []=>0
 | s :: S=>s.L.length+ceTot s.L+sdTot S
theorem sdTot_app:∀ (L M:List Sd),sdTot (L ++ M)=sdTot L+sdTot M
 | [],M=>by simp [sdTot]
 | c :: L,M=>by rw [List.cons_append,sdTot,sdTot_app L M,sdTot];omega
theorem sdTot_take {L:List Sd} {k:Nat} {c:Sd} (h:L[k]?=some c):sdTot (L.take (k+1))=sdTot (L.take k)+(c.L.length+ceTot c.L):=by
 rw [List.take_add_one,h,sdTot_app];simp [sdTot]
theorem sdTot_mem {L:List Sd} {c:Sd} (h:c∈L):c.L.length+ceTot c.L≤sdTot L:=by
 induction L with
 | nil=>cases h
 | cons d L ih=>
  unfold sdTot;rcases List.mem_cons.1 h with e | e
  ·rw [e];omega
  ·have:=ih e;omega
theorem agTot_smP {g:Ag} (h:agTot g≤1048576):AgSm g:=by unfold agTot at h;exact ⟨by omega,by omega,by omega,by omega⟩
theorem ceTot_memP {L:List Ce} {c:Ce} (h:c∈L):agTot c.g≤ceTot L:=by
 induction L with
 | nil=>cases h
 | cons d L ih=>
  unfold ceTot;rcases List.mem_cons.1 h with e | e
  ·rw [e];omega
  ·have:=ih e;omega
set_option maxHeartbeats 2000000 in
theorem c_szShardSU {w:World} {ao:Option Addr} {N:Nat} {S:List Sd} (cap:Nat) (hN:S.length=N) (hl:SdsLen S) (hA:SdsAt w ao S) :
  Calls Tryz.prog 32 #[.slice ao N cap,.int .i64 1048576] w fun e w'=>∃ v:Int,e=.returned (.int .i64 v)∧(¬ v<0→SdsSm S∧N+sdTot S≤1048576)∧Below w.heap.size w w':=by
 have HN:=hide hN;have HA:=hide hA;have HL:=hide hl;have lN:N≤9223372036854775807:=by have:=hl.n;rw [hN] at this;exact this
 clear hN hA hl;have hw:IntKind.i64.wrap (1048576 - (N:Int))=1048576 - (N:Int):=by rw [IntKind.wrap_i64];omega
 by_cases hlt:(1048576:Int) - (N:Int)<0
 ·go_enter Tryz.func32,Tryz.ntmps32
  go_wp2;go_ret;exact ⟨-1,rfl,fun h=>by omega,Below.refl _ _⟩
 ·go_enter Tryz.func32,Tryz.ntmps32
  go_wp2
  go_loopw [1,5] (fun l i wr=>∃ (k:Nat) (m:Int),k≤N∧i=.int .i64 k∧l=.int .i64 m∧0≤m∧m≤1048576∧Hid (m+(N:Int)+(sdTot (S.take k):Int)≤1048576∧∀ s∈S.take k,s.L.length≤1048576∧(∀ c∈s.L,AgSm c.g)∧s.nm.size≤1048576)∧Hid (Below w.heap.size w wr)) (fun l i wr=>N - (Go.RowKit.intOf i).toNat)
  case atStart=>exact ⟨0,1048576 - N,Nat.zero_le _,rfl,rfl,by omega,by omega,hide (by simp [sdTot] <;> omega),hide (Below.refl _ _)⟩
  case round=>
   obtain ⟨k,m,hk,rfl,rfl,hm0,hm1,HS,HB⟩:=hrel;by_cases hkn:k<N
   ·obtain ⟨b,off,e,hcell⟩:=HA.out.1 (by have:=HN.out;omega)
    obtain ⟨s,hs⟩:∃ s,S[k]?=some s:=⟨S[k]'(by have:=HN.out;omega),List.getElem?_eq_getElem _⟩;subst e;obtain ⟨x0,x1⟩:=sdc_past (hcell k s hs) HB.out;have HX:=hide hs;have HSm:=hide (List.mem_of_getElem? hs);have hkni:(k:Int)<(N:Int):=by omega
    clear hcell hs;go_wp2_with fail;clear x0 x1;refine (c_szShardU s.nm s.cp m hm0 hm1 (HL.out.s s HSm.out) rfl (HL.out.l s HSm.out) (ces_past (HA.out.2 s HSm.out) HB.out)).mono ?_;rintro e w1 ⟨r,rfl,hr,hq,hb1⟩;have HB1:=hide (chain HB.out hb1);have HQ:=hide hq;clear hb1 hq;by_cases hr0:r<0
    ·go_wp2
     go_ret;exact ⟨-1,rfl,fun h=>by omega,HB1.out⟩
    ·have HS2:Hid (r+(N:Int)+(sdTot (S.take (k+1)):Int)≤1048576∧∀ t∈S.take (k+1),t.L.length≤1048576∧(∀ c∈t.L,AgSm c.g)∧t.nm.size≤1048576):=hide ⟨by rw [sdTot_take HX.out];have:=(HQ.out hr0).1.2;have:=HS.out.1;omega,fun t ht=>by
      rw [List.take_add_one,HX.out] at ht;rcases List.mem_append.1 ht with h | h
      ·exact HS.out.2 t h
      ·simp at h
       subst h;have q:=(HQ.out hr0).1.2;exact ⟨by omega,fun c hc=>agTot_smP (by have:=ceTot_memP hc;omega),(HQ.out hr0).2⟩⟩
     go_wp2;go_roundw
     case rel=>exact ⟨k+1,r,by omega,by go_num,rfl,(HQ.out hr0).1.1,by omega,HS2,HB1⟩
     case measure=>simp [Go.RowKit.intOf];omega
   ·have HF:Hid (∀ s∈S,s.L.length≤1048576∧(∀ c∈s.L,AgSm c.g)∧s.nm.size≤1048576):=fun s hs=>HS.out.2 s (by rw [List.take_of_length_le (by have:=HN.out;omega)];exact hs)
    have HG:Hid (N+sdTot S≤1048576):=by
     have q:=HS.out.1;rw [List.take_of_length_le (by have:=HN.out;omega)] at q;exact hide (by omega)
    clear hk;go_wp2;go_ret;exact ⟨m,rfl,fun _=>⟨⟨by have:=HN.out;omega,fun s hs=>(HF.out s hs).1,fun s hs=>(HF.out s hs).2.1,fun s hs=>(HF.out s hs).2.2⟩,HG.out⟩,HB.out⟩
set_option maxHeartbeats 1000000 in
theorem c_szPipeU {w:World} {ao:Option Addr} {N:Nat} {S:List Sd} (cap:Nat) (p:Pi) (hN:S.length=N) (hl:SdsLen S) (hA:SdsAt w ao S) :
  Calls Tryz.prog 9 #[.agg (piArr (.slice ao N cap) p),.int .i64 1048576] w fun e w'=>∃ v:Int,e=.returned (.int .i64 v)∧(¬ v<0→SdsSm S∧N+sdTot S≤1048576)∧Below w.heap.size w w':=by
 have HN:=hide hN;have HA:=hide hA;have HL:=hide hl;have hb0:Below w.heap.size w (w.alloc (.cells (piArr (.slice ao N cap) p) 24)):=(Below.refl _ _).alloc (Nat.le_refl _) _;have HT0:=hide hb0;clear hN hA hl hb0;go_enter Tryz.func9,Tryz.ntmps9;go_wp2_with fail;refine (c_szShardSU cap HN.out HL.out (sds_past HA.out HT0.out)).mono ?_;rintro e w1 ⟨v,rfl,hv,hb1⟩;have HV:=hide hv;have HT1:=hide (chain HT0.out hb1);clear hv hb1;by_cases hv0:v<0
 ·go_wp2
  go_ret;exact ⟨-1,rfl,fun h=>absurd h (by omega),HT1.out⟩
 ·go_wp2
  go_ret;exact ⟨v,rfl,HV.out,HT1.out⟩
structure SdRowX (w:World) (g N:Nat) (M:List Sd):Prop where
 row:∃ cur:Array Value,w.heap[g]?=some (.cells cur 55 (0,0))∧cur.size=N*2∧∀ i c,M[i]?=some c→∀ j v,(sdArr c)[j]?=some v→cur[i*2+j]?=some v
 o:LvO w (g+1) M
theorem SdRowX.past {w w':World} {g N:Nat} {M:List Sd} (h:SdRowX w g N M) (hb:Below w.heap.size w w'):SdRowX w' g N M:=by
 obtain ⟨cur,h1,h2,h3⟩:=h.row;exact ⟨⟨cur,(hb.block g (Array.getElem?_eq_some_iff.1 h1).1).trans h1,h2,h3⟩,h.o.past hb⟩
theorem LvO.at {w:World} {B:Nat} {M:List Sd} (h:LvO w B M) {s:Sd} (hs:s∈M):CesAt w s.ao s.L:=by
 have hr:=h.r s hs;unfold slS at hr;refine OwnC.at hr (fun c hc=>h.o.at c ?_);unfold allC;exact List.mem_flatMap.2 ⟨s,hs,hc⟩
theorem LvO.plg {w:World} {B:Nat} {M:List Sd} (h:LvO w B M):∀ s∈M,∀ c∈s.L,PlG c.g c.p:=fun s hs c hc=>(h.o.o c (by unfold allC;exact List.mem_flatMap.2 ⟨s,hs,hc⟩)).plgX
theorem SdRowX.at {w:World} {g N:Nat} {M:List Sd} (h:SdRowX w g N M):SdsAt w (some ⟨g,0,none⟩) M:=by
 refine ⟨fun _=>?_,fun s hs=>h.o.at hs⟩;obtain ⟨cur,h1,h2,h3⟩:=h.row;refine ⟨g,0,rfl,fun i s hi=>?_⟩
 have q:∀ j v,(sdArr s)[j]?=some v→w.cell? ⟨g,0+i*2+j,none⟩=some v:=fun j v e=>by
  rw [Nat.zero_add,cell_of_row _ _ _ _ _ (0,0) h1];exact h3 i s hi j v e
 exact ⟨q 0 _ rfl,q 1 _ rfl⟩
theorem World_grown1 (w:World) (g o:Nat) (u:Value):w.grownBy (w.setCell ⟨g,o,none⟩ u) (some g):=grown_one w g o u
theorem SdRowX.below {w:World} {g N r j:Nat} {M:List Sd} (h:SdRowX w g N M) (hr:r<g) (u:Value):SdRowX (w.setCell ⟨r,j,none⟩ u) g N M:=by
 obtain ⟨cur,h1,h2,h3⟩:=h.row;exact ⟨⟨cur,by rw [heap_setCell_other _ _ _ _ (by simp;omega)];exact h1,h2,h3⟩,h.o.grown (World_grown1 w r j u) (by omega)⟩
theorem SdRowX.put {w:World} {g N:Nat} {M:List Sd} (h:SdRowX w g N M) {s:Sd} (hN:M.length<N) (hs:LvO w (g+1) (M ++ [s])) :
  SdRowX ((w.setCell ⟨g,M.length*2,none⟩ (.string s.nm)).setCell ⟨g,M.length*2+1,none⟩ (.slice s.ao s.L.length s.cp)) g N (M ++ [s]):=by
 obtain ⟨cur,h1,h2,h3⟩:=h.row;obtain ⟨cur',k1,k2,k3⟩:=heap_setCellsC (e:=55) (sdArr s).toList (M.length*2) w cur h1;refine ⟨⟨cur',k1,by rw [k2];exact h2,fun i d hd j v e=>?_⟩,?_⟩
 ·have hj:j<2:=(Array.getElem?_eq_some_iff.1 e).1
  rw [k3];rw [List.getElem?_append] at hd
  split at hd
  ·rename_i hi
   rw [if_neg (by simp;omega)];exact h3 i d hd j v e
  ·rename_i hi
   have hi2:i - M.length=0:=by
    have:=(List.getElem?_eq_some_iff.1 hd).1;simp at this;omega
   rw [hi2] at hd;simp at hd;subst hd;rw [if_pos ⟨by omega,by simp;omega,by omega⟩,show i*2+j - M.length*2=j by omega]
   simpa using e
 ·exact (hs.grown (World_grown1 w g _ _) (Nat.lt_succ_self _)).grown (World_grown1 _ g _ _) (Nat.lt_succ_self _)
set_option maxHeartbeats 4000000 in
theorem c_toShardSX {w:World} {ao:Option Addr} {N:Nat} {S:List Sd} (cap:Nat) (hN:S.length=N) (sm:SdsSm S) (hA:SdsAt w ao S) :
  Calls Tryz.prog 41 #[.slice ao N cap] w fun e w'=>∃ M,e=.returned (.slice (some ⟨w.heap.size,0,none⟩) N N)∧M.length=N∧M.map Sd.key=S.map Sd.key∧SdRowX w' w.heap.size N M∧Below w.heap.size w w':=by
 obtain ⟨i0,hi,hz0,hz1,hz2⟩:=info_parts infoSd;have HN:=hide hN;have HA:=hide hA;have SM:=hide sm;have hl:N≤1048576:=by have:=sm.n;omega
 clear hN hA sm;go_enter Tryz.func41,Tryz.ntmps41;go_wp2_with (at_make;refine wpList_make_full _ rfl _ _ 27 rfl w.heap.size 55 i0 (.agg #[.string ByteArray.empty,.slice none 0 0]) 2 Tryz.underlying27 hi hz0 hz1 .i64 .i64 _ _ N rfl rfl rfl rfl (by rw [hz2];omega) (by unfold maxLen;omega) (Nat.le_refl _) ?_;intro w0 hown0 hgrow0);have hB0:Below w.heap.size w w0:=(Below.refl _ _).grown hgrow0 (Nat.le_refl _) (fun k e=>by cases e)
 have hR0:SdRowX w0 w.heap.size N []:=by
  rcases hown0.2 with ⟨e,_⟩ | ⟨g',cap',cur,e,_,hg',_,_,hcs,htake⟩
  ·cases e
  ·simp only [Value.slice.injEq,Option.some.injEq,Addr.mk.injEq,and_true,true_and] at e
   obtain ⟨rfl,rfl⟩:=e;exact ⟨⟨cur,hg',by omega,fun i c hc=>by simp at hc⟩,LvO.nil _ _⟩
 have HB0:=hide hB0;have HR0:=hide hR0;clear hown0 hgrow0 hB0 hR0;go_wp2
 go_loopw [4] (fun i wr=>∃ (k:Nat) (M:List Sd),k≤N∧i=.int .i64 k∧Hid (M.map Sd.key=(S.take k).map Sd.key)∧Hid (SdRowX wr w.heap.size N M)∧Hid (Below w.heap.size w wr)) (fun i wr=>N - (Go.RowKit.intOf i).toNat)
 case atStart=>exact ⟨0,[],Nat.zero_le _,rfl,hide (by simp),HR0,HB0⟩
 case round=>
  clear HR0 HB0;obtain ⟨k,M,hk,rfl,HMk,HR,HB⟩:=hrel;by_cases hkn:k<N
  ·have hkni:(k:Int)<(N:Int):=by omega
   obtain ⟨b,off,e,hcell⟩:=HA.out.1 (by have:=HN.out;omega);subst e;obtain ⟨s,hc⟩:∃ s,S[k]?=some s:=⟨S[k]'(by have:=HN.out;omega),List.getElem?_eq_getElem _⟩;obtain ⟨x0,x1⟩:=sdc_past (hcell k s hc) HB.out;have HC:=hide hc;have HSm:=hide (List.mem_of_getElem? hc)
   have HMl:Hid (M.length=k):=by
    have h1:=congrArg List.length HMk.out;simp at h1;have:=HN.out;exact hide (by omega)
   clear hcell hc;go_wp2_with fail;clear x0 x1;refine (c_toShardX s.nm s.cp rfl (SM.out.l s HSm.out) (SM.out.sm s HSm.out) (ces_past (HA.out.2 s HSm.out) HB.out)).mono ?_;rintro e w1 ⟨L',h,rfl,hgt,hL,hK,hCe,hb1⟩;have hR1:=HR.out.past hb1;obtain ⟨cur,r1,r2,r3⟩:=hR1.row;obtain ⟨oA,oB⟩:=hCe.own_all hL (SM.out.l s HSm.out);have oA':OwnC w1 h (slS ⟨s.nm,L',some ⟨h,0,none⟩,s.L.length⟩) L':=by show OwnC _ _ (.slice _ L'.length _) _;rw [hL];exact oA
   have hAdd:=HR.out.o.add (t:=⟨s.nm,L',some ⟨h,0,none⟩,s.L.length⟩) hb1 (by have:=(Array.getElem?_eq_some_iff.1 (HR.out.row.choose_spec.1)).1;omega) (oA'.le (by omega)) (oB.le (by omega));have hP:=hR1.put (s:=⟨s.nm,L',some ⟨h,0,none⟩,s.L.length⟩) (by rw [HMl.out];exact hkn) hAdd;rw [HMl.out] at hP;have HP:=hide hP;have HT1:=hide (chain HB.out hb1);have HLL:=hide hL
   have HK2:Hid ((M ++ [(⟨s.nm,L',some ⟨h,0,none⟩,s.L.length⟩:Sd)]).map Sd.key=(S.take (k+1)).map Sd.key):=by
    rw [List.take_add_one,HC.out,List.map_append,List.map_append,HMk.out];refine hide ?_;simp [Sd.key,hK]
   obtain ⟨z0,hz0'⟩:∃ z,w1.cell? ⟨w.heap.size,k*2,none⟩=some z:=⟨cur[k*2]'(by omega),by rw [cell_of_row _ _ _ _ _ (0,0) r1,Array.getElem?_eq_getElem]⟩;obtain ⟨z1,hz1'⟩:∃ z,w1.cell? ⟨w.heap.size,k*2+1,none⟩=some z:=⟨cur[k*2+1]'(by omega),by rw [cell_of_row _ _ _ _ _ (0,0) r1,Array.getElem?_eq_getElem]⟩;have f0:=fzR (k*2) r1;have f1:=fzR (k*2+1) r1;clear hR1 r1 r2 r3 hP hb1 hgt hL hK hCe oA oB oA' hAdd;go_wp2;go_roundw
   case rel=>exact ⟨k+1,_,by omega,by go_num,HK2,by simpa only [HLL.out] using HP,hide ((HT1.out.setCell (Nat.le_refl _) _).setCell (Nat.le_refl _) _)⟩
   case measure=>simp [Go.RowKit.intOf];omega
  ·have HF:Hid (M.map Sd.key=S.map Sd.key):=by
    have h1:=HMk.out;rw [List.take_of_length_le (by have:=HN.out;omega)] at h1;exact hide h1
   have HMl:Hid (M.length=N):=by
    have h1:=congrArg List.length HF.out;simp at h1;have:=HN.out;exact hide (by omega)
   go_wp2;go_ret;exact ⟨M,rfl,HMl.out,HF.out,HR.out,HB.out⟩
set_option maxHeartbeats 4000000 in
theorem c_toPipeX {w:World} {ao:Option Addr} {N:Nat} {S:List Sd} (cap:Nat) (p:Pi) (hN:S.length=N) (sm:SdsSm S) (hA:SdsAt w ao S) :
  Calls Tryz.prog 11 #[.agg (piArr (.slice ao N cap) p)] w fun e w'=>∃ M g,e=.returned (.agg (piArr (.slice (some ⟨g,0,none⟩) N N) p))∧w.heap.size<g∧M.length=N∧M.map Sd.key=S.map Sd.key∧SdRowX w' g N M∧Below w.heap.size w w':=by
 have HN:=hide hN;have HA:=hide hA;have SM:=hide sm;clear hN hA sm;obtain ⟨HS,HT0,HR0,HR1,HR2⟩:=pi_three w (.slice ao N cap) p;go_enter Tryz.func11,Tryz.ntmps11;go_upto_region 2 with fail;generalize ((w.alloc (.cells (piArr (.slice ao N cap) p) 24)).alloc (.cells zeroPi 29)).alloc (.cells zeroPi 29)=W0 at HS HT0 HR0 HR1 HR2 ⊢;have q0:=cellKQ HR0.out 0 rfl;go_wp2_with fail;clear q0;refine (c_toShardSX cap HN.out SM.out (sds_past HA.out HT0.out)).mono ?_;rintro e w1 ⟨M,rfl,hM,hK,hR,hb1⟩;have hs0:=HS.out;have R0:=(hb1.block w.heap.size (by omega)).trans HR0.out;have R1:=(hb1.block (w.heap.size+1) (by omega)).trans HR1.out;have R2:=(hb1.block (w.heap.size+1+1) (by omega)).trans HR2.out;have HM:=hide hM;have HK:=hide hK;have HR:=hide hR;have HT1:=hide (chain HT0.out hb1);clear hM hK hR hb1 HR0 HR1 HR2 HT0;have p1:=cellKQ R0 1 rfl;have p2:=cellKQ R0 2 rfl;have p3:=cellKQ R0 3 rfl;have p4:=cellKQ R0 4 rfl;have y0:=cellKQ R1 0 rfl;have y1:=cellKQ R1 1 rfl;have y2:=cellKQ R1 2 rfl;have y3:=cellKQ R1 3 rfl;have y4:=cellKQ R1 4 rfl;have z0:=cellKQ R2 0 rfl;have z1:=cellKQ R2 1 rfl;have z2:=cellKQ R2 2 rfl;have z3:=cellKQ R2 3 rfl;have z4:=cellKQ R2 4 rfl;have f0:=fzR 0 R1;have f1:=fzR 1 R1;have f2:=fzR 2 R1;have f3:=fzR 3 R1;have f4:=fzR 4 R1;have g0:=fzR 0 R2;have g1:=fzR 1 R2;have g2:=fzR 2 R2;have g3:=fzR 3 R2;have g4:=fzR 4 R2;clear R0 R1 R2;obtain ⟨gg,hgg⟩:∃ g,W0.heap.size=g:=⟨_,rfl⟩;rw [hgg] at HR ⊢;have hgl:w.heap.size+1+1<gg:=by omega
 clear hgg hs0 HS;go_wp2;refine bodyPost_ret (v:=.agg (piArr (.slice (some ⟨gg,0,none⟩) N N) p)) (by simp [results,Tryz.results11,go_sem,y0,y1,y2,y3,y4]) rfl ⟨M,gg,rfl,by omega,HM.out,HK.out,?_,?_⟩
 ·repeat (refine SdRowX.below ?_ (by omega) _)
  exact HR.out
 ·repeat (refine Below.setCell ?_ (by simp <;> omega) _)
  exact HT1.out
end Go.Proofs.YtmjogablacnlgaaGreatDoor
