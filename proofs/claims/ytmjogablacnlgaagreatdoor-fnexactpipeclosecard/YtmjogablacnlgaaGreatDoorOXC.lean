/-
 PipeRight of the program; what right shards with owners come to.
-/
import Derived.Test.YtmjogablacnlgaaGreatDoorOPB
import Derived.Test.YtmjogablacnlgaaGreatDoorOXB
namespace Go.Proofs.YtmjogablacnlgaaGreatDoor
set_option linter.unusedVariables false
set_option linter.unusedSimpArgs false
open Go.ChangeShapes Go.WideShapes Go.ChangeAt Go.RowKit Go.PlainAid Go.Maps
set_option maxRecDepth 10000
theorem ser_size {t:ByteArray} (h:serRB t=true):t.size≤100:=by
 obtain ⟨name,K,hs⟩:serRP t:=@of_decide_eq_true _ (Classical.propDecidable _) h;exact hs.2.2.2.2.1
theorem cRi_of {c:Ce} (h:cRi c=true):(0≤c.n∧c.n≤1000000000)∧c.s.size≤100:=by
 unfold cRi at h;simp only [Bool.and_eq_true] at h;obtain ⟨⟨⟨h1,h2⟩,_⟩,_⟩:=h;unfold winB at h1;simp only [Bool.and_eq_true,decide_eq_true_eq] at h1;exact ⟨h1,ser_size h2⟩
theorem shB_of {nm:ByteArray} {L:List Ce} (h:shB nm L=true):L.length≤60∧(∀ c∈L,cRi c=true)∧AscC L:=by
 unfold shB at h;exact csR_iff.1 (Bool.and_eq_true_iff.1 h).2
theorem sdsB_sh {S:List Sd} (h:sdsB S=true) {s:Sd} (hs:s∈S):shB s.nm s.L=true:=by
 unfold sdsB at h;exact (List.all_eq_true.1 (Bool.and_eq_true_iff.1 h).2) s hs
noncomputable def pipB (S:List Sd) (p:Pi):Bool:=clkB p.a p.b p.c p.d && (sdsB S && plB S p.d)
set_option maxHeartbeats 4000000 in
theorem c_i_PipeRight {w:World} {ao:Option Addr} {N ca:Nat} {S:List Sd} (p:Pi) (hN:S.length=N) (sm:SdsSm S) (ok:∀ s∈S,∀ c∈s.L,AgOk c.g∧c.s.size≤maxLen) (hm:MX w) (hA:SdsAt w ao S) :
  Calls Tryz.prog 12 #[.agg (piArr (.slice ao N ca) p)] w fun e w'=>e=.returned (.bool (pipB S p))∧Below w.heap.size w w':=by
 have HN:=hide hN;have SM:=hide sm;have OK:=hide ok;have HM:=hide hm;have HA:=hide hA;have HT0:=hide (((Below.refl _ _).alloc (Nat.le_refl _) _:Below w.heap.size w (w.alloc (.cells (piArr (.slice ao N ca) p) 29))));have r0:=cellKQ (heap_alloc_new w (.cells (piArr (.slice ao N ca) p) 29)) 0 rfl;have r1:=cellKQ (heap_alloc_new w (.cells (piArr (.slice ao N ca) p) 29)) 1 rfl;have r2:=cellKQ (heap_alloc_new w (.cells (piArr (.slice ao N ca) p) 29)) 2 rfl;have r3:=cellKQ (heap_alloc_new w (.cells (piArr (.slice ao N ca) p) 29)) 3 rfl;have r4:=cellKQ (heap_alloc_new w (.cells (piArr (.slice ao N ca) p) 29)) 4 rfl;clear hN sm ok hm hA;go_enter Tryz.func12,Tryz.ntmps12;go_upto_region 1 with fail;generalize w.alloc (.cells (piArr (.slice ao N ca) p) 29)=W0 at HT0 r0 r1 r2 r3 r4 ⊢;have HC:Hid (∀ W,Below W0.heap.size W0 W→W.cell? ⟨w.heap.size,0,none⟩=some (.slice ao N ca)∧W.cell? ⟨w.heap.size,1,none⟩=some (.int .i64 p.a)∧W.cell? ⟨w.heap.size,2,none⟩=some (.int .i64 p.b)∧W.cell? ⟨w.heap.size,3,none⟩=some (.int .i64 p.c)∧W.cell? ⟨w.heap.size,4,none⟩=some (.int .i64 p.d)):=fun W hW=>⟨cell_past hW r0,cell_past hW r1,cell_past hW r2,cell_past hW r3,cell_past hW r4⟩;go_wp2_with fail;refine (c_clockOf _ ao N ca rfl p.a p.b p.c p.d _).mono ?_;rintro e w1 ⟨rfl,hb1⟩;have HB1:=hide hb1;clear hb1 r0 r1 r2 r3 r4;go_wp2_with fail;refine (c_clockRight p.a p.b p.c p.d _).mono ?_;rintro e w2 ⟨rfl,hb2⟩;have HB2:=hide (chain HB1.out hb2);clear hb2 HB1
 cases hck:clkB p.a p.b p.c p.d with
 | false=>
  have HE:Hid (pipB S p=false):=by unfold pipB;rw [hck];exact hide rfl
  clear hck;go_wp2;go_ret;exact ⟨by rw [HE.out];rfl,chain HT0.out HB2.out⟩
 | true=>
  have HCK:=hide hck;obtain ⟨r0,r1,r2,r3,r4⟩:=HC.out _ HB2.out;have HT2:=hide (chain HT0.out HB2.out);clear hck;go_wp2_with fail;clear r0 r1 r2 r3 r4;refine (c_shardsRight HN.out SM.out OK.out (HM.out.past HT2.out) (sds_past HA.out HT2.out)).mono ?_;rintro e w3 ⟨rfl,hb3⟩;have HB3:=hide (chain HB2.out hb3);clear hb3
  cases hsd:sdsB S with
  | false=>
   have HE:Hid (pipB S p=false):=by unfold pipB;rw [hsd,HCK.out];exact hide rfl
   clear hsd;go_wp2;go_ret;exact ⟨by rw [HE.out];rfl,chain HT0.out HB3.out⟩
  | true=>
   have HSD:=hide hsd;have HE:Hid (pipB S p=plB S p.d):=by unfold pipB;rw [hsd,HCK.out];exact hide (by simp)
   obtain ⟨r0,r1,r2,r3,r4⟩:=HC.out _ HB3.out;have HT3:=hide (chain HT0.out HB3.out);clear hsd;go_wp2_with fail;clear r0 r1 r2 r3 r4;refine (c_cellsPlaced p HN.out SM.out (fun s hs c hc=>by have:=cRi_of ((shB_of (sdsB_sh HSD.out hs)).2.1 c hc);exact ⟨this.1,(OK.out s hs c hc).2⟩) (sds_past HA.out HT3.out)).mono ?_;rintro e w4 ⟨rfl,hb4⟩;have HB4:=hide (chain HT3.out hb4);clear hb4
   cases hpl:plB S p.d <;> (go_wp2;go_ret;exact ⟨by rw [HE.out,hpl];rfl,HB4.out⟩)
theorem qs_of {S:List Sd} (hsd:sdsB S=true) (ok:∀ s∈S,∀ c∈s.L,AgOk c.g∧AgSm c.g∧c.s.size≤maxLen∧PlG c.g c.p) (own:∀ x∈fcS S,OwnAns (S.map Sd.nm) x.2.s x.1):QS S:=by
 have hmb:membersB (S.map Sd.nm)=true:=(Bool.and_eq_true_iff.1 (by unfold sdsB at hsd;exact hsd)).1;refine ⟨ok,fun s hs=>(shB_of (sdsB_sh hsd hs)).1,fun s hs=>(shB_of (sdsB_sh hsd hs)).2.2,by have:=(memb_len hmb).2;rwa [List.length_map] at this,fun k s hs c hc hk=>?_⟩;obtain ⟨d,hd,e1,e2⟩:=hk;obtain ⟨t,ht,hd⟩:=mem_allC hd;obtain ⟨j,hj,rfl⟩:=List.mem_iff_getElem.1 ht;rw [List.length_take] at hj;have hjS:S[j]?=some (S.take k)[j]:=by rw [List.getElem_take,List.getElem?_eq_getElem]
 have hm1:((S.take k)[j].nm,d)∈fcS S:=by
  unfold fcS;exact List.mem_flatMap.2 ⟨_,List.mem_of_getElem? hjS,List.mem_map_of_mem hd⟩
 have hm2:(s.nm,c)∈fcS S:=by
  unfold fcS;exact List.mem_flatMap.2 ⟨_,List.mem_of_getElem? hs,List.mem_map_of_mem hc⟩
 have o1:=own _ hm1;have o2:=own _ hm2;have o1:OwnAns (S.map Sd.nm) c.s (S.take k)[j].nm:=by rw [← e2];exact o1
 have e:=own_one o1 o2;have n1:(S.map Sd.nm)[j]?=some (S.take k)[j].nm:=by rw [List.getElem?_map,hjS];rfl
 have n2:(S.map Sd.nm)[j+(k - j - 1)+1]?=some s.nm:=by rw [show j+(k - j - 1)+1=k by omega,List.getElem?_map,hs];rfl
 have lt:=memb_rise hmb n1 (k - j - 1) n2;rw [e,show (s.nm,c).1=s.nm from rfl,strLt_irr] at lt
 cases lt
theorem fcS_snd (S:List Sd):(fcS S).map Prod.snd=allC S:=by
 unfold fcS allC;rw [List.map_flatMap]
 congr 1
 funext s
 rw [List.map_map];exact List.map_id' _
theorem cnt_all {S:List Sd} {R:List Ce} (h:(R.map Ce.key).Perm ((allC S).map Ce.key)) (win:Int):cntW R win=cntD (fcS S) win:=by
 have e1:cntD (fcS S) win=(allC S).countP (fun c=>decide (c.n=win)):=by
  rw [← fcS_snd,List.countP_map];rfl
 have e2:∀ L:List Ce,L.countP (fun c=>decide (c.n=win))=(L.map Ce.key).countP (fun x=>decide (x.1=win)):=fun L=>by rw [List.countP_map];rfl
 unfold cntW;rw [e1,e2,e2];exact h.countP_eq _
theorem pl_of {S:List Sd} {R:List Ce} {cl:Int} {own:ByteArray→ByteArray→Prop} (h:(R.map Ce.key).Perm ((allC S).map Ce.key)) (hl:(fcS S).length≤60) (hc:∀ c∈R,cntW R c.n≤20) (hp:∀ x∈fcS S,cl≤x.2.n∧own x.2.s x.1):PlP (fcS S) cl own:=by
 refine ⟨hl,fun win=>?_,hp⟩;rw [← cnt_all h];by_cases q:∃ c∈R,c.n=win
 ·obtain ⟨c,hc1,rfl⟩:=q
  exact hc c hc1
 ·have:cntW R win=0:=by
   unfold cntW;exact List.countP_eq_zero.2 (fun c hc1=>by simpa using fun e=>q ⟨c,hc1,e⟩)
  omega
theorem pip_clk {S:List Sd} {p:Pi} (h:clkB p.a p.b p.c p.d=false):pipB S p=false:=by unfold pipB;rw [h];rfl
theorem pip_sds {S:List Sd} {p:Pi} (h:sdsB S=false):pipB S p=false:=by unfold pipB;rw [h];simp
theorem pip_pl {S:List Sd} {p:Pi} (h:¬ PlP (fcS S) p.d (OwnAns (S.map Sd.nm))):pipB S p=false:=by unfold pipB;rw [plB_no h];simp
theorem pip_yes {S:List Sd} {p:Pi} (h1:clkB p.a p.b p.c p.d=true) (h2:sdsB S=true) (h:PlP (fcS S) p.d (OwnAns (S.map Sd.nm))):pipB S p=true:=by unfold pipB;rw [plB_yes h,h1,h2];rfl
theorem sds_memb {S:List Sd} (h:membersB (S.map Sd.nm)=false):sdsB S=false:=by unfold sdsB;rw [h];rfl
theorem sds_fall {S:List Sd} {k:Nat} {s:Sd} (h:S[k]?=some s) (hs:shB s.nm s.L=false):sdsB S=false:=by
 unfold sdsB;rw [all_fall (f:=fun s=>shB s.nm s.L) h hs];simp
def Pls (S:List Sd) (cl:Int) (k:Nat):Prop:=∀ x∈(fcS S).take k,cl≤x.2.n∧OwnAns (S.map Sd.nm) x.2.s x.1
theorem Pls.step {S:List Sd} {cl:Int} {k:Nat} {x:ByteArray×Ce} (h:Pls S cl k) (hx:(fcS S)[k]?=some x) (h3:cl≤x.2.n) (h4:OwnAns (S.map Sd.nm) x.2.s x.1):Pls S cl (k+1):=fun y hy=>by
 rw [List.take_add_one,hx] at hy;rcases List.mem_append.1 hy with hy | hy
 ·exact h y hy
 ·simp at hy
  subst hy;exact ⟨h3,h4⟩
set_option maxHeartbeats 16000000 in
theorem c_s_PipeRight {w:World} {ao:Option Addr} {N ca:Nat} {S:List Sd} (p:Pi) (hN:S.length=N) (sm:SdsSm S) (ok:∀ s∈S,∀ c∈s.L,AgOk c.g∧c.s.size≤maxLen∧PlG c.g c.p) (hA:SdsAt w ao S) :
  Calls Tryz.prog 10 #[.agg (piArr (.slice ao N ca) p)] w fun e w'=>e=.returned (.bool (pipB S p))∧Below w.heap.size w w':=by
 have HN:=hide hN;have SM:=hide sm;have OK:=hide ok;have HA:=hide hA;have lN:N≤1048576:=by have:=sm.n;omega
 have LM:Hid ((S.map Sd.nm).length=N):=by rw [List.length_map];exact HN
 have HT0:=hide (((Below.refl _ _).alloc (Nat.le_refl _) _:Below w.heap.size w (w.alloc (.cells (piArr (.slice ao N ca) p) 29))));have r0:=cellKQ (heap_alloc_new w (.cells (piArr (.slice ao N ca) p) 29)) 0 rfl;have r1:=cellKQ (heap_alloc_new w (.cells (piArr (.slice ao N ca) p) 29)) 1 rfl;have r2:=cellKQ (heap_alloc_new w (.cells (piArr (.slice ao N ca) p) 29)) 2 rfl;have r3:=cellKQ (heap_alloc_new w (.cells (piArr (.slice ao N ca) p) 29)) 3 rfl;have r4:=cellKQ (heap_alloc_new w (.cells (piArr (.slice ao N ca) p) 29)) 4 rfl;clear hN sm ok hA;go_enter Tryz.func10,Tryz.ntmps10;go_upto_region 1 with fail;generalize w.alloc (.cells (piArr (.slice ao N ca) p) 29)=W0 at HT0 r0 r1 r2 r3 r4 ⊢;have HC:Hid (∀ W,Below W0.heap.size W0 W→W.cell? ⟨w.heap.size,0,none⟩=some (.slice ao N ca)∧W.cell? ⟨w.heap.size,1,none⟩=some (.int .i64 p.a)∧W.cell? ⟨w.heap.size,2,none⟩=some (.int .i64 p.b)∧W.cell? ⟨w.heap.size,3,none⟩=some (.int .i64 p.c)∧W.cell? ⟨w.heap.size,4,none⟩=some (.int .i64 p.d)):=fun W hW=>⟨cell_past hW r0,cell_past hW r1,cell_past hW r2,cell_past hW r3,cell_past hW r4⟩;go_wp2_with fail;refine (c_s_l10Names (ca:=ca) p HN.out lN (sds_past HA.out HT0.out)).mono ?_;rintro e w1 ⟨bo,cn,rfl,ho,hb1⟩;have HO:=hide ho;have HB1:=hide hb1;clear ho hb1 r0 r1 r2 r3 r4;go_wp2_with fail;have hcM:=c_s_MembersRight (w:=w1) (ao:=bo) (L:=S.map Sd.nm) cn (by rw [LM.out];exact lN) (fun u hu=>by obtain ⟨z,hz,rfl⟩:=List.mem_map.1 hu;exact SM.out.nz z hz) HO.out.at
 rw [LM.out] at hcM;refine hcM.mono ?_;rintro e w2 ⟨rfl,hb2⟩;have HS2:=hide (strs_past HO.out.at hb2);have HB2:=hide (chain HB1.out hb2);have HT2:=hide (chain HT0.out HB2.out);have HA2:=hide (sds_past HA.out HT2.out);have HC2:Hid (∀ W,Below w2.heap.size w2 W→W.cell? ⟨w.heap.size,0,none⟩=some (.slice ao N ca)∧W.cell? ⟨w.heap.size,1,none⟩=some (.int .i64 p.a)∧W.cell? ⟨w.heap.size,2,none⟩=some (.int .i64 p.b)∧W.cell? ⟨w.heap.size,3,none⟩=some (.int .i64 p.c)∧W.cell? ⟨w.heap.size,4,none⟩=some (.int .i64 p.d)):=fun W hW=>HC.out W (chain HB2.out hW);clear hcM hb2 HB1 HO HB2 HC HT0
 cases hmb:membersB (S.map Sd.nm) with
 | false=>
  have HE:Hid (pipB S p=false):=hide (pip_sds (sds_memb hmb));clear hmb;go_wp2;go_ret;exact ⟨by rw [HE.out];rfl,HT2.out⟩
 | true=>
  have HMB:=hide hmb;have lN12:N≤12:=by have:=(memb_len hmb).2;have:=LM.out;omega
  obtain ⟨r0,r1,r2,r3,r4⟩:=HC2.out w2 (Below.refl _ _);clear hmb;go_wp2_with fail;refine (c_l01IsP p.a 1 1000 _).mono ?_;rintro e wz ⟨rfl,hwz⟩;obtain rfl:=hwz.symm;rw [show (decide (1≤p.a) && decide (p.a≤1000))=inB p.a 1 1000 from rfl]
  cases ha:inB p.a 1 1000 with
  | false=>
   have HE:Hid (pipB S p=false):=hide (pip_clk (by unfold clkB;rw [ha];simp));clear ha;go_wp2;go_ret;exact ⟨by rw [HE.out];rfl,HT2.out⟩
  | true=>
   have Ta:=hide ha;clear ha;go_wp2_with fail;refine (c_l01IsP p.b 0 1000 _).mono ?_;rintro e wz ⟨rfl,hwz⟩;obtain rfl:=hwz.symm;rw [show (decide (0≤p.b) && decide (p.b≤1000))=inB p.b 0 1000 from rfl]
   cases hb:inB p.b 0 1000 with
   | false=>
    have HE:Hid (pipB S p=false):=hide (pip_clk (by unfold clkB;rw [hb];simp));clear hb;go_wp2;go_ret;exact ⟨by rw [HE.out];rfl,HT2.out⟩
   | true=>
    have Tb:=hide hb;clear hb;go_wp2_with fail;refine (c_l08Window p.c _).mono ?_;rintro e wz ⟨rfl,hwz⟩;obtain rfl:=hwz.symm;rw [show winB p.c=inB p.c 0 1000000000 from rfl]
    cases hc:inB p.c 0 1000000000 with
    | false=>
     have HE:Hid (pipB S p=false):=hide (pip_clk (by unfold clkB;rw [hc];simp));clear hc;go_wp2;go_ret;exact ⟨by rw [HE.out];rfl,HT2.out⟩
    | true=>
     have Tc:=hide hc;clear hc;go_wp2_with fail;refine (c_l08Window p.d _).mono ?_;rintro e wz ⟨rfl,hwz⟩;obtain rfl:=hwz.symm;rw [show winB p.d=inB p.d 0 1000000000 from rfl]
     cases hd:inB p.d 0 1000000000 with
     | false=>
      have HE:Hid (pipB S p=false):=hide (pip_clk (by unfold clkB;rw [hd];simp));clear hd;go_wp2;go_ret;exact ⟨by rw [HE.out];rfl,HT2.out⟩
     | true=>
      have Td:=hide hd;clear hd;have HCK:Hid (clkB p.a p.b p.c p.d=true):=hide (by unfold clkB;rw [Ta.out,Tb.out,Tc.out,Td.out];rfl);clear r0 r1 r2 r3 r4 Ta Tb Tc Td;go_upto_region 6 with fail
      go_loopw [4,5] (fun m i wr=>∃ (k:Nat),k≤N∧i=.int .i64 k∧m=.int .i64 (offS S k:Nat)∧Hid (offS S k≤60*k∧(S.take k).all (fun s=>shB s.nm s.L)=true)∧Hid (Pls S p.d (offS S k))∧Hid (Below w2.heap.size w2 wr)) (fun m i wr=>N - (Go.RowKit.intOf i).toNat)
      case atStart=>exact ⟨0,Nat.zero_le _,rfl,by rw [offS_zero];rfl,⟨by rw [offS_zero];omega,by simp⟩,by rw [offS_zero];exact fun x hx=>by simp at hx,Below.refl _ _⟩
      case round=>
       obtain ⟨k,hk,rfl,rfl,HF,HP,HB⟩:=hrel;obtain ⟨r0,r1,r2,r3,r4⟩:=HC2.out wr HB.out;by_cases hkn:k<N
       ·have hkni:(k:Int)<(N:Int):=by omega
        obtain ⟨b,off,e,hcell⟩:=HA2.out.1 (by have:=HN.out;omega);subst e;obtain ⟨s,hs⟩:∃ s,S[k]?=some s:=⟨S[k]'(by have:=HN.out;omega),List.getElem?_eq_getElem _⟩;have HX:Hid (∀ W,Below w2.heap.size w2 W→W.cell? ⟨b,off+k*2,none⟩=some (.string s.nm)∧W.cell? ⟨b,off+k*2+1,none⟩=some (.slice s.ao s.L.length s.cp)):=fun W hW=>sdc_past (hcell k s hs) hW;obtain ⟨x0,x1⟩:=HX.out wr HB.out;have HS:=hide hs;have HSm:=hide (List.mem_of_getElem? hs);have hwk:IntKind.i64.wrap ((k:Int)+1)=((k+1:Nat):Int):=by rw [show (k:Int)+1=((k+1:Nat):Int) by omega];exact IntWalk.i64_in _ ⟨by omega,by omega⟩
        have HLs:=hide (SM.out.l s HSm.out);clear hcell hs;go_wp2_with fail;clear x0 x1 r0 r1 r2 r3 r4;refine (c_s_ShardRight s.nm (by have:=SM.out.nz s HSm.out;unfold maxLen;omega) rfl HLs.out (fun c hc=>(OK.out s HSm.out c hc).1) (SM.out.sm s HSm.out) (fun c hc=>(OK.out s HSm.out c hc).2.1) (ces_past (HA2.out.2 s HSm.out) HB.out)).mono ?_;rintro e w3 ⟨rfl,hb3⟩;have HB3:=hide (chain HB.out hb3);clear hb3
        cases hsb:shB s.nm s.L with
        | false=>
         have HE:Hid (pipB S p=false):=hide (pip_sds (sds_fall HS.out hsb));clear hsb;go_wp2;go_ret;exact ⟨by rw [HE.out];rfl,chain HT2.out HB3.out⟩
        | true=>
         have HSB:=hide (shB_of hsb);have HF2:Hid (offS S (k+1)≤60*(k+1)∧(S.take (k+1)).all (fun s=>shB s.nm s.L)=true):=hide ⟨by rw [offS_step HS.out];have:=HF.out.1;have:=(shB_of hsb).1;omega,all_take (f:=fun s=>shB s.nm s.L) HS.out HF.out.2 hsb⟩;have HSt:=hide (offS_step HS.out);obtain ⟨M,hM⟩:∃ M,s.L.length=M:=⟨_,rfl⟩
         have hwm:IntKind.i64.wrap ((offS S k:Int)+(M:Int))=((offS S (k+1):Nat):Int):=by
          have h1:=HF2.out.1;have h2:=HSt.out;rw [hM] at h2;rw [show (offS S k:Int)+(M:Int)=((offS S (k+1):Nat):Int) by omega];exact IntWalk.i64_in _ ⟨by omega,by omega⟩
         obtain ⟨r0,r1,r2,r3,r4⟩:=HC2.out w3 HB3.out;obtain ⟨x0,x1⟩:=HX.out w3 HB3.out;have lM:M≤60:=by have:=HSB.out.1;omega
         rw [hM] at HX x1 HSt;have HLM:=hide hM;clear hsb hM;go_upto_region 12 with fail;clear r0 r1 r2 r3 r4 x0 x1
         go_loopw [6] (fun kv wr=>∃ (q:Nat),q≤M∧kv=.int .i64 q∧Hid (Pls S p.d (offS S k+q))∧Hid (Below w2.heap.size w2 wr)) (fun kv wr=>M - (Go.RowKit.intOf kv).toNat)
         case atStart=>exact ⟨0,Nat.zero_le _,rfl,HP,HB3⟩
         case round=>
          clear HP HB HB3;obtain ⟨q,hq,rfl,HP,HB⟩:=hrel;obtain ⟨r0,r1,r2,r3,r4⟩:=HC2.out wr HB.out;obtain ⟨x0,x1⟩:=HX.out wr HB.out;by_cases hqm:q<M
          ·have hqmi:(q:Int)<(M:Int):=by omega
           obtain ⟨c,hc⟩:∃ c,s.L[q]?=some c:=⟨s.L[q]'(by have:=HLM.out;omega),List.getElem?_eq_getElem _⟩;obtain ⟨b1,off1,e1,hcell⟩:=(HA2.out.2 s HSm.out).1 (by have:=HLM.out;omega);obtain ⟨z0,z1,z2,z3,z4,z5,z6,z7,z8,z9,z10,z11,z12,z13,z14⟩:=cec_past (hcell q c hc) HB.out;have HC:Hid ((fcS S)[offS S k+q]?=some (s.nm,c)):=hide (fcS_at HS.out hc);have HW:=hide (cRi_of (HSB.out.2.1 c (List.mem_of_getElem? hc)));have hwq:IntKind.i64.wrap ((q:Int)+1)=((q+1:Nat):Int):=by rw [show (q:Int)+1=((q+1:Nat):Int) by omega];exact IntWalk.i64_in _ ⟨by omega,by omega⟩
           rw [e1] at x1;clear hcell hc;go_upto_region 15 with fail;clear z0 z1 z2 z3 z4 z5 z6 z7 z8 z9 z10 z11 z12 z13 z14 r0 r1 r2 r3 r4 x0 x1;have al:Below wr.heap.size wr (wr.alloc (.cells (ceArr c) 69)):=(Below.refl _ _).alloc (Nat.le_refl _) _;have HY0:Hid ((wr.alloc (.cells (ceArr c) 69)).cell? ⟨wr.heap.size,0,none⟩=some (.int .i64 c.n)):=hide (cellKQ (heap_alloc_new wr (.cells (ceArr c) 69)) 0 rfl);have HY1:Hid ((wr.alloc (.cells (ceArr c) 69)).cell? ⟨wr.heap.size,1,none⟩=some (.string c.s)):=hide (cellKQ (heap_alloc_new wr (.cells (ceArr c) 69)) 1 rfl);have HB5:=hide (chain HB.out al);clear al HB;generalize wr.alloc (.cells (ceArr c) 69)=W5 at HB5 HY0 HY1 ⊢;generalize wr.heap.size=cb at HY0 HY1 ⊢;clear wr;have hkN:¬ N≤k:=by omega
           by_cases hcl:c.n<p.d
           ·have HE:Hid (pipB S p=false):=hide (pip_pl (fun h=>by have:=(h.at HC.out).2.2.1;have e:(s.nm,c).2.n=c.n:=rfl;omega))
            have HS0:(fun W=>Below W5.heap.size W5 W) W5.drew:=(Below.refl _ _).drew;refine regionK (fun W=>Below W5.heap.size W5 W) 99 (by kernel_rfl) ?_;refine tkS (i:=0) (v:=.pointer (some ⟨cb,0,none⟩)) rfl rfl HS0 ?_;refine tkL (i:=1) (v:=.int .i64 c.n) rfl rfl HS0 (fun W hW=>?_) ?_
            ·have z:=cell_past hW HY0.out
             clear hW;go_simp
            refine tkS (i:=2) (v:=.pointer (some ⟨w.heap.size,4,none⟩)) rfl rfl HS0 ?_;simp only [sA,sB,sC];refine tkL (i:=3) (v:=.int .i64 p.d) rfl rfl HS0 (fun W hW=>?_) ?_
            ·have z:=(HC2.out W (chain HB5.out hW)).2.2.2.2
             clear hW;go_simp
            refine tkS (i:=4) (v:=.bool true) rfl rfl HS0 ?_;refine tkS (i:=5) (v:=.bool true) rfl rfl HS0 ?_;simp only [sA,sB,sC];refine tkU (i:=6) rfl rfl HS0 ?_;refine tkU (i:=7) rfl rfl HS0 ?_;refine tkU (i:=8) rfl rfl HS0 ?_;simp only [sA,sB,sC];refine tkU (i:=10) rfl rfl HS0 ?_;refine tkU (i:=11) rfl rfl HS0 ?_;refine tkU (i:=12) rfl rfl HS0 ?_;simp only [sA,sB,sC];refine tkU (i:=13) rfl rfl HS0 ?_;refine tkU (i:=14) rfl rfl HS0 ?_;refine tkU (i:=15) rfl rfl HS0 ?_;simp only [sA,sB,sC];refine onE (i:=9) rfl (fun K hK=>?_);refine Eq.mpr (if_neg (fun h=>Bool.noConfusion (show false=true from h))) ?_;refine hK.out _ _ (fun _=>HS0) ?_;clear hK K
            try simp only [Act.put,sA,sB,sC]
            refine tkU (i:=16) rfl rfl HS0 ?_;refine tkS (i:=17) (v:=.bool true) rfl rfl HS0 ?_;simp only [sA,sB,sC];refine doneK (by kernel_rfl) ?_ _;go_wp2;go_ret;exact ⟨by rw [HE.out];rfl,chain HT2.out (chain HB5.out HS0)⟩
           ·have HS0:(fun W=>Below W5.heap.size W5 W) W5.drew:=(Below.refl _ _).drew
            refine regionK (fun W=>Below W5.heap.size W5 W) 99 (by kernel_rfl) ?_;refine tkS (i:=0) (v:=.pointer (some ⟨cb,0,none⟩)) rfl rfl HS0 ?_;refine tkL (i:=1) (v:=.int .i64 c.n) rfl rfl HS0 (fun W hW=>?_) ?_
            ·have z:=cell_past hW HY0.out
             clear hW;go_simp
            refine tkS (i:=2) (v:=.pointer (some ⟨w.heap.size,4,none⟩)) rfl rfl HS0 ?_;simp only [sA,sB,sC];refine tkL (i:=3) (v:=.int .i64 p.d) rfl rfl HS0 (fun W hW=>?_) ?_
            ·have z:=(HC2.out W (chain HB5.out hW)).2.2.2.2
             clear hW;go_simp
            refine tkS (i:=4) (v:=.bool false) rfl rfl HS0 ?_;refine tkS (i:=5) (v:=.bool false) rfl rfl HS0 ?_;simp only [sA,sB,sC];refine tkS (i:=6) (v:=.slice bo N cn) rfl rfl HS0 ?_;refine tkS (i:=7) (v:=.pointer (some ⟨cb,1,none⟩)) rfl rfl HS0 ?_;refine tkL (i:=8) (v:=.string c.s) rfl rfl HS0 (fun W hW=>?_) ?_
            ·have z:=cell_past hW HY1.out
             clear hW;go_simp
            simp only [sA,sB,sC];refine tkS (i:=10) (v:=.pointer (some ⟨w.heap.size,0,none⟩)) rfl rfl HS0 ?_;refine tkL (i:=11) (v:=.slice (some ⟨b,off,none⟩) N ca) rfl rfl HS0 (fun W hW=>?_) ?_
            ·have z:=(HC2.out W (chain HB5.out hW)).1
             clear hW;go_simp
            refine tkS (i:=12) (v:=.int .i64 (k:Int)) rfl rfl HS0 ?_;simp only [sA,sB,sC];refine tkS (i:=13) (v:=.pointer (some ⟨b,off+k*2,none⟩)) rfl rfl HS0 ?_;refine tkS (i:=14) (v:=.pointer (some ⟨b,off+k*2,none⟩)) rfl rfl HS0 ?_;refine tkL (i:=15) (v:=.string s.nm) rfl rfl HS0 (fun W hW=>?_) ?_
            ·have z:=(HX.out W (chain HB5.out hW)).1
             clear hW;go_simp
            simp only [sA,sB,sC];refine onE (i:=9) rfl (fun K hK=>?_);go_simp;have hcO:=c_s_l02Owner (w:=W5.drew) (L:=S.map Sd.nm) (ao:=bo) cn c.s (by have:=HW.out.2;omega) HMB.out (strs_past HS2.out (chain HB5.out (HS0:Below W5.heap.size W5 W5.drew)));rw [LM.out] at hcO;refine hcO.mono ?_;rintro e w7 ⟨o,rfl,ho,hb7⟩;have HAo:=hide ho;have HB7:Hid (Below W5.heap.size W5 w7):=(HS0:Below W5.heap.size W5 W5.drew).trans (hb7.mono (Nat.le_refl _));clear hb7 ho hcO;dsimp only;refine hK.out _ _ (fun _=>HB7.out) ?_;clear hK K
            try simp only [Act.put,sA,sB,sC]
            refine tkS (i:=16) (v:=.bool (!(o.toList == s.nm.toList))) rfl rfl HB7.out ?_;refine tkS (i:=17) (v:=.bool (!(o.toList == s.nm.toList))) rfl rfl HB7.out ?_;simp only [sA,sB,sC];refine doneK (by kernel_rfl) ?_ _;have HB8:=hide (chain HB5.out HB7.out);generalize hbx:(o.toList == s.nm.toList)=bx;by_cases hoe:o=s.nm
            ·obtain rfl:bx=true:=by rw [← hbx,hoe];exact beq_self_eq_true _
             have HP2:=hide (HP.out.step HC.out (by show p.d≤c.n;omega) (by show OwnAns _ c.s s.nm;rw [← hoe];exact HAo.out));clear hoe hbx;go_wp2;go_roundw
             case rel=>first | exact ⟨q+1,by omega,(by first | rfl | go_num),HP2,HB8⟩ | exact ⟨q+1,by omega,(by first | rfl | go_num),HP2.out⟩ | exact ⟨q+1,(by first | rfl | go_num),HP2.out⟩
             case measure=>simp [Go.RowKit.intOf];omega
            ·obtain rfl:bx=false:=hbx.symm.trans <| beq_eq_false_iff_ne.2 (fun e=>hoe (by rw [ByteArray.toList_eq,ByteArray.toList_eq] at e;exact ByteArray.ext (Array.toList_inj.1 e)))
             have HE:Hid (pipB S p=false):=hide (pip_pl (fun h=>hoe (own_one HAo.out (h.at HC.out).2.2.2)));clear hoe hbx;go_wp2;go_ret;exact ⟨by rw [HE.out];rfl,chain HT2.out HB8.out⟩
          ·have hqmi:¬ (q:Int)<(M:Int):=by omega
           obtain rfl:q=M:=by omega
           rw [← HSt.out] at HP;go_wp2;go_roundw
           case rel=>exact ⟨k+1,by omega,by first | rfl | go_num,rfl,HF2,HP,HB⟩
           case measure=>simp [Go.RowKit.intOf];omega
       ·have hkni:¬ (k:Int)<(N:Int):=by omega
        obtain rfl:k=N:=by omega
        have hlen:=offS_end (S:=S) (k:=k) (by have:=HN.out;omega);by_cases h60:offS S k≤60
        ·have d60:¬ (60:Int)<(offS S k:Int):=by omega
         have hpl:∀ x∈fcS S,p.d≤x.2.n∧OwnAns (S.map Sd.nm) x.2.s x.1:=fun x hx=>HP.out x (by rw [hlen,List.take_length];exact hx)
         have hsd:sdsB S=true:=by
          have h1:=HF.out.2;rw [List.take_of_length_le (by have:=HN.out;omega)] at h1;unfold sdsB;rw [HMB.out,h1];rfl
         have HSD:=hide hsd;have HPL:=hide hpl;have HL:=hide hlen;have HQ:=hide (qs_of hsd (fun s hs c hc=>⟨(OK.out s hs c hc).1,SM.out.sm s hs c hc,(OK.out s hs c hc).2.1,(OK.out s hs c hc).2.2⟩) (fun x hx=>(hpl x hx).2));clear hpl hsd hlen;go_wp2_with fail;clear r0 r1 r2 r3 r4;refine (c_l10All p HN.out HQ.out (sds_past HA2.out HB.out)).mono ?_;rintro e w5 ⟨v5,R,rfl,hla⟩;obtain ⟨g,cp,ev,_⟩:=hla.r.src hla.ne;subst ev;have HLa:=hide hla;have HB5:=hide (chain HB.out hla.b);have lR:R.length≤720:=hla.len HQ.out;have HCe:Hid (CesAt w5 (some ⟨g,0,none⟩) R):=hide (OwnC.at hla.r (fun c hc=>(hla.o.o c hc).at));obtain ⟨n,hn⟩:∃ n,R.length=n:=⟨_,rfl⟩;rw [hn] at lR ⊢;have HNn:=hide hn;clear hla hn;go_wp2
         go_loopw [9] (fun i wr=>∃ (j:Nat),j≤n∧i=.int .i64 j∧Hid (∀ c∈R.take j,cntW R c.n≤20)∧Hid (Below w5.heap.size w5 wr)) (fun i wr=>n - (Go.RowKit.intOf i).toNat)
         case atStart=>exact ⟨0,Nat.zero_le _,rfl,fun c hc=>by simp at hc,Below.refl _ _⟩
         case round=>
          obtain ⟨j,hj,rfl,HT,HBw⟩:=hrel;by_cases hjn:j<n
          ·have hjni:(j:Int)<(n:Int):=by omega
           obtain ⟨c,hc⟩:∃ c,R[j]?=some c:=⟨R[j]'(by have:=HNn.out;omega),List.getElem?_eq_getElem _⟩;obtain ⟨b1,off1,e1,hcell⟩:=HCe.out.1 (by have:=HNn.out;omega);injection e1 with e1;injection e1 with e1 e2 e3;subst e1 e2;have z0:wr.cell? ⟨g,0+j*15,none⟩=some (.int .i64 c.n):=(cec_past (hcell j c hc) HBw.out).1;rw [Nat.zero_add] at z0;have HCk:=hide hc;have hwj:IntKind.i64.wrap ((j:Int)+1)=((j+1:Nat):Int):=by rw [show (j:Int)+1=((j+1:Nat):Int) by omega];exact IntWalk.i64_in _ ⟨by omega,by omega⟩
           clear hcell hc;go_wp2_with fail;clear z0;refine (c_l10Window c.n HNn.out (by omega) (ces_past HCe.out HBw.out)).mono ?_;rintro e wz ⟨rfl,hwz⟩;obtain rfl:=hwz.symm;obtain ⟨C,hC⟩:∃ C:Int,(cntW R c.n:Int)=C:=⟨_,rfl⟩;rw [hC];have HCC:=hide hC;clear hC;by_cases h20:C≤20
           ·have d20:¬ (20:Int)<C:=by omega
            have HT2':Hid (∀ c∈R.take (j+1),cntW R c.n≤20):=hide (fun d hd=>by
             rw [List.take_add_one,HCk.out] at hd;rcases List.mem_append.1 hd with hd | hd
             ·exact HT.out d hd
             ·simp at hd
              subst hd;have:=HCC.out;omega)
            go_wp2;go_roundw
            case rel=>exact ⟨j+1,by omega,by first | rfl | go_num,HT2',HBw⟩
            case measure=>simp [Go.RowKit.intOf];omega
           ·have d20:(20:Int)<C:=by omega
            have HE:Hid (pipB S p=false):=hide (pip_pl (fun h=>by
             have h1:=h.c c.n;have h2:=HLa.out.pm;rw [List.take_of_length_le (by have:=HN.out;omega)] at h2;rw [← cnt_all h2] at h1;have:=HCC.out;omega))
            clear h20;go_wp2;go_ret;exact ⟨by rw [HE.out];rfl,chain HT2.out (chain HB5.out HBw.out)⟩
          ·have hjni:¬ (j:Int)<(n:Int):=by omega
           have HE:Hid (pipB S p=true):=hide (pip_yes HCK.out HSD.out (by
            have h2:=HLa.out.pm;rw [List.take_of_length_le (by have:=HN.out;omega)] at h2;have h3:=HT.out;rw [List.take_of_length_le (by have:=HNn.out;omega)] at h3;exact pl_of h2 (by have:=HL.out;omega) h3 HPL.out))
           go_wp2;go_ret;exact ⟨by rw [HE.out];rfl,chain HT2.out (chain HB5.out HBw.out)⟩
        ·have d60:(60:Int)<(offS S k:Int):=by omega
         have HE:Hid (pipB S p=false):=hide (pip_pl (fun h=>by have:=h.l;omega));clear hlen h60;go_wp2;go_ret;exact ⟨by rw [HE.out];rfl,chain HT2.out HB.out⟩
end Go.Proofs.YtmjogablacnlgaaGreatDoor
namespace Go.Proofs.YtmjogablacnlgaaGreatDoor
set_option linter.unusedVariables false
set_option linter.unusedSimpArgs false
open Go.ChangeShapes Go.WideShapes Go.ChangeAt Go.RowKit Go.PlainAid
theorem sds_mem {S M:List Sd} (h:M.map Sd.key=S.map Sd.key) {t:Sd} (ht:t∈M):∃ s∈S,t.nm=s.nm∧t.L.map Ce.key=s.L.map Ce.key:=by
 have hm:t.key∈S.map Sd.key:=h ▸ List.mem_map_of_mem ht;obtain ⟨s,hs,e⟩:=List.mem_map.1 hm;exact ⟨s,hs,(key_len e).1.symm,(key_len e).2.1.symm⟩
theorem ces_mem {L M:List Ce} (h:M.map Ce.key=L.map Ce.key) {c:Ce} (hc:c∈M):∃ d∈L,d.n=c.n∧d.s=c.s∧d.g=c.g:=by
 have hm:c.key∈L.map Ce.key:=h ▸ List.mem_map_of_mem hc;obtain ⟨d,hd,e⟩:=List.mem_map.1 hm;exact ⟨d,hd,key3 e⟩
theorem sds_all {S M:List Sd} (h:M.map Sd.key=S.map Sd.key) (Q:Int→ByteArray→Ag→Prop) (hq:∀ s∈S,∀ c∈s.L,Q c.n c.s c.g):∀ s∈M,∀ c∈s.L,Q c.n c.s c.g:=fun s hs c hc=>by
 obtain ⟨t,ht,_,e⟩:=sds_mem h hs;obtain ⟨d,hd,e1,e2,e3⟩:=ces_mem e hc;rw [← e1,← e2,← e3];exact hq t ht d hd
theorem SdsSm.key {S M:List Sd} (h:M.map Sd.key=S.map Sd.key) (q:SdsSm S):SdsSm M:=by
 refine ⟨?_,fun s hs=>?_,sds_all h (fun _ _ g=>AgSm g) q.sm,fun s hs=>?_⟩
 ·have:=congrArg List.length h
  simp only [List.length_map] at this;rw [this];exact q.n
 ·obtain ⟨t,ht,_,e⟩:=sds_mem h hs
  have:=congrArg List.length e;simp only [List.length_map] at this;rw [this];exact q.l t ht
 ·obtain ⟨t,ht,e,_⟩:=sds_mem h hs
  rw [e];exact q.nz t ht
theorem nm_key {S M:List Sd} (h:M.map Sd.key=S.map Sd.key):M.map Sd.nm=S.map Sd.nm:=by
 have e:∀ L:List Sd,L.map Sd.nm=(L.map Sd.key).map Prod.fst:=fun L=>by rw [List.map_map];rfl
 rw [e,e,h]
theorem sdsB_key {S M:List Sd} (h:M.map Sd.key=S.map Sd.key):sdsB M=sdsB S:=by
 unfold sdsB;rw [nm_key h]
 congr 1
 have e:∀ {A B:List Sd},A.map Sd.key=B.map Sd.key→B.all (fun s=>shB s.nm s.L)=true→A.all (fun s=>shB s.nm s.L)=true:=fun {A B} k hb=>List.all_eq_true.2 (fun s hs=>by
  obtain ⟨t,ht,e1,e2⟩:=sds_mem k hs;have h1:=(List.all_eq_true.1 hb) t ht;have h2:shB s.nm s.L=shB t.nm t.L:=by unfold shB;rw [e1,csR_key e2]
  rw [h2];exact h1)
 exact Bool.eq_iff_iff.2 ⟨e h.symm,e h⟩
theorem fc_key {S M:List Sd} (h:M.map Sd.key=S.map Sd.key):(fcS M).map (fun x=>(x.1,x.2.n,x.2.s))=(fcS S).map (fun x=>(x.1,x.2.n,x.2.s)):=by
 have e:∀ L:List Sd,(fcS L).map (fun x=>(x.1,x.2.n,x.2.s))=(L.map Sd.key).flatMap (fun k=>k.2.map (fun c=>(k.1,c.1,c.2.1))):=fun L=>by
  unfold fcS;rw [List.map_flatMap,List.flatMap_map]
  congr 1
  funext s
  rw [List.map_map]
  show _=(s.L.map Ce.key).map _
  rw [List.map_map]
  rfl
 rw [e,e,h]
theorem PlP.key {D E:List (ByteArray×Ce)} {cl:Int} {own:ByteArray→ByteArray→Prop} (h:E.map (fun x=>(x.1,x.2.n,x.2.s))=D.map (fun x=>(x.1,x.2.n,x.2.s))) (q:PlP D cl own):PlP E cl own:=by
 have e:∀ (L:List (ByteArray×Ce)) (win:Int),cntD L win=(L.map (fun x=>(x.1,x.2.n,x.2.s))).countP (fun y=>decide (y.2.1=win)):=fun L win=>by rw [List.countP_map];rfl
 refine ⟨?_,fun win=>?_,fun x hx=>?_⟩
 ·have:=congrArg List.length h
  simp only [List.length_map] at this;rw [this];exact q.l
 ·rw [e,h,← e];exact q.c win
 ·have hm:(x.1,x.2.n,x.2.s)∈D.map (fun x=>(x.1,x.2.n,x.2.s)):=h ▸ List.mem_map.2 ⟨x,hx,rfl⟩
  obtain ⟨y,hy,e1⟩:=List.mem_map.1 hm;have q1:=q.p y hy;injection e1 with a1 a2;injection a2 with a2 a3;rw [← a1,← a2,← a3];exact q1
theorem plB_key {S M:List Sd} (h:M.map Sd.key=S.map Sd.key) (cl:Int):plB M cl=plB S cl:=by
 have hn:=nm_key h;by_cases q:PlP (fcS S) cl (OwnAns (S.map Sd.nm))
 ·rw [plB_yes q,plB_yes (by rw [hn];exact q.key (fc_key h))]
 ·rw [plB_no q,plB_no (fun k=>q (by rw [hn] at k;exact k.key (fc_key h.symm)))]
theorem pipB_key {S M:List Sd} (h:M.map Sd.key=S.map Sd.key) (p:Pi):pipB M p=pipB S p:=by
 unfold pipB;rw [sdsB_key h,plB_key h]
end Go.Proofs.YtmjogablacnlgaaGreatDoor
