/-
 PipeJoin of the model.
-/
import Derived.Test.YtmjogablacnlgaaGreatDoorVZH
import Derived.Test.YtmjogablacnlgaaGreatDoorVZE
namespace Go.Proofs.YtmjogablacnlgaaGreatDoor
set_option linter.unusedVariables false
set_option linter.unusedSimpArgs false
open Go.ChangeShapes Go.WideShapes Go.ChangeAt Go.RowKit Go.PlainAid Go.Lib Go.Maps
set_option maxRecDepth 10000
set_option maxHeartbeats 1000000 in
theorem c_l10Ill (cd:Int) (w:World):Calls Tryz.prog 63 #[.int .i64 cd] w fun e w'=>e=.returned (.agg (poArr (.slice none 0 0) q0 (.slice none 0 0) cd))∧Below w.heap.size w w':=by
 have HB:Hid (∀ o1,Below w.heap.size w (w.alloc o1)):=fun o1=>(Below.refl _ _).alloc (Nat.le_refl _) _;go_enter Tryz.func63,Tryz.ntmps63;go_wp2;exact bodyPost_ret (v:=.agg (poArr (.slice none 0 0) q0 (.slice none 0 0) cd)) (by simp [results,Tryz.results63,go_sem]) rfl ⟨rfl,HB.out _⟩
set_option maxHeartbeats 2000000 in
theorem c_l10Has {w:World} {an:Option Addr} {cn:Nat} {K:List ByteArray} (u:ByteArray) (hl:K.length≤100000) (hA:StrsAt w an K) :
  Calls Tryz.prog 65 #[.slice an K.length cn,.string u] w fun e w'=>e=.returned (.bool (inK K u))∧w'=w:=by
 have HA:=hide hA;obtain ⟨B,hB⟩:∃ B,inK K u=B:=⟨_,rfl⟩;rw [hB];have HB:=hide hB;clear hA hB;go_enter Tryz.func65,Tryz.ntmps65;go_wp2
 go_loopw [5] (fun i wr=>∃ (k:Nat),k≤K.length∧i=.int .i64 k∧Hid (u ∉ K.take k)∧wr=w) (fun i wr=>K.length - (Go.RowKit.intOf i).toNat)
 case atStart=>exact ⟨0,Nat.zero_le _,rfl,hide (by simp),rfl⟩
 case round=>
  obtain ⟨k,hk,rfl,HU,hwr⟩:=hrel;subst hwr;by_cases hkn:k<K.length
  ·have hkni:(k:Int)<(K.length:Int):=by omega
   obtain ⟨x,hx⟩:∃ x,K[k]?=some x:=⟨K[k],List.getElem?_eq_getElem hkn⟩;obtain ⟨b,off,e,hc⟩:=HA.out (by omega);subst e;have x0:=hc k x hx
   cases q:(x.toList == u.toList) with
   | true=>
    obtain rfl:B=true:=by rw [← HB.out];exact inK_yes (by rw [← str_ext q];exact List.mem_of_getElem? hx)
    clear hc hx;go_wp2;go_ret;exact ⟨rfl,rfl⟩
   | false=>
    have HF:Hid (u ∉ K.take (k+1)):=by
     rw [List.take_add_one,hx];refine hide (fun h=>?_);rcases List.mem_append.1 h with h | h
     ·exact HU.out h
     ·have e:u=x:=by simpa using h
      rw [e] at q;simp at q
    clear hc hx;go_wp2;go_roundw
    case rel=>exact ⟨k+1,by omega,by first | rfl | go_num,HF,by first | rfl | trivial⟩
    case measure=>simp [Go.RowKit.intOf];omega
  ·have hkni:¬ (k:Int)<(K.length:Int):=by omega
   obtain rfl:B=false:=by
    rw [← HB.out];have h:=HU.out;rw [List.take_of_length_le (by omega)] at h;exact inK_no h
   go_wp2;go_ret;exact ⟨rfl,rfl⟩
theorem ownT_caps {w:World} {B n cp:Nat} {ao:Option Addr} {K:List ByteArray} (h:OwnT w B (.slice ao n cp) K):n≤cp∧cp≤maxLen∧(ao=none→cp=0)∧StrsAt w ao K∧K.length=n:=by
 rcases h.2 with ⟨e,q⟩ | ⟨g,cap,cur,e,q1,q2,q3,q4,q5⟩
 ·injection e with e1 e2 e3
  exact ⟨by omega,by unfold maxLen;omega,fun _=>e3,fun h0=>by omega,by omega⟩
 ·injection e with e1 e2 e3
  subst e1;subst e2;subst e3;exact ⟨q3,q4,(fun e=>by cases e),ownT_at h,rfl⟩
theorem pip_sz {S:List Sd} {p:Pi} (h:pipB S p=true):∀ s∈S,∀ c∈s.L,c.s.size≤100:=fun s hs c hc=>(cRi_of ((shB_of (sdsB_sh (pip_parts h).1 hs)).2.1 c hc)).2
theorem MbA.ill {w wr:World} {S:List Sd} {p:Pi} {mm:ByteArray} {c7 cd:Int} {b7 b8:Bool} {K:List ByteArray} (hR:MbR S p mm c7 b7 b8 K q0 (([]:List Sd).map Sd.key) cd) (hb:Below w.heap.size w wr):MbA w S p mm c7 b7 b8 K (.returned (.agg (poArr (.slice none 0 0) q0 (.slice none 0 0) cd))) (((((((wr.setCell ⟨w.heap.size+1,0,none⟩ (.slice none 0 0)).setCell ⟨w.heap.size+1,1,none⟩ (.int .i64 0)).setCell ⟨w.heap.size+1,2,none⟩ (.int .i64 0)).setCell ⟨w.heap.size+1,3,none⟩ (.int .i64 0)).setCell ⟨w.heap.size+1,4,none⟩ (.int .i64 0)).setCell ⟨w.heap.size+1,5,none⟩ (.slice none 0 0)).setCell ⟨w.heap.size+1,6,none⟩ (.int .i64 cd)):=by
 have hC:=CpP.sets7 (v0:=.slice none 0 0) (v1:=.int .i64 0) (v2:=.int .i64 0) (v3:=.int .i64 0) (v4:=.int .i64 0) (v5:=.slice none 0 0) (v6:=.int .i64 cd) (fun j q=>by cases q) (LvO.nil _ _) (nilP hb);exact ⟨none,0,0,q0,[],cd,rfl,hR,hC.r,hC.o,hC.b⟩
set_option maxHeartbeats 16000000 in
theorem c_s_PipeLeave {w:World} {ao:Option Addr} {N ca:Nat} {S:List Sd} (p:Pi) (mm:ByteArray) (hzm:mm.size≤maxLen) (hI:PpI w ao N S) :
  Calls Tryz.prog 28 #[.agg (piArr (.slice ao N ca) p),.string mm] w fun e w'=>MbA w S p mm 6 (!inK (S.map Sd.nm) mm) (decide (S.length=1)) (restK (S.map Sd.nm) mm) e w':=by
 have HI:=hide hI;have a1:∀ (X:World) o,Below X.heap.size X (X.alloc o):=fun X o=>(Below.refl _ _).alloc (Nat.le_refl _) _;have k0:=heap_alloc_new w (.cells (piArr (.slice ao N ca) p) 29);have k1:=heap_alloc_new (w.alloc (.cells (piArr (.slice ao N ca) p) 29)) (.cells (poArr (.slice none 0 0) q0 (.slice none 0 0) 0) 41);simp only [World.size_alloc] at k1;have HR0:=hide (hpast k0 (a1 _ (.cells (poArr (.slice none 0 0) q0 (.slice none 0 0) 0) 41)));have HR1:=hide k1;have HT0:=hide (chain (a1 w (.cells (piArr (.slice ao N ca) p) 29)) (a1 _ (.cells (poArr (.slice none 0 0) q0 (.slice none 0 0) 0) 41)));clear hI a1 k0 k1;go_enter Tryz.func28,Tryz.ntmps28;go_upto_region 1 with fail;generalize (w.alloc (.cells (piArr (.slice ao N ca) p) 29)).alloc (.cells (poArr (.slice none 0 0) q0 (.slice none 0 0) 0) 41)=W0 at HR0 HR1 HT0 ⊢;have hlo:w.heap.size+1+1≤W0.heap.size:=(Array.getElem?_eq_some_iff.1 HR1.out).1;have HLO:=hide hlo;clear hlo;by_cases hbig:20000<mm.size
 ·have dbi:decide ((20000:Int)<(mm.size:Int))=true:=decide_eq_true (by omega)
  have hbi:(20000:Int)<(mm.size:Int):=by omega
  have hmf:mfC S p mm=2:=by unfold mfC;rw [if_pos hbig]
  have HMB:Hid (MbR S p mm 6 (!inK (S.map Sd.nm) mm) (decide (S.length=1)) (restK (S.map Sd.nm) mm) q0 (([]:List Sd).map Sd.key) 2):=hide (by unfold MbR;rw [hmf,if_pos (by decide)];exact ⟨rfl,rfl,rfl⟩);clear hmf;go_wp2_with fail;refine (c_l10Ill 2 _).mono ?_;rintro e wz ⟨rfl,hbz⟩;have HF:=hide (MbA.ill (hide HMB.out).out (chain HT0.out hbz));have R1:=hpast HR1.out hbz;obtain ⟨y0,y1,y2,y3,y4,y5,y6⟩:=box7 R1;have f0:=fzR 0 R1;have f1:=fzR 1 R1;have f2:=fzR 2 R1;have f3:=fzR 3 R1;have f4:=fzR 4 R1;have f5:=fzR 5 R1;have f6:=fzR 6 R1;clear R1 hbz;go_wp2;exact bodyPost_ret (v:=.agg (poArr (.slice none 0 0) q0 (.slice none 0 0) 2)) (by simp [results,Tryz.results28,go_sem,y0,y1,y2,y3,y4,y5,y6]) rfl HF.out
 have hbi:¬ (20000:Int)<(mm.size:Int):=by omega
 obtain ⟨x0,x1,x2,x3,x4⟩:=box5 HR0.out;go_wp2_with fail;clear x0 x1 x2 x3 x4;refine (c_s_PipeRight p HI.out.n HI.out.sm HI.out.ok (sds_past HI.out.at' HT0.out)).mono ?_;rintro e w1 ⟨rfl,hb1⟩;have HR01:=hide (hpast HR0.out hb1);have HR11:=hide (hpast HR1.out hb1);have HT1:=hide (chain HT0.out hb1);have HLO1:=hide (Nat.le_trans HLO.out hb1.size);clear hb1 HR0 HR1
 cases hp:pipB S p with
 | false=>
  have hmf:mfC S p mm=1:=by unfold mfC;rw [if_neg hbig,if_pos (.inl hp)]
  have HMB:Hid (MbR S p mm 6 (!inK (S.map Sd.nm) mm) (decide (S.length=1)) (restK (S.map Sd.nm) mm) q0 (([]:List Sd).map Sd.key) 1):=hide (by unfold MbR;rw [hmf,if_pos (by decide)];exact ⟨rfl,rfl,rfl⟩);clear hmf hp;go_wp2_with fail;refine (c_l10Ill 1 _).mono ?_;rintro e wz ⟨rfl,hbz⟩;have HF:=hide (MbA.ill (hide HMB.out).out (chain HT1.out hbz));have R1:=hpast HR11.out hbz;obtain ⟨y0,y1,y2,y3,y4,y5,y6⟩:=box7 R1;have f0:=fzR 0 R1;have f1:=fzR 1 R1;have f2:=fzR 2 R1;have f3:=fzR 3 R1;have f4:=fzR 4 R1;have f5:=fzR 5 R1;have f6:=fzR 6 R1;clear R1 hbz;go_wp2;exact bodyPost_ret (v:=.agg (poArr (.slice none 0 0) q0 (.slice none 0 0) 1)) (by simp [results,Tryz.results28,go_sem,y0,y1,y2,y3,y4,y5,y6]) rfl HF.out
 | true=>
  have HP:=hide hp;clear hp;go_wp2_with fail;refine (c_s_NameRight mm w1 hzm).mono ?_;rintro e w2 ⟨rfl,rfl⟩
  cases hn:nameB mm with
  | false=>
   have hmf:mfC S p mm=1:=by unfold mfC;rw [if_neg hbig,if_pos (.inr hn)]
   have HMB:Hid (MbR S p mm 6 (!inK (S.map Sd.nm) mm) (decide (S.length=1)) (restK (S.map Sd.nm) mm) q0 (([]:List Sd).map Sd.key) 1):=hide (by unfold MbR;rw [hmf,if_pos (by decide)];exact ⟨rfl,rfl,rfl⟩);clear hmf hn;go_wp2_with fail;refine (c_l10Ill 1 _).mono ?_;rintro e wz ⟨rfl,hbz⟩;have HF:=hide (MbA.ill (hide HMB.out).out (chain HT1.out hbz));have R1:=hpast HR11.out hbz;obtain ⟨y0,y1,y2,y3,y4,y5,y6⟩:=box7 R1;have f0:=fzR 0 R1;have f1:=fzR 1 R1;have f2:=fzR 2 R1;have f3:=fzR 3 R1;have f4:=fzR 4 R1;have f5:=fzR 5 R1;have f6:=fzR 6 R1;clear R1 hbz;go_wp2;exact bodyPost_ret (v:=.agg (poArr (.slice none 0 0) q0 (.slice none 0 0) 1)) (by simp [results,Tryz.results28,go_sem,y0,y1,y2,y3,y4,y5,y6]) rfl HF.out
  | true=>
   have hmf:mfC S p mm=0:=by unfold mfC;rw [if_neg hbig,if_neg (by rw [HP.out,hn];simp)]
   have HMf:=hide hmf;have HNb:=hide hn;have HQ:=hide (HI.out.qs HP.out);have h12:=HQ.out.n;clear hn hmf;obtain ⟨x0,x1,x2,x3,x4⟩:=box5 HR01.out;go_wp2_with fail;clear x0 x1 x2 x3 x4;refine (c_s_l10Names p HI.out.n (by have:=HI.out.sm.n;have:=HI.out.n;omega) (sds_past HI.out.at' HT1.out)).mono ?_;rintro e w3 ⟨bn,cn,rfl,hon,hb3⟩;obtain ⟨cap1,cap2,cap3,hst,hnl⟩:=ownT_caps hon;have hKl:(S.map Sd.nm).length=N:=hnl;have hSN:S.length=N:=by rw [List.length_map] at hKl;exact hKl
   have HR03:=hide (hpast HR01.out hb3);have HR13:=hide (hpast HR11.out hb3);have HT3:=hide (chain HT1.out hb3);have HSt:=hide hst;have hlo3:w.heap.size+1+1≤w3.heap.size:=Nat.le_trans HLO1.out hb3.size;have HLO3:=hide hlo3;clear hon hb3 HR01 HR11 hst hnl hlo3;go_wp2_with fail;have HH:=hide (c_l10Has (w:=w3) (an:=bn) (cn:=cn) (K:=S.map Sd.nm) mm (by rw [List.length_map];omega) HSt.out);rw [hKl] at HH;refine HH.out.mono ?_;rintro e w4 ⟨rfl,hw4⟩;rw [hw4];clear hw4 w4;clear HH;have hMem:membersB (S.map Sd.nm)=true:=sds_memB (pip_parts HP.out).1;have HMem:=hide hMem;clear hMem
   cases hk:inK (S.map Sd.nm) mm with
   | false=>
    have HMB:Hid (MbR S p mm 6 (!inK (S.map Sd.nm) mm) (decide (S.length=1)) (restK (S.map Sd.nm) mm) q0 (([]:List Sd).map Sd.key) 6):=hide (by unfold MbR;rw [HMf.out,if_neg (by decide),if_pos (by rw [hk];rfl)];exact ⟨rfl,rfl,rfl⟩);clear hk;go_wp2_with fail;refine (c_l10Ill 6 _).mono ?_;rintro e wz ⟨rfl,hbz⟩;have HF:=hide (MbA.ill (hide HMB.out).out (chain HT3.out hbz));have R1:=hpast HR13.out hbz;obtain ⟨y0,y1,y2,y3,y4,y5,y6⟩:=box7 R1;have f0:=fzR 0 R1;have f1:=fzR 1 R1;have f2:=fzR 2 R1;have f3:=fzR 3 R1;have f4:=fzR 4 R1;have f5:=fzR 5 R1;have f6:=fzR 6 R1;clear R1 hbz;go_wp2;exact bodyPost_ret (v:=.agg (poArr (.slice none 0 0) q0 (.slice none 0 0) 6)) (by simp [results,Tryz.results28,go_sem,y0,y1,y2,y3,y4,y5,y6]) rfl HF.out
   | true=>
    by_cases h8:N=1
    ·have d8:((N:Int) == 1)=true:=by rw [h8];rfl
     have HMB:Hid (MbR S p mm 6 (!inK (S.map Sd.nm) mm) (decide (S.length=1)) (restK (S.map Sd.nm) mm) q0 (([]:List Sd).map Sd.key) 8):=hide (by unfold MbR;rw [HMf.out,if_neg (by decide),if_neg (by rw [hk];simp),if_pos (decide_eq_true (by omega))];exact ⟨rfl,rfl,rfl⟩);clear hk;go_wp2_with fail;refine (c_l10Ill 8 _).mono ?_;rintro e wz ⟨rfl,hbz⟩;have HF:=hide (MbA.ill (hide HMB.out).out (chain HT3.out hbz));have R1:=hpast HR13.out hbz;obtain ⟨y0,y1,y2,y3,y4,y5,y6⟩:=box7 R1;have f0:=fzR 0 R1;have f1:=fzR 1 R1;have f2:=fzR 2 R1;have f3:=fzR 3 R1;have f4:=fzR 4 R1;have f5:=fzR 5 R1;have f6:=fzR 6 R1;clear R1 hbz;go_wp2;exact bodyPost_ret (v:=.agg (poArr (.slice none 0 0) q0 (.slice none 0 0) 8)) (by simp [results,Tryz.results28,go_sem,y0,y1,y2,y3,y4,y5,y6]) rfl HF.out
    ·have d8:((N:Int) == 1)=false:=by simpa using (by omega:¬ (N:Int)=1)
     have HD8:Hid (decide (S.length=1)=false):=hide (decide_eq_false (by omega));have hin:=inK_iff.1 hk;obtain ⟨A,R,hAR⟩:=List.append_of_mem hin
     have hK:restK (S.map Sd.nm) mm=A ++ R:=by
      have h:=rise_nodup (memb_pair HMem.out);rw [hAR] at h ⊢;exact rest_eq h
     have hsub:(A ++ R).Sublist (S.map Sd.nm):=by rw [hAR];exact List.Sublist.append_left (List.sublist_cons_self _ _) _
     have hl2:(A ++ R).length+1=N:=by rw [← hKl,hAR];simp;omega
     have hKm:membersB (restK (S.map Sd.nm) mm)=true:=by
      rw [hK];exact memb_mk (by omega) (by omega) (fun x hx=>memb_name HMem.out (hsub.subset hx)) ((memb_pair HMem.out).sublist hsub)
     have HKm:=hide hKm;have HKf:=hide hk;have HMB:Hid (∀ (X:List Sd) (L:List Ce),AscC L→(L.map Ce.key).Perm ((allC S).map Ce.key)→ShrL (restK (S.map Sd.nm) mm) L X→MbR S p mm 6 (!inK (S.map Sd.nm) mm) (decide (S.length=1)) (restK (S.map Sd.nm) mm) p (X.map Sd.key) 0):=fun X L h1 h2 h3=>by unfold MbR;rw [HMf.out,if_neg (by decide),if_neg (by rw [HKf.out];simp),if_neg (by simp;omega)];exact ⟨rfl,rfl,L,h1,h2,h3.keys⟩
     clear hk hin hAR hK hsub hKm;obtain ⟨i0,hi,hz0,hz1,hz2⟩:=info_parts infoStr;have HV0:Hid (OwnT (w3.alloc (.cells #[] 9)) w3.heap.size (.slice (some ⟨w3.heap.size,0,none⟩) 0 0) (restK ((S.map Sd.nm).take 0) mm)∧Below w3.heap.size w3 (w3.alloc (.cells #[] 9))):=hide ⟨by rw [List.take_zero];exact World.ownsRow_made _ #[] 0 (Nat.le_refl _) (Nat.zero_le _) rfl,(Below.refl _ _).alloc (Nat.le_refl _) _⟩;go_wp2
     go_loopw [6,7] (fun v i wr=>∃ (k:Nat) (a0:Option Addr) (n0 c0:Nat),k≤N∧i=.int .i64 k∧v=.slice a0 n0 c0∧Hid (OwnT wr w3.heap.size (.slice a0 n0 c0) (restK ((S.map Sd.nm).take k) mm)∧Below w3.heap.size w3 wr)) (fun v i wr=>N - (Go.RowKit.intOf i).toNat)
     case atStart=>exact ⟨0,_,_,_,Nat.zero_le _,rfl,rfl,HV0⟩
     case round=>
      clear HV0;obtain ⟨k,a0,n0,c0,hk,rfl,rfl,HV⟩:=hrel;by_cases hkn:k<N
      ·have hkni:(k:Int)<(N:Int):=by omega
       obtain ⟨x,hx⟩:∃ x,(S.map Sd.nm)[k]?=some x:=⟨(S.map Sd.nm)[k]'(by rw [hKl];exact hkn),List.getElem?_eq_getElem _⟩;obtain ⟨b,off,e,hc⟩:=HSt.out (by rw [hKl];omega);subst e;have x0:=cell_past HV.out.2 (hc k x hx)
       have hq:restK ((S.map Sd.nm).take (k+1)) mm=restK ((S.map Sd.nm).take k) mm ++ restK [x] mm:=by
        rw [List.take_add_one,hx];unfold restK;rw [List.filter_append];rfl
       have hrl:(restK ((S.map Sd.nm).take k) mm).length≤12:=Nat.le_trans (List.length_filter_le _ _) (by rw [List.length_take,hKl];omega)
       cases qx:(x.toList == mm.toList) with
       | true=>
        have qn:(x.toList != mm.toList)=false:=by simp [bne,qx]
        have e1:restK [x] mm=[]:=by unfold restK;simp [qx]
        have HF:Hid (OwnT wr w3.heap.size (.slice a0 n0 c0) (restK ((S.map Sd.nm).take (k+1)) mm)∧Below w3.heap.size w3 wr):=by rw [hq,e1,List.append_nil];exact HV
        clear hc hx hq e1;go_wp2;go_roundw
        case rel=>exact ⟨k+1,_,_,_,by omega,by first | rfl | go_num,rfl,HF⟩
        case measure=>simp [Go.RowKit.intOf];omega
       | false=>
        have qn:(x.toList != mm.toList)=true:=by simp [bne,qx]
        have e1:restK [x] mm=[x]:=by unfold restK;simp [qx]
        rw [e1] at hq;obtain ⟨T,hT⟩:∃ T,restK ((S.map Sd.nm).take k) mm=T:=⟨_,rfl⟩;rw [hT] at HV hq hrl;have HQ2:=hide hq;have z3:=HV.out.2.size;have OW:Hid (wr.ownsRow w3.heap.size 9 1 (.slice a0 n0 c0) T.length (T.map Value.string)):=hide HV.out.1;clear hc hx hq e1 hT;go_wp2_with (at_builtin;refine wpList_append_own _ rfl _ _ 48 rfl w3.heap.size 9 i0 (.string ByteArray.empty) 1 16 Tryz.underlying48 hi hz0 hz1 hz2 rfl (by decide) _ _ _ rfl (World.ownsRow.alloc OW.out _) ⟨wr.heap.size,0,none⟩ 1 1 [.string x] rfl rfl ?c1 ?c2 ?c3 ?c4 ?c5 ?_)
        case c1=>exact new_str
        case c2=>first | rfl | (intro y hy;simp at hy;subst hy;rfl)
        case c3=>unfold maxLen;omega
        case c4=>omega
        case c5=>first | omega | (simp;omega)
        intro v' w5 hown hgrow _
        have HF0:Hid (OwnT w5 w3.heap.size v' (restK ((S.map Sd.nm).take (k+1)) mm)∧Below w3.heap.size w3 w5):=by
         rw [HQ2.out];refine hide ⟨?_,(HV.out.2.alloc z3 _).grown hgrow (by simp;omega) (fun j hj=>(World.ownsRow.lt OW.out j hj).1)⟩
         show World.ownsRow _ _ _ _ _ _ _
         rw [List.length_append,List.map_append];exact hown
        clear hown hgrow OW HV;obtain ⟨a1,c1,rfl⟩:=ownT_any HF0.out.1;have HF:=HF0;clear HF0;go_wp2;go_roundw
        case rel=>exact ⟨k+1,_,_,_,by omega,by first | rfl | go_num,rfl,HF⟩
        case measure=>simp [Go.RowKit.intOf];omega
      ·have hkni:¬ (k:Int)<(N:Int):=by omega
       have ho5:=HV.out.1;rw [List.take_of_length_le (by rw [hKl];omega)] at ho5;obtain rfl:n0=(restK (S.map Sd.nm) mm).length:=(ownT_caps ho5).2.2.2.2.symm;have HB5:=hide HV.out.2;have HS5:=hide (ownT_at ho5);clear ho5 HV;obtain ⟨x0,x1,x2,x3,x4⟩:=box5 (hpast HR03.out HB5.out);go_wp2_with fail;clear x0 x1 x2 x3 x4;refine (c_l10Share p (HI.out.past (chain HT3.out HB5.out)) HQ.out (pip_sz HP.out) HKm.out HS5.out).mono ?_;rintro e w6 ⟨v6,X,L,rfl,hA6,hp6,hX6,ho6,hl6,hb6⟩;obtain ⟨a6,c6,rfl,_⟩:=ho6.form;have HB6:Hid (Below w3.heap.size w3 w6):=chain HB5.out hb6;have HF:=hide (HMB.out X L hA6 hp6 hX6);have z5:w.heap.size+1+1≤wr.heap.size:=Nat.le_trans HLO3.out HB5.out.size;have HL6:Hid (LvO w6 (w.heap.size+1+1) X):=hide (hl6.le z5);have HFar:Hid (∀ j,(Value.slice a6 X.length c6).ownBlock=some j→w.heap.size+1+1≤j):=fun j q=>Nat.le_trans z5 (World.ownsRow.lt ho6 j q).1;have HC6:Hid (CpP w w6 X (.slice a6 X.length c6) X):=hide ⟨ho6.le (by omega),hl6.le (by omega),rfl,chain HT3.out HB6.out⟩;have R1:=hpast HR13.out HB6.out;obtain ⟨y0,y1,y2,y3,y4,y5,y6⟩:=box7 R1;have f0:=fzR 0 R1;have f1:=fzR 1 R1;have f2:=fzR 2 R1;have f3:=fzR 3 R1;have f4:=fzR 4 R1;have f5:=fzR 5 R1;have f6:=fzR 6 R1;clear R1 hA6 hp6 hX6 ho6 hl6 hb6;go_wp2;refine bodyPost_ret (v:=.agg (poArr (.slice a6 X.length c6) p (.slice none 0 0) 0)) (by simp [results,Tryz.results28,go_sem,y0,y1,y2,y3,y4,y5,y6]) rfl ?_;have hC:=CpP.sets7 (v0:=.slice a6 X.length c6) (v1:=.int .i64 p.a) (v2:=.int .i64 p.b) (v3:=.int .i64 p.c) (v4:=.int .i64 p.d) (v5:=.slice none 0 0) (v6:=.int .i64 0) HFar.out HL6.out HC6.out;have hF:=HF.out;rw [HKf.out,HD8.out] at hF;exact ⟨a6,_,c6,p,X,0,rfl,by first | exact hF | exact HF.out | (have h:=HF.out;rw [HD8.out] at h;exact h) | (have h:=HF.out;rw [HKf.out] at h;exact h),hC.r,hC.o,hC.b⟩
end Go.Proofs.YtmjogablacnlgaaGreatDoor
