/-
 leave of a live pipe.
-/
import Derived.Test.YtmjogablacnlgaaGreatDoorVZG
namespace Go.Proofs.YtmjogablacnlgaaGreatDoor
set_option linter.unusedVariables false
set_option linter.unusedSimpArgs false
open Go.ChangeShapes Go.WideShapes Go.ChangeAt Go.RowKit Go.PlainAid Go.Lib Go.Maps
set_option maxRecDepth 10000
def restK (K:List ByteArray) (u:ByteArray):List ByteArray:=K.filter (fun x=>!(x.toList == u.toList))
theorem rest_all {u:ByteArray} {K:List ByteArray} (h:u ∉ K):restK K u=K:=by
 refine List.filter_eq_self.2 (fun x hx=>?_)
 cases q:(x.toList == u.toList)
 ·rfl
 ·exact absurd (by rw [← str_ext q];exact hx) h
theorem rest_eq {u:ByteArray} {A R:List ByteArray} (h:(A ++ u :: R).Nodup):restK (A ++ u :: R) u=A ++ R:=by
 obtain ⟨_,h2,h3⟩:=List.nodup_append.1 h;obtain ⟨h4,_⟩:=List.nodup_cons.1 h2;have e1:restK A u=A:=rest_all (fun q=>h3 u q u (by simp) rfl);have e2:restK R u=R:=rest_all h4;unfold restK at e1 e2 ⊢;rw [List.filter_append,List.filter_cons,e1,e2];simp
set_option maxHeartbeats 8000000 in
theorem c_leave {w:World} {mb n Bm:Nat} {M S:List Sd} (p:Pi) (mm:ByteArray) (hn:nameB mm=true) (hL:LvH w mb n Bm M S p) :
  Calls Tryz.prog 71 #[.agg (lvArr p mb),.string mm] w fun e w'=>∃ cd:Int,e=.returned (.int .i64 cd)∧LvJ w w' mb S (restK (S.map Sd.nm) mm) 6 (!inK (S.map Sd.nm) mm) (decide (S.length=1)) cd:=by
 have hz:mm.size≤40:=(name_sizeM hn).2;have hzm:mm.size≤maxLen:=by unfold maxLen;omega
 have hml:=hL.len;have h12:=hL.q.n;have al:Below w.heap.size w (w.alloc (.cells (lvArr p mb) 82)):=(Below.refl _ _).alloc (Nat.le_refl _) _;have HX:=hide (heap_alloc_new w (.cells (lvArr p mb) 82));have HT0:=hide al;have HL0:=hide hL;have HLw:=hide (hL.past al);have HNm:=hide hL.nm;have HN:=hide hn;clear hL al hn;go_enter Tryz.func71,Tryz.ntmps71;go_upto_region 1 with fail;generalize w.alloc (.cells (lvArr p mb) 82)=W0 at HX HT0 HLw ⊢;obtain ⟨x0,x1,x2,x3,x4⟩:=box5 HX.out;go_wp2_with fail;clear x0 x1 x2 x3 x4;refine (c_has p mm hzm HLw.out.mp).mono ?_;rintro e w1 ⟨rfl,hb1⟩;have HT1:=hide (chain HT0.out hb1);have HX1:=hide (hpast HX.out hb1);have HL1:=hide (HLw.out.past hb1);rw [HNm.out];clear hb1 HX HT0 HLw
 cases hk:inK (S.map Sd.nm) mm with
 | false=>
  have HF:Hid (LvJ w w1 mb S (restK (S.map Sd.nm) mm) 6 (!inK (S.map Sd.nm) mm) (decide (S.length=1)) 6):=hide (.inl ⟨by rw [hk];rfl,rfl,HT1.out⟩);clear hk;go_wp2;go_ret;exact ⟨6,rfl,HF.out⟩
 | true=>
  have HKf:=hide hk;have hln:=lenS HL1.out.mp;rw [hml] at hln;obtain ⟨x0,x1,x2,x3,x4⟩:=box5 HX1.out;by_cases h8:S.length=1
  ·have d8:((S.length:Int) == 1)=true:=by rw [h8];rfl
   have HF:Hid (LvJ w w1 mb S (restK (S.map Sd.nm) mm) 6 (!inK (S.map Sd.nm) mm) (decide (S.length=1)) 8):=hide (.inr (.inl ⟨by rw [hk];rfl,decide_eq_true h8,rfl,HT1.out⟩));clear hk;go_wp2;go_ret;exact ⟨8,rfl,HF.out⟩
  ·have d8:((S.length:Int) == 1)=false:=by simpa using (by omega:¬ (S.length:Int)=1)
   go_wp2_with fail;clear x0 x1 x2 x3 x4 hln d8 hk;obtain ⟨L,hA,hpm,hKp,hl1,hl2,hsz⟩:=HL1.out.all;refine (c_cells p HL1.out.mp (fun s hs=>(HL1.out.o.r s hs).le (Nat.zero_le _)) hA hpm (by omega)).mono ?_;rintro e w2 ⟨v,rfl,ho,hb2⟩;obtain ⟨ac,cc,rfl,_⟩:=ho.form;obtain ⟨nc,hnc⟩:∃ n,L.length=n:=⟨_,rfl⟩;rw [hnc] at ho hl2 ⊢;have HX2:=hide (hpast HX1.out hb2);have HL2:=hide (HL1.out.past hb2);have hin:mm∈M.map Sd.nm:=by rw [HNm.out];exact inK_iff.1 HKf.out
   obtain ⟨s,hsM,rfl⟩:=List.mem_map.1 hin;obtain ⟨A,R,hM⟩:=List.append_of_mem hsM;subst hM;have hmw:=HL0.out.mp.lt;have hnd:((A ++ s :: R).map Sd.nm).Nodup:=by have h:=memb_pair HL0.out.memb;exact rise_nodup h
   have hK:restK (S.map Sd.nm) s.nm=(A ++ R).map Sd.nm:=by
    rw [← HNm.out,List.map_append,List.map_cons,List.map_append];rw [List.map_append,List.map_cons] at hnd;exact rest_eq hnd
   have hSl:(A ++ R).length+1=S.length:=by rw [← hml];simp;omega
   have hsub:((A ++ R).map Sd.nm).Sublist ((A ++ s :: R).map Sd.nm):=(List.Sublist.append_left (List.sublist_cons_self s R) A).map _
   have hKm:membersB (restK (S.map Sd.nm) s.nm)=true:=by
    rw [hK];refine memb_mk (by rw [List.length_map];omega) (by rw [List.length_map];omega) (fun u hu=>memb_name HL0.out.memb (hsub.subset hu)) ((memb_pair HL0.out.memb).sublist hsub)
   obtain ⟨D,hD,hH⟩:=HL2.out.mp;have hH2:=(hH.perm List.perm_middle).del (hD.tidy lawSh);have HD:=hide hD;have HH2:=hide hH2;have HHo:=hide ho;have HSt:=hide (And.intro hA (And.intro hpm (And.intro hKp hsz)));have HKm:=hide hKm;have HK:=hide hK;have hb12:=chain HT1.out hb2;have HB12:=hide hb12;have HN2:=hide HL2.out.n;have hX2:=(Array.getElem?_eq_some_iff.1 HX2.out).1;have HX2l:=hide hX2;obtain ⟨x0,x1,x2,x3,x4⟩:=box5 HX2.out;clear ho hb2 hA hpm hKp hsz hKm hK hnd hsub hin hsM hD hH hH2 hb12 HX1 HL1 HL2 hX2;go_upto_region 7 with (at_delete;refine wpList_delete_own _ rfl _ _ 80 9 rfl 55 lawSh Tryz.underlying80 rS mb n _ rfl HD.out _ _ rfl (keySh hzm) ?_;intro w3 hown3 hturn3;have HO3:=hide hown3;have HG3:=hide hturn3.grown;clear hown3 hturn3);clear x0 x1 x2 x3 x4;have hg3:w2.grownBy w3 (some mb):=HG3.out;have z1:=HT1.out.size;have z2:=HB12.out.size;have X3:w3.heap[w.heap.size]?=some (.cells (lvArr p mb) 82 (0,0)):=(hg3.block _ HX2l.out (fun e=>by injection e with e;omega)).trans HX2.out;have hm3:MpS w3 mb n (A ++ R):=⟨_,HO3.out,HH2.out⟩;have ho3:OwnC w3 (mb+1) (.slice ac nc cc) L:=(HHo.out.keptS (grS hg3) (fun j q e=>by have:=(World.ownsRow.lt HHo.out j q).1;injection e with e;omega)).le (by omega)
   have HEnd:Hid (∀ (w5:World) (m:Nat),SrP w3 w5 mb (restK (S.map Sd.nm) s.nm) L m→LvJ w w5 mb S (restK (S.map Sd.nm) s.nm) 6 (!inK (S.map Sd.nm) s.nm) (decide (S.length=1)) 0):=fun w5 m hP=>
    .inr (.inr ⟨by rw [HKf.out];rfl,decide_eq_false h8,rfl,LvS.of HL0.out.o.o HL0.out.lt hmw HSt.out.2.1 HSt.out.1 HSt.out.2.2.1 (memb_pair HKm.out) HB12.out hg3 hP⟩)
   have HSh:=hide (c_share (w:=w3) p hm3 (List.Perm.refl _) HK.out.symm (memb_pair HKm.out) HKm.out (by have:=HN2.out;omega) hnc (by omega) HSt.out.2.2.2 ho3);obtain ⟨y0,y1,y2,y3,y4⟩:=box5 X3;clear hg3 X3 hm3 ho3 HO3 HG3 HD HH2 HHo HSt HX2 HL0;go_wp2_with fail;clear y0 y1 y2 y3 y4;refine HSh.out.mono ?_;rintro e w5 ⟨rfl,hP⟩;have HF:=hide (HEnd.out w5 _ hP);clear hP HSh HEnd;go_wp2;go_ret;exact ⟨0,rfl,HF.out⟩
def MbR (S:List Sd) (p:Pi) (mm:ByteArray) (c7:Int) (b7 b8:Bool) (K:List ByteArray) (q:Pi) (KM:List (ByteArray×List (Int×ByteArray×Ag))) (cd:Int):Prop:=
 if mfC S p mm≠0 then cd=mfC S p mm∧q=q0∧KM=[] else
 if b7=true then cd=c7∧q=q0∧KM=[] else
 if b8=true then cd=8∧q=q0∧KM=[] else
 cd=0∧q=p∧∃ L:List Ce,AscC L∧(L.map Ce.key).Perm ((allC S).map Ce.key)∧KM=K.map (fun u=>(u,(L.filter (ownB K u)).map Ce.key))
theorem MbR.same {S T:List Sd} {p q q':Pi} {mm:ByteArray} {c7 cd cd':Int} {b7 b8:Bool} {K:List ByteArray} {KM KM':List (ByteArray×List (Int×ByteArray×Ag))} (h:MbR S p mm c7 b7 b8 K q KM cd) (k:MbR T p mm c7 b7 b8 K q' KM' cd') (e:T.map Sd.key=S.map Sd.key):q=q'∧KM=KM'∧cd=cd':=by
 have em:mfC T p mm=mfC S p mm:=by unfold mfC;rw [pipB_key e]
 unfold MbR at h k;rw [em] at k
 split at h
 ·rename_i c;rw [if_pos c] at k;exact ⟨h.2.1.trans k.2.1.symm,h.2.2.trans k.2.2.symm,h.1.trans k.1.symm⟩
 ·rename_i c
  rw [if_neg c] at k
  split at h
  ·rename_i c;rw [if_pos c] at k;exact ⟨h.2.1.trans k.2.1.symm,h.2.2.trans k.2.2.symm,h.1.trans k.1.symm⟩
  ·rename_i c
   rw [if_neg c] at k
   split at h
   ·rename_i c;rw [if_pos c] at k;exact ⟨h.2.1.trans k.2.1.symm,h.2.2.trans k.2.2.symm,h.1.trans k.1.symm⟩
   ·rename_i c
    rw [if_neg c] at k;obtain ⟨h1,h2,L,hL,hp,hk⟩:=h;obtain ⟨k1,k2,L',kL,kp,kk⟩:=k;have eL:L'.map Ce.key=L.map Ce.key:=asc_same kL hL (kp.trans (by rw [all_key e];exact hp.symm));refine ⟨h2.trans k2.symm,?_,h1.trans k1.symm⟩;rw [hk,kk];refine List.map_congr_left (fun u _=>?_);rw [filt_key eL]
def MbA (w:World) (S:List Sd) (p:Pi) (mm:ByteArray) (c7:Int) (b7 b8:Bool) (K:List ByteArray) (e:Ending) (w':World):Prop:=∃ a k c q M cd,e=.returned (.agg (poArr (.slice a k c) q (.slice none 0 0) cd))∧MbR S p mm c7 b7 b8 K q (M.map Sd.key) cd∧OwnD w' w.heap.size (.slice a k c) M∧LvO w' w.heap.size M∧Below w.heap.size w w'
theorem CpP.sets7 {w wr:World} {S M:List Sd} {v v0 v1 v2 v3 v4 v5 v6:Value} (far:∀ j,v.ownBlock=some j→w.heap.size+1+1≤j) (ho:LvO wr (w.heap.size+1+1) M) (h:CpP w wr S v M):CpP w (((((((wr.setCell ⟨w.heap.size+1,0,none⟩ v0).setCell ⟨w.heap.size+1,1,none⟩ v1).setCell ⟨w.heap.size+1,2,none⟩ v2).setCell ⟨w.heap.size+1,3,none⟩ v3).setCell ⟨w.heap.size+1,4,none⟩ v4).setCell ⟨w.heap.size+1,5,none⟩ v5).setCell ⟨w.heap.size+1,6,none⟩ v6) S v M:=by
 have st:∀ (W:World) (j:Nat) (u:Value),OwnD W w.heap.size v M→OwnD (W.setCell ⟨w.heap.size+1,j,none⟩ u) w.heap.size v M:=fun W j u o=>by
  refine World.ownsRow.kept o (grown_one W _ j u) ?_
  cases q:v.ownBlock with
  | none=>exact .inl rfl
  | some i=>exact .inr (fun e=>by have:=far i q;injection e with e;omega)
 have sl:∀ (W:World) (j:Nat) (u:Value),LvO W (w.heap.size+1+1) M→LvO (W.setCell ⟨w.heap.size+1,j,none⟩ u) (w.heap.size+1+1) M:=fun W j u o=>o.grown (grown_one W _ j u) (by omega);refine ⟨?_,LvO.le ?_ (by omega:w.heap.size≤w.heap.size+1+1),h.ky,?_⟩
 ·repeat (refine st _ _ _ ?_)
  exact h.r
 ·repeat (refine sl _ _ _ ?_)
  exact ho
 ·repeat (refine Below.setCell ?_ (by show _≤w.heap.size+1;omega) _)
  exact h.b
theorem nilP {w wr:World} (hb:Below w.heap.size w wr):CpP w wr [] (.slice none 0 0) []:=⟨OwnD.nil _ _,LvO.nil _ _,rfl,hb⟩
theorem le_insT (K:List ByteArray) (u:ByteArray) (n:Nat) (h:K.length+1≤n):(insT K u).length≤n:=Nat.le_trans (insT_len u K) h
set_option maxHeartbeats 16000000 in
theorem c_i_PipeLeave {w:World} {ao:Option Addr} {N ca:Nat} {S:List Sd} (p:Pi) (mm:ByteArray) (hzm:mm.size≤maxLen) (hm:MX w) (hI:PpI w ao N S) :
  Calls Tryz.prog 29 #[.agg (piArr (.slice ao N ca) p),.string mm] w fun e w'=>MbA w S p mm 6 (!inK (S.map Sd.nm) mm) (decide (S.length=1)) (restK (S.map Sd.nm) mm) e w':=by
 have HI:=hide hI;have HM:=hide hm;have a1:∀ (X:World) o,Below X.heap.size X (X.alloc o):=fun X o=>(Below.refl _ _).alloc (Nat.le_refl _) _;have k0:=heap_alloc_new w (.cells (piArr (.slice ao N ca) p) 29);have k1:=heap_alloc_new (w.alloc (.cells (piArr (.slice ao N ca) p) 29)) (.cells (poArr (.slice none 0 0) q0 (.slice none 0 0) 0) 41);simp only [World.size_alloc] at k1;have HR0:=hide (hpast k0 (a1 _ (.cells (poArr (.slice none 0 0) q0 (.slice none 0 0) 0) 41)));have HR1:=hide k1;have HT0:=hide (chain (a1 w (.cells (piArr (.slice ao N ca) p) 29)) (a1 _ (.cells (poArr (.slice none 0 0) q0 (.slice none 0 0) 0) 41)));obtain ⟨B7,hB7⟩:∃ B,(!inK (S.map Sd.nm) mm)=B:=⟨_,rfl⟩;obtain ⟨B8,hB8⟩:∃ B,(decide (S.length=1))=B:=⟨_,rfl⟩;rw [hB7,hB8];have HB7:=hide hB7;have HB8:=hide hB8;clear hI hm a1 k0 k1 hB7 hB8;go_enter Tryz.func29,Tryz.ntmps29;go_upto_region 1 with fail;generalize (w.alloc (.cells (piArr (.slice ao N ca) p) 29)).alloc (.cells (poArr (.slice none 0 0) q0 (.slice none 0 0) 0) 41)=W0 at HR0 HR1 HT0 ⊢;have hlo:w.heap.size+1+1≤W0.heap.size:=(Array.getElem?_eq_some_iff.1 HR1.out).1;have HLO:=hide hlo;clear hlo;obtain ⟨x0,x1,x2,x3,x4⟩:=box5 HR0.out;go_wp2_with fail;clear x0 x1 x2 x3 x4;refine (c_memberFault p mm hzm (HM.out.past HT0.out) (HI.out.past HT0.out)).mono ?_;rintro e w1 ⟨rfl,hb1⟩;have HR01:=hide (hpast HR0.out hb1);have HR11:=hide (hpast HR1.out hb1);have HT1:=hide (chain HT0.out hb1);have HLO1:=hide (Nat.le_trans HLO.out hb1.size);clear hb1 HR0 HR1;obtain ⟨cd,hcd⟩:∃ cd,mfC S p mm=cd:=⟨_,rfl⟩;rw [hcd];have HCd:=hide hcd;clear hcd;by_cases hc:cd=0
 case neg=>
  have hb:(cd != 0)=true:=by simpa using hc
  have hd:decide (cd=0)=false:=decide_eq_false hc;have HF:Hid (MbR S p mm 6 B7 B8 (restK (S.map Sd.nm) mm) q0 (([]:List Sd).map Sd.key) cd):=hide (by unfold MbR;rw [if_pos (by rw [HCd.out];exact hc)];exact ⟨HCd.out.symm,rfl,rfl⟩);have R1:=HR11.out;obtain ⟨y0,y1,y2,y3,y4,y5,y6⟩:=box7 R1;have f0:=fzR 0 R1;have f1:=fzR 1 R1;have f2:=fzR 2 R1;have f3:=fzR 3 R1;have f4:=fzR 4 R1;have f5:=fzR 5 R1;have f6:=fzR 6 R1;clear R1 HR01 HR11;go_wp2;refine bodyPost_ret (v:=.agg (poArr (.slice none 0 0) q0 (.slice none 0 0) cd)) (by simp [results,Tryz.results29,go_sem,y0,y1,y2,y3,y4,y5,y6]) rfl ?_;have hC:=CpP.sets7 (v0:=.slice none 0 0) (v1:=.int .i64 0) (v2:=.int .i64 0) (v3:=.int .i64 0) (v4:=.int .i64 0) (v5:=.slice none 0 0) (v6:=.int .i64 cd) (fun j q=>by cases q) (LvO.nil _ _) (nilP HT1.out);exact ⟨none,0,0,q0,[],cd,rfl,HF.out,hC.r,hC.o,hC.b⟩
 case pos=>
  subst hc
  have hmf:pipB S p=true∧nameB mm=true:=by
   have h:=HCd.out;unfold mfC at h
   split at h
   ·cases h
   ·split at h
    ·cases h
    ·rename_i q
     refine ⟨?_,?_⟩
     ·cases e:pipB S p
      ·exact absurd (.inl e) q
      ·rfl
     ·cases e:nameB mm
      ·exact absurd (.inr e) q
      ·rfl
  have HP:=hide hmf.1;have HNm:=hide hmf.2;have HQ:=hide (HI.out.qs hmf.1);clear hmf;obtain ⟨x0,x1,x2,x3,x4⟩:=box5 HR01.out;go_wp2_with fail;clear x0 x1 x2 x3 x4;refine (c_liveOf p HI.out.n (by have:=HQ.out.n;have:=HI.out.n;omega) HI.out.sm.l HI.out.sm.sm (fun s hs c hc=>(HI.out.ok s hs c hc).2.2) (fun s hs=>by have:=HI.out.sm.nz s hs;unfold maxLen;omega) (sds_ap (pip_parts HP.out).1) (sds_past HI.out.at' HT1.out)).mono ?_;rintro e w2 ⟨mb,rfl,Bm,M,hl⟩;have hky:M.map Sd.key=S.map Sd.key:=by have:=hl.ky;rw [List.take_of_length_le (by have:=HI.out.n;omega)] at this;exact this
  have HLv:Hid (LvH w2 mb N Bm M S p):=hide ⟨hl.mp,by have:=HQ.out.n;have:=HI.out.n;omega,hl.o,hl.lt,hl.bm,hky,HQ.out,HP.out⟩;have HLe:Hid (w1.heap.size≤mb):=hide hl.le;have hal:Below w2.heap.size w2 (w2.alloc (.cells (lvArr p mb) 82)):=(Below.refl _ _).alloc (Nat.le_refl _) _;have HY:=hide (heap_alloc_new w2 (.cells (lvArr p mb) 82));have HT2:=hide (chain (chain HT1.out hl.b) hal);have HR12:=hide (hpast (hpast HR11.out hl.b) hal);have HLv2:=hide (HLv.out.past hal);have HbL:Hid (mb<w2.heap.size):=hide hl.mp.lt;clear hl hky hal HLv HR01 HR11 HT1;go_upto_region 5 with fail;generalize w2.alloc (.cells (lvArr p mb) 82)=W2 at HY HT2 HR12 HLv2 ⊢;generalize w2.heap.size=bl at HY HbL ⊢;have HS0:Hid ((fun W:World=>W.heap[bl]?=some (.cells (lvArr p mb) 82 (0,0))) W2.drew):=HY;have HBd:Hid (Below W2.heap.size W2 W2.drew):=(Below.refl _ _).drew;refine regionK (fun W:World=>W.heap[bl]?=some (.cells (lvArr p mb) 82 (0,0))) 5 (by kernel_rfl) ?_;refine tkL (i:=0) (v:=.agg (lvArr p mb)) rfl rfl HS0.out (fun W hW=>?_) ?_
  ·obtain ⟨x0,x1,x2,x3,x4⟩:=box5 hW
   clear hW;go_simp
  refine tkL (i:=1) (v:=.agg (lvArr p mb)) rfl rfl HS0.out (fun W hW=>?_) ?_
  ·obtain ⟨x0,x1,x2,x3,x4⟩:=box5 hW
   clear hW;go_simp
  refine tkS (i:=2) (v:=.string mm) rfl rfl HS0.out ?_;simp only [sA,sB,sC];refine onE (i:=3) rfl (fun K hK=>?_);go_simp;refine (c_leave p mm HNm.out (HLv2.out.past HBd.out)).mono ?_;rintro e w3 ⟨cj,rfl,hJ⟩;rw [HB7.out,HB8.out] at hJ;rcases hJ with ⟨j1,rfl,hb3⟩ | ⟨j1,j2,rfl,hb3⟩ | ⟨j1,j2,rfl,hS⟩
  ·subst j1
   have HB3:=hide (chain HBd.out hb3);have HS3:=hide (hpast HY.out HB3.out);have HF:Hid (MbR S p mm 6 true B8 (restK (S.map Sd.nm) mm) q0 (([]:List Sd).map Sd.key) 6):=hide (by unfold MbR;rw [if_neg (by rw [HCd.out];simp)];rw [if_pos rfl];exact ⟨rfl,rfl,rfl⟩);clear hb3;dsimp only;refine hK.out _ _ (fun _=>HS3.out) ?_;clear hK K
   try simp only [Act.put,sA,sB,sC]
   refine onE (i:=4) rfl (fun K hK=>?_);go_simp;refine (c_answer0 p 6 (by decide)).mono ?_;rintro e w4 ⟨rfl,hb4⟩;have HB4:=hide (chain HB3.out hb4);have HS4:=hide (hpast HS3.out hb4);have R4:=hide (hpast HR12.out HB4.out);clear hb4;dsimp only;refine hK.out _ _ (fun _=>HS4.out) ?_;clear hK K
   try simp only [Act.put,sA,sB,sC]
   obtain ⟨y0,y1,y2,y3,y4,y5,y6⟩:=box7 R4.out;have f0:=fzR 0 R4.out;have f1:=fzR 1 R4.out;have f2:=fzR 2 R4.out;have f3:=fzR 3 R4.out;have f4:=fzR 4 R4.out;have f5:=fzR 5 R4.out;have f6:=fzR 6 R4.out;refine onE (i:=5) rfl (fun K hK=>?_);go_simp;refine hK.out _ _ (fun h=>absurd rfl h) ?_;clear hK K
   try simp only [Act.put,sA,sB,sC]
   refine doneK (by kernel_rfl) ?_ _;go_wp2;refine bodyPost_ret (v:=.agg (poArr (.slice none 0 0) q0 (.slice none 0 0) 6)) (by simp [results,Tryz.results29,go_sem,y0,y1,y2,y3,y4,y5,y6]) rfl ?_;have hC:=CpP.sets7 (v0:=.slice none 0 0) (v1:=.int .i64 0) (v2:=.int .i64 0) (v3:=.int .i64 0) (v4:=.int .i64 0) (v5:=.slice none 0 0) (v6:=.int .i64 6) (fun j q=>by cases q) (LvO.nil _ _) (nilP (chain HT2.out HB4.out));exact ⟨none,0,0,q0,[],6,rfl,HF.out,hC.r,hC.o,hC.b⟩
  ·subst j1
   subst j2;have HB3:=hide (chain HBd.out hb3);have HS3:=hide (hpast HY.out HB3.out);have HF:Hid (MbR S p mm 6 false true (restK (S.map Sd.nm) mm) q0 (([]:List Sd).map Sd.key) 8):=hide (by unfold MbR;rw [if_neg (by rw [HCd.out];simp)];rw [if_neg (by simp),if_pos rfl];exact ⟨rfl,rfl,rfl⟩);clear hb3;dsimp only;refine hK.out _ _ (fun _=>HS3.out) ?_;clear hK K
   try simp only [Act.put,sA,sB,sC]
   refine onE (i:=4) rfl (fun K hK=>?_);go_simp;refine (c_answer0 p 8 (by decide)).mono ?_;rintro e w4 ⟨rfl,hb4⟩;have HB4:=hide (chain HB3.out hb4);have HS4:=hide (hpast HS3.out hb4);have R4:=hide (hpast HR12.out HB4.out);clear hb4;dsimp only;refine hK.out _ _ (fun _=>HS4.out) ?_;clear hK K
   try simp only [Act.put,sA,sB,sC]
   obtain ⟨y0,y1,y2,y3,y4,y5,y6⟩:=box7 R4.out;have f0:=fzR 0 R4.out;have f1:=fzR 1 R4.out;have f2:=fzR 2 R4.out;have f3:=fzR 3 R4.out;have f4:=fzR 4 R4.out;have f5:=fzR 5 R4.out;have f6:=fzR 6 R4.out;refine onE (i:=5) rfl (fun K hK=>?_);go_simp;refine hK.out _ _ (fun h=>absurd rfl h) ?_;clear hK K
   try simp only [Act.put,sA,sB,sC]
   refine doneK (by kernel_rfl) ?_ _;go_wp2;refine bodyPost_ret (v:=.agg (poArr (.slice none 0 0) q0 (.slice none 0 0) 8)) (by simp [results,Tryz.results29,go_sem,y0,y1,y2,y3,y4,y5,y6]) rfl ?_;have hC:=CpP.sets7 (v0:=.slice none 0 0) (v1:=.int .i64 0) (v2:=.int .i64 0) (v3:=.int .i64 0) (v4:=.int .i64 0) (v5:=.slice none 0 0) (v6:=.int .i64 8) (fun j q=>by cases q) (LvO.nil _ _) (nilP (chain HT2.out HB4.out));exact ⟨none,0,0,q0,[],8,rfl,HF.out,hC.r,hC.o,hC.b⟩
  ·subst j1
   subst j2;obtain ⟨n3,X,L,hM3,hX,hO3,hA,hKp,hg3⟩:=hS;have hle:=HLe.out;have hbl:=HbL.out;have hlo1:=HLO1.out;have HS3:Hid (w3.heap[bl]?=some (.cells (lvArr p mb) 82 (0,0))):=hide (hg3.row HY.out (fun e=>by omega));have R3:w3.heap[w.heap.size+1]?=some (.cells (poArr (.slice none 0 0) q0 (.slice none 0 0) 0) 41 (0,0)):=hg3.row HR12.out (fun e=>by omega);have HF:Hid (MbR S p mm 6 false false (restK (S.map Sd.nm) mm) p (X.map Sd.key) 0):=hide (by unfold MbR;rw [if_neg (by rw [HCd.out];simp),if_neg (by simp),if_neg (by simp)];exact ⟨rfl,rfl,L,hA,hKp,hX.keys⟩);have hBel:Below w.heap.size w w3:=GrownS.below (chain HT2.out HBd.out) (chain HT2.out HBd.out).size hg3 (fun k e=>by omega);have hrise:RiseT (restK (S.map Sd.nm) mm):=(memb_pair (sds_memB (pip_parts HP.out).1)).sublist List.filter_sublist;have HRs:Hid (RiseT (X.map Sd.nm)):=hide (by rw [hX.nm];exact hrise);have hXl:X.length≤1000:=by have h1:=congrArg List.length hX.nm;rw [List.length_map] at h1;rw [h1];exact Nat.le_trans (List.length_filter_le _ _) (by rw [List.length_map];have:=HQ.out.n;omega)
   have HXz:Hid (∀ s∈X,s.nm.size≤maxLen):=fun s hs=>by
    have h1:s.nm∈X.map Sd.nm:=List.mem_map.2 ⟨s,hs,rfl⟩;rw [hX.nm] at h1;have:=(name_sizeM (memb_name (sds_memB (pip_parts HP.out).1) ((List.mem_filter.1 h1).1))).2;unfold maxLen;omega
   have HM3:=hide hM3;have HO3:=hide hO3;have HBl:=hide hBel;have HR3:=hide R3;clear hM3 hX hO3 hA hKp hg3 hBel hrise R3;dsimp only;refine hK.out _ _ (fun _=>HS3.out) ?_;clear hK K
   try simp only [Act.put,sA,sB,sC]
   refine onE (i:=4) rfl (fun K hK=>?_);go_simp;refine (c_answer1 p HM3.out (List.Perm.refl X) HRs.out hXl HXz.out).mono ?_;rintro e w4 ⟨av,cv,rfl,ho4,hb4⟩;have HS4:=hide (hpast HS3.out hb4);have R4:=hide (hpast HR3.out hb4);have HLv4:Hid (LvO w4 (w.heap.size+1+1) X):=hide ((HO3.out.past hb4).le (by omega));have z3:=HBl.out.size;have z4:w.heap.size+1+1≤w3.heap.size:=by have:=(Array.getElem?_eq_some_iff.1 HS3.out).1;omega
   have HC4:Hid (CpP w w4 X (.slice av X.length cv) X):=hide ⟨ho4.le z3,HLv4.out.le (by omega),rfl,chain HBl.out hb4⟩;have HFar:Hid (∀ j,(Value.slice av X.length cv).ownBlock=some j→w.heap.size+1+1≤j):=fun j q=>Nat.le_trans z4 (World.ownsRow.lt ho4 j q).1;clear ho4 hb4;dsimp only;refine hK.out _ _ (fun _=>HS4.out) ?_;clear hK K
   try simp only [Act.put,sA,sB,sC]
   obtain ⟨y0,y1,y2,y3,y4,y5,y6⟩:=box7 R4.out;have f0:=fzR 0 R4.out;have f1:=fzR 1 R4.out;have f2:=fzR 2 R4.out;have f3:=fzR 3 R4.out;have f4:=fzR 4 R4.out;have f5:=fzR 5 R4.out;have f6:=fzR 6 R4.out;refine onE (i:=5) rfl (fun K hK=>?_);go_simp;refine hK.out _ _ (fun h=>absurd rfl h) ?_;clear hK K
   try simp only [Act.put,sA,sB,sC]
   refine doneK (by kernel_rfl) ?_ _;go_wp2;refine bodyPost_ret (v:=.agg (poArr (.slice av X.length cv) p (.slice none 0 0) 0)) (by simp [results,Tryz.results29,go_sem,y0,y1,y2,y3,y4,y5,y6]) rfl ?_;have hC:=CpP.sets7 (v0:=.slice av X.length cv) (v1:=.int .i64 p.a) (v2:=.int .i64 p.b) (v3:=.int .i64 p.c) (v4:=.int .i64 p.d) (v5:=.slice none 0 0) (v6:=.int .i64 0) HFar.out HLv4.out HC4.out;exact ⟨av,_,cv,p,X,0,rfl,HF.out,hC.r,hC.o,hC.b⟩
end Go.Proofs.YtmjogablacnlgaaGreatDoor
