/-
 The bounds of an answer of PipeJoin, PipeLeave.
-/
import Derived.Test.YtmjogablacnlgaaGreatDoorVZI
namespace Go.Proofs.YtmjogablacnlgaaGreatDoor
set_option linter.unusedVariables false
set_option linter.unusedSimpArgs false
open Go.ChangeShapes Go.WideShapes Go.ChangeAt Go.RowKit Go.PlainAid Go.Lib
set_option maxRecDepth 10000
theorem filt_sum (g:Ce→Nat) (P:Ce→Bool):∀ L:List Ce,((L.filter P).map g).sum+((L.filter (fun c=>!P c)).map g).sum=(L.map g).sum
 | []=>rfl
 | c :: L=>by
  have h:=filt_sum g P L
  cases q:P c <;> simp [List.filter_cons,q] <;> omega
theorem part_sum (g:Ce→Nat) (P:ByteArray→Ce→Bool) (hd:∀ u v c,P u c=true→P v c=true→u=v):∀ (K:List ByteArray) (L:List Ce),K.Nodup→(K.map (fun u=>((L.filter (P u)).map g).sum)).sum≤(L.map g).sum
 | [],L,_=>by simp
 | u :: K,L,hK=>by
  rw [List.nodup_cons] at hK;have h:=part_sum g P hd K (L.filter (fun c=>!P u c)) hK.2;have e:=filt_sum g (P u) L
  have e2:K.map (fun v=>(((L.filter (fun c=>!P u c)).filter (P v)).map g).sum)=K.map (fun v=>((L.filter (P v)).map g).sum):=by
   refine List.map_congr_left (fun v hv=>?_);rw [List.filter_filter]
   congr 2
   refine List.filter_congr (fun c _=>?_)
   cases q:P v c
   ·rfl
   ·cases r:P u c
    ·rfl
    ·exact absurd (hd u v c r q ▸ hv) hK.1
  rw [e2] at h;rw [List.map_cons,List.sum_cons];omega
theorem totC_sum:∀ L:List Ce,totC L=(L.map cst).sum
 | []=>rfl
 | c :: L=>by unfold totC;rw [totC_sum L,List.map_cons,List.sum_cons]
theorem totS_parts (P:ByteArray→Ce→Bool) (L:List Ce):∀ (K:List ByteArray) (M:List Sd),M.map Sd.key=K.map (fun u=>(u,(L.filter (P u)).map Ce.key))→totS M=K.length+(K.map (fun u=>((L.filter (P u)).map cst).sum)).sum
 | [],[],_=>rfl
 | u :: K,s :: M,h=>by
  simp only [List.map_cons,List.cons.injEq] at h;have h1:s.L.map Ce.key=(L.filter (P u)).map Ce.key:=congrArg Prod.snd h.1;unfold totS;rw [totS_parts P L K M h.2,totC_keyP h1,totC_sum,List.map_cons,List.sum_cons,List.length_cons];omega
 | [],_ :: _,h=>by simp at h
 | _ :: _,[],h=>by simp at h
theorem shr_bd {S M:List Sd} {K:List ByteArray} {L:List Ce} (hK:membersB K=true) (hp:(L.map Ce.key).Perm ((allC S).map Ce.key)) (e:M.map Sd.key=K.map (fun u=>(u,(L.filter (ownB K u)).map Ce.key))) (ht:S.length+sdTot S≤1048576):SBd M∧SdsSm M:=by
 have hl:=congrArg List.length e;rw [List.length_map,List.length_map] at hl;have h12:=memb_len hK;have cb:=CBd.perm hp ht
 have hm:∀ s∈M,∃ u∈K,s.nm=u∧s.L.map Ce.key=(L.filter (ownB K u)).map Ce.key:=fun s hs=>by
  have h:s.key∈M.map Sd.key:=List.mem_map_of_mem hs;rw [e] at h;obtain ⟨u,hu,q⟩:=List.mem_map.1 h;exact ⟨u,hu,(congrArg Prod.fst q).symm,(congrArg Prod.snd q).symm⟩
 have hln:∀ s∈M,s.L.length≤1048576:=fun s hs=>by
  obtain ⟨u,_,_,q⟩:=hm s hs;have h:=congrArg List.length q;rw [List.length_map,List.length_map] at h;rw [h];exact Nat.le_trans (List.length_filter_le _ _) cb.l
 have hsm:∀ s∈M,∀ c∈s.L,AgSm c.g:=fun s hs c hc=>by
  obtain ⟨u,_,_,q⟩:=hm s hs;have h:c.key∈s.L.map Ce.key:=List.mem_map_of_mem hc;rw [q] at h;obtain ⟨d,hd,q2⟩:=List.mem_map.1 h;have h3:d.g=c.g:=congrArg (fun x=>x.2.2) q2;rw [← h3];exact cb.s d (List.mem_filter.1 hd).1
 have hnd:=rise_nodup (memb_pair hK);have h1:=totS_parts (ownB K) L K M e;have h2:=part_sum cst (ownB K) (fun u v c a b=>own_one (ownB_iff.1 a) (ownB_iff.1 b)) K L hnd;rw [← totC_sum] at h2
 have h3:L.length+ceTot L≤1048576:=by
  have h1:=allC_tot S;have h2:=ceTot_perm hp;have h3:=hp.length_eq;rw [List.length_map,List.length_map] at h3;omega
 have h4:=totC_le h3;refine ⟨⟨by omega,hln,hsm,by omega⟩,⟨by omega,hln,hsm,fun s hs=>?_⟩⟩;obtain ⟨u,hu,q,_⟩:=hm s hs;have h5:=name_size (memb_name hK hu);rw [q];omega
theorem nilBd {M:List Sd} (h:M.map Sd.key=[]):SBd M∧SdsSm M:=by
 have e:M=[]:=List.map_eq_nil_iff.1 h;subst e;exact ⟨⟨by simp,(fun s hs=>by cases hs),(fun s hs=>by cases hs),by unfold totS;omega⟩,⟨by simp,(fun s hs=>by cases hs),(fun s hs=>by cases hs),(fun s hs=>by cases hs)⟩⟩
theorem mfC_0 {S:List Sd} {p:Pi} {mm:ByteArray} (h:¬ mfC S p mm≠0):pipB S p=true∧nameB mm=true:=by
 have h0:mfC S p mm=0:=Classical.not_not.1 h;unfold mfC at h0
 split at h0
 ·exact absurd h0 (by decide)
 ·split at h0
  ·exact absurd h0 (by decide)
  ·rename_i c
   refine ⟨?_,?_⟩
   ·cases q:pipB S p
    ·exact absurd (.inl q) c
    ·rfl
   ·cases q:nameB mm
    ·exact absurd (.inr q) c
    ·rfl
theorem MbR.bd {S M:List Sd} {p q:Pi} {mm:ByteArray} {c7 cd:Int} {b7 b8:Bool} {K:List ByteArray} (h:MbR S p mm c7 b7 b8 K q (M.map Sd.key) cd) (hK:pipB S p=true→nameB mm=true→b7=false→b8=false→membersB K=true) (ht:S.length+sdTot S≤1048576):SBd M∧SdsSm M:=by
 unfold MbR at h
 split at h
 ·exact nilBd h.2.2
 ·rename_i c
  split at h
  ·exact nilBd h.2.2
  ·rename_i c7
   split at h
   ·exact nilBd h.2.2
   ·rename_i c8
    obtain ⟨_,_,L,_,hp,e⟩:=h;have q:=mfC_0 c;exact shr_bd (hK q.1 q.2 (by simpa using c7) (by simpa using c8)) hp e ht
theorem leaveK {S:List Sd} {p:Pi} {mm:ByteArray} (hp:pipB S p=true) (hn:nameB mm=true) (h7:(!inK (S.map Sd.nm) mm)=false) (h8:decide (S.length=1)=false):membersB (restK (S.map Sd.nm) mm)=true:=by
 have hk:inK (S.map Sd.nm) mm=true:=by simpa using h7
 have HM:=sds_memB (pip_parts hp).1;have h12:=memb_len HM;have hne:=of_decide_eq_false h8;have hin:=inK_iff.1 hk;rw [List.length_map] at h12;obtain ⟨A,R,hAR⟩:=List.append_of_mem hin
 have hK:restK (S.map Sd.nm) mm=A ++ R:=by
  have h:=rise_nodup (memb_pair HM);rw [hAR] at h ⊢;exact rest_eq h
 have hsub:(A ++ R).Sublist (S.map Sd.nm):=by rw [hAR];exact List.Sublist.append_left (List.sublist_cons_self _ _) _
 have hl2:(A ++ R).length+1=S.length:=by have h:=congrArg List.length hAR;rw [List.length_map] at h;rw [h];simp;omega
 rw [hK];exact memb_mk (by omega) (by omega) (fun x hx=>memb_name HM (hsub.subset hx)) ((memb_pair HM).sublist hsub)
theorem MbR.key {S T:List Sd} {p q:Pi} {mm:ByteArray} {c7 cd:Int} {b7 b8:Bool} {K:List ByteArray} {KM:List (ByteArray×List (Int×ByteArray×Ag))} (h:MbR T p mm c7 b7 b8 K q KM cd) (e:T.map Sd.key=S.map Sd.key):MbR S p mm c7 b7 b8 K q KM cd:=by
 have em:mfC T p mm=mfC S p mm:=by unfold mfC;rw [pipB_key e]
 unfold MbR at h ⊢;rw [em,all_key e] at h;exact h
def PoA (w:World) (R:Pi→List (ByteArray×List (Int×ByteArray×Ag))→List (Int×ByteArray×Ag)→Int→Prop) (e:Ending) (w':World):Prop:=
 ∃ a n c q M d m f C cd,e=.returned (.agg (poArr (.slice a n c) q (.slice d m f) cd))∧R q (M.map Sd.key) (C.map Ce.key) cd∧PoB w' w.heap.size w'.heap.size (.slice a n c) M (.slice d m f) C∧Below w.heap.size w w'
def JnR (S:List Sd) (p:Pi) (mm:ByteArray) (q:Pi) (KM:List (ByteArray×List (Int×ByteArray×Ag))) (KC:List (Int×ByteArray×Ag)) (cd:Int):Prop:=MbR S p mm 7 (inK (S.map Sd.nm) mm) (decide (12≤S.length)) (insT (S.map Sd.nm) mm) q KM cd∧KC=[]
def LeR (S:List Sd) (p:Pi) (mm:ByteArray) (q:Pi) (KM:List (ByteArray×List (Int×ByteArray×Ag))) (KC:List (Int×ByteArray×Ag)) (cd:Int):Prop:=MbR S p mm 6 (!inK (S.map Sd.nm) mm) (decide (S.length=1)) (restK (S.map Sd.nm) mm) q KM cd∧KC=[]
section
variable {w w':World} {S T M:List Sd} {C:List Ce} {p q q':Pi} {mm:ByteArray} {en:Ending} {KM KM':List (ByteArray×List (Int×ByteArray×Ag))} {KC KC':List (Int×ByteArray×Ag)} {cd cd':Int}
theorem key_nml (e:T.map Sd.key=S.map Sd.key):T.map Sd.nm=S.map Sd.nm∧T.length=S.length:=by
 have h:=congrArg (List.map Prod.fst) e;rw [List.map_map,List.map_map] at h;have l:=congrArg List.length e;rw [List.length_map,List.length_map] at l;exact ⟨h,l⟩
theorem leaveA (e:T.map Sd.key=S.map Sd.key) (h:MbA w T p mm 6 (!inK (T.map Sd.nm) mm) (decide (T.length=1)) (restK (T.map Sd.nm) mm) en w'):PoA w (LeR S p mm) en w':=by
 obtain ⟨a,k,c,q,M,cd,rfl,hR,r,o,b⟩:=h;rw [(key_nml e).1,(key_nml e).2] at hR;exact ⟨a,k,c,q,M,none,0,0,[],cd,rfl,⟨hR.key e,rfl⟩,PoB.none r o,b⟩
theorem LeR.same (h:LeR S p mm q KM KC cd) (k:LeR S p mm q' KM' KC' cd'):q=q'∧KM=KM'∧KC=KC'∧cd=cd':=⟨(h.1.same k.1 rfl).1,(h.1.same k.1 rfl).2.1,h.2.trans k.2.symm,(h.1.same k.1 rfl).2.2⟩
theorem nilC (h:C.map Ce.key=[]):CBd C:=by
 have e:C=[]:=List.map_eq_nil_iff.1 h;subst e;exact CBd.of (by simp [ceTot])
theorem LeR.bd (h:LeR S p mm q (M.map Sd.key) (C.map Ce.key) cd) (ht:S.length+sdTot S≤1048576):SBd M∧SdsSm M∧CBd C:=⟨(h.1.bd leaveK ht).1,(h.1.bd leaveK ht).2,nilC h.2⟩
end
end Go.Proofs.YtmjogablacnlgaaGreatDoor
