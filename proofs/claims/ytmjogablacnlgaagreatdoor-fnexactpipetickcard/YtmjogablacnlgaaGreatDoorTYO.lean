/-
 copyPipe of the program.
-/
import Derived.Test.YtmjogablacnlgaaGreatDoorTYN
namespace Go.Proofs.YtmjogablacnlgaaGreatDoor
set_option linter.unusedVariables false
set_option linter.unusedSimpArgs false
open Go.ChangeShapes Go.WideShapes Go.ChangeAt Go.RowKit Go.PlainAid Go.Lib
set_option maxRecDepth 10000
theorem sds_flat {w:World} {A:Addr} {S:List Sd} (hA:SdsAt w (some A) S):∀ j z,(flS S)[j]?=some z→w.cell? (A.add j)=some z:=fun j z hz=>by
 have hj:=(List.getElem?_eq_some_iff.1 hz).1;rw [flS_len] at hj;obtain ⟨b,off,e,hcell⟩:=hA.1 (by omega)
 cases e
 obtain ⟨x,hx⟩:∃ x,S[j / 2]?=some x:=⟨S[j / 2]'(by omega),List.getElem?_eq_getElem (by omega)⟩;have h1:=flS_at S (j / 2) x (j % 2) (by omega) hx;rw [show j / 2*2+j % 2=j by omega,hz] at h1;rw [Addr.add_lit,show off+j=off+j / 2*2+j % 2 by omega];obtain ⟨c0,c1⟩:=hcell (j / 2) x hx;rcases (show j % 2=0∨j % 2=1 by omega) with q | q
 ·rw [q] at h1 ⊢; exact c0.trans h1.symm
 ·rw [q] at h1 ⊢; exact c1.trans h1.symm
theorem flS_oneC (M:List Sd):∀ u∈flS M,u.oneCell'=true:=fun u hu=>by
 obtain ⟨s,_,hs⟩:=List.mem_flatMap.1 hu;exact sdL_one s u hs
set_option maxHeartbeats 2000000 in
theorem c_cloneS {w:World} {ao:Option Addr} {L:List Sd} (c n:Nat) (hn:L.length=n) (hl:n≤1048576) (hA:SdsAt w ao L) :
  Calls Tryz.prog 88 #[.slice ao n c] w fun e w'=>∃ v,e=.returned v∧OwnD w' w.heap.size v L∧Below w.heap.size w w':=by
 obtain ⟨i0,hi,hz0,hz1,hz2⟩:=infoSh
 cases ao with
 | none=>
  have h0:n=0:=by
   rcases Nat.eq_zero_or_pos n with h | h
   ·exact h
   ·obtain ⟨b,off,e,_⟩:=hA.1 (by omega);cases e
  subst h0;have hq:=fun W=>Lib.run_eql_slice_nil (P:=Tryz.prog) W 27 55 none 0 c 0 0 Tryz.underlying27;have HN:Hid (L=[]):=hide (List.eq_nil_of_length_eq_zero hn);clear hA hn;go_enter Tryz.func88,Tryz.ntmps88;go_wp2;go_ret;exact ⟨_,rfl,by rw [HN.out];exact OwnD.nil _ _,Below.refl _ _⟩
 | some A=>
  have HCs:=hide (sds_flat hA);have hq:=fun W=>Lib.run_eql_slice_nil (P:=Tryz.prog) W 27 55 (some A) n c 0 0 Tryz.underlying27;have HN:=hide hn;clear hA hn;go_enter Tryz.func88,Tryz.ntmps88;go_wp2_with (at_builtin;refine wpList_append_own _ rfl (.tmp 5) (.tmp 6) 27 rfl w.heap.size 55 i0 (.agg #[.string ByteArray.empty,.slice none 0 0]) 2 40 Tryz.underlying27 hi hz0 hz1 hz2 rfl (by decide) _ _ _ rfl (World.ownsRow_made _ #[] 0 (Nat.le_refl _) (Nat.zero_le _) rfl) A n c (flS L) rfl (by rw [flS_len,HN.out]) (fun j z hz=>by have:=HCs.out j z hz;exact cell_on this _) (flS_oneC _) (by unfold maxLen;omega) (by omega) (by simp) ?_;intro v1 w1 hown1 hgrow1 hnil1;simp only [Nat.zero_add,List.nil_append] at hown1;have O1:=hide hown1;have B1:=hide (((Below.refl _ _).alloc (Nat.le_refl _) _).grown hgrow1 (by simp) (fun j hj=>by cases hj;exact Nat.le_refl _));clear hown1 hgrow1 hnil1);go_ret;exact ⟨_,rfl,by unfold OwnD;rw [HN.out];exact O1.out,B1.out⟩
structure CqI (w wr:World) (S:List Sd) (p:Pi) (k:Nat) (v:Value) (M:List Sd):Prop where
 x0:wr.heap[w.heap.size]?=some (.cells (piArr v p) 29 (0,0))
 x1:wr.heap[w.heap.size+1]?=some (.cells zeroPi 29 (0,0))
 r:OwnD wr (w.heap.size+1+1) v M
 o:LvO wr (w.heap.size+1+1) (M.take k)
 dr:M.drop k=S.drop k
 ky:M.map Sd.key=S.map Sd.key
 b:Below w.heap.size w wr
theorem CqI.past {w wr W:World} {S M:List Sd} {p:Pi} {k:Nat} {v:Value} (h:CqI w wr S p k v M) (hb:Below wr.heap.size wr W):CqI w W S p k v M:=
 ⟨hpast h.x0 hb,hpast h.x1 hb,h.r.past hb,h.o.past hb,h.dr,h.ky,chain h.b hb⟩
theorem CqI.len {w wr:World} {S M:List Sd} {p:Pi} {k:Nat} {v:Value} (h:CqI w wr S p k v M):M.length=S.length:=by
 have:=congrArg List.length h.ky;rw [List.length_map,List.length_map] at this;exact this
theorem CqI.at {w wr:World} {S M:List Sd} {p:Pi} {k:Nat} {v:Value} {s:Sd} (h:CqI w wr S p k v M) (hs:S[k]?=some s):M[k]?=some s:=by
 have e:(M.drop k)[0]?=(S.drop k)[0]?:=by rw [h.dr]
 rw [List.getElem?_drop,List.getElem?_drop,Nat.add_zero] at e;exact e.trans hs
theorem CqI.set {w wr w6:World} {S M:List Sd} {p:Pi} {k g n cp:Nat} {s t:Sd} (h:CqI w wr S p k (.slice (some ⟨g,0,none⟩) n cp) M) (hn:M.length=n) (hs:S[k]?=some s) (e:t.key=s.key) (hb6:Below wr.heap.size wr w6) (hr:OwnC w6 wr.heap.size (slS t) t.L) (ho:CesO w6 wr.heap.size t.L) :
  CqI w ((w6.setCell ⟨g,k*2,none⟩ (.string t.nm)).setCell ⟨g,k*2+1,none⟩ (slS t)) S p (k+1) (.slice (some ⟨g,0,none⟩) n cp) (M.set k t):=by
 have h6:=h.past hb6;have hat:=h.at hs;have hk:=(List.getElem?_eq_some_iff.1 hat).1;have hg:w.heap.size+1+1≤g:=(World.ownsRow.lt h.r g rfl).1;have hnm:t.nm=s.nm:=(key_len e).1;have hg2:w6.grownBy ((w6.setCell ⟨g,k*2,none⟩ (.string t.nm)).setCell ⟨g,k*2+1,none⟩ (slS t)) (some g):=(grown_one w6 g _ _).trans (grown_one _ g _ _);have hgS:GrownS w6 ((w6.setCell ⟨g,k*2,none⟩ (.string t.nm)).setCell ⟨g,k*2+1,none⟩ (slS t)) (fun k=>some g=some k):=⟨hg2.os,hg2.tape,hg2.output,hg2.size,fun k hk hn=>hg2.block k hk (fun e=>hn e.symm)⟩;have r1:=h6.r.put1 (j:=0) (s:=s) (s':=s) (u:=.string t.nm) hn hat (by omega) (by rw [hnm];rfl)
 have e1:M.set k s=M:=by
  have:=(List.getElem?_eq_some_iff.1 hat).2;rw [← this];exact List.set_getElem_self _
 rw [e1] at r1;have r2:=r1.put1 (j:=1) (s:=s) (s':=t) (u:=slS t) hn hat (by omega) (by show [Value.string t.nm,_]=[Value.string s.nm,_];rw [hnm]);have oL:LvO w6 (w.heap.size+1+1) (M.take k ++ [t]):=h.o.add hb6 (Nat.le_trans (by have:=(Array.getElem?_eq_some_iff.1 h.x1).1;omega) (Nat.le_refl wr.heap.size)) hr ho;have oL2:=oL.keptS hgS (fun s hs k q e=>h6.r.neB oL hs k q (by rw [← e];rfl));have row:∀ {r:Nat} {o:Obj},r<w.heap.size+1+1→w6.heap[r]?=some o→((w6.setCell ⟨g,k*2,none⟩ (.string t.nm)).setCell ⟨g,k*2+1,none⟩ (slS t)).heap[r]?=some o:=fun {r o} hr q=>(hg2.block r (Array.getElem?_eq_some_iff.1 q).1 (fun e=>by injection e with e;omega)).trans q;refine ⟨row (by omega) h6.x0,row (by omega) h6.x1,r2,?_,?_,?_,h6.b.grown hg2 h6.b.size (fun j hj=>by injection hj with hj;omega)⟩
 ·have e2:(M.set k t).take (k+1)=M.take k ++ [t]:=by
   rw [List.take_set,List.take_add_one,hat,List.set_append_right _ _ (by simp;omega)];simp [List.length_take,Nat.min_eq_left (Nat.le_of_lt hk)]
  rw [e2];exact oL2
 ·rw [List.drop_set_of_lt (by omega)]
  have:=congrArg (List.drop 1) h.dr;rw [List.drop_drop,List.drop_drop] at this;exact this
 ·rw [List.map_set,e]
  have:(M.map Sd.key)[k]?=some s.key:=by rw [List.getElem?_map,hat];rfl
  rw [show (M.map Sd.key).set k s.key=M.map Sd.key by
   have q:=(List.getElem?_eq_some_iff.1 this).2;rw [← q];exact List.set_getElem_self _]
  exact h.ky
theorem CpP.sets2 {w wr:World} {S M:List Sd} {v v0 v1 v2 v3 v4:Value} (far:∀ j,v.ownBlock=some j→w.heap.size+1+1≤j) (ho:LvO wr (w.heap.size+1+1) M) (h:CpP w wr S v M):CpP w (((((wr.setCell ⟨w.heap.size+1,0,none⟩ v0).setCell ⟨w.heap.size+1,1,none⟩ v1).setCell ⟨w.heap.size+1,2,none⟩ v2).setCell ⟨w.heap.size+1,3,none⟩ v3).setCell ⟨w.heap.size+1,4,none⟩ v4) S v M:=by
 have st:∀ (W:World) (j:Nat) (u:Value),OwnD W w.heap.size v M→OwnD (W.setCell ⟨w.heap.size+1,j,none⟩ u) w.heap.size v M:=fun W j u o=>by
  refine World.ownsRow.kept o (grown_one W _ j u) ?_
  cases q:v.ownBlock with
  | none=>exact .inl rfl
  | some i=>exact .inr (fun e=>by have:=far i q;injection e with e;omega)
 have sl:∀ (W:World) (j:Nat) (u:Value),LvO W (w.heap.size+1+1) M→LvO (W.setCell ⟨w.heap.size+1,j,none⟩ u) (w.heap.size+1+1) M:=fun W j u o=>o.grown (grown_one W _ j u) (by omega);refine ⟨?_,LvO.le ?_ (by omega:w.heap.size≤w.heap.size+1+1),h.ky,?_⟩
 ·repeat (refine st _ _ _ ?_)
  exact h.r
 ·repeat (refine sl _ _ _ ?_)
  exact ho
 ·repeat (refine Below.setCell ?_ (by show _≤w.heap.size+1;omega) _)
  exact h.b
set_option maxHeartbeats 8000000 in
theorem c_copyPipe {w:World} {ao:Option Addr} {N ca:Nat} {S:List Sd} (p:Pi) (hI:PpI w ao N S) :
  Calls Tryz.prog 48 #[.agg (piArr (.slice ao N ca) p)] w fun e w'=>CpA w S p e w':=by
 have HI:=hide hI;have hlN:N≤1048576:=by have:=hI.n;have:=hI.sm.n;omega
 have a1:∀ (X:World) o,Below X.heap.size X (X.alloc o):=fun X o=>(Below.refl _ _).alloc (Nat.le_refl _) _;have k0:=heap_alloc_new w (.cells (piArr (.slice ao N ca) p) 29);have k1:=heap_alloc_new (w.alloc (.cells (piArr (.slice ao N ca) p) 29)) (.cells zeroPi 29);simp only [World.size_alloc] at k1;have HR0:=hide (hpast k0 (a1 _ (.cells zeroPi 29)));have HR1:=hide k1;have HT0:=hide (chain (a1 w (.cells (piArr (.slice ao N ca) p) 29)) (a1 _ (.cells zeroPi 29)));clear hI a1 k0 k1;go_enter Tryz.func48,Tryz.ntmps48;go_upto_region 1 with fail;generalize (w.alloc (.cells (piArr (.slice ao N ca) p) 29)).alloc (.cells zeroPi 29)=W0 at HR0 HR1 HT0 ⊢;have c0:=(box5 HR0.out).1;go_wp2_with fail;clear c0;refine (c_cloneS ca N HI.out.n hlN (sds_past HI.out.at' HT0.out)).mono ?_;rintro e w1 ⟨v,rfl,ho1,hb1⟩;have Y0:=hpast HR0.out hb1;have Y1:=hpast HR1.out hb1;have hlo:w.heap.size+1+1≤W0.heap.size:=(Array.getElem?_eq_some_iff.1 HR1.out).1;have ho2:=ho1.le hlo;obtain ⟨av,cv,rfl,_⟩:=ho1.form;rw [HI.out.n] at ho2 ⊢;have c0:=(box5 Y0).1;have f0:=fzR 0 Y0
 have HQ:Hid (CqI w (w1.setCell ⟨w.heap.size,0,none⟩ (.slice av N cv)) S p 0 (.slice av N cv) S):=by
  have hgs:=grown_one w1 w.heap.size 0 (.slice av N cv);have hbt:=chain HT0.out hb1;refine hide ⟨heap_setCell_same w1 _ 0 _ _ _ Y0,(hgs.block _ (Array.getElem?_eq_some_iff.1 Y1).1 (fun e=>by injection e with e;omega)).trans Y1,?_,by rw [List.take_zero];exact LvO.nil _ _,rfl,rfl,hbt.setCell (Nat.le_refl _) _⟩;refine World.ownsRow.kept ho2 hgs ?_
  cases q:(Value.slice av N cv).ownBlock with
  | none=>exact .inl rfl
  | some j=>exact .inr (fun e=>by have:=(World.ownsRow.lt ho2 j q).1;injection e with e;omega)
 clear ho1 ho2 hb1 Y0 Y1 hlo HR0 HR1;go_upto_region 2 with fail;clear c0 f0;generalize w1.setCell ⟨w.heap.size,0,none⟩ (.slice av N cv)=W1 at HQ ⊢;have c0:=(box5 HQ.out.x0).1;go_wp2;clear c0
 go_loopw [11] (fun i wr=>∃ (k:Nat) (M:List Sd),k≤N∧i=.int .i64 k∧Hid (CqI w wr S p k (.slice av N cv) M)) (fun i wr=>N - (Go.RowKit.intOf i).toNat)
 case atStart=>exact ⟨0,S,Nat.zero_le _,rfl,HQ⟩
 case round=>
  clear HQ;obtain ⟨k,M,hk,rfl,HQ⟩:=hrel;by_cases hkn:k<N
  ·have hkni:(k:Int)<(N:Int):=by omega
   obtain ⟨s,hs⟩:∃ s,S[k]?=some s:=⟨S[k]'(by have:=HI.out.n;omega),List.getElem?_eq_getElem _⟩;have hml:M.length=N:=HQ.out.len.trans HI.out.n;obtain ⟨gg,rfl⟩:=own_addrS HQ.out.r (by omega);have HS:=hide hs;have HM:=hide (List.mem_of_getElem? hs);have HML:=hide hml
   have HX:Hid (∀ W,Below wr.heap.size wr W→SdCell W gg (k*2) s∧(∀ j,W.frozen? ⟨gg,j,none⟩=false)∧W.cell? ⟨w.heap.size,0,none⟩=some (.slice (some ⟨gg,0,none⟩) N cv)):=fun W hW=>by
    have h1:=HQ.out.past hW;obtain ⟨q1,q2⟩:=row_cellsS h1.r hml (h1.at hs);exact ⟨q1,q2,(box5 h1.x0).1⟩
   clear hs hml;go_upto_region 5 with fail;have HS0:(fun W=>Below wr.heap.size wr W) wr.drew:=(Below.refl _ _).drew;refine regionK (fun W=>Below wr.heap.size wr W) 10 (by kernel_rfl) ?_;refine tkS (i:=0) (v:=.pointer (some ⟨w.heap.size,0,none⟩)) rfl rfl HS0 ?_;refine tkL (i:=1) (v:=.slice (some ⟨gg,0,none⟩) N cv) rfl rfl HS0 (fun W hW=>?_) ?_
   ·obtain ⟨⟨e0,e1⟩,e2,e3⟩:=HX.out W hW
    clear hW;go_simp
   refine tkS (i:=2) (v:=.int .i64 (k:Int)) rfl rfl HS0 ?_;simp only [sA,sB,sC];refine tkS (i:=3) (v:=.pointer (some ⟨w.heap.size,0,none⟩)) rfl rfl HS0 ?_;refine tkL (i:=4) (v:=.slice (some ⟨gg,0,none⟩) N cv) rfl rfl HS0 (fun W hW=>?_) ?_
   ·obtain ⟨⟨e0,e1⟩,e2,e3⟩:=HX.out W hW
    clear hW;go_simp
   refine tkS (i:=5) (v:=.int .i64 (k:Int)) rfl rfl HS0 ?_;simp only [sA,sB,sC];refine tkS (i:=6) (v:=.pointer (some ⟨gg,k*2,none⟩)) rfl rfl HS0 ?_;refine tkL (i:=7) (v:=.agg (sdArr s)) rfl rfl HS0 (fun W hW=>?_) ?_
   ·obtain ⟨⟨e0,e1⟩,e2,e3⟩:=HX.out W hW
    clear hW;go_simp
   simp only [sA,sB,sC];refine onE (i:=8) rfl (fun K hK=>?_);go_simp;refine (c_copyShard s (HI.out.sm.l s HM.out) (HI.out.sm.sm s HM.out) (fun c hc=>(HI.out.ok s HM.out c hc).2.2) (ces_past (HI.out.at'.2 s HM.out) (chain HQ.out.b (HS0:Below wr.heap.size wr wr.drew)))).mono ?_;rintro e w6 ⟨bo,cp,M6,rfl,ho6,hc6,hk6,hb6⟩;have HB6:Hid (Below wr.heap.size wr w6):=(HS0:Below wr.heap.size wr wr.drew).trans (hb6.mono (Nat.le_refl _));have hl6:=map_len hk6;rw [← hl6] at ho6 ⊢;have HF:=hide (HQ.out.set (t:=⟨s.nm,M6,bo,cp⟩) HML.out HS.out (by show (s.nm,M6.map Ce.key)=(s.nm,s.L.map Ce.key);rw [hk6]) HB6.out ho6 hc6);clear ho6 hc6 hk6 hb6 hl6;dsimp only;refine hK.out _ _ (fun _=>HB6.out) ?_;clear hK K
   try simp only [Act.put,sA,sB,sC]
   refine tkS (i:=9) (v:=.pointer (some ⟨gg,k*2,none⟩)) rfl rfl HB6.out ?_;simp only [sA,sB,sC];obtain ⟨⟨e0,e1⟩,e2,e3⟩:=HX.out w6 HB6.out;have f0:=e2 (k*2);have f1:=e2 (k*2+1);clear e2;refine onE (i:=10) rfl (fun K hK=>?_);go_simp;clear e0 e1 e3 f0 f1;refine hK.out _ _ (fun h=>absurd rfl h) ?_;clear hK K
   try simp only [Act.put,sA,sB,sC]
   refine doneK (by kernel_rfl) ?_ _;go_wp2;go_roundw
   case rel=>exact ⟨k+1,_,by omega,by first | rfl | go_num,HF⟩
   case measure=>simp [Go.RowKit.intOf];omega
  ·have hkni:¬ (k:Int)<(N:Int):=by omega
   have R1:=HQ.out.x1;have R0:=HQ.out.x0
   have HFin:Hid (CpP w wr S (.slice av N cv) M∧LvO wr (w.heap.size+1+1) M):=by
    have o:=HQ.out.o;rw [List.take_of_length_le (by rw [HQ.out.len,HI.out.n];omega)] at o;exact hide ⟨⟨HQ.out.r.le (by omega),o.le (by omega),HQ.out.ky,HQ.out.b⟩,o⟩
   have HFar:Hid (∀ j,(Value.slice av N cv).ownBlock=some j→w.heap.size+1+1≤j):=fun j q=>(World.ownsRow.lt HQ.out.r j q).1;obtain ⟨z0,z1,z2,z3,z4⟩:=box5 R0;obtain ⟨y0,y1,y2,y3,y4⟩:=box5 R1;have f0:=fzR 0 R1;have f1:=fzR 1 R1;have f2:=fzR 2 R1;have f3:=fzR 3 R1;have f4:=fzR 4 R1;clear R1 R0 HQ;go_wp2;refine bodyPost_ret (v:=.agg (piArr (.slice av N cv) p)) (by simp [results,Tryz.results48,go_sem,y0,y1,y2,y3,y4]) rfl ⟨_,M,rfl,?_⟩;exact CpP.sets2 HFar.out HFin.out.2 HFin.out.1
end Go.Proofs.YtmjogablacnlgaaGreatDoor
