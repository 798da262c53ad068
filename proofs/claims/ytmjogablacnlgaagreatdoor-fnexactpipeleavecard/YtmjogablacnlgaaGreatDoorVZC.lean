/-
 share of a live pipe: the walk.
-/
import Derived.Test.YtmjogablacnlgaaGreatDoorVZB
namespace Go.Proofs.YtmjogablacnlgaaGreatDoor
set_option linter.unusedVariables false
set_option linter.unusedSimpArgs false
open Go.ChangeShapes Go.WideShapes Go.ChangeAt Go.RowKit Go.PlainAid Go.Lib Go.Maps
set_option maxRecDepth 10000
theorem ownT_at {w:World} {B cp:Nat} {ao:Option Addr} {K:List ByteArray} (h:OwnT w B (.slice ao K.length cp) K):StrsAt w ao K:=fun h0=>by
 rcases h.2 with ⟨e,q⟩ | ⟨g,cap,cur,e,q1,q2⟩
 ·omega
 ·injection e with e1 e2 e3
  subst e1;exact strs_owned h h0
theorem cells15 {w:World} {r:Nat} {c:Ce} {T:TypeId} (h:w.heap[r]?=some (.cells (ceArr c) T (0,0))):w.cell? ⟨r,0,none⟩=some (.int .i64 c.n)∧w.cell? ⟨r,1,none⟩=some (.string c.s)∧w.cell? ⟨r,2,none⟩=some (.int .i64 c.g.k)∧w.cell? ⟨r,3,none⟩=some (.int .u64 c.g.s)∧w.cell? ⟨r,4,none⟩=some (.int .i64 c.g.h)∧w.cell? ⟨r,5,none⟩=some (.int .u64 c.g.l)∧w.cell? ⟨r,6,none⟩=some (.int .i64 c.g.a)∧w.cell? ⟨r,7,none⟩=some (.int .i64 c.g.t)∧w.cell? ⟨r,8,none⟩=some (.int .u64 c.g.z)∧w.cell? ⟨r,9,none⟩=some (.slice c.p.pa c.g.P.length c.p.pc)∧w.cell? ⟨r,10,none⟩=some (.slice c.p.na c.g.N.length c.p.nc)∧w.cell? ⟨r,11,none⟩=some (.int .i64 c.g.x)∧w.cell? ⟨r,12,none⟩=some (.int .u64 c.g.y)∧w.cell? ⟨r,13,none⟩=some (.slice c.p.ea c.g.E.length c.p.ec)∧w.cell? ⟨r,14,none⟩=some (.slice c.p.ra c.g.R.length c.p.rc):=
 ⟨cellP h 0 rfl,cellP h 1 rfl,cellP h 2 rfl,cellP h 3 rfl,cellP h 4 rfl,cellP h 5 rfl,cellP h 6 rfl,cellP h 7 rfl,cellP h 8 rfl,cellP h 9 rfl,cellP h 10 rfl,cellP h 11 rfl,cellP h 12 rfl,cellP h 13 rfl,cellP h 14 rfl⟩
structure Sr1 (w wr:World) (mb n:Nat) (p:Pi) (vn:Value) (K:List ByteArray) (X:List Sd):Prop where
 x0:wr.heap[w.heap.size]?=some (.cells (lvArr p mb) 82 (0,0))
 mp:MpS wr mb n X
 on:OwnT wr (w.heap.size+1) vn K
 g:GrownS w wr (fun k=>k=mb)
theorem Sr1.upd {w wr w1:World} {mb n m:Nat} {p:Pi} {vn:Value} {K:List ByteArray} {X Y:List Sd} (h:Sr1 w wr mb n p vn K X) (hmb:mb<w.heap.size) (hm:MpS w1 mb m Y) (hg:wr.grownBy w1 (some mb)):Sr1 w w1 mb m p vn K Y:=
 ⟨(hg.block _ (Array.getElem?_eq_some_iff.1 h.x0).1 (fun e=>by injection e with e;omega)).trans h.x0,hm,h.on.kept hg (fun j q e=>by have:=(World.ownsRow.lt h.on j e).1;injection q with q;omega),(h.g.trans (grS hg)).weak (fun k q=>q.elim id (fun e=>by injection e with e;exact e.symm))⟩
theorem empT_at {T:List Sd} {k:Nat} {s:Sd} (hs:T[k]?=some s):(T.take k).map (fun s=>empS s.nm) ++ T.drop k=(T.take k).map (fun s=>empS s.nm) ++ s :: T.drop (k+1)∧(T.take (k+1)).map (fun s=>empS s.nm) ++ T.drop (k+1)=(T.take k).map (fun s=>empS s.nm) ++ empS s.nm :: T.drop (k+1):=by
 obtain ⟨hi,e⟩:=List.getElem?_eq_some_iff.1 hs;constructor
 ·rw [← e,← List.drop_eq_getElem_cons hi]
 ·rw [List.take_add_one,hs];simp
theorem Sr1.fin {w wr:World} {mb n:Nat} {p:Pi} {vn:Value} {K:List ByteArray} {T:List Sd} {L:List Ce} (h:Sr1 w wr mb n p vn K (T.map (fun s=>empS s.nm))) (hT:T.map Sd.nm=K):SrJ w wr mb n p vn K L 0 (T.map (fun s=>empS s.nm)):=by
 refine ⟨h.x0,h.mp,h.on,h.g,⟨by rw [List.map_map];exact hT,fun s hs=>?_⟩,fun s hs=>?_,?_⟩
 ·obtain ⟨t,_,rfl⟩:=List.mem_map.1 hs
  rfl
 ·obtain ⟨t,_,rfl⟩:=List.mem_map.1 hs
  exact OwnC.nil _ _
 ·rw [List.pairwise_map]
  exact List.pairwise_of_forall (fun a b k q=>by cases q)
def SrP (w w':World) (mb:Nat) (K:List ByteArray) (L:List Ce) (m:Nat):Prop:=∃ n X,n≤m∧MpS w' mb n X∧ShrL K L X∧(∀ s∈X,OwnC w' (w.heap.size+1) (slS s) s.L)∧X.Pairwise (fun s t=>ApV (slS s) (slS t))∧GrownS w w' (fun k=>k=mb)
set_option maxHeartbeats 16000000 in
theorem c_share {w:World} {mb n nc cc:Nat} {M T:List Sd} {K:List ByteArray} {L:List Ce} {ac:Option Addr} (p:Pi) (hM:MpS w mb n M) (hT:T.Perm M) (hTn:T.map Sd.nm=K) (hK:RiseT K) (hKm:membersB K=true) (hn:n≤800000) (hL:L.length=nc) (hl:nc≤100000) (hs:∀ c∈L,c.s.size≤100) (hoc:OwnC w (mb+1) (.slice ac nc cc) L) :
  Calls Tryz.prog 97 #[.agg (lvArr p mb),.slice ac nc cc] w fun e w'=>e=.returned (.tuple #[])∧SrP w w' mb K L (n+K.length+nc):=by
 obtain ⟨i0,hi,hz0,hz1,hz2⟩:=infoCe;have hmb:=hM.lt;have a1:∀ (X:World) o,Below X.heap.size X (X.alloc o):=fun X o=>(Below.refl _ _).alloc (Nat.le_refl _) _;have HR0:=hide (heap_alloc_new w (.cells (lvArr p mb) 82));have HM0:=hide ((hM.perm hT.symm).past (a1 w (.cells (lvArr p mb) 82)));have HT0:=hide (a1 w (.cells (lvArr p mb) 82));have HZ0:Hid ((w.alloc (.cells (lvArr p mb) 82)).heap.size=w.heap.size+1):=hide (by simp);have HTn:=hide hTn;have HK:=hide hK;have HKm:=hide hKm;have HL:=hide hL;have HS:=hide hs;have HOc:=hide hoc;have HMB:=hide hmb;have hkl:K.length≤12:=(memb_len hKm).2;have hzK:∀ u∈K,u.size≤100:=fun u hu=>Nat.le_trans (name_sizeM (memb_name hKm hu)).2 (by omega);have HzK:=hide hzK;clear hM hT hTn hK hKm hL hs hoc a1 hmb hzK;go_enter Tryz.func97,Tryz.ntmps97;go_upto_region 1 with fail;generalize w.alloc (.cells (lvArr p mb) 82)=W0 at HR0 HM0 HT0 HZ0 ⊢;obtain ⟨r0,r1,r2,r3,r4⟩:=box5 HR0.out;go_wp2_with fail;clear r0 r1 r2 r3 r4;have hTl:T.length=K.length:=by rw [← HTn.out,List.length_map]
 refine (c_members p HM0.out HK.out (by rw [HTn.out]) (by omega)).mono ?_;rintro e w1 ⟨vn,rfl,ho,hb1⟩;obtain ⟨an,cn,rfl⟩:=ownT_any ho
 have H1:Hid (Sr1 w w1 mb n p (.slice an K.length cn) K ((T.take 0).map (fun s=>empS s.nm) ++ T.drop 0)):=by
  have o:=ho;rw [HZ0.out] at o;exact hide ⟨hpast HR0.out hb1,by simpa using HM0.out.past hb1,o,(GrownS.ofBelow (chain HT0.out hb1)).weak (fun k f=>f.elim)⟩
 have HTl:=hide hTl;clear ho hb1 HR0 HM0 HT0 HZ0 hTl W0;go_wp2
 go_loopw [15] (fun i wr=>∃ (k:Nat),k≤K.length∧i=.int .i64 k∧Hid (Sr1 w wr mb (n+k) p (.slice an K.length cn) K ((T.take k).map (fun s=>empS s.nm) ++ T.drop k))) (fun i wr=>K.length - (Go.RowKit.intOf i).toNat)
 case atStart=>exact ⟨0,Nat.zero_le _,rfl,H1⟩
 case round=>
  clear H1;obtain ⟨k,hk,rfl,H1⟩:=hrel;by_cases hkn:k<K.length
  ·have hkni:(k:Int)<(K.length:Int):=by omega
   obtain ⟨s,hs⟩:∃ s,T[k]?=some s:=⟨T[k]'(by have:=HTl.out;omega),List.getElem?_eq_getElem _⟩;have hKs:K[k]?=some s.nm:=by rw [← HTn.out,List.getElem?_map,hs];rfl
   obtain ⟨gn,rfl,n0⟩:=ownT_cell H1.out.on rfl hKs;have l4:=(box5 H1.out.x0).2.2.2.2;have hmp:=H1.out.mp;rw [(empT_at hs).1] at hmp;obtain ⟨w2,hrun,hm2,hg2⟩:=hmp.put (s:=empS s.nm) rfl (by have:=HzK.out s.nm (List.mem_of_getElem? hKs);unfold maxLen;show s.nm.size≤_;omega) (by omega);have hrun:(Instr.mapUpdate 80 (.map (some mb)) (.string s.nm) (.agg #[.string s.nm,.slice none 0 0])).run Tryz.prog wr=.ok () w2:=hrun;rw [← (empT_at hs).2] at hm2;have HF:=hide (H1.out.upd HMB.out hm2 hg2);clear hmp hm2 hg2 hKs hs H1;go_wp2;go_roundw
   case rel=>exact ⟨k+1,by omega,by first | rfl | go_num,HF⟩
   case measure=>simp [Go.RowKit.intOf];omega
  ·have hkni:¬ (k:Int)<(K.length:Int):=by omega
   obtain rfl:k=K.length:=by omega
   have HJ0:Hid (SrJ w wr mb (n+K.length) p (.slice an K.length cn) K L 0 (T.map (fun s=>empS s.nm))):=by
    have h:=H1.out;rw [List.take_of_length_le (by have:=HTl.out;omega),List.drop_eq_nil_of_le (by have:=HTl.out;omega),List.append_nil] at h;exact hide (h.fin HTn.out)
   clear H1 hk hkn;go_wp2
   go_loopw [27] (fun i wr=>∃ (k m:Nat) (X:List Sd),k≤nc∧i=.int .i64 k∧m≤n+K.length+k∧Hid (SrJ w wr mb m p (.slice an K.length cn) K L k X)) (fun i wr=>nc - (Go.RowKit.intOf i).toNat)
   case atStart=>exact ⟨0,_,_,Nat.zero_le _,rfl,Nat.le_refl _,HJ0⟩
   case round=>
    clear HJ0;obtain ⟨k,m,X,hk,rfl,hm,HJ⟩:=hrel;by_cases hkn:k<nc
    ·have hkni2:(k:Int)<(nc:Int):=by omega
     obtain ⟨c,hc⟩:∃ c,L[k]?=some c:=⟨L[k]'(by have:=HL.out;omega),List.getElem?_eq_getElem _⟩;have hocr:OwnC wr (mb+1) (.slice ac nc cc) L:=HOc.out.keptS HJ.out.g (fun j q e=>by have:=(World.ownsRow.lt HOc.out j q).1;omega);obtain ⟨gc,rfl⟩:=own_addr hocr (by have:=HL.out;omega);obtain ⟨⟨x0,x1,x2,x3,x4,x5,x6,x7,x8,x9,x10,x11,x12,x13,x14⟩,_⟩:=row_cells hocr HL.out hc;have HCs:=hide (HS.out c (List.mem_of_getElem? hc));have HC:=hide hc;have HB1:Hid (Below wr.heap.size wr (wr.alloc (.cells (ceArr c) 69))):=(Below.refl _ _).alloc (Nat.le_refl _) _;have HX1:=hide (heap_alloc_new wr (.cells (ceArr c) 69));clear hc hocr;go_upto_region 10 with fail;clear x0 x1 x2 x3 x4 x5 x6 x7 x8 x9 x10 x11 x12 x13 x14;have HJ1:=hide (HJ.out.past HB1.out);have HZ1:Hid ((wr.alloc (.cells (ceArr c) 69)).heap.size=wr.heap.size+1):=hide (by simp);generalize wr.alloc (.cells (ceArr c) 69)=W1 at HB1 HX1 HJ1 HZ1 ⊢;have y1:=cellP HX1.out 1 rfl;go_wp2_with fail;clear y1;refine (c_i_OwnerOf cn c.s (by have:=HCs.out;unfold maxLen;omega) (by omega) (fun u hu=>by have:=HzK.out u hu;omega) (ownT_at HJ1.out.on)).mono ?_;rintro e w2 ⟨u,rfl,hu,hb2⟩;have huK:=own_in HKm.out (by have:=HCs.out;omega) hu;have hsx:=huK;rw [← HJ.out.sh.nm] at hsx;obtain ⟨s,hsX,rfl⟩:=List.mem_map.1 hsx;have HzS:=hide (HzK.out s.nm huK);have HJ2:=hide (HJ1.out.past hb2);have HX2:=hide (hpast HX1.out hb2);have HB2:=hide (chain HB1.out hb2);have HZ2:Hid (wr.heap.size+1≤w2.heap.size):=hide (by have:=hb2.size;have:=HZ1.out;omega);have HU:=hide hu;have hlk:=HJ2.out.mp.look hsX (by have:=HzS.out;unfold maxLen;omega);have l4:=(box5 HJ2.out.x0).2.2.2.2;obtain ⟨A,R,hX⟩:=List.append_of_mem hsX;subst hX;clear hu hb2 huK hsx hsX HJ1 HX1 HB1 HZ1;go_upto_region 12 with fail;clear hlk l4;have hb3:Below w2.heap.size w2 (w2.alloc (.cells (sdArr s) 55)):=(Below.refl _ _).alloc (Nat.le_refl _) _;have HJ3:=hide (HJ2.out.past hb3);have HX3:=hide (hpast HX2.out hb3);have HY3:=hide (heap_alloc_new w2 (.cells (sdArr s) 55));have HB3:=hide (chain HB2.out hb3);have HZ3:Hid ((w2.alloc (.cells (sdArr s) 55)).heap.size=w2.heap.size+1):=hide (by simp);clear hb3 HJ2 HX2 HB2;generalize w2.alloc (.cells (sdArr s) 55)=W3 at HJ3 HX3 HY3 HB3 HZ3 ⊢;obtain ⟨bx,hbx⟩:∃ b,w2.heap.size=b:=⟨_,rfl⟩;rw [hbx] at HY3 HZ3 HZ2 ⊢;clear hbx;obtain ⟨y0,y1,y2,y3,y4,y5,y6,y7,y8,y9,y10,y11,y12,y13,y14⟩:=cells15 HX3.out;have s1:=cellP HY3.out 1 rfl;have hb4:Below W3.heap.size W3 (W3.alloc (.cells (ceArr c) 69)):=(Below.refl _ _).alloc (Nat.le_refl _) _;have HB4:=hide hb4;have OW:Hid ((W3.alloc (.cells (ceArr c) 69)).ownsRow (w.heap.size+1) 69 15 (.slice s.ao s.L.length s.cp) s.L.length (flC s.L)):=hide ((HJ3.out.past hb4).r s (by simp))
     have lS:Hid (s.L.length≤100000):=by
      have e:=HJ3.out.sh.l s (by simp);have h1:=List.length_filter_le (ownB K s.nm) (L.take k);have h2:(L.take k).length≤L.length:=by rw [List.length_take];omega
      have:=HL.out;rw [← e] at h1;exact hide (by omega)
     have hlo:w.heap.size+1≤(W3.alloc (.cells (ceArr c) 69)).heap.size:=Nat.le_trans (Array.getElem?_eq_some_iff.1 HJ3.out.x0).1 hb4.size;have ls:=lS.out;clear hb4;go_wp2_with (at_builtin;refine wpList_append_own_at _ rfl _ _ 36 rfl (w.heap.size+1) 69 i0 (.agg zeroCe) 15 192 Tryz.underlying36 hi hz0 hz1 hz2 rfl (by decide) _ _ _ rfl OW.out ⟨W3.heap.size,0,none⟩ 1 1 (ceL c) rfl rfl ?c1 ?c2 ?c3 ?c4 ?c5 ?_)
     case c1=>exact new_cellsC
     case c2=>exact ceL_one c
     case c3=>unfold maxLen;omega
     case c4=>omega
     case c5=>exact hlo
     intro v' w5 hown hg hnil hloc;obtain ⟨av,cv,rfl⟩:∃ ar cr,v'=.slice ar (s.L.length+1) cr:=own_any hown;clear y0 y1 y2 y3 y4 y5 y6 y7 y8 y9 y10 y11 y12 y13 y14 s1;have hX3s:=(World.ownsRow.lt (HJ.out.r s (by simp)));have hbxw:wr.heap.size≤bx:=by have:=HZ2.out;omega
     have hbx3:bx<(W3.alloc (.cells (ceArr c) 69)).heap.size:=by have:=HZ3.out;simp;omega
     have Y5:w5.heap[bx]?=some (.cells (sdArr s) 55 (0,0)):=(hg.block bx hbx3 (fun e=>by have:=(hX3s bx e.symm).2;omega)).trans (hpast HY3.out HB4.out);have q1:=cellP Y5 1 rfl;have f1:=fzR 1 Y5;have hloc':(Value.slice av (s.L.length+1) cv).ownBlock=(slS s).ownBlock∨(Value.slice av (s.L.length+1) cv).ownBlock=some (W3.alloc (.cells (ceArr c) 69)).heap.size:=by rw [World.size_alloc];exact hloc
     have hgs:=grown_one w5 bx 1 (.slice av (s.L.length+1) cv);have hmb:=HMB.out;have hws:w.heap.size<wr.heap.size:=(Array.getElem?_eq_some_iff.1 HJ.out.x0).1;have mp4:=(HJ3.out.past HB4.out).mp;have mp5:=mp4.kept hg (fun e=>by have:=(hX3s mb e.symm).1;omega);have mp6:=mp5.kept hgs (fun e=>by injection e with e;omega);have Z0:w5.heap[w.heap.size]?=some (.cells (lvArr p mb) 82 (0,0)):=(hg.block w.heap.size (by have:=HJ3.out.past HB4.out;exact (Array.getElem?_eq_some_iff.1 this.x0).1) (fun e=>by have:=(hX3s w.heap.size e.symm).1;omega)).trans (HJ3.out.past HB4.out).x0;have Z6:(w5.setCell ⟨bx,1,none⟩ (.slice av (s.L.length+1) cv)).heap[w.heap.size]?=some (.cells (lvArr p mb) 82 (0,0)):=(hgs.block _ (Array.getElem?_eq_some_iff.1 Z0).1 (fun e=>by injection e with e;omega)).trans Z0;have Y6:=heap_setCell_same w5 bx 1 _ _ (.slice av (s.L.length+1) cv) Y5;have eln:(s.L ++ [c]).length=s.L.length+1:=by simp
     obtain ⟨w7,hrun,hm7,h7⟩:=mp6.put (s:=⟨s.nm,s.L ++ [c],av,cv⟩) rfl (by have:=HzS.out;unfold maxLen;show s.nm.size≤_;omega) (by omega)
     have hrun:(Instr.mapUpdate 80 (.map (some mb)) (.string s.nm) (.agg #[.string s.nm,.slice av (s.L.length+1) cv])).run Tryz.prog (w5.setCell ⟨bx,1,none⟩ (.slice av (s.L.length+1) cv))=.ok () w7:=by
      have h:=hrun;simp only [sdArr,eln] at h;exact h
     have HF:Hid (SrJ w w7 mb (m+1) p (.slice an K.length cn) K L (k+1) (A ++ ⟨s.nm,s.L ++ [c],av,cv⟩ :: R)):=by
      have esl:slS ⟨s.nm,s.L ++ [c],av,cv⟩=.slice av (s.L.length+1) cv:=by show Value.slice _ _ _=_;rw [eln]
      refine hide (HJ.out.step HK.out HMB.out HC.out HU.out (chain HB3.out HB4.out) hbxw hbx3 (t:=⟨s.nm,s.L ++ [c],av,cv⟩) ?_ rfl rfl hg ?_ ?_ hm7)
      ·rw [esl];exact OwnC.mk hown
      ·rw [esl];exact hloc'
      ·rw [esl];exact h7
     clear hown hg hnil hloc hloc' hX3s Y5 hgs mp4 mp5 mp6 Z0 hm7 h7 HJ3 HX3 HY3 HB3 HB4 OW hmb hws;go_upto_region 13 with fail;clear q1 f1;generalize w5.setCell ⟨bx,1,none⟩ (.slice av (s.L.length+1) cv)=w6 at hrun Z6 Y6 ⊢;have l4:=(box5 Z6).2.2.2.2;have b0:=cellP Y6 0 rfl;have b1:=cellP Y6 1 rfl;clear Z6 Y6;go_wp2;go_roundw
     case rel=>exact ⟨k+1,m+1,_,by omega,by first | rfl | go_num,by omega,HF⟩
     case measure=>simp [Go.RowKit.intOf];omega
    ·have hkni2:¬ (k:Int)<(nc:Int):=by omega
     have HF:Hid (SrP w wr mb K L (n+K.length+nc)):=by
      have sh:=HJ.out.sh;rw [List.take_of_length_le (by have:=HL.out;omega)] at sh;exact hide ⟨m,X,by omega,HJ.out.mp,sh,HJ.out.r,HJ.out.rap,HJ.out.g⟩
     clear HJ;go_wp2;exact bodyPost_end (v:=.tuple #[]) (by simp [results,Tryz.results97,go_sem]) rfl ⟨rfl,HF.out⟩
end Go.Proofs.YtmjogablacnlgaaGreatDoor
