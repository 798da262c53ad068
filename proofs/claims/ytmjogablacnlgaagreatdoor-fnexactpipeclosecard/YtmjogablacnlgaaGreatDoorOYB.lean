/-
 copyShard of the program: a shard whose cells are its own.
-/
import Derived.Test.YtmjogablacnlgaaGreatDoorOYA
namespace Go.Proofs.YtmjogablacnlgaaGreatDoor
set_option linter.unusedVariables false
set_option linter.unusedSimpArgs false
open Go.ChangeShapes Go.WideShapes Go.ChangeAt Go.RowKit Go.PlainAid Go.Lib Go.Maps
set_option maxRecDepth 10000
theorem cec_at {w:World} {b o:Nat} {c:Ce} (h:CeCell w b o c):∀ j z,j<15→(ceL c)[j]?=some z→w.cell? ⟨b,o+j,none⟩=some z:=fun j z hj hz=>by
 obtain ⟨x0,x1,x2,x3,x4,x5,x6,x7,x8,x9,x10,x11,x12,x13,x14⟩:=h;have e:(ceL c)[j]?=(ceArr c).toList[j]?:=rfl;rw [e] at hz
 match j,hj with
 | 0,_=>exact x0.trans hz
 | 1,_=>exact x1.trans hz
 | 2,_=>exact x2.trans hz
 | 3,_=>exact x3.trans hz
 | 4,_=>exact x4.trans hz
 | 5,_=>exact x5.trans hz
 | 6,_=>exact x6.trans hz
 | 7,_=>exact x7.trans hz
 | 8,_=>exact x8.trans hz
 | 9,_=>exact x9.trans hz
 | 10,_=>exact x10.trans hz
 | 11,_=>exact x11.trans hz
 | 12,_=>exact x12.trans hz
 | 13,_=>exact x13.trans hz
 | 14,_=>exact x14.trans hz
 | n+15,h=>omega
theorem ces_flat {w:World} {A:Addr} {L:List Ce} (hA:CesAt w (some A) L):∀ j z,(flC L)[j]?=some z→w.cell? (A.add j)=some z:=fun j z hz=>by
 have hj:=(List.getElem?_eq_some_iff.1 hz).1;rw [flC_len] at hj;obtain ⟨b,off,e,hcell⟩:=hA.1 (by omega)
 cases e
 obtain ⟨x,hx⟩:∃ x,L[j / 15]?=some x:=⟨L[j / 15]'(by omega),List.getElem?_eq_getElem (by omega)⟩;have h1:=flC_at L (j / 15) x (j % 15) (by omega) hx;rw [show j / 15*15+j % 15=j by omega,hz] at h1;rw [Addr.add_lit,show off+j=off+j / 15*15+j % 15 by omega];exact cec_at (hcell (j / 15) x hx) (j % 15) z (by omega) h1.symm
set_option maxHeartbeats 2000000 in
theorem c_cloneC {w:World} {ao:Option Addr} {L:List Ce} (c n:Nat) (hn:L.length=n) (hl:n≤1048576) (hA:CesAt w ao L) :
  Calls Tryz.prog 111 #[.slice ao n c] w fun e w'=>∃ v,e=.returned v∧OwnC w' w.heap.size v L∧Below w.heap.size w w':=by
 obtain ⟨i0,hi,hz0,hz1,hz2⟩:=infoCe
 cases ao with
 | none=>
  have h0:n=0:=by
   rcases Nat.eq_zero_or_pos n with h | h
   ·exact h
   ·obtain ⟨b,off,e,_⟩:=hA.1 (by omega);cases e
  subst h0;have hq:=fun W=>Lib.run_eql_slice_nil (P:=Tryz.prog) W 36 69 none 0 c 0 0 Tryz.underlying36;have HN:Hid (L=[]):=hide (List.eq_nil_of_length_eq_zero hn);clear hA hn;go_enter Tryz.func111,Tryz.ntmps111;go_wp2;go_ret;exact ⟨_,rfl,by rw [HN.out];exact OwnC.nil _ _,Below.refl _ _⟩
 | some A=>
  have HCs:=hide (ces_flat hA);have hq:=fun W=>Lib.run_eql_slice_nil (P:=Tryz.prog) W 36 69 (some A) n c 0 0 Tryz.underlying36;have HN:=hide hn;clear hA hn;go_enter Tryz.func111,Tryz.ntmps111;go_wp2_with (at_builtin;refine wpList_append_own _ rfl (.tmp 5) (.tmp 6) 36 rfl w.heap.size 69 i0 (.agg zeroCe) 15 192 Tryz.underlying36 hi hz0 hz1 hz2 rfl (by decide) _ _ _ rfl (World.ownsRow_made _ #[] 0 (Nat.le_refl _) (Nat.zero_le _) rfl) A n c (flC L) rfl (by rw [flC_len,HN.out]) (fun j z hz=>by have:=HCs.out j z hz;exact cell_on this _) (flC_oneC _) (by unfold maxLen;omega) (by omega) (by simp) ?_;intro v1 w1 hown1 hgrow1 hnil1;simp only [Nat.zero_add,List.nil_append] at hown1;have O1:=hide hown1;have B1:=hide (((Below.refl _ _).alloc (Nat.le_refl _) _).grown hgrow1 (by simp) (fun j hj=>by cases hj;exact Nat.le_refl _));clear hown1 hgrow1 hnil1);go_ret;exact ⟨_,rfl,by unfold OwnC;rw [HN.out];exact O1.out,B1.out⟩
structure CsI (w wr:World) (L:List Ce) (k:Nat) (v:Value) (M:List Ce):Prop where
 r:OwnC wr (w.heap.size+2) v M
 o:CesO wr (w.heap.size+2) (M.take k)
 dr:M.drop k=L.drop k
 ky:M.map Ce.key=L.map Ce.key
 b:Below w.heap.size w wr
theorem CsI.len {w wr:World} {L M:List Ce} {k:Nat} {v:Value} (h:CsI w wr L k v M):M.length=L.length:=map_len h.ky
theorem CsI.at {w wr:World} {L M:List Ce} {k:Nat} {v:Value} {c:Ce} (h:CsI w wr L k v M) (hc:L[k]?=some c):M[k]?=some c:=by
 have e:=congrArg List.head? h.dr;rw [List.head?_drop,List.head?_drop] at e;rw [e];exact hc
theorem CsI.set {w wr w6:World} {L M:List Ce} {k g n cp:Nat} {c:Ce} {q:Pl} (h:CsI w wr L k (.slice (some ⟨g,0,none⟩) n cp) M) (hn:M.length=n) (hc:L[k]?=some c) (hz:w.heap.size+2≤wr.heap.size) (hb6:Below wr.heap.size wr w6) (ho:AgO w6 wr.heap.size c.g q) :
  CsI w ((((((((((((((w6.setCell ⟨g,k*15+2,none⟩ (.int .i64 c.g.k)).setCell ⟨g,k*15+3,none⟩ (.int .u64 c.g.s)).setCell ⟨g,k*15+4,none⟩ (.int .i64 c.g.h)).setCell ⟨g,k*15+5,none⟩ (.int .u64 c.g.l)).setCell ⟨g,k*15+6,none⟩ (.int .i64 c.g.a)).setCell ⟨g,k*15+7,none⟩ (.int .i64 c.g.t)).setCell ⟨g,k*15+8,none⟩ (.int .u64 c.g.z)).setCell ⟨g,k*15+9,none⟩ (.slice q.pa c.g.P.length q.pc)).setCell ⟨g,k*15+10,none⟩ (.slice q.na c.g.N.length q.nc)).setCell ⟨g,k*15+11,none⟩ (.int .i64 c.g.x)).setCell ⟨g,k*15+12,none⟩ (.int .u64 c.g.y)).setCell ⟨g,k*15+13,none⟩ (.slice q.ea c.g.E.length q.ec)).setCell ⟨g,k*15+14,none⟩ (.slice q.ra c.g.R.length q.rc))) L (k+1) (.slice (some ⟨g,0,none⟩) n cp) (M.set k ⟨c.n,c.s,c.g,q⟩):=by
 have hd:=h.at hc;obtain ⟨s1,s2⟩:=set_parts (c':=⟨c.n,c.s,c.g,q⟩) hd;have hk:=(List.getElem?_eq_some_iff.1 hd).1;have r6:=h.r.past hb6
 have tk:(M.set k ⟨c.n,c.s,c.g,q⟩).take (k+1)=M.take k ++ [⟨c.n,c.s,c.g,q⟩]:=by
  have l:(M.take k).length=k:=by rw [List.length_take];omega
  rw [s1,List.take_append,List.take_of_length_le (by omega),l,Nat.add_sub_cancel_left]
  rfl
 have hO:CesO w6 (w.heap.size+2) (M.take k ++ [⟨c.n,c.s,c.g,q⟩]):=(h.o.add (c:=⟨c.n,c.s,c.g,q⟩) hb6 hz ho).perm (List.perm_append_singleton _ _).symm;have bw:Below w.heap.size w w6:=chain h.b hb6;have gl:=fun j (hj:(Value.slice (some ⟨g,0,none⟩) n cp).ownBlock=some j)=>(World.ownsRow.lt h.r j hj).1;refine ⟨r6.putAg hn hd,?_,?_,?_,bw.grown (grown13 (g:=g)) bw.size (fun j hj=>Nat.le_trans (Nat.le_add_right _ 2) (gl j hj))⟩
 ·rw [tk];exact hO.row r6 grown13
 ·rw [List.drop_set_of_lt (by omega)]
  have e:=congrArg (List.drop 1) h.dr;rw [List.drop_drop,List.drop_drop] at e
  simpa [Nat.add_comm] using e
 ·rw [← h.ky,s1]
  conv=>rhs;rw [s2]
  simp only [List.map_append,List.map_cons]
  rfl
theorem hpast {w w':World} {r:Nat} {o:Obj} (h:w.heap[r]?=some o) (hb:Below w.heap.size w w'):w'.heap[r]?=some o:=(hb.block r (Array.getElem?_eq_some_iff.1 h).1).trans h
set_option maxHeartbeats 16000000 in
theorem c_copyShard {w:World} (s:Sd) (lN:s.L.length≤1048576) (sm:∀ c∈s.L,AgSm c.g) (pl:∀ c∈s.L,PlG c.g c.p) (hA:CesAt w s.ao s.L) :
  Calls Tryz.prog 89 #[.agg (sdArr s)] w fun e w'=>∃ ao cp M,e=.returned (.agg #[.string s.nm,.slice ao s.L.length cp])∧OwnC w' w.heap.size (.slice ao s.L.length cp) M∧CesO w' w.heap.size M∧M.map Ce.key=s.L.map Ce.key∧Below w.heap.size w w':=by
 have SM:=hide sm;have PL:=hide pl;have HA:=hide hA;have a1:∀ (X:World) o,Below X.heap.size X (X.alloc o):=fun X o=>(Below.refl _ _).alloc (Nat.le_refl _) _;have hz:(w.alloc (.cells (sdArr s) 55)).heap.size=w.heap.size+1:=by simp
 have HR0:=hide (hpast (heap_alloc_new w (.cells (sdArr s) 55)) (a1 _ (.cells #[.string ⟨#[]⟩,.slice none 0 0] 55)));have hr1:=heap_alloc_new (w.alloc (.cells (sdArr s) 55)) (.cells #[.string ⟨#[]⟩,.slice none 0 0] 55);rw [hz] at hr1;have HR1:=hide hr1;have HT0:=hide (chain (a1 w (.cells (sdArr s) 55)) (a1 _ (.cells #[.string ⟨#[]⟩,.slice none 0 0] 55)));have HZ0:Hid (((w.alloc (.cells (sdArr s) 55)).alloc (.cells #[.string ⟨#[]⟩,.slice none 0 0] 55)).heap.size=w.heap.size+2):=hide (by simp);clear sm pl hA a1 hz hr1;go_enter Tryz.func89,Tryz.ntmps89;go_upto_region 1 with fail;generalize (w.alloc (.cells (sdArr s) 55)).alloc (.cells #[.string ⟨#[]⟩,.slice none 0 0] 55)=W0 at HR0 HR1 HT0 HZ0 ⊢;have x1:W0.cell? ⟨w.heap.size,1,none⟩=some (.slice s.ao s.L.length s.cp):=cellKQ HR0.out 1 rfl;go_wp2_with fail;clear x1;refine (c_cloneC s.cp _ rfl lN (ces_past HA.out HT0.out)).mono ?_;rintro e w1 ⟨v1,rfl,ho1,hb1⟩;obtain ⟨ao,cp,ev,_⟩:=ho1.form;subst ev;have Y0:=hide (hpast HR0.out hb1);have Y1:=hide (hpast HR1.out hb1);have HT1:=hide (chain HT0.out hb1);have HZ1:Hid (w.heap.size+2≤w1.heap.size):=hide (by have:=hb1.size;have:=HZ0.out;omega);have ho1':OwnC w1 (w.heap.size+2) (.slice ao s.L.length cp) s.L:=by have:=HZ0.out;rw [← this];exact ho1
 have HO1:=hide ho1';have x1:w1.cell? ⟨w.heap.size,1,none⟩=some (.slice s.ao s.L.length s.cp):=cellKQ Y0.out 1 rfl;have f1:w1.frozen? ⟨w.heap.size,1,none⟩=false:=frozen_of_row w1 _ 1 _ _ Y0.out;clear ho1 ho1' hb1 HR0 HR1 HT0 HZ0;go_upto_region 2 with fail;clear x1 f1;have hg2:=grown_one w1 w.heap.size 1 (.slice ao s.L.length cp)
 have ne:(Value.slice ao s.L.length cp).ownBlock=none∨(Value.slice ao s.L.length cp).ownBlock≠some w.heap.size:=by
  cases q:(Value.slice ao s.L.length cp).ownBlock with
  | none=>exact .inl rfl
  | some j=>exact .inr (fun e=>by have:=(World.ownsRow.lt HO1.out j q).1;injection e with e;omega)
 have HI0:Hid (CsI w (w1.setCell ⟨w.heap.size,1,none⟩ (.slice ao s.L.length cp)) s.L 0 (.slice ao s.L.length cp) s.L):=hide ⟨World.ownsRow.kept HO1.out hg2 ne,by rw [List.take_zero];exact CesO.nil _ _,rfl,rfl,HT1.out.setCell (Nat.le_refl _) _⟩;have Z0:Hid ((w1.setCell ⟨w.heap.size,1,none⟩ (.slice ao s.L.length cp)).heap[w.heap.size]?=some (.cells #[.string s.nm,.slice ao s.L.length cp] 55 (0,0))):=hide (heap_setCell_same w1 w.heap.size 1 _ _ _ Y0.out);have Z1:Hid ((w1.setCell ⟨w.heap.size,1,none⟩ (.slice ao s.L.length cp)).heap[w.heap.size+1]?=some (.cells #[.string ⟨#[]⟩,.slice none 0 0] 55 (0,0))):=hide ((hg2.block (w.heap.size+1) (by have:=HZ1.out;omega) (fun e=>by injection e with e;omega)).trans Y1.out);have HZ2:Hid (w.heap.size+2≤(w1.setCell ⟨w.heap.size,1,none⟩ (.slice ao s.L.length cp)).heap.size):=hide (Nat.le_trans HZ1.out hg2.size);generalize w1.setCell ⟨w.heap.size,1,none⟩ (.slice ao s.L.length cp)=W2 at HI0 Z0 Z1 HZ2 ⊢;clear Y0 Y1 HT1 HZ1 HO1 hg2 ne w1;obtain ⟨n,hn⟩:∃ n,s.L.length=n:=⟨_,rfl⟩;rw [hn] at HI0 Z0 lN ⊢;have HN:=hide hn;clear hn;have x1:W2.cell? ⟨w.heap.size,1,none⟩=some (.slice ao n cp):=cellKQ Z0.out 1 rfl;go_upto_region 3 with fail;clear x1
 go_loopw [11] (fun i wr=>∃ (k:Nat) (M:List Ce),k≤n∧i=.int .i64 k∧Hid (CsI w wr s.L k (.slice ao n cp) M)∧Hid (wr.heap[w.heap.size]?=some (.cells #[.string s.nm,.slice ao n cp] 55 (0,0)))∧Hid (wr.heap[w.heap.size+1]?=some (.cells #[.string ⟨#[]⟩,.slice none 0 0] 55 (0,0)))∧Hid (w.heap.size+2≤wr.heap.size)) (fun i wr=>n - (Go.RowKit.intOf i).toNat)
 case atStart=>exact ⟨0,s.L,Nat.zero_le _,rfl,HI0,Z0,Z1,HZ2⟩
 case round=>
  clear HI0 Z0 Z1 HZ2;obtain ⟨k,M,hk,rfl,HI,Z0,Z1,HZ⟩:=hrel;by_cases hkn:k<n
  ·have hkni:(k:Int)<(n:Int):=by omega
   obtain ⟨c,hc⟩:∃ c,s.L[k]?=some c:=⟨s.L[k]'(by have:=HN.out;omega),List.getElem?_eq_getElem _⟩;have hMn:M.length=n:=HI.out.len.trans HN.out;have HMn:=hide hMn;have hr0:OwnC wr (w.heap.size+2) (.slice ao n cp) M:=HI.out.r;obtain ⟨g,cc,ev⟩:=own_form hr0 (by omega);injection ev with ev1 ev2 ev3;subst ev1;have hr:=hr0;rw [← hMn] at hr;have hcc:=own_cells hr (HI.out.at hc);rw [Nat.zero_add] at hcc;have HCc:=hide hcc;have HC:=hide hc;have HCm:=hide (List.mem_of_getElem? hc);have HLt:=hide (World.ownsRow.lt hr0 g rfl);have hwk:IntKind.i64.wrap ((k:Int)+1)=((k+1:Nat):Int):=by rw [show (k:Int)+1=((k+1:Nat):Int) by omega];exact IntWalk.i64_in _ ⟨by omega,by omega⟩
   have hkN:¬ n≤k:=by omega
   have hcp:n≤cp:=by unfold OwnC at hr0;rw [hMn] at hr0;exact own_cap hr0
   clear hc hMn hr0 hr hcc ev2 ev3;go_upto_region 5 with fail;have HS0:(fun W=>Below wr.heap.size wr W) wr.drew:=(Below.refl _ _).drew;refine regionK (fun W=>Below wr.heap.size wr W) 12 (by kernel_rfl) ?_;refine tkS (i:=0) (v:=.pointer (some ⟨w.heap.size,1,none⟩)) rfl rfl HS0 ?_;refine tkL (i:=1) (v:=.slice (some ⟨g,0,none⟩) n cp) rfl rfl HS0 (fun W hW=>?_) ?_
   ·have z:=cell_past hW (show wr.cell? ⟨w.heap.size,1,none⟩=some (.slice (some ⟨g,0,none⟩) n cp) from cellKQ Z0.out 1 rfl)
    clear hW;go_simp
   refine tkS (i:=2) (v:=.int .i64 (k:Int)) rfl rfl HS0 ?_;simp only [sA,sB,sC];refine tkS (i:=3) (v:=.pointer (some ⟨w.heap.size,1,none⟩)) rfl rfl HS0 ?_;refine tkL (i:=4) (v:=.slice (some ⟨g,0,none⟩) n cp) rfl rfl HS0 (fun W hW=>?_) ?_
   ·have z:=cell_past hW (show wr.cell? ⟨w.heap.size,1,none⟩=some (.slice (some ⟨g,0,none⟩) n cp) from cellKQ Z0.out 1 rfl)
    clear hW;go_simp
   refine tkS (i:=5) (v:=.int .i64 (k:Int)) rfl rfl HS0 ?_;simp only [sA,sB,sC];refine tkL (i:=6) (v:=.pointer (some ⟨g,k*15,none⟩)) rfl rfl HS0 (fun W hW=>?_) ?_
   ·have hkN:¬ n≤k:=by omega
    clear hW;go_simp
   refine tkS (i:=7) (v:=.pointer (some ⟨g,k*15+2,none⟩)) rfl rfl HS0 ?_;refine tkL (i:=8) (v:=.agg (agArr c.g c.p)) rfl rfl HS0 (fun W hW=>?_) ?_
   ·obtain ⟨y0,y1,y2,y3,y4,y5,y6,y7,y8,y9,y10,y11,y12,y13,y14⟩:=cec_past HCc.out hW
    clear hW;go_simp
   simp only [sA,sB,sC];refine onE (i:=9) rfl (fun K hK=>?_);go_simp;refine (c_copyAgg (SM.out c HCm.out) (PL.out c HCm.out) (ag_past (HA.out.2 c HCm.out) (chain HI.out.b (HS0:Below wr.heap.size wr wr.drew)))).mono ?_;rintro e w6 ⟨v,o,rfl,hpt,⟨q,rfl,ho⟩,hb6⟩;subst hpt;have HB6:Hid (Below wr.heap.size wr w6):=(HS0:Below wr.heap.size wr wr.drew).trans (hb6.mono (Nat.le_refl _));have HOG:Hid (AgO w6 wr.heap.size c.g q):=ho;clear ho hb6;dsimp only;refine hK.out _ _ (fun _=>HB6.out) ?_;clear hK K
   try simp only [Act.put,sA,sB,sC]
   refine onE (i:=10) rfl (fun K hK=>?_);go_simp;refine hK.out _ _ (fun _=>HB6.out) ?_;clear hK K
   try simp only [Act.put,sA,sB,sC]
   refine tkS (i:=11) (v:=.pointer (some ⟨g,k*15+2,none⟩)) rfl rfl HB6.out ?_;simp only [sA,sB,sC];have hr6:=HI.out.r.past HB6.out;have hr6:w6.ownsRow (w.heap.size+2) 69 15 (.slice (some ⟨g,0,none⟩) n cp) n (flC M):=by unfold OwnC at hr6;rw [HMn.out] at hr6;exact hr6
   have HR6:=hide hr6;have HF:=hide (HI.out.set HMn.out HC.out HZ.out HB6.out HOG.out);have G13:=hide (grown13 (w:=w6) (g:=g) (i:=k) (o:=c.g) (q:=q));have V0:=hide (hpast Z0.out HB6.out);have V1:=hide (hpast Z1.out HB6.out);have VZ:=hide (Nat.le_trans HZ.out HB6.out.size);obtain ⟨u0,u1,u2,u3,u4,u5,u6,u7,u8,u9,u10,u11,u12,u13,u14⟩:=cec_past HCc.out HB6.out;clear hr6 u0 u1;have f2:=World.ownsRow.frozenAt HR6.out (k*15+2);have f3:=World.ownsRow.frozenAt HR6.out (k*15+3);have f4:=World.ownsRow.frozenAt HR6.out (k*15+4);have f5:=World.ownsRow.frozenAt HR6.out (k*15+5);have f6:=World.ownsRow.frozenAt HR6.out (k*15+6);have f7:=World.ownsRow.frozenAt HR6.out (k*15+7);have f8:=World.ownsRow.frozenAt HR6.out (k*15+8);have f9:=World.ownsRow.frozenAt HR6.out (k*15+9);have f10:=World.ownsRow.frozenAt HR6.out (k*15+10);have f11:=World.ownsRow.frozenAt HR6.out (k*15+11);have f12:=World.ownsRow.frozenAt HR6.out (k*15+12);have f13:=World.ownsRow.frozenAt HR6.out (k*15+13);have f14:=World.ownsRow.frozenAt HR6.out (k*15+14);refine onE (i:=12) rfl (fun K hK=>?_);go_simp;clear u2 f2 u3 f3 u4 f4 u5 f5 u6 f6 u7 f7 u8 f8 u9 f9 u10 f10 u11 f11 u12 f12 u13 f13 u14 f14;refine hK.out _ _ (fun h=>absurd rfl h) ?_;clear hK K
   try simp only [Act.put,sA,sB,sC]
   refine doneK (by kernel_rfl) ?_ _;have U0:=hide ((G13.out.block w.heap.size (Array.getElem?_eq_some_iff.1 V0.out).1 (fun e=>by injection e with e;have:=HLt.out.1;omega)).trans V0.out);have U1:=hide ((G13.out.block (w.heap.size+1) (Array.getElem?_eq_some_iff.1 V1.out).1 (fun e=>by injection e with e;have:=HLt.out.1;omega)).trans V1.out);have UZ:=hide (Nat.le_trans VZ.out G13.out.size);clear G13 V0 V1 VZ HR6;go_wp2;go_roundw
   case rel=>exact ⟨k+1,_,by omega,by first | rfl | go_num,HF,U0,U1,UZ⟩
   case measure=>simp [Go.RowKit.intOf];omega
  ·have hkni:¬ (k:Int)<(n:Int):=by omega
   obtain rfl:k=n:=by omega
   have x0:wr.cell? ⟨w.heap.size,0,none⟩=some (.string s.nm):=cellKQ Z0.out 0 rfl;have x1:wr.cell? ⟨w.heap.size,1,none⟩=some (.slice ao k cp):=cellKQ Z0.out 1 rfl;have y0:wr.cell? ⟨w.heap.size+1,0,none⟩=some (.string ⟨#[]⟩):=cellKQ Z1.out 0 rfl;have y1:wr.cell? ⟨w.heap.size+1,1,none⟩=some (.slice none 0 0):=cellKQ Z1.out 1 rfl;have f0:=fzR 0 Z1.out;have f1:=fzR 1 Z1.out;go_wp2_with fail;clear x0 x1 y0 y1 f0 f1;have hA0:=heap_setCell_same wr (w.heap.size+1) 0 _ _ (.string s.nm) Z1.out;have hA1:=heap_setCell_same _ (w.heap.size+1) 1 _ _ (.slice ao k cp) hA0;have q0:((wr.setCell ⟨w.heap.size+1,0,none⟩ (.string s.nm)).setCell ⟨w.heap.size+1,1,none⟩ (.slice ao k cp)).cell? ⟨w.heap.size+1,0,none⟩=some (.string s.nm):=cellKQ hA1 0 rfl;have q1:((wr.setCell ⟨w.heap.size+1,0,none⟩ (.string s.nm)).setCell ⟨w.heap.size+1,1,none⟩ (.slice ao k cp)).cell? ⟨w.heap.size+1,1,none⟩=some (.slice ao k cp):=cellKQ hA1 1 rfl;have G2:wr.grownBy ((wr.setCell ⟨w.heap.size+1,0,none⟩ (.string s.nm)).setCell ⟨w.heap.size+1,1,none⟩ (.slice ao k cp)) (some (w.heap.size+1)):=(grown_one _ _ _ _).trans (grown_one _ _ _ _);have hO:OwnC wr (w.heap.size+2) (.slice ao k cp) M:=HI.out.r;have hC:=HI.out.o;rw [List.take_of_length_le (by rw [HI.out.len,HN.out];omega)] at hC
   have ne:(Value.slice ao k cp).ownBlock=none∨(Value.slice ao k cp).ownBlock≠some (w.heap.size+1):=by
    cases q:(Value.slice ao k cp).ownBlock with
    | none=>exact .inl rfl
    | some j=>exact .inr (fun e=>by have:=(World.ownsRow.lt hO j q).1;injection e with e;omega)
   have hO2:=(World.ownsRow.kept hO G2 ne);have hC2:=hC.grown G2 (by omega);have hB2:=HI.out.b.grown G2 HI.out.b.size (fun j hj=>by injection hj with hj;omega);exact bodyPost_ret (v:=.agg #[.string s.nm,.slice ao k cp]) (by simp [results,Tryz.results89,go_sem,q0,q1]) rfl ⟨ao,cp,by rw [HN.out],M,by rw [HN.out];exact OwnC.le (B:=w.heap.size+2) hO2 (Nat.le_add_right _ _),hC2.le (Nat.le_add_right _ _),HI.out.ky,hB2⟩
def rS:Value→Option (DataW Value×List MemPlace)
 | .agg cs=>some (.held (.agg cs),[])
 | _=>none
theorem rS_inv {v:Value} {y:DataW Value×List MemPlace} (h:rS v=some y):∃ cs,v=.agg cs:=by
 cases v <;> simp [rS] at h
 exact ⟨_,rfl⟩
abbrev heldS (s:Sd):DataW Value:=.held (.agg (sdArr s))
theorem litT_inj {a b:ByteArray} (h:litT a=litT b):a=b:=by
 unfold litT at h;injection h with h;exact toL_inj h
theorem litT_is (a:ByteArray):WideAt.IsKeyLit (litT a):=trivial
theorem lawSh:Keyed Tryz.prog 9:=string_keyed Tryz.underlying9
theorem keySh {x:ByteArray} (h:x.size≤maxLen):keyOf Tryz.prog 9 (.string x)=some (litT x):=Go.WideMaps.keyOf_string_mk Tryz.underlying9 h
structure HoldsS (D:DataW Value) (L:List Sd):Prop where
 ap:L.Pairwise (fun s t=>s.nm≠t.nm)
 val:∀ s∈L,∀ z,D.atKey (litT s.nm) z=heldS s
 only:∀ u:ByteArray,Maps.has D (litT u)=true→∃ s∈L,s.nm=u
 sz:Maps.size D=L.length
theorem HoldsS.nil:HoldsS (.map []) []:=⟨.nil,by simp,(fun n h=>by simp [Maps.has] at h),rfl⟩
theorem HoldsS.perm {D:DataW Value} {L M:List Sd} (h:HoldsS D L) (p:L.Perm M):HoldsS D M:=
 ⟨(p.pairwise_iff (fun {a b} (q:a.nm≠b.nm)=>fun e=>q e.symm)).1 h.ap,fun c hc=>h.val c (p.mem_iff.2 hc),fun n q=>by
  obtain ⟨c,hc,e⟩:=h.only n q;exact ⟨c,p.mem_iff.1 hc,e⟩,h.sz.trans p.length_eq⟩
theorem HoldsS.none {D:DataW Value} {L:List Sd} (h:HoldsS D L) {u:ByteArray} (hn:∀ d∈L,d.nm≠u):Maps.has D (litT u)=false:=by
 cases q:Maps.has D (litT u)
 ·rfl
 ·obtain ⟨c,hc,e⟩:=h.only u q
  exact absurd e (hn c hc)
theorem HoldsS.some {D:DataW Value} {L:List Sd} (h:HoldsS D L) {s:Sd} (hs:s∈L):Maps.has D (litT s.nm)=true:=Maps.has_true_of_atKey (h.val s hs)
theorem HoldsS.put_new {D:DataW Value} {L:List Sd} (h:HoldsS D L) (t:Tidy D) {s:Sd} (hn:∀ d∈L,d.nm≠s.nm):HoldsS (D.put (litT s.nm) (heldS s)) (L ++ [s]):=by
 have hh:=h.none hn;refine ⟨List.pairwise_append.2 ⟨h.ap,List.pairwise_singleton _ _,fun a ha b hb=>by simp at hb;subst hb;exact hn a ha⟩,fun d hd z=>?_,fun u q=>?_,?_⟩
 ·rcases List.mem_append.1 hd with hd | hd
  ·rw [atKey_put_other (fun e=>hn d hd (litT_inj e))];exact h.val d hd z
  ·simp at hd
   subst hd;exact atKey_put_same t.isMap (litT_is _) _ z
 ·by_cases e:litT u=litT s.nm
  ·exact ⟨s,by simp,(litT_inj e).symm⟩
  ·rw [has_put_other e] at q
   obtain ⟨d,hd,e2⟩:=h.only u q;exact ⟨d,List.mem_append_left _ hd,e2⟩
 ·rw [size_put t,hh,List.length_append];simp [h.sz]
def MpS (w:World) (b n:Nat) (L:List Sd):Prop:=∃ D:DataW Value,w.ownsMap Tryz.prog 9 rS b n D∧HoldsS D L
theorem MpS.kept {w w':World} {b n:Nat} {L:List Sd} (h:MpS w b n L) {row:Option Nat} (hg:w.grownBy w' row) (hne:Option.some b≠row):MpS w' b n L:=by
 obtain ⟨D,h1,h2⟩:=h;exact ⟨D,h1.kept hg hne,h2⟩
theorem MpS.lt {w:World} {b n:Nat} {L:List Sd} (h:MpS w b n L):b<w.heap.size:=by
 obtain ⟨D,h1,h2⟩:=h;exact h1.lt
theorem MpS.past {w w':World} {b n:Nat} {L:List Sd} (h:MpS w b n L) (hb:Below w.heap.size w w'):MpS w' b n L:=h.kept (row:=Option.none) ⟨hb.os,hb.tape,hb.output,hb.size,fun i hi _=>hb.block i hi⟩ (by simp)
theorem MpS.made (w:World):MpS (w.alloc (.map #[] 0)) w.heap.size 0 []:=⟨_,World.ownsMap_made _ _ _ _,HoldsS.nil⟩
structure RgS (D:DataW Value) (left:Lit→Bool) (L M R:List Sd):Prop where
 p:(M ++ R).Perm L
 no:∀ c∈M,left (litT c.nm)=false
 yes:∀ c∈R,left (litT c.nm)=true
abbrev slS (s:Sd):Value:=.slice s.ao s.L.length s.cp
structure LvO (w:World) (B:Nat) (M:List Sd):Prop where
 r:∀ s∈M,OwnC w B (slS s) s.L
 rap:M.Pairwise (fun s t=>ApV (slS s) (slS t))
 o:CesO w B (allC M)
theorem allC_app (A B:List Sd):allC (A ++ B)=allC A ++ allC B:=by simp [allC]
theorem allC_one (s:Sd):allC [s]=s.L:=by simp [allC]
theorem LvO.nil (w:World) (B:Nat):LvO w B []:=⟨by simp,.nil,CesO.nil _ _⟩
theorem LvO.past {w w':World} {B:Nat} {M:List Sd} (h:LvO w B M) (hb:Below w.heap.size w w'):LvO w' B M:=⟨fun s hs=>(h.r s hs).past hb,h.rap,h.o.past hb⟩
theorem own_far {w:World} {B j:Nat} {v:Value} {L:List Ce} (h:OwnC w B v L) (hj:j<B):v.ownBlock=none∨v.ownBlock≠some j:=by
 cases q:v.ownBlock with
 | none=>exact .inl rfl
 | some k=>exact .inr (fun e=>by have:=(World.ownsRow.lt h k q).1;injection e with e;omega)
theorem LvO.grown {w w':World} {B j:Nat} {M:List Sd} (h:LvO w B M) (hg:w.grownBy w' (some j)) (hj:j<B):LvO w' B M:=
 ⟨fun s hs=>World.ownsRow.kept (h.r s hs) hg (own_far (h.r s hs) hj),h.rap,h.o.grown hg hj⟩
theorem LvO.add {w w':World} {B:Nat} {M:List Sd} {t:Sd} (h:LvO w B M) (hb:Below w.heap.size w w') (hB:B≤w.heap.size) (hr:OwnC w' w.heap.size (slS t) t.L) (ho:CesO w' w.heap.size t.L):LvO w' B (M ++ [t]):=by
 refine ⟨fun s hs=>?_,List.pairwise_append.2 ⟨h.rap,List.pairwise_singleton _ _,fun a ha b hb'=>?_⟩,?_⟩
 ·rcases List.mem_append.1 hs with hs | hs
  ·exact (h.r s hs).past hb
  ·simp at hs
   subst hs;exact hr.le hB
 ·simp at hb'
  subst hb';intro k h1 h2;have l1:=(World.ownsRow.lt (h.r a ha) k h1).2;have l2:=(World.ownsRow.lt hr k h2).1;omega
 ·rw [allC_app,allC_one]
  exact h.o.app hb hB ho
theorem mapMadeS (w:World):(Instr.makeMap 80 none).run Tryz.prog w=.ok (.map (some w.heap.size)) (w.alloc (.map #[] 0)):=by
 have h:=Tryz.underlying80;simp [Instr.makeMap,h]
structure LvP (w w':World) (S:List Sd) (k mb Bm:Nat) (M:List Sd):Prop where
 mp:MpS w' mb k M
 o:LvO w' Bm M
 ky:M.map Sd.key=(S.take k).map Sd.key
 lt:mb<Bm
 le:w.heap.size≤mb
 bm:Bm≤w'.heap.size
 b:Below w.heap.size w w'
theorem LvP.past {w wr w':World} {S:List Sd} {k mb Bm:Nat} {M:List Sd} (h:LvP w wr S k mb Bm M) (hb:Below wr.heap.size wr w'):LvP w w' S k mb Bm M:=
 ⟨h.mp.past hb,h.o.past hb,h.ky,h.lt,h.le,Nat.le_trans h.bm hb.size,chain h.b hb⟩
theorem key_take {S M:List Sd} {k:Nat} {s t:Sd} (h:M.map Sd.key=(S.take k).map Sd.key) (hs:S[k]?=some s) (e:t.key=s.key):(M ++ [t]).map Sd.key=(S.take (k+1)).map Sd.key:=by
 rw [List.take_add_one,hs,List.map_append,List.map_append,h];simp [e]
set_option maxHeartbeats 16000000 in
theorem c_liveOf {w:World} {ao:Option Addr} {N ca:Nat} {S:List Sd} (p:Pi) (hN:S.length=N) (lN:N≤1000) (lL:∀ s∈S,s.L.length≤1048576) (sm:∀ s∈S,∀ c∈s.L,AgSm c.g) (pl:∀ s∈S,∀ c∈s.L,PlG c.g c.p) (nz:∀ s∈S,s.nm.size≤maxLen) (ap:S.Pairwise (fun s t=>s.nm≠t.nm)) (hA:SdsAt w ao S) :
  Calls Tryz.prog 49 #[.agg (piArr (.slice ao N ca) p)] w fun e w'=>∃ mb,e=.returned (.agg #[.int .i64 p.a,.int .i64 p.b,.int .i64 p.c,.int .i64 p.d,.map (some mb)])∧∃ Bm M,LvP w w' S N mb Bm M:=by
 have HN:=hide hN;have LL:=hide lL;have SM:=hide sm;have PL:=hide pl;have NZ:=hide nz;have AP:=hide ap;have HA:=hide hA;have a1:∀ (X:World) o,Below X.heap.size X (X.alloc o):=fun X o=>(Below.refl _ _).alloc (Nat.le_refl _) _;have hz:(w.alloc (.cells (piArr (.slice ao N ca) p) 29)).heap.size=w.heap.size+1:=by simp
 have HR0:=hide (hpast (heap_alloc_new w (.cells (piArr (.slice ao N ca) p) 29)) (a1 _ (.cells #[.int .i64 0,.int .i64 0,.int .i64 0,.int .i64 0,.map none] 82)));have hr1:=heap_alloc_new (w.alloc (.cells (piArr (.slice ao N ca) p) 29)) (.cells #[.int .i64 0,.int .i64 0,.int .i64 0,.int .i64 0,.map none] 82);rw [hz] at hr1;have HR1:=hide hr1;have HT0:=hide (chain (a1 w (.cells (piArr (.slice ao N ca) p) 29)) (a1 _ (.cells #[.int .i64 0,.int .i64 0,.int .i64 0,.int .i64 0,.map none] 82)));have HZ0:Hid (((w.alloc (.cells (piArr (.slice ao N ca) p) 29)).alloc (.cells #[.int .i64 0,.int .i64 0,.int .i64 0,.int .i64 0,.map none] 82)).heap.size=w.heap.size+2):=hide (by simp);clear hN lL sm pl nz ap hA a1 hz hr1;go_enter Tryz.func49,Tryz.ntmps49;go_upto_region 1 with fail;generalize (w.alloc (.cells (piArr (.slice ao N ca) p) 29)).alloc (.cells #[.int .i64 0,.int .i64 0,.int .i64 0,.int .i64 0,.map none] 82)=W0 at HR0 HR1 HT0 HZ0 ⊢;have r0:=cellKQ HR0.out 0 rfl;have r1:=cellKQ HR0.out 1 rfl;have r2:=cellKQ HR0.out 2 rfl;have r3:=cellKQ HR0.out 3 rfl;have r4:=cellKQ HR0.out 4 rfl;go_wp2_with fail;clear r0 r1 r2 r3 r4;refine (c_clockOf _ ao N ca rfl p.a p.b p.c p.d _).mono ?_;rintro e w1 ⟨rfl,hb1⟩;have Y0:=hide (hpast HR0.out hb1);have Y1:=hide (hpast HR1.out hb1);have HT1:=hide (chain HT0.out hb1);have HZ1:Hid (w.heap.size+2≤w1.heap.size):=hide (by have:=hb1.size;have:=HZ0.out;omega);clear hb1 HR0 HR1 HT0 HZ0;have hmm:=mapMadeS;go_upto_region 2 with fail;clear hmm;have a1:∀ (X:World) o,Below X.heap.size X (X.alloc o):=fun X o=>(Below.refl _ _).alloc (Nat.le_refl _) _;have b2:∀ o,Below w1.heap.size w1 ((w1.alloc (.map #[] 0)).alloc o):=fun o=>chain (a1 _ _) (a1 _ _);obtain ⟨mb,hmb⟩:∃ mb,w1.heap.size=mb:=⟨_,rfl⟩;have hzz:(w1.alloc (.map #[] 0)).heap.size=mb+1:=by rw [← hmb];simp
 rw [hmb]
 have X3:Hid (((w1.alloc (.map #[] 0)).alloc (.cells #[.int .i64 p.a,.int .i64 p.b,.int .i64 p.c,.int .i64 p.d,.map (some mb)] 82)).heap[mb+1]?=some (.cells #[.int .i64 p.a,.int .i64 p.b,.int .i64 p.c,.int .i64 p.d,.map (some mb)] 82 (0,0))):=by
  have q:=heap_alloc_new (w1.alloc (.map #[] 0)) (.cells #[.int .i64 p.a,.int .i64 p.b,.int .i64 p.c,.int .i64 p.d,.map (some mb)] 82);rw [hzz] at q;exact q
 have Y0b:=hide (hpast Y0.out (b2 (.cells #[.int .i64 p.a,.int .i64 p.b,.int .i64 p.c,.int .i64 p.d,.map (some mb)] 82)));have Y1b:=hide (hpast Y1.out (b2 (.cells #[.int .i64 p.a,.int .i64 p.b,.int .i64 p.c,.int .i64 p.d,.map (some mb)] 82)))
 have HI0:Hid (LvP w ((w1.alloc (.map #[] 0)).alloc (.cells #[.int .i64 p.a,.int .i64 p.b,.int .i64 p.c,.int .i64 p.d,.map (some mb)] 82)) S 0 mb (mb+2) []):=by
  have m0:=(MpS.made w1).past (a1 _ (.cells #[.int .i64 p.a,.int .i64 p.b,.int .i64 p.c,.int .i64 p.d,.map (some mb)] 82));rw [hmb] at m0;exact hide ⟨m0,LvO.nil _ _,by simp,by omega,by have:=HZ1.out;omega,by rw [World.size_alloc,hzz];omega,chain HT1.out (b2 _)⟩
 have hmz:w.heap.size+2≤mb:=by have:=HZ1.out;omega
 generalize (w1.alloc (.map #[] 0)).alloc (.cells #[.int .i64 p.a,.int .i64 p.b,.int .i64 p.c,.int .i64 p.d,.map (some mb)] 82)=W3 at X3 Y0b Y1b HI0 ⊢;clear Y0 Y1 HT1 HZ1 a1 b2 hzz hmb w1;have r0:W3.cell? ⟨w.heap.size,0,none⟩=some (.slice ao N ca):=cellKQ Y0b.out 0 rfl;go_upto_region 3 with fail;clear r0 Y0b
 go_loopw [13] (fun i wr=>∃ (k:Nat) (M:List Sd),k≤N∧i=.int .i64 k∧Hid (LvP w wr S k mb (mb+2) M)∧Hid (wr.heap[mb+1]?=some (.cells #[.int .i64 p.a,.int .i64 p.b,.int .i64 p.c,.int .i64 p.d,.map (some mb)] 82 (0,0)))∧Hid (wr.heap[w.heap.size+1]?=some (.cells #[.int .i64 0,.int .i64 0,.int .i64 0,.int .i64 0,.map none] 82 (0,0)))) (fun i wr=>N - (Go.RowKit.intOf i).toNat)
 case atStart=>exact ⟨0,[],Nat.zero_le _,rfl,HI0,X3,Y1b⟩
 case round=>
  clear HI0 X3 Y1b;obtain ⟨k,M,hk,rfl,HI,X3,Y1⟩:=hrel;by_cases hkn:k<N
  ·have hkni:(k:Int)<(N:Int):=by omega
   obtain ⟨b,off,e,hcell⟩:=HA.out.1 (by have:=HN.out;omega);subst e;obtain ⟨s,hs⟩:∃ s,S[k]?=some s:=⟨S[k]'(by have:=HN.out;omega),List.getElem?_eq_getElem _⟩;obtain ⟨x0,x1⟩:=sdc_past (hcell k s hs) HI.out.b;have HS:=hide hs;have HSm:=hide (List.mem_of_getElem? hs);have hwk:IntKind.i64.wrap ((k:Int)+1)=((k+1:Nat):Int):=by rw [show (k:Int)+1=((k+1:Nat):Int) by omega];exact IntWalk.i64_in _ ⟨by omega,by omega⟩
   clear hcell hs;go_upto_region 5 with fail;clear x0 x1;have al:Below wr.heap.size wr (wr.alloc (.cells (sdArr s) 55)):=(Below.refl _ _).alloc (Nat.le_refl _) _;have HY0:Hid ((wr.alloc (.cells (sdArr s) 55)).cell? ⟨wr.heap.size,0,none⟩=some (.string s.nm)):=hide (cellKQ (heap_alloc_new wr (.cells (sdArr s) 55)) 0 rfl);have HY1:Hid ((wr.alloc (.cells (sdArr s) 55)).cell? ⟨wr.heap.size,1,none⟩=some (.slice s.ao s.L.length s.cp)):=hide (cellKQ (heap_alloc_new wr (.cells (sdArr s) 55)) 1 rfl);have HI4:=hide (HI.out.past al);have X4:=hide (hpast X3.out al);have Y4:=hide (hpast Y1.out al);clear al HI X3 Y1;generalize wr.alloc (.cells (sdArr s) 55)=W4 at HY0 HY1 HI4 X4 Y4 ⊢;generalize wr.heap.size=sb at HY0 HY1 ⊢;clear wr
   have HML:Hid (M.length=k):=by
    have:=congrArg List.length HI4.out.ky;simp only [List.length_map,List.length_take] at this;have:=HN.out;exact hide (by omega)
   have HS0:(fun W=>Below W4.heap.size W4 W) W4.drew:=(Below.refl _ _).drew;refine regionK (fun W=>Below W4.heap.size W4 W) 6 (by kernel_rfl) ?_;refine tkS (i:=0) (v:=.pointer (some ⟨mb+1,4,none⟩)) rfl rfl HS0 ?_;refine tkL (i:=1) (v:=.map (some mb)) rfl rfl HS0 (fun W hW=>?_) ?_
   ·have z:=cell_past hW (show W4.cell? ⟨mb+1,4,none⟩=some (.map (some mb)) from cellKQ X4.out 4 rfl)
    clear hW;go_simp
   refine tkS (i:=2) (v:=.pointer (some ⟨sb,0,none⟩)) rfl rfl HS0 ?_;simp only [sA,sB,sC];refine tkL (i:=3) (v:=.string s.nm) rfl rfl HS0 (fun W hW=>?_) ?_
   ·have z:=cell_past hW HY0.out
    clear hW;go_simp
   refine tkL (i:=4) (v:=.agg (sdArr s)) rfl rfl HS0 (fun W hW=>?_) ?_
   ·have z0:=cell_past hW HY0.out
    have z1:=cell_past hW HY1.out;clear hW;go_simp
   simp only [sA,sB,sC];refine onE (i:=5) rfl (fun K hK=>?_);go_simp;refine (c_copyShard s (LL.out s HSm.out) (SM.out s HSm.out) (PL.out s HSm.out) (ces_past (HA.out.2 s HSm.out) (chain HI4.out.b (HS0:Below W4.heap.size W4 W4.drew)))).mono ?_;rintro e w6 ⟨bo,cp,M6,rfl,ho6,hc6,hk6,hb6⟩;have HB6:Hid (Below W4.heap.size W4 w6):=(HS0:Below W4.heap.size W4 W4.drew).trans (hb6.mono (Nat.le_refl _));have hl6:M6.length=s.L.length:=map_len hk6;have HO6:Hid (OwnC w6 W4.heap.size (.slice bo s.L.length cp) M6):=ho6;have HC6:Hid (CesO w6 W4.heap.size M6):=hc6;have HK6:=hide hk6;have HL6:=hide hl6;clear ho6 hc6 hk6 hb6 hl6;dsimp only;refine hK.out _ _ (fun _=>HB6.out) ?_;clear hK K
   try simp only [Act.put,sA,sB,sC]
   obtain ⟨D,hD,hHo⟩:=HI4.out.mp.past HB6.out;have HHo:=hide hHo;have HD:=hide hD;obtain ⟨w9,hrun,r1,r2⟩:=hD.update lawSh Tryz.underlying80 (by unfold maxLen;omega) (keySh (NZ.out s HSm.out)) (show rS (.agg #[.string s.nm,.slice bo s.L.length cp])=some (.held (.agg #[.string s.nm,.slice bo s.L.length cp]),[]) from rfl);have RO:=hide r1;have RG:=hide r2;clear hD hHo r1 r2;refine onE (i:=6) rfl (fun K hK=>?_);go_simp;refine hK.out _ _ (fun h=>absurd rfl h) ?_;clear hK K hrun
   try simp only [Act.put,sA,sB,sC]
   refine doneK (by kernel_rfl) ?_ _
   have NN:∀ d∈M,d.nm≠s.nm:=fun d hd e=>by
    obtain ⟨q,hq,e1,_⟩:=sds_mem HI4.out.ky hd;obtain ⟨j,hj,rfl⟩:=List.mem_iff_getElem.1 hq;rw [List.length_take] at hj;have h1:S[j]?=some (S.take k)[j]:=by rw [List.getElem_take,List.getElem?_eq_getElem]
    have pw:=List.pairwise_iff_getElem.1 AP.out j k (by omega) (List.getElem?_eq_some_iff.1 HS.out).1 (by omega);rw [(List.getElem?_eq_some_iff.1 HS.out).2] at pw;rw [List.getElem_take] at e1;exact pw (e1.symm.trans e)
   have HI9:Hid (LvP w w9 S (k+1) mb (mb+2) (M ++ [⟨s.nm,M6,bo,cp⟩])):=by
    have e6:=HL6.out;have hsv:(sdArr ⟨s.nm,M6,bo,cp⟩:Array Value)=#[.string s.nm,.slice bo s.L.length cp]:=by show #[_,_]=_;rw [← e6]
    have hp:=HHo.out.put_new (HD.out.tidy lawSh) (s:=⟨s.nm,M6,bo,cp⟩) NN;have ro:=RO.out;have hO6:OwnC w6 W4.heap.size (slS ⟨s.nm,M6,bo,cp⟩) M6:=by show OwnC _ _ (.slice bo M6.length cp) _;rw [e6];exact HO6.out
    have lo:=(HI4.out.o.add (t:=⟨s.nm,M6,bo,cp⟩) HB6.out HI4.out.bm hO6 HC6.out).grown RG.out (by omega);refine hide ⟨⟨_,ro,?_⟩,lo,key_take HI4.out.ky HS.out ?_,HI4.out.lt,HI4.out.le,Nat.le_trans (Nat.le_trans HI4.out.bm HB6.out.size) RG.out.size,(chain HI4.out.b HB6.out).grown RG.out (chain HI4.out.b HB6.out).size (fun j hj=>by cases hj;exact HI4.out.le)⟩
    ·have hp2:HoldsS (D.put (litT s.nm) (.held (.agg (sdArr ⟨s.nm,M6,bo,cp⟩)))) (M ++ [⟨s.nm,M6,bo,cp⟩]):=hp
     rw [hsv] at hp2;exact hp2
    ·show (s.nm,M6.map Ce.key)=s.key
     rw [HK6.out];rfl
   have X9:=hide ((RG.out.block (mb+1) (by have:=HI4.out.bm;have:=HB6.out.size;omega) (fun e=>by injection e with e;omega)).trans (hpast X4.out HB6.out));have Y9:=hide ((RG.out.block (w.heap.size+1) (by have:=HI4.out.bm;have:=HB6.out.size;omega) (fun e=>by injection e with e;omega)).trans (hpast Y4.out HB6.out));clear NN HHo HD RO RG HI4 X4 Y4;go_wp2;go_roundw
   case rel=>exact ⟨k+1,_,by omega,by first | rfl | go_num,HI9,X9,Y9⟩
   case measure=>simp [Go.RowKit.intOf];omega
  ·have hkni:¬ (k:Int)<(N:Int):=by omega
   obtain rfl:k=N:=by omega
   have x0:=cellKQ X3.out 0 rfl;have y0:=cellKQ Y1.out 0 rfl;have f0:=fzR 0 Y1.out;have x1:=cellKQ X3.out 1 rfl;have y1:=cellKQ Y1.out 1 rfl;have f1:=fzR 1 Y1.out;have x2:=cellKQ X3.out 2 rfl;have y2:=cellKQ Y1.out 2 rfl;have f2:=fzR 2 Y1.out;have x3:=cellKQ X3.out 3 rfl;have y3:=cellKQ Y1.out 3 rfl;have f3:=fzR 3 Y1.out;have x4:=cellKQ X3.out 4 rfl;have y4:=cellKQ Y1.out 4 rfl;have f4:=fzR 4 Y1.out;go_wp2_with fail;clear x0 y0 f0 x1 y1 f1 x2 y2 f2 x3 y3 f3 x4 y4 f4;have h0:=heap_setCell_same wr (w.heap.size+1) 0 _ _ (.int .i64 p.a) Y1.out;have h1:=heap_setCell_same _ (w.heap.size+1) 1 _ _ (.int .i64 p.b) h0;have h2:=heap_setCell_same _ (w.heap.size+1) 2 _ _ (.int .i64 p.c) h1;have h3:=heap_setCell_same _ (w.heap.size+1) 3 _ _ (.int .i64 p.d) h2;have h4:=heap_setCell_same _ (w.heap.size+1) 4 _ _ (.map (some mb)) h3;have q0:(((((wr.setCell ⟨w.heap.size+1,0,none⟩ (.int .i64 p.a)).setCell ⟨w.heap.size+1,1,none⟩ (.int .i64 p.b)).setCell ⟨w.heap.size+1,2,none⟩ (.int .i64 p.c)).setCell ⟨w.heap.size+1,3,none⟩ (.int .i64 p.d)).setCell ⟨w.heap.size+1,4,none⟩ (.map (some mb))).cell? ⟨w.heap.size+1,0,none⟩=some (.int .i64 p.a):=cellKQ h4 0 rfl;have q1:(((((wr.setCell ⟨w.heap.size+1,0,none⟩ (.int .i64 p.a)).setCell ⟨w.heap.size+1,1,none⟩ (.int .i64 p.b)).setCell ⟨w.heap.size+1,2,none⟩ (.int .i64 p.c)).setCell ⟨w.heap.size+1,3,none⟩ (.int .i64 p.d)).setCell ⟨w.heap.size+1,4,none⟩ (.map (some mb))).cell? ⟨w.heap.size+1,1,none⟩=some (.int .i64 p.b):=cellKQ h4 1 rfl;have q2:(((((wr.setCell ⟨w.heap.size+1,0,none⟩ (.int .i64 p.a)).setCell ⟨w.heap.size+1,1,none⟩ (.int .i64 p.b)).setCell ⟨w.heap.size+1,2,none⟩ (.int .i64 p.c)).setCell ⟨w.heap.size+1,3,none⟩ (.int .i64 p.d)).setCell ⟨w.heap.size+1,4,none⟩ (.map (some mb))).cell? ⟨w.heap.size+1,2,none⟩=some (.int .i64 p.c):=cellKQ h4 2 rfl;have q3:(((((wr.setCell ⟨w.heap.size+1,0,none⟩ (.int .i64 p.a)).setCell ⟨w.heap.size+1,1,none⟩ (.int .i64 p.b)).setCell ⟨w.heap.size+1,2,none⟩ (.int .i64 p.c)).setCell ⟨w.heap.size+1,3,none⟩ (.int .i64 p.d)).setCell ⟨w.heap.size+1,4,none⟩ (.map (some mb))).cell? ⟨w.heap.size+1,3,none⟩=some (.int .i64 p.d):=cellKQ h4 3 rfl;have q4:(((((wr.setCell ⟨w.heap.size+1,0,none⟩ (.int .i64 p.a)).setCell ⟨w.heap.size+1,1,none⟩ (.int .i64 p.b)).setCell ⟨w.heap.size+1,2,none⟩ (.int .i64 p.c)).setCell ⟨w.heap.size+1,3,none⟩ (.int .i64 p.d)).setCell ⟨w.heap.size+1,4,none⟩ (.map (some mb))).cell? ⟨w.heap.size+1,4,none⟩=some (.map (some mb)):=cellKQ h4 4 rfl;have G5:wr.grownBy (((((wr.setCell ⟨w.heap.size+1,0,none⟩ (.int .i64 p.a)).setCell ⟨w.heap.size+1,1,none⟩ (.int .i64 p.b)).setCell ⟨w.heap.size+1,2,none⟩ (.int .i64 p.c)).setCell ⟨w.heap.size+1,3,none⟩ (.int .i64 p.d)).setCell ⟨w.heap.size+1,4,none⟩ (.map (some mb))) (some (w.heap.size+1)):=((((grown_one _ _ _ _).trans (grown_one _ _ _ _)).trans (grown_one _ _ _ _)).trans (grown_one _ _ _ _)).trans (grown_one _ _ _ _);have HF:LvP w (((((wr.setCell ⟨w.heap.size+1,0,none⟩ (.int .i64 p.a)).setCell ⟨w.heap.size+1,1,none⟩ (.int .i64 p.b)).setCell ⟨w.heap.size+1,2,none⟩ (.int .i64 p.c)).setCell ⟨w.heap.size+1,3,none⟩ (.int .i64 p.d)).setCell ⟨w.heap.size+1,4,none⟩ (.map (some mb))) S k mb (mb+2) M:=⟨HI.out.mp.kept G5 (fun e=>by injection e with e;omega),HI.out.o.grown G5 (by omega),HI.out.ky,HI.out.lt,HI.out.le,Nat.le_trans HI.out.bm G5.size,HI.out.b.grown G5 HI.out.b.size (fun j hj=>by injection hj with hj;omega)⟩;exact bodyPost_ret (v:=.agg #[.int .i64 p.a,.int .i64 p.b,.int .i64 p.c,.int .i64 p.d,.map (some mb)]) (by simp [results,Tryz.results49,go_sem,q0,q1,q2,q3,q4]) rfl ⟨mb,rfl,mb+2,M,HF⟩
end Go.Proofs.YtmjogablacnlgaaGreatDoor
