/-
 cellsPlaced of the program: how many cells each window has stands in a map.
-/
import Derived.Test.YtmjogablacnlgaaGreatDoorORB
import Derived.Maps.Own
import Derived.Maps.OwnOps
import Derived.Maps.Views
import Derived.Maps.Keyed
namespace Go.Proofs.YtmjogablacnlgaaGreatDoor
set_option linter.unusedVariables false
set_option linter.unusedSimpArgs false
open Go.ChangeShapes Go.WideShapes Go.ChangeAt Go.RowKit Go.PlainAid Go.Maps
set_option maxRecDepth 10000
def CK (w w':World):Prop:=∀ a v,w.cell? a=some v→w'.cell? a=some v
theorem CK.refl (w:World):CK w w:=fun _ _ h=>h
theorem CK.trans {w w1 w2:World} (h:CK w w1) (k:CK w1 w2):CK w w2:=fun a v q=>k a v (h a v q)
theorem CK.of {w1 w2:World} (hb:Below w1.heap.size w1 w2):CK w1 w2:=fun a v k=>cell_past hb k
theorem CK.below {w w1 w2:World} (h:CK w w1) (hb:Below w1.heap.size w1 w2):CK w w2:=h.trans (CK.of hb)
theorem strs_ck {w w':World} {ao:Option Addr} {L:List ByteArray} (h:StrsAt w ao L) (k:CK w w'):StrsAt w' ao L:=fun h0=>by
 obtain ⟨b,off,e,hc⟩:=h h0;exact ⟨b,off,e,fun i u hi=>k _ _ (hc i u hi)⟩
def MpN (W:World) (b n:Nat) (E:List (ByteArray×Ce)):Prop:=∃ D:DataW Unit,W.ownsMap Tryz.prog 2 (plainElem Tryz.prog 3) b n D∧∀ x:Int,D.atKey (.int .i64 x) (.lit (.int .i64 0))=.lit (.int .i64 (cntD E x))
theorem MpN.start (w:World):MpN (w.alloc (.map #[] 0)) w.heap.size 0 []:=
 ⟨.map [],World.ownsMap_made w Tryz.prog 2 (plainElem Tryz.prog 3),fun x=>rfl⟩
theorem owns_past {w w':World} {b n:Nat} {D:DataW Unit} {k:TypeId} {R:Value→Option (DataW Unit×List MemPlace)} (h:w.ownsMap Tryz.prog k R b n D) (hb:Below w.heap.size w w'):w'.ownsMap Tryz.prog k R b n D:=by
 obtain ⟨es,cl,h1,h2⟩:=h;exact ⟨es,cl,(hb.block b (Array.getElem?_eq_some_iff.1 h1).1).trans h1,h2⟩
theorem MpN.past {w w':World} {b n:Nat} {E:List (ByteArray×Ce)} (h:MpN w b n E) (hb:Below w.heap.size w w'):MpN w' b n E:=by
 obtain ⟨D,h1,h2⟩:=h;exact ⟨D,owns_past h1 hb,h2⟩
theorem mapMadeN (w:World):(Instr.makeMap 116 none).run Tryz.prog w=.ok (.map (some w.heap.size)) (w.alloc (.map #[] 0)):=by
 have h:=Tryz.underlying116;simp [Instr.makeMap,h]
theorem keyI:Keyed Tryz.prog 2:=int_keyed Tryz.underlying2
theorem zeroInt (w:World):(zeroValue 3).run Tryz.prog w=.ok (.int .i64 0) w:=by kernel_rfl
theorem wfI {x:Int} (h0:0≤x) (h1:x≤1000000000):(Lit.int .i64 x).wf=true:=by
 simp [Lit.wf,IntKind.signed,IntKind.bits,IntKind.min,IntKind.max];omega
theorem MpN.grow {w w1:World} {b n k:Nat} {A:List (ByteArray×Ce)} {x:ByteArray×Ce} {D:DataW Unit} (hx:A[k]?=some x) (ho:w.ownsMap Tryz.prog 2 (plainElem Tryz.prog 3) b n D) (h:∀ y:Int,D.atKey (.int .i64 y) (.lit (.int .i64 0))=.lit (.int .i64 (cntD (A.take k) y))) (ho1:w1.ownsMap Tryz.prog 2 (plainElem Tryz.prog 3) b (n+1) (D.put (.int .i64 x.2.n) (.lit (.int .i64 ((cntD (A.take k) x.2.n:Int)+1))))):MpN w1 b (n+1) (A.take (k+1)):=by
 refine ⟨_,ho1,fun y=>?_⟩;have hT:=ho.tidy keyI;rw [cntD_step hx];by_cases e:y=x.2.n
 ·subst e
  have hkl:WideAt.IsKeyLit (.int .i64 x.2.n):=trivial;rw [atKey_put_same hT.isMap hkl,if_pos rfl]
  rfl
 ·rw [atKey_put_other (by intro q;exact e (by injection q)),h,if_neg (fun q=>e q.symm)]
  rfl
theorem ck_upd {w w':World} {b n:Nat} {D:DataW Unit} {k:TypeId} {R:Value→Option (DataW Unit×List MemPlace)} (h:w.ownsMap Tryz.prog k R b n D) (hg:w.grownBy w' (some b)):CK w w':=fun a v hc=>by
 obtain ⟨es,cl,h1,_⟩:=h;refine hg.cell hc (fun e=>?_);have e:a.block=b:=Option.some.inj e;rw [World.cell?,e,h1] at hc
 cases hc
def offS (S:List Sd) (k:Nat):Nat:=(fcS (S.take k)).length
theorem offS_zero (S:List Sd):offS S 0=0:=by simp [offS,fcS]
theorem offS_step {S:List Sd} {k:Nat} {s:Sd} (h:S[k]?=some s):offS S (k+1)=offS S k+s.L.length:=by
 unfold offS;rw [List.take_add_one,h,fcS_app,List.length_append];simp [fcS]
theorem offS_end {S:List Sd} {k:Nat} (h:S.length≤k):offS S k=(fcS S).length:=by unfold offS;rw [List.take_of_length_le h]
theorem PlP.le {S:List Sd} {k:Nat} {cl:Int} {own:ByteArray→ByteArray→Prop} (h:PlP ((fcS S).take k) cl own) (hk:k≤(fcS S).length):k≤60:=by
 have:=h.l;rw [List.length_take] at this;omega
theorem cnt_of {x:Int} {D:DataW Unit} {c:Int} {E:List (ByteArray×Ce)} (h:∀ y:Int,D.atKey (.int .i64 y) (.lit (.int .i64 0))=.lit (.int .i64 (cntD E y))) (hat:D.atKey (.int .i64 x) (.lit (.int .i64 0))=.lit (.int .i64 c)):c=(cntD E x:Int):=by
 rw [h] at hat;injection hat with h1;injection h1 with _ h2;exact h2.symm
noncomputable def plB (S:List Sd) (cl:Int):Bool:=@decide (PlP (fcS S) cl (OwnAns (S.map Sd.nm))) (Classical.propDecidable _)
theorem plB_no {S:List Sd} {cl:Int} (h:¬ PlP (fcS S) cl (OwnAns (S.map Sd.nm))):plB S cl=false:=by unfold plB;exact @decide_eq_false _ (Classical.propDecidable _) h
theorem plB_yes {S:List Sd} {cl:Int} (h:PlP (fcS S) cl (OwnAns (S.map Sd.nm))):plB S cl=true:=by unfold plB;exact @decide_eq_true _ (Classical.propDecidable _) h
set_option maxHeartbeats 16000000 in
theorem c_cellsPlaced {w:World} {ao:Option Addr} {N ca:Nat} {S:List Sd} (p:Pi) (hN:S.length=N) (sm:SdsSm S) (hw:∀ s∈S,∀ c∈s.L,(0≤c.n∧c.n≤1000000000)∧c.s.size≤maxLen) (hA:SdsAt w ao S) :
  Calls Tryz.prog 45 #[.agg (piArr (.slice ao N ca) p)] w fun e w'=>e=.returned (.bool (plB S p.d))∧Below w.heap.size w w':=by
 have HN:=hide hN;have SM:=hide sm;have HWn:=hide hw;have HA:=hide hA;have lN:N≤1048576:=by have:=sm.n;omega
 have LM:Hid ((S.map Sd.nm).length=N):=by rw [List.length_map];exact HN
 have HT0:=hide (((Below.refl _ _).alloc (Nat.le_refl _) _:Below w.heap.size w (w.alloc (.cells (piArr (.slice ao N ca) p) 29))));have r0:=cellKQ (heap_alloc_new w (.cells (piArr (.slice ao N ca) p) 29)) 0 rfl;have r4:=cellKQ (heap_alloc_new w (.cells (piArr (.slice ao N ca) p) 29)) 4 rfl;clear hN sm hw hA;go_enter Tryz.func45,Tryz.ntmps45;go_upto_region 1 with fail;generalize w.alloc (.cells (piArr (.slice ao N ca) p) 29)=W0 at HT0 r0 r4 ⊢;have HR0:=hide r0;have HR4:=hide r4;clear r4;have hmm:=mapMadeN;go_upto_region 2 with (go_at_call 83;refine (c_namesOf (ca:=ca) HN.out lN (sds_past HA.out HT0.out)).mono ?_;rintro e w1 ⟨bo,cn,rfl,ho,hb1⟩;have HO:=hide ho;have HB1:=hide hb1;clear ho hb1);clear r0 hmm;have HT1:=hide (chain HT0.out HB1.out);have al1:Below w1.heap.size w1 (w1.alloc (.map #[] 0)):=(Below.refl _ _).alloc (Nat.le_refl _) _;have HS2:Hid (StrsAt (w1.alloc (.map #[] 0)) bo (S.map Sd.nm)):=hide (strs_past HO.out.at al1);have HT2:=hide (chain HT1.out al1);have K2:=(CK.of HB1.out).below al1;have HR0b:=hide (K2 _ _ HR0.out);have HR4b:=hide (K2 _ _ HR4.out);have HM2:=hide (MpN.start w1);have hmb:=HT1.out.size;generalize w1.alloc (.map #[] 0)=W2 at HS2 HT2 HR0b HR4b HM2 ⊢;clear al1 K2 HR0 HR4 HB1 HO HT1 HT0;generalize w1.heap.size=mb at HM2 hmb ⊢;clear w1 W0;have r0:=HR0b.out;go_upto_region 3 with fail;clear r0 HR0b
 go_loopw [4,17] (fun al i wr=>∃ (k:Nat),k≤N∧i=.int .i64 k∧al=.int .i64 (offS S k:Nat)∧Hid (PlP ((fcS S).take (offS S k)) p.d (OwnAns (S.map Sd.nm)))∧Hid (MpN wr mb (offS S k) ((fcS S).take (offS S k)))∧Hid (CK W2 wr)∧Hid (Below w.heap.size w wr)) (fun al i wr=>N - (Go.RowKit.intOf i).toNat)
 case atStart=>exact ⟨0,Nat.zero_le _,rfl,by rw [offS_zero];rfl,by rw [offS_zero];exact hide PlP.nil,by rw [offS_zero];exact HM2,CK.refl _,HT2⟩
 case round=>
  clear HM2 HT2;obtain ⟨k,hk,rfl,rfl,HP,HM,HK,HB⟩:=hrel;by_cases hkn:k<N
  ·have hkni:(k:Int)<(N:Int):=by omega
   obtain ⟨b,off,e,hcell⟩:=HA.out.1 (by have:=HN.out;omega);subst e;obtain ⟨s,hs⟩:∃ s,S[k]?=some s:=⟨S[k]'(by have:=HN.out;omega),List.getElem?_eq_getElem _⟩;obtain ⟨x0,x1⟩:=sdc_past (hcell k s hs) HB.out;have HS:=hide hs;have HSm:=hide (List.mem_of_getElem? hs);have hwk:IntKind.i64.wrap ((k:Int)+1)=((k+1:Nat):Int):=by rw [show (k:Int)+1=((k+1:Nat):Int) by omega];exact IntWalk.i64_in _ ⟨by omega,by omega⟩
   clear hcell hs;go_upto_region 5 with fail;clear x0 x1;have al:Below wr.heap.size wr (wr.alloc (.cells (sdArr s) 55)):=(Below.refl _ _).alloc (Nat.le_refl _) _;have y0:(wr.alloc (.cells (sdArr s) 55)).cell? ⟨wr.heap.size,0,none⟩=some (.string s.nm):=cellKQ (heap_alloc_new wr (.cells (sdArr s) 55)) 0 rfl;have y1:(wr.alloc (.cells (sdArr s) 55)).cell? ⟨wr.heap.size,1,none⟩=some (.slice s.ao s.L.length s.cp):=cellKQ (heap_alloc_new wr (.cells (sdArr s) 55)) 1 rfl;have HB4:=hide (chain HB.out al);have HM4:=hide (HM.out.past al);have HK4:=hide (HK.out.below al);clear al HM HK HB;generalize wr.alloc (.cells (sdArr s) 55)=W4 at HB4 HM4 HK4 y0 y1 ⊢;generalize wr.heap.size=sb at y0 y1 ⊢;clear wr;have HY0:=hide y0;have HSt:=hide (offS_step HS.out);have lM:s.L.length≤1048576:=SM.out.l s HSm.out;obtain ⟨M,hM⟩:∃ M,s.L.length=M:=⟨_,rfl⟩;rw [hM] at HSt lM y1 ⊢;have HLM:=hide hM;clear y0 hM;go_upto_region 6 with fail;clear y1
   go_loopw [4,24] (fun al i wr=>∃ (q:Nat),q≤M∧i=.int .i64 q∧al=.int .i64 (offS S k+q:Nat)∧Hid (PlP ((fcS S).take (offS S k+q)) p.d (OwnAns (S.map Sd.nm)))∧Hid (MpN wr mb (offS S k+q) ((fcS S).take (offS S k+q)))∧Hid (CK W4 wr)∧Hid (Below w.heap.size w wr)) (fun al i wr=>M - (Go.RowKit.intOf i).toNat)
   case atStart=>exact ⟨0,Nat.zero_le _,rfl,rfl,HP,HM4,CK.refl _,HB4⟩
   case round=>
    clear HM4 HB4 HP;obtain ⟨q,hq,rfl,rfl,HP,HM,HK,HB⟩:=hrel;by_cases hqm:q<M
    ·have hqmi:(q:Int)<(M:Int):=by omega
     obtain ⟨c,hc⟩:∃ c,s.L[q]?=some c:=⟨s.L[q]'(by have:=HLM.out;omega),List.getElem?_eq_getElem _⟩;obtain ⟨b1,off1,e1,hcell⟩:=(HA.out.2 s HSm.out).1 (by have:=HLM.out;omega);obtain ⟨x0,x1,x2,x3,x4,x5,x6,x7,x8,x9,x10,x11,x12,x13,x14⟩:=cec_past (hcell q c hc) HB.out;have HC:Hid ((fcS S)[offS S k+q]?=some (s.nm,c)):=hide (fcS_at HS.out hc);have HW:=hide (HWn.out s HSm.out c (List.mem_of_getElem? hc)).1;have HZ:=hide (HWn.out s HSm.out c (List.mem_of_getElem? hc)).2;have hwq:IntKind.i64.wrap ((q:Int)+1)=((q+1:Nat):Int):=by rw [show (q:Int)+1=((q+1:Nat):Int) by omega];exact IntWalk.i64_in _ ⟨by omega,by omega⟩
     have LE:offS S k+q≤60:=HP.out.le (by have:=(List.getElem?_eq_some_iff.1 HC.out).1;unfold offS at *; omega);have hwa:IntKind.i64.wrap (((offS S k+q:Nat):Int)+1)=((offS S k+q+1:Nat):Int):=by rw [show ((offS S k+q:Nat):Int)+1=((offS S k+q+1:Nat):Int) by omega];exact IntWalk.i64_in _ ⟨by omega,by omega⟩
     rw [e1];clear hcell hc;go_upto_region 8 with fail;clear x0 x1 x2 x3 x4 x5 x6 x7 x8 x9 x10 x11 x12 x13 x14;have al:Below wr.heap.size wr (wr.alloc (.cells (ceArr c) 69)):=(Below.refl _ _).alloc (Nat.le_refl _) _;have y0:(wr.alloc (.cells (ceArr c) 69)).cell? ⟨wr.heap.size,0,none⟩=some (.int .i64 c.n):=cellKQ (heap_alloc_new wr (.cells (ceArr c) 69)) 0 rfl;have y1:(wr.alloc (.cells (ceArr c) 69)).cell? ⟨wr.heap.size,1,none⟩=some (.string c.s):=cellKQ (heap_alloc_new wr (.cells (ceArr c) 69)) 1 rfl;have HB5:=hide (chain HB.out al);obtain ⟨D,hD,hDc⟩:=HM.out.past al;have HD:=hide hD;have HDc:=hide hDc;have HK5:=hide (HK.out.below al);have LC:Hid (cntD ((fcS S).take (offS S k+q)) c.n≤20):=hide (HP.out.c c.n);have hwc1:IntKind.i64.wrap ((cntD ((fcS S).take (offS S k+q)) c.n:Int)+1)=(cntD ((fcS S).take (offS S k+q)) c.n:Int)+1:=IntWalk.i64_in _ ⟨by omega,by have:=LC.out;omega⟩;clear al HM HK HB hD hDc;generalize wr.alloc (.cells (ceArr c) 69)=W5 at HB5 HD HK5 y0 y1 ⊢;generalize wr.heap.size=cb at y0 y1 ⊢;clear wr;have HY0c:=hide y0;have HY1c:=hide y1;clear y1;go_upto_region 10 with (first | (at_lookup;refine wpList_lookup_own_int _ rfl _ _ 116 rfl 2 3 .i64 keyI Tryz.underlying116 Tryz.underlying3 (zeroInt _) mb (offS S k+q) _ rfl HD.out _ _ rfl (keyOf_int_mk Tryz.underlying2 (wfI HW.out.1 HW.out.2)) ?_;intro c1 hat hwc;obtain rfl:=cnt_of HDc.out hat;clear hat hwc) | (at_mapUpdate;refine wpList_mapUpdate_own _ rfl _ _ _ 116 rfl 2 3 keyI Tryz.underlying116 _ mb (offS S k+q) _ rfl HD.out (by unfold maxLen;omega) _ _ _ rfl rfl (keyOf_int_mk Tryz.underlying2 (wfI HW.out.1 HW.out.2)) _ [] (plainElem_int Tryz.underlying3 (wfI (by omega) (by have:=LC.out;omega))) ?_;intro w6 hown1 hgrow1));have HCn:=hide (cntD_step (win:=c.n) HC.out);have HM6:=hide (MpN.grow HC.out HD.out HDc.out hown1);have HB6:Hid (Below w.heap.size w w6):=hide (HB5.out.grown hgrow1 HB5.out.size (fun j hj=>by cases hj;exact hmb));have K56:=ck_upd HD.out hgrow1;have y0:=K56 _ _ HY0c.out;have y1:=K56 _ _ HY1c.out;have HK6:=hide (HK5.out.trans K56);clear hown1 hgrow1 K56 HD HDc HK5 HB5 hwc1 HY0c HY1c;have HY0c:=hide y0;have HY1c:=hide y1;clear y0 y1;by_cases h60:offS S k+q+1≤60
     ·have d60:¬ (60:Int)<(offS S k:Int)+(q:Int)+1:=by omega
      obtain ⟨D,hD,hDc⟩:=HM6.out;have HD:=hide hD;have HDc:=hide hDc;clear hD hDc;have y0:=HY0c.out;obtain ⟨c1,hlk,hat,hwc⟩:=HD.out.lookup_int keyI Tryz.underlying116 Tryz.underlying3 (zeroInt _) (keyOf_int_mk Tryz.underlying2 (wfI HW.out.1 HW.out.2));have HC1:=hide (cnt_of HDc.out hat);clear hat hwc HD HDc;by_cases h20:cntD ((fcS S).take (offS S k+q+1)) c.n≤20
      ·have d20:¬ (20:Int)<c1:=by have:=HC1.out;omega
       go_upto_region 12 with fail;clear y0 d20 d60 hlk;have HY0s:Hid (w6.cell? ⟨sb,0,none⟩=some (.string s.nm)):=hide (HK6.out _ _ HY0.out);have HR4s:Hid (w6.cell? ⟨w.heap.size,4,none⟩=some (.int .i64 p.d)):=hide (HK6.out _ _ (HK4.out _ _ HR4b.out));have HNm:=hide (strs_ck HS2.out (HK4.out.trans HK6.out));by_cases hcl:c.n<p.d
       ·have HF:Hid (¬ PlP (fcS S) p.d (OwnAns (S.map Sd.nm))):=hide (fun h=>by have:=(h.at HC.out).2.2.1;have e:(s.nm,c).2.n=c.n:=rfl;omega)
        have HS0:(fun W=>Below w6.heap.size w6 W) w6.drew:=(Below.refl _ _).drew;refine regionK (fun W=>Below w6.heap.size w6 W) 99 (by kernel_rfl) ?_;refine tkS (i:=0) (v:=.pointer (some ⟨cb,0,none⟩)) rfl rfl HS0 ?_;refine tkL (i:=1) (v:=.int .i64 c.n) rfl rfl HS0 (fun W hW=>?_) ?_
        ·have z:=cell_past hW HY0c.out
         clear hW;go_simp
        refine tkS (i:=2) (v:=.pointer (some ⟨w.heap.size,4,none⟩)) rfl rfl HS0 ?_;simp only [sA,sB,sC];refine tkL (i:=3) (v:=.int .i64 p.d) rfl rfl HS0 (fun W hW=>?_) ?_
        ·have z:=cell_past hW HR4s.out
         clear hW;go_simp
        refine tkS (i:=4) (v:=.bool true) rfl rfl HS0 ?_;refine tkS (i:=5) (v:=.bool true) rfl rfl HS0 ?_;simp only [sA,sB,sC];refine tkU (i:=6) rfl rfl HS0 ?_;refine tkU (i:=7) rfl rfl HS0 ?_;refine tkU (i:=8) rfl rfl HS0 ?_;simp only [sA,sB,sC];refine tkU (i:=10) rfl rfl HS0 ?_;refine tkU (i:=11) rfl rfl HS0 ?_;simp only [sA,sB,sC];refine onE (i:=9) rfl (fun K hK=>?_);refine Eq.mpr (if_neg (fun h=>Bool.noConfusion (show false=true from h))) ?_;refine hK.out _ _ (fun _=>HS0) ?_;clear hK K
        try simp only [Act.put,sA,sB,sC]
        refine tkU (i:=12) rfl rfl HS0 ?_;refine tkS (i:=13) (v:=.bool true) rfl rfl HS0 ?_;simp only [sA,sB,sC];refine doneK (by kernel_rfl) ?_ _;go_wp2;go_ret;exact ⟨by rw [plB_no HF.out];rfl,chain HB6.out HS0⟩
       ·have HS0:(fun W=>Below w6.heap.size w6 W) w6.drew:=(Below.refl _ _).drew
        refine regionK (fun W=>Below w6.heap.size w6 W) 99 (by kernel_rfl) ?_;refine tkS (i:=0) (v:=.pointer (some ⟨cb,0,none⟩)) rfl rfl HS0 ?_;refine tkL (i:=1) (v:=.int .i64 c.n) rfl rfl HS0 (fun W hW=>?_) ?_
        ·have z:=cell_past hW HY0c.out
         clear hW;go_simp
        refine tkS (i:=2) (v:=.pointer (some ⟨w.heap.size,4,none⟩)) rfl rfl HS0 ?_;simp only [sA,sB,sC];refine tkL (i:=3) (v:=.int .i64 p.d) rfl rfl HS0 (fun W hW=>?_) ?_
        ·have z:=cell_past hW HR4s.out
         clear hW;go_simp
        refine tkS (i:=4) (v:=.bool false) rfl rfl HS0 ?_;refine tkS (i:=5) (v:=.bool false) rfl rfl HS0 ?_;simp only [sA,sB,sC];refine tkS (i:=6) (v:=.slice bo N cn) rfl rfl HS0 ?_;refine tkS (i:=7) (v:=.pointer (some ⟨cb,1,none⟩)) rfl rfl HS0 ?_;refine tkL (i:=8) (v:=.string c.s) rfl rfl HS0 (fun W hW=>?_) ?_
        ·have z:=cell_past hW HY1c.out
         clear hW;go_simp
        simp only [sA,sB,sC];refine tkS (i:=10) (v:=.pointer (some ⟨sb,0,none⟩)) rfl rfl HS0 ?_;refine tkL (i:=11) (v:=.string s.nm) rfl rfl HS0 (fun W hW=>?_) ?_
        ·have z:=cell_past hW HY0s.out
         clear hW;go_simp
        simp only [sA,sB,sC];refine onE (i:=9) rfl (fun K hK=>?_);go_simp;have hcO:=c_i_OwnerOf (w:=w6.drew) (L:=S.map Sd.nm) (ao:=bo) cn c.s HZ.out (by rw [LM.out];exact lN) (fun u hu=>by obtain ⟨z,hz,rfl⟩:=List.mem_map.1 hu;exact SM.out.nz z hz) (strs_past HNm.out (HS0:Below w6.heap.size w6 w6.drew));rw [LM.out] at hcO;refine hcO.mono ?_;rintro e w7 ⟨o,rfl,ho,hb7⟩;have HAo:=hide ho;have HB7:Hid (Below w6.heap.size w6 w7):=(HS0:Below w6.heap.size w6 w6.drew).trans (hb7.mono (Nat.le_refl _));clear hb7 ho hcO;dsimp only;refine hK.out _ _ (fun _=>HB7.out) ?_;clear hK K
        try simp only [Act.put,sA,sB,sC]
        refine tkS (i:=12) (v:=.bool (!(o.toList == s.nm.toList))) rfl rfl HB7.out ?_;refine tkS (i:=13) (v:=.bool (!(o.toList == s.nm.toList))) rfl rfl HB7.out ?_;simp only [sA,sB,sC];refine doneK (by kernel_rfl) ?_ _;have HT:=hide (chain HB6.out HB7.out);generalize hbx:(o.toList == s.nm.toList)=bx;by_cases hoe:o=s.nm
        ·obtain rfl:bx=true:=by rw [← hbx,hoe];exact beq_self_eq_true _
         have HP2:=hide (HP.out.step HC.out h60 h20 (by show p.d≤c.n;omega) (by show OwnAns _ c.s s.nm;rw [← hoe];exact HAo.out));have HM7:=hide (HM6.out.past HB7.out);have HK7:=hide (HK6.out.below HB7.out);clear hoe hbx;go_wp2;go_roundw
         case rel=>exact ⟨q+1,by omega,by first | rfl | go_num,by first | rfl | go_num,HP2,HM7,HK7,HT⟩
         case measure=>simp [Go.RowKit.intOf];omega
        ·obtain rfl:bx=false:=hbx.symm.trans <| beq_eq_false_iff_ne.2 (fun e=>hoe (by rw [ByteArray.toList_eq,ByteArray.toList_eq] at e;exact ByteArray.ext (Array.toList_inj.1 e)))
         have HF:Hid (¬ PlP (fcS S) p.d (OwnAns (S.map Sd.nm))):=hide (fun h=>hoe (own_one HAo.out (h.at HC.out).2.2.2));clear hoe hbx;go_wp2;go_ret;exact ⟨by rw [plB_no HF.out];rfl,HT.out⟩
      ·have d20:(20:Int)<c1:=by have:=HC1.out;omega
       have HF:Hid (¬ PlP (fcS S) p.d (OwnAns (S.map Sd.nm))):=hide (fun h=>h20 (h.at HC.out).2.1);clear h20;go_wp2;go_ret;exact ⟨by rw [plB_no HF.out];rfl,HB6.out⟩
     ·have d60:(60:Int)<(offS S k:Int)+(q:Int)+1:=by omega
      have HF:Hid (¬ PlP (fcS S) p.d (OwnAns (S.map Sd.nm))):=hide (fun h=>h60 (h.at HC.out).1);clear h60;go_wp2;go_ret;exact ⟨by rw [plB_no HF.out];rfl,HB6.out⟩
    ·have hqmi:¬ (q:Int)<(M:Int):=by omega
     obtain rfl:q=M:=by omega
     rw [← HSt.out] at HP HM;have HK7:=hide (HK4.out.trans HK.out);go_wp2;go_roundw
     case rel=>exact ⟨k+1,by omega,by first | rfl | go_num,by rw [HSt.out],HP,HM,HK7,HB⟩
     case measure=>simp [Go.RowKit.intOf];omega
  ·have hkni:¬ (k:Int)<(N:Int):=by omega
   have hp2:=HP.out;rw [offS_end (by have:=HN.out;omega),List.take_length] at hp2;have HP2:=hide hp2;clear hp2;go_wp2;go_ret;exact ⟨by rw [plB_yes HP2.out];rfl,HB.out⟩
end Go.Proofs.YtmjogablacnlgaaGreatDoor
