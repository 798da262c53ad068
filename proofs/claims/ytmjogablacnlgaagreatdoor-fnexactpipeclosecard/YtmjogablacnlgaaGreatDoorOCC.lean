/-
 Right cells: the program.
-/
import Derived.Test.YtmjogablacnlgaaGreatDoorOCB
import Derived.Test.YtmjogablacnlgaaGreatDoorOSC
namespace Go.Proofs.YtmjogablacnlgaaGreatDoor
set_option linter.unusedVariables false
set_option linter.unusedSimpArgs false
open Go.ChangeShapes Go.WideShapes Go.ChangeAt Go.RowKit Go.PlainAid Go.Lib
set_option maxRecDepth 10000
theorem ret_bR {a b:Bool} (h:a=b):Ending.returned (.bool a)=.returned (.bool b):=by rw [h]
theorem c_windowRight (n:Int) (w:World):Calls Tryz.prog 81 #[.int .i64 n] w fun e w'=>e=.returned (.bool (winB n))∧w'=w:=by
 by_cases h1:0≤n <;> by_cases h2:n≤1000000000 <;> (go_enter Tryz.func81,Tryz.ntmps81;go_wp2;go_ret;exact ⟨by simp [winB,h1,h2],rfl⟩)
set_option maxHeartbeats 4000000 in
theorem c_cellRight {w:World} (c:Ce) (ok:AgOk c.g) (sm:AgSm c.g) (hs:c.s.size≤maxLen) (hm:MX w) (hA:AgAt w c.g c.p) :
  Calls Tryz.prog 140 #[.agg (ceArr c)] w fun e w'=>e=.returned (.bool (cRi c))∧Below w.heap.size w w':=by
 have hA0:Below w.heap.size w (w.alloc (.cells (ceArr c) 69)):=(Below.refl _ _).alloc (Nat.le_refl _) _;have K0:=hide (cec_new w 69 c);have HA:=hide hA;have OK:=hide ok;have SM:=hide sm;have HMx:=hide (hm.past hA0);have HT0:=hide hA0;clear hA ok sm hm hA0;go_enter Tryz.func140,Tryz.ntmps140;go_wp2_with fail;generalize w.alloc (.cells (ceArr c) 69)=W0 at K0 HMx HT0 ⊢;refine (c_windowRight _ _).mono ?_;rintro e wz ⟨rfl,hwz⟩;obtain rfl:=hwz.symm;obtain ⟨x0,x1,x2,x3,x4,x5,x6,x7,x8,x9,x10,x11,x12,x13,x14⟩:=K0.out
 cases h1:winB c.n with
 | false=>
  have HE:Hid (false=cRi c):=(by simp [cRi,h1]:false=cRi c);go_wp2;go_ret;exact ⟨ret_bR HE.out,HT0.out⟩
 | true=>
  go_wp2_with fail;clear x0 x1 x2 x3 x4 x5 x6 x7 x8 x9 x10 x11 x12 x13 x14;refine (c_i_SeriesRight c.s HMx.out hs).mono ?_;rintro e w1 ⟨rfl,hb1⟩;obtain ⟨x0,x1,x2,x3,x4,x5,x6,x7,x8,x9,x10,x11,x12,x13,x14⟩:=cec_past K0.out hb1;have HT1:=hide (chain HT0.out hb1);have HB1:=hide hb1;clear hb1
  cases h2:serRB c.s with
  | false=>
   have HE:Hid (false=cRi c):=(by simp [cRi,h2]:false=cRi c);go_wp2;go_ret;exact ⟨ret_bR HE.out,HT1.out⟩
  | true=>
   by_cases h3:c.g.s=0
   ·have HE:Hid (false=cRi c):=(by simp [cRi,h3]:false=cRi c)
    have d3:decide (0<c.g.s)=false:=decide_eq_false (by omega);clear h3;go_wp2;go_ret;exact ⟨ret_bR HE.out,HT1.out⟩
   ·have d3:decide (0<c.g.s)=true:=decide_eq_true (by have:=OK.out.s;unfold U64 at this;omega)
    have HE:Hid (agB c.g=cRi c):=(by simp [cRi,h1,h2,h3]:agB c.g=cRi c);clear h3;go_wp2_with fail;clear x0 x1 x2 x3 x4 x5 x6 x7 x8 x9 x10 x11 x12 x13 x14;refine (c_i_AggRight (g:=c.g) (p:=c.p) OK.out SM.out (ag_past HA.out HT1.out)).mono ?_;rintro e w2 ⟨rfl,hb2⟩;obtain ⟨B,hB⟩:∃ B,agB c.g=B:=⟨_,rfl⟩;rw [ag_one,hB];have HF:Hid (B=cRi c):=by rw [← hB];exact HE
    have HT2:=hide (chain HT1.out hb2);clear hb2 hB HE
    cases B <;> (go_wp2;go_ret;exact ⟨ret_bR HF.out,HT2.out⟩)
set_option maxHeartbeats 4000000 in
theorem c_compareCells {w:World} (c d:Ce) :
  Calls Tryz.prog 92 #[.agg (ceArr c),.agg (ceArr d)] w fun e w'=>e=.returned (.int .i64 (cmpK c.n c.s d.n d.s))∧Below w.heap.size w w':=by
 have HB0:Hid (Below w.heap.size w ((w.alloc (.cells (ceArr c) 69)).alloc (.cells (ceArr d) 69))):=((Below.refl _ _).alloc (Nat.le_refl _) _).alloc (by simp) _;have HC:=hide (two_ce w 69 c d);go_enter Tryz.func92,Tryz.ntmps92;go_wp2_with fail;generalize (w.alloc (.cells (ceArr c) 69)).alloc (.cells (ceArr d) 69)=W0 at HC HB0 ⊢;have HS0:(fun W=>Below W0.heap.size W0 W) W0.drew:=(Below.refl _ _).drew;refine regionK (fun W=>Below W0.heap.size W0 W) 5 (by kernel_rfl) ?_;refine tkL (i:=0) (v:=.agg (ceArr c)) rfl rfl HS0 (fun W hW=>?_) ?_
 ·obtain ⟨⟨x0,x1,x2,x3,x4,x5,x6,x7,x8,x9,x10,x11,x12,x13,x14⟩,⟨y0,y1,y2,y3,y4,y5,y6,y7,y8,y9,y10,y11,y12,y13,y14⟩⟩:=HC.out W hW
  clear hW;go_simp
 refine tkL (i:=2) (v:=.agg (ceArr d)) rfl rfl HS0 (fun W hW=>?_) ?_
 ·obtain ⟨⟨x0,x1,x2,x3,x4,x5,x6,x7,x8,x9,x10,x11,x12,x13,x14⟩,⟨y0,y1,y2,y3,y4,y5,y6,y7,y8,y9,y10,y11,y12,y13,y14⟩⟩:=HC.out W hW
  clear hW;go_simp
 simp only [sA,sB,sC];refine onE (i:=1) rfl (fun K hK=>?_);go_simp;refine (c_keyOf c _).mono ?_;rintro e w1 ⟨rfl,hb1⟩;have HB1:Hid (Below W0.heap.size W0 w1):=(HS0:Below W0.heap.size W0 W0.drew).trans (hb1.mono (Nat.le_refl _));clear hb1;dsimp only;refine hK.out _ _ (fun _=>HB1.out) ?_;clear hK K
 try simp only [Act.put,sA,sB,sC]
 refine onE (i:=3) rfl (fun K hK=>?_);go_simp;refine (c_keyOf d _).mono ?_;rintro e w2 ⟨rfl,hb2⟩;have HB2:Hid (Below W0.heap.size W0 w2):=chain HB1.out hb2;clear hb2;dsimp only;refine hK.out _ _ (fun _=>HB2.out) ?_;clear hK K
 try simp only [Act.put,sA,sB,sC]
 refine onE (i:=4) rfl (fun K hK=>?_);go_simp;refine (c_compareKeys c.n c.s d.n d.s _).mono ?_;rintro e w3 ⟨rfl,hb3⟩;have HB3:Hid (Below W0.heap.size W0 w3):=chain HB2.out hb3;clear hb3;dsimp only;refine hK.out _ _ (fun _=>HB3.out) ?_;clear hK K
 try simp only [Act.put,sA,sB,sC]
 refine onE (i:=5) rfl (fun K hK=>?_);go_simp;refine hK.out _ _ (fun h=>absurd rfl h) ?_;clear hK K
 try simp only [Act.put,sA,sB,sC]
 refine doneK (by kernel_rfl) ?_ _;go_wp2;go_ret;exact ⟨rfl,chain HB0.out HB3.out⟩
set_option maxHeartbeats 8000000 in
theorem c_i_CellsRight {w:World} {ao:Option Addr} {N ca:Nat} {L:List Ce} (hN:L.length=N) (lN:N≤1048576) (ok:∀ c∈L,AgOk c.g) (sm:∀ c∈L,AgSm c.g) (ss:∀ c∈L,c.s.size≤maxLen) (hm:MX w) (hA:CesAt w ao L) :
  Calls Tryz.prog 107 #[.slice ao N ca] w fun e w'=>e=.returned (.bool (csR L))∧Below w.heap.size w w':=by
 have HE:Hid (csR L=(decide (N≤60) && cRs none L)):=by unfold csR;rw [hN];exact hide rfl
 have HN:=hide hN;have OK:=hide ok;have SM:=hide sm;have SS:=hide ss;have HA:=hide hA;have HMx:=hide hm;clear hN ok sm ss hA hm;by_cases h1:N≤60
 ·have d1:decide ((60:Int)<(N:Int))=false:=decide_eq_false (by omega)
  have HF:Hid (cRs (preC L 0) (L.drop 0)=csR L):=by rw [HE.out,decide_eq_true h1];exact hide rfl
  go_enter Tryz.func107,Tryz.ntmps107;go_wp2
  go_loopw [10] (fun i wr=>∃ k:Nat,k≤N∧i=.int .i64 k∧Hid (cRs (preC L k) (L.drop k)=csR L)∧Hid (Below w.heap.size w wr)) (fun i wr=>N - (Go.RowKit.intOf i).toNat)
  case atStart=>exact ⟨0,Nat.zero_le _,rfl,HF,Below.refl _ _⟩
  case round=>
   obtain ⟨k,hk,rfl,HE2,HBl⟩:=hrel;by_cases hkn:k<N
   ·have hkni:(k:Int)<(N:Int):=by omega
    obtain ⟨b,off,e,hcell⟩:=HA.out.1 (by have:=HN.out;omega);subst e;obtain ⟨c,hc⟩:∃ c,L[k]?=some c:=⟨L[k]'(by have:=HN.out;omega),List.getElem?_eq_getElem _⟩;have hmm:=List.mem_of_getElem? hc;have HMm:=hide hmm;have HCk:=hide hc;obtain ⟨x0,x1,x2,x3,x4,x5,x6,x7,x8,x9,x10,x11,x12,x13,x14⟩:=cec_past (hcell k c hc) HBl.out;have HCe:=hide hcell;clear hcell hc hmm;go_upto_region 6 with fail;clear x0 x1 x2 x3 x4 x5 x6 x7 x8 x9 x10 x11 x12 x13 x14;have hW1:Below wr.heap.size wr (wr.alloc (.cells (ceArr c) 69)):=(Below.refl _ _).alloc (Nat.le_refl _) _;have K0:=cec_new wr 69 c;generalize hW0:wr.alloc (.cells (ceArr c) 69)=W0 at hW1 K0 ⊢;have HT0:=hide (chain HBl.out hW1);have HK0:=hide K0;clear hW0 hW1 K0
    cases k with
    | zero=>
     have HS:=hide (cRs_none HCk.out)
     go_cut [31] (fun v w'=>v=.bool (!cRi c)∧Hid (Below w.heap.size w w'))
     case first=>
      cases hri:cRi c with
      | false=>
       have HS0:(fun W=>Below W0.heap.size W0 W) W0.drew:=(Below.refl _ _).drew;refine regionK (fun W=>Below W0.heap.size W0 W) 99 (by kernel_rfl) ?_;refine tkL (i:=0) (v:=.agg (ceArr c)) rfl rfl HS0 (fun W hW=>?_) ?_
       ·obtain ⟨x0,x1,x2,x3,x4,x5,x6,x7,x8,x9,x10,x11,x12,x13,x14⟩:=cec_past HK0.out hW
        clear hW;go_simp
       simp only [sA,sB,sC];refine onE (i:=1) rfl (fun K hK=>?_);go_simp;refine (c_cellRight c (OK.out c HMm.out) (SM.out c HMm.out) (SS.out c HMm.out) (HMx.out.past (chain HT0.out HS0)) (ag_past (HA.out.2 c HMm.out) (chain HT0.out HS0))).mono ?_;rintro e w1 ⟨rfl,hb1⟩;rw [hri];have HB1:Hid (Below W0.heap.size W0 w1):=(HS0:Below W0.heap.size W0 W0.drew).trans (hb1.mono (Nat.le_refl _));clear hb1;dsimp only;refine hK.out _ _ (fun _=>HB1.out) ?_;clear hK K
       try simp only [Act.put,sA,sB,sC]
       refine tkS (i:=2) (v:=.bool true) rfl rfl HB1.out ?_;refine tkS (i:=3) (v:=.bool true) rfl rfl HB1.out ?_;refine tkU (i:=4) rfl rfl HB1.out ?_;simp only [sA,sB,sC];refine tkU (i:=5) rfl rfl HB1.out ?_;refine tkU (i:=6) rfl rfl HB1.out ?_;refine tkU (i:=7) rfl rfl HB1.out ?_;simp only [sA,sB,sC];refine tkU (i:=8) rfl rfl HB1.out ?_;refine tkU (i:=9) rfl rfl HB1.out ?_;refine tkU (i:=10) rfl rfl HB1.out ?_;simp only [sA,sB,sC];refine tkU (i:=11) rfl rfl HB1.out ?_;refine tkU (i:=12) rfl rfl HB1.out ?_;simp only [sA,sB,sC];refine onE (i:=13) rfl (fun K hK=>?_);refine Eq.mpr (if_neg (fun h=>Bool.noConfusion (show false=true from h))) ?_;refine hK.out _ _ (fun _=>HB1.out) ?_;clear hK K
       try simp only [Act.put,sA,sB,sC]
       refine tkU (i:=14) rfl rfl HB1.out ?_;refine tkU (i:=15) rfl rfl HB1.out ?_;refine tkS (i:=16) (v:=.bool true) rfl rfl HB1.out ?_;simp only [sA,sB,sC];refine doneK (by kernel_rfl) ?_ _;go_wp2;go_meet;exact ⟨by rw [hri];rfl,hide (chain HT0.out HB1.out)⟩
      | true=>
       have HS0:(fun W=>Below W0.heap.size W0 W) W0.drew:=(Below.refl _ _).drew;refine regionK (fun W=>Below W0.heap.size W0 W) 99 (by kernel_rfl) ?_;refine tkL (i:=0) (v:=.agg (ceArr c)) rfl rfl HS0 (fun W hW=>?_) ?_
       ·obtain ⟨x0,x1,x2,x3,x4,x5,x6,x7,x8,x9,x10,x11,x12,x13,x14⟩:=cec_past HK0.out hW
        clear hW;go_simp
       simp only [sA,sB,sC];refine onE (i:=1) rfl (fun K hK=>?_);go_simp;refine (c_cellRight c (OK.out c HMm.out) (SM.out c HMm.out) (SS.out c HMm.out) (HMx.out.past (chain HT0.out HS0)) (ag_past (HA.out.2 c HMm.out) (chain HT0.out HS0))).mono ?_;rintro e w1 ⟨rfl,hb1⟩;rw [hri];have HB1:Hid (Below W0.heap.size W0 w1):=(HS0:Below W0.heap.size W0 W0.drew).trans (hb1.mono (Nat.le_refl _));clear hb1;dsimp only;refine hK.out _ _ (fun _=>HB1.out) ?_;clear hK K
       try simp only [Act.put,sA,sB,sC]
       refine tkS (i:=2) (v:=.bool false) rfl rfl HB1.out ?_;refine tkS (i:=3) (v:=.bool false) rfl rfl HB1.out ?_;refine tkS (i:=4) (v:=.int .i64 0) rfl rfl HB1.out ?_;simp only [sA,sB,sC];refine tkS (i:=5) (v:=.bool false) rfl rfl HB1.out ?_;refine tkS (i:=6) (v:=.bool false) rfl rfl HB1.out ?_;refine tkU (i:=7) rfl rfl HB1.out ?_;simp only [sA,sB,sC];refine tkU (i:=8) rfl rfl HB1.out ?_;refine tkU (i:=9) rfl rfl HB1.out ?_;refine tkU (i:=10) rfl rfl HB1.out ?_;simp only [sA,sB,sC];refine tkU (i:=11) rfl rfl HB1.out ?_;refine tkU (i:=12) rfl rfl HB1.out ?_;simp only [sA,sB,sC];refine onE (i:=13) rfl (fun K hK=>?_);refine Eq.mpr (if_neg (fun h=>Bool.noConfusion (show false=true from h))) ?_;refine hK.out _ _ (fun _=>HB1.out) ?_;clear hK K
       try simp only [Act.put,sA,sB,sC]
       refine tkU (i:=14) rfl rfl HB1.out ?_;refine tkS (i:=15) (v:=.bool false) rfl rfl HB1.out ?_;refine tkS (i:=16) (v:=.bool false) rfl rfl HB1.out ?_;simp only [sA,sB,sC];refine doneK (by kernel_rfl) ?_ _;go_wp2;go_meet;exact ⟨by rw [hri];rfl,hide (chain HT0.out HB1.out)⟩
     case rest=>
      obtain ⟨rfl,HT1⟩:=hcut
      cases hri:cRi c with
      | false=>
       have HF2:Hid (false=csR L):=by rw [← HE2.out,HS.out,hri];exact hide rfl
       go_wp2;go_ret;exact ⟨ret_bR HF2.out,HT1.out⟩
      | true=>
       have HE3:Hid (cRs (preC L (0+1)) (L.drop (0+1))=csR L):=by
        have:=HE2.out;rw [HS.out,hri,Bool.true_and] at this;exact this
       go_wp2;go_roundw
       case rel=>exact ⟨0+1,by omega,by go_num,HE3,HT1⟩
       case measure=>simp [Go.RowKit.intOf];omega
    | succ k=>
     obtain ⟨b0,hb0⟩:∃ c,L[k]?=some c:=⟨L[k]'(by have:=HN.out;omega),List.getElem?_eq_getElem _⟩;have HS:=hide (cRs_some hb0 HCk.out);have HAh:=hide (cmpK_ge b0 c)
     go_cut [31] (fun v w'=>v=.bool (!(cRi c && cAh b0 c))∧Hid (Below w.heap.size w w'))
     case first=>
      cases hri:cRi c with
      | false=>
       have HS0:(fun W=>Below W0.heap.size W0 W) W0.drew:=(Below.refl _ _).drew;refine regionK (fun W=>Below W0.heap.size W0 W) 99 (by kernel_rfl) ?_;refine tkL (i:=0) (v:=.agg (ceArr c)) rfl rfl HS0 (fun W hW=>?_) ?_
       ·obtain ⟨x0,x1,x2,x3,x4,x5,x6,x7,x8,x9,x10,x11,x12,x13,x14⟩:=cec_past HK0.out hW
        clear hW;go_simp
       simp only [sA,sB,sC];refine onE (i:=1) rfl (fun K hK=>?_);go_simp;refine (c_cellRight c (OK.out c HMm.out) (SM.out c HMm.out) (SS.out c HMm.out) (HMx.out.past (chain HT0.out HS0)) (ag_past (HA.out.2 c HMm.out) (chain HT0.out HS0))).mono ?_;rintro e w1 ⟨rfl,hb1⟩;rw [hri];have HB1:Hid (Below W0.heap.size W0 w1):=(HS0:Below W0.heap.size W0 W0.drew).trans (hb1.mono (Nat.le_refl _));clear hb1;dsimp only;refine hK.out _ _ (fun _=>HB1.out) ?_;clear hK K
       try simp only [Act.put,sA,sB,sC]
       refine tkS (i:=2) (v:=.bool true) rfl rfl HB1.out ?_;refine tkS (i:=3) (v:=.bool true) rfl rfl HB1.out ?_;refine tkU (i:=4) rfl rfl HB1.out ?_;simp only [sA,sB,sC];refine tkU (i:=5) rfl rfl HB1.out ?_;refine tkU (i:=6) rfl rfl HB1.out ?_;refine tkU (i:=7) rfl rfl HB1.out ?_;simp only [sA,sB,sC];refine tkU (i:=8) rfl rfl HB1.out ?_;refine tkU (i:=9) rfl rfl HB1.out ?_;refine tkU (i:=10) rfl rfl HB1.out ?_;simp only [sA,sB,sC];refine tkU (i:=11) rfl rfl HB1.out ?_;refine tkU (i:=12) rfl rfl HB1.out ?_;simp only [sA,sB,sC];refine onE (i:=13) rfl (fun K hK=>?_);refine Eq.mpr (if_neg (fun h=>Bool.noConfusion (show false=true from h))) ?_;refine hK.out _ _ (fun _=>HB1.out) ?_;clear hK K
       try simp only [Act.put,sA,sB,sC]
       refine tkU (i:=14) rfl rfl HB1.out ?_;refine tkU (i:=15) rfl rfl HB1.out ?_;refine tkS (i:=16) (v:=.bool true) rfl rfl HB1.out ?_;simp only [sA,sB,sC];refine doneK (by kernel_rfl) ?_ _;go_wp2;go_meet;exact ⟨by rw [hri];rfl,hide (chain HT0.out HB1.out)⟩
      | true=>
       cases hah:cAh b0 c with
       | false=>
        have dge:decide (0≤cmpK b0.n b0.s c.n c.s)=true:=by rw [HAh.out,hah];rfl
        have HH:=hide hah;clear HAh hah;have HS0:(fun W=>Below W0.heap.size W0 W) W0.drew:=(Below.refl _ _).drew;refine regionK (fun W=>Below W0.heap.size W0 W) 99 (by kernel_rfl) ?_;refine tkL (i:=0) (v:=.agg (ceArr c)) rfl rfl HS0 (fun W hW=>?_) ?_
        ·obtain ⟨x0,x1,x2,x3,x4,x5,x6,x7,x8,x9,x10,x11,x12,x13,x14⟩:=cec_past HK0.out hW
         clear hW;go_simp
        simp only [sA,sB,sC];refine onE (i:=1) rfl (fun K hK=>?_);go_simp;refine (c_cellRight c (OK.out c HMm.out) (SM.out c HMm.out) (SS.out c HMm.out) (HMx.out.past (chain HT0.out HS0)) (ag_past (HA.out.2 c HMm.out) (chain HT0.out HS0))).mono ?_;rintro e w1 ⟨rfl,hb1⟩;rw [hri];have HB1:Hid (Below W0.heap.size W0 w1):=(HS0:Below W0.heap.size W0 W0.drew).trans (hb1.mono (Nat.le_refl _));clear hb1;dsimp only;refine hK.out _ _ (fun _=>HB1.out) ?_;clear hK K
        try simp only [Act.put,sA,sB,sC]
        refine tkS (i:=2) (v:=.bool false) rfl rfl HB1.out ?_;refine tkS (i:=3) (v:=.bool false) rfl rfl HB1.out ?_;refine tkS (i:=4) (v:=.int .i64 ((k+1:Nat):Int)) rfl rfl HB1.out ?_;simp only [sA,sB,sC];refine tkS (i:=5) (v:=.bool true) rfl rfl HB1.out ?_;refine tkS (i:=6) (v:=.bool true) rfl rfl HB1.out ?_;refine tkS (i:=7) (v:=.slice (some ⟨b,off,none⟩) N ca) rfl rfl HB1.out ?_;simp only [sA,sB,sC];refine tkS (i:=8) (v:=.int .i64 ((k+1:Nat):Int)) rfl rfl HB1.out ?_;refine tkL (i:=9) (v:=.int .i64 (k:Int)) rfl rfl HB1.out (fun W hW=>?_) ?_
        ·have hwk:IntKind.i64.wrap (k:Int)=(k:Int):=by rw [IntKind.wrap_i64];omega
         clear hW;go_simp
        refine tkL (i:=10) (v:=.pointer (some ⟨b,off+k*15,none⟩)) rfl rfl HB1.out (fun W hW=>?_) ?_
        ·have hkN:¬ N≤k:=by omega
         clear hW;go_simp
        simp only [sA,sB,sC];refine tkL (i:=11) (v:=.agg (ceArr b0)) rfl rfl HB1.out (fun W hW=>?_) ?_
        ·obtain ⟨y0,y1,y2,y3,y4,y5,y6,y7,y8,y9,y10,y11,y12,y13,y14⟩:=cec_past (HCe.out k b0 hb0) (chain HT0.out hW)
         clear hW;go_simp
        refine tkL (i:=12) (v:=.agg (ceArr c)) rfl rfl HB1.out (fun W hW=>?_) ?_
        ·obtain ⟨x0,x1,x2,x3,x4,x5,x6,x7,x8,x9,x10,x11,x12,x13,x14⟩:=cec_past HK0.out hW
         clear hW;go_simp
        simp only [sA,sB,sC];refine onE (i:=13) rfl (fun K hK=>?_);go_simp;refine (c_compareCells b0 c).mono ?_;rintro e w2 ⟨rfl,hb2⟩;have HB2:Hid (Below W0.heap.size W0 w2):=chain HB1.out hb2;clear hb2;dsimp only;refine hK.out _ _ (fun _=>HB2.out) ?_;clear hK K
        try simp only [Act.put,sA,sB,sC]
        refine tkS (i:=14) (v:=.bool true) rfl rfl HB2.out ?_;refine tkS (i:=15) (v:=.bool true) rfl rfl HB2.out ?_;refine tkS (i:=16) (v:=.bool true) rfl rfl HB2.out ?_;simp only [sA,sB,sC];refine doneK (by kernel_rfl) ?_ _;go_wp2;go_meet;exact ⟨by rw [hri,HH.out];rfl,hide (chain HT0.out HB2.out)⟩
       | true=>
        have dge:decide (0≤cmpK b0.n b0.s c.n c.s)=false:=by rw [HAh.out,hah];rfl
        have HH:=hide hah;clear HAh hah;have HS0:(fun W=>Below W0.heap.size W0 W) W0.drew:=(Below.refl _ _).drew;refine regionK (fun W=>Below W0.heap.size W0 W) 99 (by kernel_rfl) ?_;refine tkL (i:=0) (v:=.agg (ceArr c)) rfl rfl HS0 (fun W hW=>?_) ?_
        ·obtain ⟨x0,x1,x2,x3,x4,x5,x6,x7,x8,x9,x10,x11,x12,x13,x14⟩:=cec_past HK0.out hW
         clear hW;go_simp
        simp only [sA,sB,sC];refine onE (i:=1) rfl (fun K hK=>?_);go_simp;refine (c_cellRight c (OK.out c HMm.out) (SM.out c HMm.out) (SS.out c HMm.out) (HMx.out.past (chain HT0.out HS0)) (ag_past (HA.out.2 c HMm.out) (chain HT0.out HS0))).mono ?_;rintro e w1 ⟨rfl,hb1⟩;rw [hri];have HB1:Hid (Below W0.heap.size W0 w1):=(HS0:Below W0.heap.size W0 W0.drew).trans (hb1.mono (Nat.le_refl _));clear hb1;dsimp only;refine hK.out _ _ (fun _=>HB1.out) ?_;clear hK K
        try simp only [Act.put,sA,sB,sC]
        refine tkS (i:=2) (v:=.bool false) rfl rfl HB1.out ?_;refine tkS (i:=3) (v:=.bool false) rfl rfl HB1.out ?_;refine tkS (i:=4) (v:=.int .i64 ((k+1:Nat):Int)) rfl rfl HB1.out ?_;simp only [sA,sB,sC];refine tkS (i:=5) (v:=.bool true) rfl rfl HB1.out ?_;refine tkS (i:=6) (v:=.bool true) rfl rfl HB1.out ?_;refine tkS (i:=7) (v:=.slice (some ⟨b,off,none⟩) N ca) rfl rfl HB1.out ?_;simp only [sA,sB,sC];refine tkS (i:=8) (v:=.int .i64 ((k+1:Nat):Int)) rfl rfl HB1.out ?_;refine tkL (i:=9) (v:=.int .i64 (k:Int)) rfl rfl HB1.out (fun W hW=>?_) ?_
        ·have hwk:IntKind.i64.wrap (k:Int)=(k:Int):=by rw [IntKind.wrap_i64];omega
         clear hW;go_simp
        refine tkL (i:=10) (v:=.pointer (some ⟨b,off+k*15,none⟩)) rfl rfl HB1.out (fun W hW=>?_) ?_
        ·have hkN:¬ N≤k:=by omega
         clear hW;go_simp
        simp only [sA,sB,sC];refine tkL (i:=11) (v:=.agg (ceArr b0)) rfl rfl HB1.out (fun W hW=>?_) ?_
        ·obtain ⟨y0,y1,y2,y3,y4,y5,y6,y7,y8,y9,y10,y11,y12,y13,y14⟩:=cec_past (HCe.out k b0 hb0) (chain HT0.out hW)
         clear hW;go_simp
        refine tkL (i:=12) (v:=.agg (ceArr c)) rfl rfl HB1.out (fun W hW=>?_) ?_
        ·obtain ⟨x0,x1,x2,x3,x4,x5,x6,x7,x8,x9,x10,x11,x12,x13,x14⟩:=cec_past HK0.out hW
         clear hW;go_simp
        simp only [sA,sB,sC];refine onE (i:=13) rfl (fun K hK=>?_);go_simp;refine (c_compareCells b0 c).mono ?_;rintro e w2 ⟨rfl,hb2⟩;have HB2:Hid (Below W0.heap.size W0 w2):=chain HB1.out hb2;clear hb2;dsimp only;refine hK.out _ _ (fun _=>HB2.out) ?_;clear hK K
        try simp only [Act.put,sA,sB,sC]
        refine tkS (i:=14) (v:=.bool false) rfl rfl HB2.out ?_;refine tkS (i:=15) (v:=.bool false) rfl rfl HB2.out ?_;refine tkS (i:=16) (v:=.bool false) rfl rfl HB2.out ?_;simp only [sA,sB,sC];refine doneK (by kernel_rfl) ?_ _;go_wp2;go_meet;exact ⟨by rw [hri,HH.out];rfl,hide (chain HT0.out HB2.out)⟩
     case rest=>
      obtain ⟨rfl,HT1⟩:=hcut
      cases hri:(cRi c && cAh b0 c) with
      | false=>
       have HF2:Hid (false=csR L):=by rw [← HE2.out,HS.out,hri];exact hide rfl
       go_wp2;go_ret;exact ⟨ret_bR HF2.out,HT1.out⟩
      | true=>
       have HE3:Hid (cRs (preC L (k+1+1)) (L.drop (k+1+1))=csR L):=by
        have:=HE2.out;rw [HS.out,hri,Bool.true_and] at this;exact this
       go_wp2;go_roundw
       case rel=>exact ⟨k+1+1,by omega,by go_num,HE3,HT1⟩
       case measure=>simp [Go.RowKit.intOf];omega
   ·obtain rfl:N=k:=by omega
    have HF2:Hid (true=csR L):=by
     rw [← HE2.out,List.drop_eq_nil_of_le (by have:=HN.out;omega)]
     cases preC L N <;> exact hide rfl
    go_wp2;go_ret;exact ⟨ret_bR HF2.out,HBl.out⟩
 ·have d1:decide ((60:Int)<(N:Int))=true:=decide_eq_true (by omega)
  have HF:Hid (false=csR L):=by rw [HE.out,decide_eq_false h1];exact hide rfl
  go_enter Tryz.func107,Tryz.ntmps107;go_wp2;go_ret;exact ⟨ret_bR HF.out,Below.refl _ _⟩
end Go.Proofs.YtmjogablacnlgaaGreatDoor
