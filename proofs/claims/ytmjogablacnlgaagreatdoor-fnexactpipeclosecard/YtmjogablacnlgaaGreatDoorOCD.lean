/-
 Right cells: the model.
-/
import Derived.Test.YtmjogablacnlgaaGreatDoorOCB
import Derived.Test.YtmjogablacnlgaaGreatDoorOSD
namespace Go.Proofs.YtmjogablacnlgaaGreatDoor
set_option linter.unusedVariables false
set_option linter.unusedSimpArgs false
open Go.ChangeShapes Go.WideShapes Go.ChangeAt Go.RowKit Go.PlainAid Go.Lib
set_option maxRecDepth 10000
theorem ret_bS {a b:Bool} (h:a=b):Ending.returned (.bool a)=.returned (.bool b):=by rw [h]
theorem c_l01IsW (n lo hi:Int) (w:World):Calls Tryz.prog 35 #[.int .i64 n,.int .i64 lo,.int .i64 hi] w fun e w'=>e=.returned (.bool (decide (lo≤n) && decide (n≤hi)))∧w'=w:=by
 by_cases h1:lo≤n <;> by_cases h2:n≤hi <;> (go_enter Tryz.func35,Tryz.ntmps35;go_wp2;go_ret;exact ⟨by simp [h1,h2],rfl⟩)
theorem c_l08Window (n:Int) (w:World):Calls Tryz.prog 36 #[.int .i64 n] w fun e w'=>e=.returned (.bool (winB n))∧w'=w:=by
 go_enter Tryz.func36,Tryz.ntmps36;go_wp2_with (go_at_call 35;refine (c_l01IsW _ _ _ _).mono ?_;rintro e w1 ⟨rfl,hw1⟩;obtain rfl:=hw1);go_ret;exact ⟨rfl,rfl⟩
set_option maxHeartbeats 2000000 in
theorem c_l08Ahead (c:Ce) (n:Int) (s:ByteArray) (w:World) :
  Calls Tryz.prog 104 #[.agg (ceArr c),.int .i64 n,.string s] w fun e w'=>e=.returned (.bool (decide (c.n<n) || ((c.n == n) && strLt c.s s)))∧Below w.heap.size w w':=by
 have HB0:Hid (Below w.heap.size w (w.alloc (.cells (ceArr c) 69))):=(Below.refl _ _).alloc (Nat.le_refl _) _;obtain ⟨B,hB⟩:∃ B,strLt c.s s=B:=⟨_,rfl⟩;have HL:=hide hB;by_cases h1:c.n<n
 ·have HE:Hid (true=(decide (c.n<n) || ((c.n == n) && strLt c.s s))):=(by simp [h1]:true=(decide (c.n<n) || ((c.n == n) && strLt c.s s)))
  generalize (decide (c.n<n) || ((c.n == n) && strLt c.s s))=Z at HE ⊢;go_enter Tryz.func104,Tryz.ntmps104;go_wp2;go_ret;exact ⟨ret_bS HE.out,HB0.out⟩
 ·by_cases h2:c.n=n
  ·have HE:Hid (B=(decide (c.n<n) || ((c.n == n) && strLt c.s s))):=(by simp [h2,hB]:B=(decide (c.n<n) || ((c.n == n) && strLt c.s s)))
   generalize (decide (c.n<n) || ((c.n == n) && strLt c.s s))=Z at HE ⊢;have b2:(c.n == n)=true:=by simp [h2]
   have hbl:Op.bytesLess c.s.toList s.toList=B:=hB;clear h2 hB HL;go_enter Tryz.func104,Tryz.ntmps104
   cases B <;> (go_wp2;go_ret;exact ⟨ret_bS HE.out,HB0.out⟩)
  ·have HE:Hid (false=(decide (c.n<n) || ((c.n == n) && strLt c.s s))):=(by simp [h1,h2]:false=(decide (c.n<n) || ((c.n == n) && strLt c.s s)))
   generalize (decide (c.n<n) || ((c.n == n) && strLt c.s s))=Z at HE ⊢;have b2:(c.n == n)=false:=beq_eq_false_iff_ne.2 h2;clear h2;go_enter Tryz.func104,Tryz.ntmps104;go_wp2;go_ret;exact ⟨ret_bS HE.out,HB0.out⟩
set_option maxHeartbeats 16000000 in
theorem c_s_CellsRight {w:World} {ao:Option Addr} {N ca:Nat} {L:List Ce} (hN:L.length=N) (lN:N≤1048576) (ok:∀ c∈L,AgOk c.g) (sm:∀ c∈L,AgSm c.g) (ss:∀ c∈L,c.s.size≤maxLen) (hA:CesAt w ao L) :
  Calls Tryz.prog 77 #[.slice ao N ca] w fun e w'=>e=.returned (.bool (csR L))∧Below w.heap.size w w':=by
 have HE:Hid (csR L=(decide (N≤60) && cRs none L)):=by unfold csR;rw [hN];exact hide rfl
 have HN:=hide hN;have OK:=hide ok;have SM:=hide sm;have SS:=hide ss;have HA:=hide hA;clear hN ok sm ss hA;by_cases h1:N≤60
 ·have d1:decide ((60:Int)<(N:Int))=false:=decide_eq_false (by omega)
  have HF:Hid (cRs (preC L 0) (L.drop 0)=csR L):=by rw [HE.out,decide_eq_true h1];exact hide rfl
  go_enter Tryz.func77,Tryz.ntmps77;go_wp2
  go_loopw [3] (fun i wr=>∃ k:Nat,k≤N∧i=.int .i64 k∧Hid (cRs (preC L k) (L.drop k)=csR L)∧Hid (Below w.heap.size w wr)) (fun i wr=>N - (Go.RowKit.intOf i).toNat)
  case atStart=>exact ⟨0,Nat.zero_le _,rfl,HF,Below.refl _ _⟩
  case round=>
   obtain ⟨k,hk,rfl,HE2,HBl⟩:=hrel;by_cases hkn:k<N
   ·have hkni:(k:Int)<(N:Int):=by omega
    obtain ⟨b,off,e,hcell⟩:=HA.out.1 (by have:=HN.out;omega);subst e;obtain ⟨c,hc⟩:∃ c,L[k]?=some c:=⟨L[k]'(by have:=HN.out;omega),List.getElem?_eq_getElem _⟩;have hmm:=List.mem_of_getElem? hc;have HMm:=hide hmm;have HCk:=hide hc;obtain ⟨x0,x1,x2,x3,x4,x5,x6,x7,x8,x9,x10,x11,x12,x13,x14⟩:=cec_past (hcell k c hc) HBl.out;have HCe:=hide hcell;clear hcell hc hmm;go_upto_region 7 with fail;clear x0 x1 x2 x3 x4 x5 x6 x7 x8 x9 x10 x11 x12 x13 x14;have hW1:Below wr.heap.size wr (wr.alloc (.cells (ceArr c) 69)):=(Below.refl _ _).alloc (Nat.le_refl _) _;have K0:=cec_new wr 69 c;generalize hW0:wr.alloc (.cells (ceArr c) 69)=W0 at hW1 K0 ⊢;have HT0:=hide (chain HBl.out hW1);have HK0:=hide K0;clear hW0 hW1 K0
    cases k with
    | zero=>
     have HS:=hide (cRs_none HCk.out)
     go_cut [56] (fun v w'=>v=.bool (!cRi c)∧Hid (Below w.heap.size w w'))
     case first=>
      cases hw:winB c.n with
      | false=>
       have HR:Hid ((!cRi c)=true):=(by simp [cRi,hw]:(!cRi c)=true);have HS0:(fun W=>Below W0.heap.size W0 W) W0.drew:=(Below.refl _ _).drew;refine regionK (fun W=>Below W0.heap.size W0 W) 99 (by kernel_rfl) ?_;refine tkS (i:=0) (v:=.pointer (some ⟨wr.heap.size,0,none⟩)) rfl rfl HS0 ?_;refine tkL (i:=1) (v:=.int .i64 c.n) rfl rfl HS0 (fun W hW=>?_) ?_
       ·obtain ⟨x0,x1,x2,x3,x4,x5,x6,x7,x8,x9,x10,x11,x12,x13,x14⟩:=cec_past HK0.out hW
        clear hW;go_simp
       simp only [sA,sB,sC];refine onE (i:=2) rfl (fun K hK=>?_);go_simp;refine (c_l08Window _ _).mono ?_;rintro e wz ⟨rfl,hwz⟩;obtain rfl:=hwz.symm;rw [hw];dsimp only;refine hK.out _ _ (fun _=>HS0) ?_;clear hK K
       try simp only [Act.put,sA,sB,sC]
       refine tkS (i:=3) (v:=.bool true) rfl rfl HS0 ?_;refine tkS (i:=4) (v:=.bool true) rfl rfl HS0 ?_;refine tkU (i:=5) rfl rfl HS0 ?_;simp only [sA,sB,sC];refine tkU (i:=6) rfl rfl HS0 ?_;simp only [sA,sB,sC];refine onE (i:=7) rfl (fun K hK=>?_);refine Eq.mpr (if_neg (fun h=>Bool.noConfusion (show false=true from h))) ?_;refine hK.out _ _ (fun _=>HS0) ?_;clear hK K
       try simp only [Act.put,sA,sB,sC]
       refine tkU (i:=8) rfl rfl HS0 ?_;refine tkS (i:=9) (v:=.bool true) rfl rfl HS0 ?_;refine tkS (i:=10) (v:=.bool true) rfl rfl HS0 ?_;simp only [sA,sB,sC];refine tkU (i:=11) rfl rfl HS0 ?_;refine tkU (i:=12) rfl rfl HS0 ?_;simp only [sA,sB,sC];refine onE (i:=13) rfl (fun K hK=>?_);refine Eq.mpr (if_neg (fun h=>Bool.noConfusion (show false=true from h))) ?_;refine hK.out _ _ (fun _=>HS0) ?_;clear hK K
       try simp only [Act.put,sA,sB,sC]
       refine tkU (i:=14) rfl rfl HS0 ?_;refine tkS (i:=15) (v:=.bool true) rfl rfl HS0 ?_;refine tkS (i:=16) (v:=.bool true) rfl rfl HS0 ?_;simp only [sA,sB,sC];refine tkU (i:=17) rfl rfl HS0 ?_;refine tkU (i:=18) rfl rfl HS0 ?_;refine tkU (i:=19) rfl rfl HS0 ?_;simp only [sA,sB,sC];refine tkU (i:=20) rfl rfl HS0 ?_;refine tkS (i:=21) (v:=.bool true) rfl rfl HS0 ?_;refine tkS (i:=22) (v:=.bool true) rfl rfl HS0 ?_;simp only [sA,sB,sC];refine tkU (i:=23) rfl rfl HS0 ?_;refine tkU (i:=24) rfl rfl HS0 ?_;refine tkU (i:=25) rfl rfl HS0 ?_;simp only [sA,sB,sC];refine tkU (i:=26) rfl rfl HS0 ?_;refine tkU (i:=27) rfl rfl HS0 ?_;refine tkU (i:=28) rfl rfl HS0 ?_;simp only [sA,sB,sC];refine tkU (i:=29) rfl rfl HS0 ?_;refine tkU (i:=30) rfl rfl HS0 ?_;refine tkU (i:=31) rfl rfl HS0 ?_;simp only [sA,sB,sC];refine tkU (i:=32) rfl rfl HS0 ?_;refine tkU (i:=33) rfl rfl HS0 ?_;refine tkU (i:=34) rfl rfl HS0 ?_;simp only [sA,sB,sC];refine onE (i:=35) rfl (fun K hK=>?_);refine Eq.mpr (if_neg (fun h=>Bool.noConfusion (show false=true from h))) ?_;refine hK.out _ _ (fun _=>HS0) ?_;clear hK K
       try simp only [Act.put,sA,sB,sC]
       refine tkU (i:=36) rfl rfl HS0 ?_;refine tkU (i:=37) rfl rfl HS0 ?_;refine tkS (i:=38) (v:=.bool true) rfl rfl HS0 ?_;simp only [sA,sB,sC];refine doneK (by kernel_rfl) ?_ _;go_wp2;go_meet;exact ⟨by rw [HR.out],hide (chain HT0.out HS0)⟩
      | true=>
       cases hs:serRB c.s with
       | false=>
        have HR:Hid ((!cRi c)=true):=(by simp [cRi,hs]:(!cRi c)=true);have HS0:(fun W=>Below W0.heap.size W0 W) W0.drew:=(Below.refl _ _).drew;refine regionK (fun W=>Below W0.heap.size W0 W) 99 (by kernel_rfl) ?_;refine tkS (i:=0) (v:=.pointer (some ⟨wr.heap.size,0,none⟩)) rfl rfl HS0 ?_;refine tkL (i:=1) (v:=.int .i64 c.n) rfl rfl HS0 (fun W hW=>?_) ?_
        ·obtain ⟨x0,x1,x2,x3,x4,x5,x6,x7,x8,x9,x10,x11,x12,x13,x14⟩:=cec_past HK0.out hW
         clear hW;go_simp
        simp only [sA,sB,sC];refine onE (i:=2) rfl (fun K hK=>?_);go_simp;refine (c_l08Window _ _).mono ?_;rintro e wz ⟨rfl,hwz⟩;obtain rfl:=hwz.symm;rw [hw];dsimp only;refine hK.out _ _ (fun _=>HS0) ?_;clear hK K
        try simp only [Act.put,sA,sB,sC]
        refine tkS (i:=3) (v:=.bool false) rfl rfl HS0 ?_;refine tkS (i:=4) (v:=.bool false) rfl rfl HS0 ?_;refine tkS (i:=5) (v:=.pointer (some ⟨wr.heap.size,1,none⟩)) rfl rfl HS0 ?_;simp only [sA,sB,sC];refine tkL (i:=6) (v:=.string c.s) rfl rfl HS0 (fun W hW=>?_) ?_
        ·obtain ⟨x0,x1,x2,x3,x4,x5,x6,x7,x8,x9,x10,x11,x12,x13,x14⟩:=cec_past HK0.out hW
         clear hW;go_simp
        simp only [sA,sB,sC];refine onE (i:=7) rfl (fun K hK=>?_);go_simp;refine (c_s_SeriesRight c.s (SS.out c HMm.out)).mono ?_;rintro e w1 ⟨rfl,hb1⟩;rw [hs];have HB1:Hid (Below W0.heap.size W0 w1):=(HS0:Below W0.heap.size W0 W0.drew).trans (hb1.mono (Nat.le_refl _));clear hb1;dsimp only;refine hK.out _ _ (fun _=>HB1.out) ?_;clear hK K
        try simp only [Act.put,sA,sB,sC]
        refine tkS (i:=8) (v:=.bool true) rfl rfl HB1.out ?_;refine tkS (i:=9) (v:=.bool true) rfl rfl HB1.out ?_;refine tkS (i:=10) (v:=.bool true) rfl rfl HB1.out ?_;simp only [sA,sB,sC];refine tkU (i:=11) rfl rfl HB1.out ?_;refine tkU (i:=12) rfl rfl HB1.out ?_;simp only [sA,sB,sC];refine onE (i:=13) rfl (fun K hK=>?_);refine Eq.mpr (if_neg (fun h=>Bool.noConfusion (show false=true from h))) ?_;refine hK.out _ _ (fun _=>HB1.out) ?_;clear hK K
        try simp only [Act.put,sA,sB,sC]
        refine tkU (i:=14) rfl rfl HB1.out ?_;refine tkS (i:=15) (v:=.bool true) rfl rfl HB1.out ?_;refine tkS (i:=16) (v:=.bool true) rfl rfl HB1.out ?_;simp only [sA,sB,sC];refine tkU (i:=17) rfl rfl HB1.out ?_;refine tkU (i:=18) rfl rfl HB1.out ?_;refine tkU (i:=19) rfl rfl HB1.out ?_;simp only [sA,sB,sC];refine tkU (i:=20) rfl rfl HB1.out ?_;refine tkS (i:=21) (v:=.bool true) rfl rfl HB1.out ?_;refine tkS (i:=22) (v:=.bool true) rfl rfl HB1.out ?_;simp only [sA,sB,sC];refine tkU (i:=23) rfl rfl HB1.out ?_;refine tkU (i:=24) rfl rfl HB1.out ?_;refine tkU (i:=25) rfl rfl HB1.out ?_;simp only [sA,sB,sC];refine tkU (i:=26) rfl rfl HB1.out ?_;refine tkU (i:=27) rfl rfl HB1.out ?_;refine tkU (i:=28) rfl rfl HB1.out ?_;simp only [sA,sB,sC];refine tkU (i:=29) rfl rfl HB1.out ?_;refine tkU (i:=30) rfl rfl HB1.out ?_;refine tkU (i:=31) rfl rfl HB1.out ?_;simp only [sA,sB,sC];refine tkU (i:=32) rfl rfl HB1.out ?_;refine tkU (i:=33) rfl rfl HB1.out ?_;refine tkU (i:=34) rfl rfl HB1.out ?_;simp only [sA,sB,sC];refine onE (i:=35) rfl (fun K hK=>?_);refine Eq.mpr (if_neg (fun h=>Bool.noConfusion (show false=true from h))) ?_;refine hK.out _ _ (fun _=>HB1.out) ?_;clear hK K
        try simp only [Act.put,sA,sB,sC]
        refine tkU (i:=36) rfl rfl HB1.out ?_;refine tkU (i:=37) rfl rfl HB1.out ?_;refine tkS (i:=38) (v:=.bool true) rfl rfl HB1.out ?_;simp only [sA,sB,sC];refine doneK (by kernel_rfl) ?_ _;go_wp2;go_meet;exact ⟨by rw [HR.out],hide (chain HT0.out HB1.out)⟩
       | true=>
        cases ha:agB c.g with
        | false=>
         have HR:Hid ((!cRi c)=true):=(by simp [cRi,ha]:(!cRi c)=true);have HS0:(fun W=>Below W0.heap.size W0 W) W0.drew:=(Below.refl _ _).drew;refine regionK (fun W=>Below W0.heap.size W0 W) 99 (by kernel_rfl) ?_;refine tkS (i:=0) (v:=.pointer (some ⟨wr.heap.size,0,none⟩)) rfl rfl HS0 ?_;refine tkL (i:=1) (v:=.int .i64 c.n) rfl rfl HS0 (fun W hW=>?_) ?_
         ·obtain ⟨x0,x1,x2,x3,x4,x5,x6,x7,x8,x9,x10,x11,x12,x13,x14⟩:=cec_past HK0.out hW
          clear hW;go_simp
         simp only [sA,sB,sC];refine onE (i:=2) rfl (fun K hK=>?_);go_simp;refine (c_l08Window _ _).mono ?_;rintro e wz ⟨rfl,hwz⟩;obtain rfl:=hwz.symm;rw [hw];dsimp only;refine hK.out _ _ (fun _=>HS0) ?_;clear hK K
         try simp only [Act.put,sA,sB,sC]
         refine tkS (i:=3) (v:=.bool false) rfl rfl HS0 ?_;refine tkS (i:=4) (v:=.bool false) rfl rfl HS0 ?_;refine tkS (i:=5) (v:=.pointer (some ⟨wr.heap.size,1,none⟩)) rfl rfl HS0 ?_;simp only [sA,sB,sC];refine tkL (i:=6) (v:=.string c.s) rfl rfl HS0 (fun W hW=>?_) ?_
         ·obtain ⟨x0,x1,x2,x3,x4,x5,x6,x7,x8,x9,x10,x11,x12,x13,x14⟩:=cec_past HK0.out hW
          clear hW;go_simp
         simp only [sA,sB,sC];refine onE (i:=7) rfl (fun K hK=>?_);go_simp;refine (c_s_SeriesRight c.s (SS.out c HMm.out)).mono ?_;rintro e w1 ⟨rfl,hb1⟩;rw [hs];have HB1:Hid (Below W0.heap.size W0 w1):=(HS0:Below W0.heap.size W0 W0.drew).trans (hb1.mono (Nat.le_refl _));clear hb1;dsimp only;refine hK.out _ _ (fun _=>HB1.out) ?_;clear hK K
         try simp only [Act.put,sA,sB,sC]
         refine tkS (i:=8) (v:=.bool false) rfl rfl HB1.out ?_;refine tkS (i:=9) (v:=.bool false) rfl rfl HB1.out ?_;refine tkS (i:=10) (v:=.bool false) rfl rfl HB1.out ?_;simp only [sA,sB,sC];refine tkS (i:=11) (v:=.pointer (some ⟨wr.heap.size,2,none⟩)) rfl rfl HB1.out ?_;refine tkL (i:=12) (v:=.agg (agArr c.g c.p)) rfl rfl HB1.out (fun W hW=>?_) ?_
         ·obtain ⟨x0,x1,x2,x3,x4,x5,x6,x7,x8,x9,x10,x11,x12,x13,x14⟩:=cec_past HK0.out hW
          clear hW;go_simp
         simp only [sA,sB,sC];refine onE (i:=13) rfl (fun K hK=>?_);go_simp;refine (c_s_AggRight (g:=c.g) (p:=c.p) (OK.out c HMm.out) (SM.out c HMm.out) (ag_past (HA.out.2 c HMm.out) (chain HT0.out HB1.out))).mono ?_;rintro e w2 ⟨rfl,hb2⟩;rw [ha];have HB2:Hid (Below W0.heap.size W0 w2):=chain HB1.out hb2;clear hb2;dsimp only;refine hK.out _ _ (fun _=>HB2.out) ?_;clear hK K
         try simp only [Act.put,sA,sB,sC]
         refine tkS (i:=14) (v:=.bool true) rfl rfl HB2.out ?_;refine tkS (i:=15) (v:=.bool true) rfl rfl HB2.out ?_;refine tkS (i:=16) (v:=.bool true) rfl rfl HB2.out ?_;simp only [sA,sB,sC];refine tkU (i:=17) rfl rfl HB2.out ?_;refine tkU (i:=18) rfl rfl HB2.out ?_;refine tkU (i:=19) rfl rfl HB2.out ?_;simp only [sA,sB,sC];refine tkU (i:=20) rfl rfl HB2.out ?_;refine tkS (i:=21) (v:=.bool true) rfl rfl HB2.out ?_;refine tkS (i:=22) (v:=.bool true) rfl rfl HB2.out ?_;simp only [sA,sB,sC];refine tkU (i:=23) rfl rfl HB2.out ?_;refine tkU (i:=24) rfl rfl HB2.out ?_;refine tkU (i:=25) rfl rfl HB2.out ?_;simp only [sA,sB,sC];refine tkU (i:=26) rfl rfl HB2.out ?_;refine tkU (i:=27) rfl rfl HB2.out ?_;refine tkU (i:=28) rfl rfl HB2.out ?_;simp only [sA,sB,sC];refine tkU (i:=29) rfl rfl HB2.out ?_;refine tkU (i:=30) rfl rfl HB2.out ?_;refine tkU (i:=31) rfl rfl HB2.out ?_;simp only [sA,sB,sC];refine tkU (i:=32) rfl rfl HB2.out ?_;refine tkU (i:=33) rfl rfl HB2.out ?_;refine tkU (i:=34) rfl rfl HB2.out ?_;simp only [sA,sB,sC];refine onE (i:=35) rfl (fun K hK=>?_);refine Eq.mpr (if_neg (fun h=>Bool.noConfusion (show false=true from h))) ?_;refine hK.out _ _ (fun _=>HB2.out) ?_;clear hK K
         try simp only [Act.put,sA,sB,sC]
         refine tkU (i:=36) rfl rfl HB2.out ?_;refine tkU (i:=37) rfl rfl HB2.out ?_;refine tkS (i:=38) (v:=.bool true) rfl rfl HB2.out ?_;simp only [sA,sB,sC];refine doneK (by kernel_rfl) ?_ _;go_wp2;go_meet;exact ⟨by rw [HR.out],hide (chain HT0.out HB2.out)⟩
        | true=>
         by_cases hz:c.g.s=0
         ·have HR:Hid ((!cRi c)=true):=(by simp [cRi,hz]:(!cRi c)=true)
          have bz:(c.g.s == 0)=true:=by simp [hz]
          clear hz;have HS0:(fun W=>Below W0.heap.size W0 W) W0.drew:=(Below.refl _ _).drew;refine regionK (fun W=>Below W0.heap.size W0 W) 99 (by kernel_rfl) ?_;refine tkS (i:=0) (v:=.pointer (some ⟨wr.heap.size,0,none⟩)) rfl rfl HS0 ?_;refine tkL (i:=1) (v:=.int .i64 c.n) rfl rfl HS0 (fun W hW=>?_) ?_
          ·obtain ⟨x0,x1,x2,x3,x4,x5,x6,x7,x8,x9,x10,x11,x12,x13,x14⟩:=cec_past HK0.out hW
           clear hW;go_simp
          simp only [sA,sB,sC];refine onE (i:=2) rfl (fun K hK=>?_);go_simp;refine (c_l08Window _ _).mono ?_;rintro e wz ⟨rfl,hwz⟩;obtain rfl:=hwz.symm;rw [hw];dsimp only;refine hK.out _ _ (fun _=>HS0) ?_;clear hK K
          try simp only [Act.put,sA,sB,sC]
          refine tkS (i:=3) (v:=.bool false) rfl rfl HS0 ?_;refine tkS (i:=4) (v:=.bool false) rfl rfl HS0 ?_;refine tkS (i:=5) (v:=.pointer (some ⟨wr.heap.size,1,none⟩)) rfl rfl HS0 ?_;simp only [sA,sB,sC];refine tkL (i:=6) (v:=.string c.s) rfl rfl HS0 (fun W hW=>?_) ?_
          ·obtain ⟨x0,x1,x2,x3,x4,x5,x6,x7,x8,x9,x10,x11,x12,x13,x14⟩:=cec_past HK0.out hW
           clear hW;go_simp
          simp only [sA,sB,sC];refine onE (i:=7) rfl (fun K hK=>?_);go_simp;refine (c_s_SeriesRight c.s (SS.out c HMm.out)).mono ?_;rintro e w1 ⟨rfl,hb1⟩;rw [hs];have HB1:Hid (Below W0.heap.size W0 w1):=(HS0:Below W0.heap.size W0 W0.drew).trans (hb1.mono (Nat.le_refl _));clear hb1;dsimp only;refine hK.out _ _ (fun _=>HB1.out) ?_;clear hK K
          try simp only [Act.put,sA,sB,sC]
          refine tkS (i:=8) (v:=.bool false) rfl rfl HB1.out ?_;refine tkS (i:=9) (v:=.bool false) rfl rfl HB1.out ?_;refine tkS (i:=10) (v:=.bool false) rfl rfl HB1.out ?_;simp only [sA,sB,sC];refine tkS (i:=11) (v:=.pointer (some ⟨wr.heap.size,2,none⟩)) rfl rfl HB1.out ?_;refine tkL (i:=12) (v:=.agg (agArr c.g c.p)) rfl rfl HB1.out (fun W hW=>?_) ?_
          ·obtain ⟨x0,x1,x2,x3,x4,x5,x6,x7,x8,x9,x10,x11,x12,x13,x14⟩:=cec_past HK0.out hW
           clear hW;go_simp
          simp only [sA,sB,sC];refine onE (i:=13) rfl (fun K hK=>?_);go_simp;refine (c_s_AggRight (g:=c.g) (p:=c.p) (OK.out c HMm.out) (SM.out c HMm.out) (ag_past (HA.out.2 c HMm.out) (chain HT0.out HB1.out))).mono ?_;rintro e w2 ⟨rfl,hb2⟩;rw [ha];have HB2:Hid (Below W0.heap.size W0 w2):=chain HB1.out hb2;clear hb2;dsimp only;refine hK.out _ _ (fun _=>HB2.out) ?_;clear hK K
          try simp only [Act.put,sA,sB,sC]
          refine tkS (i:=14) (v:=.bool false) rfl rfl HB2.out ?_;refine tkS (i:=15) (v:=.bool false) rfl rfl HB2.out ?_;refine tkS (i:=16) (v:=.bool false) rfl rfl HB2.out ?_;simp only [sA,sB,sC];refine tkS (i:=17) (v:=.pointer (some ⟨wr.heap.size,2,none⟩)) rfl rfl HB2.out ?_;refine tkS (i:=18) (v:=.pointer (some ⟨wr.heap.size,3,none⟩)) rfl rfl HB2.out ?_;refine tkL (i:=19) (v:=.int .u64 c.g.s) rfl rfl HB2.out (fun W hW=>?_) ?_
          ·obtain ⟨x0,x1,x2,x3,x4,x5,x6,x7,x8,x9,x10,x11,x12,x13,x14⟩:=cec_past HK0.out hW
           clear hW;go_simp
          simp only [sA,sB,sC];refine tkS (i:=20) (v:=.bool true) rfl rfl HB2.out ?_;refine tkS (i:=21) (v:=.bool true) rfl rfl HB2.out ?_;refine tkS (i:=22) (v:=.bool true) rfl rfl HB2.out ?_;simp only [sA,sB,sC];refine tkU (i:=23) rfl rfl HB2.out ?_;refine tkU (i:=24) rfl rfl HB2.out ?_;refine tkU (i:=25) rfl rfl HB2.out ?_;simp only [sA,sB,sC];refine tkU (i:=26) rfl rfl HB2.out ?_;refine tkU (i:=27) rfl rfl HB2.out ?_;refine tkU (i:=28) rfl rfl HB2.out ?_;simp only [sA,sB,sC];refine tkU (i:=29) rfl rfl HB2.out ?_;refine tkU (i:=30) rfl rfl HB2.out ?_;refine tkU (i:=31) rfl rfl HB2.out ?_;simp only [sA,sB,sC];refine tkU (i:=32) rfl rfl HB2.out ?_;refine tkU (i:=33) rfl rfl HB2.out ?_;refine tkU (i:=34) rfl rfl HB2.out ?_;simp only [sA,sB,sC];refine onE (i:=35) rfl (fun K hK=>?_);refine Eq.mpr (if_neg (fun h=>Bool.noConfusion (show false=true from h))) ?_;refine hK.out _ _ (fun _=>HB2.out) ?_;clear hK K
          try simp only [Act.put,sA,sB,sC]
          refine tkU (i:=36) rfl rfl HB2.out ?_;refine tkU (i:=37) rfl rfl HB2.out ?_;refine tkS (i:=38) (v:=.bool true) rfl rfl HB2.out ?_;simp only [sA,sB,sC];refine doneK (by kernel_rfl) ?_ _;go_wp2;go_meet;exact ⟨by rw [HR.out],hide (chain HT0.out HB2.out)⟩
         ·have HR:Hid ((!cRi c)=false):=(by simp [cRi,hw,hs,ha,hz]:(!cRi c)=false)
          have bz:(c.g.s == 0)=false:=beq_eq_false_iff_ne.2 hz;clear hz;have HS0:(fun W=>Below W0.heap.size W0 W) W0.drew:=(Below.refl _ _).drew;refine regionK (fun W=>Below W0.heap.size W0 W) 99 (by kernel_rfl) ?_;refine tkS (i:=0) (v:=.pointer (some ⟨wr.heap.size,0,none⟩)) rfl rfl HS0 ?_;refine tkL (i:=1) (v:=.int .i64 c.n) rfl rfl HS0 (fun W hW=>?_) ?_
          ·obtain ⟨x0,x1,x2,x3,x4,x5,x6,x7,x8,x9,x10,x11,x12,x13,x14⟩:=cec_past HK0.out hW
           clear hW;go_simp
          simp only [sA,sB,sC];refine onE (i:=2) rfl (fun K hK=>?_);go_simp;refine (c_l08Window _ _).mono ?_;rintro e wz ⟨rfl,hwz⟩;obtain rfl:=hwz.symm;rw [hw];dsimp only;refine hK.out _ _ (fun _=>HS0) ?_;clear hK K
          try simp only [Act.put,sA,sB,sC]
          refine tkS (i:=3) (v:=.bool false) rfl rfl HS0 ?_;refine tkS (i:=4) (v:=.bool false) rfl rfl HS0 ?_;refine tkS (i:=5) (v:=.pointer (some ⟨wr.heap.size,1,none⟩)) rfl rfl HS0 ?_;simp only [sA,sB,sC];refine tkL (i:=6) (v:=.string c.s) rfl rfl HS0 (fun W hW=>?_) ?_
          ·obtain ⟨x0,x1,x2,x3,x4,x5,x6,x7,x8,x9,x10,x11,x12,x13,x14⟩:=cec_past HK0.out hW
           clear hW;go_simp
          simp only [sA,sB,sC];refine onE (i:=7) rfl (fun K hK=>?_);go_simp;refine (c_s_SeriesRight c.s (SS.out c HMm.out)).mono ?_;rintro e w1 ⟨rfl,hb1⟩;rw [hs];have HB1:Hid (Below W0.heap.size W0 w1):=(HS0:Below W0.heap.size W0 W0.drew).trans (hb1.mono (Nat.le_refl _));clear hb1;dsimp only;refine hK.out _ _ (fun _=>HB1.out) ?_;clear hK K
          try simp only [Act.put,sA,sB,sC]
          refine tkS (i:=8) (v:=.bool false) rfl rfl HB1.out ?_;refine tkS (i:=9) (v:=.bool false) rfl rfl HB1.out ?_;refine tkS (i:=10) (v:=.bool false) rfl rfl HB1.out ?_;simp only [sA,sB,sC];refine tkS (i:=11) (v:=.pointer (some ⟨wr.heap.size,2,none⟩)) rfl rfl HB1.out ?_;refine tkL (i:=12) (v:=.agg (agArr c.g c.p)) rfl rfl HB1.out (fun W hW=>?_) ?_
          ·obtain ⟨x0,x1,x2,x3,x4,x5,x6,x7,x8,x9,x10,x11,x12,x13,x14⟩:=cec_past HK0.out hW
           clear hW;go_simp
          simp only [sA,sB,sC];refine onE (i:=13) rfl (fun K hK=>?_);go_simp;refine (c_s_AggRight (g:=c.g) (p:=c.p) (OK.out c HMm.out) (SM.out c HMm.out) (ag_past (HA.out.2 c HMm.out) (chain HT0.out HB1.out))).mono ?_;rintro e w2 ⟨rfl,hb2⟩;rw [ha];have HB2:Hid (Below W0.heap.size W0 w2):=chain HB1.out hb2;clear hb2;dsimp only;refine hK.out _ _ (fun _=>HB2.out) ?_;clear hK K
          try simp only [Act.put,sA,sB,sC]
          refine tkS (i:=14) (v:=.bool false) rfl rfl HB2.out ?_;refine tkS (i:=15) (v:=.bool false) rfl rfl HB2.out ?_;refine tkS (i:=16) (v:=.bool false) rfl rfl HB2.out ?_;simp only [sA,sB,sC];refine tkS (i:=17) (v:=.pointer (some ⟨wr.heap.size,2,none⟩)) rfl rfl HB2.out ?_;refine tkS (i:=18) (v:=.pointer (some ⟨wr.heap.size,3,none⟩)) rfl rfl HB2.out ?_;refine tkL (i:=19) (v:=.int .u64 c.g.s) rfl rfl HB2.out (fun W hW=>?_) ?_
          ·obtain ⟨x0,x1,x2,x3,x4,x5,x6,x7,x8,x9,x10,x11,x12,x13,x14⟩:=cec_past HK0.out hW
           clear hW;go_simp
          simp only [sA,sB,sC];refine tkS (i:=20) (v:=.bool false) rfl rfl HB2.out ?_;refine tkS (i:=21) (v:=.bool false) rfl rfl HB2.out ?_;refine tkS (i:=22) (v:=.bool false) rfl rfl HB2.out ?_;simp only [sA,sB,sC];refine tkS (i:=23) (v:=.int .i64 0) rfl rfl HB2.out ?_;refine tkS (i:=24) (v:=.bool false) rfl rfl HB2.out ?_;refine tkS (i:=25) (v:=.bool false) rfl rfl HB2.out ?_;simp only [sA,sB,sC];refine tkU (i:=26) rfl rfl HB2.out ?_;refine tkU (i:=27) rfl rfl HB2.out ?_;refine tkU (i:=28) rfl rfl HB2.out ?_;simp only [sA,sB,sC];refine tkU (i:=29) rfl rfl HB2.out ?_;refine tkU (i:=30) rfl rfl HB2.out ?_;refine tkU (i:=31) rfl rfl HB2.out ?_;simp only [sA,sB,sC];refine tkU (i:=32) rfl rfl HB2.out ?_;refine tkU (i:=33) rfl rfl HB2.out ?_;refine tkU (i:=34) rfl rfl HB2.out ?_;simp only [sA,sB,sC];refine onE (i:=35) rfl (fun K hK=>?_);refine Eq.mpr (if_neg (fun h=>Bool.noConfusion (show false=true from h))) ?_;refine hK.out _ _ (fun _=>HB2.out) ?_;clear hK K
          try simp only [Act.put,sA,sB,sC]
          refine tkU (i:=36) rfl rfl HB2.out ?_;refine tkS (i:=37) (v:=.bool false) rfl rfl HB2.out ?_;refine tkS (i:=38) (v:=.bool false) rfl rfl HB2.out ?_;simp only [sA,sB,sC];refine doneK (by kernel_rfl) ?_ _;go_wp2;go_meet;exact ⟨by rw [HR.out],hide (chain HT0.out HB2.out)⟩
     case rest=>
      obtain ⟨rfl,HT1⟩:=hcut
      cases hri:cRi c with
      | false=>
       have HF2:Hid (false=csR L):=by rw [← HE2.out,HS.out,hri];exact hide rfl
       go_wp2;go_ret;exact ⟨ret_bS HF2.out,HT1.out⟩
      | true=>
       have HE3:Hid (cRs (preC L (0+1)) (L.drop (0+1))=csR L):=by
        have:=HE2.out;rw [HS.out,hri,Bool.true_and] at this;exact this
       go_wp2;go_roundw
       case rel=>exact ⟨0+1,by omega,by go_num,HE3,HT1⟩
       case measure=>simp [Go.RowKit.intOf];omega
    | succ k=>
     obtain ⟨b0,hb0⟩:∃ c,L[k]?=some c:=⟨L[k]'(by have:=HN.out;omega),List.getElem?_eq_getElem _⟩;have HS:=hide (cRs_some hb0 HCk.out)
     go_cut [56] (fun v w'=>v=.bool (!(cRi c && cAh b0 c))∧Hid (Below w.heap.size w w'))
     case first=>
      cases hw:winB c.n with
      | false=>
       have HR:Hid ((!(cRi c && cAh b0 c))=true):=(by simp [cRi,hw]:(!(cRi c && cAh b0 c))=true);have HS0:(fun W=>Below W0.heap.size W0 W) W0.drew:=(Below.refl _ _).drew;refine regionK (fun W=>Below W0.heap.size W0 W) 99 (by kernel_rfl) ?_;refine tkS (i:=0) (v:=.pointer (some ⟨wr.heap.size,0,none⟩)) rfl rfl HS0 ?_;refine tkL (i:=1) (v:=.int .i64 c.n) rfl rfl HS0 (fun W hW=>?_) ?_
       ·obtain ⟨x0,x1,x2,x3,x4,x5,x6,x7,x8,x9,x10,x11,x12,x13,x14⟩:=cec_past HK0.out hW
        clear hW;go_simp
       simp only [sA,sB,sC];refine onE (i:=2) rfl (fun K hK=>?_);go_simp;refine (c_l08Window _ _).mono ?_;rintro e wz ⟨rfl,hwz⟩;obtain rfl:=hwz.symm;rw [hw];dsimp only;refine hK.out _ _ (fun _=>HS0) ?_;clear hK K
       try simp only [Act.put,sA,sB,sC]
       refine tkS (i:=3) (v:=.bool true) rfl rfl HS0 ?_;refine tkS (i:=4) (v:=.bool true) rfl rfl HS0 ?_;refine tkU (i:=5) rfl rfl HS0 ?_;simp only [sA,sB,sC];refine tkU (i:=6) rfl rfl HS0 ?_;simp only [sA,sB,sC];refine onE (i:=7) rfl (fun K hK=>?_);refine Eq.mpr (if_neg (fun h=>Bool.noConfusion (show false=true from h))) ?_;refine hK.out _ _ (fun _=>HS0) ?_;clear hK K
       try simp only [Act.put,sA,sB,sC]
       refine tkU (i:=8) rfl rfl HS0 ?_;refine tkS (i:=9) (v:=.bool true) rfl rfl HS0 ?_;refine tkS (i:=10) (v:=.bool true) rfl rfl HS0 ?_;simp only [sA,sB,sC];refine tkU (i:=11) rfl rfl HS0 ?_;refine tkU (i:=12) rfl rfl HS0 ?_;simp only [sA,sB,sC];refine onE (i:=13) rfl (fun K hK=>?_);refine Eq.mpr (if_neg (fun h=>Bool.noConfusion (show false=true from h))) ?_;refine hK.out _ _ (fun _=>HS0) ?_;clear hK K
       try simp only [Act.put,sA,sB,sC]
       refine tkU (i:=14) rfl rfl HS0 ?_;refine tkS (i:=15) (v:=.bool true) rfl rfl HS0 ?_;refine tkS (i:=16) (v:=.bool true) rfl rfl HS0 ?_;simp only [sA,sB,sC];refine tkU (i:=17) rfl rfl HS0 ?_;refine tkU (i:=18) rfl rfl HS0 ?_;refine tkU (i:=19) rfl rfl HS0 ?_;simp only [sA,sB,sC];refine tkU (i:=20) rfl rfl HS0 ?_;refine tkS (i:=21) (v:=.bool true) rfl rfl HS0 ?_;refine tkS (i:=22) (v:=.bool true) rfl rfl HS0 ?_;simp only [sA,sB,sC];refine tkU (i:=23) rfl rfl HS0 ?_;refine tkU (i:=24) rfl rfl HS0 ?_;refine tkU (i:=25) rfl rfl HS0 ?_;simp only [sA,sB,sC];refine tkU (i:=26) rfl rfl HS0 ?_;refine tkU (i:=27) rfl rfl HS0 ?_;refine tkU (i:=28) rfl rfl HS0 ?_;simp only [sA,sB,sC];refine tkU (i:=29) rfl rfl HS0 ?_;refine tkU (i:=30) rfl rfl HS0 ?_;refine tkU (i:=31) rfl rfl HS0 ?_;simp only [sA,sB,sC];refine tkU (i:=32) rfl rfl HS0 ?_;refine tkU (i:=33) rfl rfl HS0 ?_;refine tkU (i:=34) rfl rfl HS0 ?_;simp only [sA,sB,sC];refine onE (i:=35) rfl (fun K hK=>?_);refine Eq.mpr (if_neg (fun h=>Bool.noConfusion (show false=true from h))) ?_;refine hK.out _ _ (fun _=>HS0) ?_;clear hK K
       try simp only [Act.put,sA,sB,sC]
       refine tkU (i:=36) rfl rfl HS0 ?_;refine tkU (i:=37) rfl rfl HS0 ?_;refine tkS (i:=38) (v:=.bool true) rfl rfl HS0 ?_;simp only [sA,sB,sC];refine doneK (by kernel_rfl) ?_ _;go_wp2;go_meet;exact ⟨by rw [HR.out],hide (chain HT0.out HS0)⟩
      | true=>
       cases hs:serRB c.s with
       | false=>
        have HR:Hid ((!(cRi c && cAh b0 c))=true):=(by simp [cRi,hs]:(!(cRi c && cAh b0 c))=true);have HS0:(fun W=>Below W0.heap.size W0 W) W0.drew:=(Below.refl _ _).drew;refine regionK (fun W=>Below W0.heap.size W0 W) 99 (by kernel_rfl) ?_;refine tkS (i:=0) (v:=.pointer (some ⟨wr.heap.size,0,none⟩)) rfl rfl HS0 ?_;refine tkL (i:=1) (v:=.int .i64 c.n) rfl rfl HS0 (fun W hW=>?_) ?_
        ·obtain ⟨x0,x1,x2,x3,x4,x5,x6,x7,x8,x9,x10,x11,x12,x13,x14⟩:=cec_past HK0.out hW
         clear hW;go_simp
        simp only [sA,sB,sC];refine onE (i:=2) rfl (fun K hK=>?_);go_simp;refine (c_l08Window _ _).mono ?_;rintro e wz ⟨rfl,hwz⟩;obtain rfl:=hwz.symm;rw [hw];dsimp only;refine hK.out _ _ (fun _=>HS0) ?_;clear hK K
        try simp only [Act.put,sA,sB,sC]
        refine tkS (i:=3) (v:=.bool false) rfl rfl HS0 ?_;refine tkS (i:=4) (v:=.bool false) rfl rfl HS0 ?_;refine tkS (i:=5) (v:=.pointer (some ⟨wr.heap.size,1,none⟩)) rfl rfl HS0 ?_;simp only [sA,sB,sC];refine tkL (i:=6) (v:=.string c.s) rfl rfl HS0 (fun W hW=>?_) ?_
        ·obtain ⟨x0,x1,x2,x3,x4,x5,x6,x7,x8,x9,x10,x11,x12,x13,x14⟩:=cec_past HK0.out hW
         clear hW;go_simp
        simp only [sA,sB,sC];refine onE (i:=7) rfl (fun K hK=>?_);go_simp;refine (c_s_SeriesRight c.s (SS.out c HMm.out)).mono ?_;rintro e w1 ⟨rfl,hb1⟩;rw [hs];have HB1:Hid (Below W0.heap.size W0 w1):=(HS0:Below W0.heap.size W0 W0.drew).trans (hb1.mono (Nat.le_refl _));clear hb1;dsimp only;refine hK.out _ _ (fun _=>HB1.out) ?_;clear hK K
        try simp only [Act.put,sA,sB,sC]
        refine tkS (i:=8) (v:=.bool true) rfl rfl HB1.out ?_;refine tkS (i:=9) (v:=.bool true) rfl rfl HB1.out ?_;refine tkS (i:=10) (v:=.bool true) rfl rfl HB1.out ?_;simp only [sA,sB,sC];refine tkU (i:=11) rfl rfl HB1.out ?_;refine tkU (i:=12) rfl rfl HB1.out ?_;simp only [sA,sB,sC];refine onE (i:=13) rfl (fun K hK=>?_);refine Eq.mpr (if_neg (fun h=>Bool.noConfusion (show false=true from h))) ?_;refine hK.out _ _ (fun _=>HB1.out) ?_;clear hK K
        try simp only [Act.put,sA,sB,sC]
        refine tkU (i:=14) rfl rfl HB1.out ?_;refine tkS (i:=15) (v:=.bool true) rfl rfl HB1.out ?_;refine tkS (i:=16) (v:=.bool true) rfl rfl HB1.out ?_;simp only [sA,sB,sC];refine tkU (i:=17) rfl rfl HB1.out ?_;refine tkU (i:=18) rfl rfl HB1.out ?_;refine tkU (i:=19) rfl rfl HB1.out ?_;simp only [sA,sB,sC];refine tkU (i:=20) rfl rfl HB1.out ?_;refine tkS (i:=21) (v:=.bool true) rfl rfl HB1.out ?_;refine tkS (i:=22) (v:=.bool true) rfl rfl HB1.out ?_;simp only [sA,sB,sC];refine tkU (i:=23) rfl rfl HB1.out ?_;refine tkU (i:=24) rfl rfl HB1.out ?_;refine tkU (i:=25) rfl rfl HB1.out ?_;simp only [sA,sB,sC];refine tkU (i:=26) rfl rfl HB1.out ?_;refine tkU (i:=27) rfl rfl HB1.out ?_;refine tkU (i:=28) rfl rfl HB1.out ?_;simp only [sA,sB,sC];refine tkU (i:=29) rfl rfl HB1.out ?_;refine tkU (i:=30) rfl rfl HB1.out ?_;refine tkU (i:=31) rfl rfl HB1.out ?_;simp only [sA,sB,sC];refine tkU (i:=32) rfl rfl HB1.out ?_;refine tkU (i:=33) rfl rfl HB1.out ?_;refine tkU (i:=34) rfl rfl HB1.out ?_;simp only [sA,sB,sC];refine onE (i:=35) rfl (fun K hK=>?_);refine Eq.mpr (if_neg (fun h=>Bool.noConfusion (show false=true from h))) ?_;refine hK.out _ _ (fun _=>HB1.out) ?_;clear hK K
        try simp only [Act.put,sA,sB,sC]
        refine tkU (i:=36) rfl rfl HB1.out ?_;refine tkU (i:=37) rfl rfl HB1.out ?_;refine tkS (i:=38) (v:=.bool true) rfl rfl HB1.out ?_;simp only [sA,sB,sC];refine doneK (by kernel_rfl) ?_ _;go_wp2;go_meet;exact ⟨by rw [HR.out],hide (chain HT0.out HB1.out)⟩
       | true=>
        cases ha:agB c.g with
        | false=>
         have HR:Hid ((!(cRi c && cAh b0 c))=true):=(by simp [cRi,ha]:(!(cRi c && cAh b0 c))=true);have HS0:(fun W=>Below W0.heap.size W0 W) W0.drew:=(Below.refl _ _).drew;refine regionK (fun W=>Below W0.heap.size W0 W) 99 (by kernel_rfl) ?_;refine tkS (i:=0) (v:=.pointer (some ⟨wr.heap.size,0,none⟩)) rfl rfl HS0 ?_;refine tkL (i:=1) (v:=.int .i64 c.n) rfl rfl HS0 (fun W hW=>?_) ?_
         ·obtain ⟨x0,x1,x2,x3,x4,x5,x6,x7,x8,x9,x10,x11,x12,x13,x14⟩:=cec_past HK0.out hW
          clear hW;go_simp
         simp only [sA,sB,sC];refine onE (i:=2) rfl (fun K hK=>?_);go_simp;refine (c_l08Window _ _).mono ?_;rintro e wz ⟨rfl,hwz⟩;obtain rfl:=hwz.symm;rw [hw];dsimp only;refine hK.out _ _ (fun _=>HS0) ?_;clear hK K
         try simp only [Act.put,sA,sB,sC]
         refine tkS (i:=3) (v:=.bool false) rfl rfl HS0 ?_;refine tkS (i:=4) (v:=.bool false) rfl rfl HS0 ?_;refine tkS (i:=5) (v:=.pointer (some ⟨wr.heap.size,1,none⟩)) rfl rfl HS0 ?_;simp only [sA,sB,sC];refine tkL (i:=6) (v:=.string c.s) rfl rfl HS0 (fun W hW=>?_) ?_
         ·obtain ⟨x0,x1,x2,x3,x4,x5,x6,x7,x8,x9,x10,x11,x12,x13,x14⟩:=cec_past HK0.out hW
          clear hW;go_simp
         simp only [sA,sB,sC];refine onE (i:=7) rfl (fun K hK=>?_);go_simp;refine (c_s_SeriesRight c.s (SS.out c HMm.out)).mono ?_;rintro e w1 ⟨rfl,hb1⟩;rw [hs];have HB1:Hid (Below W0.heap.size W0 w1):=(HS0:Below W0.heap.size W0 W0.drew).trans (hb1.mono (Nat.le_refl _));clear hb1;dsimp only;refine hK.out _ _ (fun _=>HB1.out) ?_;clear hK K
         try simp only [Act.put,sA,sB,sC]
         refine tkS (i:=8) (v:=.bool false) rfl rfl HB1.out ?_;refine tkS (i:=9) (v:=.bool false) rfl rfl HB1.out ?_;refine tkS (i:=10) (v:=.bool false) rfl rfl HB1.out ?_;simp only [sA,sB,sC];refine tkS (i:=11) (v:=.pointer (some ⟨wr.heap.size,2,none⟩)) rfl rfl HB1.out ?_;refine tkL (i:=12) (v:=.agg (agArr c.g c.p)) rfl rfl HB1.out (fun W hW=>?_) ?_
         ·obtain ⟨x0,x1,x2,x3,x4,x5,x6,x7,x8,x9,x10,x11,x12,x13,x14⟩:=cec_past HK0.out hW
          clear hW;go_simp
         simp only [sA,sB,sC];refine onE (i:=13) rfl (fun K hK=>?_);go_simp;refine (c_s_AggRight (g:=c.g) (p:=c.p) (OK.out c HMm.out) (SM.out c HMm.out) (ag_past (HA.out.2 c HMm.out) (chain HT0.out HB1.out))).mono ?_;rintro e w2 ⟨rfl,hb2⟩;rw [ha];have HB2:Hid (Below W0.heap.size W0 w2):=chain HB1.out hb2;clear hb2;dsimp only;refine hK.out _ _ (fun _=>HB2.out) ?_;clear hK K
         try simp only [Act.put,sA,sB,sC]
         refine tkS (i:=14) (v:=.bool true) rfl rfl HB2.out ?_;refine tkS (i:=15) (v:=.bool true) rfl rfl HB2.out ?_;refine tkS (i:=16) (v:=.bool true) rfl rfl HB2.out ?_;simp only [sA,sB,sC];refine tkU (i:=17) rfl rfl HB2.out ?_;refine tkU (i:=18) rfl rfl HB2.out ?_;refine tkU (i:=19) rfl rfl HB2.out ?_;simp only [sA,sB,sC];refine tkU (i:=20) rfl rfl HB2.out ?_;refine tkS (i:=21) (v:=.bool true) rfl rfl HB2.out ?_;refine tkS (i:=22) (v:=.bool true) rfl rfl HB2.out ?_;simp only [sA,sB,sC];refine tkU (i:=23) rfl rfl HB2.out ?_;refine tkU (i:=24) rfl rfl HB2.out ?_;refine tkU (i:=25) rfl rfl HB2.out ?_;simp only [sA,sB,sC];refine tkU (i:=26) rfl rfl HB2.out ?_;refine tkU (i:=27) rfl rfl HB2.out ?_;refine tkU (i:=28) rfl rfl HB2.out ?_;simp only [sA,sB,sC];refine tkU (i:=29) rfl rfl HB2.out ?_;refine tkU (i:=30) rfl rfl HB2.out ?_;refine tkU (i:=31) rfl rfl HB2.out ?_;simp only [sA,sB,sC];refine tkU (i:=32) rfl rfl HB2.out ?_;refine tkU (i:=33) rfl rfl HB2.out ?_;refine tkU (i:=34) rfl rfl HB2.out ?_;simp only [sA,sB,sC];refine onE (i:=35) rfl (fun K hK=>?_);refine Eq.mpr (if_neg (fun h=>Bool.noConfusion (show false=true from h))) ?_;refine hK.out _ _ (fun _=>HB2.out) ?_;clear hK K
         try simp only [Act.put,sA,sB,sC]
         refine tkU (i:=36) rfl rfl HB2.out ?_;refine tkU (i:=37) rfl rfl HB2.out ?_;refine tkS (i:=38) (v:=.bool true) rfl rfl HB2.out ?_;simp only [sA,sB,sC];refine doneK (by kernel_rfl) ?_ _;go_wp2;go_meet;exact ⟨by rw [HR.out],hide (chain HT0.out HB2.out)⟩
        | true=>
         by_cases hz:c.g.s=0
         ·have HR:Hid ((!(cRi c && cAh b0 c))=true):=(by simp [cRi,hz]:(!(cRi c && cAh b0 c))=true)
          have bz:(c.g.s == 0)=true:=by simp [hz]
          clear hz;have HS0:(fun W=>Below W0.heap.size W0 W) W0.drew:=(Below.refl _ _).drew;refine regionK (fun W=>Below W0.heap.size W0 W) 99 (by kernel_rfl) ?_;refine tkS (i:=0) (v:=.pointer (some ⟨wr.heap.size,0,none⟩)) rfl rfl HS0 ?_;refine tkL (i:=1) (v:=.int .i64 c.n) rfl rfl HS0 (fun W hW=>?_) ?_
          ·obtain ⟨x0,x1,x2,x3,x4,x5,x6,x7,x8,x9,x10,x11,x12,x13,x14⟩:=cec_past HK0.out hW
           clear hW;go_simp
          simp only [sA,sB,sC];refine onE (i:=2) rfl (fun K hK=>?_);go_simp;refine (c_l08Window _ _).mono ?_;rintro e wz ⟨rfl,hwz⟩;obtain rfl:=hwz.symm;rw [hw];dsimp only;refine hK.out _ _ (fun _=>HS0) ?_;clear hK K
          try simp only [Act.put,sA,sB,sC]
          refine tkS (i:=3) (v:=.bool false) rfl rfl HS0 ?_;refine tkS (i:=4) (v:=.bool false) rfl rfl HS0 ?_;refine tkS (i:=5) (v:=.pointer (some ⟨wr.heap.size,1,none⟩)) rfl rfl HS0 ?_;simp only [sA,sB,sC];refine tkL (i:=6) (v:=.string c.s) rfl rfl HS0 (fun W hW=>?_) ?_
          ·obtain ⟨x0,x1,x2,x3,x4,x5,x6,x7,x8,x9,x10,x11,x12,x13,x14⟩:=cec_past HK0.out hW
           clear hW;go_simp
          simp only [sA,sB,sC];refine onE (i:=7) rfl (fun K hK=>?_);go_simp;refine (c_s_SeriesRight c.s (SS.out c HMm.out)).mono ?_;rintro e w1 ⟨rfl,hb1⟩;rw [hs];have HB1:Hid (Below W0.heap.size W0 w1):=(HS0:Below W0.heap.size W0 W0.drew).trans (hb1.mono (Nat.le_refl _));clear hb1;dsimp only;refine hK.out _ _ (fun _=>HB1.out) ?_;clear hK K
          try simp only [Act.put,sA,sB,sC]
          refine tkS (i:=8) (v:=.bool false) rfl rfl HB1.out ?_;refine tkS (i:=9) (v:=.bool false) rfl rfl HB1.out ?_;refine tkS (i:=10) (v:=.bool false) rfl rfl HB1.out ?_;simp only [sA,sB,sC];refine tkS (i:=11) (v:=.pointer (some ⟨wr.heap.size,2,none⟩)) rfl rfl HB1.out ?_;refine tkL (i:=12) (v:=.agg (agArr c.g c.p)) rfl rfl HB1.out (fun W hW=>?_) ?_
          ·obtain ⟨x0,x1,x2,x3,x4,x5,x6,x7,x8,x9,x10,x11,x12,x13,x14⟩:=cec_past HK0.out hW
           clear hW;go_simp
          simp only [sA,sB,sC];refine onE (i:=13) rfl (fun K hK=>?_);go_simp;refine (c_s_AggRight (g:=c.g) (p:=c.p) (OK.out c HMm.out) (SM.out c HMm.out) (ag_past (HA.out.2 c HMm.out) (chain HT0.out HB1.out))).mono ?_;rintro e w2 ⟨rfl,hb2⟩;rw [ha];have HB2:Hid (Below W0.heap.size W0 w2):=chain HB1.out hb2;clear hb2;dsimp only;refine hK.out _ _ (fun _=>HB2.out) ?_;clear hK K
          try simp only [Act.put,sA,sB,sC]
          refine tkS (i:=14) (v:=.bool false) rfl rfl HB2.out ?_;refine tkS (i:=15) (v:=.bool false) rfl rfl HB2.out ?_;refine tkS (i:=16) (v:=.bool false) rfl rfl HB2.out ?_;simp only [sA,sB,sC];refine tkS (i:=17) (v:=.pointer (some ⟨wr.heap.size,2,none⟩)) rfl rfl HB2.out ?_;refine tkS (i:=18) (v:=.pointer (some ⟨wr.heap.size,3,none⟩)) rfl rfl HB2.out ?_;refine tkL (i:=19) (v:=.int .u64 c.g.s) rfl rfl HB2.out (fun W hW=>?_) ?_
          ·obtain ⟨x0,x1,x2,x3,x4,x5,x6,x7,x8,x9,x10,x11,x12,x13,x14⟩:=cec_past HK0.out hW
           clear hW;go_simp
          simp only [sA,sB,sC];refine tkS (i:=20) (v:=.bool true) rfl rfl HB2.out ?_;refine tkS (i:=21) (v:=.bool true) rfl rfl HB2.out ?_;refine tkS (i:=22) (v:=.bool true) rfl rfl HB2.out ?_;simp only [sA,sB,sC];refine tkU (i:=23) rfl rfl HB2.out ?_;refine tkU (i:=24) rfl rfl HB2.out ?_;refine tkU (i:=25) rfl rfl HB2.out ?_;simp only [sA,sB,sC];refine tkU (i:=26) rfl rfl HB2.out ?_;refine tkU (i:=27) rfl rfl HB2.out ?_;refine tkU (i:=28) rfl rfl HB2.out ?_;simp only [sA,sB,sC];refine tkU (i:=29) rfl rfl HB2.out ?_;refine tkU (i:=30) rfl rfl HB2.out ?_;refine tkU (i:=31) rfl rfl HB2.out ?_;simp only [sA,sB,sC];refine tkU (i:=32) rfl rfl HB2.out ?_;refine tkU (i:=33) rfl rfl HB2.out ?_;refine tkU (i:=34) rfl rfl HB2.out ?_;simp only [sA,sB,sC];refine onE (i:=35) rfl (fun K hK=>?_);refine Eq.mpr (if_neg (fun h=>Bool.noConfusion (show false=true from h))) ?_;refine hK.out _ _ (fun _=>HB2.out) ?_;clear hK K
          try simp only [Act.put,sA,sB,sC]
          refine tkU (i:=36) rfl rfl HB2.out ?_;refine tkU (i:=37) rfl rfl HB2.out ?_;refine tkS (i:=38) (v:=.bool true) rfl rfl HB2.out ?_;simp only [sA,sB,sC];refine doneK (by kernel_rfl) ?_ _;go_wp2;go_meet;exact ⟨by rw [HR.out],hide (chain HT0.out HB2.out)⟩
         ·have bz:(c.g.s == 0)=false:=beq_eq_false_iff_ne.2 hz
          have HRI:Hid (cRi c=true):=(by simp [cRi,hw,hs,ha,hz]:cRi c=true);clear hz
          cases hah:(decide (b0.n<c.n) || ((b0.n == c.n) && strLt b0.s c.s)) with
          | false=>
           have HR:Hid ((!(cRi c && cAh b0 c))=true):=(by rw [HRI.out,show cAh b0 c=false from hah];rfl:(!(cRi c && cAh b0 c))=true);have HS0:(fun W=>Below W0.heap.size W0 W) W0.drew:=(Below.refl _ _).drew;refine regionK (fun W=>Below W0.heap.size W0 W) 99 (by kernel_rfl) ?_;refine tkS (i:=0) (v:=.pointer (some ⟨wr.heap.size,0,none⟩)) rfl rfl HS0 ?_;refine tkL (i:=1) (v:=.int .i64 c.n) rfl rfl HS0 (fun W hW=>?_) ?_
           ·obtain ⟨x0,x1,x2,x3,x4,x5,x6,x7,x8,x9,x10,x11,x12,x13,x14⟩:=cec_past HK0.out hW
            clear hW;go_simp
           simp only [sA,sB,sC];refine onE (i:=2) rfl (fun K hK=>?_);go_simp;refine (c_l08Window _ _).mono ?_;rintro e wz ⟨rfl,hwz⟩;obtain rfl:=hwz.symm;rw [hw];dsimp only;refine hK.out _ _ (fun _=>HS0) ?_;clear hK K
           try simp only [Act.put,sA,sB,sC]
           refine tkS (i:=3) (v:=.bool false) rfl rfl HS0 ?_;refine tkS (i:=4) (v:=.bool false) rfl rfl HS0 ?_;refine tkS (i:=5) (v:=.pointer (some ⟨wr.heap.size,1,none⟩)) rfl rfl HS0 ?_;simp only [sA,sB,sC];refine tkL (i:=6) (v:=.string c.s) rfl rfl HS0 (fun W hW=>?_) ?_
           ·obtain ⟨x0,x1,x2,x3,x4,x5,x6,x7,x8,x9,x10,x11,x12,x13,x14⟩:=cec_past HK0.out hW
            clear hW;go_simp
           simp only [sA,sB,sC];refine onE (i:=7) rfl (fun K hK=>?_);go_simp;refine (c_s_SeriesRight c.s (SS.out c HMm.out)).mono ?_;rintro e w1 ⟨rfl,hb1⟩;rw [hs];have HB1:Hid (Below W0.heap.size W0 w1):=(HS0:Below W0.heap.size W0 W0.drew).trans (hb1.mono (Nat.le_refl _));clear hb1;dsimp only;refine hK.out _ _ (fun _=>HB1.out) ?_;clear hK K
           try simp only [Act.put,sA,sB,sC]
           refine tkS (i:=8) (v:=.bool false) rfl rfl HB1.out ?_;refine tkS (i:=9) (v:=.bool false) rfl rfl HB1.out ?_;refine tkS (i:=10) (v:=.bool false) rfl rfl HB1.out ?_;simp only [sA,sB,sC];refine tkS (i:=11) (v:=.pointer (some ⟨wr.heap.size,2,none⟩)) rfl rfl HB1.out ?_;refine tkL (i:=12) (v:=.agg (agArr c.g c.p)) rfl rfl HB1.out (fun W hW=>?_) ?_
           ·obtain ⟨x0,x1,x2,x3,x4,x5,x6,x7,x8,x9,x10,x11,x12,x13,x14⟩:=cec_past HK0.out hW
            clear hW;go_simp
           simp only [sA,sB,sC];refine onE (i:=13) rfl (fun K hK=>?_);go_simp;refine (c_s_AggRight (g:=c.g) (p:=c.p) (OK.out c HMm.out) (SM.out c HMm.out) (ag_past (HA.out.2 c HMm.out) (chain HT0.out HB1.out))).mono ?_;rintro e w2 ⟨rfl,hb2⟩;rw [ha];have HB2:Hid (Below W0.heap.size W0 w2):=chain HB1.out hb2;clear hb2;dsimp only;refine hK.out _ _ (fun _=>HB2.out) ?_;clear hK K
           try simp only [Act.put,sA,sB,sC]
           refine tkS (i:=14) (v:=.bool false) rfl rfl HB2.out ?_;refine tkS (i:=15) (v:=.bool false) rfl rfl HB2.out ?_;refine tkS (i:=16) (v:=.bool false) rfl rfl HB2.out ?_;simp only [sA,sB,sC];refine tkS (i:=17) (v:=.pointer (some ⟨wr.heap.size,2,none⟩)) rfl rfl HB2.out ?_;refine tkS (i:=18) (v:=.pointer (some ⟨wr.heap.size,3,none⟩)) rfl rfl HB2.out ?_;refine tkL (i:=19) (v:=.int .u64 c.g.s) rfl rfl HB2.out (fun W hW=>?_) ?_
           ·obtain ⟨x0,x1,x2,x3,x4,x5,x6,x7,x8,x9,x10,x11,x12,x13,x14⟩:=cec_past HK0.out hW
            clear hW;go_simp
           simp only [sA,sB,sC];refine tkS (i:=20) (v:=.bool false) rfl rfl HB2.out ?_;refine tkS (i:=21) (v:=.bool false) rfl rfl HB2.out ?_;refine tkS (i:=22) (v:=.bool false) rfl rfl HB2.out ?_;simp only [sA,sB,sC];refine tkS (i:=23) (v:=.int .i64 ((k+1:Nat):Int)) rfl rfl HB2.out ?_;refine tkS (i:=24) (v:=.bool true) rfl rfl HB2.out ?_;refine tkS (i:=25) (v:=.bool true) rfl rfl HB2.out ?_;simp only [sA,sB,sC];refine tkS (i:=26) (v:=.slice (some ⟨b,off,none⟩) N ca) rfl rfl HB2.out ?_;refine tkS (i:=27) (v:=.int .i64 ((k+1:Nat):Int)) rfl rfl HB2.out ?_;refine tkL (i:=28) (v:=.int .i64 (k:Int)) rfl rfl HB2.out (fun W hW=>?_) ?_
           ·have hwk:IntKind.i64.wrap (k:Int)=(k:Int):=by rw [IntKind.wrap_i64];omega
            clear hW;go_simp
           simp only [sA,sB,sC];refine tkL (i:=29) (v:=.pointer (some ⟨b,off+k*15,none⟩)) rfl rfl HB2.out (fun W hW=>?_) ?_
           ·have hkN:¬ N≤k:=by omega
            clear hW;go_simp
           refine tkL (i:=30) (v:=.agg (ceArr b0)) rfl rfl HB2.out (fun W hW=>?_) ?_
           ·obtain ⟨y0,y1,y2,y3,y4,y5,y6,y7,y8,y9,y10,y11,y12,y13,y14⟩:=cec_past (HCe.out k b0 hb0) (chain HT0.out hW)
            clear hW;go_simp
           refine tkS (i:=31) (v:=.pointer (some ⟨wr.heap.size,0,none⟩)) rfl rfl HB2.out ?_;simp only [sA,sB,sC];refine tkL (i:=32) (v:=.int .i64 c.n) rfl rfl HB2.out (fun W hW=>?_) ?_
           ·obtain ⟨x0,x1,x2,x3,x4,x5,x6,x7,x8,x9,x10,x11,x12,x13,x14⟩:=cec_past HK0.out hW
            clear hW;go_simp
           refine tkS (i:=33) (v:=.pointer (some ⟨wr.heap.size,1,none⟩)) rfl rfl HB2.out ?_;refine tkL (i:=34) (v:=.string c.s) rfl rfl HB2.out (fun W hW=>?_) ?_
           ·obtain ⟨x0,x1,x2,x3,x4,x5,x6,x7,x8,x9,x10,x11,x12,x13,x14⟩:=cec_past HK0.out hW
            clear hW;go_simp
           simp only [sA,sB,sC];refine onE (i:=35) rfl (fun K hK=>?_);go_simp;refine (c_l08Ahead b0 c.n c.s _).mono ?_;rintro e w3 ⟨rfl,hb3⟩;rw [hah];have HB3:Hid (Below W0.heap.size W0 w3):=chain HB2.out hb3;clear hb3;dsimp only;refine hK.out _ _ (fun _=>HB3.out) ?_;clear hK K
           try simp only [Act.put,sA,sB,sC]
           refine tkS (i:=36) (v:=.bool true) rfl rfl HB3.out ?_;refine tkS (i:=37) (v:=.bool true) rfl rfl HB3.out ?_;refine tkS (i:=38) (v:=.bool true) rfl rfl HB3.out ?_;simp only [sA,sB,sC];refine doneK (by kernel_rfl) ?_ _;go_wp2;go_meet;exact ⟨by rw [HR.out],hide (chain HT0.out HB3.out)⟩
          | true=>
           have HR:Hid ((!(cRi c && cAh b0 c))=false):=(by rw [HRI.out,show cAh b0 c=true from hah];rfl:(!(cRi c && cAh b0 c))=false);have HS0:(fun W=>Below W0.heap.size W0 W) W0.drew:=(Below.refl _ _).drew;refine regionK (fun W=>Below W0.heap.size W0 W) 99 (by kernel_rfl) ?_;refine tkS (i:=0) (v:=.pointer (some ⟨wr.heap.size,0,none⟩)) rfl rfl HS0 ?_;refine tkL (i:=1) (v:=.int .i64 c.n) rfl rfl HS0 (fun W hW=>?_) ?_
           ·obtain ⟨x0,x1,x2,x3,x4,x5,x6,x7,x8,x9,x10,x11,x12,x13,x14⟩:=cec_past HK0.out hW
            clear hW;go_simp
           simp only [sA,sB,sC];refine onE (i:=2) rfl (fun K hK=>?_);go_simp;refine (c_l08Window _ _).mono ?_;rintro e wz ⟨rfl,hwz⟩;obtain rfl:=hwz.symm;rw [hw];dsimp only;refine hK.out _ _ (fun _=>HS0) ?_;clear hK K
           try simp only [Act.put,sA,sB,sC]
           refine tkS (i:=3) (v:=.bool false) rfl rfl HS0 ?_;refine tkS (i:=4) (v:=.bool false) rfl rfl HS0 ?_;refine tkS (i:=5) (v:=.pointer (some ⟨wr.heap.size,1,none⟩)) rfl rfl HS0 ?_;simp only [sA,sB,sC];refine tkL (i:=6) (v:=.string c.s) rfl rfl HS0 (fun W hW=>?_) ?_
           ·obtain ⟨x0,x1,x2,x3,x4,x5,x6,x7,x8,x9,x10,x11,x12,x13,x14⟩:=cec_past HK0.out hW
            clear hW;go_simp
           simp only [sA,sB,sC];refine onE (i:=7) rfl (fun K hK=>?_);go_simp;refine (c_s_SeriesRight c.s (SS.out c HMm.out)).mono ?_;rintro e w1 ⟨rfl,hb1⟩;rw [hs];have HB1:Hid (Below W0.heap.size W0 w1):=(HS0:Below W0.heap.size W0 W0.drew).trans (hb1.mono (Nat.le_refl _));clear hb1;dsimp only;refine hK.out _ _ (fun _=>HB1.out) ?_;clear hK K
           try simp only [Act.put,sA,sB,sC]
           refine tkS (i:=8) (v:=.bool false) rfl rfl HB1.out ?_;refine tkS (i:=9) (v:=.bool false) rfl rfl HB1.out ?_;refine tkS (i:=10) (v:=.bool false) rfl rfl HB1.out ?_;simp only [sA,sB,sC];refine tkS (i:=11) (v:=.pointer (some ⟨wr.heap.size,2,none⟩)) rfl rfl HB1.out ?_;refine tkL (i:=12) (v:=.agg (agArr c.g c.p)) rfl rfl HB1.out (fun W hW=>?_) ?_
           ·obtain ⟨x0,x1,x2,x3,x4,x5,x6,x7,x8,x9,x10,x11,x12,x13,x14⟩:=cec_past HK0.out hW
            clear hW;go_simp
           simp only [sA,sB,sC];refine onE (i:=13) rfl (fun K hK=>?_);go_simp;refine (c_s_AggRight (g:=c.g) (p:=c.p) (OK.out c HMm.out) (SM.out c HMm.out) (ag_past (HA.out.2 c HMm.out) (chain HT0.out HB1.out))).mono ?_;rintro e w2 ⟨rfl,hb2⟩;rw [ha];have HB2:Hid (Below W0.heap.size W0 w2):=chain HB1.out hb2;clear hb2;dsimp only;refine hK.out _ _ (fun _=>HB2.out) ?_;clear hK K
           try simp only [Act.put,sA,sB,sC]
           refine tkS (i:=14) (v:=.bool false) rfl rfl HB2.out ?_;refine tkS (i:=15) (v:=.bool false) rfl rfl HB2.out ?_;refine tkS (i:=16) (v:=.bool false) rfl rfl HB2.out ?_;simp only [sA,sB,sC];refine tkS (i:=17) (v:=.pointer (some ⟨wr.heap.size,2,none⟩)) rfl rfl HB2.out ?_;refine tkS (i:=18) (v:=.pointer (some ⟨wr.heap.size,3,none⟩)) rfl rfl HB2.out ?_;refine tkL (i:=19) (v:=.int .u64 c.g.s) rfl rfl HB2.out (fun W hW=>?_) ?_
           ·obtain ⟨x0,x1,x2,x3,x4,x5,x6,x7,x8,x9,x10,x11,x12,x13,x14⟩:=cec_past HK0.out hW
            clear hW;go_simp
           simp only [sA,sB,sC];refine tkS (i:=20) (v:=.bool false) rfl rfl HB2.out ?_;refine tkS (i:=21) (v:=.bool false) rfl rfl HB2.out ?_;refine tkS (i:=22) (v:=.bool false) rfl rfl HB2.out ?_;simp only [sA,sB,sC];refine tkS (i:=23) (v:=.int .i64 ((k+1:Nat):Int)) rfl rfl HB2.out ?_;refine tkS (i:=24) (v:=.bool true) rfl rfl HB2.out ?_;refine tkS (i:=25) (v:=.bool true) rfl rfl HB2.out ?_;simp only [sA,sB,sC];refine tkS (i:=26) (v:=.slice (some ⟨b,off,none⟩) N ca) rfl rfl HB2.out ?_;refine tkS (i:=27) (v:=.int .i64 ((k+1:Nat):Int)) rfl rfl HB2.out ?_;refine tkL (i:=28) (v:=.int .i64 (k:Int)) rfl rfl HB2.out (fun W hW=>?_) ?_
           ·have hwk:IntKind.i64.wrap (k:Int)=(k:Int):=by rw [IntKind.wrap_i64];omega
            clear hW;go_simp
           simp only [sA,sB,sC];refine tkL (i:=29) (v:=.pointer (some ⟨b,off+k*15,none⟩)) rfl rfl HB2.out (fun W hW=>?_) ?_
           ·have hkN:¬ N≤k:=by omega
            clear hW;go_simp
           refine tkL (i:=30) (v:=.agg (ceArr b0)) rfl rfl HB2.out (fun W hW=>?_) ?_
           ·obtain ⟨y0,y1,y2,y3,y4,y5,y6,y7,y8,y9,y10,y11,y12,y13,y14⟩:=cec_past (HCe.out k b0 hb0) (chain HT0.out hW)
            clear hW;go_simp
           refine tkS (i:=31) (v:=.pointer (some ⟨wr.heap.size,0,none⟩)) rfl rfl HB2.out ?_;simp only [sA,sB,sC];refine tkL (i:=32) (v:=.int .i64 c.n) rfl rfl HB2.out (fun W hW=>?_) ?_
           ·obtain ⟨x0,x1,x2,x3,x4,x5,x6,x7,x8,x9,x10,x11,x12,x13,x14⟩:=cec_past HK0.out hW
            clear hW;go_simp
           refine tkS (i:=33) (v:=.pointer (some ⟨wr.heap.size,1,none⟩)) rfl rfl HB2.out ?_;refine tkL (i:=34) (v:=.string c.s) rfl rfl HB2.out (fun W hW=>?_) ?_
           ·obtain ⟨x0,x1,x2,x3,x4,x5,x6,x7,x8,x9,x10,x11,x12,x13,x14⟩:=cec_past HK0.out hW
            clear hW;go_simp
           simp only [sA,sB,sC];refine onE (i:=35) rfl (fun K hK=>?_);go_simp;refine (c_l08Ahead b0 c.n c.s _).mono ?_;rintro e w3 ⟨rfl,hb3⟩;rw [hah];have HB3:Hid (Below W0.heap.size W0 w3):=chain HB2.out hb3;clear hb3;dsimp only;refine hK.out _ _ (fun _=>HB3.out) ?_;clear hK K
           try simp only [Act.put,sA,sB,sC]
           refine tkS (i:=36) (v:=.bool false) rfl rfl HB3.out ?_;refine tkS (i:=37) (v:=.bool false) rfl rfl HB3.out ?_;refine tkS (i:=38) (v:=.bool false) rfl rfl HB3.out ?_;simp only [sA,sB,sC];refine doneK (by kernel_rfl) ?_ _;go_wp2;go_meet;exact ⟨by rw [HR.out],hide (chain HT0.out HB3.out)⟩
     case rest=>
      obtain ⟨rfl,HT1⟩:=hcut
      cases hri:(cRi c && cAh b0 c) with
      | false=>
       have HF2:Hid (false=csR L):=by rw [← HE2.out,HS.out,hri];exact hide rfl
       go_wp2;go_ret;exact ⟨ret_bS HF2.out,HT1.out⟩
      | true=>
       have HE3:Hid (cRs (preC L (k+1+1)) (L.drop (k+1+1))=csR L):=by
        have:=HE2.out;rw [HS.out,hri,Bool.true_and] at this;exact this
       go_wp2;go_roundw
       case rel=>exact ⟨k+1+1,by omega,by go_num,HE3,HT1⟩
       case measure=>simp [Go.RowKit.intOf];omega
   ·obtain rfl:N=k:=by omega
    have HF2:Hid (true=csR L):=by
     rw [← HE2.out,List.drop_eq_nil_of_le (by have:=HN.out;omega)]
     cases preC L N <;> exact hide rfl
    go_wp2;go_ret;exact ⟨ret_bS HF2.out,HBl.out⟩
 ·have d1:decide ((60:Int)<(N:Int))=true:=decide_eq_true (by omega)
  have HF:Hid (false=csR L):=by rw [HE.out,decide_eq_false h1];exact hide rfl
  go_enter Tryz.func77,Tryz.ntmps77;go_wp2;go_ret;exact ⟨ret_bS HF.out,Below.refl _ _⟩
end Go.Proofs.YtmjogablacnlgaaGreatDoor
