/-
 The walk of the law FnExactShardPut.
-/
import Derived.Test.YtiiclgcpagdekaaGreatDoorSPJ
namespace Go.Proofs.YtiiclgcpagdekaaGreatDoor
set_option linter.unusedVariables false
set_option linter.unusedSimpArgs false
open Go.ChangeShapes Go.WideShapes Go.ChangeAt Go.RowKit Go.PlainAid Go.Lib
set_option maxRecDepth 10000
set_option maxHeartbeats 16000000 in
theorem walkShardPut (nm:ByteArray) (ao:Option Addr) (ca:Nat) (L:List Ce) (win:Int) (x:Sx) (w:World) (hs:nm.size≤maxLen) (hl:CesLen L) (hA:CesAt w ao L) (ok:∀ c∈L,AgOk c.g) (hwn:I64 win) (ox:x.Ok) (hm:MX w) :
  Calls Tryz.prog 3 #[.agg #[.string nm,.slice ao L.length ca],.int .i64 win,.agg (sxArr x)] w fun e w'=>e=.returned (.bool true)∧Below w.heap.size w w':=by
 obtain ⟨N,hN⟩:∃ N,L.length=N:=⟨_,rfl⟩
 rw [hN]
 obtain ⟨HT0,HX0,HV0⟩:=box_lp w #[.string nm,.slice ao N ca] (sxArr x) 24 27
 have HN:=hide hN
 have HA:=hide hA
 have HL:=hide hl
 have OK:=hide ok
 have OX:=hide ox
 have HMx:=hide hm
 have HAl:Hid (∀ (X:World) o,Below X.heap.size X (X.alloc o)):=fun X o=>(Below.refl _ _).alloc (Nat.le_refl _) _
 clear hN hA hl ok hm hwn ox
 obtain ⟨x0,x1⟩:=box2 HX0.out
 go_enter Tryz.func3,Tryz.ntmps3
 go_wp2_with fail
 clear x0 x1
 generalize (w.alloc (.cells #[.string nm,.slice ao N ca] 24)).alloc (.cells (sxArr x) 27)=W0 at HT0 HX0 HV0 ⊢
 generalize hb0:w.heap.size=B0 at HX0 HV0 ⊢
 have HB0:=hide hb0
 clear hb0
 refine (c_szShardT nm ca _ (by omega) (by omega) hs HN.out HL.out (ces_past HA.out HT0.out)).mono ?_
 rintro e w1 ⟨v,rfl,hv,hsm,hb1⟩
 have HT1:=hide (chain HT0.out hb1)
 have HX1:=hide (row_pastS HX0.out hb1)
 have HV1:=hide (row_pastS HV0.out hb1)
 clear hb1 HX0 HT0 HV0
 by_cases hv0:v<0
 ·clear hsm
  go_wp2
  go_ret
  exact ⟨rfl,HB0.out ▸ HT1.out⟩
 obtain ⟨v0,hTot⟩:=hsm hv0
 have hTot2:L.length+ceTot L≤1048576:=by have:=HN.out;omega
 have lN:N≤1048576:=by omega
 have HTot:=hide hTot2
 have hQ:CeQ L:=⟨OK.out,fun c hc=>agTot_sm (by have:=ceTot_mem hc;omega),HL.out.s⟩
 have HQ:=hide hQ
 clear hsm hTot hTot2 hQ
 obtain ⟨x0,x1,x2,x3,x4,x5,x6⟩:=cells7L HV1.out
 go_wp2_with fail
 clear x0 x1 x2 x3 x4 x5 x6
 refine (c_szSampleX x OX.out v (by omega) (by omega)).mono ?_
 rintro e w2 ⟨r,rfl,hb2⟩
 have HT2:=hide (chain HT1.out hb2)
 have HX2:=hide (row_pastS HX1.out hb2)
 have HV2:=hide (row_pastS HV1.out hb2)
 clear hb2 HX1 HT1 HV1
 by_cases hr0:r<0
 ·go_wp2
  go_ret
  exact ⟨rfl,HB0.out ▸ HT2.out⟩
 go_upto_region 8 with fail
 go_cut [8] (fun v w'=>∃ (G lo hi:Nat) (nm':ByteArray) (ar ap:Option Addr) (n1 n2 c1 c2:Nat) (R:List Ce) (code:Int),v=.pointer (some ⟨G,0,none⟩)∧Hid (SpB w2 w' nm L win x G lo hi nm' ar ap n1 n2 c1 c2 R code))
 case first=>
  have HS0:Below w2.heap.size w2 w2.drew:=(Below.refl _ _).drew
  refine regionK (fun W=>Below w2.heap.size w2 W) 7 (by kernel_rfl) ?_
  generalize w2.drew=X0 at HS0 ⊢
  have HB0x:Hid (Below w2.heap.size w2 X0):=HS0
  clear HS0
  refine tkL (i:=0) (v:=.agg #[.string nm,.slice ao N ca]) rfl rfl HB0x.out (fun W hW=>?_) ?_
  ·obtain ⟨x0,x1⟩:=box2 (row_pastS HX2.out hW)
   clear hW
   go_simp
  refine tkS (i:=2) (v:=.int .i64 win) rfl rfl HB0x.out ?_
  refine tkL (i:=3) (v:=.agg (sxArr x)) rfl rfl HB0x.out (fun W hW=>?_) ?_
  ·obtain ⟨x0,x1,x2,x3,x4,x5,x6⟩:=cells7L (row_pastS HV2.out hW)
   clear hW
   go_simp
  simp only [sA,sB,sC]
  refine twoK (i:=1) (j:=6) (by kernel_rfl) rfl rfl (fun K hK=>?_) (fun K hK=>?_)
  ·go_simp
   refine (c_toShardX nm ca HN.out lN HQ.out.sm (ces_past HA.out (chain (HB0.out ▸ HT2.out) HB0x.out))).mono ?_
   rintro e W1 ⟨M1,g1,rfl,hg1,l1,k1,r1,hb1⟩
   obtain ⟨ra1,rb1⟩:=r1.own_all l1 lN
   have I1:=hide (ShI.of HQ.out k1 l1 lN ra1 rb1)
   have K1:=hide k1
   have B1:=hide (chain HB0x.out hb1)
   clear hg1 l1 k1 r1 ra1 rb1 hb1
   try dsimp only
   refine hK.out _ _ (fun _=>B1.out) ?_
   clear hK K
   try simp only [Act.put,sA,sB,sC]
   refine twoK (i:=4) (j:=6) (by kernel_rfl) rfl rfl (fun K hK=>?_) (fun K hK=>?_)
   ·go_simp
    refine (c_toSampleX x).mono ?_
    rintro e W2 ⟨rfl,hb2⟩
    have I2:=hide (I1.out.past hb2)
    have B2:=hide (chain B1.out hb2)
    clear hb2
    try dsimp only
    refine hK.out _ _ (fun _=>B2.out) ?_
    clear hK K
    try simp only [Act.put,sA,sB,sC]
    refine twoK (i:=5) (j:=6) (by kernel_rfl) rfl rfl (fun K hK=>?_) (fun K hK=>?_)
    ·go_simp
     refine (c_s_ShardPut nm win x hs OX.out I2.out (Nat.le_refl _)).mono ?_
     rintro e W3 ⟨v3,nm3,R3,code3,rfl,ha3,ho3,hb3⟩
     obtain ⟨ar3,ap3,n3,m3,c3,d3,rfl,hr3⟩:=ho3.open
     have A3:=hide (ha3.key K1.out)
     have Rr3:=hide hr3
     have B3:=hide (chain B2.out hb3)
     have Z3:Hid (w2.heap.size≤W2.heap.size∧W2.heap.size≤W3.heap.size):=⟨B2.out.size,hb3.size⟩
     clear ha3 ho3 hr3 hb3
     try dsimp only
     refine hK.out _ _ (fun _=>B3.out) ?_
     clear hK K
     try simp only [Act.put,sA,sB,sC]
     refine onE (i:=6) rfl (fun K hK=>?_)
     go_simp
     have hal4:=HAl.out W3 (.cells #[.string ⟨#[]⟩,.slice none 0 0,.slice none 0 0,.int .i64 0] 34)
     have R4:=hide (Rr3.out.past hal4)
     have B4:=hide (chain B3.out hal4)
     have Gr4:=hide (heap_alloc_new W3 (.cells #[.string ⟨#[]⟩,.slice none 0 0,.slice none 0 0,.int .i64 0] 34))
     have Gz4:Hid (w2.heap.size≤W3.heap.size):=B3.out.size
     have Gh4:=hide (Nat.le_refl W3.heap.size)
     clear hal4
     try dsimp only
     refine hK.out _ _ (fun _=>B4.out) ?_
     clear hK K
     try simp only [Act.put,sA,sB,sC]
     generalize W3.alloc (.cells #[.string ⟨#[]⟩,.slice none 0 0,.slice none 0 0,.int .i64 0] 34)=W4 at B4 Gr4 R4 ⊢
     generalize hG4:W3.heap.size=Gx4 at Gr4 Gz4 ⊢
     have HG4:=hide hG4
     clear hG4
     have q0:=cellKC Gr4.out 0 rfl
     have f0:=fzR 0 Gr4.out
     have q1:=cellKC Gr4.out 1 rfl
     have f1:=fzR 1 Gr4.out
     have q2:=cellKC Gr4.out 2 rfl
     have f2:=fzR 2 Gr4.out
     have q3:=cellKC Gr4.out 3 rfl
     have f3:=fzR 3 Gr4.out
     refine onE (i:=7) rfl (fun K hK=>?_)
     go_simp
     clear q0 q1 q2 q3 f0 f1 f2 f3
     refine hK.out _ _ (fun h=>absurd rfl h) ?_
     clear hK K
     try simp only [Act.put,sA,sB,sC]
     refine doneK (by kernel_rfl) ?_ _
     go_wp2
     go_meet
     exact ⟨Gx4,_,_,nm3,ar3,ap3,n3,m3,c3,d3,R3,code3,rfl,hide (SpB.of B4.out Gr4.out R4.out A3.out Z3.out.1 (by have:=B4.out.size;have h1:=(Array.getElem?_eq_some_iff.1 Gr4.out).1;have h2:=HG4.out;omega) Gz4.out (.inr (by have:=HG4.out;omega)))⟩
    ·go_simp
     have hal5:=HAl.out W2 (.cells #[.string ⟨#[]⟩,.slice none 0 0,.slice none 0 0,.int .i64 0] 34)
     have I5:=hide (I2.out.past hal5)
     have B5:=hide (chain B2.out hal5)
     have Gr5:=hide (heap_alloc_new W2 (.cells #[.string ⟨#[]⟩,.slice none 0 0,.slice none 0 0,.int .i64 0] 34))
     have Gz5:Hid (w2.heap.size≤W2.heap.size):=B2.out.size
     have Gh5:=hide (Nat.le_refl W2.heap.size)
     clear hal5
     try dsimp only
     refine hK.out _ _ (fun _=>B5.out) ?_
     clear hK K
     try simp only [Act.put,sA,sB,sC]
     generalize W2.alloc (.cells #[.string ⟨#[]⟩,.slice none 0 0,.slice none 0 0,.int .i64 0] 34)=W5 at B5 Gr5 I5 ⊢
     generalize hG5:W2.heap.size=Gx5 at Gr5 Gz5 ⊢
     have HG5:=hide hG5
     clear hG5
     refine onE (i:=5) rfl (fun K hK=>?_)
     go_simp
     refine (c_s_ShardPut nm win x hs OX.out I5.out (Nat.le_refl _)).mono ?_
     rintro e W6 ⟨v6,nm6,R6,code6,rfl,ha6,ho6,hb6⟩
     obtain ⟨ar6,ap6,n6,m6,c6,d6,rfl,hr6⟩:=ho6.open
     have G6:=hide (row_pastS Gr5.out hb6)
     have A6:=hide (ha6.key K1.out)
     have Rr6:=hide hr6
     have B6:=hide (chain B5.out hb6)
     have Z6:Hid (w2.heap.size≤W5.heap.size∧W5.heap.size≤W6.heap.size):=⟨B5.out.size,hb6.size⟩
     have Y6:Hid (Gx5<W5.heap.size):=(Array.getElem?_eq_some_iff.1 Gr5.out).1
     clear ha6 ho6 hr6 hb6
     try dsimp only
     refine hK.out _ _ (fun _=>B6.out) ?_
     clear hK K
     try simp only [Act.put,sA,sB,sC]
     have q0:=cellKC G6.out 0 rfl
     have f0:=fzR 0 G6.out
     have q1:=cellKC G6.out 1 rfl
     have f1:=fzR 1 G6.out
     have q2:=cellKC G6.out 2 rfl
     have f2:=fzR 2 G6.out
     have q3:=cellKC G6.out 3 rfl
     have f3:=fzR 3 G6.out
     refine onE (i:=7) rfl (fun K hK=>?_)
     go_simp
     clear q0 q1 q2 q3 f0 f1 f2 f3
     refine hK.out _ _ (fun h=>absurd rfl h) ?_
     clear hK K
     try simp only [Act.put,sA,sB,sC]
     refine doneK (by kernel_rfl) ?_ _
     go_wp2
     go_meet
     exact ⟨Gx5,_,_,nm6,ar6,ap6,n6,m6,c6,d6,R6,code6,rfl,hide (SpB.of B6.out G6.out Rr6.out A6.out Z6.out.1 (Nat.le_refl _) Gz5.out (.inl Y6.out))⟩
   ·go_simp
    have hal7:=HAl.out W1 (.cells #[.string ⟨#[]⟩,.slice none 0 0,.slice none 0 0,.int .i64 0] 34)
    have I7:=hide (I1.out.past hal7)
    have B7:=hide (chain B1.out hal7)
    have Gr7:=hide (heap_alloc_new W1 (.cells #[.string ⟨#[]⟩,.slice none 0 0,.slice none 0 0,.int .i64 0] 34))
    have Gz7:Hid (w2.heap.size≤W1.heap.size):=B1.out.size
    have Gh7:=hide (Nat.le_refl W1.heap.size)
    clear hal7
    try dsimp only
    refine hK.out _ _ (fun _=>B7.out) ?_
    clear hK K
    try simp only [Act.put,sA,sB,sC]
    generalize W1.alloc (.cells #[.string ⟨#[]⟩,.slice none 0 0,.slice none 0 0,.int .i64 0] 34)=W7 at B7 Gr7 I7 ⊢
    generalize hG7:W1.heap.size=Gx7 at Gr7 Gz7 ⊢
    have HG7:=hide hG7
    clear hG7
    refine onE (i:=4) rfl (fun K hK=>?_)
    go_simp
    refine (c_toSampleX x).mono ?_
    rintro e W8 ⟨rfl,hb8⟩
    have I8:=hide (I7.out.past hb8)
    have G8:=hide (row_pastS Gr7.out hb8)
    have B8:=hide (chain B7.out hb8)
    clear hb8
    try dsimp only
    refine hK.out _ _ (fun _=>B8.out) ?_
    clear hK K
    try simp only [Act.put,sA,sB,sC]
    refine onE (i:=5) rfl (fun K hK=>?_)
    go_simp
    refine (c_s_ShardPut nm win x hs OX.out I8.out (Nat.le_refl _)).mono ?_
    rintro e W9 ⟨v9,nm9,R9,code9,rfl,ha9,ho9,hb9⟩
    obtain ⟨ar9,ap9,n9,m9,c9,d9,rfl,hr9⟩:=ho9.open
    have G9:=hide (row_pastS G8.out hb9)
    have A9:=hide (ha9.key K1.out)
    have Rr9:=hide hr9
    have B9:=hide (chain B8.out hb9)
    have Z9:Hid (w2.heap.size≤W8.heap.size∧W8.heap.size≤W9.heap.size):=⟨B8.out.size,hb9.size⟩
    have Y9:Hid (Gx7<W8.heap.size):=(Array.getElem?_eq_some_iff.1 G8.out).1
    clear ha9 ho9 hr9 hb9
    try dsimp only
    refine hK.out _ _ (fun _=>B9.out) ?_
    clear hK K
    try simp only [Act.put,sA,sB,sC]
    have q0:=cellKC G9.out 0 rfl
    have f0:=fzR 0 G9.out
    have q1:=cellKC G9.out 1 rfl
    have f1:=fzR 1 G9.out
    have q2:=cellKC G9.out 2 rfl
    have f2:=fzR 2 G9.out
    have q3:=cellKC G9.out 3 rfl
    have f3:=fzR 3 G9.out
    refine onE (i:=7) rfl (fun K hK=>?_)
    go_simp
    clear q0 q1 q2 q3 f0 f1 f2 f3
    refine hK.out _ _ (fun h=>absurd rfl h) ?_
    clear hK K
    try simp only [Act.put,sA,sB,sC]
    refine doneK (by kernel_rfl) ?_ _
    go_wp2
    go_meet
    exact ⟨Gx7,_,_,nm9,ar9,ap9,n9,m9,c9,d9,R9,code9,rfl,hide (SpB.of B9.out G9.out Rr9.out A9.out Z9.out.1 (Nat.le_refl _) Gz7.out (.inl Y9.out))⟩
  ·go_simp
   have hal10:=HAl.out X0 (.cells #[.string ⟨#[]⟩,.slice none 0 0,.slice none 0 0,.int .i64 0] 34)
   have B10:=hide (chain HB0x.out hal10)
   have Gr10:=hide (heap_alloc_new X0 (.cells #[.string ⟨#[]⟩,.slice none 0 0,.slice none 0 0,.int .i64 0] 34))
   have Gz10:Hid (w2.heap.size≤X0.heap.size):=HB0x.out.size
   have Gh10:=hide (Nat.le_refl X0.heap.size)
   clear hal10
   try dsimp only
   refine hK.out _ _ (fun _=>B10.out) ?_
   clear hK K
   try simp only [Act.put,sA,sB,sC]
   generalize X0.alloc (.cells #[.string ⟨#[]⟩,.slice none 0 0,.slice none 0 0,.int .i64 0] 34)=W10 at B10 Gr10 ⊢
   generalize hG10:X0.heap.size=Gx10 at Gr10 Gz10 ⊢
   have HG10:=hide hG10
   clear hG10
   refine onE (i:=1) rfl (fun K hK=>?_)
   go_simp
   refine (c_toShardX nm ca HN.out lN HQ.out.sm (ces_past HA.out (chain (HB0.out ▸ HT2.out) B10.out))).mono ?_
   rintro e W11 ⟨M11,g11,rfl,hg11,l11,k11,r11,hb11⟩
   obtain ⟨ra11,rb11⟩:=r11.own_all l11 lN
   have G11:=hide (row_pastS Gr10.out hb11)
   have I11:=hide (ShI.of HQ.out k11 l11 lN ra11 rb11)
   have K11:=hide k11
   have B11:=hide (chain B10.out hb11)
   clear hg11 l11 k11 r11 ra11 rb11 hb11
   try dsimp only
   refine hK.out _ _ (fun _=>B11.out) ?_
   clear hK K
   try simp only [Act.put,sA,sB,sC]
   refine onE (i:=4) rfl (fun K hK=>?_)
   go_simp
   refine (c_toSampleX x).mono ?_
   rintro e W12 ⟨rfl,hb12⟩
   have I12:=hide (I11.out.past hb12)
   have G12:=hide (row_pastS G11.out hb12)
   have B12:=hide (chain B11.out hb12)
   clear hb12
   try dsimp only
   refine hK.out _ _ (fun _=>B12.out) ?_
   clear hK K
   try simp only [Act.put,sA,sB,sC]
   refine onE (i:=5) rfl (fun K hK=>?_)
   go_simp
   refine (c_s_ShardPut nm win x hs OX.out I12.out (Nat.le_refl _)).mono ?_
   rintro e W13 ⟨v13,nm13,R13,code13,rfl,ha13,ho13,hb13⟩
   obtain ⟨ar13,ap13,n13,m13,c13,d13,rfl,hr13⟩:=ho13.open
   have G13:=hide (row_pastS G12.out hb13)
   have A13:=hide (ha13.key K11.out)
   have Rr13:=hide hr13
   have B13:=hide (chain B12.out hb13)
   have Z13:Hid (w2.heap.size≤W12.heap.size∧W12.heap.size≤W13.heap.size):=⟨B12.out.size,hb13.size⟩
   have Y13:Hid (Gx10<W12.heap.size):=(Array.getElem?_eq_some_iff.1 G12.out).1
   clear ha13 ho13 hr13 hb13
   try dsimp only
   refine hK.out _ _ (fun _=>B13.out) ?_
   clear hK K
   try simp only [Act.put,sA,sB,sC]
   have q0:=cellKC G13.out 0 rfl
   have f0:=fzR 0 G13.out
   have q1:=cellKC G13.out 1 rfl
   have f1:=fzR 1 G13.out
   have q2:=cellKC G13.out 2 rfl
   have f2:=fzR 2 G13.out
   have q3:=cellKC G13.out 3 rfl
   have f3:=fzR 3 G13.out
   refine onE (i:=7) rfl (fun K hK=>?_)
   go_simp
   clear q0 q1 q2 q3 f0 f1 f2 f3
   refine hK.out _ _ (fun h=>absurd rfl h) ?_
   clear hK K
   try simp only [Act.put,sA,sB,sC]
   refine doneK (by kernel_rfl) ?_ _
   go_wp2
   go_meet
   exact ⟨Gx10,_,_,nm13,ar13,ap13,n13,m13,c13,d13,R13,code13,rfl,hide (SpB.of B13.out G13.out Rr13.out A13.out Z13.out.1 (Nat.le_refl _) Gz10.out (.inl Y13.out))⟩
 case rest=>
 obtain ⟨b4,lo4,hi4,nm4,ar4,ap4,n41,n42,c41,c42,R4,code4,rfl,S4⟩:=hcut
 obtain ⟨W4,hw⟩:∃ X,wc=X:=⟨_,rfl⟩
 rw [hw] at S4 ⊢
 clear hw
 have HT4:=hide (chain HT2.out S4.out.b)
 have HX4:=hide (row_pastS HX2.out S4.out.b)
 have HV4:=hide (row_pastS HV2.out S4.out.b)
 have HW4:=hide S4.out.r
 have HY4:=hide S4.out.y
 have A4:=hide S4.out.a
 have HZ4:Hid (b4<W4.heap.size):=(Array.getElem?_eq_some_iff.1 S4.out.y).1
 have HBZ:Hid (B0+1<b4):=Nat.lt_of_lt_of_le (Array.getElem?_eq_some_iff.1 HV2.out).1 S4.out.g0
 have HH4:Hid (B0+1<lo4∧hi4≤W4.heap.size):=⟨Nat.lt_of_lt_of_le (Array.getElem?_eq_some_iff.1 HV2.out).1 S4.out.z1,S4.out.z2⟩
 clear S4 HX2 HV2 HT2
 obtain ⟨x0,x1⟩:=box2 HX4.out
 go_wp2_with fail
 clear x0 x1
 refine (c_toShardX nm ca HN.out lN HQ.out.sm (ces_past HA.out (HB0.out ▸ HT4.out))).mono ?_
 rintro e w5 ⟨M5,g5,rfl,hg5,l5,k5,r5,hb5⟩
 obtain ⟨r5a,r5b⟩:=r5.own_all l5 lN
 have hb5':=chain hb5 (HAl.out w5 (.cells #[.string nm,.slice (some ⟨g5,0,none⟩) N N] 32))
 have R5:=hide (r5a.past (HAl.out w5 (.cells #[.string nm,.slice (some ⟨g5,0,none⟩) N N] 32)))
 have C5:=hide (r5b.past (HAl.out w5 (.cells #[.string nm,.slice (some ⟨g5,0,none⟩) N N] 32)))
 have U5:Hid (∀ k,CBlk (.slice (some ⟨g5,0,none⟩) N N) M5 k→W4.heap.size≤k∧k<w5.heap.size):=fun k q=>by
  rcases q with q | ⟨c,m,q⟩
  ·have:=World.ownsRow.lt r5a k q;omega
  ·have:=(r5b.o c m).lt q;omega
 have K5:=hide k5
 have L5:=hide l5
 have HY5:=hide (heap_alloc_new w5 (.cells #[.string nm,.slice (some ⟨g5,0,none⟩) N N] 32))
 have HT5:=hide (chain HT4.out hb5')
 have HX5:=hide (row_pastS HX4.out hb5')
 have HV5:=hide (row_pastS HV4.out hb5')
 have HYw5:=hide (row_pastS HY4.out hb5')
 have HW5:=hide (HW4.out.past hb5')
 have hz5:w5.heap.size<(w5.alloc (.cells #[.string nm,.slice (some ⟨g5,0,none⟩) N N] 32)).heap.size:=by simp
 have HZ5:=hide hz5
 have HZ45:=hide hb5.size
 clear hg5 l5 k5 r5 r5a r5b hb5 hb5' hz5 HX4 HV4 HY4 HW4
 go_upto_region 10 with fail
 generalize w5.alloc (.cells #[.string nm,.slice (some ⟨g5,0,none⟩) N N] 32)=W5 at R5 C5 HY5 HT5 HX5 HV5 HYw5 HW5 HZ5 ⊢
 generalize w5.heap.size=b5 at HY5 HZ5 HZ45 U5 ⊢
 have I5:=hide (ShI.of HQ.out K5.out L5.out lN R5.out C5.out)
 go_cut [10] (fun v w'=>∃ (G lo hi:Nat) (nm':ByteArray) (ar ap:Option Addr) (n1 n2 c1 c2:Nat) (R:List Ce) (code:Int),v=.pointer (some ⟨G,0,none⟩)∧Hid (SpB W5 w' nm L win x G lo hi nm' ar ap n1 n2 c1 c2 R code))
 case first=>
  have HS0:Below W5.heap.size W5 W5.drew:=(Below.refl _ _).drew
  refine regionK (fun W=>Below W5.heap.size W5 W) 6 (by kernel_rfl) ?_
  generalize W5.drew=X0 at HS0 ⊢
  have HB0x:Hid (Below W5.heap.size W5 X0):=HS0
  clear HS0
  refine tkL (i:=0) (v:=.agg #[.string nm,.slice (some ⟨g5,0,none⟩) N N]) rfl rfl HB0x.out (fun W hW=>?_) ?_
  ·obtain ⟨x0,x1⟩:=box2 (row_pastS HY5.out hW)
   clear hW
   go_simp
  refine tkS (i:=1) (v:=.int .i64 win) rfl rfl HB0x.out ?_
  refine tkL (i:=2) (v:=.agg (sxArr x)) rfl rfl HB0x.out (fun W hW=>?_) ?_
  ·obtain ⟨x0,x1,x2,x3,x4,x5,x6⟩:=cells7L (row_pastS HV5.out hW)
   clear hW
   go_simp
  simp only [sA,sB,sC]
  have I14:=hide (I5.out.past HB0x.out)
  refine twoK (i:=3) (j:=5) (by kernel_rfl) rfl rfl (fun K hK=>?_) (fun K hK=>?_)
  ·go_simp
   refine (c_toSampleX x).mono ?_
   rintro e W15 ⟨rfl,hb15⟩
   have I15:=hide (I14.out.past hb15)
   have B15:=hide (chain HB0x.out hb15)
   clear hb15
   try dsimp only
   refine hK.out _ _ (fun _=>B15.out) ?_
   clear hK K
   try simp only [Act.put,sA,sB,sC]
   refine twoK (i:=4) (j:=5) (by kernel_rfl) rfl rfl (fun K hK=>?_) (fun K hK=>?_)
   ·go_simp
    refine (c_i_ShardPut nm win x hs OX.out (HMx.out.past (chain (HB0.out ▸ HT5.out) B15.out)) I15.out).mono ?_
    rintro e W16 ⟨v16,nm16,R16,code16,rfl,ha16,ho16,hb16⟩
    obtain ⟨ar16,ap16,n16,m16,c16,d16,rfl,hr16⟩:=ho16.open
    have A16:=hide (ha16.key K5.out)
    have Rr16:=hide hr16
    have B16:=hide (chain B15.out hb16)
    have Z16:Hid (W5.heap.size≤W15.heap.size∧W15.heap.size≤W16.heap.size):=⟨B15.out.size,hb16.size⟩
    clear ha16 ho16 hr16 hb16
    try dsimp only
    refine hK.out _ _ (fun _=>B16.out) ?_
    clear hK K
    try simp only [Act.put,sA,sB,sC]
    refine onE (i:=5) rfl (fun K hK=>?_)
    go_simp
    have hal17:=HAl.out W16 (.cells #[.string ⟨#[]⟩,.slice none 0 0,.slice none 0 0,.int .i64 0] 34)
    have R17:=hide (Rr16.out.past hal17)
    have B17:=hide (chain B16.out hal17)
    have Gr17:=hide (heap_alloc_new W16 (.cells #[.string ⟨#[]⟩,.slice none 0 0,.slice none 0 0,.int .i64 0] 34))
    have Gz17:Hid (W5.heap.size≤W16.heap.size):=B16.out.size
    have Gh17:=hide (Nat.le_refl W16.heap.size)
    clear hal17
    try dsimp only
    refine hK.out _ _ (fun _=>B17.out) ?_
    clear hK K
    try simp only [Act.put,sA,sB,sC]
    generalize W16.alloc (.cells #[.string ⟨#[]⟩,.slice none 0 0,.slice none 0 0,.int .i64 0] 34)=W17 at B17 Gr17 R17 ⊢
    generalize hG17:W16.heap.size=Gx17 at Gr17 Gz17 ⊢
    have HG17:=hide hG17
    clear hG17
    have q0:=cellKC Gr17.out 0 rfl
    have f0:=fzR 0 Gr17.out
    have q1:=cellKC Gr17.out 1 rfl
    have f1:=fzR 1 Gr17.out
    have q2:=cellKC Gr17.out 2 rfl
    have f2:=fzR 2 Gr17.out
    have q3:=cellKC Gr17.out 3 rfl
    have f3:=fzR 3 Gr17.out
    refine onE (i:=6) rfl (fun K hK=>?_)
    go_simp
    clear q0 q1 q2 q3 f0 f1 f2 f3
    refine hK.out _ _ (fun h=>absurd rfl h) ?_
    clear hK K
    try simp only [Act.put,sA,sB,sC]
    refine doneK (by kernel_rfl) ?_ _
    go_wp2
    go_meet
    exact ⟨Gx17,_,_,nm16,ar16,ap16,n16,m16,c16,d16,R16,code16,rfl,hide (SpB.of B17.out Gr17.out R17.out A16.out Z16.out.1 (by have:=B17.out.size;have h1:=(Array.getElem?_eq_some_iff.1 Gr17.out).1;have h2:=HG17.out;omega) Gz17.out (.inr (by have:=HG17.out;omega)))⟩
   ·go_simp
    have hal18:=HAl.out W15 (.cells #[.string ⟨#[]⟩,.slice none 0 0,.slice none 0 0,.int .i64 0] 34)
    have I18:=hide (I15.out.past hal18)
    have B18:=hide (chain B15.out hal18)
    have Gr18:=hide (heap_alloc_new W15 (.cells #[.string ⟨#[]⟩,.slice none 0 0,.slice none 0 0,.int .i64 0] 34))
    have Gz18:Hid (W5.heap.size≤W15.heap.size):=B15.out.size
    have Gh18:=hide (Nat.le_refl W15.heap.size)
    clear hal18
    try dsimp only
    refine hK.out _ _ (fun _=>B18.out) ?_
    clear hK K
    try simp only [Act.put,sA,sB,sC]
    generalize W15.alloc (.cells #[.string ⟨#[]⟩,.slice none 0 0,.slice none 0 0,.int .i64 0] 34)=W18 at B18 Gr18 I18 ⊢
    generalize hG18:W15.heap.size=Gx18 at Gr18 Gz18 ⊢
    have HG18:=hide hG18
    clear hG18
    refine onE (i:=4) rfl (fun K hK=>?_)
    go_simp
    refine (c_i_ShardPut nm win x hs OX.out (HMx.out.past (chain (HB0.out ▸ HT5.out) B18.out)) I18.out).mono ?_
    rintro e W19 ⟨v19,nm19,R19,code19,rfl,ha19,ho19,hb19⟩
    obtain ⟨ar19,ap19,n19,m19,c19,d19,rfl,hr19⟩:=ho19.open
    have G19:=hide (row_pastS Gr18.out hb19)
    have A19:=hide (ha19.key K5.out)
    have Rr19:=hide hr19
    have B19:=hide (chain B18.out hb19)
    have Z19:Hid (W5.heap.size≤W18.heap.size∧W18.heap.size≤W19.heap.size):=⟨B18.out.size,hb19.size⟩
    have Y19:Hid (Gx18<W18.heap.size):=(Array.getElem?_eq_some_iff.1 Gr18.out).1
    clear ha19 ho19 hr19 hb19
    try dsimp only
    refine hK.out _ _ (fun _=>B19.out) ?_
    clear hK K
    try simp only [Act.put,sA,sB,sC]
    have q0:=cellKC G19.out 0 rfl
    have f0:=fzR 0 G19.out
    have q1:=cellKC G19.out 1 rfl
    have f1:=fzR 1 G19.out
    have q2:=cellKC G19.out 2 rfl
    have f2:=fzR 2 G19.out
    have q3:=cellKC G19.out 3 rfl
    have f3:=fzR 3 G19.out
    refine onE (i:=6) rfl (fun K hK=>?_)
    go_simp
    clear q0 q1 q2 q3 f0 f1 f2 f3
    refine hK.out _ _ (fun h=>absurd rfl h) ?_
    clear hK K
    try simp only [Act.put,sA,sB,sC]
    refine doneK (by kernel_rfl) ?_ _
    go_wp2
    go_meet
    exact ⟨Gx18,_,_,nm19,ar19,ap19,n19,m19,c19,d19,R19,code19,rfl,hide (SpB.of B19.out G19.out Rr19.out A19.out Z19.out.1 (Nat.le_refl _) Gz18.out (.inl Y19.out))⟩
  ·go_simp
   have hal20:=HAl.out X0 (.cells #[.string ⟨#[]⟩,.slice none 0 0,.slice none 0 0,.int .i64 0] 34)
   have I20:=hide (I14.out.past hal20)
   have B20:=hide (chain HB0x.out hal20)
   have Gr20:=hide (heap_alloc_new X0 (.cells #[.string ⟨#[]⟩,.slice none 0 0,.slice none 0 0,.int .i64 0] 34))
   have Gz20:Hid (W5.heap.size≤X0.heap.size):=HB0x.out.size
   have Gh20:=hide (Nat.le_refl X0.heap.size)
   clear hal20
   try dsimp only
   refine hK.out _ _ (fun _=>B20.out) ?_
   clear hK K
   try simp only [Act.put,sA,sB,sC]
   generalize X0.alloc (.cells #[.string ⟨#[]⟩,.slice none 0 0,.slice none 0 0,.int .i64 0] 34)=W20 at B20 Gr20 I20 ⊢
   generalize hG20:X0.heap.size=Gx20 at Gr20 Gz20 ⊢
   have HG20:=hide hG20
   clear hG20
   refine onE (i:=3) rfl (fun K hK=>?_)
   go_simp
   refine (c_toSampleX x).mono ?_
   rintro e W21 ⟨rfl,hb21⟩
   have I21:=hide (I20.out.past hb21)
   have G21:=hide (row_pastS Gr20.out hb21)
   have B21:=hide (chain B20.out hb21)
   clear hb21
   try dsimp only
   refine hK.out _ _ (fun _=>B21.out) ?_
   clear hK K
   try simp only [Act.put,sA,sB,sC]
   refine onE (i:=4) rfl (fun K hK=>?_)
   go_simp
   refine (c_i_ShardPut nm win x hs OX.out (HMx.out.past (chain (HB0.out ▸ HT5.out) B21.out)) I21.out).mono ?_
   rintro e W22 ⟨v22,nm22,R22,code22,rfl,ha22,ho22,hb22⟩
   obtain ⟨ar22,ap22,n22,m22,c22,d22,rfl,hr22⟩:=ho22.open
   have G22:=hide (row_pastS G21.out hb22)
   have A22:=hide (ha22.key K5.out)
   have Rr22:=hide hr22
   have B22:=hide (chain B21.out hb22)
   have Z22:Hid (W5.heap.size≤W21.heap.size∧W21.heap.size≤W22.heap.size):=⟨B21.out.size,hb22.size⟩
   have Y22:Hid (Gx20<W21.heap.size):=(Array.getElem?_eq_some_iff.1 G21.out).1
   clear ha22 ho22 hr22 hb22
   try dsimp only
   refine hK.out _ _ (fun _=>B22.out) ?_
   clear hK K
   try simp only [Act.put,sA,sB,sC]
   have q0:=cellKC G22.out 0 rfl
   have f0:=fzR 0 G22.out
   have q1:=cellKC G22.out 1 rfl
   have f1:=fzR 1 G22.out
   have q2:=cellKC G22.out 2 rfl
   have f2:=fzR 2 G22.out
   have q3:=cellKC G22.out 3 rfl
   have f3:=fzR 3 G22.out
   refine onE (i:=6) rfl (fun K hK=>?_)
   go_simp
   clear q0 q1 q2 q3 f0 f1 f2 f3
   refine hK.out _ _ (fun h=>absurd rfl h) ?_
   clear hK K
   try simp only [Act.put,sA,sB,sC]
   refine doneK (by kernel_rfl) ?_ _
   go_wp2
   go_meet
   exact ⟨Gx20,_,_,nm22,ar22,ap22,n22,m22,c22,d22,R22,code22,rfl,hide (SpB.of B22.out G22.out Rr22.out A22.out Z22.out.1 (Nat.le_refl _) Gz20.out (.inl Y22.out))⟩
 case rest=>
 obtain ⟨b6,lo6,hi6,nm6,ar6,ap6,n61,n62,c61,c62,R6,code6,rfl,S6⟩:=hcut
 obtain ⟨W6,hw⟩:∃ X,wc=X:=⟨_,rfl⟩
 rw [hw] at S6 ⊢
 clear hw
 have A6:=hide S6.out.a
 have HG6:=hide S6.out.r
 have HY6:=hide S6.out.y
 have HT6:=hide (chain HT5.out S6.out.b)
 have HX6:=hide (row_pastS HX5.out S6.out.b)
 have HV6:=hide (row_pastS HV5.out S6.out.b)
 have HYw6:=hide (row_pastS HYw5.out S6.out.b)
 have HYx6:=hide (row_pastS HY5.out S6.out.b)
 have HW6:=hide (HW5.out.past S6.out.b)
 have R6x:=hide (R5.out.past S6.out.b)
 have C6x:=hide (C5.out.past S6.out.b)
 have HZ6:Hid (b6<W6.heap.size):=(Array.getElem?_eq_some_iff.1 S6.out.y).1
 have HZ56:Hid (W5.heap.size≤b6∧W5.heap.size≤lo6∧hi6≤W6.heap.size∧(b6<lo6∨hi6≤b6)):=⟨S6.out.g0,S6.out.z1,S6.out.z2,S6.out.g1⟩
 have BA:=hide (A6.out.bounds HTot.out HQ.out)
 have EQ:=hide (A6.out.same A4.out)
 clear S6 I5 HX5 HV5 HYw5 HY5 HW5 R5 C5
 obtain ⟨x0,x1,x2,x3⟩:=box4 HY6.out
 obtain ⟨y0,y1,y2,y3⟩:=box4 HYw6.out
 go_wp2_with fail
 clear x0 x1 x2 x3 y0 y1 y2 y3
 refine (c_eqSO HG6.out HW6.out BA.out ⟨EQ.out.1,EQ.out.2.1,rfl,EQ.out.2.2.2⟩).mono ?_
 rintro e w7 ⟨rfl,hb7⟩
 have HT7:=hide (chain HT6.out hb7)
 have HX7:=hide (row_pastS HX6.out hb7)
 have HV7:=hide (row_pastS HV6.out hb7)
 have HYg7:=hide (row_pastS HY6.out hb7)
 have HYw7:=hide (row_pastS HYw6.out hb7)
 have HYx7:=hide (row_pastS HYx6.out hb7)
 have HW7:=hide (HW6.out.past hb7)
 have HG7:=hide (HG6.out.past hb7)
 have R7:=hide (R6x.out.past hb7)
 have C7:=hide (C6x.out.past hb7)
 have HZ67:=hide hb7.size
 clear hb7 HX6 HV6 HY6 HYw6 HYx6 HW6 HG6 R6x C6x
 go_upto_region 13 with fail
 go_cut [46] (fun v w'=>v=.bool false∧Hid (Below w7.heap.size w7 w'))
 case first=>
  have HS0:(fun W=>Below w7.heap.size w7 W) w7.drew:=(Below.refl _ _).drew
  refine regionK (fun W=>Below w7.heap.size w7 W) 99 (by kernel_rfl) ?_
  refine tkL (i:=0) (v:=.agg #[.string nm,.slice (some ⟨g5,0,none⟩) N N]) rfl rfl HS0 (fun W hW=>?_) ?_
  ·obtain ⟨x0,x1⟩:=box2 (row_pastS HYx7.out hW)
   clear hW
   go_simp
  refine tkL (i:=1) (v:=.agg #[.string nm,.slice ao N ca]) rfl rfl HS0 (fun W hW=>?_) ?_
  ·obtain ⟨x0,x1⟩:=box2 (row_pastS HX7.out hW)
   clear hW
   go_simp
  simp only [sA,sB,sC]
  refine onE (i:=2) rfl (fun K hK=>?_)
  go_simp
  refine (c_toShardX nm ca HN.out lN HQ.out.sm (ces_past HA.out (chain (HB0.out ▸ HT7.out) HS0))).mono ?_
  rintro e w8 ⟨M8,g8,rfl,hg8,l8,k8,r8,hb8⟩
  obtain ⟨r8a,r8b⟩:=r8.own_all l8 lN
  have HB8:Hid (Below w7.heap.size w7 w8):=(HS0:Below w7.heap.size w7 w7.drew).trans (hb8.mono (Nat.le_refl _))
  have R8:=hide (OwnC.at r8a r8b.at)
  have K8:=hide k8
  have L8:=hide l8
  clear hg8 l8 k8 r8 r8a r8b hb8
  dsimp only
  refine hK.out _ _ (fun _=>HB8.out) ?_
  clear hK K
  try simp only [Act.put,sA,sB,sC]
  refine onE (i:=3) rfl (fun K hK=>?_)
  go_simp
  refine (c_eqShard nm L5.out L8.out (K5.out.trans K8.out.symm) lN (HQ.out.key K5.out).sm (OwnC.at (R7.out.past HB8.out) (C7.out.past HB8.out).at) R8.out).mono ?_
  rintro e w9 ⟨rfl,hb9⟩
  have HB9:Hid (Below w7.heap.size w7 w9):=chain HB8.out hb9
  clear hb9
  dsimp only
  refine hK.out _ _ (fun _=>HB9.out) ?_
  clear hK K
  try simp only [Act.put,sA,sB,sC]
  refine tkS (i:=4) (v:=.bool false) rfl rfl HB9.out ?_
  simp only [sA,sB,sC]
  refine doneK (by kernel_rfl) ?_ _
  go_wp2
  go_meet
  exact ⟨rfl,HB9⟩
 case rest=>
 obtain ⟨rfl,HB9⟩:=hcut
 obtain ⟨w9,hw9⟩:∃ X,wc=X:=⟨_,rfl⟩
 rw [hw9] at HB9 ⊢
 clear hw9
 have HT9:=hide (chain HT7.out HB9.out)
 have HX9:=hide (row_pastS HX7.out HB9.out)
 have HV9:=hide (row_pastS HV7.out HB9.out)
 have HYg9:=hide (row_pastS HYg7.out HB9.out)
 have HYw9:=hide (row_pastS HYw7.out HB9.out)
 have HYx9:=hide (row_pastS HYx7.out HB9.out)
 have HW9:=hide (HW7.out.past HB9.out)
 have HG9:=hide (HG7.out.past HB9.out)
 have R9:=hide (R7.out.past HB9.out)
 have C9:=hide (C7.out.past HB9.out)
 have HZ79:=hide HB9.out.size
 clear HB9 HX7 HV7 HYg7 HYw7 HYx7 HW7 HG7 R7 C7 HT7
 obtain ⟨x0,x1⟩:=box2 HYx9.out
 go_wp2_with fail
 clear x0 x1
 have hT5:1+totC M5≤50000000:=by
  rw [totC_key K5.out]
  have:=totC_le HTot.out
  have:=HTot.out
  omega
 refine (c_markShard nm 1 (Nat.le_refl _) hT5 L5.out lN (HQ.out.key K5.out).sm R9.out C9.out).mono ?_
 rintro e w10 ⟨rfl,hM⟩
 have hS5:∀ k,CBlk (.slice (some ⟨g5,0,none⟩) N N) M5 k→W4.heap.size≤k∧k<b5:=U5.out
 have z4:=HZ4.out
 have z45:=HZ45.out
 have z5:=HZ5.out
 have z56:=HZ56.out
 have z6:=HZ6.out
 have zb:=HBZ.out
 have h4:=HH4.out
 have HYg10:=hide (hM.g.row HYg9.out (fun q=>by have:=hS5 _ q;omega))
 have HYw10:=hide (hM.g.row HYw9.out (fun q=>by have:=hS5 _ q;omega))
 have HX10:=hide (hM.g.row HX9.out (fun q=>by have:=hS5 _ q;omega))
 have HV10:=hide (hM.g.row HV9.out (fun q=>by have:=hS5 _ q;omega))
 have HW10:=hide (HW9.out.keptS hM.g (fun k a b q=>by have:=hS5 _ q;omega))
 have HG10:=hide (HG9.out.keptS hM.g (fun k a b q=>by have:=hS5 _ q;omega))
 have HT10:Hid (Below B0 w w10):=hM.g.below (HB0.out ▸ HT9.out) (by have:=HT9.out.size;have:=HB0.out;omega) (fun k q=>by have:=hS5 _ q;omega)
 have HZ910:=hide hM.g.size
 have hn:¬ (((1+totC M5:Nat):Int)<0):=by omega
 clear hM hT5 hS5 h4 z4 z45 z5 z56 z6 zb HYg9 HYw9 HYx9 HX9 HV9 HW9 HG9 HT9 R9 C9
 obtain ⟨x0,x1,x2,x3⟩:=box4 HYg10.out
 obtain ⟨y0,y1,y2,y3⟩:=box4 HYw10.out
 go_wp2_with fail
 clear x0 x1 x2 x3 y0 y1 y2 y3 hn
 refine (c_eqSO HG10.out HW10.out BA.out ⟨EQ.out.1,EQ.out.2.1,rfl,EQ.out.2.2.2⟩).mono ?_
 rintro e w11 ⟨rfl,hb11⟩
 have HYg11:=hide (row_pastS HYg10.out hb11)
 have HYw11:=hide (row_pastS HYw10.out hb11)
 have HX11:=hide (row_pastS HX10.out hb11)
 have HV11:=hide (row_pastS HV10.out hb11)
 have HW11:=hide (HW10.out.past hb11)
 have HG11:=hide (HG10.out.past hb11)
 have HT11:Hid (Below B0 w w11):=HT10.out.trans (hb11.mono (by have:=HT10.out.size;have:=HB0.out;omega))
 have HZ1011:=hide hb11.size
 clear hb11 HYg10 HYw10 HX10 HV10 HW10 HG10 HT10
 obtain ⟨x0,x1,x2,x3⟩:=box4 HYg11.out
 go_wp2_with fail
 clear x0 x1 x2 x3
 refine (c_markShardOut nm6 code6 1 (Nat.le_refl _) BA.out.t HG11.out.l1 HG11.out.l2 (by rw [← HG11.out.l1];exact BA.out.l1) (by rw [← HG11.out.l2];exact BA.out.l2) BA.out.s1 BA.out.s2 HG11.out.r HG11.out.o HG11.out.av HG11.out.c).mono ?_
 rintro e w12 ⟨rfl,hM12,hG12⟩
 obtain ⟨T,hT⟩:∃ T,1+totC R6+totC ([]:List Ce)=T:=⟨_,rfl⟩
 have HTT:=hide hT
 rw [hT]
 clear hT
 have hi6':=HG11.out.hi
 have z4:=HZ4.out
 have z45:=HZ45.out
 have z5:=HZ5.out
 have z56:=HZ56.out
 have z6:=HZ6.out
 have zb:=HBZ.out
 have h4:=HH4.out
 have HM12:=hide hM12
 have HYg12:=hide (hG12.row HYg11.out (fun q=>by have:=hi6' _ q;omega))
 have HYw12:=hide (hG12.row HYw11.out (fun q=>by have:=hi6' _ q;omega))
 have HX12:=hide (hG12.row HX11.out (fun q=>by have:=hi6' _ q;omega))
 have HV12:=hide (hG12.row HV11.out (fun q=>by have:=hi6' _ q;omega))
 have HW12:=hide (HW11.out.keptS hG12 (fun k a b q=>by have:=hi6' _ q;omega))
 have HT12:Hid (Below B0 w w12):=hG12.below HT11.out (by have:=HT11.out.size;have:=HB0.out;omega) (fun k q=>by have:=hi6' _ q;omega)
 have L12:=hide (And.intro HG11.out.l1 HG11.out.l2)
 clear hM12 hG12 hi6' h4 z4 z45 z5 z56 z6 zb HYg11 HYw11 HX11 HV11 HW11 HG11 HT11
 obtain ⟨x0,x1,x2,x3⟩:=box4 HYg12.out
 go_wp2_with fail
 clear x0 x1 x2 x3
 refine (c_heldShardOut nm6 code6 1 (Nat.le_refl _) BA.out.t L12.out.1 L12.out.2 (by rw [← L12.out.1];exact BA.out.l1) (by rw [← L12.out.2];exact BA.out.l2) BA.out.s1 BA.out.s2 HM12.out).mono ?_
 rintro e w13 ⟨rfl,hb13⟩
 have HM13:=hide (HM12.out.past hb13)
 have HYg13:=hide (row_pastS HYg12.out hb13)
 have HYw13:=hide (row_pastS HYw12.out hb13)
 have HX13:=hide (row_pastS HX12.out hb13)
 have HV13:=hide (row_pastS HV12.out hb13)
 have HW13:=hide (HW12.out.past hb13)
 have HT13:Hid (Below B0 w w13):=HT12.out.trans (hb13.mono (by have:=HT12.out.size;have:=HB0.out;omega))
 rw [HTT.out]
 have hn:¬ ((T:Int)<0):=by omega
 clear hb13 HYg12 HYw12 HX12 HV12 HW12 HT12 HM12
 go_upto_region 27 with fail
 go_cut [14] (fun v w'=>∃ (G lo hi:Nat) (nm':ByteArray) (ar ap:Option Addr) (n1 n2 c1 c2:Nat) (R:List Ce) (code:Int),v=.pointer (some ⟨G,0,none⟩)∧Hid (SpB w13 w' nm L win x G lo hi nm' ar ap n1 n2 c1 c2 R code))
 case first=>
  have HT13':Hid (Below w.heap.size w w13):=HB0.out ▸ HT13.out
  have HS0:Below w13.heap.size w13 w13.drew:=(Below.refl _ _).drew
  refine regionK (fun W=>Below w13.heap.size w13 W) 7 (by kernel_rfl) ?_
  generalize w13.drew=X0 at HS0 ⊢
  have HB0x:Hid (Below w13.heap.size w13 X0):=HS0
  clear HS0
  refine tkL (i:=0) (v:=.agg #[.string nm,.slice ao N ca]) rfl rfl HB0x.out (fun W hW=>?_) ?_
  ·obtain ⟨x0,x1⟩:=box2 (row_pastS HX13.out hW)
   clear hW
   go_simp
  refine tkS (i:=2) (v:=.int .i64 win) rfl rfl HB0x.out ?_
  refine tkL (i:=3) (v:=.agg (sxArr x)) rfl rfl HB0x.out (fun W hW=>?_) ?_
  ·obtain ⟨x0,x1,x2,x3,x4,x5,x6⟩:=cells7L (row_pastS HV13.out hW)
   clear hW
   go_simp
  simp only [sA,sB,sC]
  refine twoK (i:=1) (j:=6) (by kernel_rfl) rfl rfl (fun K hK=>?_) (fun K hK=>?_)
  ·go_simp
   refine (c_toShardX nm ca HN.out lN HQ.out.sm (ces_past HA.out (chain HT13'.out HB0x.out))).mono ?_
   rintro e W23 ⟨M23,g23,rfl,hg23,l23,k23,r23,hb23⟩
   obtain ⟨ra23,rb23⟩:=r23.own_all l23 lN
   have I23:=hide (ShI.of HQ.out k23 l23 lN ra23 rb23)
   have K23:=hide k23
   have B23:=hide (chain HB0x.out hb23)
   clear hg23 l23 k23 r23 ra23 rb23 hb23
   try dsimp only
   refine hK.out _ _ (fun _=>B23.out) ?_
   clear hK K
   try simp only [Act.put,sA,sB,sC]
   refine twoK (i:=4) (j:=6) (by kernel_rfl) rfl rfl (fun K hK=>?_) (fun K hK=>?_)
   ·go_simp
    refine (c_toSampleX x).mono ?_
    rintro e W24 ⟨rfl,hb24⟩
    have I24:=hide (I23.out.past hb24)
    have B24:=hide (chain B23.out hb24)
    clear hb24
    try dsimp only
    refine hK.out _ _ (fun _=>B24.out) ?_
    clear hK K
    try simp only [Act.put,sA,sB,sC]
    refine twoK (i:=5) (j:=6) (by kernel_rfl) rfl rfl (fun K hK=>?_) (fun K hK=>?_)
    ·go_simp
     refine (c_i_ShardPut nm win x hs OX.out (HMx.out.past (chain HT13'.out B24.out)) I24.out).mono ?_
     rintro e W25 ⟨v25,nm25,R25,code25,rfl,ha25,ho25,hb25⟩
     obtain ⟨ar25,ap25,n25,m25,c25,d25,rfl,hr25⟩:=ho25.open
     have A25:=hide (ha25.key K23.out)
     have Rr25:=hide hr25
     have B25:=hide (chain B24.out hb25)
     have Z25:Hid (w13.heap.size≤W24.heap.size∧W24.heap.size≤W25.heap.size):=⟨B24.out.size,hb25.size⟩
     clear ha25 ho25 hr25 hb25
     try dsimp only
     refine hK.out _ _ (fun _=>B25.out) ?_
     clear hK K
     try simp only [Act.put,sA,sB,sC]
     refine onE (i:=6) rfl (fun K hK=>?_)
     go_simp
     have hal26:=HAl.out W25 (.cells #[.string ⟨#[]⟩,.slice none 0 0,.slice none 0 0,.int .i64 0] 34)
     have R26:=hide (Rr25.out.past hal26)
     have B26:=hide (chain B25.out hal26)
     have Gr26:=hide (heap_alloc_new W25 (.cells #[.string ⟨#[]⟩,.slice none 0 0,.slice none 0 0,.int .i64 0] 34))
     have Gz26:Hid (w13.heap.size≤W25.heap.size):=B25.out.size
     have Gh26:=hide (Nat.le_refl W25.heap.size)
     clear hal26
     try dsimp only
     refine hK.out _ _ (fun _=>B26.out) ?_
     clear hK K
     try simp only [Act.put,sA,sB,sC]
     generalize W25.alloc (.cells #[.string ⟨#[]⟩,.slice none 0 0,.slice none 0 0,.int .i64 0] 34)=W26 at B26 Gr26 R26 ⊢
     generalize hG26:W25.heap.size=Gx26 at Gr26 Gz26 ⊢
     have HG26:=hide hG26
     clear hG26
     have q0:=cellKC Gr26.out 0 rfl
     have f0:=fzR 0 Gr26.out
     have q1:=cellKC Gr26.out 1 rfl
     have f1:=fzR 1 Gr26.out
     have q2:=cellKC Gr26.out 2 rfl
     have f2:=fzR 2 Gr26.out
     have q3:=cellKC Gr26.out 3 rfl
     have f3:=fzR 3 Gr26.out
     refine onE (i:=7) rfl (fun K hK=>?_)
     go_simp
     clear q0 q1 q2 q3 f0 f1 f2 f3
     refine hK.out _ _ (fun h=>absurd rfl h) ?_
     clear hK K
     try simp only [Act.put,sA,sB,sC]
     refine doneK (by kernel_rfl) ?_ _
     go_wp2
     go_meet
     exact ⟨Gx26,_,_,nm25,ar25,ap25,n25,m25,c25,d25,R25,code25,rfl,hide (SpB.of B26.out Gr26.out R26.out A25.out Z25.out.1 (by have:=B26.out.size;have h1:=(Array.getElem?_eq_some_iff.1 Gr26.out).1;have h2:=HG26.out;omega) Gz26.out (.inr (by have:=HG26.out;omega)))⟩
    ·go_simp
     have hal27:=HAl.out W24 (.cells #[.string ⟨#[]⟩,.slice none 0 0,.slice none 0 0,.int .i64 0] 34)
     have I27:=hide (I24.out.past hal27)
     have B27:=hide (chain B24.out hal27)
     have Gr27:=hide (heap_alloc_new W24 (.cells #[.string ⟨#[]⟩,.slice none 0 0,.slice none 0 0,.int .i64 0] 34))
     have Gz27:Hid (w13.heap.size≤W24.heap.size):=B24.out.size
     have Gh27:=hide (Nat.le_refl W24.heap.size)
     clear hal27
     try dsimp only
     refine hK.out _ _ (fun _=>B27.out) ?_
     clear hK K
     try simp only [Act.put,sA,sB,sC]
     generalize W24.alloc (.cells #[.string ⟨#[]⟩,.slice none 0 0,.slice none 0 0,.int .i64 0] 34)=W27 at B27 Gr27 I27 ⊢
     generalize hG27:W24.heap.size=Gx27 at Gr27 Gz27 ⊢
     have HG27:=hide hG27
     clear hG27
     refine onE (i:=5) rfl (fun K hK=>?_)
     go_simp
     refine (c_i_ShardPut nm win x hs OX.out (HMx.out.past (chain HT13'.out B27.out)) I27.out).mono ?_
     rintro e W28 ⟨v28,nm28,R28,code28,rfl,ha28,ho28,hb28⟩
     obtain ⟨ar28,ap28,n28,m28,c28,d28,rfl,hr28⟩:=ho28.open
     have G28:=hide (row_pastS Gr27.out hb28)
     have A28:=hide (ha28.key K23.out)
     have Rr28:=hide hr28
     have B28:=hide (chain B27.out hb28)
     have Z28:Hid (w13.heap.size≤W27.heap.size∧W27.heap.size≤W28.heap.size):=⟨B27.out.size,hb28.size⟩
     have Y28:Hid (Gx27<W27.heap.size):=(Array.getElem?_eq_some_iff.1 Gr27.out).1
     clear ha28 ho28 hr28 hb28
     try dsimp only
     refine hK.out _ _ (fun _=>B28.out) ?_
     clear hK K
     try simp only [Act.put,sA,sB,sC]
     have q0:=cellKC G28.out 0 rfl
     have f0:=fzR 0 G28.out
     have q1:=cellKC G28.out 1 rfl
     have f1:=fzR 1 G28.out
     have q2:=cellKC G28.out 2 rfl
     have f2:=fzR 2 G28.out
     have q3:=cellKC G28.out 3 rfl
     have f3:=fzR 3 G28.out
     refine onE (i:=7) rfl (fun K hK=>?_)
     go_simp
     clear q0 q1 q2 q3 f0 f1 f2 f3
     refine hK.out _ _ (fun h=>absurd rfl h) ?_
     clear hK K
     try simp only [Act.put,sA,sB,sC]
     refine doneK (by kernel_rfl) ?_ _
     go_wp2
     go_meet
     exact ⟨Gx27,_,_,nm28,ar28,ap28,n28,m28,c28,d28,R28,code28,rfl,hide (SpB.of B28.out G28.out Rr28.out A28.out Z28.out.1 (Nat.le_refl _) Gz27.out (.inl Y28.out))⟩
   ·go_simp
    have hal29:=HAl.out W23 (.cells #[.string ⟨#[]⟩,.slice none 0 0,.slice none 0 0,.int .i64 0] 34)
    have I29:=hide (I23.out.past hal29)
    have B29:=hide (chain B23.out hal29)
    have Gr29:=hide (heap_alloc_new W23 (.cells #[.string ⟨#[]⟩,.slice none 0 0,.slice none 0 0,.int .i64 0] 34))
    have Gz29:Hid (w13.heap.size≤W23.heap.size):=B23.out.size
    have Gh29:=hide (Nat.le_refl W23.heap.size)
    clear hal29
    try dsimp only
    refine hK.out _ _ (fun _=>B29.out) ?_
    clear hK K
    try simp only [Act.put,sA,sB,sC]
    generalize W23.alloc (.cells #[.string ⟨#[]⟩,.slice none 0 0,.slice none 0 0,.int .i64 0] 34)=W29 at B29 Gr29 I29 ⊢
    generalize hG29:W23.heap.size=Gx29 at Gr29 Gz29 ⊢
    have HG29:=hide hG29
    clear hG29
    refine onE (i:=4) rfl (fun K hK=>?_)
    go_simp
    refine (c_toSampleX x).mono ?_
    rintro e W30 ⟨rfl,hb30⟩
    have I30:=hide (I29.out.past hb30)
    have G30:=hide (row_pastS Gr29.out hb30)
    have B30:=hide (chain B29.out hb30)
    clear hb30
    try dsimp only
    refine hK.out _ _ (fun _=>B30.out) ?_
    clear hK K
    try simp only [Act.put,sA,sB,sC]
    refine onE (i:=5) rfl (fun K hK=>?_)
    go_simp
    refine (c_i_ShardPut nm win x hs OX.out (HMx.out.past (chain HT13'.out B30.out)) I30.out).mono ?_
    rintro e W31 ⟨v31,nm31,R31,code31,rfl,ha31,ho31,hb31⟩
    obtain ⟨ar31,ap31,n31,m31,c31,d31,rfl,hr31⟩:=ho31.open
    have G31:=hide (row_pastS G30.out hb31)
    have A31:=hide (ha31.key K23.out)
    have Rr31:=hide hr31
    have B31:=hide (chain B30.out hb31)
    have Z31:Hid (w13.heap.size≤W30.heap.size∧W30.heap.size≤W31.heap.size):=⟨B30.out.size,hb31.size⟩
    have Y31:Hid (Gx29<W30.heap.size):=(Array.getElem?_eq_some_iff.1 G30.out).1
    clear ha31 ho31 hr31 hb31
    try dsimp only
    refine hK.out _ _ (fun _=>B31.out) ?_
    clear hK K
    try simp only [Act.put,sA,sB,sC]
    have q0:=cellKC G31.out 0 rfl
    have f0:=fzR 0 G31.out
    have q1:=cellKC G31.out 1 rfl
    have f1:=fzR 1 G31.out
    have q2:=cellKC G31.out 2 rfl
    have f2:=fzR 2 G31.out
    have q3:=cellKC G31.out 3 rfl
    have f3:=fzR 3 G31.out
    refine onE (i:=7) rfl (fun K hK=>?_)
    go_simp
    clear q0 q1 q2 q3 f0 f1 f2 f3
    refine hK.out _ _ (fun h=>absurd rfl h) ?_
    clear hK K
    try simp only [Act.put,sA,sB,sC]
    refine doneK (by kernel_rfl) ?_ _
    go_wp2
    go_meet
    exact ⟨Gx29,_,_,nm31,ar31,ap31,n31,m31,c31,d31,R31,code31,rfl,hide (SpB.of B31.out G31.out Rr31.out A31.out Z31.out.1 (Nat.le_refl _) Gz29.out (.inl Y31.out))⟩
  ·go_simp
   have hal32:=HAl.out X0 (.cells #[.string ⟨#[]⟩,.slice none 0 0,.slice none 0 0,.int .i64 0] 34)
   have B32:=hide (chain HB0x.out hal32)
   have Gr32:=hide (heap_alloc_new X0 (.cells #[.string ⟨#[]⟩,.slice none 0 0,.slice none 0 0,.int .i64 0] 34))
   have Gz32:Hid (w13.heap.size≤X0.heap.size):=HB0x.out.size
   have Gh32:=hide (Nat.le_refl X0.heap.size)
   clear hal32
   try dsimp only
   refine hK.out _ _ (fun _=>B32.out) ?_
   clear hK K
   try simp only [Act.put,sA,sB,sC]
   generalize X0.alloc (.cells #[.string ⟨#[]⟩,.slice none 0 0,.slice none 0 0,.int .i64 0] 34)=W32 at B32 Gr32 ⊢
   generalize hG32:X0.heap.size=Gx32 at Gr32 Gz32 ⊢
   have HG32:=hide hG32
   clear hG32
   refine onE (i:=1) rfl (fun K hK=>?_)
   go_simp
   refine (c_toShardX nm ca HN.out lN HQ.out.sm (ces_past HA.out (chain HT13'.out B32.out))).mono ?_
   rintro e W33 ⟨M33,g33,rfl,hg33,l33,k33,r33,hb33⟩
   obtain ⟨ra33,rb33⟩:=r33.own_all l33 lN
   have G33:=hide (row_pastS Gr32.out hb33)
   have I33:=hide (ShI.of HQ.out k33 l33 lN ra33 rb33)
   have K33:=hide k33
   have B33:=hide (chain B32.out hb33)
   clear hg33 l33 k33 r33 ra33 rb33 hb33
   try dsimp only
   refine hK.out _ _ (fun _=>B33.out) ?_
   clear hK K
   try simp only [Act.put,sA,sB,sC]
   refine onE (i:=4) rfl (fun K hK=>?_)
   go_simp
   refine (c_toSampleX x).mono ?_
   rintro e W34 ⟨rfl,hb34⟩
   have I34:=hide (I33.out.past hb34)
   have G34:=hide (row_pastS G33.out hb34)
   have B34:=hide (chain B33.out hb34)
   clear hb34
   try dsimp only
   refine hK.out _ _ (fun _=>B34.out) ?_
   clear hK K
   try simp only [Act.put,sA,sB,sC]
   refine onE (i:=5) rfl (fun K hK=>?_)
   go_simp
   refine (c_i_ShardPut nm win x hs OX.out (HMx.out.past (chain HT13'.out B34.out)) I34.out).mono ?_
   rintro e W35 ⟨v35,nm35,R35,code35,rfl,ha35,ho35,hb35⟩
   obtain ⟨ar35,ap35,n35,m35,c35,d35,rfl,hr35⟩:=ho35.open
   have G35:=hide (row_pastS G34.out hb35)
   have A35:=hide (ha35.key K33.out)
   have Rr35:=hide hr35
   have B35:=hide (chain B34.out hb35)
   have Z35:Hid (w13.heap.size≤W34.heap.size∧W34.heap.size≤W35.heap.size):=⟨B34.out.size,hb35.size⟩
   have Y35:Hid (Gx32<W34.heap.size):=(Array.getElem?_eq_some_iff.1 G34.out).1
   clear ha35 ho35 hr35 hb35
   try dsimp only
   refine hK.out _ _ (fun _=>B35.out) ?_
   clear hK K
   try simp only [Act.put,sA,sB,sC]
   have q0:=cellKC G35.out 0 rfl
   have f0:=fzR 0 G35.out
   have q1:=cellKC G35.out 1 rfl
   have f1:=fzR 1 G35.out
   have q2:=cellKC G35.out 2 rfl
   have f2:=fzR 2 G35.out
   have q3:=cellKC G35.out 3 rfl
   have f3:=fzR 3 G35.out
   refine onE (i:=7) rfl (fun K hK=>?_)
   go_simp
   clear q0 q1 q2 q3 f0 f1 f2 f3
   refine hK.out _ _ (fun h=>absurd rfl h) ?_
   clear hK K
   try simp only [Act.put,sA,sB,sC]
   refine doneK (by kernel_rfl) ?_ _
   go_wp2
   go_meet
   exact ⟨Gx32,_,_,nm35,ar35,ap35,n35,m35,c35,d35,R35,code35,rfl,hide (SpB.of B35.out G35.out Rr35.out A35.out Z35.out.1 (Nat.le_refl _) Gz32.out (.inl Y35.out))⟩
 case rest=>
 obtain ⟨b15,lo15,hi15,nm15,ar15,ap15,n151,n152,c151,c152,R15,code15,rfl,S15⟩:=hcut
 obtain ⟨W15,hw⟩:∃ X,wc=X:=⟨_,rfl⟩
 rw [hw] at S15 ⊢
 clear hw
 have HH15:=hide S15.out.r
 have HY15:=hide S15.out.y
 have BA15:=hide (S15.out.a.bounds HTot.out HQ.out)
 have EQ15:=hide (S15.out.a.same A4.out)
 have HM15:=hide (HM13.out.past S15.out.b)
 have HYg15:=hide (row_pastS HYg13.out S15.out.b)
 have HYw15:=hide (row_pastS HYw13.out S15.out.b)
 have HW15:=hide (HW13.out.past S15.out.b)
 have HT15:Hid (Below B0 w W15):=HT13.out.trans (S15.out.b.mono (by have:=HT13.out.size;have:=HB0.out;omega))
 clear S15 HYg13 HYw13 HX13 HV13 HW13 HT13 HM13
 obtain ⟨x0,x1,x2,x3⟩:=box4 HY15.out
 obtain ⟨y0,y1,y2,y3⟩:=box4 HYw15.out
 go_wp2_with fail
 clear x0 x1 x2 x3 y0 y1 y2 y3
 refine (c_eqSO HH15.out HW15.out BA15.out ⟨EQ15.out.1,EQ15.out.2.1,rfl,EQ15.out.2.2.2⟩).mono ?_
 rintro e w16 ⟨rfl,hb16⟩
 have HM16:=hide (HM15.out.past hb16)
 have HYg16:=hide (row_pastS HYg15.out hb16)
 have HT16:Hid (Below B0 w w16):=HT15.out.trans (hb16.mono (by have:=HT15.out.size;have:=HB0.out;omega))
 clear hb16 HH15 HY15 HM15 HYg15 HYw15 HW15 HT15
 obtain ⟨x0,x1,x2,x3⟩:=box4 HYg16.out
 go_wp2_with fail
 clear x0 x1 x2 x3
 refine (c_heldShardOut nm6 code6 1 (Nat.le_refl _) BA.out.t L12.out.1 L12.out.2 (by rw [← L12.out.1];exact BA.out.l1) (by rw [← L12.out.2];exact BA.out.l2) BA.out.s1 BA.out.s2 HM16.out).mono ?_
 rintro e w17 ⟨rfl,hb17⟩
 rw [HTT.out]
 have HT17:Hid (Below B0 w w17):=HT16.out.trans (hb17.mono (by have:=HT16.out.size;have:=HB0.out;omega))
 clear hb17
 go_wp2
 go_ret
 exact ⟨rfl,HB0.out ▸ HT17.out⟩
end Go.Proofs.YtiiclgcpagdekaaGreatDoor
