/-
 Two Aggs brought together by the model: l07Gauge and l07Merge.
-/
import Derived.Test.YtiiclgcpagdekaaGreatDoorMMA
namespace Go.Proofs.YtiiclgcpagdekaaGreatDoor
set_option linter.unusedVariables false
set_option linter.unusedSimpArgs false
open Go.ChangeShapes Go.WideShapes Go.ChangeAt Go.RowKit Go.PlainAid Go.Lib
set_option maxRecDepth 10000
set_option maxHeartbeats 16000000 in
theorem c_s_AggM {w:World} {g g':Ag} {p p':Pl} (hg:agB g=true∧agB g'=true∧g.k=g'.k) (ok:AgOk g) (ok':AgOk g') (hA:AgAt w g p) (hA':AgAt w g' p') (ce:p.ea=none→p.ec=0) :
  Calls Tryz.prog 117 #[.agg (agArr g p),.agg (agArr g' p')] w fun e w'=>AgRes w (AgMrg g g') e w':=by
 have HA:=hide hA
 have HA':=hide hA'
 have OK:=hide ok
 have OK':=hide ok'
 have HG:=hide hg
 have NO:=hide (agB_no hg.1)
 have NO':=hide (agB_no hg.2.1)
 have CE:=hide ce
 have LS:Hid ((g.P.length≤30∧g.N.length≤30)∧(g'.P.length≤30∧g'.N.length≤30)):=⟨⟨(sk_rise NO.out.sk).1.2,(sk_rise NO.out.sk).2.2⟩,⟨(sk_rise NO'.out.sk).1.2,(sk_rise NO'.out.sk).2.2⟩⟩
 have HBa:Hid (∀ o1 o2 o3,Below w.heap.size w (((w.alloc o1).alloc o2).alloc o3)):=fun o1 o2 o3=>(((Below.refl _ _).alloc (Nat.le_refl _) _).alloc (by simp) _).alloc (by simp;omega) _
 clear ok ok' hA hA' hg ce
 go_enter Tryz.func117,Tryz.ntmps117
 go_wp2_with fail
 generalize hW0:((w.alloc (Obj.cells (agArr g p) 79)).alloc (Obj.cells (agArr g' p') 79)).alloc (Obj.cells #[.int .i64 0,.int .u64 0,.int .i64 0,.int .u64 0,.int .i64 0,.int .i64 0,.int .u64 0,.slice none 0 0,.slice none 0 0,.int .i64 0,.int .u64 0,.slice none 0 0,.slice none 0 0] 79)=W0
 have T0:Below w.heap.size w W0:=by rw [← hW0];exact HBa.out _ _ _
 have hC:∀ W,Below W0.heap.size W0 W→AgCell W w.heap.size g p∧AgCell W (w.heap.size+1) g' p'∧W.heap[w.heap.size+1+1]?=some (.cells zeroAg 79 (0,0)):=fun W hW=>agc_three w g g' p p' W (by have h:=hW;rw [← hW0] at h;exact h)
 have hsz0:W0.heap.size=w.heap.size+3:=by rw [← hW0];simp
 have HC:=hide hC
 have HT0:=hide T0
 have HSZ:=hide hsz0
 clear hW0 hC T0 hsz0
 go_cut [5] (fun v w'=>∃ b:Nat,v=.pointer (some ⟨b,0,none⟩)∧Hid (w'.heap[b]?=some (.cells (agArr ⟨g.k,wAdd g.s g'.s,addH g.h g.l g'.h g'.l,addL g.l g'.l,g.a,g.t,0,[],[],0,0,[],[]⟩ pl0) 79 (0,0)))∧W0.heap.size≤b∧Hid (Below W0.heap.size W0 w'))
 case first=>
  have HS0:(fun W=>Below W0.heap.size W0 W) W0.drew:=(Below.refl _ _).drew
  refine regionK (fun W=>Below W0.heap.size W0 W) 18 (by kernel_rfl) ?_
  refine tkL (i:=0) (v:=.pointer (some ⟨w.heap.size,0,none⟩)) rfl rfl HS0 (fun W hW=>?_) ?_
  ·obtain ⟨⟨x0,x1,x2,x3,x4,x5,x6,x7,x8,x9,x10,x11,x12⟩,⟨y0,y1,y2,y3,y4,y5,y6,y7,y8,y9,y10,y11,y12⟩,_⟩:=HC.out W hW
   clear hW
   go_simp
  refine tkL (i:=1) (v:=.int .i64 g.k) rfl rfl HS0 (fun W hW=>?_) ?_
  ·obtain ⟨⟨x0,x1,x2,x3,x4,x5,x6,x7,x8,x9,x10,x11,x12⟩,⟨y0,y1,y2,y3,y4,y5,y6,y7,y8,y9,y10,y11,y12⟩,_⟩:=HC.out W hW
   clear hW
   go_simp
  refine tkL (i:=2) (v:=.pointer (some ⟨w.heap.size,1,none⟩)) rfl rfl HS0 (fun W hW=>?_) ?_
  ·obtain ⟨⟨x0,x1,x2,x3,x4,x5,x6,x7,x8,x9,x10,x11,x12⟩,⟨y0,y1,y2,y3,y4,y5,y6,y7,y8,y9,y10,y11,y12⟩,_⟩:=HC.out W hW
   clear hW
   go_simp
  simp only [sA,sB,sC]
  refine tkL (i:=3) (v:=.int .u64 g.s) rfl rfl HS0 (fun W hW=>?_) ?_
  ·obtain ⟨⟨x0,x1,x2,x3,x4,x5,x6,x7,x8,x9,x10,x11,x12⟩,⟨y0,y1,y2,y3,y4,y5,y6,y7,y8,y9,y10,y11,y12⟩,_⟩:=HC.out W hW
   clear hW
   go_simp
  refine tkL (i:=4) (v:=.pointer (some ⟨w.heap.size+1,1,none⟩)) rfl rfl HS0 (fun W hW=>?_) ?_
  ·obtain ⟨⟨x0,x1,x2,x3,x4,x5,x6,x7,x8,x9,x10,x11,x12⟩,⟨y0,y1,y2,y3,y4,y5,y6,y7,y8,y9,y10,y11,y12⟩,_⟩:=HC.out W hW
   clear hW
   go_simp
  refine tkL (i:=5) (v:=.int .u64 g'.s) rfl rfl HS0 (fun W hW=>?_) ?_
  ·obtain ⟨⟨x0,x1,x2,x3,x4,x5,x6,x7,x8,x9,x10,x11,x12⟩,⟨y0,y1,y2,y3,y4,y5,y6,y7,y8,y9,y10,y11,y12⟩,_⟩:=HC.out W hW
   clear hW
   go_simp
  simp only [sA,sB,sC]
  refine tkL (i:=7) (v:=.pointer (some ⟨w.heap.size,2,none⟩)) rfl rfl HS0 (fun W hW=>?_) ?_
  ·obtain ⟨⟨x0,x1,x2,x3,x4,x5,x6,x7,x8,x9,x10,x11,x12⟩,⟨y0,y1,y2,y3,y4,y5,y6,y7,y8,y9,y10,y11,y12⟩,_⟩:=HC.out W hW
   clear hW
   go_simp
  refine tkL (i:=8) (v:=.agg #[.int .i64 g.h,.int .u64 g.l]) rfl rfl HS0 (fun W hW=>?_) ?_
  ·obtain ⟨⟨x0,x1,x2,x3,x4,x5,x6,x7,x8,x9,x10,x11,x12⟩,⟨y0,y1,y2,y3,y4,y5,y6,y7,y8,y9,y10,y11,y12⟩,_⟩:=HC.out W hW
   clear hW
   go_simp
  refine tkL (i:=9) (v:=.pointer (some ⟨w.heap.size+1,2,none⟩)) rfl rfl HS0 (fun W hW=>?_) ?_
  ·obtain ⟨⟨x0,x1,x2,x3,x4,x5,x6,x7,x8,x9,x10,x11,x12⟩,⟨y0,y1,y2,y3,y4,y5,y6,y7,y8,y9,y10,y11,y12⟩,_⟩:=HC.out W hW
   clear hW
   go_simp
  simp only [sA,sB,sC]
  refine tkL (i:=10) (v:=.agg #[.int .i64 g'.h,.int .u64 g'.l]) rfl rfl HS0 (fun W hW=>?_) ?_
  ·obtain ⟨⟨x0,x1,x2,x3,x4,x5,x6,x7,x8,x9,x10,x11,x12⟩,⟨y0,y1,y2,y3,y4,y5,y6,y7,y8,y9,y10,y11,y12⟩,_⟩:=HC.out W hW
   clear hW
   go_simp
  refine tkL (i:=12) (v:=.pointer (some ⟨w.heap.size,4,none⟩)) rfl rfl HS0 (fun W hW=>?_) ?_
  ·obtain ⟨⟨x0,x1,x2,x3,x4,x5,x6,x7,x8,x9,x10,x11,x12⟩,⟨y0,y1,y2,y3,y4,y5,y6,y7,y8,y9,y10,y11,y12⟩,_⟩:=HC.out W hW
   clear hW
   go_simp
  refine tkL (i:=13) (v:=.int .i64 g.a) rfl rfl HS0 (fun W hW=>?_) ?_
  ·obtain ⟨⟨x0,x1,x2,x3,x4,x5,x6,x7,x8,x9,x10,x11,x12⟩,⟨y0,y1,y2,y3,y4,y5,y6,y7,y8,y9,y10,y11,y12⟩,_⟩:=HC.out W hW
   clear hW
   go_simp
  simp only [sA,sB,sC]
  refine tkL (i:=14) (v:=.pointer (some ⟨w.heap.size,5,none⟩)) rfl rfl HS0 (fun W hW=>?_) ?_
  ·obtain ⟨⟨x0,x1,x2,x3,x4,x5,x6,x7,x8,x9,x10,x11,x12⟩,⟨y0,y1,y2,y3,y4,y5,y6,y7,y8,y9,y10,y11,y12⟩,_⟩:=HC.out W hW
   clear hW
   go_simp
  refine tkL (i:=15) (v:=.int .i64 g.t) rfl rfl HS0 (fun W hW=>?_) ?_
  ·obtain ⟨⟨x0,x1,x2,x3,x4,x5,x6,x7,x8,x9,x10,x11,x12⟩,⟨y0,y1,y2,y3,y4,y5,y6,y7,y8,y9,y10,y11,y12⟩,_⟩:=HC.out W hW
   clear hW
   go_simp
  simp only [sA,sB,sC]
  refine twoK (i:=6) (j:=17) (by kernel_rfl) rfl rfl (fun K hK=>?_) (fun K hK=>?_)
  ·go_simp
   refine (c_s_WeightAdd _ _ OK.out.s OK'.out.s _).mono ?_
   rintro e wz ⟨rfl,hwz⟩
   obtain rfl:=hwz.symm
   try dsimp only
   refine hK.out _ _ (fun _=>HS0) ?_
   clear hK K
   try simp only [Act.put,sA,sB,sC]
   refine twoK (i:=11) (j:=17) (by kernel_rfl) rfl rfl (fun K hK=>?_) (fun K hK=>?_)
   ·go_simp
    refine (c_s_WideAdd _ _ _ _ _ OK.out.l OK'.out.l).mono ?_
    rintro e w1 ⟨rfl,hb1⟩
    have HB1:Hid (Below W0.heap.size W0 w1):=(HS0:Below W0.heap.size W0 _).trans (hb1.mono (HS0:Below W0.heap.size W0 _).size)
    try dsimp only
    refine hK.out _ _ (fun _=>HB1.out) ?_
    clear hK K
    try simp only [Act.put,sA,sB,sC]
    refine tkS (i:=16) (v:=.agg (agArr ⟨g.k,wAdd g.s g'.s,addH g.h g.l g'.h g'.l,addL g.l g'.l,g.a,g.t,0,[],[],0,0,[],[]⟩ pl0)) rfl rfl HB1.out ?_
    simp only [sA,sB,sC]
    refine onE (i:=17) rfl (fun K hK=>?_)
    go_simp
    have HBa2:Hid (Below W0.heap.size W0 (w1.alloc (.cells #[.int .i64 0,.int .u64 0,.int .i64 0,.int .u64 0,.int .i64 0,.int .i64 0,.int .u64 0,.slice none 0 0,.slice none 0 0,.int .i64 0,.int .u64 0,.slice none 0 0,.slice none 0 0] 79))):=Below.alloc (HB1.out:Below W0.heap.size W0 w1) (HB1.out:Below W0.heap.size W0 w1).size _
    have HRa:Hid ((w1.alloc (.cells #[.int .i64 0,.int .u64 0,.int .i64 0,.int .u64 0,.int .i64 0,.int .i64 0,.int .u64 0,.slice none 0 0,.slice none 0 0,.int .i64 0,.int .u64 0,.slice none 0 0,.slice none 0 0] 79)).heap[w1.heap.size]?=some (.cells #[.int .i64 0,.int .u64 0,.int .i64 0,.int .u64 0,.int .i64 0,.int .i64 0,.int .u64 0,.slice none 0 0,.slice none 0 0,.int .i64 0,.int .u64 0,.slice none 0 0,.slice none 0 0] 79 (0,0))):=(heap_alloc_new w1 (.cells #[.int .i64 0,.int .u64 0,.int .i64 0,.int .u64 0,.int .i64 0,.int .i64 0,.int .u64 0,.slice none 0 0,.slice none 0 0,.int .i64 0,.int .u64 0,.slice none 0 0,.slice none 0 0] 79):_)
    try dsimp only
    refine hK.out _ _ (fun _=>HBa2.out) ?_
    clear hK K
    try simp only [Act.put,sA,sB,sC]
    have R5:=HRa.out
    have q0:=cellK R5 0 rfl
    have q1:=cellK R5 1 rfl
    have q2:=cellK R5 2 rfl
    have q3:=cellK R5 3 rfl
    have q4:=cellK R5 4 rfl
    have q5:=cellK R5 5 rfl
    have q6:=cellK R5 6 rfl
    have q7:=cellK R5 7 rfl
    have q8:=cellK R5 8 rfl
    have q9:=cellK R5 9 rfl
    have q10:=cellK R5 10 rfl
    have q11:=cellK R5 11 rfl
    have q12:=cellK R5 12 rfl
    have f0:=fzR 0 R5
    have f1:=fzR 1 R5
    have f2:=fzR 2 R5
    have f3:=fzR 3 R5
    have f4:=fzR 4 R5
    have f5:=fzR 5 R5
    have f6:=fzR 6 R5
    have f7:=fzR 7 R5
    have f8:=fzR 8 R5
    have f9:=fzR 9 R5
    have f10:=fzR 10 R5
    have f11:=fzR 11 R5
    have f12:=fzR 12 R5
    refine onE (i:=18) rfl (fun K hK=>?_)
    go_simp
    refine hK.out _ _ (fun h=>absurd rfl h) ?_
    clear hK K
    try simp only [Act.put,sA,sB,sC]
    refine doneK (by kernel_rfl) ?_ _
    clear q0 f0 q1 f1 q2 f2 q3 f3 q4 f4 q5 f5 q6 f6 q7 f7 q8 f8 q9 f9 q10 f10 q11 f11 q12 f12
    go_wp2
    go_meet
    exact ⟨w1.heap.size,rfl,hide (heap_alloc_new w1 _),HB1.out.size,hide (Below.alloc HB1.out HB1.out.size _)⟩
   ·go_simp
    have HBa2:Hid (Below W0.heap.size W0 (W0.drew.alloc (.cells #[.int .i64 0,.int .u64 0,.int .i64 0,.int .u64 0,.int .i64 0,.int .i64 0,.int .u64 0,.slice none 0 0,.slice none 0 0,.int .i64 0,.int .u64 0,.slice none 0 0,.slice none 0 0] 79))):=Below.alloc (HS0:Below W0.heap.size W0 W0.drew) (HS0:Below W0.heap.size W0 W0.drew).size _
    have HRa:Hid ((W0.drew.alloc (.cells #[.int .i64 0,.int .u64 0,.int .i64 0,.int .u64 0,.int .i64 0,.int .i64 0,.int .u64 0,.slice none 0 0,.slice none 0 0,.int .i64 0,.int .u64 0,.slice none 0 0,.slice none 0 0] 79)).heap[W0.heap.size]?=some (.cells #[.int .i64 0,.int .u64 0,.int .i64 0,.int .u64 0,.int .i64 0,.int .i64 0,.int .u64 0,.slice none 0 0,.slice none 0 0,.int .i64 0,.int .u64 0,.slice none 0 0,.slice none 0 0] 79 (0,0))):=(heap_alloc_new W0.drew (.cells #[.int .i64 0,.int .u64 0,.int .i64 0,.int .u64 0,.int .i64 0,.int .i64 0,.int .u64 0,.slice none 0 0,.slice none 0 0,.int .i64 0,.int .u64 0,.slice none 0 0,.slice none 0 0] 79):_)
    try dsimp only
    refine hK.out _ _ (fun _=>HBa2.out) ?_
    clear hK K
    try simp only [Act.put,sA,sB,sC]
    refine onE (i:=11) rfl (fun K hK=>?_)
    go_simp
    refine (c_s_WideAdd _ _ _ _ _ OK.out.l OK'.out.l).mono ?_
    rintro e w1 ⟨rfl,hb1⟩
    have HB1:Hid (Below W0.heap.size W0 w1):=(HBa2.out:Below W0.heap.size W0 _).trans (hb1.mono (HBa2.out:Below W0.heap.size W0 _).size)
    have HR1:Hid (w1.heap[W0.heap.size]?=some (.cells #[.int .i64 0,.int .u64 0,.int .i64 0,.int .u64 0,.int .i64 0,.int .i64 0,.int .u64 0,.slice none 0 0,.slice none 0 0,.int .i64 0,.int .u64 0,.slice none 0 0,.slice none 0 0] 79 (0,0))):=(hb1.block _ (by show W0.heap.size<(W0.drew.alloc (.cells #[.int .i64 0,.int .u64 0,.int .i64 0,.int .u64 0,.int .i64 0,.int .i64 0,.int .u64 0,.slice none 0 0,.slice none 0 0,.int .i64 0,.int .u64 0,.slice none 0 0,.slice none 0 0] 79)).heap.size;simp)).trans HRa.out
    try dsimp only
    refine hK.out _ _ (fun _=>HB1.out) ?_
    clear hK K
    try simp only [Act.put,sA,sB,sC]
    refine tkS (i:=16) (v:=.agg (agArr ⟨g.k,wAdd g.s g'.s,addH g.h g.l g'.h g'.l,addL g.l g'.l,g.a,g.t,0,[],[],0,0,[],[]⟩ pl0)) rfl rfl HB1.out ?_
    simp only [sA,sB,sC]
    have R5:=HR1.out
    have q0:=cellK R5 0 rfl
    have q1:=cellK R5 1 rfl
    have q2:=cellK R5 2 rfl
    have q3:=cellK R5 3 rfl
    have q4:=cellK R5 4 rfl
    have q5:=cellK R5 5 rfl
    have q6:=cellK R5 6 rfl
    have q7:=cellK R5 7 rfl
    have q8:=cellK R5 8 rfl
    have q9:=cellK R5 9 rfl
    have q10:=cellK R5 10 rfl
    have q11:=cellK R5 11 rfl
    have q12:=cellK R5 12 rfl
    have f0:=fzR 0 R5
    have f1:=fzR 1 R5
    have f2:=fzR 2 R5
    have f3:=fzR 3 R5
    have f4:=fzR 4 R5
    have f5:=fzR 5 R5
    have f6:=fzR 6 R5
    have f7:=fzR 7 R5
    have f8:=fzR 8 R5
    have f9:=fzR 9 R5
    have f10:=fzR 10 R5
    have f11:=fzR 11 R5
    have f12:=fzR 12 R5
    refine onE (i:=18) rfl (fun K hK=>?_)
    go_simp
    refine hK.out _ _ (fun h=>absurd rfl h) ?_
    clear hK K
    try simp only [Act.put,sA,sB,sC]
    refine doneK (by kernel_rfl) ?_ _
    clear q0 f0 q1 f1 q2 f2 q3 f3 q4 f4 q5 f5 q6 f6 q7 f7 q8 f8 q9 f9 q10 f10 q11 f11 q12 f12
    have hR13:(((((((((((((w1.setCell ⟨W0.heap.size,0,none⟩ (.int .i64 g.k)).setCell ⟨W0.heap.size,1,none⟩ (.int .u64 (wAdd g.s g'.s))).setCell ⟨W0.heap.size,2,none⟩ (.int .i64 (addH g.h g.l g'.h g'.l))).setCell ⟨W0.heap.size,3,none⟩ (.int .u64 (addL g.l g'.l))).setCell ⟨W0.heap.size,4,none⟩ (.int .i64 g.a)).setCell ⟨W0.heap.size,5,none⟩ (.int .i64 g.t)).setCell ⟨W0.heap.size,6,none⟩ (.int .u64 0)).setCell ⟨W0.heap.size,7,none⟩ (.slice none 0 0)).setCell ⟨W0.heap.size,8,none⟩ (.slice none 0 0)).setCell ⟨W0.heap.size,9,none⟩ (.int .i64 0)).setCell ⟨W0.heap.size,10,none⟩ (.int .u64 0)).setCell ⟨W0.heap.size,11,none⟩ (.slice none 0 0)).setCell ⟨W0.heap.size,12,none⟩ (.slice none 0 0)).heap[W0.heap.size]?=some (.cells (agArr ⟨g.k,wAdd g.s g'.s,addH g.h g.l g'.h g'.l,addL g.l g'.l,g.a,g.t,0,[],[],0,0,[],[]⟩ pl0) 79 (0,0)):=row13 R5
    have hB13:Below W0.heap.size W0 (((((((((((((w1.setCell ⟨W0.heap.size,0,none⟩ (.int .i64 g.k)).setCell ⟨W0.heap.size,1,none⟩ (.int .u64 (wAdd g.s g'.s))).setCell ⟨W0.heap.size,2,none⟩ (.int .i64 (addH g.h g.l g'.h g'.l))).setCell ⟨W0.heap.size,3,none⟩ (.int .u64 (addL g.l g'.l))).setCell ⟨W0.heap.size,4,none⟩ (.int .i64 g.a)).setCell ⟨W0.heap.size,5,none⟩ (.int .i64 g.t)).setCell ⟨W0.heap.size,6,none⟩ (.int .u64 0)).setCell ⟨W0.heap.size,7,none⟩ (.slice none 0 0)).setCell ⟨W0.heap.size,8,none⟩ (.slice none 0 0)).setCell ⟨W0.heap.size,9,none⟩ (.int .i64 0)).setCell ⟨W0.heap.size,10,none⟩ (.int .u64 0)).setCell ⟨W0.heap.size,11,none⟩ (.slice none 0 0)).setCell ⟨W0.heap.size,12,none⟩ (.slice none 0 0)):=by
     repeat (refine Below.setCell ?_ (by exact Nat.le_refl _) _)
     exact HB1.out
    have HR13:=hide hR13
    have HB13:=hide hB13
    clear hR13 hB13 R5
    go_wp2
    go_meet
    exact ⟨W0.heap.size,rfl,HR13,Nat.le_refl _,HB13⟩
  ·go_simp
   have HBa2:Hid (Below W0.heap.size W0 (W0.drew.alloc (.cells #[.int .i64 0,.int .u64 0,.int .i64 0,.int .u64 0,.int .i64 0,.int .i64 0,.int .u64 0,.slice none 0 0,.slice none 0 0,.int .i64 0,.int .u64 0,.slice none 0 0,.slice none 0 0] 79))):=Below.alloc (HS0:Below W0.heap.size W0 W0.drew) (HS0:Below W0.heap.size W0 W0.drew).size _
   have HRa:Hid ((W0.drew.alloc (.cells #[.int .i64 0,.int .u64 0,.int .i64 0,.int .u64 0,.int .i64 0,.int .i64 0,.int .u64 0,.slice none 0 0,.slice none 0 0,.int .i64 0,.int .u64 0,.slice none 0 0,.slice none 0 0] 79)).heap[W0.heap.size]?=some (.cells #[.int .i64 0,.int .u64 0,.int .i64 0,.int .u64 0,.int .i64 0,.int .i64 0,.int .u64 0,.slice none 0 0,.slice none 0 0,.int .i64 0,.int .u64 0,.slice none 0 0,.slice none 0 0] 79 (0,0))):=(heap_alloc_new W0.drew (.cells #[.int .i64 0,.int .u64 0,.int .i64 0,.int .u64 0,.int .i64 0,.int .i64 0,.int .u64 0,.slice none 0 0,.slice none 0 0,.int .i64 0,.int .u64 0,.slice none 0 0,.slice none 0 0] 79):_)
   try dsimp only
   refine hK.out _ _ (fun _=>HBa2.out) ?_
   clear hK K
   try simp only [Act.put,sA,sB,sC]
   refine onE (i:=6) rfl (fun K hK=>?_)
   go_simp
   refine (c_s_WeightAdd _ _ OK.out.s OK'.out.s _).mono ?_
   rintro e wz ⟨rfl,hwz⟩
   obtain rfl:=hwz.symm
   try dsimp only
   refine hK.out _ _ (fun _=>HBa2.out) ?_
   clear hK K
   try simp only [Act.put,sA,sB,sC]
   refine onE (i:=11) rfl (fun K hK=>?_)
   go_simp
   refine (c_s_WideAdd _ _ _ _ _ OK.out.l OK'.out.l).mono ?_
   rintro e w1 ⟨rfl,hb1⟩
   have HB1:Hid (Below W0.heap.size W0 w1):=(HBa2.out:Below W0.heap.size W0 _).trans (hb1.mono (HBa2.out:Below W0.heap.size W0 _).size)
   have HR1:Hid (w1.heap[W0.heap.size]?=some (.cells #[.int .i64 0,.int .u64 0,.int .i64 0,.int .u64 0,.int .i64 0,.int .i64 0,.int .u64 0,.slice none 0 0,.slice none 0 0,.int .i64 0,.int .u64 0,.slice none 0 0,.slice none 0 0] 79 (0,0))):=(hb1.block _ (by show W0.heap.size<(W0.drew.alloc (.cells #[.int .i64 0,.int .u64 0,.int .i64 0,.int .u64 0,.int .i64 0,.int .i64 0,.int .u64 0,.slice none 0 0,.slice none 0 0,.int .i64 0,.int .u64 0,.slice none 0 0,.slice none 0 0] 79)).heap.size;simp)).trans HRa.out
   try dsimp only
   refine hK.out _ _ (fun _=>HB1.out) ?_
   clear hK K
   try simp only [Act.put,sA,sB,sC]
   refine tkS (i:=16) (v:=.agg (agArr ⟨g.k,wAdd g.s g'.s,addH g.h g.l g'.h g'.l,addL g.l g'.l,g.a,g.t,0,[],[],0,0,[],[]⟩ pl0)) rfl rfl HB1.out ?_
   simp only [sA,sB,sC]
   have R5:=HR1.out
   have q0:=cellK R5 0 rfl
   have q1:=cellK R5 1 rfl
   have q2:=cellK R5 2 rfl
   have q3:=cellK R5 3 rfl
   have q4:=cellK R5 4 rfl
   have q5:=cellK R5 5 rfl
   have q6:=cellK R5 6 rfl
   have q7:=cellK R5 7 rfl
   have q8:=cellK R5 8 rfl
   have q9:=cellK R5 9 rfl
   have q10:=cellK R5 10 rfl
   have q11:=cellK R5 11 rfl
   have q12:=cellK R5 12 rfl
   have f0:=fzR 0 R5
   have f1:=fzR 1 R5
   have f2:=fzR 2 R5
   have f3:=fzR 3 R5
   have f4:=fzR 4 R5
   have f5:=fzR 5 R5
   have f6:=fzR 6 R5
   have f7:=fzR 7 R5
   have f8:=fzR 8 R5
   have f9:=fzR 9 R5
   have f10:=fzR 10 R5
   have f11:=fzR 11 R5
   have f12:=fzR 12 R5
   refine onE (i:=18) rfl (fun K hK=>?_)
   go_simp
   refine hK.out _ _ (fun h=>absurd rfl h) ?_
   clear hK K
   try simp only [Act.put,sA,sB,sC]
   refine doneK (by kernel_rfl) ?_ _
   clear q0 f0 q1 f1 q2 f2 q3 f3 q4 f4 q5 f5 q6 f6 q7 f7 q8 f8 q9 f9 q10 f10 q11 f11 q12 f12
   have hR13:(((((((((((((w1.setCell ⟨W0.heap.size,0,none⟩ (.int .i64 g.k)).setCell ⟨W0.heap.size,1,none⟩ (.int .u64 (wAdd g.s g'.s))).setCell ⟨W0.heap.size,2,none⟩ (.int .i64 (addH g.h g.l g'.h g'.l))).setCell ⟨W0.heap.size,3,none⟩ (.int .u64 (addL g.l g'.l))).setCell ⟨W0.heap.size,4,none⟩ (.int .i64 g.a)).setCell ⟨W0.heap.size,5,none⟩ (.int .i64 g.t)).setCell ⟨W0.heap.size,6,none⟩ (.int .u64 0)).setCell ⟨W0.heap.size,7,none⟩ (.slice none 0 0)).setCell ⟨W0.heap.size,8,none⟩ (.slice none 0 0)).setCell ⟨W0.heap.size,9,none⟩ (.int .i64 0)).setCell ⟨W0.heap.size,10,none⟩ (.int .u64 0)).setCell ⟨W0.heap.size,11,none⟩ (.slice none 0 0)).setCell ⟨W0.heap.size,12,none⟩ (.slice none 0 0)).heap[W0.heap.size]?=some (.cells (agArr ⟨g.k,wAdd g.s g'.s,addH g.h g.l g'.h g'.l,addL g.l g'.l,g.a,g.t,0,[],[],0,0,[],[]⟩ pl0) 79 (0,0)):=row13 R5
   have hB13:Below W0.heap.size W0 (((((((((((((w1.setCell ⟨W0.heap.size,0,none⟩ (.int .i64 g.k)).setCell ⟨W0.heap.size,1,none⟩ (.int .u64 (wAdd g.s g'.s))).setCell ⟨W0.heap.size,2,none⟩ (.int .i64 (addH g.h g.l g'.h g'.l))).setCell ⟨W0.heap.size,3,none⟩ (.int .u64 (addL g.l g'.l))).setCell ⟨W0.heap.size,4,none⟩ (.int .i64 g.a)).setCell ⟨W0.heap.size,5,none⟩ (.int .i64 g.t)).setCell ⟨W0.heap.size,6,none⟩ (.int .u64 0)).setCell ⟨W0.heap.size,7,none⟩ (.slice none 0 0)).setCell ⟨W0.heap.size,8,none⟩ (.slice none 0 0)).setCell ⟨W0.heap.size,9,none⟩ (.int .i64 0)).setCell ⟨W0.heap.size,10,none⟩ (.int .u64 0)).setCell ⟨W0.heap.size,11,none⟩ (.slice none 0 0)).setCell ⟨W0.heap.size,12,none⟩ (.slice none 0 0)):=by
    repeat (refine Below.setCell ?_ (by exact Nat.le_refl _) _)
    exact HB1.out
   have HR13:=hide hR13
   have HB13:=hide hB13
   clear hR13 hB13 R5
   go_wp2
   go_meet
   exact ⟨W0.heap.size,rfl,HR13,Nat.le_refl _,HB13⟩
 case rest=>
  obtain ⟨b,rfl,HXR,hb0,HXB⟩:=hcut
  obtain ⟨⟨x0,x1,x2,x3,x4,x5,x6,x7,x8,x9,x10,x11,x12⟩,⟨y0,y1,y2,y3,y4,y5,y6,y7,y8,y9,y10,y11,y12⟩,_⟩:=HC.out wc HXB.out
  clear x1 x2 x3 x4 x5 x6 x7 x8 x9 x10 x11 x12 y0 y1 y2 y3 y4 y5 y6 y7 y8 y9 y10 y11 y12
  go_upto_if 25 with fail
  clear x0
  go_cut [5] (fun v w'=>v=.pointer (some ⟨b,0,none⟩)∧Hid (w'.heap[b]?=some (.cells (agArr ⟨g.k,wAdd g.s g'.s,addH g.h g.l g'.h g'.l,addL g.l g'.l,if g.k=2 then gA g.a g.t g'.a g'.t else 0,if g.k=2 then gT g.a g.t g'.a g'.t else 0,0,[],[],0,0,[],[]⟩ pl0) 79 (0,0)))∧Hid (Below W0.heap.size W0 w'))
  case first=>
   by_cases hk:g.k=2
   ·have ek:(g.k == 2)=true:=by simp [hk]
    have HKK:=hide hk
    obtain ⟨⟨x0,x1,x2,x3,x4,x5,x6,x7,x8,x9,x10,x11,x12⟩,⟨y0,y1,y2,y3,y4,y5,y6,y7,y8,y9,y10,y11,y12⟩,_⟩:=HC.out wc HXB.out
    have q0:=cellK HXR.out 0 rfl
    have q1:=cellK HXR.out 1 rfl
    have q2:=cellK HXR.out 2 rfl
    have q3:=cellK HXR.out 3 rfl
    have q4:=cellK HXR.out 4 rfl
    have q5:=cellK HXR.out 5 rfl
    have q6:=cellK HXR.out 6 rfl
    have q7:=cellK HXR.out 7 rfl
    have q8:=cellK HXR.out 8 rfl
    have q9:=cellK HXR.out 9 rfl
    have q10:=cellK HXR.out 10 rfl
    have q11:=cellK HXR.out 11 rfl
    have q12:=cellK HXR.out 12 rfl
    have f0:=fzR 0 HXR.out
    have f1:=fzR 1 HXR.out
    have f2:=fzR 2 HXR.out
    have f3:=fzR 3 HXR.out
    have f4:=fzR 4 HXR.out
    have f5:=fzR 5 HXR.out
    have f6:=fzR 6 HXR.out
    have f7:=fzR 7 HXR.out
    have f8:=fzR 8 HXR.out
    have f9:=fzR 9 HXR.out
    have f10:=fzR 10 HXR.out
    have f11:=fzR 11 HXR.out
    have f12:=fzR 12 HXR.out
    clear x0 x1 x2 x3 x4 x5 x6 x7 x8 x9 x10 x11 x12 hk
    go_wp2_with fail
    clear q0 f0 q1 f1 q2 f2 q3 f3 q4 f4 q5 f5 q6 f6 q7 f7 q8 f8 q9 f9 q10 f10 q11 f11 q12 f12 y0 y1 y2 y3 y4 y5 y6 y7 y8 y9 y10 y11 y12
    refine (c_s_Gauge ⟨g.k,wAdd g.s g'.s,addH g.h g.l g'.h g'.l,addL g.l g'.l,g.a,g.t,0,[],[],0,0,[],[]⟩ pl0 g'.a g'.t wc).mono ?_
    rintro e u3 ⟨rfl,hb3⟩
    have R3:=(hb3.block b (Array.getElem?_eq_some_iff.1 HXR.out).1).trans HXR.out
    have B3:=chain HXB.out hb3
    have HY:Hid ((((((((((((((u3.setCell ⟨b,0,none⟩ (.int .i64 g.k)).setCell ⟨b,1,none⟩ (.int .u64 (wAdd g.s g'.s))).setCell ⟨b,2,none⟩ (.int .i64 (addH g.h g.l g'.h g'.l))).setCell ⟨b,3,none⟩ (.int .u64 (addL g.l g'.l))).setCell ⟨b,4,none⟩ (.int .i64 (gA g.a g.t g'.a g'.t))).setCell ⟨b,5,none⟩ (.int .i64 (gT g.a g.t g'.a g'.t))).setCell ⟨b,6,none⟩ (.int .u64 0)).setCell ⟨b,7,none⟩ (.slice none 0 0)).setCell ⟨b,8,none⟩ (.slice none 0 0)).setCell ⟨b,9,none⟩ (.int .i64 0)).setCell ⟨b,10,none⟩ (.int .u64 0)).setCell ⟨b,11,none⟩ (.slice none 0 0)).setCell ⟨b,12,none⟩ (.slice none 0 0)).heap[b]?=some (.cells (agArr ⟨g.k,wAdd g.s g'.s,addH g.h g.l g'.h g'.l,addL g.l g'.l,if g.k=2 then gA g.a g.t g'.a g'.t else 0,if g.k=2 then gT g.a g.t g'.a g'.t else 0,0,[],[],0,0,[],[]⟩ pl0) 79 (0,0))):=by
     rw [if_pos HKK.out,if_pos HKK.out];exact row13 R3
    have HYB:Hid (Below W0.heap.size W0 (((((((((((((u3.setCell ⟨b,0,none⟩ (.int .i64 g.k)).setCell ⟨b,1,none⟩ (.int .u64 (wAdd g.s g'.s))).setCell ⟨b,2,none⟩ (.int .i64 (addH g.h g.l g'.h g'.l))).setCell ⟨b,3,none⟩ (.int .u64 (addL g.l g'.l))).setCell ⟨b,4,none⟩ (.int .i64 (gA g.a g.t g'.a g'.t))).setCell ⟨b,5,none⟩ (.int .i64 (gT g.a g.t g'.a g'.t))).setCell ⟨b,6,none⟩ (.int .u64 0)).setCell ⟨b,7,none⟩ (.slice none 0 0)).setCell ⟨b,8,none⟩ (.slice none 0 0)).setCell ⟨b,9,none⟩ (.int .i64 0)).setCell ⟨b,10,none⟩ (.int .u64 0)).setCell ⟨b,11,none⟩ (.slice none 0 0)).setCell ⟨b,12,none⟩ (.slice none 0 0))):=by
     repeat (refine Below.setCell ?_ (by exact hb0) _)
     exact B3
    have q0:=cellK R3 0 rfl
    have q1:=cellK R3 1 rfl
    have q2:=cellK R3 2 rfl
    have q3:=cellK R3 3 rfl
    have q4:=cellK R3 4 rfl
    have q5:=cellK R3 5 rfl
    have q6:=cellK R3 6 rfl
    have q7:=cellK R3 7 rfl
    have q8:=cellK R3 8 rfl
    have q9:=cellK R3 9 rfl
    have q10:=cellK R3 10 rfl
    have q11:=cellK R3 11 rfl
    have q12:=cellK R3 12 rfl
    have f0:=fzR 0 R3
    have f1:=fzR 1 R3
    have f2:=fzR 2 R3
    have f3:=fzR 3 R3
    have f4:=fzR 4 R3
    have f5:=fzR 5 R3
    have f6:=fzR 6 R3
    have f7:=fzR 7 R3
    have f8:=fzR 8 R3
    have f9:=fzR 9 R3
    have f10:=fzR 10 R3
    have f11:=fzR 11 R3
    have f12:=fzR 12 R3
    clear R3 B3 hb3
    go_wp2
    go_meet
    exact ⟨rfl,HY,HYB⟩
   ·have ek:(g.k == 2)=false:=beq_eq_false_iff_ne.2 hk
    have HY:Hid (wc.heap[b]?=some (.cells (agArr ⟨g.k,wAdd g.s g'.s,addH g.h g.l g'.h g'.l,addL g.l g'.l,if g.k=2 then gA g.a g.t g'.a g'.t else 0,if g.k=2 then gT g.a g.t g'.a g'.t else 0,0,[],[],0,0,[],[]⟩ pl0) 79 (0,0))):=by
     obtain ⟨a1,a2⟩:=NO.out.ng hk
     rw [if_neg hk,if_neg hk]
     have:=HXR.out
     rw [a1,a2] at this
     exact this
    go_wp2
    go_meet
    exact ⟨rfl,HY,HXB⟩
  case rest=>
   obtain ⟨rfl,HY,HYB⟩:=hcut
   clear HXR HXB
   go_upto_region 4 with fail
   go_cut [5] (fun v w'=>∃ (pa:Option Addr) (pc:Nat) (na:Option Addr) (nc:Nat),v=.pointer (some ⟨b,0,none⟩)∧Hid (w'.heap[b]?=some (.cells (agArr ⟨g.k,wAdd g.s g'.s,addH g.h g.l g'.h g'.l,addL g.l g'.l,if g.k=2 then gA g.a g.t g'.a g'.t else 0,if g.k=2 then gT g.a g.t g'.a g'.t else 0,wAdd g.z g'.z,keepL (mrg g.P g'.P),keepL (mrg g.N g'.N),addH g.x g.y g'.x g'.y,addL g.y g'.y,[],[]⟩ ⟨pa,pc,na,nc,none,0,none,0⟩) 79 (0,0)))∧Hid (OwnB w' W0.heap.size (.slice pa (keepL (mrg g.P g'.P)).length pc) (keepL (mrg g.P g'.P)).length (keepL (mrg g.P g'.P))∧OwnB w' W0.heap.size (.slice na (keepL (mrg g.N g'.N)).length nc) (keepL (mrg g.N g'.N)).length (keepL (mrg g.N g'.N))∧Apart (.slice pa (keepL (mrg g.P g'.P)).length pc) (.slice na (keepL (mrg g.N g'.N)).length nc))∧Hid (Below W0.heap.size W0 w'))
   case first=>
    obtain ⟨⟨x0,x1,x2,x3,x4,x5,x6,x7,x8,x9,x10,x11,x12⟩,⟨y0,y1,y2,y3,y4,y5,y6,y7,y8,y9,y10,y11,y12⟩,_⟩:=HC.out wc HYB.out
    go_wp2_with fail
    clear x0 x1 x2 x3 x4 x5 x6 x7 x8 x9 x10 x11 x12 y0 y1 y2 y3 y4 y5 y6 y7 y8 y9 y10 y11 y12
    refine (c_s_l03Merge OK.out.z OK.out.y OK'.out.z OK'.out.y rfl rfl rfl rfl LS.out.1.1 LS.out.1.2 LS.out.2.1 LS.out.2.2 (bins_past HA.out.P (chain HT0.out HYB.out)) (bins_past HA.out.N (chain HT0.out HYB.out)) (bins_past HA'.out.P (chain HT0.out HYB.out)) (bins_past HA'.out.N (chain HT0.out HYB.out)) OK.out.P OK.out.N OK'.out.P OK'.out.N).mono ?_
    rintro e u4 ⟨v4,rfl,hb4,ho4⟩
    obtain ⟨vp,vn,pn,nn,rfl,oP,oN,hap⟩:=ho4
    obtain ⟨pa,pc,rfl⟩:=oP.any
    obtain ⟨na,nc,rfl⟩:=oN.any
    obtain rfl:=oP.1
    obtain rfl:=oN.1
    have hbY:=(Array.getElem?_eq_some_iff.1 HY.out).1
    have hWY:=HYB.out.size
    have R4:=(hb4.block b hbY).trans HY.out
    have HB4:=hide (chain HYB.out hb4)
    have HR5:Hid ((((((u4.setCell ⟨b,6,none⟩ (.int .u64 (wAdd g.z g'.z))).setCell ⟨b,7,none⟩ (.slice pa (keepL (mrg g.P g'.P)).length pc)).setCell ⟨b,8,none⟩ (.slice na (keepL (mrg g.N g'.N)).length nc)).setCell ⟨b,9,none⟩ (.int .i64 (addH g.x g.y g'.x g'.y))).setCell ⟨b,10,none⟩ (.int .u64 (addL g.y g'.y))).heap[b]?=some (.cells (agArr ⟨g.k,wAdd g.s g'.s,addH g.h g.l g'.h g'.l,addL g.l g'.l,if g.k=2 then gA g.a g.t g'.a g'.t else 0,if g.k=2 then gT g.a g.t g'.a g'.t else 0,wAdd g.z g'.z,keepL (mrg g.P g'.P),keepL (mrg g.N g'.N),addH g.x g.y g'.x g'.y,addL g.y g'.y,[],[]⟩ ⟨pa,pc,na,nc,none,0,none,0⟩) 79 (0,0))):=by
     have k0:(u4.setCell ⟨b,6,none⟩ (.int .u64 (wAdd g.z g'.z))).heap[b]?=some (.cells #[.int .i64 g.k,.int .u64 (wAdd g.s g'.s),.int .i64 (addH g.h g.l g'.h g'.l),.int .u64 (addL g.l g'.l),.int .i64 (if g.k=2 then gA g.a g.t g'.a g'.t else 0),.int .i64 (if g.k=2 then gT g.a g.t g'.a g'.t else 0),.int .u64 (wAdd g.z g'.z),.slice none 0 0,.slice none 0 0,.int .i64 0,.int .u64 0,.slice none 0 0,.slice none 0 0] 79 (0,0)):=heap_setCell_same _ b 6 _ _ (.int .u64 (wAdd g.z g'.z)) R4
     have k1:((u4.setCell ⟨b,6,none⟩ (.int .u64 (wAdd g.z g'.z))).setCell ⟨b,7,none⟩ (.slice pa (keepL (mrg g.P g'.P)).length pc)).heap[b]?=some (.cells #[.int .i64 g.k,.int .u64 (wAdd g.s g'.s),.int .i64 (addH g.h g.l g'.h g'.l),.int .u64 (addL g.l g'.l),.int .i64 (if g.k=2 then gA g.a g.t g'.a g'.t else 0),.int .i64 (if g.k=2 then gT g.a g.t g'.a g'.t else 0),.int .u64 (wAdd g.z g'.z),.slice pa (keepL (mrg g.P g'.P)).length pc,.slice none 0 0,.int .i64 0,.int .u64 0,.slice none 0 0,.slice none 0 0] 79 (0,0)):=heap_setCell_same _ b 7 _ _ (.slice pa (keepL (mrg g.P g'.P)).length pc) k0
     have k2:(((u4.setCell ⟨b,6,none⟩ (.int .u64 (wAdd g.z g'.z))).setCell ⟨b,7,none⟩ (.slice pa (keepL (mrg g.P g'.P)).length pc)).setCell ⟨b,8,none⟩ (.slice na (keepL (mrg g.N g'.N)).length nc)).heap[b]?=some (.cells #[.int .i64 g.k,.int .u64 (wAdd g.s g'.s),.int .i64 (addH g.h g.l g'.h g'.l),.int .u64 (addL g.l g'.l),.int .i64 (if g.k=2 then gA g.a g.t g'.a g'.t else 0),.int .i64 (if g.k=2 then gT g.a g.t g'.a g'.t else 0),.int .u64 (wAdd g.z g'.z),.slice pa (keepL (mrg g.P g'.P)).length pc,.slice na (keepL (mrg g.N g'.N)).length nc,.int .i64 0,.int .u64 0,.slice none 0 0,.slice none 0 0] 79 (0,0)):=heap_setCell_same _ b 8 _ _ (.slice na (keepL (mrg g.N g'.N)).length nc) k1
     have k3:((((u4.setCell ⟨b,6,none⟩ (.int .u64 (wAdd g.z g'.z))).setCell ⟨b,7,none⟩ (.slice pa (keepL (mrg g.P g'.P)).length pc)).setCell ⟨b,8,none⟩ (.slice na (keepL (mrg g.N g'.N)).length nc)).setCell ⟨b,9,none⟩ (.int .i64 (addH g.x g.y g'.x g'.y))).heap[b]?=some (.cells #[.int .i64 g.k,.int .u64 (wAdd g.s g'.s),.int .i64 (addH g.h g.l g'.h g'.l),.int .u64 (addL g.l g'.l),.int .i64 (if g.k=2 then gA g.a g.t g'.a g'.t else 0),.int .i64 (if g.k=2 then gT g.a g.t g'.a g'.t else 0),.int .u64 (wAdd g.z g'.z),.slice pa (keepL (mrg g.P g'.P)).length pc,.slice na (keepL (mrg g.N g'.N)).length nc,.int .i64 (addH g.x g.y g'.x g'.y),.int .u64 0,.slice none 0 0,.slice none 0 0] 79 (0,0)):=heap_setCell_same _ b 9 _ _ (.int .i64 (addH g.x g.y g'.x g'.y)) k2
     have k4:(((((u4.setCell ⟨b,6,none⟩ (.int .u64 (wAdd g.z g'.z))).setCell ⟨b,7,none⟩ (.slice pa (keepL (mrg g.P g'.P)).length pc)).setCell ⟨b,8,none⟩ (.slice na (keepL (mrg g.N g'.N)).length nc)).setCell ⟨b,9,none⟩ (.int .i64 (addH g.x g.y g'.x g'.y))).setCell ⟨b,10,none⟩ (.int .u64 (addL g.y g'.y))).heap[b]?=some (.cells #[.int .i64 g.k,.int .u64 (wAdd g.s g'.s),.int .i64 (addH g.h g.l g'.h g'.l),.int .u64 (addL g.l g'.l),.int .i64 (if g.k=2 then gA g.a g.t g'.a g'.t else 0),.int .i64 (if g.k=2 then gT g.a g.t g'.a g'.t else 0),.int .u64 (wAdd g.z g'.z),.slice pa (keepL (mrg g.P g'.P)).length pc,.slice na (keepL (mrg g.N g'.N)).length nc,.int .i64 (addH g.x g.y g'.x g'.y),.int .u64 (addL g.y g'.y),.slice none 0 0,.slice none 0 0] 79 (0,0)):=heap_setCell_same _ b 10 _ _ (.int .u64 (addL g.y g'.y)) k3
     exact k4
    have HB5:Hid (Below W0.heap.size W0 (((((u4.setCell ⟨b,6,none⟩ (.int .u64 (wAdd g.z g'.z))).setCell ⟨b,7,none⟩ (.slice pa (keepL (mrg g.P g'.P)).length pc)).setCell ⟨b,8,none⟩ (.slice na (keepL (mrg g.N g'.N)).length nc)).setCell ⟨b,9,none⟩ (.int .i64 (addH g.x g.y g'.x g'.y))).setCell ⟨b,10,none⟩ (.int .u64 (addL g.y g'.y)))):=((((HB4.out.setCell (by exact hb0) _).setCell (by exact hb0) _).setCell (by exact hb0) _).setCell (by exact hb0) _).setCell (by exact hb0) _
    have HO:Hid (OwnB (((((u4.setCell ⟨b,6,none⟩ (.int .u64 (wAdd g.z g'.z))).setCell ⟨b,7,none⟩ (.slice pa (keepL (mrg g.P g'.P)).length pc)).setCell ⟨b,8,none⟩ (.slice na (keepL (mrg g.N g'.N)).length nc)).setCell ⟨b,9,none⟩ (.int .i64 (addH g.x g.y g'.x g'.y))).setCell ⟨b,10,none⟩ (.int .u64 (addL g.y g'.y))) W0.heap.size (.slice pa (keepL (mrg g.P g'.P)).length pc) (keepL (mrg g.P g'.P)).length (keepL (mrg g.P g'.P))∧OwnB (((((u4.setCell ⟨b,6,none⟩ (.int .u64 (wAdd g.z g'.z))).setCell ⟨b,7,none⟩ (.slice pa (keepL (mrg g.P g'.P)).length pc)).setCell ⟨b,8,none⟩ (.slice na (keepL (mrg g.N g'.N)).length nc)).setCell ⟨b,9,none⟩ (.int .i64 (addH g.x g.y g'.x g'.y))).setCell ⟨b,10,none⟩ (.int .u64 (addL g.y g'.y))) W0.heap.size (.slice na (keepL (mrg g.N g'.N)).length nc) (keepL (mrg g.N g'.N)).length (keepL (mrg g.N g'.N))∧Apart (.slice pa (keepL (mrg g.P g'.P)).length pc) (.slice na (keepL (mrg g.N g'.N)).length nc)):=⟨(((((oP.below hbY _).below hbY _).below hbY _).below hbY _).below hbY _).le hWY,(((((oN.below hbY _).below hbY _).below hbY _).below hbY _).below hbY _).le hWY,hap⟩
    have q0:=cellK R4 0 rfl
    have q1:=cellK R4 1 rfl
    have q2:=cellK R4 2 rfl
    have q3:=cellK R4 3 rfl
    have q4:=cellK R4 4 rfl
    have q5:=cellK R4 5 rfl
    have q6:=cellK R4 6 rfl
    have q7:=cellK R4 7 rfl
    have q8:=cellK R4 8 rfl
    have q9:=cellK R4 9 rfl
    have q10:=cellK R4 10 rfl
    have q11:=cellK R4 11 rfl
    have q12:=cellK R4 12 rfl
    have f0:=fzR 0 R4
    have f1:=fzR 1 R4
    have f2:=fzR 2 R4
    have f3:=fzR 3 R4
    have f4:=fzR 4 R4
    have f5:=fzR 5 R4
    have f6:=fzR 6 R4
    have f7:=fzR 7 R4
    have f8:=fzR 8 R4
    have f9:=fzR 9 R4
    have f10:=fzR 10 R4
    have f11:=fzR 11 R4
    have f12:=fzR 12 R4
    clear R4 hb4 oP oN hap hbY hWY
    go_wp2
    go_meet
    exact ⟨pa,pc,na,nc,rfl,HR5,HO,HB5⟩
   case rest=>
    obtain ⟨pa,pc,na,nc,rfl,HY4,HO4,HYB4⟩:=hcut
    clear HY HYB
    go_upto_region 5 with fail
    go_cut [5] (fun v w'=>∃ (ea:Option Addr) (ec:Nat) (ra:Option Addr) (rc:Nat) (E R:List Int),v=.pointer (some ⟨b,0,none⟩)∧Hid (Mg g.E g.R g'.E g'.R E R)∧Hid (w'.heap[b]?=some (.cells (agArr (agMg g g' E R) ⟨pa,pc,na,nc,ea,ec,ra,rc⟩) 79 (0,0)))∧Hid (AgO w' W0.heap.size ((agMg g g' E R)) ⟨pa,pc,na,nc,ea,ec,ra,rc⟩)∧Hid (Below W0.heap.size W0 w'))
    case first=>
     obtain ⟨⟨x0,x1,x2,x3,x4,x5,x6,x7,x8,x9,x10,x11,x12⟩,⟨y0,y1,y2,y3,y4,y5,y6,y7,y8,y9,y10,y11,y12⟩,_⟩:=HC.out wc HYB4.out
     go_wp2_with fail
     clear x0 x1 x2 x3 x4 x5 x6 x7 x8 x9 x10 x11 x12 y0 y1 y2 y3 y4 y5 y6 y7 y8 y9 y10 y11 y12
     refine (c_s_MergeB NO.out.hl NO'.out.hl rfl rfl rfl rfl CE.out (nums_past HA.out.E (chain HT0.out HYB4.out)) (nums_past HA.out.R (chain HT0.out HYB4.out)) (nums_past HA'.out.E (chain HT0.out HYB4.out)) (nums_past HA'.out.R (chain HT0.out HYB4.out)) OK.out.E OK'.out.E).mono ?_
     rintro e u6 ⟨v6,E,R,rfl,hM,⟨ve,vr,rfl,oE,oR⟩,hb6⟩
     obtain ⟨ea,ec,rfl⟩:=own_any oE
     obtain ⟨ra,rc,rfl⟩:=own_any oR
     have hbY:=(Array.getElem?_eq_some_iff.1 HY4.out).1
     have hWY:=HYB4.out.size
     have R6:=(hb6.block b hbY).trans HY4.out
     have HB6:=hide (chain HYB4.out hb6)
     have HR7:Hid (((u6.setCell ⟨b,11,none⟩ (.slice ea E.length ec)).setCell ⟨b,12,none⟩ (.slice ra R.length rc)).heap[b]?=some (.cells (agArr ((agMg g g' E R)) ⟨pa,pc,na,nc,ea,ec,ra,rc⟩) 79 (0,0))):=by
      have k0:(u6.setCell ⟨b,11,none⟩ (.slice ea E.length ec)).heap[b]?=some (.cells #[.int .i64 g.k,.int .u64 (wAdd g.s g'.s),.int .i64 (addH g.h g.l g'.h g'.l),.int .u64 (addL g.l g'.l),.int .i64 (if g.k=2 then gA g.a g.t g'.a g'.t else 0),.int .i64 (if g.k=2 then gT g.a g.t g'.a g'.t else 0),.int .u64 (wAdd g.z g'.z),.slice pa (keepL (mrg g.P g'.P)).length pc,.slice na (keepL (mrg g.N g'.N)).length nc,.int .i64 (addH g.x g.y g'.x g'.y),.int .u64 (addL g.y g'.y),.slice ea E.length ec,.slice none 0 0] 79 (0,0)):=heap_setCell_same _ b 11 _ _ (.slice ea E.length ec) R6
      have k1:((u6.setCell ⟨b,11,none⟩ (.slice ea E.length ec)).setCell ⟨b,12,none⟩ (.slice ra R.length rc)).heap[b]?=some (.cells #[.int .i64 g.k,.int .u64 (wAdd g.s g'.s),.int .i64 (addH g.h g.l g'.h g'.l),.int .u64 (addL g.l g'.l),.int .i64 (if g.k=2 then gA g.a g.t g'.a g'.t else 0),.int .i64 (if g.k=2 then gT g.a g.t g'.a g'.t else 0),.int .u64 (wAdd g.z g'.z),.slice pa (keepL (mrg g.P g'.P)).length pc,.slice na (keepL (mrg g.N g'.N)).length nc,.int .i64 (addH g.x g.y g'.x g'.y),.int .u64 (addL g.y g'.y),.slice ea E.length ec,.slice ra R.length rc] 79 (0,0)):=heap_setCell_same _ b 12 _ _ (.slice ra R.length rc) k0
      exact k1
     have HB7:Hid (Below W0.heap.size W0 ((u6.setCell ⟨b,11,none⟩ (.slice ea E.length ec)).setCell ⟨b,12,none⟩ (.slice ra R.length rc))):=(HB6.out.setCell (by exact hb0) _).setCell (by exact hb0) _
     have oE1:OwnN .u64 25 u6 wc.heap.size (.slice ea E.length ec) E.length E:=⟨rfl,oE⟩
     have oR1:OwnN .i64 2 u6 wc.heap.size (.slice ra R.length rc) R.length R:=⟨rfl,oR⟩
     have row6:=R6
     have n1:=HO4.out.1.past hb6
     have n2:=HO4.out.2.1.past hb6
     have e1:(Value.slice pa (keepL (mrg g.P g'.P)).length pc).ownBlock≠some b:=n1.ne R6 (by decide)
     have e2:(Value.slice na (keepL (mrg g.N g'.N)).length nc).ownBlock≠some b:=n2.ne R6 (by decide)
     have HO7:Hid (AgO ((u6.setCell ⟨b,11,none⟩ (.slice ea E.length ec)).setCell ⟨b,12,none⟩ (.slice ra R.length rc)) W0.heap.size ((agMg g g' E R)) ⟨pa,pc,na,nc,ea,ec,ra,rc⟩):=⟨(n1.set e1 _).set e1 _,(n2.set e2 _).set e2 _,HO4.out.2.2,((oE1.below hbY _).below hbY _).le hWY,((oR1.below hbY _).below hbY _).le hWY⟩
     have HMM:=hide hM
     have q0:=cellK R6 0 rfl
     have q1:=cellK R6 1 rfl
     have q2:=cellK R6 2 rfl
     have q3:=cellK R6 3 rfl
     have q4:=cellK R6 4 rfl
     have q5:=cellK R6 5 rfl
     have q6:=cellK R6 6 rfl
     have q7:=cellK R6 7 rfl
     have q8:=cellK R6 8 rfl
     have q9:=cellK R6 9 rfl
     have q10:=cellK R6 10 rfl
     have q11:=cellK R6 11 rfl
     have q12:=cellK R6 12 rfl
     have f0:=fzR 0 R6
     have f1:=fzR 1 R6
     have f2:=fzR 2 R6
     have f3:=fzR 3 R6
     have f4:=fzR 4 R6
     have f5:=fzR 5 R6
     have f6:=fzR 6 R6
     have f7:=fzR 7 R6
     have f8:=fzR 8 R6
     have f9:=fzR 9 R6
     have f10:=fzR 10 R6
     have f11:=fzR 11 R6
     have f12:=fzR 12 R6
     clear row6 n1 n2 e1 e2 oE1 oR1 R6 hb6 oE oR hM hbY hWY
     go_wp2
     go_meet
     exact ⟨ea,ec,ra,rc,E,R,rfl,HMM,HR7,HO7,HB7⟩
    case rest=>
     obtain ⟨ea,ec,ra,rc,E,R,rfl,HMM,HR7,HO7,HB7⟩:=hcut
     clear HY4 HO4 HYB4
     have RR:=(HC.out _ HB7.out).2.2
     have a0:=cellK HR7.out 0 rfl
     have a1:=cellK HR7.out 1 rfl
     have a2:=cellK HR7.out 2 rfl
     have a3:=cellK HR7.out 3 rfl
     have a4:=cellK HR7.out 4 rfl
     have a5:=cellK HR7.out 5 rfl
     have a6:=cellK HR7.out 6 rfl
     have a7:=cellK HR7.out 7 rfl
     have a8:=cellK HR7.out 8 rfl
     have a9:=cellK HR7.out 9 rfl
     have a10:=cellK HR7.out 10 rfl
     have a11:=cellK HR7.out 11 rfl
     have a12:=cellK HR7.out 12 rfl
     have b0:=fzR 0 HR7.out
     have b1:=fzR 1 HR7.out
     have b2:=fzR 2 HR7.out
     have b3:=fzR 3 HR7.out
     have b4:=fzR 4 HR7.out
     have b5:=fzR 5 HR7.out
     have b6:=fzR 6 HR7.out
     have b7:=fzR 7 HR7.out
     have b8:=fzR 8 HR7.out
     have b9:=fzR 9 HR7.out
     have b10:=fzR 10 HR7.out
     have b11:=fzR 11 HR7.out
     have b12:=fzR 12 HR7.out
     have c0:=cellK RR 0 rfl
     have c1:=cellK RR 1 rfl
     have c2:=cellK RR 2 rfl
     have c3:=cellK RR 3 rfl
     have c4:=cellK RR 4 rfl
     have c5:=cellK RR 5 rfl
     have c6:=cellK RR 6 rfl
     have c7:=cellK RR 7 rfl
     have c8:=cellK RR 8 rfl
     have c9:=cellK RR 9 rfl
     have c10:=cellK RR 10 rfl
     have c11:=cellK RR 11 rfl
     have c12:=cellK RR 12 rfl
     have d0:=fzR 0 RR
     have d1:=fzR 1 RR
     have d2:=fzR 2 RR
     have d3:=fzR 3 RR
     have d4:=fzR 4 RR
     have d5:=fzR 5 RR
     have d6:=fzR 6 RR
     have d7:=fzR 7 RR
     have d8:=fzR 8 RR
     have d9:=fzR 9 RR
     have d10:=fzR 10 RR
     have d11:=fzR 11 RR
     have d12:=fzR 12 RR
     clear RR
     go_wp2
     have hszz:=HSZ.out
     refine bodyPost_ret (v:=.agg (agArr ((agMg g g' E R)) ⟨pa,pc,na,nc,ea,ec,ra,rc⟩)) (by simp [results,Tryz.results117,go_sem,c0,c1,c2,c3,c4,c5,c6,c7,c8,c9,c10,c11,c12]) rfl (AgRes.mk (o:=(agMg g g' E R)) (p:=⟨pa,pc,na,nc,ea,ec,ra,rc⟩) ?_ ?_ ?_)
     ·unfold AgMrg;rw [if_pos HG.out];exact ⟨E,R,HMM.out,rfl⟩
     ·refine AgO.le (B:=W0.heap.size) ?_ (by omega)
      repeat (refine AgO.below ?_ (by omega) _)
      exact HO7.out
     ·repeat (refine Below.setCell ?_ (by simp <;> omega) _)
      exact chain HT0.out HB7.out
open Go.Maps
theorem OwnC.putAg {w:World} {B g cp n i:Nat} {L:List Ce} {c:Ce} {o:Ag} {q:Pl} (h0:OwnC w B (.slice (some ⟨g,0,none⟩) n cp) L) (hn:L.length=n) (hc:L[i]?=some c) :
  OwnC (((((((((((((w.setCell ⟨g,i*15+2,none⟩ (.int .i64 o.k)).setCell ⟨g,i*15+3,none⟩ (.int .u64 o.s)).setCell ⟨g,i*15+4,none⟩ (.int .i64 o.h)).setCell ⟨g,i*15+5,none⟩ (.int .u64 o.l)).setCell ⟨g,i*15+6,none⟩ (.int .i64 o.a)).setCell ⟨g,i*15+7,none⟩ (.int .i64 o.t)).setCell ⟨g,i*15+8,none⟩ (.int .u64 o.z)).setCell ⟨g,i*15+9,none⟩ (.slice q.pa o.P.length q.pc)).setCell ⟨g,i*15+10,none⟩ (.slice q.na o.N.length q.nc)).setCell ⟨g,i*15+11,none⟩ (.int .i64 o.x)).setCell ⟨g,i*15+12,none⟩ (.int .u64 o.y)).setCell ⟨g,i*15+13,none⟩ (.slice q.ea o.E.length q.ec)).setCell ⟨g,i*15+14,none⟩ (.slice q.ra o.R.length q.rc)) B (.slice (some ⟨g,0,none⟩) n cp) (L.set i ⟨c.n,c.s,o,q⟩):=by
 have hi:i<L.length:=(List.getElem?_eq_some_iff.1 hc).1
 have h1:=OwnC.put1 (j:=2) (c:=(⟨c.n,c.s,⟨c.g.k,c.g.s,c.g.h,c.g.l,c.g.a,c.g.t,c.g.z,c.g.P,c.g.N,c.g.x,c.g.y,c.g.E,c.g.R⟩,⟨c.p.pa,c.p.pc,c.p.na,c.p.nc,c.p.ea,c.p.ec,c.p.ra,c.p.rc⟩⟩:Ce)) (c':=(⟨c.n,c.s,⟨o.k,c.g.s,c.g.h,c.g.l,c.g.a,c.g.t,c.g.z,c.g.P,c.g.N,c.g.x,c.g.y,c.g.E,c.g.R⟩,⟨c.p.pa,c.p.pc,c.p.na,c.p.nc,c.p.ea,c.p.ec,c.p.ra,c.p.rc⟩⟩:Ce)) (u:=.int .i64 o.k) h0 (by simp [hn]) hc (by decide) rfl
 have h2:=OwnC.put1 (j:=3) (c:=(⟨c.n,c.s,⟨o.k,c.g.s,c.g.h,c.g.l,c.g.a,c.g.t,c.g.z,c.g.P,c.g.N,c.g.x,c.g.y,c.g.E,c.g.R⟩,⟨c.p.pa,c.p.pc,c.p.na,c.p.nc,c.p.ea,c.p.ec,c.p.ra,c.p.rc⟩⟩:Ce)) (c':=(⟨c.n,c.s,⟨o.k,o.s,c.g.h,c.g.l,c.g.a,c.g.t,c.g.z,c.g.P,c.g.N,c.g.x,c.g.y,c.g.E,c.g.R⟩,⟨c.p.pa,c.p.pc,c.p.na,c.p.nc,c.p.ea,c.p.ec,c.p.ra,c.p.rc⟩⟩:Ce)) (u:=.int .u64 o.s) h1 (by simp [hn]) (List.getElem?_set_self hi) (by decide) rfl
 rw [List.set_set] at h2
 have h3:=OwnC.put1 (j:=4) (c:=(⟨c.n,c.s,⟨o.k,o.s,c.g.h,c.g.l,c.g.a,c.g.t,c.g.z,c.g.P,c.g.N,c.g.x,c.g.y,c.g.E,c.g.R⟩,⟨c.p.pa,c.p.pc,c.p.na,c.p.nc,c.p.ea,c.p.ec,c.p.ra,c.p.rc⟩⟩:Ce)) (c':=(⟨c.n,c.s,⟨o.k,o.s,o.h,c.g.l,c.g.a,c.g.t,c.g.z,c.g.P,c.g.N,c.g.x,c.g.y,c.g.E,c.g.R⟩,⟨c.p.pa,c.p.pc,c.p.na,c.p.nc,c.p.ea,c.p.ec,c.p.ra,c.p.rc⟩⟩:Ce)) (u:=.int .i64 o.h) h2 (by simp [hn]) (List.getElem?_set_self hi) (by decide) rfl
 rw [List.set_set] at h3
 have h4:=OwnC.put1 (j:=5) (c:=(⟨c.n,c.s,⟨o.k,o.s,o.h,c.g.l,c.g.a,c.g.t,c.g.z,c.g.P,c.g.N,c.g.x,c.g.y,c.g.E,c.g.R⟩,⟨c.p.pa,c.p.pc,c.p.na,c.p.nc,c.p.ea,c.p.ec,c.p.ra,c.p.rc⟩⟩:Ce)) (c':=(⟨c.n,c.s,⟨o.k,o.s,o.h,o.l,c.g.a,c.g.t,c.g.z,c.g.P,c.g.N,c.g.x,c.g.y,c.g.E,c.g.R⟩,⟨c.p.pa,c.p.pc,c.p.na,c.p.nc,c.p.ea,c.p.ec,c.p.ra,c.p.rc⟩⟩:Ce)) (u:=.int .u64 o.l) h3 (by simp [hn]) (List.getElem?_set_self hi) (by decide) rfl
 rw [List.set_set] at h4
 have h5:=OwnC.put1 (j:=6) (c:=(⟨c.n,c.s,⟨o.k,o.s,o.h,o.l,c.g.a,c.g.t,c.g.z,c.g.P,c.g.N,c.g.x,c.g.y,c.g.E,c.g.R⟩,⟨c.p.pa,c.p.pc,c.p.na,c.p.nc,c.p.ea,c.p.ec,c.p.ra,c.p.rc⟩⟩:Ce)) (c':=(⟨c.n,c.s,⟨o.k,o.s,o.h,o.l,o.a,c.g.t,c.g.z,c.g.P,c.g.N,c.g.x,c.g.y,c.g.E,c.g.R⟩,⟨c.p.pa,c.p.pc,c.p.na,c.p.nc,c.p.ea,c.p.ec,c.p.ra,c.p.rc⟩⟩:Ce)) (u:=.int .i64 o.a) h4 (by simp [hn]) (List.getElem?_set_self hi) (by decide) rfl
 rw [List.set_set] at h5
 have h6:=OwnC.put1 (j:=7) (c:=(⟨c.n,c.s,⟨o.k,o.s,o.h,o.l,o.a,c.g.t,c.g.z,c.g.P,c.g.N,c.g.x,c.g.y,c.g.E,c.g.R⟩,⟨c.p.pa,c.p.pc,c.p.na,c.p.nc,c.p.ea,c.p.ec,c.p.ra,c.p.rc⟩⟩:Ce)) (c':=(⟨c.n,c.s,⟨o.k,o.s,o.h,o.l,o.a,o.t,c.g.z,c.g.P,c.g.N,c.g.x,c.g.y,c.g.E,c.g.R⟩,⟨c.p.pa,c.p.pc,c.p.na,c.p.nc,c.p.ea,c.p.ec,c.p.ra,c.p.rc⟩⟩:Ce)) (u:=.int .i64 o.t) h5 (by simp [hn]) (List.getElem?_set_self hi) (by decide) rfl
 rw [List.set_set] at h6
 have h7:=OwnC.put1 (j:=8) (c:=(⟨c.n,c.s,⟨o.k,o.s,o.h,o.l,o.a,o.t,c.g.z,c.g.P,c.g.N,c.g.x,c.g.y,c.g.E,c.g.R⟩,⟨c.p.pa,c.p.pc,c.p.na,c.p.nc,c.p.ea,c.p.ec,c.p.ra,c.p.rc⟩⟩:Ce)) (c':=(⟨c.n,c.s,⟨o.k,o.s,o.h,o.l,o.a,o.t,o.z,c.g.P,c.g.N,c.g.x,c.g.y,c.g.E,c.g.R⟩,⟨c.p.pa,c.p.pc,c.p.na,c.p.nc,c.p.ea,c.p.ec,c.p.ra,c.p.rc⟩⟩:Ce)) (u:=.int .u64 o.z) h6 (by simp [hn]) (List.getElem?_set_self hi) (by decide) rfl
 rw [List.set_set] at h7
 have h8:=OwnC.put1 (j:=9) (c:=(⟨c.n,c.s,⟨o.k,o.s,o.h,o.l,o.a,o.t,o.z,c.g.P,c.g.N,c.g.x,c.g.y,c.g.E,c.g.R⟩,⟨c.p.pa,c.p.pc,c.p.na,c.p.nc,c.p.ea,c.p.ec,c.p.ra,c.p.rc⟩⟩:Ce)) (c':=(⟨c.n,c.s,⟨o.k,o.s,o.h,o.l,o.a,o.t,o.z,o.P,c.g.N,c.g.x,c.g.y,c.g.E,c.g.R⟩,⟨q.pa,q.pc,c.p.na,c.p.nc,c.p.ea,c.p.ec,c.p.ra,c.p.rc⟩⟩:Ce)) (u:=.slice q.pa o.P.length q.pc) h7 (by simp [hn]) (List.getElem?_set_self hi) (by decide) rfl
 rw [List.set_set] at h8
 have h9:=OwnC.put1 (j:=10) (c:=(⟨c.n,c.s,⟨o.k,o.s,o.h,o.l,o.a,o.t,o.z,o.P,c.g.N,c.g.x,c.g.y,c.g.E,c.g.R⟩,⟨q.pa,q.pc,c.p.na,c.p.nc,c.p.ea,c.p.ec,c.p.ra,c.p.rc⟩⟩:Ce)) (c':=(⟨c.n,c.s,⟨o.k,o.s,o.h,o.l,o.a,o.t,o.z,o.P,o.N,c.g.x,c.g.y,c.g.E,c.g.R⟩,⟨q.pa,q.pc,q.na,q.nc,c.p.ea,c.p.ec,c.p.ra,c.p.rc⟩⟩:Ce)) (u:=.slice q.na o.N.length q.nc) h8 (by simp [hn]) (List.getElem?_set_self hi) (by decide) rfl
 rw [List.set_set] at h9
 have h10:=OwnC.put1 (j:=11) (c:=(⟨c.n,c.s,⟨o.k,o.s,o.h,o.l,o.a,o.t,o.z,o.P,o.N,c.g.x,c.g.y,c.g.E,c.g.R⟩,⟨q.pa,q.pc,q.na,q.nc,c.p.ea,c.p.ec,c.p.ra,c.p.rc⟩⟩:Ce)) (c':=(⟨c.n,c.s,⟨o.k,o.s,o.h,o.l,o.a,o.t,o.z,o.P,o.N,o.x,c.g.y,c.g.E,c.g.R⟩,⟨q.pa,q.pc,q.na,q.nc,c.p.ea,c.p.ec,c.p.ra,c.p.rc⟩⟩:Ce)) (u:=.int .i64 o.x) h9 (by simp [hn]) (List.getElem?_set_self hi) (by decide) rfl
 rw [List.set_set] at h10
 have h11:=OwnC.put1 (j:=12) (c:=(⟨c.n,c.s,⟨o.k,o.s,o.h,o.l,o.a,o.t,o.z,o.P,o.N,o.x,c.g.y,c.g.E,c.g.R⟩,⟨q.pa,q.pc,q.na,q.nc,c.p.ea,c.p.ec,c.p.ra,c.p.rc⟩⟩:Ce)) (c':=(⟨c.n,c.s,⟨o.k,o.s,o.h,o.l,o.a,o.t,o.z,o.P,o.N,o.x,o.y,c.g.E,c.g.R⟩,⟨q.pa,q.pc,q.na,q.nc,c.p.ea,c.p.ec,c.p.ra,c.p.rc⟩⟩:Ce)) (u:=.int .u64 o.y) h10 (by simp [hn]) (List.getElem?_set_self hi) (by decide) rfl
 rw [List.set_set] at h11
 have h12:=OwnC.put1 (j:=13) (c:=(⟨c.n,c.s,⟨o.k,o.s,o.h,o.l,o.a,o.t,o.z,o.P,o.N,o.x,o.y,c.g.E,c.g.R⟩,⟨q.pa,q.pc,q.na,q.nc,c.p.ea,c.p.ec,c.p.ra,c.p.rc⟩⟩:Ce)) (c':=(⟨c.n,c.s,⟨o.k,o.s,o.h,o.l,o.a,o.t,o.z,o.P,o.N,o.x,o.y,o.E,c.g.R⟩,⟨q.pa,q.pc,q.na,q.nc,q.ea,q.ec,c.p.ra,c.p.rc⟩⟩:Ce)) (u:=.slice q.ea o.E.length q.ec) h11 (by simp [hn]) (List.getElem?_set_self hi) (by decide) rfl
 rw [List.set_set] at h12
 have h13:=OwnC.put1 (j:=14) (c:=(⟨c.n,c.s,⟨o.k,o.s,o.h,o.l,o.a,o.t,o.z,o.P,o.N,o.x,o.y,o.E,c.g.R⟩,⟨q.pa,q.pc,q.na,q.nc,q.ea,q.ec,c.p.ra,c.p.rc⟩⟩:Ce)) (c':=(⟨c.n,c.s,⟨o.k,o.s,o.h,o.l,o.a,o.t,o.z,o.P,o.N,o.x,o.y,o.E,o.R⟩,⟨q.pa,q.pc,q.na,q.nc,q.ea,q.ec,q.ra,q.rc⟩⟩:Ce)) (u:=.slice q.ra o.R.length q.rc) h12 (by simp [hn]) (List.getElem?_set_self hi) (by decide) rfl
 rw [List.set_set] at h13
 exact h13
theorem grown13 {w:World} {g i:Nat} {o:Ag} {q:Pl}:w.grownBy (((((((((((((w.setCell ⟨g,i*15+2,none⟩ (.int .i64 o.k)).setCell ⟨g,i*15+3,none⟩ (.int .u64 o.s)).setCell ⟨g,i*15+4,none⟩ (.int .i64 o.h)).setCell ⟨g,i*15+5,none⟩ (.int .u64 o.l)).setCell ⟨g,i*15+6,none⟩ (.int .i64 o.a)).setCell ⟨g,i*15+7,none⟩ (.int .i64 o.t)).setCell ⟨g,i*15+8,none⟩ (.int .u64 o.z)).setCell ⟨g,i*15+9,none⟩ (.slice q.pa o.P.length q.pc)).setCell ⟨g,i*15+10,none⟩ (.slice q.na o.N.length q.nc)).setCell ⟨g,i*15+11,none⟩ (.int .i64 o.x)).setCell ⟨g,i*15+12,none⟩ (.int .u64 o.y)).setCell ⟨g,i*15+13,none⟩ (.slice q.ea o.E.length q.ec)).setCell ⟨g,i*15+14,none⟩ (.slice q.ra o.R.length q.rc)) (some g):=
 ((((((((((((grown_one _ _ _ _).trans (grown_one _ _ _ _)).trans (grown_one _ _ _ _)).trans (grown_one _ _ _ _)).trans (grown_one _ _ _ _)).trans (grown_one _ _ _ _)).trans (grown_one _ _ _ _)).trans (grown_one _ _ _ _)).trans (grown_one _ _ _ _)).trans (grown_one _ _ _ _)).trans (grown_one _ _ _ _)).trans (grown_one _ _ _ _)).trans (grown_one _ _ _ _)
theorem set_parts {L:List Ce} {i:Nat} {c c':Ce} (hc:L[i]?=some c):L.set i c'=L.take i ++ c' :: L.drop (i+1)∧L=L.take i ++ c :: L.drop (i+1):=by
 obtain ⟨hi,e⟩:=List.getElem?_eq_some_iff.1 hc
 constructor
 ·rw [List.set_eq_take_append_cons_drop,if_pos hi]
 ·rw [← e,← List.drop_eq_getElem_cons hi,List.take_append_drop]
theorem drop_one {L:List Ce} {k:Nat} {c:Ce} (hc:L[k]?=some c):L.drop k=c :: L.drop (k+1):=by
 obtain ⟨hi,e⟩:=List.getElem?_eq_some_iff.1 hc
 rw [← e,← List.drop_eq_getElem_cons hi]
structure CnJ (w wr:World) (a b:List Ce) (k:Nat) (vo:Value) (R:List Ce) (vm:Value) (Mo:List Ce):Prop where
 r:OwnC wr w.heap.size vo R
 m:OwnC wr w.heap.size vm Mo
 ap:ApV vo vm
 o:CesO wr w.heap.size (R ++ Mo.drop k)
 asc:AscC R
 mg:Mgs a (b.take k) R
 q:CnQ R
 ne:vo≠.slice none 0 0
 b:Below w.heap.size w wr
theorem CnJ.past {w wr w':World} {a b:List Ce} {k:Nat} {vo vm:Value} {R Mo:List Ce} (h:CnJ w wr a b k vo R vm Mo) (hb:Below wr.heap.size wr w'):CnJ w w' a b k vo R vm Mo:=
 ⟨h.r.past hb,h.m.past hb,h.ap,h.o.past hb,h.asc,h.mg,h.q,h.ne,chain h.b hb⟩
theorem CnJ.at {w wr:World} {a b:List Ce} {k n cp:Nat} {ao:Option Addr} {vm:Value} {R Mo:List Ce} (h:CnJ w wr a b k (.slice ao n cp) R vm Mo):CesAt wr ao R:=OwnC.at h.r (fun c hc=>(h.o.o c (List.mem_append_left _ hc)).at)
theorem CnJ.set {w wr w6:World} {a b:List Ce} {k i g n cp:Nat} {vm:Value} {R Mo:List Ce} {c d cb:Ce} {o:Ag} {q:Pl} (h:CnJ w wr a b k (.slice (some ⟨g,0,none⟩) n cp) R vm Mo) (hn:R.length=n) (hc:Mo[k]?=some c) (hb:b[k]?=some cb) (ek:c.key=cb.key) (hp:PlcA R c.n c.s i true) (hd:R[i]?=some d) (e1:d.n=c.n) (e2:d.s=c.s) (e3:d.g.k=c.g.k) (hq:AgOk c.g∧AgSm c.g∧agB c.g=true∧KeyOk c.n c.s) (hm:AgMrg d.g c.g o) (hb6:Below wr.heap.size wr w6) (ho:AgO w6 wr.heap.size o q) :
  CnJ w ((((((((((((((w6.setCell ⟨g,i*15+2,none⟩ (.int .i64 o.k)).setCell ⟨g,i*15+3,none⟩ (.int .u64 o.s)).setCell ⟨g,i*15+4,none⟩ (.int .i64 o.h)).setCell ⟨g,i*15+5,none⟩ (.int .u64 o.l)).setCell ⟨g,i*15+6,none⟩ (.int .i64 o.a)).setCell ⟨g,i*15+7,none⟩ (.int .i64 o.t)).setCell ⟨g,i*15+8,none⟩ (.int .u64 o.z)).setCell ⟨g,i*15+9,none⟩ (.slice q.pa o.P.length q.pc)).setCell ⟨g,i*15+10,none⟩ (.slice q.na o.N.length q.nc)).setCell ⟨g,i*15+11,none⟩ (.int .i64 o.x)).setCell ⟨g,i*15+12,none⟩ (.int .u64 o.y)).setCell ⟨g,i*15+13,none⟩ (.slice q.ea o.E.length q.ec)).setCell ⟨g,i*15+14,none⟩ (.slice q.ra o.R.length q.rc))) a b (k+1) (.slice (some ⟨g,0,none⟩) n cp) (R.set i ⟨d.n,d.s,o,q⟩) vm Mo:=by
 obtain ⟨s1,s2⟩:=set_parts (c':=⟨d.n,d.s,o,q⟩) hd
 have hmd:=List.mem_of_getElem? hd
 have pt:PtL R c.n c.s o (R.set i ⟨d.n,d.s,o,q⟩):=by
  have:=ptl_yes (o:=o) (q:=q) h.asc hp (rfl:(R.take i).map Ce.key=(R.take i).map Ce.key) rfl
  rw [s1,e1,e2]
  rw [List.append_assoc] at this;exact this
 have ms:MsA R c (R.set i ⟨d.n,d.s,o,q⟩):=.inl ⟨d,o,hmd,e1,e2,e3,hm,pt⟩
 have r6:=h.r.past hb6
 have bw:Below w.heap.size w w6:=chain h.b hb6
 have gl:=fun j (hj:(Value.slice (some ⟨g,0,none⟩) n cp).ownBlock=some j)=>(World.ownsRow.lt h.r j hj).1
 have hO:CesO w6 w.heap.size (R.set i ⟨d.n,d.s,o,q⟩ ++ Mo.drop (k+1)):=by
  have sub:(R.take i ++ R.drop (i+1) ++ Mo.drop (k+1)).Sublist (R ++ Mo.drop k):=by
   refine List.Sublist.append ?_ ?_
   ·conv=>rhs;rw [s2]
    exact List.Sublist.append (List.Sublist.refl _) (List.sublist_cons_self _ _)
   ·rw [drop_one hc];exact List.sublist_cons_self _ _
  have h1:=(h.o.sub sub).add (c:=⟨d.n,d.s,o,q⟩) hb6 h.b.size ho
  refine h1.perm ?_
  rw [s1,List.append_assoc,List.append_assoc,List.cons_append]
  exact List.perm_middle.symm
 refine ⟨r6.putAg hn hd,?_,h.ap,hO.row r6 grown13,ms.asc h.asc,?_,h.q.step ms hq.1 hq.2.1 hq.2.2.1 hq.2.2.2,h.ne,?_⟩
 ·exact (h.m.past hb6).kept (v:=.slice (some ⟨g,0,none⟩) n cp) grown13 h.ap.symm
 ·rw [List.take_add_one,hb];exact .snoc _ _ _ _ h.mg (ms.keys rfl ek rfl)
 ·exact bw.grown (grown13 (g:=g)) (bw.size) (fun j hj=>gl j hj)
structure InsI (w W:World) (vn:Value) (Fn:List Ce) (vo:Value) (R:List Ce) (vm:Value) (Mo X:List Ce):Prop where
 n:OwnC W w.heap.size vn Fn
 r:OwnC W w.heap.size vo R
 m:OwnC W w.heap.size vm Mo
 a1:ApV vn vo
 a2:ApV vn vm
 a3:ApV vo vm
 o:CesO W w.heap.size X
 b:Below w.heap.size w W
 ne:vn≠.slice none 0 0
theorem InsI.past {w W W':World} {vn vo vm:Value} {Fn R Mo X:List Ce} (h:InsI w W vn Fn vo R vm Mo X) (hb:Below W.heap.size W W'):InsI w W' vn Fn vo R vm Mo X:=
 ⟨h.n.past hb,h.r.past hb,h.m.past hb,h.a1,h.a2,h.a3,h.o.past hb,chain h.b hb,h.ne⟩
theorem InsI.app {w W w1:World} {vn vo vm v':Value} {Fn R Mo X G:List Ce} (h:InsI w W vn Fn vo R vm Mo X) (hown:w1.ownsRow w.heap.size 81 15 v' (Fn.length+G.length) (flC Fn ++ flC G)) (hg:W.grownBy w1 vn.ownBlock) (hnil:v'=.slice none 0 0↔vn=.slice none 0 0∧G.length=0) (hloc:v'.ownBlock=vn.ownBlock∨v'.ownBlock=some W.heap.size):InsI w w1 v' (Fn ++ G) vo R vm Mo X:=by
 have far:∀ {u:Value} {L:List Ce},OwnC W w.heap.size u L→ApV vn u→ApV v' u:=fun {u L} hu ha k hk e=>by
  rcases hloc with q | q
  ·rw [q] at hk;exact ha k hk e
  ·rw [q] at hk
   have:=(World.ownsRow.lt hu k e).2
   injection hk with hk
   omega
 refine ⟨?_,h.r.kept hg h.a1.symm,h.m.kept hg h.a2.symm,far h.r h.a1,far h.m h.a2,h.a3,h.o.row h.n hg,h.b.grown hg h.b.size (fun j hj=>(World.ownsRow.lt h.n j hj).1),fun e=>h.ne (hnil.1 e).1⟩
 show w1.ownsRow _ _ _ _ _ _
 rw [List.length_append,flC_app];exact hown
theorem CnJ.ins {w wr:World} {a b:List Ce} {k i:Nat} {vo vm:Value} {R Mo:List Ce} {c cb:Ce} (h:CnJ w wr a b k vo R vm Mo) (hc:Mo[k]?=some c) (hb:b[k]?=some cb) (ek:c.key=cb.key) (hp:PlcA R c.n c.s i false) (hq:AgOk c.g∧AgSm c.g∧agB c.g=true∧KeyOk c.n c.s) {w9:World} {v9:Value} (hi:InsI w w9 v9 ((R.take i ++ [c]) ++ R.drop i) vo R vm Mo (R ++ Mo.drop k)) :
  CnJ w w9 a b (k+1) v9 ((R.take i ++ [c]) ++ R.drop i) vm Mo:=by
 have pt:PtL R c.n c.s c.g ((R.take i ++ [c]) ++ R.drop i):=by
  have:=ptl_no (o:=c.g) (q:=c.p) h.asc hp (rfl:(R.take i).map Ce.key=(R.take i).map Ce.key) rfl
  exact this
 have ms:MsA R c ((R.take i ++ [c]) ++ R.drop i):=.inr ⟨(plc_no h.asc hp).2,pt⟩
 refine ⟨hi.n,hi.m,hi.a2,hi.o.perm ?_,ms.asc h.asc,?_,h.q.step ms hq.1 hq.2.1 hq.2.2.1 hq.2.2.2,hi.ne,hi.b⟩
 ·rw [drop_one hc]
  have p1:(R ++ c :: Mo.drop (k+1)).Perm (c :: (R ++ Mo.drop (k+1))):=List.perm_middle
  have p2:((R.take i ++ [c]) ++ R.drop i).Perm (c :: R):=by
   have e:(R.take i ++ [c]) ++ R.drop i=R.take i ++ c :: R.drop i:=by rw [List.append_assoc];rfl
   rw [e]
   refine List.perm_middle.trans ?_
   rw [List.take_append_drop]
  exact p1.trans ((p2.append_right _).symm)
 ·rw [List.take_add_one,hb];exact .snoc _ _ _ _ h.mg (ms.keys rfl ek rfl)
theorem src_take {w:World} {B g n cp:Nat} {R:List Ce} {i:Nat} (h:OwnC w B (.slice (some ⟨g,0,none⟩) n cp) R) (hn:R.length=n) (hi:i≤n):∀ j u,(flC (R.take i))[j]?=some u→w.cell? ((⟨g,0,none⟩:Addr).add j)=some u:=by
 subst hn
 intro j u hu
 have hj:=(List.getElem?_eq_some_iff.1 hu).1
 rw [flC_len,List.length_take] at hj
 have hmul:min i R.length*15≤R.length*15:=Nat.mul_le_mul_right _ (Nat.min_le_right _ _)
 rw [Addr.add_lit,Nat.zero_add,World.ownsRow.cellAt h j (by omega)]
 have e:flC R=flC (R.take i) ++ flC (R.drop i):=by rw [← flC_app,List.take_append_drop]
 rw [e,List.getElem?_append_left (by rw [flC_len,List.length_take];omega)]
 exact hu
theorem src_drop {w:World} {B g n cp:Nat} {R:List Ce} {i:Nat} (h:OwnC w B (.slice (some ⟨g,0,none⟩) n cp) R) (hn:R.length=n) (hi:i≤n):∀ j u,(flC (R.drop i))[j]?=some u→w.cell? ((⟨g,i*15,none⟩:Addr).add j)=some u:=by
 subst hn
 intro j u hu
 have hj:=(List.getElem?_eq_some_iff.1 hu).1
 rw [flC_len,List.length_drop] at hj
 have hlt:i*15+j<R.length*15:=by
  have:(R.length - i)*15=R.length*15 - i*15:=Nat.sub_mul _ _ _
  omega
 rw [Addr.add_lit,World.ownsRow.cellAt h (i*15+j) hlt]
 have e:flC R=flC (R.take i) ++ flC (R.drop i):=by rw [← flC_app,List.take_append_drop]
 have l:(flC (R.take i)).length=i*15:=by rw [flC_len,List.length_take,Nat.min_eq_left hi]
 rw [e,List.getElem?_append_right (by rw [l];omega),l,Nat.add_sub_cancel_left]
 exact hu
theorem src_none {w:World} {R:List Ce} {i:Nat} {ad:Addr} (hi:R.length≤i):∀ j u,(flC (R.drop i))[j]?=some u→w.cell? (ad.add j)=some u:=by
 intro j u hu
 rw [List.drop_of_length_le hi] at hu
 simp [flC] at hu
end Go.Proofs.YtiiclgcpagdekaaGreatDoor
