/-
 The drawn regions of the law FnAgg.
-/
import Derived.Test.YthpilcoklapooaaGreatDoorADG
import Derived.Test.YthpilcoklapooaaGreatDoorAJN
namespace Go.Proofs.YthpilcoklapooaaGreatDoor
set_option linter.unusedVariables false
set_option linter.unusedSimpArgs false
open Go.ChangeShapes Go.WideShapes Go.ChangeAt Go.RowKit Go.PlainAid Go.Lib
set_option maxRecDepth 10000
set_option maxHeartbeats 16000000 in
theorem reg6 {K':Act→World→Prop} {Qp:Ending→World→Prop} {w0:World} {ra rx ry:Nat} {g:Ag} {p:Pl} {x y:Sx} {x0 x1 x2 x3 x4 x7 x9 x10 x11 x12 x13 x14 x15 x16 x17 x18 x19 x20 x21 x22 x23 x24 x25 x26 x27 x28 x29 x30 x31 x32 x33 x34 x35 x36 x37 x38 x39 x40 x41 x42 x43 x44 x45 x46 x47 x48 x49 x50 x51 x52 x53 x54 x55 x56 x57 x58 x59 x60 x61 x62 x63 x64 x65 x66 x67 x68 x69 x70 x71 x72 x73 x74 x75 x76 x77 x78 x79 x80 x81 x82 x83 x84 x85 x86 x87 x88 x89 x90 x91 x92 x93 x94 x95 x96 x97 x98 x99 x100 x101 x102 x103 x104 x105 x106 x107 x108 x109 x110 x111 x112 x113 x114 x115 x116 x117 x118 x119 x120 x121 x122 x123 x124 x125 x126 x127 x128:Value}
  (mx:MX w0)
  (La:AL w0 ra g p)
  (Lx:SL w0 rx x)
  (Ly:SL w0 ry y)
  (hQ:∀ (b:Nat) (o1 o:Ag) (q:Pl) (X:World) (y37 y38 y39 y40 y41:Value),AgPut g x o1→AgPut o1 y o→AL X b o q→Below w0.heap.size w0 X→K' { tmps:=#[x0,x1,x2,x3,x4,.pointer (some ⟨ra,0,none⟩),.pointer (some ⟨rx,0,none⟩),x7,.pointer (some ⟨ry,0,none⟩),x9,x10,.pointer (some ⟨b,0,none⟩),x12,x13,x14,x15,x16,x17,x18,x19,x20,x21,x22,x23,x24,x25,x26,x27,x28,x29,x30,x31,x32,x33,x34,x35,x36,y37,y38,y39,y40,y41,x42,x43,x44,x45,x46,x47,x48,x49,x50,x51,x52,x53,x54,x55,x56,x57,x58,x59,x60,x61,x62,x63,x64,x65,x66,x67,x68,x69,x70,x71,x72,x73,x74,x75,x76,x77,x78,x79,x80,x81,x82,x83,x84,x85,x86,x87,x88,x89,x90,x91,x92,x93,x94,x95,x96,x97,x98,x99,x100,x101,x102,x103,x104,x105,x106,x107,x108,x109,x110,x111,x112,x113,x114,x115,x116,x117,x118,x119,x120,x121,x122,x123,x124,x125,x126,x127,x128],defers:=[] } X) :
  Code.wp Tryz.prog (Code.region 6 #[{ dst:=some 37,op:=Op.load 34 (Operand.tmp 5),type:=34,pos := "laws.go:332",after:=#[],guard:=none },{ dst:=some 38,op:=Op.load 36 (Operand.tmp 6),type:=36,pos := "laws.go:332",after:=#[],guard:=none },{ dst:=some 39,op:=Op.call { callee:=Callee.value (Operand.func 11),args:=#[Operand.tmp 37,Operand.tmp 38],argTypes:=#[34,36] },type:=34,pos := "laws.go:332",after:=#[{ on:=0,ground:=Ground.data },{ on:=1,ground:=Ground.data }],guard:=none },{ dst:=some 40,op:=Op.load 36 (Operand.tmp 8),type:=36,pos := "laws.go:332",after:=#[],guard:=none },{ dst:=some 41,op:=Op.call { callee:=Callee.value (Operand.func 11),args:=#[Operand.tmp 39,Operand.tmp 40],argTypes:=#[34,36] },type:=34,pos := "laws.go:332",after:=#[{ on:=2,ground:=Ground.data },{ on:=3,ground:=Ground.data },{ on:=2,ground:=Ground.chain }],guard:=none },{ dst:=some 11,op:=Op.alloc 34,type:=0,pos := "laws.go:332",after:=#[],guard:=none },{ dst:=none,op:=Op.store 34 (Operand.tmp 11) (Operand.tmp 41),type:=0,pos := "laws.go:332",after:=#[{ on:=5,ground:=Ground.data },{ on:=4,ground:=Ground.data },{ on:=4,ground:=Ground.chain },{ on:=0,ground:=Ground.phase },{ on:=1,ground:=Ground.phase },{ on:=2,ground:=Ground.phase },{ on:=3,ground:=Ground.phase },{ on:=4,ground:=Ground.phase },{ on:=5,ground:=Ground.phase }],guard:=none }] true) (Exit.then K' (bodyPost Tryz.prog Tryz.f3 Qp)) { tmps:=#[x0,x1,x2,x3,x4,.pointer (some ⟨ra,0,none⟩),.pointer (some ⟨rx,0,none⟩),x7,.pointer (some ⟨ry,0,none⟩),x9,x10,x11,x12,x13,x14,x15,x16,x17,x18,x19,x20,x21,x22,x23,x24,x25,x26,x27,x28,x29,x30,x31,x32,x33,x34,x35,x36,x37,x38,x39,x40,x41,x42,x43,x44,x45,x46,x47,x48,x49,x50,x51,x52,x53,x54,x55,x56,x57,x58,x59,x60,x61,x62,x63,x64,x65,x66,x67,x68,x69,x70,x71,x72,x73,x74,x75,x76,x77,x78,x79,x80,x81,x82,x83,x84,x85,x86,x87,x88,x89,x90,x91,x92,x93,x94,x95,x96,x97,x98,x99,x100,x101,x102,x103,x104,x105,x106,x107,x108,x109,x110,x111,x112,x113,x114,x115,x116,x117,x118,x119,x120,x121,x122,x123,x124,x125,x126,x127,x128],defers:=[] } w0:=by
 have Hmx:=hide mx
 have HLa:=hide La
 have HLx:=hide Lx
 have HLy:=hide Ly
 have HQ:=hide hQ
 clear hQ mx La Lx Ly
 have HS0:(fun Y=>Below w0.heap.size w0 Y) w0.drew:=(Below.refl _ _).drew
 refine regionK (fun Y=>Below w0.heap.size w0 Y) 6 (by kernel_rfl) ?_
 refine takeK (i:=0) (d:=37) (v:=.agg (agArr g p)) rfl rfl (by kernel_rfl) (by kernel_rfl) (by kernel_rfl) (by decide) (by kernel_rfl) (fun _ _ _ h=>h) (Or.inl ⟨by rfl,fun W hW=>ldA rfl (HLa.out.past hW).row⟩) HS0 ?_
 refine takeK (i:=1) (d:=38) (v:=.agg (sxArr x)) rfl rfl (by kernel_rfl) (by kernel_rfl) (by kernel_rfl) (by decide) (by kernel_rfl) (fun _ _ _ h=>h) (Or.inl ⟨by rfl,fun W hW=>ldX rfl (HLx.out.past hW).row⟩) HS0 ?_
 refine takeK (i:=3) (d:=40) (v:=.agg (sxArr y)) rfl rfl (by kernel_rfl) (by kernel_rfl) (by kernel_rfl) (by decide) (by kernel_rfl) (fun _ _ _ h=>h) (Or.inl ⟨by rfl,fun W hW=>ldX rfl (HLy.out.past hW).row⟩) HS0 ?_
 simp only [sA,sB,sC]
 refine twoK (i:=2) (j:=5) (by kernel_rfl) rfl rfl (fun K hK=>?_) (fun K hK=>?_)
 ·go_simp
  refine (c_putI (HLa.out.i.past HS0) HLx.out.ok (Hmx.out.past HS0)).mono ?_
  rintro e W2 ⟨o2,q2,rfl,hp,ho,ok,sm,hb⟩
  have HBW2:Hid (Below w0.heap.size w0 W2):=(HS0:Below w0.heap.size w0 _).trans (hb.mono (HS0:Below w0.heap.size w0 _).size)
  have HP2:=hide hp
  have HI2:=hide (AI.of ok sm ho)
  clear hp ho ok sm hb
  try dsimp only
  refine hK.out _ _ (fun _=>HBW2.out) ?_
  clear hK K
  try simp only [Act.put,sA,sB,sC]
  refine twoK (i:=4) (j:=5) (by kernel_rfl) rfl rfl (fun K hK=>?_) (fun K hK=>?_)
  ·go_simp
   refine (c_putI HI2.out HLy.out.ok (Hmx.out.past HBW2.out)).mono ?_
   rintro e W4 ⟨o4,q4,rfl,hp,ho,ok,sm,hb⟩
   have HBW4:Hid (Below w0.heap.size w0 W4):=(HBW2.out:Below w0.heap.size w0 _).trans (hb.mono (HBW2.out:Below w0.heap.size w0 _).size)
   have HP4:=hide hp
   have HO:=hide ho
   have OKo:=hide ok
   have SMo:=hide sm
   clear hp ho ok sm hb
   try dsimp only
   refine hK.out _ _ (fun _=>HBW4.out) ?_
   clear hK K
   try simp only [Act.put,sA,sB,sC]
   refine onE (i:=5) rfl (fun K hK=>?_)
   go_simp
   have a3:Below W4.heap.size W4 (W4.alloc (.cells z13 34)):=(Below.refl _ _).alloc (Nat.le_refl _) _
   have HBa:Hid (Below w0.heap.size w0 (W4.alloc (.cells z13 34))):=(HBW4.out:Below w0.heap.size w0 _).trans (a3.mono (HBW4.out:Below w0.heap.size w0 _).size)
   have HRa:Hid ((W4.alloc (.cells z13 34)).heap[W4.heap.size]?=some (.cells z13 34 (0,0))):=(heap_alloc_new W4 (.cells z13 34):_)
   have hra:w0.heap.size≤W4.heap.size:=(HBW4.out:Below w0.heap.size w0 _).size
   have hrb:W4.heap.size<(W4.alloc (.cells z13 34)).heap.size:=by simp
   clear a3
   try dsimp only
   refine hK.out _ _ (fun _=>HBa.out) ?_
   clear hK K
   try simp only [Act.put,sA,sB,sC]
   have R5:=HRa.out
   have c0:=cellK R5 0 rfl
   have f0:=fzR 0 R5
   have c1:=cellK R5 1 rfl
   have f1:=fzR 1 R5
   have c2:=cellK R5 2 rfl
   have f2:=fzR 2 R5
   have c3:=cellK R5 3 rfl
   have f3:=fzR 3 R5
   have c4:=cellK R5 4 rfl
   have f4:=fzR 4 R5
   have c5:=cellK R5 5 rfl
   have f5:=fzR 5 R5
   have c6:=cellK R5 6 rfl
   have f6:=fzR 6 R5
   have c7:=cellK R5 7 rfl
   have f7:=fzR 7 R5
   have c8:=cellK R5 8 rfl
   have f8:=fzR 8 R5
   have c9:=cellK R5 9 rfl
   have f9:=fzR 9 R5
   have c10:=cellK R5 10 rfl
   have f10:=fzR 10 R5
   have c11:=cellK R5 11 rfl
   have f11:=fzR 11 R5
   have c12:=cellK R5 12 rfl
   have f12:=fzR 12 R5
   refine onE (i:=6) rfl (fun K hK=>?_)
   go_simp
   refine hK.out _ _ (fun h=>absurd rfl h) ?_
   clear hK K
   try simp only [Act.put,sA,sB,sC]
   refine doneK (by kernel_rfl) ?_ _
   clear c0 f0 c1 f1 c2 f2 c3 f3 c4 f4 c5 f5 c6 f6 c7 f7 c8 f8 c9 f9 c10 f10 c11 f11 c12 f12
   clear R5
   go_wp2
   exact HQ.out W4.heap.size o2 o4 q4 _ _ _ _ _ _ HP2.out HP4.out (AL.made (AI.of OKo.out SMo.out HO.out)) (Below.alloc HBW4.out HBW4.out.size _)
  ·go_simp
   have a3:Below W2.heap.size W2 (W2.alloc (.cells z13 34)):=(Below.refl _ _).alloc (Nat.le_refl _) _
   have HBa:Hid (Below w0.heap.size w0 (W2.alloc (.cells z13 34))):=(HBW2.out:Below w0.heap.size w0 _).trans (a3.mono (HBW2.out:Below w0.heap.size w0 _).size)
   have HRa:Hid ((W2.alloc (.cells z13 34)).heap[W2.heap.size]?=some (.cells z13 34 (0,0))):=(heap_alloc_new W2 (.cells z13 34):_)
   have hra:w0.heap.size≤W2.heap.size:=(HBW2.out:Below w0.heap.size w0 _).size
   have hrb:W2.heap.size<(W2.alloc (.cells z13 34)).heap.size:=by simp
   have HIa:=hide (HI2.out.past a3)
   clear a3
   try dsimp only
   refine hK.out _ _ (fun _=>HBa.out) ?_
   clear hK K
   try simp only [Act.put,sA,sB,sC]
   refine onE (i:=4) rfl (fun K hK=>?_)
   go_simp
   refine (c_putI HIa.out HLy.out.ok (Hmx.out.past HBa.out)).mono ?_
   rintro e W4 ⟨o4,q4,rfl,hp,ho,ok,sm,hb⟩
   have HBW4:Hid (Below w0.heap.size w0 W4):=(HBa.out:Below w0.heap.size w0 _).trans (hb.mono (HBa.out:Below w0.heap.size w0 _).size)
   have HP4:=hide hp
   have HO:=hide ho
   have OKo:=hide ok
   have SMo:=hide sm
   have HRW4:Hid (W4.heap[W2.heap.size]?=some (.cells z13 34 (0,0))):=(hb.block _ (Array.getElem?_eq_some_iff.1 HRa.out).1).trans HRa.out
   have hrc:=(Array.getElem?_eq_some_iff.1 HRa.out).1
   clear hp ho ok sm hb
   try dsimp only
   refine hK.out _ _ (fun _=>HBW4.out) ?_
   clear hK K
   try simp only [Act.put,sA,sB,sC]
   have R5:=HRW4.out
   have c0:=cellK R5 0 rfl
   have f0:=fzR 0 R5
   have c1:=cellK R5 1 rfl
   have f1:=fzR 1 R5
   have c2:=cellK R5 2 rfl
   have f2:=fzR 2 R5
   have c3:=cellK R5 3 rfl
   have f3:=fzR 3 R5
   have c4:=cellK R5 4 rfl
   have f4:=fzR 4 R5
   have c5:=cellK R5 5 rfl
   have f5:=fzR 5 R5
   have c6:=cellK R5 6 rfl
   have f6:=fzR 6 R5
   have c7:=cellK R5 7 rfl
   have f7:=fzR 7 R5
   have c8:=cellK R5 8 rfl
   have f8:=fzR 8 R5
   have c9:=cellK R5 9 rfl
   have f9:=fzR 9 R5
   have c10:=cellK R5 10 rfl
   have f10:=fzR 10 R5
   have c11:=cellK R5 11 rfl
   have f11:=fzR 11 R5
   have c12:=cellK R5 12 rfl
   have f12:=fzR 12 R5
   refine onE (i:=6) rfl (fun K hK=>?_)
   go_simp
   refine hK.out _ _ (fun h=>absurd rfl h) ?_
   clear hK K
   try simp only [Act.put,sA,sB,sC]
   refine doneK (by kernel_rfl) ?_ _
   clear c0 f0 c1 f1 c2 f2 c3 f3 c4 f4 c5 f5 c6 f6 c7 f7 c8 f8 c9 f9 c10 f10 c11 f11 c12 f12
   have HS13:=hide (AL.put13 R5 OKo.out SMo.out HO.out hrc)
   have HB13:=hide (st13_below (o:=o4) (q:=q4) HBW4.out hra)
   clear R5
   go_wp2
   exact HQ.out (W2.heap.size) o2 o4 q4 _ _ _ _ _ _ HP2.out HP4.out HS13.out HB13.out
 ·go_simp
  have a3:Below w0.drew.heap.size w0.drew (w0.drew.alloc (.cells z13 34)):=(Below.refl _ _).alloc (Nat.le_refl _) _
  have HBa:Hid (Below w0.heap.size w0 (w0.drew.alloc (.cells z13 34))):=(HS0:Below w0.heap.size w0 _).trans (a3.mono (HS0:Below w0.heap.size w0 _).size)
  have HRa:Hid ((w0.drew.alloc (.cells z13 34)).heap[w0.heap.size]?=some (.cells z13 34 (0,0))):=(heap_alloc_new w0.drew (.cells z13 34):_)
  have hra:w0.heap.size≤w0.heap.size:=(HS0:Below w0.heap.size w0 _).size
  have hrb:w0.heap.size<(w0.drew.alloc (.cells z13 34)).heap.size:=by simp
  clear a3
  try dsimp only
  refine hK.out _ _ (fun _=>HBa.out) ?_
  clear hK K
  try simp only [Act.put,sA,sB,sC]
  refine onE (i:=2) rfl (fun K hK=>?_)
  go_simp
  refine (c_putI (HLa.out.i.past HBa.out) HLx.out.ok (Hmx.out.past HBa.out)).mono ?_
  rintro e W2 ⟨o2,q2,rfl,hp,ho,ok,sm,hb⟩
  have HBW2:Hid (Below w0.heap.size w0 W2):=(HBa.out:Below w0.heap.size w0 _).trans (hb.mono (HBa.out:Below w0.heap.size w0 _).size)
  have HP2:=hide hp
  have HI2:=hide (AI.of ok sm ho)
  have HRW2:Hid (W2.heap[w0.heap.size]?=some (.cells z13 34 (0,0))):=(hb.block _ (Array.getElem?_eq_some_iff.1 HRa.out).1).trans HRa.out
  have hrc:=(Array.getElem?_eq_some_iff.1 HRa.out).1
  clear hp ho ok sm hb
  try dsimp only
  refine hK.out _ _ (fun _=>HBW2.out) ?_
  clear hK K
  try simp only [Act.put,sA,sB,sC]
  refine onE (i:=4) rfl (fun K hK=>?_)
  go_simp
  refine (c_putI HI2.out HLy.out.ok (Hmx.out.past HBW2.out)).mono ?_
  rintro e W4 ⟨o4,q4,rfl,hp,ho,ok,sm,hb⟩
  have HBW4:Hid (Below w0.heap.size w0 W4):=(HBW2.out:Below w0.heap.size w0 _).trans (hb.mono (HBW2.out:Below w0.heap.size w0 _).size)
  have HP4:=hide hp
  have HO:=hide ho
  have OKo:=hide ok
  have SMo:=hide sm
  have HRW4:Hid (W4.heap[w0.heap.size]?=some (.cells z13 34 (0,0))):=(hb.block _ (Array.getElem?_eq_some_iff.1 HRW2.out).1).trans HRW2.out
  have hrc:=(Array.getElem?_eq_some_iff.1 HRW2.out).1
  clear hp ho ok sm hb
  try dsimp only
  refine hK.out _ _ (fun _=>HBW4.out) ?_
  clear hK K
  try simp only [Act.put,sA,sB,sC]
  have R5:=HRW4.out
  have c0:=cellK R5 0 rfl
  have f0:=fzR 0 R5
  have c1:=cellK R5 1 rfl
  have f1:=fzR 1 R5
  have c2:=cellK R5 2 rfl
  have f2:=fzR 2 R5
  have c3:=cellK R5 3 rfl
  have f3:=fzR 3 R5
  have c4:=cellK R5 4 rfl
  have f4:=fzR 4 R5
  have c5:=cellK R5 5 rfl
  have f5:=fzR 5 R5
  have c6:=cellK R5 6 rfl
  have f6:=fzR 6 R5
  have c7:=cellK R5 7 rfl
  have f7:=fzR 7 R5
  have c8:=cellK R5 8 rfl
  have f8:=fzR 8 R5
  have c9:=cellK R5 9 rfl
  have f9:=fzR 9 R5
  have c10:=cellK R5 10 rfl
  have f10:=fzR 10 R5
  have c11:=cellK R5 11 rfl
  have f11:=fzR 11 R5
  have c12:=cellK R5 12 rfl
  have f12:=fzR 12 R5
  refine onE (i:=6) rfl (fun K hK=>?_)
  go_simp
  refine hK.out _ _ (fun h=>absurd rfl h) ?_
  clear hK K
  try simp only [Act.put,sA,sB,sC]
  refine doneK (by kernel_rfl) ?_ _
  clear c0 f0 c1 f1 c2 f2 c3 f3 c4 f4 c5 f5 c6 f6 c7 f7 c8 f8 c9 f9 c10 f10 c11 f11 c12 f12
  have HS13:=hide (AL.put13 R5 OKo.out SMo.out HO.out hrc)
  have HB13:=hide (st13_below (o:=o4) (q:=q4) HBW4.out hra)
  clear R5
  go_wp2
  exact HQ.out (w0.heap.size) o2 o4 q4 _ _ _ _ _ _ HP2.out HP4.out HS13.out HB13.out
set_option maxHeartbeats 16000000 in
theorem reg7 {K':Act→World→Prop} {Qp:Ending→World→Prop} {w0:World} {ra rx ry:Nat} {g:Ag} {p:Pl} {x y:Sx} {x0 x1 x2 x3 x4 x7 x9 x10 x11 x12 x13 x14 x15 x16 x17 x18 x19 x20 x21 x22 x23 x24 x25 x26 x27 x28 x29 x30 x31 x32 x33 x34 x35 x36 x37 x38 x39 x40 x41 x42 x43 x44 x45 x46 x47 x48 x49 x50 x51 x52 x53 x54 x55 x56 x57 x58 x59 x60 x61 x62 x63 x64 x65 x66 x67 x68 x69 x70 x71 x72 x73 x74 x75 x76 x77 x78 x79 x80 x81 x82 x83 x84 x85 x86 x87 x88 x89 x90 x91 x92 x93 x94 x95 x96 x97 x98 x99 x100 x101 x102 x103 x104 x105 x106 x107 x108 x109 x110 x111 x112 x113 x114 x115 x116 x117 x118 x119 x120 x121 x122 x123 x124 x125 x126 x127 x128:Value}
  (mx:MX w0)
  (La:AL w0 ra g p)
  (Lx:SL w0 rx x)
  (Ly:SL w0 ry y)
  (hQ:∀ (b:Nat) (o1 o:Ag) (q:Pl) (X:World) (y42 y43 y44 y45 y46:Value),AgPut g y o1→AgPut o1 x o→AL X b o q→Below w0.heap.size w0 X→K' { tmps:=#[x0,x1,x2,x3,x4,.pointer (some ⟨ra,0,none⟩),.pointer (some ⟨rx,0,none⟩),x7,.pointer (some ⟨ry,0,none⟩),x9,x10,x11,.pointer (some ⟨b,0,none⟩),x13,x14,x15,x16,x17,x18,x19,x20,x21,x22,x23,x24,x25,x26,x27,x28,x29,x30,x31,x32,x33,x34,x35,x36,x37,x38,x39,x40,x41,y42,y43,y44,y45,y46,x47,x48,x49,x50,x51,x52,x53,x54,x55,x56,x57,x58,x59,x60,x61,x62,x63,x64,x65,x66,x67,x68,x69,x70,x71,x72,x73,x74,x75,x76,x77,x78,x79,x80,x81,x82,x83,x84,x85,x86,x87,x88,x89,x90,x91,x92,x93,x94,x95,x96,x97,x98,x99,x100,x101,x102,x103,x104,x105,x106,x107,x108,x109,x110,x111,x112,x113,x114,x115,x116,x117,x118,x119,x120,x121,x122,x123,x124,x125,x126,x127,x128],defers:=[] } X) :
  Code.wp Tryz.prog (Code.region 7 #[{ dst:=some 42,op:=Op.load 34 (Operand.tmp 5),type:=34,pos := "laws.go:333",after:=#[],guard:=none },{ dst:=some 43,op:=Op.load 36 (Operand.tmp 8),type:=36,pos := "laws.go:333",after:=#[],guard:=none },{ dst:=some 44,op:=Op.call { callee:=Callee.value (Operand.func 11),args:=#[Operand.tmp 42,Operand.tmp 43],argTypes:=#[34,36] },type:=34,pos := "laws.go:333",after:=#[{ on:=0,ground:=Ground.data },{ on:=1,ground:=Ground.data }],guard:=none },{ dst:=some 45,op:=Op.load 36 (Operand.tmp 6),type:=36,pos := "laws.go:333",after:=#[],guard:=none },{ dst:=some 46,op:=Op.call { callee:=Callee.value (Operand.func 11),args:=#[Operand.tmp 44,Operand.tmp 45],argTypes:=#[34,36] },type:=34,pos := "laws.go:333",after:=#[{ on:=2,ground:=Ground.data },{ on:=3,ground:=Ground.data },{ on:=2,ground:=Ground.chain }],guard:=none },{ dst:=some 12,op:=Op.alloc 34,type:=0,pos := "laws.go:333",after:=#[],guard:=none },{ dst:=none,op:=Op.store 34 (Operand.tmp 12) (Operand.tmp 46),type:=0,pos := "laws.go:333",after:=#[{ on:=5,ground:=Ground.data },{ on:=4,ground:=Ground.data },{ on:=4,ground:=Ground.chain },{ on:=0,ground:=Ground.phase },{ on:=1,ground:=Ground.phase },{ on:=2,ground:=Ground.phase },{ on:=3,ground:=Ground.phase },{ on:=4,ground:=Ground.phase },{ on:=5,ground:=Ground.phase }],guard:=none }] true) (Exit.then K' (bodyPost Tryz.prog Tryz.f3 Qp)) { tmps:=#[x0,x1,x2,x3,x4,.pointer (some ⟨ra,0,none⟩),.pointer (some ⟨rx,0,none⟩),x7,.pointer (some ⟨ry,0,none⟩),x9,x10,x11,x12,x13,x14,x15,x16,x17,x18,x19,x20,x21,x22,x23,x24,x25,x26,x27,x28,x29,x30,x31,x32,x33,x34,x35,x36,x37,x38,x39,x40,x41,x42,x43,x44,x45,x46,x47,x48,x49,x50,x51,x52,x53,x54,x55,x56,x57,x58,x59,x60,x61,x62,x63,x64,x65,x66,x67,x68,x69,x70,x71,x72,x73,x74,x75,x76,x77,x78,x79,x80,x81,x82,x83,x84,x85,x86,x87,x88,x89,x90,x91,x92,x93,x94,x95,x96,x97,x98,x99,x100,x101,x102,x103,x104,x105,x106,x107,x108,x109,x110,x111,x112,x113,x114,x115,x116,x117,x118,x119,x120,x121,x122,x123,x124,x125,x126,x127,x128],defers:=[] } w0:=by
 have Hmx:=hide mx
 have HLa:=hide La
 have HLx:=hide Lx
 have HLy:=hide Ly
 have HQ:=hide hQ
 clear hQ mx La Lx Ly
 have HS0:(fun Y=>Below w0.heap.size w0 Y) w0.drew:=(Below.refl _ _).drew
 refine regionK (fun Y=>Below w0.heap.size w0 Y) 6 (by kernel_rfl) ?_
 refine takeK (i:=0) (d:=42) (v:=.agg (agArr g p)) rfl rfl (by kernel_rfl) (by kernel_rfl) (by kernel_rfl) (by decide) (by kernel_rfl) (fun _ _ _ h=>h) (Or.inl ⟨by rfl,fun W hW=>ldA rfl (HLa.out.past hW).row⟩) HS0 ?_
 refine takeK (i:=1) (d:=43) (v:=.agg (sxArr y)) rfl rfl (by kernel_rfl) (by kernel_rfl) (by kernel_rfl) (by decide) (by kernel_rfl) (fun _ _ _ h=>h) (Or.inl ⟨by rfl,fun W hW=>ldX rfl (HLy.out.past hW).row⟩) HS0 ?_
 refine takeK (i:=3) (d:=45) (v:=.agg (sxArr x)) rfl rfl (by kernel_rfl) (by kernel_rfl) (by kernel_rfl) (by decide) (by kernel_rfl) (fun _ _ _ h=>h) (Or.inl ⟨by rfl,fun W hW=>ldX rfl (HLx.out.past hW).row⟩) HS0 ?_
 simp only [sA,sB,sC]
 refine twoK (i:=2) (j:=5) (by kernel_rfl) rfl rfl (fun K hK=>?_) (fun K hK=>?_)
 ·go_simp
  refine (c_putI (HLa.out.i.past HS0) HLy.out.ok (Hmx.out.past HS0)).mono ?_
  rintro e W2 ⟨o2,q2,rfl,hp,ho,ok,sm,hb⟩
  have HBW2:Hid (Below w0.heap.size w0 W2):=(HS0:Below w0.heap.size w0 _).trans (hb.mono (HS0:Below w0.heap.size w0 _).size)
  have HP2:=hide hp
  have HI2:=hide (AI.of ok sm ho)
  clear hp ho ok sm hb
  try dsimp only
  refine hK.out _ _ (fun _=>HBW2.out) ?_
  clear hK K
  try simp only [Act.put,sA,sB,sC]
  refine twoK (i:=4) (j:=5) (by kernel_rfl) rfl rfl (fun K hK=>?_) (fun K hK=>?_)
  ·go_simp
   refine (c_putI HI2.out HLx.out.ok (Hmx.out.past HBW2.out)).mono ?_
   rintro e W4 ⟨o4,q4,rfl,hp,ho,ok,sm,hb⟩
   have HBW4:Hid (Below w0.heap.size w0 W4):=(HBW2.out:Below w0.heap.size w0 _).trans (hb.mono (HBW2.out:Below w0.heap.size w0 _).size)
   have HP4:=hide hp
   have HO:=hide ho
   have OKo:=hide ok
   have SMo:=hide sm
   clear hp ho ok sm hb
   try dsimp only
   refine hK.out _ _ (fun _=>HBW4.out) ?_
   clear hK K
   try simp only [Act.put,sA,sB,sC]
   refine onE (i:=5) rfl (fun K hK=>?_)
   go_simp
   have a3:Below W4.heap.size W4 (W4.alloc (.cells z13 34)):=(Below.refl _ _).alloc (Nat.le_refl _) _
   have HBa:Hid (Below w0.heap.size w0 (W4.alloc (.cells z13 34))):=(HBW4.out:Below w0.heap.size w0 _).trans (a3.mono (HBW4.out:Below w0.heap.size w0 _).size)
   have HRa:Hid ((W4.alloc (.cells z13 34)).heap[W4.heap.size]?=some (.cells z13 34 (0,0))):=(heap_alloc_new W4 (.cells z13 34):_)
   have hra:w0.heap.size≤W4.heap.size:=(HBW4.out:Below w0.heap.size w0 _).size
   have hrb:W4.heap.size<(W4.alloc (.cells z13 34)).heap.size:=by simp
   clear a3
   try dsimp only
   refine hK.out _ _ (fun _=>HBa.out) ?_
   clear hK K
   try simp only [Act.put,sA,sB,sC]
   have R5:=HRa.out
   have c0:=cellK R5 0 rfl
   have f0:=fzR 0 R5
   have c1:=cellK R5 1 rfl
   have f1:=fzR 1 R5
   have c2:=cellK R5 2 rfl
   have f2:=fzR 2 R5
   have c3:=cellK R5 3 rfl
   have f3:=fzR 3 R5
   have c4:=cellK R5 4 rfl
   have f4:=fzR 4 R5
   have c5:=cellK R5 5 rfl
   have f5:=fzR 5 R5
   have c6:=cellK R5 6 rfl
   have f6:=fzR 6 R5
   have c7:=cellK R5 7 rfl
   have f7:=fzR 7 R5
   have c8:=cellK R5 8 rfl
   have f8:=fzR 8 R5
   have c9:=cellK R5 9 rfl
   have f9:=fzR 9 R5
   have c10:=cellK R5 10 rfl
   have f10:=fzR 10 R5
   have c11:=cellK R5 11 rfl
   have f11:=fzR 11 R5
   have c12:=cellK R5 12 rfl
   have f12:=fzR 12 R5
   refine onE (i:=6) rfl (fun K hK=>?_)
   go_simp
   refine hK.out _ _ (fun h=>absurd rfl h) ?_
   clear hK K
   try simp only [Act.put,sA,sB,sC]
   refine doneK (by kernel_rfl) ?_ _
   clear c0 f0 c1 f1 c2 f2 c3 f3 c4 f4 c5 f5 c6 f6 c7 f7 c8 f8 c9 f9 c10 f10 c11 f11 c12 f12
   clear R5
   go_wp2
   exact HQ.out W4.heap.size o2 o4 q4 _ _ _ _ _ _ HP2.out HP4.out (AL.made (AI.of OKo.out SMo.out HO.out)) (Below.alloc HBW4.out HBW4.out.size _)
  ·go_simp
   have a3:Below W2.heap.size W2 (W2.alloc (.cells z13 34)):=(Below.refl _ _).alloc (Nat.le_refl _) _
   have HBa:Hid (Below w0.heap.size w0 (W2.alloc (.cells z13 34))):=(HBW2.out:Below w0.heap.size w0 _).trans (a3.mono (HBW2.out:Below w0.heap.size w0 _).size)
   have HRa:Hid ((W2.alloc (.cells z13 34)).heap[W2.heap.size]?=some (.cells z13 34 (0,0))):=(heap_alloc_new W2 (.cells z13 34):_)
   have hra:w0.heap.size≤W2.heap.size:=(HBW2.out:Below w0.heap.size w0 _).size
   have hrb:W2.heap.size<(W2.alloc (.cells z13 34)).heap.size:=by simp
   have HIa:=hide (HI2.out.past a3)
   clear a3
   try dsimp only
   refine hK.out _ _ (fun _=>HBa.out) ?_
   clear hK K
   try simp only [Act.put,sA,sB,sC]
   refine onE (i:=4) rfl (fun K hK=>?_)
   go_simp
   refine (c_putI HIa.out HLx.out.ok (Hmx.out.past HBa.out)).mono ?_
   rintro e W4 ⟨o4,q4,rfl,hp,ho,ok,sm,hb⟩
   have HBW4:Hid (Below w0.heap.size w0 W4):=(HBa.out:Below w0.heap.size w0 _).trans (hb.mono (HBa.out:Below w0.heap.size w0 _).size)
   have HP4:=hide hp
   have HO:=hide ho
   have OKo:=hide ok
   have SMo:=hide sm
   have HRW4:Hid (W4.heap[W2.heap.size]?=some (.cells z13 34 (0,0))):=(hb.block _ (Array.getElem?_eq_some_iff.1 HRa.out).1).trans HRa.out
   have hrc:=(Array.getElem?_eq_some_iff.1 HRa.out).1
   clear hp ho ok sm hb
   try dsimp only
   refine hK.out _ _ (fun _=>HBW4.out) ?_
   clear hK K
   try simp only [Act.put,sA,sB,sC]
   have R5:=HRW4.out
   have c0:=cellK R5 0 rfl
   have f0:=fzR 0 R5
   have c1:=cellK R5 1 rfl
   have f1:=fzR 1 R5
   have c2:=cellK R5 2 rfl
   have f2:=fzR 2 R5
   have c3:=cellK R5 3 rfl
   have f3:=fzR 3 R5
   have c4:=cellK R5 4 rfl
   have f4:=fzR 4 R5
   have c5:=cellK R5 5 rfl
   have f5:=fzR 5 R5
   have c6:=cellK R5 6 rfl
   have f6:=fzR 6 R5
   have c7:=cellK R5 7 rfl
   have f7:=fzR 7 R5
   have c8:=cellK R5 8 rfl
   have f8:=fzR 8 R5
   have c9:=cellK R5 9 rfl
   have f9:=fzR 9 R5
   have c10:=cellK R5 10 rfl
   have f10:=fzR 10 R5
   have c11:=cellK R5 11 rfl
   have f11:=fzR 11 R5
   have c12:=cellK R5 12 rfl
   have f12:=fzR 12 R5
   refine onE (i:=6) rfl (fun K hK=>?_)
   go_simp
   refine hK.out _ _ (fun h=>absurd rfl h) ?_
   clear hK K
   try simp only [Act.put,sA,sB,sC]
   refine doneK (by kernel_rfl) ?_ _
   clear c0 f0 c1 f1 c2 f2 c3 f3 c4 f4 c5 f5 c6 f6 c7 f7 c8 f8 c9 f9 c10 f10 c11 f11 c12 f12
   have HS13:=hide (AL.put13 R5 OKo.out SMo.out HO.out hrc)
   have HB13:=hide (st13_below (o:=o4) (q:=q4) HBW4.out hra)
   clear R5
   go_wp2
   exact HQ.out (W2.heap.size) o2 o4 q4 _ _ _ _ _ _ HP2.out HP4.out HS13.out HB13.out
 ·go_simp
  have a3:Below w0.drew.heap.size w0.drew (w0.drew.alloc (.cells z13 34)):=(Below.refl _ _).alloc (Nat.le_refl _) _
  have HBa:Hid (Below w0.heap.size w0 (w0.drew.alloc (.cells z13 34))):=(HS0:Below w0.heap.size w0 _).trans (a3.mono (HS0:Below w0.heap.size w0 _).size)
  have HRa:Hid ((w0.drew.alloc (.cells z13 34)).heap[w0.heap.size]?=some (.cells z13 34 (0,0))):=(heap_alloc_new w0.drew (.cells z13 34):_)
  have hra:w0.heap.size≤w0.heap.size:=(HS0:Below w0.heap.size w0 _).size
  have hrb:w0.heap.size<(w0.drew.alloc (.cells z13 34)).heap.size:=by simp
  clear a3
  try dsimp only
  refine hK.out _ _ (fun _=>HBa.out) ?_
  clear hK K
  try simp only [Act.put,sA,sB,sC]
  refine onE (i:=2) rfl (fun K hK=>?_)
  go_simp
  refine (c_putI (HLa.out.i.past HBa.out) HLy.out.ok (Hmx.out.past HBa.out)).mono ?_
  rintro e W2 ⟨o2,q2,rfl,hp,ho,ok,sm,hb⟩
  have HBW2:Hid (Below w0.heap.size w0 W2):=(HBa.out:Below w0.heap.size w0 _).trans (hb.mono (HBa.out:Below w0.heap.size w0 _).size)
  have HP2:=hide hp
  have HI2:=hide (AI.of ok sm ho)
  have HRW2:Hid (W2.heap[w0.heap.size]?=some (.cells z13 34 (0,0))):=(hb.block _ (Array.getElem?_eq_some_iff.1 HRa.out).1).trans HRa.out
  have hrc:=(Array.getElem?_eq_some_iff.1 HRa.out).1
  clear hp ho ok sm hb
  try dsimp only
  refine hK.out _ _ (fun _=>HBW2.out) ?_
  clear hK K
  try simp only [Act.put,sA,sB,sC]
  refine onE (i:=4) rfl (fun K hK=>?_)
  go_simp
  refine (c_putI HI2.out HLx.out.ok (Hmx.out.past HBW2.out)).mono ?_
  rintro e W4 ⟨o4,q4,rfl,hp,ho,ok,sm,hb⟩
  have HBW4:Hid (Below w0.heap.size w0 W4):=(HBW2.out:Below w0.heap.size w0 _).trans (hb.mono (HBW2.out:Below w0.heap.size w0 _).size)
  have HP4:=hide hp
  have HO:=hide ho
  have OKo:=hide ok
  have SMo:=hide sm
  have HRW4:Hid (W4.heap[w0.heap.size]?=some (.cells z13 34 (0,0))):=(hb.block _ (Array.getElem?_eq_some_iff.1 HRW2.out).1).trans HRW2.out
  have hrc:=(Array.getElem?_eq_some_iff.1 HRW2.out).1
  clear hp ho ok sm hb
  try dsimp only
  refine hK.out _ _ (fun _=>HBW4.out) ?_
  clear hK K
  try simp only [Act.put,sA,sB,sC]
  have R5:=HRW4.out
  have c0:=cellK R5 0 rfl
  have f0:=fzR 0 R5
  have c1:=cellK R5 1 rfl
  have f1:=fzR 1 R5
  have c2:=cellK R5 2 rfl
  have f2:=fzR 2 R5
  have c3:=cellK R5 3 rfl
  have f3:=fzR 3 R5
  have c4:=cellK R5 4 rfl
  have f4:=fzR 4 R5
  have c5:=cellK R5 5 rfl
  have f5:=fzR 5 R5
  have c6:=cellK R5 6 rfl
  have f6:=fzR 6 R5
  have c7:=cellK R5 7 rfl
  have f7:=fzR 7 R5
  have c8:=cellK R5 8 rfl
  have f8:=fzR 8 R5
  have c9:=cellK R5 9 rfl
  have f9:=fzR 9 R5
  have c10:=cellK R5 10 rfl
  have f10:=fzR 10 R5
  have c11:=cellK R5 11 rfl
  have f11:=fzR 11 R5
  have c12:=cellK R5 12 rfl
  have f12:=fzR 12 R5
  refine onE (i:=6) rfl (fun K hK=>?_)
  go_simp
  refine hK.out _ _ (fun h=>absurd rfl h) ?_
  clear hK K
  try simp only [Act.put,sA,sB,sC]
  refine doneK (by kernel_rfl) ?_ _
  clear c0 f0 c1 f1 c2 f2 c3 f3 c4 f4 c5 f5 c6 f6 c7 f7 c8 f8 c9 f9 c10 f10 c11 f11 c12 f12
  have HS13:=hide (AL.put13 R5 OKo.out SMo.out HO.out hrc)
  have HB13:=hide (st13_below (o:=o4) (q:=q4) HBW4.out hra)
  clear R5
  go_wp2
  exact HQ.out (w0.heap.size) o2 o4 q4 _ _ _ _ _ _ HP2.out HP4.out HS13.out HB13.out
set_option maxHeartbeats 16000000 in
theorem reg8 {K':Act→World→Prop} {K2:Act→World→Prop} {Qp:Ending→World→Prop} {w0:World} {ra rx ry rb ro rp rq rm:Nat} {g g1 g2 gp gm:Ag} {p p1 p2 pp pq pm:Pl} {x y:Sx} {x0 x1 x2 x3 x4 x7 x8 x9 x10 x13 x14 x15 x16 x17 x18 x19 x20 x21 x22 x23 x24 x25 x26 x27 x28 x29 x30 x31 x32 x33 x34 x35 x36 x37 x38 x39 x40 x41 x42 x43 x44 x45 x46 x47 x48 x49 x50 x51 x52 x53 x54 x55 x56 x57 x58 x59 x60 x61 x62 x63 x64 x65 x66 x67 x68 x69 x70 x71 x72 x73 x74 x75 x76 x77 x78 x79 x80 x81 x82 x83 x84 x85 x86 x87 x88 x89 x90 x91 x92 x93 x94 x95 x96 x97 x98 x99 x100 x101 x102 x103 x104 x105 x106 x107 x108 x109 x110 x111 x112 x113 x114 x115 x116 x117 x118 x119 x120 x121 x122 x123 x124 x125 x126 x127 x128:Value}
  (mx:MX w0)
  (La:AL w0 ra g p)
  (Lx:SL w0 rx x)
  (Lp:AL w0 rp gp pp)
  (Lq:AL w0 rq gp pq)
  (hQ:∀ (X:World) (y47 y48 y49 y50 y51 y52 y53 y54 y55 y56 y57 y58 y59 y60 y61 y62 y63 y64 y65:Value),Below w0.heap.size w0 X→K' { tmps:=#[x0,x1,x2,x3,x4,.pointer (some ⟨ra,0,none⟩),.pointer (some ⟨rx,0,none⟩),x7,x8,x9,x10,.pointer (some ⟨rp,0,none⟩),.pointer (some ⟨rq,0,none⟩),x13,x14,x15,x16,x17,x18,x19,x20,x21,x22,x23,x24,x25,x26,x27,x28,x29,x30,x31,x32,x33,x34,x35,x36,x37,x38,x39,x40,x41,x42,x43,x44,x45,x46,y47,y48,y49,y50,y51,y52,y53,y54,y55,y56,y57,y58,y59,y60,y61,y62,y63,y64,y65,.bool false,x67,x68,x69,x70,x71,x72,x73,x74,x75,x76,x77,x78,x79,x80,x81,x82,x83,x84,x85,x86,x87,x88,x89,x90,x91,x92,x93,x94,x95,x96,x97,x98,x99,x100,x101,x102,x103,x104,x105,x106,x107,x108,x109,x110,x111,x112,x113,x114,x115,x116,x117,x118,x119,x120,x121,x122,x123,x124,x125,x126,x127,x128],defers:=[] } X) :
  Code.wp Tryz.prog (Code.region 8 #[{ dst:=some 47,op:=Op.load 34 (Operand.tmp 5),type:=34,pos := "laws.go:334",after:=#[],guard:=none },{ dst:=some 48,op:=Op.load 36 (Operand.tmp 6),type:=36,pos := "laws.go:334",after:=#[],guard:=none },{ dst:=some 49,op:=Op.call { callee:=Callee.value (Operand.func 11),args:=#[Operand.tmp 47,Operand.tmp 48],argTypes:=#[34,36] },type:=34,pos := "laws.go:334",after:=#[{ on:=0,ground:=Ground.data },{ on:=1,ground:=Ground.data }],guard:=none },{ dst:=some 50,op:=Op.load 34 (Operand.tmp 5),type:=34,pos := "laws.go:334",after:=#[],guard:=none },{ dst:=some 51,op:=Op.load 36 (Operand.tmp 6),type:=36,pos := "laws.go:334",after:=#[],guard:=none },{ dst:=some 52,op:=Op.call { callee:=Callee.value (Operand.func 13),args:=#[Operand.tmp 50,Operand.tmp 51],argTypes:=#[34,36] },type:=34,pos := "laws.go:334",after:=#[{ on:=3,ground:=Ground.data },{ on:=4,ground:=Ground.data },{ on:=2,ground:=Ground.chain }],guard:=none },{ dst:=some 53,op:=Op.call { callee:=Callee.value (Operand.func 12),args:=#[Operand.tmp 49,Operand.tmp 52],argTypes:=#[34,34] },type:=4,pos := "laws.go:334",after:=#[{ on:=2,ground:=Ground.data },{ on:=5,ground:=Ground.data },{ on:=5,ground:=Ground.chain }],guard:=none },{ dst:=some 54,op:=Op.unOp UnOp.not 4 (Operand.tmp 53),type:=4,pos := "laws.go:334",after:=#[{ on:=6,ground:=Ground.data }],guard:=none },{ dst:=some 55,op:=Op.move (Operand.tmp 54),type:=4,pos := "laws.go:334",after:=#[{ on:=7,ground:=Ground.data },{ on:=6,ground:=Ground.chain }],guard:=none },{ dst:=some 56,op:=Op.load 34 (Operand.tmp 11),type:=34,pos := "laws.go:334",after:=#[{ on:=8,ground:=Ground.guard }],guard:=some (8,false) },{ dst:=some 57,op:=Op.load 34 (Operand.tmp 12),type:=34,pos := "laws.go:334",after:=#[{ on:=8,ground:=Ground.guard }],guard:=some (8,false) },{ dst:=some 58,op:=Op.call { callee:=Callee.value (Operand.func 12),args:=#[Operand.tmp 56,Operand.tmp 57],argTypes:=#[34,34] },type:=4,pos := "laws.go:334",after:=#[{ on:=9,ground:=Ground.data },{ on:=10,ground:=Ground.data },{ on:=8,ground:=Ground.chain },{ on:=8,ground:=Ground.guard }],guard:=some (8,false) },{ dst:=some 59,op:=Op.unOp UnOp.not 4 (Operand.tmp 58),type:=4,pos := "laws.go:334",after:=#[{ on:=11,ground:=Ground.data },{ on:=8,ground:=Ground.guard }],guard:=some (8,false) },{ dst:=some 60,op:=Op.pick (Operand.tmp 55) (Operand.const (.bool true)) (Operand.tmp 59),type:=4,pos := "laws.go:334",after:=#[{ on:=8,ground:=Ground.data },{ on:=12,ground:=Ground.data }],guard:=none },{ dst:=some 61,op:=Op.move (Operand.tmp 60),type:=4,pos := "laws.go:334",after:=#[{ on:=13,ground:=Ground.data },{ on:=11,ground:=Ground.chain }],guard:=none },{ dst:=some 62,op:=Op.load 34 (Operand.tmp 11),type:=34,pos := "laws.go:334",after:=#[{ on:=14,ground:=Ground.guard }],guard:=some (14,false) },{ dst:=some 63,op:=Op.load 34 (Operand.tmp 12),type:=34,pos := "laws.go:334",after:=#[{ on:=14,ground:=Ground.guard }],guard:=some (14,false) },{ dst:=some 64,op:=Op.call { callee:=Callee.value (Operand.func 14),args:=#[Operand.tmp 62,Operand.tmp 63],argTypes:=#[34,34] },type:=4,pos := "laws.go:334",after:=#[{ on:=15,ground:=Ground.data },{ on:=16,ground:=Ground.data },{ on:=14,ground:=Ground.chain },{ on:=14,ground:=Ground.guard }],guard:=some (14,false) },{ dst:=some 65,op:=Op.unOp UnOp.not 4 (Operand.tmp 64),type:=4,pos := "laws.go:334",after:=#[{ on:=17,ground:=Ground.data },{ on:=14,ground:=Ground.guard }],guard:=some (14,false) },{ dst:=some 66,op:=Op.pick (Operand.tmp 61) (Operand.const (.bool true)) (Operand.tmp 65),type:=4,pos := "laws.go:334",after:=#[{ on:=14,ground:=Ground.data },{ on:=18,ground:=Ground.data }],guard:=none }] true) (Exit.then K' (Exit.then K2 (bodyPost Tryz.prog Tryz.f3 Qp))) { tmps:=#[x0,x1,x2,x3,x4,.pointer (some ⟨ra,0,none⟩),.pointer (some ⟨rx,0,none⟩),x7,x8,x9,x10,.pointer (some ⟨rp,0,none⟩),.pointer (some ⟨rq,0,none⟩),x13,x14,x15,x16,x17,x18,x19,x20,x21,x22,x23,x24,x25,x26,x27,x28,x29,x30,x31,x32,x33,x34,x35,x36,x37,x38,x39,x40,x41,x42,x43,x44,x45,x46,x47,x48,x49,x50,x51,x52,x53,x54,x55,x56,x57,x58,x59,x60,x61,x62,x63,x64,x65,x66,x67,x68,x69,x70,x71,x72,x73,x74,x75,x76,x77,x78,x79,x80,x81,x82,x83,x84,x85,x86,x87,x88,x89,x90,x91,x92,x93,x94,x95,x96,x97,x98,x99,x100,x101,x102,x103,x104,x105,x106,x107,x108,x109,x110,x111,x112,x113,x114,x115,x116,x117,x118,x119,x120,x121,x122,x123,x124,x125,x126,x127,x128],defers:=[] } w0:=by
 have Hmx:=hide mx
 have HLa:=hide La
 have HLx:=hide Lx
 have HLp:=hide Lp
 have HLq:=hide Lq
 have HQ:=hide hQ
 clear hQ mx La Lx Lp Lq
 have HS0:(fun Y=>Below w0.heap.size w0 Y) w0.drew:=(Below.refl _ _).drew
 refine regionK (fun Y=>Below w0.heap.size w0 Y) 99 (by kernel_rfl) ?_
 refine takeK (i:=0) (d:=47) (v:=.agg (agArr g p)) rfl rfl (by kernel_rfl) (by kernel_rfl) (by kernel_rfl) (by decide) (by kernel_rfl) (fun _ _ _ h=>h) (Or.inl ⟨by rfl,fun W hW=>ldA rfl (HLa.out.past hW).row⟩) HS0 ?_
 refine takeK (i:=1) (d:=48) (v:=.agg (sxArr x)) rfl rfl (by kernel_rfl) (by kernel_rfl) (by kernel_rfl) (by decide) (by kernel_rfl) (fun _ _ _ h=>h) (Or.inl ⟨by rfl,fun W hW=>ldX rfl (HLx.out.past hW).row⟩) HS0 ?_
 refine takeK (i:=3) (d:=50) (v:=.agg (agArr g p)) rfl rfl (by kernel_rfl) (by kernel_rfl) (by kernel_rfl) (by decide) (by kernel_rfl) (fun _ _ _ h=>h) (Or.inl ⟨by rfl,fun W hW=>ldA rfl (HLa.out.past hW).row⟩) HS0 ?_
 simp only [sA,sB,sC]
 refine takeK (i:=4) (d:=51) (v:=.agg (sxArr x)) rfl rfl (by kernel_rfl) (by kernel_rfl) (by kernel_rfl) (by decide) (by kernel_rfl) (fun _ _ _ h=>h) (Or.inl ⟨by rfl,fun W hW=>ldX rfl (HLx.out.past hW).row⟩) HS0 ?_
 simp only [sA,sB,sC]
 refine onE (i:=2) rfl (fun K hK=>?_)
 go_simp
 refine (c_putI (HLa.out.i.past HS0) HLx.out.ok (Hmx.out.past HS0)).mono ?_
 rintro e W2 ⟨o2,q2,rfl,hp,ho,ok,sm,hb⟩
 have HBW2:Hid (Below w0.heap.size w0 W2):=(HS0:Below w0.heap.size w0 _).trans (hb.mono (HS0:Below w0.heap.size w0 _).size)
 have HP2:=hide hp
 have HI2:=hide (AI.of ok sm ho)
 clear hp ho ok sm hb
 try dsimp only
 refine hK.out _ _ (fun _=>HBW2.out) ?_
 clear hK K
 try simp only [Act.put,sA,sB,sC]
 refine onE (i:=5) rfl (fun K hK=>?_)
 go_simp
 refine (c_putS (HLa.out.i.past HBW2.out) HLx.out.ok).mono ?_
 rintro e W5 ⟨o5,q5,rfl,hp,ho,ok,sm,hb⟩
 have HBW5:Hid (Below w0.heap.size w0 W5):=(HBW2.out:Below w0.heap.size w0 _).trans (hb.mono (HBW2.out:Below w0.heap.size w0 _).size)
 have HP5:=hide hp
 have HI5:=hide (AI.of ok sm ho)
 replace HI2:=hide (HI2.out.past hb)
 clear hp ho ok sm hb
 try dsimp only
 refine hK.out _ _ (fun _=>HBW5.out) ?_
 clear hK K
 try simp only [Act.put,sA,sB,sC]
 obtain rfl:=HP2.out.one HP5.out
 refine onE (i:=6) rfl (fun K hK=>?_)
 go_simp
 refine (c_sameSI HI2.out HI5.out).mono ?_
 rintro e W6 ⟨rfl,hb⟩
 have HBW6:Hid (Below w0.heap.size w0 W6):=(HBW5.out:Below w0.heap.size w0 _).trans (hb.mono (HBW5.out:Below w0.heap.size w0 _).size)
 clear hb
 try dsimp only
 refine hK.out _ _ (fun _=>HBW6.out) ?_
 clear hK K
 try simp only [Act.put,sA,sB,sC]
 refine tkL (i:=7) (d:=54) (v:=.bool false) rfl rfl HBW6.out (fun W hW=>by clear hW;go_simp) ?_
 refine tkL (i:=8) (d:=55) (v:=.bool false) rfl rfl HBW6.out (fun W hW=>by clear hW;go_simp) ?_
 refine takeK (i:=9) (d:=56) (v:=.agg (agArr gp pp)) rfl rfl (by kernel_rfl) (by kernel_rfl) (by kernel_rfl) (by decide) (by kernel_rfl) (fun _ _ _ h=>h) (Or.inl ⟨by rfl,fun W hW=>ldA rfl (HLp.out.past hW).row⟩) HBW6.out ?_
 simp only [sA,sB,sC]
 refine takeK (i:=10) (d:=57) (v:=.agg (agArr gp pq)) rfl rfl (by kernel_rfl) (by kernel_rfl) (by kernel_rfl) (by decide) (by kernel_rfl) (fun _ _ _ h=>h) (Or.inl ⟨by rfl,fun W hW=>ldA rfl (HLq.out.past hW).row⟩) HBW6.out ?_
 simp only [sA,sB,sC]
 refine onE (i:=11) rfl (fun K hK=>?_)
 go_simp
 refine (c_sameSI (HLp.out.i.past HBW6.out) (HLq.out.i.past HBW6.out)).mono ?_
 rintro e W11 ⟨rfl,hb⟩
 have HBW11:Hid (Below w0.heap.size w0 W11):=(HBW6.out:Below w0.heap.size w0 _).trans (hb.mono (HBW6.out:Below w0.heap.size w0 _).size)
 clear hb
 try dsimp only
 refine hK.out _ _ (fun _=>HBW11.out) ?_
 clear hK K
 try simp only [Act.put,sA,sB,sC]
 refine tkL (i:=12) (d:=59) (v:=.bool false) rfl rfl HBW11.out (fun W hW=>by clear hW;go_simp) ?_
 refine tkL (i:=13) (d:=60) (v:=.bool false) rfl rfl HBW11.out (fun W hW=>by clear hW;go_simp) ?_
 refine tkL (i:=14) (d:=61) (v:=.bool false) rfl rfl HBW11.out (fun W hW=>by clear hW;go_simp) ?_
 simp only [sA,sB,sC]
 refine takeK (i:=15) (d:=62) (v:=.agg (agArr gp pp)) rfl rfl (by kernel_rfl) (by kernel_rfl) (by kernel_rfl) (by decide) (by kernel_rfl) (fun _ _ _ h=>h) (Or.inl ⟨by rfl,fun W hW=>ldA rfl (HLp.out.past hW).row⟩) HBW11.out ?_
 refine takeK (i:=16) (d:=63) (v:=.agg (agArr gp pq)) rfl rfl (by kernel_rfl) (by kernel_rfl) (by kernel_rfl) (by decide) (by kernel_rfl) (fun _ _ _ h=>h) (Or.inl ⟨by rfl,fun W hW=>ldA rfl (HLq.out.past hW).row⟩) HBW11.out ?_
 simp only [sA,sB,sC]
 refine onE (i:=17) rfl (fun K hK=>?_)
 go_simp
 refine (c_sameII (HLp.out.i.past HBW11.out) (HLq.out.i.past HBW11.out)).mono ?_
 rintro e W17 ⟨rfl,hb⟩
 have HBW17:Hid (Below w0.heap.size w0 W17):=(HBW11.out:Below w0.heap.size w0 _).trans (hb.mono (HBW11.out:Below w0.heap.size w0 _).size)
 clear hb
 try dsimp only
 refine hK.out _ _ (fun _=>HBW17.out) ?_
 clear hK K
 try simp only [Act.put,sA,sB,sC]
 refine tkL (i:=18) (d:=65) (v:=.bool false) rfl rfl HBW17.out (fun W hW=>by clear hW;go_simp) ?_
 refine tkL (i:=19) (d:=66) (v:=.bool false) rfl rfl HBW17.out (fun W hW=>by clear hW;go_simp) ?_
 simp only [sA,sB,sC]
 refine doneK (by kernel_rfl) ?_ _
 go_wp2
 exact HQ.out W17 _ _ _ _ _ _ _ _ _ _ _ _ _ _ _ _ _ _ _ HBW17.out
set_option maxHeartbeats 16000000 in
theorem reg11 {K':Act→World→Prop} {K2:Act→World→Prop} {Qp:Ending→World→Prop} {w0:World} {ra rx ry rb ro rp rq rm:Nat} {g g1 g2 gp gm:Ag} {p p1 p2 pp pq pm:Pl} {x y:Sx} {x0 x1 x2 x3 x4 x6 x7 x8 x12 x14 x15 x16 x17 x18 x19 x20 x21 x22 x23 x24 x25 x26 x27 x28 x29 x30 x31 x32 x33 x34 x35 x36 x37 x38 x39 x40 x41 x42 x43 x44 x45 x46 x47 x48 x49 x50 x51 x52 x53 x54 x55 x56 x57 x58 x59 x60 x61 x62 x63 x64 x65 x66 x67 x68 x69 x70 x71 x72 x73 x74 x75 x76 x77 x78 x79 x80 x81 x82 x83 x84 x85 x86 x87 x88 x89 x90 x91 x92 x93 x94 x95 x96 x97 x98 x99 x100 x101 x102 x103 x104 x105 x106 x107 x108 x109 x110 x111 x112 x113 x114 x115 x116 x117 x118 x119 x120 x121 x122 x123 x124 x125 x126 x127 x128:Value}
  (La:AL w0 ra g p)
  (Lb:AL w0 rb g1 p1)
  (Lo:AL w0 ro g2 p2)
  (Lp:AL w0 rp gp pp)
  (Lm:AL w0 rm gm pm)
  (hM:AgMrg g1 g2 gm)
  (hR:agB g=true→agB gp=true)
  (hQ:∀ (X:World) (y70 y71 y72 y73 y74 y75 y76 y77 y78 y79 y80 y81 y82 y83 y84 y85 y86 y87 y88 y89 y90 y91:Value),Below w0.heap.size w0 X→K' { tmps:=#[x0,x1,x2,x3,x4,.pointer (some ⟨ra,0,none⟩),x6,x7,x8,.pointer (some ⟨rb,0,none⟩),.pointer (some ⟨ro,0,none⟩),.pointer (some ⟨rp,0,none⟩),x12,.pointer (some ⟨rm,0,none⟩),x14,x15,x16,x17,x18,x19,x20,x21,x22,x23,x24,x25,x26,x27,x28,x29,x30,x31,x32,x33,x34,x35,x36,x37,x38,x39,x40,x41,x42,x43,x44,x45,x46,x47,x48,x49,x50,x51,x52,x53,x54,x55,x56,x57,x58,x59,x60,x61,x62,x63,x64,x65,x66,x67,x68,x69,y70,y71,y72,y73,y74,y75,y76,y77,y78,y79,y80,y81,y82,y83,y84,y85,y86,y87,y88,y89,y90,y91,.bool false,x93,x94,x95,x96,x97,x98,x99,x100,x101,x102,x103,x104,x105,x106,x107,x108,x109,x110,x111,x112,x113,x114,x115,x116,x117,x118,x119,x120,x121,x122,x123,x124,x125,x126,x127,x128],defers:=[] } X) :
  Code.wp Tryz.prog (Code.region 11 #[{ dst:=some 70,op:=Op.load 34 (Operand.tmp 13),type:=34,pos := "laws.go:338",after:=#[],guard:=none },{ dst:=some 71,op:=Op.load 34 (Operand.tmp 9),type:=34,pos := "laws.go:338",after:=#[],guard:=none },{ dst:=some 72,op:=Op.load 34 (Operand.tmp 10),type:=34,pos := "laws.go:338",after:=#[],guard:=none },{ dst:=some 73,op:=Op.call { callee:=Callee.value (Operand.func 16),args:=#[Operand.tmp 71,Operand.tmp 72],argTypes:=#[34,34] },type:=34,pos := "laws.go:338",after:=#[{ on:=1,ground:=Ground.data },{ on:=2,ground:=Ground.data }],guard:=none },{ dst:=some 74,op:=Op.call { callee:=Callee.value (Operand.func 12),args:=#[Operand.tmp 70,Operand.tmp 73],argTypes:=#[34,34] },type:=4,pos := "laws.go:338",after:=#[{ on:=0,ground:=Ground.data },{ on:=3,ground:=Ground.data },{ on:=3,ground:=Ground.chain }],guard:=none },{ dst:=some 75,op:=Op.unOp UnOp.not 4 (Operand.tmp 74),type:=4,pos := "laws.go:338",after:=#[{ on:=4,ground:=Ground.data }],guard:=none },{ dst:=some 76,op:=Op.move (Operand.tmp 75),type:=4,pos := "laws.go:338",after:=#[{ on:=5,ground:=Ground.data },{ on:=4,ground:=Ground.chain }],guard:=none },{ dst:=some 77,op:=Op.load 34 (Operand.tmp 13),type:=34,pos := "laws.go:338",after:=#[{ on:=6,ground:=Ground.guard }],guard:=some (6,false) },{ dst:=some 78,op:=Op.load 34 (Operand.tmp 10),type:=34,pos := "laws.go:338",after:=#[{ on:=6,ground:=Ground.guard }],guard:=some (6,false) },{ dst:=some 79,op:=Op.load 34 (Operand.tmp 9),type:=34,pos := "laws.go:338",after:=#[{ on:=6,ground:=Ground.guard }],guard:=some (6,false) },{ dst:=some 80,op:=Op.call { callee:=Callee.value (Operand.func 15),args:=#[Operand.tmp 78,Operand.tmp 79],argTypes:=#[34,34] },type:=34,pos := "laws.go:338",after:=#[{ on:=8,ground:=Ground.data },{ on:=9,ground:=Ground.data },{ on:=6,ground:=Ground.chain },{ on:=6,ground:=Ground.guard }],guard:=some (6,false) },{ dst:=some 81,op:=Op.call { callee:=Callee.value (Operand.func 12),args:=#[Operand.tmp 77,Operand.tmp 80],argTypes:=#[34,34] },type:=4,pos := "laws.go:338",after:=#[{ on:=7,ground:=Ground.data },{ on:=10,ground:=Ground.data },{ on:=10,ground:=Ground.chain },{ on:=6,ground:=Ground.guard }],guard:=some (6,false) },{ dst:=some 82,op:=Op.unOp UnOp.not 4 (Operand.tmp 81),type:=4,pos := "laws.go:338",after:=#[{ on:=11,ground:=Ground.data },{ on:=6,ground:=Ground.guard }],guard:=some (6,false) },{ dst:=some 83,op:=Op.pick (Operand.tmp 76) (Operand.const (.bool true)) (Operand.tmp 82),type:=4,pos := "laws.go:338",after:=#[{ on:=6,ground:=Ground.data },{ on:=12,ground:=Ground.data }],guard:=none },{ dst:=some 84,op:=Op.move (Operand.tmp 83),type:=4,pos := "laws.go:338",after:=#[{ on:=13,ground:=Ground.data },{ on:=11,ground:=Ground.chain }],guard:=none },{ dst:=some 85,op:=Op.load 34 (Operand.tmp 5),type:=34,pos := "laws.go:338",after:=#[{ on:=14,ground:=Ground.guard }],guard:=some (14,false) },{ dst:=some 86,op:=Op.call { callee:=Callee.value (Operand.func 17),args:=#[Operand.tmp 85],argTypes:=#[34] },type:=4,pos := "laws.go:338",after:=#[{ on:=15,ground:=Ground.data },{ on:=14,ground:=Ground.chain },{ on:=14,ground:=Ground.guard }],guard:=some (14,false) },{ dst:=some 87,op:=Op.move (Operand.tmp 86),type:=4,pos := "laws.go:338",after:=#[{ on:=16,ground:=Ground.data },{ on:=16,ground:=Ground.chain },{ on:=14,ground:=Ground.guard }],guard:=some (14,false) },{ dst:=some 88,op:=Op.load 34 (Operand.tmp 11),type:=34,pos := "laws.go:338",after:=#[{ on:=17,ground:=Ground.guard }],guard:=some (17,true) },{ dst:=some 89,op:=Op.call { callee:=Callee.value (Operand.func 18),args:=#[Operand.tmp 88],argTypes:=#[34] },type:=4,pos := "laws.go:338",after:=#[{ on:=18,ground:=Ground.data },{ on:=17,ground:=Ground.chain },{ on:=17,ground:=Ground.guard }],guard:=some (17,true) },{ dst:=some 90,op:=Op.unOp UnOp.not 4 (Operand.tmp 89),type:=4,pos := "laws.go:338",after:=#[{ on:=19,ground:=Ground.data },{ on:=17,ground:=Ground.guard }],guard:=some (17,true) },{ dst:=some 91,op:=Op.pick (Operand.tmp 87) (Operand.tmp 90) (Operand.const (.bool false)),type:=4,pos := "laws.go:338",after:=#[{ on:=17,ground:=Ground.data },{ on:=20,ground:=Ground.data },{ on:=14,ground:=Ground.guard }],guard:=some (14,false) },{ dst:=some 92,op:=Op.pick (Operand.tmp 84) (Operand.const (.bool true)) (Operand.tmp 91),type:=4,pos := "laws.go:338",after:=#[{ on:=14,ground:=Ground.data },{ on:=21,ground:=Ground.data }],guard:=none }] true) (Exit.then K' (Exit.then K2 (bodyPost Tryz.prog Tryz.f3 Qp))) { tmps:=#[x0,x1,x2,x3,x4,.pointer (some ⟨ra,0,none⟩),x6,x7,x8,.pointer (some ⟨rb,0,none⟩),.pointer (some ⟨ro,0,none⟩),.pointer (some ⟨rp,0,none⟩),x12,.pointer (some ⟨rm,0,none⟩),x14,x15,x16,x17,x18,x19,x20,x21,x22,x23,x24,x25,x26,x27,x28,x29,x30,x31,x32,x33,x34,x35,x36,x37,x38,x39,x40,x41,x42,x43,x44,x45,x46,x47,x48,x49,x50,x51,x52,x53,x54,x55,x56,x57,x58,x59,x60,x61,x62,x63,x64,x65,x66,x67,x68,x69,x70,x71,x72,x73,x74,x75,x76,x77,x78,x79,x80,x81,x82,x83,x84,x85,x86,x87,x88,x89,x90,x91,x92,x93,x94,x95,x96,x97,x98,x99,x100,x101,x102,x103,x104,x105,x106,x107,x108,x109,x110,x111,x112,x113,x114,x115,x116,x117,x118,x119,x120,x121,x122,x123,x124,x125,x126,x127,x128],defers:=[] } w0:=by
 have HLa:=hide La
 have HLb:=hide Lb
 have HLo:=hide Lo
 have HLp:=hide Lp
 have HLm:=hide Lm
 have HhM:=hide hM
 have HhR:=hide hR
 have HQ:=hide hQ
 clear hQ La Lb Lo Lp Lm hM hR
 have HS0:(fun Y=>Below w0.heap.size w0 Y) w0.drew:=(Below.refl _ _).drew
 refine regionK (fun Y=>Below w0.heap.size w0 Y) 99 (by kernel_rfl) ?_
 refine takeK (i:=0) (d:=70) (v:=.agg (agArr gm pm)) rfl rfl (by kernel_rfl) (by kernel_rfl) (by kernel_rfl) (by decide) (by kernel_rfl) (fun _ _ _ h=>h) (Or.inl ⟨by rfl,fun W hW=>ldA rfl (HLm.out.past hW).row⟩) HS0 ?_
 refine takeK (i:=1) (d:=71) (v:=.agg (agArr g1 p1)) rfl rfl (by kernel_rfl) (by kernel_rfl) (by kernel_rfl) (by decide) (by kernel_rfl) (fun _ _ _ h=>h) (Or.inl ⟨by rfl,fun W hW=>ldA rfl (HLb.out.past hW).row⟩) HS0 ?_
 refine takeK (i:=2) (d:=72) (v:=.agg (agArr g2 p2)) rfl rfl (by kernel_rfl) (by kernel_rfl) (by kernel_rfl) (by decide) (by kernel_rfl) (fun _ _ _ h=>h) (Or.inl ⟨by rfl,fun W hW=>ldA rfl (HLo.out.past hW).row⟩) HS0 ?_
 simp only [sA,sB,sC]
 refine onE (i:=3) rfl (fun K hK=>?_)
 go_simp
 refine (c_mrgS (HLb.out.i.past HS0) (HLo.out.i.past HS0)).mono ?_
 rintro e W3 ⟨o3,q3,rfl,hp,ho,ok,sm,hb⟩
 have HBW3:Hid (Below w0.heap.size w0 W3):=(HS0:Below w0.heap.size w0 _).trans (hb.mono (HS0:Below w0.heap.size w0 _).size)
 have HP3:=hide hp
 have HI3:=hide (AI.of ok sm ho)
 clear hp ho ok sm hb
 try dsimp only
 refine hK.out _ _ (fun _=>HBW3.out) ?_
 clear hK K
 try simp only [Act.put,sA,sB,sC]
 obtain rfl:=HhM.out.one HP3.out
 refine onE (i:=4) rfl (fun K hK=>?_)
 go_simp
 refine (c_sameSI (HLm.out.i.past HBW3.out) HI3.out).mono ?_
 rintro e W4 ⟨rfl,hb⟩
 have HBW4:Hid (Below w0.heap.size w0 W4):=(HBW3.out:Below w0.heap.size w0 _).trans (hb.mono (HBW3.out:Below w0.heap.size w0 _).size)
 clear hb
 try dsimp only
 refine hK.out _ _ (fun _=>HBW4.out) ?_
 clear hK K
 try simp only [Act.put,sA,sB,sC]
 refine tkL (i:=5) (d:=75) (v:=.bool false) rfl rfl HBW4.out (fun W hW=>by clear hW;go_simp) ?_
 refine tkL (i:=6) (d:=76) (v:=.bool false) rfl rfl HBW4.out (fun W hW=>by clear hW;go_simp) ?_
 refine takeK (i:=7) (d:=77) (v:=.agg (agArr gm pm)) rfl rfl (by kernel_rfl) (by kernel_rfl) (by kernel_rfl) (by decide) (by kernel_rfl) (fun _ _ _ h=>h) (Or.inl ⟨by rfl,fun W hW=>ldA rfl (HLm.out.past hW).row⟩) HBW4.out ?_
 simp only [sA,sB,sC]
 refine takeK (i:=8) (d:=78) (v:=.agg (agArr g2 p2)) rfl rfl (by kernel_rfl) (by kernel_rfl) (by kernel_rfl) (by decide) (by kernel_rfl) (fun _ _ _ h=>h) (Or.inl ⟨by rfl,fun W hW=>ldA rfl (HLo.out.past hW).row⟩) HBW4.out ?_
 refine takeK (i:=9) (d:=79) (v:=.agg (agArr g1 p1)) rfl rfl (by kernel_rfl) (by kernel_rfl) (by kernel_rfl) (by decide) (by kernel_rfl) (fun _ _ _ h=>h) (Or.inl ⟨by rfl,fun W hW=>ldA rfl (HLb.out.past hW).row⟩) HBW4.out ?_
 simp only [sA,sB,sC]
 refine onE (i:=10) rfl (fun K hK=>?_)
 go_simp
 refine (c_mrgI (HLo.out.i.past HBW4.out) (HLb.out.i.past HBW4.out)).mono ?_
 rintro e W10 ⟨o10,q10,rfl,hp,ho,ok,sm,hb⟩
 have HBW10:Hid (Below w0.heap.size w0 W10):=(HBW4.out:Below w0.heap.size w0 _).trans (hb.mono (HBW4.out:Below w0.heap.size w0 _).size)
 have HP10:=hide hp
 have HI10:=hide (AI.of ok sm ho)
 clear hp ho ok sm hb
 try dsimp only
 refine hK.out _ _ (fun _=>HBW10.out) ?_
 clear hK K
 try simp only [Act.put,sA,sB,sC]
 obtain rfl:=mrg_commB HhM.out HP10.out
 refine onE (i:=11) rfl (fun K hK=>?_)
 go_simp
 refine (c_sameSI (HLm.out.i.past HBW10.out) HI10.out).mono ?_
 rintro e W11 ⟨rfl,hb⟩
 have HBW11:Hid (Below w0.heap.size w0 W11):=(HBW10.out:Below w0.heap.size w0 _).trans (hb.mono (HBW10.out:Below w0.heap.size w0 _).size)
 clear hb
 try dsimp only
 refine hK.out _ _ (fun _=>HBW11.out) ?_
 clear hK K
 try simp only [Act.put,sA,sB,sC]
 refine tkL (i:=12) (d:=82) (v:=.bool false) rfl rfl HBW11.out (fun W hW=>by clear hW;go_simp) ?_
 refine tkL (i:=13) (d:=83) (v:=.bool false) rfl rfl HBW11.out (fun W hW=>by clear hW;go_simp) ?_
 refine tkL (i:=14) (d:=84) (v:=.bool false) rfl rfl HBW11.out (fun W hW=>by clear hW;go_simp) ?_
 simp only [sA,sB,sC]
 refine takeK (i:=15) (d:=85) (v:=.agg (agArr g p)) rfl rfl (by kernel_rfl) (by kernel_rfl) (by kernel_rfl) (by decide) (by kernel_rfl) (fun _ _ _ h=>h) (Or.inl ⟨by rfl,fun W hW=>ldA rfl (HLa.out.past hW).row⟩) HBW11.out ?_
 simp only [sA,sB,sC]
 refine onE (i:=16) rfl (fun K hK=>?_)
 go_simp
 refine (c_rightS (HLa.out.i.past HBW11.out)).mono ?_
 rintro e W16 ⟨rfl,hb⟩
 have HBW16:Hid (Below w0.heap.size w0 W16):=(HBW11.out:Below w0.heap.size w0 _).trans (hb.mono (HBW11.out:Below w0.heap.size w0 _).size)
 clear hb
 cases hr:agB g
 ·try dsimp only
  refine hK.out _ _ (fun _=>HBW16.out) ?_
  clear hK K
  try simp only [Act.put,sA,sB,sC]
  refine tkL (i:=17) (d:=87) (v:=.bool false) rfl rfl HBW16.out (fun W hW=>by clear hW;go_simp) ?_
  refine takeK (i:=18) (d:=88) (v:=undef) rfl rfl (by kernel_rfl) (by kernel_rfl) (by kernel_rfl) (by decide) (by kernel_rfl) (fun _ _ _ h=>h) (Or.inr ⟨by rfl,rfl⟩) HBW16.out ?_
  simp only [sA,sB,sC]
  refine onE (i:=19) rfl (fun K hK=>?_)
  refine Eq.mpr (if_neg (fun h=>Bool.noConfusion (show false=true from h))) ?_
  refine hK.out _ _ (fun _=>HBW16.out) ?_
  clear hK K
  try simp only [Act.put,sA,sB,sC]
  refine takeK (i:=20) (d:=90) (v:=undef) rfl rfl (by kernel_rfl) (by kernel_rfl) (by kernel_rfl) (by decide) (by kernel_rfl) (fun _ _ _ h=>h) (Or.inr ⟨by rfl,rfl⟩) HBW16.out ?_
  refine tkL (i:=21) (d:=91) (v:=.bool false) rfl rfl HBW16.out (fun W hW=>by clear hW;go_simp) ?_
  refine tkL (i:=22) (d:=92) (v:=.bool false) rfl rfl HBW16.out (fun W hW=>by clear hW;go_simp) ?_
  simp only [sA,sB,sC]
  refine doneK (by kernel_rfl) ?_ _
  go_wp2
  exact HQ.out W16 _ _ _ _ _ _ _ _ _ _ _ _ _ _ _ _ _ _ _ _ _ _ HBW16.out
 ·have hrp:=HhR.out hr
  try dsimp only
  refine hK.out _ _ (fun _=>HBW16.out) ?_
  clear hK K
  try simp only [Act.put,sA,sB,sC]
  refine tkL (i:=17) (d:=87) (v:=.bool true) rfl rfl HBW16.out (fun W hW=>by clear hW;go_simp) ?_
  refine takeK (i:=18) (d:=88) (v:=.agg (agArr gp pp)) rfl rfl (by kernel_rfl) (by kernel_rfl) (by kernel_rfl) (by decide) (by kernel_rfl) (fun _ _ _ h=>h) (Or.inl ⟨by rfl,fun W hW=>ldA rfl (HLp.out.past hW).row⟩) HBW16.out ?_
  simp only [sA,sB,sC]
  refine onE (i:=19) rfl (fun K hK=>?_)
  go_simp
  refine (c_rightI (HLp.out.i.past HBW16.out)).mono ?_
  rintro e W19 ⟨rfl,hb⟩
  have HBW19:Hid (Below w0.heap.size w0 W19):=(HBW16.out:Below w0.heap.size w0 _).trans (hb.mono (HBW16.out:Below w0.heap.size w0 _).size)
  clear hb
  rw [hrp]
  try dsimp only
  refine hK.out _ _ (fun _=>HBW19.out) ?_
  clear hK K
  try simp only [Act.put,sA,sB,sC]
  refine tkL (i:=20) (d:=90) (v:=.bool false) rfl rfl HBW19.out (fun W hW=>by clear hW;go_simp) ?_
  refine tkL (i:=21) (d:=91) (v:=.bool false) rfl rfl HBW19.out (fun W hW=>by clear hW;go_simp) ?_
  refine tkL (i:=22) (d:=92) (v:=.bool false) rfl rfl HBW19.out (fun W hW=>by clear hW;go_simp) ?_
  simp only [sA,sB,sC]
  refine doneK (by kernel_rfl) ?_ _
  go_wp2
  exact HQ.out W19 _ _ _ _ _ _ _ _ _ _ _ _ _ _ _ _ _ _ _ _ _ _ HBW19.out
set_option maxHeartbeats 16000000 in
theorem reg15 {K':Act→World→Prop} {Qp:Ending→World→Prop} {w0:World} {ra rx ry rb ro rp rq rm:Nat} {g g1 g2 gp gm:Ag} {p p1 p2 pp pq pm:Pl} {x y:Sx} {x0 x1 x2 x3 x4 x5 x7 x8 x11 x12 x14 x15 x16 x17 x18 x19 x20 x21 x22 x23 x24 x25 x26 x27 x28 x29 x30 x31 x32 x33 x34 x35 x36 x37 x38 x39 x40 x41 x42 x43 x44 x45 x46 x47 x48 x49 x50 x51 x52 x53 x54 x55 x56 x57 x58 x59 x60 x61 x62 x63 x64 x65 x66 x67 x68 x69 x70 x71 x72 x73 x74 x75 x76 x77 x78 x79 x80 x81 x82 x83 x84 x85 x86 x87 x88 x89 x90 x91 x92 x93 x94 x95 x96 x97 x98 x99 x100 x101 x102 x103 x104 x105 x106 x107 x108 x109 x110 x111 x112 x113 x114 x115 x116 x117 x118 x119 x120 x121 x122 x123 x124 x125 x126 x127 x128:Value}
  (mx:MX w0)
  (Lx:SL w0 rx x)
  (Lb:AL w0 rb g1 p1)
  (Lo:AL w0 ro g2 p2)
  (Lm:AL w0 rm gm pm)
  (hM:AgMrg g1 g2 gm)
  (hRR:AgR2 g1 g2)
  (hQ:∀ (X:World) (y111 y112 y113 y114 y115 y116 y117 y118 y119 y120 y121 y122 y123 y124 y125 y126 y127 y128:Value),Below w0.heap.size w0 X→K' { tmps:=#[x0,x1,x2,x3,.bool true,x5,.pointer (some ⟨rx,0,none⟩),x7,x8,.pointer (some ⟨rb,0,none⟩),.pointer (some ⟨ro,0,none⟩),x11,x12,.pointer (some ⟨rm,0,none⟩),x14,x15,x16,x17,x18,x19,x20,x21,x22,x23,x24,x25,x26,x27,x28,x29,x30,x31,x32,x33,x34,x35,x36,x37,x38,x39,x40,x41,x42,x43,x44,x45,x46,x47,x48,x49,x50,x51,x52,x53,x54,x55,x56,x57,x58,x59,x60,x61,x62,x63,x64,x65,x66,x67,x68,x69,x70,x71,x72,x73,x74,x75,x76,x77,x78,x79,x80,x81,x82,x83,x84,x85,x86,x87,x88,x89,x90,x91,x92,x93,x94,x95,x96,x97,x98,x99,x100,x101,x102,x103,x104,x105,x106,x107,x108,x109,x110,y111,y112,y113,y114,y115,y116,y117,y118,y119,y120,y121,y122,y123,y124,y125,y126,y127,y128],defers:=[] } X) :
  Code.wp Tryz.prog (Code.region 15 #[{ dst:=some 111,op:=Op.load 34 (Operand.tmp 9),type:=34,pos := "laws.go:344",after:=#[],guard:=none },{ dst:=some 112,op:=Op.load 36 (Operand.tmp 6),type:=36,pos := "laws.go:344",after:=#[],guard:=none },{ dst:=some 113,op:=Op.call { callee:=Callee.value (Operand.func 11),args:=#[Operand.tmp 111,Operand.tmp 112],argTypes:=#[34,36] },type:=34,pos := "laws.go:344",after:=#[{ on:=0,ground:=Ground.data },{ on:=1,ground:=Ground.data }],guard:=none },{ dst:=some 114,op:=Op.load 34 (Operand.tmp 10),type:=34,pos := "laws.go:344",after:=#[],guard:=none },{ dst:=some 115,op:=Op.call { callee:=Callee.value (Operand.func 15),args:=#[Operand.tmp 113,Operand.tmp 114],argTypes:=#[34,34] },type:=34,pos := "laws.go:344",after:=#[{ on:=2,ground:=Ground.data },{ on:=3,ground:=Ground.data },{ on:=2,ground:=Ground.chain }],guard:=none },{ dst:=some 116,op:=Op.load 34 (Operand.tmp 13),type:=34,pos := "laws.go:344",after:=#[],guard:=none },{ dst:=some 117,op:=Op.load 36 (Operand.tmp 6),type:=36,pos := "laws.go:344",after:=#[],guard:=none },{ dst:=some 118,op:=Op.call { callee:=Callee.value (Operand.func 11),args:=#[Operand.tmp 116,Operand.tmp 117],argTypes:=#[34,36] },type:=34,pos := "laws.go:344",after:=#[{ on:=5,ground:=Ground.data },{ on:=6,ground:=Ground.data },{ on:=4,ground:=Ground.chain }],guard:=none },{ dst:=some 119,op:=Op.call { callee:=Callee.value (Operand.func 12),args:=#[Operand.tmp 115,Operand.tmp 118],argTypes:=#[34,34] },type:=4,pos := "laws.go:344",after:=#[{ on:=4,ground:=Ground.data },{ on:=7,ground:=Ground.data },{ on:=7,ground:=Ground.chain }],guard:=none },{ dst:=some 120,op:=Op.move (Operand.tmp 119),type:=4,pos := "laws.go:344",after:=#[{ on:=8,ground:=Ground.data },{ on:=8,ground:=Ground.chain }],guard:=none },{ dst:=some 121,op:=Op.load 34 (Operand.tmp 9),type:=34,pos := "laws.go:344",after:=#[{ on:=9,ground:=Ground.guard }],guard:=some (9,true) },{ dst:=some 122,op:=Op.fieldAddr 34 (Operand.tmp 9) 0,type:=0,pos := "laws.go:344",after:=#[{ on:=9,ground:=Ground.guard }],guard:=some (9,true) },{ dst:=some 123,op:=Op.load 2 (Operand.tmp 122),type:=2,pos := "laws.go:344",after:=#[{ on:=11,ground:=Ground.data },{ on:=9,ground:=Ground.guard }],guard:=some (9,true) },{ dst:=some 124,op:=Op.call { callee:=Callee.value (Operand.func 19),args:=#[Operand.tmp 123],argTypes:=#[2] },type:=34,pos := "laws.go:344",after:=#[{ on:=12,ground:=Ground.data },{ on:=9,ground:=Ground.chain },{ on:=9,ground:=Ground.guard }],guard:=some (9,true) },{ dst:=some 125,op:=Op.call { callee:=Callee.value (Operand.func 15),args:=#[Operand.tmp 121,Operand.tmp 124],argTypes:=#[34,34] },type:=34,pos := "laws.go:344",after:=#[{ on:=10,ground:=Ground.data },{ on:=13,ground:=Ground.data },{ on:=13,ground:=Ground.chain },{ on:=9,ground:=Ground.guard }],guard:=some (9,true) },{ dst:=some 126,op:=Op.load 34 (Operand.tmp 9),type:=34,pos := "laws.go:344",after:=#[{ on:=9,ground:=Ground.guard }],guard:=some (9,true) },{ dst:=some 127,op:=Op.call { callee:=Callee.value (Operand.func 12),args:=#[Operand.tmp 125,Operand.tmp 126],argTypes:=#[34,34] },type:=4,pos := "laws.go:344",after:=#[{ on:=14,ground:=Ground.data },{ on:=15,ground:=Ground.data },{ on:=14,ground:=Ground.chain },{ on:=9,ground:=Ground.guard }],guard:=some (9,true) },{ dst:=some 128,op:=Op.pick (Operand.tmp 120) (Operand.tmp 127) (Operand.const (.bool false)),type:=4,pos := "laws.go:344",after:=#[{ on:=9,ground:=Ground.data },{ on:=16,ground:=Ground.data }],guard:=none },{ dst:=some 4,op:=Op.assign (Operand.tmp 128),type:=4,pos := "laws.go:344",after:=#[{ on:=17,ground:=Ground.data },{ on:=16,ground:=Ground.chain },{ on:=0,ground:=Ground.phase },{ on:=1,ground:=Ground.phase },{ on:=2,ground:=Ground.phase },{ on:=3,ground:=Ground.phase },{ on:=4,ground:=Ground.phase },{ on:=5,ground:=Ground.phase },{ on:=6,ground:=Ground.phase },{ on:=7,ground:=Ground.phase },{ on:=8,ground:=Ground.phase },{ on:=9,ground:=Ground.phase },{ on:=10,ground:=Ground.phase },{ on:=11,ground:=Ground.phase },{ on:=12,ground:=Ground.phase },{ on:=13,ground:=Ground.phase },{ on:=14,ground:=Ground.phase },{ on:=15,ground:=Ground.phase },{ on:=16,ground:=Ground.phase },{ on:=17,ground:=Ground.phase }],guard:=none }] true) (Exit.then K' (bodyPost Tryz.prog Tryz.f3 Qp)) { tmps:=#[x0,x1,x2,x3,x4,x5,.pointer (some ⟨rx,0,none⟩),x7,x8,.pointer (some ⟨rb,0,none⟩),.pointer (some ⟨ro,0,none⟩),x11,x12,.pointer (some ⟨rm,0,none⟩),x14,x15,x16,x17,x18,x19,x20,x21,x22,x23,x24,x25,x26,x27,x28,x29,x30,x31,x32,x33,x34,x35,x36,x37,x38,x39,x40,x41,x42,x43,x44,x45,x46,x47,x48,x49,x50,x51,x52,x53,x54,x55,x56,x57,x58,x59,x60,x61,x62,x63,x64,x65,x66,x67,x68,x69,x70,x71,x72,x73,x74,x75,x76,x77,x78,x79,x80,x81,x82,x83,x84,x85,x86,x87,x88,x89,x90,x91,x92,x93,x94,x95,x96,x97,x98,x99,x100,x101,x102,x103,x104,x105,x106,x107,x108,x109,x110,x111,x112,x113,x114,x115,x116,x117,x118,x119,x120,x121,x122,x123,x124,x125,x126,x127,x128],defers:=[] } w0:=by
 have Hmx:=hide mx
 have HLx:=hide Lx
 have HLb:=hide Lb
 have HLo:=hide Lo
 have HLm:=hide Lm
 have HhM:=hide hM
 have HhRR:=hide hRR
 have HQ:=hide hQ
 clear hQ mx Lx Lb Lo Lm hM hRR
 have HS0:(fun Y=>Below w0.heap.size w0 Y) w0.drew:=(Below.refl _ _).drew
 refine regionK (fun Y=>Below w0.heap.size w0 Y) 99 (by kernel_rfl) ?_
 have nb:=agB_no HhRR.out.r
 have hk1:=nb.k1
 have hk4:=nb.k4
 have HK1:=hide hk1
 have HK4:=hide hk4
 clear nb hk1 hk4
 refine takeK (i:=0) (d:=111) (v:=.agg (agArr g1 p1)) rfl rfl (by kernel_rfl) (by kernel_rfl) (by kernel_rfl) (by decide) (by kernel_rfl) (fun _ _ _ h=>h) (Or.inl ⟨by rfl,fun W hW=>ldA rfl (HLb.out.past hW).row⟩) HS0 ?_
 refine takeK (i:=1) (d:=112) (v:=.agg (sxArr x)) rfl rfl (by kernel_rfl) (by kernel_rfl) (by kernel_rfl) (by decide) (by kernel_rfl) (fun _ _ _ h=>h) (Or.inl ⟨by rfl,fun W hW=>ldX rfl (HLx.out.past hW).row⟩) HS0 ?_
 refine takeK (i:=3) (d:=114) (v:=.agg (agArr g2 p2)) rfl rfl (by kernel_rfl) (by kernel_rfl) (by kernel_rfl) (by decide) (by kernel_rfl) (fun _ _ _ h=>h) (Or.inl ⟨by rfl,fun W hW=>ldA rfl (HLo.out.past hW).row⟩) HS0 ?_
 simp only [sA,sB,sC]
 refine takeK (i:=5) (d:=116) (v:=.agg (agArr gm pm)) rfl rfl (by kernel_rfl) (by kernel_rfl) (by kernel_rfl) (by decide) (by kernel_rfl) (fun _ _ _ h=>h) (Or.inl ⟨by rfl,fun W hW=>ldA rfl (HLm.out.past hW).row⟩) HS0 ?_
 refine takeK (i:=6) (d:=117) (v:=.agg (sxArr x)) rfl rfl (by kernel_rfl) (by kernel_rfl) (by kernel_rfl) (by decide) (by kernel_rfl) (fun _ _ _ h=>h) (Or.inl ⟨by rfl,fun W hW=>ldX rfl (HLx.out.past hW).row⟩) HS0 ?_
 simp only [sA,sB,sC]
 refine onE (i:=2) rfl (fun K hK=>?_)
 go_simp
 refine (c_putI (HLb.out.i.past HS0) HLx.out.ok (Hmx.out.past HS0)).mono ?_
 rintro e W2 ⟨o2,q2,rfl,hp,ho,ok,sm,hb⟩
 have HBW2:Hid (Below w0.heap.size w0 W2):=(HS0:Below w0.heap.size w0 _).trans (hb.mono (HS0:Below w0.heap.size w0 _).size)
 have HP2:=hide hp
 have HI2:=hide (AI.of ok sm ho)
 clear hp ho ok sm hb
 try dsimp only
 refine hK.out _ _ (fun _=>HBW2.out) ?_
 clear hK K
 try simp only [Act.put,sA,sB,sC]
 refine onE (i:=4) rfl (fun K hK=>?_)
 go_simp
 refine (c_mrgI HI2.out (HLo.out.i.past HBW2.out)).mono ?_
 rintro e W4 ⟨o4,q4,rfl,hp,ho,ok,sm,hb⟩
 have HBW4:Hid (Below w0.heap.size w0 W4):=(HBW2.out:Below w0.heap.size w0 _).trans (hb.mono (HBW2.out:Below w0.heap.size w0 _).size)
 have HP4:=hide hp
 have HI4:=hide (AI.of ok sm ho)
 clear hp ho ok sm hb
 try dsimp only
 refine hK.out _ _ (fun _=>HBW4.out) ?_
 clear hK K
 try simp only [Act.put,sA,sB,sC]
 refine onE (i:=7) rfl (fun K hK=>?_)
 go_simp
 refine (c_putI (HLm.out.i.past HBW4.out) HLx.out.ok (Hmx.out.past HBW4.out)).mono ?_
 rintro e W7 ⟨o7,q7,rfl,hp,ho,ok,sm,hb⟩
 have HBW7:Hid (Below w0.heap.size w0 W7):=(HBW4.out:Below w0.heap.size w0 _).trans (hb.mono (HBW4.out:Below w0.heap.size w0 _).size)
 have HP7:=hide hp
 have HI7:=hide (AI.of ok sm ho)
 replace HI4:=hide (HI4.out.past hb)
 clear hp ho ok sm hb
 try dsimp only
 refine hK.out _ _ (fun _=>HBW7.out) ?_
 clear hK K
 try simp only [Act.put,sA,sB,sC]
 obtain rfl:=put_mrgA HLx.out.ok HhRR.out HLb.out.i.ok HLo.out.i.ok HP2.out HP4.out HhM.out HP7.out
 refine onE (i:=8) rfl (fun K hK=>?_)
 go_simp
 refine (c_sameSI HI4.out HI7.out).mono ?_
 rintro e W8 ⟨rfl,hb⟩
 have HBW8:Hid (Below w0.heap.size w0 W8):=(HBW7.out:Below w0.heap.size w0 _).trans (hb.mono (HBW7.out:Below w0.heap.size w0 _).size)
 clear hb
 try dsimp only
 refine hK.out _ _ (fun _=>HBW8.out) ?_
 clear hK K
 try simp only [Act.put,sA,sB,sC]
 refine tkL (i:=9) (d:=120) (v:=.bool true) rfl rfl HBW8.out (fun W hW=>by clear hW;go_simp) ?_
 refine takeK (i:=10) (d:=121) (v:=.agg (agArr g1 p1)) rfl rfl (by kernel_rfl) (by kernel_rfl) (by kernel_rfl) (by decide) (by kernel_rfl) (fun _ _ _ h=>h) (Or.inl ⟨by rfl,fun W hW=>ldA rfl (HLb.out.past hW).row⟩) HBW8.out ?_
 refine takeK (i:=15) (d:=126) (v:=.agg (agArr g1 p1)) rfl rfl (by kernel_rfl) (by kernel_rfl) (by kernel_rfl) (by decide) (by kernel_rfl) (fun _ _ _ h=>h) (Or.inl ⟨by rfl,fun W hW=>ldA rfl (HLb.out.past hW).row⟩) HBW8.out ?_
 simp only [sA,sB,sC]
 refine tkL (i:=11) (d:=122) (v:=.pointer (some ⟨rb,0,none⟩)) rfl rfl HBW8.out (fun W hW=>by clear hW;go_simp) ?_
 refine tkL (i:=12) (d:=123) (v:=.int .i64 g1.k) rfl rfl HBW8.out (fun W hW=>?_) ?_
 ·have c0:=cellK (HLb.out.past hW).row 0 rfl
  clear hW
  go_simp
 simp only [sA,sB,sC]
 refine onE (i:=13) rfl (fun K hK=>?_)
 go_simp
 refine (c_newI HK1.out HK4.out).mono ?_
 rintro e W13 ⟨rfl,hb⟩
 have HBW13:Hid (Below w0.heap.size w0 W13):=(HBW8.out:Below w0.heap.size w0 _).trans (hb.mono (HBW8.out:Below w0.heap.size w0 _).size)
 clear hb
 try dsimp only
 refine hK.out _ _ (fun _=>HBW13.out) ?_
 clear hK K
 try simp only [Act.put,sA,sB,sC]
 refine onE (i:=14) rfl (fun K hK=>?_)
 go_simp
 refine (c_mrgI (HLb.out.i.past HBW13.out) (ai_new _ HK1.out HK4.out)).mono ?_
 rintro e W14 ⟨o14,q14,rfl,hp,ho,ok,sm,hb⟩
 have HBW14:Hid (Below w0.heap.size w0 W14):=(HBW13.out:Below w0.heap.size w0 _).trans (hb.mono (HBW13.out:Below w0.heap.size w0 _).size)
 have HP14:=hide hp
 have HI14:=hide (AI.of ok sm ho)
 clear hp ho ok sm hb
 try dsimp only
 refine hK.out _ _ (fun _=>HBW14.out) ?_
 clear hK K
 try simp only [Act.put,sA,sB,sC]
 obtain rfl:=(mrg_new HLb.out.i.ok HhRR.out.r HP14.out).symm
 refine onE (i:=16) rfl (fun K hK=>?_)
 go_simp
 refine (c_sameSI HI14.out (HLb.out.i.past HBW14.out)).mono ?_
 rintro e W16 ⟨rfl,hb⟩
 have HBW16:Hid (Below w0.heap.size w0 W16):=(HBW14.out:Below w0.heap.size w0 _).trans (hb.mono (HBW14.out:Below w0.heap.size w0 _).size)
 clear hb
 try dsimp only
 refine hK.out _ _ (fun _=>HBW16.out) ?_
 clear hK K
 try simp only [Act.put,sA,sB,sC]
 refine tkL (i:=17) (d:=128) (v:=.bool true) rfl rfl HBW16.out (fun W hW=>by clear hW;go_simp) ?_
 simp only [sA,sB,sC]
 refine onE (i:=18) rfl (fun K hK=>?_)
 go_simp
 try dsimp only
 refine hK.out _ _ (fun _=>HBW16.out) ?_
 clear hK K
 try simp only [Act.put,sA,sB,sC]
 refine doneK (by kernel_rfl) ?_ _
 go_wp2
 exact HQ.out W16 _ _ _ _ _ _ _ _ _ _ _ _ _ _ _ _ _ _ HBW16.out
end Go.Proofs.YthpilcoklapooaaGreatDoor
