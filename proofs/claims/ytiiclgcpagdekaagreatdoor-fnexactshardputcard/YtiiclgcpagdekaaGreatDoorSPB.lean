/-
 Three boxes.
-/
import Derived.Test.YtiiclgcpagdekaaGreatDoorSPA
namespace Go.Proofs.YtiiclgcpagdekaaGreatDoor
set_option linter.unusedVariables false
set_option linter.unusedSimpArgs false
open Go.ChangeShapes Go.WideShapes Go.ChangeAt Go.RowKit Go.PlainAid Go.Lib
set_option maxRecDepth 10000
theorem box_put (w:World) (g:Ag) (p:Pl) (x:Sx):Hid (Below w.heap.size w (((w.alloc (.cells (agArr g p) 79)).alloc (.cells (sxArr x) 37)).alloc (.cells z13 79)))∧Hid (∀ W,Below (((w.alloc (.cells (agArr g p) 79)).alloc (.cells (sxArr x) 37)).alloc (.cells z13 79)).heap.size (((w.alloc (.cells (agArr g p) 79)).alloc (.cells (sxArr x) 37)).alloc (.cells z13 79)) W→W.heap[w.heap.size]?=some (.cells (agArr g p) 79 (0,0))∧W.heap[w.heap.size+1]?=some (.cells (sxArr x) 37 (0,0))∧W.heap[w.heap.size+1+1]?=some (.cells z13 79 (0,0)))∧Hid ((((w.alloc (.cells (agArr g p) 79)).alloc (.cells (sxArr x) 37)).alloc (.cells z13 79)).heap.size=w.heap.size+1+1+1):=by
 have a1:∀ (W:World) o,Below W.heap.size W (W.alloc o):=fun W o=>(Below.refl _ _).alloc (Nat.le_refl _) _
 have k0:=heap_alloc_new w (.cells (agArr g p) 79)
 have k1:=heap_alloc_new (w.alloc (.cells (agArr g p) 79)) (.cells (sxArr x) 37)
 have k2:=heap_alloc_new ((w.alloc (.cells (agArr g p) 79)).alloc (.cells (sxArr x) 37)) (.cells z13 79)
 simp only [World.size_alloc] at k1 k2
 exact ⟨hide (chain (chain (a1 _ _) (a1 _ _)) (a1 _ _)),hide (fun W hW=>⟨(hW.block _ (by simp <;> omega)).trans (((a1 _ _).block _ (by simp <;> omega)).trans (((a1 _ _).block _ (by simp)).trans k0)),(hW.block _ (by simp <;> omega)).trans (((a1 _ _).block _ (by simp)).trans k1),(hW.block _ (by simp)).trans k2⟩),(by simp;exact hide trivial)⟩
theorem sx_cells {w:World} {b:Nat} {x:Sx} {T:TypeId} (h:w.heap[b]?=some (.cells (sxArr x) T (0,0))):w.cell? ⟨b,0,none⟩=some (.int .i64 x.k)∧w.cell? ⟨b,1,none⟩=some (.string x.se)∧w.cell? ⟨b,2,none⟩=some (.int .i64 x.v)∧w.cell? ⟨b,3,none⟩=some (.string x.wd)∧w.cell? ⟨b,4,none⟩=some (.int .u64 x.wt)∧w.cell? ⟨b,5,none⟩=some (.bool x.tm)∧w.cell? ⟨b,6,none⟩=some (.int .i64 x.ti):=
 ⟨cellK h 0 rfl,cellK h 1 rfl,cellK h 2 rfl,cellK h 3 rfl,cellK h 4 rfl,cellK h 5 rfl,cellK h 6 rfl⟩
set_option maxHeartbeats 16000000 in
theorem c_i_AggPut {w:World} {g:Ag} {p:Pl} (x:Sx) (ok:AgOk g) (ox:x.Ok) (sm:AgSm g) (pl:PlG g p) (hm:MX w) (hA:AgAt w g p) :
  Calls Tryz.prog 56 #[.agg (agArr g p),.agg (sxArr x)] w fun e w'=>AgRes w (AgPut g x) e w':=by
 have OK:=hide ok
 have OX:=hide ox
 have SM:=hide sm
 have PL:=hide pl
 have HA:=hide hA
 obtain ⟨HT0,HC0,HZ0⟩:=box_put w g p x
 have HMx:=hide (hm.past HT0.out)
 clear ok ox sm pl hA hm
 go_enter Tryz.func56,Tryz.ntmps56
 go_wp2_with fail
 generalize ((w.alloc (.cells (agArr g p) 79)).alloc (.cells (sxArr x) 37)).alloc (.cells z13 79)=W0 at HT0 HC0 HZ0 HMx ⊢
 refine (c_i_AggRight (g:=g) (p:=p) OK.out SM.out (ag_past HA.out HT0.out)).mono ?_
 rintro e w1 ⟨rfl,hb1⟩
 rw [ag_one]
 have HC1:Hid (∀ W,Below w1.heap.size w1 W→W.heap[w.heap.size]?=some (.cells (agArr g p) 79 (0,0))∧W.heap[w.heap.size+1]?=some (.cells (sxArr x) 37 (0,0))∧W.heap[w.heap.size+1+1]?=some (.cells z13 79 (0,0))):=fun W hW=>HC0.out W (chain hb1 hW)
 have HT1:=hide (chain HT0.out hb1)
 have HM1:=hide (HMx.out.past hb1)
 have hz1:w.heap.size+1+1+1≤w1.heap.size:=by have:=hb1.size;have:=HZ0.out;omega
 clear hb1 HC0 HMx HZ0 HT0
 cases hq:agB g with
 | false=>
  have HQ:Hid (AgPut g x g):=put_no (fun h=>by rw [hq] at h;cases h.1)
  have HRa:=hide (HC1.out _ (Below.refl _ _)).1
  have x0:=cellK HRa.out 0 rfl
  have x1:=cellK HRa.out 1 rfl
  have x2:=cellK HRa.out 2 rfl
  have x3:=cellK HRa.out 3 rfl
  have x4:=cellK HRa.out 4 rfl
  have x5:=cellK HRa.out 5 rfl
  have x6:=cellK HRa.out 6 rfl
  have x7:=cellK HRa.out 7 rfl
  have x8:=cellK HRa.out 8 rfl
  have x9:=cellK HRa.out 9 rfl
  have x10:=cellK HRa.out 10 rfl
  have x11:=cellK HRa.out 11 rfl
  have x12:=cellK HRa.out 12 rfl
  obtain ⟨y0,y1,y2,y3,y4,y5,y6⟩:=sx_cells (HC1.out _ (Below.refl _ _)).2.1
  go_wp2_with fail
  clear x0 x1 x2 x3 x4 x5 x6 x7 x8 x9 x10 x11 x12 y0 y1 y2 y3 y4 y5 y6
  refine (c_copyAgg SM.out PL.out (ag_past HA.out HT1.out)).mono ?_
  rintro e wc ⟨vc,oc,rfl,rfl,⟨pc,rfl,hO⟩,hbc⟩
  have HO:=hide hO
  have HTc:=hide (chain HT1.out hbc)
  have HRc:=hide (HC1.out _ hbc).2.2
  have hzw:=HT1.out.size
  clear hO hbc
  have q0:=cellK HRc.out 0 rfl
  have q1:=cellK HRc.out 1 rfl
  have q2:=cellK HRc.out 2 rfl
  have q3:=cellK HRc.out 3 rfl
  have q4:=cellK HRc.out 4 rfl
  have q5:=cellK HRc.out 5 rfl
  have q6:=cellK HRc.out 6 rfl
  have q7:=cellK HRc.out 7 rfl
  have q8:=cellK HRc.out 8 rfl
  have q9:=cellK HRc.out 9 rfl
  have q10:=cellK HRc.out 10 rfl
  have q11:=cellK HRc.out 11 rfl
  have q12:=cellK HRc.out 12 rfl
  have f0:=fzR 0 HRc.out
  have f1:=fzR 1 HRc.out
  have f2:=fzR 2 HRc.out
  have f3:=fzR 3 HRc.out
  have f4:=fzR 4 HRc.out
  have f5:=fzR 5 HRc.out
  have f6:=fzR 6 HRc.out
  have f7:=fzR 7 HRc.out
  have f8:=fzR 8 HRc.out
  have f9:=fzR 9 HRc.out
  have f10:=fzR 10 HRc.out
  have f11:=fzR 11 HRc.out
  have f12:=fzR 12 HRc.out
  go_wp2
  refine bodyPost_ret (v:=.agg (agArr oc pc)) (by simp [results,Tryz.results56,go_sem,q0,q1,q2,q3,q4,q5,q6,q7,q8,q9,q10,q11,q12]) rfl (AgRes.mk (o:=oc) (p:=pc) HQ.out ?_ ?_)
  ·refine AgO.le (B:=w1.heap.size) ?_ (by omega)
   repeat (refine AgO.below ?_ (by omega) _)
   exact HO.out
  ·repeat (refine Below.setCell ?_ (by simp <;> omega) _)
   exact HTc.out
 | true=>
  obtain ⟨y0,y1,y2,y3,y4,y5,y6⟩:=sx_cells (HC1.out _ (Below.refl _ _)).2.1
  go_wp2_with fail
  clear y0 y1 y2 y3 y4 y5 y6
  refine (c_i_SampleRight x.k x.se x.v x.wd x.wt x.tm x.ti HM1.out OX.out.se OX.out.wd).mono ?_
  rintro e w2 ⟨rfl,hb2⟩
  have HC:Hid (∀ W,Below w2.heap.size w2 W→W.heap[w.heap.size]?=some (.cells (agArr g p) 79 (0,0))∧W.heap[w.heap.size+1]?=some (.cells (sxArr x) 37 (0,0))∧W.heap[w.heap.size+1+1]?=some (.cells z13 79 (0,0))):=fun W hW=>HC1.out W (chain hb2 hW)
  have HT2:=hide (chain HT1.out hb2)
  have hz2:=hb2.size
  clear hb2 HC1
  cases hs:smpB x.k x.se x.v x.wd x.wt x.tm x.ti with
  | false=>
   have HQ:Hid (AgPut g x g):=put_no (fun h=>by have:=h.2.1;unfold Sx.B at this;rw [hs] at this;cases this)
   have HRa:=hide (HC.out _ (Below.refl _ _)).1
   have x0:=cellK HRa.out 0 rfl
   have x1:=cellK HRa.out 1 rfl
   have x2:=cellK HRa.out 2 rfl
   have x3:=cellK HRa.out 3 rfl
   have x4:=cellK HRa.out 4 rfl
   have x5:=cellK HRa.out 5 rfl
   have x6:=cellK HRa.out 6 rfl
   have x7:=cellK HRa.out 7 rfl
   have x8:=cellK HRa.out 8 rfl
   have x9:=cellK HRa.out 9 rfl
   have x10:=cellK HRa.out 10 rfl
   have x11:=cellK HRa.out 11 rfl
   have x12:=cellK HRa.out 12 rfl
   obtain ⟨y0,y1,y2,y3,y4,y5,y6⟩:=sx_cells (HC.out _ (Below.refl _ _)).2.1
   go_wp2_with fail
   clear x0 x1 x2 x3 x4 x5 x6 x7 x8 x9 x10 x11 x12 y0 y1 y2 y3 y4 y5 y6
   refine (c_copyAgg SM.out PL.out (ag_past HA.out HT2.out)).mono ?_
   rintro e wc ⟨vc,oc,rfl,rfl,⟨pc,rfl,hO⟩,hbc⟩
   have HO:=hide hO
   have HTc:=hide (chain HT2.out hbc)
   have HRc:=hide (HC.out _ hbc).2.2
   have hzw:=HT2.out.size
   clear hO hbc
   have q0:=cellK HRc.out 0 rfl
   have q1:=cellK HRc.out 1 rfl
   have q2:=cellK HRc.out 2 rfl
   have q3:=cellK HRc.out 3 rfl
   have q4:=cellK HRc.out 4 rfl
   have q5:=cellK HRc.out 5 rfl
   have q6:=cellK HRc.out 6 rfl
   have q7:=cellK HRc.out 7 rfl
   have q8:=cellK HRc.out 8 rfl
   have q9:=cellK HRc.out 9 rfl
   have q10:=cellK HRc.out 10 rfl
   have q11:=cellK HRc.out 11 rfl
   have q12:=cellK HRc.out 12 rfl
   have f0:=fzR 0 HRc.out
   have f1:=fzR 1 HRc.out
   have f2:=fzR 2 HRc.out
   have f3:=fzR 3 HRc.out
   have f4:=fzR 4 HRc.out
   have f5:=fzR 5 HRc.out
   have f6:=fzR 6 HRc.out
   have f7:=fzR 7 HRc.out
   have f8:=fzR 8 HRc.out
   have f9:=fzR 9 HRc.out
   have f10:=fzR 10 HRc.out
   have f11:=fzR 11 HRc.out
   have f12:=fzR 12 HRc.out
   go_wp2
   refine bodyPost_ret (v:=.agg (agArr oc pc)) (by simp [results,Tryz.results56,go_sem,q0,q1,q2,q3,q4,q5,q6,q7,q8,q9,q10,q11,q12]) rfl (AgRes.mk (o:=oc) (p:=pc) HQ.out ?_ ?_)
   ·refine AgO.le (B:=w2.heap.size) ?_ (by omega)
    repeat (refine AgO.below ?_ (by omega) _)
    exact HO.out
   ·repeat (refine Below.setCell ?_ (by simp <;> omega) _)
    exact HTc.out
  | true=>
   by_cases hk:g.k=x.k
   ·have HG:Hid (agB g=true∧x.B=true∧g.k=x.k):=⟨hq,hs,hk⟩
    have NO:=hide (agB_no hq)
    have hb:(x.k != g.k)=false:=by simp [hk]
    have x0:=cellK (HC.out _ (Below.refl _ _)).1 0 rfl
    have y0:=cellK (HC.out _ (Below.refl _ _)).2.1 0 rfl
    clear hq hs hk
    go_wp2_with fail
    clear x0 y0 hb
    have hkk:g.k=1∨g.k=2∨g.k=3∨g.k=4:=by have:=NO.out.k1;have:=NO.out.k4;omega
    rcases hkk with h | h | h | h
    ·have HK1:=hide h
     clear h
     have HS0:(fun W=>Below w2.heap.size w2 W) w2.drew:=(Below.refl _ _).drew
     refine regionK (fun W=>Below w2.heap.size w2 W) 8 (by kernel_rfl) ?_
     refine tkS (i:=0) (v:=.pointer (some ⟨w.heap.size,1,none⟩)) rfl rfl HS0 ?_
     refine tkL (i:=1) (v:=.int .u64 g.s) rfl rfl HS0 (fun W hW=>?_) ?_
     ·have hWW:=HC.out W hW
      have x0:=cellK hWW.1 0 rfl
      have x1:=cellK hWW.1 1 rfl
      have x2:=cellK hWW.1 2 rfl
      have x3:=cellK hWW.1 3 rfl
      have x4:=cellK hWW.1 4 rfl
      have x5:=cellK hWW.1 5 rfl
      have x6:=cellK hWW.1 6 rfl
      have x7:=cellK hWW.1 7 rfl
      have x8:=cellK hWW.1 8 rfl
      have x9:=cellK hWW.1 9 rfl
      have x10:=cellK hWW.1 10 rfl
      have x11:=cellK hWW.1 11 rfl
      have x12:=cellK hWW.1 12 rfl
      obtain ⟨y0,y1,y2,y3,y4,y5,y6⟩:=sx_cells hWW.2.1
      clear hWW
      clear hW
      go_simp
     refine tkL (i:=3) (v:=.agg (agArr g p)) rfl rfl HS0 (fun W hW=>?_) ?_
     ·have hWW:=HC.out W hW
      have x0:=cellK hWW.1 0 rfl
      have x1:=cellK hWW.1 1 rfl
      have x2:=cellK hWW.1 2 rfl
      have x3:=cellK hWW.1 3 rfl
      have x4:=cellK hWW.1 4 rfl
      have x5:=cellK hWW.1 5 rfl
      have x6:=cellK hWW.1 6 rfl
      have x7:=cellK hWW.1 7 rfl
      have x8:=cellK hWW.1 8 rfl
      have x9:=cellK hWW.1 9 rfl
      have x10:=cellK hWW.1 10 rfl
      have x11:=cellK hWW.1 11 rfl
      have x12:=cellK hWW.1 12 rfl
      obtain ⟨y0,y1,y2,y3,y4,y5,y6⟩:=sx_cells hWW.2.1
      clear hWW
      clear hW
      go_simp
     simp only [sA,sB,sC]
     refine tkL (i:=5) (v:=.agg (sxArr x)) rfl rfl HS0 (fun W hW=>?_) ?_
     ·have hWW:=HC.out W hW
      have x0:=cellK hWW.1 0 rfl
      have x1:=cellK hWW.1 1 rfl
      have x2:=cellK hWW.1 2 rfl
      have x3:=cellK hWW.1 3 rfl
      have x4:=cellK hWW.1 4 rfl
      have x5:=cellK hWW.1 5 rfl
      have x6:=cellK hWW.1 6 rfl
      have x7:=cellK hWW.1 7 rfl
      have x8:=cellK hWW.1 8 rfl
      have x9:=cellK hWW.1 9 rfl
      have x10:=cellK hWW.1 10 rfl
      have x11:=cellK hWW.1 11 rfl
      have x12:=cellK hWW.1 12 rfl
      obtain ⟨y0,y1,y2,y3,y4,y5,y6⟩:=sx_cells hWW.2.1
      clear hWW
      clear hW
      go_simp
     simp only [sA,sB,sC]
     refine onE (i:=2) rfl (fun K hK=>?_)
     go_simp
     refine (c_i_WeightAdd _ _ OK.out.s (by unfold U64;omega) _).mono ?_
     rintro e wz ⟨rfl,hwz⟩
     obtain rfl:=hwz.symm
     dsimp only
     refine hK.out _ _ (fun _=>HS0) ?_
     clear hK K
     try simp only [Act.put,sA,sB,sC]
     refine onE (i:=4) rfl (fun K hK=>?_)
     go_simp
     refine (c_partOfC (g:=g) (p:=p) _ HK1.out).mono ?_
     rintro e w4 ⟨rfl,hb4⟩
     have HB4:Hid (Below w2.heap.size w2 w4):=(HS0:Below w2.heap.size w2 w2.drew).trans (hb4.mono (Nat.le_refl _))
     clear hb4
     dsimp only
     refine hK.out _ _ (fun _=>HB4.out) ?_
     clear hK K
     try simp only [Act.put,sA,sB,sC]
     refine onE (i:=6) rfl (fun K hK=>?_)
     go_simp
     refine (c_cput g.h g.l x _ OK.out.l OX.out).mono ?_
     rintro e w5 ⟨rfl,hb5⟩
     have HB5:Hid (Below w2.heap.size w2 w5):=chain HB4.out hb5
     clear hb5
     dsimp only
     refine hK.out _ _ (fun _=>HB5.out) ?_
     clear hK K
     try simp only [Act.put,sA,sB,sC]
     refine onE (i:=7) rfl (fun K hK=>?_)
     go_simp
     refine (c_aggWithC ⟨0,wAdd g.s 1,addH g.h g.l (thH x.v x.wt) (thL x.v x.wt),addL g.l (thL x.v x.wt),0,0,0,[],[],0,0,[],[]⟩ pl0 _).mono ?_
     rintro e w6 ⟨rfl,hb6⟩
     have HB6:Hid (Below w2.heap.size w2 w6):=chain HB5.out hb6
     have HB56:=hide hb6
     clear hb6
     have HR6:=hide (HC.out _ HB6.out).2.2
     have q0:=cellK HR6.out 0 rfl
     have q1:=cellK HR6.out 1 rfl
     have q2:=cellK HR6.out 2 rfl
     have q3:=cellK HR6.out 3 rfl
     have q4:=cellK HR6.out 4 rfl
     have q5:=cellK HR6.out 5 rfl
     have q6:=cellK HR6.out 6 rfl
     have q7:=cellK HR6.out 7 rfl
     have q8:=cellK HR6.out 8 rfl
     have q9:=cellK HR6.out 9 rfl
     have q10:=cellK HR6.out 10 rfl
     have q11:=cellK HR6.out 11 rfl
     have q12:=cellK HR6.out 12 rfl
     have f0:=fzR 0 HR6.out
     have f1:=fzR 1 HR6.out
     have f2:=fzR 2 HR6.out
     have f3:=fzR 3 HR6.out
     have f4:=fzR 4 HR6.out
     have f5:=fzR 5 HR6.out
     have f6:=fzR 6 HR6.out
     have f7:=fzR 7 HR6.out
     have f8:=fzR 8 HR6.out
     have f9:=fzR 9 HR6.out
     have f10:=fzR 10 HR6.out
     have f11:=fzR 11 HR6.out
     have f12:=fzR 12 HR6.out
     dsimp only
     refine hK.out _ _ (fun _=>HB6.out) ?_
     clear hK K
     try simp only [Act.put,sA,sB,sC]
     refine onE (i:=8) rfl (fun K hK=>?_)
     go_simp
     refine hK.out _ _ (fun h=>absurd rfl h) ?_
     clear hK K
     try simp only [Act.put,sA,sB,sC]
     refine doneK (by kernel_rfl) ?_ _
     go_wp2
     refine bodyPost_ret (v:=.agg (agArr ⟨1,wAdd g.s 1,addH g.h g.l (thH x.v x.wt) (thL x.v x.wt),addL g.l (thL x.v x.wt),0,0,0,[],[],0,0,[],[]⟩ pl0)) (by simp [results,Tryz.results56,go_sem,q0,q1,q2,q3,q4,q5,q6,q7,q8,q9,q10,q11,q12]) rfl (AgRes.mk (o:=⟨1,wAdd g.s 1,addH g.h g.l (thH x.v x.wt) (thL x.v x.wt),addL g.l (thL x.v x.wt),0,0,0,[],[],0,0,[],[]⟩) (p:=pl0) ?_ ?_ ?_)
     ·exact putC OX.out HG.out.1 HG.out.2.1 HG.out.2.2 HK1.out
     ·exact AgO.nil _ _ rfl rfl rfl rfl
     ·repeat (refine Below.setCell ?_ (by simp <;> omega) _)
      exact chain HT2.out HB6.out
    ·have HK1:=hide h
     clear h
     have HS0:(fun W=>Below w2.heap.size w2 W) w2.drew:=(Below.refl _ _).drew
     refine regionK (fun W=>Below w2.heap.size w2 W) 8 (by kernel_rfl) ?_
     refine tkS (i:=0) (v:=.pointer (some ⟨w.heap.size,1,none⟩)) rfl rfl HS0 ?_
     refine tkL (i:=1) (v:=.int .u64 g.s) rfl rfl HS0 (fun W hW=>?_) ?_
     ·have hWW:=HC.out W hW
      have x0:=cellK hWW.1 0 rfl
      have x1:=cellK hWW.1 1 rfl
      have x2:=cellK hWW.1 2 rfl
      have x3:=cellK hWW.1 3 rfl
      have x4:=cellK hWW.1 4 rfl
      have x5:=cellK hWW.1 5 rfl
      have x6:=cellK hWW.1 6 rfl
      have x7:=cellK hWW.1 7 rfl
      have x8:=cellK hWW.1 8 rfl
      have x9:=cellK hWW.1 9 rfl
      have x10:=cellK hWW.1 10 rfl
      have x11:=cellK hWW.1 11 rfl
      have x12:=cellK hWW.1 12 rfl
      obtain ⟨y0,y1,y2,y3,y4,y5,y6⟩:=sx_cells hWW.2.1
      clear hWW
      clear hW
      go_simp
     refine tkL (i:=3) (v:=.agg (agArr g p)) rfl rfl HS0 (fun W hW=>?_) ?_
     ·have hWW:=HC.out W hW
      have x0:=cellK hWW.1 0 rfl
      have x1:=cellK hWW.1 1 rfl
      have x2:=cellK hWW.1 2 rfl
      have x3:=cellK hWW.1 3 rfl
      have x4:=cellK hWW.1 4 rfl
      have x5:=cellK hWW.1 5 rfl
      have x6:=cellK hWW.1 6 rfl
      have x7:=cellK hWW.1 7 rfl
      have x8:=cellK hWW.1 8 rfl
      have x9:=cellK hWW.1 9 rfl
      have x10:=cellK hWW.1 10 rfl
      have x11:=cellK hWW.1 11 rfl
      have x12:=cellK hWW.1 12 rfl
      obtain ⟨y0,y1,y2,y3,y4,y5,y6⟩:=sx_cells hWW.2.1
      clear hWW
      clear hW
      go_simp
     simp only [sA,sB,sC]
     refine tkL (i:=5) (v:=.agg (sxArr x)) rfl rfl HS0 (fun W hW=>?_) ?_
     ·have hWW:=HC.out W hW
      have x0:=cellK hWW.1 0 rfl
      have x1:=cellK hWW.1 1 rfl
      have x2:=cellK hWW.1 2 rfl
      have x3:=cellK hWW.1 3 rfl
      have x4:=cellK hWW.1 4 rfl
      have x5:=cellK hWW.1 5 rfl
      have x6:=cellK hWW.1 6 rfl
      have x7:=cellK hWW.1 7 rfl
      have x8:=cellK hWW.1 8 rfl
      have x9:=cellK hWW.1 9 rfl
      have x10:=cellK hWW.1 10 rfl
      have x11:=cellK hWW.1 11 rfl
      have x12:=cellK hWW.1 12 rfl
      obtain ⟨y0,y1,y2,y3,y4,y5,y6⟩:=sx_cells hWW.2.1
      clear hWW
      clear hW
      go_simp
     simp only [sA,sB,sC]
     refine onE (i:=2) rfl (fun K hK=>?_)
     go_simp
     refine (c_i_WeightAdd _ _ OK.out.s (by unfold U64;omega) _).mono ?_
     rintro e wz ⟨rfl,hwz⟩
     obtain rfl:=hwz.symm
     dsimp only
     refine hK.out _ _ (fun _=>HS0) ?_
     clear hK K
     try simp only [Act.put,sA,sB,sC]
     refine onE (i:=4) rfl (fun K hK=>?_)
     go_simp
     refine (c_partOfG (g:=g) (p:=p) _ HK1.out).mono ?_
     rintro e w4 ⟨rfl,hb4⟩
     have HB4:Hid (Below w2.heap.size w2 w4):=(HS0:Below w2.heap.size w2 w2.drew).trans (hb4.mono (Nat.le_refl _))
     clear hb4
     dsimp only
     refine hK.out _ _ (fun _=>HB4.out) ?_
     clear hK K
     try simp only [Act.put,sA,sB,sC]
     refine onE (i:=6) rfl (fun K hK=>?_)
     go_simp
     refine (c_gput g.a g.t x _).mono ?_
     rintro e w5 ⟨rfl,hb5⟩
     have HB5:Hid (Below w2.heap.size w2 w5):=chain HB4.out hb5
     clear hb5
     dsimp only
     refine hK.out _ _ (fun _=>HB5.out) ?_
     clear hK K
     try simp only [Act.put,sA,sB,sC]
     refine onE (i:=7) rfl (fun K hK=>?_)
     go_simp
     refine (c_aggWithG ⟨0,wAdd g.s 1,0,0,gA g.a g.t x.v x.ti,gT g.a g.t x.v x.ti,0,[],[],0,0,[],[]⟩ pl0 _).mono ?_
     rintro e w6 ⟨rfl,hb6⟩
     have HB6:Hid (Below w2.heap.size w2 w6):=chain HB5.out hb6
     have HB56:=hide hb6
     clear hb6
     have HR6:=hide (HC.out _ HB6.out).2.2
     have q0:=cellK HR6.out 0 rfl
     have q1:=cellK HR6.out 1 rfl
     have q2:=cellK HR6.out 2 rfl
     have q3:=cellK HR6.out 3 rfl
     have q4:=cellK HR6.out 4 rfl
     have q5:=cellK HR6.out 5 rfl
     have q6:=cellK HR6.out 6 rfl
     have q7:=cellK HR6.out 7 rfl
     have q8:=cellK HR6.out 8 rfl
     have q9:=cellK HR6.out 9 rfl
     have q10:=cellK HR6.out 10 rfl
     have q11:=cellK HR6.out 11 rfl
     have q12:=cellK HR6.out 12 rfl
     have f0:=fzR 0 HR6.out
     have f1:=fzR 1 HR6.out
     have f2:=fzR 2 HR6.out
     have f3:=fzR 3 HR6.out
     have f4:=fzR 4 HR6.out
     have f5:=fzR 5 HR6.out
     have f6:=fzR 6 HR6.out
     have f7:=fzR 7 HR6.out
     have f8:=fzR 8 HR6.out
     have f9:=fzR 9 HR6.out
     have f10:=fzR 10 HR6.out
     have f11:=fzR 11 HR6.out
     have f12:=fzR 12 HR6.out
     dsimp only
     refine hK.out _ _ (fun _=>HB6.out) ?_
     clear hK K
     try simp only [Act.put,sA,sB,sC]
     refine onE (i:=8) rfl (fun K hK=>?_)
     go_simp
     refine hK.out _ _ (fun h=>absurd rfl h) ?_
     clear hK K
     try simp only [Act.put,sA,sB,sC]
     refine doneK (by kernel_rfl) ?_ _
     go_wp2
     refine bodyPost_ret (v:=.agg (agArr ⟨2,wAdd g.s 1,0,0,gA g.a g.t x.v x.ti,gT g.a g.t x.v x.ti,0,[],[],0,0,[],[]⟩ pl0)) (by simp [results,Tryz.results56,go_sem,q0,q1,q2,q3,q4,q5,q6,q7,q8,q9,q10,q11,q12]) rfl (AgRes.mk (o:=⟨2,wAdd g.s 1,0,0,gA g.a g.t x.v x.ti,gT g.a g.t x.v x.ti,0,[],[],0,0,[],[]⟩) (p:=pl0) ?_ ?_ ?_)
     ·exact putG OX.out HG.out.1 HG.out.2.1 HG.out.2.2 HK1.out
     ·exact AgO.nil _ _ rfl rfl rfl rfl
     ·repeat (refine Below.setCell ?_ (by simp <;> omega) _)
      exact chain HT2.out HB6.out
    ·have HK1:=hide h
     clear h
     have HS0:(fun W=>Below w2.heap.size w2 W) w2.drew:=(Below.refl _ _).drew
     refine regionK (fun W=>Below w2.heap.size w2 W) 8 (by kernel_rfl) ?_
     refine tkS (i:=0) (v:=.pointer (some ⟨w.heap.size,1,none⟩)) rfl rfl HS0 ?_
     refine tkL (i:=1) (v:=.int .u64 g.s) rfl rfl HS0 (fun W hW=>?_) ?_
     ·have hWW:=HC.out W hW
      have x0:=cellK hWW.1 0 rfl
      have x1:=cellK hWW.1 1 rfl
      have x2:=cellK hWW.1 2 rfl
      have x3:=cellK hWW.1 3 rfl
      have x4:=cellK hWW.1 4 rfl
      have x5:=cellK hWW.1 5 rfl
      have x6:=cellK hWW.1 6 rfl
      have x7:=cellK hWW.1 7 rfl
      have x8:=cellK hWW.1 8 rfl
      have x9:=cellK hWW.1 9 rfl
      have x10:=cellK hWW.1 10 rfl
      have x11:=cellK hWW.1 11 rfl
      have x12:=cellK hWW.1 12 rfl
      obtain ⟨y0,y1,y2,y3,y4,y5,y6⟩:=sx_cells hWW.2.1
      clear hWW
      clear hW
      go_simp
     refine tkL (i:=3) (v:=.agg (agArr g p)) rfl rfl HS0 (fun W hW=>?_) ?_
     ·have hWW:=HC.out W hW
      have x0:=cellK hWW.1 0 rfl
      have x1:=cellK hWW.1 1 rfl
      have x2:=cellK hWW.1 2 rfl
      have x3:=cellK hWW.1 3 rfl
      have x4:=cellK hWW.1 4 rfl
      have x5:=cellK hWW.1 5 rfl
      have x6:=cellK hWW.1 6 rfl
      have x7:=cellK hWW.1 7 rfl
      have x8:=cellK hWW.1 8 rfl
      have x9:=cellK hWW.1 9 rfl
      have x10:=cellK hWW.1 10 rfl
      have x11:=cellK hWW.1 11 rfl
      have x12:=cellK hWW.1 12 rfl
      obtain ⟨y0,y1,y2,y3,y4,y5,y6⟩:=sx_cells hWW.2.1
      clear hWW
      clear hW
      go_simp
     simp only [sA,sB,sC]
     refine tkL (i:=5) (v:=.agg (sxArr x)) rfl rfl HS0 (fun W hW=>?_) ?_
     ·have hWW:=HC.out W hW
      have x0:=cellK hWW.1 0 rfl
      have x1:=cellK hWW.1 1 rfl
      have x2:=cellK hWW.1 2 rfl
      have x3:=cellK hWW.1 3 rfl
      have x4:=cellK hWW.1 4 rfl
      have x5:=cellK hWW.1 5 rfl
      have x6:=cellK hWW.1 6 rfl
      have x7:=cellK hWW.1 7 rfl
      have x8:=cellK hWW.1 8 rfl
      have x9:=cellK hWW.1 9 rfl
      have x10:=cellK hWW.1 10 rfl
      have x11:=cellK hWW.1 11 rfl
      have x12:=cellK hWW.1 12 rfl
      obtain ⟨y0,y1,y2,y3,y4,y5,y6⟩:=sx_cells hWW.2.1
      clear hWW
      clear hW
      go_simp
     simp only [sA,sB,sC]
     refine onE (i:=2) rfl (fun K hK=>?_)
     go_simp
     refine (c_i_WeightAdd _ _ OK.out.s (by unfold U64;omega) _).mono ?_
     rintro e wz ⟨rfl,hwz⟩
     obtain rfl:=hwz.symm
     dsimp only
     refine hK.out _ _ (fun _=>HS0) ?_
     clear hK K
     try simp only [Act.put,sA,sB,sC]
     refine onE (i:=4) rfl (fun K hK=>?_)
     go_simp
     refine (c_partOfH (g:=g) (p:=p) _ HK1.out).mono ?_
     rintro e w4 ⟨rfl,hb4⟩
     have HB4:Hid (Below w2.heap.size w2 w4):=(HS0:Below w2.heap.size w2 w2.drew).trans (hb4.mono (Nat.le_refl _))
     clear hb4
     dsimp only
     refine hK.out _ _ (fun _=>HB4.out) ?_
     clear hK K
     try simp only [Act.put,sA,sB,sC]
     refine onE (i:=6) rfl (fun K hK=>?_)
     go_simp
     refine (c_hput x OX.out HG.out.2.1 OK.out SM.out (ag_past HA.out (chain HT2.out HB4.out)) NO.out.sk).mono ?_
     rintro e w5 ⟨v5,rfl,ho5,hb5⟩
     obtain ⟨vp,vn,pn,nn,rfl,o1,o2,hap⟩:=ho5
     obtain ⟨pa,pc,rfl⟩:=o1.any
     obtain ⟨na,nc,rfl⟩:=o2.any
     obtain rfl:=o1.1
     obtain rfl:=o2.1
     have HO1:=hide o1
     have HO2:=hide o2
     have HAP:=hide hap
     have HB5:Hid (Below w2.heap.size w2 w5):=chain HB4.out hb5
     have hz4:=HB4.out.size
     clear hb5 o1 o2 hap
     dsimp only
     refine hK.out _ _ (fun _=>HB5.out) ?_
     clear hK K
     try simp only [Act.put,sA,sB,sC]
     refine onE (i:=7) rfl (fun K hK=>?_)
     go_simp
     refine (c_aggWithH ⟨0,wAdd g.s 1,0,0,0,0,putZ g.z x.v x.wt,putPS g.P x.v x.wt,putNS g.N x.v x.wt,addH g.x g.y (thH x.v x.wt) (thL x.v x.wt),addL g.y (thL x.v x.wt),[],[]⟩ ⟨pa,pc,na,nc,none,0,none,0⟩ _).mono ?_
     rintro e w6 ⟨rfl,hb6⟩
     have HB6:Hid (Below w2.heap.size w2 w6):=chain HB5.out hb6
     have HB56:=hide hb6
     clear hb6
     have HR6:=hide (HC.out _ HB6.out).2.2
     have q0:=cellK HR6.out 0 rfl
     have q1:=cellK HR6.out 1 rfl
     have q2:=cellK HR6.out 2 rfl
     have q3:=cellK HR6.out 3 rfl
     have q4:=cellK HR6.out 4 rfl
     have q5:=cellK HR6.out 5 rfl
     have q6:=cellK HR6.out 6 rfl
     have q7:=cellK HR6.out 7 rfl
     have q8:=cellK HR6.out 8 rfl
     have q9:=cellK HR6.out 9 rfl
     have q10:=cellK HR6.out 10 rfl
     have q11:=cellK HR6.out 11 rfl
     have q12:=cellK HR6.out 12 rfl
     have f0:=fzR 0 HR6.out
     have f1:=fzR 1 HR6.out
     have f2:=fzR 2 HR6.out
     have f3:=fzR 3 HR6.out
     have f4:=fzR 4 HR6.out
     have f5:=fzR 5 HR6.out
     have f6:=fzR 6 HR6.out
     have f7:=fzR 7 HR6.out
     have f8:=fzR 8 HR6.out
     have f9:=fzR 9 HR6.out
     have f10:=fzR 10 HR6.out
     have f11:=fzR 11 HR6.out
     have f12:=fzR 12 HR6.out
     dsimp only
     refine hK.out _ _ (fun _=>HB6.out) ?_
     clear hK K
     try simp only [Act.put,sA,sB,sC]
     refine onE (i:=8) rfl (fun K hK=>?_)
     go_simp
     refine hK.out _ _ (fun h=>absurd rfl h) ?_
     clear hK K
     try simp only [Act.put,sA,sB,sC]
     refine doneK (by kernel_rfl) ?_ _
     go_wp2
     refine bodyPost_ret (v:=.agg (agArr ⟨3,wAdd g.s 1,0,0,0,0,putZ g.z x.v x.wt,putPS g.P x.v x.wt,putNS g.N x.v x.wt,addH g.x g.y (thH x.v x.wt) (thL x.v x.wt),addL g.y (thL x.v x.wt),[],[]⟩ ⟨pa,pc,na,nc,none,0,none,0⟩)) (by simp [results,Tryz.results56,go_sem,q0,q1,q2,q3,q4,q5,q6,q7,q8,q9,q10,q11,q12]) rfl (AgRes.mk (o:=⟨3,wAdd g.s 1,0,0,0,0,putZ g.z x.v x.wt,putPS g.P x.v x.wt,putNS g.N x.v x.wt,addH g.x g.y (thH x.v x.wt) (thL x.v x.wt),addL g.y (thL x.v x.wt),[],[]⟩) (p:=⟨pa,pc,na,nc,none,0,none,0⟩) ?_ ?_ ?_)
     ·exact putHs OX.out HG.out.1 HG.out.2.1 HG.out.2.2 HK1.out OK.out
     ·refine AgO.le (B:=w4.heap.size) ?_ (by omega)
      repeat (refine AgO.below ?_ (by omega) _)
      exact ⟨HO1.out.past HB56.out,HO2.out.past HB56.out,HAP.out,⟨rfl,World.ownsRow_nil _ _ _ _⟩,⟨rfl,World.ownsRow_nil _ _ _ _⟩⟩
     ·repeat (refine Below.setCell ?_ (by simp <;> omega) _)
      exact chain HT2.out HB6.out
    ·have HK1:=hide h
     clear h
     have HS0:(fun W=>Below w2.heap.size w2 W) w2.drew:=(Below.refl _ _).drew
     refine regionK (fun W=>Below w2.heap.size w2 W) 8 (by kernel_rfl) ?_
     refine tkS (i:=0) (v:=.pointer (some ⟨w.heap.size,1,none⟩)) rfl rfl HS0 ?_
     refine tkL (i:=1) (v:=.int .u64 g.s) rfl rfl HS0 (fun W hW=>?_) ?_
     ·have hWW:=HC.out W hW
      have x0:=cellK hWW.1 0 rfl
      have x1:=cellK hWW.1 1 rfl
      have x2:=cellK hWW.1 2 rfl
      have x3:=cellK hWW.1 3 rfl
      have x4:=cellK hWW.1 4 rfl
      have x5:=cellK hWW.1 5 rfl
      have x6:=cellK hWW.1 6 rfl
      have x7:=cellK hWW.1 7 rfl
      have x8:=cellK hWW.1 8 rfl
      have x9:=cellK hWW.1 9 rfl
      have x10:=cellK hWW.1 10 rfl
      have x11:=cellK hWW.1 11 rfl
      have x12:=cellK hWW.1 12 rfl
      obtain ⟨y0,y1,y2,y3,y4,y5,y6⟩:=sx_cells hWW.2.1
      clear hWW
      clear hW
      go_simp
     refine tkL (i:=3) (v:=.agg (agArr g p)) rfl rfl HS0 (fun W hW=>?_) ?_
     ·have hWW:=HC.out W hW
      have x0:=cellK hWW.1 0 rfl
      have x1:=cellK hWW.1 1 rfl
      have x2:=cellK hWW.1 2 rfl
      have x3:=cellK hWW.1 3 rfl
      have x4:=cellK hWW.1 4 rfl
      have x5:=cellK hWW.1 5 rfl
      have x6:=cellK hWW.1 6 rfl
      have x7:=cellK hWW.1 7 rfl
      have x8:=cellK hWW.1 8 rfl
      have x9:=cellK hWW.1 9 rfl
      have x10:=cellK hWW.1 10 rfl
      have x11:=cellK hWW.1 11 rfl
      have x12:=cellK hWW.1 12 rfl
      obtain ⟨y0,y1,y2,y3,y4,y5,y6⟩:=sx_cells hWW.2.1
      clear hWW
      clear hW
      go_simp
     simp only [sA,sB,sC]
     refine tkL (i:=5) (v:=.agg (sxArr x)) rfl rfl HS0 (fun W hW=>?_) ?_
     ·have hWW:=HC.out W hW
      have x0:=cellK hWW.1 0 rfl
      have x1:=cellK hWW.1 1 rfl
      have x2:=cellK hWW.1 2 rfl
      have x3:=cellK hWW.1 3 rfl
      have x4:=cellK hWW.1 4 rfl
      have x5:=cellK hWW.1 5 rfl
      have x6:=cellK hWW.1 6 rfl
      have x7:=cellK hWW.1 7 rfl
      have x8:=cellK hWW.1 8 rfl
      have x9:=cellK hWW.1 9 rfl
      have x10:=cellK hWW.1 10 rfl
      have x11:=cellK hWW.1 11 rfl
      have x12:=cellK hWW.1 12 rfl
      obtain ⟨y0,y1,y2,y3,y4,y5,y6⟩:=sx_cells hWW.2.1
      clear hWW
      clear hW
      go_simp
     simp only [sA,sB,sC]
     refine onE (i:=2) rfl (fun K hK=>?_)
     go_simp
     refine (c_i_WeightAdd _ _ OK.out.s (by unfold U64;omega) _).mono ?_
     rintro e wz ⟨rfl,hwz⟩
     obtain rfl:=hwz.symm
     dsimp only
     refine hK.out _ _ (fun _=>HS0) ?_
     clear hK K
     try simp only [Act.put,sA,sB,sC]
     refine onE (i:=4) rfl (fun K hK=>?_)
     go_simp
     refine (c_partOfS (g:=g) (p:=p) _ HK1.out).mono ?_
     rintro e w4 ⟨rfl,hb4⟩
     have HB4:Hid (Below w2.heap.size w2 w4):=(HS0:Below w2.heap.size w2 w2.drew).trans (hb4.mono (Nat.le_refl _))
     clear hb4
     dsimp only
     refine hK.out _ _ (fun _=>HB4.out) ?_
     clear hK K
     try simp only [Act.put,sA,sB,sC]
     refine onE (i:=6) rfl (fun K hK=>?_)
     go_simp
     refine (c_sput x OX.out HG.out.2.1 OK.out SM.out PL.out (ag_past HA.out (chain HT2.out HB4.out))).mono ?_
     rintro e w5 ⟨v5,E,R,rfl,hM,ho5,hb5⟩
     obtain ⟨vp,vn,rfl,o1,o2⟩:=ho5
     obtain ⟨pa,pc,rfl⟩:=own_any o1
     obtain ⟨na,nc,rfl⟩:=own_any o2
     have HO1:=hide o1
     have HO2:=hide o2
     have HM:=hide hM
     have HB5:Hid (Below w2.heap.size w2 w5):=chain HB4.out hb5
     have hz4:=HB4.out.size
     clear hb5 o1 o2 hM
     dsimp only
     refine hK.out _ _ (fun _=>HB5.out) ?_
     clear hK K
     try simp only [Act.put,sA,sB,sC]
     refine onE (i:=7) rfl (fun K hK=>?_)
     go_simp
     refine (c_aggWithS ⟨0,wAdd g.s 1,0,0,0,0,0,[],[],0,0,E,R⟩ ⟨none,0,none,0,pa,pc,na,nc⟩ _).mono ?_
     rintro e w6 ⟨rfl,hb6⟩
     have HB6:Hid (Below w2.heap.size w2 w6):=chain HB5.out hb6
     have HB56:=hide hb6
     clear hb6
     have HR6:=hide (HC.out _ HB6.out).2.2
     have q0:=cellK HR6.out 0 rfl
     have q1:=cellK HR6.out 1 rfl
     have q2:=cellK HR6.out 2 rfl
     have q3:=cellK HR6.out 3 rfl
     have q4:=cellK HR6.out 4 rfl
     have q5:=cellK HR6.out 5 rfl
     have q6:=cellK HR6.out 6 rfl
     have q7:=cellK HR6.out 7 rfl
     have q8:=cellK HR6.out 8 rfl
     have q9:=cellK HR6.out 9 rfl
     have q10:=cellK HR6.out 10 rfl
     have q11:=cellK HR6.out 11 rfl
     have q12:=cellK HR6.out 12 rfl
     have f0:=fzR 0 HR6.out
     have f1:=fzR 1 HR6.out
     have f2:=fzR 2 HR6.out
     have f3:=fzR 3 HR6.out
     have f4:=fzR 4 HR6.out
     have f5:=fzR 5 HR6.out
     have f6:=fzR 6 HR6.out
     have f7:=fzR 7 HR6.out
     have f8:=fzR 8 HR6.out
     have f9:=fzR 9 HR6.out
     have f10:=fzR 10 HR6.out
     have f11:=fzR 11 HR6.out
     have f12:=fzR 12 HR6.out
     dsimp only
     refine hK.out _ _ (fun _=>HB6.out) ?_
     clear hK K
     try simp only [Act.put,sA,sB,sC]
     refine onE (i:=8) rfl (fun K hK=>?_)
     go_simp
     refine hK.out _ _ (fun h=>absurd rfl h) ?_
     clear hK K
     try simp only [Act.put,sA,sB,sC]
     refine doneK (by kernel_rfl) ?_ _
     go_wp2
     refine bodyPost_ret (v:=.agg (agArr ⟨4,wAdd g.s 1,0,0,0,0,0,[],[],0,0,E,R⟩ ⟨none,0,none,0,pa,pc,na,nc⟩)) (by simp [results,Tryz.results56,go_sem,q0,q1,q2,q3,q4,q5,q6,q7,q8,q9,q10,q11,q12]) rfl (AgRes.mk (o:=⟨4,wAdd g.s 1,0,0,0,0,0,[],[],0,0,E,R⟩) (p:=⟨none,0,none,0,pa,pc,na,nc⟩) ?_ ?_ ?_)
     ·exact putS OX.out HG.out.1 HG.out.2.1 HG.out.2.2 HK1.out HM.out
     ·refine AgO.le (B:=w4.heap.size) ?_ (by omega)
      repeat (refine AgO.below ?_ (by omega) _)
      exact ⟨⟨rfl,.inl ⟨rfl,rfl⟩⟩,⟨rfl,.inl ⟨rfl,rfl⟩⟩,(fun k e=>by cases e),⟨rfl,own_past HO1.out HB56.out⟩,⟨rfl,own_past HO2.out HB56.out⟩⟩
     ·repeat (refine Below.setCell ?_ (by simp <;> omega) _)
      exact chain HT2.out HB6.out
   ·have hb:(x.k != g.k)=true:=by simp;exact fun e=>hk e.symm
    have HQ:Hid (AgPut g x g):=put_no (fun h=>hk h.2.2)
    have HRa:=hide (HC.out _ (Below.refl _ _)).1
    have x0:=cellK HRa.out 0 rfl
    have x1:=cellK HRa.out 1 rfl
    have x2:=cellK HRa.out 2 rfl
    have x3:=cellK HRa.out 3 rfl
    have x4:=cellK HRa.out 4 rfl
    have x5:=cellK HRa.out 5 rfl
    have x6:=cellK HRa.out 6 rfl
    have x7:=cellK HRa.out 7 rfl
    have x8:=cellK HRa.out 8 rfl
    have x9:=cellK HRa.out 9 rfl
    have x10:=cellK HRa.out 10 rfl
    have x11:=cellK HRa.out 11 rfl
    have x12:=cellK HRa.out 12 rfl
    obtain ⟨y0,y1,y2,y3,y4,y5,y6⟩:=sx_cells (HC.out _ (Below.refl _ _)).2.1
    go_wp2_with fail
    clear x0 x1 x2 x3 x4 x5 x6 x7 x8 x9 x10 x11 x12 y0 y1 y2 y3 y4 y5 y6
    refine (c_copyAgg SM.out PL.out (ag_past HA.out HT2.out)).mono ?_
    rintro e wc ⟨vc,oc,rfl,rfl,⟨pc,rfl,hO⟩,hbc⟩
    have HO:=hide hO
    have HTc:=hide (chain HT2.out hbc)
    have HRc:=hide (HC.out _ hbc).2.2
    have hzw:=HT2.out.size
    clear hO hbc
    have q0:=cellK HRc.out 0 rfl
    have q1:=cellK HRc.out 1 rfl
    have q2:=cellK HRc.out 2 rfl
    have q3:=cellK HRc.out 3 rfl
    have q4:=cellK HRc.out 4 rfl
    have q5:=cellK HRc.out 5 rfl
    have q6:=cellK HRc.out 6 rfl
    have q7:=cellK HRc.out 7 rfl
    have q8:=cellK HRc.out 8 rfl
    have q9:=cellK HRc.out 9 rfl
    have q10:=cellK HRc.out 10 rfl
    have q11:=cellK HRc.out 11 rfl
    have q12:=cellK HRc.out 12 rfl
    have f0:=fzR 0 HRc.out
    have f1:=fzR 1 HRc.out
    have f2:=fzR 2 HRc.out
    have f3:=fzR 3 HRc.out
    have f4:=fzR 4 HRc.out
    have f5:=fzR 5 HRc.out
    have f6:=fzR 6 HRc.out
    have f7:=fzR 7 HRc.out
    have f8:=fzR 8 HRc.out
    have f9:=fzR 9 HRc.out
    have f10:=fzR 10 HRc.out
    have f11:=fzR 11 HRc.out
    have f12:=fzR 12 HRc.out
    go_wp2
    refine bodyPost_ret (v:=.agg (agArr oc pc)) (by simp [results,Tryz.results56,go_sem,q0,q1,q2,q3,q4,q5,q6,q7,q8,q9,q10,q11,q12]) rfl (AgRes.mk (o:=oc) (p:=pc) HQ.out ?_ ?_)
    ·refine AgO.le (B:=w2.heap.size) ?_ (by omega)
     repeat (refine AgO.below ?_ (by omega) _)
     exact HO.out
    ·repeat (refine Below.setCell ?_ (by simp <;> omega) _)
     exact HTc.out
end Go.Proofs.YtiiclgcpagdekaaGreatDoor
