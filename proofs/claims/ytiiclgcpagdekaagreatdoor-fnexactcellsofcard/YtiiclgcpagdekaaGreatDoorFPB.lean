/-
 Three boxes.
-/
import Derived.Test.YtiiclgcpagdekaaGreatDoorFPA
import Derived.Test.YtiiclgcpagdekaaGreatDoorFKD
import Derived.Test.YtiiclgcpagdekaaGreatDoorFKA
namespace Go.Proofs.YtiiclgcpagdekaaGreatDoor
set_option linter.unusedVariables false
set_option linter.unusedSimpArgs false
open Go.ChangeShapes Go.WideShapes Go.ChangeAt Go.RowKit Go.PlainAid Go.Lib
set_option maxRecDepth 10000
theorem box_put (w:World) (g:Ag) (p:Pl) (x:Sx):Hid (Below w.heap.size w (((w.alloc (.cells (agArr g p) 79)).alloc (.cells (sxArr x) 37)).alloc (.cells z13 79)))∧Hid (∀ W,Below (((w.alloc (.cells (agArr g p) 79)).alloc (.cells (sxArr x) 37)).alloc (.cells z13 79)).heap.size (((w.alloc (.cells (agArr g p) 79)).alloc (.cells (sxArr x) 37)).alloc (.cells z13 79)) W→W.heap[w.heap.size]?=some (.cells (agArr g p) 79 (0,0))∧W.heap[w.heap.size+1]?=some (.cells (sxArr x) 37 (0,0))∧W.heap[w.heap.size+1+1]?=some (.cells z13 79 (0,0)))∧Hid ((((w.alloc (.cells (agArr g p) 79)).alloc (.cells (sxArr x) 37)).alloc (.cells z13 79)).heap.size=w.heap.size+1+1+1):=by
 have a1:∀ (W:World) o,Below W.heap.size W (W.alloc o):=fun W o=>(Below.refl _ _).alloc (Nat.le_refl _) _
 have k0:=heap_alloc_new w (.cells (agArr g p) 79)
 have k1:=heap_alloc_new (w.alloc (.cells (agArr g p) 79)) (.cells (sxArr x) 37)
 have k2:=heap_alloc_new ((w.alloc (.cells (agArr g p) 79)).alloc (.cells (sxArr x) 37)) (.cells z13 79)
 simp only [World.size_alloc] at k1 k2
 exact ⟨hide (chain (chain (a1 _ _) (a1 _ _)) (a1 _ _)),hide (fun W hW=>⟨(hW.block _ (by simp <;> omega)).trans (((a1 _ _).block _ (by simp <;> omega)).trans (((a1 _ _).block _ (by simp)).trans k0)),(hW.block _ (by simp <;> omega)).trans (((a1 _ _).block _ (by simp)).trans k1),(hW.block _ (by simp)).trans k2⟩),(by simp;exact hide trivial)⟩
theorem sx_cells {w:World} {b:Nat} {x:Sx} {T:TypeId} (h:w.heap[b]?=some (.cells (sxArr x) T (0,0))):w.cell? ⟨b,0,none⟩=some (.int .i64 x.k)∧w.cell? ⟨b,1,none⟩=some (.string x.se)∧w.cell? ⟨b,2,none⟩=some (.int .i64 x.v)∧w.cell? ⟨b,3,none⟩=some (.string x.wd)∧w.cell? ⟨b,4,none⟩=some (.int .u64 x.wt)∧w.cell? ⟨b,5,none⟩=some (.bool x.tm)∧w.cell? ⟨b,6,none⟩=some (.int .i64 x.ti):=
 ⟨cellK h 0 rfl,cellK h 1 rfl,cellK h 2 rfl,cellK h 3 rfl,cellK h 4 rfl,cellK h 5 rfl,cellK h 6 rfl⟩
set_option maxHeartbeats 16000000 in
theorem c_i_AggPut {w:World} {g:Ag} {p:Pl} (x:Sx) (ok:AgOk g) (ox:x.Ok) (sm:AgSm g) (pl:PlG g p) (hm:MX w) (hA:AgAt w g p) :
  Calls Tryz.prog 56 #[.agg (agArr g p),.agg (sxArr x)] w fun e w'=>AgRes w (AgPut g x) e w':=by
 have OK:=hide ok
 have OX:=hide ox
 have SM:=hide sm
 have PL:=hide pl
 have HA:=hide hA
 obtain ⟨HT0,HC0,HZ0⟩:=box_put w g p x
 have HMx:=hide (hm.past HT0.out)
 clear ok ox sm pl hA hm
 go_enter Tryz.func56,Tryz.ntmps56
 go_wp2_with fail
 generalize ((w.alloc (.cells (agArr g p) 79)).alloc (.cells (sxArr x) 37)).alloc (.cells z13 79)=W0 at HT0 HC0 HZ0 HMx ⊢
 refine (c_i_AggRight (g:=g) (p:=p) OK.out SM.out (ag_past HA.out HT0.out)).mono ?_
 rintro e w1 ⟨rfl,hb1⟩
 rw [ag_one]
 have HC1:Hid (∀ W,Below w1.heap.size w1 W→W.heap[w.heap.size]?=some (.cells (agArr g p) 79 (0,0))∧W.heap[w.heap.size+1]?=some (.cells (sxArr x) 37 (0,0))∧W.heap[w.heap.size+1+1]?=some (.cells z13 79 (0,0))):=fun W hW=>HC0.out W (chain hb1 hW)
 have HT1:=hide (chain HT0.out hb1)
 have HM1:=hide (HMx.out.past hb1)
 have hz1:w.heap.size+1+1+1≤w1.heap.size:=by have:=hb1.size;have:=HZ0.out;omega
 clear hb1 HC0 HMx HZ0 HT0
 cases hq:agB g with
 | false=>
  have HQ:Hid (AgPut g x g):=put_no (fun h=>by rw [hq] at h;cases h.1)
  have HRa:=hide (HC1.out _ (Below.refl _ _)).1
  have x0:=cellK HRa.out 0 rfl
  have x1:=cellK HRa.out 1 rfl
  have x2:=cellK HRa.out 2 rfl
  have x3:=cellK HRa.out 3 rfl
  have x4:=cellK HRa.out 4 rfl
  have x5:=cellK HRa.out 5 rfl
  have x6:=cellK HRa.out 6 rfl
  have x7:=cellK HRa.out 7 rfl
  have x8:=cellK HRa.out 8 rfl
  have x9:=cellK HRa.out 9 rfl
  have x10:=cellK HRa.out 10 rfl
  have x11:=cellK HRa.out 11 rfl
  have x12:=cellK HRa.out 12 rfl
  obtain ⟨y0,y1,y2,y3,y4,y5,y6⟩:=sx_cells (HC1.out _ (Below.refl _ _)).2.1
  go_wp2_with fail
  clear x0 x1 x2 x3 x4 x5 x6 x7 x8 x9 x10 x11 x12 y0 y1 y2 y3 y4 y5 y6
  refine (c_copyAgg SM.out PL.out (ag_past HA.out HT1.out)).mono ?_
  rintro e wc ⟨vc,oc,rfl,rfl,⟨pc,rfl,hO⟩,hbc⟩
  have HO:=hide hO
  have HTc:=hide (chain HT1.out hbc)
  have HRc:=hide (HC1.out _ hbc).2.2
  have hzw:=HT1.out.size
  clear hO hbc
  have q0:=cellK HRc.out 0 rfl
  have q1:=cellK HRc.out 1 rfl
  have q2:=cellK HRc.out 2 rfl
  have q3:=cellK HRc.out 3 rfl
  have q4:=cellK HRc.out 4 rfl
  have q5:=cellK HRc.out 5 rfl
  have q6:=cellK HRc.out 6 rfl
  have q7:=cellK HRc.out 7 rfl
  have q8:=cellK HRc.out 8 rfl
  have q9:=cellK HRc.out 9 rfl
  have q10:=cellK HRc.out 10 rfl
  have q11:=cellK HRc.out 11 rfl
  have q12:=cellK HRc.out 12 rfl
  have f0:=fzR 0 HRc.out
  have f1:=fzR 1 HRc.out
  have f2:=fzR 2 HRc.out
  have f3:=fzR 3 HRc.out
  have f4:=fzR 4 HRc.out
  have f5:=fzR 5 HRc.out
  have f6:=fzR 6 HRc.out
  have f7:=fzR 7 HRc.out
  have f8:=fzR 8 HRc.out
  have f9:=fzR 9 HRc.out
  have f10:=fzR 10 HRc.out
  have f11:=fzR 11 HRc.out
  have f12:=fzR 12 HRc.out
  go_wp2
  refine bodyPost_ret (v:=.agg (agArr oc pc)) (by simp [results,Tryz.results56,go_sem,q0,q1,q2,q3,q4,q5,q6,q7,q8,q9,q10,q11,q12]) rfl (AgRes.mk (o:=oc) (p:=pc) HQ.out ?_ ?_)
  ·refine AgO.le (B:=w1.heap.size) ?_ (by omega)
   repeat (refine AgO.below ?_ (by omega) _)
   exact HO.out
  ·repeat (refine Below.setCell ?_ (by simp <;> omega) _)
   exact HTc.out
 | true=>
  obtain ⟨y0,y1,y2,y3,y4,y5,y6⟩:=sx_cells (HC1.out _ (Below.refl _ _)).2.1
  go_wp2_with fail
  clear y0 y1 y2 y3 y4 y5 y6
  refine (c_i_SampleRight x.k x.se x.v x.wd x.wt x.tm x.ti HM1.out OX.out.se OX.out.wd).mono ?_
  rintro e w2 ⟨rfl,hb2⟩
  have HC:Hid (∀ W,Below w2.heap.size w2 W→W.heap[w.heap.size]?=some (.cells (agArr g p) 79 (0,0))∧W.heap[w.heap.size+1]?=some (.cells (sxArr x) 37 (0,0))∧W.heap[w.heap.size+1+1]?=some (.cells z13 79 (0,0))):=fun W hW=>HC1.out W (chain hb2 hW)
  have HT2:=hide (chain HT1.out hb2)
  have hz2:=hb2.size
  clear hb2 HC1
  cases hs:smpB x.k x.se x.v x.wd x.wt x.tm x.ti with
  | false=>
   have HQ:Hid (AgPut g x g):=put_no (fun h=>by have:=h.2.1;unfold Sx.B at this;rw [hs] at this;cases this)
   have HRa:=hide (HC.out _ (Below.refl _ _)).1
   have x0:=cellK HRa.out 0 rfl
   have x1:=cellK HRa.out 1 rfl
   have x2:=cellK HRa.out 2 rfl
   have x3:=cellK HRa.out 3 rfl
   have x4:=cellK HRa.out 4 rfl
   have x5:=cellK HRa.out 5 rfl
   have x6:=cellK HRa.out 6 rfl
   have x7:=cellK HRa.out 7 rfl
   have x8:=cellK HRa.out 8 rfl
   have x9:=cellK HRa.out 9 rfl
   have x10:=cellK HRa.out 10 rfl
   have x11:=cellK HRa.out 11 rfl
   have x12:=cellK HRa.out 12 rfl
   obtain ⟨y0,y1,y2,y3,y4,y5,y6⟩:=sx_cells (HC.out _ (Below.refl _ _)).2.1
   go_wp2_with fail
   clear x0 x1 x2 x3 x4 x5 x6 x7 x8 x9 x10 x11 x12 y0 y1 y2 y3 y4 y5 y6
   refine (c_copyAgg SM.out PL.out (ag_past HA.out HT2.out)).mono ?_
   rintro e wc ⟨vc,oc,rfl,rfl,⟨pc,rfl,hO⟩,hbc⟩
   have HO:=hide hO
   have HTc:=hide (chain HT2.out hbc)
   have HRc:=hide (HC.out _ hbc).2.2
   have hzw:=HT2.out.size
   clear hO hbc
   have q0:=cellK HRc.out 0 rfl
   have q1:=cellK HRc.out 1 rfl
   have q2:=cellK HRc.out 2 rfl
   have q3:=cellK HRc.out 3 rfl
   have q4:=cellK HRc.out 4 rfl
   have q5:=cellK HRc.out 5 rfl
   have q6:=cellK HRc.out 6 rfl
   have q7:=cellK HRc.out 7 rfl
   have q8:=cellK HRc.out 8 rfl
   have q9:=cellK HRc.out 9 rfl
   have q10:=cellK HRc.out 10 rfl
   have q11:=cellK HRc.out 11 rfl
   have q12:=cellK HRc.out 12 rfl
   have f0:=fzR 0 HRc.out
   have f1:=fzR 1 HRc.out
   have f2:=fzR 2 HRc.out
   have f3:=fzR 3 HRc.out
   have f4:=fzR 4 HRc.out
   have f5:=fzR 5 HRc.out
   have f6:=fzR 6 HRc.out
   have f7:=fzR 7 HRc.out
   have f8:=fzR 8 HRc.out
   have f9:=fzR 9 HRc.out
   have f10:=fzR 10 HRc.out
   have f11:=fzR 11 HRc.out
   have f12:=fzR 12 HRc.out
   go_wp2
   refine bodyPost_ret (v:=.agg (agArr oc pc)) (by simp [results,Tryz.results56,go_sem,q0,q1,q2,q3,q4,q5,q6,q7,q8,q9,q10,q11,q12]) rfl (AgRes.mk (o:=oc) (p:=pc) HQ.out ?_ ?_)
   ·refine AgO.le (B:=w2.heap.size) ?_ (by omega)
    repeat (refine AgO.below ?_ (by omega) _)
    exact HO.out
   ·repeat (refine Below.setCell ?_ (by simp <;> omega) _)
    exact HTc.out
  | true=>
   by_cases hk:g.k=x.k
   ·have HG:Hid (agB g=true∧x.B=true∧g.k=x.k):=⟨hq,hs,hk⟩
    have NO:=hide (agB_no hq)
    have hb:(x.k != g.k)=false:=by simp [hk]
    have x0:=cellK (HC.out _ (Below.refl _ _)).1 0 rfl
    have y0:=cellK (HC.out _ (Below.refl _ _)).2.1 0 rfl
    clear hq hs hk
    go_wp2_with fail
    clear x0 y0 hb
    have hkk:g.k=1∨g.k=2∨g.k=3∨g.k=4:=by have:=NO.out.k1;have:=NO.out.k4;omega
    rcases hkk with h | h | h | h
    ·have HK1:=hide h
     clear h
     have HS0:(fun W=>Below w2.heap.size w2 W) w2.drew:=(Below.refl _ _).drew
     refine regionK (fun W=>Below w2.heap.size w2 W) 8 (by kernel_rfl) ?_
     refine tkS (i:=0) (v:=.pointer (some ⟨w.heap.size,1,none⟩)) rfl rfl HS0 ?_
     refine tkL (i:=1) (v:=.int .u64 g.s) rfl rfl HS0 (fun W hW=>?_) ?_
     ·have hWW:=HC.out W hW
      have x0:=cellK hWW.1 0 rfl
      have x1:=cellK hWW.1 1 rfl
      have x2:=cellK hWW.1 2 rfl
      have x3:=cellK hWW.1 3 rfl
      have x4:=cellK hWW.1 4 rfl
      have x5:=cellK hWW.1 5 rfl
      have x6:=cellK hWW.1 6 rfl
      have x7:=cellK hWW.1 7 rfl
      have x8:=cellK hWW.1 8 rfl
      have x9:=cellK hWW.1 9 rfl
      have x10:=cellK hWW.1 10 rfl
      have x11:=cellK hWW.1 11 rfl
      have x12:=cellK hWW.1 12 rfl
      obtain ⟨y0,y1,y2,y3,y4,y5,y6⟩:=sx_cells hWW.2.1
      clear hWW
      clear hW
      go_simp
     refine tkL (i:=3) (v:=.agg (agArr g p)) rfl rfl HS0 (fun W hW=>?_) ?_
     ·have hWW:=HC.out W hW
      have x0:=cellK hWW.1 0 rfl
      have x1:=cellK hWW.1 1 rfl
      have x2:=cellK hWW.1 2 rfl
      have x3:=cellK hWW.1 3 rfl
      have x4:=cellK hWW.1 4 rfl
      have x5:=cellK hWW.1 5 rfl
      have x6:=cellK hWW.1 6 rfl
      have x7:=cellK hWW.1 7 rfl
      have x8:=cellK hWW.1 8 rfl
      have x9:=cellK hWW.1 9 rfl
      have x10:=cellK hWW.1 10 rfl
      have x11:=cellK hWW.1 11 rfl
      have x12:=cellK hWW.1 12 rfl
      obtain ⟨y0,y1,y2,y3,y4,y5,y6⟩:=sx_cells hWW.2.1
      clear hWW
      clear hW
      go_simp
     simp only [sA,sB,sC]
     refine tkL (i:=5) (v:=.agg (sxArr x)) rfl rfl HS0 (fun W hW=>?_) ?_
     ·have hWW:=HC.out W hW
      have x0:=cellK hWW.1 0 rfl
      have x1:=cellK hWW.1 1 rfl
      have x2:=cellK hWW.1 2 rfl
      have x3:=cellK hWW.1 3 rfl
      have x4:=cellK hWW.1 4 rfl
      have x5:=cellK hWW.1 5 rfl
      have x6:=cellK hWW.1 6 rfl
      have x7:=cellK hWW.1 7 rfl
      have x8:=cellK hWW.1 8 rfl
      have x9:=cellK hWW.1 9 rfl
      have x10:=cellK hWW.1 10 rfl
      have x11:=cellK hWW.1 11 rfl
      have x12:=cellK hWW.1 12 rfl
      obtain ⟨y0,y1,y2,y3,y4,y5,y6⟩:=sx_cells hWW.2.1
      clear hWW
      clear hW
      go_simp
     simp only [sA,sB,sC]
     refine onE (i:=2) rfl (fun K hK=>?_)
     go_simp
     refine (c_i_WeightAdd _ _ OK.out.s (by unfold U64;omega) _).mono ?_
     rintro e wz ⟨rfl,hwz⟩
     obtain rfl:=hwz.symm
     dsimp only
     refine hK.out _ _ (fun _=>HS0) ?_
     clear hK K
     try simp only [Act.put,sA,sB,sC]
     refine onE (i:=4) rfl (fun K hK=>?_)
     go_simp
     refine (c_partOfC (g:=g) (p:=p) _ HK1.out).mono ?_
     rintro e w4 ⟨rfl,hb4⟩
     have HB4:Hid (Below w2.heap.size w2 w4):=(HS0:Below w2.heap.size w2 w2.drew).trans (hb4.mono (Nat.le_refl _))
     clear hb4
     dsimp only
     refine hK.out _ _ (fun _=>HB4.out) ?_
     clear hK K
     try simp only [Act.put,sA,sB,sC]
     refine onE (i:=6) rfl (fun K hK=>?_)
     go_simp
     refine (c_cput g.h g.l x _ OK.out.l OX.out).mono ?_
     rintro e w5 ⟨rfl,hb5⟩
     have HB5:Hid (Below w2.heap.size w2 w5):=chain HB4.out hb5
     clear hb5
     dsimp only
     refine hK.out _ _ (fun _=>HB5.out) ?_
     clear hK K
     try simp only [Act.put,sA,sB,sC]
     refine onE (i:=7) rfl (fun K hK=>?_)
     go_simp
     refine (c_aggWithC ⟨0,wAdd g.s 1,addH g.h g.l (thH x.v x.wt) (thL x.v x.wt),addL g.l (thL x.v x.wt),0,0,0,[],[],0,0,[],[]⟩ pl0 _).mono ?_
     rintro e w6 ⟨rfl,hb6⟩
     have HB6:Hid (Below w2.heap.size w2 w6):=chain HB5.out hb6
     have HB56:=hide hb6
     clear hb6
     have HR6:=hide (HC.out _ HB6.out).2.2
     have q0:=cellK HR6.out 0 rfl
     have q1:=cellK HR6.out 1 rfl
     have q2:=cellK HR6.out 2 rfl
     have q3:=cellK HR6.out 3 rfl
     have q4:=cellK HR6.out 4 rfl
     have q5:=cellK HR6.out 5 rfl
     have q6:=cellK HR6.out 6 rfl
     have q7:=cellK HR6.out 7 rfl
     have q8:=cellK HR6.out 8 rfl
     have q9:=cellK HR6.out 9 rfl
     have q10:=cellK HR6.out 10 rfl
     have q11:=cellK HR6.out 11 rfl
     have q12:=cellK HR6.out 12 rfl
     have f0:=fzR 0 HR6.out
     have f1:=fzR 1 HR6.out
     have f2:=fzR 2 HR6.out
     have f3:=fzR 3 HR6.out
     have f4:=fzR 4 HR6.out
     have f5:=fzR 5 HR6.out
     have f6:=fzR 6 HR6.out
     have f7:=fzR 7 HR6.out
     have f8:=fzR 8 HR6.out
     have f9:=fzR 9 HR6.out
     have f10:=fzR 10 HR6.out
     have f11:=fzR 11 HR6.out
     have f12:=fzR 12 HR6.out
     dsimp only
     refine hK.out _ _ (fun _=>HB6.out) ?_
     clear hK K
     try simp only [Act.put,sA,sB,sC]
     refine onE (i:=8) rfl (fun K hK=>?_)
     go_simp
     refine hK.out _ _ (fun h=>absurd rfl h) ?_
     clear hK K
     try simp only [Act.put,sA,sB,sC]
     refine doneK (by kernel_rfl) ?_ _
     go_wp2
     refine bodyPost_ret (v:=.agg (agArr ⟨1,wAdd g.s 1,addH g.h g.l (thH x.v x.wt) (thL x.v x.wt),addL g.l (thL x.v x.wt),0,0,0,[],[],0,0,[],[]⟩ pl0)) (by simp [results,Tryz.results56,go_sem,q0,q1,q2,q3,q4,q5,q6,q7,q8,q9,q10,q11,q12]) rfl (AgRes.mk (o:=⟨1,wAdd g.s 1,addH g.h g.l (thH x.v x.wt) (thL x.v x.wt),addL g.l (thL x.v x.wt),0,0,0,[],[],0,0,[],[]⟩) (p:=pl0) ?_ ?_ ?_)
     ·exact putC OX.out HG.out.1 HG.out.2.1 HG.out.2.2 HK1.out
     ·exact AgO.nil _ _ rfl rfl rfl rfl
     ·repeat (refine Below.setCell ?_ (by simp <;> omega) _)
      exact chain HT2.out HB6.out
    ·have HK1:=hide h
     clear h
     have HS0:(fun W=>Below w2.heap.size w2 W) w2.drew:=(Below.refl _ _).drew
     refine regionK (fun W=>Below w2.heap.size w2 W) 8 (by kernel_rfl) ?_
     refine tkS (i:=0) (v:=.pointer (some ⟨w.heap.size,1,none⟩)) rfl rfl HS0 ?_
     refine tkL (i:=1) (v:=.int .u64 g.s) rfl rfl HS0 (fun W hW=>?_) ?_
     ·have hWW:=HC.out W hW
      have x0:=cellK hWW.1 0 rfl
      have x1:=cellK hWW.1 1 rfl
      have x2:=cellK hWW.1 2 rfl
      have x3:=cellK hWW.1 3 rfl
      have x4:=cellK hWW.1 4 rfl
      have x5:=cellK hWW.1 5 rfl
      have x6:=cellK hWW.1 6 rfl
      have x7:=cellK hWW.1 7 rfl
      have x8:=cellK hWW.1 8 rfl
      have x9:=cellK hWW.1 9 rfl
      have x10:=cellK hWW.1 10 rfl
      have x11:=cellK hWW.1 11 rfl
      have x12:=cellK hWW.1 12 rfl
      obtain ⟨y0,y1,y2,y3,y4,y5,y6⟩:=sx_cells hWW.2.1
      clear hWW
      clear hW
      go_simp
     refine tkL (i:=3) (v:=.agg (agArr g p)) rfl rfl HS0 (fun W hW=>?_) ?_
     ·have hWW:=HC.out W hW
      have x0:=cellK hWW.1 0 rfl
      have x1:=cellK hWW.1 1 rfl
      have x2:=cellK hWW.1 2 rfl
      have x3:=cellK hWW.1 3 rfl
      have x4:=cellK hWW.1 4 rfl
      have x5:=cellK hWW.1 5 rfl
      have x6:=cellK hWW.1 6 rfl
      have x7:=cellK hWW.1 7 rfl
      have x8:=cellK hWW.1 8 rfl
      have x9:=cellK hWW.1 9 rfl
      have x10:=cellK hWW.1 10 rfl
      have x11:=cellK hWW.1 11 rfl
      have x12:=cellK hWW.1 12 rfl
      obtain ⟨y0,y1,y2,y3,y4,y5,y6⟩:=sx_cells hWW.2.1
      clear hWW
      clear hW
      go_simp
     simp only [sA,sB,sC]
     refine tkL (i:=5) (v:=.agg (sxArr x)) rfl rfl HS0 (fun W hW=>?_) ?_
     ·have hWW:=HC.out W hW
      have x0:=cellK hWW.1 0 rfl
      have x1:=cellK hWW.1 1 rfl
      have x2:=cellK hWW.1 2 rfl
      have x3:=cellK hWW.1 3 rfl
      have x4:=cellK hWW.1 4 rfl
      have x5:=cellK hWW.1 5 rfl
      have x6:=cellK hWW.1 6 rfl
      have x7:=cellK hWW.1 7 rfl
      have x8:=cellK hWW.1 8 rfl
      have x9:=cellK hWW.1 9 rfl
      have x10:=cellK hWW.1 10 rfl
      have x11:=cellK hWW.1 11 rfl
      have x12:=cellK hWW.1 12 rfl
      obtain ⟨y0,y1,y2,y3,y4,y5,y6⟩:=sx_cells hWW.2.1
      clear hWW
      clear hW
      go_simp
     simp only [sA,sB,sC]
     refine onE (i:=2) rfl (fun K hK=>?_)
     go_simp
     refine (c_i_WeightAdd _ _ OK.out.s (by unfold U64;omega) _).mono ?_
     rintro e wz ⟨rfl,hwz⟩
     obtain rfl:=hwz.symm
     dsimp only
     refine hK.out _ _ (fun _=>HS0) ?_
     clear hK K
     try simp only [Act.put,sA,sB,sC]
     refine onE (i:=4) rfl (fun K hK=>?_)
     go_simp
     refine (c_partOfG (g:=g) (p:=p) _ HK1.out).mono ?_
     rintro e w4 ⟨rfl,hb4⟩
     have HB4:Hid (Below w2.heap.size w2 w4):=(HS0:Below w2.heap.size w2 w2.drew).trans (hb4.mono (Nat.le_refl _))
     clear hb4
     dsimp only
     refine hK.out _ _ (fun _=>HB4.out) ?_
     clear hK K
     try simp only [Act.put,sA,sB,sC]
     refine onE (i:=6) rfl (fun K hK=>?_)
     go_simp
     refine (c_gput g.a g.t x _).mono ?_
     rintro e w5 ⟨rfl,hb5⟩
     have HB5:Hid (Below w2.heap.size w2 w5):=chain HB4.out hb5
     clear hb5
     dsimp only
     refine hK.out _ _ (fun _=>HB5.out) ?_
     clear hK K
     try simp only [Act.put,sA,sB,sC]
     refine onE (i:=7) rfl (fun K hK=>?_)
     go_simp
     refine (c_aggWithG ⟨0,wAdd g.s 1,0,0,gA g.a g.t x.v x.ti,gT g.a g.t x.v x.ti,0,[],[],0,0,[],[]⟩ pl0 _).mono ?_
     rintro e w6 ⟨rfl,hb6⟩
     have HB6:Hid (Below w2.heap.size w2 w6):=chain HB5.out hb6
     have HB56:=hide hb6
     clear hb6
     have HR6:=hide (HC.out _ HB6.out).2.2
     have q0:=cellK HR6.out 0 rfl
     have q1:=cellK HR6.out 1 rfl
     have q2:=cellK HR6.out 2 rfl
     have q3:=cellK HR6.out 3 rfl
     have q4:=cellK HR6.out 4 rfl
     have q5:=cellK HR6.out 5 rfl
     have q6:=cellK HR6.out 6 rfl
     have q7:=cellK HR6.out 7 rfl
     have q8:=cellK HR6.out 8 rfl
     have q9:=cellK HR6.out 9 rfl
     have q10:=cellK HR6.out 10 rfl
     have q11:=cellK HR6.out 11 rfl
     have q12:=cellK HR6.out 12 rfl
     have f0:=fzR 0 HR6.out
     have f1:=fzR 1 HR6.out
     have f2:=fzR 2 HR6.out
     have f3:=fzR 3 HR6.out
     have f4:=fzR 4 HR6.out
     have f5:=fzR 5 HR6.out
     have f6:=fzR 6 HR6.out
     have f7:=fzR 7 HR6.out
     have f8:=fzR 8 HR6.out
     have f9:=fzR 9 HR6.out
     have f10:=fzR 10 HR6.out
     have f11:=fzR 11 HR6.out
     have f12:=fzR 12 HR6.out
     dsimp only
     refine hK.out _ _ (fun _=>HB6.out) ?_
     clear hK K
     try simp only [Act.put,sA,sB,sC]
     refine onE (i:=8) rfl (fun K hK=>?_)
     go_simp
     refine hK.out _ _ (fun h=>absurd rfl h) ?_
     clear hK K
     try simp only [Act.put,sA,sB,sC]
     refine doneK (by kernel_rfl) ?_ _
     go_wp2
     refine bodyPost_ret (v:=.agg (agArr ⟨2,wAdd g.s 1,0,0,gA g.a g.t x.v x.ti,gT g.a g.t x.v x.ti,0,[],[],0,0,[],[]⟩ pl0)) (by simp [results,Tryz.results56,go_sem,q0,q1,q2,q3,q4,q5,q6,q7,q8,q9,q10,q11,q12]) rfl (AgRes.mk (o:=⟨2,wAdd g.s 1,0,0,gA g.a g.t x.v x.ti,gT g.a g.t x.v x.ti,0,[],[],0,0,[],[]⟩) (p:=pl0) ?_ ?_ ?_)
     ·exact putG OX.out HG.out.1 HG.out.2.1 HG.out.2.2 HK1.out
     ·exact AgO.nil _ _ rfl rfl rfl rfl
     ·repeat (refine Below.setCell ?_ (by simp <;> omega) _)
      exact chain HT2.out HB6.out
    ·have HK1:=hide h
     clear h
     have HS0:(fun W=>Below w2.heap.size w2 W) w2.drew:=(Below.refl _ _).drew
     refine regionK (fun W=>Below w2.heap.size w2 W) 8 (by kernel_rfl) ?_
     refine tkS (i:=0) (v:=.pointer (some ⟨w.heap.size,1,none⟩)) rfl rfl HS0 ?_
     refine tkL (i:=1) (v:=.int .u64 g.s) rfl rfl HS0 (fun W hW=>?_) ?_
     ·have hWW:=HC.out W hW
      have x0:=cellK hWW.1 0 rfl
      have x1:=cellK hWW.1 1 rfl
      have x2:=cellK hWW.1 2 rfl
      have x3:=cellK hWW.1 3 rfl
      have x4:=cellK hWW.1 4 rfl
      have x5:=cellK hWW.1 5 rfl
      have x6:=cellK hWW.1 6 rfl
      have x7:=cellK hWW.1 7 rfl
      have x8:=cellK hWW.1 8 rfl
      have x9:=cellK hWW.1 9 rfl
      have x10:=cellK hWW.1 10 rfl
      have x11:=cellK hWW.1 11 rfl
      have x12:=cellK hWW.1 12 rfl
      obtain ⟨y0,y1,y2,y3,y4,y5,y6⟩:=sx_cells hWW.2.1
      clear hWW
      clear hW
      go_simp
     refine tkL (i:=3) (v:=.agg (agArr g p)) rfl rfl HS0 (fun W hW=>?_) ?_
     ·have hWW:=HC.out W hW
      have x0:=cellK hWW.1 0 rfl
      have x1:=cellK hWW.1 1 rfl
      have x2:=cellK hWW.1 2 rfl
      have x3:=cellK hWW.1 3 rfl
      have x4:=cellK hWW.1 4 rfl
      have x5:=cellK hWW.1 5 rfl
      have x6:=cellK hWW.1 6 rfl
      have x7:=cellK hWW.1 7 rfl
      have x8:=cellK hWW.1 8 rfl
      have x9:=cellK hWW.1 9 rfl
      have x10:=cellK hWW.1 10 rfl
      have x11:=cellK hWW.1 11 rfl
      have x12:=cellK hWW.1 12 rfl
      obtain ⟨y0,y1,y2,y3,y4,y5,y6⟩:=sx_cells hWW.2.1
      clear hWW
      clear hW
      go_simp
     simp only [sA,sB,sC]
     refine tkL (i:=5) (v:=.agg (sxArr x)) rfl rfl HS0 (fun W hW=>?_) ?_
     ·have hWW:=HC.out W hW
      have x0:=cellK hWW.1 0 rfl
      have x1:=cellK hWW.1 1 rfl
      have x2:=cellK hWW.1 2 rfl
      have x3:=cellK hWW.1 3 rfl
      have x4:=cellK hWW.1 4 rfl
      have x5:=cellK hWW.1 5 rfl
      have x6:=cellK hWW.1 6 rfl
      have x7:=cellK hWW.1 7 rfl
      have x8:=cellK hWW.1 8 rfl
      have x9:=cellK hWW.1 9 rfl
      have x10:=cellK hWW.1 10 rfl
      have x11:=cellK hWW.1 11 rfl
      have x12:=cellK hWW.1 12 rfl
      obtain ⟨y0,y1,y2,y3,y4,y5,y6⟩:=sx_cells hWW.2.1
      clear hWW
      clear hW
      go_simp
     simp only [sA,sB,sC]
     refine onE (i:=2) rfl (fun K hK=>?_)
     go_simp
     refine (c_i_WeightAdd _ _ OK.out.s (by unfold U64;omega) _).mono ?_
     rintro e wz ⟨rfl,hwz⟩
     obtain rfl:=hwz.symm
     dsimp only
     refine hK.out _ _ (fun _=>HS0) ?_
     clear hK K
     try simp only [Act.put,sA,sB,sC]
     refine onE (i:=4) rfl (fun K hK=>?_)
     go_simp
     refine (c_partOfH (g:=g) (p:=p) _ HK1.out).mono ?_
     rintro e w4 ⟨rfl,hb4⟩
     have HB4:Hid (Below w2.heap.size w2 w4):=(HS0:Below w2.heap.size w2 w2.drew).trans (hb4.mono (Nat.le_refl _))
     clear hb4
     dsimp only
     refine hK.out _ _ (fun _=>HB4.out) ?_
     clear hK K
     try simp only [Act.put,sA,sB,sC]
     refine onE (i:=6) rfl (fun K hK=>?_)
     go_simp
     refine (c_hput x OX.out HG.out.2.1 OK.out SM.out (ag_past HA.out (chain HT2.out HB4.out)) NO.out.sk).mono ?_
     rintro e w5 ⟨v5,rfl,ho5,hb5⟩
     obtain ⟨vp,vn,pn,nn,rfl,o1,o2,hap⟩:=ho5
     obtain ⟨pa,pc,rfl⟩:=o1.any
     obtain ⟨na,nc,rfl⟩:=o2.any
     obtain rfl:=o1.1
     obtain rfl:=o2.1
     have HO1:=hide o1
     have HO2:=hide o2
     have HAP:=hide hap
     have HB5:Hid (Below w2.heap.size w2 w5):=chain HB4.out hb5
     have hz4:=HB4.out.size
     clear hb5 o1 o2 hap
     dsimp only
     refine hK.out _ _ (fun _=>HB5.out) ?_
     clear hK K
     try simp only [Act.put,sA,sB,sC]
     refine onE (i:=7) rfl (fun K hK=>?_)
     go_simp
     refine (c_aggWithH ⟨0,wAdd g.s 1,0,0,0,0,putZ g.z x.v x.wt,putPS g.P x.v x.wt,putNS g.N x.v x.wt,addH g.x g.y (thH x.v x.wt) (thL x.v x.wt),addL g.y (thL x.v x.wt),[],[]⟩ ⟨pa,pc,na,nc,none,0,none,0⟩ _).mono ?_
     rintro e w6 ⟨rfl,hb6⟩
     have HB6:Hid (Below w2.heap.size w2 w6):=chain HB5.out hb6
     have HB56:=hide hb6
     clear hb6
     have HR6:=hide (HC.out _ HB6.out).2.2
     have q0:=cellK HR6.out 0 rfl
     have q1:=cellK HR6.out 1 rfl
     have q2:=cellK HR6.out 2 rfl
     have q3:=cellK HR6.out 3 rfl
     have q4:=cellK HR6.out 4 rfl
     have q5:=cellK HR6.out 5 rfl
     have q6:=cellK HR6.out 6 rfl
     have q7:=cellK HR6.out 7 rfl
     have q8:=cellK HR6.out 8 rfl
     have q9:=cellK HR6.out 9 rfl
     have q10:=cellK HR6.out 10 rfl
     have q11:=cellK HR6.out 11 rfl
     have q12:=cellK HR6.out 12 rfl
     have f0:=fzR 0 HR6.out
     have f1:=fzR 1 HR6.out
     have f2:=fzR 2 HR6.out
     have f3:=fzR 3 HR6.out
     have f4:=fzR 4 HR6.out
     have f5:=fzR 5 HR6.out
     have f6:=fzR 6 HR6.out
     have f7:=fzR 7 HR6.out
     have f8:=fzR 8 HR6.out
     have f9:=fzR 9 HR6.out
     have f10:=fzR 10 HR6.out
     have f11:=fzR 11 HR6.out
     have f12:=fzR 12 HR6.out
     dsimp only
     refine hK.out _ _ (fun _=>HB6.out) ?_
     clear hK K
     try simp only [Act.put,sA,sB,sC]
     refine onE (i:=8) rfl (fun K hK=>?_)
     go_simp
     refine hK.out _ _ (fun h=>absurd rfl h) ?_
     clear hK K
     try simp only [Act.put,sA,sB,sC]
     refine doneK (by kernel_rfl) ?_ _
     go_wp2
     refine bodyPost_ret (v:=.agg (agArr ⟨3,wAdd g.s 1,0,0,0,0,putZ g.z x.v x.wt,putPS g.P x.v x.wt,putNS g.N x.v x.wt,addH g.x g.y (thH x.v x.wt) (thL x.v x.wt),addL g.y (thL x.v x.wt),[],[]⟩ ⟨pa,pc,na,nc,none,0,none,0⟩)) (by simp [results,Tryz.results56,go_sem,q0,q1,q2,q3,q4,q5,q6,q7,q8,q9,q10,q11,q12]) rfl (AgRes.mk (o:=⟨3,wAdd g.s 1,0,0,0,0,putZ g.z x.v x.wt,putPS g.P x.v x.wt,putNS g.N x.v x.wt,addH g.x g.y (thH x.v x.wt) (thL x.v x.wt),addL g.y (thL x.v x.wt),[],[]⟩) (p:=⟨pa,pc,na,nc,none,0,none,0⟩) ?_ ?_ ?_)
     ·exact putHs OX.out HG.out.1 HG.out.2.1 HG.out.2.2 HK1.out OK.out
     ·refine AgO.le (B:=w4.heap.size) ?_ (by omega)
      repeat (refine AgO.below ?_ (by omega) _)
      exact ⟨HO1.out.past HB56.out,HO2.out.past HB56.out,HAP.out,⟨rfl,World.ownsRow_nil _ _ _ _⟩,⟨rfl,World.ownsRow_nil _ _ _ _⟩⟩
     ·repeat (refine Below.setCell ?_ (by simp <;> omega) _)
      exact chain HT2.out HB6.out
    ·have HK1:=hide h
     clear h
     have HS0:(fun W=>Below w2.heap.size w2 W) w2.drew:=(Below.refl _ _).drew
     refine regionK (fun W=>Below w2.heap.size w2 W) 8 (by kernel_rfl) ?_
     refine tkS (i:=0) (v:=.pointer (some ⟨w.heap.size,1,none⟩)) rfl rfl HS0 ?_
     refine tkL (i:=1) (v:=.int .u64 g.s) rfl rfl HS0 (fun W hW=>?_) ?_
     ·have hWW:=HC.out W hW
      have x0:=cellK hWW.1 0 rfl
      have x1:=cellK hWW.1 1 rfl
      have x2:=cellK hWW.1 2 rfl
      have x3:=cellK hWW.1 3 rfl
      have x4:=cellK hWW.1 4 rfl
      have x5:=cellK hWW.1 5 rfl
      have x6:=cellK hWW.1 6 rfl
      have x7:=cellK hWW.1 7 rfl
      have x8:=cellK hWW.1 8 rfl
      have x9:=cellK hWW.1 9 rfl
      have x10:=cellK hWW.1 10 rfl
      have x11:=cellK hWW.1 11 rfl
      have x12:=cellK hWW.1 12 rfl
      obtain ⟨y0,y1,y2,y3,y4,y5,y6⟩:=sx_cells hWW.2.1
      clear hWW
      clear hW
      go_simp
     refine tkL (i:=3) (v:=.agg (agArr g p)) rfl rfl HS0 (fun W hW=>?_) ?_
     ·have hWW:=HC.out W hW
      have x0:=cellK hWW.1 0 rfl
      have x1:=cellK hWW.1 1 rfl
      have x2:=cellK hWW.1 2 rfl
      have x3:=cellK hWW.1 3 rfl
      have x4:=cellK hWW.1 4 rfl
      have x5:=cellK hWW.1 5 rfl
      have x6:=cellK hWW.1 6 rfl
      have x7:=cellK hWW.1 7 rfl
      have x8:=cellK hWW.1 8 rfl
      have x9:=cellK hWW.1 9 rfl
      have x10:=cellK hWW.1 10 rfl
      have x11:=cellK hWW.1 11 rfl
      have x12:=cellK hWW.1 12 rfl
      obtain ⟨y0,y1,y2,y3,y4,y5,y6⟩:=sx_cells hWW.2.1
      clear hWW
      clear hW
      go_simp
     simp only [sA,sB,sC]
     refine tkL (i:=5) (v:=.agg (sxArr x)) rfl rfl HS0 (fun W hW=>?_) ?_
     ·have hWW:=HC.out W hW
      have x0:=cellK hWW.1 0 rfl
      have x1:=cellK hWW.1 1 rfl
      have x2:=cellK hWW.1 2 rfl
      have x3:=cellK hWW.1 3 rfl
      have x4:=cellK hWW.1 4 rfl
      have x5:=cellK hWW.1 5 rfl
      have x6:=cellK hWW.1 6 rfl
      have x7:=cellK hWW.1 7 rfl
      have x8:=cellK hWW.1 8 rfl
      have x9:=cellK hWW.1 9 rfl
      have x10:=cellK hWW.1 10 rfl
      have x11:=cellK hWW.1 11 rfl
      have x12:=cellK hWW.1 12 rfl
      obtain ⟨y0,y1,y2,y3,y4,y5,y6⟩:=sx_cells hWW.2.1
      clear hWW
      clear hW
      go_simp
     simp only [sA,sB,sC]
     refine onE (i:=2) rfl (fun K hK=>?_)
     go_simp
     refine (c_i_WeightAdd _ _ OK.out.s (by unfold U64;omega) _).mono ?_
     rintro e wz ⟨rfl,hwz⟩
     obtain rfl:=hwz.symm
     dsimp only
     refine hK.out _ _ (fun _=>HS0) ?_
     clear hK K
     try simp only [Act.put,sA,sB,sC]
     refine onE (i:=4) rfl (fun K hK=>?_)
     go_simp
     refine (c_partOfS (g:=g) (p:=p) _ HK1.out).mono ?_
     rintro e w4 ⟨rfl,hb4⟩
     have HB4:Hid (Below w2.heap.size w2 w4):=(HS0:Below w2.heap.size w2 w2.drew).trans (hb4.mono (Nat.le_refl _))
     clear hb4
     dsimp only
     refine hK.out _ _ (fun _=>HB4.out) ?_
     clear hK K
     try simp only [Act.put,sA,sB,sC]
     refine onE (i:=6) rfl (fun K hK=>?_)
     go_simp
     refine (c_sput x OX.out HG.out.2.1 OK.out SM.out PL.out (ag_past HA.out (chain HT2.out HB4.out))).mono ?_
     rintro e w5 ⟨v5,E,R,rfl,hM,ho5,hb5⟩
     obtain ⟨vp,vn,rfl,o1,o2⟩:=ho5
     obtain ⟨pa,pc,rfl⟩:=own_any o1
     obtain ⟨na,nc,rfl⟩:=own_any o2
     have HO1:=hide o1
     have HO2:=hide o2
     have HM:=hide hM
     have HB5:Hid (Below w2.heap.size w2 w5):=chain HB4.out hb5
     have hz4:=HB4.out.size
     clear hb5 o1 o2 hM
     dsimp only
     refine hK.out _ _ (fun _=>HB5.out) ?_
     clear hK K
     try simp only [Act.put,sA,sB,sC]
     refine onE (i:=7) rfl (fun K hK=>?_)
     go_simp
     refine (c_aggWithS ⟨0,wAdd g.s 1,0,0,0,0,0,[],[],0,0,E,R⟩ ⟨none,0,none,0,pa,pc,na,nc⟩ _).mono ?_
     rintro e w6 ⟨rfl,hb6⟩
     have HB6:Hid (Below w2.heap.size w2 w6):=chain HB5.out hb6
     have HB56:=hide hb6
     clear hb6
     have HR6:=hide (HC.out _ HB6.out).2.2
     have q0:=cellK HR6.out 0 rfl
     have q1:=cellK HR6.out 1 rfl
     have q2:=cellK HR6.out 2 rfl
     have q3:=cellK HR6.out 3 rfl
     have q4:=cellK HR6.out 4 rfl
     have q5:=cellK HR6.out 5 rfl
     have q6:=cellK HR6.out 6 rfl
     have q7:=cellK HR6.out 7 rfl
     have q8:=cellK HR6.out 8 rfl
     have q9:=cellK HR6.out 9 rfl
     have q10:=cellK HR6.out 10 rfl
     have q11:=cellK HR6.out 11 rfl
     have q12:=cellK HR6.out 12 rfl
     have f0:=fzR 0 HR6.out
     have f1:=fzR 1 HR6.out
     have f2:=fzR 2 HR6.out
     have f3:=fzR 3 HR6.out
     have f4:=fzR 4 HR6.out
     have f5:=fzR 5 HR6.out
     have f6:=fzR 6 HR6.out
     have f7:=fzR 7 HR6.out
     have f8:=fzR 8 HR6.out
     have f9:=fzR 9 HR6.out
     have f10:=fzR 10 HR6.out
     have f11:=fzR 11 HR6.out
     have f12:=fzR 12 HR6.out
     dsimp only
     refine hK.out _ _ (fun _=>HB6.out) ?_
     clear hK K
     try simp only [Act.put,sA,sB,sC]
     refine onE (i:=8) rfl (fun K hK=>?_)
     go_simp
     refine hK.out _ _ (fun h=>absurd rfl h) ?_
     clear hK K
     try simp only [Act.put,sA,sB,sC]
     refine doneK (by kernel_rfl) ?_ _
     go_wp2
     refine bodyPost_ret (v:=.agg (agArr ⟨4,wAdd g.s 1,0,0,0,0,0,[],[],0,0,E,R⟩ ⟨none,0,none,0,pa,pc,na,nc⟩)) (by simp [results,Tryz.results56,go_sem,q0,q1,q2,q3,q4,q5,q6,q7,q8,q9,q10,q11,q12]) rfl (AgRes.mk (o:=⟨4,wAdd g.s 1,0,0,0,0,0,[],[],0,0,E,R⟩) (p:=⟨none,0,none,0,pa,pc,na,nc⟩) ?_ ?_ ?_)
     ·exact putS OX.out HG.out.1 HG.out.2.1 HG.out.2.2 HK1.out HM.out
     ·refine AgO.le (B:=w4.heap.size) ?_ (by omega)
      repeat (refine AgO.below ?_ (by omega) _)
      exact ⟨⟨rfl,.inl ⟨rfl,rfl⟩⟩,⟨rfl,.inl ⟨rfl,rfl⟩⟩,(fun k e=>by cases e),⟨rfl,own_past HO1.out HB56.out⟩,⟨rfl,own_past HO2.out HB56.out⟩⟩
     ·repeat (refine Below.setCell ?_ (by simp <;> omega) _)
      exact chain HT2.out HB6.out
   ·have hb:(x.k != g.k)=true:=by simp;exact fun e=>hk e.symm
    have HQ:Hid (AgPut g x g):=put_no (fun h=>hk h.2.2)
    have HRa:=hide (HC.out _ (Below.refl _ _)).1
    have x0:=cellK HRa.out 0 rfl
    have x1:=cellK HRa.out 1 rfl
    have x2:=cellK HRa.out 2 rfl
    have x3:=cellK HRa.out 3 rfl
    have x4:=cellK HRa.out 4 rfl
    have x5:=cellK HRa.out 5 rfl
    have x6:=cellK HRa.out 6 rfl
    have x7:=cellK HRa.out 7 rfl
    have x8:=cellK HRa.out 8 rfl
    have x9:=cellK HRa.out 9 rfl
    have x10:=cellK HRa.out 10 rfl
    have x11:=cellK HRa.out 11 rfl
    have x12:=cellK HRa.out 12 rfl
    obtain ⟨y0,y1,y2,y3,y4,y5,y6⟩:=sx_cells (HC.out _ (Below.refl _ _)).2.1
    go_wp2_with fail
    clear x0 x1 x2 x3 x4 x5 x6 x7 x8 x9 x10 x11 x12 y0 y1 y2 y3 y4 y5 y6
    refine (c_copyAgg SM.out PL.out (ag_past HA.out HT2.out)).mono ?_
    rintro e wc ⟨vc,oc,rfl,rfl,⟨pc,rfl,hO⟩,hbc⟩
    have HO:=hide hO
    have HTc:=hide (chain HT2.out hbc)
    have HRc:=hide (HC.out _ hbc).2.2
    have hzw:=HT2.out.size
    clear hO hbc
    have q0:=cellK HRc.out 0 rfl
    have q1:=cellK HRc.out 1 rfl
    have q2:=cellK HRc.out 2 rfl
    have q3:=cellK HRc.out 3 rfl
    have q4:=cellK HRc.out 4 rfl
    have q5:=cellK HRc.out 5 rfl
    have q6:=cellK HRc.out 6 rfl
    have q7:=cellK HRc.out 7 rfl
    have q8:=cellK HRc.out 8 rfl
    have q9:=cellK HRc.out 9 rfl
    have q10:=cellK HRc.out 10 rfl
    have q11:=cellK HRc.out 11 rfl
    have q12:=cellK HRc.out 12 rfl
    have f0:=fzR 0 HRc.out
    have f1:=fzR 1 HRc.out
    have f2:=fzR 2 HRc.out
    have f3:=fzR 3 HRc.out
    have f4:=fzR 4 HRc.out
    have f5:=fzR 5 HRc.out
    have f6:=fzR 6 HRc.out
    have f7:=fzR 7 HRc.out
    have f8:=fzR 8 HRc.out
    have f9:=fzR 9 HRc.out
    have f10:=fzR 10 HRc.out
    have f11:=fzR 11 HRc.out
    have f12:=fzR 12 HRc.out
    go_wp2
    refine bodyPost_ret (v:=.agg (agArr oc pc)) (by simp [results,Tryz.results56,go_sem,q0,q1,q2,q3,q4,q5,q6,q7,q8,q9,q10,q11,q12]) rfl (AgRes.mk (o:=oc) (p:=pc) HQ.out ?_ ?_)
    ·refine AgO.le (B:=w2.heap.size) ?_ (by omega)
     repeat (refine AgO.below ?_ (by omega) _)
     exact HO.out
    ·repeat (refine Below.setCell ?_ (by simp <;> omega) _)
     exact HTc.out
theorem AgO.setNe {w:World} {B r j:Nat} {o:Ag} {p:Pl} (h:AgO w B o p) (hn:∀ k,AgBlk o p k→k≠r) (u:Value):AgO (w.setCell ⟨r,j,none⟩ u) B o p:=
 h.keptS (S:=fun k=>k=r) ⟨rfl,rfl,rfl,by simp [World.setCell],fun k hk hn=>Below.heap_setCell _ _ _ _ (fun e=>hn (by rw [e]))⟩ hn
section
variable {g:Ag} {x:Sx} (ok:x.Ok) (hg:agB g=true) (hx:x.B=true) (e:g.k=x.k)
include ok hg hx e
theorem putC' (k:g.k=1):AgPut g x ⟨g.k,wAdd g.s 1,addH g.h g.l (thH x.v x.wt) (thL x.v x.wt),addL g.l (thL x.v x.wt),g.a,g.t,g.z,g.P,g.N,g.x,g.y,g.E,g.R⟩:=by
 have n:=agB_no hg
 obtain ⟨a1,a2,a3,a4,a5⟩:=n.nh (by omega)
 obtain ⟨c1,c2⟩:=n.ns (by omega)
 obtain ⟨d1,d2⟩:=n.ng (by omega)
 have:=putC ok hg hx e k
 rw [a1,a2,a3,a4,a5,c1,c2,d1,d2,k]
 exact this
theorem putG' (k:g.k=2):AgPut g x ⟨g.k,wAdd g.s 1,g.h,g.l,gA g.a g.t x.v x.ti,gT g.a g.t x.v x.ti,g.z,g.P,g.N,g.x,g.y,g.E,g.R⟩:=by
 have n:=agB_no hg
 obtain ⟨a1,a2,a3,a4,a5⟩:=n.nh (by omega)
 obtain ⟨c1,c2⟩:=n.ns (by omega)
 obtain ⟨d1,d2⟩:=n.nc (by omega)
 have:=putG ok hg hx e k
 rw [a1,a2,a3,a4,a5,c1,c2,d1,d2,k]
 exact this
theorem putH' (k:g.k=3) (go:AgOk g):AgPut g x ⟨g.k,wAdd g.s 1,g.h,g.l,g.a,g.t,putZ g.z x.v x.wt,putPS g.P x.v x.wt,putNS g.N x.v x.wt,addH g.x g.y (thH x.v x.wt) (thL x.v x.wt),addL g.y (thL x.v x.wt),g.E,g.R⟩:=by
 have n:=agB_no hg
 obtain ⟨a1,a2⟩:=n.ng (by omega)
 obtain ⟨c1,c2⟩:=n.ns (by omega)
 obtain ⟨d1,d2⟩:=n.nc (by omega)
 have:=putHs ok hg hx e k go
 rw [a1,a2,c1,c2,d1,d2,k]
 exact this
theorem putS' (k:g.k=4) {E R:List Int} (m:Mg g.E g.R [hashT x.wd] [] E R):AgPut g x ⟨g.k,wAdd g.s 1,g.h,g.l,g.a,g.t,g.z,g.P,g.N,g.x,g.y,E,R⟩:=by
 have n:=agB_no hg
 obtain ⟨a1,a2,a3,a4,a5⟩:=n.nh (by omega)
 obtain ⟨c1,c2⟩:=n.ng (by omega)
 obtain ⟨d1,d2⟩:=n.nc (by omega)
 have:=putS ok hg hx e k (E:=E) (R:=R) (by unfold PutH;rw [if_pos n.hl];exact m)
 rw [a1,a2,a3,a4,a5,c1,c2,d1,d2,k]
 exact this
end
structure PB (w W:World) (b:Nat) (g a:Ag) (p q:Pl) (x:Sx):Prop where
 bel:Below w.heap.size w W
 ra:W.heap[w.heap.size]?=some (.cells (agArr g p) 79 (0,0))
 rx:W.heap[w.heap.size+1]?=some (.cells (sxArr x) 37 (0,0))
 rr:W.heap[w.heap.size+1+1]?=some (.cells z13 79 (0,0))
 ro:W.heap[b]?=some (.cells (agArr a q) 79 (0,0))
 lo:w.heap.size+1+1+1≤b∧b<W.heap.size
 own:AgO W (w.heap.size+1+1+1) a q
 ne:∀ k,AgBlk a q k→k<b
theorem PB.past {w W W':World} {b:Nat} {g a:Ag} {p q:Pl} {x:Sx} (h:PB w W b g a p q x) (hb:Below W.heap.size W W'):PB w W' b g a p q x:=
 ⟨chain h.bel hb,(hb.block _ (Array.getElem?_eq_some_iff.1 h.ra).1).trans h.ra,(hb.block _ (Array.getElem?_eq_some_iff.1 h.rx).1).trans h.rx,(hb.block _ (Array.getElem?_eq_some_iff.1 h.rr).1).trans h.rr,(hb.block _ (Array.getElem?_eq_some_iff.1 h.ro).1).trans h.ro,⟨h.lo.1,Nat.lt_of_lt_of_le h.lo.2 hb.size⟩,h.own.past hb,h.ne⟩
theorem PB.sam {w W:World} {b:Nat} {g a:Ag} {p q:Pl} {x:Sx} (h:PB w W b g a p q x) (s:Int):PB w (W.setCell ⟨b,1,none⟩ (.int .u64 s)) b g { a with s:=s } p q x:=by
 have hl:=h.lo
 have ot:∀ r o,r≠b→W.heap[r]?=some o→(W.setCell ⟨b,1,none⟩ (.int .u64 s)).heap[r]?=some o:=fun r o hr e=>by rw [heap_setCell_other _ _ _ _ (by simpa using hr)];exact e
 refine ⟨h.bel.setCell (by simp <;> omega) _,ot _ _ (by omega) h.ra,ot _ _ (by omega) h.rx,ot _ _ (by omega) h.rr,heap_setCell_same W b 1 _ _ _ h.ro,⟨hl.1,by simpa [World.setCell] using hl.2⟩,?_,h.ne⟩
 have:=h.own.setNe (r:=b) (j:=1) (fun k e=>Nat.ne_of_lt (h.ne k e)) (.int .u64 s)
 exact ⟨this.P,this.N,this.ap,this.E,this.R⟩
theorem PB.made {w w1:World} {g:Ag} {p q:Pl} {x:Sx} (hb:Below w.heap.size w w1) (h0:w1.heap[w.heap.size]?=some (.cells (agArr g p) 79 (0,0))) (h1:w1.heap[w.heap.size+1]?=some (.cells (sxArr x) 37 (0,0))) (h2:w1.heap[w.heap.size+1+1]?=some (.cells z13 79 (0,0))) (hs:w.heap.size+1+1+1≤w1.heap.size) (ho:AgO w1 (w.heap.size+1+1+1) g q):PB w (w1.alloc (.cells (agArr g q) 79)) w1.heap.size g g p q x:=by
 have a1:Below w1.heap.size w1 (w1.alloc (.cells (agArr g q) 79)):=(Below.refl _ _).alloc (Nat.le_refl _) _
 exact ⟨chain hb a1,(a1.block _ (Array.getElem?_eq_some_iff.1 h0).1).trans h0,(a1.block _ (Array.getElem?_eq_some_iff.1 h1).1).trans h1,(a1.block _ (Array.getElem?_eq_some_iff.1 h2).1).trans h2,heap_alloc_new w1 _,⟨hs,by simp⟩,ho.past a1,fun k e=>(ho.lt e).2⟩
set_option maxHeartbeats 16000000 in
theorem c_s_l07Put {w:World} {g:Ag} {p:Pl} (x:Sx) (hg:agB g=true) (hx:x.B=true) (hk:g.k=x.k) (ok:AgOk g) (ox:x.Ok) (sm:AgSm g) (pl:PlG g p) (hA:AgAt w g p) :
  Calls Tryz.prog 103 #[.agg (agArr g p),.agg (sxArr x)] w fun e w'=>AgRes w (AgPut g x) e w':=by
 have HG:=hide hg
 have HX:=hide hx
 have HKK:=hide hk
 have OK:=hide ok
 have OX:=hide ox
 have SM:=hide sm
 have PL:=hide pl
 have HA:=hide hA
 have NO:=hide (agB_no hg)
 clear hg hx hk ok ox sm pl hA
 obtain ⟨HT0,HC,HZ0⟩:=box_put w g p x
 go_enter Tryz.func103,Tryz.ntmps103
 go_wp2_with fail
 generalize ((w.alloc (.cells (agArr g p) 79)).alloc (.cells (sxArr x) 37)).alloc (.cells z13 79)=W0 at HT0 HC HZ0 ⊢
 refine (c_l07Copy SM.out PL.out (ag_past HA.out HT0.out)).mono ?_
 rintro e w1 ⟨v,o,rfl,ho,⟨q,rfl,hO⟩,hb1⟩
 obtain rfl:g=o:=ho.symm
 clear ho
 have hR:=HC.out w1 hb1
 have hs1:=hb1.size
 have HP:=hide (PB.made (chain HT0.out hb1) hR.1 hR.2.1 hR.2.2 (by have:=HZ0.out;omega) (hO.le (by have:=HZ0.out;omega)))
 have x1:=cellK hR.1 1 rfl
 have hlt:w.heap.size<w1.heap.size:=by have:=HZ0.out;omega
 have hne:¬ w.heap.size=w1.heap.size:=by omega
 clear hR hs1 hb1 hO HC HZ0 HT0
 go_wp2_with fail
 clear x1 hlt hne
 generalize w1.alloc (.cells (agArr g q) 79)=W1 at HP ⊢
 generalize w1.heap.size=b at HP ⊢
 refine (c_s_WeightAdd g.s 1 OK.out.s (by unfold U64;omega) _).mono ?_
 rintro e wz ⟨rfl,hwz⟩
 obtain rfl:=hwz.symm
 have hl:=HP.out.lo
 have hn0:¬ w.heap.size=b:=by omega
 have hn1:¬ w.heap.size+1=b:=by omega
 have hn2:¬ w.heap.size+1+1=b:=by omega
 have hkk:g.k=1∨g.k=2∨g.k=3∨g.k=4:=by have:=NO.out.k1;have:=NO.out.k4;omega
 rcases hkk with h | h | h | h
 ·have HK1:=hide h
  have e1:(g.k == 1)=true:=by rw [h];rfl
  clear h
  have c0:=cellK HP.out.ro 0 rfl
  have c1:=cellK HP.out.ro 1 rfl
  have c2:=cellK HP.out.ro 2 rfl
  have c3:=cellK HP.out.ro 3 rfl
  have c4:=cellK HP.out.ro 4 rfl
  have c5:=cellK HP.out.ro 5 rfl
  have c6:=cellK HP.out.ro 6 rfl
  have c7:=cellK HP.out.ro 7 rfl
  have c8:=cellK HP.out.ro 8 rfl
  have c9:=cellK HP.out.ro 9 rfl
  have c10:=cellK HP.out.ro 10 rfl
  have c11:=cellK HP.out.ro 11 rfl
  have c12:=cellK HP.out.ro 12 rfl
  have f0:=fzR 0 HP.out.ro
  have f1:=fzR 1 HP.out.ro
  have f2:=fzR 2 HP.out.ro
  have f3:=fzR 3 HP.out.ro
  have f4:=fzR 4 HP.out.ro
  have f5:=fzR 5 HP.out.ro
  have f6:=fzR 6 HP.out.ro
  have f7:=fzR 7 HP.out.ro
  have f8:=fzR 8 HP.out.ro
  have f9:=fzR 9 HP.out.ro
  have f10:=fzR 10 HP.out.ro
  have f11:=fzR 11 HP.out.ro
  have f12:=fzR 12 HP.out.ro
  have x0:=cellK HP.out.ra 0 rfl
  have x1:=cellK HP.out.ra 1 rfl
  have x2:=cellK HP.out.ra 2 rfl
  have x3:=cellK HP.out.ra 3 rfl
  have x4:=cellK HP.out.ra 4 rfl
  have x5:=cellK HP.out.ra 5 rfl
  have x6:=cellK HP.out.ra 6 rfl
  have x7:=cellK HP.out.ra 7 rfl
  have x8:=cellK HP.out.ra 8 rfl
  have x9:=cellK HP.out.ra 9 rfl
  have x10:=cellK HP.out.ra 10 rfl
  have x11:=cellK HP.out.ra 11 rfl
  have x12:=cellK HP.out.ra 12 rfl
  have y0:=cellK HP.out.rx 0 rfl
  have y1:=cellK HP.out.rx 1 rfl
  have y2:=cellK HP.out.rx 2 rfl
  have y3:=cellK HP.out.rx 3 rfl
  have y4:=cellK HP.out.rx 4 rfl
  have y5:=cellK HP.out.rx 5 rfl
  have y6:=cellK HP.out.rx 6 rfl
  go_wp2_with fail
  clear c0 c1 c2 c3 c4 c5 c6 c7 c8 c9 c10 c11 c12 f0 f1 f2 f3 f4 f5 f6 f7 f8 f9 f10 f11 f12 x0 x1 x2 x3 x4 x5 x6 x7 x8 x9 x10 x11 x12 y0 y1 y2 y3 y4 y5 y6
  have HP2:=hide (HP.out.sam (wAdd g.s 1))
  generalize W1.setCell ⟨b,1,none⟩ (.int .u64 (wAdd g.s 1))=W2 at HP2 ⊢
  clear HP
  have HS0:(fun W=>Below W2.heap.size W2 W) W2.drew:=(Below.refl _ _).drew
  refine regionK (fun W=>Below W2.heap.size W2 W) 9 (by kernel_rfl) ?_
  refine tkS (i:=0) (v:=.pointer (some ⟨w.heap.size,2,none⟩)) rfl rfl HS0 ?_
  refine tkL (i:=1) (v:=.agg #[.int .i64 g.h,.int .u64 g.l]) rfl rfl HS0 (fun W hW=>?_) ?_
  ·have hWW:=HP2.out.past hW
   have x0:=cellK hWW.ra 0 rfl
   have x1:=cellK hWW.ra 1 rfl
   have x2:=cellK hWW.ra 2 rfl
   have x3:=cellK hWW.ra 3 rfl
   have x4:=cellK hWW.ra 4 rfl
   have x5:=cellK hWW.ra 5 rfl
   have x6:=cellK hWW.ra 6 rfl
   have x7:=cellK hWW.ra 7 rfl
   have x8:=cellK hWW.ra 8 rfl
   have x9:=cellK hWW.ra 9 rfl
   have x10:=cellK hWW.ra 10 rfl
   have x11:=cellK hWW.ra 11 rfl
   have x12:=cellK hWW.ra 12 rfl
   have y0:=cellK hWW.rx 0 rfl
   have y1:=cellK hWW.rx 1 rfl
   have y2:=cellK hWW.rx 2 rfl
   have y3:=cellK hWW.rx 3 rfl
   have y4:=cellK hWW.rx 4 rfl
   have y5:=cellK hWW.rx 5 rfl
   have y6:=cellK hWW.rx 6 rfl
   clear hWW
   clear hW
   go_simp
  refine tkS (i:=2) (v:=.pointer (some ⟨w.heap.size+1,2,none⟩)) rfl rfl HS0 ?_
  simp only [sA,sB,sC]
  refine tkL (i:=3) (v:=.int .i64 x.v) rfl rfl HS0 (fun W hW=>?_) ?_
  ·have hWW:=HP2.out.past hW
   have x0:=cellK hWW.ra 0 rfl
   have x1:=cellK hWW.ra 1 rfl
   have x2:=cellK hWW.ra 2 rfl
   have x3:=cellK hWW.ra 3 rfl
   have x4:=cellK hWW.ra 4 rfl
   have x5:=cellK hWW.ra 5 rfl
   have x6:=cellK hWW.ra 6 rfl
   have x7:=cellK hWW.ra 7 rfl
   have x8:=cellK hWW.ra 8 rfl
   have x9:=cellK hWW.ra 9 rfl
   have x10:=cellK hWW.ra 10 rfl
   have x11:=cellK hWW.ra 11 rfl
   have x12:=cellK hWW.ra 12 rfl
   have y0:=cellK hWW.rx 0 rfl
   have y1:=cellK hWW.rx 1 rfl
   have y2:=cellK hWW.rx 2 rfl
   have y3:=cellK hWW.rx 3 rfl
   have y4:=cellK hWW.rx 4 rfl
   have y5:=cellK hWW.rx 5 rfl
   have y6:=cellK hWW.rx 6 rfl
   clear hWW
   clear hW
   go_simp
  refine tkS (i:=4) (v:=.pointer (some ⟨w.heap.size+1,4,none⟩)) rfl rfl HS0 ?_
  refine tkL (i:=5) (v:=.int .u64 x.wt) rfl rfl HS0 (fun W hW=>?_) ?_
  ·have hWW:=HP2.out.past hW
   have x0:=cellK hWW.ra 0 rfl
   have x1:=cellK hWW.ra 1 rfl
   have x2:=cellK hWW.ra 2 rfl
   have x3:=cellK hWW.ra 3 rfl
   have x4:=cellK hWW.ra 4 rfl
   have x5:=cellK hWW.ra 5 rfl
   have x6:=cellK hWW.ra 6 rfl
   have x7:=cellK hWW.ra 7 rfl
   have x8:=cellK hWW.ra 8 rfl
   have x9:=cellK hWW.ra 9 rfl
   have x10:=cellK hWW.ra 10 rfl
   have x11:=cellK hWW.ra 11 rfl
   have x12:=cellK hWW.ra 12 rfl
   have y0:=cellK hWW.rx 0 rfl
   have y1:=cellK hWW.rx 1 rfl
   have y2:=cellK hWW.rx 2 rfl
   have y3:=cellK hWW.rx 3 rfl
   have y4:=cellK hWW.rx 4 rfl
   have y5:=cellK hWW.rx 5 rfl
   have y6:=cellK hWW.rx 6 rfl
   clear hWW
   clear hW
   go_simp
  simp only [sA,sB,sC]
  refine onE (i:=6) rfl (fun K hK=>?_)
  go_simp
  refine (c_s_WideTimes x.v x.wt OX.out.v OX.out.wt _).mono ?_
  rintro e w3 ⟨rfl,hb3⟩
  have HB3:Hid (Below W2.heap.size W2 w3):=(HS0:Below W2.heap.size W2 W2.drew).trans (hb3.mono (Nat.le_refl _))
  clear hb3
  dsimp only
  refine hK.out _ _ (fun _=>HB3.out) ?_
  clear hK K
  try simp only [Act.put,sA,sB,sC]
  refine onE (i:=7) rfl (fun K hK=>?_)
  go_simp
  refine (c_s_WideAdd g.h g.l (thH x.v x.wt) (thL x.v x.wt) _ OK.out.l (show U64 (thL x.v x.wt) from uw_in _)).mono ?_
  rintro e w4 ⟨rfl,hb4⟩
  have HB4:Hid (Below W2.heap.size W2 w4):=chain HB3.out hb4
  have HP3:=hide (HP2.out.past HB4.out)
  clear hb4
  have c0:=cellK HP3.out.ro 0 rfl
  have c1:=cellK HP3.out.ro 1 rfl
  have c2:=cellK HP3.out.ro 2 rfl
  have c3:=cellK HP3.out.ro 3 rfl
  have c4:=cellK HP3.out.ro 4 rfl
  have c5:=cellK HP3.out.ro 5 rfl
  have c6:=cellK HP3.out.ro 6 rfl
  have c7:=cellK HP3.out.ro 7 rfl
  have c8:=cellK HP3.out.ro 8 rfl
  have c9:=cellK HP3.out.ro 9 rfl
  have c10:=cellK HP3.out.ro 10 rfl
  have c11:=cellK HP3.out.ro 11 rfl
  have c12:=cellK HP3.out.ro 12 rfl
  have f0:=fzR 0 HP3.out.ro
  have f1:=fzR 1 HP3.out.ro
  have f2:=fzR 2 HP3.out.ro
  have f3:=fzR 3 HP3.out.ro
  have f4:=fzR 4 HP3.out.ro
  have f5:=fzR 5 HP3.out.ro
  have f6:=fzR 6 HP3.out.ro
  have f7:=fzR 7 HP3.out.ro
  have f8:=fzR 8 HP3.out.ro
  have f9:=fzR 9 HP3.out.ro
  have f10:=fzR 10 HP3.out.ro
  have f11:=fzR 11 HP3.out.ro
  have f12:=fzR 12 HP3.out.ro
  have z0:=cellK HP3.out.rr 0 rfl
  have z1:=cellK HP3.out.rr 1 rfl
  have z2:=cellK HP3.out.rr 2 rfl
  have z3:=cellK HP3.out.rr 3 rfl
  have z4:=cellK HP3.out.rr 4 rfl
  have z5:=cellK HP3.out.rr 5 rfl
  have z6:=cellK HP3.out.rr 6 rfl
  have z7:=cellK HP3.out.rr 7 rfl
  have z8:=cellK HP3.out.rr 8 rfl
  have z9:=cellK HP3.out.rr 9 rfl
  have z10:=cellK HP3.out.rr 10 rfl
  have z11:=cellK HP3.out.rr 11 rfl
  have z12:=cellK HP3.out.rr 12 rfl
  have k0:=fzR 0 HP3.out.rr
  have k1:=fzR 1 HP3.out.rr
  have k2:=fzR 2 HP3.out.rr
  have k3:=fzR 3 HP3.out.rr
  have k4:=fzR 4 HP3.out.rr
  have k5:=fzR 5 HP3.out.rr
  have k6:=fzR 6 HP3.out.rr
  have k7:=fzR 7 HP3.out.rr
  have k8:=fzR 8 HP3.out.rr
  have k9:=fzR 9 HP3.out.rr
  have k10:=fzR 10 HP3.out.rr
  have k11:=fzR 11 HP3.out.rr
  have k12:=fzR 12 HP3.out.rr
  have HOF:Hid (AgO w4 (w.heap.size+1+1+1) ⟨g.k,wAdd g.s 1,addH g.h g.l (thH x.v x.wt) (thL x.v x.wt),addL g.l (thL x.v x.wt),g.a,g.t,g.z,g.P,g.N,g.x,g.y,g.E,g.R⟩ q):=⟨HP3.out.own.P,HP3.out.own.N,HP3.out.own.ap,HP3.out.own.E,HP3.out.own.R⟩
  have HNE:Hid (∀ k,AgBlk ⟨g.k,wAdd g.s 1,addH g.h g.l (thH x.v x.wt) (thL x.v x.wt),addL g.l (thL x.v x.wt),g.a,g.t,g.z,g.P,g.N,g.x,g.y,g.E,g.R⟩ q k→k≠b):=fun k e=>Nat.ne_of_lt (HP3.out.ne k e)
  dsimp only
  refine hK.out _ _ (fun _=>HB4.out) ?_
  clear hK K
  try simp only [Act.put,sA,sB,sC]
  refine tkS (i:=8) (v:=.pointer (some ⟨b,2,none⟩)) rfl rfl HB4.out ?_
  simp only [sA,sB,sC]
  refine onE (i:=9) rfl (fun K hK=>?_)
  go_simp
  refine hK.out _ _ (fun h=>absurd rfl h) ?_
  clear hK K
  try simp only [Act.put,sA,sB,sC]
  refine doneK (by kernel_rfl) ?_ _
  go_wp2
  refine bodyPost_ret (v:=.agg (agArr ⟨g.k,wAdd g.s 1,addH g.h g.l (thH x.v x.wt) (thL x.v x.wt),addL g.l (thL x.v x.wt),g.a,g.t,g.z,g.P,g.N,g.x,g.y,g.E,g.R⟩ q)) (by simp [results,Tryz.results103,go_sem,c0,c1,c2,c3,c4,c5,c6,c7,c8,c9,c10,c11,c12,z0,z1,z2,z3,z4,z5,z6,z7,z8,z9,z10,z11,z12]) rfl (AgRes.mk (o:=⟨g.k,wAdd g.s 1,addH g.h g.l (thH x.v x.wt) (thL x.v x.wt),addL g.l (thL x.v x.wt),g.a,g.t,g.z,g.P,g.N,g.x,g.y,g.E,g.R⟩) (p:=q) (putC' OX.out HG.out HX.out HKK.out HK1.out) ?_ ?_)
  ·refine AgO.le (B:=w.heap.size+1+1+1) ?_ (by omega)
   repeat (first | refine AgO.below ?_ (by omega) _ | refine AgO.setNe ?_ HNE.out _)
   exact HOF.out
  ·repeat (refine Below.setCell ?_ (by simp <;> omega) _)
   exact HP3.out.bel
 ·have HK1:=hide h
  have e1:(g.k == 1)=false:=beq_eq_false_iff_ne.2 (by omega)
  have e2:(g.k == 2)=true:=by rw [h];rfl
  clear h
  have c0:=cellK HP.out.ro 0 rfl
  have c1:=cellK HP.out.ro 1 rfl
  have c2:=cellK HP.out.ro 2 rfl
  have c3:=cellK HP.out.ro 3 rfl
  have c4:=cellK HP.out.ro 4 rfl
  have c5:=cellK HP.out.ro 5 rfl
  have c6:=cellK HP.out.ro 6 rfl
  have c7:=cellK HP.out.ro 7 rfl
  have c8:=cellK HP.out.ro 8 rfl
  have c9:=cellK HP.out.ro 9 rfl
  have c10:=cellK HP.out.ro 10 rfl
  have c11:=cellK HP.out.ro 11 rfl
  have c12:=cellK HP.out.ro 12 rfl
  have f0:=fzR 0 HP.out.ro
  have f1:=fzR 1 HP.out.ro
  have f2:=fzR 2 HP.out.ro
  have f3:=fzR 3 HP.out.ro
  have f4:=fzR 4 HP.out.ro
  have f5:=fzR 5 HP.out.ro
  have f6:=fzR 6 HP.out.ro
  have f7:=fzR 7 HP.out.ro
  have f8:=fzR 8 HP.out.ro
  have f9:=fzR 9 HP.out.ro
  have f10:=fzR 10 HP.out.ro
  have f11:=fzR 11 HP.out.ro
  have f12:=fzR 12 HP.out.ro
  have x0:=cellK HP.out.ra 0 rfl
  have x1:=cellK HP.out.ra 1 rfl
  have x2:=cellK HP.out.ra 2 rfl
  have x3:=cellK HP.out.ra 3 rfl
  have x4:=cellK HP.out.ra 4 rfl
  have x5:=cellK HP.out.ra 5 rfl
  have x6:=cellK HP.out.ra 6 rfl
  have x7:=cellK HP.out.ra 7 rfl
  have x8:=cellK HP.out.ra 8 rfl
  have x9:=cellK HP.out.ra 9 rfl
  have x10:=cellK HP.out.ra 10 rfl
  have x11:=cellK HP.out.ra 11 rfl
  have x12:=cellK HP.out.ra 12 rfl
  have y0:=cellK HP.out.rx 0 rfl
  have y1:=cellK HP.out.rx 1 rfl
  have y2:=cellK HP.out.rx 2 rfl
  have y3:=cellK HP.out.rx 3 rfl
  have y4:=cellK HP.out.rx 4 rfl
  have y5:=cellK HP.out.rx 5 rfl
  have y6:=cellK HP.out.rx 6 rfl
  go_wp2_with fail
  clear c0 c1 c2 c3 c4 c5 c6 c7 c8 c9 c10 c11 c12 f0 f1 f2 f3 f4 f5 f6 f7 f8 f9 f10 f11 f12 x0 x1 x2 x3 x4 x5 x6 x7 x8 x9 x10 x11 x12 y0 y1 y2 y3 y4 y5 y6
  have HP2:=hide (HP.out.sam (wAdd g.s 1))
  generalize W1.setCell ⟨b,1,none⟩ (.int .u64 (wAdd g.s 1))=W2 at HP2 ⊢
  clear HP
  refine (c_s_Gauge { g with s:=wAdd g.s 1 } q x.v x.ti _).mono ?_
  rintro e w4 ⟨rfl,hb4⟩
  have HP3:=hide (HP2.out.past hb4)
  clear hb4
  have c0:=cellK HP3.out.ro 0 rfl
  have c1:=cellK HP3.out.ro 1 rfl
  have c2:=cellK HP3.out.ro 2 rfl
  have c3:=cellK HP3.out.ro 3 rfl
  have c4:=cellK HP3.out.ro 4 rfl
  have c5:=cellK HP3.out.ro 5 rfl
  have c6:=cellK HP3.out.ro 6 rfl
  have c7:=cellK HP3.out.ro 7 rfl
  have c8:=cellK HP3.out.ro 8 rfl
  have c9:=cellK HP3.out.ro 9 rfl
  have c10:=cellK HP3.out.ro 10 rfl
  have c11:=cellK HP3.out.ro 11 rfl
  have c12:=cellK HP3.out.ro 12 rfl
  have f0:=fzR 0 HP3.out.ro
  have f1:=fzR 1 HP3.out.ro
  have f2:=fzR 2 HP3.out.ro
  have f3:=fzR 3 HP3.out.ro
  have f4:=fzR 4 HP3.out.ro
  have f5:=fzR 5 HP3.out.ro
  have f6:=fzR 6 HP3.out.ro
  have f7:=fzR 7 HP3.out.ro
  have f8:=fzR 8 HP3.out.ro
  have f9:=fzR 9 HP3.out.ro
  have f10:=fzR 10 HP3.out.ro
  have f11:=fzR 11 HP3.out.ro
  have f12:=fzR 12 HP3.out.ro
  have z0:=cellK HP3.out.rr 0 rfl
  have z1:=cellK HP3.out.rr 1 rfl
  have z2:=cellK HP3.out.rr 2 rfl
  have z3:=cellK HP3.out.rr 3 rfl
  have z4:=cellK HP3.out.rr 4 rfl
  have z5:=cellK HP3.out.rr 5 rfl
  have z6:=cellK HP3.out.rr 6 rfl
  have z7:=cellK HP3.out.rr 7 rfl
  have z8:=cellK HP3.out.rr 8 rfl
  have z9:=cellK HP3.out.rr 9 rfl
  have z10:=cellK HP3.out.rr 10 rfl
  have z11:=cellK HP3.out.rr 11 rfl
  have z12:=cellK HP3.out.rr 12 rfl
  have k0:=fzR 0 HP3.out.rr
  have k1:=fzR 1 HP3.out.rr
  have k2:=fzR 2 HP3.out.rr
  have k3:=fzR 3 HP3.out.rr
  have k4:=fzR 4 HP3.out.rr
  have k5:=fzR 5 HP3.out.rr
  have k6:=fzR 6 HP3.out.rr
  have k7:=fzR 7 HP3.out.rr
  have k8:=fzR 8 HP3.out.rr
  have k9:=fzR 9 HP3.out.rr
  have k10:=fzR 10 HP3.out.rr
  have k11:=fzR 11 HP3.out.rr
  have k12:=fzR 12 HP3.out.rr
  have HOF:Hid (AgO w4 (w.heap.size+1+1+1) ⟨g.k,wAdd g.s 1,g.h,g.l,gA g.a g.t x.v x.ti,gT g.a g.t x.v x.ti,g.z,g.P,g.N,g.x,g.y,g.E,g.R⟩ q):=⟨HP3.out.own.P,HP3.out.own.N,HP3.out.own.ap,HP3.out.own.E,HP3.out.own.R⟩
  have HNE:Hid (∀ k,AgBlk ⟨g.k,wAdd g.s 1,g.h,g.l,gA g.a g.t x.v x.ti,gT g.a g.t x.v x.ti,g.z,g.P,g.N,g.x,g.y,g.E,g.R⟩ q k→k≠b):=fun k e=>Nat.ne_of_lt (HP3.out.ne k e)
  go_wp2
  refine bodyPost_ret (v:=.agg (agArr ⟨g.k,wAdd g.s 1,g.h,g.l,gA g.a g.t x.v x.ti,gT g.a g.t x.v x.ti,g.z,g.P,g.N,g.x,g.y,g.E,g.R⟩ q)) (by simp [results,Tryz.results103,go_sem,c0,c1,c2,c3,c4,c5,c6,c7,c8,c9,c10,c11,c12,z0,z1,z2,z3,z4,z5,z6,z7,z8,z9,z10,z11,z12]) rfl (AgRes.mk (o:=⟨g.k,wAdd g.s 1,g.h,g.l,gA g.a g.t x.v x.ti,gT g.a g.t x.v x.ti,g.z,g.P,g.N,g.x,g.y,g.E,g.R⟩) (p:=q) (putG' OX.out HG.out HX.out HKK.out HK1.out) ?_ ?_)
  ·refine AgO.le (B:=w.heap.size+1+1+1) ?_ (by omega)
   repeat (first | refine AgO.below ?_ (by omega) _ | refine AgO.setNe ?_ HNE.out _)
   exact HOF.out
  ·repeat (refine Below.setCell ?_ (by simp <;> omega) _)
   exact HP3.out.bel
 ·have HK1:=hide h
  have e1:(g.k == 1)=false:=beq_eq_false_iff_ne.2 (by omega)
  have e2:(g.k == 2)=false:=beq_eq_false_iff_ne.2 (by omega)
  have e3:(g.k == 3)=true:=by rw [h];rfl
  clear h
  have c0:=cellK HP.out.ro 0 rfl
  have c1:=cellK HP.out.ro 1 rfl
  have c2:=cellK HP.out.ro 2 rfl
  have c3:=cellK HP.out.ro 3 rfl
  have c4:=cellK HP.out.ro 4 rfl
  have c5:=cellK HP.out.ro 5 rfl
  have c6:=cellK HP.out.ro 6 rfl
  have c7:=cellK HP.out.ro 7 rfl
  have c8:=cellK HP.out.ro 8 rfl
  have c9:=cellK HP.out.ro 9 rfl
  have c10:=cellK HP.out.ro 10 rfl
  have c11:=cellK HP.out.ro 11 rfl
  have c12:=cellK HP.out.ro 12 rfl
  have f0:=fzR 0 HP.out.ro
  have f1:=fzR 1 HP.out.ro
  have f2:=fzR 2 HP.out.ro
  have f3:=fzR 3 HP.out.ro
  have f4:=fzR 4 HP.out.ro
  have f5:=fzR 5 HP.out.ro
  have f6:=fzR 6 HP.out.ro
  have f7:=fzR 7 HP.out.ro
  have f8:=fzR 8 HP.out.ro
  have f9:=fzR 9 HP.out.ro
  have f10:=fzR 10 HP.out.ro
  have f11:=fzR 11 HP.out.ro
  have f12:=fzR 12 HP.out.ro
  have x0:=cellK HP.out.ra 0 rfl
  have x1:=cellK HP.out.ra 1 rfl
  have x2:=cellK HP.out.ra 2 rfl
  have x3:=cellK HP.out.ra 3 rfl
  have x4:=cellK HP.out.ra 4 rfl
  have x5:=cellK HP.out.ra 5 rfl
  have x6:=cellK HP.out.ra 6 rfl
  have x7:=cellK HP.out.ra 7 rfl
  have x8:=cellK HP.out.ra 8 rfl
  have x9:=cellK HP.out.ra 9 rfl
  have x10:=cellK HP.out.ra 10 rfl
  have x11:=cellK HP.out.ra 11 rfl
  have x12:=cellK HP.out.ra 12 rfl
  have y0:=cellK HP.out.rx 0 rfl
  have y1:=cellK HP.out.rx 1 rfl
  have y2:=cellK HP.out.rx 2 rfl
  have y3:=cellK HP.out.rx 3 rfl
  have y4:=cellK HP.out.rx 4 rfl
  have y5:=cellK HP.out.rx 5 rfl
  have y6:=cellK HP.out.rx 6 rfl
  go_wp2_with fail
  clear c0 c1 c2 c3 c4 c5 c6 c7 c8 c9 c10 c11 c12 f0 f1 f2 f3 f4 f5 f6 f7 f8 f9 f10 f11 f12 x0 x1 x2 x3 x4 x5 x6 x7 x8 x9 x10 x11 x12 y0 y1 y2 y3 y4 y5 y6
  have HP2:=hide (HP.out.sam (wAdd g.s 1))
  generalize W1.setCell ⟨b,1,none⟩ (.int .u64 (wAdd g.s 1))=W2 at HP2 ⊢
  clear HP
  have hsk:=sk_rise NO.out.sk
  refine (c_s_l03Put OK.out.z OK.out.y OX.out.v OX.out.wt rfl rfl hsk.1.2 hsk.2.2 (bins_past HA.out.P HP2.out.bel) (bins_past HA.out.N HP2.out.bel) OK.out.P OK.out.N (smp_parts HX.out).2.1 PL.out.cP PL.out.cN).mono ?_
  clear hsk
  rintro e w4 ⟨v4,rfl,⟨vp,vn,pn,nn,rfl,o1,o2,hap⟩,hb4⟩
  obtain ⟨pa,pc,rfl⟩:=o1.any
  obtain ⟨na,nc,rfl⟩:=o2.any
  obtain rfl:=o1.1
  obtain rfl:=o2.1
  have HP3:=hide (HP2.out.past hb4)
  have hl2:=HP2.out.lo
  have HOF:Hid (AgO w4 (w.heap.size+1+1+1) ⟨g.k,wAdd g.s 1,g.h,g.l,g.a,g.t,putZ g.z x.v x.wt,putPS g.P x.v x.wt,putNS g.N x.v x.wt,addH g.x g.y (thH x.v x.wt) (thL x.v x.wt),addL g.y (thL x.v x.wt),g.E,g.R⟩ ⟨pa,pc,na,nc,q.ea,q.ec,q.ra,q.rc⟩):=⟨o1.le (by omega),o2.le (by omega),hap,HP3.out.own.E,HP3.out.own.R⟩
  have HNE:Hid (∀ k,AgBlk ⟨g.k,wAdd g.s 1,g.h,g.l,g.a,g.t,putZ g.z x.v x.wt,putPS g.P x.v x.wt,putNS g.N x.v x.wt,addH g.x g.y (thH x.v x.wt) (thL x.v x.wt),addL g.y (thL x.v x.wt),g.E,g.R⟩ ⟨pa,pc,na,nc,q.ea,q.ec,q.ra,q.rc⟩ k→k≠b):=fun k e=>by
   rcases e with (e | e) | e
   ·have:=(o1.lt k e).1;omega
   ·have:=(o2.lt k e).1;omega
   ·exact Nat.ne_of_lt (HP3.out.ne k (.inr e))
  clear hb4 o1 o2 hap
  have c0:=cellK HP3.out.ro 0 rfl
  have c1:=cellK HP3.out.ro 1 rfl
  have c2:=cellK HP3.out.ro 2 rfl
  have c3:=cellK HP3.out.ro 3 rfl
  have c4:=cellK HP3.out.ro 4 rfl
  have c5:=cellK HP3.out.ro 5 rfl
  have c6:=cellK HP3.out.ro 6 rfl
  have c7:=cellK HP3.out.ro 7 rfl
  have c8:=cellK HP3.out.ro 8 rfl
  have c9:=cellK HP3.out.ro 9 rfl
  have c10:=cellK HP3.out.ro 10 rfl
  have c11:=cellK HP3.out.ro 11 rfl
  have c12:=cellK HP3.out.ro 12 rfl
  have f0:=fzR 0 HP3.out.ro
  have f1:=fzR 1 HP3.out.ro
  have f2:=fzR 2 HP3.out.ro
  have f3:=fzR 3 HP3.out.ro
  have f4:=fzR 4 HP3.out.ro
  have f5:=fzR 5 HP3.out.ro
  have f6:=fzR 6 HP3.out.ro
  have f7:=fzR 7 HP3.out.ro
  have f8:=fzR 8 HP3.out.ro
  have f9:=fzR 9 HP3.out.ro
  have f10:=fzR 10 HP3.out.ro
  have f11:=fzR 11 HP3.out.ro
  have f12:=fzR 12 HP3.out.ro
  have z0:=cellK HP3.out.rr 0 rfl
  have z1:=cellK HP3.out.rr 1 rfl
  have z2:=cellK HP3.out.rr 2 rfl
  have z3:=cellK HP3.out.rr 3 rfl
  have z4:=cellK HP3.out.rr 4 rfl
  have z5:=cellK HP3.out.rr 5 rfl
  have z6:=cellK HP3.out.rr 6 rfl
  have z7:=cellK HP3.out.rr 7 rfl
  have z8:=cellK HP3.out.rr 8 rfl
  have z9:=cellK HP3.out.rr 9 rfl
  have z10:=cellK HP3.out.rr 10 rfl
  have z11:=cellK HP3.out.rr 11 rfl
  have z12:=cellK HP3.out.rr 12 rfl
  have k0:=fzR 0 HP3.out.rr
  have k1:=fzR 1 HP3.out.rr
  have k2:=fzR 2 HP3.out.rr
  have k3:=fzR 3 HP3.out.rr
  have k4:=fzR 4 HP3.out.rr
  have k5:=fzR 5 HP3.out.rr
  have k6:=fzR 6 HP3.out.rr
  have k7:=fzR 7 HP3.out.rr
  have k8:=fzR 8 HP3.out.rr
  have k9:=fzR 9 HP3.out.rr
  have k10:=fzR 10 HP3.out.rr
  have k11:=fzR 11 HP3.out.rr
  have k12:=fzR 12 HP3.out.rr
  go_wp2
  refine bodyPost_ret (v:=.agg (agArr ⟨g.k,wAdd g.s 1,g.h,g.l,g.a,g.t,putZ g.z x.v x.wt,putPS g.P x.v x.wt,putNS g.N x.v x.wt,addH g.x g.y (thH x.v x.wt) (thL x.v x.wt),addL g.y (thL x.v x.wt),g.E,g.R⟩ ⟨pa,pc,na,nc,q.ea,q.ec,q.ra,q.rc⟩)) (by simp [results,Tryz.results103,go_sem,c0,c1,c2,c3,c4,c5,c6,c7,c8,c9,c10,c11,c12,z0,z1,z2,z3,z4,z5,z6,z7,z8,z9,z10,z11,z12]) rfl (AgRes.mk (o:=⟨g.k,wAdd g.s 1,g.h,g.l,g.a,g.t,putZ g.z x.v x.wt,putPS g.P x.v x.wt,putNS g.N x.v x.wt,addH g.x g.y (thH x.v x.wt) (thL x.v x.wt),addL g.y (thL x.v x.wt),g.E,g.R⟩) (p:=⟨pa,pc,na,nc,q.ea,q.ec,q.ra,q.rc⟩) (putH' OX.out HG.out HX.out HKK.out HK1.out OK.out) ?_ ?_)
  ·refine AgO.le (B:=w.heap.size+1+1+1) ?_ (by omega)
   repeat (first | refine AgO.below ?_ (by omega) _ | refine AgO.setNe ?_ HNE.out _)
   exact HOF.out
  ·repeat (refine Below.setCell ?_ (by simp <;> omega) _)
   exact HP3.out.bel
 ·have HK1:=hide h
  have e1:(g.k == 1)=false:=beq_eq_false_iff_ne.2 (by omega)
  have e2:(g.k == 2)=false:=beq_eq_false_iff_ne.2 (by omega)
  have e3:(g.k == 3)=false:=beq_eq_false_iff_ne.2 (by omega)
  clear h
  have c0:=cellK HP.out.ro 0 rfl
  have c1:=cellK HP.out.ro 1 rfl
  have c2:=cellK HP.out.ro 2 rfl
  have c3:=cellK HP.out.ro 3 rfl
  have c4:=cellK HP.out.ro 4 rfl
  have c5:=cellK HP.out.ro 5 rfl
  have c6:=cellK HP.out.ro 6 rfl
  have c7:=cellK HP.out.ro 7 rfl
  have c8:=cellK HP.out.ro 8 rfl
  have c9:=cellK HP.out.ro 9 rfl
  have c10:=cellK HP.out.ro 10 rfl
  have c11:=cellK HP.out.ro 11 rfl
  have c12:=cellK HP.out.ro 12 rfl
  have f0:=fzR 0 HP.out.ro
  have f1:=fzR 1 HP.out.ro
  have f2:=fzR 2 HP.out.ro
  have f3:=fzR 3 HP.out.ro
  have f4:=fzR 4 HP.out.ro
  have f5:=fzR 5 HP.out.ro
  have f6:=fzR 6 HP.out.ro
  have f7:=fzR 7 HP.out.ro
  have f8:=fzR 8 HP.out.ro
  have f9:=fzR 9 HP.out.ro
  have f10:=fzR 10 HP.out.ro
  have f11:=fzR 11 HP.out.ro
  have f12:=fzR 12 HP.out.ro
  have x0:=cellK HP.out.ra 0 rfl
  have x1:=cellK HP.out.ra 1 rfl
  have x2:=cellK HP.out.ra 2 rfl
  have x3:=cellK HP.out.ra 3 rfl
  have x4:=cellK HP.out.ra 4 rfl
  have x5:=cellK HP.out.ra 5 rfl
  have x6:=cellK HP.out.ra 6 rfl
  have x7:=cellK HP.out.ra 7 rfl
  have x8:=cellK HP.out.ra 8 rfl
  have x9:=cellK HP.out.ra 9 rfl
  have x10:=cellK HP.out.ra 10 rfl
  have x11:=cellK HP.out.ra 11 rfl
  have x12:=cellK HP.out.ra 12 rfl
  have y0:=cellK HP.out.rx 0 rfl
  have y1:=cellK HP.out.rx 1 rfl
  have y2:=cellK HP.out.rx 2 rfl
  have y3:=cellK HP.out.rx 3 rfl
  have y4:=cellK HP.out.rx 4 rfl
  have y5:=cellK HP.out.rx 5 rfl
  have y6:=cellK HP.out.rx 6 rfl
  go_wp2_with fail
  clear c0 c1 c2 c3 c4 c5 c6 c7 c8 c9 c10 c11 c12 f0 f1 f2 f3 f4 f5 f6 f7 f8 f9 f10 f11 f12 x0 x1 x2 x3 x4 x5 x6 x7 x8 x9 x10 x11 x12 y0 y1 y2 y3 y4 y5 y6
  have HP2:=hide (HP.out.sam (wAdd g.s 1))
  generalize W1.setCell ⟨b,1,none⟩ (.int .u64 (wAdd g.s 1))=W2 at HP2 ⊢
  clear HP
  have HS0:(fun W=>Below W2.heap.size W2 W) W2.drew:=(Below.refl _ _).drew
  refine regionK (fun W=>Below W2.heap.size W2 W) 7 (by kernel_rfl) ?_
  refine tkS (i:=0) (v:=.pointer (some ⟨w.heap.size,11,none⟩)) rfl rfl HS0 ?_
  refine tkL (i:=1) (v:=.agg #[.slice p.ea g.E.length p.ec,.slice p.ra g.R.length p.rc]) rfl rfl HS0 (fun W hW=>?_) ?_
  ·have hWW:=HP2.out.past hW
   have x0:=cellK hWW.ra 0 rfl
   have x1:=cellK hWW.ra 1 rfl
   have x2:=cellK hWW.ra 2 rfl
   have x3:=cellK hWW.ra 3 rfl
   have x4:=cellK hWW.ra 4 rfl
   have x5:=cellK hWW.ra 5 rfl
   have x6:=cellK hWW.ra 6 rfl
   have x7:=cellK hWW.ra 7 rfl
   have x8:=cellK hWW.ra 8 rfl
   have x9:=cellK hWW.ra 9 rfl
   have x10:=cellK hWW.ra 10 rfl
   have x11:=cellK hWW.ra 11 rfl
   have x12:=cellK hWW.ra 12 rfl
   have y0:=cellK hWW.rx 0 rfl
   have y1:=cellK hWW.rx 1 rfl
   have y2:=cellK hWW.rx 2 rfl
   have y3:=cellK hWW.rx 3 rfl
   have y4:=cellK hWW.rx 4 rfl
   have y5:=cellK hWW.rx 5 rfl
   have y6:=cellK hWW.rx 6 rfl
   clear hWW
   clear hW
   go_simp
  refine tkS (i:=2) (v:=.pointer (some ⟨w.heap.size+1,3,none⟩)) rfl rfl HS0 ?_
  simp only [sA,sB,sC]
  refine tkL (i:=3) (v:=.string x.wd) rfl rfl HS0 (fun W hW=>?_) ?_
  ·have hWW:=HP2.out.past hW
   have x0:=cellK hWW.ra 0 rfl
   have x1:=cellK hWW.ra 1 rfl
   have x2:=cellK hWW.ra 2 rfl
   have x3:=cellK hWW.ra 3 rfl
   have x4:=cellK hWW.ra 4 rfl
   have x5:=cellK hWW.ra 5 rfl
   have x6:=cellK hWW.ra 6 rfl
   have x7:=cellK hWW.ra 7 rfl
   have x8:=cellK hWW.ra 8 rfl
   have x9:=cellK hWW.ra 9 rfl
   have x10:=cellK hWW.ra 10 rfl
   have x11:=cellK hWW.ra 11 rfl
   have x12:=cellK hWW.ra 12 rfl
   have y0:=cellK hWW.rx 0 rfl
   have y1:=cellK hWW.rx 1 rfl
   have y2:=cellK hWW.rx 2 rfl
   have y3:=cellK hWW.rx 3 rfl
   have y4:=cellK hWW.rx 4 rfl
   have y5:=cellK hWW.rx 5 rfl
   have y6:=cellK hWW.rx 6 rfl
   clear hWW
   clear hW
   go_simp
  simp only [sA,sB,sC]
  refine onE (i:=4) rfl (fun K hK=>?_)
  go_simp
  refine (c_s_l02Hash x.wd OX.out.wd _).mono ?_
  rintro e wz ⟨rfl,hwz⟩
  obtain rfl:=hwz.symm
  dsimp only
  refine hK.out _ _ (fun _=>HS0) ?_
  clear hK K
  try simp only [Act.put,sA,sB,sC]
  refine onE (i:=5) rfl (fun K hK=>?_)
  go_simp
  refine (c_s_PutH (hashT x.wd) NO.out.hl rfl rfl PL.out.lE PL.out.mE PL.out.fE PL.out.cE (nums_past HA.out.E (chain HP2.out.bel HS0)) (nums_past HA.out.R (chain HP2.out.bel HS0)) OK.out.E (hashT_in _)).mono ?_
  rintro e w4 ⟨v4,E,R,rfl,hM,⟨ve,vr,rfl,o3,o4⟩,hb4⟩
  obtain ⟨ea,ec,rfl⟩:=own_any o3
  obtain ⟨ra,rc,rfl⟩:=own_any o4
  have HM:=hide hM
  have HB4:Hid (Below W2.heap.size W2 w4):=(HS0:Below W2.heap.size W2 W2.drew).trans (hb4.mono (Nat.le_refl _))
  have HP3:=hide (HP2.out.past HB4.out)
  have hl2:=HP2.out.lo
  have hsz:W2.drew.heap.size=W2.heap.size:=rfl
  have HOF:Hid (AgO w4 (w.heap.size+1+1+1) ⟨g.k,wAdd g.s 1,g.h,g.l,g.a,g.t,g.z,g.P,g.N,g.x,g.y,E,R⟩ ⟨q.pa,q.pc,q.na,q.nc,ea,ec,ra,rc⟩):=⟨HP3.out.own.P,HP3.out.own.N,HP3.out.own.ap,⟨rfl,own_le o3 (by omega)⟩,⟨rfl,own_le o4 (by omega)⟩⟩
  have HNE:Hid (∀ k,AgBlk ⟨g.k,wAdd g.s 1,g.h,g.l,g.a,g.t,g.z,g.P,g.N,g.x,g.y,E,R⟩ ⟨q.pa,q.pc,q.na,q.nc,ea,ec,ra,rc⟩ k→k≠b):=fun k e=>by
   rcases e with e | (e | e)
   ·exact Nat.ne_of_lt (HP3.out.ne k (.inl e))
   ·have:=own_ltB o3 k e;omega
   ·have:=own_ltB o4 k e;omega
  clear hb4 o3 o4 hM
  have c0:=cellK HP3.out.ro 0 rfl
  have c1:=cellK HP3.out.ro 1 rfl
  have c2:=cellK HP3.out.ro 2 rfl
  have c3:=cellK HP3.out.ro 3 rfl
  have c4:=cellK HP3.out.ro 4 rfl
  have c5:=cellK HP3.out.ro 5 rfl
  have c6:=cellK HP3.out.ro 6 rfl
  have c7:=cellK HP3.out.ro 7 rfl
  have c8:=cellK HP3.out.ro 8 rfl
  have c9:=cellK HP3.out.ro 9 rfl
  have c10:=cellK HP3.out.ro 10 rfl
  have c11:=cellK HP3.out.ro 11 rfl
  have c12:=cellK HP3.out.ro 12 rfl
  have f0:=fzR 0 HP3.out.ro
  have f1:=fzR 1 HP3.out.ro
  have f2:=fzR 2 HP3.out.ro
  have f3:=fzR 3 HP3.out.ro
  have f4:=fzR 4 HP3.out.ro
  have f5:=fzR 5 HP3.out.ro
  have f6:=fzR 6 HP3.out.ro
  have f7:=fzR 7 HP3.out.ro
  have f8:=fzR 8 HP3.out.ro
  have f9:=fzR 9 HP3.out.ro
  have f10:=fzR 10 HP3.out.ro
  have f11:=fzR 11 HP3.out.ro
  have f12:=fzR 12 HP3.out.ro
  have z0:=cellK HP3.out.rr 0 rfl
  have z1:=cellK HP3.out.rr 1 rfl
  have z2:=cellK HP3.out.rr 2 rfl
  have z3:=cellK HP3.out.rr 3 rfl
  have z4:=cellK HP3.out.rr 4 rfl
  have z5:=cellK HP3.out.rr 5 rfl
  have z6:=cellK HP3.out.rr 6 rfl
  have z7:=cellK HP3.out.rr 7 rfl
  have z8:=cellK HP3.out.rr 8 rfl
  have z9:=cellK HP3.out.rr 9 rfl
  have z10:=cellK HP3.out.rr 10 rfl
  have z11:=cellK HP3.out.rr 11 rfl
  have z12:=cellK HP3.out.rr 12 rfl
  have k0:=fzR 0 HP3.out.rr
  have k1:=fzR 1 HP3.out.rr
  have k2:=fzR 2 HP3.out.rr
  have k3:=fzR 3 HP3.out.rr
  have k4:=fzR 4 HP3.out.rr
  have k5:=fzR 5 HP3.out.rr
  have k6:=fzR 6 HP3.out.rr
  have k7:=fzR 7 HP3.out.rr
  have k8:=fzR 8 HP3.out.rr
  have k9:=fzR 9 HP3.out.rr
  have k10:=fzR 10 HP3.out.rr
  have k11:=fzR 11 HP3.out.rr
  have k12:=fzR 12 HP3.out.rr
  dsimp only
  refine hK.out _ _ (fun _=>HB4.out) ?_
  clear hK K
  try simp only [Act.put,sA,sB,sC]
  refine tkS (i:=6) (v:=.pointer (some ⟨b,11,none⟩)) rfl rfl HB4.out ?_
  simp only [sA,sB,sC]
  refine onE (i:=7) rfl (fun K hK=>?_)
  go_simp
  refine hK.out _ _ (fun h=>absurd rfl h) ?_
  clear hK K
  try simp only [Act.put,sA,sB,sC]
  refine doneK (by kernel_rfl) ?_ _
  go_wp2
  refine bodyPost_ret (v:=.agg (agArr ⟨g.k,wAdd g.s 1,g.h,g.l,g.a,g.t,g.z,g.P,g.N,g.x,g.y,E,R⟩ ⟨q.pa,q.pc,q.na,q.nc,ea,ec,ra,rc⟩)) (by simp [results,Tryz.results103,go_sem,c0,c1,c2,c3,c4,c5,c6,c7,c8,c9,c10,c11,c12,z0,z1,z2,z3,z4,z5,z6,z7,z8,z9,z10,z11,z12]) rfl (AgRes.mk (o:=⟨g.k,wAdd g.s 1,g.h,g.l,g.a,g.t,g.z,g.P,g.N,g.x,g.y,E,R⟩) (p:=⟨q.pa,q.pc,q.na,q.nc,ea,ec,ra,rc⟩) (putS' OX.out HG.out HX.out HKK.out HK1.out HM.out) ?_ ?_)
  ·refine AgO.le (B:=w.heap.size+1+1+1) ?_ (by omega)
   repeat (first | refine AgO.below ?_ (by omega) _ | refine AgO.setNe ?_ HNE.out _)
   exact HOF.out
  ·repeat (refine Below.setCell ?_ (by simp <;> omega) _)
   exact HP3.out.bel
end Go.Proofs.YtiiclgcpagdekaaGreatDoor
