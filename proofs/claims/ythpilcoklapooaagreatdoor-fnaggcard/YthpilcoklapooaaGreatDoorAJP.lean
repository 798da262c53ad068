/-
 The model's sketch of how many: l04Merge where one has registers.
-/
import Derived.Test.YthpilcoklapooaaGreatDoorAJO
namespace Go.Proofs.YthpilcoklapooaaGreatDoor
set_option linter.unusedVariables false
set_option linter.unusedSimpArgs false
open Go.ChangeShapes Go.WideShapes Go.ChangeAt Go.RowKit Go.PlainAid Go.Maps
set_option maxRecDepth 10000
/-- A box of two that is written over. -/
theorem out_box {w:World} {g:Nat} {a b:Value} (h:w.heap[g]?=some (.cells #[a,b] 32 (0,0))) (p q:Value):((w.setCell ⟨g,0,none⟩ p).setCell ⟨g,1,none⟩ q).heap[g]?=some (.cells #[p,q] 32 (0,0)):=by
 exact heap_setCell_same _ g 1 _ _ q (heap_setCell_same w g 0 _ _ p h)
set_option maxHeartbeats 4000000 in
theorem c_s_MergeR {w:World} {ea ra eb rb:Option Addr} {n1 c1 m1 d1 n2 c2 m2 d2:Nat} {E1 R1 E2 R2:List Int} (h1:E1.length=n1) (h2:R1.length=m1) (h3:E2.length=n2) (h4:R2.length=m2) (l1:n1≤40) (l2:m1=0∨m1=64) (l3:n2≤40) (l4:m2=0∨m2=64) (hno:¬ (m1=0∧m2=0))
  (hE1:NumsAt .u64 w ea E1) (hR1:NumsAt .i64 w ra R1) (hE2:NumsAt .u64 w eb E2) (hR2:NumsAt .i64 w rb R2) (u1:∀ x∈E1,U64 x) (u2:∀ x∈E2,U64 x) :
  Calls Tryz.prog 141 #[.agg #[.slice ea n1 c1,.slice ra m1 d1],.agg #[.slice eb n2 c2,.slice rb m2 d2]] w fun e w'=>MgOut w E1 R1 E2 R2 e w':=by
 have HE1:=hide hE1
 have HE2:=hide hE2
 have HR1:=hide hR1
 have HR2:=hide hR2
 have H1:=hide h1
 have H2:=hide h2
 have H3:=hide h3
 have H4:=hide h4
 have U1:=hide u1
 have U2:=hide u2
 have L2:=hide l2
 have L4:=hide l4
 have HPl:Hid ((padR R1).length=64):=padR_len (by rw [h2];exact l2)
 have HMg:Hid (∀ A B,Laid (padR R1) (·∈E1) A→Laid (padR A) (·∈E2) B→Mg E1 R1 E2 R2 [] (mxL B R2 m2)):=fun A B hA hB=>mrg_reg h4 (by rw [h2,h4];exact hno) (padR_len (by rw [h2];exact l2)) hA hB
 have HBa:Hid (∀ o1 o2 o3,Below w.heap.size w (((w.alloc o1).alloc o2).alloc o3)):=fun o1 o2 o3=>(((Below.refl _ _).alloc (Nat.le_refl _) _).alloc (by simp) _).alloc (by simp;omega) _
 clear hE1 hE2 hR1 hR2 h1 h2 h3 h4 u1 u2
 by_cases hm1:m1=0
 ·obtain rfl:m2=64:=by omega
  subst hm1
  have hm2:64≤64:=by omega
  go_enter Tryz.func141,Tryz.ntmps141
  go_wp2_with fail
  refine (c_s_Dense H2.out H1.out (.inl rfl) (by omega) (nums_past HR1.out (HBa.out _ _ _)) (nums_past HE1.out (HBa.out _ _ _)) U1.out).mono ?_
  rintro e w1 ⟨g1,A,rfl,hL1,hRow1,hb1⟩
  obtain ⟨_,⟨y0,y1⟩,hres⟩:=mid_cell w _ _ _ _ _ _ _ _ _ w1 hb1
  have hz1:=hb1.size
  have hT1:Below w.heap.size w w1:=(HBa.out _ _ _).trans (hb1.mono (by simp;omega))
  simp only [World.size_alloc] at hz1 hRow1
  have HT1:=hide hT1
  have HRs:=hide hres
  have HL1:=hide hL1
  have HA64:=hide hRow1.1
  have HNA:Hid (NumsAt .i64 w1 (some ⟨g1,0,none⟩) A):=(fun _=>⟨g1,0,rfl,fun i x hx=>by
   have hi:=(List.getElem?_eq_some_iff.1 hx).1
   rw [Nat.zero_add]
   exact hRow1.cell (by have:=hRow1.1;omega) (by rw [List.getD_eq_getElem?_getD,hx];rfl)⟩)
  have HKy:Hid (HlCell w1 (w.heap.size+1) (.slice eb n2 c2) (.slice rb 64 d2)):=⟨y0,y1⟩
  have HAl:Hid (∀ o,Below w1.heap.size w1 (w1.alloc o)):=fun o=>(Below.refl _ _).alloc (Nat.le_refl _) _
  have yA0:∀ o,(w1.alloc o).cell? ⟨w.heap.size+1,0,none⟩=some (.slice eb n2 c2):=fun o=>cell_past (HAl.out o) y0
  have HN1:=hide (heap_alloc_new w1 (.cells #[.slice none 0 0,.slice (some ⟨g1,0,none⟩) 64 64] 32))
  clear hb1 hT1 hres hL1 hRow1
  go_wp2_with fail
  refine (c_s_Dense (R:=A) HA64.out H3.out (.inr rfl) (by omega) (nums_past HNA.out (HAl.out _)) (nums_past HE2.out (HT1.out.trans ((HAl.out _).mono HT1.out.size))) U2.out).mono ?_
  rintro e w2 ⟨g2,B,rfl,hL2,hRow2,hb2⟩
  simp only [World.size_alloc] at hRow2 hb2
  have hz2:w1.heap.size+1≤w2.heap.size:=by have:=hb2.size;simpa using this
  have HR2':Hid (RowI w2 (w1.heap.size+1) g2 B):=hRow2
  have HMf:=hide (HMg.out A B HL1.out hL2)
  have hg2:w1.heap.size<g2:=by have:=hRow2.lt.1;omega
  have r2:=(hb2.block w1.heap.size (by omega)).trans HN1.out
  have q0:w2.cell? ⟨w1.heap.size,0,none⟩=some (.slice none 0 0):=by rw [cell_of_row _ _ 0 _ _ (0,0) r2];rfl
  have q1:w2.cell? ⟨w1.heap.size,1,none⟩=some (.slice (some ⟨g1,0,none⟩) 64 64):=by rw [cell_of_row _ _ 1 _ _ (0,0) r2];rfl
  have f0:=fzR 0 r2
  have f1:=fzR 1 r2
  have HBx:=hide ((HAl.out (.cells #[.slice none 0 0,.slice (some ⟨g1,0,none⟩) 64 64] 32)).trans (hb2.mono (by omega)))
  have HBo:=hide (out_box r2 (.slice none 0 0) (.slice (some ⟨g2,0,none⟩) 64 64))
  clear hL2 hRow2 hb2 r2
  clear y0 y1 yA0
  obtain ⟨y0,y1⟩:=hl_past HKy.out HBx.out
  have HRw0:Hid (RowI ((w2.setCell ⟨w1.heap.size,0,none⟩ (.slice none 0 0)).setCell ⟨w1.heap.size,1,none⟩ (.slice (some ⟨g2,0,none⟩) 64 64)) (w1.heap.size+1) g2 (mxL B R2 0)):=by
   rw [mxL_zero]
   refine ⟨HR2'.out.1,?_⟩
   repeat (refine ownsRow_setCell_below ?_ (by simp) _)
   exact HR2'.out.2
  have HBl0:Hid (Below w1.heap.size w1 ((w2.setCell ⟨w1.heap.size,0,none⟩ (.slice none 0 0)).setCell ⟨w1.heap.size,1,none⟩ (.slice (some ⟨g2,0,none⟩) 64 64))):=(HBx.out.setCell (Nat.le_refl _) _).setCell (Nat.le_refl _) _
  have HB64:=hide HR2'.out.1
  clear HR2' HBx
  go_wp2_with fail
  clear q0 q1 f0 f1 y0 y1
  go_loopw [8] (fun iv wr=>∃ k:Nat,k≤64∧iv=.int .i64 k∧Hid (RowI wr (w1.heap.size+1) g2 (mxL B R2 k))∧Hid (wr.heap[w1.heap.size]?=some (.cells #[.slice none 0 0,.slice (some ⟨g2,0,none⟩) 64 64] 32 (0,0)))∧Hid (Below w1.heap.size w1 wr)) (fun iv wr=>64 - (Go.RowKit.intOf iv).toNat)
  case atStart=>exact ⟨0,Nat.zero_le _,rfl,HRw0,HBo,HBl0⟩
  case round=>
   clear HRw0 HBo HBl0
   obtain ⟨k,hk,rfl,HRw,HBo,HBl⟩:=hrel
   have hg2l:=HRw.out.lt.2
   have hszr:=HBl.out.size
   have HC:Hid (∀ W,Below wr.heap.size wr W→HlCell W (w.heap.size+1) (.slice eb n2 c2) (.slice rb 64 d2)∧HlCell W w1.heap.size (.slice none 0 0) (.slice (some ⟨g2,0,none⟩) 64 64)):=fun W hW=>by
    have hr:W.heap[w1.heap.size]?=some (.cells #[.slice none 0 0,.slice (some ⟨g2,0,none⟩) 64 64] 32 (0,0)):=by rw [hW.block _ (by omega)];exact HBo.out
    refine ⟨hl_past (hl_past HKy.out HBl.out) hW,?_,?_⟩
    ·rw [cell_of_row _ _ 0 _ _ (0,0) hr];rfl
    ·rw [cell_of_row _ _ 1 _ _ (0,0) hr];rfl
   by_cases hkn:k<64
   ·have hkm:(k:Int)<(64:Int):=by omega
    have hk64:(k:Int)<64:=by omega
    obtain ⟨b,off,e,hcell⟩:=HR2.out (by have:=H4.out;omega)
    subst e
    obtain ⟨y,hy⟩:∃ y,R2[k]?=some y:=⟨R2[k]'(by have:=H4.out;omega),List.getElem?_eq_getElem _⟩
    obtain ⟨u,hu⟩:∃ u,B.getD k 0=u:=⟨_,rfl⟩
    have hc0:=cell_past (chain HT1.out HBl.out) (hcell k y hy)
    have hu':u=(mxL B R2 k).getD k 0:=by rw [mxL_get B R2 k k (by rw [HB64.out];omega),if_neg (Nat.lt_irrefl _)];exact hu.symm
    have HCc:Hid (∀ W,Below wr.heap.size wr W→W.cell? ⟨b,off+k,none⟩=some (.int .i64 y)∧W.cell? ⟨g2,k,none⟩=some (.int .i64 u)):=fun W hW=>⟨cell_past hW hc0,(HRw.out.below hg2l hW).cell (by omega) hu'⟩
    have HSt:Hid ((mxL B R2 k).set k (max u y)=mxL B R2 (k+1)):=by
     have hyd:R2.getD k 0=y:=by rw [List.getD_eq_getElem?_getD,hy];rfl
     have:=mxL_set B R2 k (by rw [HB64.out];omega)
     rw [hu,hyd] at this;exact this
    clear hcell hc0 hu hu' hy
    have h0k:(0:Int)≤(k:Int):=by omega
    obtain ⟨⟨y0,y1⟩,⟨z0,z1⟩⟩:=HC.out wr (Below.refl _ _)
    go_wp2_with fail
    clear y0 y1 z0 z1
    have HS0:(fun W=>Below wr.heap.size wr W) wr.drew:=(Below.refl _ _).drew
    refine regionK (fun W=>Below wr.heap.size wr W) 15 (by kernel_rfl) ?_
    refine tkL (i:=0) (d:=61) (v:=.pointer (some ⟨w1.heap.size,1,none⟩)) rfl rfl HS0 (fun W hW=>?_) ?_
    ·obtain ⟨⟨y0,y1⟩,⟨z0,z1⟩⟩:=HC.out W hW
     go_simp
    refine tkL (i:=1) (d:=62) (v:=.slice (some ⟨g2,0,none⟩) 64 64) rfl rfl HS0 (fun W hW=>?_) ?_
    ·obtain ⟨⟨y0,y1⟩,⟨z0,z1⟩⟩:=HC.out W hW
     go_simp
    refine tkL (i:=2) (d:=63) (v:=.int .i64 (k:Int)) rfl rfl HS0 (fun W hW=>?_) ?_
    ·obtain ⟨⟨y0,y1⟩,⟨z0,z1⟩⟩:=HC.out W hW
     go_simp
    refine tkL (i:=3) (d:=64) (v:=.pointer (some ⟨w1.heap.size,1,none⟩)) rfl rfl HS0 (fun W hW=>?_) ?_
    ·obtain ⟨⟨y0,y1⟩,⟨z0,z1⟩⟩:=HC.out W hW
     go_simp
    refine tkL (i:=4) (d:=65) (v:=.slice (some ⟨g2,0,none⟩) 64 64) rfl rfl HS0 (fun W hW=>?_) ?_
    ·obtain ⟨⟨y0,y1⟩,⟨z0,z1⟩⟩:=HC.out W hW
     go_simp
    refine tkL (i:=5) (d:=66) (v:=.int .i64 (k:Int)) rfl rfl HS0 (fun W hW=>?_) ?_
    ·obtain ⟨⟨y0,y1⟩,⟨z0,z1⟩⟩:=HC.out W hW
     go_simp
    refine tkL (i:=6) (d:=67) (v:=.pointer (some ⟨g2,k,none⟩)) rfl rfl HS0 (fun W hW=>?_) ?_
    ·obtain ⟨⟨y0,y1⟩,⟨z0,z1⟩⟩:=HC.out W hW
     go_simp
    refine tkL (i:=7) (d:=68) (v:=.int .i64 u) rfl rfl HS0 (fun W hW=>?_) ?_
    ·obtain ⟨p0,p1⟩:=HCc.out W hW
     go_simp
    refine tkL (i:=8) (d:=69) (v:=.pointer (some ⟨w.heap.size+1,1,none⟩)) rfl rfl HS0 (fun W hW=>?_) ?_
    ·obtain ⟨⟨y0,y1⟩,⟨z0,z1⟩⟩:=HC.out W hW
     go_simp
    refine tkL (i:=9) (d:=70) (v:=.slice (some ⟨b,off,none⟩) 64 d2) rfl rfl HS0 (fun W hW=>?_) ?_
    ·obtain ⟨⟨y0,y1⟩,⟨z0,z1⟩⟩:=HC.out W hW
     go_simp
    refine tkL (i:=10) (d:=71) (v:=.int .i64 (k:Int)) rfl rfl HS0 (fun W hW=>?_) ?_
    ·obtain ⟨⟨y0,y1⟩,⟨z0,z1⟩⟩:=HC.out W hW
     go_simp
    refine tkL (i:=11) (d:=72) (v:=.pointer (some ⟨b,off+k,none⟩)) rfl rfl HS0 (fun W hW=>?_) ?_
    ·obtain ⟨⟨y0,y1⟩,⟨z0,z1⟩⟩:=HC.out W hW
     go_simp
    refine tkL (i:=12) (d:=73) (v:=.int .i64 y) rfl rfl HS0 (fun W hW=>?_) ?_
    ·obtain ⟨p0,p1⟩:=HCc.out W hW
     go_simp
    simp only [sA,sB,sC]
    refine onE (i:=13) rfl (fun K hK=>?_)
    go_simp
    refine (c_s_l01Max _ _ _).mono ?_
    rintro e wz ⟨rfl,hwz⟩
    obtain rfl:=hwz.symm
    dsimp only
    refine hK.out _ _ (fun _=>HS0) ?_
    clear hK K
    try simp only [Act.put,sA,sB,sC]
    refine tkL (i:=14) (d:=75) (v:=.pointer (some ⟨g2,k,none⟩)) rfl rfl HS0 (fun W hW=>?_) ?_
    ·obtain ⟨⟨y0,y1⟩,⟨z0,z1⟩⟩:=HC.out W hW
     go_simp
    simp only [sA,sB,sC]
    have gfz:wr.drew.frozen? ⟨g2,k,none⟩=false:=(HRw.out.below hg2l (Below.refl _ _).drew).froz k
    have gcl:=(HCc.out wr.drew (Below.refl _ _).drew).2
    refine onE (i:=15) rfl (fun K hK=>?_)
    go_simp
    refine hK.out _ _ (fun h=>absurd rfl h) ?_
    clear hK K
    try simp only [Act.put,sA,sB,sC]
    refine doneK (by kernel_rfl) ?_ _
    have HRn:Hid (RowI (wr.drew.setCell ⟨g2,k,none⟩ (.int .i64 (max u y))) (w1.heap.size+1) g2 (mxL B R2 (k+1))):=by
     rw [← HSt.out];exact (HRw.out.below hg2l (Below.refl _ _).drew).set k (max u y)
    have HBn:Hid (Below w1.heap.size w1 (wr.drew.setCell ⟨g2,k,none⟩ (.int .i64 (max u y)))):=(HBl.out.drew).setCell (by simp;omega) _
    have HBon:Hid ((wr.drew.setCell ⟨g2,k,none⟩ (.int .i64 (max u y))).heap[w1.heap.size]?=some (.cells #[.slice none 0 0,.slice (some ⟨g2,0,none⟩) 64 64] 32 (0,0))):=by
     rw [heap_setCell_other _ _ _ _ (by simp;omega)];exact HBo.out
    clear gfz gcl
    go_wp2
    go_roundw
    case rel=>exact ⟨k+1,by omega,by go_num,HRn,HBon,HBn⟩
    case measure=>simp [Go.RowKit.intOf];omega
   ·obtain rfl:k=64:=by omega
    obtain ⟨⟨y0,y1⟩,⟨z0,z1⟩⟩:=HC.out wr (Below.refl _ _)
    have r3:=(HBl.out.block (w.heap.size+1+1) (by omega)).trans HRs.out
    have q0:wr.cell? ⟨w.heap.size+1+1,0,none⟩=some (.slice none 0 0):=by rw [cell_of_row _ _ 0 _ _ (0,0) r3];rfl
    have q1':wr.cell? ⟨w.heap.size+1+1,1,none⟩=some (.slice none 0 0):=by rw [cell_of_row _ _ 1 _ _ (0,0) r3];rfl
    have f0:=fzR 0 r3
    have f1:=fzR 1 r3
    have HT2:=hide (chain HT1.out HBl.out)
    clear r3
    go_wp2
    refine bodyPost_ret (v:=.agg #[.slice none 0 0,.slice (some ⟨g2,0,none⟩) 64 64]) (by simp [results,Tryz.results141,go_sem,q0,q1']) rfl (MgOut.mk HMf.out ⟨_,_,rfl,World.ownsRow_nil _ _ _ _,?_⟩ ?_)
    ·refine own_le (B:=w1.heap.size+1) ?_ (by omega)
     repeat (refine ownsRow_setCell_below ?_ (by simp;omega) _)
     rw [HRw.out.1];exact HRw.out.2
    ·exact (HT2.out.setCell (by simp;omega) _).setCell (by simp;omega) _
 ·obtain rfl:m1=64:=by omega
  have hm2:m2≤64:=by omega
  clear hm1 hno l4 l2
  go_enter Tryz.func141,Tryz.ntmps141
  go_wp2_with fail
  refine (c_s_Dense H2.out H1.out (.inr rfl) (by omega) (nums_past HR1.out (HBa.out _ _ _)) (nums_past HE1.out (HBa.out _ _ _)) U1.out).mono ?_
  rintro e w1 ⟨g1,A,rfl,hL1,hRow1,hb1⟩
  obtain ⟨_,⟨y0,y1⟩,hres⟩:=mid_cell w _ _ _ _ _ _ _ _ _ w1 hb1
  have hz1:=hb1.size
  have hT1:Below w.heap.size w w1:=(HBa.out _ _ _).trans (hb1.mono (by simp;omega))
  simp only [World.size_alloc] at hz1 hRow1
  have HT1:=hide hT1
  have HRs:=hide hres
  have HL1:=hide hL1
  have HA64:=hide hRow1.1
  have HNA:Hid (NumsAt .i64 w1 (some ⟨g1,0,none⟩) A):=(fun _=>⟨g1,0,rfl,fun i x hx=>by
   have hi:=(List.getElem?_eq_some_iff.1 hx).1
   rw [Nat.zero_add]
   exact hRow1.cell (by have:=hRow1.1;omega) (by rw [List.getD_eq_getElem?_getD,hx];rfl)⟩)
  have HKy:Hid (HlCell w1 (w.heap.size+1) (.slice eb n2 c2) (.slice rb m2 d2)):=⟨y0,y1⟩
  have HAl:Hid (∀ o,Below w1.heap.size w1 (w1.alloc o)):=fun o=>(Below.refl _ _).alloc (Nat.le_refl _) _
  have yA0:∀ o,(w1.alloc o).cell? ⟨w.heap.size+1,0,none⟩=some (.slice eb n2 c2):=fun o=>cell_past (HAl.out o) y0
  have HN1:=hide (heap_alloc_new w1 (.cells #[.slice none 0 0,.slice (some ⟨g1,0,none⟩) 64 64] 32))
  clear hb1 hT1 hres hL1 hRow1
  go_wp2_with fail
  refine (c_s_Dense (R:=A) HA64.out H3.out (.inr rfl) (by omega) (nums_past HNA.out (HAl.out _)) (nums_past HE2.out (HT1.out.trans ((HAl.out _).mono HT1.out.size))) U2.out).mono ?_
  rintro e w2 ⟨g2,B,rfl,hL2,hRow2,hb2⟩
  simp only [World.size_alloc] at hRow2 hb2
  have hz2:w1.heap.size+1≤w2.heap.size:=by have:=hb2.size;simpa using this
  have HR2':Hid (RowI w2 (w1.heap.size+1) g2 B):=hRow2
  have HMf:=hide (HMg.out A B HL1.out hL2)
  have hg2:w1.heap.size<g2:=by have:=hRow2.lt.1;omega
  have r2:=(hb2.block w1.heap.size (by omega)).trans HN1.out
  have q0:w2.cell? ⟨w1.heap.size,0,none⟩=some (.slice none 0 0):=by rw [cell_of_row _ _ 0 _ _ (0,0) r2];rfl
  have q1:w2.cell? ⟨w1.heap.size,1,none⟩=some (.slice (some ⟨g1,0,none⟩) 64 64):=by rw [cell_of_row _ _ 1 _ _ (0,0) r2];rfl
  have f0:=fzR 0 r2
  have f1:=fzR 1 r2
  have HBx:=hide ((HAl.out (.cells #[.slice none 0 0,.slice (some ⟨g1,0,none⟩) 64 64] 32)).trans (hb2.mono (by omega)))
  have HBo:=hide (out_box r2 (.slice none 0 0) (.slice (some ⟨g2,0,none⟩) 64 64))
  clear hL2 hRow2 hb2 r2
  clear y0 y1 yA0
  obtain ⟨y0,y1⟩:=hl_past HKy.out HBx.out
  have HRw0:Hid (RowI ((w2.setCell ⟨w1.heap.size,0,none⟩ (.slice none 0 0)).setCell ⟨w1.heap.size,1,none⟩ (.slice (some ⟨g2,0,none⟩) 64 64)) (w1.heap.size+1) g2 (mxL B R2 0)):=by
   rw [mxL_zero]
   refine ⟨HR2'.out.1,?_⟩
   repeat (refine ownsRow_setCell_below ?_ (by simp) _)
   exact HR2'.out.2
  have HBl0:Hid (Below w1.heap.size w1 ((w2.setCell ⟨w1.heap.size,0,none⟩ (.slice none 0 0)).setCell ⟨w1.heap.size,1,none⟩ (.slice (some ⟨g2,0,none⟩) 64 64))):=(HBx.out.setCell (Nat.le_refl _) _).setCell (Nat.le_refl _) _
  have HB64:=hide HR2'.out.1
  clear HR2' HBx
  go_wp2_with fail
  clear q0 q1 f0 f1 y0 y1
  go_loopw [8] (fun iv wr=>∃ k:Nat,k≤m2∧iv=.int .i64 k∧Hid (RowI wr (w1.heap.size+1) g2 (mxL B R2 k))∧Hid (wr.heap[w1.heap.size]?=some (.cells #[.slice none 0 0,.slice (some ⟨g2,0,none⟩) 64 64] 32 (0,0)))∧Hid (Below w1.heap.size w1 wr)) (fun iv wr=>m2 - (Go.RowKit.intOf iv).toNat)
  case atStart=>exact ⟨0,Nat.zero_le _,rfl,HRw0,HBo,HBl0⟩
  case round=>
   clear HRw0 HBo HBl0
   obtain ⟨k,hk,rfl,HRw,HBo,HBl⟩:=hrel
   have hg2l:=HRw.out.lt.2
   have hszr:=HBl.out.size
   have HC:Hid (∀ W,Below wr.heap.size wr W→HlCell W (w.heap.size+1) (.slice eb n2 c2) (.slice rb m2 d2)∧HlCell W w1.heap.size (.slice none 0 0) (.slice (some ⟨g2,0,none⟩) 64 64)):=fun W hW=>by
    have hr:W.heap[w1.heap.size]?=some (.cells #[.slice none 0 0,.slice (some ⟨g2,0,none⟩) 64 64] 32 (0,0)):=by rw [hW.block _ (by omega)];exact HBo.out
    refine ⟨hl_past (hl_past HKy.out HBl.out) hW,?_,?_⟩
    ·rw [cell_of_row _ _ 0 _ _ (0,0) hr];rfl
    ·rw [cell_of_row _ _ 1 _ _ (0,0) hr];rfl
   by_cases hkn:k<m2
   ·have hkm:(k:Int)<(m2:Int):=by omega
    have hk64:(k:Int)<64:=by omega
    obtain ⟨b,off,e,hcell⟩:=HR2.out (by have:=H4.out;omega)
    subst e
    obtain ⟨y,hy⟩:∃ y,R2[k]?=some y:=⟨R2[k]'(by have:=H4.out;omega),List.getElem?_eq_getElem _⟩
    obtain ⟨u,hu⟩:∃ u,B.getD k 0=u:=⟨_,rfl⟩
    have hc0:=cell_past (chain HT1.out HBl.out) (hcell k y hy)
    have hu':u=(mxL B R2 k).getD k 0:=by rw [mxL_get B R2 k k (by rw [HB64.out];omega),if_neg (Nat.lt_irrefl _)];exact hu.symm
    have HCc:Hid (∀ W,Below wr.heap.size wr W→W.cell? ⟨b,off+k,none⟩=some (.int .i64 y)∧W.cell? ⟨g2,k,none⟩=some (.int .i64 u)):=fun W hW=>⟨cell_past hW hc0,(HRw.out.below hg2l hW).cell (by omega) hu'⟩
    have HSt:Hid ((mxL B R2 k).set k (max u y)=mxL B R2 (k+1)):=by
     have hyd:R2.getD k 0=y:=by rw [List.getD_eq_getElem?_getD,hy];rfl
     have:=mxL_set B R2 k (by rw [HB64.out];omega)
     rw [hu,hyd] at this;exact this
    clear hcell hc0 hu hu' hy
    have h0k:(0:Int)≤(k:Int):=by omega
    obtain ⟨⟨y0,y1⟩,⟨z0,z1⟩⟩:=HC.out wr (Below.refl _ _)
    go_wp2_with fail
    clear y0 y1 z0 z1
    have HS0:(fun W=>Below wr.heap.size wr W) wr.drew:=(Below.refl _ _).drew
    refine regionK (fun W=>Below wr.heap.size wr W) 15 (by kernel_rfl) ?_
    refine tkL (i:=0) (d:=61) (v:=.pointer (some ⟨w1.heap.size,1,none⟩)) rfl rfl HS0 (fun W hW=>?_) ?_
    ·obtain ⟨⟨y0,y1⟩,⟨z0,z1⟩⟩:=HC.out W hW
     go_simp
    refine tkL (i:=1) (d:=62) (v:=.slice (some ⟨g2,0,none⟩) 64 64) rfl rfl HS0 (fun W hW=>?_) ?_
    ·obtain ⟨⟨y0,y1⟩,⟨z0,z1⟩⟩:=HC.out W hW
     go_simp
    refine tkL (i:=2) (d:=63) (v:=.int .i64 (k:Int)) rfl rfl HS0 (fun W hW=>?_) ?_
    ·obtain ⟨⟨y0,y1⟩,⟨z0,z1⟩⟩:=HC.out W hW
     go_simp
    refine tkL (i:=3) (d:=64) (v:=.pointer (some ⟨w1.heap.size,1,none⟩)) rfl rfl HS0 (fun W hW=>?_) ?_
    ·obtain ⟨⟨y0,y1⟩,⟨z0,z1⟩⟩:=HC.out W hW
     go_simp
    refine tkL (i:=4) (d:=65) (v:=.slice (some ⟨g2,0,none⟩) 64 64) rfl rfl HS0 (fun W hW=>?_) ?_
    ·obtain ⟨⟨y0,y1⟩,⟨z0,z1⟩⟩:=HC.out W hW
     go_simp
    refine tkL (i:=5) (d:=66) (v:=.int .i64 (k:Int)) rfl rfl HS0 (fun W hW=>?_) ?_
    ·obtain ⟨⟨y0,y1⟩,⟨z0,z1⟩⟩:=HC.out W hW
     go_simp
    refine tkL (i:=6) (d:=67) (v:=.pointer (some ⟨g2,k,none⟩)) rfl rfl HS0 (fun W hW=>?_) ?_
    ·obtain ⟨⟨y0,y1⟩,⟨z0,z1⟩⟩:=HC.out W hW
     go_simp
    refine tkL (i:=7) (d:=68) (v:=.int .i64 u) rfl rfl HS0 (fun W hW=>?_) ?_
    ·obtain ⟨p0,p1⟩:=HCc.out W hW
     go_simp
    refine tkL (i:=8) (d:=69) (v:=.pointer (some ⟨w.heap.size+1,1,none⟩)) rfl rfl HS0 (fun W hW=>?_) ?_
    ·obtain ⟨⟨y0,y1⟩,⟨z0,z1⟩⟩:=HC.out W hW
     go_simp
    refine tkL (i:=9) (d:=70) (v:=.slice (some ⟨b,off,none⟩) m2 d2) rfl rfl HS0 (fun W hW=>?_) ?_
    ·obtain ⟨⟨y0,y1⟩,⟨z0,z1⟩⟩:=HC.out W hW
     go_simp
    refine tkL (i:=10) (d:=71) (v:=.int .i64 (k:Int)) rfl rfl HS0 (fun W hW=>?_) ?_
    ·obtain ⟨⟨y0,y1⟩,⟨z0,z1⟩⟩:=HC.out W hW
     go_simp
    refine tkL (i:=11) (d:=72) (v:=.pointer (some ⟨b,off+k,none⟩)) rfl rfl HS0 (fun W hW=>?_) ?_
    ·obtain ⟨⟨y0,y1⟩,⟨z0,z1⟩⟩:=HC.out W hW
     go_simp
    refine tkL (i:=12) (d:=73) (v:=.int .i64 y) rfl rfl HS0 (fun W hW=>?_) ?_
    ·obtain ⟨p0,p1⟩:=HCc.out W hW
     go_simp
    simp only [sA,sB,sC]
    refine onE (i:=13) rfl (fun K hK=>?_)
    go_simp
    refine (c_s_l01Max _ _ _).mono ?_
    rintro e wz ⟨rfl,hwz⟩
    obtain rfl:=hwz.symm
    dsimp only
    refine hK.out _ _ (fun _=>HS0) ?_
    clear hK K
    try simp only [Act.put,sA,sB,sC]
    refine tkL (i:=14) (d:=75) (v:=.pointer (some ⟨g2,k,none⟩)) rfl rfl HS0 (fun W hW=>?_) ?_
    ·obtain ⟨⟨y0,y1⟩,⟨z0,z1⟩⟩:=HC.out W hW
     go_simp
    simp only [sA,sB,sC]
    have gfz:wr.drew.frozen? ⟨g2,k,none⟩=false:=(HRw.out.below hg2l (Below.refl _ _).drew).froz k
    have gcl:=(HCc.out wr.drew (Below.refl _ _).drew).2
    refine onE (i:=15) rfl (fun K hK=>?_)
    go_simp
    refine hK.out _ _ (fun h=>absurd rfl h) ?_
    clear hK K
    try simp only [Act.put,sA,sB,sC]
    refine doneK (by kernel_rfl) ?_ _
    have HRn:Hid (RowI (wr.drew.setCell ⟨g2,k,none⟩ (.int .i64 (max u y))) (w1.heap.size+1) g2 (mxL B R2 (k+1))):=by
     rw [← HSt.out];exact (HRw.out.below hg2l (Below.refl _ _).drew).set k (max u y)
    have HBn:Hid (Below w1.heap.size w1 (wr.drew.setCell ⟨g2,k,none⟩ (.int .i64 (max u y)))):=(HBl.out.drew).setCell (by simp;omega) _
    have HBon:Hid ((wr.drew.setCell ⟨g2,k,none⟩ (.int .i64 (max u y))).heap[w1.heap.size]?=some (.cells #[.slice none 0 0,.slice (some ⟨g2,0,none⟩) 64 64] 32 (0,0))):=by
     rw [heap_setCell_other _ _ _ _ (by simp;omega)];exact HBo.out
    clear gfz gcl
    go_wp2
    go_roundw
    case rel=>exact ⟨k+1,by omega,by go_num,HRn,HBon,HBn⟩
    case measure=>simp [Go.RowKit.intOf];omega
   ·obtain rfl:k=m2:=by omega
    obtain ⟨⟨y0,y1⟩,⟨z0,z1⟩⟩:=HC.out wr (Below.refl _ _)
    have r3:=(HBl.out.block (w.heap.size+1+1) (by omega)).trans HRs.out
    have q0:wr.cell? ⟨w.heap.size+1+1,0,none⟩=some (.slice none 0 0):=by rw [cell_of_row _ _ 0 _ _ (0,0) r3];rfl
    have q1':wr.cell? ⟨w.heap.size+1+1,1,none⟩=some (.slice none 0 0):=by rw [cell_of_row _ _ 1 _ _ (0,0) r3];rfl
    have f0:=fzR 0 r3
    have f1:=fzR 1 r3
    have HT2:=hide (chain HT1.out HBl.out)
    clear r3
    go_wp2
    refine bodyPost_ret (v:=.agg #[.slice none 0 0,.slice (some ⟨g2,0,none⟩) 64 64]) (by simp [results,Tryz.results141,go_sem,q0,q1']) rfl (MgOut.mk HMf.out ⟨_,_,rfl,World.ownsRow_nil _ _ _ _,?_⟩ ?_)
    ·refine own_le (B:=w1.heap.size+1) ?_ (by omega)
     repeat (refine ownsRow_setCell_below ?_ (by simp;omega) _)
     rw [HRw.out.1];exact HRw.out.2
    ·exact (HT2.out.setCell (by simp;omega) _).setCell (by simp;omega) _
/-
 The model's sketch of how many: HllMerge.
-/
theorem c_s_MergeB {w:World} {ea ra eb rb:Option Addr} {n1 c1 m1 d1 n2 c2 m2 d2:Nat} {E1 R1 E2 R2:List Int} (q1:hlB E1 R1=true) (q2:hlB E2 R2=true) (h1:E1.length=n1) (h2:R1.length=m1) (h3:E2.length=n2) (h4:R2.length=m2) (c1e:ea=none→c1=0)
  (hE1:NumsAt .u64 w ea E1) (hR1:NumsAt .i64 w ra R1) (hE2:NumsAt .u64 w eb E2) (hR2:NumsAt .i64 w rb R2) (u1:∀ x∈E1,U64 x) (u2:∀ x∈E2,U64 x) :
  Calls Tryz.prog 141 #[.agg #[.slice ea n1 c1,.slice ra m1 d1],.agg #[.slice eb n2 c2,.slice rb m2 d2]] w fun e w'=>MgOut w E1 R1 E2 R2 e w':=by
 obtain ⟨a1,a2⟩:=hlB_len q1
 obtain ⟨b1,b2⟩:=hlB_len q2
 rw [h1] at a1;rw [h2] at a2;rw [h3] at b1;rw [h4] at b2
 by_cases h:m1=0∧m2=0
 ·obtain ⟨rfl,rfl⟩:=h
  obtain rfl:=List.eq_nil_of_length_eq_zero h2
  obtain rfl:=List.eq_nil_of_length_eq_zero h4
  have hu:upN E1=true:=by
   rcases hlB_parts q1 with ⟨_,k⟩ | ⟨k,_⟩
   ·exact k
   ·simp at k
  exact c_s_MergeE h1 h3 a1 b1 hu c1e hE1 hE2 u1 u2
 ·exact c_s_MergeR h1 h2 h3 h4 a1 a2 b1 b2 h hE1 hR1 hE2 hR2 u1 u2
end Go.Proofs.YthpilcoklapooaaGreatDoor
