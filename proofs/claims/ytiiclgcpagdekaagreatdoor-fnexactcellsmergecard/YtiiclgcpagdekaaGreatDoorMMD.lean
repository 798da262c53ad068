/-
 l08Merge of the model.
-/
import Derived.Test.YtiiclgcpagdekaaGreatDoorMMC
import Derived.Test.YtiiclgcpagdekaaGreatDoorMMB
namespace Go.Proofs.YtiiclgcpagdekaaGreatDoor
set_option linter.unusedVariables false
set_option linter.unusedSimpArgs false
open Go.ChangeShapes Go.WideShapes Go.ChangeAt Go.RowKit Go.PlainAid Go.Lib Go.Maps
set_option maxRecDepth 10000
def MoA (w:World) (a b:List Ce) (e:Ending) (w':World):Prop:=
 ∃ v ok,e=.returned (.tuple #[v,.bool ok])∧((ok=true∧∃ R,Mgs a b R∧OwnC w' w.heap.size v R∧CesO w' w.heap.size R∧CnQ R∧v≠.slice none 0 0)∨(ok=false∧v=.slice none 0 0∧∃ k c M,b[k]?=some c∧Mgs a (b.take k) M∧MsB M c))∧Below w.heap.size w w'
theorem MoA.bad {w w':World} {a b M:List Ce} {k:Nat} {c:Ce} (h1:b[k]?=some c) (h2:Mgs a (b.take k) M) (h3:MsB M c) (hb:Below w.heap.size w w'):MoA w a b (.returned (.tuple #[.slice none 0 0,.bool false])) w':=⟨_,_,rfl,.inr ⟨rfl,rfl,k,c,M,h1,h2,h3⟩,hb⟩
set_option maxHeartbeats 16000000 in
theorem c_l08Merge {w:World} {ao bo:Option Addr} {N K ca cb:Nat} {a b:List Ce} (hI:ShI w ao N a) (hJ:ShI w bo K b) (hasc:AscC a) (hqa:CnQ a) (hqb:CnQ b) (sN:N≤2000) (sK:K≤2000) :
  Calls Tryz.prog 60 #[.slice ao N ca,.slice bo K cb] w (MoA w a b):=by
 obtain ⟨i0,hi,hz0,hz1,hz2⟩:=infoCe
 have II:=hide hI
 have JJ:=hide hJ
 have AS:=hide hasc
 have QA:=hide hqa
 have QB:=hide hqb
 have HAl:Hid (∀ (X:World) o,Below X.heap.size X (X.alloc o)):=fun X o=>(Below.refl _ _).alloc (Nat.le_refl _) _
 clear hI hJ hasc hqa hqb
 go_enter Tryz.func60,Tryz.ntmps60
 go_wp2_with fail
 refine (c_l08CopyS II.out.hN II.out.lN II.out.sm II.out.pl II.out.mem).mono ?_
 rintro e w1 ⟨v1,A1,rfl,hr1,ho1,hk1,hb1,hn1⟩
 have HR1:=hide hr1
 have HO1:=hide ho1
 have HK1:=hide hk1
 have HB1:=hide hb1
 have HN1:=hide hn1
 clear hr1 ho1 hk1 hb1 hn1
 go_wp2_with fail
 refine (c_l08CopyS JJ.out.hN JJ.out.lN JJ.out.sm JJ.out.pl (ces_past JJ.out.mem HB1.out)).mono ?_
 rintro e w2 ⟨v2,Mo,rfl,hr2,ho2,hk2,hb2,hn2⟩
 obtain ⟨mo,mc,rfl,_⟩:=hr2.form
 have hMK:Mo.length=K:=(map_len hk2).trans JJ.out.hN
 have HMK:=hide hMK
 have HKM:=hide hk2
 rw [hMK] at hr2 ⊢
 have I0:Hid (CnJ w w2 a b 0 v1 A1 (.slice mo K mc) Mo):=by
  refine ⟨HR1.out.past hb2,hr2.le HB1.out.size,fun j h1 h2=>?_,?_,asc_key HK1.out AS.out,.nil _ HK1.out,QA.out.keys HK1.out,HN1.out,chain HB1.out hb2⟩
  ·have l1:=(World.ownsRow.lt HR1.out j h1).2
   have l2:=(World.ownsRow.lt hr2 j h2).1
   omega
  ·rw [List.drop_zero];exact HO1.out.app hb2 HB1.out.size ho2
 have lN:=II.out.lN
 have lK:=JJ.out.lN
 clear hr2 ho2 hk2 hb2 hn2 hMK HR1 HO1 HK1 HB1 HN1
 go_wp2
 go_loopw [6,8] (fun vo i wr=>∃ (k:Nat) (R:List Ce),k≤K∧i=.int .i64 k∧Hid (CnJ w wr a b k vo R (.slice mo K mc) Mo)) (fun vo i wr=>K - (Go.RowKit.intOf i).toNat)
 case atStart=>exact ⟨0,A1,Nat.zero_le _,rfl,I0⟩
 case round=>
  clear I0
  obtain ⟨k,R,hk,rfl,HI⟩:=hrel
  obtain ⟨g,cp,ev,_⟩:=HI.out.r.src HI.out.ne
  subst ev
  have hlR:R.length≤N+k:=by have h1:=HI.out.mg.len AS.out;have h2:=List.length_take_le k b;have:=II.out.hN;omega
  have hcp:R.length≤cp:=own_cap HI.out.r
  have hcm:cp≤9223372036854775807:=own_capm HI.out.r
  obtain ⟨n,hn⟩:∃ n,R.length=n:=⟨_,rfl⟩
  rw [hn] at HI hlR hcp ⊢
  have HNn:=hide hn
  clear hn
  by_cases hkn:k<K
  ·have hkni:(k:Int)<(K:Int):=by omega
   obtain ⟨c,hc⟩:∃ c,Mo[k]?=some c:=⟨Mo[k]'(by have:=HMK.out;omega),List.getElem?_eq_getElem _⟩
   obtain ⟨cb',hcb⟩:∃ c,b[k]?=some c:=⟨b[k]'(by have:=JJ.out.hN;omega),List.getElem?_eq_getElem _⟩
   have ek:c.key=cb'.key:=by
    have e2:(Mo.map Ce.key)[k]?=(b.map Ce.key)[k]?:=by rw [HKM.out]
    rw [List.getElem?_map,List.getElem?_map,hc,hcb] at e2
    simpa using e2
   have hmm:OwnC wr w.heap.size (.slice mo K mc) Mo:=HI.out.m
   obtain ⟨gm,cm,em⟩:=own_form hmm (by have:=HMK.out;omega)
   injection em with em1 em2 em3
   subst em1
   rw [← HMK.out] at hmm
   have hcc:=own_cells hmm hc
   rw [Nat.zero_add] at hcc
   obtain ⟨x0,x1,x2,x3,x4,x5,x6,x7,x8,x9,x10,x11,x12,x13,x14⟩:=hcc
   have HC:=hide hc
   have HCB:=hide hcb
   have EK:=hide ek
   obtain ⟨k1,k2,k3⟩:=key3 ek
   have hmb:=List.mem_of_getElem? hcb
   have QC:Hid (AgOk c.g∧AgSm c.g∧agB c.g=true∧KeyOk c.n c.s):=by show _∧_;rw [k1,k2,k3];exact ⟨QB.out.ok _ hmb,QB.out.sm _ hmb,QB.out.rt _ hmb,QB.out.ky _ hmb⟩
   have hcd:c∈R ++ Mo.drop k:=List.mem_append_right _ (by rw [drop_one hc];simp)
   have AC:=hide (HI.out.o.o c hcd)
   have X1:=hide (heap_alloc_new wr (.cells (ceArr c) 81))
   have HI1:=hide (HI.out.past (HAl.out wr (.cells (ceArr c) 81)))
   have A1:=hide (AC.out.past (HAl.out wr (.cells (ceArr c) 81)))
   clear hc hcb ek hmm k1 k2 k3 hmb hcd em2 em3
   go_upto_region 7 with fail
   clear x0 x1 x2 x3 x4 x5 x6 x7 x8 x9 x10 x11 x12 x13 x14
   generalize wr.alloc (.cells (ceArr c) 81)=W1 at X1 HI1 A1 ⊢
   generalize wr.heap.size=rc at X1 ⊢
   clear HI AC
   have x0:=cellKC X1.out 0 rfl
   have x1:=cellKC X1.out 1 rfl
   go_wp2_with fail
   clear x0 x1
   refine (c_l08Place c.n c.s HNn.out (by omega) HI1.out.at).mono ?_
   rintro e w2 ⟨kk,is,rfl,hp,hb2⟩
   have HP:=hide hp
   have HI2:=hide (HI1.out.past hb2)
   have A2:=hide (A1.out.past hb2)
   have X2:=hide (row_pastP X1.out hb2)
   have hkk:kk≤n:=by have:=hp.le;have:=HNn.out;omega
   clear hp hb2 HI1 A1 X1
   cases is with
   | true=>
    obtain ⟨d,hd,hmd,e1,e2,_⟩:=plc_yes HI2.out.asc HP.out
    have hr:=HI2.out.r
    rw [← HNn.out] at hr
    have hcc:=own_cells hr hd
    rw [Nat.zero_add] at hcc
    obtain ⟨y0,y1,y2,y3,y4,y5,y6,y7,y8,y9,y10,y11,y12,y13,y14⟩:=hcc
    have hkl:kk<n:=by have:=(List.getElem?_eq_some_iff.1 hd).1;have:=HNn.out;omega
    have hkli:(kk:Int)<(n:Int):=by omega
    have HD:=hide hd
    have HMd:=hide hmd
    have E1:=hide e1
    have E2:=hide e2
    have z2:=cellKC X2.out 2 rfl
    clear hd hmd e1 e2 hr
    by_cases hkd:d.g.k=c.g.k
    ·have bk:(d.g.k == c.g.k)=true:=by simp [hkd]
     have HK:=hide hkd
     clear hkd
     go_upto_region 8 with fail
     go_region_held3 (fun W=>W.cell? ⟨g,kk*15+2,none⟩=some (.int .i64 d.g.k)∧W.cell? ⟨rc,2,none⟩=some (.int .i64 c.g.k))
      (exact ⟨by simpa using y2,by simpa using z2⟩)
      (fail)
     go_upto_region 11 with fail
     have HS0:(fun W=>Below w2.heap.size w2 W) w2.drew.drew:=(Below.refl _ _).drew.drew
     refine regionK (fun W=>Below w2.heap.size w2 W) 12 (by kernel_rfl) ?_
     refine tkS (i:=0) (v:=.slice (some ⟨g,0,none⟩) n cp) rfl rfl HS0 ?_
     refine tkS (i:=1) (v:=.int .i64 kk) rfl rfl HS0 ?_
     refine tkS (i:=2) (v:=.slice (some ⟨g,0,none⟩) n cp) rfl rfl HS0 ?_
     simp only [sA,sB,sC]
     refine tkS (i:=3) (v:=.int .i64 kk) rfl rfl HS0 ?_
     refine tkS (i:=4) (v:=.pointer (some ⟨g,kk*15,none⟩)) rfl rfl HS0 ?_
     refine tkS (i:=5) (v:=.pointer (some ⟨g,kk*15+2,none⟩)) rfl rfl HS0 ?_
     simp only [sA,sB,sC]
     refine tkL (i:=6) (v:=.agg (agArr d.g d.p)) rfl rfl HS0 (fun W hW=>?_) ?_
     ·have q2:=cell_past hW y2
      have q3:=cell_past hW y3
      have q4:=cell_past hW y4
      have q5:=cell_past hW y5
      have q6:=cell_past hW y6
      have q7:=cell_past hW y7
      have q8:=cell_past hW y8
      have q9:=cell_past hW y9
      have q10:=cell_past hW y10
      have q11:=cell_past hW y11
      have q12:=cell_past hW y12
      have q13:=cell_past hW y13
      have q14:=cell_past hW y14
      clear hW
      go_simp
     refine tkS (i:=7) (v:=.pointer (some ⟨rc,2,none⟩)) rfl rfl HS0 ?_
     refine tkL (i:=8) (v:=.agg (agArr c.g c.p)) rfl rfl HS0 (fun W hW=>?_) ?_
     ·have GG:=row_pastP X2.out hW
      have q2:=cellKC GG 2 rfl
      have q3:=cellKC GG 3 rfl
      have q4:=cellKC GG 4 rfl
      have q5:=cellKC GG 5 rfl
      have q6:=cellKC GG 6 rfl
      have q7:=cellKC GG 7 rfl
      have q8:=cellKC GG 8 rfl
      have q9:=cellKC GG 9 rfl
      have q10:=cellKC GG 10 rfl
      have q11:=cellKC GG 11 rfl
      have q12:=cellKC GG 12 rfl
      have q13:=cellKC GG 13 rfl
      have q14:=cellKC GG 14 rfl
      clear GG
      clear hW
      go_simp
     simp only [sA,sB,sC]
     refine onE (i:=9) rfl (fun K hK=>?_)
     go_simp
     have AD:AgO w2 w.heap.size d.g d.p:=HI2.out.o.o d (List.mem_append_left _ HMd.out)
     refine (c_s_AggM ⟨HI2.out.q.rt d HMd.out,QC.out.2.2.1,HK.out⟩ (HI2.out.q.ok d HMd.out) QC.out.1 (ag_past AD.at (HS0:Below w2.heap.size w2 _)) (ag_past A2.out.at (HS0:Below w2.heap.size w2 _)) AD.plgP.cE).mono ?_
     rintro e w6 ⟨v,o,rfl,hpt,⟨q,rfl,ho⟩,hb6⟩
     have HB6:Hid (Below w2.heap.size w2 w6):=(HS0:Below w2.heap.size w2 _).trans (hb6.mono (Nat.le_refl _))
     have HPT:=hide hpt
     have HOG:Hid (AgO w6 w2.heap.size o q):=ho
     clear hpt ho hb6 AD
     dsimp only
     refine hK.out _ _ (fun _=>HB6.out) ?_
     clear hK K
     try simp only [Act.put,sA,sB,sC]
     refine onE (i:=10) rfl (fun K hK=>?_)
     go_simp
     refine hK.out _ _ (fun _=>HB6.out) ?_
     clear hK K
     try simp only [Act.put,sA,sB,sC]
     refine tkS (i:=11) (v:=.pointer (some ⟨g,kk*15+2,none⟩)) rfl rfl HB6.out ?_
     simp only [sA,sB,sC]
     have HR6:Hid (w6.ownsRow w.heap.size 81 15 (.slice (some ⟨g,0,none⟩) n cp) n (flC R)):=by have:=HI2.out.r.past HB6.out;unfold OwnC at this;rw [HNn.out] at this;exact this
     have HF:=hide (HI2.out.set HNn.out HC.out HCB.out EK.out HP.out HD.out E1.out E2.out HK.out QC.out HPT.out HB6.out HOG.out)
     have q2:=cell_past HB6.out y2
     have f2:=World.ownsRow.frozenAt HR6.out (kk*15+2)
     have q3:=cell_past HB6.out y3
     have f3:=World.ownsRow.frozenAt HR6.out (kk*15+3)
     have q4:=cell_past HB6.out y4
     have f4:=World.ownsRow.frozenAt HR6.out (kk*15+4)
     have q5:=cell_past HB6.out y5
     have f5:=World.ownsRow.frozenAt HR6.out (kk*15+5)
     have q6:=cell_past HB6.out y6
     have f6:=World.ownsRow.frozenAt HR6.out (kk*15+6)
     have q7:=cell_past HB6.out y7
     have f7:=World.ownsRow.frozenAt HR6.out (kk*15+7)
     have q8:=cell_past HB6.out y8
     have f8:=World.ownsRow.frozenAt HR6.out (kk*15+8)
     have q9:=cell_past HB6.out y9
     have f9:=World.ownsRow.frozenAt HR6.out (kk*15+9)
     have q10:=cell_past HB6.out y10
     have f10:=World.ownsRow.frozenAt HR6.out (kk*15+10)
     have q11:=cell_past HB6.out y11
     have f11:=World.ownsRow.frozenAt HR6.out (kk*15+11)
     have q12:=cell_past HB6.out y12
     have f12:=World.ownsRow.frozenAt HR6.out (kk*15+12)
     have q13:=cell_past HB6.out y13
     have f13:=World.ownsRow.frozenAt HR6.out (kk*15+13)
     have q14:=cell_past HB6.out y14
     have f14:=World.ownsRow.frozenAt HR6.out (kk*15+14)
     refine onE (i:=12) rfl (fun K hK=>?_)
     go_simp
     clear q2 f2 q3 f3 q4 f4 q5 f5 q6 f6 q7 f7 q8 f8 q9 f9 q10 f10 q11 f11 q12 f12 q13 f13 q14 f14
     refine hK.out _ _ (fun h=>absurd rfl h) ?_
     clear hK K
     try simp only [Act.put,sA,sB,sC]
     refine doneK (by kernel_rfl) ?_ _
     go_wp2
     go_roundw
     case rel=>exact ⟨k+1,_,by omega,by go_num,HF⟩
     case measure=>simp [Go.RowKit.intOf];omega
    ·have HB:Hid (MsB R cb'):=by
      obtain ⟨k1,k2,k3⟩:=key3 EK.out
      exact ⟨d,HMd.out,by rw [E1.out,k1],by rw [E2.out,k2],by rw [← k3];exact hkd⟩
     have bk:(d.g.k == c.g.k)=false:=by simp [hkd]
     clear hkd
     go_upto_region 8 with fail
     go_region_held3 (fun W=>W.cell? ⟨g,kk*15+2,none⟩=some (.int .i64 d.g.k)∧W.cell? ⟨rc,2,none⟩=some (.int .i64 c.g.k))
      (exact ⟨by simpa using y2,by simpa using z2⟩)
      (fail)
     go_wp2
     go_ret2
     exact MoA.bad HCB.out HI2.out.mg HB.out HI2.out.b.drew
   | false=>
    go_upto_region 8 with fail
    have HS0:(fun _=>True) w2.drew:=trivial
    refine regionK (fun _=>True) 99 (by kernel_rfl) ?_
    refine tkS (i:=0) (v:=.bool false) rfl rfl HS0 ?_
    refine tkS (i:=1) (v:=.bool false) rfl rfl HS0 ?_
    refine tkU (i:=2) rfl rfl HS0 ?_
    simp only [sA,sB,sC]
    refine tkU (i:=3) rfl rfl HS0 ?_
    refine tkU (i:=4) rfl rfl HS0 ?_
    refine tkU (i:=5) rfl rfl HS0 ?_
    simp only [sA,sB,sC]
    refine tkU (i:=6) rfl rfl HS0 ?_
    refine tkU (i:=7) rfl rfl HS0 ?_
    refine tkU (i:=8) rfl rfl HS0 ?_
    simp only [sA,sB,sC]
    refine tkU (i:=9) rfl rfl HS0 ?_
    refine tkU (i:=10) rfl rfl HS0 ?_
    refine tkU (i:=11) rfl rfl HS0 ?_
    simp only [sA,sB,sC]
    refine tkS (i:=12) (v:=.bool false) rfl rfl HS0 ?_
    simp only [sA,sB,sC]
    refine doneK (by kernel_rfl) ?_ _
    have hk0:(0:Int)≤(kk:Int):=by omega
    have hkc:(kk:Int)≤(cp:Int):=by omega
    have hkn2:(kk:Int)≤(n:Int):=by omega
    have HI3:Hid (InsI w (w2.alloc (.cells #[] 81)) (.slice (some ⟨w2.heap.size,0,none⟩) 0 0) [] (.slice (some ⟨g,0,none⟩) n cp) R (.slice (some ⟨gm,0,none⟩) K mc) Mo (R ++ Mo.drop k)):=by
     have al:=HAl.out w2 (.cells #[] 81)
     refine ⟨(OwnC.made w2 #[] rfl).le HI2.out.b.size,HI2.out.r.past al,HI2.out.m.past al,fun j h1 h2=>?_,fun j h1 h2=>?_,HI2.out.ap,HI2.out.o.past al,chain HI2.out.b al,fun e=>by cases e⟩
     ·injection h1 with h1;have:=(World.ownsRow.lt HI2.out.r j h2).2;simp only at h1;omega
     ·injection h1 with h1;have:=(World.ownsRow.lt HI2.out.m j h2).2;simp only at h1;omega
    have hl1:(R.take kk).length=kk:=by rw [List.length_take];have:=HNn.out;omega
    have HL1:=hide hl1
    clear hl1
    have hz2w:w.heap.size≤w2.heap.size:=HI2.out.b.size
    have X3:=hide (row_pastP X2.out (HAl.out w2 (.cells #[] 81)))
    go_wp2_with (at_builtin;refine wpList_append_own_at _ rfl _ _ 30 rfl w.heap.size 81 i0 (.agg zeroCe) 15 192 Tryz.underlying30 hi hz0 hz1 hz2 rfl (by decide) _ _ _ rfl HI3.out.n ⟨g,0,none⟩ kk cp (flC (R.take kk)) rfl ?c0 (src_take HI3.out.r HNn.out hkk) (flC_oneC _) ?c3 ?c4 ?c5 ?_)
    case c0=>rw [flC_len,HL1.out]
    case c3=>unfold maxLen;omega
    case c4=>omega
    case c5=>omega
    intro v5 w5 hown5 hg5 hnil5 hloc5
    have HI5:=hide (HI3.out.app (G:=R.take kk) (v':=v5) (w1:=w5) (by rw [HL1.out];simpa using hown5) ⟨hg5.os,hg5.tape,hg5.output,hg5.size,hg5.block⟩ (by rw [HL1.out];simpa using hnil5) (by simpa using hloc5))
    have X5:Hid (w5.heap[rc]?=_):=(hg5.block rc (Array.getElem?_eq_some_iff.1 X3.out).1 (fun e=>by injection e with e;have:=(Array.getElem?_eq_some_iff.1 X2.out).1;simp only at e;omega)).trans X3.out
    clear hown5 hg5 hnil5 hloc5 HI3 X3
    have q0:=cellKC X5.out 0 rfl
    have q1:=cellKC X5.out 1 rfl
    have q2:=cellKC X5.out 2 rfl
    have q3:=cellKC X5.out 3 rfl
    have q4:=cellKC X5.out 4 rfl
    have q5:=cellKC X5.out 5 rfl
    have q6:=cellKC X5.out 6 rfl
    have q7:=cellKC X5.out 7 rfl
    have q8:=cellKC X5.out 8 rfl
    have q9:=cellKC X5.out 9 rfl
    have q10:=cellKC X5.out 10 rfl
    have q11:=cellKC X5.out 11 rfl
    have q12:=cellKC X5.out 12 rfl
    have q13:=cellKC X5.out 13 rfl
    have q14:=cellKC X5.out 14 rfl
    have HI6:=hide (HI5.out.past (HAl.out w5 (.cells (ceArr c) 81)))
    have hz5w:w.heap.size≤w5.heap.size:=HI5.out.b.size
    have HL5:Hid (([] ++ R.take kk).length=kk):=by rw [List.nil_append];exact HL1.out
    have hn5:w5.ownsRow w.heap.size 81 15 v5 kk (flC (R.take kk)):=by have:=HI5.out.n;rw [List.nil_append] at this;unfold OwnC at this;rw [HL1.out] at this;exact this
    have HN5:=hide hn5
    clear hn5
    go_wp2_with (at_builtin;refine wpList_append_own_at _ rfl _ _ 30 rfl w.heap.size 81 i0 (.agg zeroCe) 15 192 Tryz.underlying30 hi hz0 hz1 hz2 rfl (by decide) _ _ _ rfl (World.ownsRow.alloc HN5.out _) ⟨w5.heap.size,0,none⟩ 1 1 (ceL c) rfl rfl ?c1 (ceL_one _) ?c3 ?c4 ?c5 ?_)
    case c1=>exact new_cellsC
    case c3=>unfold maxLen;omega
    case c4=>omega
    case c5=>simp;omega
    intro v7 w7 hown7 hg7 hnil7 hloc7
    have HI7:=hide (HI6.out.app (G:=[c]) (v':=v7) (w1:=w7) (by rw [HL5.out,List.nil_append,flC_one];exact hown7) hg7 (by simpa using hnil7) (by simpa using hloc7))
    clear hown7 hg7 hnil7 hloc7 HI5 HI6 HN5 X5 q0 q1 q2 q3 q4 q5 q6 q7 q8 q9 q10 q11 q12 q13 q14
    have hz7w:w.heap.size≤w7.heap.size:=HI7.out.b.size
    have hl2:(R.drop kk).length=n - kk:=by rw [List.length_drop,HNn.out]
    have HL2:=hide hl2
    clear hl2
    have hn7:w7.ownsRow w.heap.size 81 15 v7 (kk+1) (flC (R.take kk ++ [c])):=by have:=HI7.out.n;rw [List.nil_append] at this;unfold OwnC at this;rw [List.length_append,HL1.out] at this;exact this
    have HN7:=hide hn7
    clear hn7
    by_cases hck:cp=kk
    ·go_wp2_with (at_builtin;refine wpList_append_own_at _ rfl _ _ 30 rfl w.heap.size 81 i0 (.agg zeroCe) 15 192 Tryz.underlying30 hi hz0 hz1 hz2 rfl (by decide) _ _ _ rfl HN7.out ⟨g,0,none⟩ (n - kk) 0 (flC (R.drop kk)) rfl ?c0 (src_none (by have:=HNn.out;omega)) (flC_oneC _) ?c3 ?c4 hz7w ?_)
     case c0=>rw [flC_len,HL2.out]
     case c3=>unfold maxLen;omega
     case c4=>omega
     intro v9 w9 hown9 hg9 hnil9 hloc9
     have HI9:=hide (HI7.out.app (G:=R.drop kk) (v':=v9) (w1:=w9) (by rw [HL2.out,List.nil_append,List.length_append,HL1.out];exact hown9) hg9 (by rw [HL2.out];exact hnil9) hloc9)
     rw [List.nil_append] at HI9
     have HF:=hide (HI2.out.ins HC.out HCB.out EK.out HP.out QC.out HI9.out)
     clear hown9 hg9 hnil9 hloc9
     go_wp2
     go_roundw
     case rel=>exact ⟨k+1,_,by omega,by go_num,HF⟩
     case measure=>simp [Go.RowKit.intOf];omega
    ·go_wp2_with (at_builtin;refine wpList_append_own_at _ rfl _ _ 30 rfl w.heap.size 81 i0 (.agg zeroCe) 15 192 Tryz.underlying30 hi hz0 hz1 hz2 rfl (by decide) _ _ _ rfl HN7.out ⟨g,kk*15,none⟩ (n - kk) (cp - kk) (flC (R.drop kk)) rfl ?c0 (src_drop HI7.out.r HNn.out hkk) (flC_oneC _) ?c3 ?c4 hz7w ?_)
     case c0=>rw [flC_len,HL2.out]
     case c3=>unfold maxLen;omega
     case c4=>omega
     intro v9 w9 hown9 hg9 hnil9 hloc9
     have HI9:=hide (HI7.out.app (G:=R.drop kk) (v':=v9) (w1:=w9) (by rw [HL2.out,List.nil_append,List.length_append,HL1.out];exact hown9) hg9 (by rw [HL2.out];exact hnil9) hloc9)
     rw [List.nil_append] at HI9
     have HF:=hide (HI2.out.ins HC.out HCB.out EK.out HP.out QC.out HI9.out)
     clear hown9 hg9 hnil9 hloc9
     go_wp2
     go_roundw
     case rel=>exact ⟨k+1,_,by omega,by go_num,HF⟩
     case measure=>simp [Go.RowKit.intOf];omega
  ·obtain rfl:k=K:=by omega
   have eb:b.take k=b:=List.take_of_length_le (by have:=JJ.out.hN;omega)
   have HF:Hid (Mgs a b R∧OwnC wr w.heap.size (.slice (some ⟨g,0,none⟩) n cp) R∧CesO wr w.heap.size R∧CnQ R):=⟨by have:=HI.out.mg;rw [eb] at this;exact this,HI.out.r,HI.out.o.sub (List.sublist_append_left _ _),HI.out.q⟩
   clear eb hk hkn
   go_wp2
   go_ret2
   exact ⟨_,true,rfl,.inl ⟨rfl,R,HF.out.1,HF.out.2.1,HF.out.2.2.1,HF.out.2.2.2,fun e=>by cases e⟩,HI.out.b⟩
theorem mgp_made {w w':World} {a b:List Ce} (h:MgA a b []) (hb:Below w.heap.size w w'):MgP w a b (.returned (.slice (some ⟨w'.heap.size,0,none⟩) 0 0)) (w'.alloc (.cells #[] 81)):=
 ⟨_,[],rfl,h,(OwnC.made w' #[] rfl).le hb.size,CesO.nil _ _,chain hb ((Below.refl _ _).alloc (Nat.le_refl _) _)⟩
theorem csR_long {L:List Ce} (h:400<L.length):csR L=false:=by
 cases q:csR L with
 | false=>rfl
 | true=>have:=(csR_iff.1 q).1;omega
set_option maxHeartbeats 8000000 in
theorem c_s_CellsMerge {w:World} {ao bo:Option Addr} {N K ca cb:Nat} {a b:List Ce} (hI:ShI w ao N a) (hJ:ShI w bo K b) :
  Calls Tryz.prog 21 #[.slice ao N ca,.slice bo K cb] w (MgP w a b):=by
 have II:=hide hI
 have JJ:=hide hJ
 clear hI hJ
 by_cases hN:400<N
 ·have HA:Hid (MgA a b []):=MgA.no (fun q=>by have:=csR_long (L:=a) (by have:=II.out.hN;omega);rw [this] at q;cases q.1)
  have hNi:(400:Int)<(N:Int):=by omega
  clear hN
  go_enter Tryz.func21,Tryz.ntmps21
  go_wp2
  go_ret
  exact mgp_made HA.out (Below.refl _ _)
 have hNi:¬ (400:Int)<(N:Int):=by omega
 by_cases hK:400<K
 ·have HA:Hid (MgA a b []):=MgA.no (fun q=>by have:=csR_long (L:=b) (by have:=JJ.out.hN;omega);rw [this] at q;cases q.2)
  have hKi:(400:Int)<(K:Int):=by omega
  clear hN hK
  go_enter Tryz.func21,Tryz.ntmps21
  go_wp2
  go_ret
  exact mgp_made HA.out (Below.refl _ _)
 have hKi:¬ (400:Int)<(K:Int):=by omega
 have sN:Hid (N≤2000∧K≤2000):=by show _∧_;omega
 clear hN hK
 go_enter Tryz.func21,Tryz.ntmps21
 go_wp2_with fail
 refine (c_s_CellsRight II.out.hN II.out.lN II.out.ok II.out.sm II.out.ss II.out.mem).mono ?_
 rintro e w1 ⟨rfl,hb1⟩
 have HT1:=hide hb1
 clear hb1
 cases h1:csR a with
 | false=>
  have HA:Hid (MgA a b []):=MgA.no (fun q=>by rw [h1] at q;cases q.1)
  clear h1
  go_wp2
  go_ret
  exact mgp_made HA.out HT1.out
 | true=>
  have H1:=hide h1
  clear h1
  go_wp2_with fail
  refine (c_s_CellsRight JJ.out.hN JJ.out.lN JJ.out.ok JJ.out.sm JJ.out.ss (ces_past JJ.out.mem HT1.out)).mono ?_
  rintro e w2 ⟨rfl,hb2⟩
  have HT2:=hide (chain HT1.out hb2)
  clear hb2 HT1
  cases h2:csR b with
  | false=>
   have HA:Hid (MgA a b []):=MgA.no (fun q=>by rw [h2] at q;cases q.2)
   clear h2
   go_wp2
   go_ret
   exact mgp_made HA.out HT2.out
  | true=>
   have HH:Hid (csR a=true∧csR b=true):=⟨H1.out,h2⟩
   clear h2
   go_wp2_with fail
   refine (c_l08Merge (II.out.past HT2.out) (JJ.out.past HT2.out) (csR_iff.1 HH.out.1).2.2 (cnq_of II.out HH.out.1) (cnq_of JJ.out HH.out.2) sN.out.1 sN.out.2).mono ?_
   rintro e w3 ⟨v,ok,rfl,hm,hb3⟩
   have HT3:=hide (chain HT2.out hb3)
   rcases hm with ⟨rfl,R,hg,hr,ho,_,_⟩ | ⟨rfl,rfl,k,c,M,h4,h5,h6⟩
   ·obtain ⟨ar,cr,rfl,_⟩:=hr.form
    have HG:=hide hg
    have HR:=hide (hr.le HT2.out.size)
    have HO:=hide (ho.le HT2.out.size)
    by_cases hl:60<R.length
    ·have HA:Hid (MgA a b []):=MgA.long HH.out HG.out (by omega)
     have hli:(60:Int)<(R.length:Int):=by omega
     clear hg hr ho hl hb3
     go_wp2
     go_ret
     exact mgp_made HA.out HT3.out
    ·have HA:Hid (MgA a b R):=MgA.ok HH.out HG.out (by omega)
     have hli:¬ (60:Int)<(R.length:Int):=by omega
     clear hg hr ho hl hb3
     go_wp2
     go_ret
     exact ⟨_,R,rfl,HA.out,HR.out,HO.out,HT3.out⟩
   ·have HA:Hid (MgA a b []):=MgA.bad HH.out h4 h5 h6
    clear h4 h5 h6 hb3
    go_wp2
    go_ret
    exact mgp_made HA.out HT3.out
theorem totC_two (A:List Ce) (n:Int) (s:ByteArray):totC (A.filter (loF n s))+totC (A.filter (hiF n s))≤totC A:=by
 have e:A.filter (hiF n s)=(A.filter (fun c=>!loF n s c)).filter (hiF n s):=by
  rw [List.filter_filter]
  refine List.filter_congr (fun c hc=>?_)
  cases q:hiF n s c
  ·rfl
  ·have:loF n s c=false:=by unfold loF hiF at *; exact cAh_ant q
   rw [this];rfl
 have h1:=totC_parts A (loF n s)
 have h2:=totC_filter (hiF n s) (A.filter (fun c=>!loF n s c))
 rw [e];omega
theorem ptl_tot {A R:List Ce} {n:Int} {s:ByteArray} {o:Ag} (h:PtL A n s o R):totC R≤totC A+cst ⟨n,s,o,⟨none,0,none,0,none,0,none,0⟩⟩:=by
 have h':R.map Ce.key=(A.filter (loF n s) ++ ⟨n,s,o,⟨none,0,none,0,none,0,none,0⟩⟩ :: A.filter (hiF n s)).map Ce.key:=by rw [List.map_append,List.map_cons];exact h
 have t1:=totC_key h'
 rw [totC_app] at t1
 have t2:totC (⟨n,s,o,⟨none,0,none,0,none,0,none,0⟩⟩ :: A.filter (hiF n s))=cst ⟨n,s,o,⟨none,0,none,0,none,0,none,0⟩⟩+totC (A.filter (hiF n s)):=rfl
 have:=totC_two A n s
 omega
theorem MsA.tot {A R:List Ce} {c:Ce} (h:MsA A c R):totC R≤totC A+cst c+1000:=by
 rcases h with ⟨d,o,hd,h1,h2,h3,h4,h5⟩ | ⟨h1,h5⟩
 ·have:=ptl_tot h5
  have:=cst_few (n:=c.n) (s:=c.s) (p:=⟨none,0,none,0,none,0,none,0⟩) (mrg_few5 h4)
  omega
 ·have:=ptl_tot h5
  have e:cst ⟨c.n,c.s,c.g,⟨none,0,none,0,none,0,none,0⟩⟩=cst c:=rfl
  omega
theorem Mgs.tot {A B R:List Ce} (h:Mgs A B R):totC R≤totC A+totC B+1000*B.length:=by
 induction h with
 | nil R h=>have:=totC_key h;simp [totC];omega
 | snoc B R R' c h s ih=>
  have:=s.tot
  have e:totC [c]=cst c:=by simp [totC]
  rw [totC_app,List.length_append,e]
  simp only [List.length_cons,List.length_nil]
  omega
theorem Mgs.cnq {A B R:List Ce} (h:Mgs A B R) (qa:CnQ A) (qb:CnQ B):CnQ R:=by
 induction h with
 | nil R h=>exact qa.keys h
 | snoc B R R' c h s ih=>
  have hc:c∈B ++ [c]:=by simp
  exact (ih ⟨fun d hd=>qb.ok d (by simp [hd]),fun d hd=>qb.sm d (by simp [hd]),fun d hd=>qb.rt d (by simp [hd]),fun d hd=>qb.ky d (by simp [hd])⟩).step s (qb.ok c hc) (qb.sm c hc) (qb.rt c hc) (qb.ky c hc)
structure MnB (R:List Ce):Prop where
 l:R.length≤1048576
 sm:∀ c∈R,AgSm c.g
 t:1+totC R≤50000000
theorem MgA.bounds {a b R:List Ce} (h:MgA a b R) (la:a.length+ceTot a≤1048576) (lb:b.length+ceTot b≤1048576) (qa:csR a=true→CnQ a) (qb:csR b=true→CnQ b):MnB R:=by
 have z:MnB []:=⟨by simp,by simp,by simp [totC]⟩
 unfold MgA at h
 split at h
 ·rename_i q
  rcases h with ⟨M,m,h⟩ | ⟨_,h⟩
  ·split at h
   ·have t1:=totC_key h
    have t2:=m.tot
    have t3:=totC_le la
    have t4:=totC_le lb
    have l60:=(csR_iff.1 q.2).1
    have e:=map_len h
    exact ⟨by omega,((m.cnq (qa q.1) (qb q.2)).keys h).sm,by omega⟩
   ·rw [h];exact z
  ·rw [h];exact z
 ·rw [h];exact z
end Go.Proofs.YtiiclgcpagdekaaGreatDoor
