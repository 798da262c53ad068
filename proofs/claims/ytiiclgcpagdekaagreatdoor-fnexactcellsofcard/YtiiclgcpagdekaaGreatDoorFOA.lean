/-
 CellsOf of the model.
-/
import Derived.Test.YtiiclgcpagdekaaGreatDoorFMA
namespace Go.Proofs.YtiiclgcpagdekaaGreatDoor
set_option linter.unusedVariables false
set_option linter.unusedSimpArgs false
open Go.ChangeShapes Go.WideShapes Go.ChangeAt Go.RowKit Go.PlainAid Go.Lib Go.Maps
set_option maxRecDepth 10000
def CoP (w:World) (L:List St) (e:Ending) (w':World):Prop:=∃ v R code,e=.returned (.agg #[v,.int .i64 code])∧CoR L R code∧OwnC w' w.heap.size v R∧CesO w' w.heap.size R∧Below w.heap.size w w'
theorem cop_none {w w':World} {L:List St} {code:Int} (h:CoR L [] code) (hb:Below w.heap.size w w'):CoP w L (.returned (.agg #[.slice none 0 0,.int .i64 code])) w':=⟨_,[],code,rfl,h,OwnC.nil _ _,CesO.nil _ _,hb⟩
structure CoJ (w wr:World) (L:List St) (k:Nat) (v:Value) (R:List Ce):Prop where
 r:OwnC wr (w.heap.size+1) v R
 o:CesO wr (w.heap.size+1) R
 m:CoI (L.take k) R
 b:Below w.heap.size w wr
 y:wr.heap[w.heap.size]?=some (.cells #[.slice none 0 0,.int .i64 0] 53 (0,0))
theorem CoJ.past {w wr w':World} {L:List St} {k:Nat} {v:Value} {R:List Ce} (h:CoJ w wr L k v R) (hb:Below wr.heap.size wr w'):CoJ w w' L k v R:=⟨h.r.past hb,h.o.past hb,h.m,chain h.b hb,row_pastP h.y hb⟩
theorem CoJ.shi {w wr:World} {L:List St} {k n cp:Nat} {ao:Option Addr} {R:List Ce} (h:CoJ w wr L k (.slice ao n cp) R) (hn:R.length=n) (ok:∀ s∈L,s.x.Ok):ShI wr ao n R∧n≤cp∧csR R=true∧CnQ R:=by
 obtain ⟨r,q⟩:=h.m.right (fun s hs=>ok s (List.mem_of_mem_take hs))
 have l:=(csR_iff.1 r).1
 refine ⟨⟨hn,by omega,q.ok,q.sm,fun c hc=>(q.ky c hc).2,fun c hc=>(h.o.o c hc).plgP,OwnC.at h.r h.o.at⟩,?_,r,q⟩
 rcases h.r.2 with ⟨e,e0⟩ | ⟨g,cap,cur,e,h1,h2,h3,h4⟩
 ·injection e with e1 e2 e3
  omega
 ·injection e with e1 e2 e3
  omega
theorem OwnC.set0 {w:World} {r j:Nat} {v u:Value} {L:List Ce} (h:OwnC w (r+1) v L):OwnC (w.setCell ⟨r,j,none⟩ u) (r+1) v L:=OwnC.setNe h (Nat.lt_succ_self _) u
theorem coj_fin {w wr:World} {L:List St} {k:Nat} {v a b:Value} {R:List Ce} (h:CoJ w wr L k v R) (c:CoR L R 0):CoP w L (.returned (.agg #[v,.int .i64 0])) ((wr.setCell ⟨w.heap.size,0,none⟩ a).setCell ⟨w.heap.size,1,none⟩ b):=
 ⟨v,R,0,rfl,c,(OwnC.set0 (OwnC.set0 h.r)).le (Nat.le_succ _),(CesO.setNe (CesO.setNe h.o (Nat.lt_succ_self _) a) (Nat.lt_succ_self _) b).le (Nat.le_succ _),(h.b.setCell (Nat.le_refl _) _).setCell (Nat.le_refl _) _⟩
set_option maxHeartbeats 8000000 in
theorem c_s_CellsOf {w:World} {ao:Option Addr} {N ca:Nat} {L:List St} (hN:L.length=N) (lN:N≤1048576) (ok:∀ s∈L,s.x.Ok) (hA:StsAt w ao L) :
  Calls Tryz.prog 28 #[.slice ao N ca] w (CoP w L):=by
 have HN:=hide hN
 have HA:=hide hA
 have OK:=hide ok
 have Y0:=hide (heap_alloc_new w (.cells #[.slice none 0 0,.int .i64 0] 53))
 have B0:Hid (Below w.heap.size w (w.alloc (.cells #[.slice none 0 0,.int .i64 0] 53))):=(Below.refl _ _).alloc (Nat.le_refl _) _
 have Z0:Hid ((w.alloc (.cells #[.slice none 0 0,.int .i64 0] 53)).heap.size=w.heap.size+1):=by show _=_;simp
 clear hN hA ok
 by_cases h4:400<N
 ·have HR:Hid (CoR L [] 2):=.size (by have:=HN.out;omega)
  have h4i:(400:Int)<(N:Int):=by omega
  clear h4
  go_enter Tryz.func28,Tryz.ntmps28
  go_upto_region 2 with fail
  generalize w.alloc (.cells #[.slice none 0 0,.int .i64 0] 53)=W0 at Y0 B0 Z0 ⊢
  have y0:=cellKC Y0.out 0 rfl
  have f0:=fzR 0 Y0.out
  have y1:=cellKC Y0.out 1 rfl
  have f1:=fzR 1 Y0.out
  go_wp2_with fail
  have R2:=heap_setCell_same _ w.heap.size 1 _ _ (.int .i64 2) (heap_setCell_same _ w.heap.size 0 _ _ (.slice none 0 0) (Y0.out))
  have q0:=cellKC R2 0 rfl
  have q1:=cellKC R2 1 rfl
  clear y0 y1 f0 f1
  refine bodyPost_ret (v:=.agg #[.slice none 0 0,.int .i64 2]) (by simp [results,Tryz.results28,go_sem,q0,q1]) rfl ?_
  exact cop_none HR.out ((B0.out.setCell (Nat.le_refl _) _).setCell (Nat.le_refl _) _)
 have h4n:¬ 400<L.length:=by have:=HN.out;omega
 have H4:=hide h4n
 have h4i:¬ (400:Int)<(N:Int):=by omega
 clear h4n
 have M0:Hid (∀ W,Below (w.heap.size+1) (w.alloc (.cells #[.slice none 0 0,.int .i64 0] 53)) W→True):=fun _ _=>trivial
 clear M0
 go_enter Tryz.func28,Tryz.ntmps28
 go_upto_region 4 with fail
 have I0:Hid (CoJ w ((w.alloc (.cells #[.slice none 0 0,.int .i64 0] 53)).alloc (.cells #[] 81)) L 0 (.slice (some ⟨w.heap.size+1,0,none⟩) 0 0) []):=by
  have al:Below (w.alloc (.cells #[.slice none 0 0,.int .i64 0] 53)).heap.size (w.alloc (.cells #[.slice none 0 0,.int .i64 0] 53)) ((w.alloc (.cells #[.slice none 0 0,.int .i64 0] 53)).alloc (.cells #[] 81)):=(Below.refl _ _).alloc (Nat.le_refl _) _
  have mk:=OwnC.made (w.alloc (.cells #[.slice none 0 0,.int .i64 0] 53)) #[] rfl
  rw [Z0.out] at mk
  exact ⟨mk,CesO.nil _ _,by rw [List.take_zero];exact .nil,chain B0.out al,row_pastP Y0.out al⟩
 generalize (w.alloc (.cells #[.slice none 0 0,.int .i64 0] 53)).alloc (.cells #[] 81)=W0 at I0 ⊢
 clear Y0 B0 Z0
 go_wp2
 go_loopw [3,4] (fun v i wr=>∃ (k:Nat) (R:List Ce),k≤N∧i=.int .i64 k∧Hid (CoJ w wr L k v R)) (fun v i wr=>N - (Go.RowKit.intOf i).toNat)
 case atStart=>exact ⟨0,[],Nat.zero_le _,rfl,I0⟩
 case round=>
  clear I0
  obtain ⟨k,R,hk,rfl,HI⟩:=hrel
  obtain ⟨ro,cp,ev,_⟩:=HI.out.r.form
  subst ev
  obtain ⟨n,hn⟩:∃ n,R.length=n:=⟨_,rfl⟩
  rw [hn] at HI ⊢
  have HNn:=hide hn
  clear hn
  by_cases hkn:k<N
  ·have hkni:(k:Int)<(N:Int):=by omega
   obtain ⟨bb,off,e,hcell⟩:=HA.out (by have:=HN.out;omega)
   obtain ⟨s,hs⟩:∃ s,L[k]?=some s:=⟨L[k]'(by have:=HN.out;omega),List.getElem?_eq_getElem _⟩
   subst e
   have HCe:=hide (hcell k s hs)
   have HS:=hide hs
   have OS:=hide (OK.out s (List.mem_of_getElem? hs))
   obtain ⟨x0,x1,x2,x3,x4,x5,x6,x7⟩:=stc_past HCe.out HI.out.b
   clear hcell hs
   go_wp2_with fail
   clear x0 x1 x2 x3 x4 x5 x6 x7
   refine (c_s_SampleRight s.x.k s.x.se s.x.v s.x.wd s.x.wt s.x.tm s.x.ti OS.out.se OS.out.wd).mono ?_
   rintro e w2 ⟨rfl,hb2⟩
   have HI2:=hide (HI.out.past hb2)
   clear hb2 HI
   cases h2:smpB s.x.k s.x.se s.x.v s.x.wd s.x.wt s.x.tm s.x.ti with
   | false=>
    have HR:Hid (CoR L [] 1):=.form H4.out k s R HS.out HI2.out.m (fun q=>by have:=q.1;unfold Sx.B at this;rw [h2] at this;cases this)
    clear h2
    have y0:=cellKC HI2.out.y 0 rfl
    have f0:=fzR 0 HI2.out.y
    have y1:=cellKC HI2.out.y 1 rfl
    have f1:=fzR 1 HI2.out.y
    go_wp2_with fail
    have R2:=heap_setCell_same _ w.heap.size 1 _ _ (.int .i64 1) (heap_setCell_same _ w.heap.size 0 _ _ (.slice none 0 0) (HI2.out.y))
    have q0:=cellKC R2 0 rfl
    have q1:=cellKC R2 1 rfl
    clear y0 y1 f0 f1
    refine bodyPost_ret (v:=.agg #[.slice none 0 0,.int .i64 1]) (by simp [results,Tryz.results28,go_sem,q0,q1]) rfl ?_
    exact cop_none HR.out ((HI2.out.b.setCell (Nat.le_refl _) _).setCell (Nat.le_refl _) _)
   | true=>
    obtain ⟨x0,_,_,_,_,_,_,_⟩:=stc_past HCe.out HI2.out.b
    go_wp2_with fail
    clear x0
    refine (c_l08Window s.n _).mono ?_
    rintro e wz ⟨rfl,hwz⟩
    obtain rfl:=hwz.symm
    cases h3:winB s.n with
    | false=>
     have HR:Hid (CoR L [] 1):=.form H4.out k s R HS.out HI2.out.m (fun q=>by have:=q.2;rw [h3] at this;cases this)
     clear h2 h3
     have y0:=cellKC HI2.out.y 0 rfl
     have f0:=fzR 0 HI2.out.y
     have y1:=cellKC HI2.out.y 1 rfl
     have f1:=fzR 1 HI2.out.y
     go_wp2_with fail
     have R2:=heap_setCell_same _ w.heap.size 1 _ _ (.int .i64 1) (heap_setCell_same _ w.heap.size 0 _ _ (.slice none 0 0) (HI2.out.y))
     have q0:=cellKC R2 0 rfl
     have q1:=cellKC R2 1 rfl
     clear y0 y1 f0 f1
     refine bodyPost_ret (v:=.agg #[.slice none 0 0,.int .i64 1]) (by simp [results,Tryz.results28,go_sem,q0,q1]) rfl ?_
     exact cop_none HR.out ((HI2.out.b.setCell (Nat.le_refl _) _).setCell (Nat.le_refl _) _)
    | true=>
     have HF:Hid (StR s):=⟨h2,h3⟩
     clear h2 h3
     obtain ⟨shi,hcp,hcs,hcq⟩:=HI2.out.shi HNn.out OK.out
     have SH:=hide shi
     have CS:=hide hcs
     have CQ:=hide hcq
     clear shi hcs hcq
     go_upto_region 9 with fail
     go_cut [5,6] (fun v c w'=>∃ (R':List Ce) (code:Int),c=.int .i64 code∧Hid (PuA R s.n s.x R' code)∧Hid (OwnC w' w2.heap.size v R')∧Hid (CesO w' w2.heap.size R')∧Hid (Below w2.heap.size w2 w'))
     case first=>
      have HS0:(fun W=>Below w2.heap.size w2 W) w2.drew:=(Below.refl _ _).drew
      refine regionK (fun W=>Below w2.heap.size w2 W) 99 (by kernel_rfl) ?_
      refine tkS (i:=0) (v:=.slice ro n cp) rfl rfl HS0 ?_
      refine tkS (i:=1) (v:=.slice (some ⟨bb,off,none⟩) N ca) rfl rfl HS0 ?_
      refine tkS (i:=2) (v:=.int .i64 k) rfl rfl HS0 ?_
      simp only [sA,sB,sC]
      refine tkS (i:=3) (v:=.pointer (some ⟨bb,off+k*8,none⟩)) rfl rfl HS0 ?_
      refine tkS (i:=4) (v:=.pointer (some ⟨bb,off+k*8,none⟩)) rfl rfl HS0 ?_
      refine tkL (i:=5) (v:=.int .i64 s.n) rfl rfl HS0 (fun W hW=>?_) ?_
      ·obtain ⟨x0,x1,x2,x3,x4,x5,x6,x7⟩:=stc_past HCe.out (chain HI2.out.b hW)
       clear hW
       go_simp
      simp only [sA,sB,sC]
      refine tkS (i:=6) (v:=.slice (some ⟨bb,off,none⟩) N ca) rfl rfl HS0 ?_
      refine tkS (i:=7) (v:=.int .i64 k) rfl rfl HS0 ?_
      refine tkS (i:=8) (v:=.pointer (some ⟨bb,off+k*8,none⟩)) rfl rfl HS0 ?_
      simp only [sA,sB,sC]
      refine tkS (i:=9) (v:=.pointer (some ⟨bb,off+k*8+1,none⟩)) rfl rfl HS0 ?_
      refine tkL (i:=10) (v:=.agg (sxArr s.x)) rfl rfl HS0 (fun W hW=>?_) ?_
      ·obtain ⟨x0,x1,x2,x3,x4,x5,x6,x7⟩:=stc_past HCe.out (chain HI2.out.b hW)
       clear hW
       go_simp
      simp only [sA,sB,sC]
      refine onE (i:=11) rfl (fun K hK=>?_)
      go_simp
      refine (c_l08Put s.n s.x HF.out.1 OS.out (SH.out.past (HS0:Below w2.heap.size w2 _)) hcp (csR_iff.1 CS.out).2.2 CQ.out.rt).mono ?_
      rintro e w6 ⟨v6,R6,code,rfl,hp6,hr6,ho6,hb6⟩
      have HB6:Hid (Below w2.heap.size w2 w6):=(HS0:Below w2.heap.size w2 _).trans (hb6.mono (Nat.le_refl _))
      have HP6:=hide hp6
      have HR6:Hid (OwnC w6 w2.heap.size v6 R6):=hr6
      have HO6:Hid (CesO w6 w2.heap.size R6):=ho6
      clear hp6 hr6 ho6 hb6
      dsimp only
      refine hK.out _ _ (fun _=>HB6.out) ?_
      clear hK K
      try simp only [Act.put,sA,sB,sC]
      refine tkS (i:=12) (v:=.tuple #[v6,.int .i64 code]) rfl rfl HB6.out ?_
      refine tkS (i:=13) (v:=v6) rfl rfl HB6.out ?_
      refine tkS (i:=14) (v:=.int .i64 code) rfl rfl HB6.out ?_
      simp only [sA,sB,sC]
      refine onE (i:=15) rfl (fun K hK=>?_)
      go_simp
      refine hK.out _ _ (fun _=>HB6.out) ?_
      clear hK K
      try simp only [Act.put,sA,sB,sC]
      refine onE (i:=16) rfl (fun K hK=>?_)
      go_simp
      refine hK.out _ _ (fun _=>HB6.out) ?_
      clear hK K
      try simp only [Act.put,sA,sB,sC]
      refine doneK (by kernel_rfl) ?_ _
      go_wp2
      go_meet
      exact ⟨R6,code,rfl,HP6,HR6,HO6,HB6⟩
     case rest=>
     obtain ⟨R6,code,rfl,HP6,HR6,HO6,HB6⟩:=hcut
     obtain ⟨w6,hw6⟩:∃ X,wc=X:=⟨_,rfl⟩
     rw [hw6] at HR6 HO6 HB6 ⊢
     clear hw6
     have hz:=HB6.out.size
     have hy2:w.heap.size+1≤w2.heap.size:=(Array.getElem?_eq_some_iff.1 HI2.out.y).1
     by_cases hc0:code=0
     ·have bc:(code == 0)=true:=by simp [hc0]
      have bn:(code != 0)=false:=by simp [hc0]
      have HJ:Hid (CoJ w w6 L (k+1) u5 R6):=by
       refine ⟨HR6.out.le hy2,HO6.out.le hy2,?_,chain HI2.out.b HB6.out,row_pastP HI2.out.y HB6.out⟩
       rw [List.take_add_one,HS.out]
       exact .snoc _ _ _ _ HI2.out.m HF.out (hc0 ▸ HP6.out)
      clear hc0
      go_wp2
      go_roundw
      case rel=>exact ⟨k+1,R6,by omega,by go_num,HJ⟩
      case measure=>simp [Go.RowKit.intOf];omega
     ·have bc:(code == 0)=false:=by simp [hc0]
      have bn:(code != 0)=true:=by simp [hc0]
      have HR:Hid (CoR L [] code):=by
       have hp:=HP6.out
       rcases hp.told ⟨aln_sh CS.out,HF.out.1,HF.out.2⟩ with ⟨e,_⟩ | ⟨_,rfl,_⟩
       ·exact absurd e hc0
       ·exact .fall H4.out k s R code HS.out HI2.out.m HF.out hp hc0
      have HYr:=hide (row_pastP HI2.out.y HB6.out)
      have HBr:=hide (chain HI2.out.b HB6.out)
      clear hc0
      have y0:=cellKC HYr.out 0 rfl
      have f0:=fzR 0 HYr.out
      have y1:=cellKC HYr.out 1 rfl
      have f1:=fzR 1 HYr.out
      go_wp2_with fail
      have R2:=heap_setCell_same _ w.heap.size 1 _ _ (.int .i64 code) (heap_setCell_same _ w.heap.size 0 _ _ (.slice none 0 0) (HYr.out))
      have q0:=cellKC R2 0 rfl
      have q1:=cellKC R2 1 rfl
      clear y0 y1 f0 f1
      refine bodyPost_ret (v:=.agg #[.slice none 0 0,.int .i64 code]) (by simp [results,Tryz.results28,go_sem,q0,q1]) rfl ?_
      exact cop_none HR.out ((HBr.out.setCell (Nat.le_refl _) _).setCell (Nat.le_refl _) _)
  ·obtain rfl:k=N:=by omega
   have eb:L.take k=L:=List.take_of_length_le (by have:=HN.out;omega)
   have HR:Hid (CoR L R 0):=.ok R H4.out (by have:=HI.out.m;rw [eb] at this;exact this)
   clear eb hk hkn
   have y0:=cellKC HI.out.y 0 rfl
   have f0:=fzR 0 HI.out.y
   have y1:=cellKC HI.out.y 1 rfl
   have f1:=fzR 1 HI.out.y
   go_wp2_with fail
   have R2:=heap_setCell_same _ w.heap.size 1 _ _ (.int .i64 0) (heap_setCell_same _ w.heap.size 0 _ _ (.slice ro n cp) (HI.out.y))
   have q0:=cellKC R2 0 rfl
   have q1:=cellKC R2 1 rfl
   clear y0 y1 f0 f1
   refine bodyPost_ret (v:=.agg #[.slice ro n cp,.int .i64 0]) (by simp [results,Tryz.results28,go_sem,q0,q1]) rfl ?_
   exact coj_fin HI.out HR.out
end Go.Proofs.YtiiclgcpagdekaaGreatDoor
