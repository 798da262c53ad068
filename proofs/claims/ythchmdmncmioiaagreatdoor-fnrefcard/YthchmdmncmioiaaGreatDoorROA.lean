/-
 CellsOf of the model.
-/
import Derived.Test.YthchmdmncmioiaaGreatDoorRMA
namespace Go.Proofs.YthchmdmncmioiaaGreatDoor
set_option linter.unusedVariables false
set_option linter.unusedSimpArgs false
open Go.ChangeShapes Go.WideShapes Go.ChangeAt Go.RowKit Go.PlainAid Go.Lib Go.Maps
set_option maxRecDepth 10000
def CoP (w:World) (L:List St) (e:Ending) (w':World):Prop:=∃ v R code,e=.returned (.agg #[v,.int .i64 code])∧CoR L R code∧OwnC w' w.heap.size v R∧CesO w' w.heap.size R∧Below w.heap.size w w'
theorem cop_none {w w':World} {L:List St} {code:Int} (h:CoR L [] code) (hb:Below w.heap.size w w'):CoP w L (.returned (.agg #[.slice none 0 0,.int .i64 code])) w':=⟨_,[],code,rfl,h,OwnC.nil _ _,CesO.nil _ _,hb⟩
structure CoJ (w wr:World) (L:List St) (k:Nat) (v:Value) (R:List Ce):Prop where
 r:OwnC wr (w.heap.size+1) v R
 o:CesO wr (w.heap.size+1) R
 m:CoI (L.take k) R
 b:Below w.heap.size w wr
 y:wr.heap[w.heap.size]?=some (.cells #[.slice none 0 0,.int .i64 0] 60 (0,0))
theorem CoJ.past {w wr w':World} {L:List St} {k:Nat} {v:Value} {R:List Ce} (h:CoJ w wr L k v R) (hb:Below wr.heap.size wr w'):CoJ w w' L k v R:=⟨h.r.past hb,h.o.past hb,h.m,chain h.b hb,row_pastP h.y hb⟩
theorem CoJ.shi {w wr:World} {L:List St} {k n cp:Nat} {ao:Option Addr} {R:List Ce} (h:CoJ w wr L k (.slice ao n cp) R) (hn:R.length=n) (ok:∀ s∈L,s.x.Ok):ShI wr ao n R∧n≤cp∧csR R=true∧CnQ R:=by
 obtain ⟨r,q⟩:=h.m.right (fun s hs=>ok s (List.mem_of_mem_take hs));have l:=(csR_iff.1 r).1;refine ⟨⟨hn,by omega,q.ok,q.sm,fun c hc=>(q.ky c hc).2,fun c hc=>(h.o.o c hc).plgP,OwnC.at h.r h.o.at⟩,?_,r,q⟩;rcases h.r.2 with ⟨e,e0⟩ | ⟨g,cap,cur,e,h1,h2,h3,h4⟩
 ·injection e with e1 e2 e3
  omega
 ·injection e with e1 e2 e3
  omega
theorem OwnC.set0 {w:World} {r j:Nat} {v u:Value} {L:List Ce} (h:OwnC w (r+1) v L):OwnC (w.setCell ⟨r,j,none⟩ u) (r+1) v L:=OwnC.setNe h (Nat.lt_succ_self _) u
theorem coj_fin {w wr:World} {L:List St} {k:Nat} {v a b:Value} {R:List Ce} (h:CoJ w wr L k v R) (c:CoR L R 0):CoP w L (.returned (.agg #[v,.int .i64 0])) ((wr.setCell ⟨w.heap.size,0,none⟩ a).setCell ⟨w.heap.size,1,none⟩ b):=
 ⟨v,R,0,rfl,c,(OwnC.set0 (OwnC.set0 h.r)).le (Nat.le_succ _),(CesO.setNe (CesO.setNe h.o (Nat.lt_succ_self _) a) (Nat.lt_succ_self _) b).le (Nat.le_succ _),(h.b.setCell (Nat.le_refl _) _).setCell (Nat.le_refl _) _⟩
set_option maxHeartbeats 8000000 in
theorem c_s_CellsOf {w:World} {ao:Option Addr} {N ca:Nat} {L:List St} (hN:L.length=N) (lN:N≤1048576) (ok:∀ s∈L,s.x.Ok) (hA:StsAt w ao L) :
  Calls Tryz.prog 22 #[.slice ao N ca] w (CoP w L):=by
 have HN:=hide hN;have HA:=hide hA;have OK:=hide ok;have Y0:=hide (heap_alloc_new w (.cells #[.slice none 0 0,.int .i64 0] 60));have B0:Hid (Below w.heap.size w (w.alloc (.cells #[.slice none 0 0,.int .i64 0] 60))):=(Below.refl _ _).alloc (Nat.le_refl _) _;have Z0:Hid ((w.alloc (.cells #[.slice none 0 0,.int .i64 0] 60)).heap.size=w.heap.size+1):=by show _=_;simp
 clear hN hA ok;by_cases h4:400<N
 ·have HR:Hid (CoR L [] 2):=.size (by have:=HN.out;omega)
  have h4i:(400:Int)<(N:Int):=by omega
  clear h4;go_enter Tryz.func22,Tryz.ntmps22;go_upto_region 2 with fail;generalize w.alloc (.cells #[.slice none 0 0,.int .i64 0] 60)=W0 at Y0 B0 Z0 ⊢;have y0:=cellKC Y0.out 0 rfl;have f0:=fzR 0 Y0.out;have y1:=cellKC Y0.out 1 rfl;have f1:=fzR 1 Y0.out;go_wp2_with fail;have R2:=heap_setCell_same _ w.heap.size 1 _ _ (.int .i64 2) (heap_setCell_same _ w.heap.size 0 _ _ (.slice none 0 0) (Y0.out));have q0:=cellKC R2 0 rfl;have q1:=cellKC R2 1 rfl;clear y0 y1 f0 f1;refine bodyPost_ret (v:=.agg #[.slice none 0 0,.int .i64 2]) (by simp [results,Tryz.results22,go_sem,q0,q1]) rfl ?_;exact cop_none HR.out ((B0.out.setCell (Nat.le_refl _) _).setCell (Nat.le_refl _) _)
 have h4n:¬ 400<L.length:=by have:=HN.out;omega
 have H4:=hide h4n;have h4i:¬ (400:Int)<(N:Int):=by omega
 clear h4n;have M0:Hid (∀ W,Below (w.heap.size+1) (w.alloc (.cells #[.slice none 0 0,.int .i64 0] 60)) W→True):=fun _ _=>trivial;clear M0;go_enter Tryz.func22,Tryz.ntmps22;go_upto_region 4 with fail
 have I0:Hid (CoJ w ((w.alloc (.cells #[.slice none 0 0,.int .i64 0] 60)).alloc (.cells #[] 51)) L 0 (.slice (some ⟨w.heap.size+1,0,none⟩) 0 0) []):=by
  have al:Below (w.alloc (.cells #[.slice none 0 0,.int .i64 0] 60)).heap.size (w.alloc (.cells #[.slice none 0 0,.int .i64 0] 60)) ((w.alloc (.cells #[.slice none 0 0,.int .i64 0] 60)).alloc (.cells #[] 51)):=(Below.refl _ _).alloc (Nat.le_refl _) _;have mk:=OwnC.made (w.alloc (.cells #[.slice none 0 0,.int .i64 0] 60)) #[] rfl;rw [Z0.out] at mk;exact ⟨mk,CesO.nil _ _,by rw [List.take_zero];exact .nil,chain B0.out al,row_pastP Y0.out al⟩
 generalize (w.alloc (.cells #[.slice none 0 0,.int .i64 0] 60)).alloc (.cells #[] 51)=W0 at I0 ⊢;clear Y0 B0 Z0;go_wp2
 go_loopw [3,4] (fun v i wr=>∃ (k:Nat) (R:List Ce),k≤N∧i=.int .i64 k∧Hid (CoJ w wr L k v R)) (fun v i wr=>N - (Go.RowKit.intOf i).toNat)
 case atStart=>exact ⟨0,[],Nat.zero_le _,rfl,I0⟩
 case round=>
  clear I0;obtain ⟨k,R,hk,rfl,HI⟩:=hrel;obtain ⟨ro,cp,ev,_⟩:=HI.out.r.form;subst ev;obtain ⟨n,hn⟩:∃ n,R.length=n:=⟨_,rfl⟩;rw [hn] at HI ⊢;have HNn:=hide hn;clear hn;by_cases hkn:k<N
  ·have hkni:(k:Int)<(N:Int):=by omega
   obtain ⟨bb,off,e,hcell⟩:=HA.out (by have:=HN.out;omega);obtain ⟨s,hs⟩:∃ s,L[k]?=some s:=⟨L[k]'(by have:=HN.out;omega),List.getElem?_eq_getElem _⟩;subst e;have HCe:=hide (hcell k s hs);have HS:=hide hs;have OS:=hide (OK.out s (List.mem_of_getElem? hs));obtain ⟨x0,x1,x2,x3,x4,x5,x6,x7⟩:=stc_past HCe.out HI.out.b;clear hcell hs;go_wp2_with fail;clear x0 x1 x2 x3 x4 x5 x6 x7;refine (c_s_SampleRight s.x.k s.x.se s.x.v s.x.wd s.x.wt s.x.tm s.x.ti OS.out.se OS.out.wd).mono ?_;rintro e w2 ⟨rfl,hb2⟩;have HI2:=hide (HI.out.past hb2);clear hb2 HI
   cases h2:smpB s.x.k s.x.se s.x.v s.x.wd s.x.wt s.x.tm s.x.ti with
   | false=>
    have HR:Hid (CoR L [] 1):=.form H4.out k s R HS.out HI2.out.m (fun q=>by have:=q.1;unfold Sx.B at this;rw [h2] at this;cases this);clear h2;have y0:=cellKC HI2.out.y 0 rfl;have f0:=fzR 0 HI2.out.y;have y1:=cellKC HI2.out.y 1 rfl;have f1:=fzR 1 HI2.out.y;go_wp2_with fail;have R2:=heap_setCell_same _ w.heap.size 1 _ _ (.int .i64 1) (heap_setCell_same _ w.heap.size 0 _ _ (.slice none 0 0) (HI2.out.y));have q0:=cellKC R2 0 rfl;have q1:=cellKC R2 1 rfl;clear y0 y1 f0 f1;refine bodyPost_ret (v:=.agg #[.slice none 0 0,.int .i64 1]) (by simp [results,Tryz.results22,go_sem,q0,q1]) rfl ?_;exact cop_none HR.out ((HI2.out.b.setCell (Nat.le_refl _) _).setCell (Nat.le_refl _) _)
   | true=>
    obtain ⟨x0,_,_,_,_,_,_,_⟩:=stc_past HCe.out HI2.out.b;go_wp2_with fail;clear x0;refine (c_l08Window s.n _).mono ?_;rintro e wz ⟨rfl,hwz⟩;obtain rfl:=hwz.symm
    cases h3:winB s.n with
    | false=>
     have HR:Hid (CoR L [] 1):=.form H4.out k s R HS.out HI2.out.m (fun q=>by have:=q.2;rw [h3] at this;cases this);clear h2 h3;have y0:=cellKC HI2.out.y 0 rfl;have f0:=fzR 0 HI2.out.y;have y1:=cellKC HI2.out.y 1 rfl;have f1:=fzR 1 HI2.out.y;go_wp2_with fail;have R2:=heap_setCell_same _ w.heap.size 1 _ _ (.int .i64 1) (heap_setCell_same _ w.heap.size 0 _ _ (.slice none 0 0) (HI2.out.y));have q0:=cellKC R2 0 rfl;have q1:=cellKC R2 1 rfl;clear y0 y1 f0 f1;refine bodyPost_ret (v:=.agg #[.slice none 0 0,.int .i64 1]) (by simp [results,Tryz.results22,go_sem,q0,q1]) rfl ?_;exact cop_none HR.out ((HI2.out.b.setCell (Nat.le_refl _) _).setCell (Nat.le_refl _) _)
    | true=>
     have HF:Hid (StR s):=⟨h2,h3⟩;clear h2 h3;obtain ⟨shi,hcp,hcs,hcq⟩:=HI2.out.shi HNn.out OK.out;have SH:=hide shi;have CS:=hide hcs;have CQ:=hide hcq;clear shi hcs hcq;go_upto_region 9 with fail
     go_cut [5,6] (fun v c w'=>∃ (R':List Ce) (code:Int),c=.int .i64 code∧Hid (PuA R s.n s.x R' code)∧Hid (OwnC w' w2.heap.size v R')∧Hid (CesO w' w2.heap.size R')∧Hid (Below w2.heap.size w2 w'))
     case first=>
      have HS0:(fun W=>Below w2.heap.size w2 W) w2.drew:=(Below.refl _ _).drew;refine regionK (fun W=>Below w2.heap.size w2 W) 99 (by kernel_rfl) ?_;refine tkS (i:=0) (v:=.slice ro n cp) rfl rfl HS0 ?_;refine tkS (i:=1) (v:=.slice (some ⟨bb,off,none⟩) N ca) rfl rfl HS0 ?_;refine tkS (i:=2) (v:=.int .i64 k) rfl rfl HS0 ?_;simp only [sA,sB,sC];refine tkS (i:=3) (v:=.pointer (some ⟨bb,off+k*8,none⟩)) rfl rfl HS0 ?_;refine tkS (i:=4) (v:=.pointer (some ⟨bb,off+k*8,none⟩)) rfl rfl HS0 ?_;refine tkL (i:=5) (v:=.int .i64 s.n) rfl rfl HS0 (fun W hW=>?_) ?_
      ·obtain ⟨x0,x1,x2,x3,x4,x5,x6,x7⟩:=stc_past HCe.out (chain HI2.out.b hW)
       clear hW;go_simp
      simp only [sA,sB,sC];refine tkS (i:=6) (v:=.slice (some ⟨bb,off,none⟩) N ca) rfl rfl HS0 ?_;refine tkS (i:=7) (v:=.int .i64 k) rfl rfl HS0 ?_;refine tkS (i:=8) (v:=.pointer (some ⟨bb,off+k*8,none⟩)) rfl rfl HS0 ?_;simp only [sA,sB,sC];refine tkS (i:=9) (v:=.pointer (some ⟨bb,off+k*8+1,none⟩)) rfl rfl HS0 ?_;refine tkL (i:=10) (v:=.agg (sxArr s.x)) rfl rfl HS0 (fun W hW=>?_) ?_
      ·obtain ⟨x0,x1,x2,x3,x4,x5,x6,x7⟩:=stc_past HCe.out (chain HI2.out.b hW)
       clear hW;go_simp
      simp only [sA,sB,sC];refine onE (i:=11) rfl (fun K hK=>?_);go_simp;refine (c_l08Put s.n s.x HF.out.1 OS.out (SH.out.past (HS0:Below w2.heap.size w2 _)) hcp (csR_iff.1 CS.out).2.2 CQ.out.rt).mono ?_;rintro e w6 ⟨v6,R6,code,rfl,hp6,hr6,ho6,hb6⟩;have HB6:Hid (Below w2.heap.size w2 w6):=(HS0:Below w2.heap.size w2 _).trans (hb6.mono (Nat.le_refl _));have HP6:=hide hp6;have HR6:Hid (OwnC w6 w2.heap.size v6 R6):=hr6;have HO6:Hid (CesO w6 w2.heap.size R6):=ho6;clear hp6 hr6 ho6 hb6;dsimp only;refine hK.out _ _ (fun _=>HB6.out) ?_;clear hK K
      try simp only [Act.put,sA,sB,sC]
      refine tkS (i:=12) (v:=.tuple #[v6,.int .i64 code]) rfl rfl HB6.out ?_;refine tkS (i:=13) (v:=v6) rfl rfl HB6.out ?_;refine tkS (i:=14) (v:=.int .i64 code) rfl rfl HB6.out ?_;simp only [sA,sB,sC];refine onE (i:=15) rfl (fun K hK=>?_);go_simp;refine hK.out _ _ (fun _=>HB6.out) ?_;clear hK K
      try simp only [Act.put,sA,sB,sC]
      refine onE (i:=16) rfl (fun K hK=>?_);go_simp;refine hK.out _ _ (fun _=>HB6.out) ?_;clear hK K
      try simp only [Act.put,sA,sB,sC]
      refine doneK (by kernel_rfl) ?_ _;go_wp2;go_meet;exact ⟨R6,code,rfl,HP6,HR6,HO6,HB6⟩
     case rest=>
     obtain ⟨R6,code,rfl,HP6,HR6,HO6,HB6⟩:=hcut;obtain ⟨w6,hw6⟩:∃ X,wc=X:=⟨_,rfl⟩;rw [hw6] at HR6 HO6 HB6 ⊢;clear hw6;have hz:=HB6.out.size;have hy2:w.heap.size+1≤w2.heap.size:=(Array.getElem?_eq_some_iff.1 HI2.out.y).1;by_cases hc0:code=0
     ·have bc:(code == 0)=true:=by simp [hc0]
      have bn:(code != 0)=false:=by simp [hc0]
      have HJ:Hid (CoJ w w6 L (k+1) u5 R6):=by
       refine ⟨HR6.out.le hy2,HO6.out.le hy2,?_,chain HI2.out.b HB6.out,row_pastP HI2.out.y HB6.out⟩;rw [List.take_add_one,HS.out];exact .snoc _ _ _ _ HI2.out.m HF.out (hc0 ▸ HP6.out)
      clear hc0;go_wp2;go_roundw
      case rel=>exact ⟨k+1,R6,by omega,by go_num,HJ⟩
      case measure=>simp [Go.RowKit.intOf];omega
     ·have bc:(code == 0)=false:=by simp [hc0]
      have bn:(code != 0)=true:=by simp [hc0]
      have HR:Hid (CoR L [] code):=by
       have hp:=HP6.out;rcases hp.told ⟨aln_sh CS.out,HF.out.1,HF.out.2⟩ with ⟨e,_⟩ | ⟨_,rfl,_⟩
       ·exact absurd e hc0
       ·exact .fall H4.out k s R code HS.out HI2.out.m HF.out hp hc0
      have HYr:=hide (row_pastP HI2.out.y HB6.out);have HBr:=hide (chain HI2.out.b HB6.out);clear hc0;have y0:=cellKC HYr.out 0 rfl;have f0:=fzR 0 HYr.out;have y1:=cellKC HYr.out 1 rfl;have f1:=fzR 1 HYr.out;go_wp2_with fail;have R2:=heap_setCell_same _ w.heap.size 1 _ _ (.int .i64 code) (heap_setCell_same _ w.heap.size 0 _ _ (.slice none 0 0) (HYr.out));have q0:=cellKC R2 0 rfl;have q1:=cellKC R2 1 rfl;clear y0 y1 f0 f1;refine bodyPost_ret (v:=.agg #[.slice none 0 0,.int .i64 code]) (by simp [results,Tryz.results22,go_sem,q0,q1]) rfl ?_;exact cop_none HR.out ((HBr.out.setCell (Nat.le_refl _) _).setCell (Nat.le_refl _) _)
  ·obtain rfl:k=N:=by omega
   have eb:L.take k=L:=List.take_of_length_le (by have:=HN.out;omega);have HR:Hid (CoR L R 0):=.ok R H4.out (by have:=HI.out.m;rw [eb] at this;exact this);clear eb hk hkn;have y0:=cellKC HI.out.y 0 rfl;have f0:=fzR 0 HI.out.y;have y1:=cellKC HI.out.y 1 rfl;have f1:=fzR 1 HI.out.y;go_wp2_with fail;have R2:=heap_setCell_same _ w.heap.size 1 _ _ (.int .i64 0) (heap_setCell_same _ w.heap.size 0 _ _ (.slice ro n cp) (HI.out.y));have q0:=cellKC R2 0 rfl;have q1:=cellKC R2 1 rfl;clear y0 y1 f0 f1;refine bodyPost_ret (v:=.agg #[.slice ro n cp,.int .i64 0]) (by simp [results,Tryz.results22,go_sem,q0,q1]) rfl ?_;exact coj_fin HI.out HR.out
structure AlB (w:World) (A B:Nat) (R:List Ce):Prop where
 ex:∃ v,w.heap[A]?=some (.cells #[.string aln,v] 25 (0,0))∧OwnC w B v R
 o:CesO w B R
 lt:A<B
 le:B≤w.heap.size
def PuC (w:World) (A B:Nat) (R:List Ce) (n:Int) (x:Sx) (e:Ending) (w':World):Prop:=
 ∃ code,e=.returned (.int .i64 code)∧w.grownBy w' (some A)∧((code=0∧∃ R',AlB w' A B R'∧PtA aln R n x aln R' 0)∨(code≠0∧PtA aln R n x ⟨#[]⟩ [] code))
theorem pta_zero {nm nm':ByteArray} {L R:List Ce} {win code:Int} {x:Sx} (h:PtA nm L win x nm' R code):(code=0∧nm'=nm)∨(code≠0∧nm'=⟨#[]⟩∧R=[]):=by
 cases h with
 | form=>exact .inr ⟨by decide,rfl,rfl⟩
 | kind=>exact .inr ⟨by decide,rfl,rfl⟩
 | there=>exact .inl ⟨rfl,rfl⟩
 | full=>exact .inr ⟨by decide,rfl,rfl⟩
 | new=>exact .inl ⟨rfl,rfl⟩
theorem shi_own {w:World} {B n cp:Nat} {ao:Option Addr} {R:List Ce} (r:OwnC w B (.slice ao n cp) R) (o:CesO w B R) (hn:R.length=n) (q:CnQ R) (l:n≤60):ShI w ao n R:=
 ⟨hn,by omega,q.ok,q.sm,fun c hc=>(q.ky c hc).2,fun c hc=>(o.o c hc).plgP,OwnC.at r o.at⟩
set_option maxHeartbeats 4000000 in
theorem c_put1 {w:World} {A B:Nat} {R:List Ce} (n:Int) (x:Sx) (ox:x.Ok) (hm:MX w) (h:AlB w A B R) (rt:csR R=true) (q:CnQ R) :
  Calls Tryz.prog 62 #[.int .i64 n,.agg (sxArr x),.pointer (some ⟨A,0,none⟩)] w (PuC w A B R n x):=by
 obtain ⟨v,hrow,hown⟩:=h.ex;obtain ⟨ao,cp,rfl,_⟩:=hown.form;obtain ⟨nn,hnn⟩:∃ k,R.length=k:=⟨_,rfl⟩;rw [hnn] at hown hrow;have HNn:=hide hnn;have HR:=hide hown;have HO:=hide h.o;have HLt:=hide h.lt;have HLe:=hide h.le;have OX:=hide ox;have HMx:=hide hm;have RT:=hide rt;have HQ:=hide q;have l60:nn≤60:=by have:=(csR_iff.1 rt).1;omega
 have al:Below w.heap.size w (w.alloc (.cells (sxArr x) 28)):=(Below.refl _ _).alloc (Nat.le_refl _) _;have HA0:=hide (row_pastP hrow al);have X0:=hide (heap_alloc_new w (.cells (sxArr x) 28));have HB0:=hide al;have hAw:A<w.heap.size:=(Array.getElem?_eq_some_iff.1 hrow).1;have z0:=cellKC hrow 0 rfl;have z1:=cellKC hrow 1 rfl;clear hnn hown hrow h ox hm rt q al;go_enter Tryz.func62,Tryz.ntmps62;go_wp2_with fail;clear z0 z1;generalize w.alloc (.cells (sxArr x) 28)=W0 at HA0 X0 HB0 ⊢;refine (c_i_ShardPut aln n x (by show 5≤maxLen;unfold maxLen;omega) OX.out (HMx.out.past HB0.out) ((shi_own HR.out HO.out HNn.out HQ.out l60).past HB0.out)).mono ?_;rintro e w1 ⟨v1,nm1,R1,code,rfl,hA,hS,hb1⟩;obtain ⟨⟨vr,vo,rfl,h1,h2,h3⟩,h4⟩:=hS;obtain ⟨ar,cr,rfl,_⟩:=h1.form;obtain ⟨bo,cq,rfl,_⟩:=h2.form;have HA1:=hide (row_pastP HA0.out hb1);have HPt:=hide hA;have hbz:Below w.heap.size w (w1.alloc (.cells #[.string nm1,.slice ar R1.length cr,.slice bo ([]:List Ce).length cq,.int .i64 code] 32)):=chain (chain HB0.out hb1) ((Below.refl _ _).alloc (Nat.le_refl _) _);have al1:Below w1.heap.size w1 (w1.alloc (.cells #[.string nm1,.slice ar R1.length cr,.slice bo ([]:List Ce).length cq,.int .i64 code] 32)):=(Below.refl _ _).alloc (Nat.le_refl _) _;have HBz:=hide hbz;have HA2:=hide (row_pastP HA1.out al1);have Y2:=hide (heap_alloc_new w1 (.cells #[.string nm1,.slice ar R1.length cr,.slice bo ([]:List Ce).length cq,.int .i64 code] 32));have hw0:w.heap.size≤W0.heap.size:=HB0.out.size;have HR1:=hide ((h1.past al1).le hw0);have HO1:Hid (CesO (w1.alloc (.cells #[.string nm1,.slice ar R1.length cr,.slice bo ([]:List Ce).length cq,.int .i64 code] 32)) w.heap.size R1):=by have:=(h4.past al1).le hw0;rw [List.append_nil] at this;exact this
 clear h1 h2 h3 h4 hA hb1 hbz al1 HA0 HA1 X0;go_upto_region 2 with fail;generalize w1.alloc (.cells #[.string nm1,.slice ar R1.length cr,.slice bo ([]:List Ce).length cq,.int .i64 code] 32)=W2 at HBz HA2 Y2 HR1 HO1 ⊢;generalize w1.heap.size=ry at Y2 ⊢;have y0:=cellKC Y2.out 0 rfl;have y1:=cellKC Y2.out 1 rfl;have y3:=cellKC Y2.out 3 rfl;have a0:=cellKC HA2.out 0 rfl;have a1:=cellKC HA2.out 1 rfl;have f0:=fzR 0 HA2.out;have f1:=fzR 1 HA2.out
 have hryA:Hid (ry≠A):=fun e=>by
  subst e;have h1:=HA2.out;rw [Y2.out] at h1;injection h1 with h1;injection h1 with _ h1
  revert h1;decide
 have hne:=hryA.out;have hne2:A≠ry:=fun e=>hne e.symm;have HRow:=hide (heap_setCell_same _ A 1 _ _ (.slice ar R1.length cr) (heap_setCell_same _ A 0 _ _ (.string nm1) HA2.out))
 have HGr:Hid (w.grownBy ((W2.setCell ⟨A,0,none⟩ (.string nm1)).setCell ⟨A,1,none⟩ (.slice ar R1.length cr)) (some A)):=by
  have g1:w.grownBy W2 (some A):=World.grownBy.but ⟨HBz.out.os,HBz.out.tape,HBz.out.output,HBz.out.size,fun i hi _=>HBz.out.block i hi⟩ _;exact (g1.trans (grown_one _ _ _ _)).trans (grown_one _ _ _ _)
 have HR2:Hid (OwnC ((W2.setCell ⟨A,0,none⟩ (.string nm1)).setCell ⟨A,1,none⟩ (.slice ar R1.length cr)) w.heap.size (.slice ar R1.length cr) R1):=OwnC.setNe (OwnC.setNe HR1.out hAw _) hAw _;have HO2:Hid (CesO ((W2.setCell ⟨A,0,none⟩ (.string nm1)).setCell ⟨A,1,none⟩ (.slice ar R1.length cr)) w.heap.size R1):=CesO.setNe (CesO.setNe HO1.out hAw _) hAw _;go_wp2;go_ret;have hsz:w.heap.size≤((W2.setCell ⟨A,0,none⟩ (.string nm1)).setCell ⟨A,1,none⟩ (.slice ar R1.length cr)).heap.size:=HGr.out.size;rcases pta_zero HPt.out with ⟨rfl,rfl⟩ | ⟨hc,rfl,rfl⟩
 ·exact ⟨0,rfl,HGr.out,.inl ⟨rfl,R1,⟨⟨_,HRow.out,HR2.out.le HLe.out⟩,HO2.out.le HLe.out,HLt.out,Nat.le_trans HLe.out hsz⟩,HPt.out⟩⟩
 ·exact ⟨code,rfl,HGr.out,.inr ⟨hc,HPt.out⟩⟩
theorem c_inOrder (ao:Option Addr) (N ca:Nat) (w:World):Calls Tryz.prog 63 #[.slice ao N ca] w fun e w'=>e=.returned (.func (.func 108) #[] #[.pointer (some ⟨w.heap.size,0,none⟩)])∧w'=w.alloc (.cells #[.slice ao N ca] 57):=by
 go_enter Tryz.func63,Tryz.ntmps63;go_wp2;go_ret;exact ⟨rfl,rfl⟩
abbrev StO:={ s:St // s.x.Ok }
def encSt (x:StO):Array Value:=#[.int .i64 x.1.n,.agg (sxArr x.1.x)]
attribute [local go_sem] Oper.semAt_some
set_option maxRecDepth 100000 in
set_option maxHeartbeats 2000000 in
theorem it_in (F:Fence) (n:Nat) (hF:F.fn 108) (hro:F.round=none) (hn:1≤n) (l Bs n₀ N ca:Nat) (ao:Option Addr) (L:List StO) (hN:L.length=N) (lN:N≤400) (J Jx:List StO→World→Prop) (W:World) (hJ:AbidesFrom W.heap.size J)
  (hY:∀ pre x W1,J pre W1→pre.length<N→YieldAt F (n - 1) Tryz.prog l (encSt x) W1 fun e W'=>
   (e=.returned (.bool true)∧J (pre ++ [x]) W'∧Below n₀ W1 W')∨(e=.returned (.bool false)∧Jx (pre ++ [x]) W'))
  (hBs:W.cell? ⟨Bs,0,none⟩=some (.slice ao N ca)) (hA:StsAt W ao (L.map Subtype.val)) (hlow:∀ a,ao=some a→0<N→a.block<n₀) (hn0:n₀≤W.heap.size) (h0:J [] W) :
  CallsIn F n Tryz.prog 108 (#[.func (.yield l) #[] #[]] ++ #[.pointer (some ⟨Bs,0,none⟩)]) W fun e W'=>(∃ v,e=.returned v) ∧
   ((∃ ys,ys=L∧J ys W')∨(∃ pre,(∃ k,k≤N∧pre=L.take k)∧Jx pre W')):=by
 have HN:=hide hN;have HA:=hide hA;have HL:=hide hlow;clear hN hA hlow;refine callsIn_of_wp Tryz.func108 rfl hF ?_ hro;simp only [Tryz.ntmps108,List.size_toArray,List.length_cons,List.length_nil,Nat.reduceAdd,Nat.reduceSub,Array.replicate_succ,Array.replicate_zero,List.push_toArray,List.append_toArray,List.nil_append,List.cons_append]
 gi_wp2
 gi_loopw [7] (fun i wr=>∃ k:Nat,k≤N∧i=.int .i64 k∧J (L.take k) wr∧Below n₀ W wr∧W.heap.size≤wr.heap.size)
  (fun i _=>N - (Go.RowKit.intOf i).toNat)
 case atStart=>exact ⟨0,Nat.zero_le _,rfl,by rw [List.take_zero];exact h0,Below.refl _ _,Nat.le_refl _⟩
 case round=>
  obtain ⟨k,hk,rfl,hJs,hnx,hsz⟩:=hrel;by_cases hlt:k<N
  ·obtain ⟨s,hs⟩:∃ s,L[k]?=some s:=⟨L[k]'(by have:=HN.out;omega),List.getElem?_eq_getElem _⟩
   obtain ⟨bb,off,e,hcell⟩:=HA.out (by rw [List.length_map];have:=HN.out;omega);subst e;have hbl:=HL.out _ rfl (by omega);have hc:=hcell k s.1 (by rw [List.getElem?_map,hs];rfl);have cc:∀ j v,W.cell? ⟨bb,j,none⟩=some v→wr.cell? ⟨bb,j,none⟩=some v:=fun j v h=>(hnx.cell (p:=⟨bb,j,none⟩) hbl).trans h;obtain ⟨x0,x1,x2,x3,x4,x5,x6,x7⟩:=hc;have y0:=cc _ _ x0;have y1:=cc _ _ x1;have y2:=cc _ _ x2;have y3:=cc _ _ x3;have y4:=cc _ _ x4;have y5:=cc _ _ x5;have y6:=cc _ _ x6;have y7:=cc _ _ x7;have hJ2:J (L.take k) (wr.alloc (.cells (stArr s.1) 110)):=hJ _ wr _ none hJs (World.grownBy_alloc wr _ none) (fun r e=>by cases e);have hlk:(L.take k).length<N:=by rw [List.length_take];have:=HN.out;omega
   obtain ⟨fn,tmps,assign,body,hy,hR⟩:=hY _ s _ hJ2 hlk;unfold encSt at hy
   try dsimp only at hy
   have htk:L.take (k+1)=L.take k ++ [s]:=by rw [List.take_add_one,hs];rfl
   have HTk:=hide htk;have HHB:Hid (Below n₀ W (wr.alloc (.cells (stArr s.1) 110))):=hnx.alloc (Nat.le_trans hn0 hsz) _;have HSz:Hid (W.heap.size≤(wr.alloc (.cells (stArr s.1) 110)).heap.size):=by show _≤_;simp;omega
   clear x0 x1 x2 x3 x4 x5 x6 x7 cc hcell htk hs
   gi_wp2
   refine hR.mono ?_;rintro e W3 (⟨rfl,hJ3,hk3⟩ | ⟨rfl,hJx3⟩)
   ·gi_wp2
    go_roundw
    case rel=>exact ⟨k+1,by omega,by simp,by rw [HTk.out];exact hJ3,HHB.out.trans hk3,Nat.le_trans HSz.out hk3.size⟩
    case measure=>simp [Go.RowKit.intOf];omega
   ·gi_wp2
    refine bodyPost_ret (results_none rfl _ _ _) rfl ?_;exact ⟨⟨_,rfl⟩,.inr ⟨_,⟨k+1,by omega,HTk.out.symm⟩,hJx3⟩⟩
  ·obtain rfl:k=N:=by omega
   have eL:L.take k=L:=List.take_of_length_le (by have:=HN.out;omega);rw [eL] at hJs
   gi_wp2
   go_end0
   exact ⟨⟨_,rfl⟩,.inl ⟨_,rfl,hJs⟩⟩
set_option maxRecDepth 10000
attribute [local go_sem] Oper.semAt_some
set_option maxRecDepth 10000
theorem AgO.cells {w:World} {B k:Nat} {g:Ag} {p:Pl} (h:AgO w B g p) (hk:AgBlk g p k):∃ o,w.heap[k]?=some o∧o.isCells=true:=by
 rcases hk with (hk | hk) | (hk | hk)
 ·obtain ⟨c,f,q⟩:=h.P.ty k hk;exact ⟨_,q,rfl⟩
 ·obtain ⟨c,f,q⟩:=h.N.ty k hk;exact ⟨_,q,rfl⟩
 ·rcases h.E.2.2 with ⟨e',_⟩ | ⟨b,c,cur',e',h2,h3,h4⟩
  ·rw [e'] at hk;cases hk
  ·rw [e'] at hk
   obtain rfl:b=k:=Option.some.inj hk;exact ⟨_,h3,rfl⟩
 ·rcases h.R.2.2 with ⟨e',_⟩ | ⟨b,c,cur',e',h2,h3,h4⟩
  ·rw [e'] at hk;cases hk
  ·rw [e'] at hk
   obtain rfl:b=k:=Option.some.inj hk;exact ⟨_,h3,rfl⟩
def NoC (W:World) (row:Option Nat):Prop:=∀ r,row=some r→∃ o:Obj,W.heap[r]?=some o∧o.isCells=false
theorem OwnC.turn {W W':World} {B:Nat} {v:Value} {R:List Ce} {row:Option Nat} (h:OwnC W B v R) (hg:W.grownBy W' row) (hr:NoC W row):OwnC W' B v R:=
 h.keptS (gS hg) (fun k e q=>by
  obtain ⟨c,f,h1⟩:=own_ty h k e;obtain ⟨o,h2,h3⟩:=hr k q;rw [h1] at h2;cases h2;cases h3)
theorem CesO.turn {W W':World} {B:Nat} {R:List Ce} {row:Option Nat} (h:CesO W B R) (hg:W.grownBy W' row) (hr:NoC W row):CesO W' B R:=
 h.keptS (gS hg) (fun c hc k e q=>by
  obtain ⟨o,h1,h4⟩:=(h.o c hc).cells e;obtain ⟨o',h2,h3⟩:=hr k q;rw [h1] at h2;cases h2;rw [h4] at h3;cases h3)
theorem row_turn {W W':World} {k:Nat} {cs:Array Value} {T:TypeId} {row:Option Nat} (h:W.heap[k]?=some (.cells cs T (0,0))) (hg:W.grownBy W' row) (hr:NoC W row):W'.heap[k]?=some (.cells cs T (0,0)):=
 (hg.block k (Array.getElem?_eq_some_iff.1 h).1 (fun e=>by
  obtain ⟨o',h2,h3⟩:=hr k e.symm;rw [h] at h2;cases h2;cases h3)).trans h
theorem AlB.turn {W W':World} {A B:Nat} {R:List Ce} {row:Option Nat} (h:AlB W A B R) (hg:W.grownBy W' row) (hr:NoC W row):AlB W' A B R:=by
 obtain ⟨v,h1,h2⟩:=h.ex;exact ⟨⟨v,row_turn h1 hg hr,h2.turn hg hr⟩,h.o.turn hg hr,h.lt,Nat.le_trans h.le hg.size⟩
theorem pta_ok {R R':List Ce} {n:Int} {x:Sx} {nm nm':ByteArray} (h:PtA nm R n x nm' R' 0):(x.B=true∧winB n=true)∧PuA R n x R' 0:=by
 generalize hz:(0:Int)=z at h
 cases h with
 | form=>cases hz
 | kind=>cases hz
 | full=>cases hz
 | there c o R1 h hc k1 k2 hk hp hR=>exact ⟨h.2,.there c o _ hc k1 k2 hk hp hR⟩
 | new o R1 h hn hl hp hR=>exact ⟨h.2,.new o _ hn hl hp hR⟩
theorem pta_bad {R:List Ce} {n code:Int} {x:Sx} {nm':ByteArray} {R':List Ce} (h:PtA aln R n x nm' R' code) (r:csR R=true) (z:code≠0):(¬ (x.B=true∧winB n=true)∧code=1)∨((x.B=true∧winB n=true)∧PuA R n x [] code):=by
 cases h with
 | form h=>exact .inl ⟨fun q=>h ⟨aln_sh r,q.1,q.2⟩,rfl⟩
 | kind c h hc k1 k2 hk=>exact .inr ⟨h.2,.kind c hc k1 k2 hk⟩
 | full h hn hl=>exact .inr ⟨h.2,.full hn hl⟩
 | there=>exact absurd rfl z
 | new=>exact absurd rfl z
structure CoK (w:World) (Pv:Value) (pre:List StO) (W:World):Prop where
 al:∃ R,AlB W (w.heap.size+1) (w.heap.size+4) R∧CoI (pre.map Subtype.val) R
 y:W.heap[w.heap.size]?=some (.cells #[.slice none 0 0,.int .i64 0] 60 (0,0))
 p:W.heap[w.heap.size+1+1]?=some (.cells #[Pv] 105 (0,0))
 b:Below w.heap.size w W
theorem CoK.turn {w:World} {Pv:Value}:OwnFrom (w.heap.size+4) (CoK w Pv):=fun pre W W' row h hg hr=>by
 have nc:NoC W row:=fun r e=>(hr r e).2;obtain ⟨R,h1,h2⟩:=h.al;exact ⟨⟨R,h1.turn hg nc,h2⟩,row_turn h.y hg nc,row_turn h.p hg nc,h.b.grown hg h.b.size (fun j e=>by have:=(hr j e).1;omega)⟩
structure CoX (w:World) (c:Code) (pre:List StO) (W:World):Prop where
 c:c=.ret
 e:∃ ini last M code,pre=ini ++ [last]∧CoI (ini.map Subtype.val) M∧W.heap[w.heap.size]?=some (.cells #[.slice none 0 0,.int .i64 code] 60 (0,0))∧code≠0∧((¬ StR last.1∧code=1)∨(StR last.1∧PuA M last.1.n last.1.x [] code))
 b:Below w.heap.size w W
theorem CoX.turn {w:World} (c:Code):OwnFrom (w.heap.size+4) (CoX w c):=fun pre W W' row h hg hr=>by
 have nc:NoC W row:=fun r e=>(hr r e).2;obtain ⟨ini,last,M,code,h1,h2,h3,h4,h5⟩:=h.e;exact ⟨h.c,⟨ini,last,M,code,h1,h2,row_turn h3 hg nc,h4,h5⟩,h.b.grown hg h.b.size (fun j e=>by have:=(hr j e).1;omega)⟩
theorem coi_ok {L:List StO}:∀ s∈L.map Subtype.val,s.x.Ok:=fun s hs=>by
 obtain ⟨t,_,rfl⟩:=List.mem_map.1 hs;exact t.2
theorem co_row {W W1:World} {k A:Nat} {o:Obj} (h:W.heap[k]?=some o) (hg:W.grownBy W1 (some A)) (hn:k≠A):W1.heap[k]?=some o:=(hg.block k (Array.getElem?_eq_some_iff.1 h).1 (fun e=>hn (by cases e;rfl))).trans h
theorem co_next {w W W1:World} {Pv:Value} {pre:List StO} {x:StO} {R:List Ce} {code:Int} (h:CoK w Pv pre W) (hc:CoI (pre.map Subtype.val) R) (hg:W.grownBy W1 (some (w.heap.size+1))) (hr:(code=0∧∃ R',AlB W1 (w.heap.size+1) (w.heap.size+4) R'∧PtA aln R x.1.n x.1.x aln R' 0)∨(code≠0∧PtA aln R x.1.n x.1.x ⟨#[]⟩ [] code)) (h0:code=0):CoK w Pv (pre ++ [x]) W1:=by
 rcases hr with ⟨_,R',h1,h2⟩ | ⟨q,_⟩
 ·obtain ⟨f,p⟩:=pta_ok h2
  refine ⟨⟨R',h1,?_⟩,co_row h.y hg (by omega),co_row h.p hg (by omega),h.b.grown hg h.b.size (fun j e=>by cases e;omega)⟩;rw [List.map_append];exact .snoc _ _ _ _ hc f p
 ·exact absurd h0 q
theorem co_left {w W W1:World} {Pv:Value} {pre:List StO} {x:StO} {R:List Ce} {code:Int} (h:CoK w Pv pre W) (hc:CoI (pre.map Subtype.val) R) (rt:csR R=true) (hy:W1.heap[w.heap.size]?=some (.cells #[.slice none 0 0,.int .i64 0] 60 (0,0))) (hg:W.grownBy W1 (some (w.heap.size+1))) (hr:(code=0∧∃ R',AlB W1 (w.heap.size+1) (w.heap.size+4) R'∧PtA aln R x.1.n x.1.x aln R' 0)∨(code≠0∧PtA aln R x.1.n x.1.x ⟨#[]⟩ [] code)) (h0:code≠0):CoX w .ret (pre ++ [x]) ((W1.setCell ⟨w.heap.size,0,none⟩ (.slice none 0 0)).setCell ⟨w.heap.size,1,none⟩ (.int .i64 code)):=by
 rcases hr with ⟨q,_⟩ | ⟨_,h2⟩
 ·exact absurd q h0
 ·refine ⟨rfl,⟨pre,x,R,code,rfl,hc,heap_setCell_same _ w.heap.size 1 _ _ (.int .i64 code) (heap_setCell_same _ w.heap.size 0 _ _ (.slice none 0 0) hy),h0,pta_bad h2 rt h0⟩,?_⟩
  exact ((h.b.grown hg h.b.size (fun j e=>by cases e;omega)).setCell (Nat.le_refl _) _).setCell (Nat.le_refl _) _
theorem co_stop {L ini:List StO} {last:StO} {pre:List StO} {k:Nat} {M:List Ce} {code:Int} (h4:¬ 400<(L.map Subtype.val).length) (hp:pre=L.take k) (e:pre=ini ++ [last]) (m:CoI (ini.map Subtype.val) M) (z:code≠0) (h:(¬ StR last.1∧code=1)∨(StR last.1∧PuA M last.1.n last.1.x [] code)):CoR (L.map Subtype.val) [] code:=by
 have hl:ini.length+1=(L.take k).length:=by rw [← hp,e];simp
 have e1:ini=L.take ini.length:=by
  have:=congrArg (List.take ini.length) (e.symm.trans hp);rw [List.take_left,List.take_take,Nat.min_eq_left (by rw [List.length_take] at hl;omega)] at this;exact this
 have e2:L[ini.length]?=some last:=by
  have:(ini ++ [last])[ini.length]?=some last:=by simp
  rw [← e,hp,List.getElem?_take,if_pos (by rw [List.length_take] at hl;omega)] at this;exact this
 have e3:(L.map Subtype.val)[ini.length]?=some last.1:=by rw [List.getElem?_map,e2];rfl
 have m':CoI ((L.map Subtype.val).take ini.length) M:=by rw [← List.map_take,← e1];exact m
 rcases h with ⟨f,rfl⟩ | ⟨f,p⟩
 ·exact .form h4 _ _ M e3 m' f
 ·exact .fall h4 _ _ M code e3 m' f p z
theorem box_four (w:World) (a b c d:Obj):Hid (Below w.heap.size w ((((w.alloc a).alloc b).alloc c).alloc d))∧Hid (((((w.alloc a).alloc b).alloc c).alloc d).heap[w.heap.size]?=some a)∧Hid (((((w.alloc a).alloc b).alloc c).alloc d).heap[w.heap.size+1]?=some b)∧Hid (((((w.alloc a).alloc b).alloc c).alloc d).heap[w.heap.size+1+1]?=some c)∧Hid (((((w.alloc a).alloc b).alloc c).alloc d).heap[w.heap.size+1+1+1]?=some d)∧Hid (((((w.alloc a).alloc b).alloc c).alloc d).heap.size=w.heap.size+4):=by
 have a1:∀ (X:World) o,Below X.heap.size X (X.alloc o):=fun X o=>(Below.refl _ _).alloc (Nat.le_refl _) _;have k0:=heap_alloc_new w a;have k1:=heap_alloc_new (w.alloc a) b;have k2:=heap_alloc_new ((w.alloc a).alloc b) c;have k3:=heap_alloc_new (((w.alloc a).alloc b).alloc c) d;simp only [World.size_alloc] at k1 k2 k3;exact ⟨hide (chain (chain (chain (a1 _ _) (a1 _ _)) (a1 _ _)) (a1 _ _)),hide (((chain (chain (a1 _ _) (a1 _ _)) (a1 _ _)).block _ (by simp)).trans k0),hide (((chain (a1 _ _) (a1 _ _)).block _ (by simp)).trans k1),hide (((a1 _ _).block _ (by simp)).trans k2),hide k3,hide (by simp)⟩
theorem CoK.ret {w W:World} {Pv:Value} {L:List StO} {N:Nat} (h:CoK w Pv L W) (hN:¬ 400<(L.map Subtype.val).length):∃ ao n cp,W.heap[w.heap.size+1]?=some (.cells #[.string aln,.slice ao n cp] 25 (0,0))∧∃ R,CoR (L.map Subtype.val) R 0∧OwnC W (w.heap.size+1) (.slice ao n cp) R∧CesO W (w.heap.size+1) R:=by
 obtain ⟨R,h1,h2⟩:=h.al;obtain ⟨v,h3,h4⟩:=h1.ex;obtain ⟨ao,cp,rfl,_⟩:=h4.form;exact ⟨ao,_,cp,h3,R,.ok R hN h2,h4.le (by omega),h1.o.le (by omega)⟩
set_option maxRecDepth 100000 in
set_option maxHeartbeats 8000000 in
theorem c_i_CellsOf {w:World} {ao:Option Addr} {N ca:Nat} (L:List StO) (hN:L.length=N) (lN:N≤1048576) (hm:MX w) (hA:StsAt w ao (L.map Subtype.val)) :
  Calls Tryz.prog 21 #[.slice ao N ca] w (CoP w (L.map Subtype.val)):=by
 refine (callsIn_wide (n:=6)).1 ?_;refine callsIn_of_wp_marks Tryz.func21 rfl trivial ?_ rfl;simp only [Tryz.ntmps21,List.size_toArray,List.length_cons,List.length_nil,Nat.reduceAdd,Nat.reduceSub,Array.replicate_succ,Array.replicate_zero,List.push_toArray,List.append_toArray,List.nil_append,List.cons_append];have HN:=hide hN;have HA:=hide hA;have HMx:=hide hm
 have HLw:Hid (∀ a,ao=some a→0<N→a.block<w.heap.size):=fun a e h0=>by
  obtain ⟨b,off,e2,hc⟩:=HA.out (by rw [List.length_map];have:=HN.out;omega);obtain ⟨s,hs⟩:∃ s,(L.map Subtype.val)[0]?=some s:=⟨_,List.getElem?_eq_getElem (by rw [List.length_map];have:=HN.out;omega)⟩;rw [e2] at e;cases e;exact World.block_lt_of_cell? _ _ (hc 0 s hs).1
 clear hN hA hm;by_cases h4:400<N
 ·have HR:Hid (CoR (L.map Subtype.val) [] 2):=.size (by rw [List.length_map];have:=HN.out;omega)
  have h4i:(400:Int)<(N:Int):=by omega
  clear h4
  gi_wp2
  refine ⟨.agg #[.slice none 0 0,.int .i64 2],by simp [results,Tryz.results21,go_sem],?_⟩;exact cop_none HR.out ((Below.refl _ _).alloc (Nat.le_refl _) _)
 ·have h4i:¬ (400:Int)<(N:Int):=by omega
  have H4:Hid (¬ 400<(L.map Subtype.val).length):=by show ¬ _;rw [List.length_map];have:=HN.out;omega
  have l4:N≤400:=by omega
  clear h4;have hsf:=fun (W:World) (a:Addr) (m:Mode)=>run_store Tryz.prog W a (Value.func (.func 62) #[] #[.pointer (some ⟨w.heap.size+1,0,none⟩)]) m rfl
  gi_wp2_with (refine ⟨trivial,?_⟩;gi_at_call 63;refine (callsIn_wide.2 (c_inOrder ao N ca _)).mono ?_;rintro e w' ⟨rfl,rfl⟩)
  obtain ⟨hB0,y0,a0,p0,i0,hsz⟩:=box_four w (.cells #[.slice none 0 0,.int .i64 0] 60) (.cells #[.string ⟨#[97,108,111,110,101]⟩,.slice none 0 0] 25) (.cells #[.func (.func 62) #[] #[.pointer (some ⟨w.heap.size+1,0,none⟩)]] 105) (.cells #[.slice ao N ca] 57);obtain ⟨W0,hW0⟩:∃ W0,(((w.alloc (.cells #[.slice none 0 0,.int .i64 0] 60)).alloc (.cells #[.string ⟨#[97,108,111,110,101]⟩,.slice none 0 0] 25)).alloc (.cells #[.func (.func 62) #[] #[.pointer (some ⟨w.heap.size+1,0,none⟩)]] 105)).alloc (.cells #[.slice ao N ca] 57)=W0:=⟨_,rfl⟩;rw [hW0] at hB0 y0 a0 p0 i0 hsz ⊢;clear hW0 hsf;have H0:CoK w (.func (.func 62) #[] #[.pointer (some ⟨w.heap.size+1,0,none⟩)]) [] W0:=⟨⟨[],⟨⟨_,a0.out,OwnC.nil _ _⟩,CesO.nil _ _,by omega,by rw [hsz.out];exact Nat.le_refl _⟩,.nil⟩,y0.out,p0.out,hB0.out⟩
  refine wpIn_rangeFunc_ownH rfl (by decide) (gf:=108) (lb:=#[.pointer (some ⟨w.heap.size+1+1+1,0,none⟩)]) rfl trivial (enters_of Tryz.func108 (by kernel_rfl) rfl)
   (encs:=encSt) (Kp:=Below w.heap.size) (S:=fun ys=>ys=L) (Sp:=fun pre=>∃ k,k≤N∧pre=L.take k) (N:=N) (w0:=W0)
   (fun l J Jx W hW hJ _ hY h0=>it_in Fence.wide 5 trivial rfl (by decide) l (w.heap.size+1+1+1) w.heap.size N ca ao L HN.out l4 J Jx W hJ hY (cell_past hW (cellKC i0.out 0 rfl)) (sts_past HA.out (chain hB0.out hW)) HLw.out (Nat.le_trans hB0.out.size hW.size) h0)
   belowK_t (belowK_b hB0.out.size) (Below.refl _ _) (fun _=>rfl)
   (CoK w (.func (.func 62) #[] #[.pointer (some ⟨w.heap.size+1,0,none⟩)])) (CoX w) (by rw [hsz.out];exact CoK.turn) (fun c=>by rw [hsz.out];exact CoX.turn c) H0
   (fun x a' W=>∃ Bx,w.heap.size+4≤Bx∧W.heap[Bx]?=some (.cells (sxArr x.1.x) 28 (0,0))∧a'=⟨#[.slice ao N ca,undef,.pointer (some ⟨w.heap.size,0,none⟩),.pointer (some ⟨w.heap.size+1,0,none⟩),.pointer (some ⟨w.heap.size+1+1,0,none⟩),.int .i64 x.1.n,.pointer (some ⟨Bx,0,none⟩),undef,.slice ao N ca,.int .i64 (N:Int),.bool false,undef,.agg #[.string aln,.slice none 0 0],.func (.func 62) #[] #[.pointer (some ⟨w.heap.size+1,0,none⟩)],.slice ao N ca,.func (.func 108) #[] #[.pointer (some ⟨w.heap.size+1+1+1,0,none⟩)],.int .i64 x.1.n,.agg (sxArr x.1.x),undef,undef,undef,undef,undef,undef,undef,undef,undef,undef,undef],[]⟩)
   (fun x a' _ X Y row hs hg hr=>by obtain ⟨Bx,h1,h2,h3⟩:=hs;exact ⟨Bx,h1,row_turn h2 hg (fun r e=>(hr r e).2),h3⟩)
   ?assign ?body ?done ?stop
  case assign=>
   rintro l pre x W K hi hK;unfold encSt
   gi_wp2
   exact hK _ _ ((KeepsOthers.alloc _ _).from _) ((Below.refl _ W).alloc hi.b.size _) (CoK.turn pre W _ none hi (World.grownBy_alloc W _ none) (fun r e=>by cases e)) ⟨W.heap.size,(by obtain ⟨R,h1,_⟩:=hi.al;exact h1.le),heap_alloc_new W _,rfl⟩
  case body=>
   rintro l pre x a' W hl ⟨r,hr⟩ hi ⟨Bx,hBx,bX,rfl⟩ hlt;obtain ⟨R,hAl,hCo⟩:=hi.al;obtain ⟨rt,q⟩:=hCo.right coi_ok;have HAl:=hide hAl;have HCo:=hide hCo;have RT:=hide rt;have HQ:=hide q;have HI:=hide hi;have hmx:=hide (HMx.out.past hi.b);have cp:=cellKC hi.p 0 rfl;obtain ⟨x0,x1,x2,x3,x4,x5,x6⟩:=cells7L bX;clear hAl hCo rt q hi hr bX
   gi_wp2_with (refine ⟨trivial,?_⟩;gi_at_call 62;refine (CallsIn.inRound l (callsIn_wide.2 (c_put1 x.1.n x.1.x x.2 hmx.out HAl.out RT.out HQ.out))).mono ?_;rintro e W1 ⟨code,rfl,hg,hres⟩;have HY1:=hide (co_row HI.out.y hg (by omega));have c0:=cellKC HY1.out 0 rfl;have c1:=cellKC HY1.out 1 rfl;have f0:=frozen_of_row W1 _ 0 _ _ HY1.out;have f1:=frozen_of_row W1 _ 1 _ _ HY1.out;have HG:=hide hg;have HRs:=hide hres;clear hg hres)
   ·have hc0:code≠0:=fun e=>by simp_all
    refine ⟨?_,co_left HI.out HCo.out RT.out HY1.out HG.out HRs.out hc0⟩;rw [hsz.out];exact (KeepsFrom.of_grownBy HG.out (fun j e=>by cases e;omega)).trans (((KeepsOthers.setCell _ _ _).trans (KeepsOthers.setCell _ _ _)).from _)
   ·have hc0:code=0:=by simp_all
    refine ⟨?_,(Below.refl _ _).grown HG.out HI.out.b.size (fun j e=>by cases e;omega),co_next HI.out HCo.out HG.out HRs.out hc0⟩;rw [hsz.out];exact KeepsFrom.of_grownBy HG.out (fun j e=>by cases e;omega)
  case done=>
   rintro D xs W hD rfl hi hK;obtain ⟨ao',n',cp',hrow,R,hR,hOw,hCe⟩:=hi.ret (N:=N) H4.out;have b1:=cellKC hrow 1 rfl;have y0:=cellKC hi.y 0 rfl;have y1:=cellKC hi.y 1 rfl;have f0:=fzR 0 hi.y;have f1:=fzR 1 hi.y;have HI:=hide hi;have HR:=hide hR;have HOw:=hide hOw;have HCe:=hide hCe;have HK:=hide hK;have HD:=hide hD;clear hi hrow hR hOw hCe hK hD
   gi_wp2
   have hK':=(KeepsOthers.setCell (W.setCell ⟨w.heap.size,0,none⟩ (.slice ao' n' cp')) ⟨w.heap.size,1,none⟩ (.int .i64 0)).same D _ ((KeepsOthers.setCell W ⟨w.heap.size,0,none⟩ (.slice ao' n' cp')).same D _ HK.out rfl) rfl;refine ⟨by simp,.inl ⟨_,_,rfl,run_takeDeferred hK',?_⟩⟩;have hy:=row_turn (heap_setCell_same _ w.heap.size 1 _ _ (.int .i64 0) (heap_setCell_same _ w.heap.size 0 _ _ (.slice ao' n' cp') HI.out.y)) (grownBy_putObj' _ D (.deferred none)) (fun r e=>by cases e;exact ⟨_,hK',rfl⟩);have q0:=cellKC hy 0 rfl;have q1:=cellKC hy 1 rfl;refine ⟨.agg #[.slice ao' n' cp',.int .i64 0],by simp [results,Tryz.results21,go_sem,q0,q1],?_⟩;have nc:NoC ((W.setCell ⟨w.heap.size,0,none⟩ (.slice ao' n' cp')).setCell ⟨w.heap.size,1,none⟩ (.int .i64 0)) (some D):=fun r e=>by cases e;exact ⟨_,hK',rfl⟩
   refine ⟨_,R,0,rfl,HR.out,((OwnC.set0 (OwnC.set0 HOw.out)).turn (grownBy_putObj' _ D (.deferred none)) nc).le (Nat.le_succ _),((CesO.setNe (CesO.setNe HCe.out (Nat.lt_succ_self _) _) (Nat.lt_succ_self _) _).turn (grownBy_putObj' _ D (.deferred none)) nc).le (Nat.le_succ _),?_⟩;exact ((HI.out.b.setCell (Nat.le_refl _) _).setCell (Nat.le_refl _) _).trans (belowK_b (w:=w) (Nat.le_refl _) _ D _ _ (by have:=HD.out;have:=hsz.out;omega) hK' rfl rfl)
  case stop=>
   rintro D c pre W hD ⟨k,hk,hpre⟩ hx hK;obtain ⟨hc,⟨ini,last,M,code,e1,e2,e3,e4,e5⟩,hb⟩:=hx;subst hc;have HR:=hide (co_stop H4.out hpre e1 e2 e4 e5);have HY:=hide e3;have HB:=hide hb;have HK:=hide hK;have HD:=hide hD;clear e1 e2 e3 e4 e5 hb hpre hK hD
   gi_wp2
   refine ⟨by simp,.inl ⟨_,_,rfl,run_takeDeferred HK.out,?_⟩⟩;have hy:=row_turn HY.out (grownBy_putObj' _ D (.deferred none)) (fun r e=>by cases e;exact ⟨_,HK.out,rfl⟩);have q0:=cellKC hy 0 rfl;have q1:=cellKC hy 1 rfl;refine ⟨.agg #[.slice none 0 0,.int .i64 code],by simp [results,Tryz.results21,go_sem,q0,q1],?_⟩;exact cop_none HR.out (HB.out.trans (belowK_b (w:=w) (Nat.le_refl _) W D _ _ (by have:=HD.out;have:=hsz.out;omega) HK.out rfl rfl))
end Go.Proofs.YthchmdmncmioiaaGreatDoor
namespace Go.Proofs.YthchmdmncmioiaaGreatDoor
set_option linter.unusedVariables false
set_option linter.unusedSimpArgs false
open Go.ChangeShapes Go.WideShapes Go.ChangeAt Go.RowKit Go.PlainAid Go.Lib
set_option maxRecDepth 10000
theorem c_i_CellsOfL {w:World} {ao:Option Addr} {N ca:Nat} {L:List St} (hN:L.length=N) (lN:N≤1048576) (ok:∀ s∈L,s.x.Ok) (hm:MX w) (hA:StsAt w ao L) :
  Calls Tryz.prog 21 #[.slice ao N ca] w (CoP w L):=by
 have e:(L.pmap (fun s h=>(⟨s,h⟩:StO)) ok).map Subtype.val=L:=by rw [List.map_pmap];simp
 have q:=c_i_CellsOf (ca:=ca) (L.pmap (fun s h=>(⟨s,h⟩:StO)) ok) (by rw [List.length_pmap];exact hN) lN hm (by rw [e];exact hA);rw [e] at q;exact q
end Go.Proofs.YthchmdmncmioiaaGreatDoor
