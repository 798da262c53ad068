/-
 Three boxes.
-/
import Derived.Test.YthchmdmncmioiaaGreatDoorZPA
import Derived.Test.YthchmdmncmioiaaGreatDoorZKD
import Derived.Test.YthchmdmncmioiaaGreatDoorZKA
set_option maxHeartbeats 16000000
namespace Go.Proofs.YthchmdmncmioiaaGreatDoor
set_option linter.unusedVariables false
set_option linter.unusedSimpArgs false
open Go.ChangeShapes Go.WideShapes Go.ChangeAt Go.RowKit Go.PlainAid Go.Lib
set_option maxRecDepth 10000
theorem Qml (w:World) (g:Ag) (p:Pl) (x:Sx):Hid (Below w.heap.size w (((w.alloc (.cells (Qal g p) 49)).alloc (.cells (Qax x) 28)).alloc (.cells z13 49)))/\Hid (∀ W,Below (((w.alloc (.cells (Qal g p) 49)).alloc (.cells (Qax x) 28)).alloc (.cells z13 49)).heap.size (((w.alloc (.cells (Qal g p) 49)).alloc (.cells (Qax x) 28)).alloc (.cells z13 49)) W->W.heap[w.heap.size]?=some (.cells (Qal g p) 49 (0,0))/\W.heap[w.heap.size+1]?=some (.cells (Qax x) 28 (0,0))/\W.heap[w.heap.size+1+1]?=some (.cells z13 49 (0,0)))/\Hid ((((w.alloc (.cells (Qal g p) 49)).alloc (.cells (Qax x) 28)).alloc (.cells z13 49)).heap.size=w.heap.size+1+1+1):=by
 have a1:∀ (W:World) o,Below W.heap.size W (W.alloc o):=fun W o=>(ZZb _ _).alloc (ZZa _) _;have k0:=ZZk w (.cells (Qal g p) 49);have k1:=ZZk (w.alloc (.cells (Qal g p) 49)) (.cells (Qax x) 28);have k2:=ZZk ((w.alloc (.cells (Qal g p) 49)).alloc (.cells (Qax x) 28)) (.cells z13 49);simp only [World.size_alloc] at k1 k2;exact ⟨Qaa (Qad (Qad (a1 _ _) (a1 _ _)) (a1 _ _)),Qaa (fun W hW=>⟨(hW.block _ (by simp <;> omega)).trans (((a1 _ _).block _ (by simp <;> omega)).trans (((a1 _ _).block _ (by simp)).trans k0)),(hW.block _ (by simp <;> omega)).trans (((a1 _ _).block _ (by simp)).trans k1),(hW.block _ (by simp)).trans k2⟩),(by simp;exact Qaa trivial)⟩
theorem Qa6 {w:World} {b:Nat} {x:Sx} {T:TypeId} (h:w.heap[b]?=some (.cells (Qax x) T (0,0))):w.cell? ⟨b,0,none⟩=some (.int .i64 x.k)/\w.cell? ⟨b,1,none⟩=some (.string x.se)/\w.cell? ⟨b,2,none⟩=some (.int .i64 x.v)/\w.cell? ⟨b,3,none⟩=some (.string x.wd)/\w.cell? ⟨b,4,none⟩=some (.int .u64 x.wt)/\w.cell? ⟨b,5,none⟩=some (.bool x.tm)/\w.cell? ⟨b,6,none⟩=some (.int .i64 x.ti):=
 ⟨QcD h 0 rfl,QcD h 1 rfl,QcD h 2 rfl,QcD h 3 rfl,QcD h 4 rfl,QcD h 5 rfl,QcD h 6 rfl⟩
theorem QlE {w:World} {g:Ag} {p:Pl} (x:Sx) (ok:AgOk g) (ox:x.Ok) (sm:AgSm g) (pl:PlG g p) (hm:MX w) (hA:AgAt w g p) :
  Calls Tryz.prog 43 #[.agg (Qal g p),.agg (Qax x)] w fun e w'=>AgRes w (AgPut g x) e w':=by
 have OK:=Qaa ok;have OX:=Qaa ox;have SM:=Qaa sm;have PL:=Qaa pl;have HA:=Qaa hA;obtain ⟨HT0,HC0,HZ0⟩:=Qml w g p x;have HMx:=Qaa (hm.past HT0.out);clear ok ox sm pl hA hm;go_enter Tryz.func43,Tryz.ntmps43;go_wp2_with fail;generalize ((w.alloc (.cells (Qal g p) 49)).alloc (.cells (Qax x) 28)).alloc (.cells z13 49)=W0 at HT0 HC0 HZ0 HMx ⊢;refine (Qcr (g:=g) (p:=p) OK.out SM.out (Qan HA.out HT0.out)).mono ?_;rintro e w1 ⟨rfl,hb1⟩;rw [Qkk];have HC1:Hid (∀ W,Below w1.heap.size w1 W->W.heap[w.heap.size]?=some (.cells (Qal g p) 49 (0,0))/\W.heap[w.heap.size+1]?=some (.cells (Qax x) 28 (0,0))/\W.heap[w.heap.size+1+1]?=some (.cells z13 49 (0,0))):=fun W hW=>HC0.out W (Qad hb1 hW);have HT1:=Qaa (Qad HT0.out hb1);have HM1:=Qaa (HMx.out.past hb1);have hz1:w.heap.size+1+1+1<=w1.heap.size:=by have:=hb1.size;have:=HZ0.out;omega
 clear hb1 HC0 HMx HZ0 HT0
 cases hq:agB g with
 | false=>
  have HQ:Hid (AgPut g x g):=QmA (fun h=>by rw [hq] at h;cases h.1);have HRa:=Qaa (HC1.out _ (ZZb _ _)).1;obtain ⟨x0,x1,x2,x3,x4,x5,x6,x7,x8,x9,x10,x11,x12⟩:=Qby HRa.out;obtain ⟨y0,y1,y2,y3,y4,y5,y6⟩:=Qa6 (HC1.out _ (ZZb _ _)).2.1;go_wp2_with fail;clear x0 x1 x2 x3 x4 x5 x6 x7 x8 x9 x10 x11 x12 y0 y1 y2 y3 y4 y5 y6;refine (Qep SM.out PL.out (Qan HA.out HT1.out)).mono ?_;rintro e wc ⟨vc,oc,rfl,rfl,⟨pc,rfl,hO⟩,hbc⟩;have HO:=Qaa hO;have HTc:=Qaa (Qad HT1.out hbc);have HRc:=Qaa (HC1.out _ hbc).2.2;have hzw:=HT1.out.size;clear hO hbc;obtain ⟨q0,q1,q2,q3,q4,q5,q6,q7,q8,q9,q10,q11,q12⟩:=Qby HRc.out;obtain ⟨f0,f1,f2,f3,f4,f5,f6,f7,f8,f9,f10,f11,f12⟩:=Qdr HRc.out;go_wp2;refine bodyPost_ret (v:=.agg (Qal oc pc)) (by simp [results,Tryz.results43,go_sem,q0,q1,q2,q3,q4,q5,q6,q7,q8,q9,q10,q11,q12]) rfl (AgRes.mk (o:=oc) (p:=pc) HQ.out ?_ ?_)
  ·refine AgO.le (B:=w1.heap.size) ?_ (by omega)
   repeat (refine AgO.below ?_ (by omega) _)
   exact HO.out
  ·repeat (refine Below.setCell ?_ (by simp <;> omega) _)
   exact HTc.out
 | true=>
  obtain ⟨y0,y1,y2,y3,y4,y5,y6⟩:=Qa6 (HC1.out _ (ZZb _ _)).2.1;go_wp2_with fail;clear y0 y1 y2 y3 y4 y5 y6;refine (Qdx x.k x.se x.v x.wd x.wt x.tm x.ti HM1.out OX.out.se OX.out.wd).mono ?_;rintro e w2 ⟨rfl,hb2⟩;have HC:Hid (∀ W,Below w2.heap.size w2 W->W.heap[w.heap.size]?=some (.cells (Qal g p) 49 (0,0))/\W.heap[w.heap.size+1]?=some (.cells (Qax x) 28 (0,0))/\W.heap[w.heap.size+1+1]?=some (.cells z13 49 (0,0))):=fun W hW=>HC1.out W (Qad hb2 hW);have HT2:=Qaa (Qad HT1.out hb2);have hz2:=hb2.size;clear hb2 HC1
  cases hs:Qbm x.k x.se x.v x.wd x.wt x.tm x.ti with
  | false=>
   have HQ:Hid (AgPut g x g):=QmA (fun h=>by have:=h.2.1;unfold Sx.B at this;rw [hs] at this;cases this);have HRa:=Qaa (HC.out _ (ZZb _ _)).1;obtain ⟨x0,x1,x2,x3,x4,x5,x6,x7,x8,x9,x10,x11,x12⟩:=Qby HRa.out;obtain ⟨y0,y1,y2,y3,y4,y5,y6⟩:=Qa6 (HC.out _ (ZZb _ _)).2.1;go_wp2_with fail;clear x0 x1 x2 x3 x4 x5 x6 x7 x8 x9 x10 x11 x12 y0 y1 y2 y3 y4 y5 y6;refine (Qep SM.out PL.out (Qan HA.out HT2.out)).mono ?_;rintro e wc ⟨vc,oc,rfl,rfl,⟨pc,rfl,hO⟩,hbc⟩;have HO:=Qaa hO;have HTc:=Qaa (Qad HT2.out hbc);have HRc:=Qaa (HC.out _ hbc).2.2;have hzw:=HT2.out.size;clear hO hbc;obtain ⟨q0,q1,q2,q3,q4,q5,q6,q7,q8,q9,q10,q11,q12⟩:=Qby HRc.out;obtain ⟨f0,f1,f2,f3,f4,f5,f6,f7,f8,f9,f10,f11,f12⟩:=Qdr HRc.out;go_wp2;refine bodyPost_ret (v:=.agg (Qal oc pc)) (by simp [results,Tryz.results43,go_sem,q0,q1,q2,q3,q4,q5,q6,q7,q8,q9,q10,q11,q12]) rfl (AgRes.mk (o:=oc) (p:=pc) HQ.out ?_ ?_)
   ·refine AgO.le (B:=w2.heap.size) ?_ (by omega)
    repeat (refine AgO.below ?_ (by omega) _)
    exact HO.out
   ·repeat (refine Below.setCell ?_ (by simp <;> omega) _)
    exact HTc.out
  | true=>
   by_cases hk:g.k=x.k
   ·have HG:Hid (agB g=true/\x.B=true/\g.k=x.k):=⟨hq,hs,hk⟩
    have NO:=Qaa (Qa9 hq);have hb:(x.k != g.k)=false:=by simp [hk]
    have x0:=QcD (HC.out _ (ZZb _ _)).1 0 rfl;have y0:=QcD (HC.out _ (ZZb _ _)).2.1 0 rfl;clear hq hs hk;go_wp2_with fail;clear x0 y0 hb;have hkk:g.k=1∨g.k=2∨g.k=3∨g.k=4:=by have:=NO.out.k1;have:=NO.out.k4;omega
    rcases hkk with h | h | h | h
    ·have HK1:=Qaa h
     clear h;have HS0:(fun W=>Below w2.heap.size w2 W) w2.drew:=(ZZb _ _).drew;refine Qaj (fun W=>Below w2.heap.size w2 W) 8 (by kernel_rfl) ?_;refine tkS (i:=0) (v:=.pointer (some ⟨w.heap.size,1,none⟩)) rfl rfl HS0 ?_;refine tkL (i:=1) (v:=.int .u64 g.s) rfl rfl HS0 (fun W hW=>?_) ?_
     ·have hWW:=HC.out W hW
      obtain ⟨x0,x1,x2,x3,x4,x5,x6,x7,x8,x9,x10,x11,x12⟩:=Qby hWW.1;obtain ⟨y0,y1,y2,y3,y4,y5,y6⟩:=Qa6 hWW.2.1;clear hWW;clear hW;go_simp
     refine tkL (i:=3) (v:=.agg (Qal g p)) rfl rfl HS0 (fun W hW=>?_) ?_
     ·have hWW:=HC.out W hW
      obtain ⟨x0,x1,x2,x3,x4,x5,x6,x7,x8,x9,x10,x11,x12⟩:=Qby hWW.1;obtain ⟨y0,y1,y2,y3,y4,y5,y6⟩:=Qa6 hWW.2.1;clear hWW;clear hW;go_simp
     simp only [sA,sB,sC];refine tkL (i:=5) (v:=.agg (Qax x)) rfl rfl HS0 (fun W hW=>?_) ?_
     ·have hWW:=HC.out W hW
      obtain ⟨x0,x1,x2,x3,x4,x5,x6,x7,x8,x9,x10,x11,x12⟩:=Qby hWW.1;obtain ⟨y0,y1,y2,y3,y4,y5,y6⟩:=Qa6 hWW.2.1;clear hWW;clear hW;go_simp
     simp only [sA,sB,sC];refine onE (i:=2) rfl (fun K hK=>?_);go_simp;refine (QaH _ _ OK.out.s (by unfold U64;omega) _).mono ?_;rintro e wz ⟨rfl,hwz⟩;obtain rfl:=hwz.symm;dsimp only;refine hK.out _ _ (fun _=>HS0) ?_;clear hK K
     try simp only [Act.put,sA,sB,sC]
     refine onE (i:=4) rfl (fun K hK=>?_);go_simp;refine (Qez (g:=g) (p:=p) _ HK1.out).mono ?_;rintro e w4 ⟨rfl,hb4⟩;have HB4:Hid (Below w2.heap.size w2 w4):=(HS0:Below w2.heap.size w2 w2.drew).trans (hb4.mono (ZZa _));clear hb4;dsimp only;refine hK.out _ _ (fun _=>HB4.out) ?_;clear hK K
     try simp only [Act.put,sA,sB,sC]
     refine onE (i:=6) rfl (fun K hK=>?_);go_simp;refine (c_cput g.h g.l x _ OK.out.l OX.out).mono ?_;rintro e w5 ⟨rfl,hb5⟩;have HB5:Hid (Below w2.heap.size w2 w5):=Qad HB4.out hb5;clear hb5;dsimp only;refine hK.out _ _ (fun _=>HB5.out) ?_;clear hK K
     try simp only [Act.put,sA,sB,sC]
     refine onE (i:=7) rfl (fun K hK=>?_);go_simp;refine (QeZ ⟨0,QaA g.s 1,Qbp g.h g.l (thH x.v x.wt) (thL x.v x.wt),Qbu g.l (thL x.v x.wt),0,0,0,[],[],0,0,[],[]⟩ pl0 _).mono ?_;rintro e w6 ⟨rfl,hb6⟩;have HB6:Hid (Below w2.heap.size w2 w6):=Qad HB5.out hb6;have HB56:=Qaa hb6;clear hb6;have HR6:=Qaa (HC.out _ HB6.out).2.2;obtain ⟨q0,q1,q2,q3,q4,q5,q6,q7,q8,q9,q10,q11,q12⟩:=Qby HR6.out;obtain ⟨f0,f1,f2,f3,f4,f5,f6,f7,f8,f9,f10,f11,f12⟩:=Qdr HR6.out;dsimp only;refine hK.out _ _ (fun _=>HB6.out) ?_;clear hK K
     try simp only [Act.put,sA,sB,sC]
     refine onE (i:=8) rfl (fun K hK=>?_);go_simp;refine hK.out _ _ (fun h=>absurd rfl h) ?_;clear hK K
     try simp only [Act.put,sA,sB,sC]
     refine Qar (by kernel_rfl) ?_ _;go_wp2;refine bodyPost_ret (v:=.agg (Qal ⟨1,QaA g.s 1,Qbp g.h g.l (thH x.v x.wt) (thL x.v x.wt),Qbu g.l (thL x.v x.wt),0,0,0,[],[],0,0,[],[]⟩ pl0)) (by simp [results,Tryz.results43,go_sem,q0,q1,q2,q3,q4,q5,q6,q7,q8,q9,q10,q11,q12]) rfl (AgRes.mk (o:=⟨1,QaA g.s 1,Qbp g.h g.l (thH x.v x.wt) (thL x.v x.wt),Qbu g.l (thL x.v x.wt),0,0,0,[],[],0,0,[],[]⟩) (p:=pl0) ?_ ?_ ?_)
     ·exact putC OX.out HG.out.1 HG.out.2.1 HG.out.2.2 HK1.out
     ·exact AgO.nil _ _ rfl rfl rfl rfl
     ·repeat (refine Below.setCell ?_ (by simp <;> omega) _)
      exact Qad HT2.out HB6.out
    ·have HK1:=Qaa h
     clear h;have HS0:(fun W=>Below w2.heap.size w2 W) w2.drew:=(ZZb _ _).drew;refine Qaj (fun W=>Below w2.heap.size w2 W) 8 (by kernel_rfl) ?_;refine tkS (i:=0) (v:=.pointer (some ⟨w.heap.size,1,none⟩)) rfl rfl HS0 ?_;refine tkL (i:=1) (v:=.int .u64 g.s) rfl rfl HS0 (fun W hW=>?_) ?_
     ·have hWW:=HC.out W hW
      obtain ⟨x0,x1,x2,x3,x4,x5,x6,x7,x8,x9,x10,x11,x12⟩:=Qby hWW.1;obtain ⟨y0,y1,y2,y3,y4,y5,y6⟩:=Qa6 hWW.2.1;clear hWW;clear hW;go_simp
     refine tkL (i:=3) (v:=.agg (Qal g p)) rfl rfl HS0 (fun W hW=>?_) ?_
     ·have hWW:=HC.out W hW
      obtain ⟨x0,x1,x2,x3,x4,x5,x6,x7,x8,x9,x10,x11,x12⟩:=Qby hWW.1;obtain ⟨y0,y1,y2,y3,y4,y5,y6⟩:=Qa6 hWW.2.1;clear hWW;clear hW;go_simp
     simp only [sA,sB,sC];refine tkL (i:=5) (v:=.agg (Qax x)) rfl rfl HS0 (fun W hW=>?_) ?_
     ·have hWW:=HC.out W hW
      obtain ⟨x0,x1,x2,x3,x4,x5,x6,x7,x8,x9,x10,x11,x12⟩:=Qby hWW.1;obtain ⟨y0,y1,y2,y3,y4,y5,y6⟩:=Qa6 hWW.2.1;clear hWW;clear hW;go_simp
     simp only [sA,sB,sC];refine onE (i:=2) rfl (fun K hK=>?_);go_simp;refine (QaH _ _ OK.out.s (by unfold U64;omega) _).mono ?_;rintro e wz ⟨rfl,hwz⟩;obtain rfl:=hwz.symm;dsimp only;refine hK.out _ _ (fun _=>HS0) ?_;clear hK K
     try simp only [Act.put,sA,sB,sC]
     refine onE (i:=4) rfl (fun K hK=>?_);go_simp;refine (Qex (g:=g) (p:=p) _ HK1.out).mono ?_;rintro e w4 ⟨rfl,hb4⟩;have HB4:Hid (Below w2.heap.size w2 w4):=(HS0:Below w2.heap.size w2 w2.drew).trans (hb4.mono (ZZa _));clear hb4;dsimp only;refine hK.out _ _ (fun _=>HB4.out) ?_;clear hK K
     try simp only [Act.put,sA,sB,sC]
     refine onE (i:=6) rfl (fun K hK=>?_);go_simp;refine (c_gput g.a g.t x _).mono ?_;rintro e w5 ⟨rfl,hb5⟩;have HB5:Hid (Below w2.heap.size w2 w5):=Qad HB4.out hb5;clear hb5;dsimp only;refine hK.out _ _ (fun _=>HB5.out) ?_;clear hK K
     try simp only [Act.put,sA,sB,sC]
     refine onE (i:=7) rfl (fun K hK=>?_);go_simp;refine (Qe8 ⟨0,QaA g.s 1,0,0,gA g.a g.t x.v x.ti,gT g.a g.t x.v x.ti,0,[],[],0,0,[],[]⟩ pl0 _).mono ?_;rintro e w6 ⟨rfl,hb6⟩;have HB6:Hid (Below w2.heap.size w2 w6):=Qad HB5.out hb6;have HB56:=Qaa hb6;clear hb6;have HR6:=Qaa (HC.out _ HB6.out).2.2;obtain ⟨q0,q1,q2,q3,q4,q5,q6,q7,q8,q9,q10,q11,q12⟩:=Qby HR6.out;obtain ⟨f0,f1,f2,f3,f4,f5,f6,f7,f8,f9,f10,f11,f12⟩:=Qdr HR6.out;dsimp only;refine hK.out _ _ (fun _=>HB6.out) ?_;clear hK K
     try simp only [Act.put,sA,sB,sC]
     refine onE (i:=8) rfl (fun K hK=>?_);go_simp;refine hK.out _ _ (fun h=>absurd rfl h) ?_;clear hK K
     try simp only [Act.put,sA,sB,sC]
     refine Qar (by kernel_rfl) ?_ _;go_wp2;refine bodyPost_ret (v:=.agg (Qal ⟨2,QaA g.s 1,0,0,gA g.a g.t x.v x.ti,gT g.a g.t x.v x.ti,0,[],[],0,0,[],[]⟩ pl0)) (by simp [results,Tryz.results43,go_sem,q0,q1,q2,q3,q4,q5,q6,q7,q8,q9,q10,q11,q12]) rfl (AgRes.mk (o:=⟨2,QaA g.s 1,0,0,gA g.a g.t x.v x.ti,gT g.a g.t x.v x.ti,0,[],[],0,0,[],[]⟩) (p:=pl0) ?_ ?_ ?_)
     ·exact putG OX.out HG.out.1 HG.out.2.1 HG.out.2.2 HK1.out
     ·exact AgO.nil _ _ rfl rfl rfl rfl
     ·repeat (refine Below.setCell ?_ (by simp <;> omega) _)
      exact Qad HT2.out HB6.out
    ·have HK1:=Qaa h
     clear h;have HS0:(fun W=>Below w2.heap.size w2 W) w2.drew:=(ZZb _ _).drew;refine Qaj (fun W=>Below w2.heap.size w2 W) 8 (by kernel_rfl) ?_;refine tkS (i:=0) (v:=.pointer (some ⟨w.heap.size,1,none⟩)) rfl rfl HS0 ?_;refine tkL (i:=1) (v:=.int .u64 g.s) rfl rfl HS0 (fun W hW=>?_) ?_
     ·have hWW:=HC.out W hW
      obtain ⟨x0,x1,x2,x3,x4,x5,x6,x7,x8,x9,x10,x11,x12⟩:=Qby hWW.1;obtain ⟨y0,y1,y2,y3,y4,y5,y6⟩:=Qa6 hWW.2.1;clear hWW;clear hW;go_simp
     refine tkL (i:=3) (v:=.agg (Qal g p)) rfl rfl HS0 (fun W hW=>?_) ?_
     ·have hWW:=HC.out W hW
      obtain ⟨x0,x1,x2,x3,x4,x5,x6,x7,x8,x9,x10,x11,x12⟩:=Qby hWW.1;obtain ⟨y0,y1,y2,y3,y4,y5,y6⟩:=Qa6 hWW.2.1;clear hWW;clear hW;go_simp
     simp only [sA,sB,sC];refine tkL (i:=5) (v:=.agg (Qax x)) rfl rfl HS0 (fun W hW=>?_) ?_
     ·have hWW:=HC.out W hW
      obtain ⟨x0,x1,x2,x3,x4,x5,x6,x7,x8,x9,x10,x11,x12⟩:=Qby hWW.1;obtain ⟨y0,y1,y2,y3,y4,y5,y6⟩:=Qa6 hWW.2.1;clear hWW;clear hW;go_simp
     simp only [sA,sB,sC];refine onE (i:=2) rfl (fun K hK=>?_);go_simp;refine (QaH _ _ OK.out.s (by unfold U64;omega) _).mono ?_;rintro e wz ⟨rfl,hwz⟩;obtain rfl:=hwz.symm;dsimp only;refine hK.out _ _ (fun _=>HS0) ?_;clear hK K
     try simp only [Act.put,sA,sB,sC]
     refine onE (i:=4) rfl (fun K hK=>?_);go_simp;refine (Qeo (g:=g) (p:=p) _ HK1.out).mono ?_;rintro e w4 ⟨rfl,hb4⟩;have HB4:Hid (Below w2.heap.size w2 w4):=(HS0:Below w2.heap.size w2 w2.drew).trans (hb4.mono (ZZa _));clear hb4;dsimp only;refine hK.out _ _ (fun _=>HB4.out) ?_;clear hK K
     try simp only [Act.put,sA,sB,sC]
     refine onE (i:=6) rfl (fun K hK=>?_);go_simp;refine (c_hput x OX.out HG.out.2.1 OK.out SM.out (Qan HA.out (Qad HT2.out HB4.out)) NO.out.sk).mono ?_;rintro e w5 ⟨v5,rfl,ho5,hb5⟩;obtain ⟨vp,vn,pn,nn,rfl,o1,o2,hap⟩:=ho5;obtain ⟨pa,pc,rfl⟩:=o1.any;obtain ⟨na,nc,rfl⟩:=o2.any;obtain rfl:=o1.1;obtain rfl:=o2.1;have HO1:=Qaa o1;have HO2:=Qaa o2;have HAP:=Qaa hap;have HB5:Hid (Below w2.heap.size w2 w5):=Qad HB4.out hb5;have hz4:=HB4.out.size;clear hb5 o1 o2 hap;dsimp only;refine hK.out _ _ (fun _=>HB5.out) ?_;clear hK K
     try simp only [Act.put,sA,sB,sC]
     refine onE (i:=7) rfl (fun K hK=>?_);go_simp;refine (QeS ⟨0,QaA g.s 1,0,0,0,0,Qec g.z x.v x.wt,Qcz g.P x.v x.wt,Qcy g.N x.v x.wt,Qbp g.x g.y (thH x.v x.wt) (thL x.v x.wt),Qbu g.y (thL x.v x.wt),[],[]⟩ ⟨pa,pc,na,nc,none,0,none,0⟩ _).mono ?_;rintro e w6 ⟨rfl,hb6⟩;have HB6:Hid (Below w2.heap.size w2 w6):=Qad HB5.out hb6;have HB56:=Qaa hb6;clear hb6;have HR6:=Qaa (HC.out _ HB6.out).2.2;obtain ⟨q0,q1,q2,q3,q4,q5,q6,q7,q8,q9,q10,q11,q12⟩:=Qby HR6.out;obtain ⟨f0,f1,f2,f3,f4,f5,f6,f7,f8,f9,f10,f11,f12⟩:=Qdr HR6.out;dsimp only;refine hK.out _ _ (fun _=>HB6.out) ?_;clear hK K
     try simp only [Act.put,sA,sB,sC]
     refine onE (i:=8) rfl (fun K hK=>?_);go_simp;refine hK.out _ _ (fun h=>absurd rfl h) ?_;clear hK K
     try simp only [Act.put,sA,sB,sC]
     refine Qar (by kernel_rfl) ?_ _;go_wp2;refine bodyPost_ret (v:=.agg (Qal ⟨3,QaA g.s 1,0,0,0,0,Qec g.z x.v x.wt,Qcz g.P x.v x.wt,Qcy g.N x.v x.wt,Qbp g.x g.y (thH x.v x.wt) (thL x.v x.wt),Qbu g.y (thL x.v x.wt),[],[]⟩ ⟨pa,pc,na,nc,none,0,none,0⟩)) (by simp [results,Tryz.results43,go_sem,q0,q1,q2,q3,q4,q5,q6,q7,q8,q9,q10,q11,q12]) rfl (AgRes.mk (o:=⟨3,QaA g.s 1,0,0,0,0,Qec g.z x.v x.wt,Qcz g.P x.v x.wt,Qcy g.N x.v x.wt,Qbp g.x g.y (thH x.v x.wt) (thL x.v x.wt),Qbu g.y (thL x.v x.wt),[],[]⟩) (p:=⟨pa,pc,na,nc,none,0,none,0⟩) ?_ ?_ ?_)
     ·exact putHs OX.out HG.out.1 HG.out.2.1 HG.out.2.2 HK1.out OK.out
     ·refine AgO.le (B:=w4.heap.size) ?_ (by omega)
      repeat (refine AgO.below ?_ (by omega) _)
      exact ⟨HO1.out.past HB56.out,HO2.out.past HB56.out,HAP.out,⟨rfl,World.ownsRow_nil _ _ _ _⟩,⟨rfl,World.ownsRow_nil _ _ _ _⟩⟩
     ·repeat (refine Below.setCell ?_ (by simp <;> omega) _)
      exact Qad HT2.out HB6.out
    ·have HK1:=Qaa h
     clear h;have HS0:(fun W=>Below w2.heap.size w2 W) w2.drew:=(ZZb _ _).drew;refine Qaj (fun W=>Below w2.heap.size w2 W) 8 (by kernel_rfl) ?_;refine tkS (i:=0) (v:=.pointer (some ⟨w.heap.size,1,none⟩)) rfl rfl HS0 ?_;refine tkL (i:=1) (v:=.int .u64 g.s) rfl rfl HS0 (fun W hW=>?_) ?_
     ·have hWW:=HC.out W hW
      obtain ⟨x0,x1,x2,x3,x4,x5,x6,x7,x8,x9,x10,x11,x12⟩:=Qby hWW.1;obtain ⟨y0,y1,y2,y3,y4,y5,y6⟩:=Qa6 hWW.2.1;clear hWW;clear hW;go_simp
     refine tkL (i:=3) (v:=.agg (Qal g p)) rfl rfl HS0 (fun W hW=>?_) ?_
     ·have hWW:=HC.out W hW
      obtain ⟨x0,x1,x2,x3,x4,x5,x6,x7,x8,x9,x10,x11,x12⟩:=Qby hWW.1;obtain ⟨y0,y1,y2,y3,y4,y5,y6⟩:=Qa6 hWW.2.1;clear hWW;clear hW;go_simp
     simp only [sA,sB,sC];refine tkL (i:=5) (v:=.agg (Qax x)) rfl rfl HS0 (fun W hW=>?_) ?_
     ·have hWW:=HC.out W hW
      obtain ⟨x0,x1,x2,x3,x4,x5,x6,x7,x8,x9,x10,x11,x12⟩:=Qby hWW.1;obtain ⟨y0,y1,y2,y3,y4,y5,y6⟩:=Qa6 hWW.2.1;clear hWW;clear hW;go_simp
     simp only [sA,sB,sC];refine onE (i:=2) rfl (fun K hK=>?_);go_simp;refine (QaH _ _ OK.out.s (by unfold U64;omega) _).mono ?_;rintro e wz ⟨rfl,hwz⟩;obtain rfl:=hwz.symm;dsimp only;refine hK.out _ _ (fun _=>HS0) ?_;clear hK K
     try simp only [Act.put,sA,sB,sC]
     refine onE (i:=4) rfl (fun K hK=>?_);go_simp;refine (QeK (g:=g) (p:=p) _ HK1.out).mono ?_;rintro e w4 ⟨rfl,hb4⟩;have HB4:Hid (Below w2.heap.size w2 w4):=(HS0:Below w2.heap.size w2 w2.drew).trans (hb4.mono (ZZa _));clear hb4;dsimp only;refine hK.out _ _ (fun _=>HB4.out) ?_;clear hK K
     try simp only [Act.put,sA,sB,sC]
     refine onE (i:=6) rfl (fun K hK=>?_);go_simp;refine (c_sput x OX.out HG.out.2.1 OK.out SM.out PL.out (Qan HA.out (Qad HT2.out HB4.out))).mono ?_;rintro e w5 ⟨v5,E,R,rfl,hM,ho5,hb5⟩;obtain ⟨vp,vn,rfl,o1,o2⟩:=ho5;obtain ⟨pa,pc,rfl⟩:=Qam o1;obtain ⟨na,nc,rfl⟩:=Qam o2;have HO1:=Qaa o1;have HO2:=Qaa o2;have HM:=Qaa hM;have HB5:Hid (Below w2.heap.size w2 w5):=Qad HB4.out hb5;have hz4:=HB4.out.size;clear hb5 o1 o2 hM;dsimp only;refine hK.out _ _ (fun _=>HB5.out) ?_;clear hK K
     try simp only [Act.put,sA,sB,sC]
     refine onE (i:=7) rfl (fun K hK=>?_);go_simp;refine (Qff ⟨0,QaA g.s 1,0,0,0,0,0,[],[],0,0,E,R⟩ ⟨none,0,none,0,pa,pc,na,nc⟩ _).mono ?_;rintro e w6 ⟨rfl,hb6⟩;have HB6:Hid (Below w2.heap.size w2 w6):=Qad HB5.out hb6;have HB56:=Qaa hb6;clear hb6;have HR6:=Qaa (HC.out _ HB6.out).2.2;obtain ⟨q0,q1,q2,q3,q4,q5,q6,q7,q8,q9,q10,q11,q12⟩:=Qby HR6.out;obtain ⟨f0,f1,f2,f3,f4,f5,f6,f7,f8,f9,f10,f11,f12⟩:=Qdr HR6.out;dsimp only;refine hK.out _ _ (fun _=>HB6.out) ?_;clear hK K
     try simp only [Act.put,sA,sB,sC]
     refine onE (i:=8) rfl (fun K hK=>?_);go_simp;refine hK.out _ _ (fun h=>absurd rfl h) ?_;clear hK K
     try simp only [Act.put,sA,sB,sC]
     refine Qar (by kernel_rfl) ?_ _;go_wp2;refine bodyPost_ret (v:=.agg (Qal ⟨4,QaA g.s 1,0,0,0,0,0,[],[],0,0,E,R⟩ ⟨none,0,none,0,pa,pc,na,nc⟩)) (by simp [results,Tryz.results43,go_sem,q0,q1,q2,q3,q4,q5,q6,q7,q8,q9,q10,q11,q12]) rfl (AgRes.mk (o:=⟨4,QaA g.s 1,0,0,0,0,0,[],[],0,0,E,R⟩) (p:=⟨none,0,none,0,pa,pc,na,nc⟩) ?_ ?_ ?_)
     ·exact putS OX.out HG.out.1 HG.out.2.1 HG.out.2.2 HK1.out HM.out
     ·refine AgO.le (B:=w4.heap.size) ?_ (by omega)
      repeat (refine AgO.below ?_ (by omega) _)
      exact ⟨⟨rfl,.inl ⟨rfl,rfl⟩⟩,⟨rfl,.inl ⟨rfl,rfl⟩⟩,(fun k e=>by cases e),⟨rfl,QaP HO1.out HB56.out⟩,⟨rfl,QaP HO2.out HB56.out⟩⟩
     ·repeat (refine Below.setCell ?_ (by simp <;> omega) _)
      exact Qad HT2.out HB6.out
   ·have hb:(x.k != g.k)=true:=by simp;exact fun e=>hk e.symm
    have HQ:Hid (AgPut g x g):=QmA (fun h=>hk h.2.2);have HRa:=Qaa (HC.out _ (ZZb _ _)).1;obtain ⟨x0,x1,x2,x3,x4,x5,x6,x7,x8,x9,x10,x11,x12⟩:=Qby HRa.out;obtain ⟨y0,y1,y2,y3,y4,y5,y6⟩:=Qa6 (HC.out _ (ZZb _ _)).2.1;go_wp2_with fail;clear x0 x1 x2 x3 x4 x5 x6 x7 x8 x9 x10 x11 x12 y0 y1 y2 y3 y4 y5 y6;refine (Qep SM.out PL.out (Qan HA.out HT2.out)).mono ?_;rintro e wc ⟨vc,oc,rfl,rfl,⟨pc,rfl,hO⟩,hbc⟩;have HO:=Qaa hO;have HTc:=Qaa (Qad HT2.out hbc);have HRc:=Qaa (HC.out _ hbc).2.2;have hzw:=HT2.out.size;clear hO hbc;obtain ⟨q0,q1,q2,q3,q4,q5,q6,q7,q8,q9,q10,q11,q12⟩:=Qby HRc.out;obtain ⟨f0,f1,f2,f3,f4,f5,f6,f7,f8,f9,f10,f11,f12⟩:=Qdr HRc.out;go_wp2;refine bodyPost_ret (v:=.agg (Qal oc pc)) (by simp [results,Tryz.results43,go_sem,q0,q1,q2,q3,q4,q5,q6,q7,q8,q9,q10,q11,q12]) rfl (AgRes.mk (o:=oc) (p:=pc) HQ.out ?_ ?_)
    ·refine AgO.le (B:=w2.heap.size) ?_ (by omega)
     repeat (refine AgO.below ?_ (by omega) _)
     exact HO.out
    ·repeat (refine Below.setCell ?_ (by simp <;> omega) _)
     exact HTc.out
theorem AgO.setNe {w:World} {B r j:Nat} {o:Ag} {p:Pl} (h:AgO w B o p) (hn:∀ k,Qc7 o p k->k≠r) (u:Value):AgO (w.setCell ⟨r,j,none⟩ u) B o p:=
 h.keptS (S:=fun k=>k=r) ⟨rfl,rfl,rfl,by simp [World.setCell],fun k hk hn=>Below.heap_setCell _ _ _ _ (fun e=>hn (by rw [e]))⟩ hn
section
variable {g:Ag} {x:Sx} (ok:x.Ok) (hg:agB g=true) (hx:x.B=true) (e:g.k=x.k)
include ok hg hx e
theorem putC' (k:g.k=1):AgPut g x ⟨g.k,QaA g.s 1,Qbp g.h g.l (thH x.v x.wt) (thL x.v x.wt),Qbu g.l (thL x.v x.wt),g.a,g.t,g.z,g.P,g.N,g.x,g.y,g.E,g.R⟩:=by
 have n:=Qa9 hg;obtain ⟨a1,a2,a3,a4,a5⟩:=n.nh (by omega);obtain ⟨c1,c2⟩:=n.ns (by omega);obtain ⟨d1,d2⟩:=n.ng (by omega);have:=putC ok hg hx e k;rw [a1,a2,a3,a4,a5,c1,c2,d1,d2,k];exact this
theorem putG' (k:g.k=2):AgPut g x ⟨g.k,QaA g.s 1,g.h,g.l,gA g.a g.t x.v x.ti,gT g.a g.t x.v x.ti,g.z,g.P,g.N,g.x,g.y,g.E,g.R⟩:=by
 have n:=Qa9 hg;obtain ⟨a1,a2,a3,a4,a5⟩:=n.nh (by omega);obtain ⟨c1,c2⟩:=n.ns (by omega);obtain ⟨d1,d2⟩:=n.nc (by omega);have:=putG ok hg hx e k;rw [a1,a2,a3,a4,a5,c1,c2,d1,d2,k];exact this
theorem putH' (k:g.k=3) (go:AgOk g):AgPut g x ⟨g.k,QaA g.s 1,g.h,g.l,g.a,g.t,Qec g.z x.v x.wt,Qcz g.P x.v x.wt,Qcy g.N x.v x.wt,Qbp g.x g.y (thH x.v x.wt) (thL x.v x.wt),Qbu g.y (thL x.v x.wt),g.E,g.R⟩:=by
 have n:=Qa9 hg;obtain ⟨a1,a2⟩:=n.ng (by omega);obtain ⟨c1,c2⟩:=n.ns (by omega);obtain ⟨d1,d2⟩:=n.nc (by omega);have:=putHs ok hg hx e k go;rw [a1,a2,c1,c2,d1,d2,k];exact this
theorem putS' (k:g.k=4) {E R:List Int} (m:Mg g.E g.R [Qc5 x.wd] [] E R):AgPut g x ⟨g.k,QaA g.s 1,g.h,g.l,g.a,g.t,g.z,g.P,g.N,g.x,g.y,E,R⟩:=by
 have n:=Qa9 hg;obtain ⟨a1,a2,a3,a4,a5⟩:=n.nh (by omega);obtain ⟨c1,c2⟩:=n.ng (by omega);obtain ⟨d1,d2⟩:=n.nc (by omega);have:=putS ok hg hx e k (E:=E) (R:=R) (by unfold QnR;rw [if_pos n.hl];exact m);rw [a1,a2,a3,a4,a5,c1,c2,d1,d2,k];exact this
end
structure PB (w W:World) (b:Nat) (g a:Ag) (p q:Pl) (x:Sx):Prop where
 bel:Below w.heap.size w W
 ra:W.heap[w.heap.size]?=some (.cells (Qal g p) 49 (0,0))
 rx:W.heap[w.heap.size+1]?=some (.cells (Qax x) 28 (0,0))
 rr:W.heap[w.heap.size+1+1]?=some (.cells z13 49 (0,0))
 ro:W.heap[b]?=some (.cells (Qal a q) 49 (0,0))
 lo:w.heap.size+1+1+1<=b/\b<W.heap.size
 own:AgO W (w.heap.size+1+1+1) a q
 ne:∀ k,Qc7 a q k->k<b
theorem PB.past {w W W':World} {b:Nat} {g a:Ag} {p q:Pl} {x:Sx} (h:PB w W b g a p q x) (hb:Below W.heap.size W W'):PB w W' b g a p q x:=
 ⟨Qad h.bel hb,(hb.block _ (ZZc.1 h.ra).1).trans h.ra,(hb.block _ (ZZc.1 h.rx).1).trans h.rx,(hb.block _ (ZZc.1 h.rr).1).trans h.rr,(hb.block _ (ZZc.1 h.ro).1).trans h.ro,⟨h.lo.1,Nat.lt_of_lt_of_le h.lo.2 hb.size⟩,h.own.past hb,h.ne⟩
theorem PB.sam {w W:World} {b:Nat} {g a:Ag} {p q:Pl} {x:Sx} (h:PB w W b g a p q x) (s:Int):PB w (W.setCell ⟨b,1,none⟩ (.int .u64 s)) b g { a with s:=s } p q x:=by
 have hl:=h.lo;have ot:∀ r o,r≠b->W.heap[r]?=some o->(W.setCell ⟨b,1,none⟩ (.int .u64 s)).heap[r]?=some o:=fun r o hr e=>by rw [heap_setCell_other _ _ _ _ (by simpa using hr)];exact e
 refine ⟨h.bel.setCell (by simp <;> omega) _,ot _ _ (by omega) h.ra,ot _ _ (by omega) h.rx,ot _ _ (by omega) h.rr,heap_setCell_same W b 1 _ _ _ h.ro,⟨hl.1,by simpa [World.setCell] using hl.2⟩,?_,h.ne⟩;have:=h.own.setNe (r:=b) (j:=1) (fun k e=>Nat.ne_of_lt (h.ne k e)) (.int .u64 s);exact ⟨this.P,this.N,this.ap,this.E,this.R⟩
theorem PB.made {w w1:World} {g:Ag} {p q:Pl} {x:Sx} (hb:Below w.heap.size w w1) (h0:w1.heap[w.heap.size]?=some (.cells (Qal g p) 49 (0,0))) (h1:w1.heap[w.heap.size+1]?=some (.cells (Qax x) 28 (0,0))) (h2:w1.heap[w.heap.size+1+1]?=some (.cells z13 49 (0,0))) (hs:w.heap.size+1+1+1<=w1.heap.size) (ho:AgO w1 (w.heap.size+1+1+1) g q):PB w (w1.alloc (.cells (Qal g q) 49)) w1.heap.size g g p q x:=by
 have a1:Below w1.heap.size w1 (w1.alloc (.cells (Qal g q) 49)):=(ZZb _ _).alloc (ZZa _) _;exact ⟨Qad hb a1,(a1.block _ (Array.getElem?_eq_some_iff.1 h0).1).trans h0,(a1.block _ (Array.getElem?_eq_some_iff.1 h1).1).trans h1,(a1.block _ (Array.getElem?_eq_some_iff.1 h2).1).trans h2,heap_alloc_new w1 _,⟨hs,by simp⟩,ho.past a1,fun k e=>(ho.lt e).2⟩
theorem Qhe {w:World} {g:Ag} {p:Pl} (x:Sx) (hg:agB g=true) (hx:x.B=true) (hk:g.k=x.k) (ok:AgOk g) (ox:x.Ok) (sm:AgSm g) (pl:PlG g p) (hA:AgAt w g p) :
  Calls Tryz.prog 96 #[.agg (Qal g p),.agg (Qax x)] w fun e w'=>AgRes w (AgPut g x) e w':=by
 have HG:=Qaa hg;have HX:=Qaa hx;have HKK:=Qaa hk;have OK:=Qaa ok;have OX:=Qaa ox;have SM:=Qaa sm;have PL:=Qaa pl;have HA:=Qaa hA;have NO:=Qaa (Qa9 hg);clear hg hx hk ok ox sm pl hA;obtain ⟨HT0,HC,HZ0⟩:=Qml w g p x;go_enter Tryz.func96,Tryz.ntmps96;go_wp2_with fail;generalize ((w.alloc (.cells (Qal g p) 49)).alloc (.cells (Qax x) 28)).alloc (.cells z13 49)=W0 at HT0 HC HZ0 ⊢;refine (Qij SM.out PL.out (Qan HA.out HT0.out)).mono ?_;rintro e w1 ⟨v,o,rfl,ho,⟨q,rfl,hO⟩,hb1⟩;obtain rfl:g=o:=ho.symm;clear ho;have hR:=HC.out w1 hb1;have hs1:=hb1.size;have HP:=Qaa (PB.made (Qad HT0.out hb1) hR.1 hR.2.1 hR.2.2 (by have:=HZ0.out;omega) (hO.le (by have:=HZ0.out;omega)));have x1:=QcD hR.1 1 rfl;have hlt:w.heap.size<w1.heap.size:=by have:=HZ0.out;omega
 have hne:¬ w.heap.size=w1.heap.size:=by omega
 clear hR hs1 hb1 hO HC HZ0 HT0;go_wp2_with fail;clear x1 hlt hne;generalize w1.alloc (.cells (Qal g q) 49)=W1 at HP ⊢;generalize w1.heap.size=b at HP ⊢;refine (QbF g.s 1 OK.out.s (by unfold U64;omega) _).mono ?_;rintro e wz ⟨rfl,hwz⟩;obtain rfl:=hwz.symm;have hl:=HP.out.lo;have hn0:¬ w.heap.size=b:=by omega
 have hn1:¬ w.heap.size+1=b:=by omega
 have hn2:¬ w.heap.size+1+1=b:=by omega
 have hkk:g.k=1∨g.k=2∨g.k=3∨g.k=4:=by have:=NO.out.k1;have:=NO.out.k4;omega
 rcases hkk with h | h | h | h
 ·have HK1:=Qaa h
  have e1:(g.k == 1)=true:=by rw [h];rfl
  clear h;obtain ⟨c0,c1,c2,c3,c4,c5,c6,c7,c8,c9,c10,c11,c12⟩:=Qby HP.out.ro;obtain ⟨f0,f1,f2,f3,f4,f5,f6,f7,f8,f9,f10,f11,f12⟩:=Qdr HP.out.ro;obtain ⟨x0,x1,x2,x3,x4,x5,x6,x7,x8,x9,x10,x11,x12⟩:=Qby HP.out.ra;obtain ⟨y0,y1,y2,y3,y4,y5,y6⟩:=cA7 HP.out.rx;go_wp2_with fail;clear c0 c1 c2 c3 c4 c5 c6 c7 c8 c9 c10 c11 c12 f0 f1 f2 f3 f4 f5 f6 f7 f8 f9 f10 f11 f12 x0 x1 x2 x3 x4 x5 x6 x7 x8 x9 x10 x11 x12 y0 y1 y2 y3 y4 y5 y6;have HP2:=Qaa (HP.out.sam (QaA g.s 1));generalize W1.setCell ⟨b,1,none⟩ (.int .u64 (QaA g.s 1))=W2 at HP2 ⊢;clear HP;have HS0:(fun W=>Below W2.heap.size W2 W) W2.drew:=(ZZb _ _).drew;refine Qaj (fun W=>Below W2.heap.size W2 W) 9 (by kernel_rfl) ?_;refine tkS (i:=0) (v:=.pointer (some ⟨w.heap.size,2,none⟩)) rfl rfl HS0 ?_;refine tkL (i:=1) (v:=.agg #[.int .i64 g.h,.int .u64 g.l]) rfl rfl HS0 (fun W hW=>?_) ?_
  ·have hWW:=HP2.out.past hW
   obtain ⟨x0,x1,x2,x3,x4,x5,x6,x7,x8,x9,x10,x11,x12⟩:=Qby hWW.ra;obtain ⟨y0,y1,y2,y3,y4,y5,y6⟩:=cA7 hWW.rx;clear hWW;clear hW;go_simp
  refine tkS (i:=2) (v:=.pointer (some ⟨w.heap.size+1,2,none⟩)) rfl rfl HS0 ?_;simp only [sA,sB,sC];refine tkL (i:=3) (v:=.int .i64 x.v) rfl rfl HS0 (fun W hW=>?_) ?_
  ·have hWW:=HP2.out.past hW
   obtain ⟨x0,x1,x2,x3,x4,x5,x6,x7,x8,x9,x10,x11,x12⟩:=Qby hWW.ra;obtain ⟨y0,y1,y2,y3,y4,y5,y6⟩:=cA7 hWW.rx;clear hWW;clear hW;go_simp
  refine tkS (i:=4) (v:=.pointer (some ⟨w.heap.size+1,4,none⟩)) rfl rfl HS0 ?_;refine tkL (i:=5) (v:=.int .u64 x.wt) rfl rfl HS0 (fun W hW=>?_) ?_
  ·have hWW:=HP2.out.past hW
   obtain ⟨x0,x1,x2,x3,x4,x5,x6,x7,x8,x9,x10,x11,x12⟩:=Qby hWW.ra;obtain ⟨y0,y1,y2,y3,y4,y5,y6⟩:=cA7 hWW.rx;clear hWW;clear hW;go_simp
  simp only [sA,sB,sC];refine onE (i:=6) rfl (fun K hK=>?_);go_simp;refine (Qev x.v x.wt OX.out.v OX.out.wt _).mono ?_;rintro e w3 ⟨rfl,hb3⟩;have HB3:Hid (Below W2.heap.size W2 w3):=(HS0:Below W2.heap.size W2 W2.drew).trans (hb3.mono (ZZa _));clear hb3;dsimp only;refine hK.out _ _ (fun _=>HB3.out) ?_;clear hK K
  try simp only [Act.put,sA,sB,sC]
  refine onE (i:=7) rfl (fun K hK=>?_);go_simp;refine (Qc4 g.h g.l (thH x.v x.wt) (thL x.v x.wt) _ OK.out.l (show U64 (thL x.v x.wt) from Qd4 _)).mono ?_;rintro e w4 ⟨rfl,hb4⟩;have HB4:Hid (Below W2.heap.size W2 w4):=Qad HB3.out hb4;have HP3:=Qaa (HP2.out.past HB4.out);clear hb4;obtain ⟨c0,c1,c2,c3,c4,c5,c6,c7,c8,c9,c10,c11,c12⟩:=Qby HP3.out.ro;obtain ⟨f0,f1,f2,f3,f4,f5,f6,f7,f8,f9,f10,f11,f12⟩:=Qdr HP3.out.ro;obtain ⟨z0,z1,z2,z3,z4,z5,z6,z7,z8,z9,z10,z11,z12⟩:=Qby HP3.out.rr;obtain ⟨k0,k1,k2,k3,k4,k5,k6,k7,k8,k9,k10,k11,k12⟩:=Qdr HP3.out.rr;have HOF:Hid (AgO w4 (w.heap.size+1+1+1) ⟨g.k,QaA g.s 1,Qbp g.h g.l (thH x.v x.wt) (thL x.v x.wt),Qbu g.l (thL x.v x.wt),g.a,g.t,g.z,g.P,g.N,g.x,g.y,g.E,g.R⟩ q):=⟨HP3.out.own.P,HP3.out.own.N,HP3.out.own.ap,HP3.out.own.E,HP3.out.own.R⟩;have HNE:Hid (∀ k,Qc7 ⟨g.k,QaA g.s 1,Qbp g.h g.l (thH x.v x.wt) (thL x.v x.wt),Qbu g.l (thL x.v x.wt),g.a,g.t,g.z,g.P,g.N,g.x,g.y,g.E,g.R⟩ q k->k≠b):=fun k e=>Nat.ne_of_lt (HP3.out.ne k e);dsimp only;refine hK.out _ _ (fun _=>HB4.out) ?_;clear hK K
  try simp only [Act.put,sA,sB,sC]
  refine tkS (i:=8) (v:=.pointer (some ⟨b,2,none⟩)) rfl rfl HB4.out ?_;simp only [sA,sB,sC];refine onE (i:=9) rfl (fun K hK=>?_);go_simp;refine hK.out _ _ (fun h=>absurd rfl h) ?_;clear hK K
  try simp only [Act.put,sA,sB,sC]
  refine Qar (by kernel_rfl) ?_ _;go_wp2;refine bodyPost_ret (v:=.agg (Qal ⟨g.k,QaA g.s 1,Qbp g.h g.l (thH x.v x.wt) (thL x.v x.wt),Qbu g.l (thL x.v x.wt),g.a,g.t,g.z,g.P,g.N,g.x,g.y,g.E,g.R⟩ q)) (by simp [results,Tryz.results96,go_sem,c0,c1,c2,c3,c4,c5,c6,c7,c8,c9,c10,c11,c12,z0,z1,z2,z3,z4,z5,z6,z7,z8,z9,z10,z11,z12]) rfl (AgRes.mk (o:=⟨g.k,QaA g.s 1,Qbp g.h g.l (thH x.v x.wt) (thL x.v x.wt),Qbu g.l (thL x.v x.wt),g.a,g.t,g.z,g.P,g.N,g.x,g.y,g.E,g.R⟩) (p:=q) (putC' OX.out HG.out HX.out HKK.out HK1.out) ?_ ?_)
  ·refine AgO.le (B:=w.heap.size+1+1+1) ?_ (by omega)
   repeat (first | refine AgO.below ?_ (by omega) _ | refine AgO.setNe ?_ HNE.out _)
   exact HOF.out
  ·repeat (refine Below.setCell ?_ (by simp <;> omega) _)
   exact HP3.out.bel
 ·have HK1:=Qaa h
  have e1:(g.k == 1)=false:=ZZf.2 (by omega);have e2:(g.k == 2)=true:=by rw [h];rfl
  clear h;obtain ⟨c0,c1,c2,c3,c4,c5,c6,c7,c8,c9,c10,c11,c12⟩:=Qby HP.out.ro;obtain ⟨f0,f1,f2,f3,f4,f5,f6,f7,f8,f9,f10,f11,f12⟩:=Qdr HP.out.ro;obtain ⟨x0,x1,x2,x3,x4,x5,x6,x7,x8,x9,x10,x11,x12⟩:=Qby HP.out.ra;obtain ⟨y0,y1,y2,y3,y4,y5,y6⟩:=cA7 HP.out.rx;go_wp2_with fail;clear c0 c1 c2 c3 c4 c5 c6 c7 c8 c9 c10 c11 c12 f0 f1 f2 f3 f4 f5 f6 f7 f8 f9 f10 f11 f12 x0 x1 x2 x3 x4 x5 x6 x7 x8 x9 x10 x11 x12 y0 y1 y2 y3 y4 y5 y6;have HP2:=Qaa (HP.out.sam (QaA g.s 1));generalize W1.setCell ⟨b,1,none⟩ (.int .u64 (QaA g.s 1))=W2 at HP2 ⊢;clear HP;refine (QnA { g with s:=QaA g.s 1 } q x.v x.ti _).mono ?_;rintro e w4 ⟨rfl,hb4⟩;have HP3:=Qaa (HP2.out.past hb4);clear hb4;obtain ⟨c0,c1,c2,c3,c4,c5,c6,c7,c8,c9,c10,c11,c12⟩:=Qby HP3.out.ro;obtain ⟨f0,f1,f2,f3,f4,f5,f6,f7,f8,f9,f10,f11,f12⟩:=Qdr HP3.out.ro;obtain ⟨z0,z1,z2,z3,z4,z5,z6,z7,z8,z9,z10,z11,z12⟩:=Qby HP3.out.rr;obtain ⟨k0,k1,k2,k3,k4,k5,k6,k7,k8,k9,k10,k11,k12⟩:=Qdr HP3.out.rr;have HOF:Hid (AgO w4 (w.heap.size+1+1+1) ⟨g.k,QaA g.s 1,g.h,g.l,gA g.a g.t x.v x.ti,gT g.a g.t x.v x.ti,g.z,g.P,g.N,g.x,g.y,g.E,g.R⟩ q):=⟨HP3.out.own.P,HP3.out.own.N,HP3.out.own.ap,HP3.out.own.E,HP3.out.own.R⟩;have HNE:Hid (∀ k,Qc7 ⟨g.k,QaA g.s 1,g.h,g.l,gA g.a g.t x.v x.ti,gT g.a g.t x.v x.ti,g.z,g.P,g.N,g.x,g.y,g.E,g.R⟩ q k->k≠b):=fun k e=>Nat.ne_of_lt (HP3.out.ne k e);go_wp2;refine bodyPost_ret (v:=.agg (Qal ⟨g.k,QaA g.s 1,g.h,g.l,gA g.a g.t x.v x.ti,gT g.a g.t x.v x.ti,g.z,g.P,g.N,g.x,g.y,g.E,g.R⟩ q)) (by simp [results,Tryz.results96,go_sem,c0,c1,c2,c3,c4,c5,c6,c7,c8,c9,c10,c11,c12,z0,z1,z2,z3,z4,z5,z6,z7,z8,z9,z10,z11,z12]) rfl (AgRes.mk (o:=⟨g.k,QaA g.s 1,g.h,g.l,gA g.a g.t x.v x.ti,gT g.a g.t x.v x.ti,g.z,g.P,g.N,g.x,g.y,g.E,g.R⟩) (p:=q) (putG' OX.out HG.out HX.out HKK.out HK1.out) ?_ ?_)
  ·refine AgO.le (B:=w.heap.size+1+1+1) ?_ (by omega)
   repeat (first | refine AgO.below ?_ (by omega) _ | refine AgO.setNe ?_ HNE.out _)
   exact HOF.out
  ·repeat (refine Below.setCell ?_ (by simp <;> omega) _)
   exact HP3.out.bel
 ·have HK1:=Qaa h
  have e1:(g.k == 1)=false:=ZZf.2 (by omega);have e2:(g.k == 2)=false:=ZZf.2 (by omega);have e3:(g.k == 3)=true:=by rw [h];rfl
  clear h;obtain ⟨c0,c1,c2,c3,c4,c5,c6,c7,c8,c9,c10,c11,c12⟩:=Qby HP.out.ro;obtain ⟨f0,f1,f2,f3,f4,f5,f6,f7,f8,f9,f10,f11,f12⟩:=Qdr HP.out.ro;obtain ⟨x0,x1,x2,x3,x4,x5,x6,x7,x8,x9,x10,x11,x12⟩:=Qby HP.out.ra;obtain ⟨y0,y1,y2,y3,y4,y5,y6⟩:=cA7 HP.out.rx;go_wp2_with fail;clear c0 c1 c2 c3 c4 c5 c6 c7 c8 c9 c10 c11 c12 f0 f1 f2 f3 f4 f5 f6 f7 f8 f9 f10 f11 f12 x0 x1 x2 x3 x4 x5 x6 x7 x8 x9 x10 x11 x12 y0 y1 y2 y3 y4 y5 y6;have HP2:=Qaa (HP.out.sam (QaA g.s 1));generalize W1.setCell ⟨b,1,none⟩ (.int .u64 (QaA g.s 1))=W2 at HP2 ⊢;clear HP;have hsk:=QcI NO.out.sk;refine (Qlr OK.out.z OK.out.y OX.out.v OX.out.wt rfl rfl hsk.1.2 hsk.2.2 (Qae HA.out.P HP2.out.bel) (Qae HA.out.N HP2.out.bel) OK.out.P OK.out.N (Qbi HX.out).2.1 PL.out.cP PL.out.cN).mono ?_;clear hsk;rintro e w4 ⟨v4,rfl,⟨vp,vn,pn,nn,rfl,o1,o2,hap⟩,hb4⟩;obtain ⟨pa,pc,rfl⟩:=o1.any;obtain ⟨na,nc,rfl⟩:=o2.any;obtain rfl:=o1.1;obtain rfl:=o2.1;have HP3:=Qaa (HP2.out.past hb4);have hl2:=HP2.out.lo;have HOF:Hid (AgO w4 (w.heap.size+1+1+1) ⟨g.k,QaA g.s 1,g.h,g.l,g.a,g.t,Qec g.z x.v x.wt,Qcz g.P x.v x.wt,Qcy g.N x.v x.wt,Qbp g.x g.y (thH x.v x.wt) (thL x.v x.wt),Qbu g.y (thL x.v x.wt),g.E,g.R⟩ ⟨pa,pc,na,nc,q.ea,q.ec,q.ra,q.rc⟩):=⟨o1.le (by omega),o2.le (by omega),hap,HP3.out.own.E,HP3.out.own.R⟩
  have HNE:Hid (∀ k,Qc7 ⟨g.k,QaA g.s 1,g.h,g.l,g.a,g.t,Qec g.z x.v x.wt,Qcz g.P x.v x.wt,Qcy g.N x.v x.wt,Qbp g.x g.y (thH x.v x.wt) (thL x.v x.wt),Qbu g.y (thL x.v x.wt),g.E,g.R⟩ ⟨pa,pc,na,nc,q.ea,q.ec,q.ra,q.rc⟩ k->k≠b):=fun k e=>by
   rcases e with (e | e) | e
   ·have:=(o1.lt k e).1;omega
   ·have:=(o2.lt k e).1;omega
   ·exact Nat.ne_of_lt (HP3.out.ne k (.inr e))
  clear hb4 o1 o2 hap;obtain ⟨c0,c1,c2,c3,c4,c5,c6,c7,c8,c9,c10,c11,c12⟩:=Qby HP3.out.ro;obtain ⟨f0,f1,f2,f3,f4,f5,f6,f7,f8,f9,f10,f11,f12⟩:=Qdr HP3.out.ro;obtain ⟨z0,z1,z2,z3,z4,z5,z6,z7,z8,z9,z10,z11,z12⟩:=Qby HP3.out.rr;obtain ⟨k0,k1,k2,k3,k4,k5,k6,k7,k8,k9,k10,k11,k12⟩:=Qdr HP3.out.rr;go_wp2;refine bodyPost_ret (v:=.agg (Qal ⟨g.k,QaA g.s 1,g.h,g.l,g.a,g.t,Qec g.z x.v x.wt,Qcz g.P x.v x.wt,Qcy g.N x.v x.wt,Qbp g.x g.y (thH x.v x.wt) (thL x.v x.wt),Qbu g.y (thL x.v x.wt),g.E,g.R⟩ ⟨pa,pc,na,nc,q.ea,q.ec,q.ra,q.rc⟩)) (by simp [results,Tryz.results96,go_sem,c0,c1,c2,c3,c4,c5,c6,c7,c8,c9,c10,c11,c12,z0,z1,z2,z3,z4,z5,z6,z7,z8,z9,z10,z11,z12]) rfl (AgRes.mk (o:=⟨g.k,QaA g.s 1,g.h,g.l,g.a,g.t,Qec g.z x.v x.wt,Qcz g.P x.v x.wt,Qcy g.N x.v x.wt,Qbp g.x g.y (thH x.v x.wt) (thL x.v x.wt),Qbu g.y (thL x.v x.wt),g.E,g.R⟩) (p:=⟨pa,pc,na,nc,q.ea,q.ec,q.ra,q.rc⟩) (putH' OX.out HG.out HX.out HKK.out HK1.out OK.out) ?_ ?_)
  ·refine AgO.le (B:=w.heap.size+1+1+1) ?_ (by omega)
   repeat (first | refine AgO.below ?_ (by omega) _ | refine AgO.setNe ?_ HNE.out _)
   exact HOF.out
  ·repeat (refine Below.setCell ?_ (by simp <;> omega) _)
   exact HP3.out.bel
 ·have HK1:=Qaa h
  have e1:(g.k == 1)=false:=ZZf.2 (by omega);have e2:(g.k == 2)=false:=ZZf.2 (by omega);have e3:(g.k == 3)=false:=ZZf.2 (by omega);clear h;obtain ⟨c0,c1,c2,c3,c4,c5,c6,c7,c8,c9,c10,c11,c12⟩:=Qby HP.out.ro;obtain ⟨f0,f1,f2,f3,f4,f5,f6,f7,f8,f9,f10,f11,f12⟩:=Qdr HP.out.ro;obtain ⟨x0,x1,x2,x3,x4,x5,x6,x7,x8,x9,x10,x11,x12⟩:=Qby HP.out.ra;obtain ⟨y0,y1,y2,y3,y4,y5,y6⟩:=cA7 HP.out.rx;go_wp2_with fail;clear c0 c1 c2 c3 c4 c5 c6 c7 c8 c9 c10 c11 c12 f0 f1 f2 f3 f4 f5 f6 f7 f8 f9 f10 f11 f12 x0 x1 x2 x3 x4 x5 x6 x7 x8 x9 x10 x11 x12 y0 y1 y2 y3 y4 y5 y6;have HP2:=Qaa (HP.out.sam (QaA g.s 1));generalize W1.setCell ⟨b,1,none⟩ (.int .u64 (QaA g.s 1))=W2 at HP2 ⊢;clear HP;have HS0:(fun W=>Below W2.heap.size W2 W) W2.drew:=(ZZb _ _).drew;refine Qaj (fun W=>Below W2.heap.size W2 W) 7 (by kernel_rfl) ?_;refine tkS (i:=0) (v:=.pointer (some ⟨w.heap.size,11,none⟩)) rfl rfl HS0 ?_;refine tkL (i:=1) (v:=.agg #[.slice p.ea g.E.length p.ec,.slice p.ra g.R.length p.rc]) rfl rfl HS0 (fun W hW=>?_) ?_
  ·have hWW:=HP2.out.past hW
   obtain ⟨x0,x1,x2,x3,x4,x5,x6,x7,x8,x9,x10,x11,x12⟩:=Qby hWW.ra;obtain ⟨y0,y1,y2,y3,y4,y5,y6⟩:=cA7 hWW.rx;clear hWW;clear hW;go_simp
  refine tkS (i:=2) (v:=.pointer (some ⟨w.heap.size+1,3,none⟩)) rfl rfl HS0 ?_;simp only [sA,sB,sC];refine tkL (i:=3) (v:=.string x.wd) rfl rfl HS0 (fun W hW=>?_) ?_
  ·have hWW:=HP2.out.past hW
   obtain ⟨x0,x1,x2,x3,x4,x5,x6,x7,x8,x9,x10,x11,x12⟩:=Qby hWW.ra;obtain ⟨y0,y1,y2,y3,y4,y5,y6⟩:=cA7 hWW.rx;clear hWW;clear hW;go_simp
  simp only [sA,sB,sC];refine onE (i:=4) rfl (fun K hK=>?_);go_simp;refine (QjL x.wd OX.out.wd _).mono ?_;rintro e wz ⟨rfl,hwz⟩;obtain rfl:=hwz.symm;dsimp only;refine hK.out _ _ (fun _=>HS0) ?_;clear hK K
  try simp only [Act.put,sA,sB,sC]
  refine onE (i:=5) rfl (fun K hK=>?_);go_simp;refine (QoW (Qc5 x.wd) NO.out.hl rfl rfl PL.out.lE PL.out.mE PL.out.fE PL.out.cE (Qag HA.out.E (Qad HP2.out.bel HS0)) (Qag HA.out.R (Qad HP2.out.bel HS0)) OK.out.E (Qkj _)).mono ?_;rintro e w4 ⟨v4,E,R,rfl,hM,⟨ve,vr,rfl,o3,o4⟩,hb4⟩;obtain ⟨ea,ec,rfl⟩:=Qam o3;obtain ⟨ra,rc,rfl⟩:=Qam o4;have HM:=Qaa hM;have HB4:Hid (Below W2.heap.size W2 w4):=(HS0:Below W2.heap.size W2 W2.drew).trans (hb4.mono (ZZa _));have HP3:=Qaa (HP2.out.past HB4.out);have hl2:=HP2.out.lo;have hsz:W2.drew.heap.size=W2.heap.size:=rfl;have HOF:Hid (AgO w4 (w.heap.size+1+1+1) ⟨g.k,QaA g.s 1,g.h,g.l,g.a,g.t,g.z,g.P,g.N,g.x,g.y,E,R⟩ ⟨q.pa,q.pc,q.na,q.nc,ea,ec,ra,rc⟩):=⟨HP3.out.own.P,HP3.out.own.N,HP3.out.own.ap,⟨rfl,QaI o3 (by omega)⟩,⟨rfl,QaI o4 (by omega)⟩⟩
  have HNE:Hid (∀ k,Qc7 ⟨g.k,QaA g.s 1,g.h,g.l,g.a,g.t,g.z,g.P,g.N,g.x,g.y,E,R⟩ ⟨q.pa,q.pc,q.na,q.nc,ea,ec,ra,rc⟩ k->k≠b):=fun k e=>by
   rcases e with e | (e | e)
   ·exact Nat.ne_of_lt (HP3.out.ne k (.inl e))
   ·have:=Qa8 o3 k e;omega
   ·have:=Qa8 o4 k e;omega
  clear hb4 o3 o4 hM;obtain ⟨c0,c1,c2,c3,c4,c5,c6,c7,c8,c9,c10,c11,c12⟩:=Qby HP3.out.ro;obtain ⟨f0,f1,f2,f3,f4,f5,f6,f7,f8,f9,f10,f11,f12⟩:=Qdr HP3.out.ro;obtain ⟨z0,z1,z2,z3,z4,z5,z6,z7,z8,z9,z10,z11,z12⟩:=Qby HP3.out.rr;obtain ⟨k0,k1,k2,k3,k4,k5,k6,k7,k8,k9,k10,k11,k12⟩:=Qdr HP3.out.rr;dsimp only;refine hK.out _ _ (fun _=>HB4.out) ?_;clear hK K
  try simp only [Act.put,sA,sB,sC]
  refine tkS (i:=6) (v:=.pointer (some ⟨b,11,none⟩)) rfl rfl HB4.out ?_;simp only [sA,sB,sC];refine onE (i:=7) rfl (fun K hK=>?_);go_simp;refine hK.out _ _ (fun h=>absurd rfl h) ?_;clear hK K
  try simp only [Act.put,sA,sB,sC]
  refine Qar (by kernel_rfl) ?_ _;go_wp2;refine bodyPost_ret (v:=.agg (Qal ⟨g.k,QaA g.s 1,g.h,g.l,g.a,g.t,g.z,g.P,g.N,g.x,g.y,E,R⟩ ⟨q.pa,q.pc,q.na,q.nc,ea,ec,ra,rc⟩)) (by simp [results,Tryz.results96,go_sem,c0,c1,c2,c3,c4,c5,c6,c7,c8,c9,c10,c11,c12,z0,z1,z2,z3,z4,z5,z6,z7,z8,z9,z10,z11,z12]) rfl (AgRes.mk (o:=⟨g.k,QaA g.s 1,g.h,g.l,g.a,g.t,g.z,g.P,g.N,g.x,g.y,E,R⟩) (p:=⟨q.pa,q.pc,q.na,q.nc,ea,ec,ra,rc⟩) (putS' OX.out HG.out HX.out HKK.out HK1.out HM.out) ?_ ?_)
  ·refine AgO.le (B:=w.heap.size+1+1+1) ?_ (by omega)
   repeat (first | refine AgO.below ?_ (by omega) _ | refine AgO.setNe ?_ HNE.out _)
   exact HOF.out
  ·repeat (refine Below.setCell ?_ (by simp <;> omega) _)
   exact HP3.out.bel
end Go.Proofs.YthchmdmncmioiaaGreatDoor
