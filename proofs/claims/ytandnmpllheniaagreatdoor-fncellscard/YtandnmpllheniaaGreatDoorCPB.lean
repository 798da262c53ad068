/-
 Parts.
-/
import Derived.Test.YtandnmpllheniaaGreatDoorCPA
import Derived.Test.YtandnmpllheniaaGreatDoorCKD
import Derived.Test.YtandnmpllheniaaGreatDoorCKA
set_option linter.all false
set_option maxHeartbeats 16000000
namespace Go.Proofs.YtandnmpllheniaaGreatDoor
open Go.ChangeShapes Go.WideShapes Go.ChangeAt Go.RowKit Go.PlainAid Go.Lib
set_option maxRecDepth 10000
theorem QnP (w:World) (g:Ag) (p:Pl) (x:Sx):Hid (Below w.heap.size w (((w.alloc (.cells (Qak g p) 49)).alloc (.cells (Qaz x) 28)).alloc (.cells z13 49)))/\Hid (∀ W,Below (((w.alloc (.cells (Qak g p) 49)).alloc (.cells (Qaz x) 28)).alloc (.cells z13 49)).heap.size (((w.alloc (.cells (Qak g p) 49)).alloc (.cells (Qaz x) 28)).alloc (.cells z13 49)) W->W.heap[w.heap.size]?=some (.cells (Qak g p) 49 (0,0))/\W.heap[w.heap.size+1]?=some (.cells (Qaz x) 28 (0,0))/\W.heap[w.heap.size+1+1]?=some (.cells z13 49 (0,0)))/\Hid ((((w.alloc (.cells (Qak g p) 49)).alloc (.cells (Qaz x) 28)).alloc (.cells z13 49)).heap.size=w.heap.size+1+1+1):=by
 have a1:∀ (W:World) o,Below W.heap.size W (W.alloc o):=fun W o=>(ZZb _ _).alloc (ZZa _) _;have k0:=ZZk w (.cells (Qak g p) 49);have k1:=ZZk (w.alloc (.cells (Qak g p) 49)) (.cells (Qaz x) 28);have k2:=ZZk ((w.alloc (.cells (Qak g p) 49)).alloc (.cells (Qaz x) 28)) (.cells z13 49);simp only [World.size_alloc] at k1 k2;exact ⟨Qaa (Qac (Qac (a1 _ _) (a1 _ _)) (a1 _ _)),Qaa (fun W hW=>⟨(hW.block _ (by simp <;> omega)).trans (((a1 _ _).block _ (by simp <;> omega)).trans (((a1 _ _).block _ (by simp)).trans k0)),(hW.block _ (by simp <;> omega)).trans (((a1 _ _).block _ (by simp)).trans k1),(hW.block _ (by simp)).trans k2⟩),(by simp;exact Qaa trivial)⟩
theorem Qbe {w:World} {b:Nat} {x:Sx} {T:TypeId} (h:w.heap[b]?=some (.cells (Qaz x) T (0,0))):w.cell? ⟨b,0,none⟩=some (.int .i64 x.k)/\w.cell? ⟨b,1,none⟩=some (.string x.se)/\w.cell? ⟨b,2,none⟩=some (.int .i64 x.v)/\w.cell? ⟨b,3,none⟩=some (.string x.wd)/\w.cell? ⟨b,4,none⟩=some (.int .u64 x.wt)/\w.cell? ⟨b,5,none⟩=some (.bool x.tm)/\w.cell? ⟨b,6,none⟩=some (.int .i64 x.ti):=
 ⟨QcX h 0 rfl,QcX h 1 rfl,QcX h 2 rfl,QcX h 3 rfl,QcX h 4 rfl,QcX h 5 rfl,QcX h 6 rfl⟩
theorem Ql7 {w:World} {g:Ag} {p:Pl} (x:Sx) (ok:AgOk g) (ox:x.Ok) (sm:AgSm g) (pl:PlG g p) (hm:MX w) (hA:AgAt w g p) :
  Calls Tryz.prog 43 #[.agg (Qak g p),.agg (Qaz x)] w fun e w'=>AgRes w (AgPut g x) e w':=by
 have OK:=Qaa ok;have OX:=Qaa ox;have SM:=Qaa sm;have PL:=Qaa pl;have HA:=Qaa hA;obtain ⟨aD,aH,aI⟩:=QnP w g p x;have aJ:=Qaa (hm.past aD);clear ok ox sm pl hA hm;go_enter Tryz.func43,Tryz.ntmps43;go_wp2_with fail;generalize ((w.alloc (.cells (Qak g p) 49)).alloc (.cells (Qaz x) 28)).alloc (.cells z13 49)=W0 at aD aH aI aJ ⊢;refine (QcK (g:=g) (p:=p) OK SM (Qao HA aD)).mono ?_;rintro e w1 ⟨rfl,aE⟩;rw [QlW];have ax:Hid (∀ W,Below w1.heap.size w1 W->W.heap[w.heap.size]?=some (.cells (Qak g p) 49 (0,0))/\W.heap[w.heap.size+1]?=some (.cells (Qaz x) 28 (0,0))/\W.heap[w.heap.size+1+1]?=some (.cells z13 49 (0,0))):=fun W hW=>aH.out W (Qac aE hW);have aG:=Qaa (Qac aD aE);have aS:=Qaa (aJ.out.past aE);have aT:w.heap.size+1+1+1<=w1.heap.size:=by have:=aE.size;have:=aI.out;omega
 clear aE aH aJ aI aD
 cases hq:agB g with
 | false=>
  have HQ:Hid (AgPut g x g):=QmQ (fun h=>by rw [hq] at h;cases h.1);have aC:=Qaa (ax.out _ (ZZb _ _)).1;obtain ⟨x0,x1,x2,x3,x4,x5,x6,x7,x8,x9,ae,ac,ad⟩:=Qbt aC;obtain ⟨y0,y1,y2,y3,y4,y5,y6⟩:=Qbe (ax.out _ (ZZb _ _)).2.1;go_wp2_with fail;clear x0 x1 x2 x3 x4 x5 x6 x7 x8 x9 ae ac ad y0 y1 y2 y3 y4 y5 y6;refine (QeR SM PL (Qao HA aG)).mono ?_;rintro e wc ⟨vc,oc,rfl,rfl,⟨pc,rfl,hO⟩,aq⟩;have HO:=Qaa hO;have aB:=Qaa (Qac aG aq);have av:=Qaa (ax.out _ aq).2.2;have aN:=aG.out.size;clear hO aq;obtain ⟨q0,q1,q2,q3,q4,q5,q6,q7,q8,q9,al,aj,ak⟩:=Qbt av;obtain ⟨f0,f1,f2,f3,f4,f5,f6,f7,f8,f9,aA,az,ay⟩:=QcN av;go_wp2;refine bodyPost_ret (v:=.agg (Qak oc pc)) (by simp [results,Tryz.results43,go_sem,q0,q1,q2,q3,q4,q5,q6,q7,q8,q9,al,aj,ak]) rfl (AgRes.mk (o:=oc) (p:=pc) HQ ?_ ?_)
  ·refine AgO.le (B:=w1.heap.size) ?_ (by omega)
   repeat (refine AgO.below ?_ (by omega) _)
   exact HO.out
  ·repeat (refine Below.setCell ?_ (by simp <;> omega) _)
   exact aB.out
 | true=>
  obtain ⟨y0,y1,y2,y3,y4,y5,y6⟩:=Qbe (ax.out _ (ZZb _ _)).2.1;go_wp2_with fail;clear y0 y1 y2 y3 y4 y5 y6;refine (QdA x.k x.se x.v x.wd x.wt x.tm x.ti aS OX.out.se OX.out.wd).mono ?_;rintro e w2 ⟨rfl,aF⟩;have HC:Hid (∀ W,Below w2.heap.size w2 W->W.heap[w.heap.size]?=some (.cells (Qak g p) 49 (0,0))/\W.heap[w.heap.size+1]?=some (.cells (Qaz x) 28 (0,0))/\W.heap[w.heap.size+1+1]?=some (.cells z13 49 (0,0))):=fun W hW=>ax.out W (Qac aF hW);have am:=Qaa (Qac aG aF);have aU:=aF.size;clear aF ax
  cases hs:QbA x.k x.se x.v x.wd x.wt x.tm x.ti with
  | false=>
   have HQ:Hid (AgPut g x g):=QmQ (fun h=>by have:=h.2.1;unfold Sx.B at this;rw [hs] at this;cases this);have aC:=Qaa (HC.out _ (ZZb _ _)).1;obtain ⟨x0,x1,x2,x3,x4,x5,x6,x7,x8,x9,ae,ac,ad⟩:=Qbt aC;obtain ⟨y0,y1,y2,y3,y4,y5,y6⟩:=Qbe (HC.out _ (ZZb _ _)).2.1;go_wp2_with fail;clear x0 x1 x2 x3 x4 x5 x6 x7 x8 x9 ae ac ad y0 y1 y2 y3 y4 y5 y6;refine (QeR SM PL (Qao HA am)).mono ?_;rintro e wc ⟨vc,oc,rfl,rfl,⟨pc,rfl,hO⟩,aq⟩;have HO:=Qaa hO;have aB:=Qaa (Qac am aq);have av:=Qaa (HC.out _ aq).2.2;have aN:=am.out.size;clear hO aq;obtain ⟨q0,q1,q2,q3,q4,q5,q6,q7,q8,q9,al,aj,ak⟩:=Qbt av;obtain ⟨f0,f1,f2,f3,f4,f5,f6,f7,f8,f9,aA,az,ay⟩:=QcN av;go_wp2;refine bodyPost_ret (v:=.agg (Qak oc pc)) (by simp [results,Tryz.results43,go_sem,q0,q1,q2,q3,q4,q5,q6,q7,q8,q9,al,aj,ak]) rfl (AgRes.mk (o:=oc) (p:=pc) HQ ?_ ?_)
   ·refine AgO.le (B:=w2.heap.size) ?_ (by omega)
    repeat (refine AgO.below ?_ (by omega) _)
    exact HO.out
   ·repeat (refine Below.setCell ?_ (by simp <;> omega) _)
    exact aB.out
  | true=>
   by_cases hk:g.k=x.k
   ·have HG:Hid (agB g=true/\x.B=true/\g.k=x.k):=⟨hq,hs,hk⟩
    have NO:=Qaa (QaQ hq);have hb:(x.k != g.k)=false:=by simp [hk]
    have x0:=QcX (HC.out _ (ZZb _ _)).1 0 rfl;have y0:=QcX (HC.out _ (ZZb _ _)).2.1 0 rfl;clear hq hs hk;go_wp2_with fail;clear x0 y0 hb;have aR:g.k=1∨g.k=2∨g.k=3∨g.k=4:=by have:=NO.out.k1;have:=NO.out.k4;omega
    rcases aR with h | h | h | h
    ·have au:=Qaa h
     clear h;have ab:(fun W=>Below w2.heap.size w2 W) w2.drew:=(ZZb _ _).drew;refine Qaj (fun W=>Below w2.heap.size w2 W) 8 (by kernel_rfl) ?_;refine tkS 0 (.pointer (some ⟨w.heap.size,1,none⟩)) ab ?_;refine tkL 1 (.int .u64 g.s) ab (fun W hW=>?_) ?_
     ·have aa:=HC.out W hW
      obtain ⟨x0,x1,x2,x3,x4,x5,x6,x7,x8,x9,ae,ac,ad⟩:=Qbt aa.1;obtain ⟨y0,y1,y2,y3,y4,y5,y6⟩:=Qbe aa.2.1;clear aa;clear hW;go_simp
     refine tkL 3 (.agg (Qak g p)) ab (fun W hW=>?_) ?_
     ·have aa:=HC.out W hW
      obtain ⟨x0,x1,x2,x3,x4,x5,x6,x7,x8,x9,ae,ac,ad⟩:=Qbt aa.1;obtain ⟨y0,y1,y2,y3,y4,y5,y6⟩:=Qbe aa.2.1;clear aa;clear hW;go_simp
     simp only [sX];refine tkL 5 (.agg (Qaz x)) ab (fun W hW=>?_) ?_
     ·have aa:=HC.out W hW
      obtain ⟨x0,x1,x2,x3,x4,x5,x6,x7,x8,x9,ae,ac,ad⟩:=Qbt aa.1;obtain ⟨y0,y1,y2,y3,y4,y5,y6⟩:=Qbe aa.2.1;clear aa;clear hW;go_simp
     simp only [sX];refine onE 2 fun K hK=>?_;go_simp;refine (QaJ _ _ OK.out.s (by unfold U64;omega) _).mono ?_;rintro e wz ⟨rfl,aw⟩;obtain rfl:=aw.symm;dsimp only;refine gK hK ab ?_
     try simp only [sX]
     refine onE 4 fun K hK=>?_;go_simp;refine (Qe6 (g:=g) (p:=p) _ au).mono ?_;rintro e w4 ⟨rfl,ao⟩;have af:Hid (Below w2.heap.size w2 w4):=(ab:Below w2.heap.size w2 w2.drew).trans (ao.mono (ZZa _));clear ao;dsimp only;refine gK hK af.out ?_
     try simp only [sX]
     refine onE 6 fun K hK=>?_;go_simp;refine (c_cput g.h g.l x _ OK.out.l OX).mono ?_;rintro e w5 ⟨rfl,an⟩;have ap:Hid (Below w2.heap.size w2 w5):=Qac af an;clear an;dsimp only;refine gK hK ap.out ?_
     try simp only [sX]
     refine onE 7 fun K hK=>?_;go_simp;refine (Qfu ⟨0,Qar g.s 1,QaO g.h g.l (thH x.v x.wt) (thL x.v x.wt),QaS g.l (thL x.v x.wt),0,0,0,[],[],0,0,[],[]⟩ pl0 _).mono ?_;rintro e w6 ⟨rfl,ag⟩;have ah:Hid (Below w2.heap.size w2 w6):=Qac ap ag;have ai:=Qaa ag;clear ag;have ar:=Qaa (HC.out _ ah).2.2;obtain ⟨q0,q1,q2,q3,q4,q5,q6,q7,q8,q9,al,aj,ak⟩:=Qbt ar;obtain ⟨f0,f1,f2,f3,f4,f5,f6,f7,f8,f9,aA,az,ay⟩:=QcN ar;dsimp only;refine gK hK ah.out ?_
     try simp only [sX]
     refine onE 8 fun K hK=>?_;go_simp;refine hK.out _ _ (fun h=>absurd rfl h) ?_
     try simp only [sX]
     refine dnE ?_ _;go_wp2;refine bodyPost_ret (v:=.agg (Qak ⟨1,Qar g.s 1,QaO g.h g.l (thH x.v x.wt) (thL x.v x.wt),QaS g.l (thL x.v x.wt),0,0,0,[],[],0,0,[],[]⟩ pl0)) (by simp [results,Tryz.results43,go_sem,q0,q1,q2,q3,q4,q5,q6,q7,q8,q9,al,aj,ak]) rfl (AgRes.mk (o:=⟨1,Qar g.s 1,QaO g.h g.l (thH x.v x.wt) (thL x.v x.wt),QaS g.l (thL x.v x.wt),0,0,0,[],[],0,0,[],[]⟩) (p:=pl0) ?_ ?_ ?_)
     ·exact putC OX HG.out.1 HG.out.2.1 HG.out.2.2 au
     ·exact AgO.nil _ _ rfl rfl rfl rfl
     ·repeat (refine Below.setCell ?_ (by simp <;> omega) _)
      exact Qac am ah
    ·have au:=Qaa h
     clear h;have ab:(fun W=>Below w2.heap.size w2 W) w2.drew:=(ZZb _ _).drew;refine Qaj (fun W=>Below w2.heap.size w2 W) 8 (by kernel_rfl) ?_;refine tkS 0 (.pointer (some ⟨w.heap.size,1,none⟩)) ab ?_;refine tkL 1 (.int .u64 g.s) ab (fun W hW=>?_) ?_
     ·have aa:=HC.out W hW
      obtain ⟨x0,x1,x2,x3,x4,x5,x6,x7,x8,x9,ae,ac,ad⟩:=Qbt aa.1;obtain ⟨y0,y1,y2,y3,y4,y5,y6⟩:=Qbe aa.2.1;clear aa;clear hW;go_simp
     refine tkL 3 (.agg (Qak g p)) ab (fun W hW=>?_) ?_
     ·have aa:=HC.out W hW
      obtain ⟨x0,x1,x2,x3,x4,x5,x6,x7,x8,x9,ae,ac,ad⟩:=Qbt aa.1;obtain ⟨y0,y1,y2,y3,y4,y5,y6⟩:=Qbe aa.2.1;clear aa;clear hW;go_simp
     simp only [sX];refine tkL 5 (.agg (Qaz x)) ab (fun W hW=>?_) ?_
     ·have aa:=HC.out W hW
      obtain ⟨x0,x1,x2,x3,x4,x5,x6,x7,x8,x9,ae,ac,ad⟩:=Qbt aa.1;obtain ⟨y0,y1,y2,y3,y4,y5,y6⟩:=Qbe aa.2.1;clear aa;clear hW;go_simp
     simp only [sX];refine onE 2 fun K hK=>?_;go_simp;refine (QaJ _ _ OK.out.s (by unfold U64;omega) _).mono ?_;rintro e wz ⟨rfl,aw⟩;obtain rfl:=aw.symm;dsimp only;refine gK hK ab ?_
     try simp only [sX]
     refine onE 4 fun K hK=>?_;go_simp;refine (QeT (g:=g) (p:=p) _ au).mono ?_;rintro e w4 ⟨rfl,ao⟩;have af:Hid (Below w2.heap.size w2 w4):=(ab:Below w2.heap.size w2 w2.drew).trans (ao.mono (ZZa _));clear ao;dsimp only;refine gK hK af.out ?_
     try simp only [sX]
     refine onE 6 fun K hK=>?_;go_simp;refine (c_gput g.a g.t x _).mono ?_;rintro e w5 ⟨rfl,an⟩;have ap:Hid (Below w2.heap.size w2 w5):=Qac af an;clear an;dsimp only;refine gK hK ap.out ?_
     try simp only [sX]
     refine onE 7 fun K hK=>?_;go_simp;refine (QfJ ⟨0,Qar g.s 1,0,0,gA g.a g.t x.v x.ti,gT g.a g.t x.v x.ti,0,[],[],0,0,[],[]⟩ pl0 _).mono ?_;rintro e w6 ⟨rfl,ag⟩;have ah:Hid (Below w2.heap.size w2 w6):=Qac ap ag;have ai:=Qaa ag;clear ag;have ar:=Qaa (HC.out _ ah).2.2;obtain ⟨q0,q1,q2,q3,q4,q5,q6,q7,q8,q9,al,aj,ak⟩:=Qbt ar;obtain ⟨f0,f1,f2,f3,f4,f5,f6,f7,f8,f9,aA,az,ay⟩:=QcN ar;dsimp only;refine gK hK ah.out ?_
     try simp only [sX]
     refine onE 8 fun K hK=>?_;go_simp;refine hK.out _ _ (fun h=>absurd rfl h) ?_
     try simp only [sX]
     refine dnE ?_ _;go_wp2;refine bodyPost_ret (v:=.agg (Qak ⟨2,Qar g.s 1,0,0,gA g.a g.t x.v x.ti,gT g.a g.t x.v x.ti,0,[],[],0,0,[],[]⟩ pl0)) (by simp [results,Tryz.results43,go_sem,q0,q1,q2,q3,q4,q5,q6,q7,q8,q9,al,aj,ak]) rfl (AgRes.mk (o:=⟨2,Qar g.s 1,0,0,gA g.a g.t x.v x.ti,gT g.a g.t x.v x.ti,0,[],[],0,0,[],[]⟩) (p:=pl0) ?_ ?_ ?_)
     ·exact putG OX HG.out.1 HG.out.2.1 HG.out.2.2 au
     ·exact AgO.nil _ _ rfl rfl rfl rfl
     ·repeat (refine Below.setCell ?_ (by simp <;> omega) _)
      exact Qac am ah
    ·have au:=Qaa h
     clear h;have ab:(fun W=>Below w2.heap.size w2 W) w2.drew:=(ZZb _ _).drew;refine Qaj (fun W=>Below w2.heap.size w2 W) 8 (by kernel_rfl) ?_;refine tkS 0 (.pointer (some ⟨w.heap.size,1,none⟩)) ab ?_;refine tkL 1 (.int .u64 g.s) ab (fun W hW=>?_) ?_
     ·have aa:=HC.out W hW
      obtain ⟨x0,x1,x2,x3,x4,x5,x6,x7,x8,x9,ae,ac,ad⟩:=Qbt aa.1;obtain ⟨y0,y1,y2,y3,y4,y5,y6⟩:=Qbe aa.2.1;clear aa;clear hW;go_simp
     refine tkL 3 (.agg (Qak g p)) ab (fun W hW=>?_) ?_
     ·have aa:=HC.out W hW
      obtain ⟨x0,x1,x2,x3,x4,x5,x6,x7,x8,x9,ae,ac,ad⟩:=Qbt aa.1;obtain ⟨y0,y1,y2,y3,y4,y5,y6⟩:=Qbe aa.2.1;clear aa;clear hW;go_simp
     simp only [sX];refine tkL 5 (.agg (Qaz x)) ab (fun W hW=>?_) ?_
     ·have aa:=HC.out W hW
      obtain ⟨x0,x1,x2,x3,x4,x5,x6,x7,x8,x9,ae,ac,ad⟩:=Qbt aa.1;obtain ⟨y0,y1,y2,y3,y4,y5,y6⟩:=Qbe aa.2.1;clear aa;clear hW;go_simp
     simp only [sX];refine onE 2 fun K hK=>?_;go_simp;refine (QaJ _ _ OK.out.s (by unfold U64;omega) _).mono ?_;rintro e wz ⟨rfl,aw⟩;obtain rfl:=aw.symm;dsimp only;refine gK hK ab ?_
     try simp only [sX]
     refine onE 4 fun K hK=>?_;go_simp;refine (Qfk (g:=g) (p:=p) _ au).mono ?_;rintro e w4 ⟨rfl,ao⟩;have af:Hid (Below w2.heap.size w2 w4):=(ab:Below w2.heap.size w2 w2.drew).trans (ao.mono (ZZa _));clear ao;dsimp only;refine gK hK af.out ?_
     try simp only [sX]
     refine onE 6 fun K hK=>?_;go_simp;refine (c_hput x OX HG.out.2.1 OK SM (Qao HA (Qac am af)) NO.out.sk).mono ?_;rintro e w5 ⟨v5,rfl,aM,an⟩;obtain ⟨vp,vn,pn,nn,rfl,o1,o2,aO⟩:=aM;obtain ⟨pa,pc,rfl⟩:=o1.any;obtain ⟨na,nc,rfl⟩:=o2.any;obtain rfl:=o1.1;obtain rfl:=o2.1;have aL:=Qaa o1;have aK:=Qaa o2;have aQ:=Qaa aO;have ap:Hid (Below w2.heap.size w2 w5):=Qac af an;have aP:=af.out.size;clear an o1 o2 aO;dsimp only;refine gK hK ap.out ?_
     try simp only [sX]
     refine onE 7 fun K hK=>?_;go_simp;refine (Qfv ⟨0,Qar g.s 1,0,0,0,0,QeF g.z x.v x.wt,QcW g.P x.v x.wt,QcP g.N x.v x.wt,QaO g.x g.y (thH x.v x.wt) (thL x.v x.wt),QaS g.y (thL x.v x.wt),[],[]⟩ ⟨pa,pc,na,nc,none,0,none,0⟩ _).mono ?_;rintro e w6 ⟨rfl,ag⟩;have ah:Hid (Below w2.heap.size w2 w6):=Qac ap ag;have ai:=Qaa ag;clear ag;have ar:=Qaa (HC.out _ ah).2.2;obtain ⟨q0,q1,q2,q3,q4,q5,q6,q7,q8,q9,al,aj,ak⟩:=Qbt ar;obtain ⟨f0,f1,f2,f3,f4,f5,f6,f7,f8,f9,aA,az,ay⟩:=QcN ar;dsimp only;refine gK hK ah.out ?_
     try simp only [sX]
     refine onE 8 fun K hK=>?_;go_simp;refine hK.out _ _ (fun h=>absurd rfl h) ?_
     try simp only [sX]
     refine dnE ?_ _;go_wp2;refine bodyPost_ret (v:=.agg (Qak ⟨3,Qar g.s 1,0,0,0,0,QeF g.z x.v x.wt,QcW g.P x.v x.wt,QcP g.N x.v x.wt,QaO g.x g.y (thH x.v x.wt) (thL x.v x.wt),QaS g.y (thL x.v x.wt),[],[]⟩ ⟨pa,pc,na,nc,none,0,none,0⟩)) (by simp [results,Tryz.results43,go_sem,q0,q1,q2,q3,q4,q5,q6,q7,q8,q9,al,aj,ak]) rfl (AgRes.mk (o:=⟨3,Qar g.s 1,0,0,0,0,QeF g.z x.v x.wt,QcW g.P x.v x.wt,QcP g.N x.v x.wt,QaO g.x g.y (thH x.v x.wt) (thL x.v x.wt),QaS g.y (thL x.v x.wt),[],[]⟩) (p:=⟨pa,pc,na,nc,none,0,none,0⟩) ?_ ?_ ?_)
     ·exact putHs OX HG.out.1 HG.out.2.1 HG.out.2.2 au OK
     ·refine AgO.le (B:=w4.heap.size) ?_ (by omega)
      repeat (refine AgO.below ?_ (by omega) _)
      exact ⟨aL.out.past ai,aK.out.past ai,aQ,⟨rfl,World.ownsRow_nil _ _ _ _⟩,⟨rfl,World.ownsRow_nil _ _ _ _⟩⟩
     ·repeat (refine Below.setCell ?_ (by simp <;> omega) _)
      exact Qac am ah
    ·have au:=Qaa h
     clear h;have ab:(fun W=>Below w2.heap.size w2 W) w2.drew:=(ZZb _ _).drew;refine Qaj (fun W=>Below w2.heap.size w2 W) 8 (by kernel_rfl) ?_;refine tkS 0 (.pointer (some ⟨w.heap.size,1,none⟩)) ab ?_;refine tkL 1 (.int .u64 g.s) ab (fun W hW=>?_) ?_
     ·have aa:=HC.out W hW
      obtain ⟨x0,x1,x2,x3,x4,x5,x6,x7,x8,x9,ae,ac,ad⟩:=Qbt aa.1;obtain ⟨y0,y1,y2,y3,y4,y5,y6⟩:=Qbe aa.2.1;clear aa;clear hW;go_simp
     refine tkL 3 (.agg (Qak g p)) ab (fun W hW=>?_) ?_
     ·have aa:=HC.out W hW
      obtain ⟨x0,x1,x2,x3,x4,x5,x6,x7,x8,x9,ae,ac,ad⟩:=Qbt aa.1;obtain ⟨y0,y1,y2,y3,y4,y5,y6⟩:=Qbe aa.2.1;clear aa;clear hW;go_simp
     simp only [sX];refine tkL 5 (.agg (Qaz x)) ab (fun W hW=>?_) ?_
     ·have aa:=HC.out W hW
      obtain ⟨x0,x1,x2,x3,x4,x5,x6,x7,x8,x9,ae,ac,ad⟩:=Qbt aa.1;obtain ⟨y0,y1,y2,y3,y4,y5,y6⟩:=Qbe aa.2.1;clear aa;clear hW;go_simp
     simp only [sX];refine onE 2 fun K hK=>?_;go_simp;refine (QaJ _ _ OK.out.s (by unfold U64;omega) _).mono ?_;rintro e wz ⟨rfl,aw⟩;obtain rfl:=aw.symm;dsimp only;refine gK hK ab ?_
     try simp only [sX]
     refine onE 4 fun K hK=>?_;go_simp;refine (QeX (g:=g) (p:=p) _ au).mono ?_;rintro e w4 ⟨rfl,ao⟩;have af:Hid (Below w2.heap.size w2 w4):=(ab:Below w2.heap.size w2 w2.drew).trans (ao.mono (ZZa _));clear ao;dsimp only;refine gK hK af.out ?_
     try simp only [sX]
     refine onE 6 fun K hK=>?_;go_simp;refine (c_sput x OX HG.out.2.1 OK SM PL (Qao HA (Qac am af))).mono ?_;rintro e w5 ⟨v5,E,R,rfl,hM,aM,an⟩;obtain ⟨vp,vn,rfl,o1,o2⟩:=aM;obtain ⟨pa,pc,rfl⟩:=Qam o1;obtain ⟨na,nc,rfl⟩:=Qam o2;have aL:=Qaa o1;have aK:=Qaa o2;have HM:=Qaa hM;have ap:Hid (Below w2.heap.size w2 w5):=Qac af an;have aP:=af.out.size;clear an o1 o2 hM;dsimp only;refine gK hK ap.out ?_
     try simp only [sX]
     refine onE 7 fun K hK=>?_;go_simp;refine (QfT ⟨0,Qar g.s 1,0,0,0,0,0,[],[],0,0,E,R⟩ ⟨none,0,none,0,pa,pc,na,nc⟩ _).mono ?_;rintro e w6 ⟨rfl,ag⟩;have ah:Hid (Below w2.heap.size w2 w6):=Qac ap ag;have ai:=Qaa ag;clear ag;have ar:=Qaa (HC.out _ ah).2.2;obtain ⟨q0,q1,q2,q3,q4,q5,q6,q7,q8,q9,al,aj,ak⟩:=Qbt ar;obtain ⟨f0,f1,f2,f3,f4,f5,f6,f7,f8,f9,aA,az,ay⟩:=QcN ar;dsimp only;refine gK hK ah.out ?_
     try simp only [sX]
     refine onE 8 fun K hK=>?_;go_simp;refine hK.out _ _ (fun h=>absurd rfl h) ?_
     try simp only [sX]
     refine dnE ?_ _;go_wp2;refine bodyPost_ret (v:=.agg (Qak ⟨4,Qar g.s 1,0,0,0,0,0,[],[],0,0,E,R⟩ ⟨none,0,none,0,pa,pc,na,nc⟩)) (by simp [results,Tryz.results43,go_sem,q0,q1,q2,q3,q4,q5,q6,q7,q8,q9,al,aj,ak]) rfl (AgRes.mk (o:=⟨4,Qar g.s 1,0,0,0,0,0,[],[],0,0,E,R⟩) (p:=⟨none,0,none,0,pa,pc,na,nc⟩) ?_ ?_ ?_)
     ·exact putS OX HG.out.1 HG.out.2.1 HG.out.2.2 au HM
     ·refine AgO.le (B:=w4.heap.size) ?_ (by omega)
      repeat (refine AgO.below ?_ (by omega) _)
      exact ⟨⟨rfl,.inl ⟨rfl,rfl⟩⟩,⟨rfl,.inl ⟨rfl,rfl⟩⟩,(fun k e=>by cases e),⟨rfl,QaU aL ai⟩,⟨rfl,QaU aK ai⟩⟩
     ·repeat (refine Below.setCell ?_ (by simp <;> omega) _)
      exact Qac am ah
   ·have hb:(x.k != g.k)=true:=by simp;exact fun e=>hk e.symm
    have HQ:Hid (AgPut g x g):=QmQ (fun h=>hk h.2.2);have aC:=Qaa (HC.out _ (ZZb _ _)).1;obtain ⟨x0,x1,x2,x3,x4,x5,x6,x7,x8,x9,ae,ac,ad⟩:=Qbt aC;obtain ⟨y0,y1,y2,y3,y4,y5,y6⟩:=Qbe (HC.out _ (ZZb _ _)).2.1;go_wp2_with fail;clear x0 x1 x2 x3 x4 x5 x6 x7 x8 x9 ae ac ad y0 y1 y2 y3 y4 y5 y6;refine (QeR SM PL (Qao HA am)).mono ?_;rintro e wc ⟨vc,oc,rfl,rfl,⟨pc,rfl,hO⟩,aq⟩;have HO:=Qaa hO;have aB:=Qaa (Qac am aq);have av:=Qaa (HC.out _ aq).2.2;have aN:=am.out.size;clear hO aq;obtain ⟨q0,q1,q2,q3,q4,q5,q6,q7,q8,q9,al,aj,ak⟩:=Qbt av;obtain ⟨f0,f1,f2,f3,f4,f5,f6,f7,f8,f9,aA,az,ay⟩:=QcN av;go_wp2;refine bodyPost_ret (v:=.agg (Qak oc pc)) (by simp [results,Tryz.results43,go_sem,q0,q1,q2,q3,q4,q5,q6,q7,q8,q9,al,aj,ak]) rfl (AgRes.mk (o:=oc) (p:=pc) HQ ?_ ?_)
    ·refine AgO.le (B:=w2.heap.size) ?_ (by omega)
     repeat (refine AgO.below ?_ (by omega) _)
     exact HO.out
    ·repeat (refine Below.setCell ?_ (by simp <;> omega) _)
     exact aB.out
theorem AgO.setNe {w:World} {B r j:Nat} {o:Ag} {p:Pl} (h:AgO w B o p) (hn:∀ k,Qdu o p k->k≠r) (u:Value):AgO (w.setCell ⟨r,j,none⟩ u) B o p:=
 h.keptS (S:=fun k=>k=r) ⟨rfl,rfl,rfl,by simp [World.setCell],fun k hk hn=>Below.heap_setCell _ _ _ _ (fun e=>hn (by rw [e]))⟩ hn
section
variable {g:Ag} {x:Sx} (ok:x.Ok) (hg:agB g=true) (hx:x.B=true) (e:g.k=x.k)
include ok hg hx e
theorem putC' (k:g.k=1):AgPut g x ⟨g.k,Qar g.s 1,QaO g.h g.l (thH x.v x.wt) (thL x.v x.wt),QaS g.l (thL x.v x.wt),g.a,g.t,g.z,g.P,g.N,g.x,g.y,g.E,g.R⟩:=by
 have n:=QaQ hg;obtain ⟨a1,a2,a3,a4,a5⟩:=n.nh (by omega);obtain ⟨c1,c2⟩:=n.ns (by omega);obtain ⟨d1,d2⟩:=n.ng (by omega);have:=putC ok hg hx e k;rw [a1,a2,a3,a4,a5,c1,c2,d1,d2,k];exact this
theorem putG' (k:g.k=2):AgPut g x ⟨g.k,Qar g.s 1,g.h,g.l,gA g.a g.t x.v x.ti,gT g.a g.t x.v x.ti,g.z,g.P,g.N,g.x,g.y,g.E,g.R⟩:=by
 have n:=QaQ hg;obtain ⟨a1,a2,a3,a4,a5⟩:=n.nh (by omega);obtain ⟨c1,c2⟩:=n.ns (by omega);obtain ⟨d1,d2⟩:=n.nc (by omega);have:=putG ok hg hx e k;rw [a1,a2,a3,a4,a5,c1,c2,d1,d2,k];exact this
theorem putH' (k:g.k=3) (go:AgOk g):AgPut g x ⟨g.k,Qar g.s 1,g.h,g.l,g.a,g.t,QeF g.z x.v x.wt,QcW g.P x.v x.wt,QcP g.N x.v x.wt,QaO g.x g.y (thH x.v x.wt) (thL x.v x.wt),QaS g.y (thL x.v x.wt),g.E,g.R⟩:=by
 have n:=QaQ hg;obtain ⟨a1,a2⟩:=n.ng (by omega);obtain ⟨c1,c2⟩:=n.ns (by omega);obtain ⟨d1,d2⟩:=n.nc (by omega);have:=putHs ok hg hx e k go;rw [a1,a2,c1,c2,d1,d2,k];exact this
theorem putS' (k:g.k=4) {E R:List Int} (m:Mg g.E g.R [Qdw x.wd] [] E R):AgPut g x ⟨g.k,Qar g.s 1,g.h,g.l,g.a,g.t,g.z,g.P,g.N,g.x,g.y,E,R⟩:=by
 have n:=QaQ hg;obtain ⟨a1,a2,a3,a4,a5⟩:=n.nh (by omega);obtain ⟨c1,c2⟩:=n.ng (by omega);obtain ⟨d1,d2⟩:=n.nc (by omega);have:=putS ok hg hx e k (E:=E) (R:=R) (by unfold QoA;rw [if_pos n.hl];exact m);rw [a1,a2,a3,a4,a5,c1,c2,d1,d2,k];exact this
end
structure PB (w W:World) (b:Nat) (g a:Ag) (p q:Pl) (x:Sx):Prop where
 bel:Below w.heap.size w W
 ra:W.heap[w.heap.size]?=some (.cells (Qak g p) 49 (0,0))
 rx:W.heap[w.heap.size+1]?=some (.cells (Qaz x) 28 (0,0))
 rr:W.heap[w.heap.size+1+1]?=some (.cells z13 49 (0,0))
 ro:W.heap[b]?=some (.cells (Qak a q) 49 (0,0))
 lo:w.heap.size+1+1+1<=b/\b<W.heap.size
 own:AgO W (w.heap.size+1+1+1) a q
 ne:∀ k,Qdu a q k->k<b
theorem PB.past {w W W':World} {b:Nat} {g a:Ag} {p q:Pl} {x:Sx} (h:PB w W b g a p q x) (hb:Below W.heap.size W W'):PB w W' b g a p q x:=
 ⟨Qac h.bel hb,(hb.block _ (ZZc.1 h.ra).1).trans h.ra,(hb.block _ (ZZc.1 h.rx).1).trans h.rx,(hb.block _ (ZZc.1 h.rr).1).trans h.rr,(hb.block _ (ZZc.1 h.ro).1).trans h.ro,⟨h.lo.1,Nat.lt_of_lt_of_le h.lo.2 hb.size⟩,h.own.past hb,h.ne⟩
theorem PB.sam {w W:World} {b:Nat} {g a:Ag} {p q:Pl} {x:Sx} (h:PB w W b g a p q x) (s:Int):PB w (W.setCell ⟨b,1,none⟩ (.int .u64 s)) b g { a with s:=s } p q x:=by
 have hl:=h.lo;have ot:∀ r o,r≠b->W.heap[r]?=some o->(W.setCell ⟨b,1,none⟩ (.int .u64 s)).heap[r]?=some o:=fun r o hr e=>by rw [heap_setCell_other _ _ _ _ (by simpa using hr)];exact e
 refine ⟨h.bel.setCell (by simp <;> omega) _,ot _ _ (by omega) h.ra,ot _ _ (by omega) h.rx,ot _ _ (by omega) h.rr,heap_setCell_same W b 1 _ _ _ h.ro,⟨hl.1,by simpa [World.setCell] using hl.2⟩,?_,h.ne⟩;have:=h.own.setNe (r:=b) (j:=1) (fun k e=>Nat.ne_of_lt (h.ne k e)) (.int .u64 s);exact ⟨this.P,this.N,this.ap,this.E,this.R⟩
theorem PB.made {w w1:World} {g:Ag} {p q:Pl} {x:Sx} (hb:Below w.heap.size w w1) (h0:w1.heap[w.heap.size]?=some (.cells (Qak g p) 49 (0,0))) (h1:w1.heap[w.heap.size+1]?=some (.cells (Qaz x) 28 (0,0))) (h2:w1.heap[w.heap.size+1+1]?=some (.cells z13 49 (0,0))) (hs:w.heap.size+1+1+1<=w1.heap.size) (ho:AgO w1 (w.heap.size+1+1+1) g q):PB w (w1.alloc (.cells (Qak g q) 49)) w1.heap.size g g p q x:=by
 have a1:Below w1.heap.size w1 (w1.alloc (.cells (Qak g q) 49)):=(ZZb _ _).alloc (ZZa _) _;exact ⟨Qac hb a1,(a1.block _ (Array.getElem?_eq_some_iff.1 h0).1).trans h0,(a1.block _ (Array.getElem?_eq_some_iff.1 h1).1).trans h1,(a1.block _ (Array.getElem?_eq_some_iff.1 h2).1).trans h2,heap_alloc_new w1 _,⟨hs,by simp⟩,ho.past a1,fun k e=>(ho.lt e).2⟩
theorem Qhz {w:World} {g:Ag} {p:Pl} (x:Sx) (hg:agB g=true) (hx:x.B=true) (hk:g.k=x.k) (ok:AgOk g) (ox:x.Ok) (sm:AgSm g) (pl:PlG g p) (hA:AgAt w g p) :
  Calls Tryz.prog 96 #[.agg (Qak g p),.agg (Qaz x)] w fun e w'=>AgRes w (AgPut g x) e w':=by
 have HG:=Qaa hg;have HX:=Qaa hx;have aA:=Qaa hk;have OK:=Qaa ok;have OX:=Qaa ox;have SM:=Qaa sm;have PL:=Qaa pl;have HA:=Qaa hA;have NO:=Qaa (QaQ hg);clear hg hx hk ok ox sm pl hA;obtain ⟨aB,HC,ay⟩:=QnP w g p x;go_enter Tryz.func96,Tryz.ntmps96;go_wp2_with fail;generalize ((w.alloc (.cells (Qak g p) 49)).alloc (.cells (Qaz x) 28)).alloc (.cells z13 49)=W0 at aB HC ay ⊢;refine (Qjw SM PL (Qao HA aB)).mono ?_;rintro e w1 ⟨v,o,rfl,ho,⟨q,rfl,hO⟩,az⟩;obtain rfl:g=o:=ho.symm;clear ho;have hR:=HC.out w1 az;have aN:=az.size;have HP:=Qaa (PB.made (Qac aB az) hR.1 hR.2.1 hR.2.2 (by have:=ay.out;omega) (hO.le (by have:=ay.out;omega)));have x1:=QcX hR.1 1 rfl;have aK:w.heap.size<w1.heap.size:=by have:=ay.out;omega
 have aL:¬ w.heap.size=w1.heap.size:=by omega
 clear hR aN az hO HC ay aB;go_wp2_with fail;clear x1 aK aL;generalize w1.alloc (.cells (Qak g q) 49)=W1 at HP ⊢;generalize w1.heap.size=b at HP ⊢;refine (Qbj g.s 1 OK.out.s (by unfold U64;omega) _).mono ?_;rintro e wz ⟨rfl,aG⟩;obtain rfl:=aG.symm;have hl:=HP.out.lo;have aP:¬ w.heap.size=b:=by omega
 have aR:¬ w.heap.size+1=b:=by omega
 have aQ:¬ w.heap.size+1+1=b:=by omega
 have aM:g.k=1∨g.k=2∨g.k=3∨g.k=4:=by have:=NO.out.k1;have:=NO.out.k4;omega
 rcases aM with h | h | h | h
 ·have aq:=Qaa h
  have e1:(g.k == 1)=true:=by rw [h];rfl
  clear h;obtain ⟨c0,c1,c2,c3,c4,c5,c6,c7,c8,c9,af,ae,ag⟩:=Qbt HP.out.ro;obtain ⟨f0,f1,f2,f3,f4,f5,f6,f7,f8,f9,an,am,al⟩:=QcN HP.out.ro;obtain ⟨x0,x1,x2,x3,x4,x5,x6,x7,x8,x9,aj,ah,ai⟩:=Qbt HP.out.ra;obtain ⟨y0,y1,y2,y3,y4,y5,y6⟩:=cA7 HP.out.rx;go_wp2_with fail;clear c0 c1 c2 c3 c4 c5 c6 c7 c8 c9 af ae ag f0 f1 f2 f3 f4 f5 f6 f7 f8 f9 an am al x0 x1 x2 x3 x4 x5 x6 x7 x8 x9 aj ah ai y0 y1 y2 y3 y4 y5 y6;have ab:=Qaa (HP.out.sam (Qar g.s 1));generalize W1.setCell ⟨b,1,none⟩ (.int .u64 (Qar g.s 1))=W2 at ab ⊢;clear HP;have ad:(fun W=>Below W2.heap.size W2 W) W2.drew:=(ZZb _ _).drew;refine Qaj (fun W=>Below W2.heap.size W2 W) 9 (by kernel_rfl) ?_;refine tkS 0 (.pointer (some ⟨w.heap.size,2,none⟩)) ad ?_;refine tkL 1 (.agg #[.int .i64 g.h,.int .u64 g.l]) ad (fun W hW=>?_) ?_
  ·have ac:=ab.out.past hW
   obtain ⟨x0,x1,x2,x3,x4,x5,x6,x7,x8,x9,aj,ah,ai⟩:=Qbt ac.ra;obtain ⟨y0,y1,y2,y3,y4,y5,y6⟩:=cA7 ac.rx;clear ac;clear hW;go_simp
  refine tkS 2 (.pointer (some ⟨w.heap.size+1,2,none⟩)) ad ?_;simp only [sX];refine tkL 3 (.int .i64 x.v) ad (fun W hW=>?_) ?_
  ·have ac:=ab.out.past hW
   obtain ⟨x0,x1,x2,x3,x4,x5,x6,x7,x8,x9,aj,ah,ai⟩:=Qbt ac.ra;obtain ⟨y0,y1,y2,y3,y4,y5,y6⟩:=cA7 ac.rx;clear ac;clear hW;go_simp
  refine tkS 4 (.pointer (some ⟨w.heap.size+1,4,none⟩)) ad ?_;refine tkL 5 (.int .u64 x.wt) ad (fun W hW=>?_) ?_
  ·have ac:=ab.out.past hW
   obtain ⟨x0,x1,x2,x3,x4,x5,x6,x7,x8,x9,aj,ah,ai⟩:=Qbt ac.ra;obtain ⟨y0,y1,y2,y3,y4,y5,y6⟩:=cA7 ac.rx;clear ac;clear hW;go_simp
  simp only [sX];refine onE 6 fun K hK=>?_;go_simp;refine (Qe0 x.v x.wt OX.out.v OX.out.wt _).mono ?_;rintro e w3 ⟨rfl,aJ⟩;have aH:Hid (Below W2.heap.size W2 w3):=(ad:Below W2.heap.size W2 W2.drew).trans (aJ.mono (ZZa _));clear aJ;dsimp only;refine gK hK aH.out ?_
  try simp only [sX]
  refine onE 7 fun K hK=>?_;go_simp;refine (QbN g.h g.l (thH x.v x.wt) (thL x.v x.wt) _ OK.out.l (show U64 (thL x.v x.wt) from QeJ _)).mono ?_;rintro e w4 ⟨rfl,ak⟩;have au:Hid (Below W2.heap.size W2 w4):=Qac aH ak;have aa:=Qaa (ab.out.past au);clear ak;obtain ⟨c0,c1,c2,c3,c4,c5,c6,c7,c8,c9,af,ae,ag⟩:=Qbt aa.out.ro;obtain ⟨f0,f1,f2,f3,f4,f5,f6,f7,f8,f9,an,am,al⟩:=QcN aa.out.ro;obtain ⟨z0,z1,z2,z3,z4,z5,z6,z7,z8,z9,ao,ar,ax⟩:=Qbt aa.out.rr;obtain ⟨k0,k1,k2,k3,k4,k5,k6,k7,k8,k9,aE,aF,aC⟩:=QcN aa.out.rr;have av:Hid (AgO w4 (w.heap.size+1+1+1) ⟨g.k,Qar g.s 1,QaO g.h g.l (thH x.v x.wt) (thL x.v x.wt),QaS g.l (thL x.v x.wt),g.a,g.t,g.z,g.P,g.N,g.x,g.y,g.E,g.R⟩ q):=⟨aa.out.own.P,aa.out.own.N,aa.out.own.ap,aa.out.own.E,aa.out.own.R⟩;have aw:Hid (∀ k,Qdu ⟨g.k,Qar g.s 1,QaO g.h g.l (thH x.v x.wt) (thL x.v x.wt),QaS g.l (thL x.v x.wt),g.a,g.t,g.z,g.P,g.N,g.x,g.y,g.E,g.R⟩ q k->k≠b):=fun k e=>Nat.ne_of_lt (aa.out.ne k e);dsimp only;refine gK hK au.out ?_
  try simp only [sX]
  refine tkS 8 (.pointer (some ⟨b,2,none⟩)) au ?_;simp only [sX];refine onE 9 fun K hK=>?_;go_simp;refine hK.out _ _ (fun h=>absurd rfl h) ?_
  try simp only [sX]
  refine dnE ?_ _;go_wp2;refine bodyPost_ret (v:=.agg (Qak ⟨g.k,Qar g.s 1,QaO g.h g.l (thH x.v x.wt) (thL x.v x.wt),QaS g.l (thL x.v x.wt),g.a,g.t,g.z,g.P,g.N,g.x,g.y,g.E,g.R⟩ q)) (by simp [results,Tryz.results96,go_sem,c0,c1,c2,c3,c4,c5,c6,c7,c8,c9,af,ae,ag,z0,z1,z2,z3,z4,z5,z6,z7,z8,z9,ao,ar,ax]) rfl (AgRes.mk (o:=⟨g.k,Qar g.s 1,QaO g.h g.l (thH x.v x.wt) (thL x.v x.wt),QaS g.l (thL x.v x.wt),g.a,g.t,g.z,g.P,g.N,g.x,g.y,g.E,g.R⟩) (p:=q) (putC' OX HG HX aA aq) ?_ ?_)
  ·refine AgO.le (B:=w.heap.size+1+1+1) ?_ (by omega)
   repeat (first | refine AgO.below ?_ (by omega) _ | refine AgO.setNe ?_ aw _)
   exact av.out
  ·repeat (refine Below.setCell ?_ (by simp <;> omega) _)
   exact aa.out.bel
 ·have aq:=Qaa h
  have e1:(g.k == 1)=false:=ZZf.2 (by omega);have e2:(g.k == 2)=true:=by rw [h];rfl
  clear h;obtain ⟨c0,c1,c2,c3,c4,c5,c6,c7,c8,c9,af,ae,ag⟩:=Qbt HP.out.ro;obtain ⟨f0,f1,f2,f3,f4,f5,f6,f7,f8,f9,an,am,al⟩:=QcN HP.out.ro;obtain ⟨x0,x1,x2,x3,x4,x5,x6,x7,x8,x9,aj,ah,ai⟩:=Qbt HP.out.ra;obtain ⟨y0,y1,y2,y3,y4,y5,y6⟩:=cA7 HP.out.rx;go_wp2_with fail;clear c0 c1 c2 c3 c4 c5 c6 c7 c8 c9 af ae ag f0 f1 f2 f3 f4 f5 f6 f7 f8 f9 an am al x0 x1 x2 x3 x4 x5 x6 x7 x8 x9 aj ah ai y0 y1 y2 y3 y4 y5 y6;have ab:=Qaa (HP.out.sam (Qar g.s 1));generalize W1.setCell ⟨b,1,none⟩ (.int .u64 (Qar g.s 1))=W2 at ab ⊢;clear HP;refine (QiX { g with s:=Qar g.s 1 } q x.v x.ti _).mono ?_;rintro e w4 ⟨rfl,ak⟩;have aa:=Qaa (ab.out.past ak);clear ak;obtain ⟨c0,c1,c2,c3,c4,c5,c6,c7,c8,c9,af,ae,ag⟩:=Qbt aa.out.ro;obtain ⟨f0,f1,f2,f3,f4,f5,f6,f7,f8,f9,an,am,al⟩:=QcN aa.out.ro;obtain ⟨z0,z1,z2,z3,z4,z5,z6,z7,z8,z9,ao,ar,ax⟩:=Qbt aa.out.rr;obtain ⟨k0,k1,k2,k3,k4,k5,k6,k7,k8,k9,aE,aF,aC⟩:=QcN aa.out.rr;have av:Hid (AgO w4 (w.heap.size+1+1+1) ⟨g.k,Qar g.s 1,g.h,g.l,gA g.a g.t x.v x.ti,gT g.a g.t x.v x.ti,g.z,g.P,g.N,g.x,g.y,g.E,g.R⟩ q):=⟨aa.out.own.P,aa.out.own.N,aa.out.own.ap,aa.out.own.E,aa.out.own.R⟩;have aw:Hid (∀ k,Qdu ⟨g.k,Qar g.s 1,g.h,g.l,gA g.a g.t x.v x.ti,gT g.a g.t x.v x.ti,g.z,g.P,g.N,g.x,g.y,g.E,g.R⟩ q k->k≠b):=fun k e=>Nat.ne_of_lt (aa.out.ne k e);go_wp2;refine bodyPost_ret (v:=.agg (Qak ⟨g.k,Qar g.s 1,g.h,g.l,gA g.a g.t x.v x.ti,gT g.a g.t x.v x.ti,g.z,g.P,g.N,g.x,g.y,g.E,g.R⟩ q)) (by simp [results,Tryz.results96,go_sem,c0,c1,c2,c3,c4,c5,c6,c7,c8,c9,af,ae,ag,z0,z1,z2,z3,z4,z5,z6,z7,z8,z9,ao,ar,ax]) rfl (AgRes.mk (o:=⟨g.k,Qar g.s 1,g.h,g.l,gA g.a g.t x.v x.ti,gT g.a g.t x.v x.ti,g.z,g.P,g.N,g.x,g.y,g.E,g.R⟩) (p:=q) (putG' OX HG HX aA aq) ?_ ?_)
  ·refine AgO.le (B:=w.heap.size+1+1+1) ?_ (by omega)
   repeat (first | refine AgO.below ?_ (by omega) _ | refine AgO.setNe ?_ aw _)
   exact av.out
  ·repeat (refine Below.setCell ?_ (by simp <;> omega) _)
   exact aa.out.bel
 ·have aq:=Qaa h
  have e1:(g.k == 1)=false:=ZZf.2 (by omega);have e2:(g.k == 2)=false:=ZZf.2 (by omega);have e3:(g.k == 3)=true:=by rw [h];rfl
  clear h;obtain ⟨c0,c1,c2,c3,c4,c5,c6,c7,c8,c9,af,ae,ag⟩:=Qbt HP.out.ro;obtain ⟨f0,f1,f2,f3,f4,f5,f6,f7,f8,f9,an,am,al⟩:=QcN HP.out.ro;obtain ⟨x0,x1,x2,x3,x4,x5,x6,x7,x8,x9,aj,ah,ai⟩:=Qbt HP.out.ra;obtain ⟨y0,y1,y2,y3,y4,y5,y6⟩:=cA7 HP.out.rx;go_wp2_with fail;clear c0 c1 c2 c3 c4 c5 c6 c7 c8 c9 af ae ag f0 f1 f2 f3 f4 f5 f6 f7 f8 f9 an am al x0 x1 x2 x3 x4 x5 x6 x7 x8 x9 aj ah ai y0 y1 y2 y3 y4 y5 y6;have ab:=Qaa (HP.out.sam (Qar g.s 1));generalize W1.setCell ⟨b,1,none⟩ (.int .u64 (Qar g.s 1))=W2 at ab ⊢;clear HP;have aD:=QbV NO.out.sk;refine (QmE OK.out.z OK.out.y OX.out.v OX.out.wt rfl rfl aD.1.2 aD.2.2 (Qae HA.out.P ab.out.bel) (Qae HA.out.N ab.out.bel) OK.out.P OK.out.N (Qbo HX).2.1 PL.out.cP PL.out.cN).mono ?_;clear aD;rintro e w4 ⟨v4,rfl,⟨vp,vn,pn,nn,rfl,o1,o2,aI⟩,ak⟩;obtain ⟨pa,pc,rfl⟩:=o1.any;obtain ⟨na,nc,rfl⟩:=o2.any;obtain rfl:=o1.1;obtain rfl:=o2.1;have aa:=Qaa (ab.out.past ak);have aO:=ab.out.lo;have av:Hid (AgO w4 (w.heap.size+1+1+1) ⟨g.k,Qar g.s 1,g.h,g.l,g.a,g.t,QeF g.z x.v x.wt,QcW g.P x.v x.wt,QcP g.N x.v x.wt,QaO g.x g.y (thH x.v x.wt) (thL x.v x.wt),QaS g.y (thL x.v x.wt),g.E,g.R⟩ ⟨pa,pc,na,nc,q.ea,q.ec,q.ra,q.rc⟩):=⟨o1.le (by omega),o2.le (by omega),aI,aa.out.own.E,aa.out.own.R⟩
  have aw:Hid (∀ k,Qdu ⟨g.k,Qar g.s 1,g.h,g.l,g.a,g.t,QeF g.z x.v x.wt,QcW g.P x.v x.wt,QcP g.N x.v x.wt,QaO g.x g.y (thH x.v x.wt) (thL x.v x.wt),QaS g.y (thL x.v x.wt),g.E,g.R⟩ ⟨pa,pc,na,nc,q.ea,q.ec,q.ra,q.rc⟩ k->k≠b):=fun k e=>by
   rcases e with (e | e) | e
   ·have:=(o1.lt k e).1;omega
   ·have:=(o2.lt k e).1;omega
   ·exact Nat.ne_of_lt (aa.out.ne k (.inr e))
  clear ak o1 o2 aI;obtain ⟨c0,c1,c2,c3,c4,c5,c6,c7,c8,c9,af,ae,ag⟩:=Qbt aa.out.ro;obtain ⟨f0,f1,f2,f3,f4,f5,f6,f7,f8,f9,an,am,al⟩:=QcN aa.out.ro;obtain ⟨z0,z1,z2,z3,z4,z5,z6,z7,z8,z9,ao,ar,ax⟩:=Qbt aa.out.rr;obtain ⟨k0,k1,k2,k3,k4,k5,k6,k7,k8,k9,aE,aF,aC⟩:=QcN aa.out.rr;go_wp2;refine bodyPost_ret (v:=.agg (Qak ⟨g.k,Qar g.s 1,g.h,g.l,g.a,g.t,QeF g.z x.v x.wt,QcW g.P x.v x.wt,QcP g.N x.v x.wt,QaO g.x g.y (thH x.v x.wt) (thL x.v x.wt),QaS g.y (thL x.v x.wt),g.E,g.R⟩ ⟨pa,pc,na,nc,q.ea,q.ec,q.ra,q.rc⟩)) (by simp [results,Tryz.results96,go_sem,c0,c1,c2,c3,c4,c5,c6,c7,c8,c9,af,ae,ag,z0,z1,z2,z3,z4,z5,z6,z7,z8,z9,ao,ar,ax]) rfl (AgRes.mk (o:=⟨g.k,Qar g.s 1,g.h,g.l,g.a,g.t,QeF g.z x.v x.wt,QcW g.P x.v x.wt,QcP g.N x.v x.wt,QaO g.x g.y (thH x.v x.wt) (thL x.v x.wt),QaS g.y (thL x.v x.wt),g.E,g.R⟩) (p:=⟨pa,pc,na,nc,q.ea,q.ec,q.ra,q.rc⟩) (putH' OX HG HX aA aq OK) ?_ ?_)
  ·refine AgO.le (B:=w.heap.size+1+1+1) ?_ (by omega)
   repeat (first | refine AgO.below ?_ (by omega) _ | refine AgO.setNe ?_ aw _)
   exact av.out
  ·repeat (refine Below.setCell ?_ (by simp <;> omega) _)
   exact aa.out.bel
 ·have aq:=Qaa h
  have e1:(g.k == 1)=false:=ZZf.2 (by omega);have e2:(g.k == 2)=false:=ZZf.2 (by omega);have e3:(g.k == 3)=false:=ZZf.2 (by omega);clear h;obtain ⟨c0,c1,c2,c3,c4,c5,c6,c7,c8,c9,af,ae,ag⟩:=Qbt HP.out.ro;obtain ⟨f0,f1,f2,f3,f4,f5,f6,f7,f8,f9,an,am,al⟩:=QcN HP.out.ro;obtain ⟨x0,x1,x2,x3,x4,x5,x6,x7,x8,x9,aj,ah,ai⟩:=Qbt HP.out.ra;obtain ⟨y0,y1,y2,y3,y4,y5,y6⟩:=cA7 HP.out.rx;go_wp2_with fail;clear c0 c1 c2 c3 c4 c5 c6 c7 c8 c9 af ae ag f0 f1 f2 f3 f4 f5 f6 f7 f8 f9 an am al x0 x1 x2 x3 x4 x5 x6 x7 x8 x9 aj ah ai y0 y1 y2 y3 y4 y5 y6;have ab:=Qaa (HP.out.sam (Qar g.s 1));generalize W1.setCell ⟨b,1,none⟩ (.int .u64 (Qar g.s 1))=W2 at ab ⊢;clear HP;have ad:(fun W=>Below W2.heap.size W2 W) W2.drew:=(ZZb _ _).drew;refine Qaj (fun W=>Below W2.heap.size W2 W) 7 (by kernel_rfl) ?_;refine tkS 0 (.pointer (some ⟨w.heap.size,11,none⟩)) ad ?_;refine tkL 1 (.agg #[.slice p.ea g.E.length p.ec,.slice p.ra g.R.length p.rc]) ad (fun W hW=>?_) ?_
  ·have ac:=ab.out.past hW
   obtain ⟨x0,x1,x2,x3,x4,x5,x6,x7,x8,x9,aj,ah,ai⟩:=Qbt ac.ra;obtain ⟨y0,y1,y2,y3,y4,y5,y6⟩:=cA7 ac.rx;clear ac;clear hW;go_simp
  refine tkS 2 (.pointer (some ⟨w.heap.size+1,3,none⟩)) ad ?_;simp only [sX];refine tkL 3 (.string x.wd) ad (fun W hW=>?_) ?_
  ·have ac:=ab.out.past hW
   obtain ⟨x0,x1,x2,x3,x4,x5,x6,x7,x8,x9,aj,ah,ai⟩:=Qbt ac.ra;obtain ⟨y0,y1,y2,y3,y4,y5,y6⟩:=cA7 ac.rx;clear ac;clear hW;go_simp
  simp only [sX];refine onE 4 fun K hK=>?_;go_simp;refine (QkE x.wd OX.out.wd _).mono ?_;rintro e wz ⟨rfl,aG⟩;obtain rfl:=aG.symm;dsimp only;refine gK hK ad ?_
  try simp only [sX]
  refine onE 5 fun K hK=>?_;go_simp;refine (Qo3 (Qdw x.wd) NO.out.hl rfl rfl PL.out.lE PL.out.mE PL.out.fE PL.out.cE (Qaf HA.out.E (Qac ab.out.bel ad)) (Qaf HA.out.R (Qac ab.out.bel ad)) OK.out.E (Qk0 _)).mono ?_;rintro e w4 ⟨v4,E,R,rfl,hM,⟨ve,vr,rfl,o3,o4⟩,ak⟩;obtain ⟨ea,ec,rfl⟩:=Qam o3;obtain ⟨ra,rc,rfl⟩:=Qam o4;have HM:=Qaa hM;have au:Hid (Below W2.heap.size W2 w4):=(ad:Below W2.heap.size W2 W2.drew).trans (ak.mono (ZZa _));have aa:=Qaa (ab.out.past au);have aO:=ab.out.lo;have aS:W2.drew.heap.size=W2.heap.size:=rfl;have av:Hid (AgO w4 (w.heap.size+1+1+1) ⟨g.k,Qar g.s 1,g.h,g.l,g.a,g.t,g.z,g.P,g.N,g.x,g.y,E,R⟩ ⟨q.pa,q.pc,q.na,q.nc,ea,ec,ra,rc⟩):=⟨aa.out.own.P,aa.out.own.N,aa.out.own.ap,⟨rfl,QaE o3 (by omega)⟩,⟨rfl,QaE o4 (by omega)⟩⟩
  have aw:Hid (∀ k,Qdu ⟨g.k,Qar g.s 1,g.h,g.l,g.a,g.t,g.z,g.P,g.N,g.x,g.y,E,R⟩ ⟨q.pa,q.pc,q.na,q.nc,ea,ec,ra,rc⟩ k->k≠b):=fun k e=>by
   rcases e with e | (e | e)
   ·exact Nat.ne_of_lt (aa.out.ne k (.inl e))
   ·have:=Qbg o3 k e;omega
   ·have:=Qbg o4 k e;omega
  clear ak o3 o4 hM;obtain ⟨c0,c1,c2,c3,c4,c5,c6,c7,c8,c9,af,ae,ag⟩:=Qbt aa.out.ro;obtain ⟨f0,f1,f2,f3,f4,f5,f6,f7,f8,f9,an,am,al⟩:=QcN aa.out.ro;obtain ⟨z0,z1,z2,z3,z4,z5,z6,z7,z8,z9,ao,ar,ax⟩:=Qbt aa.out.rr;obtain ⟨k0,k1,k2,k3,k4,k5,k6,k7,k8,k9,aE,aF,aC⟩:=QcN aa.out.rr;dsimp only;refine gK hK au.out ?_
  try simp only [sX]
  refine tkS 6 (.pointer (some ⟨b,11,none⟩)) au ?_;simp only [sX];refine onE 7 fun K hK=>?_;go_simp;refine hK.out _ _ (fun h=>absurd rfl h) ?_
  try simp only [sX]
  refine dnE ?_ _;go_wp2;refine bodyPost_ret (v:=.agg (Qak ⟨g.k,Qar g.s 1,g.h,g.l,g.a,g.t,g.z,g.P,g.N,g.x,g.y,E,R⟩ ⟨q.pa,q.pc,q.na,q.nc,ea,ec,ra,rc⟩)) (by simp [results,Tryz.results96,go_sem,c0,c1,c2,c3,c4,c5,c6,c7,c8,c9,af,ae,ag,z0,z1,z2,z3,z4,z5,z6,z7,z8,z9,ao,ar,ax]) rfl (AgRes.mk (o:=⟨g.k,Qar g.s 1,g.h,g.l,g.a,g.t,g.z,g.P,g.N,g.x,g.y,E,R⟩) (p:=⟨q.pa,q.pc,q.na,q.nc,ea,ec,ra,rc⟩) (putS' OX HG HX aA aq HM) ?_ ?_)
  ·refine AgO.le (B:=w.heap.size+1+1+1) ?_ (by omega)
   repeat (first | refine AgO.below ?_ (by omega) _ | refine AgO.setNe ?_ aw _)
   exact av.out
  ·repeat (refine Below.setCell ?_ (by simp <;> omega) _)
   exact aa.out.bel
end Go.Proofs.YtandnmpllheniaaGreatDoor
