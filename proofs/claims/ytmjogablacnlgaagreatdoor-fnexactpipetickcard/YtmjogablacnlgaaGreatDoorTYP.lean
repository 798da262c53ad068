/-
 PipeTick, of the program and of its model.
-/
import Derived.Test.YtmjogablacnlgaaGreatDoorTYM
import Derived.Test.YtmjogablacnlgaaGreatDoorTYO
namespace Go.Proofs.YtmjogablacnlgaaGreatDoor
set_option linter.unusedVariables false
set_option linter.unusedSimpArgs false
open Go.ChangeShapes Go.WideShapes Go.ChangeAt Go.RowKit Go.PlainAid Go.Lib
set_option maxRecDepth 10000
theorem pip_now {S:List Sd} {p:Pi} (h:pipB S p=true):(1≤p.a∧p.a≤1000)∧(0≤p.b∧p.b≤1000)∧(0≤p.c∧p.c≤1000000000)∧0≤p.d∧p.d≤1000000000:=by
 unfold pipB at h;simp only [Bool.and_eq_true] at h;have h1:=h.1;unfold clkB inB at h1;simp only [Bool.and_eq_true,decide_eq_true_eq] at h1;omega
theorem tick_yes {S:List Sd} {p:Pi} {n:Int} (h:pipB S p=true) (h0:0≤n) (h1:n≤1000000000 - p.c):tickP S p n={ p with c:=p.c+n }:=by unfold tickP;rw [if_pos ⟨h,h0,h1⟩]
theorem tick_no {S:List Sd} {p:Pi} {n:Int} (h:pipB S p=false∨¬ 0≤n∨¬ n≤1000000000 - p.c):tickP S p n=p:=by
 unfold tickP;rw [if_neg];rintro ⟨a,b,c⟩;rcases h with h | h | h
 ·rw [h] at a;cases a
 ·exact h b
 ·exact h c
theorem tickP_key {S M:List Sd} (e:M.map Sd.key=S.map Sd.key) (p:Pi) (n:Int):tickP M p n=tickP S p n:=by unfold tickP;rw [pipB_key e]
theorem CpP.from {w W w':World} {S M:List Sd} {v:Value} (h:CpP W w' S v M) (hb:Below w.heap.size w W):CpP w w' S v M:=⟨h.r.le hb.size,h.o.le hb.size,h.ky,chain hb h.b⟩
theorem CpP.past {w w' W:World} {S M:List Sd} {v:Value} (h:CpP w w' S v M) (hb:Below w'.heap.size w' W):CpP w W S v M:=⟨h.r.past hb,h.o.past hb,h.ky,chain h.b hb⟩
def TkQ (w:World) (L mb:Nat) (p:Pi) (n:Int) (w':World):Prop:=∃ q:Pi,w'.heap[L]?=some (.cells (lvArr q mb) 82 (0,0))∧w.grownBy w' (some L)∧(0≤n→n≤1000000000 - p.c→q={ p with c:=p.c+n })∧(¬ 0≤n∨¬ n≤1000000000 - p.c→q=p)
set_option maxHeartbeats 4000000 in
theorem c_tick {w:World} {L mb:Nat} (p:Pi) (n:Int) (hc:0≤p.c∧p.c≤1000000000) (hL:w.heap[L]?=some (.cells (lvArr p mb) 82 (0,0))) :
  Calls Tryz.prog 50 #[.pointer (some ⟨L,0,none⟩),.int .i64 n] w fun e w'=>e=.returned (.tuple #[])∧TkQ w L mb p n w':=by
 obtain ⟨x0,x1,x2,x3,x4⟩:=box5 hL;have f2:=fzR 2 hL;have hw1:IntKind.i64.wrap (1000000000 - p.c)=1000000000 - p.c:=IntWalk.i64_in _ ⟨by omega,by omega⟩;by_cases h0:0≤n
 ·have d0:decide (0≤n)=true:=decide_eq_true h0
  by_cases h1:n≤1000000000 - p.c
  ·have d1:decide (n≤1000000000 - p.c)=true:=decide_eq_true h1
   have hw2:IntKind.i64.wrap (p.c+n)=p.c+n:=IntWalk.i64_in _ ⟨by omega,by omega⟩;have HF:Hid (TkQ w L mb p n (w.setCell ⟨L,2,none⟩ (.int .i64 (p.c+n)))):=hide ⟨{ p with c:=p.c+n },heap_setCell_same w L 2 _ _ _ hL,grown_one w L 2 _,fun _ _=>rfl,fun h=>by rcases h with h | h <;> exact absurd (by assumption) h⟩;clear hL hc;go_enter Tryz.func50,Tryz.ntmps50;go_wp2;exact bodyPost_end (v:=.tuple #[]) (by simp [results,Tryz.results50,go_sem]) rfl ⟨rfl,HF.out⟩
  ·have d1:decide (n≤1000000000 - p.c)=false:=decide_eq_false h1
   have HF:Hid (TkQ w L mb p n w):=hide ⟨p,hL,World.grownBy.refl _ _,fun _ h=>absurd h h1,fun _=>rfl⟩;clear hL hc;go_enter Tryz.func50,Tryz.ntmps50;go_wp2;exact bodyPost_end (v:=.tuple #[]) (by simp [results,Tryz.results50,go_sem]) rfl ⟨rfl,HF.out⟩
 ·have d0:decide (0≤n)=false:=decide_eq_false h0
  have HF:Hid (TkQ w L mb p n w):=hide ⟨p,hL,World.grownBy.refl _ _,fun h=>absurd h h0,fun _=>rfl⟩;clear hL hc;go_enter Tryz.func50,Tryz.ntmps50;go_wp2;exact bodyPost_end (v:=.tuple #[]) (by simp [results,Tryz.results50,go_sem]) rfl ⟨rfl,HF.out⟩
theorem rise_of {S:List Sd} (h:sdsB S=true):RiseT (S.map Sd.nm):=by
 have hmb:membersB (S.map Sd.nm)=true:=(Bool.and_eq_true_iff.1 (by unfold sdsB at h;exact h)).1;refine List.pairwise_iff_getElem.2 (fun i j hi hj hij=>?_);have n1:(S.map Sd.nm)[i]?=some (S.map Sd.nm)[i]:=List.getElem?_eq_getElem hi;have n2:(S.map Sd.nm)[i+(j - i - 1)+1]?=some (S.map Sd.nm)[j]:=by rw [show i+(j - i - 1)+1=j by omega];exact List.getElem?_eq_getElem hj
 exact memb_rise hmb n1 (j - i - 1) n2
theorem CpP.fin {w W0 w1 W:World} {S M:List Sd} {v:Value} (h:CpP W0 w1 S v M) (hT:Below w.heap.size w W0) (hlo:w.heap.size+1+1≤W0.heap.size) (hb:Below w1.heap.size w1 W):CpP w W S v M∧LvO W (w.heap.size+1+1) M∧∀ j,v.ownBlock=some j→w.heap.size+1+1≤j:=
 ⟨(h.past hb).from hT,((h.past hb).o.le hlo),fun j q=>Nat.le_trans hlo (World.ownsRow.lt h.r j q).1⟩
set_option maxHeartbeats 8000000 in
theorem c_s_PipeTick {w:World} {ao:Option Addr} {N ca:Nat} {S:List Sd} (p:Pi) (n:Int) (hI:PpI w ao N S) :
  Calls Tryz.prog 14 #[.agg (piArr (.slice ao N ca) p),.int .i64 n] w fun e w'=>CpA w S (tickP S p n) e w':=by
 have HI:=hide hI;have a1:∀ (X:World) o,Below X.heap.size X (X.alloc o):=fun X o=>(Below.refl _ _).alloc (Nat.le_refl _) _;have k0:=heap_alloc_new w (.cells (piArr (.slice ao N ca) p) 29);have k1:=heap_alloc_new (w.alloc (.cells (piArr (.slice ao N ca) p) 29)) (.cells zeroPi 29);simp only [World.size_alloc] at k1;have HR0:=hide (hpast k0 (a1 _ (.cells zeroPi 29)));have HR1:=hide k1;have HT0:=hide (chain (a1 w (.cells (piArr (.slice ao N ca) p) 29)) (a1 _ (.cells zeroPi 29)));clear hI a1 k0 k1;go_enter Tryz.func14,Tryz.ntmps14;go_upto_region 1 with fail;generalize (w.alloc (.cells (piArr (.slice ao N ca) p) 29)).alloc (.cells zeroPi 29)=W0 at HR0 HR1 HT0 ⊢;have hlo:w.heap.size+1+1≤W0.heap.size:=(Array.getElem?_eq_some_iff.1 HR1.out).1;have HLO:=hide hlo;clear hlo;obtain ⟨x0,x1,x2,x3,x4⟩:=box5 HR0.out;go_wp2_with fail;clear x0 x1 x2 x3 x4;refine (c_l10Copy p (HI.out.past HT0.out)).mono ?_;rintro e w1 ⟨v,M,rfl,hC⟩;obtain ⟨av,cv,rfl,_⟩:=hC.r.form;have hal:Below w1.heap.size w1 (w1.alloc (.cells (piArr (.slice av M.length cv) p) 29)):=(Below.refl _ _).alloc (Nat.le_refl _) _;have HC:=hide hC;have HB2:=hide hal;have HY:=hide (heap_alloc_new w1 (.cells (piArr (.slice av M.length cv) p) 29));have HR0a:=hide (hpast (hpast HR0.out hC.b) hal);have HR1a:=hide (hpast (hpast HR1.out hC.b) hal);have HT1:=hide (chain (chain HT0.out hC.b) hal);clear hC hal HR0 HR1;go_upto_region 2 with fail;generalize w1.alloc (.cells (piArr (.slice av M.length cv) p) 29)=W1 at HB2 HY HR0a HR1a HT1 ⊢;obtain ⟨x0,x1,x2,x3,x4⟩:=box5 HR0a.out;go_wp2_with fail;clear x0 x1 x2 x3 x4;refine (c_s_PipeRight p HI.out.n HI.out.sm HI.out.ok (sds_past HI.out.at' HT1.out)).mono ?_;rintro e w2 ⟨rfl,hb2⟩;have HY2:=hide (hpast HY.out hb2);have HR02:=hide (hpast HR0a.out hb2);have HR12:=hide (hpast HR1a.out hb2);have HB22:=hide (chain HB2.out hb2);clear hb2 HY HR0a HR1a HT1 HB2;have END:Hid (∀ (W:World) (q:Pi),Below w1.heap.size w1 W→tickP S p n=q→(CpP w W S (.slice av M.length cv) M∧LvO W (w.heap.size+1+1) M∧∀ j,(Value.slice av M.length cv).ownBlock=some j→w.heap.size+1+1≤j)∧tickP S p n=q):=fun W q hb e=>⟨HC.out.fin HT0.out HLO.out hb,e⟩;obtain ⟨x0,x1,x2,x3,x4⟩:=box5 HR02.out;obtain ⟨y0,y1,y2,y3,y4⟩:=box5 HR12.out;obtain ⟨z0,z1,z2,z3,z4⟩:=box5 HY2.out;have f0:=fzR 0 HR12.out;have f1:=fzR 1 HR12.out;have f2:=fzR 2 HR12.out;have f3:=fzR 3 HR12.out;have f4:=fzR 4 HR12.out;have g3:=fzR 3 HY2.out
 cases hp:pipB S p with
 | false=>
  obtain ⟨E1,E2⟩:=END.out w2 p HB22.out (tick_no (.inl hp));have HE1:=hide E1;have HE2:=hide E2;clear E1 E2 END HY2 HR02 HR12 HB22 hp;go_wp2;refine bodyPost_ret (v:=.agg (piArr (.slice av M.length cv) p)) (by simp [results,Tryz.results14,go_sem,y0,y1,y2,y3,y4]) rfl ⟨.slice av M.length cv,M,by rw [HE2.out],?_⟩;exact CpP.sets2 HE1.out.2.2 HE1.out.2.1 HE1.out.1
 | true=>
  have hnow:=(pip_now hp).2.2.1;have hw1:IntKind.i64.wrap (1000000000 - p.c)=1000000000 - p.c:=IntWalk.i64_in _ ⟨by omega,by omega⟩;by_cases h0:0≤n
  ·have d0:decide (0≤n)=true:=decide_eq_true h0
   by_cases h1:n≤1000000000 - p.c
   ·have d1:decide (n≤1000000000 - p.c)=true:=decide_eq_true h1
    have hw2:IntKind.i64.wrap (p.c+n)=p.c+n:=IntWalk.i64_in _ ⟨by omega,by omega⟩;obtain ⟨E1,E2⟩:=END.out (w2.setCell ⟨w1.heap.size,3,none⟩ (.int .i64 (p.c+n))) { p with c:=p.c+n } (HB22.out.setCell (Nat.le_refl _) _) (tick_yes hp h0 h1);have HE1:=hide E1;have HY3:=heap_setCell_same w2 w1.heap.size 3 _ _ (.int .i64 (p.c+n)) HY2.out;have hne:w.heap.size+1≠w1.heap.size:=by have:=(Array.getElem?_eq_some_iff.1 HR12.out).1;have:=HLO.out;have:=HC.out.b.size;omega
    have HR13:(w2.setCell ⟨w1.heap.size,3,none⟩ (.int .i64 (p.c+n))).heap[w.heap.size+1]?=some (.cells zeroPi 29 (0,0)):=(heap_setCell_other _ _ _ _ (by simpa using hne)).trans HR12.out;have HE2:=hide E2;go_upto_region 4 with fail;clear x0 x1 x2 x3 x4 y0 y1 y2 y3 y4 z0 z1 z2 z3 z4 f0 f1 f2 f3 f4 g3 E1 E2 END hw1 hw2 d0 d1;generalize w2.setCell ⟨w1.heap.size,3,none⟩ (.int .i64 (p.c+n))=W3 at HE1 HY3 HR13 ⊢;obtain ⟨y0,y1,y2,y3,y4⟩:=box5 HR13;obtain ⟨z0,z1,z2,z3,z4⟩:=box5 HY3;have f0:=fzR 0 HR13;have f1:=fzR 1 HR13;have f2:=fzR 2 HR13;have f3:=fzR 3 HR13;have f4:=fzR 4 HR13;clear HY3 HR13 HY2 HR02 HR12 HB22 hp hnow h0 h1;go_wp2;refine bodyPost_ret (v:=.agg (piArr (.slice av M.length cv) { p with c:=p.c+n })) (by simp [results,Tryz.results14,go_sem,y0,y1,y2,y3,y4]) rfl ⟨.slice av M.length cv,M,by rw [HE2.out],?_⟩;exact CpP.sets2 HE1.out.2.2 HE1.out.2.1 HE1.out.1
   ·have d1:decide (n≤1000000000 - p.c)=false:=decide_eq_false h1
    obtain ⟨E1,E2⟩:=END.out w2 p HB22.out (tick_no (.inr (.inr h1)));have HE1:=hide E1;have HE2:=hide E2;clear E1 E2 END HY2 HR02 HR12 HB22 hp hnow;go_wp2;refine bodyPost_ret (v:=.agg (piArr (.slice av M.length cv) p)) (by simp [results,Tryz.results14,go_sem,y0,y1,y2,y3,y4]) rfl ⟨.slice av M.length cv,M,by rw [HE2.out],?_⟩;exact CpP.sets2 HE1.out.2.2 HE1.out.2.1 HE1.out.1
  ·have d0:decide (0≤n)=false:=decide_eq_false h0
   obtain ⟨E1,E2⟩:=END.out w2 p HB22.out (tick_no (.inr (.inl h0)));have HE1:=hide E1;have HE2:=hide E2;clear E1 E2 END HY2 HR02 HR12 HB22 hp hnow;go_wp2;refine bodyPost_ret (v:=.agg (piArr (.slice av M.length cv) p)) (by simp [results,Tryz.results14,go_sem,y0,y1,y2,y3,y4]) rfl ⟨.slice av M.length cv,M,by rw [HE2.out],?_⟩;exact CpP.sets2 HE1.out.2.2 HE1.out.2.1 HE1.out.1
set_option maxHeartbeats 8000000 in
theorem c_i_PipeTick {w:World} {ao:Option Addr} {N ca:Nat} {S:List Sd} (p:Pi) (n:Int) (hm:MX w) (hI:PpI w ao N S) :
  Calls Tryz.prog 15 #[.agg (piArr (.slice ao N ca) p),.int .i64 n] w fun e w'=>CpA w S (tickP S p n) e w':=by
 have HM:=hide hm;clear hm;have HI:=hide hI;have a1:∀ (X:World) o,Below X.heap.size X (X.alloc o):=fun X o=>(Below.refl _ _).alloc (Nat.le_refl _) _;have k0:=heap_alloc_new w (.cells (piArr (.slice ao N ca) p) 29);have k1:=heap_alloc_new (w.alloc (.cells (piArr (.slice ao N ca) p) 29)) (.cells zeroPi 29);simp only [World.size_alloc] at k1;have HR0:=hide (hpast k0 (a1 _ (.cells zeroPi 29)));have HR1:=hide k1;have HT0:=hide (chain (a1 w (.cells (piArr (.slice ao N ca) p) 29)) (a1 _ (.cells zeroPi 29)));clear hI a1 k0 k1;go_enter Tryz.func15,Tryz.ntmps15;go_upto_region 1 with fail;generalize (w.alloc (.cells (piArr (.slice ao N ca) p) 29)).alloc (.cells zeroPi 29)=W0 at HR0 HR1 HT0 ⊢;have hlo:w.heap.size+1+1≤W0.heap.size:=(Array.getElem?_eq_some_iff.1 HR1.out).1;have HLO:=hide hlo;clear hlo;obtain ⟨x0,x1,x2,x3,x4⟩:=box5 HR0.out;go_wp2_with fail;clear x0 x1 x2 x3 x4;refine (c_i_PipeRight p HI.out.n HI.out.sm (fun s hs c hc=>⟨(HI.out.ok s hs c hc).1,(HI.out.ok s hs c hc).2.1⟩) (HM.out.past HT0.out) (sds_past HI.out.at' HT0.out)).mono ?_;rintro e w1 ⟨rfl,hb1⟩;have HR01:=hide (hpast HR0.out hb1);have HR11:=hide (hpast HR1.out hb1);have HT1:=hide (chain HT0.out hb1);have HLO1:=hide (Nat.le_trans HLO.out hb1.size);clear hb1 HR0 HR1
 cases hp:pipB S p with
 | false=>
  have HE2:=hide (tick_no (n:=n) (.inl hp));obtain ⟨x0,x1,x2,x3,x4⟩:=box5 HR01.out;go_wp2_with fail;clear x0 x1 x2 x3 x4;refine (c_copyPipe p (HI.out.past HT1.out)).mono ?_;rintro e w2 ⟨v,M,rfl,hC⟩;have HE1:=hide (hC.fin HT1.out HLO1.out (Below.refl _ _));have R1:=hpast HR11.out hC.b;obtain ⟨av,cv,rfl,_⟩:=hC.r.form;obtain ⟨y0,y1,y2,y3,y4⟩:=box5 R1;have f0:=fzR 0 R1;have f1:=fzR 1 R1;have f2:=fzR 2 R1;have f3:=fzR 3 R1;have f4:=fzR 4 R1;clear R1 hC HR01 HR11 hp;go_wp2;refine bodyPost_ret (v:=.agg (piArr (.slice av M.length cv) p)) (by simp [results,Tryz.results15,go_sem,y0,y1,y2,y3,y4]) rfl ⟨.slice av M.length cv,M,by rw [HE2.out],?_⟩;exact CpP.sets2 HE1.out.2.2 HE1.out.2.1 HE1.out.1
 | true=>
  have HP:=hide hp;have HQ:=hide (HI.out.qs hp);clear hp;obtain ⟨x0,x1,x2,x3,x4⟩:=box5 HR01.out;go_wp2_with fail;clear x0 x1 x2 x3 x4;refine (c_liveOf p HI.out.n (by have:=HQ.out.n;have:=HI.out.n;omega) HI.out.sm.l HI.out.sm.sm (fun s hs c hc=>(HI.out.ok s hs c hc).2.2) (fun s hs=>by have:=HI.out.sm.nz s hs;unfold maxLen;omega) (sds_ap (pip_parts HP.out).1) (sds_past HI.out.at' HT1.out)).mono ?_;rintro e w2 ⟨mb,rfl,Bm,M,hl⟩;have hky:M.map Sd.key=S.map Sd.key:=by have:=hl.ky;rw [List.take_of_length_le (by have:=HI.out.n;omega)] at this;exact this
  have hal:Below w2.heap.size w2 (w2.alloc (.cells (lvArr p mb) 82)):=(Below.refl _ _).alloc (Nat.le_refl _) _;have HL:=hide hl;have HKy:=hide hky;have HB2:=hide hal;have HY:=hide (heap_alloc_new w2 (.cells (lvArr p mb) 82));clear hl hky hal;go_upto_region 4 with fail;generalize w2.alloc (.cells (lvArr p mb) 82)=W2 at HB2 HY ⊢;go_wp2_with fail;refine (c_tick p n (pip_now HP.out).2.2.1 HY.out).mono ?_;rintro e w3 ⟨rfl,q,hq,hg,hq1,hq2⟩;have hb3:Below w2.heap.size w2 w3:=HB2.out.grown hg HB2.out.size (fun j hj=>by injection hj with hj;omega)
  have hqt:tickP S p n=q:=by
   by_cases h0:0≤n
   ·by_cases h1:n≤1000000000 - p.c
    ·rw [tick_yes HP.out h0 h1,hq1 h0 h1]
    ·rw [tick_no (.inr (.inr h1)),hq2 (.inr h1)]
   ·rw [tick_no (.inr (.inl h0)),hq2 (.inl h0)]
  have HE2:=hide hqt;have HQ3:=hide hq;have HB3:=hide hb3;clear hq hg hq1 hq2 hb3 hqt HY HB2;obtain ⟨x0,x1,x2,x3,x4⟩:=box5 HQ3.out;go_wp2_with fail;clear x0 x1 x2 x3 x4
  have hml:M.length≤1000:=by
   have:=congrArg List.length HKy.out;rw [List.length_map,List.length_map] at this;have:=HQ.out.n;omega
  refine (c_pipe q (HL.out.mp.past HB3.out) (List.Perm.refl M) (by rw [nm_key HKy.out];exact rise_of (pip_parts HP.out).1) hml (fun s hs=>by
   obtain ⟨t,ht,e,_⟩:=sds_mem HKy.out hs;have:=HI.out.sm.nz t ht;rw [e];unfold maxLen;omega)).mono ?_
  rintro e w4 ⟨v,rfl,ho,hb4⟩;have hbz:=HB3.out.size;have hC:CpP w1 w4 S v M:=⟨ho.le (Nat.le_trans HL.out.b.size hbz),((HL.out.o.past HB3.out).past hb4).le (Nat.le_of_lt (Nat.lt_of_le_of_lt HL.out.le HL.out.lt)),HKy.out,chain (chain HL.out.b HB3.out) hb4⟩;have HE1:=hide (hC.fin HT1.out HLO1.out (Below.refl _ _));have R1:=hpast HR11.out hC.b;obtain ⟨av,cv,rfl,_⟩:=hC.r.form;obtain ⟨y0,y1,y2,y3,y4⟩:=box5 R1;have f0:=fzR 0 R1;have f1:=fzR 1 R1;have f2:=fzR 2 R1;have f3:=fzR 3 R1;have f4:=fzR 4 R1;clear R1 hC HR01 HR11 ho hb4 hbz HL HQ3 HB3;go_wp2;refine bodyPost_ret (v:=.agg (piArr (.slice av M.length cv) q)) (by simp [results,Tryz.results15,go_sem,y0,y1,y2,y3,y4]) rfl ⟨.slice av M.length cv,M,by rw [HE2.out],?_⟩;exact CpP.sets2 HE1.out.2.2 HE1.out.2.1 HE1.out.1
end Go.Proofs.YtmjogablacnlgaaGreatDoor
