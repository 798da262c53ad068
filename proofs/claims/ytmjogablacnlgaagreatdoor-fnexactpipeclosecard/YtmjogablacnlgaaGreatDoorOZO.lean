/-
 PipeOut: compared, written over, looked at again.
-/
import Derived.Test.YtmjogablacnlgaaGreatDoorOYI
namespace Go.Proofs.YtmjogablacnlgaaGreatDoor
set_option linter.unusedVariables false
set_option linter.unusedSimpArgs false
open Go.ChangeShapes Go.WideShapes Go.ChangeAt Go.RowKit Go.PlainAid Go.Lib
set_option maxRecDepth 10000
abbrev poArr (v:Value) (q:Pi) (u:Value) (cd:Int):Array Value:=#[v,.int .i64 q.a,.int .i64 q.b,.int .i64 q.c,.int .i64 q.d,u,.int .i64 cd]
theorem box7 {w:World} {r:Nat} {a b c d e f g:Value} {T:TypeId} (h:w.heap[r]?=some (.cells #[a,b,c,d,e,f,g] T (0,0))):w.cell? ⟨r,0,none⟩=some a∧w.cell? ⟨r,1,none⟩=some b∧w.cell? ⟨r,2,none⟩=some c∧w.cell? ⟨r,3,none⟩=some d∧w.cell? ⟨r,4,none⟩=some e∧w.cell? ⟨r,5,none⟩=some f∧w.cell? ⟨r,6,none⟩=some g:=⟨cellP h 0 rfl,cellP h 1 rfl,cellP h 2 rfl,cellP h 3 rfl,cellP h 4 rfl,cellP h 5 rfl,cellP h 6 rfl⟩
structure PoB (w:World) (lo hi:Nat) (v:Value) (M:List Sd) (u:Value) (C:List Ce):Prop where
 p:PpB w lo hi v M
 c:CsB w lo hi u C
 ap:∀ k,PBlk v M k→¬ CBlk u C k
def OBlk (v:Value) (M:List Sd) (u:Value) (C:List Ce) (k:Nat):Prop:=PBlk v M k∨CBlk u C k
section
variable {w w':World} {lo hi:Nat} {v u:Value} {M:List Sd} {C:List Ce}
theorem PoB.past (h:PoB w lo hi v M u C) (hb:Below w.heap.size w w'):PoB w' lo hi v M u C:=⟨h.p.past hb,h.c.past hb,h.ap⟩
theorem PoB.keptS {S:Nat→Prop} (h:PoB w lo hi v M u C) (hg:GrownS w w' S) (hS:∀ k,lo≤k→k<hi→¬ S k):PoB w' lo hi v M u C:=⟨h.p.keptS hg hS,h.c.keptS hg hS,h.ap⟩
theorem PoB.hb (h:PoB w lo hi v M u C):∀ k,OBlk v M u C k→lo≤k∧k<hi:=fun k q=>q.elim (h.p.hi k) (h.c.hi k)
theorem PoB.none (r:OwnD w lo v M) (o:LvO w lo M):PoB w lo w.heap.size v M (.slice none 0 0) []:=
 ⟨PpB.of r o,CsB.of (OwnC.nil _ _) (CesO.nil _ _),fun k _ q=>by
  rcases q with q | ⟨c,hc,_⟩
  ·cases q
  ·cases hc⟩
end
theorem ownD_len {w:World} {B n c:Nat} {ao:Option Addr} {M:List Sd} (h:OwnD w B (.slice ao n c) M):M.length=n:=by
 obtain ⟨_,_,e,_⟩:=h.form;injection e with _ e _;exact e.symm
theorem ownC_len {w:World} {B n c:Nat} {ao:Option Addr} {L:List Ce} (h:OwnC w B (.slice ao n c) L):L.length=n:=by
 obtain ⟨_,_,e,_⟩:=h.form;injection e with _ e _;exact e.symm
theorem box_so (w:World) (a b:Array Value) (T:TypeId):Hid (Below w.heap.size w ((w.alloc (.cells a T)).alloc (.cells b T)))∧Hid (∀ W,Below ((w.alloc (.cells a T)).alloc (.cells b T)).heap.size ((w.alloc (.cells a T)).alloc (.cells b T)) W→W.heap[w.heap.size]?=some (.cells a T (0,0))∧W.heap[w.heap.size+1]?=some (.cells b T (0,0))):=by
 have a1:∀ (X:World) o,Below X.heap.size X (X.alloc o):=fun X o=>(Below.refl _ _).alloc (Nat.le_refl _) _;have k0:=heap_alloc_new w (.cells a T);have k1:=heap_alloc_new (w.alloc (.cells a T)) (.cells b T);simp only [World.size_alloc] at k1;exact ⟨hide (chain (a1 _ _) (a1 _ _)),hide (fun W hW=>⟨(hW.block _ (by simp;omega)).trans (((a1 _ _).block _ (by simp)).trans k0),(hW.block _ (by simp)).trans k1⟩)⟩
set_option maxHeartbeats 4000000 in
theorem c_eqPo {w:World} {lo hi lo' hi' n c m e n' c' m' e':Nat} {a d a' d':Option Addr} {M M':List Sd} {C C':List Ce} (q:Pi) (cd:Int) (h:PoB w lo hi (.slice a n c) M (.slice d m e) C) (k:PoB w lo' hi' (.slice a' n' c') M' (.slice d' m' e') C') (bM:SdsSm M) (bC:CBd C) (e1:M.map Sd.key=M'.map Sd.key) (e2:C.map Ce.key=C'.map Ce.key) :
  Calls Tryz.prog 25 #[.agg (poArr (.slice a n c) q (.slice d m e) cd),.agg (poArr (.slice a' n' c') q (.slice d' m' e') cd)] w fun e w'=>e=.returned (.bool true)∧Below w.heap.size w w':=by
 obtain ⟨HT0,HX⟩:=box_so w (poArr (.slice a n c) q (.slice d m e) cd) (poArr (.slice a' n' c') q (.slice d' m' e') cd) 41;have hl:=congrArg List.length e1;rw [List.length_map,List.length_map,ownD_len h.p.r,ownD_len k.p.r] at hl;have hc:=congrArg List.length e2;rw [List.length_map,List.length_map,ownC_len h.c.r,ownC_len k.c.r] at hc;subst hl;subst hc;have H:=hide h;have K:=hide k;have BM:=hide bM;have BC:=hide bC;have E1:=hide e1;have E2:=hide e2;clear h k bM bC e1 e2;obtain ⟨x0,x1,x2,x3,x4,_,_⟩:=box7 (HX.out _ (Below.refl _ _)).1;obtain ⟨y0,y1,y2,y3,y4,_,_⟩:=box7 (HX.out _ (Below.refl _ _)).2;go_enter Tryz.func25,Tryz.ntmps25;go_wp2_with fail;clear x0 x1 x2 x3 x4 y0 y1 y2 y3 y4;generalize (w.alloc (.cells (poArr (.slice a n c) q (.slice d m e) cd) 41)).alloc (.cells (poArr (.slice a' n c') q (.slice d' m e') cd) 41)=W0 at HT0 HX ⊢;refine (c_eqPipe q (ownD_len H.out.p.r) (ownD_len K.out.p.r) E1.out BM.out (H.out.past HT0.out).p.at (K.out.past HT0.out).p.at).mono ?_;rintro e w1 ⟨rfl,hb1⟩;have HT1:=hide (chain HT0.out hb1);have HX1:=hide hb1;clear hb1;have x2:=cellP (HX.out _ HX1.out).1 5 rfl;have y2:=cellP (HX.out _ HX1.out).2 5 rfl;go_wp2_with fail;clear x2 y2;refine (c_eqC (H.out.past HT1.out).c (K.out.past HT1.out).c BC.out E2.out).mono ?_;rintro e w2 ⟨rfl,hb2⟩;have HT2:=hide (chain HT1.out hb2);have x3:=cellP (HX.out _ (chain HX1.out hb2)).1 6 rfl;have y3:=cellP (HX.out _ (chain HX1.out hb2)).2 6 rfl;clear hb2;go_wp2;go_ret;exact ⟨rfl,HT2.out⟩
structure PoM (w:World) (lo:Nat) (v:Value) (M:List Sd) (u:Value) (C:List Ce):Prop where
 r:OwnD w lo v (mkSs 1 M)
 o:LvO w lo (mkSs 1 M)
 c:OwnC w lo u (mkCs (1+totS M) C)
 d:CesO w lo (mkCs (1+totS M) C)
theorem PoM.past {w w':World} {lo:Nat} {v u:Value} {M:List Sd} {C:List Ce} (h:PoM w lo v M u C) (hb:Below w.heap.size w w'):PoM w' lo v M u C:=⟨h.r.past hb,h.o.past hb,h.c.past hb,h.d.past hb⟩
theorem mkSs_blk:∀ {M:List Sd} {k:Nat} {t:Sd},t∈mkSs k M→∃ s∈M,∀ j,CBlk (slS t) t.L j→CBlk (slS s) s.L j
 | [],k,t,h=>by cases h
 | s :: M,k,t,h=>by
  rw [mkSs] at h;rcases List.mem_cons.1 h with e | h
  ·refine ⟨s,List.mem_cons_self,fun j q=>?_⟩
   subst e;rcases q with q | ⟨c,hc,q⟩
   ·refine .inl ?_
    have e:slS (mkS k s)=slS s:=by show Value.slice _ (mkCs (k+1) s.L).length _=_;rw [mkCs_len];rfl
    rw [e] at q;exact q
   ·obtain ⟨d,hd,hq⟩:=mk_blk hc
    exact .inr ⟨d,hd,hq j q⟩
  ·obtain ⟨x,hx,hq⟩:=mkSs_blk h
   exact ⟨x,List.mem_cons_of_mem _ hx,hq⟩
set_option maxHeartbeats 4000000 in
theorem c_markPo {w:World} {lo hi n c m e:Nat} {a d:Option Addr} {M:List Sd} {C:List Ce} (q:Pi) (cd:Int) (h:PoB w lo hi (.slice a n c) M (.slice d m e) C) (bM:SBd M) (bC:CBd C) :
  Calls Tryz.prog 26 #[.agg (poArr (.slice a n c) q (.slice d m e) cd),.int .i64 1] w fun e1 w'=>e1=.returned (.int .i64 ((1+totS M+totC C:Nat):Int))∧PoM w' lo (.slice a n c) M (.slice d m e) C∧GrownS w w' (OBlk (.slice a n c) M (.slice d m e) C):=by
 have HB0:=hide (pi_alloc w (poArr (.slice a n c) q (.slice d m e) cd) 41);have HX:=hide (heap_alloc_new w (.cells (poArr (.slice a n c) q (.slice d m e) cd) 41));have H:=hide h;have BM:=hide bM;have BC:=hide bC;clear h bM bC;obtain ⟨x0,x1,x2,x3,x4,_,_⟩:=box7 HX.out;go_enter Tryz.func26,Tryz.ntmps26;go_wp2_with fail;clear x0 x1 x2 x3 x4;have hbx:w.heap.size<(w.alloc (.cells (poArr (.slice a n c) q (.slice d m e) cd) 41)).heap.size:=by simp
 generalize w.alloc (.cells (poArr (.slice a n c) q (.slice d m e) cd) 41)=W0 at HB0 HX hbx ⊢;have hW:=H.out.past HB0.out;refine (c_markPipe q 1 (Nat.le_refl _) (by have:=BM.out.t;omega) (ownD_len H.out.p.r) (by rw [← ownD_len H.out.p.r];exact BM.out.n) BM.out.l BM.out.s hW.p.r hW.p.o).mono ?_;rintro e w1 ⟨rfl,hM⟩;have hlt:∀ k,PBlk (.slice a n c) M k→k<w.heap.size:=fun k q=>((PpB.of H.out.p.r H.out.p.o).hi k q).2;have hlc:∀ k,CBlk (.slice d m e) C k→k<w.heap.size:=fun k q=>((CsB.of H.out.c.r H.out.c.o).hi k q).2;have HX1:=hide (hM.g.row HX.out (fun q=>by have:=hlt _ q;omega));have OC:=hide (hW.c.r.keptS hM.g (fun k q1 q2=>H.out.ap k q2 (.inl q1)));have CC:=hide (hW.c.o.keptS hM.g (fun x mx k q1 q2=>H.out.ap k q2 (.inr ⟨x,mx,q1⟩)));have HM:=hide hM;clear hM hlt hlc hW hbx;have x5:=cellP HX1.out 5 rfl;go_wp2_with fail;clear x5;refine (c_markCellS (1+totS M) (by omega) (by have:=BM.out.t;have:=BC.out.t;omega) (ownC_len OC.out) (by rw [← ownC_len OC.out];exact BC.out.l) BC.out.s OC.out CC.out).mono ?_;rintro e w2 ⟨rfl,hM2⟩
 have HF:Hid (PoM w2 lo (.slice a n c) M (.slice d m e) C):=by
  refine hide ⟨HM.out.r.keptS hM2.g (fun k q1 q2=>H.out.ap k (.inl q1) q2),HM.out.o.keptS hM2.g (fun s hs k q1 q2=>?_),hM2.r,hM2.o⟩;obtain ⟨t,ht,hq⟩:=mkSs_blk hs;exact H.out.ap k (.inr ⟨t,ht,hq k q1⟩) q2
 have HG:Hid (GrownS w w2 (OBlk (.slice a n c) M (.slice d m e) C)):=hide ((((GrownS.ofBelow HB0.out).trans HM.out.g).trans hM2.g).weak (fun k q=>q.elim (fun q=>q.elim (fun f=>f.elim) .inl) .inr));clear hM2;go_wp2;go_ret;exact ⟨rfl,HF.out,HG.out⟩
set_option maxHeartbeats 4000000 in
theorem c_heldPo {w:World} {lo n c m e:Nat} {a d:Option Addr} {M:List Sd} {C:List Ce} (q:Pi) (cd:Int) (h:PoM w lo (.slice a n c) M (.slice d m e) C) (bM:SBd M) (bC:CBd C) :
  Calls Tryz.prog 27 #[.agg (poArr (.slice a n c) q (.slice d m e) cd),.int .i64 1] w fun e1 w'=>e1=.returned (.int .i64 ((1+totS M+totC C:Nat):Int))∧Below w.heap.size w w':=by
 have HB0:=hide (pi_alloc w (poArr (.slice a n c) q (.slice d m e) cd) 41);have HX:=hide (heap_alloc_new w (.cells (poArr (.slice a n c) q (.slice d m e) cd) 41));have hln:M.length=n:=by rw [← mkSs_len 1 M];exact ownD_len h.r
 have hlm:C.length=m:=by rw [← mkCs_len (1+totS M) C];exact ownC_len h.c
 have H:=hide h;have BM:=hide bM;have BC:=hide bC;clear h bM bC;obtain ⟨x0,x1,x2,x3,x4,_,_⟩:=box7 HX.out;go_enter Tryz.func27,Tryz.ntmps27;go_wp2_with fail;clear x0 x1 x2 x3 x4;generalize w.alloc (.cells (poArr (.slice a n c) q (.slice d m e) cd) 41)=W0 at HB0 HX ⊢;have hW:=H.out.past HB0.out;refine (c_heldPipe q 1 (Nat.le_refl _) (by have:=BM.out.t;omega) hln (by rw [← hln];exact BM.out.n) BM.out.l BM.out.s hW.r hW.o).mono ?_;rintro e w1 ⟨rfl,hb1⟩;have HT1:=hide (chain HB0.out hb1);have HX1:=hide (hpast HX.out hb1);have hn:¬ (((1+totS M:Nat):Int)<0):=by omega
 clear hb1 hW;have x5:=cellP HX1.out 5 rfl;go_wp2_with fail;clear x5 hn;have hW:=H.out.past HT1.out;refine (c_heldCellS (1+totS M) (by omega) (by have:=BM.out.t;have:=BC.out.t;omega) hlm (by rw [← hlm];exact BC.out.l) BC.out.s hW.c hW.d).mono ?_;rintro e w2 ⟨rfl,hb2⟩;have HT2:=hide (chain HT1.out hb2);have hn2:¬ (((1+totS M+totC C:Nat):Int)<0):=by omega
 clear hb2 hW;go_wp2;go_ret;exact ⟨rfl,HT2.out⟩
end Go.Proofs.YtmjogablacnlgaaGreatDoor
