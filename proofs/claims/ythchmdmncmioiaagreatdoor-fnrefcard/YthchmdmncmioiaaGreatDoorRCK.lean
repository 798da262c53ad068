/-
 l08Copy, l08Take of the model.
-/
import Derived.Test.YthchmdmncmioiaaGreatDoorRCJ
namespace Go.Proofs.YthchmdmncmioiaaGreatDoor
set_option linter.unusedVariables false
set_option linter.unusedSimpArgs false
open Go.ChangeShapes Go.WideShapes Go.ChangeAt Go.RowKit Go.PlainAid Go.Lib Go.Maps
set_option maxRecDepth 10000
theorem row15 {w:World} {r:Nat} {T:TypeId} {a b u0 u1 u2 u3 u4 u5 u6 u7 u8 u9 u10 u11 u12 v0 v1 v2 v3 v4 v5 v6 v7 v8 v9 v10 v11 v12:Value} (h:w.heap[r]?=some (.cells #[a,b,u0,u1,u2,u3,u4,u5,u6,u7,u8,u9,u10,u11,u12] T (0,0))) :
  (((((((((((((w.setCell ⟨r,2,none⟩ v0).setCell ⟨r,3,none⟩ v1).setCell ⟨r,4,none⟩ v2).setCell ⟨r,5,none⟩ v3).setCell ⟨r,6,none⟩ v4).setCell ⟨r,7,none⟩ v5).setCell ⟨r,8,none⟩ v6).setCell ⟨r,9,none⟩ v7).setCell ⟨r,10,none⟩ v8).setCell ⟨r,11,none⟩ v9).setCell ⟨r,12,none⟩ v10).setCell ⟨r,13,none⟩ v11).setCell ⟨r,14,none⟩ v12).heap[r]?=some (.cells #[a,b,v0,v1,v2,v3,v4,v5,v6,v7,v8,v9,v10,v11,v12] T (0,0)):=by
 have h0:(w.setCell ⟨r,2,none⟩ v0).heap[r]?=some (.cells #[a,b,v0,u1,u2,u3,u4,u5,u6,u7,u8,u9,u10,u11,u12] T (0,0)):=heap_setCell_same _ r 2 _ _ v0 h;have h1:((w.setCell ⟨r,2,none⟩ v0).setCell ⟨r,3,none⟩ v1).heap[r]?=some (.cells #[a,b,v0,v1,u2,u3,u4,u5,u6,u7,u8,u9,u10,u11,u12] T (0,0)):=heap_setCell_same _ r 3 _ _ v1 h0;have h2:(((w.setCell ⟨r,2,none⟩ v0).setCell ⟨r,3,none⟩ v1).setCell ⟨r,4,none⟩ v2).heap[r]?=some (.cells #[a,b,v0,v1,v2,u3,u4,u5,u6,u7,u8,u9,u10,u11,u12] T (0,0)):=heap_setCell_same _ r 4 _ _ v2 h1;have h3:((((w.setCell ⟨r,2,none⟩ v0).setCell ⟨r,3,none⟩ v1).setCell ⟨r,4,none⟩ v2).setCell ⟨r,5,none⟩ v3).heap[r]?=some (.cells #[a,b,v0,v1,v2,v3,u4,u5,u6,u7,u8,u9,u10,u11,u12] T (0,0)):=heap_setCell_same _ r 5 _ _ v3 h2;have h4:(((((w.setCell ⟨r,2,none⟩ v0).setCell ⟨r,3,none⟩ v1).setCell ⟨r,4,none⟩ v2).setCell ⟨r,5,none⟩ v3).setCell ⟨r,6,none⟩ v4).heap[r]?=some (.cells #[a,b,v0,v1,v2,v3,v4,u5,u6,u7,u8,u9,u10,u11,u12] T (0,0)):=heap_setCell_same _ r 6 _ _ v4 h3;have h5:((((((w.setCell ⟨r,2,none⟩ v0).setCell ⟨r,3,none⟩ v1).setCell ⟨r,4,none⟩ v2).setCell ⟨r,5,none⟩ v3).setCell ⟨r,6,none⟩ v4).setCell ⟨r,7,none⟩ v5).heap[r]?=some (.cells #[a,b,v0,v1,v2,v3,v4,v5,u6,u7,u8,u9,u10,u11,u12] T (0,0)):=heap_setCell_same _ r 7 _ _ v5 h4;have h6:(((((((w.setCell ⟨r,2,none⟩ v0).setCell ⟨r,3,none⟩ v1).setCell ⟨r,4,none⟩ v2).setCell ⟨r,5,none⟩ v3).setCell ⟨r,6,none⟩ v4).setCell ⟨r,7,none⟩ v5).setCell ⟨r,8,none⟩ v6).heap[r]?=some (.cells #[a,b,v0,v1,v2,v3,v4,v5,v6,u7,u8,u9,u10,u11,u12] T (0,0)):=heap_setCell_same _ r 8 _ _ v6 h5;have h7:((((((((w.setCell ⟨r,2,none⟩ v0).setCell ⟨r,3,none⟩ v1).setCell ⟨r,4,none⟩ v2).setCell ⟨r,5,none⟩ v3).setCell ⟨r,6,none⟩ v4).setCell ⟨r,7,none⟩ v5).setCell ⟨r,8,none⟩ v6).setCell ⟨r,9,none⟩ v7).heap[r]?=some (.cells #[a,b,v0,v1,v2,v3,v4,v5,v6,v7,u8,u9,u10,u11,u12] T (0,0)):=heap_setCell_same _ r 9 _ _ v7 h6;have h8:(((((((((w.setCell ⟨r,2,none⟩ v0).setCell ⟨r,3,none⟩ v1).setCell ⟨r,4,none⟩ v2).setCell ⟨r,5,none⟩ v3).setCell ⟨r,6,none⟩ v4).setCell ⟨r,7,none⟩ v5).setCell ⟨r,8,none⟩ v6).setCell ⟨r,9,none⟩ v7).setCell ⟨r,10,none⟩ v8).heap[r]?=some (.cells #[a,b,v0,v1,v2,v3,v4,v5,v6,v7,v8,u9,u10,u11,u12] T (0,0)):=heap_setCell_same _ r 10 _ _ v8 h7;have h9:((((((((((w.setCell ⟨r,2,none⟩ v0).setCell ⟨r,3,none⟩ v1).setCell ⟨r,4,none⟩ v2).setCell ⟨r,5,none⟩ v3).setCell ⟨r,6,none⟩ v4).setCell ⟨r,7,none⟩ v5).setCell ⟨r,8,none⟩ v6).setCell ⟨r,9,none⟩ v7).setCell ⟨r,10,none⟩ v8).setCell ⟨r,11,none⟩ v9).heap[r]?=some (.cells #[a,b,v0,v1,v2,v3,v4,v5,v6,v7,v8,v9,u10,u11,u12] T (0,0)):=heap_setCell_same _ r 11 _ _ v9 h8;have h10:(((((((((((w.setCell ⟨r,2,none⟩ v0).setCell ⟨r,3,none⟩ v1).setCell ⟨r,4,none⟩ v2).setCell ⟨r,5,none⟩ v3).setCell ⟨r,6,none⟩ v4).setCell ⟨r,7,none⟩ v5).setCell ⟨r,8,none⟩ v6).setCell ⟨r,9,none⟩ v7).setCell ⟨r,10,none⟩ v8).setCell ⟨r,11,none⟩ v9).setCell ⟨r,12,none⟩ v10).heap[r]?=some (.cells #[a,b,v0,v1,v2,v3,v4,v5,v6,v7,v8,v9,v10,u11,u12] T (0,0)):=heap_setCell_same _ r 12 _ _ v10 h9;have h11:((((((((((((w.setCell ⟨r,2,none⟩ v0).setCell ⟨r,3,none⟩ v1).setCell ⟨r,4,none⟩ v2).setCell ⟨r,5,none⟩ v3).setCell ⟨r,6,none⟩ v4).setCell ⟨r,7,none⟩ v5).setCell ⟨r,8,none⟩ v6).setCell ⟨r,9,none⟩ v7).setCell ⟨r,10,none⟩ v8).setCell ⟨r,11,none⟩ v9).setCell ⟨r,12,none⟩ v10).setCell ⟨r,13,none⟩ v11).heap[r]?=some (.cells #[a,b,v0,v1,v2,v3,v4,v5,v6,v7,v8,v9,v10,v11,u12] T (0,0)):=heap_setCell_same _ r 13 _ _ v11 h10;have h12:(((((((((((((w.setCell ⟨r,2,none⟩ v0).setCell ⟨r,3,none⟩ v1).setCell ⟨r,4,none⟩ v2).setCell ⟨r,5,none⟩ v3).setCell ⟨r,6,none⟩ v4).setCell ⟨r,7,none⟩ v5).setCell ⟨r,8,none⟩ v6).setCell ⟨r,9,none⟩ v7).setCell ⟨r,10,none⟩ v8).setCell ⟨r,11,none⟩ v9).setCell ⟨r,12,none⟩ v10).setCell ⟨r,13,none⟩ v11).setCell ⟨r,14,none⟩ v12).heap[r]?=some (.cells #[a,b,v0,v1,v2,v3,v4,v5,v6,v7,v8,v9,v10,v11,v12] T (0,0)):=heap_setCell_same _ r 14 _ _ v12 h11;exact h12
theorem below_15 {w:World} {K r:Nat} {v0 v1 v2 v3 v4 v5 v6 v7 v8 v9 v10 v11 v12:Value} (hK:K≤r):Below K w (((((((((((((w.setCell ⟨r,2,none⟩ v0).setCell ⟨r,3,none⟩ v1).setCell ⟨r,4,none⟩ v2).setCell ⟨r,5,none⟩ v3).setCell ⟨r,6,none⟩ v4).setCell ⟨r,7,none⟩ v5).setCell ⟨r,8,none⟩ v6).setCell ⟨r,9,none⟩ v7).setCell ⟨r,10,none⟩ v8).setCell ⟨r,11,none⟩ v9).setCell ⟨r,12,none⟩ v10).setCell ⟨r,13,none⟩ v11).setCell ⟨r,14,none⟩ v12):=by
 repeat (refine Below.setCell ?_ hK _)
 exact Below.refl _ _
theorem AgO.kept15 {w:World} {B r:Nat} {o:Ag} {p:Pl} {v0 v1 v2 v3 v4 v5 v6 v7 v8 v9 v10 v11 v12:Value} (h:AgO w B o p) (hr:r<B):AgO (((((((((((((w.setCell ⟨r,2,none⟩ v0).setCell ⟨r,3,none⟩ v1).setCell ⟨r,4,none⟩ v2).setCell ⟨r,5,none⟩ v3).setCell ⟨r,6,none⟩ v4).setCell ⟨r,7,none⟩ v5).setCell ⟨r,8,none⟩ v6).setCell ⟨r,9,none⟩ v7).setCell ⟨r,10,none⟩ v8).setCell ⟨r,11,none⟩ v9).setCell ⟨r,12,none⟩ v10).setCell ⟨r,13,none⟩ v11).setCell ⟨r,14,none⟩ v12) B o p:=by
 repeat (refine AgO.below ?_ hr _)
 exact h
theorem OwnC.ne {w:World} {B B':Nat} {v:Value} {M:List Ce} {o:Ag} {p:Pl} (h:OwnC w B v M) (ha:AgO w B' o p):∀ k,AgBlk o p k→v.ownBlock≠some k:=fun k hk e=>by
 rcases h.2 with ⟨rfl,_⟩ | ⟨g,cap,cur,rfl,q1,q2,q3⟩
 ·cases e
 ·obtain rfl:g=k:=Option.some.inj e
  rcases hk with (hk | hk) | (hk | hk)
  ·exact ha.P.ne q2 (by decide) hk
  ·exact ha.N.ne q2 (by decide) hk
  ·rcases ha.E.2.2 with ⟨e',_⟩ | ⟨b,c,cur',e',h2,h3,h4⟩
   ·rw [e'] at hk;cases hk
   ·rw [e'] at hk
    obtain rfl:b=g:=Option.some.inj hk;rw [q2] at h3;injection h3 with h3;injection h3 with _ h3
    revert h3;decide
  ·rcases ha.R.2.2 with ⟨e',_⟩ | ⟨b,c,cur',e',h2,h3,h4⟩
   ·rw [e'] at hk;cases hk
   ·rw [e'] at hk
    obtain rfl:b=g:=Option.some.inj hk;rw [q2] at h3;injection h3 with h3;injection h3 with _ h3
    revert h3;decide
theorem CesO.row {w w':World} {B B':Nat} {v:Value} {L M:List Ce} (h:CesO w B L) (ho:OwnC w B' v M) (hg:w.grownBy w' v.ownBlock):CesO w' B L:=
 h.keptS (S:=fun k=>v.ownBlock=some k) ⟨hg.os,hg.tape,hg.output,hg.size,fun k hk hn=>hg.block k hk (fun e=>hn e.symm)⟩ (fun c hc k e=>ho.ne (h.o c hc) k e)
def ApV (u v:Value):Prop:=∀ k,u.ownBlock=some k→v.ownBlock≠some k
structure CpI (w wr:World) (L:List Ce) (k:Nat) (v:Value) (M:List Ce):Prop where
 r:OwnC wr w.heap.size v M
 o:CesO wr w.heap.size M
 ky:M.map Ce.key=(L.take k).map Ce.key
 b:Below w.heap.size w wr
theorem OwnC.made (w:World) (cs:Array Value) (h:cs.size=0):OwnC (w.alloc (.cells cs 51)) w.heap.size (.slice (some ⟨w.heap.size,0,none⟩) 0 0) []:=by
 have hb:=heap_alloc_new w (.cells cs 51);exact ⟨rfl,.inr ⟨_,0,cs,rfl,Nat.le_refl _,hb,Nat.le_refl _,Nat.zero_le _,by simpa using h,by simp [flC]⟩⟩
theorem CpI.len {w wr:World} {L M:List Ce} {k:Nat} {v:Value} (h:CpI w wr L k v M) (hk:k≤L.length):M.length=k:=by
 have:=congrArg List.length h.ky;simp at this;omega
theorem CpI.step {w wr w1 W2:World} {L M:List Ce} {k:Nat} {u:Value} {c:Ce} {q:Pl} (h:CpI w wr L k u M) (hc:L[k]?=some c) (hb1:Below wr.heap.size wr w1) (ho:AgO w1 wr.heap.size c.g q) (hb2:Below wr.heap.size w1 W2) (ho2:AgO W2 (wr.heap.size+1) c.g q)
  (v':Value) (w3:World) (hown:w3.ownsRow w.heap.size 51 15 v' (M.length+1) (flC M ++ ceL ⟨c.n,c.s,c.g,q⟩)) (hg:(W2.alloc (.cells (ceArr ⟨c.n,c.s,c.g,q⟩) 51)).grownBy w3 u.ownBlock):CpI w w3 L (k+1) v' (M ++ [⟨c.n,c.s,c.g,q⟩]):=by
 have hbr:Below wr.heap.size wr W2:=hb1.trans hb2;have hb4:Below wr.heap.size wr (W2.alloc (.cells (ceArr ⟨c.n,c.s,c.g,q⟩) 51)):=hbr.alloc hbr.size _;have hbw:Below w.heap.size w (W2.alloc (.cells (ceArr ⟨c.n,c.s,c.g,q⟩) 51)):=h.b.trans (hb4.mono h.b.size);have a2:Below W2.heap.size W2 (W2.alloc (.cells (ceArr ⟨c.n,c.s,c.g,q⟩) 51)):=(Below.refl _ _).alloc (Nat.le_refl _) _;have hO:=(h.o.add hb4 h.b.size (c:=⟨c.n,c.s,c.g,q⟩) ((ho2.past a2).le (Nat.le_succ _)));have hR:OwnC (W2.alloc (.cells (ceArr ⟨c.n,c.s,c.g,q⟩) 51)) w.heap.size u M:=h.r.past hb4;have hp:(⟨c.n,c.s,c.g,q⟩ :: M:List Ce).Perm (M ++ [⟨c.n,c.s,c.g,q⟩]):=(List.perm_append_singleton _ _).symm;refine ⟨?_,(hO.row hR hg).perm hp,?_,hbw.grown hg hbw.size (fun j hj=>(World.ownsRow.lt h.r j hj).1)⟩
 ·show w3.ownsRow _ _ _ _ _ _
  rw [List.length_append,flC_app,flC_one];exact hown
 ·rw [List.map_append,h.ky,List.take_add_one,hc,List.map_append];rfl
set_option maxHeartbeats 8000000 in
theorem c_l08CopyS {w:World} {ao:Option Addr} {N ca:Nat} {L:List Ce} (hN:L.length=N) (lN:N≤1048576) (sm:∀ c∈L,AgSm c.g) (pl:∀ c∈L,PlG c.g c.p) (hA:CesAt w ao L) :
  Calls Tryz.prog 94 #[.slice ao N ca] w fun e w'=>∃ v M,e=.returned v∧OwnC w' w.heap.size v M∧CesO w' w.heap.size M∧M.map Ce.key=L.map Ce.key∧Below w.heap.size w w'∧v≠.slice none 0 0:=by
 obtain ⟨i0,hi,hz0,hz1,hz2⟩:=infoCe;have HA:=hide hA;have HN:=hide hN;have SM:=hide sm;have PL:=hide pl;have M0:∀ cs:Array Value,cs.size=0→CpI w (w.alloc (.cells cs 51)) L 0 (.slice (some ⟨w.heap.size,0,none⟩) 0 0) []:=fun cs hcs=>⟨OwnC.made w cs hcs,CesO.nil _ _,by simp,(Below.refl _ _).alloc (Nat.le_refl _) _⟩;have M0:=hide M0;clear hA hN sm pl;go_enter Tryz.func94,Tryz.ntmps94;go_wp2
 go_loopw [3,4] (fun v i wr=>∃ (k:Nat) (M:List Ce),k≤N∧i=.int .i64 k∧Hid (CpI w wr L k v M)∧Hid (v≠.slice none 0 0)) (fun v i wr=>N - (Go.RowKit.intOf i).toNat)
 case atStart=>exact ⟨0,[],Nat.zero_le _,rfl,M0.out _ rfl,hide (fun e=>by cases e)⟩
 case round=>
  clear M0;obtain ⟨k,M,hk,rfl,HI,HNn⟩:=hrel;by_cases hkn:k<N
  ·obtain ⟨g,off,e,hcell⟩:=HA.out.1 (by have:=HN.out;omega)
   obtain ⟨c,hc⟩:∃ c,L[k]?=some c:=⟨L[k]'(by have:=HN.out;omega),List.getElem?_eq_getElem _⟩;subst e;obtain ⟨x0,x1,x2,x3,x4,x5,x6,x7,x8,x9,x10,x11,x12,x13,x14⟩:=cec_past (hcell k c hc) HI.out.b;have hm:=List.mem_of_getElem? hc;have HC:=hide hc;have SC:=hide (SM.out c hm);have PC:=hide (PL.out c hm);have AC:=hide (ag_past (HA.out.2 c hm) HI.out.b);have HB0:Hid (Below wr.heap.size wr (wr.alloc (.cells (ceArr c) 51))):=(Below.refl _ _).alloc (Nat.le_refl _) _;have HX:=hide (heap_alloc_new wr (.cells (ceArr c) 51));have HS0:Hid ((wr.alloc (.cells (ceArr c) 51)).heap.size=wr.heap.size+1):=by show _=_;simp
   have hkni:(k:Int)<(N:Int):=by omega
   clear hcell hc hm;go_wp2_with fail;clear x0 x1 x2 x3 x4 x5 x6 x7 x8 x9 x10 x11 x12 x13 x14;generalize wr.alloc (.cells (ceArr c) 51)=W0 at HB0 HX HS0 ⊢;refine (c_l07Copy SC.out PC.out (ag_past AC.out HB0.out)).mono ?_;rintro e w1 ⟨v,o,rfl,rfl,⟨q,rfl,ho⟩,hb1⟩;have hrow:w1.heap[wr.heap.size]?=some (.cells (ceArr c) 51 (0,0)):=(hb1.block _ (by have:=HS0.out;omega)).trans HX.out;have HB1:=hide (chain HB0.out hb1);have HO:=hide (ho.le (show wr.heap.size≤W0.heap.size from HB0.out.size));have HO1:Hid (AgO w1 (wr.heap.size+1) c.g q):=by rw [← HS0.out];exact ho
   have f2:=fzR 2 hrow;have c2:=cellKC hrow 2 rfl;have f3:=fzR 3 hrow;have c3:=cellKC hrow 3 rfl;have f4:=fzR 4 hrow;have c4:=cellKC hrow 4 rfl;have f5:=fzR 5 hrow;have c5:=cellKC hrow 5 rfl;have f6:=fzR 6 hrow;have c6:=cellKC hrow 6 rfl;have f7:=fzR 7 hrow;have c7:=cellKC hrow 7 rfl;have f8:=fzR 8 hrow;have c8:=cellKC hrow 8 rfl;have f9:=fzR 9 hrow;have c9:=cellKC hrow 9 rfl;have f10:=fzR 10 hrow;have c10:=cellKC hrow 10 rfl;have f11:=fzR 11 hrow;have c11:=cellKC hrow 11 rfl;have f12:=fzR 12 hrow;have c12:=cellKC hrow 12 rfl;have f13:=fzR 13 hrow;have c13:=cellKC hrow 13 rfl;have f14:=fzR 14 hrow;have c14:=cellKC hrow 14 rfl;have HR2:=hide (row15 (v0:=.int .i64 c.g.k) (v1:=.int .u64 c.g.s) (v2:=.int .i64 c.g.h) (v3:=.int .u64 c.g.l) (v4:=.int .i64 c.g.a) (v5:=.int .i64 c.g.t) (v6:=.int .u64 c.g.z) (v7:=.slice q.pa c.g.P.length q.pc) (v8:=.slice q.na c.g.N.length q.nc) (v9:=.int .i64 c.g.x) (v10:=.int .u64 c.g.y) (v11:=.slice q.ea c.g.E.length q.ec) (v12:=.slice q.ra c.g.R.length q.rc) hrow);have HB2:Hid (Below wr.heap.size w1 (((((((((((((w1.setCell ⟨wr.heap.size,2,none⟩ (.int .i64 c.g.k)).setCell ⟨wr.heap.size,3,none⟩ (.int .u64 c.g.s)).setCell ⟨wr.heap.size,4,none⟩ (.int .i64 c.g.h)).setCell ⟨wr.heap.size,5,none⟩ (.int .u64 c.g.l)).setCell ⟨wr.heap.size,6,none⟩ (.int .i64 c.g.a)).setCell ⟨wr.heap.size,7,none⟩ (.int .i64 c.g.t)).setCell ⟨wr.heap.size,8,none⟩ (.int .u64 c.g.z)).setCell ⟨wr.heap.size,9,none⟩ (.slice q.pa c.g.P.length q.pc)).setCell ⟨wr.heap.size,10,none⟩ (.slice q.na c.g.N.length q.nc)).setCell ⟨wr.heap.size,11,none⟩ (.int .i64 c.g.x)).setCell ⟨wr.heap.size,12,none⟩ (.int .u64 c.g.y)).setCell ⟨wr.heap.size,13,none⟩ (.slice q.ea c.g.E.length q.ec)).setCell ⟨wr.heap.size,14,none⟩ (.slice q.ra c.g.R.length q.rc))):=below_15 (Nat.le_refl _);have HO2:Hid (AgO (((((((((((((w1.setCell ⟨wr.heap.size,2,none⟩ (.int .i64 c.g.k)).setCell ⟨wr.heap.size,3,none⟩ (.int .u64 c.g.s)).setCell ⟨wr.heap.size,4,none⟩ (.int .i64 c.g.h)).setCell ⟨wr.heap.size,5,none⟩ (.int .u64 c.g.l)).setCell ⟨wr.heap.size,6,none⟩ (.int .i64 c.g.a)).setCell ⟨wr.heap.size,7,none⟩ (.int .i64 c.g.t)).setCell ⟨wr.heap.size,8,none⟩ (.int .u64 c.g.z)).setCell ⟨wr.heap.size,9,none⟩ (.slice q.pa c.g.P.length q.pc)).setCell ⟨wr.heap.size,10,none⟩ (.slice q.na c.g.N.length q.nc)).setCell ⟨wr.heap.size,11,none⟩ (.int .i64 c.g.x)).setCell ⟨wr.heap.size,12,none⟩ (.int .u64 c.g.y)).setCell ⟨wr.heap.size,13,none⟩ (.slice q.ea c.g.E.length q.ec)).setCell ⟨wr.heap.size,14,none⟩ (.slice q.ra c.g.R.length q.rc)) (wr.heap.size+1) c.g q):=HO1.out.kept15 (Nat.lt_succ_self _);clear hrow hb1 ho HX HS0 HO1;go_upto_region 7 with fail;clear f2 c2 f3 c3 f4 c4 f5 c5 f6 c6 f7 c7 f8 c8 f9 c9 f10 c10 f11 c11 f12 c12 f13 c13 f14 c14;generalize (((((((((((((w1.setCell ⟨wr.heap.size,2,none⟩ (.int .i64 c.g.k)).setCell ⟨wr.heap.size,3,none⟩ (.int .u64 c.g.s)).setCell ⟨wr.heap.size,4,none⟩ (.int .i64 c.g.h)).setCell ⟨wr.heap.size,5,none⟩ (.int .u64 c.g.l)).setCell ⟨wr.heap.size,6,none⟩ (.int .i64 c.g.a)).setCell ⟨wr.heap.size,7,none⟩ (.int .i64 c.g.t)).setCell ⟨wr.heap.size,8,none⟩ (.int .u64 c.g.z)).setCell ⟨wr.heap.size,9,none⟩ (.slice q.pa c.g.P.length q.pc)).setCell ⟨wr.heap.size,10,none⟩ (.slice q.na c.g.N.length q.nc)).setCell ⟨wr.heap.size,11,none⟩ (.int .i64 c.g.x)).setCell ⟨wr.heap.size,12,none⟩ (.int .u64 c.g.y)).setCell ⟨wr.heap.size,13,none⟩ (.slice q.ea c.g.E.length q.ec)).setCell ⟨wr.heap.size,14,none⟩ (.slice q.ra c.g.R.length q.rc))=W2 at HR2 HB2 HO2 ⊢;have y0:=cellKC HR2.out 0 rfl;have y1:=cellKC HR2.out 1 rfl;have y2:=cellKC HR2.out 2 rfl;have y3:=cellKC HR2.out 3 rfl;have y4:=cellKC HR2.out 4 rfl;have y5:=cellKC HR2.out 5 rfl;have y6:=cellKC HR2.out 6 rfl;have y7:=cellKC HR2.out 7 rfl;have y8:=cellKC HR2.out 8 rfl;have y9:=cellKC HR2.out 9 rfl;have y10:=cellKC HR2.out 10 rfl;have y11:=cellKC HR2.out 11 rfl;have y12:=cellKC HR2.out 12 rfl;have y13:=cellKC HR2.out 13 rfl;have y14:=cellKC HR2.out 14 rfl;have HF:=hide (HI.out.step HC.out HB1.out HO.out HB2.out HO2.out);have hML:M.length=k:=HI.out.len (by have:=HN.out;omega);have HML:=hide hML;have hRW:OwnC W2 w.heap.size u3 M:=HI.out.r.past (HB1.out.trans HB2.out);have HRW:=hide hRW;have hzs:w.heap.size≤W2.heap.size:=by have:=HI.out.b.size;have:=(HB1.out.trans HB2.out).size;omega
   clear hML hRW HR2;go_wp2_with (at_builtin;refine wpList_append_own _ rfl _ _ 23 rfl w.heap.size 51 i0 (.agg zeroCe) 15 192 Tryz.underlying23 hi hz0 hz1 hz2 rfl (by decide) _ _ _ rfl (World.ownsRow.alloc HRW.out _) ⟨W2.heap.size,0,none⟩ 1 1 (ceL ⟨c.n,c.s,c.g,q⟩) rfl rfl ?c1 ?c2 ?c3 ?c4 ?c5 ?_)
   case c1=>exact new_cellsC (c:=⟨c.n,c.s,c.g,q⟩)
   case c2=>exact ceL_one _
   case c3=>have:=HML.out;unfold maxLen;omega
   case c4=>have:=HML.out;omega
   case c5=>simp;omega
   intro v' w3 hown' hgrow hnil;have HN3:Hid (v'≠.slice none 0 0):=hnil;clear hnil;have HF3:=hide (HF.out v' w3 hown' hgrow);clear hown' hgrow HF;go_wp2;go_roundw
   case rel=>exact ⟨k+1,_,by omega,by go_num,HF3,HN3⟩
   case measure=>simp [Go.RowKit.intOf];omega
  ·have eL:L.take k=L:=List.take_of_length_le (by have:=HN.out;omega)
   obtain rfl:k=N:=by omega
   have HF:Hid (M.map Ce.key=L.map Ce.key):=by have:=HI.out.ky;rw [eL] at this;exact this
   clear eL hk hkn;go_wp2;go_ret;exact ⟨_,M,rfl,HI.out.r,HI.out.o,HF.out,HI.out.b,HNn.out⟩
theorem OwnC.mk {w:World} {B:Nat} {v:Value} {F:List Ce} {c:Ce} (h:w.ownsRow B 51 15 v (F.length+1) (flC F ++ ceL c)):OwnC w B v (F ++ [c]):=by
 show w.ownsRow _ _ _ _ _ _
 rw [List.length_append,flC_app,flC_one];exact h
structure TaI (w wr:World) (A:List Ce) (win:Int) (k:Nat) (va vo vr:Value):Prop where
 r:OwnC wr w.heap.size va A
 f:OwnC wr w.heap.size vo ((A.take k).filter (isW win))
 s:OwnC wr w.heap.size vr ((A.take k).filter (fun c=>!isW win c))
 o:CesO wr w.heap.size A
 a1:ApV va vo
 a2:ApV va vr
 a3:ApV vo vr
 b:Below w.heap.size w wr
end Go.Proofs.YthchmdmncmioiaaGreatDoor
