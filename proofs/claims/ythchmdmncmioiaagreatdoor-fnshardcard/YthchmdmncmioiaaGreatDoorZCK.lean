/-
 l08Copy, l08Take of the model.
-/
import Derived.Test.YthchmdmncmioiaaGreatDoorZCJ
set_option maxHeartbeats 8000000
namespace Go.Proofs.YthchmdmncmioiaaGreatDoor
set_option linter.unusedVariables false
set_option linter.unusedSimpArgs false
open Go.ChangeShapes Go.WideShapes Go.ChangeAt Go.RowKit Go.PlainAid Go.Lib Go.Maps
set_option maxRecDepth 10000
theorem Qme {w:World} {r:Nat} {T:TypeId} {a b u0 u1 u2 u3 u4 u5 u6 u7 u8 u9 u10 u11 u12 v0 v1 v2 v3 v4 v5 v6 v7 v8 v9 v10 v11 v12:Value} (h:w.heap[r]?=some (.cells #[a,b,u0,u1,u2,u3,u4,u5,u6,u7,u8,u9,u10,u11,u12] T (0,0))) :
  (((((((((((((w.setCell ⟨r,2,none⟩ v0).setCell ⟨r,3,none⟩ v1).setCell ⟨r,4,none⟩ v2).setCell ⟨r,5,none⟩ v3).setCell ⟨r,6,none⟩ v4).setCell ⟨r,7,none⟩ v5).setCell ⟨r,8,none⟩ v6).setCell ⟨r,9,none⟩ v7).setCell ⟨r,10,none⟩ v8).setCell ⟨r,11,none⟩ v9).setCell ⟨r,12,none⟩ v10).setCell ⟨r,13,none⟩ v11).setCell ⟨r,14,none⟩ v12).heap[r]?=some (.cells #[a,b,v0,v1,v2,v3,v4,v5,v6,v7,v8,v9,v10,v11,v12] T (0,0)):=by
 have h0:(w.setCell ⟨r,2,none⟩ v0).heap[r]?=some (.cells #[a,b,v0,u1,u2,u3,u4,u5,u6,u7,u8,u9,u10,u11,u12] T (0,0)):=ZZl _ r 2 _ _ v0 h;have h1:((w.setCell ⟨r,2,none⟩ v0).setCell ⟨r,3,none⟩ v1).heap[r]?=some (.cells #[a,b,v0,v1,u2,u3,u4,u5,u6,u7,u8,u9,u10,u11,u12] T (0,0)):=ZZl _ r 3 _ _ v1 h0;have h2:(((w.setCell ⟨r,2,none⟩ v0).setCell ⟨r,3,none⟩ v1).setCell ⟨r,4,none⟩ v2).heap[r]?=some (.cells #[a,b,v0,v1,v2,u3,u4,u5,u6,u7,u8,u9,u10,u11,u12] T (0,0)):=ZZl _ r 4 _ _ v2 h1;have h3:((((w.setCell ⟨r,2,none⟩ v0).setCell ⟨r,3,none⟩ v1).setCell ⟨r,4,none⟩ v2).setCell ⟨r,5,none⟩ v3).heap[r]?=some (.cells #[a,b,v0,v1,v2,v3,u4,u5,u6,u7,u8,u9,u10,u11,u12] T (0,0)):=ZZl _ r 5 _ _ v3 h2;have h4:(((((w.setCell ⟨r,2,none⟩ v0).setCell ⟨r,3,none⟩ v1).setCell ⟨r,4,none⟩ v2).setCell ⟨r,5,none⟩ v3).setCell ⟨r,6,none⟩ v4).heap[r]?=some (.cells #[a,b,v0,v1,v2,v3,v4,u5,u6,u7,u8,u9,u10,u11,u12] T (0,0)):=ZZl _ r 6 _ _ v4 h3;have h5:((((((w.setCell ⟨r,2,none⟩ v0).setCell ⟨r,3,none⟩ v1).setCell ⟨r,4,none⟩ v2).setCell ⟨r,5,none⟩ v3).setCell ⟨r,6,none⟩ v4).setCell ⟨r,7,none⟩ v5).heap[r]?=some (.cells #[a,b,v0,v1,v2,v3,v4,v5,u6,u7,u8,u9,u10,u11,u12] T (0,0)):=ZZl _ r 7 _ _ v5 h4;have h6:(((((((w.setCell ⟨r,2,none⟩ v0).setCell ⟨r,3,none⟩ v1).setCell ⟨r,4,none⟩ v2).setCell ⟨r,5,none⟩ v3).setCell ⟨r,6,none⟩ v4).setCell ⟨r,7,none⟩ v5).setCell ⟨r,8,none⟩ v6).heap[r]?=some (.cells #[a,b,v0,v1,v2,v3,v4,v5,v6,u7,u8,u9,u10,u11,u12] T (0,0)):=ZZl _ r 8 _ _ v6 h5;have h7:((((((((w.setCell ⟨r,2,none⟩ v0).setCell ⟨r,3,none⟩ v1).setCell ⟨r,4,none⟩ v2).setCell ⟨r,5,none⟩ v3).setCell ⟨r,6,none⟩ v4).setCell ⟨r,7,none⟩ v5).setCell ⟨r,8,none⟩ v6).setCell ⟨r,9,none⟩ v7).heap[r]?=some (.cells #[a,b,v0,v1,v2,v3,v4,v5,v6,v7,u8,u9,u10,u11,u12] T (0,0)):=ZZl _ r 9 _ _ v7 h6;have h8:(((((((((w.setCell ⟨r,2,none⟩ v0).setCell ⟨r,3,none⟩ v1).setCell ⟨r,4,none⟩ v2).setCell ⟨r,5,none⟩ v3).setCell ⟨r,6,none⟩ v4).setCell ⟨r,7,none⟩ v5).setCell ⟨r,8,none⟩ v6).setCell ⟨r,9,none⟩ v7).setCell ⟨r,10,none⟩ v8).heap[r]?=some (.cells #[a,b,v0,v1,v2,v3,v4,v5,v6,v7,v8,u9,u10,u11,u12] T (0,0)):=ZZl _ r 10 _ _ v8 h7;have h9:((((((((((w.setCell ⟨r,2,none⟩ v0).setCell ⟨r,3,none⟩ v1).setCell ⟨r,4,none⟩ v2).setCell ⟨r,5,none⟩ v3).setCell ⟨r,6,none⟩ v4).setCell ⟨r,7,none⟩ v5).setCell ⟨r,8,none⟩ v6).setCell ⟨r,9,none⟩ v7).setCell ⟨r,10,none⟩ v8).setCell ⟨r,11,none⟩ v9).heap[r]?=some (.cells #[a,b,v0,v1,v2,v3,v4,v5,v6,v7,v8,v9,u10,u11,u12] T (0,0)):=ZZl _ r 11 _ _ v9 h8;have h10:(((((((((((w.setCell ⟨r,2,none⟩ v0).setCell ⟨r,3,none⟩ v1).setCell ⟨r,4,none⟩ v2).setCell ⟨r,5,none⟩ v3).setCell ⟨r,6,none⟩ v4).setCell ⟨r,7,none⟩ v5).setCell ⟨r,8,none⟩ v6).setCell ⟨r,9,none⟩ v7).setCell ⟨r,10,none⟩ v8).setCell ⟨r,11,none⟩ v9).setCell ⟨r,12,none⟩ v10).heap[r]?=some (.cells #[a,b,v0,v1,v2,v3,v4,v5,v6,v7,v8,v9,v10,u11,u12] T (0,0)):=ZZl _ r 12 _ _ v10 h9;have h11:((((((((((((w.setCell ⟨r,2,none⟩ v0).setCell ⟨r,3,none⟩ v1).setCell ⟨r,4,none⟩ v2).setCell ⟨r,5,none⟩ v3).setCell ⟨r,6,none⟩ v4).setCell ⟨r,7,none⟩ v5).setCell ⟨r,8,none⟩ v6).setCell ⟨r,9,none⟩ v7).setCell ⟨r,10,none⟩ v8).setCell ⟨r,11,none⟩ v9).setCell ⟨r,12,none⟩ v10).setCell ⟨r,13,none⟩ v11).heap[r]?=some (.cells #[a,b,v0,v1,v2,v3,v4,v5,v6,v7,v8,v9,v10,v11,u12] T (0,0)):=ZZl _ r 13 _ _ v11 h10;have h12:(((((((((((((w.setCell ⟨r,2,none⟩ v0).setCell ⟨r,3,none⟩ v1).setCell ⟨r,4,none⟩ v2).setCell ⟨r,5,none⟩ v3).setCell ⟨r,6,none⟩ v4).setCell ⟨r,7,none⟩ v5).setCell ⟨r,8,none⟩ v6).setCell ⟨r,9,none⟩ v7).setCell ⟨r,10,none⟩ v8).setCell ⟨r,11,none⟩ v9).setCell ⟨r,12,none⟩ v10).setCell ⟨r,13,none⟩ v11).setCell ⟨r,14,none⟩ v12).heap[r]?=some (.cells #[a,b,v0,v1,v2,v3,v4,v5,v6,v7,v8,v9,v10,v11,v12] T (0,0)):=ZZl _ r 14 _ _ v12 h11;exact h12
theorem Qoc {w:World} {K r:Nat} {v0 v1 v2 v3 v4 v5 v6 v7 v8 v9 v10 v11 v12:Value} (hK:K<=r):Below K w (((((((((((((w.setCell ⟨r,2,none⟩ v0).setCell ⟨r,3,none⟩ v1).setCell ⟨r,4,none⟩ v2).setCell ⟨r,5,none⟩ v3).setCell ⟨r,6,none⟩ v4).setCell ⟨r,7,none⟩ v5).setCell ⟨r,8,none⟩ v6).setCell ⟨r,9,none⟩ v7).setCell ⟨r,10,none⟩ v8).setCell ⟨r,11,none⟩ v9).setCell ⟨r,12,none⟩ v10).setCell ⟨r,13,none⟩ v11).setCell ⟨r,14,none⟩ v12):=by
 repeat (refine Below.setCell ?_ hK _)
 exact ZZb _ _
theorem AgO.kept15 {w:World} {B r:Nat} {o:Ag} {p:Pl} {v0 v1 v2 v3 v4 v5 v6 v7 v8 v9 v10 v11 v12:Value} (h:AgO w B o p) (hr:r<B):AgO (((((((((((((w.setCell ⟨r,2,none⟩ v0).setCell ⟨r,3,none⟩ v1).setCell ⟨r,4,none⟩ v2).setCell ⟨r,5,none⟩ v3).setCell ⟨r,6,none⟩ v4).setCell ⟨r,7,none⟩ v5).setCell ⟨r,8,none⟩ v6).setCell ⟨r,9,none⟩ v7).setCell ⟨r,10,none⟩ v8).setCell ⟨r,11,none⟩ v9).setCell ⟨r,12,none⟩ v10).setCell ⟨r,13,none⟩ v11).setCell ⟨r,14,none⟩ v12) B o p:=by
 repeat (refine AgO.below ?_ hr _)
 exact h
theorem OwnC.ne {w:World} {B B':Nat} {v:Value} {M:List Ce} {o:Ag} {p:Pl} (h:OwnC w B v M) (ha:AgO w B' o p):∀ k,Qc7 o p k->v.ownBlock≠some k:=fun k hk e=>by
 rcases h.2 with ⟨rfl,_⟩ | ⟨g,cap,cur,rfl,q1,q2,q3⟩
 ·cases e
 ·obtain rfl:g=k:=Option.some.inj e
  rcases hk with (hk | hk) | (hk | hk)
  ·exact ha.P.ne q2 (by decide) hk
  ·exact ha.N.ne q2 (by decide) hk
  ·rcases ha.E.2.2 with ⟨e',_⟩ | ⟨b,c,cur',e',h2,h3,h4⟩
   ·rw [e'] at hk;cases hk
   ·rw [e'] at hk
    obtain rfl:b=g:=Option.some.inj hk;rw [q2] at h3;injection h3 with h3;injection h3 with _ h3
    revert h3;decide
  ·rcases ha.R.2.2 with ⟨e',_⟩ | ⟨b,c,cur',e',h2,h3,h4⟩
   ·rw [e'] at hk;cases hk
   ·rw [e'] at hk
    obtain rfl:b=g:=Option.some.inj hk;rw [q2] at h3;injection h3 with h3;injection h3 with _ h3
    revert h3;decide
theorem CesO.row {w w':World} {B B':Nat} {v:Value} {L M:List Ce} (h:CesO w B L) (ho:OwnC w B' v M) (hg:w.grownBy w' v.ownBlock):CesO w' B L:=
 h.keptS (S:=fun k=>v.ownBlock=some k) ⟨hg.os,hg.tape,hg.output,hg.size,fun k hk hn=>hg.block k hk (fun e=>hn e.symm)⟩ (fun c hc k e=>ho.ne (h.o c hc) k e)
def ApV (u v:Value):Prop:=∀ k,u.ownBlock=some k->v.ownBlock≠some k
theorem OwnC.kept {w w':World} {B:Nat} {u v:Value} {L:List Ce} (h:OwnC w B u L) (hg:w.grownBy w' v.ownBlock) (ha:ApV u v):OwnC w' B u L:=
 World.ownsRow.kept h hg (by
  cases q:u.ownBlock with
  | none=>exact .inl rfl
  | some j=>exact .inr (fun e=>ha j q e.symm))
structure CpI (w wr:World) (L:List Ce) (k:Nat) (v:Value) (M:List Ce):Prop where
 r:OwnC wr w.heap.size v M
 o:CesO wr w.heap.size M
 ky:M.map Ce.key=(L.take k).map Ce.key
 b:Below w.heap.size w wr
theorem OwnC.made (w:World) (cs:Array Value) (h:cs.size=0):OwnC (w.alloc (.cells cs 51)) w.heap.size (.slice (some ⟨w.heap.size,0,none⟩) 0 0) []:=by
 have hb:=ZZk w (.cells cs 51);exact ⟨rfl,.inr ⟨_,0,cs,rfl,Nat.le_refl _,hb,Nat.le_refl _,Nat.zero_le _,by simpa using h,by simp [flC]⟩⟩
theorem CpI.len {w wr:World} {L M:List Ce} {k:Nat} {v:Value} (h:CpI w wr L k v M) (hk:k<=L.length):M.length=k:=by
 have:=congrArg List.length h.ky;simp at this;omega
theorem CpI.step {w wr w1 W2:World} {L M:List Ce} {k:Nat} {u:Value} {c:Ce} {q:Pl} (h:CpI w wr L k u M) (hc:L[k]?=some c) (hb1:Below wr.heap.size wr w1) (ho:AgO w1 wr.heap.size c.g q) (hb2:Below wr.heap.size w1 W2) (ho2:AgO W2 (wr.heap.size+1) c.g q)
  (v':Value) (w3:World) (hown:w3.ownsRow w.heap.size 51 15 v' (M.length+1) (flC M ++ ceL ⟨c.n,c.s,c.g,q⟩)) (hg:(W2.alloc (.cells (Qao ⟨c.n,c.s,c.g,q⟩) 51)).grownBy w3 u.ownBlock):CpI w w3 L (k+1) v' (M ++ [⟨c.n,c.s,c.g,q⟩]):=by
 have hbr:Below wr.heap.size wr W2:=hb1.trans hb2;have hb4:Below wr.heap.size wr (W2.alloc (.cells (Qao ⟨c.n,c.s,c.g,q⟩) 51)):=hbr.alloc hbr.size _;have hbw:Below w.heap.size w (W2.alloc (.cells (Qao ⟨c.n,c.s,c.g,q⟩) 51)):=h.b.trans (hb4.mono h.b.size);have a2:Below W2.heap.size W2 (W2.alloc (.cells (Qao ⟨c.n,c.s,c.g,q⟩) 51)):=(ZZb _ _).alloc (ZZa _) _;have hO:=(h.o.add hb4 h.b.size (c:=⟨c.n,c.s,c.g,q⟩) ((ho2.past a2).le (Nat.le_succ _)));have hR:OwnC (W2.alloc (.cells (Qao ⟨c.n,c.s,c.g,q⟩) 51)) w.heap.size u M:=h.r.past hb4;have hp:(⟨c.n,c.s,c.g,q⟩ :: M:List Ce).Perm (M ++ [⟨c.n,c.s,c.g,q⟩]):=(List.perm_append_singleton _ _).symm;refine ⟨?_,(hO.row hR hg).perm hp,?_,hbw.grown hg hbw.size (fun j hj=>(World.ownsRow.lt h.r j hj).1)⟩
 ·show w3.ownsRow _ _ _ _ _ _
  rw [List.length_append,QhX,Qji];exact hown
 ·rw [List.map_append,h.ky,List.take_add_one,hc,List.map_append];rfl
theorem QbK {w:World} {ao:Option Addr} {N ca:Nat} {L:List Ce} (hN:L.length=N) (lN:N<=1048576) (sm:∀ c∈L,AgSm c.g) (pl:∀ c∈L,PlG c.g c.p) (hA:Qci w ao L) :
  Calls Tryz.prog 94 #[.slice ao N ca] w fun e w'=>∃ v M,e=.returned v/\OwnC w' w.heap.size v M/\CesO w' w.heap.size M/\M.map Ce.key=L.map Ce.key/\Below w.heap.size w w'/\v≠.slice none 0 0:=by
 obtain ⟨i0,hi,hz0,hz1,hz2⟩:=QiS;have HA:=Qaa hA;have HN:=Qaa hN;have SM:=Qaa sm;have PL:=Qaa pl;have M0:∀ cs:Array Value,cs.size=0->CpI w (w.alloc (.cells cs 51)) L 0 (.slice (some ⟨w.heap.size,0,none⟩) 0 0) []:=fun cs hcs=>⟨OwnC.made w cs hcs,CesO.nil _ _,by simp,(Below.refl _ _).alloc (Nat.le_refl _) _⟩;have M0:=Qaa M0;clear hA hN sm pl;go_enter Tryz.func94,Tryz.ntmps94;go_wp2
 go_loopw [3,4] (fun v i wr=>∃ (k:Nat) (M:List Ce),k<=N/\i=.int .i64 k/\Hid (CpI w wr L k v M)/\Hid (v≠.slice none 0 0)) (fun v i wr=>N - (Go.RowKit.intOf i).toNat)
 case atStart=>exact ⟨0,[],ZZj _,rfl,M0.out _ rfl,Qaa (fun e=>by cases e)⟩
 case round=>
  clear M0;obtain ⟨k,M,hk,rfl,HI,HNn⟩:=hrel;by_cases hkn:k<N
  ·obtain ⟨g,off,e,hcell⟩:=HA.out.1 (by have:=HN.out;omega)
   obtain ⟨c,hc⟩:∃ c,L[k]?=some c:=⟨L[k]'(by have:=HN.out;omega),ZZe _⟩;subst e;obtain ⟨x0,x1,x2,x3,x4,x5,x6,x7,x8,x9,x10,x11,x12,x13,x14⟩:=Qai (hcell k c hc) HI.out.b;have hm:=ZZn hc;have HC:=Qaa hc;have SC:=Qaa (SM.out c hm);have PC:=Qaa (PL.out c hm);have AC:=Qaa (Qan (HA.out.2 c hm) HI.out.b);have HB0:Hid (Below wr.heap.size wr (wr.alloc (.cells (Qao c) 51))):=(ZZb _ _).alloc (ZZa _) _;have HX:=Qaa (ZZk wr (.cells (Qao c) 51));have HS0:Hid ((wr.alloc (.cells (Qao c) 51)).heap.size=wr.heap.size+1):=by show _=_;simp
   have hkni:(k:Int)<(N:Int):=by omega
   clear hcell hc hm;go_wp2_with fail;clear x0 x1 x2 x3 x4 x5 x6 x7 x8 x9 x10 x11 x12 x13 x14;generalize wr.alloc (.cells (Qao c) 51)=W0 at HB0 HX HS0 ⊢;refine (Qij SC.out PC.out (Qan AC.out HB0.out)).mono ?_;rintro e w1 ⟨v,o,rfl,rfl,⟨q,rfl,ho⟩,hb1⟩;have hrow:w1.heap[wr.heap.size]?=some (.cells (Qao c) 51 (0,0)):=(hb1.block _ (by have:=HS0.out;omega)).trans HX.out;have HB1:=Qaa (Qad HB0.out hb1);have HO:=Qaa (ho.le (show wr.heap.size<=W0.heap.size from HB0.out.size));have HO1:Hid (AgO w1 (wr.heap.size+1) c.g q):=by rw [<- HS0.out];exact ho
   have f2:=fzR 2 hrow;have f3:=fzR 3 hrow;have f4:=fzR 4 hrow;have f5:=fzR 5 hrow;have f6:=fzR 6 hrow;have f7:=fzR 7 hrow;have f8:=fzR 8 hrow;have f9:=fzR 9 hrow;have f10:=fzR 10 hrow;have f11:=fzR 11 hrow;have f12:=fzR 12 hrow;have f13:=fzR 13 hrow;have f14:=fzR 14 hrow;have c2:=Qac hrow 2 rfl;have c3:=Qac hrow 3 rfl;have c4:=Qac hrow 4 rfl;have c5:=Qac hrow 5 rfl;have c6:=Qac hrow 6 rfl;have c7:=Qac hrow 7 rfl;have c8:=Qac hrow 8 rfl;have c9:=Qac hrow 9 rfl;have c10:=Qac hrow 10 rfl;have c11:=Qac hrow 11 rfl;have c12:=Qac hrow 12 rfl;have c13:=Qac hrow 13 rfl;have c14:=Qac hrow 14 rfl;have HR2:=Qaa (Qme (v0:=.int .i64 c.g.k) (v1:=.int .u64 c.g.s) (v2:=.int .i64 c.g.h) (v3:=.int .u64 c.g.l) (v4:=.int .i64 c.g.a) (v5:=.int .i64 c.g.t) (v6:=.int .u64 c.g.z) (v7:=.slice q.pa c.g.P.length q.pc) (v8:=.slice q.na c.g.N.length q.nc) (v9:=.int .i64 c.g.x) (v10:=.int .u64 c.g.y) (v11:=.slice q.ea c.g.E.length q.ec) (v12:=.slice q.ra c.g.R.length q.rc) hrow);have HB2:Hid (Below wr.heap.size w1 (((((((((((((w1.setCell ⟨wr.heap.size,2,none⟩ (.int .i64 c.g.k)).setCell ⟨wr.heap.size,3,none⟩ (.int .u64 c.g.s)).setCell ⟨wr.heap.size,4,none⟩ (.int .i64 c.g.h)).setCell ⟨wr.heap.size,5,none⟩ (.int .u64 c.g.l)).setCell ⟨wr.heap.size,6,none⟩ (.int .i64 c.g.a)).setCell ⟨wr.heap.size,7,none⟩ (.int .i64 c.g.t)).setCell ⟨wr.heap.size,8,none⟩ (.int .u64 c.g.z)).setCell ⟨wr.heap.size,9,none⟩ (.slice q.pa c.g.P.length q.pc)).setCell ⟨wr.heap.size,10,none⟩ (.slice q.na c.g.N.length q.nc)).setCell ⟨wr.heap.size,11,none⟩ (.int .i64 c.g.x)).setCell ⟨wr.heap.size,12,none⟩ (.int .u64 c.g.y)).setCell ⟨wr.heap.size,13,none⟩ (.slice q.ea c.g.E.length q.ec)).setCell ⟨wr.heap.size,14,none⟩ (.slice q.ra c.g.R.length q.rc))):=Qoc (ZZa _);have HO2:Hid (AgO (((((((((((((w1.setCell ⟨wr.heap.size,2,none⟩ (.int .i64 c.g.k)).setCell ⟨wr.heap.size,3,none⟩ (.int .u64 c.g.s)).setCell ⟨wr.heap.size,4,none⟩ (.int .i64 c.g.h)).setCell ⟨wr.heap.size,5,none⟩ (.int .u64 c.g.l)).setCell ⟨wr.heap.size,6,none⟩ (.int .i64 c.g.a)).setCell ⟨wr.heap.size,7,none⟩ (.int .i64 c.g.t)).setCell ⟨wr.heap.size,8,none⟩ (.int .u64 c.g.z)).setCell ⟨wr.heap.size,9,none⟩ (.slice q.pa c.g.P.length q.pc)).setCell ⟨wr.heap.size,10,none⟩ (.slice q.na c.g.N.length q.nc)).setCell ⟨wr.heap.size,11,none⟩ (.int .i64 c.g.x)).setCell ⟨wr.heap.size,12,none⟩ (.int .u64 c.g.y)).setCell ⟨wr.heap.size,13,none⟩ (.slice q.ea c.g.E.length q.ec)).setCell ⟨wr.heap.size,14,none⟩ (.slice q.ra c.g.R.length q.rc)) (wr.heap.size+1) c.g q):=HO1.out.kept15 (Nat.lt_succ_self _);clear hrow hb1 ho HX HS0 HO1;go_upto_region 7 with fail;clear f2 c2 f3 c3 f4 c4 f5 c5 f6 c6 f7 c7 f8 c8 f9 c9 f10 c10 f11 c11 f12 c12 f13 c13 f14 c14;generalize (((((((((((((w1.setCell ⟨wr.heap.size,2,none⟩ (.int .i64 c.g.k)).setCell ⟨wr.heap.size,3,none⟩ (.int .u64 c.g.s)).setCell ⟨wr.heap.size,4,none⟩ (.int .i64 c.g.h)).setCell ⟨wr.heap.size,5,none⟩ (.int .u64 c.g.l)).setCell ⟨wr.heap.size,6,none⟩ (.int .i64 c.g.a)).setCell ⟨wr.heap.size,7,none⟩ (.int .i64 c.g.t)).setCell ⟨wr.heap.size,8,none⟩ (.int .u64 c.g.z)).setCell ⟨wr.heap.size,9,none⟩ (.slice q.pa c.g.P.length q.pc)).setCell ⟨wr.heap.size,10,none⟩ (.slice q.na c.g.N.length q.nc)).setCell ⟨wr.heap.size,11,none⟩ (.int .i64 c.g.x)).setCell ⟨wr.heap.size,12,none⟩ (.int .u64 c.g.y)).setCell ⟨wr.heap.size,13,none⟩ (.slice q.ea c.g.E.length q.ec)).setCell ⟨wr.heap.size,14,none⟩ (.slice q.ra c.g.R.length q.rc))=W2 at HR2 HB2 HO2 ⊢;obtain ⟨y0,y1,y2,y3,y4,y5,y6,y7,y8,y9,y10,y11,y12,y13,y14⟩:=Qou HR2.out;have HF:=Qaa (HI.out.step HC.out HB1.out HO.out HB2.out HO2.out);have hML:M.length=k:=HI.out.len (by have:=HN.out;omega);have HML:=Qaa hML;have hRW:OwnC W2 w.heap.size u3 M:=HI.out.r.past (HB1.out.trans HB2.out);have HRW:=Qaa hRW;have hzs:w.heap.size<=W2.heap.size:=by have:=HI.out.b.size;have:=(HB1.out.trans HB2.out).size;omega
   clear hML hRW HR2;go_wp2_with (at_builtin;refine wpList_append_own _ rfl _ _ 23 rfl w.heap.size 51 i0 (.agg Qcs) 15 192 Tryz.underlying23 hi hz0 hz1 hz2 rfl (by decide) _ _ _ rfl (World.ownsRow.alloc HRW.out _) ⟨W2.heap.size,0,none⟩ 1 1 (ceL ⟨c.n,c.s,c.g,q⟩) rfl rfl ?c1 ?c2 ?c3 ?c4 ?c5 ?_)
   case c1=>exact Qbz (c:=⟨c.n,c.s,c.g,q⟩)
   case c2=>exact Qcx _
   case c3=>have:=HML.out;unfold maxLen;omega
   case c4=>have:=HML.out;omega
   case c5=>simp;omega
   intro v' w3 hown' hgrow hnil;have HN3:Hid (v'≠.slice none 0 0):=hnil;clear hnil;have HF3:=Qaa (HF.out v' w3 hown' hgrow);clear hown' hgrow HF;go_wp2;go_roundw
   case rel=>exact ⟨k+1,_,by omega,by go_num,HF3,HN3⟩
   case measure=>simp [Go.RowKit.intOf];omega
  ·have eL:L.take k=L:=List.take_of_length_le (by have:=HN.out;omega)
   obtain rfl:k=N:=by omega
   have HF:Hid (M.map Ce.key=L.map Ce.key):=by have:=HI.out.ky;rw [eL] at this;exact this
   clear eL hk hkn;go_wp2;go_ret;exact ⟨_,M,rfl,HI.out.r,HI.out.o,HF.out,HI.out.b,HNn.out⟩
theorem Qmw {w:World} {ao:Option Addr} {N ca:Nat} {L:List Ce} (hN:L.length=N) (lN:N<=1048576) (sm:∀ c∈L,AgSm c.g) (pl:∀ c∈L,PlG c.g c.p) (hA:Qci w ao L) :
  Calls Tryz.prog 94 #[.slice ao N ca] w fun e w'=>∃ v M,e=.returned v/\OwnC w' w.heap.size v M/\CesO w' w.heap.size M/\M.map Ce.key=L.map Ce.key/\Below w.heap.size w w':=
 (QbK hN lN sm pl hA).mono (fun e w' ⟨v,M,h1,h2,h3,h4,h5,_⟩=>⟨v,M,h1,h2,h3,h4,h5⟩)
theorem ApV.symm {u v:Value} (h:ApV u v):ApV v u:=fun k h1 h2=>h k h2 h1
theorem OwnC.mk {w:World} {B:Nat} {v:Value} {F:List Ce} {c:Ce} (h:w.ownsRow B 51 15 v (F.length+1) (flC F ++ ceL c)):OwnC w B v (F ++ [c]):=by
 show w.ownsRow _ _ _ _ _ _
 rw [List.length_append,QhX,Qji];exact h
theorem Qi2 {wr w1:World} {B:Nat} {u v':Value} {F:List Ce} {c:Ce} (hu:OwnC wr B u F) (hB:B<=wr.heap.size) (hg:(wr.alloc (.cells (Qao c) 51)).grownBy w1 u.ownBlock) (hloc:v'.ownBlock=u.ownBlock∨v'.ownBlock=some (wr.alloc (.cells (Qao c) 51)).heap.size) :
  (∀ x L,OwnC wr B x L->ApV x u->OwnC w1 B x L/\ApV x v')/\(∀ L,CesO wr B L->CesO w1 B L)/\∀ w0,Below B w0 wr->Below B w0 w1:=by
 have a1:Below wr.heap.size wr (wr.alloc (.cells (Qao c) 51)):=(ZZb _ _).alloc (ZZa _) _;have hs:(wr.alloc (.cells (Qao c) 51)).heap.size=wr.heap.size+1:=by simp
 refine ⟨fun x L hx ha=>⟨(hx.past a1).kept hg ha,fun k hk e=>?_⟩,fun L hL=>(hL.past a1).row (hu.past a1) hg,fun w0 h0=>?_⟩
 ·rcases hloc with q | q
  ·rw [q] at e;exact ha k hk e
  ·rw [q] at e
   have:=(World.ownsRow.lt hx k hk).2;injection e with e;omega
 ·have h1:Below B w0 (wr.alloc (.cells (Qao c) 51)):=h0.trans (a1.mono hB)
  refine h1.grown hg ?_ (fun j hj=>(World.ownsRow.lt hu j hj).1);rw [hs];omega
structure TaI (w wr:World) (A:List Ce) (win:Int) (k:Nat) (va vo vr:Value):Prop where
 r:OwnC wr w.heap.size va A
 f:OwnC wr w.heap.size vo ((A.take k).filter (isW win))
 s:OwnC wr w.heap.size vr ((A.take k).filter (fun c=>!isW win c))
 o:CesO wr w.heap.size A
 a1:ApV va vo
 a2:ApV va vr
 a3:ApV vo vr
 b:Below w.heap.size w wr
theorem QkP {A:List Ce} {k:Nat} {c:Ce} {f:Ce->Bool} (hc:A[k]?=some c) (hf:f c=true):(A.take (k+1)).filter f=(A.take k).filter f ++ [c]:=by
 rw [List.take_add_one,hc,List.filter_append];simp [hf]
theorem Qny {A:List Ce} {k:Nat} {c:Ce} {f:Ce->Bool} (hc:A[k]?=some c) (hf:f c=false):(A.take (k+1)).filter f=(A.take k).filter f:=by
 rw [List.take_add_one,hc,List.filter_append];simp [hf]
theorem TaI.of {w wr w1:World} {A:List Ce} {win:Int} {k:Nat} {va vo vr v':Value} {c:Ce} (h:TaI w wr A win k va vo vr) (hc:A[k]?=some c) (hw:c.n=win) (hown:w1.ownsRow w.heap.size 51 15 v' (((A.take k).filter (isW win)).length+1) (flC ((A.take k).filter (isW win)) ++ ceL c)) (hg:(wr.alloc (.cells (Qao c) 51)).grownBy w1 vo.ownBlock) (hloc:v'.ownBlock=vo.ownBlock∨v'.ownBlock=some (wr.alloc (.cells (Qao c) 51)).heap.size):TaI w w1 A win (k+1) va v' vr:=by
 obtain ⟨f1,f2,f3⟩:=Qi2 h.f h.b.size hg hloc;obtain ⟨q1,q2⟩:=f1 va A h.r h.a1;obtain ⟨q3,q4⟩:=f1 vr _ h.s h.a3.symm;refine ⟨q1,?_,?_,f2 A h.o,q2,h.a2,q4.symm,f3 w h.b⟩
 ·rw [QkP hc (by simp [isW,hw])];exact OwnC.mk hown
 ·rw [Qny hc (by simp [isW,hw])];exact q3
theorem TaI.rest {w wr w1:World} {A:List Ce} {win:Int} {k:Nat} {va vo vr v':Value} {c:Ce} (h:TaI w wr A win k va vo vr) (hc:A[k]?=some c) (hw:c.n≠win) (hown:w1.ownsRow w.heap.size 51 15 v' (((A.take k).filter (fun c=>!isW win c)).length+1) (flC ((A.take k).filter (fun c=>!isW win c)) ++ ceL c)) (hg:(wr.alloc (.cells (Qao c) 51)).grownBy w1 vr.ownBlock) (hloc:v'.ownBlock=vr.ownBlock∨v'.ownBlock=some (wr.alloc (.cells (Qao c) 51)).heap.size):TaI w w1 A win (k+1) va vo v':=by
 obtain ⟨f1,f2,f3⟩:=Qi2 h.s h.b.size hg hloc;obtain ⟨q1,q2⟩:=f1 va A h.r h.a2;obtain ⟨q3,q4⟩:=f1 vo _ h.f h.a3;refine ⟨q1,?_,?_,f2 A h.o,h.a1,q2,q4,f3 w h.b⟩
 ·rw [Qny hc (by simp [isW,hw])];exact q3
 ·rw [QkP hc (by simp [isW,hw])];exact OwnC.mk hown
theorem Qhc {A:List Ce} {k:Nat} {f:Ce->Bool} (h:A.length<=1048576):((A.take k).filter f).length<=1048576:=by
 have h1:=List.length_filter_le f (A.take k);have h2:=List.length_take_le k A;have h3:(A.take k).length<=A.length:=by simp;omega
 omega
theorem QoA (w:World) (cs ds:Array Value) (h1:cs.size=0) (h2:ds.size=0) :
  Below w.heap.size w ((w.alloc (.cells cs 51)).alloc (.cells ds 51))/\OwnC ((w.alloc (.cells cs 51)).alloc (.cells ds 51)) w.heap.size (.slice (some ⟨w.heap.size,0,none⟩) 0 0) []/\OwnC ((w.alloc (.cells cs 51)).alloc (.cells ds 51)) w.heap.size (.slice (some ⟨w.heap.size+1,0,none⟩) 0 0) []/\((w.alloc (.cells cs 51)).alloc (.cells ds 51)).heap.size=w.heap.size+1+1:=by
 have a1:Below w.heap.size w (w.alloc (.cells cs 51)):=(ZZb _ _).alloc (ZZa _) _;have a2:Below (w.alloc (.cells cs 51)).heap.size (w.alloc (.cells cs 51)) ((w.alloc (.cells cs 51)).alloc (.cells ds 51)):=(ZZb _ _).alloc (ZZa _) _;have hs:(w.alloc (.cells cs 51)).heap.size=w.heap.size+1:=by simp
 have k2:=OwnC.made (w.alloc (.cells cs 51)) ds h2;rw [hs] at k2;exact ⟨Qad a1 a2,(OwnC.made w cs h1).past a2,k2.le (Nat.le_succ _),by simp⟩
theorem Ql5 {w:World} {ao:Option Addr} {N ca:Nat} {L:List Ce} (win:Int) (hN:L.length=N) (lN:N<=1048576) (sm:∀ c∈L,AgSm c.g) (pl:∀ c∈L,PlG c.g c.p) (hA:Qci w ao L) :
  Calls Tryz.prog 52 #[.slice ao N ca,.int .i64 win] w fun e w'=>∃ vo vr A,e=.returned (.tuple #[vo,vr])/\OwnC w' w.heap.size vo (A.filter (isW win))/\OwnC w' w.heap.size vr (A.filter (fun c=>!isW win c))/\ApV vo vr/\CesO w' w.heap.size A/\A.map Ce.key=L.map Ce.key/\Below w.heap.size w w':=by
 obtain ⟨i0,hi,hz0,hz1,hz2⟩:=QiS;have HA:=Qaa hA;have HN:=Qaa hN;have SM:=Qaa sm;have PL:=Qaa pl;have TR:=Qaa (QoA w);clear hA hN sm pl;go_enter Tryz.func52,Tryz.ntmps52;go_wp2_with fail;obtain ⟨hb0,ho1,ho2,hs0⟩:=TR.out #[] #[] rfl rfl;have HB0:=Qaa hb0;have HO1:=Qaa ho1;have HO2:=Qaa ho2;clear TR hb0 ho1 ho2 hs0;generalize (w.alloc (.cells #[] 51)).alloc (.cells #[] 51)=W0 at HB0 HO1 HO2 ⊢;refine (Qmw HN.out lN SM.out PL.out (QaQ HA.out HB0.out)).mono ?_;rintro e w1 ⟨va,A,rfl,hr,ho,hk,hb1⟩;obtain ⟨aa,cp,rfl,_⟩:=hr.form
 have hAN:A.length=N:=by
  have:=congrArg List.length hk;simp at this;rw [this];exact HN.out
 have HK:=Qaa hk;have HAN:=Qaa hAN;rw [hAN] at hr ⊢
 have I0:Hid (TaI w w1 A win 0 (.slice aa N cp) (.slice (some ⟨w.heap.size,0,none⟩) 0 0) (.slice (some ⟨w.heap.size+1,0,none⟩) 0 0)):=by
  have far:∀ k,(Value.slice aa N cp).ownBlock=some k->W0.heap.size<=k:=fun k q=>(World.ownsRow.lt hr k q).1;refine ⟨hr.le HB0.out.size,HO1.out.past hb1,HO2.out.past hb1,ho.le HB0.out.size,fun k q e=>?_,fun k q e=>?_,fun k q e=>?_,Qad HB0.out hb1⟩
  ·have f1:=far k q
   have f2:=(World.ownsRow.lt HO1.out k e).2;omega
  ·have f1:=far k q
   have f2:=(World.ownsRow.lt HO2.out k e).2;omega
  ·injection q with q
   injection e with e;simp only at q e;omega
 clear hr ho hk hb1 hAN HO1 HO2 HB0;go_wp2
 go_loopw [6,7,9] (fun vo vr i wr=>∃ (k:Nat),k<=N/\i=.int .i64 k/\Hid (TaI w wr A win k (.slice aa N cp) vo vr)) (fun vo vr i wr=>N - (Go.RowKit.intOf i).toNat)
 case atStart=>exact ⟨0,ZZj _,rfl,I0⟩
 case round=>
  clear I0;obtain ⟨k,hk,rfl,HI⟩:=hrel;by_cases hkn:k<N
  ·obtain ⟨c,hc⟩:∃ c,A[k]?=some c:=⟨A[k]'(by have:=HAN.out;omega),ZZe _⟩
   have hrr:=HI.out.r;rw [<- HAN.out] at hrr;obtain ⟨b,off,e,hcell⟩:=(OwnC.at hrr HI.out.o.at).1 (by have:=HAN.out;omega);subst e;obtain ⟨x0,x1,x2,x3,x4,x5,x6,x7,x8,x9,x10,x11,x12,x13,x14⟩:=hcell k c hc;have HC:=Qaa hc;have hkni:(k:Int)<(N:Int):=by omega
   have hzs:w.heap.size<=wr.heap.size:=HI.out.b.size;have fl1:((A.take k).filter (isW win)).length<=1048576:=Qhc (by have:=HAN.out;omega);have fl2:((A.take k).filter (fun c=>!isW win c)).length<=1048576:=Qhc (by have:=HAN.out;omega);have FL1:=Qaa fl1;have FL2:=Qaa fl2;clear hcell hc hrr fl1 fl2;by_cases hw:c.n=win
   ·have bw:(c.n == win)=true:=by simp [hw]
    have HF2:Hid (∀ v' w3,w3.ownsRow w.heap.size 51 15 v' (((A.take k).filter (isW win)).length+1) (flC ((A.take k).filter (isW win)) ++ ceL c)->(wr.alloc (.cells (Qao c) 51)).grownBy w3 u6.ownBlock->(v'.ownBlock=u6.ownBlock∨v'.ownBlock=some (wr.alloc (.cells (Qao c) 51)).heap.size)->TaI w w3 A win (k+1) (.slice (some ⟨b,off,none⟩) N cp) v' u7):=fun v' w3 q1 q2 q3=>HI.out.of HC.out hw q1 q2 q3;clear hw;go_wp2_with (at_builtin;refine wpList_append_own_at _ rfl _ _ 23 rfl w.heap.size 51 i0 (.agg Qcs) 15 192 Tryz.underlying23 hi hz0 hz1 hz2 rfl (by decide) _ _ _ rfl (World.ownsRow.alloc HI.out.f _) ⟨wr.heap.size,0,none⟩ 1 1 (ceL c) rfl rfl ?c1 ?c2 ?c3 ?c4 ?c5 ?_)
    case c1=>exact Qbz
    case c2=>exact Qcx _
    case c3=>have:=FL1.out;unfold maxLen;omega
    case c4=>have:=FL1.out;omega
    case c5=>simp;omega
    intro v' w3 hown' hgrow _ hloc;have HF3:=Qaa (HF2.out v' w3 hown' hgrow (by simpa using hloc));clear hown' hgrow hloc HF2;go_wp2;go_roundw
    case rel=>exact ⟨k+1,by omega,by go_num,HF3⟩
    case measure=>simp [Go.RowKit.intOf];omega
   ·have bw:(c.n == win)=false:=by simp [hw]
    have HF2:Hid (∀ v' w3,w3.ownsRow w.heap.size 51 15 v' (((A.take k).filter (fun c=>!isW win c)).length+1) (flC ((A.take k).filter (fun c=>!isW win c)) ++ ceL c)->(wr.alloc (.cells (Qao c) 51)).grownBy w3 u7.ownBlock->(v'.ownBlock=u7.ownBlock∨v'.ownBlock=some (wr.alloc (.cells (Qao c) 51)).heap.size)->TaI w w3 A win (k+1) (.slice (some ⟨b,off,none⟩) N cp) u6 v'):=fun v' w3 q1 q2 q3=>HI.out.rest HC.out hw q1 q2 q3;clear hw;go_wp2_with (at_builtin;refine wpList_append_own_at _ rfl _ _ 23 rfl w.heap.size 51 i0 (.agg Qcs) 15 192 Tryz.underlying23 hi hz0 hz1 hz2 rfl (by decide) _ _ _ rfl (World.ownsRow.alloc HI.out.s _) ⟨wr.heap.size,0,none⟩ 1 1 (ceL c) rfl rfl ?c1 ?c2 ?c3 ?c4 ?c5 ?_)
    case c1=>exact Qbz
    case c2=>exact Qcx _
    case c3=>have:=FL2.out;unfold maxLen;omega
    case c4=>have:=FL2.out;omega
    case c5=>simp;omega
    intro v' w3 hown' hgrow _ hloc;have HF3:=Qaa (HF2.out v' w3 hown' hgrow (by simpa using hloc));clear hown' hgrow hloc HF2;go_wp2;go_roundw
    case rel=>exact ⟨k+1,by omega,by go_num,HF3⟩
    case measure=>simp [Go.RowKit.intOf];omega
  ·have eL:A.take k=A:=List.take_of_length_le (by have:=HAN.out;omega)
   have q1:=HI.out.f;have q2:=HI.out.s;rw [eL] at q1 q2;have HQ:=Qaa (And.intro q1 q2);have HO:=Qaa (And.intro HI.out.o HI.out.b);have HAp:=Qaa HI.out.a3;clear eL q1 q2;go_wp2;go_ret2;exact ⟨_,_,A,rfl,HQ.out.1,HQ.out.2,HAp.out,HO.out.1,HK.out,HO.out.2⟩
end Go.Proofs.YthchmdmncmioiaaGreatDoor
