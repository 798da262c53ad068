/-
 Parts.
-/
import Derived.Test.YtandnmpllheniaaGreatDoorCCJ
set_option linter.all false
namespace Go.Proofs.YtandnmpllheniaaGreatDoor
open Go.ChangeShapes Go.WideShapes Go.ChangeAt Go.RowKit Go.PlainAid Go.Lib Go.Maps
set_option maxRecDepth 10000
theorem Qob {w:World} {r:Nat} {T:TypeId} {a b u0 u1 u2 u3 u4 u5 u6 u7 u8 u9 u10 u11 u12 v0 v1 v2 v3 v4 v5 v6 v7 v8 v9 v10 v11 v12:Value} (h:w.heap[r]?=some (.cells #[a,b,u0,u1,u2,u3,u4,u5,u6,u7,u8,u9,u10,u11,u12] T (0,0))) :
  (((((((((((((w.setCell ⟨r,2,none⟩ v0).setCell ⟨r,3,none⟩ v1).setCell ⟨r,4,none⟩ v2).setCell ⟨r,5,none⟩ v3).setCell ⟨r,6,none⟩ v4).setCell ⟨r,7,none⟩ v5).setCell ⟨r,8,none⟩ v6).setCell ⟨r,9,none⟩ v7).setCell ⟨r,10,none⟩ v8).setCell ⟨r,11,none⟩ v9).setCell ⟨r,12,none⟩ v10).setCell ⟨r,13,none⟩ v11).setCell ⟨r,14,none⟩ v12).heap[r]?=some (.cells #[a,b,v0,v1,v2,v3,v4,v5,v6,v7,v8,v9,v10,v11,v12] T (0,0)):=by
 have h0:(w.setCell ⟨r,2,none⟩ v0).heap[r]?=some (.cells #[a,b,v0,u1,u2,u3,u4,u5,u6,u7,u8,u9,u10,u11,u12] T (0,0)):=ZZl _ r 2 _ _ v0 h;have h1:((w.setCell ⟨r,2,none⟩ v0).setCell ⟨r,3,none⟩ v1).heap[r]?=some (.cells #[a,b,v0,v1,u2,u3,u4,u5,u6,u7,u8,u9,u10,u11,u12] T (0,0)):=ZZl _ r 3 _ _ v1 h0;have h2:(((w.setCell ⟨r,2,none⟩ v0).setCell ⟨r,3,none⟩ v1).setCell ⟨r,4,none⟩ v2).heap[r]?=some (.cells #[a,b,v0,v1,v2,u3,u4,u5,u6,u7,u8,u9,u10,u11,u12] T (0,0)):=ZZl _ r 4 _ _ v2 h1;have h3:((((w.setCell ⟨r,2,none⟩ v0).setCell ⟨r,3,none⟩ v1).setCell ⟨r,4,none⟩ v2).setCell ⟨r,5,none⟩ v3).heap[r]?=some (.cells #[a,b,v0,v1,v2,v3,u4,u5,u6,u7,u8,u9,u10,u11,u12] T (0,0)):=ZZl _ r 5 _ _ v3 h2;have h4:(((((w.setCell ⟨r,2,none⟩ v0).setCell ⟨r,3,none⟩ v1).setCell ⟨r,4,none⟩ v2).setCell ⟨r,5,none⟩ v3).setCell ⟨r,6,none⟩ v4).heap[r]?=some (.cells #[a,b,v0,v1,v2,v3,v4,u5,u6,u7,u8,u9,u10,u11,u12] T (0,0)):=ZZl _ r 6 _ _ v4 h3;have h5:((((((w.setCell ⟨r,2,none⟩ v0).setCell ⟨r,3,none⟩ v1).setCell ⟨r,4,none⟩ v2).setCell ⟨r,5,none⟩ v3).setCell ⟨r,6,none⟩ v4).setCell ⟨r,7,none⟩ v5).heap[r]?=some (.cells #[a,b,v0,v1,v2,v3,v4,v5,u6,u7,u8,u9,u10,u11,u12] T (0,0)):=ZZl _ r 7 _ _ v5 h4;have h6:(((((((w.setCell ⟨r,2,none⟩ v0).setCell ⟨r,3,none⟩ v1).setCell ⟨r,4,none⟩ v2).setCell ⟨r,5,none⟩ v3).setCell ⟨r,6,none⟩ v4).setCell ⟨r,7,none⟩ v5).setCell ⟨r,8,none⟩ v6).heap[r]?=some (.cells #[a,b,v0,v1,v2,v3,v4,v5,v6,u7,u8,u9,u10,u11,u12] T (0,0)):=ZZl _ r 8 _ _ v6 h5;have h7:((((((((w.setCell ⟨r,2,none⟩ v0).setCell ⟨r,3,none⟩ v1).setCell ⟨r,4,none⟩ v2).setCell ⟨r,5,none⟩ v3).setCell ⟨r,6,none⟩ v4).setCell ⟨r,7,none⟩ v5).setCell ⟨r,8,none⟩ v6).setCell ⟨r,9,none⟩ v7).heap[r]?=some (.cells #[a,b,v0,v1,v2,v3,v4,v5,v6,v7,u8,u9,u10,u11,u12] T (0,0)):=ZZl _ r 9 _ _ v7 h6;have h8:(((((((((w.setCell ⟨r,2,none⟩ v0).setCell ⟨r,3,none⟩ v1).setCell ⟨r,4,none⟩ v2).setCell ⟨r,5,none⟩ v3).setCell ⟨r,6,none⟩ v4).setCell ⟨r,7,none⟩ v5).setCell ⟨r,8,none⟩ v6).setCell ⟨r,9,none⟩ v7).setCell ⟨r,10,none⟩ v8).heap[r]?=some (.cells #[a,b,v0,v1,v2,v3,v4,v5,v6,v7,v8,u9,u10,u11,u12] T (0,0)):=ZZl _ r 10 _ _ v8 h7;have h9:((((((((((w.setCell ⟨r,2,none⟩ v0).setCell ⟨r,3,none⟩ v1).setCell ⟨r,4,none⟩ v2).setCell ⟨r,5,none⟩ v3).setCell ⟨r,6,none⟩ v4).setCell ⟨r,7,none⟩ v5).setCell ⟨r,8,none⟩ v6).setCell ⟨r,9,none⟩ v7).setCell ⟨r,10,none⟩ v8).setCell ⟨r,11,none⟩ v9).heap[r]?=some (.cells #[a,b,v0,v1,v2,v3,v4,v5,v6,v7,v8,v9,u10,u11,u12] T (0,0)):=ZZl _ r 11 _ _ v9 h8;have aa:(((((((((((w.setCell ⟨r,2,none⟩ v0).setCell ⟨r,3,none⟩ v1).setCell ⟨r,4,none⟩ v2).setCell ⟨r,5,none⟩ v3).setCell ⟨r,6,none⟩ v4).setCell ⟨r,7,none⟩ v5).setCell ⟨r,8,none⟩ v6).setCell ⟨r,9,none⟩ v7).setCell ⟨r,10,none⟩ v8).setCell ⟨r,11,none⟩ v9).setCell ⟨r,12,none⟩ v10).heap[r]?=some (.cells #[a,b,v0,v1,v2,v3,v4,v5,v6,v7,v8,v9,v10,u11,u12] T (0,0)):=ZZl _ r 12 _ _ v10 h9;have ab:((((((((((((w.setCell ⟨r,2,none⟩ v0).setCell ⟨r,3,none⟩ v1).setCell ⟨r,4,none⟩ v2).setCell ⟨r,5,none⟩ v3).setCell ⟨r,6,none⟩ v4).setCell ⟨r,7,none⟩ v5).setCell ⟨r,8,none⟩ v6).setCell ⟨r,9,none⟩ v7).setCell ⟨r,10,none⟩ v8).setCell ⟨r,11,none⟩ v9).setCell ⟨r,12,none⟩ v10).setCell ⟨r,13,none⟩ v11).heap[r]?=some (.cells #[a,b,v0,v1,v2,v3,v4,v5,v6,v7,v8,v9,v10,v11,u12] T (0,0)):=ZZl _ r 13 _ _ v11 aa;have ac:(((((((((((((w.setCell ⟨r,2,none⟩ v0).setCell ⟨r,3,none⟩ v1).setCell ⟨r,4,none⟩ v2).setCell ⟨r,5,none⟩ v3).setCell ⟨r,6,none⟩ v4).setCell ⟨r,7,none⟩ v5).setCell ⟨r,8,none⟩ v6).setCell ⟨r,9,none⟩ v7).setCell ⟨r,10,none⟩ v8).setCell ⟨r,11,none⟩ v9).setCell ⟨r,12,none⟩ v10).setCell ⟨r,13,none⟩ v11).setCell ⟨r,14,none⟩ v12).heap[r]?=some (.cells #[a,b,v0,v1,v2,v3,v4,v5,v6,v7,v8,v9,v10,v11,v12] T (0,0)):=ZZl _ r 14 _ _ v12 ab;exact ac
theorem QoY {w:World} {K r:Nat} {v0 v1 v2 v3 v4 v5 v6 v7 v8 v9 v10 v11 v12:Value} (hK:K<=r):Below K w (((((((((((((w.setCell ⟨r,2,none⟩ v0).setCell ⟨r,3,none⟩ v1).setCell ⟨r,4,none⟩ v2).setCell ⟨r,5,none⟩ v3).setCell ⟨r,6,none⟩ v4).setCell ⟨r,7,none⟩ v5).setCell ⟨r,8,none⟩ v6).setCell ⟨r,9,none⟩ v7).setCell ⟨r,10,none⟩ v8).setCell ⟨r,11,none⟩ v9).setCell ⟨r,12,none⟩ v10).setCell ⟨r,13,none⟩ v11).setCell ⟨r,14,none⟩ v12):=by
 repeat (refine Below.setCell ?_ hK _)
 exact ZZb _ _
theorem AgO.kept15 {w:World} {B r:Nat} {o:Ag} {p:Pl} {v0 v1 v2 v3 v4 v5 v6 v7 v8 v9 v10 v11 v12:Value} (h:AgO w B o p) (hr:r<B):AgO (((((((((((((w.setCell ⟨r,2,none⟩ v0).setCell ⟨r,3,none⟩ v1).setCell ⟨r,4,none⟩ v2).setCell ⟨r,5,none⟩ v3).setCell ⟨r,6,none⟩ v4).setCell ⟨r,7,none⟩ v5).setCell ⟨r,8,none⟩ v6).setCell ⟨r,9,none⟩ v7).setCell ⟨r,10,none⟩ v8).setCell ⟨r,11,none⟩ v9).setCell ⟨r,12,none⟩ v10).setCell ⟨r,13,none⟩ v11).setCell ⟨r,14,none⟩ v12) B o p:=by
 repeat (refine AgO.below ?_ hr _)
 exact h
theorem OwnC.ne {w:World} {B B':Nat} {v:Value} {M:List Ce} {o:Ag} {p:Pl} (h:OwnC w B v M) (ha:AgO w B' o p):∀ k,Qdu o p k->v.ownBlock≠some k:=fun k hk e=>by
 rcases h.2 with ⟨rfl,_⟩ | ⟨g,cap,cur,rfl,q1,q2,q3⟩
 ·cases e
 ·obtain rfl:g=k:=Option.some.inj e
  rcases hk with (hk | hk) | (hk | hk)
  ·exact ha.P.ne q2 (by decide) hk
  ·exact ha.N.ne q2 (by decide) hk
  ·rcases ha.E.2.2 with ⟨e',_⟩ | ⟨b,c,cur',e',h2,h3,h4⟩
   ·rw [e'] at hk;cases hk
   ·rw [e'] at hk
    obtain rfl:b=g:=Option.some.inj hk;rw [q2] at h3;injection h3 with h3;injection h3 with _ h3
    revert h3;decide
  ·rcases ha.R.2.2 with ⟨e',_⟩ | ⟨b,c,cur',e',h2,h3,h4⟩
   ·rw [e'] at hk;cases hk
   ·rw [e'] at hk
    obtain rfl:b=g:=Option.some.inj hk;rw [q2] at h3;injection h3 with h3;injection h3 with _ h3
    revert h3;decide
theorem CesO.row {w w':World} {B B':Nat} {v:Value} {L M:List Ce} (h:CesO w B L) (ho:OwnC w B' v M) (hg:w.grownBy w' v.ownBlock):CesO w' B L:=
 h.keptS (S:=fun k=>v.ownBlock=some k) ⟨hg.os,hg.tape,hg.output,hg.size,fun k hk hn=>hg.block k hk (fun e=>hn e.symm)⟩ (fun c hc k e=>ho.ne (h.o c hc) k e)
def ApV (u v:Value):Prop:=∀ k,u.ownBlock=some k->v.ownBlock≠some k
theorem OwnC.kept {w w':World} {B:Nat} {u v:Value} {L:List Ce} (h:OwnC w B u L) (hg:w.grownBy w' v.ownBlock) (ha:ApV u v):OwnC w' B u L:=
 World.ownsRow.kept h hg (by
  cases q:u.ownBlock with
  | none=>exact .inl rfl
  | some j=>exact .inr (fun e=>ha j q e.symm))
structure CpI (w wr:World) (L:List Ce) (k:Nat) (v:Value) (M:List Ce):Prop where
 r:OwnC wr w.heap.size v M
 o:CesO wr w.heap.size M
 ky:M.map Ce.key=(L.take k).map Ce.key
 b:Below w.heap.size w wr
theorem OwnC.made (w:World) (cs:Array Value) (h:cs.size=0):OwnC (w.alloc (.cells cs 51)) w.heap.size (.slice (some ⟨w.heap.size,0,none⟩) 0 0) []:=by
 have hb:=ZZk w (.cells cs 51);exact ⟨rfl,.inr ⟨_,0,cs,rfl,Nat.le_refl _,hb,Nat.le_refl _,Nat.zero_le _,by simpa using h,by simp [flC]⟩⟩
theorem CpI.len {w wr:World} {L M:List Ce} {k:Nat} {v:Value} (h:CpI w wr L k v M) (hk:k<=L.length):M.length=k:=by
 have:=congrArg List.length h.ky;simp at this;omega
theorem CpI.step {w wr w1 W2:World} {L M:List Ce} {k:Nat} {u:Value} {c:Ce} {q:Pl} (h:CpI w wr L k u M) (hc:L[k]?=some c) (hb1:Below wr.heap.size wr w1) (ho:AgO w1 wr.heap.size c.g q) (hb2:Below wr.heap.size w1 W2) (ho2:AgO W2 (wr.heap.size+1) c.g q)
  (v':Value) (w3:World) (hown:w3.ownsRow w.heap.size 51 15 v' (M.length+1) (flC M ++ ceL ⟨c.n,c.s,c.g,q⟩)) (hg:(W2.alloc (.cells (Qap ⟨c.n,c.s,c.g,q⟩) 51)).grownBy w3 u.ownBlock):CpI w w3 L (k+1) v' (M ++ [⟨c.n,c.s,c.g,q⟩]):=by
 have ab:Below wr.heap.size wr W2:=hb1.trans hb2;have aa:Below wr.heap.size wr (W2.alloc (.cells (Qap ⟨c.n,c.s,c.g,q⟩) 51)):=ab.alloc ab.size _;have ac:Below w.heap.size w (W2.alloc (.cells (Qap ⟨c.n,c.s,c.g,q⟩) 51)):=h.b.trans (aa.mono h.b.size);have a2:Below W2.heap.size W2 (W2.alloc (.cells (Qap ⟨c.n,c.s,c.g,q⟩) 51)):=(ZZb _ _).alloc (ZZa _) _;have hO:=(h.o.add aa h.b.size (c:=⟨c.n,c.s,c.g,q⟩) ((ho2.past a2).le (Nat.le_succ _)));have hR:OwnC (W2.alloc (.cells (Qap ⟨c.n,c.s,c.g,q⟩) 51)) w.heap.size u M:=h.r.past aa;have hp:(⟨c.n,c.s,c.g,q⟩ :: M:List Ce).Perm (M ++ [⟨c.n,c.s,c.g,q⟩]):=(List.perm_append_singleton _ _).symm;refine ⟨?_,(hO.row hR hg).perm hp,?_,ac.grown hg ac.size (fun j hj=>(World.ownsRow.lt h.r j hj).1)⟩
 ·show w3.ownsRow _ _ _ _ _ _
  rw [List.length_append,QeI,QiH];exact hown
 ·rw [List.map_append,h.ky,List.take_add_one,hc,List.map_append];rfl
set_option maxHeartbeats 8000000 in
theorem QbP {w:World} {ao:Option Addr} {N ca:Nat} {L:List Ce} (hN:L.length=N) (lN:N<=1048576) (sm:∀ c∈L,AgSm c.g) (pl:∀ c∈L,PlG c.g c.p) (hA:Qb7 w ao L) :
  Calls Tryz.prog 94 #[.slice ao N ca] w fun e w'=>∃ v M,e=.returned v/\OwnC w' w.heap.size v M/\CesO w' w.heap.size M/\M.map Ce.key=L.map Ce.key/\Below w.heap.size w w'/\v≠.slice none 0 0:=by
 obtain ⟨i0,hi,aQ,aJ,aP⟩:=QjD;have HA:=Qaa hA;have HN:=Qaa hN;have SM:=Qaa sm;have PL:=Qaa pl;have M0:∀ cs:Array Value,cs.size=0->CpI w (w.alloc (.cells cs 51)) L 0 (.slice (some ⟨w.heap.size,0,none⟩) 0 0) []:=fun cs hcs=>⟨OwnC.made w cs hcs,CesO.nil _ _,by simp,(Below.refl _ _).alloc (Nat.le_refl _) _⟩;have M0:=Qaa M0;clear hA hN sm pl;go_enter Tryz.func94,Tryz.ntmps94;go_wp2
 go_loopw [3,4] (fun v i wr=>∃ (k:Nat) (M:List Ce),k<=N/\i=.int .i64 k/\Hid (CpI w wr L k v M)/\Hid (v≠.slice none 0 0)) (fun v i wr=>N - (Go.RowKit.intOf i).toNat)
 case atStart=>exact ⟨0,[],ZZj _,rfl,M0.out _ rfl,Qaa (fun e=>by cases e)⟩
 case round=>
  clear M0;obtain ⟨k,M,hk,rfl,HI,aG⟩:=hrel;by_cases aD:k<N
  ·obtain ⟨g,aR,e,ab⟩:=HA.out.1 (by have:=HN.out;omega)
   obtain ⟨c,hc⟩:∃ c,L[k]?=some c:=⟨L[k]'(by have:=HN.out;omega),ZZe _⟩;subst e;obtain ⟨x0,x1,x2,x3,x4,x5,x6,x7,x8,x9,aO,aB,aM,au,az⟩:=Qai (ab k c hc) HI.out.b;have hm:=ZZn hc;have HC:=Qaa hc;have SC:=Qaa (SM.out c hm);have PC:=Qaa (PL.out c hm);have AC:=Qaa (Qao (HA.out.2 c hm) HI.out.b);have ah:Hid (Below wr.heap.size wr (wr.alloc (.cells (Qap c) 51))):=(ZZb _ _).alloc (ZZa _) _;have HX:=Qaa (ZZk wr (.cells (Qap c) 51));have af:Hid ((wr.alloc (.cells (Qap c) 51)).heap.size=wr.heap.size+1):=by show _=_;simp
   have aE:(k:Int)<(N:Int):=by omega
   clear ab hc hm;go_wp2_with fail;clear x0 x1 x2 x3 x4 x5 x6 x7 x8 x9 aO aB aM au az;generalize wr.alloc (.cells (Qap c) 51)=W0 at ah HX af ⊢;refine (Qjw SC PC (Qao AC ah)).mono ?_;rintro e w1 ⟨v,o,rfl,rfl,⟨q,rfl,ho⟩,aj⟩;have aa:w1.heap[wr.heap.size]?=some (.cells (Qap c) 51 (0,0)):=(aj.block _ (by have:=af.out;omega)).trans HX;have ak:=Qaa (Qac ah aj);have HO:=Qaa (ho.le (show wr.heap.size<=W0.heap.size from ah.out.size));have an:Hid (AgO w1 (wr.heap.size+1) c.g q):=by rw [<- af.out];exact ho
   have f2:=fzR 2 aa;have f3:=fzR 3 aa;have f4:=fzR 4 aa;have f5:=fzR 5 aa;have f6:=fzR 6 aa;have f7:=fzR 7 aa;have f8:=fzR 8 aa;have f9:=fzR 9 aa;have aN:=fzR 10 aa;have aL:=fzR 11 aa;have aH:=fzR 12 aa;have av:=fzR 13 aa;have aI:=fzR 14 aa;have c2:=Qad aa 2 rfl;have c3:=Qad aa 3 rfl;have c4:=Qad aa 4 rfl;have c5:=Qad aa 5 rfl;have c6:=Qad aa 6 rfl;have c7:=Qad aa 7 rfl;have c8:=Qad aa 8 rfl;have c9:=Qad aa 9 rfl;have ay:=Qad aa 10 rfl;have ax:=Qad aa 11 rfl;have aK:=Qad aa 12 rfl;have aA:=Qad aa 13 rfl;have aC:=Qad aa 14 rfl;have ai:=Qaa (Qob (v0:=.int .i64 c.g.k) (v1:=.int .u64 c.g.s) (v2:=.int .i64 c.g.h) (v3:=.int .u64 c.g.l) (v4:=.int .i64 c.g.a) (v5:=.int .i64 c.g.t) (v6:=.int .u64 c.g.z) (v7:=.slice q.pa c.g.P.length q.pc) (v8:=.slice q.na c.g.N.length q.nc) (v9:=.int .i64 c.g.x) (v10:=.int .u64 c.g.y) (v11:=.slice q.ea c.g.E.length q.ec) (v12:=.slice q.ra c.g.R.length q.rc) aa);have ag:Hid (Below wr.heap.size w1 (((((((((((((w1.setCell ⟨wr.heap.size,2,none⟩ (.int .i64 c.g.k)).setCell ⟨wr.heap.size,3,none⟩ (.int .u64 c.g.s)).setCell ⟨wr.heap.size,4,none⟩ (.int .i64 c.g.h)).setCell ⟨wr.heap.size,5,none⟩ (.int .u64 c.g.l)).setCell ⟨wr.heap.size,6,none⟩ (.int .i64 c.g.a)).setCell ⟨wr.heap.size,7,none⟩ (.int .i64 c.g.t)).setCell ⟨wr.heap.size,8,none⟩ (.int .u64 c.g.z)).setCell ⟨wr.heap.size,9,none⟩ (.slice q.pa c.g.P.length q.pc)).setCell ⟨wr.heap.size,10,none⟩ (.slice q.na c.g.N.length q.nc)).setCell ⟨wr.heap.size,11,none⟩ (.int .i64 c.g.x)).setCell ⟨wr.heap.size,12,none⟩ (.int .u64 c.g.y)).setCell ⟨wr.heap.size,13,none⟩ (.slice q.ea c.g.E.length q.ec)).setCell ⟨wr.heap.size,14,none⟩ (.slice q.ra c.g.R.length q.rc))):=QoY (ZZa _);have am:Hid (AgO (((((((((((((w1.setCell ⟨wr.heap.size,2,none⟩ (.int .i64 c.g.k)).setCell ⟨wr.heap.size,3,none⟩ (.int .u64 c.g.s)).setCell ⟨wr.heap.size,4,none⟩ (.int .i64 c.g.h)).setCell ⟨wr.heap.size,5,none⟩ (.int .u64 c.g.l)).setCell ⟨wr.heap.size,6,none⟩ (.int .i64 c.g.a)).setCell ⟨wr.heap.size,7,none⟩ (.int .i64 c.g.t)).setCell ⟨wr.heap.size,8,none⟩ (.int .u64 c.g.z)).setCell ⟨wr.heap.size,9,none⟩ (.slice q.pa c.g.P.length q.pc)).setCell ⟨wr.heap.size,10,none⟩ (.slice q.na c.g.N.length q.nc)).setCell ⟨wr.heap.size,11,none⟩ (.int .i64 c.g.x)).setCell ⟨wr.heap.size,12,none⟩ (.int .u64 c.g.y)).setCell ⟨wr.heap.size,13,none⟩ (.slice q.ea c.g.E.length q.ec)).setCell ⟨wr.heap.size,14,none⟩ (.slice q.ra c.g.R.length q.rc)) (wr.heap.size+1) c.g q):=an.out.kept15 (Nat.lt_succ_self _);clear aa aj ho HX af an;go_upto_region 7 with fail;clear f2 c2 f3 c3 f4 c4 f5 c5 f6 c6 f7 c7 f8 c8 f9 c9 aN ay aL ax aH aK av aA aI aC;generalize (((((((((((((w1.setCell ⟨wr.heap.size,2,none⟩ (.int .i64 c.g.k)).setCell ⟨wr.heap.size,3,none⟩ (.int .u64 c.g.s)).setCell ⟨wr.heap.size,4,none⟩ (.int .i64 c.g.h)).setCell ⟨wr.heap.size,5,none⟩ (.int .u64 c.g.l)).setCell ⟨wr.heap.size,6,none⟩ (.int .i64 c.g.a)).setCell ⟨wr.heap.size,7,none⟩ (.int .i64 c.g.t)).setCell ⟨wr.heap.size,8,none⟩ (.int .u64 c.g.z)).setCell ⟨wr.heap.size,9,none⟩ (.slice q.pa c.g.P.length q.pc)).setCell ⟨wr.heap.size,10,none⟩ (.slice q.na c.g.N.length q.nc)).setCell ⟨wr.heap.size,11,none⟩ (.int .i64 c.g.x)).setCell ⟨wr.heap.size,12,none⟩ (.int .u64 c.g.y)).setCell ⟨wr.heap.size,13,none⟩ (.slice q.ea c.g.E.length q.ec)).setCell ⟨wr.heap.size,14,none⟩ (.slice q.ra c.g.R.length q.rc))=W2 at ai ag am ⊢;obtain ⟨y0,y1,y2,y3,y4,y5,y6,y7,y8,y9,aS,aW,aV,aT,aX⟩:=Qoz ai;have HF:=Qaa (HI.out.step HC ak HO ag am);have ap:M.length=k:=HI.out.len (by have:=HN.out;omega);have al:=Qaa ap;have aq:OwnC W2 w.heap.size u3 M:=HI.out.r.past (ak.out.trans ag);have aw:=Qaa aq;have aU:w.heap.size<=W2.heap.size:=by have:=HI.out.b.size;have:=(ak.out.trans ag).size;omega
   clear ap aq ai;go_wp2_with (at_builtin;refine wpList_append_own _ rfl _ _ 23 rfl w.heap.size 51 i0 (.agg Qch) 15 192 Tryz.underlying23 hi aQ aJ aP rfl (by decide) _ _ _ rfl (World.ownsRow.alloc aw _) ⟨W2.heap.size,0,none⟩ 1 1 (ceL ⟨c.n,c.s,c.g,q⟩) rfl rfl ?c1 ?c2 ?c3 ?c4 ?c5 ?_)
   case c1=>exact Qb2 (c:=⟨c.n,c.s,c.g,q⟩)
   case c2=>exact Qdi _
   case c3=>have:=al.out;unfold maxLen;omega
   case c4=>have:=al.out;omega
   case c5=>simp;omega
   intro v' w3 ac ad ae;have aF:Hid (v'≠.slice none 0 0):=ae;clear ae;have ar:=Qaa (HF.out v' w3 ac ad);clear ac ad HF;go_wp2;go_roundw
   case rel=>exact ⟨k+1,_,by omega,by go_num,ar,aF⟩
   case measure=>simp [zI];omega
  ·have eL:L.take k=L:=List.take_of_length_le (by have:=HN.out;omega)
   obtain rfl:k=N:=by omega
   have HF:Hid (M.map Ce.key=L.map Ce.key):=by have:=HI.out.ky;rw [eL] at this;exact this
   clear eL hk aD;go_wp2;go_ret;exact ⟨_,M,rfl,HI.out.r,HI.out.o,HF,HI.out.b,aG⟩
theorem ApV.symm {u v:Value} (h:ApV u v):ApV v u:=fun k h1 h2=>h k h2 h1
theorem OwnC.mk {w:World} {B:Nat} {v:Value} {F:List Ce} {c:Ce} (h:w.ownsRow B 51 15 v (F.length+1) (flC F ++ ceL c)):OwnC w B v (F ++ [c]):=by
 show w.ownsRow _ _ _ _ _ _
 rw [List.length_append,QeI,QiH];exact h
structure TaI (w wr:World) (A:List Ce) (win:Int) (k:Nat) (va vo vr:Value):Prop where
 r:OwnC wr w.heap.size va A
 f:OwnC wr w.heap.size vo ((A.take k).filter (isW win))
 s:OwnC wr w.heap.size vr ((A.take k).filter (fun c=>!isW win c))
 o:CesO wr w.heap.size A
 a1:ApV va vo
 a2:ApV va vr
 a3:ApV vo vr
 b:Below w.heap.size w wr
end Go.Proofs.YtandnmpllheniaaGreatDoor
