/-
 A sample put into an Agg: the model.
-/
import Derived.Test.YtiiclgcpagdekaaGreatDoorSPB
import Derived.Test.YtiiclgcpagdekaaGreatDoorSKD
import Derived.Test.YtiiclgcpagdekaaGreatDoorSKA
namespace Go.Proofs.YtiiclgcpagdekaaGreatDoor
set_option linter.unusedVariables false
set_option linter.unusedSimpArgs false
open Go.ChangeShapes Go.WideShapes Go.ChangeAt Go.RowKit Go.PlainAid Go.Lib
set_option maxRecDepth 10000
theorem AgO.setNe {w:World} {B r j:Nat} {o:Ag} {p:Pl} (h:AgO w B o p) (hn:∀ k,AgBlk o p k→k≠r) (u:Value):AgO (w.setCell ⟨r,j,none⟩ u) B o p:=
 h.keptS (S:=fun k=>k=r) ⟨rfl,rfl,rfl,by simp [World.setCell],fun k hk hn=>Below.heap_setCell _ _ _ _ (fun e=>hn (by rw [e]))⟩ hn
section
variable {g:Ag} {x:Sx} (ok:x.Ok) (hg:agB g=true) (hx:x.B=true) (e:g.k=x.k)
include ok hg hx e
theorem putC' (k:g.k=1):AgPut g x ⟨g.k,wAdd g.s 1,addH g.h g.l (thH x.v x.wt) (thL x.v x.wt),addL g.l (thL x.v x.wt),g.a,g.t,g.z,g.P,g.N,g.x,g.y,g.E,g.R⟩:=by
 have n:=agB_no hg
 obtain ⟨a1,a2,a3,a4,a5⟩:=n.nh (by omega)
 obtain ⟨c1,c2⟩:=n.ns (by omega)
 obtain ⟨d1,d2⟩:=n.ng (by omega)
 have:=putC ok hg hx e k
 rw [a1,a2,a3,a4,a5,c1,c2,d1,d2,k]
 exact this
theorem putG' (k:g.k=2):AgPut g x ⟨g.k,wAdd g.s 1,g.h,g.l,gA g.a g.t x.v x.ti,gT g.a g.t x.v x.ti,g.z,g.P,g.N,g.x,g.y,g.E,g.R⟩:=by
 have n:=agB_no hg
 obtain ⟨a1,a2,a3,a4,a5⟩:=n.nh (by omega)
 obtain ⟨c1,c2⟩:=n.ns (by omega)
 obtain ⟨d1,d2⟩:=n.nc (by omega)
 have:=putG ok hg hx e k
 rw [a1,a2,a3,a4,a5,c1,c2,d1,d2,k]
 exact this
theorem putH' (k:g.k=3) (go:AgOk g):AgPut g x ⟨g.k,wAdd g.s 1,g.h,g.l,g.a,g.t,putZ g.z x.v x.wt,putPS g.P x.v x.wt,putNS g.N x.v x.wt,addH g.x g.y (thH x.v x.wt) (thL x.v x.wt),addL g.y (thL x.v x.wt),g.E,g.R⟩:=by
 have n:=agB_no hg
 obtain ⟨a1,a2⟩:=n.ng (by omega)
 obtain ⟨c1,c2⟩:=n.ns (by omega)
 obtain ⟨d1,d2⟩:=n.nc (by omega)
 have:=putHs ok hg hx e k go
 rw [a1,a2,c1,c2,d1,d2,k]
 exact this
theorem putS' (k:g.k=4) {E R:List Int} (m:Mg g.E g.R [hashT x.wd] [] E R):AgPut g x ⟨g.k,wAdd g.s 1,g.h,g.l,g.a,g.t,g.z,g.P,g.N,g.x,g.y,E,R⟩:=by
 have n:=agB_no hg
 obtain ⟨a1,a2,a3,a4,a5⟩:=n.nh (by omega)
 obtain ⟨c1,c2⟩:=n.ng (by omega)
 obtain ⟨d1,d2⟩:=n.nc (by omega)
 have:=putS ok hg hx e k (E:=E) (R:=R) (by unfold PutH;rw [if_pos n.hl];exact m)
 rw [a1,a2,a3,a4,a5,c1,c2,d1,d2,k]
 exact this
end
structure PB (w W:World) (b:Nat) (g a:Ag) (p q:Pl) (x:Sx):Prop where
 bel:Below w.heap.size w W
 ra:W.heap[w.heap.size]?=some (.cells (agArr g p) 79 (0,0))
 rx:W.heap[w.heap.size+1]?=some (.cells (sxArr x) 37 (0,0))
 rr:W.heap[w.heap.size+1+1]?=some (.cells z13 79 (0,0))
 ro:W.heap[b]?=some (.cells (agArr a q) 79 (0,0))
 lo:w.heap.size+1+1+1≤b∧b<W.heap.size
 own:AgO W (w.heap.size+1+1+1) a q
 ne:∀ k,AgBlk a q k→k<b
theorem PB.past {w W W':World} {b:Nat} {g a:Ag} {p q:Pl} {x:Sx} (h:PB w W b g a p q x) (hb:Below W.heap.size W W'):PB w W' b g a p q x:=
 ⟨chain h.bel hb,(hb.block _ (Array.getElem?_eq_some_iff.1 h.ra).1).trans h.ra,(hb.block _ (Array.getElem?_eq_some_iff.1 h.rx).1).trans h.rx,(hb.block _ (Array.getElem?_eq_some_iff.1 h.rr).1).trans h.rr,(hb.block _ (Array.getElem?_eq_some_iff.1 h.ro).1).trans h.ro,⟨h.lo.1,Nat.lt_of_lt_of_le h.lo.2 hb.size⟩,h.own.past hb,h.ne⟩
theorem PB.sam {w W:World} {b:Nat} {g a:Ag} {p q:Pl} {x:Sx} (h:PB w W b g a p q x) (s:Int):PB w (W.setCell ⟨b,1,none⟩ (.int .u64 s)) b g { a with s:=s } p q x:=by
 have hl:=h.lo
 have ot:∀ r o,r≠b→W.heap[r]?=some o→(W.setCell ⟨b,1,none⟩ (.int .u64 s)).heap[r]?=some o:=fun r o hr e=>by rw [heap_setCell_other _ _ _ _ (by simpa using hr)];exact e
 refine ⟨h.bel.setCell (by simp <;> omega) _,ot _ _ (by omega) h.ra,ot _ _ (by omega) h.rx,ot _ _ (by omega) h.rr,heap_setCell_same W b 1 _ _ _ h.ro,⟨hl.1,by simpa [World.setCell] using hl.2⟩,?_,h.ne⟩
 have:=h.own.setNe (r:=b) (j:=1) (fun k e=>Nat.ne_of_lt (h.ne k e)) (.int .u64 s)
 exact ⟨this.P,this.N,this.ap,this.E,this.R⟩
theorem PB.made {w w1:World} {g:Ag} {p q:Pl} {x:Sx} (hb:Below w.heap.size w w1) (h0:w1.heap[w.heap.size]?=some (.cells (agArr g p) 79 (0,0))) (h1:w1.heap[w.heap.size+1]?=some (.cells (sxArr x) 37 (0,0))) (h2:w1.heap[w.heap.size+1+1]?=some (.cells z13 79 (0,0))) (hs:w.heap.size+1+1+1≤w1.heap.size) (ho:AgO w1 (w.heap.size+1+1+1) g q):PB w (w1.alloc (.cells (agArr g q) 79)) w1.heap.size g g p q x:=by
 have a1:Below w1.heap.size w1 (w1.alloc (.cells (agArr g q) 79)):=(Below.refl _ _).alloc (Nat.le_refl _) _
 exact ⟨chain hb a1,(a1.block _ (Array.getElem?_eq_some_iff.1 h0).1).trans h0,(a1.block _ (Array.getElem?_eq_some_iff.1 h1).1).trans h1,(a1.block _ (Array.getElem?_eq_some_iff.1 h2).1).trans h2,heap_alloc_new w1 _,⟨hs,by simp⟩,ho.past a1,fun k e=>(ho.lt e).2⟩
set_option maxHeartbeats 16000000 in
theorem c_s_l07Put {w:World} {g:Ag} {p:Pl} (x:Sx) (hg:agB g=true) (hx:x.B=true) (hk:g.k=x.k) (ok:AgOk g) (ox:x.Ok) (sm:AgSm g) (pl:PlG g p) (hA:AgAt w g p) :
  Calls Tryz.prog 103 #[.agg (agArr g p),.agg (sxArr x)] w fun e w'=>AgRes w (AgPut g x) e w':=by
 have HG:=hide hg
 have HX:=hide hx
 have HKK:=hide hk
 have OK:=hide ok
 have OX:=hide ox
 have SM:=hide sm
 have PL:=hide pl
 have HA:=hide hA
 have NO:=hide (agB_no hg)
 clear hg hx hk ok ox sm pl hA
 obtain ⟨HT0,HC,HZ0⟩:=box_put w g p x
 go_enter Tryz.func103,Tryz.ntmps103
 go_wp2_with fail
 generalize ((w.alloc (.cells (agArr g p) 79)).alloc (.cells (sxArr x) 37)).alloc (.cells z13 79)=W0 at HT0 HC HZ0 ⊢
 refine (c_l07Copy SM.out PL.out (ag_past HA.out HT0.out)).mono ?_
 rintro e w1 ⟨v,o,rfl,ho,⟨q,rfl,hO⟩,hb1⟩
 obtain rfl:g=o:=ho.symm
 clear ho
 have hR:=HC.out w1 hb1
 have hs1:=hb1.size
 have HP:=hide (PB.made (chain HT0.out hb1) hR.1 hR.2.1 hR.2.2 (by have:=HZ0.out;omega) (hO.le (by have:=HZ0.out;omega)))
 have x1:=cellK hR.1 1 rfl
 have hlt:w.heap.size<w1.heap.size:=by have:=HZ0.out;omega
 have hne:¬ w.heap.size=w1.heap.size:=by omega
 clear hR hs1 hb1 hO HC HZ0 HT0
 go_wp2_with fail
 clear x1 hlt hne
 generalize w1.alloc (.cells (agArr g q) 79)=W1 at HP ⊢
 generalize w1.heap.size=b at HP ⊢
 refine (c_s_WeightAdd g.s 1 OK.out.s (by unfold U64;omega) _).mono ?_
 rintro e wz ⟨rfl,hwz⟩
 obtain rfl:=hwz.symm
 have hl:=HP.out.lo
 have hn0:¬ w.heap.size=b:=by omega
 have hn1:¬ w.heap.size+1=b:=by omega
 have hn2:¬ w.heap.size+1+1=b:=by omega
 have hkk:g.k=1∨g.k=2∨g.k=3∨g.k=4:=by have:=NO.out.k1;have:=NO.out.k4;omega
 rcases hkk with h | h | h | h
 ·have HK1:=hide h
  have e1:(g.k == 1)=true:=by rw [h];rfl
  clear h
  have c0:=cellK HP.out.ro 0 rfl
  have c1:=cellK HP.out.ro 1 rfl
  have c2:=cellK HP.out.ro 2 rfl
  have c3:=cellK HP.out.ro 3 rfl
  have c4:=cellK HP.out.ro 4 rfl
  have c5:=cellK HP.out.ro 5 rfl
  have c6:=cellK HP.out.ro 6 rfl
  have c7:=cellK HP.out.ro 7 rfl
  have c8:=cellK HP.out.ro 8 rfl
  have c9:=cellK HP.out.ro 9 rfl
  have c10:=cellK HP.out.ro 10 rfl
  have c11:=cellK HP.out.ro 11 rfl
  have c12:=cellK HP.out.ro 12 rfl
  have f0:=fzR 0 HP.out.ro
  have f1:=fzR 1 HP.out.ro
  have f2:=fzR 2 HP.out.ro
  have f3:=fzR 3 HP.out.ro
  have f4:=fzR 4 HP.out.ro
  have f5:=fzR 5 HP.out.ro
  have f6:=fzR 6 HP.out.ro
  have f7:=fzR 7 HP.out.ro
  have f8:=fzR 8 HP.out.ro
  have f9:=fzR 9 HP.out.ro
  have f10:=fzR 10 HP.out.ro
  have f11:=fzR 11 HP.out.ro
  have f12:=fzR 12 HP.out.ro
  have x0:=cellK HP.out.ra 0 rfl
  have x1:=cellK HP.out.ra 1 rfl
  have x2:=cellK HP.out.ra 2 rfl
  have x3:=cellK HP.out.ra 3 rfl
  have x4:=cellK HP.out.ra 4 rfl
  have x5:=cellK HP.out.ra 5 rfl
  have x6:=cellK HP.out.ra 6 rfl
  have x7:=cellK HP.out.ra 7 rfl
  have x8:=cellK HP.out.ra 8 rfl
  have x9:=cellK HP.out.ra 9 rfl
  have x10:=cellK HP.out.ra 10 rfl
  have x11:=cellK HP.out.ra 11 rfl
  have x12:=cellK HP.out.ra 12 rfl
  have y0:=cellK HP.out.rx 0 rfl
  have y1:=cellK HP.out.rx 1 rfl
  have y2:=cellK HP.out.rx 2 rfl
  have y3:=cellK HP.out.rx 3 rfl
  have y4:=cellK HP.out.rx 4 rfl
  have y5:=cellK HP.out.rx 5 rfl
  have y6:=cellK HP.out.rx 6 rfl
  go_wp2_with fail
  clear c0 c1 c2 c3 c4 c5 c6 c7 c8 c9 c10 c11 c12 f0 f1 f2 f3 f4 f5 f6 f7 f8 f9 f10 f11 f12 x0 x1 x2 x3 x4 x5 x6 x7 x8 x9 x10 x11 x12 y0 y1 y2 y3 y4 y5 y6
  have HP2:=hide (HP.out.sam (wAdd g.s 1))
  generalize W1.setCell ⟨b,1,none⟩ (.int .u64 (wAdd g.s 1))=W2 at HP2 ⊢
  clear HP
  have HS0:(fun W=>Below W2.heap.size W2 W) W2.drew:=(Below.refl _ _).drew
  refine regionK (fun W=>Below W2.heap.size W2 W) 9 (by kernel_rfl) ?_
  refine tkS (i:=0) (v:=.pointer (some ⟨w.heap.size,2,none⟩)) rfl rfl HS0 ?_
  refine tkL (i:=1) (v:=.agg #[.int .i64 g.h,.int .u64 g.l]) rfl rfl HS0 (fun W hW=>?_) ?_
  ·have hWW:=HP2.out.past hW
   have x0:=cellK hWW.ra 0 rfl
   have x1:=cellK hWW.ra 1 rfl
   have x2:=cellK hWW.ra 2 rfl
   have x3:=cellK hWW.ra 3 rfl
   have x4:=cellK hWW.ra 4 rfl
   have x5:=cellK hWW.ra 5 rfl
   have x6:=cellK hWW.ra 6 rfl
   have x7:=cellK hWW.ra 7 rfl
   have x8:=cellK hWW.ra 8 rfl
   have x9:=cellK hWW.ra 9 rfl
   have x10:=cellK hWW.ra 10 rfl
   have x11:=cellK hWW.ra 11 rfl
   have x12:=cellK hWW.ra 12 rfl
   have y0:=cellK hWW.rx 0 rfl
   have y1:=cellK hWW.rx 1 rfl
   have y2:=cellK hWW.rx 2 rfl
   have y3:=cellK hWW.rx 3 rfl
   have y4:=cellK hWW.rx 4 rfl
   have y5:=cellK hWW.rx 5 rfl
   have y6:=cellK hWW.rx 6 rfl
   clear hWW
   clear hW
   go_simp
  refine tkS (i:=2) (v:=.pointer (some ⟨w.heap.size+1,2,none⟩)) rfl rfl HS0 ?_
  simp only [sA,sB,sC]
  refine tkL (i:=3) (v:=.int .i64 x.v) rfl rfl HS0 (fun W hW=>?_) ?_
  ·have hWW:=HP2.out.past hW
   have x0:=cellK hWW.ra 0 rfl
   have x1:=cellK hWW.ra 1 rfl
   have x2:=cellK hWW.ra 2 rfl
   have x3:=cellK hWW.ra 3 rfl
   have x4:=cellK hWW.ra 4 rfl
   have x5:=cellK hWW.ra 5 rfl
   have x6:=cellK hWW.ra 6 rfl
   have x7:=cellK hWW.ra 7 rfl
   have x8:=cellK hWW.ra 8 rfl
   have x9:=cellK hWW.ra 9 rfl
   have x10:=cellK hWW.ra 10 rfl
   have x11:=cellK hWW.ra 11 rfl
   have x12:=cellK hWW.ra 12 rfl
   have y0:=cellK hWW.rx 0 rfl
   have y1:=cellK hWW.rx 1 rfl
   have y2:=cellK hWW.rx 2 rfl
   have y3:=cellK hWW.rx 3 rfl
   have y4:=cellK hWW.rx 4 rfl
   have y5:=cellK hWW.rx 5 rfl
   have y6:=cellK hWW.rx 6 rfl
   clear hWW
   clear hW
   go_simp
  refine tkS (i:=4) (v:=.pointer (some ⟨w.heap.size+1,4,none⟩)) rfl rfl HS0 ?_
  refine tkL (i:=5) (v:=.int .u64 x.wt) rfl rfl HS0 (fun W hW=>?_) ?_
  ·have hWW:=HP2.out.past hW
   have x0:=cellK hWW.ra 0 rfl
   have x1:=cellK hWW.ra 1 rfl
   have x2:=cellK hWW.ra 2 rfl
   have x3:=cellK hWW.ra 3 rfl
   have x4:=cellK hWW.ra 4 rfl
   have x5:=cellK hWW.ra 5 rfl
   have x6:=cellK hWW.ra 6 rfl
   have x7:=cellK hWW.ra 7 rfl
   have x8:=cellK hWW.ra 8 rfl
   have x9:=cellK hWW.ra 9 rfl
   have x10:=cellK hWW.ra 10 rfl
   have x11:=cellK hWW.ra 11 rfl
   have x12:=cellK hWW.ra 12 rfl
   have y0:=cellK hWW.rx 0 rfl
   have y1:=cellK hWW.rx 1 rfl
   have y2:=cellK hWW.rx 2 rfl
   have y3:=cellK hWW.rx 3 rfl
   have y4:=cellK hWW.rx 4 rfl
   have y5:=cellK hWW.rx 5 rfl
   have y6:=cellK hWW.rx 6 rfl
   clear hWW
   clear hW
   go_simp
  simp only [sA,sB,sC]
  refine onE (i:=6) rfl (fun K hK=>?_)
  go_simp
  refine (c_s_WideTimes x.v x.wt OX.out.v OX.out.wt _).mono ?_
  rintro e w3 ⟨rfl,hb3⟩
  have HB3:Hid (Below W2.heap.size W2 w3):=(HS0:Below W2.heap.size W2 W2.drew).trans (hb3.mono (Nat.le_refl _))
  clear hb3
  dsimp only
  refine hK.out _ _ (fun _=>HB3.out) ?_
  clear hK K
  try simp only [Act.put,sA,sB,sC]
  refine onE (i:=7) rfl (fun K hK=>?_)
  go_simp
  refine (c_s_WideAdd g.h g.l (thH x.v x.wt) (thL x.v x.wt) _ OK.out.l (show U64 (thL x.v x.wt) from uw_in _)).mono ?_
  rintro e w4 ⟨rfl,hb4⟩
  have HB4:Hid (Below W2.heap.size W2 w4):=chain HB3.out hb4
  have HP3:=hide (HP2.out.past HB4.out)
  clear hb4
  have c0:=cellK HP3.out.ro 0 rfl
  have c1:=cellK HP3.out.ro 1 rfl
  have c2:=cellK HP3.out.ro 2 rfl
  have c3:=cellK HP3.out.ro 3 rfl
  have c4:=cellK HP3.out.ro 4 rfl
  have c5:=cellK HP3.out.ro 5 rfl
  have c6:=cellK HP3.out.ro 6 rfl
  have c7:=cellK HP3.out.ro 7 rfl
  have c8:=cellK HP3.out.ro 8 rfl
  have c9:=cellK HP3.out.ro 9 rfl
  have c10:=cellK HP3.out.ro 10 rfl
  have c11:=cellK HP3.out.ro 11 rfl
  have c12:=cellK HP3.out.ro 12 rfl
  have f0:=fzR 0 HP3.out.ro
  have f1:=fzR 1 HP3.out.ro
  have f2:=fzR 2 HP3.out.ro
  have f3:=fzR 3 HP3.out.ro
  have f4:=fzR 4 HP3.out.ro
  have f5:=fzR 5 HP3.out.ro
  have f6:=fzR 6 HP3.out.ro
  have f7:=fzR 7 HP3.out.ro
  have f8:=fzR 8 HP3.out.ro
  have f9:=fzR 9 HP3.out.ro
  have f10:=fzR 10 HP3.out.ro
  have f11:=fzR 11 HP3.out.ro
  have f12:=fzR 12 HP3.out.ro
  have z0:=cellK HP3.out.rr 0 rfl
  have z1:=cellK HP3.out.rr 1 rfl
  have z2:=cellK HP3.out.rr 2 rfl
  have z3:=cellK HP3.out.rr 3 rfl
  have z4:=cellK HP3.out.rr 4 rfl
  have z5:=cellK HP3.out.rr 5 rfl
  have z6:=cellK HP3.out.rr 6 rfl
  have z7:=cellK HP3.out.rr 7 rfl
  have z8:=cellK HP3.out.rr 8 rfl
  have z9:=cellK HP3.out.rr 9 rfl
  have z10:=cellK HP3.out.rr 10 rfl
  have z11:=cellK HP3.out.rr 11 rfl
  have z12:=cellK HP3.out.rr 12 rfl
  have k0:=fzR 0 HP3.out.rr
  have k1:=fzR 1 HP3.out.rr
  have k2:=fzR 2 HP3.out.rr
  have k3:=fzR 3 HP3.out.rr
  have k4:=fzR 4 HP3.out.rr
  have k5:=fzR 5 HP3.out.rr
  have k6:=fzR 6 HP3.out.rr
  have k7:=fzR 7 HP3.out.rr
  have k8:=fzR 8 HP3.out.rr
  have k9:=fzR 9 HP3.out.rr
  have k10:=fzR 10 HP3.out.rr
  have k11:=fzR 11 HP3.out.rr
  have k12:=fzR 12 HP3.out.rr
  have HOF:Hid (AgO w4 (w.heap.size+1+1+1) ⟨g.k,wAdd g.s 1,addH g.h g.l (thH x.v x.wt) (thL x.v x.wt),addL g.l (thL x.v x.wt),g.a,g.t,g.z,g.P,g.N,g.x,g.y,g.E,g.R⟩ q):=⟨HP3.out.own.P,HP3.out.own.N,HP3.out.own.ap,HP3.out.own.E,HP3.out.own.R⟩
  have HNE:Hid (∀ k,AgBlk ⟨g.k,wAdd g.s 1,addH g.h g.l (thH x.v x.wt) (thL x.v x.wt),addL g.l (thL x.v x.wt),g.a,g.t,g.z,g.P,g.N,g.x,g.y,g.E,g.R⟩ q k→k≠b):=fun k e=>Nat.ne_of_lt (HP3.out.ne k e)
  dsimp only
  refine hK.out _ _ (fun _=>HB4.out) ?_
  clear hK K
  try simp only [Act.put,sA,sB,sC]
  refine tkS (i:=8) (v:=.pointer (some ⟨b,2,none⟩)) rfl rfl HB4.out ?_
  simp only [sA,sB,sC]
  refine onE (i:=9) rfl (fun K hK=>?_)
  go_simp
  refine hK.out _ _ (fun h=>absurd rfl h) ?_
  clear hK K
  try simp only [Act.put,sA,sB,sC]
  refine doneK (by kernel_rfl) ?_ _
  go_wp2
  refine bodyPost_ret (v:=.agg (agArr ⟨g.k,wAdd g.s 1,addH g.h g.l (thH x.v x.wt) (thL x.v x.wt),addL g.l (thL x.v x.wt),g.a,g.t,g.z,g.P,g.N,g.x,g.y,g.E,g.R⟩ q)) (by simp [results,Tryz.results103,go_sem,c0,c1,c2,c3,c4,c5,c6,c7,c8,c9,c10,c11,c12,z0,z1,z2,z3,z4,z5,z6,z7,z8,z9,z10,z11,z12]) rfl (AgRes.mk (o:=⟨g.k,wAdd g.s 1,addH g.h g.l (thH x.v x.wt) (thL x.v x.wt),addL g.l (thL x.v x.wt),g.a,g.t,g.z,g.P,g.N,g.x,g.y,g.E,g.R⟩) (p:=q) (putC' OX.out HG.out HX.out HKK.out HK1.out) ?_ ?_)
  ·refine AgO.le (B:=w.heap.size+1+1+1) ?_ (by omega)
   repeat (first | refine AgO.below ?_ (by omega) _ | refine AgO.setNe ?_ HNE.out _)
   exact HOF.out
  ·repeat (refine Below.setCell ?_ (by simp <;> omega) _)
   exact HP3.out.bel
 ·have HK1:=hide h
  have e1:(g.k == 1)=false:=beq_eq_false_iff_ne.2 (by omega)
  have e2:(g.k == 2)=true:=by rw [h];rfl
  clear h
  have c0:=cellK HP.out.ro 0 rfl
  have c1:=cellK HP.out.ro 1 rfl
  have c2:=cellK HP.out.ro 2 rfl
  have c3:=cellK HP.out.ro 3 rfl
  have c4:=cellK HP.out.ro 4 rfl
  have c5:=cellK HP.out.ro 5 rfl
  have c6:=cellK HP.out.ro 6 rfl
  have c7:=cellK HP.out.ro 7 rfl
  have c8:=cellK HP.out.ro 8 rfl
  have c9:=cellK HP.out.ro 9 rfl
  have c10:=cellK HP.out.ro 10 rfl
  have c11:=cellK HP.out.ro 11 rfl
  have c12:=cellK HP.out.ro 12 rfl
  have f0:=fzR 0 HP.out.ro
  have f1:=fzR 1 HP.out.ro
  have f2:=fzR 2 HP.out.ro
  have f3:=fzR 3 HP.out.ro
  have f4:=fzR 4 HP.out.ro
  have f5:=fzR 5 HP.out.ro
  have f6:=fzR 6 HP.out.ro
  have f7:=fzR 7 HP.out.ro
  have f8:=fzR 8 HP.out.ro
  have f9:=fzR 9 HP.out.ro
  have f10:=fzR 10 HP.out.ro
  have f11:=fzR 11 HP.out.ro
  have f12:=fzR 12 HP.out.ro
  have x0:=cellK HP.out.ra 0 rfl
  have x1:=cellK HP.out.ra 1 rfl
  have x2:=cellK HP.out.ra 2 rfl
  have x3:=cellK HP.out.ra 3 rfl
  have x4:=cellK HP.out.ra 4 rfl
  have x5:=cellK HP.out.ra 5 rfl
  have x6:=cellK HP.out.ra 6 rfl
  have x7:=cellK HP.out.ra 7 rfl
  have x8:=cellK HP.out.ra 8 rfl
  have x9:=cellK HP.out.ra 9 rfl
  have x10:=cellK HP.out.ra 10 rfl
  have x11:=cellK HP.out.ra 11 rfl
  have x12:=cellK HP.out.ra 12 rfl
  have y0:=cellK HP.out.rx 0 rfl
  have y1:=cellK HP.out.rx 1 rfl
  have y2:=cellK HP.out.rx 2 rfl
  have y3:=cellK HP.out.rx 3 rfl
  have y4:=cellK HP.out.rx 4 rfl
  have y5:=cellK HP.out.rx 5 rfl
  have y6:=cellK HP.out.rx 6 rfl
  go_wp2_with fail
  clear c0 c1 c2 c3 c4 c5 c6 c7 c8 c9 c10 c11 c12 f0 f1 f2 f3 f4 f5 f6 f7 f8 f9 f10 f11 f12 x0 x1 x2 x3 x4 x5 x6 x7 x8 x9 x10 x11 x12 y0 y1 y2 y3 y4 y5 y6
  have HP2:=hide (HP.out.sam (wAdd g.s 1))
  generalize W1.setCell ⟨b,1,none⟩ (.int .u64 (wAdd g.s 1))=W2 at HP2 ⊢
  clear HP
  refine (c_s_Gauge { g with s:=wAdd g.s 1 } q x.v x.ti _).mono ?_
  rintro e w4 ⟨rfl,hb4⟩
  have HP3:=hide (HP2.out.past hb4)
  clear hb4
  have c0:=cellK HP3.out.ro 0 rfl
  have c1:=cellK HP3.out.ro 1 rfl
  have c2:=cellK HP3.out.ro 2 rfl
  have c3:=cellK HP3.out.ro 3 rfl
  have c4:=cellK HP3.out.ro 4 rfl
  have c5:=cellK HP3.out.ro 5 rfl
  have c6:=cellK HP3.out.ro 6 rfl
  have c7:=cellK HP3.out.ro 7 rfl
  have c8:=cellK HP3.out.ro 8 rfl
  have c9:=cellK HP3.out.ro 9 rfl
  have c10:=cellK HP3.out.ro 10 rfl
  have c11:=cellK HP3.out.ro 11 rfl
  have c12:=cellK HP3.out.ro 12 rfl
  have f0:=fzR 0 HP3.out.ro
  have f1:=fzR 1 HP3.out.ro
  have f2:=fzR 2 HP3.out.ro
  have f3:=fzR 3 HP3.out.ro
  have f4:=fzR 4 HP3.out.ro
  have f5:=fzR 5 HP3.out.ro
  have f6:=fzR 6 HP3.out.ro
  have f7:=fzR 7 HP3.out.ro
  have f8:=fzR 8 HP3.out.ro
  have f9:=fzR 9 HP3.out.ro
  have f10:=fzR 10 HP3.out.ro
  have f11:=fzR 11 HP3.out.ro
  have f12:=fzR 12 HP3.out.ro
  have z0:=cellK HP3.out.rr 0 rfl
  have z1:=cellK HP3.out.rr 1 rfl
  have z2:=cellK HP3.out.rr 2 rfl
  have z3:=cellK HP3.out.rr 3 rfl
  have z4:=cellK HP3.out.rr 4 rfl
  have z5:=cellK HP3.out.rr 5 rfl
  have z6:=cellK HP3.out.rr 6 rfl
  have z7:=cellK HP3.out.rr 7 rfl
  have z8:=cellK HP3.out.rr 8 rfl
  have z9:=cellK HP3.out.rr 9 rfl
  have z10:=cellK HP3.out.rr 10 rfl
  have z11:=cellK HP3.out.rr 11 rfl
  have z12:=cellK HP3.out.rr 12 rfl
  have k0:=fzR 0 HP3.out.rr
  have k1:=fzR 1 HP3.out.rr
  have k2:=fzR 2 HP3.out.rr
  have k3:=fzR 3 HP3.out.rr
  have k4:=fzR 4 HP3.out.rr
  have k5:=fzR 5 HP3.out.rr
  have k6:=fzR 6 HP3.out.rr
  have k7:=fzR 7 HP3.out.rr
  have k8:=fzR 8 HP3.out.rr
  have k9:=fzR 9 HP3.out.rr
  have k10:=fzR 10 HP3.out.rr
  have k11:=fzR 11 HP3.out.rr
  have k12:=fzR 12 HP3.out.rr
  have HOF:Hid (AgO w4 (w.heap.size+1+1+1) ⟨g.k,wAdd g.s 1,g.h,g.l,gA g.a g.t x.v x.ti,gT g.a g.t x.v x.ti,g.z,g.P,g.N,g.x,g.y,g.E,g.R⟩ q):=⟨HP3.out.own.P,HP3.out.own.N,HP3.out.own.ap,HP3.out.own.E,HP3.out.own.R⟩
  have HNE:Hid (∀ k,AgBlk ⟨g.k,wAdd g.s 1,g.h,g.l,gA g.a g.t x.v x.ti,gT g.a g.t x.v x.ti,g.z,g.P,g.N,g.x,g.y,g.E,g.R⟩ q k→k≠b):=fun k e=>Nat.ne_of_lt (HP3.out.ne k e)
  go_wp2
  refine bodyPost_ret (v:=.agg (agArr ⟨g.k,wAdd g.s 1,g.h,g.l,gA g.a g.t x.v x.ti,gT g.a g.t x.v x.ti,g.z,g.P,g.N,g.x,g.y,g.E,g.R⟩ q)) (by simp [results,Tryz.results103,go_sem,c0,c1,c2,c3,c4,c5,c6,c7,c8,c9,c10,c11,c12,z0,z1,z2,z3,z4,z5,z6,z7,z8,z9,z10,z11,z12]) rfl (AgRes.mk (o:=⟨g.k,wAdd g.s 1,g.h,g.l,gA g.a g.t x.v x.ti,gT g.a g.t x.v x.ti,g.z,g.P,g.N,g.x,g.y,g.E,g.R⟩) (p:=q) (putG' OX.out HG.out HX.out HKK.out HK1.out) ?_ ?_)
  ·refine AgO.le (B:=w.heap.size+1+1+1) ?_ (by omega)
   repeat (first | refine AgO.below ?_ (by omega) _ | refine AgO.setNe ?_ HNE.out _)
   exact HOF.out
  ·repeat (refine Below.setCell ?_ (by simp <;> omega) _)
   exact HP3.out.bel
 ·have HK1:=hide h
  have e1:(g.k == 1)=false:=beq_eq_false_iff_ne.2 (by omega)
  have e2:(g.k == 2)=false:=beq_eq_false_iff_ne.2 (by omega)
  have e3:(g.k == 3)=true:=by rw [h];rfl
  clear h
  have c0:=cellK HP.out.ro 0 rfl
  have c1:=cellK HP.out.ro 1 rfl
  have c2:=cellK HP.out.ro 2 rfl
  have c3:=cellK HP.out.ro 3 rfl
  have c4:=cellK HP.out.ro 4 rfl
  have c5:=cellK HP.out.ro 5 rfl
  have c6:=cellK HP.out.ro 6 rfl
  have c7:=cellK HP.out.ro 7 rfl
  have c8:=cellK HP.out.ro 8 rfl
  have c9:=cellK HP.out.ro 9 rfl
  have c10:=cellK HP.out.ro 10 rfl
  have c11:=cellK HP.out.ro 11 rfl
  have c12:=cellK HP.out.ro 12 rfl
  have f0:=fzR 0 HP.out.ro
  have f1:=fzR 1 HP.out.ro
  have f2:=fzR 2 HP.out.ro
  have f3:=fzR 3 HP.out.ro
  have f4:=fzR 4 HP.out.ro
  have f5:=fzR 5 HP.out.ro
  have f6:=fzR 6 HP.out.ro
  have f7:=fzR 7 HP.out.ro
  have f8:=fzR 8 HP.out.ro
  have f9:=fzR 9 HP.out.ro
  have f10:=fzR 10 HP.out.ro
  have f11:=fzR 11 HP.out.ro
  have f12:=fzR 12 HP.out.ro
  have x0:=cellK HP.out.ra 0 rfl
  have x1:=cellK HP.out.ra 1 rfl
  have x2:=cellK HP.out.ra 2 rfl
  have x3:=cellK HP.out.ra 3 rfl
  have x4:=cellK HP.out.ra 4 rfl
  have x5:=cellK HP.out.ra 5 rfl
  have x6:=cellK HP.out.ra 6 rfl
  have x7:=cellK HP.out.ra 7 rfl
  have x8:=cellK HP.out.ra 8 rfl
  have x9:=cellK HP.out.ra 9 rfl
  have x10:=cellK HP.out.ra 10 rfl
  have x11:=cellK HP.out.ra 11 rfl
  have x12:=cellK HP.out.ra 12 rfl
  have y0:=cellK HP.out.rx 0 rfl
  have y1:=cellK HP.out.rx 1 rfl
  have y2:=cellK HP.out.rx 2 rfl
  have y3:=cellK HP.out.rx 3 rfl
  have y4:=cellK HP.out.rx 4 rfl
  have y5:=cellK HP.out.rx 5 rfl
  have y6:=cellK HP.out.rx 6 rfl
  go_wp2_with fail
  clear c0 c1 c2 c3 c4 c5 c6 c7 c8 c9 c10 c11 c12 f0 f1 f2 f3 f4 f5 f6 f7 f8 f9 f10 f11 f12 x0 x1 x2 x3 x4 x5 x6 x7 x8 x9 x10 x11 x12 y0 y1 y2 y3 y4 y5 y6
  have HP2:=hide (HP.out.sam (wAdd g.s 1))
  generalize W1.setCell ⟨b,1,none⟩ (.int .u64 (wAdd g.s 1))=W2 at HP2 ⊢
  clear HP
  have hsk:=sk_rise NO.out.sk
  refine (c_s_l03Put OK.out.z OK.out.y OX.out.v OX.out.wt rfl rfl hsk.1.2 hsk.2.2 (bins_past HA.out.P HP2.out.bel) (bins_past HA.out.N HP2.out.bel) OK.out.P OK.out.N (smp_parts HX.out).2.1 PL.out.cP PL.out.cN).mono ?_
  clear hsk
  rintro e w4 ⟨v4,rfl,⟨vp,vn,pn,nn,rfl,o1,o2,hap⟩,hb4⟩
  obtain ⟨pa,pc,rfl⟩:=o1.any
  obtain ⟨na,nc,rfl⟩:=o2.any
  obtain rfl:=o1.1
  obtain rfl:=o2.1
  have HP3:=hide (HP2.out.past hb4)
  have hl2:=HP2.out.lo
  have HOF:Hid (AgO w4 (w.heap.size+1+1+1) ⟨g.k,wAdd g.s 1,g.h,g.l,g.a,g.t,putZ g.z x.v x.wt,putPS g.P x.v x.wt,putNS g.N x.v x.wt,addH g.x g.y (thH x.v x.wt) (thL x.v x.wt),addL g.y (thL x.v x.wt),g.E,g.R⟩ ⟨pa,pc,na,nc,q.ea,q.ec,q.ra,q.rc⟩):=⟨o1.le (by omega),o2.le (by omega),hap,HP3.out.own.E,HP3.out.own.R⟩
  have HNE:Hid (∀ k,AgBlk ⟨g.k,wAdd g.s 1,g.h,g.l,g.a,g.t,putZ g.z x.v x.wt,putPS g.P x.v x.wt,putNS g.N x.v x.wt,addH g.x g.y (thH x.v x.wt) (thL x.v x.wt),addL g.y (thL x.v x.wt),g.E,g.R⟩ ⟨pa,pc,na,nc,q.ea,q.ec,q.ra,q.rc⟩ k→k≠b):=fun k e=>by
   rcases e with (e | e) | e
   ·have:=(o1.lt k e).1;omega
   ·have:=(o2.lt k e).1;omega
   ·exact Nat.ne_of_lt (HP3.out.ne k (.inr e))
  clear hb4 o1 o2 hap
  have c0:=cellK HP3.out.ro 0 rfl
  have c1:=cellK HP3.out.ro 1 rfl
  have c2:=cellK HP3.out.ro 2 rfl
  have c3:=cellK HP3.out.ro 3 rfl
  have c4:=cellK HP3.out.ro 4 rfl
  have c5:=cellK HP3.out.ro 5 rfl
  have c6:=cellK HP3.out.ro 6 rfl
  have c7:=cellK HP3.out.ro 7 rfl
  have c8:=cellK HP3.out.ro 8 rfl
  have c9:=cellK HP3.out.ro 9 rfl
  have c10:=cellK HP3.out.ro 10 rfl
  have c11:=cellK HP3.out.ro 11 rfl
  have c12:=cellK HP3.out.ro 12 rfl
  have f0:=fzR 0 HP3.out.ro
  have f1:=fzR 1 HP3.out.ro
  have f2:=fzR 2 HP3.out.ro
  have f3:=fzR 3 HP3.out.ro
  have f4:=fzR 4 HP3.out.ro
  have f5:=fzR 5 HP3.out.ro
  have f6:=fzR 6 HP3.out.ro
  have f7:=fzR 7 HP3.out.ro
  have f8:=fzR 8 HP3.out.ro
  have f9:=fzR 9 HP3.out.ro
  have f10:=fzR 10 HP3.out.ro
  have f11:=fzR 11 HP3.out.ro
  have f12:=fzR 12 HP3.out.ro
  have z0:=cellK HP3.out.rr 0 rfl
  have z1:=cellK HP3.out.rr 1 rfl
  have z2:=cellK HP3.out.rr 2 rfl
  have z3:=cellK HP3.out.rr 3 rfl
  have z4:=cellK HP3.out.rr 4 rfl
  have z5:=cellK HP3.out.rr 5 rfl
  have z6:=cellK HP3.out.rr 6 rfl
  have z7:=cellK HP3.out.rr 7 rfl
  have z8:=cellK HP3.out.rr 8 rfl
  have z9:=cellK HP3.out.rr 9 rfl
  have z10:=cellK HP3.out.rr 10 rfl
  have z11:=cellK HP3.out.rr 11 rfl
  have z12:=cellK HP3.out.rr 12 rfl
  have k0:=fzR 0 HP3.out.rr
  have k1:=fzR 1 HP3.out.rr
  have k2:=fzR 2 HP3.out.rr
  have k3:=fzR 3 HP3.out.rr
  have k4:=fzR 4 HP3.out.rr
  have k5:=fzR 5 HP3.out.rr
  have k6:=fzR 6 HP3.out.rr
  have k7:=fzR 7 HP3.out.rr
  have k8:=fzR 8 HP3.out.rr
  have k9:=fzR 9 HP3.out.rr
  have k10:=fzR 10 HP3.out.rr
  have k11:=fzR 11 HP3.out.rr
  have k12:=fzR 12 HP3.out.rr
  go_wp2
  refine bodyPost_ret (v:=.agg (agArr ⟨g.k,wAdd g.s 1,g.h,g.l,g.a,g.t,putZ g.z x.v x.wt,putPS g.P x.v x.wt,putNS g.N x.v x.wt,addH g.x g.y (thH x.v x.wt) (thL x.v x.wt),addL g.y (thL x.v x.wt),g.E,g.R⟩ ⟨pa,pc,na,nc,q.ea,q.ec,q.ra,q.rc⟩)) (by simp [results,Tryz.results103,go_sem,c0,c1,c2,c3,c4,c5,c6,c7,c8,c9,c10,c11,c12,z0,z1,z2,z3,z4,z5,z6,z7,z8,z9,z10,z11,z12]) rfl (AgRes.mk (o:=⟨g.k,wAdd g.s 1,g.h,g.l,g.a,g.t,putZ g.z x.v x.wt,putPS g.P x.v x.wt,putNS g.N x.v x.wt,addH g.x g.y (thH x.v x.wt) (thL x.v x.wt),addL g.y (thL x.v x.wt),g.E,g.R⟩) (p:=⟨pa,pc,na,nc,q.ea,q.ec,q.ra,q.rc⟩) (putH' OX.out HG.out HX.out HKK.out HK1.out OK.out) ?_ ?_)
  ·refine AgO.le (B:=w.heap.size+1+1+1) ?_ (by omega)
   repeat (first | refine AgO.below ?_ (by omega) _ | refine AgO.setNe ?_ HNE.out _)
   exact HOF.out
  ·repeat (refine Below.setCell ?_ (by simp <;> omega) _)
   exact HP3.out.bel
 ·have HK1:=hide h
  have e1:(g.k == 1)=false:=beq_eq_false_iff_ne.2 (by omega)
  have e2:(g.k == 2)=false:=beq_eq_false_iff_ne.2 (by omega)
  have e3:(g.k == 3)=false:=beq_eq_false_iff_ne.2 (by omega)
  clear h
  have c0:=cellK HP.out.ro 0 rfl
  have c1:=cellK HP.out.ro 1 rfl
  have c2:=cellK HP.out.ro 2 rfl
  have c3:=cellK HP.out.ro 3 rfl
  have c4:=cellK HP.out.ro 4 rfl
  have c5:=cellK HP.out.ro 5 rfl
  have c6:=cellK HP.out.ro 6 rfl
  have c7:=cellK HP.out.ro 7 rfl
  have c8:=cellK HP.out.ro 8 rfl
  have c9:=cellK HP.out.ro 9 rfl
  have c10:=cellK HP.out.ro 10 rfl
  have c11:=cellK HP.out.ro 11 rfl
  have c12:=cellK HP.out.ro 12 rfl
  have f0:=fzR 0 HP.out.ro
  have f1:=fzR 1 HP.out.ro
  have f2:=fzR 2 HP.out.ro
  have f3:=fzR 3 HP.out.ro
  have f4:=fzR 4 HP.out.ro
  have f5:=fzR 5 HP.out.ro
  have f6:=fzR 6 HP.out.ro
  have f7:=fzR 7 HP.out.ro
  have f8:=fzR 8 HP.out.ro
  have f9:=fzR 9 HP.out.ro
  have f10:=fzR 10 HP.out.ro
  have f11:=fzR 11 HP.out.ro
  have f12:=fzR 12 HP.out.ro
  have x0:=cellK HP.out.ra 0 rfl
  have x1:=cellK HP.out.ra 1 rfl
  have x2:=cellK HP.out.ra 2 rfl
  have x3:=cellK HP.out.ra 3 rfl
  have x4:=cellK HP.out.ra 4 rfl
  have x5:=cellK HP.out.ra 5 rfl
  have x6:=cellK HP.out.ra 6 rfl
  have x7:=cellK HP.out.ra 7 rfl
  have x8:=cellK HP.out.ra 8 rfl
  have x9:=cellK HP.out.ra 9 rfl
  have x10:=cellK HP.out.ra 10 rfl
  have x11:=cellK HP.out.ra 11 rfl
  have x12:=cellK HP.out.ra 12 rfl
  have y0:=cellK HP.out.rx 0 rfl
  have y1:=cellK HP.out.rx 1 rfl
  have y2:=cellK HP.out.rx 2 rfl
  have y3:=cellK HP.out.rx 3 rfl
  have y4:=cellK HP.out.rx 4 rfl
  have y5:=cellK HP.out.rx 5 rfl
  have y6:=cellK HP.out.rx 6 rfl
  go_wp2_with fail
  clear c0 c1 c2 c3 c4 c5 c6 c7 c8 c9 c10 c11 c12 f0 f1 f2 f3 f4 f5 f6 f7 f8 f9 f10 f11 f12 x0 x1 x2 x3 x4 x5 x6 x7 x8 x9 x10 x11 x12 y0 y1 y2 y3 y4 y5 y6
  have HP2:=hide (HP.out.sam (wAdd g.s 1))
  generalize W1.setCell ⟨b,1,none⟩ (.int .u64 (wAdd g.s 1))=W2 at HP2 ⊢
  clear HP
  have HS0:(fun W=>Below W2.heap.size W2 W) W2.drew:=(Below.refl _ _).drew
  refine regionK (fun W=>Below W2.heap.size W2 W) 7 (by kernel_rfl) ?_
  refine tkS (i:=0) (v:=.pointer (some ⟨w.heap.size,11,none⟩)) rfl rfl HS0 ?_
  refine tkL (i:=1) (v:=.agg #[.slice p.ea g.E.length p.ec,.slice p.ra g.R.length p.rc]) rfl rfl HS0 (fun W hW=>?_) ?_
  ·have hWW:=HP2.out.past hW
   have x0:=cellK hWW.ra 0 rfl
   have x1:=cellK hWW.ra 1 rfl
   have x2:=cellK hWW.ra 2 rfl
   have x3:=cellK hWW.ra 3 rfl
   have x4:=cellK hWW.ra 4 rfl
   have x5:=cellK hWW.ra 5 rfl
   have x6:=cellK hWW.ra 6 rfl
   have x7:=cellK hWW.ra 7 rfl
   have x8:=cellK hWW.ra 8 rfl
   have x9:=cellK hWW.ra 9 rfl
   have x10:=cellK hWW.ra 10 rfl
   have x11:=cellK hWW.ra 11 rfl
   have x12:=cellK hWW.ra 12 rfl
   have y0:=cellK hWW.rx 0 rfl
   have y1:=cellK hWW.rx 1 rfl
   have y2:=cellK hWW.rx 2 rfl
   have y3:=cellK hWW.rx 3 rfl
   have y4:=cellK hWW.rx 4 rfl
   have y5:=cellK hWW.rx 5 rfl
   have y6:=cellK hWW.rx 6 rfl
   clear hWW
   clear hW
   go_simp
  refine tkS (i:=2) (v:=.pointer (some ⟨w.heap.size+1,3,none⟩)) rfl rfl HS0 ?_
  simp only [sA,sB,sC]
  refine tkL (i:=3) (v:=.string x.wd) rfl rfl HS0 (fun W hW=>?_) ?_
  ·have hWW:=HP2.out.past hW
   have x0:=cellK hWW.ra 0 rfl
   have x1:=cellK hWW.ra 1 rfl
   have x2:=cellK hWW.ra 2 rfl
   have x3:=cellK hWW.ra 3 rfl
   have x4:=cellK hWW.ra 4 rfl
   have x5:=cellK hWW.ra 5 rfl
   have x6:=cellK hWW.ra 6 rfl
   have x7:=cellK hWW.ra 7 rfl
   have x8:=cellK hWW.ra 8 rfl
   have x9:=cellK hWW.ra 9 rfl
   have x10:=cellK hWW.ra 10 rfl
   have x11:=cellK hWW.ra 11 rfl
   have x12:=cellK hWW.ra 12 rfl
   have y0:=cellK hWW.rx 0 rfl
   have y1:=cellK hWW.rx 1 rfl
   have y2:=cellK hWW.rx 2 rfl
   have y3:=cellK hWW.rx 3 rfl
   have y4:=cellK hWW.rx 4 rfl
   have y5:=cellK hWW.rx 5 rfl
   have y6:=cellK hWW.rx 6 rfl
   clear hWW
   clear hW
   go_simp
  simp only [sA,sB,sC]
  refine onE (i:=4) rfl (fun K hK=>?_)
  go_simp
  refine (c_s_l02Hash x.wd OX.out.wd _).mono ?_
  rintro e wz ⟨rfl,hwz⟩
  obtain rfl:=hwz.symm
  dsimp only
  refine hK.out _ _ (fun _=>HS0) ?_
  clear hK K
  try simp only [Act.put,sA,sB,sC]
  refine onE (i:=5) rfl (fun K hK=>?_)
  go_simp
  refine (c_s_PutH (hashT x.wd) NO.out.hl rfl rfl PL.out.lE PL.out.mE PL.out.fE PL.out.cE (nums_past HA.out.E (chain HP2.out.bel HS0)) (nums_past HA.out.R (chain HP2.out.bel HS0)) OK.out.E (hashT_in _)).mono ?_
  rintro e w4 ⟨v4,E,R,rfl,hM,⟨ve,vr,rfl,o3,o4⟩,hb4⟩
  obtain ⟨ea,ec,rfl⟩:=own_any o3
  obtain ⟨ra,rc,rfl⟩:=own_any o4
  have HM:=hide hM
  have HB4:Hid (Below W2.heap.size W2 w4):=(HS0:Below W2.heap.size W2 W2.drew).trans (hb4.mono (Nat.le_refl _))
  have HP3:=hide (HP2.out.past HB4.out)
  have hl2:=HP2.out.lo
  have hsz:W2.drew.heap.size=W2.heap.size:=rfl
  have HOF:Hid (AgO w4 (w.heap.size+1+1+1) ⟨g.k,wAdd g.s 1,g.h,g.l,g.a,g.t,g.z,g.P,g.N,g.x,g.y,E,R⟩ ⟨q.pa,q.pc,q.na,q.nc,ea,ec,ra,rc⟩):=⟨HP3.out.own.P,HP3.out.own.N,HP3.out.own.ap,⟨rfl,own_le o3 (by omega)⟩,⟨rfl,own_le o4 (by omega)⟩⟩
  have HNE:Hid (∀ k,AgBlk ⟨g.k,wAdd g.s 1,g.h,g.l,g.a,g.t,g.z,g.P,g.N,g.x,g.y,E,R⟩ ⟨q.pa,q.pc,q.na,q.nc,ea,ec,ra,rc⟩ k→k≠b):=fun k e=>by
   rcases e with e | (e | e)
   ·exact Nat.ne_of_lt (HP3.out.ne k (.inl e))
   ·have:=own_ltB o3 k e;omega
   ·have:=own_ltB o4 k e;omega
  clear hb4 o3 o4 hM
  have c0:=cellK HP3.out.ro 0 rfl
  have c1:=cellK HP3.out.ro 1 rfl
  have c2:=cellK HP3.out.ro 2 rfl
  have c3:=cellK HP3.out.ro 3 rfl
  have c4:=cellK HP3.out.ro 4 rfl
  have c5:=cellK HP3.out.ro 5 rfl
  have c6:=cellK HP3.out.ro 6 rfl
  have c7:=cellK HP3.out.ro 7 rfl
  have c8:=cellK HP3.out.ro 8 rfl
  have c9:=cellK HP3.out.ro 9 rfl
  have c10:=cellK HP3.out.ro 10 rfl
  have c11:=cellK HP3.out.ro 11 rfl
  have c12:=cellK HP3.out.ro 12 rfl
  have f0:=fzR 0 HP3.out.ro
  have f1:=fzR 1 HP3.out.ro
  have f2:=fzR 2 HP3.out.ro
  have f3:=fzR 3 HP3.out.ro
  have f4:=fzR 4 HP3.out.ro
  have f5:=fzR 5 HP3.out.ro
  have f6:=fzR 6 HP3.out.ro
  have f7:=fzR 7 HP3.out.ro
  have f8:=fzR 8 HP3.out.ro
  have f9:=fzR 9 HP3.out.ro
  have f10:=fzR 10 HP3.out.ro
  have f11:=fzR 11 HP3.out.ro
  have f12:=fzR 12 HP3.out.ro
  have z0:=cellK HP3.out.rr 0 rfl
  have z1:=cellK HP3.out.rr 1 rfl
  have z2:=cellK HP3.out.rr 2 rfl
  have z3:=cellK HP3.out.rr 3 rfl
  have z4:=cellK HP3.out.rr 4 rfl
  have z5:=cellK HP3.out.rr 5 rfl
  have z6:=cellK HP3.out.rr 6 rfl
  have z7:=cellK HP3.out.rr 7 rfl
  have z8:=cellK HP3.out.rr 8 rfl
  have z9:=cellK HP3.out.rr 9 rfl
  have z10:=cellK HP3.out.rr 10 rfl
  have z11:=cellK HP3.out.rr 11 rfl
  have z12:=cellK HP3.out.rr 12 rfl
  have k0:=fzR 0 HP3.out.rr
  have k1:=fzR 1 HP3.out.rr
  have k2:=fzR 2 HP3.out.rr
  have k3:=fzR 3 HP3.out.rr
  have k4:=fzR 4 HP3.out.rr
  have k5:=fzR 5 HP3.out.rr
  have k6:=fzR 6 HP3.out.rr
  have k7:=fzR 7 HP3.out.rr
  have k8:=fzR 8 HP3.out.rr
  have k9:=fzR 9 HP3.out.rr
  have k10:=fzR 10 HP3.out.rr
  have k11:=fzR 11 HP3.out.rr
  have k12:=fzR 12 HP3.out.rr
  dsimp only
  refine hK.out _ _ (fun _=>HB4.out) ?_
  clear hK K
  try simp only [Act.put,sA,sB,sC]
  refine tkS (i:=6) (v:=.pointer (some ⟨b,11,none⟩)) rfl rfl HB4.out ?_
  simp only [sA,sB,sC]
  refine onE (i:=7) rfl (fun K hK=>?_)
  go_simp
  refine hK.out _ _ (fun h=>absurd rfl h) ?_
  clear hK K
  try simp only [Act.put,sA,sB,sC]
  refine doneK (by kernel_rfl) ?_ _
  go_wp2
  refine bodyPost_ret (v:=.agg (agArr ⟨g.k,wAdd g.s 1,g.h,g.l,g.a,g.t,g.z,g.P,g.N,g.x,g.y,E,R⟩ ⟨q.pa,q.pc,q.na,q.nc,ea,ec,ra,rc⟩)) (by simp [results,Tryz.results103,go_sem,c0,c1,c2,c3,c4,c5,c6,c7,c8,c9,c10,c11,c12,z0,z1,z2,z3,z4,z5,z6,z7,z8,z9,z10,z11,z12]) rfl (AgRes.mk (o:=⟨g.k,wAdd g.s 1,g.h,g.l,g.a,g.t,g.z,g.P,g.N,g.x,g.y,E,R⟩) (p:=⟨q.pa,q.pc,q.na,q.nc,ea,ec,ra,rc⟩) (putS' OX.out HG.out HX.out HKK.out HK1.out HM.out) ?_ ?_)
  ·refine AgO.le (B:=w.heap.size+1+1+1) ?_ (by omega)
   repeat (first | refine AgO.below ?_ (by omega) _ | refine AgO.setNe ?_ HNE.out _)
   exact HOF.out
  ·repeat (refine Below.setCell ?_ (by simp <;> omega) _)
   exact HP3.out.bel
end Go.Proofs.YtiiclgcpagdekaaGreatDoor
