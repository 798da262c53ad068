/-
 share of a live pipe: each cell goes to its owner.
-/
import Derived.Test.YtmjogablacnlgaaGreatDoorVZA
namespace Go.Proofs.YtmjogablacnlgaaGreatDoor
set_option linter.unusedVariables false
set_option linter.unusedSimpArgs false
open Go.ChangeShapes Go.WideShapes Go.ChangeAt Go.RowKit Go.PlainAid Go.Lib Go.Maps
set_option maxRecDepth 10000
theorem grS {w w':World} {r:Option Nat} (hg:w.grownBy w' r):GrownS w w' (fun k=>r=some k):=⟨hg.os,hg.tape,hg.output,hg.size,fun k hk hn=>hg.block k hk (fun e=>hn e.symm)⟩
structure SrJ (w wr:World) (mb n:Nat) (p:Pi) (vn:Value) (K:List ByteArray) (L:List Ce) (k:Nat) (X:List Sd):Prop where
 x0:wr.heap[w.heap.size]?=some (.cells (lvArr p mb) 82 (0,0))
 mp:MpS wr mb n X
 on:OwnT wr (w.heap.size+1) vn K
 g:GrownS w wr (fun k=>k=mb)
 sh:ShrL K (L.take k) X
 r:∀ s∈X,OwnC wr (w.heap.size+1) (slS s) s.L
 rap:X.Pairwise (fun s t=>ApV (slS s) (slS t))
section
variable {w wr W w5 w7:World} {mb n k bx:Nat} {p:Pi} {vn:Value} {K:List ByteArray} {L:List Ce} {X A R:List Sd} {s t:Sd} {c:Ce}
theorem SrJ.past (h:SrJ w wr mb n p vn K L k X) (hb:Below wr.heap.size wr W):SrJ w W mb n p vn K L k X:=
 ⟨hpast h.x0 hb,h.mp.past hb,own_past h.on hb,(h.g.trans (GrownS.ofBelow hb)).weak (fun k q=>q.elim id (fun f=>f.elim)),h.sh,fun s hs=>(h.r s hs).past hb,h.rap⟩
theorem SrJ.step (h:SrJ w wr mb n p vn K L k (A ++ s :: R)) (hK:RiseT K) (hmb:mb<w.heap.size) (hc:L[k]?=some c) (ho:OwnAns K c.s s.nm) (hbW:Below wr.heap.size wr W) (hx0:wr.heap.size≤bx) (hx1:bx<W.heap.size)
  (hown:OwnC w5 (w.heap.size+1) (slS t) t.L) (e1:t.nm=s.nm) (e2:t.L=s.L ++ [c]) (hg:W.grownBy w5 (slS s).ownBlock) (hloc:(slS t).ownBlock=(slS s).ownBlock∨(slS t).ownBlock=some W.heap.size)
  (h7:(w5.setCell ⟨bx,1,none⟩ (slS t)).grownBy w7 (some mb)) (hm7:MpS w7 mb (n+1) (A ++ t :: R)):SrJ w w7 mb (n+1) p vn K L (k+1) (A ++ t :: R):=by
 have hW:=h.past hbW;have hws:w.heap.size+1≤wr.heap.size:=(Array.getElem?_eq_some_iff.1 h.x0).1;have rs:=h.r s (by simp);have far:∀ j,(slS s).ownBlock=some j→w.heap.size+1≤j∧j<wr.heap.size:=fun j q=>World.ownsRow.lt rs j q;have g6:=grown_one w5 bx 1 (slS t)
 have hap:∀ d,d∈A∨d∈R→ApV (slS d) (slS s):=fun d hd=>by
  have hp:=List.pairwise_append.1 h.rap;rcases hd with hd | hd
  ·exact hp.2.2 d hd s List.mem_cons_self
  ·exact ((List.pairwise_cons.1 hp.2.1).1 d hd).symm
 have hin:∀ d,d∈A∨d∈R→OwnC wr (w.heap.size+1) (slS d) d.L:=fun d hd=>h.r d (by rcases hd with hd | hd <;> simp [hd])
 have hap2:∀ d,d∈A∨d∈R→ApV (slS d) (slS t):=fun d hd j q1 q2=>by
  rcases hloc with q | q
  ·rw [q] at q2;exact hap d hd j q1 q2
  ·rw [q] at q2
   have:=(World.ownsRow.lt (hin d hd) j q1).2;have:=hbW.size;injection q2 with q2;omega
 have k7:∀ {v:Value} {L:List Ce},OwnC w5 (w.heap.size+1) v L→(∀ j,v.ownBlock=some j→j≠bx)→OwnC w7 (w.heap.size+1) v L:=fun {v L} o hne=>by
  have o6:OwnC (w5.setCell ⟨bx,1,none⟩ (slS t)) (w.heap.size+1) v L:=o.keptS (grS g6) (fun j q e=>by injection e with e;exact hne j q e.symm);exact o6.keptS (grS h7) (fun j q e=>by have:=(World.ownsRow.lt o6 j q).1;injection e with e;omega)
 have row:∀ {r:Nat} {o:Obj},r<w.heap.size+1→r≠mb→W.heap[r]?=some o→w7.heap[r]?=some o:=fun {r o} hr hrm q=>by
  have q5:=(hg.block r (Array.getElem?_eq_some_iff.1 q).1 (fun e=>by have:=far r e.symm;omega)).trans q;have q6:=(g6.block r (Array.getElem?_eq_some_iff.1 q5).1 (fun e=>by injection e with e;omega)).trans q5;exact (h7.block r (Array.getElem?_eq_some_iff.1 q6).1 (fun e=>by injection e with e;omega)).trans q6
 refine ⟨row (by omega) (by omega) hW.x0,hm7,?_,?_,h.sh.step hK hc ho e1 e2,fun d hd=>?_,?_⟩
 ·have o5:=hW.on.kept hg (fun j q e=>Ty.ne (own_ty hW.on) (own_ty (hW.r s (by simp))) (by decide) j e q)
  have o6:=o5.kept g6 (fun j q e=>by have:=(World.ownsRow.lt h.on j e).2;injection q with q;omega);exact o6.kept h7 (fun j q e=>by have:=(World.ownsRow.lt h.on j e).1;injection q with q;omega)
 ·refine (((h.g.trans (GrownS.ofBelow hbW)).trans (grS hg)).trans (grS g6) |>.trans (grS h7)) |> (fun q=>⟨q.os,q.tape,q.output,q.size,fun j hj hn=>q.block j hj ?_⟩)
  rintro ((((e | e) | e) | e) | e)
  ·exact hn e
  ·exact e
  ·have:=far j e;omega
  ·injection e with e;omega
  ·injection e with e;exact hn e.symm
 ·have hsx:∀ d,d∈A∨d∈R→OwnC w7 (w.heap.size+1) (slS d) d.L:=fun d hd=>by
   refine k7 (((hin d hd).past hbW).kept hg (hap d hd)) (fun j q e=>?_);have:=(World.ownsRow.lt (hin d hd) j q).2;omega
  rcases List.mem_append.1 hd with hd | hd
  ·exact hsx d (.inl hd)
  ·rcases List.mem_cons.1 hd with hd | hd
   ·subst hd
    refine k7 hown (fun j q e=>?_);rcases hloc with q2 | q2
    ·rw [q2] at q;have:=(far j q).2;omega
    ·rw [q2] at q;injection q with q;omega
   ·exact hsx d (.inr hd)
 ·obtain ⟨p1,p2,p3⟩:=List.pairwise_append.1 h.rap
  obtain ⟨p4,p5⟩:=List.pairwise_cons.1 p2;refine List.pairwise_append.2 ⟨p1,List.pairwise_cons.2 ⟨fun d hd=>(hap2 d (.inr hd)).symm,p5⟩,fun a ha b hb=>?_⟩;rcases List.mem_cons.1 hb with hb | hb
  ·rw [hb];exact hap2 a (.inl ha)
  ·exact p3 a ha b (List.mem_cons_of_mem _ hb)
end
end Go.Proofs.YtmjogablacnlgaaGreatDoor
