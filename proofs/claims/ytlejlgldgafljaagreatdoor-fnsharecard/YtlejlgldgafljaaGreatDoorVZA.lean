/-
 Parts.
-/
import Derived.Test.YtlejlgldgafljaaGreatDoorVYM
set_option maxRecDepth 10000
set_option maxHeartbeats 16000000
set_option linter.all false
namespace Go.Proofs.YtlejlgldgafljaaGreatDoor
open Go.ChangeShapes Go.WideShapes Go.ChangeAt Go.RowKit Go.PlainAid Go.Lib Go.Maps Tryz
variable {D:DataW Value}
variable {d s:Sd}
theorem HoldsS.put_old {B:List Sd} (h:HoldsS D (d :: B)) (t:Tidy D) (e:d.nm=s.nm):HoldsS (D.put (QcP s.nm) (Qk1 s)) (s :: B):=by
 obtain ⟨a1,a2⟩:=List.pairwise_cons.1 h.ap;have hn:∀ x∈B,x.nm≠s.nm:=fun x hx q=>a1 x hx (e.trans q.symm);have hh:Maps.has D (QcP s.nm)=true:=by rw [<- e];exact h.some (by simp)
 refine ⟨List.pairwise_cons.2 ⟨fun x hx q=>hn x hx q.symm,a2⟩,fun x hx z=>?_,fun u q=>?_,?_⟩
 ·rcases List.mem_cons.1 hx with rfl | hx
  ·exact atKey_put_same t.isMap (QkV _) _ z
  ·rw [atKey_put_other (fun q=>hn x hx (QdO q))];exact h.val x (ZZm _ hx) z
 ·by_cases q2:QcP u=QcP s.nm
  ·exact ⟨s,by simp,(QdO q2).symm⟩
  ·rw [has_put_other q2] at q
   obtain ⟨x,hx,e2⟩:=h.only u q;rcases List.mem_cons.1 hx with rfl | hx
   ·exact absurd (by rw [<- e2,e]) q2
   ·exact ⟨x,ZZm _ hx,e2⟩
 ·rw [size_put t,hh];simp [h.sz]
theorem HoldsS.del {B:List Sd} (h:HoldsS D (s :: B)) (t:Tidy D):HoldsS (D.del (QcP s.nm)) B:=by
 obtain ⟨a1,a2⟩:=List.pairwise_cons.1 h.ap;refine ⟨a2,fun x hx z=>?_,fun u q=>?_,?_⟩
 ·rw [atKey_del_other (fun q=>a1 x hx (QdO q).symm)];exact h.val x (ZZm _ hx) z
 ·by_cases q2:QcP u=QcP s.nm
  ·rw [q2,has_del_same] at q;cases q
  ·rw [has_del_other q2] at q
   obtain ⟨x,hx,e2⟩:=h.only u q;rcases List.mem_cons.1 hx with rfl | hx
   ·exact absurd (by rw [<- e2]) q2
   ·exact ⟨x,hx,e2⟩
 ·have hh:=h.some (s:=s) (by simp)
  have:=size_del (k:=QcP s.nm) t;rw [hh,if_pos rfl,h.sz] at this
  simpa using this
variable {B b k mb n r:Nat}
variable {w w' wr:World}
variable {A M R T X:List Sd}
theorem MpS.perm {L:List Sd} (h:MpS w b n L) (p:L.Perm M):MpS w b n M:=by
 obtain ⟨D,h1,h2⟩:=h;exact ⟨D,h1,h2.perm p⟩
theorem MpS.put (h:MpS w b n (A ++ d :: R)) (e:d.nm=s.nm) (hz:s.nm.size<=maxLen) (hn:n<=1000000):∃ w',(Instr.mapUpdate 50 (.map (some b)) (.string s.nm) (.agg (QaN s))).run prog w=.ok () w'/\MpS w' b (n+1) (A ++ s :: R)/\w.grownBy w' (some b):=by
 obtain ⟨D,hD,hH⟩:=h;obtain ⟨w',aa,r1,r2⟩:=hD.update Qfq underlying50 (by unfold maxLen;omega) (Qno hz) (show rS (.agg (QaN s))=some (.held (.agg (QaN s)),[]) from rfl);exact ⟨w',aa,⟨_,r1,((hH.perm List.perm_middle).put_old (hD.tidy Qfq) e).perm List.perm_middle.symm⟩,r2⟩
theorem MpS.add (h:MpS w b n M) (e:∀ d∈M,d.nm≠s.nm) (hz:s.nm.size<=maxLen) (hn:n<=1000000):∃ w',(Instr.mapUpdate 50 (.map (some b)) (.string s.nm) (.agg (QaN s))).run prog w=.ok () w'/\MpS w' b (n+1) (M ++ [s])/\w.grownBy w' (some b):=by
 obtain ⟨D,hD,hH⟩:=h;obtain ⟨w',aa,r1,r2⟩:=hD.update Qfq underlying50 (by unfold maxLen;omega) (Qno hz) (show rS (.agg (QaN s))=some (.held (.agg (QaN s)),[]) from rfl);exact ⟨w',aa,⟨_,r1,hH.put_new (hD.tidy Qfq) e⟩,r2⟩
noncomputable def QbP (K:List ByteArray) (u:ByteArray) (c:Ce):Bool:=@decide (QaR K c.s u) (Classical.propDecidable _)
variable {K:List ByteArray}
variable {u:ByteArray}
variable {c:Ce}
theorem ownB_iff:QbP K u c=true↔QaR K c.s u:=by unfold QbP;exact @decide_eq_true_iff _ (Classical.propDecidable _)
theorem Qpq {t:ByteArray} (h:QaR K c.s u) (hne:t≠u):QbP K t c=false:=by
 cases q:QbP K t c
 ·rfl
 ·exact absurd (Qet (ownB_iff.1 q) h) hne
def QnA (u:ByteArray):Sd:=⟨u,[],none,0⟩
structure ShrL (K:List ByteArray) (L:List Ce) (X:List Sd):Prop where
 nm:X.map Sd.nm=K
 l:∀ s∈X,s.L=L.filter (QbP K s.nm)
variable {L:List Ce}
theorem ShrL.keys (h:ShrL K L X):X.map Sd.key=K.map (fun u=>(u,(L.filter (QbP K u)).map Ce.key)):=by
 have e:K.map (fun u=>(u,(L.filter (QbP K u)).map Ce.key))=(X.map Sd.nm).map (fun u=>(u,(L.filter (QbP K u)).map Ce.key)):=by rw [h.nm]
 rw [e,List.map_map];refine List.map_congr_left (fun s hs=>?_)
 show (s.nm,s.L.map Ce.key)=_
 rw [h.l s hs]
 rfl
theorem QmY {K:List ByteArray} {u:ByteArray}:∀ {L M:List Ce},M.map Ce.key=L.map Ce.key->(M.filter (QbP K u)).map Ce.key=(L.filter (QbP K u)).map Ce.key
 | [],[],_=>rfl
 | c :: L,d :: M,h=>by
  simp only [List.map_cons,List.cons.injEq] at h;have hk:=QmY (K:=K) (u:=u) h.2;have e:QbP K u d=QbP K u c:=by unfold QbP;rw [(QpL h.1).2.1]
  rw [List.filter_cons,List.filter_cons,e]
  split
  ·rw [List.map_cons,List.map_cons,hk,h.1]
  ·exact hk
 | [],_ :: _,h=>by simp at h
 | _ :: _,[],h=>by simp at h
theorem QtH (h:L.Pairwise ApC) {x y:Ce} (hx:x∈L) (hy:y∈L) (hne:x≠y):ApC x y:=by
 obtain ⟨i,hi,rfl⟩:=List.getElem_of_mem hx;obtain ⟨j,hj,rfl⟩:=List.getElem_of_mem hy;rcases Nat.lt_trichotomy i j with q | q | q
 ·exact (List.pairwise_iff_getElem.1 h) i j hi hj q
 ·subst q;exact absurd rfl hne
 ·exact ((List.pairwise_iff_getElem.1 h) j i hj hi q).symm
theorem ShrL.own (h:ShrL K L X) (hK:Qcd K) (r:∀ s∈X,OwnC w B (slS s) s.L) (rap:X.Pairwise (fun s t=>ApV (slS s) (slS t))) (o:CesO w B L):LvO w B X:=by
 refine ⟨r,rap,fun c hc=>?_,?_⟩
 ·obtain ⟨s,hs,aa⟩:=Qbr hc
  rw [h.l s hs] at aa;exact o.o c (List.mem_filter.1 aa).1
 ·unfold QaL
  refine List.pairwise_flatMap.2 ⟨fun s hs=>?_,?_⟩
  ·rw [h.l s hs];exact o.ap.sublist List.filter_sublist
  ·have ab:(X.map Sd.nm).Pairwise (·≠·):=by rw [h.nm];exact Qbo hK
   rw [List.pairwise_map] at ab;refine ab.imp_of_mem (fun {s t} hs ht hne x hx y hy=>?_);rw [h.l s hs] at hx;rw [h.l t ht] at hy;obtain ⟨x1,x2⟩:=List.mem_filter.1 hx;obtain ⟨y1,y2⟩:=List.mem_filter.1 hy;refine QtH o.ap x1 y1 (fun e=>?_);subst e;exact hne (Qet (ownB_iff.1 x2) (ownB_iff.1 y2))
theorem ShrL.step {t:Sd} (h:ShrL K (L.take k) (A ++ s :: R)) (hK:Qcd K) (hc:L[k]?=some c) (ho:QaR K c.s s.nm) (e1:t.nm=s.nm) (e2:t.L=s.L ++ [c]):ShrL K (L.take (k+1)) (A ++ t :: R):=by
 have ab:=h.nm;rw [List.map_append,List.map_cons] at ab;have aa:(A.map Sd.nm ++ s.nm :: R.map Sd.nm).Nodup:=by rw [ab];exact Qbo hK
 have ad:∀ d,d∈A∨d∈R->d.nm≠s.nm:=by
  intro d hd q;rw [List.nodup_append] at aa;rcases hd with hd | hd
  ·exact aa.2.2 d.nm (List.mem_map.2 ⟨d,hd,rfl⟩) s.nm (by simp) q
  ·exact (List.nodup_cons.1 aa.2.1).1 (List.mem_map.2 ⟨d,hd,q⟩)
 have tk:L.take (k+1)=L.take k ++ [c]:=by rw [List.take_add_one,hc];rfl
 have ac:∀ d,d∈A∨d∈R->d.L=(L.take (k+1)).filter (QbP K d.nm):=fun d hd=>by
  rw [tk,List.filter_append,List.filter_cons,Qpq ho (ad d hd)];simp only [Bool.false_eq_true,if_false,List.filter_nil,List.append_nil];exact h.l d (by rcases hd with hd | hd <;> simp [hd])
 refine ⟨by rw [List.map_append,List.map_cons,e1];exact ab,fun d hd=>?_⟩;rcases List.mem_append.1 hd with hd | hd
 ·exact ac d (.inl hd)
 ·rcases List.mem_cons.1 hd with hd | hd
  ·rw [hd,e2,e1,tk,List.filter_append,List.filter_cons,ownB_iff.2 ho,if_pos rfl,List.filter_nil,<- h.l s (by simp)]
  ·exact ac d (.inr hd)
theorem OwnT.keptS {v:Value} {S:Nat->Prop} (h:OwnT w B v K) (hg:GrownS w w' S) (h1:∀ k,v.ownBlock=some k->¬ S k):OwnT w' B v K:=by
 refine ⟨h.1,?_⟩;rcases h.2 with q | ⟨g,aa,ab,e,q1,q2,q3⟩
 ·exact .inl q
 ·exact .inr ⟨g,aa,ab,e,q1,hg.row q2 (h1 g (by rw [e];rfl)),q3⟩
theorem grS {r:Option Nat} (hg:w.grownBy w' r):GrownS w w' (fun k=>r=some k):=⟨hg.os,hg.tape,hg.output,hg.size,fun k hk hn=>hg.block k hk (fun e=>hn e.symm)⟩
structure SrJ (w wr:World) (mb n:Nat) (p:Pi) (vn:Value) (K:List ByteArray) (L:List Ce) (k:Nat) (X:List Sd):Prop where
 x0:wr.heap[w.heap.size]?=some (.cells (QaO p mb) 52 (0,0))
 mp:MpS wr mb n X
 on:OwnT wr (w.heap.size+1) vn K
 g:GrownS w wr (fun k=>k=mb)
 sh:ShrL K (L.take k) X
 r:∀ s∈X,OwnC wr (w.heap.size+1) (slS s) s.L
 rap:X.Pairwise (fun s t=>ApV (slS s) (slS t))
section
variable {w wr W w5 w7:World} {mb n k bx:Nat} {p:Pi} {vn:Value} {K:List ByteArray} {L:List Ce} {X A R:List Sd} {s t:Sd} {c:Ce}
theorem SrJ.past (h:SrJ w wr mb n p vn K L k X) (hb:Bw wr W):SrJ w W mb n p vn K L k X:=
 ⟨Qaf h.x0 hb,h.mp.past hb,QaY h.on hb,(h.g.trans (GrownS.ofBelow hb)).weak (fun k q=>q.elim id (fun f=>f.elim)),h.sh,fun s hs=>(h.r s hs).past hb,h.rap⟩
theorem SrJ.step (h:SrJ w wr mb n p vn K L k (A ++ s :: R)) (hK:Qcd K) (hmb:mb<w.heap.size) (hc:L[k]?=some c) (ho:QaR K c.s s.nm) (hbW:Bw wr W) (hx0:wr.heap.size<=bx) (hx1:bx<W.heap.size)
  (hown:OwnC w5 (w.heap.size+1) (slS t) t.L) (e1:t.nm=s.nm) (e2:t.L=s.L ++ [c]) (hg:W.grownBy w5 (slS s).ownBlock) (hloc:(slS t).ownBlock=(slS s).ownBlock∨(slS t).ownBlock=some W.heap.size)
  (h7:(w5.setCell ⟨bx,1,none⟩ (slS t)).grownBy w7 (some mb)) (hm7:MpS w7 mb (n+1) (A ++ t :: R)):SrJ w w7 mb (n+1) p vn K L (k+1) (A ++ t :: R):=by
 have hW:=h.past hbW;have ag:w.heap.size+1<=wr.heap.size:=(ZZc.1 h.x0).1;have rs:=h.r s (by simp);have ab:∀ j,(slS s).ownBlock=some j->w.heap.size+1<=j/\j<wr.heap.size:=fun j q=>World.ownsRow.lt rs j q;have g6:=Qai w5 bx 1 (slS t)
 have ae:∀ d,d∈A∨d∈R->ApV (slS d) (slS s):=fun d hd=>by
  have hp:=List.pairwise_append.1 h.rap;rcases hd with hd | hd
  ·exact hp.2.2 d hd s List.mem_cons_self
  ·exact ((List.pairwise_cons.1 hp.2.1).1 d hd).symm
 have ac:∀ d,d∈A∨d∈R->OwnC wr (w.heap.size+1) (slS d) d.L:=fun d hd=>h.r d (by rcases hd with hd | hd <;> simp [hd])
 have aa:∀ d,d∈A∨d∈R->ApV (slS d) (slS t):=fun d hd j q1 q2=>by
  rcases hloc with q | q
  ·rw [q] at q2;exact ae d hd j q1 q2
  ·rw [q] at q2
   have:=(World.ownsRow.lt (ac d hd) j q1).2;have:=hbW.size;injection q2 with q2;omega
 have k7:∀ {v:Value} {L:List Ce},OwnC w5 (w.heap.size+1) v L->(∀ j,v.ownBlock=some j->j≠bx)->OwnC w7 (w.heap.size+1) v L:=fun {v L} o hne=>by
  have o6:OwnC (w5.setCell ⟨bx,1,none⟩ (slS t)) (w.heap.size+1) v L:=o.keptS (grS g6) (fun j q e=>by injection e with e;exact hne j q e.symm);exact o6.keptS (grS h7) (fun j q e=>by have:=(World.ownsRow.lt o6 j q).1;injection e with e;omega)
 have af:∀ {r:Nat} {o:Obj},r<w.heap.size+1->r≠mb->W.heap[r]?=some o->w7.heap[r]?=some o:=fun {r o} hr hrm q=>by
  have q5:=(hg.block r (ZZc.1 q).1 (fun e=>by have:=ab r e.symm;omega)).trans q;have q6:=(g6.block r (ZZc.1 q5).1 (fun e=>by injection e with e;omega)).trans q5;exact (h7.block r (ZZc.1 q6).1 (fun e=>by injection e with e;omega)).trans q6
 refine ⟨af (by omega) (by omega) hW.x0,hm7,?_,?_,h.sh.step hK hc ho e1 e2,fun d hd=>?_,?_⟩
 ·have o5:=hW.on.kept hg (fun j q e=>Ty.ne (Qcs hW.on) (Qcs (hW.r s (by simp))) (by decide) j e q)
  have o6:=o5.kept g6 (fun j q e=>by have:=(World.ownsRow.lt h.on j e).2;injection q with q;omega);exact o6.kept h7 (fun j q e=>by have:=(World.ownsRow.lt h.on j e).1;injection q with q;omega)
 ·refine (((h.g.trans (GrownS.ofBelow hbW)).trans (grS hg)).trans (grS g6) |>.trans (grS h7)) |> (fun q=>⟨q.os,q.tape,q.output,q.size,fun j hj hn=>q.block j hj ?_⟩)
  rintro ((((e | e) | e) | e) | e)
  ·exact hn e
  ·exact e
  ·have:=ab j e;omega
  ·injection e with e;omega
  ·injection e with e;exact hn e.symm
 ·have ad:∀ d,d∈A∨d∈R->OwnC w7 (w.heap.size+1) (slS d) d.L:=fun d hd=>by
   refine k7 (((ac d hd).past hbW).kept hg (ae d hd)) (fun j q e=>?_);have:=(World.ownsRow.lt (ac d hd) j q).2;omega
  rcases List.mem_append.1 hd with hd | hd
  ·exact ad d (.inl hd)
  ·rcases List.mem_cons.1 hd with hd | hd
   ·subst hd
    refine k7 hown (fun j q e=>?_);rcases hloc with q2 | q2
    ·rw [q2] at q;have:=(ab j q).2;omega
    ·rw [q2] at q;injection q with q;omega
   ·exact ad d (.inr hd)
 ·obtain ⟨p1,p2,p3⟩:=List.pairwise_append.1 h.rap
  obtain ⟨p4,p5⟩:=List.pairwise_cons.1 p2;refine List.pairwise_append.2 ⟨p1,List.pairwise_cons.2 ⟨fun d hd=>(aa d (.inr hd)).symm,p5⟩,fun a ha b hb=>?_⟩;rcases List.mem_cons.1 hb with hb | hb
  ·rw [hb];exact aa a (.inl ha)
  ·exact p3 a ha b (ZZm _ hb)
end
variable {ao:Option Addr}
theorem QiG {cp:Nat} (h:OwnT w B (.slice ao K.length cp) K):Qau w ao K:=fun h0=>by
 rcases h.2 with ⟨e,q⟩ | ⟨g,cap,cur,e,q1,q2⟩
 ·omega
 ·injection e with e1 e2 e3
  subst e1;exact QdM h h0
theorem QuE {T:TypeId} (h:w.heap[r]?=some (.cells (Qan c) T (0,0))):w.cell? ⟨r,0,none⟩=some (.int .i64 c.n)/\w.cell? ⟨r,1,none⟩=some (.string c.s)/\w.cell? ⟨r,2,none⟩=some (.int .i64 c.g.k)/\w.cell? ⟨r,3,none⟩=some (.int .u64 c.g.s)/\w.cell? ⟨r,4,none⟩=some (.int .i64 c.g.h)/\w.cell? ⟨r,5,none⟩=some (.int .u64 c.g.l)/\w.cell? ⟨r,6,none⟩=some (.int .i64 c.g.a)/\w.cell? ⟨r,7,none⟩=some (.int .i64 c.g.t)/\w.cell? ⟨r,8,none⟩=some (.int .u64 c.g.z)/\w.cell? ⟨r,9,none⟩=some (.slice c.p.pa c.g.P.length c.p.pc)/\w.cell? ⟨r,10,none⟩=some (.slice c.p.na c.g.N.length c.p.nc)/\w.cell? ⟨r,11,none⟩=some (.int .i64 c.g.x)/\w.cell? ⟨r,12,none⟩=some (.int .u64 c.g.y)/\w.cell? ⟨r,13,none⟩=some (.slice c.p.ea c.g.E.length c.p.ec)/\w.cell? ⟨r,14,none⟩=some (.slice c.p.ra c.g.R.length c.p.rc):=
 ⟨Qaz h 0 rfl,Qaz h 1 rfl,Qaz h 2 rfl,Qaz h 3 rfl,Qaz h 4 rfl,Qaz h 5 rfl,Qaz h 6 rfl,Qaz h 7 rfl,Qaz h 8 rfl,Qaz h 9 rfl,Qaz h 10 rfl,Qaz h 11 rfl,Qaz h 12 rfl,Qaz h 13 rfl,Qaz h 14 rfl⟩
structure Sr1 (w wr:World) (mb n:Nat) (p:Pi) (vn:Value) (K:List ByteArray) (X:List Sd):Prop where
 x0:wr.heap[w.heap.size]?=some (.cells (QaO p mb) 52 (0,0))
 mp:MpS wr mb n X
 on:OwnT wr (w.heap.size+1) vn K
 g:GrownS w wr (fun k=>k=mb)
variable {p:Pi}
variable {vn:Value}
theorem Sr1.upd {w1:World} {m:Nat} {Y:List Sd} (h:Sr1 w wr mb n p vn K X) (hmb:mb<w.heap.size) (hm:MpS w1 mb m Y) (hg:wr.grownBy w1 (some mb)):Sr1 w w1 mb m p vn K Y:=
 ⟨(hg.block _ (ZZc.1 h.x0).1 (fun e=>by injection e with e;omega)).trans h.x0,hm,h.on.kept hg (fun j q e=>by have:=(World.ownsRow.lt h.on j e).1;injection q with q;omega),(h.g.trans (grS hg)).weak (fun k q=>q.elim id (fun e=>by injection e with e;exact e.symm))⟩
theorem QqJ (hs:T[k]?=some s):(T.take k).map (fun s=>QnA s.nm) ++ T.drop k=(T.take k).map (fun s=>QnA s.nm) ++ s :: T.drop (k+1)/\(T.take (k+1)).map (fun s=>QnA s.nm) ++ T.drop (k+1)=(T.take k).map (fun s=>QnA s.nm) ++ QnA s.nm :: T.drop (k+1):=by
 obtain ⟨hi,e⟩:=ZZd.1 hs;constructor
 ·rw [<- e,<- List.drop_eq_getElem_cons hi]
 ·rw [List.take_add_one,hs];simp
theorem Sr1.fin (h:Sr1 w wr mb n p vn K (T.map (fun s=>QnA s.nm))) (hT:T.map Sd.nm=K):SrJ w wr mb n p vn K L 0 (T.map (fun s=>QnA s.nm)):=by
 refine ⟨h.x0,h.mp,h.on,h.g,⟨by rw [List.map_map];exact hT,fun s hs=>?_⟩,fun s hs=>?_,?_⟩
 ·obtain ⟨t,_,rfl⟩:=List.mem_map.1 hs
  rfl
 ·obtain ⟨t,_,rfl⟩:=List.mem_map.1 hs
  exact OwnC.nil _ _
 ·rw [List.pairwise_map]
  exact List.pairwise_of_forall (fun a b k q=>by cases q)
def SrP (w w':World) (mb:Nat) (K:List ByteArray) (L:List Ce) (m:Nat):Prop:=∃ n X,n<=m/\MpS w' mb n X/\ShrL K L X/\(∀ s∈X,OwnC w' (w.heap.size+1) (slS s) s.L)/\X.Pairwise (fun s t=>ApV (slS s) (slS t))/\GrownS w w' (fun k=>k=mb)
theorem Qqj {nc cc:Nat} {ac:Option Addr} (p:Pi) (hM:MpS w mb n M) (hT:T.Perm M) (hTn:T.map Sd.nm=K) (hK:Qcd K) (hKm:Qag K=true) (hn:n<=800000) (hL:L.length=nc) (hl:nc<=100000) (hs:∀ c∈L,c.s.size<=100) (hoc:OwnC w (mb+1) (.slice ac nc cc) L) :
  Calls prog 73 #[.agg (QaO p mb),.slice ac nc cc] w fun e w'=>e=.returned (.tuple #[])/\SrP w w' mb K L (n+K.length+nc):=by
 obtain ⟨i0,hi,bj,bw,bq⟩:=Qe8;have aD:=hM.lt;have a1:∀ (X:World) o,Bw X (X.alloc o):=fun X o=>bA;have aC:=Qaa (ZZk w (.cells (QaO p mb) 52));have aw:=Qaa ((hM.perm hT.symm).past (a1 w (.cells (QaO p mb) 52)));have aM:=Qaa (a1 w (.cells (QaO p mb) 52));have aN:Hid ((w.alloc (.cells (QaO p mb) 52)).heap.size=w.heap.size+1):=Qaa (by simp);have aA:=Qaa hTn;have HK:=Qaa hK;have bu:=Qaa hKm;have HL:=Qaa hL;have HS:=Qaa hs;have aZ:=Qaa hoc;have aH:=Qaa aD;have bz:K.length<=12:=(Qa8 hKm).2;have bb:∀ u∈K,u.size<=100:=fun u hu=>Nat.le_trans (QbZ (Qbx hKm hu)).2 (by omega);have aU:=Qaa bb;clear hM hT hTn hK hKm hL hs hoc a1 aD bb;go_enter func73,ntmps73;go_upto_region 1 with fail;generalize w.alloc _=W0 at aC aw aM aN ⊢;obtain ⟨r0,r1,r2,r3,r4⟩:=Qa2 aC;go_wp2_with fail;clear r0 r1 r2 r3 r4;have a9:T.length=K.length:=by rw [<- aA.out,yA]
 refine (QkH p aw HK (by rw [aA.out]) (by omega)).mono ?_;rintro e w1 ⟨vn,rfl,ho,ax⟩;obtain ⟨an,cn,rfl⟩:=Qcj ho
 have H1:Hid (Sr1 w w1 mb n p (.slice an K.length cn) K ((T.take 0).map (fun s=>QnA s.nm) ++ T.drop 0)):=by
  have o:=ho;rw [aN.out] at o;exact Qaa ⟨Qaf aC ax,by simpa using aw.past ax,o,(GrownS.ofBelow (Qac aM ax)).weak (fun k f=>f.elim)⟩
 have aS:=Qaa a9;clear ho ax aC aw aM aN a9 W0;go_wp2
 go_loopw [15] (fun i wr=>∃ (k:Nat),k<=K.length/\i=.int .i64 k/\Hid (Sr1 w wr mb (n+k) p (.slice an K.length cn) K ((T.take k).map (fun s=>QnA s.nm) ++ T.drop k))) (fun i wr=>K.length - (Go.RowKit.intOf i).toNat)
 case atStart=>exact ⟨0,ZZj _,rfl,H1⟩
 case round=>
  clear H1;obtain ⟨k,hk,rfl,H1⟩:=hrel;by_cases a2:k<K.length
  ·have aQ:(k:Int)<(K.length:Int):=by omega
   obtain ⟨s,hs⟩:∃ s,T[k]?=some s:=⟨T[k]'(by have:=aS.out;omega),ZZe _⟩;have aR:K[k]?=some s.nm:=by rw [<- aA.out,List.getElem?_map,hs];rfl
   obtain ⟨gn,rfl,n0⟩:=Qe4 H1.on rfl aR;have l4:=(Qa2 H1.x0).2.2.2.2;have aF:=H1.mp;rw [(QqJ hs).1] at aF;obtain ⟨w2,aa,aT,bc⟩:=aF.put (s:=QnA s.nm) rfl (by have:=aU.out s.nm (List.mem_of_getElem? aR);unfold maxLen;show s.nm.size<=_;omega) (by omega);have aa:(Instr.mapUpdate 50 (.map (some mb)) (.string s.nm) (.agg #[.string s.nm,.slice none 0 0])).run prog wr=.ok () w2:=aa;rw [<- (QqJ hs).2] at aT;have HF:=Qaa (H1.upd aH aT bc);clear aF aT bc aR hs H1;go_wp2;go_roundw
   case rel=>exact ⟨k+1,by omega,by first | rfl | go_num,HF⟩
   case measure=>simp [zI];omega
  ·have aQ:¬ (k:Int)<(K.length:Int):=by omega
   obtain rfl:k=K.length:=by omega
   have bf:Hid (SrJ w wr mb (n+K.length) p (.slice an K.length cn) K L 0 (T.map (fun s=>QnA s.nm))):=by
    have h:=H1.out;rw [List.take_of_length_le (by have:=aS.out;omega),List.drop_eq_nil_of_le (by have:=aS.out;omega),List.append_nil] at h;exact Qaa (h.fin aA)
   clear H1 hk a2;go_wp2
   go_loopw [27] (fun i wr=>∃ (k m:Nat) (X:List Sd),k<=nc/\i=.int .i64 k/\m<=n+K.length+k/\Hid (SrJ w wr mb m p (.slice an K.length cn) K L k X)) (fun i wr=>nc - (Go.RowKit.intOf i).toNat)
   case atStart=>exact ⟨0,_,_,ZZj _,rfl,ZZa _,bf⟩
   case round=>
    clear bf;obtain ⟨k,m,X,hk,rfl,hm,HJ⟩:=hrel;by_cases a2:k<nc
    ·have aj:(k:Int)<(nc:Int):=by omega
     obtain ⟨c,hc⟩:∃ c,L[k]?=some c:=⟨L[k]'(by have:=HL.out;omega),ZZe _⟩;have af:OwnC wr (mb+1) (.slice ac nc cc) L:=aZ.keptS HJ.g (fun j q e=>by have:=(World.ownsRow.lt aZ j q).1;omega);obtain ⟨gc,rfl⟩:=QmX af (by have:=HL.out;omega);obtain ⟨⟨x0,x1,x2,x3,x4,x5,x6,x7,x8,x9,bk,bi,bm,bn,bl⟩,_⟩:=Qg4 af HL hc;have ba:=Qaa (HS.out c (ZZn hc));have HC:=Qaa hc;have aq:Hid (Bw wr (wr.alloc (.cells (Qan c) 75))):=bA;have ay:=Qaa (ZZk wr (.cells (Qan c) 75));clear hc af;go_upto_region 10 with fail;clear x0 x1 x2 x3 x4 x5 x6 x7 x8 x9 bk bi bm bn bl;have aB:=Qaa (HJ.past aq);have aL:Hid ((wr.alloc (.cells (Qan c) 75)).heap.size=wr.heap.size+1):=Qaa (by simp);generalize wr.alloc _=W1 at aq ay aB aL ⊢;have y1:=Qaz ay 1 rfl;go_wp2_with fail;clear y1;refine (Qhg cn c.s (by have:=ba.out;unfold maxLen;omega) (by omega) (fun u hu=>by have:=aU.out u hu;omega) (QiG aB.on)).mono ?_;rintro e w2 ⟨u,rfl,hu,am⟩;have aO:=QsW bu (by have:=ba.out;omega) hu;have aK:=aO;rw [<- HJ.sh.nm] at aK;obtain ⟨s,aG,rfl⟩:=List.mem_map.1 aK;have a3:=Qaa (aU.out s.nm aO);have au:=Qaa (aB.past am);have aY:=Qaa (Qaf ay am);have a0:=Qaa (Qac aq am);have a4:Hid (wr.heap.size+1<=w2.heap.size):=Qaa (by have:=am.size;have:=aL.out;omega);have HU:=Qaa hu;have br:=au.mp.look aG (by have:=a3.out;unfold maxLen;omega);have l4:=(Qa2 au.x0).2.2.2.2;obtain ⟨A,R,hX⟩:=List.append_of_mem aG;subst hX;clear hu am aO aK aG aB ay aq aL;go_upto_region 12 with fail;clear br l4;have ap:Bw w2 (w2.alloc (.cells (QaN s) 56)):=bA;have ad:=Qaa (au.past ap);have aJ:=Qaa (Qaf aY ap);have al:=Qaa (ZZk w2 (.cells (QaN s) 56));have aW:=Qaa (Qac a0 ap);have aP:Hid ((w2.alloc (.cells (QaN s) 56)).heap.size=w2.heap.size+1):=Qaa (by simp);clear ap au aY a0;generalize w2.alloc _=W3 at ad aJ al aW aP ⊢;obtain ⟨bx,a5⟩:∃ b,w2.heap.size=b:=⟨_,rfl⟩;rw [a5] at al aP a4 ⊢;clear a5;obtain ⟨y0,y1,y2,y3,y4,y5,y6,y7,y8,y9,bo,bs,bv,bp,bh⟩:=QuE aJ;have s1:=Qaz al 1 rfl;have az:Bw W3 (W3.alloc (.cells (Qan c) 75)):=bA;have ah:=Qaa az;have OW:Hid ((W3.alloc (.cells (Qan c) 75)).ownsRow (w.heap.size+1) 75 15 (.slice s.ao s.L.length s.cp) s.L.length (flC s.L)):=Qaa ((ad.past az).r s (by simp))
     have lS:Hid (s.L.length<=100000):=by
      have e:=ad.sh.l s (by simp);have h1:=List.length_filter_le (QbP K s.nm) (L.take k);have h2:(L.take k).length<=L.length:=by rw [List.length_take];omega
      have:=HL.out;rw [<- e] at h1;exact Qaa (by omega)
     have bt:w.heap.size+1<=(W3.alloc (.cells (Qan c) 75)).heap.size:=Nat.le_trans (ZZc.1 ad.x0).1 az.size;have ls:=lS.out;clear az;go_wp2_with (at_builtin;refine wpList_append_own_at _ rfl _ _ 35 rfl (w.heap.size+1) 75 i0 (.agg QbC) 15 192 underlying35 hi bj bw bq rfl (by decide) _ _ _ rfl OW ⟨W3.heap.size,0,none⟩ 1 1 (ceL c) rfl rfl ?c1 ?c2 ?c3 ?c4 ?c5 ?_)
     case c1=>exact QbO
     case c2=>exact QcK c
     case c3=>unfold maxLen;omega
     case c4=>omega
     case c5=>exact bt
     intro v' w5 ag hg aX ak;obtain ⟨av,cv,rfl⟩:∃ ar cr,v'=.slice ar (s.L.length+1) cr:=Qam ag;clear y0 y1 y2 y3 y4 y5 y6 y7 y8 y9 bo bs bv bp bh s1;have ab:=(World.ownsRow.lt (HJ.r s (by simp)));have aI:wr.heap.size<=bx:=by have:=a4.out;omega
     have ai:bx<(W3.alloc (.cells (Qan c) 75)).heap.size:=by have:=aP.out;simp;omega
     have Y5:w5.heap[bx]?=some (.cells (QaN s) 56 (0,0)):=(hg.block bx ai (fun e=>by have:=(ab bx e.symm).2;omega)).trans (Qaf al ah);have q1:=Qaz Y5 1 rfl;have f1:=fzR 1 Y5;have ae:(Value.slice av (s.L.length+1) cv).ownBlock=(slS s).ownBlock∨(Value.slice av (s.L.length+1) cv).ownBlock=some (W3.alloc (.cells (Qan c) 75)).heap.size:=by rw [World.size_alloc];exact ak
     have aE:=Qai w5 bx 1 (.slice av (s.L.length+1) cv);have aD:=aH.out;have bg:w.heap.size<wr.heap.size:=(ZZc.1 HJ.x0).1;have a6:=(ad.past ah).mp;have bd:=a6.kept hg (fun e=>by have:=(ab mb e.symm).1;omega);have a7:=bd.kept aE (fun e=>by injection e with e;omega);have Z0:w5.heap[w.heap.size]?=some (.cells (QaO p mb) 52 (0,0)):=(hg.block w.heap.size (by have:=ad.past ah;exact (ZZc.1 this.x0).1) (fun e=>by have:=(ab w.heap.size e.symm).1;omega)).trans (ad.past ah).x0;have Z6:(w5.setCell ⟨bx,1,none⟩ (.slice av (s.L.length+1) cv)).heap[w.heap.size]?=some (.cells (QaO p mb) 52 (0,0)):=(aE.block _ (ZZc.1 Z0).1 (fun e=>by injection e with e;omega)).trans Z0;have Y6:=ZZl w5 bx 1 _ _ (.slice av (s.L.length+1) cv) Y5;have be:(s.L ++ [c]).length=s.L.length+1:=by simp
     obtain ⟨w7,aa,a8,h7⟩:=a7.put (s:=⟨s.nm,s.L ++ [c],av,cv⟩) rfl (by have:=a3.out;unfold maxLen;show s.nm.size<=_;omega) (by omega)
     have aa:(Instr.mapUpdate 50 (.map (some mb)) (.string s.nm) (.agg #[.string s.nm,.slice av (s.L.length+1) cv])).run prog (w5.setCell ⟨bx,1,none⟩ (.slice av (s.L.length+1) cv))=.ok () w7:=by
      have h:=aa;simp only [QaN,be] at h;exact h
     have HF:Hid (SrJ w w7 mb (m+1) p (.slice an K.length cn) K L (k+1) (A ++ ⟨s.nm,s.L ++ [c],av,cv⟩ :: R)):=by
      have aV:slS ⟨s.nm,s.L ++ [c],av,cv⟩=.slice av (s.L.length+1) cv:=by show Value.slice _ _ _=_;rw [be]
      refine Qaa (HJ.step HK aH HC HU (Qac aW ah) aI ai (t:=⟨s.nm,s.L ++ [c],av,cv⟩) ?_ rfl rfl hg ?_ ?_ a8)
      ·rw [aV];exact OwnC.mk ag
      ·rw [aV];exact ae
      ·rw [aV];exact h7
     clear ag hg aX ak ae ab Y5 aE a6 bd a7 Z0 a8 h7 ad aJ al aW ah OW aD bg;go_upto_region 13 with fail;clear q1 f1;generalize w5.setCell ⟨bx,1,none⟩ (.slice av (s.L.length+1) cv)=w6 at aa Z6 Y6 ⊢;have l4:=(Qa2 Z6).2.2.2.2;have b0:=Qaz Y6 0 rfl;have b1:=Qaz Y6 1 rfl;clear Z6 Y6;go_wp2;go_roundw
     case rel=>exact ⟨k+1,m+1,_,by omega,by first | rfl | go_num,by omega,HF⟩
     case measure=>simp [zI];omega
    ·have aj:¬ (k:Int)<(nc:Int):=by omega
     have HF:Hid (SrP w wr mb K L (n+K.length+nc)):=by
      have sh:=HJ.sh;rw [List.take_of_length_le (by have:=HL.out;omega)] at sh;exact Qaa ⟨m,X,by omega,HJ.mp,sh,HJ.r,HJ.rap,HJ.g⟩
     clear HJ;go_wp2;exact bodyPost_end (v:=.tuple #[]) (by simp [results,results73,go_sem]) rfl ⟨rfl,HF⟩
abbrev Qap (v:Value) (q:Pi) (u:Value) (cd:Int):Array Value:=#[v,.int .i64 q.a,.int .i64 q.b,.int .i64 q.c,.int .i64 q.d,u,.int .i64 cd]
theorem Qbv {a b c d e f g:Value} {T:TypeId} (h:w.heap[r]?=some (.cells #[a,b,c,d,e,f,g] T (0,0))):w.cell? ⟨r,0,none⟩=some a/\w.cell? ⟨r,1,none⟩=some b/\w.cell? ⟨r,2,none⟩=some c/\w.cell? ⟨r,3,none⟩=some d/\w.cell? ⟨r,4,none⟩=some e/\w.cell? ⟨r,5,none⟩=some f/\w.cell? ⟨r,6,none⟩=some g:=⟨Qaz h 0 rfl,Qaz h 1 rfl,Qaz h 2 rfl,Qaz h 3 rfl,Qaz h 4 rfl,Qaz h 5 rfl,Qaz h 6 rfl⟩
structure PoB (w:World) (lo hi:Nat) (v:Value) (M:List Sd) (u:Value) (C:List Ce):Prop where
 p:PpB w lo hi v M
 c:CsB w lo hi u C
 ap:∀ k,Qhs v M k->¬ Qgj u C k
def OBlk (v:Value) (M:List Sd) (u:Value) (C:List Ce) (k:Nat):Prop:=Qhs v M k∨Qgj u C k
section
variable {w w':World} {lo hi:Nat} {v u:Value} {M:List Sd} {C:List Ce}
theorem PoB.none (r:OwnD w lo v M) (o:LvO w lo M):PoB w lo w.heap.size v M (.slice none 0 0) []:=
 ⟨PpB.of r o,CsB.of (OwnC.nil _ _) (CesO.nil _ _),fun k _ q=>by
  rcases q with q | ⟨c,hc,_⟩
  ·cases q
  ·cases hc⟩
end
theorem QbI {c:Nat} (h:OwnD w B (.slice ao n c) M):M.length=n:=by
 obtain ⟨_,_,e,_⟩:=h.form;injection e with _ e _;exact e.symm
theorem Qf1 {c:Nat} (h:OwnC w B (.slice ao n c) L):L.length=n:=by
 obtain ⟨_,_,e,_⟩:=h.form;injection e with _ e _;exact e.symm
structure PoM (w:World) (lo:Nat) (v:Value) (M:List Sd) (u:Value) (C:List Ce):Prop where
 r:OwnD w lo v (mkSs 1 M)
 o:LvO w lo (mkSs 1 M)
 c:OwnC w lo u (mkCs (1+totS M) C)
 d:CesO w lo (mkCs (1+totS M) C)
end Go.Proofs.YtlejlgldgafljaaGreatDoor
