/-
 Shards in a map laid over and struck; who owns a cell; each cell with its owner.
-/
import Derived.Test.YtmjogablacnlgaaGreatDoorOYM
namespace Go.Proofs.YtmjogablacnlgaaGreatDoor
set_option linter.unusedVariables false
set_option linter.unusedSimpArgs false
open Go.ChangeShapes Go.WideShapes Go.ChangeAt Go.RowKit Go.PlainAid Go.Lib Go.Maps
set_option maxRecDepth 10000
theorem HoldsS.put_old {D:DataW Value} {B:List Sd} {s d:Sd} (h:HoldsS D (d :: B)) (t:Tidy D) (e:d.nm=s.nm):HoldsS (D.put (litT s.nm) (heldS s)) (s :: B):=by
 obtain ⟨a1,a2⟩:=List.pairwise_cons.1 h.ap;have hn:∀ x∈B,x.nm≠s.nm:=fun x hx q=>a1 x hx (e.trans q.symm);have hh:Maps.has D (litT s.nm)=true:=by rw [← e];exact h.some (by simp)
 refine ⟨List.pairwise_cons.2 ⟨fun x hx q=>hn x hx q.symm,a2⟩,fun x hx z=>?_,fun u q=>?_,?_⟩
 ·rcases List.mem_cons.1 hx with rfl | hx
  ·exact atKey_put_same t.isMap (litT_is _) _ z
  ·rw [atKey_put_other (fun q=>hn x hx (litT_inj q))];exact h.val x (List.mem_cons_of_mem _ hx) z
 ·by_cases q2:litT u=litT s.nm
  ·exact ⟨s,by simp,(litT_inj q2).symm⟩
  ·rw [has_put_other q2] at q
   obtain ⟨x,hx,e2⟩:=h.only u q;rcases List.mem_cons.1 hx with rfl | hx
   ·exact absurd (by rw [← e2,e]) q2
   ·exact ⟨x,List.mem_cons_of_mem _ hx,e2⟩
 ·rw [size_put t,hh];simp [h.sz]
theorem MpS.put {w:World} {b n:Nat} {A R:List Sd} {d s:Sd} (h:MpS w b n (A ++ d :: R)) (e:d.nm=s.nm) (hz:s.nm.size≤maxLen) (hn:n≤1000000):∃ w',(Instr.mapUpdate 80 (.map (some b)) (.string s.nm) (.agg (sdArr s))).run Tryz.prog w=.ok () w'∧MpS w' b (n+1) (A ++ s :: R)∧w.grownBy w' (some b):=by
 obtain ⟨D,hD,hH⟩:=h;obtain ⟨w',hrun,r1,r2⟩:=hD.update lawSh Tryz.underlying80 (by unfold maxLen;omega) (keySh hz) (show rS (.agg (sdArr s))=some (.held (.agg (sdArr s)),[]) from rfl);exact ⟨w',hrun,⟨_,r1,((hH.perm List.perm_middle).put_old (hD.tidy lawSh) e).perm List.perm_middle.symm⟩,r2⟩
noncomputable def ownB (K:List ByteArray) (u:ByteArray) (c:Ce):Bool:=@decide (OwnAns K c.s u) (Classical.propDecidable _)
def empS (u:ByteArray):Sd:=⟨u,[],none,0⟩
structure ShrL (K:List ByteArray) (L:List Ce) (X:List Sd):Prop where
 nm:X.map Sd.nm=K
 l:∀ s∈X,s.L=L.filter (ownB K s.nm)
theorem grS {w w':World} {r:Option Nat} (hg:w.grownBy w' r):GrownS w w' (fun k=>r=some k):=⟨hg.os,hg.tape,hg.output,hg.size,fun k hk hn=>hg.block k hk (fun e=>hn e.symm)⟩
structure SrJ (w wr:World) (mb n:Nat) (p:Pi) (vn:Value) (K:List ByteArray) (L:List Ce) (k:Nat) (X:List Sd):Prop where
 x0:wr.heap[w.heap.size]?=some (.cells (lvArr p mb) 82 (0,0))
 mp:MpS wr mb n X
 on:OwnT wr (w.heap.size+1) vn K
 g:GrownS w wr (fun k=>k=mb)
 sh:ShrL K (L.take k) X
 r:∀ s∈X,OwnC wr (w.heap.size+1) (slS s) s.L
 rap:X.Pairwise (fun s t=>ApV (slS s) (slS t))
section
variable {w wr W w5 w7:World} {mb n k bx:Nat} {p:Pi} {vn:Value} {K:List ByteArray} {L:List Ce} {X A R:List Sd} {s t:Sd} {c:Ce}
end
structure Sr1 (w wr:World) (mb n:Nat) (p:Pi) (vn:Value) (K:List ByteArray) (X:List Sd):Prop where
 x0:wr.heap[w.heap.size]?=some (.cells (lvArr p mb) 82 (0,0))
 mp:MpS wr mb n X
 on:OwnT wr (w.heap.size+1) vn K
 g:GrownS w wr (fun k=>k=mb)
def SrP (w w':World) (mb:Nat) (K:List ByteArray) (L:List Ce) (m:Nat):Prop:=∃ n X,n≤m∧MpS w' mb n X∧ShrL K L X∧(∀ s∈X,OwnC w' (w.heap.size+1) (slS s) s.L)∧X.Pairwise (fun s t=>ApV (slS s) (slS t))∧GrownS w w' (fun k=>k=mb)
end Go.Proofs.YtmjogablacnlgaaGreatDoor
