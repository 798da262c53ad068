/-
 Shards in a map laid over and struck; who owns a cell; each cell with its owner.
-/
import Derived.Test.YtmjogablacnlgaaGreatDoorVYM
namespace Go.Proofs.YtmjogablacnlgaaGreatDoor
set_option linter.unusedVariables false
set_option linter.unusedSimpArgs false
open Go.ChangeShapes Go.WideShapes Go.ChangeAt Go.RowKit Go.PlainAid Go.Lib Go.Maps
set_option maxRecDepth 10000
theorem HoldsS.put_old {D:DataW Value} {B:List Sd} {s d:Sd} (h:HoldsS D (d :: B)) (t:Tidy D) (e:d.nm=s.nm):HoldsS (D.put (litT s.nm) (heldS s)) (s :: B):=by
 obtain ⟨a1,a2⟩:=List.pairwise_cons.1 h.ap;have hn:∀ x∈B,x.nm≠s.nm:=fun x hx q=>a1 x hx (e.trans q.symm);have hh:Maps.has D (litT s.nm)=true:=by rw [← e];exact h.some (by simp)
 refine ⟨List.pairwise_cons.2 ⟨fun x hx q=>hn x hx q.symm,a2⟩,fun x hx z=>?_,fun u q=>?_,?_⟩
 ·rcases List.mem_cons.1 hx with rfl | hx
  ·exact atKey_put_same t.isMap (litT_is _) _ z
  ·rw [atKey_put_other (fun q=>hn x hx (litT_inj q))];exact h.val x (List.mem_cons_of_mem _ hx) z
 ·by_cases q2:litT u=litT s.nm
  ·exact ⟨s,by simp,(litT_inj q2).symm⟩
  ·rw [has_put_other q2] at q
   obtain ⟨x,hx,e2⟩:=h.only u q;rcases List.mem_cons.1 hx with rfl | hx
   ·exact absurd (by rw [← e2,e]) q2
   ·exact ⟨x,List.mem_cons_of_mem _ hx,e2⟩
 ·rw [size_put t,hh];simp [h.sz]
theorem HoldsS.del {D:DataW Value} {B:List Sd} {s:Sd} (h:HoldsS D (s :: B)) (t:Tidy D):HoldsS (D.del (litT s.nm)) B:=by
 obtain ⟨a1,a2⟩:=List.pairwise_cons.1 h.ap;refine ⟨a2,fun x hx z=>?_,fun u q=>?_,?_⟩
 ·rw [atKey_del_other (fun q=>a1 x hx (litT_inj q).symm)];exact h.val x (List.mem_cons_of_mem _ hx) z
 ·by_cases q2:litT u=litT s.nm
  ·rw [q2,has_del_same] at q;cases q
  ·rw [has_del_other q2] at q
   obtain ⟨x,hx,e2⟩:=h.only u q;rcases List.mem_cons.1 hx with rfl | hx
   ·exact absurd (by rw [← e2]) q2
   ·exact ⟨x,hx,e2⟩
 ·have hh:=h.some (s:=s) (by simp)
  have:=size_del (k:=litT s.nm) t;rw [hh,if_pos rfl,h.sz] at this
  simpa using this
theorem MpS.perm {w:World} {b n:Nat} {L M:List Sd} (h:MpS w b n L) (p:L.Perm M):MpS w b n M:=by
 obtain ⟨D,h1,h2⟩:=h;exact ⟨D,h1,h2.perm p⟩
theorem MpS.put {w:World} {b n:Nat} {A R:List Sd} {d s:Sd} (h:MpS w b n (A ++ d :: R)) (e:d.nm=s.nm) (hz:s.nm.size≤maxLen) (hn:n≤1000000):∃ w',(Instr.mapUpdate 80 (.map (some b)) (.string s.nm) (.agg (sdArr s))).run Tryz.prog w=.ok () w'∧MpS w' b (n+1) (A ++ s :: R)∧w.grownBy w' (some b):=by
 obtain ⟨D,hD,hH⟩:=h;obtain ⟨w',hrun,r1,r2⟩:=hD.update lawSh Tryz.underlying80 (by unfold maxLen;omega) (keySh hz) (show rS (.agg (sdArr s))=some (.held (.agg (sdArr s)),[]) from rfl);exact ⟨w',hrun,⟨_,r1,((hH.perm List.perm_middle).put_old (hD.tidy lawSh) e).perm List.perm_middle.symm⟩,r2⟩
noncomputable def ownB (K:List ByteArray) (u:ByteArray) (c:Ce):Bool:=@decide (OwnAns K c.s u) (Classical.propDecidable _)
theorem ownB_iff {K:List ByteArray} {u:ByteArray} {c:Ce}:ownB K u c=true↔OwnAns K c.s u:=by unfold ownB;exact @decide_eq_true_iff _ (Classical.propDecidable _)
theorem ownB_ne {K:List ByteArray} {u t:ByteArray} {c:Ce} (h:OwnAns K c.s u) (hne:t≠u):ownB K t c=false:=by
 cases q:ownB K t c
 ·rfl
 ·exact absurd (own_one (ownB_iff.1 q) h) hne
def empS (u:ByteArray):Sd:=⟨u,[],none,0⟩
structure ShrL (K:List ByteArray) (L:List Ce) (X:List Sd):Prop where
 nm:X.map Sd.nm=K
 l:∀ s∈X,s.L=L.filter (ownB K s.nm)
theorem ShrL.keys {K:List ByteArray} {L:List Ce} {X:List Sd} (h:ShrL K L X):X.map Sd.key=K.map (fun u=>(u,(L.filter (ownB K u)).map Ce.key)):=by
 have e:K.map (fun u=>(u,(L.filter (ownB K u)).map Ce.key))=(X.map Sd.nm).map (fun u=>(u,(L.filter (ownB K u)).map Ce.key)):=by rw [h.nm]
 rw [e,List.map_map];refine List.map_congr_left (fun s hs=>?_)
 show (s.nm,s.L.map Ce.key)=_
 rw [h.l s hs]
 rfl
theorem filt_key {K:List ByteArray} {u:ByteArray}:∀ {L M:List Ce},M.map Ce.key=L.map Ce.key→(M.filter (ownB K u)).map Ce.key=(L.filter (ownB K u)).map Ce.key
 | [],[],_=>rfl
 | c :: L,d :: M,h=>by
  simp only [List.map_cons,List.cons.injEq] at h;have hk:=filt_key (K:=K) (u:=u) h.2;have e:ownB K u d=ownB K u c:=by unfold ownB;rw [(key3 h.1).2.1]
  rw [List.filter_cons,List.filter_cons,e]
  split
  ·rw [List.map_cons,List.map_cons,hk,h.1]
  ·exact hk
 | [],_ :: _,h=>by simp at h
 | _ :: _,[],h=>by simp at h
theorem pair_of {L:List Ce} (h:L.Pairwise ApC) {x y:Ce} (hx:x∈L) (hy:y∈L) (hne:x≠y):ApC x y:=by
 obtain ⟨i,hi,rfl⟩:=List.getElem_of_mem hx;obtain ⟨j,hj,rfl⟩:=List.getElem_of_mem hy;rcases Nat.lt_trichotomy i j with q | q | q
 ·exact (List.pairwise_iff_getElem.1 h) i j hi hj q
 ·subst q;exact absurd rfl hne
 ·exact ((List.pairwise_iff_getElem.1 h) j i hj hi q).symm
theorem ShrL.own {w:World} {B:Nat} {K:List ByteArray} {L:List Ce} {X:List Sd} (h:ShrL K L X) (hK:RiseT K) (r:∀ s∈X,OwnC w B (slS s) s.L) (rap:X.Pairwise (fun s t=>ApV (slS s) (slS t))) (o:CesO w B L):LvO w B X:=by
 refine ⟨r,rap,fun c hc=>?_,?_⟩
 ·obtain ⟨s,hs,hc'⟩:=mem_allC hc
  rw [h.l s hs] at hc';exact o.o c (List.mem_filter.1 hc').1
 ·unfold allC
  refine List.pairwise_flatMap.2 ⟨fun s hs=>?_,?_⟩
  ·rw [h.l s hs];exact o.ap.sublist List.filter_sublist
  ·have hnd:(X.map Sd.nm).Pairwise (·≠·):=by rw [h.nm];exact rise_nodup hK
   rw [List.pairwise_map] at hnd;refine hnd.imp_of_mem (fun {s t} hs ht hne x hx y hy=>?_);rw [h.l s hs] at hx;rw [h.l t ht] at hy;obtain ⟨x1,x2⟩:=List.mem_filter.1 hx;obtain ⟨y1,y2⟩:=List.mem_filter.1 hy;refine pair_of o.ap x1 y1 (fun e=>?_);subst e;exact hne (own_one (ownB_iff.1 x2) (ownB_iff.1 y2))
theorem ShrL.step {K:List ByteArray} {L:List Ce} {k:Nat} {c:Ce} {A R:List Sd} {s t:Sd} (h:ShrL K (L.take k) (A ++ s :: R)) (hK:RiseT K) (hc:L[k]?=some c) (ho:OwnAns K c.s s.nm) (e1:t.nm=s.nm) (e2:t.L=s.L ++ [c]):ShrL K (L.take (k+1)) (A ++ t :: R):=by
 have hnm:=h.nm;rw [List.map_append,List.map_cons] at hnm;have hnd:(A.map Sd.nm ++ s.nm :: R.map Sd.nm).Nodup:=by rw [hnm];exact rise_nodup hK
 have hne:∀ d,d∈A∨d∈R→d.nm≠s.nm:=by
  intro d hd q;rw [List.nodup_append] at hnd;rcases hd with hd | hd
  ·exact hnd.2.2 d.nm (List.mem_map.2 ⟨d,hd,rfl⟩) s.nm (by simp) q
  ·exact (List.nodup_cons.1 hnd.2.1).1 (List.mem_map.2 ⟨d,hd,q⟩)
 have tk:L.take (k+1)=L.take k ++ [c]:=by rw [List.take_add_one,hc];rfl
 have far:∀ d,d∈A∨d∈R→d.L=(L.take (k+1)).filter (ownB K d.nm):=fun d hd=>by
  rw [tk,List.filter_append,List.filter_cons,ownB_ne ho (hne d hd)];simp only [Bool.false_eq_true,if_false,List.filter_nil,List.append_nil];exact h.l d (by rcases hd with hd | hd <;> simp [hd])
 refine ⟨by rw [List.map_append,List.map_cons,e1];exact hnm,fun d hd=>?_⟩;rcases List.mem_append.1 hd with hd | hd
 ·exact far d (.inl hd)
 ·rcases List.mem_cons.1 hd with hd | hd
  ·rw [hd,e2,e1,tk,List.filter_append,List.filter_cons,ownB_iff.2 ho,if_pos rfl,List.filter_nil,← h.l s (by simp)]
  ·exact far d (.inr hd)
end Go.Proofs.YtmjogablacnlgaaGreatDoor
