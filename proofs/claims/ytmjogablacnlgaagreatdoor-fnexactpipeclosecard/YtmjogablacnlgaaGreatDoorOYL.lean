/-
 members and pipe of a live pipe: the names in order, and the shards in the order of their names.
-/
import Derived.Test.YtmjogablacnlgaaGreatDoorOYI
import Derived.Test.YtmjogablacnlgaaGreatDoorOKK
namespace Go.Proofs.YtmjogablacnlgaaGreatDoor
set_option linter.unusedVariables false
set_option linter.unusedSimpArgs false
open Go.ChangeShapes Go.WideShapes Go.ChangeAt Go.RowKit Go.PlainAid Go.Shelf Go.Maps
open Go.Sort hiding Below
set_option maxRecDepth 10000
theorem c_keysS (mb:Option Nat) (W:World):Calls Tryz.prog 114 #[.map mb] W fun e w'=>e=.returned (.func (.func 148) #[] #[.pointer (some ⟨W.heap.size,0,none⟩)])∧w'=W.alloc (.cells #[.map mb] 80):=
 callsIn_wide.1 (AnyZ.keys_in Tryz.keysSh Fence.wide 5 trivial rfl mb W)
theorem keysS_perm {w:World} {b n:Nat} {D:DataW Value} {L:List Sd} (hown:w.ownsMap Tryz.prog 9 rS b n D) (h:HoldsS D L):(L.map (fun s=>toL s.nm)).Perm (Go.strKeys D):=by
 obtain ⟨es,e,hk⟩:=hown.keysOf;obtain ⟨es',e',hp⟩:=hown.tidy lawSh;obtain rfl:es=es':=by rw [e] at e'; simpa using e'
 subst e;refine Go.perm_strKeys hp (fun p hp=>by obtain ⟨v,hv⟩:=hk p hp;obtain ⟨x,_,hx,_⟩:=Go.Maps.keyOf_str Tryz.underlying9 hv;exact ⟨x,hx⟩) ?_ (fun x=>?_)
 ·exact List.pairwise_map.2 (h.ap.imp (fun {a b} hne q=>hne (toL_inj q)))
 ·constructor
  ·intro hx
   obtain ⟨s,hs,rfl⟩:=List.mem_map.1 hx;exact h.some hs
  ·intro hx
   obtain ⟨s,hs,e⟩:=h.only ⟨x.toArray⟩ (by unfold litT;rw [toL_mk];exact hx);exact List.mem_map.2 ⟨s,hs,by rw [e,toL_mk]⟩
set_option maxHeartbeats 1000000 in
theorem c_sortedS {M:List Sd} {K:List ByteArray} (b nn g:Nat) (w:World) (hg:w.heap.size=g) (hM:MpS w b nn M) (hK:RiseT K) (hp:K.Perm (M.map Sd.nm)) (hl:M.length≤100000) :
  Calls Tryz.prog 113 #[.func (.func 148) #[] #[.pointer (some ⟨g,0,none⟩)]] (w.alloc (.cells #[.map (some b)] 80)) fun e w'=>∃ v,e=.returned v∧OwnT w' w.heap.size v K∧Below w.heap.size w w':=by
 subst hg;obtain ⟨D,hown,hho⟩:=hM;have hbl:=hown.lt;have hks:=keysS_perm hown hho;have hsz:Go.Maps.size D=M.length:=hho.sz
 have hseq:SeqGives Fence.wide 2 Tryz.prog 148 #[.pointer (some ⟨w.heap.size,0,none⟩)] encStr (fun ss=>ss.Perm (Go.strKeys D)) (Go.Maps.size D) (w.alloc (.cells #[.map (some b)] 80)):=
  AnyZ.keys_gives (ρ:=Tryz.keysSh_ren) { Tryz.keysSh with } Fence.wide _ trivial rfl (by omega) w.heap.size b nn D _ (by simp) (by simp) (hown.alloc _)
 have hc:=callsIn_wide.1 (AnyZ.sorted_in Tryz.sortedT Fence.wide 5 trivial trivial trivial trivial rfl (by omega) (sortsT _) (enters_of Tryz.func147 (by kernel_rfl) rfl) 148 #[.pointer (some ⟨w.heap.size,0,none⟩)] trivial (enters_of Tryz.func148 (by kernel_rfl) rfl) _ (Go.Maps.size D) (by unfold maxLen;omega) (by omega) _ hseq);refine hc.mono ?_;rintro e w' ⟨v,ss,rfl,hS,hrow,hnil,hb⟩
 have hp2:ss.Perm (K.map toL):=by
  refine hS.trans (hks.symm.trans ?_);have:=(hp.map toL).symm;rw [List.map_map] at this;exact this
 have h2:=hp2.length_eq;rw [List.length_map] at h2
 have h1:ss.mergeSort (fun x y=>decide (x≤y))=K.map toL:=by
  have e:=Go.mergeSort_of_perm hp2
  have e2:(K.map toL).mergeSort Go.leB=K.map toL:=by
   refine List.mergeSort_of_pairwise ?_;refine List.pairwise_map.2 (hK.imp (fun {a b} hab=>?_));rw [lt_toL] at hab;have hab:=of_decide_eq_true hab;exact decide_eq_true (List.le_of_lt hab)
  exact e.trans e2
 refine ⟨v,rfl,?_,((Below.refl _ _).alloc (Nat.le_refl _) _).trans (hb.mono (by simp))⟩;rw [h1,map_enc,h2] at hrow;exact own_le' hrow (by simp)
abbrev lvArr (p:Pi) (mb:Nat):Array Value:=#[.int .i64 p.a,.int .i64 p.b,.int .i64 p.c,.int .i64 p.d,.map (some mb)]
set_option maxHeartbeats 1000000 in
theorem c_members {w:World} {mb n:Nat} {M:List Sd} {K:List ByteArray} (p:Pi) (hM:MpS w mb n M) (hK:RiseT K) (hp:K.Perm (M.map Sd.nm)) (hl:M.length≤1000) :
  Calls Tryz.prog 90 #[.agg (lvArr p mb)] w fun e w'=>∃ v,e=.returned v∧OwnT w' w.heap.size v K∧Below w.heap.size w w':=by
 have al:Below w.heap.size w (w.alloc (.cells (lvArr p mb) 82)):=(Below.refl _ _).alloc (Nat.le_refl _) _;have HM:=hide (hM.past al);have HT0:=hide al;have HK:=hide hK;have HP:=hide hp;have r4:(w.alloc (.cells (lvArr p mb) 82)).cell? ⟨w.heap.size,4,none⟩=some (.map (some mb)):=cellKQ (heap_alloc_new w (.cells (lvArr p mb) 82)) 4 rfl;clear hM hK hp al;go_enter Tryz.func90,Tryz.ntmps90;go_wp2_with fail;clear r4;generalize w.alloc (.cells (lvArr p mb) 82)=W0 at HM HT0 ⊢;refine (c_keysS _ _).mono ?_;rintro e w2 ⟨rfl,hw2⟩;subst hw2;go_wp2_with fail;refine (c_sortedS _ _ _ W0 rfl HM.out HK.out HP.out (by omega)).mono ?_;rintro e w3 ⟨v,rfl,ho3,hb3⟩;have HO3:=hide ho3;have HB3:=hide (chain HT0.out hb3);clear ho3 hb3;go_wp2;go_ret;exact ⟨v,rfl,own_le' HO3.out HT0.out.size,HB3.out⟩
theorem zeroSh (w:World):(zeroValue 55).run Tryz.prog w=.ok (.agg #[.string ByteArray.empty,.slice none 0 0]) w:=by kernel_rfl
theorem MpS.look {w:World} {b n:Nat} {L:List Sd} {s:Sd} (h:MpS w b n L) (hs:s∈L) (hz:s.nm.size≤maxLen):(Instr.lookup 80 (.map (some b)) (.string s.nm) false).run Tryz.prog w=.ok (.agg (sdArr s)) w:=by
 obtain ⟨D,hD,hH⟩:=h;obtain ⟨v,ps,hrun,hv⟩:=hD.lookup (zd:=.held (.agg #[.string ByteArray.empty,.slice none 0 0])) (zp:=[]) lawSh Tryz.underlying80 (zeroSh w) rfl (keySh hz);rw [hH.val s hs] at hv;obtain ⟨cs,rfl⟩:=rS_inv hv;have e:(DataW.held (Value.agg cs):DataW Value)=heldS s:=congrArg Prod.fst (Option.some.inj hv);rw [heldS_inj e] at hrun;exact hrun
theorem infoSh:∃ i0,Tryz.prog.info? 55=some i0∧i0.zero=some (.agg #[.string ByteArray.empty,.slice none 0 0])∧i0.size=2∧i0.bytes=40:=by
 obtain ⟨i0,h1,h2,h3,h4⟩:=info_parts infoSd;exact ⟨i0,h1,h2,h3,h4⟩
theorem new_cellsS {W:World} {s:Sd} {t:TypeId} (j:Nat) (u:Value) (hj:(sdL s)[j]?=some u):(W.alloc (.cells (sdArr s) t)).cell? ((⟨W.heap.size,0,none⟩:Addr).add j)=some u:=by
 have hb:(W.alloc (.cells (sdArr s) t)).heap[W.heap.size]?=some (.cells (sdArr s) t (0,0)):=heap_alloc_new W _;rw [Addr.add_lit,Nat.zero_add,cell_of_row _ W.heap.size j _ _ (0,0) hb]
 simpa [sdL] using hj
theorem sdL_one (s:Sd):∀ u∈sdL s,u.oneCell'=true:=fun u hu=>by
 simp only [sdL,sdArr,List.mem_cons,List.not_mem_nil,or_false] at hu;rcases hu with rfl | rfl <;> rfl
theorem OwnD.add {w:World} {B:Nat} {v:Value} {M:List Sd} {s:Sd} (h:w.ownsRow B 55 2 v (M.length+1) (flS M ++ sdL s)):OwnD w B v (M ++ [s]):=by
 show World.ownsRow _ _ _ _ _ _ _
 rw [List.length_append,flS_app,flS_one];exact h
structure PiI (w wr:World) (mb n:Nat) (M T:List Sd) (p:Pi) (k:Nat) (v:Value):Prop where
 x0:wr.heap[w.heap.size]?=some (.cells (lvArr p mb) 82 (0,0))
 x1:wr.heap[w.heap.size+1]?=some (.cells zeroPi 29 (0,0))
 x2:wr.heap[w.heap.size+1+1]?=some (.cells (piArr v p) 29 (0,0))
 mp:MpS wr mb n M
 o:OwnD wr (w.heap.size+1+1+1) v (T.take k)
 b:Below w.heap.size w wr
theorem PiI.past {w wr W:World} {mb n k:Nat} {M T:List Sd} {p:Pi} {v:Value} (h:PiI w wr mb n M T p k v) (hb:Below wr.heap.size wr W):PiI w W mb n M T p k v:=
 ⟨hpast h.x0 hb,hpast h.x1 hb,hpast h.x2 hb,h.mp.past hb,h.o.past hb,chain h.b hb⟩
theorem PiI.step {w wr W w1:World} {mb n k:Nat} {M T:List Sd} {p:Pi} {v v':Value} {s:Sd} (h:PiI w wr mb n M T p k v) (hs:T[k]?=some s) (hmb:mb<w.heap.size) (hb:Below wr.heap.size wr W)
  (hown:w1.ownsRow (w.heap.size+1+1+1) 55 2 v' ((T.take k).length+1) (flS (T.take k) ++ sdL s)) (hg:W.grownBy w1 v.ownBlock):PiI w (w1.setCell ⟨w.heap.size+1+1,0,none⟩ v') mb n M T p (k+1) v':=by
 have hW:=h.past hb;have far:∀ j,v.ownBlock=some j→w.heap.size+1+1+1≤j:=fun j q=>(World.ownsRow.lt h.o j q).1;have row:∀ {r:Nat} {o:Obj},r<w.heap.size+1+1+1→W.heap[r]?=some o→w1.heap[r]?=some o:=fun {r o} hr q=>(hg.block r (Array.getElem?_eq_some_iff.1 q).1 (fun e=>by have:=far r e.symm;omega)).trans q;have z0:=row (by omega) hW.x0;have z1:=row (by omega) hW.x1;have z2:=row (by omega) hW.x2;have hne:∀ {r:Nat},r≠w.heap.size+1+1→(w1.setCell ⟨w.heap.size+1+1,0,none⟩ v').heap[r]?=w1.heap[r]?:=fun {r} hr=>heap_setCell_other _ _ _ _ (by simpa using fun e=>hr e);have hgs:=grown_one w1 (w.heap.size+1+1) 0 v';refine ⟨(hne (by omega)).trans z0,(hne (by omega)).trans z1,?_,?_,?_,?_⟩
 ·exact heap_setCell_same w1 _ 0 _ _ v' z2
 ·have m1:=hW.mp.kept hg (fun e=>by have:=far mb e.symm;omega)
  exact m1.kept hgs (fun e=>by injection e with e;omega)
 ·have o1:OwnD w1 (w.heap.size+1+1+1) v' (T.take (k+1)):=by
   rw [List.take_add_one,hs];exact OwnD.add hown
  refine World.ownsRow.kept o1 hgs ?_
  cases q:v'.ownBlock with
  | none=>exact .inl rfl
  | some j=>exact .inr (fun e=>by have:=(World.ownsRow.lt o1 j q).1;injection e with e;omega)
 ·exact (hW.b.grown hg hW.b.size (fun j hj=>by have:=far j hj;omega)).setCell (by show _≤w.heap.size+1+1;omega) _
end Go.Proofs.YtmjogablacnlgaaGreatDoor
