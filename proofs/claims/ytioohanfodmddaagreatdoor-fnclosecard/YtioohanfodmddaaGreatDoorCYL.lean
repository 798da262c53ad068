/-
 Parts.
-/
import Derived.Test.YtioohanfodmddaaGreatDoorCYH
import Derived.Test.YtioohanfodmddaaGreatDoorCKK
set_option maxHeartbeats 1000000
set_option linter.all false
namespace Go.Proofs.YtioohanfodmddaaGreatDoor
open Go.ChangeShapes Go.WideShapes Go.ChangeAt Go.RowKit Go.PlainAid Go.Shelf Go.Maps Tryz
open Go.Sort hiding Below
set_option maxRecDepth 10000
theorem QuH (mb:Option Nat) (W:World):Calls prog 99 #[.map mb] W fun e w'=>e=.returned (.func (.func 153) #[] #[.pointer (some ⟨W.heap.size,0,none⟩)])/\w'=W.alloc (.cells #[.map mb] 60):=
 callsIn_wide.1 (AnyZ.keys_in Tryz.keysSh Fence.wide 5 trivial rfl mb W)
variable {W w wr:World}
variable {b k mb n:Nat}
variable {L M T:List Sd}
theorem Qn9 {D:DataW Value} (hown:w.ownsMap prog 9 rS b n D) (h:HoldsS D L):(L.map (fun s=>toL s.nm)).Perm (Go.strKeys D):=by
 obtain ⟨es,e,hk⟩:=hown.keysOf;obtain ⟨aa,e',hp⟩:=hown.tidy Qkp;obtain rfl:es=aa:=by rw [e] at e'; simpa using e'
 subst e;refine Go.perm_strKeys hp (fun p hp=>by obtain ⟨v,hv⟩:=hk p hp;obtain ⟨x,_,hx,_⟩:=Go.Maps.keyOf_str underlying9 hv;exact ⟨x,hx⟩) ?_ (fun x=>?_)
 ·exact List.pairwise_map.2 (h.ap.imp (fun {a b} hne q=>hne (QaW q)))
 ·constructor
  ·intro hx
   obtain ⟨s,hs,rfl⟩:=List.mem_map.1 hx;exact h.some hs
  ·intro hx
   obtain ⟨s,hs,e⟩:=h.only ⟨x.toArray⟩ (by unfold Qda;rw [QaQ];exact hx);exact List.mem_map.2 ⟨s,hs,by rw [e,QaQ]⟩
variable {K:List ByteArray}
theorem Qqz (b nn g:Nat) (w:World) (hg:w.heap.size=g) (hM:MpS w b nn M) (hK:Qeh K) (hp:K.Perm (M.map Sd.nm)) (hl:M.length<=100000) :
  Calls prog 98 #[.func (.func 153) #[] #[.pointer (some ⟨g,0,none⟩)]] (w.alloc (.cells #[.map (some b)] 60)) fun e w'=>∃ v,e=.returned v/\OwnT w' w.heap.size v K/\Bw w w':=by
 subst hg;obtain ⟨D,aa,af⟩:=hM;have aj:=aa.lt;have ag:=Qn9 aa af;have ai:Go.Maps.size D=M.length:=af.sz
 have ad:SeqGives Fence.wide 2 prog 153 #[.pointer (some ⟨w.heap.size,0,none⟩)] encStr (fun ss=>ss.Perm (Go.strKeys D)) (Go.Maps.size D) (w.alloc (.cells #[.map (some b)] 60)):=
  AnyZ.keys_gives (ρ:=Tryz.keysSh_ren) { Tryz.keysSh with } Fence.wide _ trivial rfl oB w.heap.size b nn D _ oE oE (aa.alloc _)
 have hc:=callsIn_wide.1 (AnyZ.sorted_in Tryz.sortedT Fence.wide 5 trivial trivial trivial trivial rfl oB (Qt0 _) (enters_of func152 oG rfl) 153 #[.pointer (some ⟨w.heap.size,0,none⟩)] trivial (enters_of func153 oG rfl) _ (Go.Maps.size D) oC oB _ ad);refine hc.mono ?_;rintro e w' ⟨v,ss,rfl,hS,ab,ah,hb⟩
 have ae:ss.Perm (K.map toL):=by
  refine hS.trans (ag.symm.trans ?_);have:=(hp.map toL).symm;rw [List.map_map] at this;exact this
 have h2:=ae.length_eq;rw [yA] at h2
 have h1:ss.mergeSort (fun x y=>decide (x<=y))=K.map toL:=by
  have e:=Go.mergeSort_of_perm ae
  have e2:(K.map toL).mergeSort Go.leB=K.map toL:=by
   refine List.mergeSort_of_pairwise ?_;refine List.pairwise_map.2 (hK.imp (fun {a b} ac=>?_));rw [Qt6] at ac;have ac:=of_decide_eq_true ac;exact ZZh (List.le_of_lt ac)
  exact e.trans e2
 refine ⟨v,rfl,?_,((Below.refl _ _).alloc (Nat.le_refl _) _).trans (hb.mono oE)⟩;rw [h1,Qri,h2] at ab;exact Qjk ab oE
abbrev Qbw (p:Pi) (mb:Nat):Array Value:=#[.int .i64 p.a,.int .i64 p.b,.int .i64 p.c,.int .i64 p.d,.map (some mb)]
theorem QjW (p:Pi) (hM:MpS w mb n M) (hK:Qeh K) (hp:K.Perm (M.map Sd.nm)) (hl:M.length<=1000) :
  Calls prog 57 #[.agg (Qbw p mb)] w fun e w'=>∃ v,e=.returned v/\OwnT w' w.heap.size v K/\Bw w w':=by
 have al:Bw w (w.alloc (.cells (Qbw p mb) 62)):=bAA;have HM:=Qaa (hM.past al);have aa:=Qaa al;have HK:=Qaa hK;have HP:=Qaa hp;have r4:(w.alloc (.cells (Qbw p mb) 62)).cell? ⟨w.heap.size,4,none⟩=some (.map (some mb)):=Qar (ZZk w (.cells (Qbw p mb) 62)) 4 rfl;clear hM hK hp al;go_enter func57,ntmps57;go_wp2_with fail;clear r4;generalize w.alloc _=W0 at HM aa ⊢;refine (QuH _ _).mono ?_;rintro e w2 ⟨rfl,ad⟩;subst ad;go_wp2_with fail;refine (Qqz _ _ _ W0 rfl HM HK HP oB).mono ?_;rintro e w3 ⟨v,rfl,ac,ab⟩;have ae:=Qaa ac;have af:=Qaa (Qac aa ab);clear ac ab;go_wp2;go_ret;exact ⟨v,rfl,Qjk ae aa.size,af⟩
theorem zeroSh (w:World):(zeroValue 71).run prog w=.ok (.agg zAe) w:=oG
variable {s:Sd}
theorem MpS.look (h:MpS w b n L) (hs:s∈L) (hz:s.nm.size<=maxLen):(Instr.lookup 60 (.map (some b)) (.string s.nm) false).run prog w=.ok (.agg (QaS s)) w:=by
 obtain ⟨D,hD,hH⟩:=h;obtain ⟨v,ps,aa,hv⟩:=hD.lookup (zd:=.held (.agg zAe)) (zp:=[]) Qkp underlying60 (zeroSh w) rfl (Qum hz);rw [hH.val s hs] at hv;obtain ⟨cs,rfl⟩:=Qtq hv;have e:(DataW.held (Value.agg cs):DataW Value)=Qoo s:=congrArg Prod.fst (Option.some.inj hv);rw [QjB e] at aa;exact aa
theorem QoB:∃ i0,prog.info? 71=some i0/\i0.zero=some (.agg zAe)/\i0.size=2/\i0.bytes=40:=by
 obtain ⟨i0,h1,h2,h3,h4⟩:=info_parts infoSd;exact ⟨i0,h1,h2,h3,h4⟩
theorem Qh1 {t:TypeId} (j:Nat) (u:Value) (hj:(sdL s)[j]?=some u):(W.alloc (.cells (QaS s) t)).cell? ((⟨W.heap.size,0,none⟩:Addr).add j)=some u:=by
 have hb:(W.alloc (.cells (QaS s) t)).heap[W.heap.size]?=some (.cells (QaS s) t (0,0)):=ZZk W _;rw [Addr.add_lit,Nat.zero_add,cell_of_row _ W.heap.size j _ _ (0,0) hb]
 simpa [sdL] using hj
theorem QpW (s:Sd):∀ u∈sdL s,u.oneCell'=true:=fun u hu=>by
 simp only [sdL,QaS,List.mem_cons,List.not_mem_nil,or_false] at hu;rcases hu with rfl | rfl <;> rfl
variable {v:Value}
theorem OwnD.add {B:Nat} (h:w.ownsRow B 71 2 v (M.length+1) (flS M ++ sdL s)):OwnD w B v (M ++ [s]):=by
 show World.ownsRow _ _ _ _ _ _ _
 rw [List.length_append,Quj,Quw];exact h
structure PiI (w wr:World) (mb n:Nat) (M T:List Sd) (p:Pi) (k:Nat) (v:Value):Prop where
 x0:wr.heap[w.heap.size]?=some (.cells (Qbw p mb) 62 (0,0))
 x1:wr.heap[w.heap.size+1]?=some (.cells QbE 25 (0,0))
 x2:wr.heap[w.heap.size+1+1]?=some (.cells (Qae v p) 25 (0,0))
 mp:MpS wr mb n M
 o:OwnD wr (w.heap.size+1+1+1) v (T.take k)
 b:Bw w wr
variable {p:Pi}
theorem PiI.past (h:PiI w wr mb n M T p k v) (hb:Bw wr W):PiI w W mb n M T p k v:=
 ⟨Qag h.x0 hb,Qag h.x1 hb,Qag h.x2 hb,h.mp.past hb,h.o.past hb,Qac h.b hb⟩
theorem PiI.step {w1:World} {v':Value} (h:PiI w wr mb n M T p k v) (hs:T[k]?=some s) (hmb:mb<w.heap.size) (hb:Bw wr W)
  (hown:w1.ownsRow (w.heap.size+1+1+1) 71 2 v' ((T.take k).length+1) (flS (T.take k) ++ sdL s)) (hg:W.grownBy w1 v.ownBlock):PiI w (w1.setCell ⟨w.heap.size+1+1,0,none⟩ v') mb n M T p (k+1) v':=by
 have hW:=h.past hb;have aa:∀ j,v.ownBlock=some j->w.heap.size+1+1+1<=j:=fun j q=>(World.ownsRow.lt h.o j q).1;have ab:∀ {r:Nat} {o:Obj},r<w.heap.size+1+1+1->W.heap[r]?=some o->w1.heap[r]?=some o:=fun {r o} hr q=>(hg.block r (ZZc.1 q).1 (fun e=>by have:=aa r e.symm;omega)).trans q;have z0:=ab oB hW.x0;have z1:=ab oB hW.x1;have z2:=ab oB hW.x2;have ad:∀ {r:Nat},r≠w.heap.size+1+1->(w1.setCell ⟨w.heap.size+1+1,0,none⟩ v').heap[r]?=w1.heap[r]?:=fun {r} hr=>heap_setCell_other _ _ _ _ (by simpa using fun e=>hr e);have ac:=Qah w1 (w.heap.size+1+1) 0 v';refine ⟨(ad oB).trans z0,(ad oB).trans z1,?_,?_,?_,?_⟩
 ·exact ZZl w1 _ 0 _ _ v' z2
 ·have m1:=hW.mp.kept hg (fun e=>by have:=aa mb e.symm;omega)
  exact m1.kept ac (fun e=>by injection e with e;omega)
 ·have o1:OwnD w1 (w.heap.size+1+1+1) v' (T.take (k+1)):=by
   rw [List.take_add_one,hs];exact OwnD.add hown
  refine World.ownsRow.kept o1 ac ?_
  cases q:v'.ownBlock with
  | none=>exact .inl rfl
  | some j=>exact .inr (fun e=>by have:=(World.ownsRow.lt o1 j q).1;injection e with e;omega)
 ·exact (hW.b.grown hg hW.b.size (fun j hj=>by have:=aa j hj;omega)).setCell OZ _
end Go.Proofs.YtioohanfodmddaaGreatDoor
