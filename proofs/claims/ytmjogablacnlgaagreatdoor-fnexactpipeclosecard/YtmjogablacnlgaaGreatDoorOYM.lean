/-
 pipe of a live pipe: the shards in the order of their names.
-/
import Derived.Test.YtmjogablacnlgaaGreatDoorOYL
namespace Go.Proofs.YtmjogablacnlgaaGreatDoor
set_option linter.unusedVariables false
set_option linter.unusedSimpArgs false
open Go.ChangeShapes Go.WideShapes Go.ChangeAt Go.RowKit Go.PlainAid Go.Lib
set_option maxRecDepth 10000
theorem PiI.start {w:World} {mb n:Nat} {M T:List Sd} (p:Pi) (hM:MpS w mb n M):PiI w (((w.alloc (.cells (lvArr p mb) 82)).alloc (.cells zeroPi 29)).alloc (.cells (piArr (.slice none 0 0) p) 29)) mb n M T p 0 (.slice none 0 0):=by
 have a1:∀ (X:World) o,Below X.heap.size X (X.alloc o):=fun X o=>(Below.refl _ _).alloc (Nat.le_refl _) _;have k0:=heap_alloc_new w (.cells (lvArr p mb) 82);have k1:=heap_alloc_new (w.alloc (.cells (lvArr p mb) 82)) (.cells zeroPi 29);have k2:=heap_alloc_new ((w.alloc (.cells (lvArr p mb) 82)).alloc (.cells zeroPi 29)) (.cells (piArr (.slice none 0 0) p) 29);simp only [World.size_alloc] at k1 k2;refine ⟨((a1 _ _).block _ (by simp;omega)).trans (((a1 _ _).block _ (by simp)).trans k0),((a1 _ _).block _ (by simp)).trans k1,k2,((hM.past (a1 _ _)).past (a1 _ _)).past (a1 _ _),OwnD.nil _ _,chain (chain (a1 _ _) (a1 _ _)) (a1 _ _)⟩
theorem OwnT.kept {w w':World} {B:Nat} {v:Value} {K:List ByteArray} {r:Option Nat} (h:OwnT w B v K) (hg:w.grownBy w' r) (hr:∀ j,r=some j→v.ownBlock≠some j):OwnT w' B v K:=by
 refine World.ownsRow.kept h hg ?_
 cases q:v.ownBlock with
 | none=>exact .inl rfl
 | some j=>exact .inr (fun e=>hr j e.symm q)
theorem ownT_cell {w:World} {B cp n k:Nat} {ao:Option Addr} {K:List ByteArray} {u:ByteArray} (h:OwnT w B (.slice ao n cp) K) (hn:K.length=n) (hu:K[k]?=some u):∃ g,ao=some ⟨g,0,none⟩∧w.cell? ⟨g,k,none⟩=some (.string u):=by
 have hk:=(List.getElem?_eq_some_iff.1 hu).1;rcases h.2 with ⟨e,q⟩ | ⟨g,cap,cur,e,q1,q2⟩
 ·omega
 ·injection e with e1 e2 e3
  subst e1;refine ⟨g,rfl,?_⟩;unfold OwnT at h;rw [hn] at h;rw [World.ownsRow.cellAt h k (by omega),List.getElem?_map,hu]
  rfl
set_option maxHeartbeats 8000000 in
theorem c_pipe {w:World} {mb n:Nat} {M T:List Sd} (p:Pi) (hM:MpS w mb n M) (hT:T.Perm M) (hr:RiseT (T.map Sd.nm)) (hl:T.length≤1000) (hz:∀ s∈T,s.nm.size≤maxLen) :
  Calls Tryz.prog 51 #[.agg (lvArr p mb)] w fun e w'=>∃ v,e=.returned (.agg (piArr v p))∧OwnD w' w.heap.size v T∧Below w.heap.size w w':=by
 obtain ⟨i0,hi,hz0,hz1,hz2⟩:=infoSh;obtain ⟨N,hN⟩:∃ N,T.length=N:=⟨_,rfl⟩;have hmb:=hM.lt;have HMB:=hide hmb;have HI0:=hide (PiI.start (T:=T) p hM);have HN:=hide hN;have HT:=hide hT;have HR:=hide hr;have HZ:=hide hz;have hlN:N≤1000:=by omega
 clear hM hT hr hz hmb hN hl;go_enter Tryz.func51,Tryz.ntmps51;go_upto_region 2 with fail;generalize ((w.alloc (.cells (lvArr p mb) 82)).alloc (.cells zeroPi 29)).alloc (.cells (piArr (.slice none 0 0) p) 29)=W0 at HI0 ⊢;obtain ⟨r0,r1,r2,r3,r4⟩:=box5 HI0.out.x0;go_wp2_with fail;clear r0 r1 r2 r3 r4;refine (c_members p HI0.out.mp HR.out (HT.out.map _) (by rw [← HT.out.length_eq,HN.out];omega)).mono ?_;rintro e w1 ⟨vn,rfl,ho,hb1⟩;have HI1:=hide (HI0.out.past hb1);have hlo:w.heap.size+1+1+1≤W0.heap.size:=(Array.getElem?_eq_some_iff.1 HI0.out.x2).1;obtain ⟨an,cn,rfl⟩:=ownT_any ho;have hkl:(T.map Sd.nm).length=N:=by rw [List.length_map];exact HN.out
 rw [hkl] at ho ⊢;have HKL:=hide hkl;have HO1:=hide ho;generalize W0.heap.size=lo at HO1 hlo;have HLO:=hide hlo;clear ho hb1 HI0 hkl hlo W0;go_wp2
 go_loopw [22] (fun i wr=>∃ (k:Nat) (v:Value),k≤N∧i=.int .i64 k∧Hid (PiI w wr mb n M T p k v)∧Hid (OwnT wr lo (.slice an N cn) (T.map Sd.nm))) (fun i wr=>N - (Go.RowKit.intOf i).toNat)
 case atStart=>exact ⟨0,_,Nat.zero_le _,rfl,HI1,HO1⟩
 case round=>
  clear HI1 HO1;obtain ⟨k,v,hk,rfl,HI,HO⟩:=hrel;by_cases hkn:k<N
  ·have hkni:(k:Int)<(N:Int):=by omega
   obtain ⟨s,hs⟩:∃ s,T[k]?=some s:=⟨T[k]'(by have:=HN.out;omega),List.getElem?_eq_getElem _⟩;obtain ⟨gn,rfl,n0⟩:=ownT_cell HO.out HKL.out (show (T.map Sd.nm)[k]?=some s.nm by rw [List.getElem?_map,hs];rfl);have HS:=hide hs;have hlk:=HI.out.mp.look (HT.out.mem_iff.1 (List.mem_of_getElem? hs)) (HZ.out s (List.mem_of_getElem? hs));have p0:=(box5 HI.out.x2).1;have l4:=(box5 HI.out.x0).2.2.2.2;have NL:Hid ((T.take k).length=k):=hide (by rw [List.length_take,HN.out];omega);have OW:Hid (wr.ownsRow (w.heap.size+1+1+1) 55 2 v k (flS (T.take k))):=by have o:=HI.out.o;unfold OwnD at o;rw [NL.out] at o;exact hide o
   have HSz:=hide (Nat.le_trans HLO.out (Nat.le_refl lo));have hw3:w.heap.size+1+1+1≤wr.heap.size:=(Array.getElem?_eq_some_iff.1 HI.out.x2).1;clear hs;go_wp2_with (at_builtin;refine wpList_append_own _ rfl _ _ 27 rfl (w.heap.size+1+1+1) 55 i0 (.agg #[.string ByteArray.empty,.slice none 0 0]) 2 40 Tryz.underlying27 hi hz0 hz1 hz2 rfl (by decide) _ _ _ rfl (World.ownsRow.alloc OW.out _) ⟨wr.heap.size,0,none⟩ 1 1 (sdL s) rfl rfl ?c1 ?c2 ?c3 ?c4 ?c5 ?_)
   case c1=>exact new_cellsS
   case c2=>exact sdL_one s
   case c3=>unfold maxLen;omega
   case c4=>omega
   case c5=>simp;omega
   intro v' w1 hown hgrow _;obtain ⟨av,cv,rfl⟩:∃ ar cr,v'=.slice ar (k+1) cr:=own_any hown;have hbA:Below wr.heap.size wr (wr.alloc (.cells (sdArr s) 55)):=(Below.refl _ _).alloc (Nat.le_refl _) _;have HI2:=hide (HI.out.step HS.out HMB.out hbA (by rw [NL.out];exact hown) hgrow);have z2:w1.heap[w.heap.size+1+1]?=some (.cells (piArr v p) 29 (0,0)):=(hgrow.block _ (by simp;omega) (fun e=>by have:=(World.ownsRow.lt OW.out _ e.symm).1;omega)).trans (hpast HI.out.x2 hbA);have y0:=cellP z2 0 rfl;have f0:=fzR 0 z2
   have HO2:Hid (OwnT (w1.setCell ⟨w.heap.size+1+1,0,none⟩ (.slice av (k+1) cv)) lo (.slice (some ⟨gn,0,none⟩) N cn) (T.map Sd.nm)):=by
    have o1:=HO.out;have hlog:=(World.ownsRow.lt o1 gn rfl).1;have o2:OwnT (wr.alloc (.cells (sdArr s) 55)) lo (.slice (some ⟨gn,0,none⟩) N cn) (T.map Sd.nm):=World.ownsRow.alloc o1 _;have o3:OwnT w1 lo (.slice (some ⟨gn,0,none⟩) N cn) (T.map Sd.nm):=o2.kept hgrow (fun j q e=>Ty.ne (own_ty o1) (own_ty OW.out) (by decide) j e q)
    exact hide (o3.kept (grown_one w1 _ 0 _) (fun j q e=>by
     have:=(World.ownsRow.lt o3 j e).1;injection q with q;have:=HLO.out;omega))
   clear hown hgrow z2 hbA hlk p0 l4 n0 OW;go_wp2;go_roundw
   case rel=>exact ⟨k+1,_,by omega,by go_num,HI2,HO2⟩
   case measure=>simp [Go.RowKit.intOf];omega
  ·have hkni:¬ (k:Int)<(N:Int):=by omega
   obtain ⟨av,cv,rfl,_⟩:=HI.out.o.form;have NL:(T.take k).length=k:=by rw [List.length_take,HN.out];omega
   rw [NL] at HI;have R1:=HI.out.x1;have R2:=HI.out.x2
   have HFin:Hid (OwnD wr w.heap.size (.slice av k cv) T∧Below w.heap.size w wr):=by
    have o:=HI.out.o;rw [List.take_of_length_le (by have:=HN.out;omega)] at o;exact hide ⟨o.le (by omega),HI.out.b⟩
   have HFar:Hid (∀ j,(Value.slice av k cv).ownBlock=some j→w.heap.size+1+1+1≤j):=fun j q=>(World.ownsRow.lt HI.out.o j q).1;obtain ⟨z0,z1,z2,z3,z4⟩:=box5 R2;obtain ⟨y0,y1,y2,y3,y4⟩:=box5 R1;have f0:=fzR 0 R1;have f1:=fzR 1 R1;have f2:=fzR 2 R1;have f3:=fzR 3 R1;have f4:=fzR 4 R1;clear R1 R2 HI;go_wp2;refine bodyPost_ret (v:=.agg (piArr (.slice av k cv) p)) (by simp [results,Tryz.results51,go_sem,y0,y1,y2,y3,y4]) rfl ⟨_,rfl,?_,?_⟩
   ·have st:∀ (W:World) (j:Nat) (u:Value),OwnD W w.heap.size (.slice av k cv) T→OwnD (W.setCell ⟨w.heap.size+1,j,none⟩ u) w.heap.size (.slice av k cv) T:=fun W j u o=>by
     refine World.ownsRow.kept o (grown_one W _ j u) ?_
     cases q:(Value.slice av k cv).ownBlock with
     | none=>exact .inl rfl
     | some i=>exact .inr (fun e=>by have:=HFar.out i q;injection e with e;omega)
    repeat (refine st _ _ _ ?_)
    exact HFin.out.1
   ·repeat (refine Below.setCell ?_ (by simp <;> omega) _)
    exact HFin.out.2
structure LcI (w wr:World) (ao:Option Addr) (N ca:Nat) (S:List Sd) (p:Pi) (k:Nat) (v:Value) (M:List Sd):Prop where
 x0:wr.heap[w.heap.size]?=some (.cells (piArr (.slice ao N ca) p) 29 (0,0))
 x1:wr.heap[w.heap.size+1]?=some (.cells zeroPi 29 (0,0))
 x2:wr.heap[w.heap.size+1+1]?=some (.cells (piArr v p) 29 (0,0))
 r:OwnD wr (w.heap.size+1+1+1) v M
 o:LvO wr (w.heap.size+1+1+1) M
 ky:M.map Sd.key=(S.take k).map Sd.key
 b:Below w.heap.size w wr
section
variable {w wr W w1 w3:World} {ao:Option Addr} {N ca k:Nat} {S M:List Sd} {p:Pi} {v v':Value}
theorem LcI.past (h:LcI w wr ao N ca S p k v M) (hb:Below wr.heap.size wr W):LcI w W ao N ca S p k v M:=
 ⟨hpast h.x0 hb,hpast h.x1 hb,hpast h.x2 hb,h.r.past hb,h.o.past hb,h.ky,chain h.b hb⟩
theorem LcI.len (h:LcI w wr ao N ca S p k v M) (hN:S.length=N) (hk:k≤N):M.length=k:=by
 have:=congrArg List.length h.ky;simp at this;omega
theorem LcI.far (h:LcI w wr ao N ca S p k v M):∀ j,v.ownBlock=some j→w.heap.size+1+1+1≤j:=fun j q=>(World.ownsRow.lt h.r j q).1
theorem LcI.rows (h:LcI w wr ao N ca S p k v M) (hb:Below wr.heap.size wr W) (hg:W.grownBy w3 v.ownBlock):w3.heap[w.heap.size]?=some (.cells (piArr (.slice ao N ca) p) 29 (0,0))∧w3.heap[w.heap.size+1]?=some (.cells zeroPi 29 (0,0))∧w3.heap[w.heap.size+1+1]?=some (.cells (piArr v p) 29 (0,0)):=by
 have hW:=h.past hb;have row:∀ {r:Nat} {o:Obj},r<w.heap.size+1+1+1→W.heap[r]?=some o→w3.heap[r]?=some o:=fun {r o} hr q=>(hg.block r (Array.getElem?_eq_some_iff.1 q).1 (fun e=>by have:=h.far r e.symm;omega)).trans q;exact ⟨row (by omega) hW.x0,row (by omega) hW.x1,row (by omega) hW.x2⟩
theorem LcI.step {s t:Sd} (h:LcI w wr ao N ca S p k v M) (hs:S[k]?=some s) (e:t.key=s.key) (hb1:Below wr.heap.size wr w1) (hr:OwnC w1 wr.heap.size (slS t) t.L) (ho:CesO w1 wr.heap.size t.L) (hbW:Below w1.heap.size w1 W)
  (hown:w3.ownsRow (w.heap.size+1+1+1) 55 2 v' (M.length+1) (flS M ++ sdL t)) (hg:W.grownBy w3 v.ownBlock):LcI w (w3.setCell ⟨w.heap.size+1+1,0,none⟩ v') ao N ca S p (k+1) v' (M ++ [t]):=by
 have hbr:=chain hb1 hbW;obtain ⟨z0,z1,z2⟩:=h.rows hbr hg;have hW:=h.past hbr;have hlo:w.heap.size+1+1+1≤wr.heap.size:=(Array.getElem?_eq_some_iff.1 h.x2).1;have hne:∀ {r:Nat},r≠w.heap.size+1+1→(w3.setCell ⟨w.heap.size+1+1,0,none⟩ v').heap[r]?=w3.heap[r]?:=fun {r} hr=>heap_setCell_other _ _ _ _ (by simpa using fun e=>hr e);have hgs:=grown_one w3 (w.heap.size+1+1) 0 v';have oS:OwnD w3 (w.heap.size+1+1+1) v' (M ++ [t]):=OwnD.add hown;have oL:LvO W (w.heap.size+1+1+1) (M ++ [t]):=(h.o.add hb1 hlo hr ho).past hbW;have hgS:GrownS W w3 (fun k=>v.ownBlock=some k):=⟨hg.os,hg.tape,hg.output,hg.size,fun k hk hn=>hg.block k hk (fun e=>hn e.symm)⟩;have oL3:LvO w3 (w.heap.size+1+1+1) (M ++ [t]):=oL.keptS hgS (fun s hs k q=>hW.r.neB oL hs k q);refine ⟨(hne (by omega)).trans z0,(hne (by omega)).trans z1,heap_setCell_same w3 _ 0 _ _ v' z2,?_,oL3.grown hgs (by omega),key_take h.ky hs e,?_⟩
 ·refine World.ownsRow.kept oS hgs ?_
  cases q:v'.ownBlock with
  | none=>exact .inl rfl
  | some j=>exact .inr (fun e=>by have:=(World.ownsRow.lt oS j q).1;injection e with e;omega)
 ·exact (hW.b.grown hg hW.b.size (fun j hj=>by have:=h.far j hj;omega)).setCell (by show _≤w.heap.size+1+1;omega) _
theorem LcI.start (hA:True):LcI w (((w.alloc (.cells (piArr (.slice ao N ca) p) 29)).alloc (.cells zeroPi 29)).alloc (.cells (piArr (.slice none 0 0) p) 29)) ao N ca S p 0 (.slice none 0 0) []:=by
 have a1:∀ (X:World) o,Below X.heap.size X (X.alloc o):=fun X o=>(Below.refl _ _).alloc (Nat.le_refl _) _;have k0:=heap_alloc_new w (.cells (piArr (.slice ao N ca) p) 29);have k1:=heap_alloc_new (w.alloc (.cells (piArr (.slice ao N ca) p) 29)) (.cells zeroPi 29);have k2:=heap_alloc_new ((w.alloc (.cells (piArr (.slice ao N ca) p) 29)).alloc (.cells zeroPi 29)) (.cells (piArr (.slice none 0 0) p) 29);simp only [World.size_alloc] at k1 k2;exact ⟨((a1 _ _).block _ (by simp;omega)).trans (((a1 _ _).block _ (by simp)).trans k0),((a1 _ _).block _ (by simp)).trans k1,k2,OwnD.nil _ _,LvO.nil _ _,by simp,chain (chain (a1 _ _) (a1 _ _)) (a1 _ _)⟩
end
structure CpP (w w':World) (S:List Sd) (v:Value) (M:List Sd):Prop where
 r:OwnD w' w.heap.size v M
 o:LvO w' w.heap.size M
 ky:M.map Sd.key=S.map Sd.key
 b:Below w.heap.size w w'
def CpA (w:World) (S:List Sd) (p:Pi) (e:Ending) (w':World):Prop:=∃ v M,e=.returned (.agg (piArr v p))∧CpP w w' S v M
theorem lt_of_cell {w:World} {b j:Nat} {u:Value} (h:w.cell? ⟨b,j,none⟩=some u):b<w.heap.size:=by
 rcases Nat.lt_or_ge b w.heap.size with q | q
 ·exact q
 ·have e:w.heap[b]?=none:=Array.getElem?_eq_none q
  simp [World.cell?,e] at h
theorem cell_grown {w w':World} {r:Option Nat} {b j:Nat} {u:Value} (hg:w.grownBy w' r) (hne:some b≠r) (h:w.cell? ⟨b,j,none⟩=some u):w'.cell? ⟨b,j,none⟩=some u:=by
 have hb:b<w.heap.size:=by
  rcases Nat.lt_or_ge b w.heap.size with q | q
  ·exact q
  ·have e:w.heap[b]?=none:=Array.getElem?_eq_none q
   simp [World.cell?,e] at h
 have e:=hg.block b hb hne;simp only [World.cell?] at h ⊢;rw [e];exact h
theorem CpP.sets {w wr:World} {S M:List Sd} {v v0 v1 v2 v3 v4:Value} (far:∀ j,v.ownBlock=some j→w.heap.size+1+1+1≤j) (ho:LvO wr (w.heap.size+1+1+1) M) (h:CpP w wr S v M):CpP w (((((wr.setCell ⟨w.heap.size+1,0,none⟩ v0).setCell ⟨w.heap.size+1,1,none⟩ v1).setCell ⟨w.heap.size+1,2,none⟩ v2).setCell ⟨w.heap.size+1,3,none⟩ v3).setCell ⟨w.heap.size+1,4,none⟩ v4) S v M:=by
 have st:∀ (W:World) (j:Nat) (u:Value),OwnD W w.heap.size v M→OwnD (W.setCell ⟨w.heap.size+1,j,none⟩ u) w.heap.size v M:=fun W j u o=>by
  refine World.ownsRow.kept o (grown_one W _ j u) ?_
  cases q:v.ownBlock with
  | none=>exact .inl rfl
  | some i=>exact .inr (fun e=>by have:=far i q;injection e with e;omega)
 have sl:∀ (W:World) (j:Nat) (u:Value),LvO W (w.heap.size+1+1+1) M→LvO (W.setCell ⟨w.heap.size+1,j,none⟩ u) (w.heap.size+1+1+1) M:=fun W j u o=>o.grown (grown_one W _ j u) (by omega);refine ⟨?_,LvO.le ?_ (by omega:w.heap.size≤w.heap.size+1+1+1),h.ky,?_⟩
 ·repeat (refine st _ _ _ ?_)
  exact h.r
 ·repeat (refine sl _ _ _ ?_)
  exact ho
 ·repeat (refine Below.setCell ?_ (by show _≤w.heap.size+1;omega) _)
  exact h.b
set_option maxHeartbeats 8000000 in
theorem c_l10Copy {w:World} {ao:Option Addr} {N ca:Nat} {S:List Sd} (p:Pi) (hI:PpI w ao N S) :
  Calls Tryz.prog 47 #[.agg (piArr (.slice ao N ca) p)] w fun e w'=>CpA w S p e w':=by
 obtain ⟨i0,hi,hz0,hz1,hz2⟩:=infoSh;have HI:=hide hI;have hlN:N≤1048576:=by have:=hI.n;have:=hI.sm.n;omega
 have HL0:=hide (LcI.start (w:=w) (ao:=ao) (N:=N) (ca:=ca) (S:=S) (p:=p) trivial);clear hI;go_enter Tryz.func47,Tryz.ntmps47;go_upto_region 3 with fail;generalize ((w.alloc (.cells (piArr (.slice ao N ca) p) 29)).alloc (.cells zeroPi 29)).alloc (.cells (piArr (.slice none 0 0) p) 29)=W0 at HL0 ⊢;go_wp2
 go_loopw [4] (fun i wr=>∃ (k:Nat) (v:Value) (M:List Sd),k≤N∧i=.int .i64 k∧Hid (LcI w wr ao N ca S p k v M)) (fun i wr=>N - (Go.RowKit.intOf i).toNat)
 case atStart=>exact ⟨0,_,[],Nat.zero_le _,rfl,HL0⟩
 case round=>
  clear HL0;obtain ⟨k,v,M,hk,rfl,HL⟩:=hrel;by_cases hkn:k<N
  ·have hkni:(k:Int)<(N:Int):=by omega
   obtain ⟨s,hs⟩:∃ s,S[k]?=some s:=⟨S[k]'(by have:=HI.out.n;omega),List.getElem?_eq_getElem _⟩;obtain ⟨b,off,e,hcell⟩:=HI.out.at'.1 (by have:=HI.out.n;omega);subst e;have HS:=hide hs;have hm:=List.mem_of_getElem? hs;have HM:=hide hm;have HML:=hide (HL.out.len HI.out.n hk);have HBb:Hid (b<w.heap.size):=hide (lt_of_cell (hcell k s hs).1);have HSt:Hid ((fun W1:World=>W1.heap[w.heap.size]?=some (.cells (piArr (.slice (some ⟨b,off,none⟩) N ca) p) 29 (0,0))∧W1.heap[w.heap.size+1+1]?=some (.cells (piArr v p) 29 (0,0))∧SdCell W1 b (off+k*2) s) wr.drew):=⟨HL.out.x0,HL.out.x2,sdc_past (hcell k s hs) HL.out.b.drew⟩;have a0:=(box5 HL.out.x0).1;clear hs hm;go_upto_region 6 with fail;clear a0;have HX0:Hid (LcI w wr.drew (some ⟨b,off,none⟩) N ca S p k v M):=hide (HL.out.past (Below.refl _ _).drew);have HBr:Hid (Below wr.heap.size wr wr.drew):=(Below.refl _ _).drew;refine regionK (fun W1:World=>W1.heap[w.heap.size]?=some (.cells (piArr (.slice (some ⟨b,off,none⟩) N ca) p) 29 (0,0))∧W1.heap[w.heap.size+1+1]?=some (.cells (piArr v p) 29 (0,0))∧SdCell W1 b (off+k*2) s) 19 (by kernel_rfl) ?_;generalize wr.drew=X0 at HX0 HSt HBr ⊢;refine tkS (i:=0) (v:=.pointer (some ⟨w.heap.size+1+1,0,none⟩)) rfl rfl HSt.out ?_;refine tkL (i:=1) (v:=v) rfl rfl HSt.out (fun W hW=>?_) ?_
   ·obtain ⟨s0,s1,s2⟩:=hW
    have c2:=(box5 s1).1;go_simp
   refine tkS (i:=2) (v:=.pointer (some ⟨w.heap.size,0,none⟩)) rfl rfl HSt.out ?_;simp only [sA,sB,sC];refine tkL (i:=3) (v:=.slice (some ⟨b,off,none⟩) N ca) rfl rfl HSt.out (fun W hW=>?_) ?_
   ·obtain ⟨s0,s1,s2⟩:=hW
    have c0:=(box5 s0).1;go_simp
   refine tkS (i:=4) (v:=.int .i64 (k:Int)) rfl rfl HSt.out ?_;refine tkS (i:=5) (v:=.pointer (some ⟨b,off+k*2,none⟩)) rfl rfl HSt.out ?_;simp only [sA,sB,sC];refine tkS (i:=6) (v:=.pointer (some ⟨b,off+k*2,none⟩)) rfl rfl HSt.out ?_;refine tkL (i:=7) (v:=.string s.nm) rfl rfl HSt.out (fun W hW=>?_) ?_
   ·obtain ⟨s0,s1,s2⟩:=hW
    obtain ⟨e0,e1⟩:=s2;go_simp
   refine tkS (i:=8) (v:=.pointer (some ⟨w.heap.size,0,none⟩)) rfl rfl HSt.out ?_;simp only [sA,sB,sC];refine tkL (i:=9) (v:=.slice (some ⟨b,off,none⟩) N ca) rfl rfl HSt.out (fun W hW=>?_) ?_
   ·obtain ⟨s0,s1,s2⟩:=hW
    have c0:=(box5 s0).1;go_simp
   refine tkS (i:=10) (v:=.int .i64 (k:Int)) rfl rfl HSt.out ?_;refine tkS (i:=11) (v:=.pointer (some ⟨b,off+k*2,none⟩)) rfl rfl HSt.out ?_;simp only [sA,sB,sC];refine tkS (i:=12) (v:=.pointer (some ⟨b,off+k*2+1,none⟩)) rfl rfl HSt.out ?_;refine tkL (i:=13) (v:=.slice s.ao s.L.length s.cp) rfl rfl HSt.out (fun W hW=>?_) ?_
   ·obtain ⟨s0,s1,s2⟩:=hW
    obtain ⟨e0,e1⟩:=s2;go_simp
   simp only [sA,sB,sC];refine onE (i:=14) rfl (fun K hK=>?_);go_simp;refine (c_l08CopyS rfl (HI.out.sm.l s HM.out) (HI.out.sm.sm s HM.out) (fun c hc=>(HI.out.ok s HM.out c hc).2.2) (ces_past (HI.out.at'.2 s HM.out) HX0.out.b)).mono ?_;rintro e w1 ⟨v1,L1,rfl,hr1,ho1,hk1,hb1,_⟩;obtain ⟨a1,c1,rfl,_⟩:=hr1.form;have HR1:=hide hr1;have HO1:=hide ho1;have HK1:Hid (Sd.key ⟨s.nm,L1,a1,c1⟩=s.key):=by show (s.nm,L1.map Ce.key)=(s.nm,s.L.map Ce.key);rw [hk1]
   have HB1:=hide hb1;have HX1:=hide (HX0.out.past hb1);have HS1:Hid ((fun W1:World=>W1.heap[w.heap.size]?=some (.cells (piArr (.slice (some ⟨b,off,none⟩) N ca) p) 29 (0,0))∧W1.heap[w.heap.size+1+1]?=some (.cells (piArr v p) 29 (0,0))∧SdCell W1 b (off+k*2) s) w1):=⟨HX1.out.x0,HX1.out.x2,sdc_past HSt.out.2.2 hb1⟩;clear hr1 ho1 hk1 hb1;dsimp only;refine hK.out _ _ (fun _=>HS1.out) ?_;clear hK K
   try simp only [Act.put,sA,sB,sC]
   refine tkS (i:=15) (v:=.agg (sdArr ⟨s.nm,L1,a1,c1⟩)) rfl rfl HS1.out ?_;simp only [sA,sB,sC];refine onE (i:=16) rfl (fun K hK=>?_);go_simp;have hal:Below w1.heap.size w1 (w1.alloc (.cells (sdArr ⟨s.nm,L1,a1,c1⟩) 55)):=(Below.refl _ _).alloc (Nat.le_refl _) _;have HAl:=hide hal;have HX2:=hide (HX1.out.past hal);have HS2:Hid ((fun W1:World=>W1.heap[w.heap.size]?=some (.cells (piArr (.slice (some ⟨b,off,none⟩) N ca) p) 29 (0,0))∧W1.heap[w.heap.size+1+1]?=some (.cells (piArr v p) 29 (0,0))∧SdCell W1 b (off+k*2) s) (w1.alloc (.cells (sdArr ⟨s.nm,L1,a1,c1⟩) 55))):=⟨HX2.out.x0,HX2.out.x2,sdc_past HS1.out.2.2 hal⟩;refine hK.out _ _ (fun _=>HS2.out) ?_;clear hK K hal
   try simp only [Act.put,sA,sB,sC]
   refine onE (i:=17) rfl (fun K hK=>?_);rw [if_pos (by rfl)];have ml:=HML.out;have ow:=HX2.out.r;unfold OwnD at ow;have hzX:w.heap.size+1+1+1≤(w1.alloc (.cells (sdArr ⟨s.nm,L1,a1,c1⟩) 55)).heap.size:=(Array.getElem?_eq_some_iff.1 HX2.out.x2).1;refine wp_append_own _ (.tmp 15) (.tmp 30) 27 rfl (w.heap.size+1+1+1) 55 i0 (.agg #[.string ByteArray.empty,.slice none 0 0]) 2 40 Tryz.underlying27 hi hz0 hz1 hz2 rfl (by decide) _ _ _ rfl ow ⟨w1.heap.size,0,none⟩ 1 1 (sdL ⟨s.nm,L1,a1,c1⟩) rfl rfl new_cellsS (sdL_one _) (by unfold maxLen;omega) (by omega) hzX ?_;intro v8 w8 hown hgrow _;obtain ⟨a8,c8,rfl⟩:∃ ar cr,v8=.slice ar (M.length+1) cr:=own_any hown;obtain ⟨g0,g1,g2⟩:=HX1.out.rows HAl.out hgrow;have HF:=hide (HX0.out.step (t:=⟨s.nm,L1,a1,c1⟩) HS.out HK1.out HB1.out HR1.out HO1.out HAl.out hown hgrow)
   have HS8:Hid ((fun W1:World=>W1.heap[w.heap.size]?=some (.cells (piArr (.slice (some ⟨b,off,none⟩) N ca) p) 29 (0,0))∧W1.heap[w.heap.size+1+1]?=some (.cells (piArr v p) 29 (0,0))∧SdCell W1 b (off+k*2) s) w8):=⟨g0,g2,by
    have q:=HS2.out.2.2;have qb:b<w.heap.size:=HBb.out;have far:=HX2.out.far;have ne:some b≠v.ownBlock:=fun e=>by have:=far b e.symm;omega
    have kp:∀ j u,(w1.alloc (.cells (sdArr ⟨s.nm,L1,a1,c1⟩) 55)).cell? ⟨b,j,none⟩=some u→w8.cell? ⟨b,j,none⟩=some u:=fun j u h=>cell_grown hgrow ne h;exact ⟨kp _ _ q.1,kp _ _ q.2⟩⟩
   have ROW8:=hide g2;clear hown hgrow ow ml hzX g0 g1 g2;refine hK.out _ _ (fun _=>HS8.out) ?_;clear hK K
   try simp only [Act.put,sA,sB,sC]
   refine tkS (i:=18) (v:=.pointer (some ⟨w.heap.size+1+1,0,none⟩)) rfl rfl HS8.out ?_;simp only [sA,sB,sC];have q0:=cellP ROW8.out 0 rfl;have f0:=fzR 0 ROW8.out;refine onE (i:=19) rfl (fun K hK=>?_);go_simp;clear q0 f0;refine hK.out _ _ (fun h=>absurd rfl h) ?_;clear hK K
   try simp only [Act.put,sA,sB,sC]
   refine doneK (by kernel_rfl) ?_ _;go_wp2;go_roundw
   case rel=>exact ⟨k+1,_,_,by omega,by first | rfl | go_num,HF⟩
   case measure=>simp [Go.RowKit.intOf];omega
  ·have hkni:¬ (k:Int)<(N:Int):=by omega
   obtain ⟨av,cv,rfl,_⟩:=HL.out.r.form;have R1:=HL.out.x1;have R2:=HL.out.x2
   have HFin:Hid (CpP w wr S (.slice av M.length cv) M):=by
    have ky:=HL.out.ky;rw [List.take_of_length_le (by have:=HI.out.n;omega)] at ky;exact hide ⟨HL.out.r.le (by omega),HL.out.o.le (by omega),ky,HL.out.b⟩
   have HFar:=hide HL.out.far;have HLo:=hide HL.out.o;obtain ⟨z0,z1,z2,z3,z4⟩:=box5 R2;obtain ⟨y0,y1,y2,y3,y4⟩:=box5 R1;have a0:=(box5 HL.out.x0).1;have f0:=fzR 0 R1;have f1:=fzR 1 R1;have f2:=fzR 2 R1;have f3:=fzR 3 R1;have f4:=fzR 4 R1;clear R1 R2 HL;go_wp2;refine bodyPost_ret (v:=.agg (piArr (.slice av M.length cv) p)) (by simp [results,Tryz.results47,go_sem,y0,y1,y2,y3,y4]) rfl ⟨_,M,rfl,?_⟩;exact CpP.sets HFar.out HLo.out HFin.out
noncomputable def tickP (S:List Sd) (p:Pi) (n:Int):Pi:=if pipB S p=true∧0≤n∧n≤1000000000 - p.c then { p with c:=p.c+n } else p
structure CqI (w wr:World) (S:List Sd) (p:Pi) (k:Nat) (v:Value) (M:List Sd):Prop where
 x0:wr.heap[w.heap.size]?=some (.cells (piArr v p) 29 (0,0))
 x1:wr.heap[w.heap.size+1]?=some (.cells zeroPi 29 (0,0))
 r:OwnD wr (w.heap.size+1+1) v M
 o:LvO wr (w.heap.size+1+1) (M.take k)
 dr:M.drop k=S.drop k
 ky:M.map Sd.key=S.map Sd.key
 b:Below w.heap.size w wr
def TkQ (w:World) (L mb:Nat) (p:Pi) (n:Int) (w':World):Prop:=∃ q:Pi,w'.heap[L]?=some (.cells (lvArr q mb) 82 (0,0))∧w.grownBy w' (some L)∧(0≤n→n≤1000000000 - p.c→q={ p with c:=p.c+n })∧(¬ 0≤n∨¬ n≤1000000000 - p.c→q=p)
end Go.Proofs.YtmjogablacnlgaaGreatDoor
