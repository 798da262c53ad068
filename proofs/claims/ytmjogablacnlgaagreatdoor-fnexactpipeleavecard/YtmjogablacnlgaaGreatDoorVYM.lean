/-
 pipe of a live pipe: the shards in the order of their names.
-/
import Derived.Test.YtmjogablacnlgaaGreatDoorVYL
namespace Go.Proofs.YtmjogablacnlgaaGreatDoor
set_option linter.unusedVariables false
set_option linter.unusedSimpArgs false
open Go.ChangeShapes Go.WideShapes Go.ChangeAt Go.RowKit Go.PlainAid Go.Lib
set_option maxRecDepth 10000
theorem PiI.start {w:World} {mb n:Nat} {M T:List Sd} (p:Pi) (hM:MpS w mb n M):PiI w (((w.alloc (.cells (lvArr p mb) 82)).alloc (.cells zeroPi 29)).alloc (.cells (piArr (.slice none 0 0) p) 29)) mb n M T p 0 (.slice none 0 0):=by
 have a1:∀ (X:World) o,Below X.heap.size X (X.alloc o):=fun X o=>(Below.refl _ _).alloc (Nat.le_refl _) _;have k0:=heap_alloc_new w (.cells (lvArr p mb) 82);have k1:=heap_alloc_new (w.alloc (.cells (lvArr p mb) 82)) (.cells zeroPi 29);have k2:=heap_alloc_new ((w.alloc (.cells (lvArr p mb) 82)).alloc (.cells zeroPi 29)) (.cells (piArr (.slice none 0 0) p) 29);simp only [World.size_alloc] at k1 k2;refine ⟨((a1 _ _).block _ (by simp;omega)).trans (((a1 _ _).block _ (by simp)).trans k0),((a1 _ _).block _ (by simp)).trans k1,k2,((hM.past (a1 _ _)).past (a1 _ _)).past (a1 _ _),OwnD.nil _ _,chain (chain (a1 _ _) (a1 _ _)) (a1 _ _)⟩
theorem OwnT.kept {w w':World} {B:Nat} {v:Value} {K:List ByteArray} {r:Option Nat} (h:OwnT w B v K) (hg:w.grownBy w' r) (hr:∀ j,r=some j→v.ownBlock≠some j):OwnT w' B v K:=by
 refine World.ownsRow.kept h hg ?_
 cases q:v.ownBlock with
 | none=>exact .inl rfl
 | some j=>exact .inr (fun e=>hr j e.symm q)
theorem ownT_cell {w:World} {B cp n k:Nat} {ao:Option Addr} {K:List ByteArray} {u:ByteArray} (h:OwnT w B (.slice ao n cp) K) (hn:K.length=n) (hu:K[k]?=some u):∃ g,ao=some ⟨g,0,none⟩∧w.cell? ⟨g,k,none⟩=some (.string u):=by
 have hk:=(List.getElem?_eq_some_iff.1 hu).1;rcases h.2 with ⟨e,q⟩ | ⟨g,cap,cur,e,q1,q2⟩
 ·omega
 ·injection e with e1 e2 e3
  subst e1;refine ⟨g,rfl,?_⟩;unfold OwnT at h;rw [hn] at h;rw [World.ownsRow.cellAt h k (by omega),List.getElem?_map,hu]
  rfl
set_option maxHeartbeats 8000000 in
theorem c_pipe {w:World} {mb n:Nat} {M T:List Sd} (p:Pi) (hM:MpS w mb n M) (hT:T.Perm M) (hr:RiseT (T.map Sd.nm)) (hl:T.length≤1000) (hz:∀ s∈T,s.nm.size≤maxLen) :
  Calls Tryz.prog 51 #[.agg (lvArr p mb)] w fun e w'=>∃ v,e=.returned (.agg (piArr v p))∧OwnD w' w.heap.size v T∧Below w.heap.size w w':=by
 obtain ⟨i0,hi,hz0,hz1,hz2⟩:=infoSh;obtain ⟨N,hN⟩:∃ N,T.length=N:=⟨_,rfl⟩;have hmb:=hM.lt;have HMB:=hide hmb;have HI0:=hide (PiI.start (T:=T) p hM);have HN:=hide hN;have HT:=hide hT;have HR:=hide hr;have HZ:=hide hz;have hlN:N≤1000:=by omega
 clear hM hT hr hz hmb hN hl;go_enter Tryz.func51,Tryz.ntmps51;go_upto_region 2 with fail;generalize ((w.alloc (.cells (lvArr p mb) 82)).alloc (.cells zeroPi 29)).alloc (.cells (piArr (.slice none 0 0) p) 29)=W0 at HI0 ⊢;obtain ⟨r0,r1,r2,r3,r4⟩:=box5 HI0.out.x0;go_wp2_with fail;clear r0 r1 r2 r3 r4;refine (c_members p HI0.out.mp HR.out (HT.out.map _) (by rw [← HT.out.length_eq,HN.out];omega)).mono ?_;rintro e w1 ⟨vn,rfl,ho,hb1⟩;have HI1:=hide (HI0.out.past hb1);have hlo:w.heap.size+1+1+1≤W0.heap.size:=(Array.getElem?_eq_some_iff.1 HI0.out.x2).1;obtain ⟨an,cn,rfl⟩:=ownT_any ho;have hkl:(T.map Sd.nm).length=N:=by rw [List.length_map];exact HN.out
 rw [hkl] at ho ⊢;have HKL:=hide hkl;have HO1:=hide ho;generalize W0.heap.size=lo at HO1 hlo;have HLO:=hide hlo;clear ho hb1 HI0 hkl hlo W0;go_wp2
 go_loopw [22] (fun i wr=>∃ (k:Nat) (v:Value),k≤N∧i=.int .i64 k∧Hid (PiI w wr mb n M T p k v)∧Hid (OwnT wr lo (.slice an N cn) (T.map Sd.nm))) (fun i wr=>N - (Go.RowKit.intOf i).toNat)
 case atStart=>exact ⟨0,_,Nat.zero_le _,rfl,HI1,HO1⟩
 case round=>
  clear HI1 HO1;obtain ⟨k,v,hk,rfl,HI,HO⟩:=hrel;by_cases hkn:k<N
  ·have hkni:(k:Int)<(N:Int):=by omega
   obtain ⟨s,hs⟩:∃ s,T[k]?=some s:=⟨T[k]'(by have:=HN.out;omega),List.getElem?_eq_getElem _⟩;obtain ⟨gn,rfl,n0⟩:=ownT_cell HO.out HKL.out (show (T.map Sd.nm)[k]?=some s.nm by rw [List.getElem?_map,hs];rfl);have HS:=hide hs;have hlk:=HI.out.mp.look (HT.out.mem_iff.1 (List.mem_of_getElem? hs)) (HZ.out s (List.mem_of_getElem? hs));have p0:=(box5 HI.out.x2).1;have l4:=(box5 HI.out.x0).2.2.2.2;have NL:Hid ((T.take k).length=k):=hide (by rw [List.length_take,HN.out];omega);have OW:Hid (wr.ownsRow (w.heap.size+1+1+1) 55 2 v k (flS (T.take k))):=by have o:=HI.out.o;unfold OwnD at o;rw [NL.out] at o;exact hide o
   have HSz:=hide (Nat.le_trans HLO.out (Nat.le_refl lo));have hw3:w.heap.size+1+1+1≤wr.heap.size:=(Array.getElem?_eq_some_iff.1 HI.out.x2).1;clear hs;go_wp2_with (at_builtin;refine wpList_append_own _ rfl _ _ 27 rfl (w.heap.size+1+1+1) 55 i0 (.agg #[.string ByteArray.empty,.slice none 0 0]) 2 40 Tryz.underlying27 hi hz0 hz1 hz2 rfl (by decide) _ _ _ rfl (World.ownsRow.alloc OW.out _) ⟨wr.heap.size,0,none⟩ 1 1 (sdL s) rfl rfl ?c1 ?c2 ?c3 ?c4 ?c5 ?_)
   case c1=>exact new_cellsS
   case c2=>exact sdL_one s
   case c3=>unfold maxLen;omega
   case c4=>omega
   case c5=>simp;omega
   intro v' w1 hown hgrow _;obtain ⟨av,cv,rfl⟩:∃ ar cr,v'=.slice ar (k+1) cr:=own_any hown;have hbA:Below wr.heap.size wr (wr.alloc (.cells (sdArr s) 55)):=(Below.refl _ _).alloc (Nat.le_refl _) _;have HI2:=hide (HI.out.step HS.out HMB.out hbA (by rw [NL.out];exact hown) hgrow);have z2:w1.heap[w.heap.size+1+1]?=some (.cells (piArr v p) 29 (0,0)):=(hgrow.block _ (by simp;omega) (fun e=>by have:=(World.ownsRow.lt OW.out _ e.symm).1;omega)).trans (hpast HI.out.x2 hbA);have y0:=cellP z2 0 rfl;have f0:=fzR 0 z2
   have HO2:Hid (OwnT (w1.setCell ⟨w.heap.size+1+1,0,none⟩ (.slice av (k+1) cv)) lo (.slice (some ⟨gn,0,none⟩) N cn) (T.map Sd.nm)):=by
    have o1:=HO.out;have hlog:=(World.ownsRow.lt o1 gn rfl).1;have o2:OwnT (wr.alloc (.cells (sdArr s) 55)) lo (.slice (some ⟨gn,0,none⟩) N cn) (T.map Sd.nm):=World.ownsRow.alloc o1 _;have o3:OwnT w1 lo (.slice (some ⟨gn,0,none⟩) N cn) (T.map Sd.nm):=o2.kept hgrow (fun j q e=>Ty.ne (own_ty o1) (own_ty OW.out) (by decide) j e q)
    exact hide (o3.kept (grown_one w1 _ 0 _) (fun j q e=>by
     have:=(World.ownsRow.lt o3 j e).1;injection q with q;have:=HLO.out;omega))
   clear hown hgrow z2 hbA hlk p0 l4 n0 OW;go_wp2;go_roundw
   case rel=>exact ⟨k+1,_,by omega,by go_num,HI2,HO2⟩
   case measure=>simp [Go.RowKit.intOf];omega
  ·have hkni:¬ (k:Int)<(N:Int):=by omega
   obtain ⟨av,cv,rfl,_⟩:=HI.out.o.form;have NL:(T.take k).length=k:=by rw [List.length_take,HN.out];omega
   rw [NL] at HI;have R1:=HI.out.x1;have R2:=HI.out.x2
   have HFin:Hid (OwnD wr w.heap.size (.slice av k cv) T∧Below w.heap.size w wr):=by
    have o:=HI.out.o;rw [List.take_of_length_le (by have:=HN.out;omega)] at o;exact hide ⟨o.le (by omega),HI.out.b⟩
   have HFar:Hid (∀ j,(Value.slice av k cv).ownBlock=some j→w.heap.size+1+1+1≤j):=fun j q=>(World.ownsRow.lt HI.out.o j q).1;obtain ⟨z0,z1,z2,z3,z4⟩:=box5 R2;obtain ⟨y0,y1,y2,y3,y4⟩:=box5 R1;have f0:=fzR 0 R1;have f1:=fzR 1 R1;have f2:=fzR 2 R1;have f3:=fzR 3 R1;have f4:=fzR 4 R1;clear R1 R2 HI;go_wp2;refine bodyPost_ret (v:=.agg (piArr (.slice av k cv) p)) (by simp [results,Tryz.results51,go_sem,y0,y1,y2,y3,y4]) rfl ⟨_,rfl,?_,?_⟩
   ·have st:∀ (W:World) (j:Nat) (u:Value),OwnD W w.heap.size (.slice av k cv) T→OwnD (W.setCell ⟨w.heap.size+1,j,none⟩ u) w.heap.size (.slice av k cv) T:=fun W j u o=>by
     refine World.ownsRow.kept o (grown_one W _ j u) ?_
     cases q:(Value.slice av k cv).ownBlock with
     | none=>exact .inl rfl
     | some i=>exact .inr (fun e=>by have:=HFar.out i q;injection e with e;omega)
    repeat (refine st _ _ _ ?_)
    exact HFin.out.1
   ·repeat (refine Below.setCell ?_ (by simp <;> omega) _)
    exact HFin.out.2
end Go.Proofs.YtmjogablacnlgaaGreatDoor
