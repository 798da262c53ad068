/-
 Parts.
-/
import Derived.Test.YtlejlgldgafljaaGreatDoorKYL
set_option maxHeartbeats 8000000
set_option linter.all false
namespace Go.Proofs.YtlejlgldgafljaaGreatDoor
open Go.ChangeShapes Go.WideShapes Go.ChangeAt Go.RowKit Go.PlainAid Go.Lib Tryz
set_option maxRecDepth 10000
variable {W w w' wr:World}
variable {B N b ca cp j k mb n:Nat}
variable {M S T:List Sd}
theorem PiI.start (p:Pi) (hM:MpS w mb n M):PiI w (((w.alloc (.cells (Qcz p mb) 52)).alloc (.cells Qa3 25)).alloc (.cells (Qaf (.slice none 0 0) p) 25)) mb n M T p 0 (.slice none 0 0):=by
 have a1:∀ (X:World) o,Below X.heap.size X (X.alloc o):=fun X o=>(ZZb _ _).alloc (ZZa _) _;have k0:=ZZk w (.cells (Qcz p mb) 52);have k1:=ZZk (w.alloc (.cells (Qcz p mb) 52)) (.cells Qa3 25);have k2:=ZZk ((w.alloc (.cells (Qcz p mb) 52)).alloc (.cells Qa3 25)) (.cells (Qaf (.slice none 0 0) p) 25);simp only [World.size_alloc] at k1 k2;refine ⟨((a1 _ _).block _ (by simp;omega)).trans (((a1 _ _).block _ (by simp)).trans k0),((a1 _ _).block _ (by simp)).trans k1,k2,((hM.past (a1 _ _)).past (a1 _ _)).past (a1 _ _),OwnD.nil _ _,Qac (Qac (a1 _ _) (a1 _ _)) (a1 _ _)⟩
variable {u v v0 v1 v2 v3 v4:Value}
variable {K:List ByteArray}
variable {r:Option Nat}
theorem OwnT.kept (h:OwnT w B v K) (hg:w.grownBy w' r) (hr:∀ j,r=some j->v.ownBlock≠some j):OwnT w' B v K:=by
 refine World.ownsRow.kept h hg ?_
 cases q:v.ownBlock with
 | none=>exact .inl rfl
 | some j=>exact .inr (fun e=>hr j e.symm q)
variable {ao:Option Addr}
theorem Qno {u:ByteArray} (h:OwnT w B (.slice ao n cp) K) (hn:K.length=n) (hu:K[k]?=some u):∃ g,ao=some ⟨g,0,none⟩/\w.cell? ⟨g,k,none⟩=some (.string u):=by
 have hk:=(ZZd.1 hu).1;rcases h.2 with ⟨e,q⟩ | ⟨g,ab,aa,e,q1,q2⟩
 ·omega
 ·injection e with e1 e2 e3
  subst e1;refine ⟨g,rfl,?_⟩;unfold OwnT at h;rw [hn] at h;rw [World.ownsRow.cellAt h k (by omega),List.getElem?_map,hu]
  rfl
theorem c_pipe (p:Pi) (hM:MpS w mb n M) (hT:T.Perm M) (hr:QdP (T.map Sd.nm)) (hl:T.length<=1000) (hz:∀ s∈T,s.nm.size<=maxLen) :
  Calls prog 29 #[.agg (Qcz p mb)] w fun e w'=>∃ v,e=.returned (.agg (Qaf v p))/\OwnD w' w.heap.size v T/\Below w.heap.size w w':=by
 obtain ⟨i0,hi,ax,aB,az⟩:=Qlk;obtain ⟨N,hN⟩:∃ N,T.length=N:=⟨_,rfl⟩;have ak:=hM.lt;have aq:=Qaa ak;have ac:=Qaa (PiI.start (T:=T) p hM);have HN:=Qaa hN;have HT:=Qaa hT;have HR:=Qaa hr;have HZ:=Qaa hz;have aC:N<=1000:=by omega
 clear hM hT hr hz ak hN hl;go_enter func29,ntmps29;go_upto_region 2 with fail;generalize ((w.alloc (.cells (Qcz p mb) 52)).alloc (.cells Qa3 25)).alloc (.cells (Qaf (.slice none 0 0) p) 25)=W0 at ac ⊢;obtain ⟨r0,r1,r2,r3,r4⟩:=Qa0 ac.out.x0;go_wp2_with fail;clear r0 r1 r2 r3 r4;refine (Qnx p ac.out.mp HR (HT.out.map _) (by rw [<- HT.out.length_eq,HN.out];omega)).mono ?_;rintro e w1 ⟨vn,rfl,ho,ao⟩;have al:=Qaa (ac.out.past ao);have af:w.heap.size+1+1+1<=W0.heap.size:=(ZZc.1 ac.out.x2).1;obtain ⟨an,cn,rfl⟩:=QdJ ho;have aj:(T.map Sd.nm).length=N:=by rw [List.length_map];exact HN.out
 rw [aj] at ho ⊢;have aA:=Qaa aj;have ah:=Qaa ho;generalize W0.heap.size=lo at ah af;have am:=Qaa af;clear ho ao ac aj af W0;go_wp2
 go_loopw [22] (fun i wr=>∃ (k:Nat) (v:Value),k<=N/\i=.int .i64 k/\Hid (PiI w wr mb n M T p k v)/\Hid (OwnT wr lo (.slice an N cn) (T.map Sd.nm))) (fun i wr=>N - (Go.RowKit.intOf i).toNat)
 case atStart=>exact ⟨0,_,ZZj _,rfl,al,ah⟩
 case round=>
  clear al ah;obtain ⟨k,v,hk,rfl,HI,HO⟩:=hrel;by_cases aF:k<N
  ·have ai:(k:Int)<(N:Int):=by omega
   obtain ⟨s,hs⟩:∃ s,T[k]?=some s:=⟨T[k]'(by have:=HN.out;omega),ZZe _⟩;obtain ⟨gn,rfl,n0⟩:=Qno HO aA (show (T.map Sd.nm)[k]?=some s.nm by rw [List.getElem?_map,hs];rfl);have HS:=Qaa hs;have ay:=HI.out.mp.look (HT.out.mem_iff.1 (ZZn hs)) (HZ.out s (ZZn hs));have p0:=(Qa0 HI.out.x2).1;have l4:=(Qa0 HI.out.x0).2.2.2.2;have NL:Hid ((T.take k).length=k):=Qaa (by rw [List.length_take,HN.out];omega);have OW:Hid (wr.ownsRow (w.heap.size+1+1+1) 56 2 v k (flS (T.take k))):=by have o:=HI.out.o;unfold OwnD at o;rw [NL.out] at o;exact Qaa o
   have aE:=Qaa (Nat.le_trans am (ZZa lo));have aD:w.heap.size+1+1+1<=wr.heap.size:=(ZZc.1 HI.out.x2).1;clear hs;go_wp2_with (at_builtin;refine wpList_append_own _ rfl _ _ 23 rfl (w.heap.size+1+1+1) 56 i0 (.agg #[.string ByteArray.empty,.slice none 0 0]) 2 40 underlying23 hi ax aB az rfl (by decide) _ _ _ rfl (World.ownsRow.alloc OW _) ⟨wr.heap.size,0,none⟩ 1 1 (sdL s) rfl rfl ?c1 ?c2 ?c3 ?c4 ?c5 ?_)
   case c1=>exact QhN
   case c2=>exact Qkv s
   case c3=>unfold maxLen;omega
   case c4=>omega
   case c5=>simp;omega
   intro v' w1 ab aa _;obtain ⟨av,cv,rfl⟩:∃ ar cr,v'=.slice ar (k+1) cr:=Qan ab;have ae:Below wr.heap.size wr (wr.alloc (.cells (QaU s) 56)):=(ZZb _ _).alloc (ZZa _) _;have au:=Qaa (HI.out.step HS aq ae (by rw [NL.out];exact ab) aa);have z2:w1.heap[w.heap.size+1+1]?=some (.cells (Qaf v p) 25 (0,0)):=(aa.block _ (by simp;omega) (fun e=>by have:=(World.ownsRow.lt OW _ e.symm).1;omega)).trans (Qam HI.out.x2 ae);have y0:=QaG z2 0 rfl;have f0:=fzR 0 z2
   have ap:Hid (OwnT (w1.setCell ⟨w.heap.size+1+1,0,none⟩ (.slice av (k+1) cv)) lo (.slice (some ⟨gn,0,none⟩) N cn) (T.map Sd.nm)):=by
    have o1:=HO.out;have aw:=(World.ownsRow.lt o1 gn rfl).1;have o2:OwnT (wr.alloc (.cells (QaU s) 56)) lo (.slice (some ⟨gn,0,none⟩) N cn) (T.map Sd.nm):=World.ownsRow.alloc o1 _;have o3:OwnT w1 lo (.slice (some ⟨gn,0,none⟩) N cn) (T.map Sd.nm):=o2.kept aa (fun j q e=>Ty.ne (QcH o1) (QcH OW) (by decide) j e q)
    exact Qaa (o3.kept (Qah w1 _ 0 _) (fun j q e=>by
     have:=(World.ownsRow.lt o3 j e).1;injection q with q;have:=am.out;omega))
   clear ab aa z2 ae ay p0 l4 n0 OW;go_wp2;go_roundw
   case rel=>exact ⟨k+1,_,by omega,by go_num,au,ap⟩
   case measure=>simp [zI];omega
  ·have ai:¬ (k:Int)<(N:Int):=by omega
   obtain ⟨av,cv,rfl,_⟩:=HI.out.o.form;have NL:(T.take k).length=k:=by rw [List.length_take,HN.out];omega
   rw [NL] at HI;have R1:=HI.out.x1;have R2:=HI.out.x2
   have ad:Hid (OwnD wr w.heap.size (.slice av k cv) T/\Below w.heap.size w wr):=by
    have o:=HI.out.o;rw [List.take_of_length_le (by have:=HN.out;omega)] at o;exact Qaa ⟨o.le (by omega),HI.out.b⟩
   have ag:Hid (∀ j,(Value.slice av k cv).ownBlock=some j->w.heap.size+1+1+1<=j):=fun j q=>(World.ownsRow.lt HI.out.o j q).1;obtain ⟨z0,z1,z2,z3,z4⟩:=Qa0 R2;obtain ⟨y0,y1,y2,y3,y4⟩:=Qa0 R1;obtain ⟨f0,f1,f2,f3,f4⟩:=fA5 R1;clear R1 R2 HI;go_wp2;refine bodyPost_ret (v:=.agg (Qaf (.slice av k cv) p)) (by simp [results,results29,go_sem,y0,y1,y2,y3,y4]) rfl ⟨_,rfl,?_,?_⟩
   ·have st:∀ (W:World) (j:Nat) (u:Value),OwnD W w.heap.size (.slice av k cv) T->OwnD (W.setCell ⟨w.heap.size+1,j,none⟩ u) w.heap.size (.slice av k cv) T:=fun W j u o=>by
     refine World.ownsRow.kept o (Qah W _ j u) ?_
     cases q:(Value.slice av k cv).ownBlock with
     | none=>exact .inl rfl
     | some i=>exact .inr (fun e=>by have:=ag.out i q;injection e with e;omega)
    repeat (refine st _ _ _ ?_)
    exact ad.out.1
   ·repeat (refine Below.setCell ?_ (by simp <;> omega) _)
    exact ad.out.2
structure LcI (w wr:World) (ao:Option Addr) (N ca:Nat) (S:List Sd) (p:Pi) (k:Nat) (v:Value) (M:List Sd):Prop where
 x0:wr.heap[w.heap.size]?=some (.cells (Qaf (.slice ao N ca) p) 25 (0,0))
 x1:wr.heap[w.heap.size+1]?=some (.cells Qa3 25 (0,0))
 x2:wr.heap[w.heap.size+1+1]?=some (.cells (Qaf v p) 25 (0,0))
 r:OwnD wr (w.heap.size+1+1+1) v M
 o:LvO wr (w.heap.size+1+1+1) M
 ky:M.map Sd.key=(S.take k).map Sd.key
 b:Below w.heap.size w wr
variable {s t:Sd}
section
variable {w wr W w1 w3:World} {ao:Option Addr} {N ca k:Nat} {S M:List Sd} {p:Pi} {v v':Value}
theorem LcI.past (h:LcI w wr ao N ca S p k v M) (hb:Below wr.heap.size wr W):LcI w W ao N ca S p k v M:=
 ⟨Qam h.x0 hb,Qam h.x1 hb,Qam h.x2 hb,h.r.past hb,h.o.past hb,h.ky,Qac h.b hb⟩
theorem LcI.len (h:LcI w wr ao N ca S p k v M) (hN:S.length=N) (hk:k<=N):M.length=k:=by
 have:=congrArg List.length h.ky;simp at this;omega
theorem LcI.far (h:LcI w wr ao N ca S p k v M):∀ j,v.ownBlock=some j->w.heap.size+1+1+1<=j:=fun j q=>(World.ownsRow.lt h.r j q).1
theorem LcI.rows (h:LcI w wr ao N ca S p k v M) (hb:Below wr.heap.size wr W) (hg:W.grownBy w3 v.ownBlock):w3.heap[w.heap.size]?=some (.cells (Qaf (.slice ao N ca) p) 25 (0,0))/\w3.heap[w.heap.size+1]?=some (.cells Qa3 25 (0,0))/\w3.heap[w.heap.size+1+1]?=some (.cells (Qaf v p) 25 (0,0)):=by
 have hW:=h.past hb;have aa:∀ {r:Nat} {o:Obj},r<w.heap.size+1+1+1->W.heap[r]?=some o->w3.heap[r]?=some o:=fun {r o} hr q=>(hg.block r (ZZc.1 q).1 (fun e=>by have:=h.far r e.symm;omega)).trans q;exact ⟨aa (by omega) hW.x0,aa (by omega) hW.x1,aa (by omega) hW.x2⟩
theorem LcI.step (h:LcI w wr ao N ca S p k v M) (hs:S[k]?=some s) (e:t.key=s.key) (hb1:Below wr.heap.size wr w1) (hr:OwnC w1 wr.heap.size (slS t) t.L) (ho:CesO w1 wr.heap.size t.L) (hbW:Below w1.heap.size w1 W)
  (hown:w3.ownsRow (w.heap.size+1+1+1) 56 2 v' (M.length+1) (flS M ++ sdL t)) (hg:W.grownBy w3 v.ownBlock):LcI w (w3.setCell ⟨w.heap.size+1+1,0,none⟩ v') ao N ca S p (k+1) v' (M ++ [t]):=by
 have ac:=Qac hb1 hbW;obtain ⟨z0,z1,z2⟩:=h.rows ac hg;have hW:=h.past ac;have ae:w.heap.size+1+1+1<=wr.heap.size:=(ZZc.1 h.x2).1;have ab:∀ {r:Nat},r≠w.heap.size+1+1->(w3.setCell ⟨w.heap.size+1+1,0,none⟩ v').heap[r]?=w3.heap[r]?:=fun {r} hr=>heap_setCell_other _ _ _ _ (by simpa using fun e=>hr e);have aa:=Qah w3 (w.heap.size+1+1) 0 v';have oS:OwnD w3 (w.heap.size+1+1+1) v' (M ++ [t]):=OwnD.add hown;have oL:LvO W (w.heap.size+1+1+1) (M ++ [t]):=(h.o.add hb1 ae hr ho).past hbW;have af:GrownS W w3 (fun k=>v.ownBlock=some k):=⟨hg.os,hg.tape,hg.output,hg.size,fun k hk hn=>hg.block k hk (fun e=>hn e.symm)⟩;have ad:LvO w3 (w.heap.size+1+1+1) (M ++ [t]):=oL.keptS af (fun s hs k q=>hW.r.neB oL hs k q);refine ⟨(ab (by omega)).trans z0,(ab (by omega)).trans z1,ZZl w3 _ 0 _ _ v' z2,?_,ad.grown aa (by omega),Ql8 h.ky hs e,?_⟩
 ·refine World.ownsRow.kept oS aa ?_
  cases q:v'.ownBlock with
  | none=>exact .inl rfl
  | some j=>exact .inr (fun e=>by have:=(World.ownsRow.lt oS j q).1;injection e with e;omega)
 ·exact (hW.b.grown hg hW.b.size (fun j hj=>by have:=h.far j hj;omega)).setCell (by show _<=w.heap.size+1+1;omega) _
theorem LcI.start (hA:True):LcI w (((w.alloc (.cells (Qaf (.slice ao N ca) p) 25)).alloc (.cells Qa3 25)).alloc (.cells (Qaf (.slice none 0 0) p) 25)) ao N ca S p 0 (.slice none 0 0) []:=by
 have a1:∀ (X:World) o,Below X.heap.size X (X.alloc o):=fun X o=>(ZZb _ _).alloc (ZZa _) _;have k0:=ZZk w (.cells (Qaf (.slice ao N ca) p) 25);have k1:=ZZk (w.alloc (.cells (Qaf (.slice ao N ca) p) 25)) (.cells Qa3 25);have k2:=ZZk ((w.alloc (.cells (Qaf (.slice ao N ca) p) 25)).alloc (.cells Qa3 25)) (.cells (Qaf (.slice none 0 0) p) 25);simp only [World.size_alloc] at k1 k2;exact ⟨((a1 _ _).block _ (by simp;omega)).trans (((a1 _ _).block _ (by simp)).trans k0),((a1 _ _).block _ (by simp)).trans k1,k2,OwnD.nil _ _,LvO.nil _ _,by simp,Qac (Qac (a1 _ _) (a1 _ _)) (a1 _ _)⟩
end
structure CpP (w w':World) (S:List Sd) (v:Value) (M:List Sd):Prop where
 r:OwnD w' w.heap.size v M
 o:LvO w' w.heap.size M
 ky:M.map Sd.key=S.map Sd.key
 b:Below w.heap.size w w'
def CpA (w:World) (S:List Sd) (p:Pi) (e:Ending) (w':World):Prop:=∃ v M,e=.returned (.agg (Qaf v p))/\CpP w w' S v M
theorem Qhy (h:w.cell? ⟨b,j,none⟩=some u):b<w.heap.size:=by
 rcases Nat.lt_or_ge b w.heap.size with q | q
 ·exact q
 ·have e:w.heap[b]?=none:=Array.getElem?_eq_none q
  simp [World.cell?,e] at h
theorem QmM (hg:w.grownBy w' r) (hne:some b≠r) (h:w.cell? ⟨b,j,none⟩=some u):w'.cell? ⟨b,j,none⟩=some u:=by
 have hb:b<w.heap.size:=by
  rcases Nat.lt_or_ge b w.heap.size with q | q
  ·exact q
  ·have e:w.heap[b]?=none:=Array.getElem?_eq_none q
   simp [World.cell?,e] at h
 have e:=hg.block b hb hne;simp only [World.cell?] at h ⊢;rw [e];exact h
theorem CpP.sets (far:∀ j,v.ownBlock=some j->w.heap.size+1+1+1<=j) (ho:LvO wr (w.heap.size+1+1+1) M) (h:CpP w wr S v M):CpP w (((((wr.setCell ⟨w.heap.size+1,0,none⟩ v0).setCell ⟨w.heap.size+1,1,none⟩ v1).setCell ⟨w.heap.size+1,2,none⟩ v2).setCell ⟨w.heap.size+1,3,none⟩ v3).setCell ⟨w.heap.size+1,4,none⟩ v4) S v M:=by
 have st:∀ (W:World) (j:Nat) (u:Value),OwnD W w.heap.size v M->OwnD (W.setCell ⟨w.heap.size+1,j,none⟩ u) w.heap.size v M:=fun W j u o=>by
  refine World.ownsRow.kept o (Qah W _ j u) ?_
  cases q:v.ownBlock with
  | none=>exact .inl rfl
  | some i=>exact .inr (fun e=>by have:=far i q;injection e with e;omega)
 have sl:∀ (W:World) (j:Nat) (u:Value),LvO W (w.heap.size+1+1+1) M->LvO (W.setCell ⟨w.heap.size+1,j,none⟩ u) (w.heap.size+1+1+1) M:=fun W j u o=>o.grown (Qah W _ j u) (by omega);refine ⟨?_,LvO.le ?_ (by omega:w.heap.size<=w.heap.size+1+1+1),h.ky,?_⟩
 ·repeat (refine st _ _ _ ?_)
  exact h.r
 ·repeat (refine sl _ _ _ ?_)
  exact ho
 ·repeat (refine Below.setCell ?_ (by show _<=w.heap.size+1;omega) _)
  exact h.b
theorem Qgt (p:Pi) (hI:PpI w ao N S) :
  Calls prog 30 #[.agg (Qaf (.slice ao N ca) p)] w fun e w'=>CpA w S p e w':=by
 obtain ⟨i0,hi,aE,aI,aH⟩:=Qlk;have HI:=Qaa hI;have aN:N<=1048576:=by have:=hI.n;have:=hI.sm.n;omega
 have al:=Qaa (LcI.start (w:=w) (ao:=ao) (N:=N) (ca:=ca) (S:=S) (p:=p) trivial);clear hI;go_enter func30,ntmps30;go_upto_region 3 with fail;generalize ((w.alloc (.cells (Qaf (.slice ao N ca) p) 25)).alloc (.cells Qa3 25)).alloc (.cells (Qaf (.slice none 0 0) p) 25)=W0 at al ⊢;go_wp2
 go_loopw [4] (fun i wr=>∃ (k:Nat) (v:Value) (M:List Sd),k<=N/\i=.int .i64 k/\Hid (LcI w wr ao N ca S p k v M)) (fun i wr=>N - (Go.RowKit.intOf i).toNat)
 case atStart=>exact ⟨0,_,[],ZZj _,rfl,al⟩
 case round=>
  clear al;obtain ⟨k,v,M,hk,rfl,HL⟩:=hrel;by_cases aO:k<N
  ·have aq:(k:Int)<(N:Int):=by omega
   obtain ⟨s,hs⟩:∃ s,S[k]?=some s:=⟨S[k]'(by have:=HI.out.n;omega),ZZe _⟩;obtain ⟨b,aa,e,ad⟩:=HI.out.at'.1 (by have:=HI.out.n;omega);subst e;have HS:=Qaa hs;have hm:=ZZn hs;have HM:=Qaa hm;have aD:=Qaa (HL.out.len HI.out.n hk);have aC:Hid (b<w.heap.size):=Qaa (Qhy (ad k s hs).1);have ab:Hid ((fun W1:World=>W1.heap[w.heap.size]?=some (.cells (Qaf (.slice (some ⟨b,aa,none⟩) N ca) p) 25 (0,0))/\W1.heap[w.heap.size+1+1]?=some (.cells (Qaf v p) 25 (0,0))/\QdW W1 b (aa+k*2) s) wr.drew):=⟨HL.out.x0,HL.out.x2,Qbt (ad k s hs) HL.out.b.drew⟩;have a0:=(Qa0 HL.out.x0).1;clear hs hm;go_upto_region 6 with fail;clear a0;have ah:Hid (LcI w wr.drew (some ⟨b,aa,none⟩) N ca S p k v M):=Qaa (HL.out.past (ZZb _ _).drew);have aK:Hid (Below wr.heap.size wr wr.drew):=(ZZb _ _).drew;refine Qal (fun W1:World=>W1.heap[w.heap.size]?=some (.cells (Qaf (.slice (some ⟨b,aa,none⟩) N ca) p) 25 (0,0))/\W1.heap[w.heap.size+1+1]?=some (.cells (Qaf v p) 25 (0,0))/\QdW W1 b (aa+k*2) s) 19 (by kernel_rfl) ?_;generalize wr.drew=X0 at ah ab aK ⊢;refine tkS 0 (.pointer (some ⟨w.heap.size+1+1,0,none⟩)) ab ?_;refine tkL 1 v ab (fun W hW=>?_) ?_
   ·obtain ⟨s0,s1,s2⟩:=hW
    have c2:=(Qa0 s1).1;go_simp
   refine tkS 2 (.pointer (some ⟨w.heap.size,0,none⟩)) ab ?_;simp only [sX];refine tkL 3 (.slice (some ⟨b,aa,none⟩) N ca) ab (fun W hW=>?_) ?_
   ·obtain ⟨s0,s1,s2⟩:=hW
    have c0:=(Qa0 s0).1;go_simp
   refine tkS 4 (.int .i64 (k:Int)) ab ?_;refine tkS 5 (.pointer (some ⟨b,aa+k*2,none⟩)) ab ?_;simp only [sX];refine tkS 6 (.pointer (some ⟨b,aa+k*2,none⟩)) ab ?_;refine tkL 7 (.string s.nm) ab (fun W hW=>?_) ?_
   ·obtain ⟨s0,s1,s2⟩:=hW
    obtain ⟨e0,e1⟩:=s2;go_simp
   refine tkS 8 (.pointer (some ⟨w.heap.size,0,none⟩)) ab ?_;simp only [sX];refine tkL 9 (.slice (some ⟨b,aa,none⟩) N ca) ab (fun W hW=>?_) ?_
   ·obtain ⟨s0,s1,s2⟩:=hW
    have c0:=(Qa0 s0).1;go_simp
   refine tkS 10 (.int .i64 (k:Int)) ab ?_;refine tkS 11 (.pointer (some ⟨b,aa+k*2,none⟩)) ab ?_;simp only [sX];refine tkS 12 (.pointer (some ⟨b,aa+k*2+1,none⟩)) ab ?_;refine tkL 13 (.slice s.ao s.L.length s.cp) ab (fun W hW=>?_) ?_
   ·obtain ⟨s0,s1,s2⟩:=hW
    obtain ⟨e0,e1⟩:=s2;go_simp
   simp only [sX];refine onE 14 fun K hK=>?_;go_simp;refine (Qbl rfl (HI.out.sm.l s HM) (HI.out.sm.sm s HM) (fun c hc=>(HI.out.ok s HM c hc).2.2) (QaD (HI.out.at'.2 s HM) ah.out.b)).mono ?_;rintro e w1 ⟨v1,L1,rfl,ap,aA,aw,ak,_⟩;obtain ⟨a1,c1,rfl,_⟩:=ap.form;have aJ:=Qaa ap;have aG:=Qaa aA;have aM:Hid (Sd.key ⟨s.nm,L1,a1,c1⟩=s.key):=by show (s.nm,L1.map Ce.key)=(s.nm,s.L.map Ce.key);rw [aw]
   have aL:=Qaa ak;have aj:=Qaa (ah.out.past ak);have an:Hid ((fun W1:World=>W1.heap[w.heap.size]?=some (.cells (Qaf (.slice (some ⟨b,aa,none⟩) N ca) p) 25 (0,0))/\W1.heap[w.heap.size+1+1]?=some (.cells (Qaf v p) 25 (0,0))/\QdW W1 b (aa+k*2) s) w1):=⟨aj.out.x0,aj.out.x2,Qbt ab.out.2.2 ak⟩;clear ap aA aw ak;dsimp only;refine gK hK an.out ?_
   try simp only [sX]
   refine tkS 15 (.agg (QaU ⟨s.nm,L1,a1,c1⟩)) an ?_;simp only [sX];refine onE 16 fun K hK=>?_;go_simp;have ai:Below w1.heap.size w1 (w1.alloc (.cells (QaU ⟨s.nm,L1,a1,c1⟩) 56)):=(ZZb _ _).alloc (ZZa _) _;have az:=Qaa ai;have af:=Qaa (aj.out.past ai);have ay:Hid ((fun W1:World=>W1.heap[w.heap.size]?=some (.cells (Qaf (.slice (some ⟨b,aa,none⟩) N ca) p) 25 (0,0))/\W1.heap[w.heap.size+1+1]?=some (.cells (Qaf v p) 25 (0,0))/\QdW W1 b (aa+k*2) s) (w1.alloc (.cells (QaU ⟨s.nm,L1,a1,c1⟩) 56))):=⟨af.out.x0,af.out.x2,Qbt an.out.2.2 ai⟩;refine gK hK ay.out ?_;clear ai
   try simp only [sX]
   refine onE 17 fun K hK=>?_;rw [if_pos (by rfl)];have ml:=aD.out;have ow:=af.out.r;unfold OwnD at ow;have ax:w.heap.size+1+1+1<=(w1.alloc (.cells (QaU ⟨s.nm,L1,a1,c1⟩) 56)).heap.size:=(ZZc.1 af.out.x2).1;refine wp_append_own _ (.tmp 15) (.tmp 30) 23 rfl (w.heap.size+1+1+1) 56 i0 (.agg #[.string ByteArray.empty,.slice none 0 0]) 2 40 underlying23 hi aE aI aH rfl (by decide) _ _ _ rfl ow ⟨w1.heap.size,0,none⟩ 1 1 (sdL ⟨s.nm,L1,a1,c1⟩) rfl rfl QhN (Qkv _) (by unfold maxLen;omega) (by omega) ax ?_;intro v8 w8 ae ac _;obtain ⟨a8,c8,rfl⟩:∃ ar cr,v8=.slice ar (M.length+1) cr:=Qan ae;obtain ⟨g0,g1,g2⟩:=aj.out.rows az ac;have HF:=Qaa (ah.out.step (t:=⟨s.nm,L1,a1,c1⟩) HS aM aL aJ aG az ae ac)
   have aB:Hid ((fun W1:World=>W1.heap[w.heap.size]?=some (.cells (Qaf (.slice (some ⟨b,aa,none⟩) N ca) p) 25 (0,0))/\W1.heap[w.heap.size+1+1]?=some (.cells (Qaf v p) 25 (0,0))/\QdW W1 b (aa+k*2) s) w8):=⟨g0,g2,by
    have q:=ay.out.2.2;have qb:b<w.heap.size:=aC.out;have far:=af.out.far;have ne:some b≠v.ownBlock:=fun e=>by have:=far b e.symm;omega
    have kp:∀ j u,(w1.alloc (.cells (QaU ⟨s.nm,L1,a1,c1⟩) 56)).cell? ⟨b,j,none⟩=some u->w8.cell? ⟨b,j,none⟩=some u:=fun j u h=>QmM ac ne h;exact ⟨kp _ _ q.1,kp _ _ q.2⟩⟩
   have ag:=Qaa g2;clear ae ac ow ml ax g0 g1 g2;refine gK hK aB.out ?_
   try simp only [sX]
   refine tkS 18 (.pointer (some ⟨w.heap.size+1+1,0,none⟩)) aB ?_;simp only [sX];have q0:=QaG ag 0 rfl;have f0:=fzR 0 ag;refine onE 19 fun K hK=>?_;go_simp;clear q0 f0;refine hK.out _ _ (fun h=>absurd rfl h) ?_
   try simp only [sX]
   refine dnE ?_ _;go_wp2;go_roundw
   case rel=>exact ⟨k+1,_,_,by omega,by first | rfl | go_num,HF⟩
   case measure=>simp [zI];omega
  ·have aq:¬ (k:Int)<(N:Int):=by omega
   obtain ⟨av,cv,rfl,_⟩:=HL.out.r.form;have R1:=HL.out.x1;have R2:=HL.out.x2
   have au:Hid (CpP w wr S (.slice av M.length cv) M):=by
    have ky:=HL.out.ky;rw [List.take_of_length_le (by have:=HI.out.n;omega)] at ky;exact Qaa ⟨HL.out.r.le (by omega),HL.out.o.le (by omega),ky,HL.out.b⟩
   have am:=Qaa HL.out.far;have aF:=Qaa HL.out.o;obtain ⟨z0,z1,z2,z3,z4⟩:=Qa0 R2;obtain ⟨y0,y1,y2,y3,y4⟩:=Qa0 R1;have a0:=(Qa0 HL.out.x0).1;obtain ⟨f0,f1,f2,f3,f4⟩:=fA5 R1;clear R1 R2 HL;go_wp2;refine bodyPost_ret (v:=.agg (Qaf (.slice av M.length cv) p)) (by simp [results,results30,go_sem,y0,y1,y2,y3,y4]) rfl ⟨_,M,rfl,?_⟩;exact CpP.sets am aF au
noncomputable def Qco (S:List Sd) (p:Pi) (n:Int):Pi:=if QbD S p=true/\0<=n/\n<=1000000000 - p.c then { p with c:=p.c+n } else p
theorem Qqt {A:Addr} (hA:QeQ w (some A) S):∀ j z,(flS S)[j]?=some z->w.cell? (A.add j)=some z:=fun j z hz=>by
 have hj:=(ZZd.1 hz).1;rw [QkF] at hj;obtain ⟨b,off,e,hcell⟩:=hA.1 (by omega)
 cases e
 obtain ⟨x,hx⟩:∃ x,S[j / 2]?=some x:=⟨S[j / 2]'(by omega),ZZe (by omega)⟩;have h1:=QpG S (j / 2) x (j % 2) (by omega) hx;rw [show j / 2*2+j % 2=j by omega,hz] at h1;rw [Addr.add_lit,show off+j=off+j / 2*2+j % 2 by omega];obtain ⟨c0,c1⟩:=hcell (j / 2) x hx;rcases (show j % 2=0∨j % 2=1 by omega) with q | q
 ·rw [q] at h1 ⊢; exact c0.trans h1.symm
 ·rw [q] at h1 ⊢; exact c1.trans h1.symm
theorem QqH (M:List Sd):∀ u∈flS M,u.oneCell'=true:=fun u hu=>by
 obtain ⟨s,_,hs⟩:=List.mem_flatMap.1 hu;exact Qkv s u hs
theorem Qqd {L:List Sd} (c n:Nat) (hn:L.length=n) (hl:n<=1048576) (hA:QeQ w ao L) :
  Calls prog 62 #[.slice ao n c] w fun e w'=>∃ v,e=.returned v/\OwnD w' w.heap.size v L/\Below w.heap.size w w':=by
 obtain ⟨i0,hi,ae,af,ad⟩:=Qlk
 cases ao with
 | none=>
  have h0:n=0:=by
   rcases Nat.eq_zero_or_pos n with h | h
   ·exact h
   ·obtain ⟨b,ah,e,_⟩:=hA.1 (by omega);cases e
  subst h0;have hq:=fun W=>Lib.run_eql_slice_nil (P:=prog) W 23 56 none 0 c 0 0 underlying23;have HN:Hid (L=[]):=Qaa (List.eq_nil_of_length_eq_zero hn);clear hA hn;go_enter func62,ntmps62;go_wp2;go_ret;exact ⟨_,rfl,by rw [HN.out];exact OwnD.nil _ _,Below.refl _ _⟩
 | some A=>
  have ag:=Qaa (Qqt hA);have hq:=fun W=>Lib.run_eql_slice_nil (P:=prog) W 23 56 (some A) n c 0 0 underlying23;have HN:=Qaa hn;clear hA hn;go_enter func62,ntmps62;go_wp2_with (at_builtin;refine wpList_append_own _ rfl (.tmp 5) (.tmp 6) 23 rfl w.heap.size 56 i0 (.agg #[.string ByteArray.empty,.slice none 0 0]) 2 40 underlying23 hi ae af ad rfl (by decide) _ _ _ rfl (World.ownsRow_made _ #[] 0 (Nat.le_refl _) (Nat.zero_le _) rfl) A n c (flS L) rfl (by rw [QkF,HN.out]) (fun j z hz=>by have:=ag.out j z hz;exact Qcc this _) (QqH _) (by unfold maxLen;omega) (by omega) (by simp) ?_;intro v1 w1 ab aa ac;simp only [Nat.zero_add,List.nil_append] at ab;have O1:=Qaa ab;have B1:=Qaa (((Below.refl _ _).alloc (Nat.le_refl _) _).grown aa (by simp) (fun j hj=>by cases hj;exact Nat.le_refl _));clear ab aa ac);go_ret;exact ⟨_,rfl,by unfold OwnD;rw [HN.out];exact O1.out,B1⟩
structure CqI (w wr:World) (S:List Sd) (p:Pi) (k:Nat) (v:Value) (M:List Sd):Prop where
 x0:wr.heap[w.heap.size]?=some (.cells (Qaf v p) 25 (0,0))
 x1:wr.heap[w.heap.size+1]?=some (.cells Qa3 25 (0,0))
 r:OwnD wr (w.heap.size+1+1) v M
 o:LvO wr (w.heap.size+1+1) (M.take k)
 dr:M.drop k=S.drop k
 ky:M.map Sd.key=S.map Sd.key
 b:Below w.heap.size w wr
variable {p:Pi}
theorem CqI.past (h:CqI w wr S p k v M) (hb:Below wr.heap.size wr W):CqI w W S p k v M:=
 ⟨Qam h.x0 hb,Qam h.x1 hb,h.r.past hb,h.o.past hb,h.dr,h.ky,Qac h.b hb⟩
theorem CqI.len (h:CqI w wr S p k v M):M.length=S.length:=by
 have:=congrArg List.length h.ky;rw [List.length_map,List.length_map] at this;exact this
theorem CqI.at (h:CqI w wr S p k v M) (hs:S[k]?=some s):M[k]?=some s:=by
 have e:(M.drop k)[0]?=(S.drop k)[0]?:=by rw [h.dr]
 rw [List.getElem?_drop,List.getElem?_drop,Nat.add_zero] at e;exact e.trans hs
theorem CqI.set {w6:World} {g:Nat} (h:CqI w wr S p k (.slice (some ⟨g,0,none⟩) n cp) M) (hn:M.length=n) (hs:S[k]?=some s) (e:t.key=s.key) (hb6:Below wr.heap.size wr w6) (hr:OwnC w6 wr.heap.size (slS t) t.L) (ho:CesO w6 wr.heap.size t.L) :
  CqI w ((w6.setCell ⟨g,k*2,none⟩ (.string t.nm)).setCell ⟨g,k*2+1,none⟩ (slS t)) S p (k+1) (.slice (some ⟨g,0,none⟩) n cp) (M.set k t):=by
 have h6:=h.past hb6;have ab:=h.at hs;have hk:=(ZZd.1 ab).1;have hg:w.heap.size+1+1<=g:=(World.ownsRow.lt h.r g rfl).1;have ac:t.nm=s.nm:=(Qd3 e).1;have aa:w6.grownBy ((w6.setCell ⟨g,k*2,none⟩ (.string t.nm)).setCell ⟨g,k*2+1,none⟩ (slS t)) (some g):=(Qah w6 g _ _).trans (Qah _ g _ _);have ae:GrownS w6 ((w6.setCell ⟨g,k*2,none⟩ (.string t.nm)).setCell ⟨g,k*2+1,none⟩ (slS t)) (fun k=>some g=some k):=⟨aa.os,aa.tape,aa.output,aa.size,fun k hk hn=>aa.block k hk (fun e=>hn e.symm)⟩;have r1:=h6.r.put1 (j:=0) (s:=s) (s':=s) (u:=.string t.nm) hn ab (by omega) (by rw [ac];rfl)
 have e1:M.set k s=M:=by
  have:=(ZZd.1 ab).2;rw [<- this];exact List.set_getElem_self _
 rw [e1] at r1;have r2:=r1.put1 (j:=1) (s:=s) (s':=t) (u:=slS t) hn ab (by omega) (by show [Value.string t.nm,_]=[Value.string s.nm,_];rw [ac]);have oL:LvO w6 (w.heap.size+1+1) (M.take k ++ [t]):=h.o.add hb6 (Nat.le_trans (by have:=(ZZc.1 h.x1).1;omega) (ZZa wr.heap.size)) hr ho;have af:=oL.keptS ae (fun s hs k q e=>h6.r.neB oL hs k q (by rw [<- e];rfl));have ad:∀ {r:Nat} {o:Obj},r<w.heap.size+1+1->w6.heap[r]?=some o->((w6.setCell ⟨g,k*2,none⟩ (.string t.nm)).setCell ⟨g,k*2+1,none⟩ (slS t)).heap[r]?=some o:=fun {r o} hr q=>(aa.block r (ZZc.1 q).1 (fun e=>by injection e with e;omega)).trans q;refine ⟨ad (by omega) h6.x0,ad (by omega) h6.x1,r2,?_,?_,?_,h6.b.grown aa h6.b.size (fun j hj=>by injection hj with hj;omega)⟩
 ·have e2:(M.set k t).take (k+1)=M.take k ++ [t]:=by
   rw [List.take_set,List.take_add_one,ab,List.set_append_right _ _ (by simp;omega)];simp [List.length_take,Nat.min_eq_left (Nat.le_of_lt hk)]
  rw [e2];exact af
 ·rw [List.drop_set_of_lt (by omega)]
  have:=congrArg (List.drop 1) h.dr;rw [List.drop_drop,List.drop_drop] at this;exact this
 ·rw [List.map_set,e]
  have:(M.map Sd.key)[k]?=some s.key:=by rw [List.getElem?_map,ab];rfl
  rw [show (M.map Sd.key).set k s.key=M.map Sd.key by
   have q:=(ZZd.1 this).2;rw [<- q];exact List.set_getElem_self _]
  exact h.ky
theorem CpP.sets2 (far:∀ j,v.ownBlock=some j->w.heap.size+1+1<=j) (ho:LvO wr (w.heap.size+1+1) M) (h:CpP w wr S v M):CpP w (((((wr.setCell ⟨w.heap.size+1,0,none⟩ v0).setCell ⟨w.heap.size+1,1,none⟩ v1).setCell ⟨w.heap.size+1,2,none⟩ v2).setCell ⟨w.heap.size+1,3,none⟩ v3).setCell ⟨w.heap.size+1,4,none⟩ v4) S v M:=by
 have st:∀ (W:World) (j:Nat) (u:Value),OwnD W w.heap.size v M->OwnD (W.setCell ⟨w.heap.size+1,j,none⟩ u) w.heap.size v M:=fun W j u o=>by
  refine World.ownsRow.kept o (Qah W _ j u) ?_
  cases q:v.ownBlock with
  | none=>exact .inl rfl
  | some i=>exact .inr (fun e=>by have:=far i q;injection e with e;omega)
 have sl:∀ (W:World) (j:Nat) (u:Value),LvO W (w.heap.size+1+1) M->LvO (W.setCell ⟨w.heap.size+1,j,none⟩ u) (w.heap.size+1+1) M:=fun W j u o=>o.grown (Qah W _ j u) (by omega);refine ⟨?_,LvO.le ?_ (by omega:w.heap.size<=w.heap.size+1+1),h.ky,?_⟩
 ·repeat (refine st _ _ _ ?_)
  exact h.r
 ·repeat (refine sl _ _ _ ?_)
  exact ho
 ·repeat (refine Below.setCell ?_ (by show _<=w.heap.size+1;omega) _)
  exact h.b
theorem QmE (p:Pi) (hI:PpI w ao N S) :
  Calls prog 26 #[.agg (Qaf (.slice ao N ca) p)] w fun e w'=>CpA w S p e w':=by
 have HI:=Qaa hI;have ax:N<=1048576:=by have:=hI.n;have:=hI.sm.n;omega
 have a1:∀ (X:World) o,Below X.heap.size X (X.alloc o):=fun X o=>(ZZb _ _).alloc (ZZa _) _;have k0:=ZZk w (.cells (Qaf (.slice ao N ca) p) 25);have k1:=ZZk (w.alloc (.cells (Qaf (.slice ao N ca) p) 25)) (.cells Qa3 25);simp only [World.size_alloc] at k1;have ac:=Qaa (Qam k0 (a1 _ (.cells Qa3 25)));have af:=Qaa k1;have an:=Qaa (Qac (a1 w (.cells (Qaf (.slice ao N ca) p) 25)) (a1 _ (.cells Qa3 25)));clear hI a1 k0 k1;go_enter func26,ntmps26;go_upto_region 1 with fail;generalize (w.alloc (.cells (Qaf (.slice ao N ca) p) 25)).alloc (.cells Qa3 25)=W0 at ac af an ⊢;have c0:=(Qa0 ac).1;go_wp2_with fail;clear c0;refine (Qqd ca N HI.out.n ax (QaR HI.out.at' an)).mono ?_;rintro e w1 ⟨v,rfl,ak,ag⟩;have Y0:=Qam ac ag;have Y1:=Qam af ag;have ap:w.heap.size+1+1<=W0.heap.size:=(ZZc.1 af).1;have ad:=ak.le ap;obtain ⟨av,cv,rfl,_⟩:=ak.form;rw [HI.out.n] at ad ⊢;have c0:=(Qa0 Y0).1;have f0:=fzR 0 Y0
 have HQ:Hid (CqI w (w1.setCell ⟨w.heap.size,0,none⟩ (.slice av N cv)) S p 0 (.slice av N cv) S):=by
  have au:=Qah w1 w.heap.size 0 (.slice av N cv);have az:=Qac an ag;refine Qaa ⟨heap_setCell_same w1 _ 0 _ _ _ Y0,(au.block _ (Array.getElem?_eq_some_iff.1 Y1).1 (fun e=>by injection e with e;omega)).trans Y1,?_,by rw [List.take_zero];exact LvO.nil _ _,rfl,rfl,az.setCell (Nat.le_refl _) _⟩;refine World.ownsRow.kept ad au ?_
  cases q:(Value.slice av N cv).ownBlock with
  | none=>exact .inl rfl
  | some j=>exact .inr (fun e=>by have:=(World.ownsRow.lt ad j q).1;injection e with e;omega)
 clear ak ad ag Y0 Y1 ap ac af;go_upto_region 2 with fail;clear c0 f0;generalize w1.setCell ⟨w.heap.size,0,none⟩ (.slice av N cv)=W1 at HQ ⊢;have c0:=(Qa0 HQ.out.x0).1;go_wp2;clear c0
 go_loopw [11] (fun i wr=>∃ (k:Nat) (M:List Sd),k<=N/\i=.int .i64 k/\Hid (CqI w wr S p k (.slice av N cv) M)) (fun i wr=>N - (Go.RowKit.intOf i).toNat)
 case atStart=>exact ⟨0,S,ZZj _,rfl,HQ⟩
 case round=>
  clear HQ;obtain ⟨k,M,hk,rfl,HQ⟩:=hrel;by_cases aA:k<N
  ·have al:(k:Int)<(N:Int):=by omega
   obtain ⟨s,hs⟩:∃ s,S[k]?=some s:=⟨S[k]'(by have:=HI.out.n;omega),ZZe _⟩;have am:M.length=N:=HQ.out.len.trans HI.out.n;obtain ⟨gg,rfl⟩:=QjN HQ.out.r (by omega);have HS:=Qaa hs;have HM:=Qaa (ZZn hs);have ay:=Qaa am
   have HX:Hid (∀ W,Below wr.heap.size wr W->QdW W gg (k*2) s/\(∀ j,W.frozen? ⟨gg,j,none⟩=false)/\W.cell? ⟨w.heap.size,0,none⟩=some (.slice (some ⟨gg,0,none⟩) N cv)):=fun W hW=>by
    have h1:=HQ.out.past hW;obtain ⟨q1,q2⟩:=Qhu h1.r am (h1.at hs);exact ⟨q1,q2,(Qa0 h1.x0).1⟩
   clear hs am;go_upto_region 5 with fail;have aa:(fun W=>Below wr.heap.size wr W) wr.drew:=(ZZb _ _).drew;refine Qal (fun W=>Below wr.heap.size wr W) 10 (by kernel_rfl) ?_;refine tkS 0 (.pointer (some ⟨w.heap.size,0,none⟩)) aa ?_;refine tkL 1 (.slice (some ⟨gg,0,none⟩) N cv) aa (fun W hW=>?_) ?_
   ·obtain ⟨⟨e0,e1⟩,e2,e3⟩:=HX.out W hW
    clear hW;go_simp
   refine tkS 2 (.int .i64 (k:Int)) aa ?_;simp only [sX];refine tkS 3 (.pointer (some ⟨w.heap.size,0,none⟩)) aa ?_;refine tkL 4 (.slice (some ⟨gg,0,none⟩) N cv) aa (fun W hW=>?_) ?_
   ·obtain ⟨⟨e0,e1⟩,e2,e3⟩:=HX.out W hW
    clear hW;go_simp
   refine tkS 5 (.int .i64 (k:Int)) aa ?_;simp only [sX];refine tkS 6 (.pointer (some ⟨gg,k*2,none⟩)) aa ?_;refine tkL 7 (.agg (QaU s)) aa (fun W hW=>?_) ?_
   ·obtain ⟨⟨e0,e1⟩,e2,e3⟩:=HX.out W hW
    clear hW;go_simp
   simp only [sX];refine onE 8 fun K hK=>?_;go_simp;refine (QgP s (HI.out.sm.l s HM) (HI.out.sm.sm s HM) (fun c hc=>(HI.out.ok s HM c hc).2.2) (QaD (HI.out.at'.2 s HM) (Qac HQ.out.b (aa:Below wr.heap.size wr wr.drew)))).mono ?_;rintro e w6 ⟨bo,cp,M6,rfl,ah,aq,ai,aw⟩;have ae:Hid (Below wr.heap.size wr w6):=(aa:Below wr.heap.size wr wr.drew).trans (aw.mono (ZZa _));have ar:=Qdm ai;rw [<- ar] at ah ⊢;have HF:=Qaa (HQ.out.set (t:=⟨s.nm,M6,bo,cp⟩) ay HS (by show (s.nm,M6.map Ce.key)=(s.nm,s.L.map Ce.key);rw [ai]) ae ah aq);clear ah aq ai aw ar;dsimp only;refine gK hK ae.out ?_
   try simp only [sX]
   refine tkS 9 (.pointer (some ⟨gg,k*2,none⟩)) ae ?_;simp only [sX];obtain ⟨⟨e0,e1⟩,e2,e3⟩:=HX.out w6 ae;have f0:=e2 (k*2);have f1:=e2 (k*2+1);clear e2;refine onE 10 fun K hK=>?_;go_simp;clear e0 e1 e3 f0 f1;refine hK.out _ _ (fun h=>absurd rfl h) ?_
   try simp only [sX]
   refine dnE ?_ _;go_wp2;go_roundw
   case rel=>exact ⟨k+1,_,by omega,by first | rfl | go_num,HF⟩
   case measure=>simp [zI];omega
  ·have al:¬ (k:Int)<(N:Int):=by omega
   have R1:=HQ.out.x1;have R0:=HQ.out.x0
   have ab:Hid (CpP w wr S (.slice av N cv) M/\LvO wr (w.heap.size+1+1) M):=by
    have o:=HQ.out.o;rw [List.take_of_length_le (by rw [HQ.out.len,HI.out.n];omega)] at o;exact Qaa ⟨⟨HQ.out.r.le (by omega),o.le (by omega),HQ.out.ky,HQ.out.b⟩,o⟩
   have aj:Hid (∀ j,(Value.slice av N cv).ownBlock=some j->w.heap.size+1+1<=j):=fun j q=>(World.ownsRow.lt HQ.out.r j q).1;obtain ⟨z0,z1,z2,z3,z4⟩:=Qa0 R0;obtain ⟨y0,y1,y2,y3,y4⟩:=Qa0 R1;obtain ⟨f0,f1,f2,f3,f4⟩:=fA5 R1;clear R1 R0 HQ;go_wp2;refine bodyPost_ret (v:=.agg (Qaf (.slice av N cv) p)) (by simp [results,results26,go_sem,y0,y1,y2,y3,y4]) rfl ⟨_,M,rfl,?_⟩;exact CpP.sets2 aj ab.out.2 ab.out.1
theorem Qpm (h:QbD S p=true):(1<=p.a/\p.a<=1000)/\(0<=p.b/\p.b<=1000)/\(0<=p.c/\p.c<=1000000000)/\0<=p.d/\p.d<=1000000000:=by
 unfold QbD at h;simp only [Bool.and_eq_true] at h;have h1:=h.1;unfold QgS inB at h1;simp only [Bool.and_eq_true,decide_eq_true_eq] at h1;omega
theorem Qlx {n:Int} (h:QbD S p=true) (h0:0<=n) (h1:n<=1000000000 - p.c):Qco S p n={ p with c:=p.c+n }:=by unfold Qco;rw [if_pos ⟨h,h0,h1⟩]
theorem Qff {n:Int} (h:QbD S p=false∨¬ 0<=n∨¬ n<=1000000000 - p.c):Qco S p n=p:=by
 unfold Qco;rw [if_neg];rintro ⟨a,b,c⟩;rcases h with h | h | h
 ·rw [h] at a;cases a
 ·exact h b
 ·exact h c
theorem CpP.from (h:CpP W w' S v M) (hb:Below w.heap.size w W):CpP w w' S v M:=⟨h.r.le hb.size,h.o.le hb.size,h.ky,Qac hb h.b⟩
theorem CpP.past (h:CpP w w' S v M) (hb:Below w'.heap.size w' W):CpP w W S v M:=⟨h.r.past hb,h.o.past hb,h.ky,Qac h.b hb⟩
def TkQ (w:World) (L mb:Nat) (p:Pi) (n:Int) (w':World):Prop:=∃ q:Pi,w'.heap[L]?=some (.cells (Qcz q mb) 52 (0,0))/\w.grownBy w' (some L)/\(0<=n->n<=1000000000 - p.c->q={ p with c:=p.c+n })/\(¬ 0<=n∨¬ n<=1000000000 - p.c->q=p)
theorem c_tick {L:Nat} (p:Pi) (n:Int) (hc:0<=p.c/\p.c<=1000000000) (hL:w.heap[L]?=some (.cells (Qcz p mb) 52 (0,0))) :
  Calls prog 28 #[.pointer (some ⟨L,0,none⟩),.int .i64 n] w fun e w'=>e=.returned (.tuple #[])/\TkQ w L mb p n w':=by
 obtain ⟨x0,x1,x2,x3,x4⟩:=Qa0 hL;have f2:=fzR 2 hL;have aa:IntKind.i64.wrap (1000000000 - p.c)=1000000000 - p.c:=ZZi _ ⟨by omega,by omega⟩;by_cases h0:0<=n
 ·have d0:decide (0<=n)=true:=ZZh h0
  by_cases h1:n<=1000000000 - p.c
  ·have d1:decide (n<=1000000000 - p.c)=true:=ZZh h1
   have ab:IntKind.i64.wrap (p.c+n)=p.c+n:=ZZi _ ⟨by omega,by omega⟩;have HF:Hid (TkQ w L mb p n (w.setCell ⟨L,2,none⟩ (.int .i64 (p.c+n)))):=Qaa ⟨{ p with c:=p.c+n },ZZl w L 2 _ _ _ hL,Qah w L 2 _,fun _ _=>rfl,fun h=>by rcases h with h | h <;> exact absurd (by assumption) h⟩;clear hL hc;go_enter func28,ntmps28;go_wp2;exact bodyPost_end (v:=.tuple #[]) (by simp [results,results28,go_sem]) rfl ⟨rfl,HF⟩
  ·have d1:decide (n<=1000000000 - p.c)=false:=ZZg h1
   have HF:Hid (TkQ w L mb p n w):=Qaa ⟨p,hL,World.grownBy.refl _ _,fun _ h=>absurd h h1,fun _=>rfl⟩;clear hL hc;go_enter func28,ntmps28;go_wp2;exact bodyPost_end (v:=.tuple #[]) (by simp [results,results28,go_sem]) rfl ⟨rfl,HF⟩
 ·have d0:decide (0<=n)=false:=ZZg h0
  have HF:Hid (TkQ w L mb p n w):=Qaa ⟨p,hL,World.grownBy.refl _ _,fun h=>absurd h h0,fun _=>rfl⟩;clear hL hc;go_enter func28,ntmps28;go_wp2;exact bodyPost_end (v:=.tuple #[]) (by simp [results,results28,go_sem]) rfl ⟨rfl,HF⟩
theorem QtM (h:QdU S=true):QdP (S.map Sd.nm):=by
 have aa:Qaj (S.map Sd.nm)=true:=(Bool.and_eq_true_iff.1 (by unfold QdU at h;exact h)).1;refine List.pairwise_iff_getElem.2 (fun i j hi hj hij=>?_);have n1:(S.map Sd.nm)[i]?=some (S.map Sd.nm)[i]:=ZZe hi;have n2:(S.map Sd.nm)[i+(j - i - 1)+1]?=some (S.map Sd.nm)[j]:=by rw [show i+(j - i - 1)+1=j by omega];exact ZZe hj
 exact QcD aa n1 (j - i - 1) n2
theorem CpP.fin {W0 w1:World} (h:CpP W0 w1 S v M) (hT:Below w.heap.size w W0) (hlo:w.heap.size+1+1<=W0.heap.size) (hb:Below w1.heap.size w1 W):CpP w W S v M/\LvO W (w.heap.size+1+1) M/\∀ j,v.ownBlock=some j->w.heap.size+1+1<=j:=
 ⟨(h.past hb).from hT,((h.past hb).o.le hlo),fun j q=>Nat.le_trans hlo (World.ownsRow.lt h.r j q).1⟩
theorem Qfk (p:Pi) (n:Int) (hI:PpI w ao N S) :
  Calls prog 7 #[.agg (Qaf (.slice ao N ca) p),.int .i64 n] w fun e w'=>CpA w S (Qco S p n) e w':=by
 have HI:=Qaa hI;have a1:∀ (X:World) o,Below X.heap.size X (X.alloc o):=fun X o=>(ZZb _ _).alloc (ZZa _) _;have k0:=ZZk w (.cells (Qaf (.slice ao N ca) p) 25);have k1:=ZZk (w.alloc (.cells (Qaf (.slice ao N ca) p) 25)) (.cells Qa3 25);simp only [World.size_alloc] at k1;have an:=Qaa (Qam k0 (a1 _ (.cells Qa3 25)));have ap:=Qaa k1;have aq:=Qaa (Qac (a1 w (.cells (Qaf (.slice ao N ca) p) 25)) (a1 _ (.cells Qa3 25)));clear hI a1 k0 k1;go_enter func7,ntmps7;go_upto_region 1 with fail;generalize (w.alloc (.cells (Qaf (.slice ao N ca) p) 25)).alloc (.cells Qa3 25)=W0 at an ap aq ⊢;have ax:w.heap.size+1+1<=W0.heap.size:=(ZZc.1 ap).1;have ay:=Qaa ax;clear ax;obtain ⟨x0,x1,x2,x3,x4⟩:=Qa0 an;go_wp2_with fail;clear x0 x1 x2 x3 x4;refine (Qgt p (HI.out.past aq)).mono ?_;rintro e w1 ⟨v,M,rfl,hC⟩;obtain ⟨av,cv,rfl,_⟩:=hC.r.form;have al:Below w1.heap.size w1 (w1.alloc (.cells (Qaf (.slice av M.length cv) p) 25)):=(ZZb _ _).alloc (ZZa _) _;have HC:=Qaa hC;have au:=Qaa al;have HY:=Qaa (ZZk w1 (.cells (Qaf (.slice av M.length cv) p) 25));have ae:=Qaa (Qam (Qam an hC.b) al);have aj:=Qaa (Qam (Qam ap hC.b) al);have ar:=Qaa (Qac (Qac aq hC.b) al);clear hC al an ap;go_upto_region 2 with fail;generalize w1.alloc (.cells (Qaf (.slice av M.length cv) p) 25)=W1 at au HY ae aj ar ⊢;obtain ⟨x0,x1,x2,x3,x4⟩:=Qa0 ae;go_wp2_with fail;clear x0 x1 x2 x3 x4;refine (QbK p HI.out.n HI.out.sm HI.out.ok (QaR HI.out.at' ar)).mono ?_;rintro e w2 ⟨rfl,am⟩;have ak:=Qaa (Qam HY am);have ad:=Qaa (Qam ae am);have ab:=Qaa (Qam aj am);have aa:=Qaa (Qac au am);clear am HY ae aj ar au;have ag:Hid (∀ (W:World) (q:Pi),Below w1.heap.size w1 W->Qco S p n=q->(CpP w W S (.slice av M.length cv) M/\LvO W (w.heap.size+1+1) M/\∀ j,(Value.slice av M.length cv).ownBlock=some j->w.heap.size+1+1<=j)/\Qco S p n=q):=fun W q hb e=>⟨HC.out.fin aq ay hb,e⟩;obtain ⟨x0,x1,x2,x3,x4⟩:=Qa0 ad;obtain ⟨y0,y1,y2,y3,y4⟩:=Qa0 ab;obtain ⟨z0,z1,z2,z3,z4⟩:=Qa0 ak;obtain ⟨f0,f1,f2,f3,f4⟩:=fA5 ab;have g3:=fzR 3 ak
 cases hp:QbD S p with
 | false=>
  obtain ⟨E1,E2⟩:=ag.out w2 p aa (Qff (.inl hp));have ac:=Qaa E1;have ai:=Qaa E2;clear E1 E2 ag ak ad ab aa hp;go_wp2;refine bodyPost_ret (v:=.agg (Qaf (.slice av M.length cv) p)) (by simp [results,results7,go_sem,y0,y1,y2,y3,y4]) rfl ⟨.slice av M.length cv,M,by rw [ai.out],?_⟩;exact CpP.sets2 ac.out.2.2 ac.out.2.1 ac.out.1
 | true=>
  have ah:=(Qpm hp).2.2.1;have aB:IntKind.i64.wrap (1000000000 - p.c)=1000000000 - p.c:=ZZi _ ⟨by omega,by omega⟩;by_cases h0:0<=n
  ·have d0:decide (0<=n)=true:=ZZh h0
   by_cases h1:n<=1000000000 - p.c
   ·have d1:decide (n<=1000000000 - p.c)=true:=ZZh h1
    have az:IntKind.i64.wrap (p.c+n)=p.c+n:=ZZi _ ⟨by omega,by omega⟩;obtain ⟨E1,E2⟩:=ag.out (w2.setCell ⟨w1.heap.size,3,none⟩ (.int .i64 (p.c+n))) { p with c:=p.c+n } (aa.out.setCell (ZZa _) _) (Qlx hp h0 h1);have ac:=Qaa E1;have aw:=ZZl w2 w1.heap.size 3 _ _ (.int .i64 (p.c+n)) ak;have aA:w.heap.size+1≠w1.heap.size:=by have:=(ZZc.1 ab).1;have:=ay.out;have:=HC.out.b.size;omega
    have af:(w2.setCell ⟨w1.heap.size,3,none⟩ (.int .i64 (p.c+n))).heap[w.heap.size+1]?=some (.cells Qa3 25 (0,0)):=(heap_setCell_other _ _ _ _ (by simpa using aA)).trans ab;have ai:=Qaa E2;go_upto_region 4 with fail;clear x0 x1 x2 x3 x4 y0 y1 y2 y3 y4 z0 z1 z2 z3 z4 f0 f1 f2 f3 f4 g3 E1 E2 ag aB az d0 d1;generalize w2.setCell ⟨w1.heap.size,3,none⟩ (.int .i64 (p.c+n))=W3 at ac aw af ⊢;obtain ⟨y0,y1,y2,y3,y4⟩:=Qa0 af;obtain ⟨z0,z1,z2,z3,z4⟩:=Qa0 aw;obtain ⟨f0,f1,f2,f3,f4⟩:=fA5 af;clear aw af ak ad ab aa hp ah h0 h1;go_wp2;refine bodyPost_ret (v:=.agg (Qaf (.slice av M.length cv) { p with c:=p.c+n })) (by simp [results,results7,go_sem,y0,y1,y2,y3,y4]) rfl ⟨.slice av M.length cv,M,by rw [ai.out],?_⟩;exact CpP.sets2 ac.out.2.2 ac.out.2.1 ac.out.1
   ·have d1:decide (n<=1000000000 - p.c)=false:=ZZg h1
    obtain ⟨E1,E2⟩:=ag.out w2 p aa (Qff (.inr (.inr h1)));have ac:=Qaa E1;have ai:=Qaa E2;clear E1 E2 ag ak ad ab aa hp ah;go_wp2;refine bodyPost_ret (v:=.agg (Qaf (.slice av M.length cv) p)) (by simp [results,results7,go_sem,y0,y1,y2,y3,y4]) rfl ⟨.slice av M.length cv,M,by rw [ai.out],?_⟩;exact CpP.sets2 ac.out.2.2 ac.out.2.1 ac.out.1
  ·have d0:decide (0<=n)=false:=ZZg h0
   obtain ⟨E1,E2⟩:=ag.out w2 p aa (Qff (.inr (.inl h0)));have ac:=Qaa E1;have ai:=Qaa E2;clear E1 E2 ag ak ad ab aa hp ah;go_wp2;refine bodyPost_ret (v:=.agg (Qaf (.slice av M.length cv) p)) (by simp [results,results7,go_sem,y0,y1,y2,y3,y4]) rfl ⟨.slice av M.length cv,M,by rw [ai.out],?_⟩;exact CpP.sets2 ac.out.2.2 ac.out.2.1 ac.out.1
theorem Qdd (p:Pi) (n:Int) (hm:MX w) (hI:PpI w ao N S) :
  Calls prog 6 #[.agg (Qaf (.slice ao N ca) p),.int .i64 n] w fun e w'=>CpA w S (Qco S p n) e w':=by
 have HM:=Qaa hm;clear hm;have HI:=Qaa hI;have a1:∀ (X:World) o,Below X.heap.size X (X.alloc o):=fun X o=>(ZZb _ _).alloc (ZZa _) _;have k0:=ZZk w (.cells (Qaf (.slice ao N ca) p) 25);have k1:=ZZk (w.alloc (.cells (Qaf (.slice ao N ca) p) 25)) (.cells Qa3 25);simp only [World.size_alloc] at k1;have ag:=Qaa (Qam k0 (a1 _ (.cells Qa3 25)));have aj:=Qaa k1;have al:=Qaa (Qac (a1 w (.cells (Qaf (.slice ao N ca) p) 25)) (a1 _ (.cells Qa3 25)));clear hI a1 k0 k1;go_enter func6,ntmps6;go_upto_region 1 with fail;generalize (w.alloc (.cells (Qaf (.slice ao N ca) p) 25)).alloc (.cells Qa3 25)=W0 at ag aj al ⊢;have aq:w.heap.size+1+1<=W0.heap.size:=(ZZc.1 aj).1;have aB:=Qaa aq;clear aq;obtain ⟨x0,x1,x2,x3,x4⟩:=Qa0 ag;go_wp2_with fail;clear x0 x1 x2 x3 x4;refine (Qiq p HI.out.n HI.out.sm (fun s hs c hc=>⟨(HI.out.ok s hs c hc).1,(HI.out.ok s hs c hc).2.1⟩) (HM.out.past al) (QaR HI.out.at' al)).mono ?_;rintro e w1 ⟨rfl,af⟩;have ab:=Qaa (Qam ag af);have aa:=Qaa (Qam aj af);have ah:=Qaa (Qac al af);have ad:=Qaa (Nat.le_trans aB af.size);clear af ag aj
 cases hp:QbD S p with
 | false=>
  have am:=Qaa (Qff (n:=n) (.inl hp));obtain ⟨x0,x1,x2,x3,x4⟩:=Qa0 ab;go_wp2_with fail;clear x0 x1 x2 x3 x4;refine (QmE p (HI.out.past ah)).mono ?_;rintro e w2 ⟨v,M,rfl,hC⟩;have ac:=Qaa (hC.fin ah ad (ZZb _ _));have R1:=Qam aa hC.b;obtain ⟨av,cv,rfl,_⟩:=hC.r.form;obtain ⟨y0,y1,y2,y3,y4⟩:=Qa0 R1;obtain ⟨f0,f1,f2,f3,f4⟩:=fA5 R1;clear R1 hC ab aa hp;go_wp2;refine bodyPost_ret (v:=.agg (Qaf (.slice av M.length cv) p)) (by simp [results,results6,go_sem,y0,y1,y2,y3,y4]) rfl ⟨.slice av M.length cv,M,by rw [am.out],?_⟩;exact CpP.sets2 ac.out.2.2 ac.out.2.1 ac.out.1
 | true=>
  have HP:=Qaa hp;have HQ:=Qaa (HI.out.qs hp);clear hp;obtain ⟨x0,x1,x2,x3,x4⟩:=Qa0 ab;go_wp2_with fail;clear x0 x1 x2 x3 x4;refine (Qqe p HI.out.n (by have:=HQ.out.n;have:=HI.out.n;omega) HI.out.sm.l HI.out.sm.sm (fun s hs c hc=>(HI.out.ok s hs c hc).2.2) (fun s hs=>by have:=HI.out.sm.nz s hs;unfold maxLen;omega) (sds_ap (Qbr HP).1) (QaR HI.out.at' ah)).mono ?_;rintro e w2 ⟨mb,rfl,Bm,M,hl⟩;have ax:M.map Sd.key=S.map Sd.key:=by have:=hl.ky;rw [List.take_of_length_le (by have:=HI.out.n;omega)] at this;exact this
  have aw:Below w2.heap.size w2 (w2.alloc (.cells (Qcz p mb) 52)):=(ZZb _ _).alloc (ZZa _) _;have HL:=Qaa hl;have ak:=Qaa ax;have ai:=Qaa aw;have HY:=Qaa (ZZk w2 (.cells (Qcz p mb) 52));clear hl ax aw;go_upto_region 4 with fail;generalize w2.alloc (.cells (Qcz p mb) 52)=W2 at ai HY ⊢;go_wp2_with fail;refine (c_tick p n (Qpm HP).2.2.1 HY).mono ?_;rintro e w3 ⟨rfl,q,hq,hg,ay,an⟩;have au:Below w2.heap.size w2 w3:=ai.out.grown hg ai.out.size (fun j hj=>by injection hj with hj;omega)
  have ar:Qco S p n=q:=by
   by_cases h0:0<=n
   ·by_cases h1:n<=1000000000 - p.c
    ·rw [Qlx HP.out h0 h1,ay h0 h1]
    ·rw [Qff (.inr (.inr h1)),an (.inr h1)]
   ·rw [Qff (.inr (.inl h0)),an (.inl h0)]
  have am:=Qaa ar;have az:=Qaa hq;have ae:=Qaa au;clear hq hg ay an au ar HY ai;obtain ⟨x0,x1,x2,x3,x4⟩:=Qa0 az;go_wp2_with fail;clear x0 x1 x2 x3 x4
  have aC:M.length<=1000:=by
   have:=congrArg List.length ak;rw [List.length_map,List.length_map] at this;have:=HQ.out.n;omega
  refine (c_pipe q (HL.out.mp.past ae) (List.Perm.refl M) (by rw [Qn4 ak.out];exact QtM (Qbr HP).1) aC (fun s hs=>by
   obtain ⟨t,ht,e,_⟩:=Qfh ak hs;have:=HI.out.sm.nz t ht;rw [e];unfold maxLen;omega)).mono ?_
  rintro e w4 ⟨v,rfl,ho,ap⟩;have aA:=ae.out.size;have hC:CpP w1 w4 S v M:=⟨ho.le (Nat.le_trans HL.out.b.size aA),((HL.out.o.past ae).past ap).le (Nat.le_of_lt (Nat.lt_of_le_of_lt HL.out.le HL.out.lt)),ak,Qac (Qac HL.out.b ae) ap⟩;have ac:=Qaa (hC.fin ah ad (ZZb _ _));have R1:=Qam aa hC.b;obtain ⟨av,cv,rfl,_⟩:=hC.r.form;obtain ⟨y0,y1,y2,y3,y4⟩:=Qa0 R1;obtain ⟨f0,f1,f2,f3,f4⟩:=fA5 R1;clear R1 hC ab aa ho ap aA HL az ae;go_wp2;refine bodyPost_ret (v:=.agg (Qaf (.slice av M.length cv) q)) (by simp [results,results6,go_sem,y0,y1,y2,y3,y4]) rfl ⟨.slice av M.length cv,M,by rw [am.out],?_⟩;exact CpP.sets2 ac.out.2.2 ac.out.2.1 ac.out.1
end Go.Proofs.YtlejlgldgafljaaGreatDoor
