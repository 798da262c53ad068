/-
 Parts.
-/
import Derived.Test.YtlejlgldgafljaaGreatDoorVYL
set_option maxHeartbeats 8000000
set_option linter.all false
namespace Go.Proofs.YtlejlgldgafljaaGreatDoor
open Go.ChangeShapes Go.WideShapes Go.ChangeAt Go.RowKit Go.PlainAid Go.Lib Tryz
set_option maxRecDepth 10000
variable {W w w' wr:World}
variable {B N b ca j mb n:Nat}
variable {M S T:List Sd}
theorem PiI.start (p:Pi) (hM:MpS w mb n M):PiI w (((w.alloc (.cells (QaO p mb) 52)).alloc (.cells QbM 25)).alloc (.cells (Qad (.slice none 0 0) p) 25)) mb n M T p 0 (.slice none 0 0):=by
 have a1:∀ (X:World) o,Bw X (X.alloc o):=fun X o=>bA;have k0:=ZZk w (.cells (QaO p mb) 52);have k1:=ZZk (w.alloc (.cells (QaO p mb) 52)) (.cells QbM 25);have k2:=ZZk ((w.alloc (.cells (QaO p mb) 52)).alloc (.cells QbM 25)) (.cells (Qad (.slice none 0 0) p) 25);simp only [World.size_alloc] at k1 k2;refine ⟨((a1 _ _).block _ (by simp;omega)).trans (((a1 _ _).block _ (by simp)).trans k0),((a1 _ _).block _ (by simp)).trans k1,k2,((hM.past (a1 _ _)).past (a1 _ _)).past (a1 _ _),OwnD.nil _ _,Qac (Qac (a1 _ _) (a1 _ _)) (a1 _ _)⟩
variable {u v v0 v1 v2 v3 v4:Value}
variable {K:List ByteArray}
variable {r:Option Nat}
theorem OwnT.kept (h:OwnT w B v K) (hg:w.grownBy w' r) (hr:∀ j,r=some j->v.ownBlock≠some j):OwnT w' B v K:=by
 refine World.ownsRow.kept h hg ?_
 cases q:v.ownBlock with
 | none=>exact .inl rfl
 | some j=>exact .inr (fun e=>hr j e.symm q)
variable {ao:Option Addr}
theorem Qe4 {cp k:Nat} {u:ByteArray} (h:OwnT w B (.slice ao n cp) K) (hn:K.length=n) (hu:K[k]?=some u):∃ g,ao=some ⟨g,0,none⟩/\w.cell? ⟨g,k,none⟩=some (.string u):=by
 have hk:=(ZZd.1 hu).1;rcases h.2 with ⟨e,q⟩ | ⟨g,aa,ab,e,q1,q2⟩
 ·omega
 ·injection e with e1 e2 e3
  subst e1;refine ⟨g,rfl,?_⟩;unfold OwnT at h;rw [hn] at h;rw [World.ownsRow.cellAt h k (by omega),List.getElem?_map,hu]
  rfl
theorem c_pipe (p:Pi) (hM:MpS w mb n M) (hT:T.Perm M) (hr:Qcd (T.map Sd.nm)) (hl:T.length<=1000) (hz:∀ s∈T,s.nm.size<=maxLen) :
  Calls prog 29 #[.agg (QaO p mb)] w fun e w'=>∃ v,e=.returned (.agg (Qad v p))/\OwnD w' w.heap.size v T/\Bw w w':=by
 obtain ⟨i0,hi,aA,au,aw⟩:=QqM;obtain ⟨N,hN⟩:∃ N,T.length=N:=⟨_,rfl⟩;have ao:=hM.lt;have az:=Qaa ao;have ac:=Qaa (PiI.start (T:=T) p hM);have HN:=Qaa hN;have HT:=Qaa hT;have HR:=Qaa hr;have HZ:=Qaa hz;have aF:N<=1000:=by omega
 clear hM hT hr hz ao hN hl;go_enter func29,ntmps29;go_upto_region 2 with fail;generalize ((w.alloc _).alloc _).alloc _=W0 at ac ⊢;obtain ⟨r0,r1,r2,r3,r4⟩:=Qa2 ac.x0;go_wp2_with fail;clear r0 r1 r2 r3 r4;refine (QkH p ac.mp HR (HT.map _) (by rw [<- HT.length_eq,HN.out];omega)).mono ?_;rintro e w1 ⟨vn,rfl,ho,al⟩;have am:=Qaa (ac.past al);have af:w.heap.size+1+1+1<=W0.heap.size:=(ZZc.1 ac.x2).1;obtain ⟨an,cn,rfl⟩:=Qcj ho;have aj:(T.map Sd.nm).length=N:=by rw [yA];exact HN.out
 rw [aj] at ho ⊢;have ay:=Qaa aj;have ag:=Qaa ho;generalize W0.heap.size=lo at ag af;have ak:=Qaa af;clear ho al ac aj af W0;go_wp2
 go_loopw [22] (fun i wr=>∃ (k:Nat) (v:Value),k<=N/\i=.int .i64 k/\Hid (PiI w wr mb n M T p k v)/\Hid (OwnT wr lo (.slice an N cn) (T.map Sd.nm))) (fun i wr=>N - (Go.RowKit.intOf i).toNat)
 case atStart=>exact ⟨0,_,ZZj _,rfl,am,ag⟩
 case round=>
  clear am ag;obtain ⟨k,v,hk,rfl,HI,HO⟩:=hrel;by_cases aD:k<N
  ·have ai:(k:Int)<(N:Int):=by omega
   obtain ⟨s,hs⟩:∃ s,T[k]?=some s:=⟨T[k]'(by have:=HN.out;omega),ZZe _⟩;obtain ⟨gn,rfl,n0⟩:=Qe4 HO ay (show (T.map Sd.nm)[k]?=some s.nm by rw [List.getElem?_map,hs];rfl);have HS:=Qaa hs;have ax:=HI.mp.look (HT.mem_iff.1 (ZZn hs)) (HZ.out s (ZZn hs));have p0:=(Qa2 HI.x2).1;have l4:=(Qa2 HI.x0).2.2.2.2;have NL:Hid ((T.take k).length=k):=Qaa (by rw [List.length_take,HN.out];omega);have OW:Hid (wr.ownsRow (w.heap.size+1+1+1) 56 2 v k (flS (T.take k))):=by have o:=HI.o;unfold OwnD at o;rw [NL.out] at o;exact Qaa o
   have aC:=Qaa (Nat.le_trans ak (ZZa lo));have aE:w.heap.size+1+1+1<=wr.heap.size:=(ZZc.1 HI.x2).1;clear hs;go_wp2_with (at_builtin;refine wpList_append_own _ rfl _ _ 23 rfl (w.heap.size+1+1+1) 56 i0 (.agg zAc) 2 40 underlying23 hi aA au aw rfl (by decide) _ _ _ rfl (World.ownsRow.alloc OW _) ⟨wr.heap.size,0,none⟩ 1 1 (sdL s) rfl rfl ?c1 ?c2 ?c3 ?c4 ?c5 ?_)
   case c1=>exact QhM
   case c2=>exact QoO s
   case c3=>unfold maxLen;omega
   case c4=>omega
   case c5=>simp;omega
   intro v' w1 ab aa _;obtain ⟨av,cv,rfl⟩:∃ ar cr,v'=.slice ar (k+1) cr:=Qam ab;have ae:Bw wr (wr.alloc (.cells (QaN s) 56)):=bA;have aq:=Qaa (HI.step HS az ae (by rw [NL.out];exact ab) aa);have z2:w1.heap[w.heap.size+1+1]?=some (.cells (Qad v p) 25 (0,0)):=(aa.block _ (by simp;omega) (fun e=>by have:=(World.ownsRow.lt OW _ e.symm).1;omega)).trans (Qaf HI.x2 ae);have y0:=Qaz z2 0 rfl;have f0:=fzR 0 z2
   have ap:Hid (OwnT (w1.setCell ⟨w.heap.size+1+1,0,none⟩ (.slice av (k+1) cv)) lo (.slice (some ⟨gn,0,none⟩) N cn) (T.map Sd.nm)):=by
    have o1:=HO.out;have aB:=(World.ownsRow.lt o1 gn rfl).1;have o2:OwnT (wr.alloc (.cells (QaN s) 56)) lo (.slice (some ⟨gn,0,none⟩) N cn) (T.map Sd.nm):=World.ownsRow.alloc o1 _;have o3:OwnT w1 lo (.slice (some ⟨gn,0,none⟩) N cn) (T.map Sd.nm):=o2.kept aa (fun j q e=>Ty.ne (Qcs o1) (Qcs OW) (by decide) j e q)
    exact Qaa (o3.kept (Qai w1 _ 0 _) (fun j q e=>by
     have:=(World.ownsRow.lt o3 j e).1;injection q with q;have:=ak.out;omega))
   clear ab aa z2 ae ax p0 l4 n0 OW;go_wp2;go_roundw
   case rel=>exact ⟨k+1,_,by omega,by go_num,aq,ap⟩
   case measure=>simp [zI];omega
  ·have ai:¬ (k:Int)<(N:Int):=by omega
   obtain ⟨av,cv,rfl,_⟩:=HI.o.form;have NL:(T.take k).length=k:=by rw [List.length_take,HN.out];omega
   rw [NL] at HI;have R1:=HI.x1;have R2:=HI.x2
   have ad:Hid (OwnD wr w.heap.size (.slice av k cv) T/\Bw w wr):=by
    have o:=HI.o;rw [List.take_of_length_le (by have:=HN.out;omega)] at o;exact Qaa ⟨o.le (by omega),HI.b⟩
   have ah:Hid (∀ j,(Value.slice av k cv).ownBlock=some j->w.heap.size+1+1+1<=j):=fun j q=>(World.ownsRow.lt HI.o j q).1;obtain ⟨z0,z1,z2,z3,z4⟩:=Qa2 R2;obtain ⟨y0,y1,y2,y3,y4⟩:=Qa2 R1;obtain ⟨f0,f1,f2,f3,f4⟩:=fA5 R1;clear R1 R2 HI;go_wp2;refine bodyPost_ret (v:=.agg (Qad (.slice av k cv) p)) (by simp [results,results29,go_sem,y0,y1,y2,y3,y4]) rfl ⟨_,rfl,?_,?_⟩
   ·have st:∀ (W:World) (j:Nat) (u:Value),OwnD W w.heap.size (.slice av k cv) T->OwnD (W.setCell ⟨w.heap.size+1,j,none⟩ u) w.heap.size (.slice av k cv) T:=fun W j u o=>by
     refine World.ownsRow.kept o (Qai W _ j u) ?_
     cases q:(Value.slice av k cv).ownBlock with
     | none=>exact .inl rfl
     | some i=>exact .inr (fun e=>by have:=ah.out i q;injection e with e;omega)
    repeat (refine st _ _ _ ?_)
    exact ad.1
   ·repeat (refine Below.setCell ?_ (by simp <;> omega) _)
    exact ad.2
structure LcI (w wr:World) (ao:Option Addr) (N ca:Nat) (S:List Sd) (p:Pi) (k:Nat) (v:Value) (M:List Sd):Prop where
 x0:wr.heap[w.heap.size]?=some (.cells (Qad (.slice ao N ca) p) 25 (0,0))
 x1:wr.heap[w.heap.size+1]?=some (.cells QbM 25 (0,0))
 x2:wr.heap[w.heap.size+1+1]?=some (.cells (Qad v p) 25 (0,0))
 r:OwnD wr (w.heap.size+1+1+1) v M
 o:LvO wr (w.heap.size+1+1+1) M
 ky:M.map Sd.key=(S.take k).map Sd.key
 b:Bw w wr
section
variable {w wr W w1 w3:World} {ao:Option Addr} {N ca k:Nat} {S M:List Sd} {p:Pi} {v v':Value}
theorem LcI.past (h:LcI w wr ao N ca S p k v M) (hb:Bw wr W):LcI w W ao N ca S p k v M:=
 ⟨Qaf h.x0 hb,Qaf h.x1 hb,Qaf h.x2 hb,h.r.past hb,h.o.past hb,h.ky,Qac h.b hb⟩
theorem LcI.len (h:LcI w wr ao N ca S p k v M) (hN:S.length=N) (hk:k<=N):M.length=k:=by
 have:=congrArg List.length h.ky;simp at this;omega
theorem LcI.far (h:LcI w wr ao N ca S p k v M):∀ j,v.ownBlock=some j->w.heap.size+1+1+1<=j:=fun j q=>(World.ownsRow.lt h.r j q).1
theorem LcI.rows (h:LcI w wr ao N ca S p k v M) (hb:Bw wr W) (hg:W.grownBy w3 v.ownBlock):w3.heap[w.heap.size]?=some (.cells (Qad (.slice ao N ca) p) 25 (0,0))/\w3.heap[w.heap.size+1]?=some (.cells QbM 25 (0,0))/\w3.heap[w.heap.size+1+1]?=some (.cells (Qad v p) 25 (0,0)):=by
 have hW:=h.past hb;have aa:∀ {r:Nat} {o:Obj},r<w.heap.size+1+1+1->W.heap[r]?=some o->w3.heap[r]?=some o:=fun {r o} hr q=>(hg.block r (ZZc.1 q).1 (fun e=>by have:=h.far r e.symm;omega)).trans q;exact ⟨aa (by omega) hW.x0,aa (by omega) hW.x1,aa (by omega) hW.x2⟩
theorem LcI.step {s t:Sd} (h:LcI w wr ao N ca S p k v M) (hs:S[k]?=some s) (e:t.key=s.key) (hb1:Bw wr w1) (hr:OwnC w1 wr.heap.size (slS t) t.L) (ho:CesO w1 wr.heap.size t.L) (hbW:Bw w1 W)
  (hown:w3.ownsRow (w.heap.size+1+1+1) 56 2 v' (M.length+1) (flS M ++ sdL t)) (hg:W.grownBy w3 v.ownBlock):LcI w (w3.setCell ⟨w.heap.size+1+1,0,none⟩ v') ao N ca S p (k+1) v' (M ++ [t]):=by
 have ac:=Qac hb1 hbW;obtain ⟨z0,z1,z2⟩:=h.rows ac hg;have hW:=h.past ac;have af:w.heap.size+1+1+1<=wr.heap.size:=(ZZc.1 h.x2).1;have ab:∀ {r:Nat},r≠w.heap.size+1+1->(w3.setCell ⟨w.heap.size+1+1,0,none⟩ v').heap[r]?=w3.heap[r]?:=fun {r} hr=>heap_setCell_other _ _ _ _ (by simpa using fun e=>hr e);have aa:=Qai w3 (w.heap.size+1+1) 0 v';have oS:OwnD w3 (w.heap.size+1+1+1) v' (M ++ [t]):=OwnD.add hown;have oL:LvO W (w.heap.size+1+1+1) (M ++ [t]):=(h.o.add hb1 af hr ho).past hbW;have ad:GrownS W w3 (fun k=>v.ownBlock=some k):=⟨hg.os,hg.tape,hg.output,hg.size,fun k hk hn=>hg.block k hk (fun e=>hn e.symm)⟩;have ae:LvO w3 (w.heap.size+1+1+1) (M ++ [t]):=oL.keptS ad (fun s hs k q=>hW.r.neB oL hs k q);refine ⟨(ab (by omega)).trans z0,(ab (by omega)).trans z1,ZZl w3 _ 0 _ _ v' z2,?_,ae.grown aa (by omega),QlO h.ky hs e,?_⟩
 ·refine World.ownsRow.kept oS aa ?_
  cases q:v'.ownBlock with
  | none=>exact .inl rfl
  | some j=>exact .inr (fun e=>by have:=(World.ownsRow.lt oS j q).1;injection e with e;omega)
 ·exact (hW.b.grown hg hW.b.size (fun j hj=>by have:=h.far j hj;omega)).setCell (by show _<=w.heap.size+1+1;omega) _
theorem LcI.start (hA:True):LcI w (((w.alloc (.cells (Qad (.slice ao N ca) p) 25)).alloc (.cells QbM 25)).alloc (.cells (Qad (.slice none 0 0) p) 25)) ao N ca S p 0 (.slice none 0 0) []:=by
 have a1:∀ (X:World) o,Bw X (X.alloc o):=fun X o=>bA;have k0:=ZZk w (.cells (Qad (.slice ao N ca) p) 25);have k1:=ZZk (w.alloc (.cells (Qad (.slice ao N ca) p) 25)) (.cells QbM 25);have k2:=ZZk ((w.alloc (.cells (Qad (.slice ao N ca) p) 25)).alloc (.cells QbM 25)) (.cells (Qad (.slice none 0 0) p) 25);simp only [World.size_alloc] at k1 k2;exact ⟨((a1 _ _).block _ (by simp;omega)).trans (((a1 _ _).block _ (by simp)).trans k0),((a1 _ _).block _ (by simp)).trans k1,k2,OwnD.nil _ _,LvO.nil _ _,by simp,Qac (Qac (a1 _ _) (a1 _ _)) (a1 _ _)⟩
end
structure CpP (w w':World) (S:List Sd) (v:Value) (M:List Sd):Prop where
 r:OwnD w' w.heap.size v M
 o:LvO w' w.heap.size M
 ky:M.map Sd.key=S.map Sd.key
 b:Bw w w'
def CpA (w:World) (S:List Sd) (p:Pi) (e:Ending) (w':World):Prop:=∃ v M,e=.returned (.agg (Qad v p))/\CpP w w' S v M
theorem QhN (h:w.cell? ⟨b,j,none⟩=some u):b<w.heap.size:=by
 rcases Nat.lt_or_ge b w.heap.size with q | q
 ·exact q
 ·have e:w.heap[b]?=none:=Array.getElem?_eq_none q
  simp [World.cell?,e] at h
theorem Qnm (hg:w.grownBy w' r) (hne:some b≠r) (h:w.cell? ⟨b,j,none⟩=some u):w'.cell? ⟨b,j,none⟩=some u:=by
 have hb:b<w.heap.size:=by
  rcases Nat.lt_or_ge b w.heap.size with q | q
  ·exact q
  ·have e:w.heap[b]?=none:=Array.getElem?_eq_none q
   simp [World.cell?,e] at h
 have e:=hg.block b hb hne;simp only [World.cell?] at h ⊢;rw [e];exact h
theorem CpP.sets (far:∀ j,v.ownBlock=some j->w.heap.size+1+1+1<=j) (ho:LvO wr (w.heap.size+1+1+1) M) (h:CpP w wr S v M):CpP w (((((wr.setCell ⟨w.heap.size+1,0,none⟩ v0).setCell ⟨w.heap.size+1,1,none⟩ v1).setCell ⟨w.heap.size+1,2,none⟩ v2).setCell ⟨w.heap.size+1,3,none⟩ v3).setCell ⟨w.heap.size+1,4,none⟩ v4) S v M:=by
 have st:∀ (W:World) (j:Nat) (u:Value),OwnD W w.heap.size v M->OwnD (W.setCell ⟨w.heap.size+1,j,none⟩ u) w.heap.size v M:=fun W j u o=>by
  refine World.ownsRow.kept o (Qai W _ j u) ?_
  cases q:v.ownBlock with
  | none=>exact .inl rfl
  | some i=>exact .inr (fun e=>by have:=far i q;injection e with e;omega)
 have sl:∀ (W:World) (j:Nat) (u:Value),LvO W (w.heap.size+1+1+1) M->LvO (W.setCell ⟨w.heap.size+1,j,none⟩ u) (w.heap.size+1+1+1) M:=fun W j u o=>o.grown (Qai W _ j u) (by omega);refine ⟨?_,LvO.le ?_ (by omega:w.heap.size<=w.heap.size+1+1+1),h.ky,?_⟩
 ·repeat (refine st _ _ _ ?_)
  exact h.r
 ·repeat (refine sl _ _ _ ?_)
  exact ho
 ·repeat (refine Below.setCell ?_ (by show _<=w.heap.size+1;omega) _)
  exact h.b
theorem Qgq (p:Pi) (hI:PpI w ao N S) :
  Calls prog 30 #[.agg (Qad (.slice ao N ca) p)] w fun e w'=>CpA w S p e w':=by
 obtain ⟨i0,hi,aG,aK,aC⟩:=QqM;have HI:=Qaa hI;have aO:N<=1048576:=by have:=hI.n;have:=hI.sm.n;omega
 have al:=Qaa (LcI.start (w:=w) (ao:=ao) (N:=N) (ca:=ca) (S:=S) (p:=p) trivial);clear hI;go_enter func30,ntmps30;go_upto_region 3 with fail;generalize ((w.alloc _).alloc _).alloc _=W0 at al ⊢;go_wp2
 go_loopw [4] (fun i wr=>∃ (k:Nat) (v:Value) (M:List Sd),k<=N/\i=.int .i64 k/\Hid (LcI w wr ao N ca S p k v M)) (fun i wr=>N - (Go.RowKit.intOf i).toNat)
 case atStart=>exact ⟨0,_,[],ZZj _,rfl,al⟩
 case round=>
  clear al;obtain ⟨k,v,M,hk,rfl,HL⟩:=hrel;by_cases aN:k<N
  ·have aq:(k:Int)<(N:Int):=by omega
   obtain ⟨s,hs⟩:∃ s,S[k]?=some s:=⟨S[k]'(by have:=HI.n;omega),ZZe _⟩;obtain ⟨b,aa,e,ad⟩:=HI.at'.1 (by have:=HI.n;omega);subst e;have HS:=Qaa hs;have hm:=ZZn hs;have HM:=Qaa hm;have aL:=Qaa (HL.len HI.n hk);have aD:Hid (b<w.heap.size):=Qaa (QhN (ad k s hs).1);have ab:Hid ((fun W1:World=>W1.heap[w.heap.size]?=some (.cells (Qad (.slice (some ⟨b,aa,none⟩) N ca) p) 25 (0,0))/\W1.heap[w.heap.size+1+1]?=some (.cells (Qad v p) 25 (0,0))/\Qe2 W1 b (aa+k*2) s) wr.drew):=⟨HL.x0,HL.x2,Qbz (ad k s hs) HL.b.drew⟩;have a0:=(Qa2 HL.x0).1;clear hs hm;go_upto_region 6 with fail;clear a0;have ai:Hid (LcI w wr.drew (some ⟨b,aa,none⟩) N ca S p k v M):=Qaa (HL.past (ZZb _ _).drew);have aF:Hid (Bw wr wr.drew):=(ZZb _ _).drew;refine Qal (fun W1:World=>W1.heap[w.heap.size]?=some (.cells (Qad (.slice (some ⟨b,aa,none⟩) N ca) p) 25 (0,0))/\W1.heap[w.heap.size+1+1]?=some (.cells (Qad v p) 25 (0,0))/\Qe2 W1 b (aa+k*2) s) 19 (by kernel_rfl) ?_;generalize wr.drew=X0 at ai ab aF ⊢;refine tkS 0 (.pointer (some ⟨w.heap.size+1+1,0,none⟩)) ab ?_;refine tkL 1 v ab (fun W hW=>?_) ?_
   ·obtain ⟨s0,s1,s2⟩:=hW
    have c2:=(Qa2 s1).1;go_simp
   refine tkS 2 (.pointer (some ⟨w.heap.size,0,none⟩)) ab ?_;simp only [sX];refine tkL 3 (.slice (some ⟨b,aa,none⟩) N ca) ab (fun W hW=>?_) ?_
   ·obtain ⟨s0,s1,s2⟩:=hW
    have c0:=(Qa2 s0).1;go_simp
   refine tkS 4 (.int .i64 (k:Int)) ab ?_;refine tkS 5 (.pointer (some ⟨b,aa+k*2,none⟩)) ab ?_;simp only [sX];refine tkS 6 (.pointer (some ⟨b,aa+k*2,none⟩)) ab ?_;refine tkL 7 (.string s.nm) ab (fun W hW=>?_) ?_
   ·obtain ⟨s0,s1,s2⟩:=hW
    obtain ⟨e0,e1⟩:=s2;go_simp
   refine tkS 8 (.pointer (some ⟨w.heap.size,0,none⟩)) ab ?_;simp only [sX];refine tkL 9 (.slice (some ⟨b,aa,none⟩) N ca) ab (fun W hW=>?_) ?_
   ·obtain ⟨s0,s1,s2⟩:=hW
    have c0:=(Qa2 s0).1;go_simp
   refine tkS 10 (.int .i64 (k:Int)) ab ?_;refine tkS 11 (.pointer (some ⟨b,aa+k*2,none⟩)) ab ?_;simp only [sX];refine tkS 12 (.pointer (some ⟨b,aa+k*2+1,none⟩)) ab ?_;refine tkL 13 (.slice s.ao s.L.length s.cp) ab (fun W hW=>?_) ?_
   ·obtain ⟨s0,s1,s2⟩:=hW
    obtain ⟨e0,e1⟩:=s2;go_simp
   simp only [sX];refine onE 14 fun K hK=>?_;go_simp;refine (Qcm rfl (HI.sm.l s HM) (HI.sm.sm s HM) (fun c hc=>(HI.ok s HM c hc).2.2) (QaP (HI.at'.2 s HM) ai.b)).mono ?_;rintro e w1 ⟨v1,L1,rfl,an,ax,aB,aj,_⟩;obtain ⟨a1,c1,rfl,_⟩:=an.form;have aJ:=Qaa an;have aH:=Qaa ax;have aM:Hid (Sd.key ⟨s.nm,L1,a1,c1⟩=s.key):=by show (s.nm,L1.map Ce.key)=(s.nm,s.L.map Ce.key);rw [aB]
   have aI:=Qaa aj;have ak:=Qaa (ai.past aj);have au:Hid ((fun W1:World=>W1.heap[w.heap.size]?=some (.cells (Qad (.slice (some ⟨b,aa,none⟩) N ca) p) 25 (0,0))/\W1.heap[w.heap.size+1+1]?=some (.cells (Qad v p) 25 (0,0))/\Qe2 W1 b (aa+k*2) s) w1):=⟨ak.x0,ak.x2,Qbz ab.2.2 aj⟩;clear an ax aB aj;dsimp only;refine gK hK au.out ?_
   try simp only [sX]
   refine tkS 15 (.agg (QaN ⟨s.nm,L1,a1,c1⟩)) au ?_;simp only [sX];refine onE 16 fun K hK=>?_;go_simp;have ah:Bw w1 (w1.alloc (.cells (QaN ⟨s.nm,L1,a1,c1⟩) 56)):=bA;have az:=Qaa ah;have af:=Qaa (ak.past ah);have aA:Hid ((fun W1:World=>W1.heap[w.heap.size]?=some (.cells (Qad (.slice (some ⟨b,aa,none⟩) N ca) p) 25 (0,0))/\W1.heap[w.heap.size+1+1]?=some (.cells (Qad v p) 25 (0,0))/\Qe2 W1 b (aa+k*2) s) (w1.alloc (.cells (QaN ⟨s.nm,L1,a1,c1⟩) 56))):=⟨af.x0,af.x2,Qbz au.2.2 ah⟩;refine gK hK aA.out ?_;clear ah
   try simp only [sX]
   refine onE 17 fun K hK=>?_;rw [if_pos (by rfl)];have ml:=aL.out;have ow:=af.r;unfold OwnD at ow;have ay:w.heap.size+1+1+1<=(w1.alloc (.cells (QaN ⟨s.nm,L1,a1,c1⟩) 56)).heap.size:=(ZZc.1 af.x2).1;refine wp_append_own _ (.tmp 15) (.tmp 30) 23 rfl (w.heap.size+1+1+1) 56 i0 (.agg zAc) 2 40 underlying23 hi aG aK aC rfl (by decide) _ _ _ rfl ow ⟨w1.heap.size,0,none⟩ 1 1 (sdL ⟨s.nm,L1,a1,c1⟩) rfl rfl QhM (QoO _) (by unfold maxLen;omega) (by omega) ay ?_;intro v8 w8 ae ac _;obtain ⟨a8,c8,rfl⟩:∃ ar cr,v8=.slice ar (M.length+1) cr:=Qam ae;obtain ⟨g0,g1,g2⟩:=ak.rows az ac;have HF:=Qaa (ai.step (t:=⟨s.nm,L1,a1,c1⟩) HS aM aI aJ aH az ae ac)
   have aw:Hid ((fun W1:World=>W1.heap[w.heap.size]?=some (.cells (Qad (.slice (some ⟨b,aa,none⟩) N ca) p) 25 (0,0))/\W1.heap[w.heap.size+1+1]?=some (.cells (Qad v p) 25 (0,0))/\Qe2 W1 b (aa+k*2) s) w8):=⟨g0,g2,by
    have q:=aA.2.2;have qb:b<w.heap.size:=aD.out;have far:=af.far;have ne:some b≠v.ownBlock:=fun e=>by have:=far b e.symm;omega
    have kp:∀ j u,(w1.alloc (.cells (QaN ⟨s.nm,L1,a1,c1⟩) 56)).cell? ⟨b,j,none⟩=some u->w8.cell? ⟨b,j,none⟩=some u:=fun j u h=>Qnm ac ne h;exact ⟨kp _ _ q.1,kp _ _ q.2⟩⟩
   have ag:=Qaa g2;clear ae ac ow ml ay g0 g1 g2;refine gK hK aw.out ?_
   try simp only [sX]
   refine tkS 18 (.pointer (some ⟨w.heap.size+1+1,0,none⟩)) aw ?_;simp only [sX];have q0:=Qaz ag 0 rfl;have f0:=fzR 0 ag;refine onE 19 fun K hK=>?_;go_simp;clear q0 f0;refine hK.out _ _ (fun h=>absurd rfl h) ?_
   try simp only [sX]
   refine dnE ?_ _;go_wp2;go_roundw
   case rel=>exact ⟨k+1,_,_,by omega,by first | rfl | go_num,HF⟩
   case measure=>simp [zI];omega
  ·have aq:¬ (k:Int)<(N:Int):=by omega
   obtain ⟨av,cv,rfl,_⟩:=HL.r.form;have R1:=HL.x1;have R2:=HL.x2
   have am:Hid (CpP w wr S (.slice av M.length cv) M):=by
    have ky:=HL.ky;rw [List.take_of_length_le (by have:=HI.n;omega)] at ky;exact Qaa ⟨HL.r.le (by omega),HL.o.le (by omega),ky,HL.b⟩
   have ap:=Qaa HL.far;have aE:=Qaa HL.o;obtain ⟨z0,z1,z2,z3,z4⟩:=Qa2 R2;obtain ⟨y0,y1,y2,y3,y4⟩:=Qa2 R1;have a0:=(Qa2 HL.x0).1;obtain ⟨f0,f1,f2,f3,f4⟩:=fA5 R1;clear R1 R2 HL;go_wp2;refine bodyPost_ret (v:=.agg (Qad (.slice av M.length cv) p)) (by simp [results,results30,go_sem,y0,y1,y2,y3,y4]) rfl ⟨_,M,rfl,?_⟩;exact CpP.sets ap aE am
noncomputable def QiM (S:List Sd) (p:Pi) (n:Int):Pi:=if Qbi S p=true/\0<=n/\n<=1000000000 - p.c then { p with c:=p.c+n } else p
structure CqI (w wr:World) (S:List Sd) (p:Pi) (k:Nat) (v:Value) (M:List Sd):Prop where
 x0:wr.heap[w.heap.size]?=some (.cells (Qad v p) 25 (0,0))
 x1:wr.heap[w.heap.size+1]?=some (.cells QbM 25 (0,0))
 r:OwnD wr (w.heap.size+1+1) v M
 o:LvO wr (w.heap.size+1+1) (M.take k)
 dr:M.drop k=S.drop k
 ky:M.map Sd.key=S.map Sd.key
 b:Bw w wr
theorem CpP.sets2 (far:∀ j,v.ownBlock=some j->w.heap.size+1+1<=j) (ho:LvO wr (w.heap.size+1+1) M) (h:CpP w wr S v M):CpP w (((((wr.setCell ⟨w.heap.size+1,0,none⟩ v0).setCell ⟨w.heap.size+1,1,none⟩ v1).setCell ⟨w.heap.size+1,2,none⟩ v2).setCell ⟨w.heap.size+1,3,none⟩ v3).setCell ⟨w.heap.size+1,4,none⟩ v4) S v M:=by
 have st:∀ (W:World) (j:Nat) (u:Value),OwnD W w.heap.size v M->OwnD (W.setCell ⟨w.heap.size+1,j,none⟩ u) w.heap.size v M:=fun W j u o=>by
  refine World.ownsRow.kept o (Qai W _ j u) ?_
  cases q:v.ownBlock with
  | none=>exact .inl rfl
  | some i=>exact .inr (fun e=>by have:=far i q;injection e with e;omega)
 have sl:∀ (W:World) (j:Nat) (u:Value),LvO W (w.heap.size+1+1) M->LvO (W.setCell ⟨w.heap.size+1,j,none⟩ u) (w.heap.size+1+1) M:=fun W j u o=>o.grown (Qai W _ j u) (by omega);refine ⟨?_,LvO.le ?_ (by omega:w.heap.size<=w.heap.size+1+1),h.ky,?_⟩
 ·repeat (refine st _ _ _ ?_)
  exact h.r
 ·repeat (refine sl _ _ _ ?_)
  exact ho
 ·repeat (refine Below.setCell ?_ (by show _<=w.heap.size+1;omega) _)
  exact h.b
variable {p:Pi}
theorem Qut (h:Qbi S p=true):(1<=p.a/\p.a<=1000)/\(0<=p.b/\p.b<=1000)/\(0<=p.c/\p.c<=1000000000)/\0<=p.d/\p.d<=1000000000:=by
 unfold Qbi at h;simp only [yB] at h;have h1:=h.1;unfold Qhy inB at h1;simp only [yB,decide_eq_true_eq] at h1;omega
theorem QrP {n:Int} (h:Qbi S p=true) (h0:0<=n) (h1:n<=1000000000 - p.c):QiM S p n={ p with c:=p.c+n }:=by unfold QiM;rw [if_pos ⟨h,h0,h1⟩]
theorem QlI {n:Int} (h:Qbi S p=false∨¬ 0<=n∨¬ n<=1000000000 - p.c):QiM S p n=p:=by
 unfold QiM;rw [if_neg];rintro ⟨a,b,c⟩;rcases h with h | h | h
 ·rw [h] at a;cases a
 ·exact h b
 ·exact h c
theorem CpP.from (h:CpP W w' S v M) (hb:Bw w W):CpP w w' S v M:=⟨h.r.le hb.size,h.o.le hb.size,h.ky,Qac hb h.b⟩
theorem CpP.past (h:CpP w w' S v M) (hb:Bw w' W):CpP w W S v M:=⟨h.r.past hb,h.o.past hb,h.ky,Qac h.b hb⟩
def TkQ (w:World) (L mb:Nat) (p:Pi) (n:Int) (w':World):Prop:=∃ q:Pi,w'.heap[L]?=some (.cells (QaO q mb) 52 (0,0))/\w.grownBy w' (some L)/\(0<=n->n<=1000000000 - p.c->q={ p with c:=p.c+n })/\(¬ 0<=n∨¬ n<=1000000000 - p.c->q=p)
theorem CpP.fin {W0 w1:World} (h:CpP W0 w1 S v M) (hT:Bw w W0) (hlo:w.heap.size+1+1<=W0.heap.size) (hb:Bw w1 W):CpP w W S v M/\LvO W (w.heap.size+1+1) M/\∀ j,v.ownBlock=some j->w.heap.size+1+1<=j:=
 ⟨(h.past hb).from hT,((h.past hb).o.le hlo),fun j q=>Nat.le_trans hlo (World.ownsRow.lt h.r j q).1⟩
theorem QjU (p:Pi) (n:Int) (hI:PpI w ao N S) :
  Calls prog 7 #[.agg (Qad (.slice ao N ca) p),.int .i64 n] w fun e w'=>CpA w S (QiM S p n) e w':=by
 have HI:=Qaa hI;have a1:∀ (X:World) o,Bw X (X.alloc o):=fun X o=>bA;have k0:=ZZk w (.cells (Qad (.slice ao N ca) p) 25);have k1:=ZZk (w.alloc (.cells (Qad (.slice ao N ca) p) 25)) (.cells QbM 25);simp only [World.size_alloc] at k1;have aq:=Qaa (Qaf k0 (a1 _ (.cells QbM 25)));have an:=Qaa k1;have ap:=Qaa (Qac (a1 w (.cells (Qad (.slice ao N ca) p) 25)) (a1 _ (.cells QbM 25)));clear hI a1 k0 k1;go_enter func7,ntmps7;go_upto_region 1 with fail;generalize (w.alloc _).alloc _=W0 at aq an ap ⊢;have ax:w.heap.size+1+1<=W0.heap.size:=(ZZc.1 an).1;have ay:=Qaa ax;clear ax;obtain ⟨x0,x1,x2,x3,x4⟩:=Qa2 aq;go_wp2_with fail;clear x0 x1 x2 x3 x4;refine (Qgq p (HI.past ap)).mono ?_;rintro e w1 ⟨v,M,rfl,hC⟩;obtain ⟨av,cv,rfl,_⟩:=hC.r.form;have al:Bw w1 (w1.alloc (.cells (Qad (.slice av M.length cv) p) 25)):=bA;have HC:=Qaa hC;have ar:=Qaa al;have HY:=Qaa (ZZk w1 (.cells (Qad (.slice av M.length cv) p) 25));have af:=Qaa (Qaf (Qaf aq hC.b) al);have ak:=Qaa (Qaf (Qaf an hC.b) al);have aw:=Qaa (Qac (Qac ap hC.b) al);clear hC al aq an;go_upto_region 2 with fail;generalize w1.alloc _=W1 at ar HY af ak aw ⊢;obtain ⟨x0,x1,x2,x3,x4⟩:=Qa2 af;go_wp2_with fail;clear x0 x1 x2 x3 x4;refine (Qa7 p HI.n HI.sm HI.ok (QaF HI.at' aw)).mono ?_;rintro e w2 ⟨rfl,am⟩;have aj:=Qaa (Qaf HY am);have ad:=Qaa (Qaf af am);have ab:=Qaa (Qaf ak am);have aa:=Qaa (Qac ar am);clear am HY af ak aw ar;have ag:Hid (∀ (W:World) (q:Pi),Bw w1 W->QiM S p n=q->(CpP w W S (.slice av M.length cv) M/\LvO W (w.heap.size+1+1) M/\∀ j,(Value.slice av M.length cv).ownBlock=some j->w.heap.size+1+1<=j)/\QiM S p n=q):=fun W q hb e=>⟨HC.fin ap ay hb,e⟩;obtain ⟨x0,x1,x2,x3,x4⟩:=Qa2 ad;obtain ⟨y0,y1,y2,y3,y4⟩:=Qa2 ab;obtain ⟨z0,z1,z2,z3,z4⟩:=Qa2 aj;obtain ⟨f0,f1,f2,f3,f4⟩:=fA5 ab;have g3:=fzR 3 aj
 cases hp:Qbi S p with
 | false=>
  obtain ⟨E1,E2⟩:=ag.out w2 p aa (QlI (.inl hp));have ac:=Qaa E1;have ah:=Qaa E2;clear E1 E2 ag aj ad ab aa hp;go_wp2;refine bodyPost_ret (v:=.agg (Qad (.slice av M.length cv) p)) (by simp [results,results7,go_sem,y0,y1,y2,y3,y4]) rfl ⟨.slice av M.length cv,M,by rw [ah.out],?_⟩;exact CpP.sets2 ac.2.2 ac.2.1 ac.1
 | true=>
  have ai:=(Qut hp).2.2.1;have aB:IntKind.i64.wrap (1000000000 - p.c)=1000000000 - p.c:=ZZi _ ⟨by omega,by omega⟩;by_cases h0:0<=n
  ·have d0:decide (0<=n)=true:=ZZh h0
   by_cases h1:n<=1000000000 - p.c
   ·have d1:decide (n<=1000000000 - p.c)=true:=ZZh h1
    have aA:IntKind.i64.wrap (p.c+n)=p.c+n:=ZZi _ ⟨by omega,by omega⟩;obtain ⟨E1,E2⟩:=ag.out (w2.setCell ⟨w1.heap.size,3,none⟩ (.int .i64 (p.c+n))) { p with c:=p.c+n } (aa.setCell (ZZa _) _) (QrP hp h0 h1);have ac:=Qaa E1;have au:=ZZl w2 w1.heap.size 3 _ _ (.int .i64 (p.c+n)) aj;have az:w.heap.size+1≠w1.heap.size:=by have:=(ZZc.1 ab).1;have:=ay.out;have:=HC.b.size;omega
    have ae:(w2.setCell ⟨w1.heap.size,3,none⟩ (.int .i64 (p.c+n))).heap[w.heap.size+1]?=some (.cells QbM 25 (0,0)):=(heap_setCell_other _ _ _ _ (by simpa using az)).trans ab;have ah:=Qaa E2;go_upto_region 4 with fail;clear x0 x1 x2 x3 x4 y0 y1 y2 y3 y4 z0 z1 z2 z3 z4 f0 f1 f2 f3 f4 g3 E1 E2 ag aB aA d0 d1;generalize w2.setCell ⟨w1.heap.size,3,none⟩ (.int .i64 (p.c+n))=W3 at ac au ae ⊢;obtain ⟨y0,y1,y2,y3,y4⟩:=Qa2 ae;obtain ⟨z0,z1,z2,z3,z4⟩:=Qa2 au;obtain ⟨f0,f1,f2,f3,f4⟩:=fA5 ae;clear au ae aj ad ab aa hp ai h0 h1;go_wp2;refine bodyPost_ret (v:=.agg (Qad (.slice av M.length cv) { p with c:=p.c+n })) (by simp [results,results7,go_sem,y0,y1,y2,y3,y4]) rfl ⟨.slice av M.length cv,M,by rw [ah.out],?_⟩;exact CpP.sets2 ac.2.2 ac.2.1 ac.1
   ·have d1:decide (n<=1000000000 - p.c)=false:=ZZg h1
    obtain ⟨E1,E2⟩:=ag.out w2 p aa (QlI (.inr (.inr h1)));have ac:=Qaa E1;have ah:=Qaa E2;clear E1 E2 ag aj ad ab aa hp ai;go_wp2;refine bodyPost_ret (v:=.agg (Qad (.slice av M.length cv) p)) (by simp [results,results7,go_sem,y0,y1,y2,y3,y4]) rfl ⟨.slice av M.length cv,M,by rw [ah.out],?_⟩;exact CpP.sets2 ac.2.2 ac.2.1 ac.1
  ·have d0:decide (0<=n)=false:=ZZg h0
   obtain ⟨E1,E2⟩:=ag.out w2 p aa (QlI (.inr (.inl h0)));have ac:=Qaa E1;have ah:=Qaa E2;clear E1 E2 ag aj ad ab aa hp ai;go_wp2;refine bodyPost_ret (v:=.agg (Qad (.slice av M.length cv) p)) (by simp [results,results7,go_sem,y0,y1,y2,y3,y4]) rfl ⟨.slice av M.length cv,M,by rw [ah.out],?_⟩;exact CpP.sets2 ac.2.2 ac.2.1 ac.1
end Go.Proofs.YtlejlgldgafljaaGreatDoor
