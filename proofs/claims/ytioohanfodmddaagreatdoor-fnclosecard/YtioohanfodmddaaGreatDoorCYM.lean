/-
 Parts.
-/
import Derived.Test.YtioohanfodmddaaGreatDoorCYL
set_option maxHeartbeats 8000000
set_option linter.all false
namespace Go.Proofs.YtioohanfodmddaaGreatDoor
open Go.ChangeShapes Go.WideShapes Go.ChangeAt Go.RowKit Go.PlainAid Go.Lib Tryz
set_option maxRecDepth 10000
theorem mAr {p:Prop} (h:p:=by
 have st:∀ (W:World) (j:Nat) (u:Value),OwnD W w.heap.size v M->OwnD (W.setCell ⟨w.heap.size+1,j,none⟩ u) w.heap.size v M:=fun W j u o=>by
  refine World.ownsRow.kept o (Qah W _ j u) ?_
  cases q:v.ownBlock with
  | none=>exact .inl rfl
  | some i=>exact .inr (fun e=>by have:=far i q;injection e with e;omega)
 have sl:∀ (W:World) (j:Nat) (u:Value),LvO W (w.heap.size+1+1) M->LvO (W.setCell ⟨w.heap.size+1,j,none⟩ u) (w.heap.size+1+1) M:=fun W j u o=>o.grown (Qah W _ j u) oB;refine ⟨?_,LvO.le ?_ (by omega:w.heap.size<=w.heap.size+1+1),h.ky,?_⟩
 ·repeat (refine st _ _ _ ?_)
  exact h.r
 ·repeat (refine sl _ _ _ ?_)
  exact ho
 ·repeat (refine Below.setCell ?_ xE _)
  exact h.b):p:=h
theorem mBa {p:Prop} (h:p:=by go_wp2;refine bodyPost_ret (v:=.agg (Qae (.slice av M.length cv) p)) (by simp [results,results16,go_sem,y0,y1,y2,y3,y4]) rfl ⟨.slice av M.length cv,M,by rw [aj.out],?_⟩;exact CpP.sets2 ac.2.2 ac.2.1 ac.1):p:=h
theorem mCx {p:Prop} (h:p:=by
 rcases Nat.lt_or_ge b w.heap.size with q | q
 ·exact q
 ·have e:w.heap[b]?=none:=Array.getElem?_eq_none q
  simp [World.cell?,e] at h):p:=h
variable {W w w' wr:World}
variable {B N b ca j mb n:Nat}
variable {M S T:List Sd}
theorem PiI.start (p:Pi) (hM:MpS w mb n M):PiI w (((w.alloc (.cells (Qbw p mb) 62)).alloc (.cells QbE 25)).alloc (.cells (Qae (.slice none 0 0) p) 25)) mb n M T p 0 (.slice none 0 0):=by
 have a1:∀ (X:World) o,Bw X (X.alloc o):=fun X o=>bAA;have k0:=ZZk w (.cells (Qbw p mb) 62);have k1:=ZZk (w.alloc (.cells (Qbw p mb) 62)) (.cells QbE 25);have k2:=ZZk ((w.alloc (.cells (Qbw p mb) 62)).alloc (.cells QbE 25)) (.cells (Qae (.slice none 0 0) p) 25);simp only [World.size_alloc] at k1 k2;refine ⟨((a1 _ _).block _ oH).trans (((a1 _ _).block _ oE).trans k0),((a1 _ _).block _ oE).trans k1,k2,((hM.past (a1 _ _)).past (a1 _ _)).past (a1 _ _),OwnD.nil _ _,Qac (Qac (a1 _ _) (a1 _ _)) (a1 _ _)⟩
variable {u v v0 v1 v2 v3 v4:Value}
variable {K:List ByteArray}
variable {r:Option Nat}
theorem OwnT.kept (h:OwnT w B v K) (hg:w.grownBy w' r) (hr:∀ j,r=some j->v.ownBlock≠some j):OwnT w' B v K:=by
 refine World.ownsRow.kept h hg ?_
 cases q:v.ownBlock with
 | none=>exact .inl rfl
 | some j=>exact .inr (fun e=>hr j e.symm q)
variable {ao:Option Addr}
theorem Qkk {cp k:Nat} {u:ByteArray} (h:OwnT w B (.slice ao n cp) K) (hn:K.length=n) (hu:K[k]?=some u):∃ g,ao=some ⟨g,0,none⟩/\w.cell? ⟨g,k,none⟩=some (.string u):=by
 have hk:=(ZZd.1 hu).1;rcases h.2 with ⟨e,q⟩ | ⟨g,aa,ab,e,q1,q2⟩
 ·omega
 ·injection e with e1 e2 e3
  subst e1;refine ⟨g,rfl,?_⟩;unfold OwnT at h;rw [hn] at h;rw [World.ownsRow.cellAt h k oB,List.getElem?_map,hu]
  rfl
theorem c_pipe (p:Pi) (hM:MpS w mb n M) (hT:T.Perm M) (hr:Qeh (T.map Sd.nm)) (hl:T.length<=1000) (hz:∀ s∈T,s.nm.size<=maxLen) :
  Calls prog 23 #[.agg (Qbw p mb)] w fun e w'=>∃ v,e=.returned (.agg (Qae v p))/\OwnD w' w.heap.size v T/\Bw w w':=by
 obtain ⟨i0,hi,aB,au,ax⟩:=QoB;obtain ⟨N,hN⟩:∃ N,T.length=N:=⟨_,rfl⟩;have am:=hM.lt;have aw:=Qaa am;have ac:=Qaa (PiI.start (T:=T) p hM);have HN:=Qaa hN;have HT:=Qaa hT;have HR:=Qaa hr;have HZ:=Qaa hz;have aD:N<=1000:=oB
 clear hM hT hr hz am hN hl;go_enter func23,ntmps23;go_upto_region 2 with fail;generalize ((w.alloc _).alloc _).alloc _=W0 at ac ⊢;obtain ⟨r0,r1,r2,r3,r4⟩:=Qbf ac.x0;go_wp2_with fail;clear r0 r1 r2 r3 r4;refine (QjW p ac.mp HR (HT.map _) (by rw [<- HT.length_eq,HN.out];omega)).mono ?_;rintro e w1 ⟨vn,rfl,ho,ak⟩;have ao:=Qaa (ac.past ak);have ah:w.heap.size+1+1+1<=W0.heap.size:=(ZZc.1 ac.x2).1;obtain ⟨an,cn,rfl⟩:=QcR ho;have aj:(T.map Sd.nm).length=N:=by rw [yA];exact HN.out
 rw [aj] at ho ⊢;have aA:=Qaa aj;have af:=Qaa ho;generalize W0.heap.size=lo at af ah;have al:=Qaa ah;clear ho ak ac aj ah W0;go_wp2
 go_loopw [22] (fun i wr=>∃ (k:Nat) (v:Value),k<=N/\i=.int .i64 k/\Hid (PiI w wr mb n M T p k v)/\Hid (OwnT wr lo (.slice an N cn) (T.map Sd.nm))) (fun i wr=>N - (Go.RowKit.intOf i).toNat)
 case atStart=>exact ⟨0,_,ZZj _,rfl,ao,af⟩
 case round=>
  clear ao af;obtain ⟨k,v,hk,rfl,HI,HO⟩:=hrel;by_cases aC:k<N
  ·have ag:(k:Int)<(N:Int):=by omega
   obtain ⟨s,hs⟩:∃ s,T[k]?=some s:=⟨T[k]'(oA HN.out),ZZe _⟩;obtain ⟨gn,rfl,n0⟩:=Qkk HO aA (show (T.map Sd.nm)[k]?=some s.nm by rw [List.getElem?_map,hs];rfl);have HS:=Qaa hs;have ap:=HI.mp.look (HT.mem_iff.1 (ZZn hs)) (HZ.out s (ZZn hs));have p0:=(Qbf HI.x2).1;have l4:=(Qbf HI.x0).2.2.2.2;have NL:Hid ((T.take k).length=k):=Qaa (by rw [List.length_take,HN.out];omega);have OW:Hid (wr.ownsRow (w.heap.size+1+1+1) 71 2 v k (flS (T.take k))):=by have o:=HI.o;unfold OwnD at o;rw [NL.out] at o;exact Qaa o
   have aE:=Qaa (Nat.le_trans al (ZZa lo));have aF:w.heap.size+1+1+1<=wr.heap.size:=(ZZc.1 HI.x2).1;clear hs;go_wp2_with (at_builtin;refine wpList_append_own _ rfl _ _ 23 rfl (w.heap.size+1+1+1) 71 i0 (.agg zAe) 2 40 underlying23 hi aB au ax rfl oF _ _ _ rfl (World.ownsRow.alloc OW _) ⟨wr.heap.size,0,none⟩ 1 1 (sdL s) rfl rfl ?c1 ?c2 ?c3 ?c4 ?c5 ?_)
   case c1=>exact Qh1
   case c2=>exact QpW s
   case c3=>unfold maxLen;omega
   case c4=>omega
   case c5=>simp;omega
   intro v' w1 ab aa _;obtain ⟨av,cv,rfl⟩:∃ ar cr,v'=.slice ar (k+1) cr:=Qan ab;have ae:Bw wr (wr.alloc (.cells (QaS s) 71)):=bAA;have ay:=Qaa (HI.step HS aw ae (by rw [NL.out];exact ab) aa);have z2:w1.heap[w.heap.size+1+1]?=some (.cells (Qae v p) 25 (0,0)):=(aa.block _ oH (fun e=>by have:=(World.ownsRow.lt OW _ e.symm).1;omega)).trans (Qag HI.x2 ae);have y0:=Qay z2 0 rfl;have f0:=fzR 0 z2
   have az:Hid (OwnT (w1.setCell ⟨w.heap.size+1+1,0,none⟩ (.slice av (k+1) cv)) lo (.slice (some ⟨gn,0,none⟩) N cn) (T.map Sd.nm)):=by
    have o1:=HO.out;have aq:=(World.ownsRow.lt o1 gn rfl).1;have o2:OwnT (wr.alloc (.cells (QaS s) 71)) lo (.slice (some ⟨gn,0,none⟩) N cn) (T.map Sd.nm):=World.ownsRow.alloc o1 _;have o3:OwnT w1 lo (.slice (some ⟨gn,0,none⟩) N cn) (T.map Sd.nm):=o2.kept aa (fun j q e=>Ty.ne (Qcj o1) (Qcj OW) oF j e q)
    exact Qaa (o3.kept (Qah w1 _ 0 _) (fun j q e=>by
     have:=(World.ownsRow.lt o3 j e).1;injection q with q;have:=al.out;omega))
   clear ab aa z2 ae ap p0 l4 n0 OW;go_wp2;go_roundw
   case rel=>exact ⟨k+1,_,by omega,by go_num,ay,az⟩
   case measure=>simp [zI];omega
  ·have ag:¬ (k:Int)<(N:Int):=by omega
   obtain ⟨av,cv,rfl,_⟩:=HI.o.form;have NL:(T.take k).length=k:=by rw [List.length_take,HN.out];omega
   rw [NL] at HI;have R1:=HI.x1;have R2:=HI.x2
   have ad:Hid (OwnD wr w.heap.size (.slice av k cv) T/\Bw w wr):=by
    have o:=HI.o;rw [List.take_of_length_le (oA HN.out)] at o;exact Qaa ⟨o.le oB,HI.b⟩
   have ai:Hid (∀ j,(Value.slice av k cv).ownBlock=some j->w.heap.size+1+1+1<=j):=fun j q=>(World.ownsRow.lt HI.o j q).1;obtain ⟨z0,z1,z2,z3,z4⟩:=Qbf R2;obtain ⟨y0,y1,y2,y3,y4⟩:=Qbf R1;obtain ⟨f0,f1,f2,f3,f4⟩:=fA5 R1;clear R1 R2 HI;go_wp2;refine bodyPost_ret (v:=.agg (Qae (.slice av k cv) p)) (by simp [results,results23,go_sem,y0,y1,y2,y3,y4]) rfl ⟨_,rfl,?_,?_⟩
   ·have st:∀ (W:World) (j:Nat) (u:Value),OwnD W w.heap.size (.slice av k cv) T->OwnD (W.setCell ⟨w.heap.size+1,j,none⟩ u) w.heap.size (.slice av k cv) T:=fun W j u o=>by
     refine World.ownsRow.kept o (Qah W _ j u) ?_
     cases q:(Value.slice av k cv).ownBlock with
     | none=>exact .inl rfl
     | some i=>exact .inr (fun e=>by have:=ai.out i q;injection e with e;omega)
    repeat (refine st _ _ _ ?_)
    exact ad.1
   ·repeat (refine Below.setCell ?_ oJ _)
    exact ad.2
structure LcI (w wr:World) (ao:Option Addr) (N ca:Nat) (S:List Sd) (p:Pi) (k:Nat) (v:Value) (M:List Sd):Prop where
 x0:wr.heap[w.heap.size]?=some (.cells (Qae (.slice ao N ca) p) 25 (0,0))
 x1:wr.heap[w.heap.size+1]?=some (.cells QbE 25 (0,0))
 x2:wr.heap[w.heap.size+1+1]?=some (.cells (Qae v p) 25 (0,0))
 r:OwnD wr (w.heap.size+1+1+1) v M
 o:LvO wr (w.heap.size+1+1+1) M
 ky:M.map Sd.key=(S.take k).map Sd.key
 b:Bw w wr
section
variable {w wr W w1 w3:World} {ao:Option Addr} {N ca k:Nat} {S M:List Sd} {p:Pi} {v v':Value}
theorem LcI.past (h:LcI w wr ao N ca S p k v M) (hb:Bw wr W):LcI w W ao N ca S p k v M:=
 ⟨Qag h.x0 hb,Qag h.x1 hb,Qag h.x2 hb,h.r.past hb,h.o.past hb,h.ky,Qac h.b hb⟩
theorem LcI.len (h:LcI w wr ao N ca S p k v M) (hN:S.length=N) (hk:k<=N):M.length=k:=by
 have:=congrArg List.length h.ky;simp at this;omega
theorem LcI.far (h:LcI w wr ao N ca S p k v M):∀ j,v.ownBlock=some j->w.heap.size+1+1+1<=j:=fun j q=>(World.ownsRow.lt h.r j q).1
theorem LcI.rows (h:LcI w wr ao N ca S p k v M) (hb:Bw wr W) (hg:W.grownBy w3 v.ownBlock):w3.heap[w.heap.size]?=some (.cells (Qae (.slice ao N ca) p) 25 (0,0))/\w3.heap[w.heap.size+1]?=some (.cells QbE 25 (0,0))/\w3.heap[w.heap.size+1+1]?=some (.cells (Qae v p) 25 (0,0)):=by
 have hW:=h.past hb;have aa:∀ {r:Nat} {o:Obj},r<w.heap.size+1+1+1->W.heap[r]?=some o->w3.heap[r]?=some o:=fun {r o} hr q=>(hg.block r (ZZc.1 q).1 (fun e=>by have:=h.far r e.symm;omega)).trans q;exact ⟨aa oB hW.x0,aa oB hW.x1,aa oB hW.x2⟩
theorem LcI.step {s t:Sd} (h:LcI w wr ao N ca S p k v M) (hs:S[k]?=some s) (e:t.key=s.key) (hb1:Bw wr w1) (hr:OwnC w1 wr.heap.size (slS t) t.L) (ho:CesO w1 wr.heap.size t.L) (hbW:Bw w1 W)
  (hown:w3.ownsRow (w.heap.size+1+1+1) 71 2 v' (M.length+1) (flS M ++ sdL t)) (hg:W.grownBy w3 v.ownBlock):LcI w (w3.setCell ⟨w.heap.size+1+1,0,none⟩ v') ao N ca S p (k+1) v' (M ++ [t]):=by
 have aa:=Qac hb1 hbW;obtain ⟨z0,z1,z2⟩:=h.rows aa hg;have hW:=h.past aa;have af:w.heap.size+1+1+1<=wr.heap.size:=(ZZc.1 h.x2).1;have ac:∀ {r:Nat},r≠w.heap.size+1+1->(w3.setCell ⟨w.heap.size+1+1,0,none⟩ v').heap[r]?=w3.heap[r]?:=fun {r} hr=>heap_setCell_other _ _ _ _ (by simpa using fun e=>hr e);have ab:=Qah w3 (w.heap.size+1+1) 0 v';have oS:OwnD w3 (w.heap.size+1+1+1) v' (M ++ [t]):=OwnD.add hown;have oL:LvO W (w.heap.size+1+1+1) (M ++ [t]):=(h.o.add hb1 af hr ho).past hbW;have ad:GrownS W w3 (fun k=>v.ownBlock=some k):=⟨hg.os,hg.tape,hg.output,hg.size,fun k hk hn=>hg.block k hk (fun e=>hn e.symm)⟩;have ae:LvO w3 (w.heap.size+1+1+1) (M ++ [t]):=oL.keptS ad (fun s hs k q=>hW.r.neB oL hs k q);refine ⟨(ac oB).trans z0,(ac oB).trans z1,ZZl w3 _ 0 _ _ v' z2,?_,ae.grown ab oB,Qny h.ky hs e,?_⟩
 ·refine World.ownsRow.kept oS ab ?_
  cases q:v'.ownBlock with
  | none=>exact .inl rfl
  | some j=>exact .inr (fun e=>by have:=(World.ownsRow.lt oS j q).1;injection e with e;omega)
 ·exact (hW.b.grown hg hW.b.size (fun j hj=>by have:=h.far j hj;omega)).setCell OZ _
theorem LcI.start (hA:True):LcI w (((w.alloc (.cells (Qae (.slice ao N ca) p) 25)).alloc (.cells QbE 25)).alloc (.cells (Qae (.slice none 0 0) p) 25)) ao N ca S p 0 (.slice none 0 0) []:=by
 have a1:∀ (X:World) o,Bw X (X.alloc o):=fun X o=>bAA;have k0:=ZZk w (.cells (Qae (.slice ao N ca) p) 25);have k1:=ZZk (w.alloc (.cells (Qae (.slice ao N ca) p) 25)) (.cells QbE 25);have k2:=ZZk ((w.alloc (.cells (Qae (.slice ao N ca) p) 25)).alloc (.cells QbE 25)) (.cells (Qae (.slice none 0 0) p) 25);simp only [World.size_alloc] at k1 k2;exact ⟨((a1 _ _).block _ oH).trans (((a1 _ _).block _ oE).trans k0),((a1 _ _).block _ oE).trans k1,k2,OwnD.nil _ _,LvO.nil _ _,by simp,Qac (Qac (a1 _ _) (a1 _ _)) (a1 _ _)⟩
end
structure CpP (w w':World) (S:List Sd) (v:Value) (M:List Sd):Prop where
 r:OwnD w' w.heap.size v M
 o:LvO w' w.heap.size M
 ky:M.map Sd.key=S.map Sd.key
 b:Bw w w'
def CpA (w:World) (S:List Sd) (p:Pi) (e:Ending) (w':World):Prop:=∃ v M,e=.returned (.agg (Qae v p))/\CpP w w' S v M
theorem Qh5 (h:w.cell? ⟨b,j,none⟩=some u):b<w.heap.size:=by
 exact mCx
theorem Qos (hg:w.grownBy w' r) (hne:some b≠r) (h:w.cell? ⟨b,j,none⟩=some u):w'.cell? ⟨b,j,none⟩=some u:=by
 have hb:b<w.heap.size:=by
  exact mCx
 have e:=hg.block b hb hne;simp only [World.cell?] at h ⊢;rw [e];exact h
theorem CpP.sets (far:∀ j,v.ownBlock=some j->w.heap.size+1+1+1<=j) (ho:LvO wr (w.heap.size+1+1+1) M) (h:CpP w wr S v M):CpP w (((((wr.setCell ⟨w.heap.size+1,0,none⟩ v0).setCell ⟨w.heap.size+1,1,none⟩ v1).setCell ⟨w.heap.size+1,2,none⟩ v2).setCell ⟨w.heap.size+1,3,none⟩ v3).setCell ⟨w.heap.size+1,4,none⟩ v4) S v M:=by
 have st:∀ (W:World) (j:Nat) (u:Value),OwnD W w.heap.size v M->OwnD (W.setCell ⟨w.heap.size+1,j,none⟩ u) w.heap.size v M:=fun W j u o=>by
  refine World.ownsRow.kept o (Qah W _ j u) ?_
  cases q:v.ownBlock with
  | none=>exact .inl rfl
  | some i=>exact .inr (fun e=>by have:=far i q;injection e with e;omega)
 have sl:∀ (W:World) (j:Nat) (u:Value),LvO W (w.heap.size+1+1+1) M->LvO (W.setCell ⟨w.heap.size+1,j,none⟩ u) (w.heap.size+1+1+1) M:=fun W j u o=>o.grown (Qah W _ j u) oB;refine ⟨?_,LvO.le ?_ (by omega:w.heap.size<=w.heap.size+1+1+1),h.ky,?_⟩
 ·repeat (refine st _ _ _ ?_)
  exact h.r
 ·repeat (refine sl _ _ _ ?_)
  exact ho
 ·repeat (refine Below.setCell ?_ xE _)
  exact h.b
theorem QgV (p:Pi) (hI:PpI w ao N S) :
  Calls prog 25 #[.agg (Qae (.slice ao N ca) p)] w fun e w'=>CpA w S p e w':=by
 obtain ⟨i0,hi,aH,aI,aF⟩:=QoB;have HI:=Qaa hI;have aO:N<=1048576:=by have:=hI.n;have:=hI.sm.n;omega
 have am:=Qaa (LcI.start (w:=w) (ao:=ao) (N:=N) (ca:=ca) (S:=S) (p:=p) trivial);clear hI;go_enter func25,ntmps25;go_upto_region 3 with fail;generalize ((w.alloc _).alloc _).alloc _=W0 at am ⊢;go_wp2
 go_loopw [4] (fun i wr=>∃ (k:Nat) (v:Value) (M:List Sd),k<=N/\i=.int .i64 k/\Hid (LcI w wr ao N ca S p k v M)) (fun i wr=>N - (Go.RowKit.intOf i).toNat)
 case atStart=>exact ⟨0,_,[],ZZj _,rfl,am⟩
 case round=>
  clear am;obtain ⟨k,v,M,hk,rfl,HL⟩:=hrel;by_cases aN:k<N
  ·have aq:(k:Int)<(N:Int):=by omega
   obtain ⟨s,hs⟩:∃ s,S[k]?=some s:=⟨S[k]'(oA HI.n),ZZe _⟩;obtain ⟨b,aa,e,ad⟩:=HI.at'.1 (oA HI.n);subst e;have HS:=Qaa hs;have hm:=ZZn hs;have HM:=Qaa hm;have aM:=Qaa (HL.len HI.n hk);have aD:Hid (b<w.heap.size):=Qaa (Qh5 (ad k s hs).1);have ab:Hid ((fun W1:World=>W1.heap[w.heap.size]?=some (.cells (Qae (.slice (some ⟨b,aa,none⟩) N ca) p) 25 (0,0))/\W1.heap[w.heap.size+1+1]?=some (.cells (Qae v p) 25 (0,0))/\Qfb W1 b (aa+k*2) s) wr.drew):=⟨HL.x0,HL.x2,QbJ (ad k s hs) HL.b.drew⟩;have a0:=(Qbf HL.x0).1;clear hs hm;go_upto_region 6 with fail;clear a0;have ai:Hid (LcI w wr.drew (some ⟨b,aa,none⟩) N ca S p k v M):=Qaa (HL.past (ZZb _ _).drew);have aL:Hid (Bw wr wr.drew):=(ZZb _ _).drew;refine Qal (fun W1:World=>W1.heap[w.heap.size]?=some (.cells (Qae (.slice (some ⟨b,aa,none⟩) N ca) p) 25 (0,0))/\W1.heap[w.heap.size+1+1]?=some (.cells (Qae v p) 25 (0,0))/\Qfb W1 b (aa+k*2) s) 19 oG ?_;generalize wr.drew=X0 at ai ab aL ⊢;refine tkS 0 (.pointer (some ⟨w.heap.size+1+1,0,none⟩)) ab ?_;refine tkL 1 v ab (fun W hW=>?_) ?_
   ·obtain ⟨s0,s1,s2⟩:=hW
    have c2:=(Qbf s1).1;go_simp
   refine tkS 2 (.pointer (some ⟨w.heap.size,0,none⟩)) ab ?_;simp only [sX];refine tkL 3 (.slice (some ⟨b,aa,none⟩) N ca) ab (fun W hW=>?_) ?_
   ·obtain ⟨s0,s1,s2⟩:=hW
    have c0:=(Qbf s0).1;go_simp
   refine tkS 4 (.int .i64 (k:Int)) ab ?_;refine tkS 5 (.pointer (some ⟨b,aa+k*2,none⟩)) ab ?_;simp only [sX];refine tkS 6 (.pointer (some ⟨b,aa+k*2,none⟩)) ab ?_;refine tkL 7 (.string s.nm) ab (fun W hW=>?_) ?_
   ·obtain ⟨s0,s1,s2⟩:=hW
    obtain ⟨e0,e1⟩:=s2;go_simp
   refine tkS 8 (.pointer (some ⟨w.heap.size,0,none⟩)) ab ?_;simp only [sX];refine tkL 9 (.slice (some ⟨b,aa,none⟩) N ca) ab (fun W hW=>?_) ?_
   ·obtain ⟨s0,s1,s2⟩:=hW
    have c0:=(Qbf s0).1;go_simp
   refine tkS 10 (.int .i64 (k:Int)) ab ?_;refine tkS 11 (.pointer (some ⟨b,aa+k*2,none⟩)) ab ?_;simp only [sX];refine tkS 12 (.pointer (some ⟨b,aa+k*2+1,none⟩)) ab ?_;refine tkL 13 (.slice s.ao s.L.length s.cp) ab (fun W hW=>?_) ?_
   ·obtain ⟨s0,s1,s2⟩:=hW
    obtain ⟨e0,e1⟩:=s2;go_simp
   simp only [sX];refine onE 14 fun K hK=>?_;go_simp;refine (Qca rfl (HI.sm.l s HM) (HI.sm.sm s HM) (fun c hc=>(HI.ok s HM c hc).2.2) (QaL (HI.at'.2 s HM) ai.b)).mono ?_;rintro e w1 ⟨v1,L1,rfl,ap,aB,aw,aj,_⟩;obtain ⟨a1,c1,rfl,_⟩:=ap.form;have aE:=Qaa ap;have aK:=Qaa aB;have aJ:Hid (Sd.key ⟨s.nm,L1,a1,c1⟩=s.key):=by show (s.nm,L1.map Ce.key)=(s.nm,s.L.map Ce.key);rw [aw]
   have aC:=Qaa aj;have ah:=Qaa (ai.past aj);have an:Hid ((fun W1:World=>W1.heap[w.heap.size]?=some (.cells (Qae (.slice (some ⟨b,aa,none⟩) N ca) p) 25 (0,0))/\W1.heap[w.heap.size+1+1]?=some (.cells (Qae v p) 25 (0,0))/\Qfb W1 b (aa+k*2) s) w1):=⟨ah.x0,ah.x2,QbJ ab.2.2 aj⟩;clear ap aB aw aj;dsimp only;refine gK hK an.out ?_
   try simp only [sX]
   refine tkS 15 (.agg (QaS ⟨s.nm,L1,a1,c1⟩)) an ?_;simp only [sX];refine onE 16 fun K hK=>?_;go_simp;have ak:Bw w1 (w1.alloc (.cells (QaS ⟨s.nm,L1,a1,c1⟩) 71)):=bAA;have az:=Qaa ak;have af:=Qaa (ah.past ak);have ax:Hid ((fun W1:World=>W1.heap[w.heap.size]?=some (.cells (Qae (.slice (some ⟨b,aa,none⟩) N ca) p) 25 (0,0))/\W1.heap[w.heap.size+1+1]?=some (.cells (Qae v p) 25 (0,0))/\Qfb W1 b (aa+k*2) s) (w1.alloc (.cells (QaS ⟨s.nm,L1,a1,c1⟩) 71))):=⟨af.x0,af.x2,QbJ an.2.2 ak⟩;refine gK hK ax.out ?_;clear ak
   try simp only [sX]
   refine onE 17 fun K hK=>?_;rw [if_pos oR];have ml:=aM.out;have ow:=af.r;unfold OwnD at ow;have ay:w.heap.size+1+1+1<=(w1.alloc (.cells (QaS ⟨s.nm,L1,a1,c1⟩) 71)).heap.size:=(ZZc.1 af.x2).1;refine wp_append_own _ (.tmp 15) (.tmp 30) 23 rfl (w.heap.size+1+1+1) 71 i0 (.agg zAe) 2 40 underlying23 hi aH aI aF rfl oF _ _ _ rfl ow ⟨w1.heap.size,0,none⟩ 1 1 (sdL ⟨s.nm,L1,a1,c1⟩) rfl rfl Qh1 (QpW _) oC oB ay ?_;intro v8 w8 ae ac _;obtain ⟨a8,c8,rfl⟩:∃ ar cr,v8=.slice ar (M.length+1) cr:=Qan ae;obtain ⟨g0,g1,g2⟩:=ah.rows az ac;have HF:=Qaa (ai.step (t:=⟨s.nm,L1,a1,c1⟩) HS aJ aC aE aK az ae ac)
   have aA:Hid ((fun W1:World=>W1.heap[w.heap.size]?=some (.cells (Qae (.slice (some ⟨b,aa,none⟩) N ca) p) 25 (0,0))/\W1.heap[w.heap.size+1+1]?=some (.cells (Qae v p) 25 (0,0))/\Qfb W1 b (aa+k*2) s) w8):=⟨g0,g2,by
    have q:=ax.2.2;have qb:b<w.heap.size:=aD.out;have far:=af.far;have ne:some b≠v.ownBlock:=fun e=>by have:=far b e.symm;omega
    have kp:∀ j u,(w1.alloc (.cells (QaS ⟨s.nm,L1,a1,c1⟩) 71)).cell? ⟨b,j,none⟩=some u->w8.cell? ⟨b,j,none⟩=some u:=fun j u h=>Qos ac ne h;exact ⟨kp _ _ q.1,kp _ _ q.2⟩⟩
   have ag:=Qaa g2;clear ae ac ow ml ay g0 g1 g2;refine gK hK aA.out ?_
   try simp only [sX]
   refine tkS 18 (.pointer (some ⟨w.heap.size+1+1,0,none⟩)) aA ?_;simp only [sX];have q0:=Qay ag 0 rfl;have f0:=fzR 0 ag;refine onE 19 fun K hK=>?_;go_simp;clear q0 f0;refine hK.out _ _ (fun h=>absurd rfl h) ?_
   try simp only [sX]
   refine dnE ?_ _;go_wp2;go_roundw
   case rel=>exact ⟨k+1,_,_,by omega,by first | rfl | go_num,HF⟩
   case measure=>simp [zI];omega
  ·have aq:¬ (k:Int)<(N:Int):=by omega
   obtain ⟨av,cv,rfl,_⟩:=HL.r.form;have R1:=HL.x1;have R2:=HL.x2
   have al:Hid (CpP w wr S (.slice av M.length cv) M):=by
    have ky:=HL.ky;rw [List.take_of_length_le (oA HI.n)] at ky;exact Qaa ⟨HL.r.le oB,HL.o.le oB,ky,HL.b⟩
   have au:=Qaa HL.far;have aG:=Qaa HL.o;obtain ⟨z0,z1,z2,z3,z4⟩:=Qbf R2;obtain ⟨y0,y1,y2,y3,y4⟩:=Qbf R1;have a0:=(Qbf HL.x0).1;obtain ⟨f0,f1,f2,f3,f4⟩:=fA5 R1;clear R1 R2 HL;go_wp2;refine bodyPost_ret (v:=.agg (Qae (.slice av M.length cv) p)) (by simp [results,results25,go_sem,y0,y1,y2,y3,y4]) rfl ⟨_,M,rfl,?_⟩;exact CpP.sets au aG al
noncomputable def Qf5 (S:List Sd) (p:Pi) (n:Int):Pi:=if Qbq S p=true/\0<=n/\n<=1000000000 - p.c then { p with c:=p.c+n } else p
structure CqI (w wr:World) (S:List Sd) (p:Pi) (k:Nat) (v:Value) (M:List Sd):Prop where
 x0:wr.heap[w.heap.size]?=some (.cells (Qae v p) 25 (0,0))
 x1:wr.heap[w.heap.size+1]?=some (.cells QbE 25 (0,0))
 r:OwnD wr (w.heap.size+1+1) v M
 o:LvO wr (w.heap.size+1+1) (M.take k)
 dr:M.drop k=S.drop k
 ky:M.map Sd.key=S.map Sd.key
 b:Bw w wr
theorem CpP.sets2 (far:∀ j,v.ownBlock=some j->w.heap.size+1+1<=j) (ho:LvO wr (w.heap.size+1+1) M) (h:CpP w wr S v M):CpP w (((((wr.setCell ⟨w.heap.size+1,0,none⟩ v0).setCell ⟨w.heap.size+1,1,none⟩ v1).setCell ⟨w.heap.size+1,2,none⟩ v2).setCell ⟨w.heap.size+1,3,none⟩ v3).setCell ⟨w.heap.size+1,4,none⟩ v4) S v M:=by
 exact mAr
variable {p:Pi}
theorem Qu1 (h:Qbq S p=true):(1<=p.a/\p.a<=1000)/\(0<=p.b/\p.b<=1000)/\(0<=p.c/\p.c<=1000000000)/\0<=p.d/\p.d<=1000000000:=by
 unfold Qbq at h;simp only [yB] at h;have h1:=h.1;unfold Qg2 inB at h1;simp only [yB,decide_eq_true_eq] at h1;omega
theorem QsC {n:Int} (h:Qbq S p=true) (h0:0<=n) (h1:n<=1000000000 - p.c):Qf5 S p n={ p with c:=p.c+n }:=by unfold Qf5;rw [if_pos ⟨h,h0,h1⟩]
theorem Qls {n:Int} (h:Qbq S p=false∨¬ 0<=n∨¬ n<=1000000000 - p.c):Qf5 S p n=p:=by
 unfold Qf5;rw [if_neg];rintro ⟨a,b,c⟩;rcases h with h | h | h
 ·rw [h] at a;cases a
 ·exact h b
 ·exact h c
theorem CpP.from (h:CpP W w' S v M) (hb:Bw w W):CpP w w' S v M:=⟨h.r.le hb.size,h.o.le hb.size,h.ky,Qac hb h.b⟩
theorem CpP.past (h:CpP w w' S v M) (hb:Bw w' W):CpP w W S v M:=⟨h.r.past hb,h.o.past hb,h.ky,Qac h.b hb⟩
def TkQ (w:World) (L mb:Nat) (p:Pi) (n:Int) (w':World):Prop:=∃ q:Pi,w'.heap[L]?=some (.cells (Qbw q mb) 62 (0,0))/\w.grownBy w' (some L)/\(0<=n->n<=1000000000 - p.c->q={ p with c:=p.c+n })/\(¬ 0<=n∨¬ n<=1000000000 - p.c->q=p)
theorem CpP.fin {W0 w1:World} (h:CpP W0 w1 S v M) (hT:Bw w W0) (hlo:w.heap.size+1+1<=W0.heap.size) (hb:Bw w1 W):CpP w W S v M/\LvO W (w.heap.size+1+1) M/\∀ j,v.ownBlock=some j->w.heap.size+1+1<=j:=
 ⟨(h.past hb).from hT,((h.past hb).o.le hlo),fun j q=>Nat.le_trans hlo (World.ownsRow.lt h.r j q).1⟩
theorem QfJ (p:Pi) (n:Int) (hI:PpI w ao N S) :
  Calls prog 16 #[.agg (Qae (.slice ao N ca) p),.int .i64 n] w fun e w'=>CpA w S (Qf5 S p n) e w':=by
 have HI:=Qaa hI;have a1:∀ (X:World) o,Bw X (X.alloc o):=fun X o=>bAA;have k0:=ZZk w (.cells (Qae (.slice ao N ca) p) 25);have k1:=ZZk (w.alloc (.cells (Qae (.slice ao N ca) p) 25)) (.cells QbE 25);simp only [World.size_alloc] at k1;have an:=Qaa (Qag k0 (a1 _ (.cells QbE 25)));have aq:=Qaa k1;have ap:=Qaa (Qac (a1 w (.cells (Qae (.slice ao N ca) p) 25)) (a1 _ (.cells QbE 25)));clear hI a1 k0 k1;go_enter func16,ntmps16;go_upto_region 1 with fail;generalize (w.alloc _).alloc _=W0 at an aq ap ⊢;have ay:w.heap.size+1+1<=W0.heap.size:=(ZZc.1 aq).1;have ax:=Qaa ay;clear ay;obtain ⟨x0,x1,x2,x3,x4⟩:=Qbf an;go_wp2_with fail;clear x0 x1 x2 x3 x4;refine (QgV p (HI.past ap)).mono ?_;rintro e w1 ⟨v,M,rfl,hC⟩;obtain ⟨av,cv,rfl,_⟩:=hC.r.form;have al:Bw w1 (w1.alloc (.cells (Qae (.slice av M.length cv) p) 25)):=bAA;have HC:=Qaa hC;have aw:=Qaa al;have HY:=Qaa (ZZk w1 (.cells (Qae (.slice av M.length cv) p) 25));have af:=Qaa (Qag (Qag an hC.b) al);have ah:=Qaa (Qag (Qag aq hC.b) al);have au:=Qaa (Qac (Qac ap hC.b) al);clear hC al an aq;go_upto_region 2 with fail;generalize w1.alloc _=W1 at aw HY af ah au ⊢;obtain ⟨x0,x1,x2,x3,x4⟩:=Qbf af;go_wp2_with fail;clear x0 x1 x2 x3 x4;refine (Qbr p HI.n HI.sm HI.ok (QaM HI.at' au)).mono ?_;rintro e w2 ⟨rfl,am⟩;have ak:=Qaa (Qag HY am);have ad:=Qaa (Qag af am);have ab:=Qaa (Qag ah am);have aa:=Qaa (Qac aw am);clear am HY af ah au aw;have ag:Hid (∀ (W:World) (q:Pi),Bw w1 W->Qf5 S p n=q->(CpP w W S (.slice av M.length cv) M/\LvO W (w.heap.size+1+1) M/\∀ j,(Value.slice av M.length cv).ownBlock=some j->w.heap.size+1+1<=j)/\Qf5 S p n=q):=fun W q hb e=>⟨HC.fin ap ax hb,e⟩;obtain ⟨x0,x1,x2,x3,x4⟩:=Qbf ad;obtain ⟨y0,y1,y2,y3,y4⟩:=Qbf ab;obtain ⟨z0,z1,z2,z3,z4⟩:=Qbf ak;obtain ⟨f0,f1,f2,f3,f4⟩:=fA5 ab;have g3:=fzR 3 ak
 cases hp:Qbq S p with
 | false=>
  obtain ⟨E1,E2⟩:=ag.out w2 p aa (Qls (.inl hp));have ac:=Qaa E1;have aj:=Qaa E2;clear E1 E2 ag ak ad ab aa hp;exact mBa
 | true=>
  have ai:=(Qu1 hp).2.2.1;have aA:IntKind.i64.wrap (1000000000 - p.c)=1000000000 - p.c:=ZZi _ ⟨by omega,by omega⟩;by_cases h0:0<=n
  ·have d0:decide (0<=n)=true:=ZZh h0
   by_cases h1:n<=1000000000 - p.c
   ·have d1:decide (n<=1000000000 - p.c)=true:=ZZh h1
    have az:IntKind.i64.wrap (p.c+n)=p.c+n:=ZZi _ ⟨by omega,by omega⟩;obtain ⟨E1,E2⟩:=ag.out (w2.setCell ⟨w1.heap.size,3,none⟩ (.int .i64 (p.c+n))) { p with c:=p.c+n } (aa.setCell (ZZa _) _) (QsC hp h0 h1);have ac:=Qaa E1;have ar:=ZZl w2 w1.heap.size 3 _ _ (.int .i64 (p.c+n)) ak;have aB:w.heap.size+1≠w1.heap.size:=by have:=(ZZc.1 ab).1;have:=ax.out;have:=HC.b.size;omega
    have ae:(w2.setCell ⟨w1.heap.size,3,none⟩ (.int .i64 (p.c+n))).heap[w.heap.size+1]?=some (.cells QbE 25 (0,0)):=(heap_setCell_other _ _ _ _ (by simpa using aB)).trans ab;have aj:=Qaa E2;go_upto_region 4 with fail;clear x0 x1 x2 x3 x4 y0 y1 y2 y3 y4 z0 z1 z2 z3 z4 f0 f1 f2 f3 f4 g3 E1 E2 ag aA az d0 d1;generalize w2.setCell ⟨w1.heap.size,3,none⟩ (.int .i64 (p.c+n))=W3 at ac ar ae ⊢;obtain ⟨y0,y1,y2,y3,y4⟩:=Qbf ae;obtain ⟨z0,z1,z2,z3,z4⟩:=Qbf ar;obtain ⟨f0,f1,f2,f3,f4⟩:=fA5 ae;clear ar ae ak ad ab aa hp ai h0 h1;go_wp2;refine bodyPost_ret (v:=.agg (Qae (.slice av M.length cv) { p with c:=p.c+n })) (by simp [results,results16,go_sem,y0,y1,y2,y3,y4]) rfl ⟨.slice av M.length cv,M,by rw [aj.out],?_⟩;exact CpP.sets2 ac.2.2 ac.2.1 ac.1
   ·have d1:decide (n<=1000000000 - p.c)=false:=ZZg h1
    obtain ⟨E1,E2⟩:=ag.out w2 p aa (Qls (.inr (.inr h1)));have ac:=Qaa E1;have aj:=Qaa E2;clear E1 E2 ag ak ad ab aa hp ai;exact mBa
  ·have d0:decide (0<=n)=false:=ZZg h0
   obtain ⟨E1,E2⟩:=ag.out w2 p aa (Qls (.inr (.inl h0)));have ac:=Qaa E1;have aj:=Qaa E2;clear E1 E2 ag ak ad ab aa hp ai;exact mBa
end Go.Proofs.YtioohanfodmddaaGreatDoor
