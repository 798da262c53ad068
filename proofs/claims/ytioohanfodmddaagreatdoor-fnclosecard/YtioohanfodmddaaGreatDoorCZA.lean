/-
 Parts.
-/
import Derived.Test.YtioohanfodmddaaGreatDoorCYM
set_option maxRecDepth 10000
set_option linter.all false
namespace Go.Proofs.YtioohanfodmddaaGreatDoor
open Go.ChangeShapes Go.WideShapes Go.ChangeAt Go.RowKit Go.PlainAid Go.Lib Go.Maps
variable {d s:Sd}
theorem HoldsS.put_old {D:DataW Value} {B:List Sd} (h:HoldsS D (d :: B)) (t:Tidy D) (e:d.nm=s.nm):HoldsS (D.put (Qda s.nm) (Qoo s)) (s :: B):=by
 obtain ⟨a1,a2⟩:=List.pairwise_cons.1 h.ap;have hn:∀ x∈B,x.nm≠s.nm:=fun x hx q=>a1 x hx (e.trans q.symm);have hh:Maps.has D (Qda s.nm)=true:=by rw [<- e];exact h.some oE
 refine ⟨List.pairwise_cons.2 ⟨fun x hx q=>hn x hx q.symm,a2⟩,fun x hx z=>?_,fun u q=>?_,?_⟩
 ·rcases List.mem_cons.1 hx with rfl | hx
  ·exact atKey_put_same t.isMap (Qlq _) _ z
  ·rw [atKey_put_other (fun q=>hn x hx (Qfd q))];exact h.val x (ZZm _ hx) z
 ·by_cases q2:Qda u=Qda s.nm
  ·exact ⟨s,by simp,(Qfd q2).symm⟩
  ·rw [has_put_other q2] at q
   obtain ⟨x,hx,e2⟩:=h.only u q;rcases List.mem_cons.1 hx with rfl | hx
   ·exact absurd (by rw [<- e2,e]) q2
   ·exact ⟨x,ZZm _ hx,e2⟩
 ·rw [size_put t,hh];simp [h.sz]
variable {w:World}
variable {B c n:Nat}
theorem MpS.put {b:Nat} {A R:List Sd} (h:MpS w b n (A ++ d :: R)) (e:d.nm=s.nm) (hz:s.nm.size<=maxLen) (hn:n<=1000000):∃ w',(Instr.mapUpdate 60 (.map (some b)) (.string s.nm) (.agg (QaS s))).run Tryz.prog w=.ok () w'/\MpS w' b (n+1) (A ++ s :: R)/\w.grownBy w' (some b):=by
 obtain ⟨D,hD,hH⟩:=h;obtain ⟨w',aa,r1,r2⟩:=hD.update Qkp Tryz.underlying60 oC (Qum hz) (show rS (.agg (QaS s))=some (.held (.agg (QaS s)),[]) from rfl);exact ⟨w',aa,⟨_,r1,((hH.perm List.perm_middle).put_old (hD.tidy Qkp) e).perm List.perm_middle.symm⟩,r2⟩
noncomputable def Qd5 (K:List ByteArray) (u:ByteArray) (c:Ce):Bool:=@decide (Qa2 K c.s u) (Classical.propDecidable _)
variable {K:List ByteArray}
variable {u:ByteArray}
theorem ownB_iff {c:Ce}:Qd5 K u c=true↔Qa2 K c.s u:=by unfold Qd5;exact @decide_eq_true_iff _ (Classical.propDecidable _)
theorem Quv {t:ByteArray} {c:Ce} (h:Qa2 K c.s u) (hne:t≠u):Qd5 K t c=false:=by
 cases q:Qd5 K t c
 ·rfl
 ·exact absurd (Qhl (ownB_iff.1 q) h) hne
def empS (u:ByteArray):Sd:=⟨u,[],none,0⟩
structure ShrL (K:List ByteArray) (L:List Ce) (X:List Sd):Prop where
 nm:X.map Sd.nm=K
 l:∀ s∈X,s.L=L.filter (Qd5 K s.nm)
variable {L:List Ce}
variable {X:List Sd}
theorem ShrL.keys (h:ShrL K L X):X.map Sd.key=K.map (fun u=>(u,(L.filter (Qd5 K u)).map Ce.key)):=by
 have e:K.map (fun u=>(u,(L.filter (Qd5 K u)).map Ce.key))=(X.map Sd.nm).map (fun u=>(u,(L.filter (Qd5 K u)).map Ce.key)):=by rw [h.nm]
 rw [e,List.map_map];refine List.map_congr_left (fun s hs=>?_)
 show (s.nm,s.L.map Ce.key)=_
 rw [h.l s hs]
 rfl
theorem QvM (h:L.Pairwise ApC) {x y:Ce} (hx:x∈L) (hy:y∈L) (hne:x≠y):ApC x y:=by
 obtain ⟨i,hi,rfl⟩:=List.getElem_of_mem hx;obtain ⟨j,hj,rfl⟩:=List.getElem_of_mem hy;rcases Nat.lt_trichotomy i j with q | q | q
 ·exact (List.pairwise_iff_getElem.1 h) i j hi hj q
 ·subst q;exact absurd rfl hne
 ·exact ((List.pairwise_iff_getElem.1 h) j i hj hi q).symm
theorem ShrL.own (h:ShrL K L X) (hK:Qeh K) (r:∀ s∈X,OwnC w B (slS s) s.L) (rap:X.Pairwise (fun s t=>ApV (slS s) (slS t))) (o:CesO w B L):LvO w B X:=by
 refine ⟨r,rap,fun c hc=>?_,?_⟩
 ·obtain ⟨s,hs,ab⟩:=Qbt hc
  rw [h.l s hs] at ab;exact o.o c (List.mem_filter.1 ab).1
 ·unfold QaK
  refine List.pairwise_flatMap.2 ⟨fun s hs=>?_,?_⟩
  ·rw [h.l s hs];exact o.ap.sublist List.filter_sublist
  ·have aa:(X.map Sd.nm).Pairwise (·≠·):=by rw [h.nm];exact QdI hK
   rw [List.pairwise_map] at aa;refine aa.imp_of_mem (fun {s t} hs ht hne x hx y hy=>?_);rw [h.l s hs] at hx;rw [h.l t ht] at hy;obtain ⟨x1,x2⟩:=List.mem_filter.1 hx;obtain ⟨y1,y2⟩:=List.mem_filter.1 hy;refine QvM o.ap x1 y1 (fun e=>?_);subst e;exact hne (Qhl (ownB_iff.1 x2) (ownB_iff.1 y2))
theorem grS {w':World} {r:Option Nat} (hg:w.grownBy w' r):GrownS w w' (fun k=>r=some k):=⟨hg.os,hg.tape,hg.output,hg.size,fun k hk hn=>hg.block k hk (fun e=>hn e.symm)⟩
structure SrJ (w wr:World) (mb n:Nat) (p:Pi) (vn:Value) (K:List ByteArray) (L:List Ce) (k:Nat) (X:List Sd):Prop where
 x0:wr.heap[w.heap.size]?=some (.cells (Qbw p mb) 62 (0,0))
 mp:MpS wr mb n X
 on:OwnT wr (w.heap.size+1) vn K
 g:GrownS w wr (fun k=>k=mb)
 sh:ShrL K (L.take k) X
 r:∀ s∈X,OwnC wr (w.heap.size+1) (slS s) s.L
 rap:X.Pairwise (fun s t=>ApV (slS s) (slS t))
section
variable {w wr W w5 w7:World} {mb n k bx:Nat} {p:Pi} {vn:Value} {K:List ByteArray} {L:List Ce} {X A R:List Sd} {s t:Sd} {c:Ce}
end
variable {ao:Option Addr}
theorem Qps {cp:Nat} (h:OwnT w B (.slice ao K.length cp) K):Qat w ao K:=fun h0=>by
 rcases h.2 with ⟨e,q⟩ | ⟨g,cap,cur,e,q1,q2⟩
 ·omega
 ·injection e with e1 e2 e3
  subst e1;exact QdX h h0
structure Sr1 (w wr:World) (mb n:Nat) (p:Pi) (vn:Value) (K:List ByteArray) (X:List Sd):Prop where
 x0:wr.heap[w.heap.size]?=some (.cells (Qbw p mb) 62 (0,0))
 mp:MpS wr mb n X
 on:OwnT wr (w.heap.size+1) vn K
 g:GrownS w wr (fun k=>k=mb)
def SrP (w w':World) (mb:Nat) (K:List ByteArray) (L:List Ce) (m:Nat):Prop:=∃ n X,n<=m/\MpS w' mb n X/\ShrL K L X/\(∀ s∈X,OwnC w' (w.heap.size+1) (slS s) s.L)/\X.Pairwise (fun s t=>ApV (slS s) (slS t))/\GrownS w w' (fun k=>k=mb)
abbrev Qax (v:Value) (q:Pi) (u:Value) (cd:Int):Array Value:=#[v,.int .i64 q.a,.int .i64 q.b,.int .i64 q.c,.int .i64 q.d,u,.int .i64 cd]
theorem QcH {r:Nat} {a b c d e f g:Value} {T:TypeId} (h:w.heap[r]?=some (.cells #[a,b,c,d,e,f,g] T (0,0))):w.cell? ⟨r,0,none⟩=some a/\w.cell? ⟨r,1,none⟩=some b/\w.cell? ⟨r,2,none⟩=some c/\w.cell? ⟨r,3,none⟩=some d/\w.cell? ⟨r,4,none⟩=some e/\w.cell? ⟨r,5,none⟩=some f/\w.cell? ⟨r,6,none⟩=some g:=⟨Qay h 0 rfl,Qay h 1 rfl,Qay h 2 rfl,Qay h 3 rfl,Qay h 4 rfl,Qay h 5 rfl,Qay h 6 rfl⟩
structure PoB (w:World) (lo hi:Nat) (v:Value) (M:List Sd) (u:Value) (C:List Ce):Prop where
 p:PpB w lo hi v M
 c:CsB w lo hi u C
 ap:∀ k,QjA v M k->¬ Qf2 u C k
def OBlk (v:Value) (M:List Sd) (u:Value) (C:List Ce) (k:Nat):Prop:=QjA v M k∨Qf2 u C k
section
variable {w w':World} {lo hi:Nat} {v u:Value} {M:List Sd} {C:List Ce}
theorem PoB.past (h:PoB w lo hi v M u C) (hb:Bw w w'):PoB w' lo hi v M u C:=⟨h.p.past hb,h.c.past hb,h.ap⟩
theorem PoB.none (r:OwnD w lo v M) (o:LvO w lo M):PoB w lo w.heap.size v M (.slice none 0 0) []:=
 ⟨PpB.of r o,CsB.of (OwnC.nil _ _) (CesO.nil _ _),fun k _ q=>by
  rcases q with q | ⟨c,hc,_⟩
  ·cases q
  ·cases hc⟩
end
theorem Qc7 {M:List Sd} (h:OwnD w B (.slice ao n c) M):M.length=n:=by
 obtain ⟨_,_,e,_⟩:=h.form;injection e with _ e _;exact e.symm
theorem Qb8 (h:OwnC w B (.slice ao n c) L):L.length=n:=by
 obtain ⟨_,_,e,_⟩:=h.form;injection e with _ e _;exact e.symm
structure PoM (w:World) (lo:Nat) (v:Value) (M:List Sd) (u:Value) (C:List Ce):Prop where
 r:OwnD w lo v (mkSs 1 M)
 o:LvO w lo (mkSs 1 M)
 c:OwnC w lo u (mkCs (1+totS M) C)
 d:CesO w lo (mkCs (1+totS M) C)
end Go.Proofs.YtioohanfodmddaaGreatDoor
