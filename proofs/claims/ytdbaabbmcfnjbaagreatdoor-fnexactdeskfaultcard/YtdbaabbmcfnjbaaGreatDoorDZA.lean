/-
 Parts.
-/
import Derived.Test.YtdbaabbmcfnjbaaGreatDoorDYM
set_option maxRecDepth 10000
set_option linter.all false
namespace Go.Proofs.YtdbaabbmcfnjbaaGreatDoor
open Go.ChangeShapes Go.WideShapes Go.ChangeAt Go.RowKit Go.PlainAid Go.Lib Go.Maps
noncomputable def QcC (K:List ByteArray) (u:ByteArray) (c:Ce):Bool:=@decide (QaR K c.s u) (Classical.propDecidable _)
variable {K:List ByteArray}
variable {u:ByteArray}
theorem ownB_iff {c:Ce}:QcC K u c=true↔QaR K c.s u:=by unfold QcC;exact @decide_eq_true_iff _ (Classical.propDecidable _)
theorem QuA {t:ByteArray} {c:Ce} (h:QaR K c.s u) (hne:t≠u):QcC K t c=false:=by
 cases q:QcC K t c
 ·rfl
 ·exact absurd (QeH (ownB_iff.1 q) h) hne
def empS (u:ByteArray):Sd:=⟨u,[],none,0⟩
structure ShrL (K:List ByteArray) (L:List Ce) (X:List Sd):Prop where
 nm:X.map Sd.nm=K
 l:∀ s∈X,s.L=L.filter (QcC K s.nm)
variable {L:List Ce}
variable {X:List Sd}
theorem ShrL.keys (h:ShrL K L X):X.map Sd.key=K.map (fun u=>(u,(L.filter (QcC K u)).map Ce.key)):=by
 have e:K.map (fun u=>(u,(L.filter (QcC K u)).map Ce.key))=(X.map Sd.nm).map (fun u=>(u,(L.filter (QcC K u)).map Ce.key)):=by rw [h.nm]
 rw [e,List.map_map];refine List.map_congr_left (fun s hs=>?_)
 show (s.nm,s.L.map Ce.key)=_
 rw [h.l s hs]
 rfl
theorem QtW (h:L.Pairwise ApC) {x y:Ce} (hx:x∈L) (hy:y∈L) (hne:x≠y):ApC x y:=by
 obtain ⟨i,hi,rfl⟩:=List.getElem_of_mem hx;obtain ⟨j,hj,rfl⟩:=List.getElem_of_mem hy;rcases Nat.lt_trichotomy i j with q | q | q
 ·exact (List.pairwise_iff_getElem.1 h) i j hi hj q
 ·subst q;exact absurd rfl hne
 ·exact ((List.pairwise_iff_getElem.1 h) j i hj hi q).symm
variable {B c n:Nat}
variable {w:World}
theorem ShrL.own (h:ShrL K L X) (hK:Qfj K) (r:∀ s∈X,OwnC w B (slS s) s.L) (rap:X.Pairwise (fun s t=>ApV (slS s) (slS t))) (o:CesO w B L):LvO w B X:=by
 refine ⟨r,rap,fun c hc=>?_,?_⟩
 ·obtain ⟨s,hs,aa⟩:=Qbq hc
  rw [h.l s hs] at aa;exact o.o c (List.mem_filter.1 aa).1
 ·unfold QaN
  refine List.pairwise_flatMap.2 ⟨fun s hs=>?_,?_⟩
  ·rw [h.l s hs];exact o.ap.sublist List.filter_sublist
  ·have ab:(X.map Sd.nm).Pairwise (·≠·):=by rw [h.nm];exact QbK hK
   rw [List.pairwise_map] at ab;refine ab.imp_of_mem (fun {s t} hs ht hne x hx y hy=>?_);rw [h.l s hs] at hx;rw [h.l t ht] at hy;obtain ⟨x1,x2⟩:=List.mem_filter.1 hx;obtain ⟨y1,y2⟩:=List.mem_filter.1 hy;refine QtW o.ap x1 y1 (fun e=>?_);subst e;exact hne (QeH (ownB_iff.1 x2) (ownB_iff.1 y2))
theorem grS {w':World} {r:Option Nat} (hg:w.grownBy w' r):GrownS w w' (fun k=>r=some k):=⟨hg.os,hg.tape,hg.output,hg.size,fun k hk hn=>hg.block k hk (fun e=>hn e.symm)⟩
structure SrJ (w wr:World) (mb n:Nat) (p:Pi) (vn:Value) (K:List ByteArray) (L:List Ce) (k:Nat) (X:List Sd):Prop where
 x0:wr.heap[w.heap.size]?=some (.cells (QmD p mb) 188 (0,0))
 mp:MpS wr mb n X
 on:OwnT wr (w.heap.size+1) vn K
 g:GrownS w wr (fun k=>k=mb)
 sh:ShrL K (L.take k) X
 r:∀ s∈X,OwnC wr (w.heap.size+1) (slS s) s.L
 rap:X.Pairwise (fun s t=>ApV (slS s) (slS t))
section
variable {w wr W w5 w7:World} {mb n k bx:Nat} {p:Pi} {vn:Value} {K:List ByteArray} {L:List Ce} {X A R:List Sd} {s t:Sd} {c:Ce}
end
variable {ao:Option Addr}
theorem QkI {cp:Nat} (h:OwnT w B (.slice ao K.length cp) K):Qaw w ao K:=fun h0=>by
 rcases h.2 with ⟨e,q⟩ | ⟨g,cap,cur,e,q1,q2⟩
 ·omega
 ·injection e with e1 e2 e3
  subst e1;exact QeK h h0
structure Sr1 (w wr:World) (mb n:Nat) (p:Pi) (vn:Value) (K:List ByteArray) (X:List Sd):Prop where
 x0:wr.heap[w.heap.size]?=some (.cells (QmD p mb) 188 (0,0))
 mp:MpS wr mb n X
 on:OwnT wr (w.heap.size+1) vn K
 g:GrownS w wr (fun k=>k=mb)
def SrP (w w':World) (mb:Nat) (K:List ByteArray) (L:List Ce) (m:Nat):Prop:=∃ n X,n<=m/\MpS w' mb n X/\ShrL K L X/\(∀ s∈X,OwnC w' (w.heap.size+1) (slS s) s.L)/\X.Pairwise (fun s t=>ApV (slS s) (slS t))/\GrownS w w' (fun k=>k=mb)
abbrev QaI (v:Value) (q:Pi) (u:Value) (cd:Int):Array Value:=#[v,.int .i64 q.a,.int .i64 q.b,.int .i64 q.c,.int .i64 q.d,u,.int .i64 cd]
theorem Qd4 {r:Nat} {a b c d e f g:Value} {T:TypeId} (h:w.heap[r]?=some (.cells #[a,b,c,d,e,f,g] T (0,0))):w.cell? ⟨r,0,none⟩=some a/\w.cell? ⟨r,1,none⟩=some b/\w.cell? ⟨r,2,none⟩=some c/\w.cell? ⟨r,3,none⟩=some d/\w.cell? ⟨r,4,none⟩=some e/\w.cell? ⟨r,5,none⟩=some f/\w.cell? ⟨r,6,none⟩=some g:=⟨QaO h 0 rfl,QaO h 1 rfl,QaO h 2 rfl,QaO h 3 rfl,QaO h 4 rfl,QaO h 5 rfl,QaO h 6 rfl⟩
structure PoB (w:World) (lo hi:Nat) (v:Value) (M:List Sd) (u:Value) (C:List Ce):Prop where
 p:PpB w lo hi v M
 c:CsB w lo hi u C
 ap:∀ k,QpU v M k->¬ Qm1 u C k
def OBlk (v:Value) (M:List Sd) (u:Value) (C:List Ce) (k:Nat):Prop:=QpU v M k∨Qm1 u C k
section
variable {w w':World} {lo hi:Nat} {v u:Value} {M:List Sd} {C:List Ce}
theorem PoB.none (r:OwnD w lo v M) (o:LvO w lo M):PoB w lo w.heap.size v M (.slice none 0 0) []:=
 ⟨PpB.of r o,CsB.of (OwnC.nil _ _) (CesO.nil _ _),fun k _ q=>by
  rcases q with q | ⟨c,hc,_⟩
  ·cases q
  ·cases hc⟩
end
theorem QhL {M:List Sd} (h:OwnD w B (.slice ao n c) M):M.length=n:=by
 obtain ⟨_,_,e,_⟩:=h.form;injection e with _ e _;exact e.symm
theorem QhG (h:OwnC w B (.slice ao n c) L):L.length=n:=by
 obtain ⟨_,_,e,_⟩:=h.form;injection e with _ e _;exact e.symm
structure PoM (w:World) (lo:Nat) (v:Value) (M:List Sd) (u:Value) (C:List Ce):Prop where
 r:OwnD w lo v (mkSs 1 M)
 o:LvO w lo (mkSs 1 M)
 c:OwnC w lo u (mkCs (1+totS M) C)
 d:CesO w lo (mkCs (1+totS M) C)
end Go.Proofs.YtdbaabbmcfnjbaaGreatDoor
