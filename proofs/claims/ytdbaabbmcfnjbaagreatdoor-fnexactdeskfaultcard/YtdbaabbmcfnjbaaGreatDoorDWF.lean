/-
 Parts.
-/
import Derived.Test.YtdbaabbmcfnjbaaGreatDoorDWB
import Derived.Test.YtdbaabbmcfnjbaaGreatDoorDWC
set_option linter.all false
namespace Go.Proofs.YtdbaabbmcfnjbaaGreatDoor
open Go.ChangeShapes Go.WideShapes Go.ChangeAt Go.RowKit Go.PlainAid Go.Lib Go.Maps
set_option maxRecDepth 10000
def GdC (L:List (Int×ByteArray×Ag)):Prop:=L.length<=61/\∀ c∈L,AgOk c.2.2/\AgSm c.2.2/\c.2.1.size<=maxLen
def LiR (S:List Sd) (p q:Pi) (KM:List (ByteArray×List (Int×ByteArray×Ag))) (KC:List (Int×ByteArray×Ag)) (cd:Int):Prop:=
 KC=[]/\((cd≠0/\q=q0/\KM=[])∨(cd=0/\QaZ S p=true/\q=p/\KM.map Prod.fst=S.map Sd.nm/\∀ x∈KM,GdC x.2))
variable {L:List Ce}
theorem Qsl (hl:L.length<=61) (h:∀ c∈L,AgOk c.g/\AgSm c.g/\c.s.size<=maxLen):GdC (L.map Ce.key):=by
 refine ⟨by rw [List.length_map];exact hl,fun c hc=>?_⟩;obtain ⟨d,hd,rfl⟩:=List.mem_map.1 hc;exact h d hd
structure SmL (w wr:World) (bx:Nat) (p:Pi) (v:Value) (M:List Sd) (k:Nat) (X:List Sd):Prop where
 xb:wr.heap[bx]?=some (.cells (Qam v p) 35 (0,0))
 nb:∀ j,QpU v (X ++ M.drop k) j->j≠bx
 r:OwnD wr w.heap.size v (X ++ M.drop k)
 o:LvO wr w.heap.size (X ++ M.drop k)
 nm:X.map Sd.nm=(M.take k).map Sd.nm
 gd:∀ s∈X,GdC (s.L.map Ce.key)
 b:Below w.heap.size w wr
section
variable {w wr w' w1:World} {bx k gs n cs nr cr:Nat} {p:Pi} {v:Value} {M S X:List Sd} {R:List Ce} {s t:Sd} {ar:Option Addr}
theorem SmL.past (h:SmL w wr bx p v M k X) (hb:Below wr.heap.size wr w'):SmL w w' bx p v M k X:=
 ⟨QaA h.xb hb,h.nb,h.r.past hb,h.o.past hb,h.nm,h.gd,Qac h.b hb⟩
theorem QtB (hM:M[k]?=some t):M.drop k=t :: M.drop (k+1)/\(M.take (k+1)).map Sd.nm=(M.take k).map Sd.nm ++ [t.nm]:=by
 obtain ⟨aa,em⟩:=ZZd.1 hM;exact ⟨by rw [<- em];exact List.drop_eq_getElem_cons aa,by rw [List.take_add_one,hM,List.map_append];rfl⟩
theorem SmL.skip (h:SmL w wr bx p v M k X) (hM:M[k]?=some t) (g:GdC (t.L.map Ce.key)):SmL w wr bx p v M (k+1) (X ++ [t]):=by
 obtain ⟨e1,e2⟩:=QtB hM;have e:(X ++ [t]) ++ M.drop (k+1)=X ++ M.drop k:=by rw [e1];simp
 refine ⟨h.xb,by rw [e];exact h.nb,by rw [e];exact h.r,by rw [e];exact h.o,by rw [e2,List.map_append,h.nm];rfl,fun s hs=>?_,h.b⟩;rcases List.mem_append.1 hs with hs | hs
 ·exact h.gd s hs
 ·rw [List.mem_singleton.1 hs];exact g
theorem SmL.step (h:SmL w wr bx p (.slice (some ⟨gs,0,none⟩) n cs) M k X) (hkl:X.length=k) (hM:M[k]?=some t)
  (hb1:Below wr.heap.size wr w1) (hr:OwnC w1 wr.heap.size (.slice ar nr cr) R) (hA:CesO w1 wr.heap.size R) (g:GdC (R.map Ce.key)) :
  SmL w (w1.setCell ⟨gs,k*2+1,none⟩ (.slice ar nr cr)) bx p (.slice (some ⟨gs,0,none⟩) n cs) M (k+1) (X ++ [⟨t.nm,R,ar,cr⟩]):=by
 have ag:R.length=nr:=QhG hr;subst ag;have hW:=h.past hb1;have ak:=World.ownsRow.lt h.r gs rfl;have z1:=hb1.size;have zb:=h.b.size;generalize ht':(⟨t.nm,R,ar,cr⟩:Sd)=t';have e1:t'.L=R:=by rw [<- ht']
 have e2:slS t'=.slice ar R.length cr:=by rw [<- ht']
 have e3:t'.nm=t.nm:=by rw [<- ht']
 have gr:=(grS (Qal w1 gs (k*2+1) (.slice ar R.length cr))).weak (T:=fun k=>k=gs) (fun k e=>by injection e with e;exact e.symm);obtain ⟨af,ah⟩:=QtB hM;have aa:=hW.r;have ad:=hW.o;have ab:=h.o;rw [af] at aa ad ab;have ai:(X ++ t :: M.drop (k+1))[k]?=some t:=by rw [<- hkl,List.getElem?_append_right (Nat.le_refl _)];simp
 have ac:(X ++ t :: M.drop (k+1)).set k t'=X ++ t' :: M.drop (k+1):=by rw [<- hkl,List.set_append_right _ _ (Nat.le_refl _)];simp
 have r2:=aa.put1 (j:=1) (s':=t') (u:=.slice ar R.length cr) (QhL aa) ai (by omega) (by unfold sdL;rw [<- ht'];rfl);rw [ac] at r2;have oW:=ad.keptS gr (fun x hx j q e=>aa.neB ad hx j q (by rw [e];rfl))
 have rt:OwnC (w1.setCell ⟨gs,k*2+1,none⟩ (.slice ar R.length cr)) wr.heap.size (slS t') t'.L:=by
  rw [e1,e2];exact hr.keptS gr (fun j q e=>by have:=(World.ownsRow.lt hr j q).1;omega)
 have ot:CesO (w1.setCell ⟨gs,k*2+1,none⟩ (.slice ar R.length cr)) wr.heap.size t'.L:=by
  rw [e1];exact hA.keptS gr (fun c hc j q e=>by have:=((hA.o c hc).lt q).1;omega)
 have o2:LvO (w1.setCell ⟨gs,k*2+1,none⟩ (.slice ar R.length cr)) w.heap.size (X ++ t' :: M.drop (k+1)):=oW.swap (rt.le zb) (ot.le zb) (fun x hx j q1 q2=>by
  have ae:x∈X ++ t :: M.drop (k+1):=by rcases hx with hx | hx <;> simp [hx]
  have l1:j<wr.heap.size:=by
   rcases q1 with q1 | ⟨c,hc,q1⟩
   ·exact (World.ownsRow.lt (ab.r x ae) j q1).2
   ·exact ((ab.o.o c (QnP ae hc)).lt q1).2
  have l2:wr.heap.size<=j:=by
   rcases q2 with q2 | ⟨c,hc,q2⟩
   ·exact (World.ownsRow.lt rt j q2).1
   ·exact ((ot.o c hc).lt q2).1
  omega)
 have eX:(X ++ [t']) ++ M.drop (k+1)=X ++ t' :: M.drop (k+1):=by simp
 refine ⟨gr.row hW.xb (fun e=>h.nb gs (.inl rfl) e.symm),fun j q e=>?_,by rw [eX];exact r2,by rw [eX];exact o2,by rw [ah,List.map_append,h.nm,List.map_singleton,e3],fun s hs=>?_,gr.below (Qac h.b hb1) (by omega) (fun k e=>by omega)⟩
 ·have aj:bx<wr.heap.size:=(ZZc.1 h.xb).1
  rw [eX] at q;rcases q with q | ⟨x,hx,q⟩
  ·exact h.nb j (.inl q) e
  ·rcases List.mem_append.1 hx with hx | hx
   ·exact h.nb j (.inr ⟨x,List.mem_append_left _ hx,q⟩) e
   ·rcases List.mem_cons.1 hx with hx | hx
    ·rw [hx] at q
     rcases q with q | ⟨c,hc,q⟩
     ·have:=(World.ownsRow.lt rt j q).1;omega
     ·have:=((ot.o c hc).lt q).1;omega
    ·exact h.nb j (.inr ⟨x,List.mem_append_right _ (by rw [af];exact List.mem_cons_of_mem _ hx),q⟩) e
 ·rcases List.mem_append.1 hs with hs | hs
  ·exact h.gd s hs
  ·rw [List.mem_singleton.1 hs,e1];exact g
theorem SmL.sh (h:SmL w wr bx p v M k X) (hk:M.map Sd.key=S.map Sd.key) (q:QS S) (hs0:QeB S=true) (hM:M[k]?=some t) (hl:X.length=k):ShI wr t.ao t.L.length t.L/\csR t.L=true/\GdC (t.L.map Ce.key)/\(X ++ M.drop k)[k]?=some t:=by
 have ht:=ZZn hM;have ab:=(QtB hM).1;have aa:t∈X ++ M.drop k:=by rw [ab];simp
 obtain ⟨s,hs,_,e⟩:=Qh4 hk ht;have el:=congrArg List.length e;rw [List.length_map,List.length_map] at el;have hq:=Qpp hk (fun _ s g=>AgOk g/\AgSm g/\s.size<=maxLen) (fun t ht c hc=>⟨(q.ok t ht c hc).1,(q.ok t ht c hc).2.1,(q.ok t ht c hc).2.2.1⟩) t ht;have hc:=QsG h.o.o aa;have ad:=q.l s hs
 have ac:csR t.L=true:=by
  rw [QoR e];have:=Qcz hs0 hs;unfold shB at this;exact (Bool.and_eq_true_iff.1 this).2
 refine ⟨⟨rfl,by omega,fun c hc=>(hq c hc).1,fun c hc=>(hq c hc).2.1,fun c hc=>(hq c hc).2.2,fun c hc'=>(hc.o c hc').plgX,OwnC.at (h.o.r t aa) hc.at⟩,ac,Qsl (by omega) hq,?_⟩;rw [ab,<- hl,List.getElem?_append_right (Nat.le_refl _)];simp
end
structure LnB (w wr:World) (pa:Array Value) (bX:Nat) (x:Sx):Prop where
 p:wr.heap[w.heap.size]?=some (.cells pa 35 (0,0))
 z:wr.heap[w.heap.size+1]?=some (.cells (QaI (.slice none 0 0) q0 (.slice none 0 0) 0) 66 (0,0))
 x:wr.heap[bX]?=some (.cells (QcA x) 71 (0,0))
 lb:w.heap.size+1<bX
 b:Below w.heap.size w wr
variable {B g n:Nat}
section
variable {w wr w':World} {pa:Array Value} {bX:Nat} {x:Sx}
theorem LnB.past (h:LnB w wr pa bX x) (hb:Below wr.heap.size wr w'):LnB w w' pa bX x:=⟨QaA h.p hb,QaA h.z hb,QaA h.x hb,h.lb,Qac h.b hb⟩
theorem LnB.set (h:LnB w wr pa bX x) (j:Nat) (u:Value) {x':Sx} (e:(QcA x).setIfInBounds j u=QcA x'):LnB w (wr.setCell ⟨bX,j,none⟩ u) pa bX x':=by
 have hl:=h.lb;refine ⟨(Below.heap_setCell _ _ _ _ (by show w.heap.size≠bX;omega)).trans h.p,(Below.heap_setCell _ _ _ _ (by show w.heap.size+1≠bX;omega)).trans h.z,?_,h.lb,h.b.setCell (by simpa using (by omega:w.heap.size<=bX)) u⟩;rw [<- e];exact ZZl wr bX j _ _ u h.x
theorem LnB.far (h:LnB w wr pa bX x) (hg:bX<g) (j:Nat) (u:Value):LnB w (wr.setCell ⟨g,j,none⟩ u) pa bX x:=by
 have hl:=h.lb;exact ⟨(Below.heap_setCell _ _ _ _ (by show w.heap.size≠g;omega)).trans h.p,(Below.heap_setCell _ _ _ _ (by show w.heap.size+1≠g;omega)).trans h.z,(Below.heap_setCell _ _ _ _ (by show bX≠g;omega)).trans h.x,h.lb,h.b.setCell (by simpa using (by omega:w.heap.size<=g)) u⟩
end
variable {w:World}
theorem QqS {cp:Nat} {ao:Option Addr} (h:OwnC w B (.slice ao n cp) L) (hn:L.length=n):n<=cp:=by
 rcases h.2 with ⟨e,q⟩ | ⟨g,ab,aa,e,_,_,q1,q2,_⟩
 ·injection e with e1 e2 e3;omega
 ·injection e with e1 e2 e3
  subst e3;omega
theorem Qmz {c k:Nat} {M:List Sd} {t:Sd} (h:OwnD w B (.slice (some ⟨g,0,none⟩) n c) M) (hl:LvO w B M) (ht:M[k]?=some t):w.cell? ⟨g,k*2,none⟩=some (.string t.nm):=by
 obtain ⟨b,aa,e,hc⟩:=(h.at hl).1 (by have:=(ZZd.1 ht).1;omega);injection e with e;injection e with e1 e2;subst e1;subst e2;have:=(hc k t ht).1
 simpa using this
variable {k ti v wt:Int}
variable {se wd:ByteArray}
theorem QiJ {td:Bool} {tm:Int} (h:Qlt k se v wd wt td ti=true) (h0:0<=tm) (h1:tm<=1000000000):(⟨k,se,v,wd,wt,true,tm⟩:Sx).B=true/\(⟨k,se,v,wd,wt,true,tm⟩:Sx).Ok:=by
 have hB:(⟨k,se,v,wd,wt,true,tm⟩:Sx).B=true:=by
  unfold Sx.B Qlt;unfold Qlt at h;simp only [Bool.and_eq_true] at h ⊢;refine ⟨h.1,?_⟩;unfold QmP;simp [h0,h1]
 refine ⟨hB,?_⟩;obtain ⟨⟨a1,a2⟩,⟨b1,b2⟩,_,⟨c1,c2⟩,d⟩:=QbB hB;have hw:=hB;unfold Sx.B Qlt QfI at hw;simp only [Bool.and_eq_true,Bool.or_eq_true,decide_eq_true_eq] at hw;have hs:=QeA (Qip hB);simp only at a1 a2 b1 b2 c1 c2 d hs;exact ⟨by show I64 k;unfold I64;omega,by show I64 v;unfold I64;omega,by show U64 wt;unfold U64;rcases hw.1.2 with q | q <;> omega,by show I64 tm;unfold I64;omega,by show se.size<=maxLen;unfold maxLen;omega,by show wd.size<=maxLen;unfold maxLen;omega⟩
theorem Qm3 (h:Qlt k se v wd wt true ti=true):0<=ti/\ti<=1000000000:=by
 unfold Qlt QmP at h;simp only [Bool.and_eq_true,if_pos,decide_eq_true_eq] at h;exact h.2
theorem pua_bd {R R':List Ce} {n:Int} {x:Sx} (r:csR R=true) (q:CnQ R) (ox:x.Ok) (hx:x.B=true) (hn:Qjm n=true) (p:PuA R n x R' 0):GdC (R'.map Ce.key):=by
 obtain ⟨h1,h2⟩:=QlH r q ox hx hn p;exact Qsl (by have:=(csR_iff.1 h1).1;omega) (fun c hc=>⟨h2.ok c hc,h2.sm c hc,(h2.ky c hc).2⟩)
end Go.Proofs.YtdbaabbmcfnjbaaGreatDoor
