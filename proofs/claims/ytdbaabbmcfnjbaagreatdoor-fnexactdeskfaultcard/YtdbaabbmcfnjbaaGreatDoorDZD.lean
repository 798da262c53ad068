/-
 Parts.
-/
import Derived.Test.YtdbaabbmcfnjbaaGreatDoorDZA
set_option maxHeartbeats 16000000
set_option linter.all false
namespace Go.Proofs.YtdbaabbmcfnjbaaGreatDoor
open Go.ChangeShapes Go.WideShapes Go.ChangeAt Go.RowKit Go.PlainAid Go.Lib Go.Maps Tryz
set_option maxRecDepth 10000
theorem QiT {P:Program} (w:World) {o:Oper} {a:Act} {K:Act->World->Prop} {Q:Exit->Act->World->Prop} (s x:Operand) (t:TypeId)
  (ho:o.op=.call { callee:=.builtin .append,args:=#[s,x],argTypes:=#[t,t] })
  (base:Nat) (e:TypeId) (i:TypeInfo) (z:Value) (size bytes:Nat) (ht:P.underlying t=some (.slice e)) (hi:P.info? e=some i) (hz:i.zero=some z)
  (hsize:i.size=size) (hby:i.bytes=bytes) (hzs:z.cells.size=size) (hsz:0<size)
  (v:Value) (n:Nat) (xs:List Value) (hs:a.eval s=v) (hown:w.ownsRow base e size v n xs)
  (ad:Addr) (m c:Nat) (news:List Value) (hx:a.eval x=.slice (some ad) m c) (hl:news.length=m*size) (hnews:∀ j u,news[j]?=some u->w.cell? (ad.add j)=some u) (h1:∀ u∈news,u.oneCell'=true)
  (h63:n+m<=maxLen) (hbytes:(n+m)*bytes<=140737488355328) (hbase:base<=w.heap.size)
  (h:∀ v' w',w'.ownsRow base e size v' (n+m) (xs ++ news)->w.grownBy w' v.ownBlock->(v'.ownBlock=v.ownBlock∨v'.ownBlock=some w.heap.size)->K (a.put o.dst v') w'):o.wp P a w K Q:=by
 obtain ⟨v',w',hr,h2,h3,h4,h5⟩:=run_append_own_at (P:=P) w base t o.type e i z size bytes ht hi hz hsize hby hzs hsz v n xs hown ad m c news hl hnews h1 h63 hbytes hbase;unfold Oper.wp execOp;simp only [ho,resolve,invoke,builtin,Sem.run_bind,Sem.run_pure,Result.andThen_ok,List.map_toArray,List.map_cons,List.map_nil,hs,hx,hr];exact h v' w' h2 h3 h5
variable {w:World}
variable {B N b ca:Nat}
variable {cs:Array Value}
variable {T:TypeId}
variable {fz:Nat×Nat}
theorem Qjj (h:w.heap[b]?=some (.cells cs T fz)):Ty w (.slice (some ⟨b,0,none⟩) 0 0) T:=fun k e=>by
 obtain rfl:b=k:=Option.some.inj e;exact ⟨_,_,h⟩
theorem QqN {o:Ag} {p:Pl} (ha:AgO w B o p) (h:w.heap[b]?=some (.cells cs 60 fz)):∀ k,Qd1 o p k->k≠b:=fun k hk e=>by
 subst e;rcases hk with (hk | hk) | (hk | hk)
 ·exact Ty.ne ha.P.ty (Qjj h) (by decide) _ hk rfl
 ·exact Ty.ne ha.N.ty (Qjj h) (by decide) _ hk rfl
 ·exact Ty.ne (QbO ha.E.2) (Qjj h) (by decide) _ hk rfl
 ·exact Ty.ne (QbO ha.R.2) (Qjj h) (by decide) _ hk rfl
variable {L:List Ce}
theorem Qj7 {v:Value} (ha:OwnC w B v L) (h:w.heap[b]?=some (.cells cs 60 fz)):∀ k,v.ownBlock=some k->k≠b:=fun k hk e=>by
 subst e;exact Ty.ne (QbO ha) (Qjj h) (by decide) _ hk rfl
structure SmO (w wr:World) (p:Pi) (K:List ByteArray) (R:List Ce) (va:Value) (i:Nat) (X:List Sd) (vo:Value):Prop where
 x1:wr.heap[w.heap.size+1]?=some (.cells QbW 35 (0,0))
 x2:wr.heap[w.heap.size+1+1]?=some (.cells (Qam vo p) 35 (0,0))
 d:OwnD wr (w.heap.size+1+1+1) vo X
 r:∀ s∈X,OwnC wr (w.heap.size+1+1+1) (slS s) s.L
 rap:X.Pairwise (fun s t=>ApV (slS s) (slS t))
 a:OwnC wr (w.heap.size+1+1+1) va R
 c:CesO wr (w.heap.size+1+1+1) R
 ra:∀ s∈X,ApV (slS s) va
 nm:X.map Sd.nm=K.take i
 l:∀ s∈X,s.L=R.filter (QcC K s.nm)
 b:Below w.heap.size w wr
structure SmI (w wr:World) (p:Pi) (K:List ByteArray) (R:List Ce) (va:Value) (i:Nat) (X:List Sd) (vo:Value) (bx:Nat) (u:ByteArray) (k:Nat) (vs:Value):Prop where
 o:SmO w wr p K R va i X vo
 y:wr.heap[bx]?=some (.cells #[.string u,vs] 60 (0,0))
 s:OwnC wr (w.heap.size+1+1+1) vs ((R.take k).filter (QcC K u))
 sa:ApV vs va
 sr:∀ s∈X,ApV (slS s) vs
 bo:∀ j,vo.ownBlock=some j->j<bx
 lo:w.heap.size+1+1+1<=bx
section
variable {w wr W w5:World} {p:Pi} {K:List ByteArray} {R:List Ce} {va vo vs v':Value} {i k bx:Nat} {X:List Sd} {u:ByteArray} {c:Ce}
theorem SmO.past (h:SmO w wr p K R va i X vo) (hb:Below wr.heap.size wr W):SmO w W p K R va i X vo:=
 ⟨QaA h.x1 hb,QaA h.x2 hb,h.d.past hb,fun s hs=>(h.r s hs).past hb,h.rap,h.a.past hb,h.c.past hb,h.ra,h.nm,h.l,Qac h.b hb⟩
theorem SmI.past (h:SmI w wr p K R va i X vo bx u k vs) (hb:Below wr.heap.size wr W):SmI w W p K R va i X vo bx u k vs:=
 ⟨h.o.past hb,QaA h.y hb,h.s.past hb,h.sa,h.sr,h.bo,h.lo⟩
theorem SmI.start (h:SmO w wr p K R va i X vo):SmI w (wr.alloc (.cells #[.string u,.slice none 0 0] 60)) p K R va i X vo wr.heap.size u 0 (.slice none 0 0):=
 ⟨h.past ((Below.refl _ _).alloc (Nat.le_refl _) _),heap_alloc_new wr _,by rw [List.take_zero];exact OwnC.nil _ _,(fun k q=>by cases q),(fun s hs k q e=>by cases e),fun j q=>(World.ownsRow.lt h.d j q).2,(Array.getElem?_eq_some_iff.1 h.x2).1⟩
theorem SmI.skip (h:SmI w wr p K R va i X vo bx u k vs) (hc:R[k]?=some c) (hn:QcC K u c=false):SmI w wr p K R va i X vo bx u (k+1) vs:=by
 refine ⟨h.o,h.y,?_,h.sa,h.sr,h.bo,h.lo⟩;have e:(R.take (k+1)).filter (QcC K u)=(R.take k).filter (QcC K u):=by rw [List.take_add_one,hc,List.filter_append];simp [hn]
 rw [e];exact h.s
theorem SmO.cells {F:List Ce} (h:SmO w W p K R va i X vo) (hs:OwnC W (w.heap.size+1+1+1) vs F) (hsa:ApV vs va) (hsr:∀ s∈X,ApV (slS s) vs) (hg:W.grownBy w5 vs.ownBlock):SmO w w5 p K R va i X vo:=by
 have aa:∀ j,vs.ownBlock=some j->w.heap.size+1+1+1<=j:=fun j q=>(World.ownsRow.lt hs j q).1;have row:∀ {r:Nat} {o:Obj},r<w.heap.size+1+1+1->W.heap[r]?=some o->w5.heap[r]?=some o:=fun {r o} hr q=>(hg.block r (ZZc.1 q).1 (fun e=>by have:=aa r e.symm;omega)).trans q;refine ⟨row (by omega) h.x1,row (by omega) h.x2,h.d.keptS (grS hg) (fun j q e=>h.d.neC hs j e q),fun s m=>(h.r s m).kept hg (hsr s m),h.rap,h.a.kept hg hsa.symm,h.c.row hs hg,h.ra,h.nm,h.l,h.b.grown hg h.b.size (fun j hj=>by have:=aa j hj;omega)⟩
theorem SmI.add (h:SmI w wr p K R va i X vo bx u k vs) (hc:R[k]?=some c) (hy:QcC K u c=true) (hb:Below wr.heap.size wr W) (hown:w5.ownsRow (w.heap.size+1+1+1) 92 15 v' (((R.take k).filter (QcC K u)).length+1) (flC ((R.take k).filter (QcC K u)) ++ ceL c)) (hg:W.grownBy w5 vs.ownBlock) (hloc:v'.ownBlock=vs.ownBlock∨v'.ownBlock=some W.heap.size) :
  SmI w (w5.setCell ⟨bx,1,none⟩ v') p K R va i X vo bx u (k+1) v':=by
 have hW:=h.past hb;have o5:=hW.o.cells hW.s hW.sa hW.sr hg;have e:(R.take (k+1)).filter (QcC K u)=(R.take k).filter (QcC K u) ++ [c]:=by rw [List.take_add_one,hc,List.filter_append];simp [hy]
 have s5:OwnC w5 (w.heap.size+1+1+1) v' ((R.take (k+1)).filter (QcC K u)):=by rw [e];exact OwnC.mk hown
 have y5:w5.heap[bx]?=some (.cells #[.string u,vs] 60 (0,0)):=(hg.block bx (ZZc.1 hW.y).1 (fun e=>Qj7 hW.s hW.y bx e.symm rfl)).trans hW.y;have g6:=Qal w5 bx 1 v';have ac:=h.lo;have ab:∀ {r:Nat} {o:Obj},r<w.heap.size+1+1+1->w5.heap[r]?=some o->(w5.setCell ⟨bx,1,none⟩ v').heap[r]?=some o:=fun {r o} hr q=>(g6.block r (ZZc.1 q).1 (fun e=>by injection e with e;omega)).trans q;have kc:∀ {v:Value} {L:List Ce},OwnC w5 (w.heap.size+1+1+1) v L->OwnC (w5.setCell ⟨bx,1,none⟩ v') (w.heap.size+1+1+1) v L:=fun {v L} o=>o.keptS (grS g6) (fun j q e=>by injection e with e;exact Qj7 o y5 j q e.symm)
 have aa:∀ {v:Value} {L:List Ce},OwnC wr (w.heap.size+1+1+1) v L->ApV v vs->ApV v v':=fun {v L} o ha j q1 q2=>by
  rcases hloc with q | q
  ·rw [q] at q2;exact ha j q1 q2
  ·rw [q] at q2
   have:=(World.ownsRow.lt o j q1).2;have:=hb.size;injection q2 with q2;omega
 refine ⟨⟨ab (by omega) o5.x1,ab (by omega) o5.x2,o5.d.keptS (grS g6) (fun j q e=>by injection e with e;have:=h.bo j q;omega),fun s m=>kc (o5.r s m),o5.rap,kc o5.a,o5.c.keptS (grS g6) (fun d hd j q e=>by injection e with e;exact QqN (o5.c.o d hd) y5 j q e.symm),o5.ra,o5.nm,o5.l,o5.b.setCell (by show _<=bx;omega) _⟩,ZZl w5 bx 1 _ _ v' y5,kc s5,(aa h.o.a h.sa.symm).symm,fun s m=>aa (h.o.r s m) (h.sr s m),h.bo,h.lo⟩
theorem SmI.fin {av:Option Addr} {n cv:Nat} (h:SmI w wr p K R va i X vo bx u R.length (.slice av n cv)) (hu:K[i]?=some u) (hb:Below wr.heap.size wr W) (hown:w5.ownsRow (w.heap.size+1+1+1) 60 2 v' (X.length+1) (flS X ++ sdL ⟨u,R.filter (QcC K u),av,cv⟩)) (hg:W.grownBy w5 vo.ownBlock) :
  SmO w (w5.setCell ⟨w.heap.size+1+1,0,none⟩ v') p K R va (i+1) (X ++ [⟨u,R.filter (QcC K u),av,cv⟩]) v':=by
 have hW:=h.past hb;have hs:=hW.s;rw [List.take_length] at hs;obtain ⟨_,_,hn,_⟩:=hs.form;injection hn with _ hn _;have aa:slS ⟨u,R.filter (QcC K u),av,cv⟩=.slice av n cv:=by show Value.slice _ _ _=_;rw [hn]
 have ab:∀ j,vo.ownBlock=some j->w.heap.size+1+1+1<=j:=fun j q=>(World.ownsRow.lt h.o.d j q).1;have ac:∀ {r:Nat} {o:Obj},r<w.heap.size+1+1+1->W.heap[r]?=some o->w5.heap[r]?=some o:=fun {r o} hr q=>(hg.block r (ZZc.1 q).1 (fun e=>by have:=ab r e.symm;omega)).trans q;have z1:=ac (by omega) hW.o.x1;have z2:=ac (by omega) hW.o.x2;have g6:=Qal w5 (w.heap.size+1+1) 0 v'
 have kc:∀ {v:Value} {L:List Ce},OwnC W (w.heap.size+1+1+1) v L->OwnC (w5.setCell ⟨w.heap.size+1+1,0,none⟩ v') (w.heap.size+1+1+1) v L:=fun {v L} o=>by
  have o5:OwnC w5 (w.heap.size+1+1+1) v L:=o.keptS (grS hg) (fun j q e=>hW.o.d.neC o j q e);exact o5.keptS (grS g6) (fun j q e=>by have:=(World.ownsRow.lt o5 j q).1;injection e with e;omega)
 have oD:OwnD w5 (w.heap.size+1+1+1) v' (X ++ [⟨u,R.filter (QcC K u),av,cv⟩]):=OwnD.add hown;have c5:CesO w5 (w.heap.size+1+1+1) R:=hW.o.c.keptS (grS hg) (fun d hd j q e=>hW.o.d.ne (hW.o.c.o d hd) j q e);refine ⟨(g6.block _ (ZZc.1 z1).1 (fun e=>by injection e with e;omega)).trans z1,ZZl w5 _ 0 _ _ v' z2,oD.keptS (grS g6) (fun j q e=>by have:=(World.ownsRow.lt oD j q).1;injection e with e;omega),fun s m=>?_,?_,kc hW.o.a,c5.grown g6 (by omega),fun s m=>?_,?_,fun s m=>?_,?_⟩
 ·rcases List.mem_append.1 m with m | m
  ·exact kc (hW.o.r s m)
  ·obtain rfl:=List.mem_singleton.1 m
   rw [aa];exact kc hs
 ·refine List.pairwise_append.2 ⟨h.o.rap,List.pairwise_singleton _ _,fun a ha b hb=>?_⟩
  obtain rfl:=List.mem_singleton.1 hb;rw [aa];exact h.sr a ha
 ·rcases List.mem_append.1 m with m | m
  ·exact h.o.ra s m
  ·obtain rfl:=List.mem_singleton.1 m
   rw [aa];exact h.sa
 ·rw [List.map_append,h.o.nm,List.take_add_one,hu];rfl
 ·rcases List.mem_append.1 m with m | m
  ·exact h.o.l s m
  ·obtain rfl:=List.mem_singleton.1 m
   rfl
 ·exact (hW.o.b.grown hg hW.o.b.size (fun j hj=>by have:=ab j hj;omega)).setCell (by show _<=w.heap.size+1+1;omega) _
end
theorem box2P {r:Nat} {a b:Value} (h:w.heap[r]?=some (.cells #[a,b] T (0,0))):w.cell? ⟨r,0,none⟩=some a/\w.cell? ⟨r,1,none⟩=some b:=⟨QaO h 0 rfl,QaO h 1 rfl⟩
def ShA (w:World) (S:List Sd) (p:Pi) (Kn:List ByteArray) (e:Ending) (w':World):Prop:=∃ v X L,e=.returned (.agg (Qam v p))/\Qck L/\(L.map Ce.key).Perm ((QaN S).map Ce.key)/\ShrL Kn L X/\OwnD w' w.heap.size v X/\LvO w' w.heap.size X/\Below w.heap.size w w'
variable {ao:Option Addr}
variable {S:List Sd}
variable {Kn:List ByteArray}
theorem SmO.start {w1:World} {p:Pi} {W0:World} {va:Value} (h:LcI w W0 ao N ca S p 0 (.slice none 0 0) []) (hz:W0.heap.size=w.heap.size+1+1+1) (hr:OwnC w1 W0.heap.size va L) (ho:CesO w1 W0.heap.size L) (hb:Below W0.heap.size W0 w1):SmO w w1 p Kn L va 0 [] (.slice none 0 0):=by
 rw [hz] at hr ho;exact ⟨QaA h.x1 hb,QaA h.x2 hb,OwnD.nil _ _,by simp,.nil,hr,ho,by simp,by simp,by simp,Qac h.b hb⟩
theorem Qq2 {u o:ByteArray} {c:Ce} (h:QaR Kn c.s o):(o.toList == u.toList)=QcC Kn u c:=by
 by_cases e:o=u
 ·subst e
  rw [ownB_iff.2 h];simp
 ·rw [QuA h (fun q=>e q.symm)]
  cases q:(o.toList == u.toList)
  ·rfl
  ·exact absurd (QbV q) e
theorem Qhe {an:Option Addr} {cn:Nat} (p:Pi) (hI:PpI w ao N S) (hq:QS S) (hs:∀ s∈S,∀ c∈s.L,c.s.size<=100) (hKm:Qaj Kn=true) (hA:Qaw w an Kn) :
  Calls prog 72 #[.agg (Qam (.slice ao N ca) p),.slice an Kn.length cn] w fun e w'=>ShA w S p Kn e w':=by
 obtain ⟨i0,hi,aY,a1,a5⟩:=QsL;obtain ⟨j0,hj,bi,bg,bj⟩:=Qjr;have HI:=Qaa hI;have HQ:=Qaa hq;have bf:=Qaa hs;have a2:=Qaa hKm;have HK:=Qaa (QbQ hKm);have HA:=Qaa hA;have bt:Kn.length<=12:=(Qbp hKm).2;have au:=Qaa (LcI.start (w:=w) (ao:=ao) (N:=N) (ca:=ca) (S:=S) (p:=p) trivial);have aL:Hid ((((w.alloc (.cells (Qam (.slice ao N ca) p) 35)).alloc (.cells QbW 35)).alloc (.cells (Qam (.slice none 0 0) p) 35)).heap.size=w.heap.size+1+1+1):=Qaa (by simp);clear hI hq hs hKm hA;go_enter func72,ntmps72;go_upto_region 3 with fail;generalize ((w.alloc (.cells (Qam (.slice ao N ca) p) 35)).alloc (.cells QbW 35)).alloc (.cells (Qam (.slice none 0 0) p) 35)=W0 at au aL ⊢;obtain ⟨r0,r1,r2,r3,r4⟩:=QdF au.out.x0;go_wp2_with fail;clear r0 r1 r2 r3 r4;refine (Qfv p HI.out.n HQ (Qbd HI.out.at' au.out.b)).mono ?_;rintro e w1 ⟨va,L,rfl,ag⟩;have aK:=Qaa (SmO.start (Kn:=Kn) au aL ag.r ag.o ag.b);have a6:=Qaa ag.asc
 have bc:Hid ((L.map Ce.key).Perm ((QaN S).map Ce.key)):=by
  have h:=ag.pm;rw [List.take_of_length_le (by have:=HI.out.n;omega)] at h;exact Qaa h
 have bd:Hid (∀ c∈L,c.s.size<=100):=fun c hc=>by
  obtain ⟨s,hs,d,hd,_,e,_⟩:=ag.mem hc;rw [<- e];exact bf.out s hs d hd
 have aW:=ag.len HQ;have aS:=Qaa aW;obtain ⟨aa,cc,rfl,_⟩:=ag.r.form;clear ag au aL aW W0;obtain ⟨na,aI⟩:∃ n,L.length=n:=⟨_,rfl⟩;rw [aI] at aK aS ⊢;have ai:=Qaa aI;have br:=aS.out;clear aI;go_wp2
 go_loopw [7] (fun i wr=>∃ (k:Nat) (X:List Sd) (vo:Value),k<=Kn.length/\i=.int .i64 k/\Hid (SmO w wr p Kn L (.slice aa na cc) k X vo)) (fun i wr=>Kn.length - (Go.RowKit.intOf i).toNat)
 case atStart=>exact ⟨0,[],_,ZZj _,rfl,aK⟩
 case round=>
  clear aK;obtain ⟨i,X,vo,bu,rfl,HO⟩:=hrel;by_cases a0:i<Kn.length
  ·have aH:(i:Int)<(Kn.length:Int):=by omega
   obtain ⟨u,hu⟩:∃ u,Kn[i]?=some u:=⟨Kn[i],ZZe a0⟩;obtain ⟨bn,on,e,ak⟩:=HA.out (by omega);subst e;have HU:=Qaa hu;have aP:Hid (∀ W,Below w.heap.size w W->W.cell? ⟨bn,on+i,none⟩=some (.string u)):=fun W hW=>Qab hW (ak i u hu);have ba:Hid (∀ W,Below w.heap.size w W->Qaw W (some ⟨bn,on,none⟩) Kn):=fun W hW=>QaB HA hW;have n0:=aP.out wr HO.out.b;have aB:=Qaa (SmI.start (u:=u) HO);clear hu ak;go_upto_region 8 with fail;clear n0;obtain ⟨bx,aV⟩:∃ b,wr.heap.size=b:=⟨_,rfl⟩;rw [aV] at aB ⊢;clear aV;generalize wr.alloc (.cells #[.string u,.slice none 0 0] 60)=W1 at aB ⊢;clear HO wr;go_wp2
   go_loopw [9] (fun i2 wr=>∃ (k:Nat) (vs:Value),k<=na/\i2=.int .i64 k/\Hid (SmI w wr p Kn L (.slice aa na cc) i X vo bx u k vs)) (fun i2 wr=>na - (Go.RowKit.intOf i2).toNat)
   case atStart=>exact ⟨0,_,ZZj _,rfl,aB⟩
   case round=>
    clear aB;obtain ⟨k,vs,hk,rfl,ah⟩:=hrel;by_cases bs:k<na
    ·have aF:(k:Int)<(na:Int):=by omega
     obtain ⟨c,hc⟩:∃ c,L[k]?=some c:=⟨L[k]'(by have:=ai.out;omega),ZZe _⟩;obtain ⟨ga,rfl⟩:=Qp4 ah.out.o.a (by have:=ai.out;omega);have HC:=Qaa hc;have a4:=Qaa (bd.out c (ZZn hc));have aJ:Hid (∀ W,Below wr.heap.size wr W->QcX W ga (k*15) c):=fun W hW=>(QiV (ah.out.o.a.past hW) ai hc).1;clear hc;go_upto_region 11 with fail
     go_cut [42] (fun v w'=>∃ B,v=.bool B/\Hid (B=QcC Kn u c)/\Hid (Below wr.heap.size wr w'))
     case first=>
      have ad:(fun W=>Below wr.heap.size wr W) wr.drew:=(ZZb _ _).drew;refine Qao (fun W=>Below wr.heap.size wr W) 99 (by kernel_rfl) ?_;refine tkS 0 (.slice (some ⟨bn,on,none⟩) Kn.length cn) ad ?_;refine tkS 1 (.slice (some ⟨ga,0,none⟩) na cc) ad ?_;refine tkS 2 (.int .i64 (k:Int)) ad ?_;simp only [sX];refine tkS 3 (.pointer (some ⟨ga,k*15,none⟩)) ad ?_;refine tkS 4 (.pointer (some ⟨ga,k*15+1,none⟩)) ad ?_;refine tkL 5 (.string c.s) ad (fun W hW=>?_) ?_
      ·obtain ⟨x0,x1,x2,x3,x4,x5,x6,x7,x8,x9,bo,bk,a7,bm,aZ⟩:=aJ.out W hW
       clear hW;go_simp
      simp only [sX];refine tkS 7 (.slice (some ⟨bn,on,none⟩) Kn.length cn) ad ?_;refine tkS 8 (.int .i64 (i:Int)) ad ?_;refine tkS 9 (.pointer (some ⟨bn,on+i,none⟩)) ad ?_;simp only [sX];refine tkL 10 (.string u) ad (fun W hW=>?_) ?_
      ·have n0:=aP.out W (Qac ah.out.o.b hW)
       clear hW;go_simp
      simp only [sX];refine onE 6 fun K hK=>?_;go_simp;refine (Qcq cn c.s (by have:=a4.out;omega) a2 (ba.out _ (Qac ah.out.o.b ad))).mono ?_;rintro e w2 ⟨uo,rfl,aR,aQ⟩;have al:Hid (Below wr.heap.size wr w2):=(ad:Below wr.heap.size wr wr.drew).trans (aQ.mono (ZZa _));obtain ⟨B,hB⟩:∃ B,(uo.toList == u.toList)=B:=⟨_,rfl⟩;have ay:Hid (B=QcC Kn u c):=by rw [<- hB];exact Qaa (Qq2 aR)
      clear aQ aR;dsimp only;refine gK hK al.out ?_
      try simp only [sX]
      refine tkS 11 (.bool B) al ?_;simp only [sX];refine dnE ?_ _;go_wp2;go_meet;exact ⟨B,rfl,ay,al⟩
     case rest=>
     obtain ⟨B,rfl,ay,al⟩:=hcut;obtain ⟨w3,aM⟩:∃ X,wc=X:=⟨_,rfl⟩;rw [aM] at al ⊢;clear aM;have am:=Qaa (ah.out.past al);have bl:=Qaa (aJ.out w3 al);clear ah aJ al
     cases B with
     | false=>
      have HF:=Qaa (am.out.skip HC ay.out.symm);clear am;go_wp2;go_roundw
      case rel=>exact ⟨k+1,vs,by omega,by first | rfl | go_num,HF⟩
      case measure=>simp [zI];omega
     | true=>
      obtain ⟨az,cz,rfl,_⟩:=am.out.s.form;obtain ⟨F,hF⟩:∃ F,(L.take k).filter (QcC Kn u)=F:=⟨_,rfl⟩;rw [hF] at am;have aT:=Qaa hF
      have bq:F.length<=720:=by
       rw [<- hF];have h1:=List.length_filter_le (QcC Kn u) (L.take k);have h2:(L.take k).length<=L.length:=by rw [List.length_take];omega
       have:=ai.out;omega
      clear hF;go_upto_region 12 with fail;have aj:Hid ((fun W1:World=>W1.heap[bx]?=some (.cells #[.string u,.slice az F.length cz] 60 (0,0))/\QcX W1 ga (k*15) c) w3.drew):=⟨am.out.y,bl⟩;have ax:Hid (Below w3.heap.size w3 w3.drew):=(ZZb _ _).drew;have bh:Hid (Below w3.heap.size w3 w3.drew):=ax;refine Qao (fun W1:World=>W1.heap[bx]?=some (.cells #[.string u,.slice az F.length cz] 60 (0,0))/\QcX W1 ga (k*15) c) 9 (by kernel_rfl) ?_;generalize w3.drew=X0 at aj ax bh ⊢;refine tkS 0 (.pointer (some ⟨bx,1,none⟩)) aj ?_;refine tkL 1 (.slice az F.length cz) aj (fun W hW=>?_) ?_
      ·have q1:=QaO hW.1 1 rfl
       clear hW;go_simp
      refine tkS 2 (.slice (some ⟨ga,0,none⟩) na cc) aj ?_;simp only [sX];refine tkS 3 (.int .i64 (k:Int)) aj ?_;refine tkS 4 (.pointer (some ⟨ga,k*15,none⟩)) aj ?_;refine tkL 5 (.agg (Qas c)) aj (fun W hW=>?_) ?_
      ·obtain ⟨x0,x1,x2,x3,x4,x5,x6,x7,x8,x9,bo,bk,a7,bm,aZ⟩:=hW.2
       clear hW;go_simp
      simp only [sX];refine onE 6 fun K hK=>?_;go_simp;have aw:Below X0.heap.size X0 (X0.alloc (.cells (Qas c) 92)):=(ZZb _ _).alloc (ZZa _) _;have be:=Qaa aw;have ae:=Qaa ((am.out.past ax).past aw);have bb:Hid ((fun W1:World=>W1.heap[bx]?=some (.cells #[.string u,.slice az F.length cz] 60 (0,0))/\QcX W1 ga (k*15) c) (X0.alloc (.cells (Qas c) 92))):=⟨ae.out.y,QaP aj.out.2 aw⟩;refine gK hK bb.out ?_;clear aw
      try simp only [sX]
      refine onE 7 fun K hK=>?_;rw [if_pos (by rfl)];have ow:=ae.out.s;rw [aT.out] at ow;unfold OwnC at ow;have aX:w.heap.size+1+1+1<=(X0.alloc (.cells (Qas c) 92)).heap.size:=(ZZc.1 ae.out.o.x2).1;refine QiT _ (.tmp 44) (.tmp 49) 58 rfl (w.heap.size+1+1+1) 92 j0 (.agg QbI) 15 192 underlying58 hj bi bg bj rfl (by decide) _ _ _ rfl ow ⟨X0.heap.size,0,none⟩ 1 1 (ceL c) rfl rfl Qb7 (QdX _) (by unfold maxLen;omega) (by omega) aX ?_;intro v8 w8 ac ab ap;obtain ⟨a8,c8,rfl⟩:∃ ar cr,v8=.slice ar (F.length+1) cr:=Qag ac;have y8:w8.heap[bx]?=some (.cells #[.string u,.slice az F.length cz] 60 (0,0)):=(ab.block bx (ZZc.1 ae.out.y).1 (fun e=>Qj7 ae.out.s ae.out.y bx e.symm rfl)).trans ae.out.y;have o8:=ae.out.o.cells ae.out.s ae.out.sa ae.out.sr ab;have aO:Hid ((fun W1:World=>W1.heap[bx]?=some (.cells #[.string u,.slice az F.length cz] 60 (0,0))/\QcX W1 ga (k*15) c) w8):=⟨y8,(QiV o8.a ai HC).1⟩;have HF:Hid (SmI w (w8.setCell ⟨bx,1,none⟩ (.slice a8 (F.length+1) c8)) p Kn L (.slice (some ⟨ga,0,none⟩) na cc) i X vo bx u (k+1) (.slice a8 (F.length+1) c8)):=Qaa ((am.out.past ax).add HC ay.out.symm be (by rw [aT.out];exact ac) ab ap);have aq:=Qaa y8;clear ac ab ap ow aX y8 o8;refine gK hK aO.out ?_
      try simp only [sX]
      refine tkS 8 (.pointer (some ⟨bx,1,none⟩)) aO ?_;simp only [sX];have q1:=QaO aq 1 rfl;have f1:=fzR 1 aq;refine onE 9 fun K hK=>?_;go_simp;clear q1 f1;refine hK.out _ _ (fun h=>absurd rfl h) ?_
      try simp only [sX]
      refine dnE ?_ _;go_wp2;go_roundw
      case rel=>exact ⟨k+1,_,by omega,by first | rfl | go_num,HF⟩
      case measure=>simp [zI];omega
    ·have aF:¬ (k:Int)<(na:Int):=by omega
     obtain rfl:k=na:=by omega
     have af:=ah.out;rw [<- ai.out] at af;obtain ⟨az,cz,rfl,_⟩:=af.s.form;obtain ⟨ns,aC⟩:∃ n,((L.take L.length).filter (QcC Kn u)).length=n:=⟨_,rfl⟩;rw [aC] at af;have aU:sdL ⟨u,L.filter (QcC Kn u),az,cz⟩=[.string u,.slice az ns cz]:=by show [_,Value.slice _ _ _]=_;rw [<- aC,List.take_length]
     have aA:=Qaa af;rw [ai.out] at aA;have a3:=Qaa aU
     have bp:X.length<=12:=by
      have h1:=congrArg List.length af.o.nm;rw [List.length_map,List.length_take] at h1;omega
     rw [aC] at ah;have p0:=(QdF af.o.x2).1;obtain ⟨b0,b1⟩:=box2P af.y;have OW:Hid (wr.ownsRow (w.heap.size+1+1+1) 60 2 vo X.length (flS X)):=Qaa af.o.d;have aM:w.heap.size+1+1+1<=wr.heap.size:=(ZZc.1 af.o.x2).1;clear aC aU af;go_wp2_with (at_builtin;refine wpList_append_own _ rfl _ _ 33 rfl (w.heap.size+1+1+1) 60 i0 (.agg #[.string ByteArray.empty,.slice none 0 0]) 2 40 underlying33 hi aY a1 a5 rfl (by decide) _ _ _ rfl (World.ownsRow.alloc OW _) ⟨wr.heap.size,0,none⟩ 1 1 [.string u,.slice az ns cz] rfl rfl ?c1 ?c2 ?c3 ?c4 ?c5 ?_)
     case c2=>first | exact ⟨rfl,rfl⟩ | (intro x hx;simp only [List.mem_cons,List.not_mem_nil,or_false] at hx;rcases hx with rfl | rfl <;> rfl)
     case c3=>unfold maxLen;omega
     case c4=>omega
     case c5=>first | omega | (simp;omega)
     intro v' w5 ac ab _;obtain ⟨av,cv,rfl⟩:∃ ar cr,v'=.slice ar (X.length+1) cr:=Qag ac;have aD:Below wr.heap.size wr (wr.alloc (.cells #[.string u,.slice az ns cz] 60)):=(ZZb _ _).alloc (ZZa _) _
     have HF:Hid (SmO w (w5.setCell ⟨w.heap.size+1+1,0,none⟩ (.slice av (X.length+1) cv)) p Kn L (.slice aa k cc) (i+1) (X ++ [⟨u,L.filter (QcC Kn u),az,cz⟩]) (.slice av (X.length+1) cv)):=by
      have h:=aA.out;rw [<- ai.out] at h ⊢;exact Qaa (h.fin HU aD (by rw [a3.out];exact ac) ab)
     have z2:w5.heap[w.heap.size+1+1]?=some (.cells (Qam vo p) 35 (0,0)):=(ab.block _ (by simp;omega) (fun e=>by have:=(World.ownsRow.lt OW _ e.symm).1;omega)).trans (QaA aA.out.o.x2 aD);have y0:=QaO z2 0 rfl;have f0:=fzR 0 z2;clear ac ab z2 aD p0 b0 b1 OW aA ah;go_wp2;go_roundw
     case rel=>exact ⟨i+1,_,_,by omega,by first | rfl | go_num,HF⟩
     case measure=>simp [zI];omega
  ·have aH:¬ (i:Int)<(Kn.length:Int):=by omega
   obtain ⟨av,cv,rfl,_⟩:=HO.out.d.form;have hX:ShrL Kn L X:=⟨by have h:=HO.out.nm;rw [List.take_of_length_le (by omega)] at h;exact h,HO.out.l⟩;have aN:LvO wr (w.heap.size+1+1+1) X:=hX.own HK HO.out.r HO.out.rap HO.out.c;have HX:=Qaa hX;have a9:=Qaa aN;have aE:Hid (CpP w wr X (.slice av X.length cv) X):=Qaa ⟨HO.out.d.le (by omega),aN.le (by omega),rfl,HO.out.b⟩;have aG:Hid (∀ j,(Value.slice av X.length cv).ownBlock=some j->w.heap.size+1+1+1<=j):=fun j q=>(World.ownsRow.lt HO.out.d j q).1;obtain ⟨z0,z1,z2,z3,z4⟩:=QdF HO.out.x2;obtain ⟨y0,y1,y2,y3,y4⟩:=QdF HO.out.x1;obtain ⟨f0,f1,f2,f3,f4⟩:=fA5 HO.out.x1;clear hX aN HO;go_wp2;refine bodyPost_ret (v:=.agg (Qam (.slice av X.length cv) p)) (by simp [results,results72,go_sem,y0,y1,y2,y3,y4]) rfl ?_;have hC:=CpP.sets (v0:=.slice av X.length cv) (v1:=.int .i64 p.a) (v2:=.int .i64 p.b) (v3:=.int .i64 p.c) (v4:=.int .i64 p.d) aG a9 aE;exact ⟨_,X,L,rfl,a6,bc,HX,hC.r,hC.o,hC.b⟩
end Go.Proofs.YtdbaabbmcfnjbaaGreatDoor
