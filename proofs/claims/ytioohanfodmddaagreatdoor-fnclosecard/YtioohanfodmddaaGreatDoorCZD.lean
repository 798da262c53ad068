/-
 Parts.
-/
import Derived.Test.YtioohanfodmddaaGreatDoorCZA
set_option maxHeartbeats 16000000
set_option linter.all false
namespace Go.Proofs.YtioohanfodmddaaGreatDoor
open Go.ChangeShapes Go.WideShapes Go.ChangeAt Go.RowKit Go.PlainAid Go.Lib Go.Maps Tryz
set_option maxRecDepth 10000
theorem QfN {P:Program} (w:World) {o:Oper} {a:Act} {K:Act->World->Prop} {Q:Exit->Act->World->Prop} (s x:Operand) (t:TypeId)
  (ho:o.op=.call { callee:=.builtin .append,args:=#[s,x],argTypes:=#[t,t] })
  (base:Nat) (e:TypeId) (i:TypeInfo) (z:Value) (size bytes:Nat) (ht:P.underlying t=some (.slice e)) (hi:P.info? e=some i) (hz:i.zero=some z)
  (hsize:i.size=size) (hby:i.bytes=bytes) (hzs:z.cells.size=size) (hsz:0<size)
  (v:Value) (n:Nat) (xs:List Value) (hs:a.eval s=v) (hown:w.ownsRow base e size v n xs)
  (ad:Addr) (m c:Nat) (news:List Value) (hx:a.eval x=.slice (some ad) m c) (hl:news.length=m*size) (hnews:∀ j u,news[j]?=some u->w.cell? (ad.add j)=some u) (h1:∀ u∈news,u.oneCell'=true)
  (h63:n+m<=maxLen) (hbytes:(n+m)*bytes<=140737488355328) (hbase:base<=w.heap.size)
  (h:∀ v' w',w'.ownsRow base e size v' (n+m) (xs ++ news)->w.grownBy w' v.ownBlock->(v'.ownBlock=v.ownBlock∨v'.ownBlock=some w.heap.size)->K (a.put o.dst v') w'):o.wp P a w K Q:=by
 obtain ⟨v',w',hr,h2,h3,h4,h5⟩:=run_append_own_at (P:=P) w base t o.type e i z size bytes ht hi hz hsize hby hzs hsz v n xs hown ad m c news hl hnews h1 h63 hbytes hbase;unfold Oper.wp execOp;simp only [ho,resolve,invoke,builtin,Sem.run_bind,Sem.run_pure,Result.andThen_ok,List.map_toArray,List.map_cons,List.map_nil,hs,hx,hr];exact h v' w' h2 h3 h5
variable {w:World}
variable {B N b ca:Nat}
variable {cs:Array Value}
variable {T:TypeId}
variable {fz:Nat×Nat}
theorem Qku (h:w.heap[b]?=some (.cells cs T fz)):Ty w (.slice (some ⟨b,0,none⟩) 0 0) T:=fun k e=>by
 obtain rfl:b=k:=Option.some.inj e;exact ⟨_,_,h⟩
theorem QsQ {o:Ag} {p:Pl} (ha:AgO w B o p) (h:w.heap[b]?=some (.cells cs 71 fz)):∀ k,Qdz o p k->k≠b:=fun k hk e=>by
 subst e;rcases hk with (hk | hk) | (hk | hk)
 ·exact Ty.ne ha.P.ty (Qku h) oF _ hk rfl
 ·exact Ty.ne ha.N.ty (Qku h) oF _ hk rfl
 ·exact Ty.ne (Qcj ha.E.2) (Qku h) oF _ hk rfl
 ·exact Ty.ne (Qcj ha.R.2) (Qku h) oF _ hk rfl
variable {L:List Ce}
theorem Qld {v:Value} (ha:OwnC w B v L) (h:w.heap[b]?=some (.cells cs 71 fz)):∀ k,v.ownBlock=some k->k≠b:=fun k hk e=>by
 subst e;exact Ty.ne (Qcj ha) (Qku h) oF _ hk rfl
structure SmO (w wr:World) (p:Pi) (K:List ByteArray) (R:List Ce) (va:Value) (i:Nat) (X:List Sd) (vo:Value):Prop where
 x1:wr.heap[w.heap.size+1]?=some (.cells QbE 25 (0,0))
 x2:wr.heap[w.heap.size+1+1]?=some (.cells (Qae vo p) 25 (0,0))
 d:OwnD wr (w.heap.size+1+1+1) vo X
 r:∀ s∈X,OwnC wr (w.heap.size+1+1+1) (slS s) s.L
 rap:X.Pairwise (fun s t=>ApV (slS s) (slS t))
 a:OwnC wr (w.heap.size+1+1+1) va R
 c:CesO wr (w.heap.size+1+1+1) R
 ra:∀ s∈X,ApV (slS s) va
 nm:X.map Sd.nm=K.take i
 l:∀ s∈X,s.L=R.filter (Qd5 K s.nm)
 b:Bw w wr
structure SmI (w wr:World) (p:Pi) (K:List ByteArray) (R:List Ce) (va:Value) (i:Nat) (X:List Sd) (vo:Value) (bx:Nat) (u:ByteArray) (k:Nat) (vs:Value):Prop where
 o:SmO w wr p K R va i X vo
 y:wr.heap[bx]?=some (.cells #[.string u,vs] 71 (0,0))
 s:OwnC wr (w.heap.size+1+1+1) vs ((R.take k).filter (Qd5 K u))
 sa:ApV vs va
 sr:∀ s∈X,ApV (slS s) vs
 bo:∀ j,vo.ownBlock=some j->j<bx
 lo:w.heap.size+1+1+1<=bx
section
variable {w wr W w5:World} {p:Pi} {K:List ByteArray} {R:List Ce} {va vo vs v':Value} {i k bx:Nat} {X:List Sd} {u:ByteArray} {c:Ce}
theorem SmO.past (h:SmO w wr p K R va i X vo) (hb:Bw wr W):SmO w W p K R va i X vo:=
 ⟨Qag h.x1 hb,Qag h.x2 hb,h.d.past hb,fun s hs=>(h.r s hs).past hb,h.rap,h.a.past hb,h.c.past hb,h.ra,h.nm,h.l,Qac h.b hb⟩
theorem SmI.past (h:SmI w wr p K R va i X vo bx u k vs) (hb:Bw wr W):SmI w W p K R va i X vo bx u k vs:=
 ⟨h.o.past hb,Qag h.y hb,h.s.past hb,h.sa,h.sr,h.bo,h.lo⟩
theorem SmI.start (h:SmO w wr p K R va i X vo):SmI w (wr.alloc (.cells #[.string u,.slice none 0 0] 71)) p K R va i X vo wr.heap.size u 0 (.slice none 0 0):=
 ⟨h.past bAA,heap_alloc_new wr _,by rw [List.take_zero];exact OwnC.nil _ _,(fun k q=>by cases q),(fun s hs k q e=>by cases e),fun j q=>(World.ownsRow.lt h.d j q).2,(Array.getElem?_eq_some_iff.1 h.x2).1⟩
theorem SmI.skip (h:SmI w wr p K R va i X vo bx u k vs) (hc:R[k]?=some c) (hn:Qd5 K u c=false):SmI w wr p K R va i X vo bx u (k+1) vs:=by
 refine ⟨h.o,h.y,?_,h.sa,h.sr,h.bo,h.lo⟩;have e:(R.take (k+1)).filter (Qd5 K u)=(R.take k).filter (Qd5 K u):=by rw [List.take_add_one,hc,List.filter_append];simp [hn]
 rw [e];exact h.s
theorem SmO.cells {F:List Ce} (h:SmO w W p K R va i X vo) (hs:OwnC W (w.heap.size+1+1+1) vs F) (hsa:ApV vs va) (hsr:∀ s∈X,ApV (slS s) vs) (hg:W.grownBy w5 vs.ownBlock):SmO w w5 p K R va i X vo:=by
 have aa:∀ j,vs.ownBlock=some j->w.heap.size+1+1+1<=j:=fun j q=>(World.ownsRow.lt hs j q).1;have row:∀ {r:Nat} {o:Obj},r<w.heap.size+1+1+1->W.heap[r]?=some o->w5.heap[r]?=some o:=fun {r o} hr q=>(hg.block r (ZZc.1 q).1 (fun e=>by have:=aa r e.symm;omega)).trans q;refine ⟨row oB h.x1,row oB h.x2,h.d.keptS (grS hg) (fun j q e=>h.d.neC hs j e q),fun s m=>(h.r s m).kept hg (hsr s m),h.rap,h.a.kept hg hsa.symm,h.c.row hs hg,h.ra,h.nm,h.l,h.b.grown hg h.b.size (fun j hj=>by have:=aa j hj;omega)⟩
theorem SmI.add (h:SmI w wr p K R va i X vo bx u k vs) (hc:R[k]?=some c) (hy:Qd5 K u c=true) (hb:Bw wr W) (hown:w5.ownsRow (w.heap.size+1+1+1) 46 15 v' (((R.take k).filter (Qd5 K u)).length+1) (flC ((R.take k).filter (Qd5 K u)) ++ ceL c)) (hg:W.grownBy w5 vs.ownBlock) (hloc:v'.ownBlock=vs.ownBlock∨v'.ownBlock=some W.heap.size) :
  SmI w (w5.setCell ⟨bx,1,none⟩ v') p K R va i X vo bx u (k+1) v':=by
 have hW:=h.past hb;have o5:=hW.o.cells hW.s hW.sa hW.sr hg;have e:(R.take (k+1)).filter (Qd5 K u)=(R.take k).filter (Qd5 K u) ++ [c]:=by rw [List.take_add_one,hc,List.filter_append];simp [hy]
 have s5:OwnC w5 (w.heap.size+1+1+1) v' ((R.take (k+1)).filter (Qd5 K u)):=by rw [e];exact OwnC.mk hown
 have y5:w5.heap[bx]?=some (.cells #[.string u,vs] 71 (0,0)):=(hg.block bx (ZZc.1 hW.y).1 (fun e=>Qld hW.s hW.y bx e.symm rfl)).trans hW.y;have g6:=Qah w5 bx 1 v';have ac:=h.lo;have ab:∀ {r:Nat} {o:Obj},r<w.heap.size+1+1+1->w5.heap[r]?=some o->(w5.setCell ⟨bx,1,none⟩ v').heap[r]?=some o:=fun {r o} hr q=>(g6.block r (ZZc.1 q).1 (fun e=>by injection e with e;omega)).trans q;have kc:∀ {v:Value} {L:List Ce},OwnC w5 (w.heap.size+1+1+1) v L->OwnC (w5.setCell ⟨bx,1,none⟩ v') (w.heap.size+1+1+1) v L:=fun {v L} o=>o.keptS (grS g6) (fun j q e=>by injection e with e;exact Qld o y5 j q e.symm)
 have aa:∀ {v:Value} {L:List Ce},OwnC wr (w.heap.size+1+1+1) v L->ApV v vs->ApV v v':=fun {v L} o ha j q1 q2=>by
  rcases hloc with q | q
  ·rw [q] at q2;exact ha j q1 q2
  ·rw [q] at q2
   have:=(World.ownsRow.lt o j q1).2;have:=hb.size;injection q2 with q2;omega
 refine ⟨⟨ab oB o5.x1,ab oB o5.x2,o5.d.keptS (grS g6) (fun j q e=>by injection e with e;have:=h.bo j q;omega),fun s m=>kc (o5.r s m),o5.rap,kc o5.a,o5.c.keptS (grS g6) (fun d hd j q e=>by injection e with e;exact QsQ (o5.c.o d hd) y5 j q e.symm),o5.ra,o5.nm,o5.l,o5.b.setCell (by show _<=bx;omega) _⟩,ZZl w5 bx 1 _ _ v' y5,kc s5,(aa h.o.a h.sa.symm).symm,fun s m=>aa (h.o.r s m) (h.sr s m),h.bo,h.lo⟩
theorem SmI.fin {av:Option Addr} {n cv:Nat} (h:SmI w wr p K R va i X vo bx u R.length (.slice av n cv)) (hu:K[i]?=some u) (hb:Bw wr W) (hown:w5.ownsRow (w.heap.size+1+1+1) 71 2 v' (X.length+1) (flS X ++ sdL ⟨u,R.filter (Qd5 K u),av,cv⟩)) (hg:W.grownBy w5 vo.ownBlock) :
  SmO w (w5.setCell ⟨w.heap.size+1+1,0,none⟩ v') p K R va (i+1) (X ++ [⟨u,R.filter (Qd5 K u),av,cv⟩]) v':=by
 have hW:=h.past hb;have hs:=hW.s;rw [List.take_length] at hs;obtain ⟨_,_,hn,_⟩:=hs.form;injection hn with _ hn _;have aa:slS ⟨u,R.filter (Qd5 K u),av,cv⟩=.slice av n cv:=by show Value.slice _ _ _=_;rw [hn]
 have ab:∀ j,vo.ownBlock=some j->w.heap.size+1+1+1<=j:=fun j q=>(World.ownsRow.lt h.o.d j q).1;have ac:∀ {r:Nat} {o:Obj},r<w.heap.size+1+1+1->W.heap[r]?=some o->w5.heap[r]?=some o:=fun {r o} hr q=>(hg.block r (ZZc.1 q).1 (fun e=>by have:=ab r e.symm;omega)).trans q;have z1:=ac oB hW.o.x1;have z2:=ac oB hW.o.x2;have g6:=Qah w5 (w.heap.size+1+1) 0 v'
 have kc:∀ {v:Value} {L:List Ce},OwnC W (w.heap.size+1+1+1) v L->OwnC (w5.setCell ⟨w.heap.size+1+1,0,none⟩ v') (w.heap.size+1+1+1) v L:=fun {v L} o=>by
  have o5:OwnC w5 (w.heap.size+1+1+1) v L:=o.keptS (grS hg) (fun j q e=>hW.o.d.neC o j q e);exact o5.keptS (grS g6) (fun j q e=>by have:=(World.ownsRow.lt o5 j q).1;injection e with e;omega)
 have oD:OwnD w5 (w.heap.size+1+1+1) v' (X ++ [⟨u,R.filter (Qd5 K u),av,cv⟩]):=OwnD.add hown;have c5:CesO w5 (w.heap.size+1+1+1) R:=hW.o.c.keptS (grS hg) (fun d hd j q e=>hW.o.d.ne (hW.o.c.o d hd) j q e);refine ⟨(g6.block _ (ZZc.1 z1).1 (fun e=>by injection e with e;omega)).trans z1,ZZl w5 _ 0 _ _ v' z2,oD.keptS (grS g6) (fun j q e=>by have:=(World.ownsRow.lt oD j q).1;injection e with e;omega),fun s m=>?_,?_,kc hW.o.a,c5.grown g6 oB,fun s m=>?_,?_,fun s m=>?_,?_⟩
 ·rcases List.mem_append.1 m with m | m
  ·exact kc (hW.o.r s m)
  ·obtain rfl:=List.mem_singleton.1 m
   rw [aa];exact kc hs
 ·refine List.pairwise_append.2 ⟨h.o.rap,List.pairwise_singleton _ _,fun a ha b hb=>?_⟩
  obtain rfl:=List.mem_singleton.1 hb;rw [aa];exact h.sr a ha
 ·rcases List.mem_append.1 m with m | m
  ·exact h.o.ra s m
  ·obtain rfl:=List.mem_singleton.1 m
   rw [aa];exact h.sa
 ·rw [List.map_append,h.o.nm,List.take_add_one,hu];rfl
 ·rcases List.mem_append.1 m with m | m
  ·exact h.o.l s m
  ·obtain rfl:=List.mem_singleton.1 m
   rfl
 ·exact (hW.o.b.grown hg hW.o.b.size (fun j hj=>by have:=ab j hj;omega)).setCell OZ _
end
theorem box2P {r:Nat} {a b:Value} (h:w.heap[r]?=some (.cells #[a,b] T (0,0))):w.cell? ⟨r,0,none⟩=some a/\w.cell? ⟨r,1,none⟩=some b:=⟨Qay h 0 rfl,Qay h 1 rfl⟩
def ShA (w:World) (S:List Sd) (p:Pi) (Kn:List ByteArray) (e:Ending) (w':World):Prop:=∃ v X L,e=.returned (.agg (Qae v p))/\AscC L/\(L.map Ce.key).Perm ((QaK S).map Ce.key)/\ShrL Kn L X/\OwnD w' w.heap.size v X/\LvO w' w.heap.size X/\Bw w w'
variable {ao:Option Addr}
variable {S:List Sd}
variable {Kn:List ByteArray}
theorem SmO.start {w1:World} {p:Pi} {W0:World} {va:Value} (h:LcI w W0 ao N ca S p 0 (.slice none 0 0) []) (hz:W0.heap.size=w.heap.size+1+1+1) (hr:OwnC w1 W0.heap.size va L) (ho:CesO w1 W0.heap.size L) (hb:Bw W0 w1):SmO w w1 p Kn L va 0 [] (.slice none 0 0):=by
 rw [hz] at hr ho;exact ⟨Qag h.x1 hb,Qag h.x2 hb,OwnD.nil _ _,by simp,.nil,hr,ho,by simp,by simp,by simp,Qac h.b hb⟩
theorem QsM {u o:ByteArray} {c:Ce} (h:Qa2 Kn c.s o):(o.toList == u.toList)=Qd5 Kn u c:=by
 by_cases e:o=u
 ·subst e
  rw [ownB_iff.2 h];simp
 ·rw [Quv h (fun q=>e q.symm)]
  cases q:(o.toList == u.toList)
  ·rfl
  ·exact absurd (QgR q) e
theorem Qoe {an:Option Addr} {cn:Nat} (p:Pi) (hI:PpI w ao N S) (hq:QS S) (hs:∀ s∈S,∀ c∈s.L,c.s.size<=100) (hKm:Qaj Kn=true) (hA:Qat w an Kn) :
  Calls prog 81 #[.agg (Qae (.slice ao N ca) p),.slice an Kn.length cn] w fun e w'=>ShA w S p Kn e w':=by
 obtain ⟨i0,hi,a4,bc,a1⟩:=QoB;obtain ⟨j0,hj,bh,bo,bl⟩:=Qeb;have HI:=Qaa hI;have HQ:=Qaa hq;have a7:=Qaa hs;have be:=Qaa hKm;have HK:=Qaa (QeH hKm);have HA:=Qaa hA;have bu:Kn.length<=12:=(QbA hKm).2;have ap:=Qaa (LcI.start (w:=w) (ao:=ao) (N:=N) (ca:=ca) (S:=S) (p:=p) trivial);have aD:Hid ((((w.alloc (.cells (Qae (.slice ao N ca) p) 25)).alloc (.cells QbE 25)).alloc (.cells (Qae (.slice none 0 0) p) 25)).heap.size=w.heap.size+1+1+1):=Qaa oE;clear hI hq hs hKm hA;go_enter func81,ntmps81;go_upto_region 3 with fail;generalize ((w.alloc _).alloc _).alloc _=W0 at ap aD ⊢;obtain ⟨r0,r1,r2,r3,r4⟩:=Qbf ap.x0;go_wp2_with fail;clear r0 r1 r2 r3 r4;refine (Qgq p HI.n HQ (QaM HI.at' ap.b)).mono ?_;rintro e w1 ⟨va,L,rfl,ag⟩;have aK:=Qaa (SmO.start (Kn:=Kn) ap aD ag.r ag.o ag.b);have a0:=Qaa ag.asc
 have ba:Hid ((L.map Ce.key).Perm ((QaK S).map Ce.key)):=by
  have h:=ag.pm;rw [List.take_of_length_le (oA HI.n)] at h;exact Qaa h
 have bj:Hid (∀ c∈L,c.s.size<=100):=fun c hc=>by
  obtain ⟨s,hs,d,hd,_,e,_⟩:=ag.mem hc;rw [<- e];exact a7.out s hs d hd
 have aX:=ag.len HQ;have aR:=Qaa aX;obtain ⟨aa,cc,rfl,_⟩:=ag.r.form;clear ag ap aD aX W0;obtain ⟨na,aI⟩:∃ n,L.length=n:=⟨_,rfl⟩;rw [aI] at aK aR ⊢;have al:=Qaa aI;have br:=aR.out;clear aI;go_wp2
 go_loopw [7] (fun i wr=>∃ (k:Nat) (X:List Sd) (vo:Value),k<=Kn.length/\i=.int .i64 k/\Hid (SmO w wr p Kn L (.slice aa na cc) k X vo)) (fun i wr=>Kn.length - (Go.RowKit.intOf i).toNat)
 case atStart=>exact ⟨0,[],_,ZZj _,rfl,aK⟩
 case round=>
  clear aK;obtain ⟨i,X,vo,bq,rfl,HO⟩:=hrel;by_cases bb:i<Kn.length
  ·have aM:(i:Int)<(Kn.length:Int):=by omega
   obtain ⟨u,hu⟩:∃ u,Kn[i]?=some u:=⟨Kn[i],ZZe bb⟩;obtain ⟨bn,on,e,ai⟩:=HA.out oB;subst e;have HU:=Qaa hu;have aT:Hid (∀ W,Bw w W->W.cell? ⟨bn,on+i,none⟩=some (.string u)):=fun W hW=>Qab hW (ai i u hu);have aY:Hid (∀ W,Bw w W->Qat W (some ⟨bn,on,none⟩) Kn):=fun W hW=>QaA HA hW;have n0:=aT.out wr HO.b;have ay:=Qaa (SmI.start (u:=u) HO);clear hu ai;go_upto_region 8 with fail;clear n0;obtain ⟨bx,aV⟩:∃ b,wr.heap.size=b:=⟨_,rfl⟩;rw [aV] at ay ⊢;clear aV;generalize wr.alloc _=W1 at ay ⊢;clear HO wr;go_wp2
   go_loopw [9] (fun i2 wr=>∃ (k:Nat) (vs:Value),k<=na/\i2=.int .i64 k/\Hid (SmI w wr p Kn L (.slice aa na cc) i X vo bx u k vs)) (fun i2 wr=>na - (Go.RowKit.intOf i2).toNat)
   case atStart=>exact ⟨0,_,ZZj _,rfl,ay⟩
   case round=>
    clear ay;obtain ⟨k,vs,hk,rfl,ah⟩:=hrel;by_cases bp:k<na
    ·have aF:(k:Int)<(na:Int):=by omega
     obtain ⟨c,hc⟩:∃ c,L[k]?=some c:=⟨L[k]'(oA al.out),ZZe _⟩;obtain ⟨ga,rfl⟩:=Qs5 ah.o.a (oA al.out);have HC:=Qaa hc;have bd:=Qaa (bj.out c (ZZn hc));have aH:Hid (∀ W,Bw wr W->QbO W ga (k*15) c):=fun W hW=>(QkH (ah.o.a.past hW) al hc).1;clear hc;go_upto_region 11 with fail
     go_cut [42] (fun v w'=>∃ B,v=.bool B/\Hid (B=Qd5 Kn u c)/\Hid (Bw wr w'))
     case first=>
      have ad:(fun W=>Bw wr W) wr.drew:=(ZZb _ _).drew;refine Qal (fun W=>Bw wr W) 99 oG ?_;refine tkS 0 (.slice (some ⟨bn,on,none⟩) Kn.length cn) ad ?_;refine tkS 1 (.slice (some ⟨ga,0,none⟩) na cc) ad ?_;refine tkS 2 (.int .i64 (k:Int)) ad ?_;simp only [sX];refine tkS 3 (.pointer (some ⟨ga,k*15,none⟩)) ad ?_;refine tkS 4 (.pointer (some ⟨ga,k*15+1,none⟩)) ad ?_;refine tkL 5 (.string c.s) ad (fun W hW=>?_) ?_
      ·obtain ⟨x0,x1,x2,x3,x4,x5,x6,x7,x8,x9,bm,bf,bi,a3,a6⟩:=aH.out W hW
       exact mAo
      simp only [sX];refine tkS 7 (.slice (some ⟨bn,on,none⟩) Kn.length cn) ad ?_;refine tkS 8 (.int .i64 (i:Int)) ad ?_;refine tkS 9 (.pointer (some ⟨bn,on+i,none⟩)) ad ?_;simp only [sX];refine tkL 10 (.string u) ad (fun W hW=>?_) ?_
      ·have n0:=aT.out W (Qac ah.o.b hW)
       exact mAo
      simp only [sX];refine onE 6 fun K hK=>?_;go_simp;refine (Qdu cn c.s (oA bd.out) be (aY.out _ (Qac ah.o.b ad))).mono ?_;rintro e w2 ⟨uo,rfl,aS,aO⟩;have ak:Hid (Bw wr w2):=(ad:Bw wr wr.drew).trans (aO.mono (ZZa _));obtain ⟨B,hB⟩:∃ B,(uo.toList == u.toList)=B:=⟨_,rfl⟩;have aw:Hid (B=Qd5 Kn u c):=by rw [<- hB];exact Qaa (QsM aS)
      clear aO aS;dsimp only;refine gK hK ak.out ?_
      try simp only [sX]
      refine tkS 11 (.bool B) ak ?_;simp only [sX];refine dnE ?_ _;go_wp2;go_meet;exact ⟨B,rfl,aw,ak⟩
     case rest=>
     obtain ⟨B,rfl,aw,ak⟩:=hcut;obtain ⟨w3,aG⟩:∃ X,wc=X:=⟨_,rfl⟩;rw [aG] at ak ⊢;clear aG;have am:=Qaa (ah.past ak);have bk:=Qaa (aH.out w3 ak);clear ah aH ak
     cases B with
     | false=>
      have HF:=Qaa (am.skip HC aw.symm);clear am;go_wp2;go_roundw
      case rel=>exact ⟨k+1,vs,by omega,by first | rfl | go_num,HF⟩
      case measure=>simp [zI];omega
     | true=>
      obtain ⟨az,cz,rfl,_⟩:=am.s.form;obtain ⟨F,hF⟩:∃ F,(L.take k).filter (Qd5 Kn u)=F:=⟨_,rfl⟩;rw [hF] at am;have aW:=Qaa hF
      have bt:F.length<=720:=by
       rw [<- hF];have h1:=List.length_filter_le (Qd5 Kn u) (L.take k);have h2:(L.take k).length<=L.length:=by rw [List.length_take];omega
       have:=al.out;omega
      clear hF;go_upto_region 12 with fail;have aj:Hid ((fun W1:World=>W1.heap[bx]?=some (.cells #[.string u,.slice az F.length cz] 71 (0,0))/\QbO W1 ga (k*15) c) w3.drew):=⟨am.y,bk⟩;have aB:Hid (Bw w3 w3.drew):=(ZZb _ _).drew;have a5:Hid (Bw w3 w3.drew):=aB;refine Qal (fun W1:World=>W1.heap[bx]?=some (.cells #[.string u,.slice az F.length cz] 71 (0,0))/\QbO W1 ga (k*15) c) 9 oG ?_;generalize w3.drew=X0 at aj aB a5 ⊢;refine tkS 0 (.pointer (some ⟨bx,1,none⟩)) aj ?_;refine tkL 1 (.slice az F.length cz) aj (fun W hW=>?_) ?_
      ·have q1:=Qay hW.1 1 rfl
       exact mAo
      refine tkS 2 (.slice (some ⟨ga,0,none⟩) na cc) aj ?_;simp only [sX];refine tkS 3 (.int .i64 (k:Int)) aj ?_;refine tkS 4 (.pointer (some ⟨ga,k*15,none⟩)) aj ?_;refine tkL 5 (.agg (Qao c)) aj (fun W hW=>?_) ?_
      ·obtain ⟨x0,x1,x2,x3,x4,x5,x6,x7,x8,x9,bm,bf,bi,a3,a6⟩:=hW.2
       exact mAo
      simp only [sX];refine onE 6 fun K hK=>?_;go_simp;have aC:Bw X0 (X0.alloc (.cells (Qao c) 46)):=bAA;have a9:=Qaa aC;have ae:=Qaa ((am.past aB).past aC);have a2:Hid ((fun W1:World=>W1.heap[bx]?=some (.cells #[.string u,.slice az F.length cz] 71 (0,0))/\QbO W1 ga (k*15) c) (X0.alloc (.cells (Qao c) 46))):=⟨ae.y,Qaq aj.2 aC⟩;refine gK hK a2.out ?_;clear aC
      try simp only [sX]
      refine onE 7 fun K hK=>?_;rw [if_pos oR];have ow:=ae.s;rw [aW.out] at ow;unfold OwnC at ow;have aQ:w.heap.size+1+1+1<=(X0.alloc (.cells (Qao c) 46)).heap.size:=(ZZc.1 ae.o.x2).1;refine QfN _ (.tmp 44) (.tmp 49) 27 rfl (w.heap.size+1+1+1) 46 j0 (.agg Qbo) 15 192 underlying27 hj bh bo bl rfl oF _ _ _ rfl ow ⟨X0.heap.size,0,none⟩ 1 1 (ceL c) rfl rfl QbD (QcG _) oC oB aQ ?_;intro v8 w8 ac ab au;obtain ⟨a8,c8,rfl⟩:∃ ar cr,v8=.slice ar (F.length+1) cr:=Qan ac;have y8:w8.heap[bx]?=some (.cells #[.string u,.slice az F.length cz] 71 (0,0)):=(ab.block bx (ZZc.1 ae.y).1 (fun e=>Qld ae.s ae.y bx e.symm rfl)).trans ae.y;have o8:=ae.o.cells ae.s ae.sa ae.sr ab;have aU:Hid ((fun W1:World=>W1.heap[bx]?=some (.cells #[.string u,.slice az F.length cz] 71 (0,0))/\QbO W1 ga (k*15) c) w8):=⟨y8,(QkH o8.a al HC).1⟩;have HF:Hid (SmI w (w8.setCell ⟨bx,1,none⟩ (.slice a8 (F.length+1) c8)) p Kn L (.slice (some ⟨ga,0,none⟩) na cc) i X vo bx u (k+1) (.slice a8 (F.length+1) c8)):=Qaa ((am.past aB).add HC aw.symm a9 (by rw [aW.out];exact ac) ab au);have aq:=Qaa y8;clear ac ab au ow aQ y8 o8;refine gK hK aU.out ?_
      try simp only [sX]
      refine tkS 8 (.pointer (some ⟨bx,1,none⟩)) aU ?_;simp only [sX];have q1:=Qay aq 1 rfl;have f1:=fzR 1 aq;refine onE 9 fun K hK=>?_;go_simp;clear q1 f1;refine hK.out _ _ (fun h=>absurd rfl h) ?_
      try simp only [sX]
      refine dnE ?_ _;go_wp2;go_roundw
      case rel=>exact ⟨k+1,_,by omega,by first | rfl | go_num,HF⟩
      case measure=>simp [zI];omega
    ·have aF:¬ (k:Int)<(na:Int):=by omega
     obtain rfl:k=na:=oB
     have af:=ah.out;rw [<- al.out] at af;obtain ⟨az,cz,rfl,_⟩:=af.s.form;obtain ⟨ns,aA⟩:∃ n,((L.take L.length).filter (Qd5 Kn u)).length=n:=⟨_,rfl⟩;rw [aA] at af;have aP:sdL ⟨u,L.filter (Qd5 Kn u),az,cz⟩=[.string u,.slice az ns cz]:=by show [_,Value.slice _ _ _]=_;rw [<- aA,List.take_length]
     have ax:=Qaa af;rw [al.out] at ax;have aZ:=Qaa aP
     have bs:X.length<=12:=by
      have h1:=congrArg List.length af.o.nm;rw [yA,List.length_take] at h1;omega
     rw [aA] at ah;have p0:=(Qbf af.o.x2).1;obtain ⟨b0,b1⟩:=box2P af.y;have OW:Hid (wr.ownsRow (w.heap.size+1+1+1) 71 2 vo X.length (flS X)):=Qaa af.o.d;have aG:w.heap.size+1+1+1<=wr.heap.size:=(ZZc.1 af.o.x2).1;clear aA aP af;go_wp2_with (at_builtin;refine wpList_append_own _ rfl _ _ 23 rfl (w.heap.size+1+1+1) 71 i0 (.agg zAe) 2 40 underlying23 hi a4 bc a1 rfl oF _ _ _ rfl (World.ownsRow.alloc OW _) ⟨wr.heap.size,0,none⟩ 1 1 [.string u,.slice az ns cz] rfl rfl ?c1 ?c2 ?c3 ?c4 ?c5 ?_)
     case c2=>first | exact ⟨rfl,rfl⟩ | (intro x hx;simp only [List.mem_cons,List.not_mem_nil,or_false] at hx;rcases hx with rfl | rfl <;> rfl)
     case c3=>unfold maxLen;omega
     case c4=>omega
     case c5=>first | omega | (simp;omega)
     intro v' w5 ac ab _;obtain ⟨av,cv,rfl⟩:∃ ar cr,v'=.slice ar (X.length+1) cr:=Qan ac;have aJ:Bw wr (wr.alloc (.cells #[.string u,.slice az ns cz] 71)):=bAA
     have HF:Hid (SmO w (w5.setCell ⟨w.heap.size+1+1,0,none⟩ (.slice av (X.length+1) cv)) p Kn L (.slice aa k cc) (i+1) (X ++ [⟨u,L.filter (Qd5 Kn u),az,cz⟩]) (.slice av (X.length+1) cv)):=by
      have h:=ax.out;rw [<- al.out] at h ⊢;exact Qaa (h.fin HU aJ (by rw [aZ.out];exact ac) ab)
     have z2:w5.heap[w.heap.size+1+1]?=some (.cells (Qae vo p) 25 (0,0)):=(ab.block _ oH (fun e=>by have:=(World.ownsRow.lt OW _ e.symm).1;omega)).trans (Qag ax.o.x2 aJ);have y0:=Qay z2 0 rfl;have f0:=fzR 0 z2;clear ac ab z2 aJ p0 b0 b1 OW ax ah;go_wp2;go_roundw
     case rel=>exact ⟨i+1,_,_,by omega,by first | rfl | go_num,HF⟩
     case measure=>simp [zI];omega
  ·have aM:¬ (i:Int)<(Kn.length:Int):=by omega
   obtain ⟨av,cv,rfl,_⟩:=HO.d.form;have hX:ShrL Kn L X:=⟨by have h:=HO.nm;rw [List.take_of_length_le oB] at h;exact h,HO.l⟩;have aL:LvO wr (w.heap.size+1+1+1) X:=hX.own HK HO.r HO.rap HO.c;have HX:=Qaa hX;have bg:=Qaa aL;have aE:Hid (CpP w wr X (.slice av X.length cv) X):=Qaa ⟨HO.d.le oB,aL.le oB,rfl,HO.b⟩;have aN:Hid (∀ j,(Value.slice av X.length cv).ownBlock=some j->w.heap.size+1+1+1<=j):=fun j q=>(World.ownsRow.lt HO.d j q).1;obtain ⟨z0,z1,z2,z3,z4⟩:=Qbf HO.x2;obtain ⟨y0,y1,y2,y3,y4⟩:=Qbf HO.x1;obtain ⟨f0,f1,f2,f3,f4⟩:=fA5 HO.x1;clear hX aL HO;go_wp2;refine bodyPost_ret (v:=.agg (Qae (.slice av X.length cv) p)) (by simp [results,results81,go_sem,y0,y1,y2,y3,y4]) rfl ?_;have hC:=CpP.sets (v0:=.slice av X.length cv) (v1:=.int .i64 p.a) (v2:=.int .i64 p.b) (v3:=.int .i64 p.c) (v4:=.int .i64 p.d) aN bg aE;exact ⟨_,X,L,rfl,a0,ba,HX,hC.r,hC.o,hC.b⟩
end Go.Proofs.YtioohanfodmddaaGreatDoor
