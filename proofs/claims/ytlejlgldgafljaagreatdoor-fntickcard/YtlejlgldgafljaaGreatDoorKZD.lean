/-
 Parts.
-/
import Derived.Test.YtlejlgldgafljaaGreatDoorKZA
set_option maxHeartbeats 16000000
set_option linter.all false
namespace Go.Proofs.YtlejlgldgafljaaGreatDoor
open Go.ChangeShapes Go.WideShapes Go.ChangeAt Go.RowKit Go.PlainAid Go.Lib Go.Maps Tryz
set_option maxRecDepth 10000
theorem Qfq {P:Program} (w:World) {o:Oper} {a:Act} {K:Act->World->Prop} {Q:Exit->Act->World->Prop} (s x:Operand) (t:TypeId)
  (ho:o.op=.call { callee:=.builtin .append,args:=#[s,x],argTypes:=#[t,t] })
  (base:Nat) (e:TypeId) (i:TypeInfo) (z:Value) (size bytes:Nat) (ht:P.underlying t=some (.slice e)) (hi:P.info? e=some i) (hz:i.zero=some z)
  (hsize:i.size=size) (hby:i.bytes=bytes) (hzs:z.cells.size=size) (hsz:0<size)
  (v:Value) (n:Nat) (xs:List Value) (hs:a.eval s=v) (hown:w.ownsRow base e size v n xs)
  (ad:Addr) (m c:Nat) (news:List Value) (hx:a.eval x=.slice (some ad) m c) (hl:news.length=m*size) (hnews:∀ j u,news[j]?=some u->w.cell? (ad.add j)=some u) (h1:∀ u∈news,u.oneCell'=true)
  (h63:n+m<=maxLen) (hbytes:(n+m)*bytes<=140737488355328) (hbase:base<=w.heap.size)
  (h:∀ v' w',w'.ownsRow base e size v' (n+m) (xs ++ news)->w.grownBy w' v.ownBlock->(v'.ownBlock=v.ownBlock∨v'.ownBlock=some w.heap.size)->K (a.put o.dst v') w'):o.wp P a w K Q:=by
 obtain ⟨v',w',hr,h2,h3,h4,h5⟩:=run_append_own_at (P:=P) w base t o.type e i z size bytes ht hi hz hsize hby hzs hsz v n xs hown ad m c news hl hnews h1 h63 hbytes hbase;unfold Oper.wp execOp;simp only [ho,resolve,invoke,builtin,Sem.run_bind,Sem.run_pure,Result.andThen_ok,List.map_toArray,List.map_cons,List.map_nil,hs,hx,hr];exact h v' w' h2 h3 h5
variable {w:World}
variable {B N b ca:Nat}
variable {cs:Array Value}
variable {T:TypeId}
variable {fz:Nat×Nat}
theorem Qkb (h:w.heap[b]?=some (.cells cs T fz)):Ty w (.slice (some ⟨b,0,none⟩) 0 0) T:=fun k e=>by
 obtain rfl:b=k:=Option.some.inj e;exact ⟨_,_,h⟩
theorem Qry {o:Ag} {p:Pl} (ha:AgO w B o p) (h:w.heap[b]?=some (.cells cs 56 fz)):∀ k,Qeb o p k->k≠b:=fun k hk e=>by
 subst e;rcases hk with (hk | hk) | (hk | hk)
 ·exact Ty.ne ha.P.ty (Qkb h) (by decide) _ hk rfl
 ·exact Ty.ne ha.N.ty (Qkb h) (by decide) _ hk rfl
 ·exact Ty.ne (QcH ha.E.2) (Qkb h) (by decide) _ hk rfl
 ·exact Ty.ne (QcH ha.R.2) (Qkb h) (by decide) _ hk rfl
variable {L:List Ce}
theorem Qkd {v:Value} (ha:OwnC w B v L) (h:w.heap[b]?=some (.cells cs 56 fz)):∀ k,v.ownBlock=some k->k≠b:=fun k hk e=>by
 subst e;exact Ty.ne (QcH ha) (Qkb h) (by decide) _ hk rfl
structure SmO (w wr:World) (p:Pi) (K:List ByteArray) (R:List Ce) (va:Value) (i:Nat) (X:List Sd) (vo:Value):Prop where
 x1:wr.heap[w.heap.size+1]?=some (.cells Qa3 25 (0,0))
 x2:wr.heap[w.heap.size+1+1]?=some (.cells (Qaf vo p) 25 (0,0))
 d:OwnD wr (w.heap.size+1+1+1) vo X
 r:∀ s∈X,OwnC wr (w.heap.size+1+1+1) (slS s) s.L
 rap:X.Pairwise (fun s t=>ApV (slS s) (slS t))
 a:OwnC wr (w.heap.size+1+1+1) va R
 c:CesO wr (w.heap.size+1+1+1) R
 ra:∀ s∈X,ApV (slS s) va
 nm:X.map Sd.nm=K.take i
 l:∀ s∈X,s.L=R.filter (QdM K s.nm)
 b:Below w.heap.size w wr
structure SmI (w wr:World) (p:Pi) (K:List ByteArray) (R:List Ce) (va:Value) (i:Nat) (X:List Sd) (vo:Value) (bx:Nat) (u:ByteArray) (k:Nat) (vs:Value):Prop where
 o:SmO w wr p K R va i X vo
 y:wr.heap[bx]?=some (.cells #[.string u,vs] 56 (0,0))
 s:OwnC wr (w.heap.size+1+1+1) vs ((R.take k).filter (QdM K u))
 sa:ApV vs va
 sr:∀ s∈X,ApV (slS s) vs
 bo:∀ j,vo.ownBlock=some j->j<bx
 lo:w.heap.size+1+1+1<=bx
section
variable {w wr W w5:World} {p:Pi} {K:List ByteArray} {R:List Ce} {va vo vs v':Value} {i k bx:Nat} {X:List Sd} {u:ByteArray} {c:Ce}
theorem SmO.past (h:SmO w wr p K R va i X vo) (hb:Below wr.heap.size wr W):SmO w W p K R va i X vo:=
 ⟨Qam h.x1 hb,Qam h.x2 hb,h.d.past hb,fun s hs=>(h.r s hs).past hb,h.rap,h.a.past hb,h.c.past hb,h.ra,h.nm,h.l,Qac h.b hb⟩
theorem SmI.past (h:SmI w wr p K R va i X vo bx u k vs) (hb:Below wr.heap.size wr W):SmI w W p K R va i X vo bx u k vs:=
 ⟨h.o.past hb,Qam h.y hb,h.s.past hb,h.sa,h.sr,h.bo,h.lo⟩
theorem SmI.start (h:SmO w wr p K R va i X vo):SmI w (wr.alloc (.cells #[.string u,.slice none 0 0] 56)) p K R va i X vo wr.heap.size u 0 (.slice none 0 0):=
 ⟨h.past ((Below.refl _ _).alloc (Nat.le_refl _) _),heap_alloc_new wr _,by rw [List.take_zero];exact OwnC.nil _ _,(fun k q=>by cases q),(fun s hs k q e=>by cases e),fun j q=>(World.ownsRow.lt h.d j q).2,(Array.getElem?_eq_some_iff.1 h.x2).1⟩
theorem SmI.skip (h:SmI w wr p K R va i X vo bx u k vs) (hc:R[k]?=some c) (hn:QdM K u c=false):SmI w wr p K R va i X vo bx u (k+1) vs:=by
 refine ⟨h.o,h.y,?_,h.sa,h.sr,h.bo,h.lo⟩;have e:(R.take (k+1)).filter (QdM K u)=(R.take k).filter (QdM K u):=by rw [List.take_add_one,hc,List.filter_append];simp [hn]
 rw [e];exact h.s
theorem SmO.cells {F:List Ce} (h:SmO w W p K R va i X vo) (hs:OwnC W (w.heap.size+1+1+1) vs F) (hsa:ApV vs va) (hsr:∀ s∈X,ApV (slS s) vs) (hg:W.grownBy w5 vs.ownBlock):SmO w w5 p K R va i X vo:=by
 have aa:∀ j,vs.ownBlock=some j->w.heap.size+1+1+1<=j:=fun j q=>(World.ownsRow.lt hs j q).1;have row:∀ {r:Nat} {o:Obj},r<w.heap.size+1+1+1->W.heap[r]?=some o->w5.heap[r]?=some o:=fun {r o} hr q=>(hg.block r (ZZc.1 q).1 (fun e=>by have:=aa r e.symm;omega)).trans q;refine ⟨row (by omega) h.x1,row (by omega) h.x2,h.d.keptS (grS hg) (fun j q e=>h.d.neC hs j e q),fun s m=>(h.r s m).kept hg (hsr s m),h.rap,h.a.kept hg hsa.symm,h.c.row hs hg,h.ra,h.nm,h.l,h.b.grown hg h.b.size (fun j hj=>by have:=aa j hj;omega)⟩
theorem SmI.add (h:SmI w wr p K R va i X vo bx u k vs) (hc:R[k]?=some c) (hy:QdM K u c=true) (hb:Below wr.heap.size wr W) (hown:w5.ownsRow (w.heap.size+1+1+1) 75 15 v' (((R.take k).filter (QdM K u)).length+1) (flC ((R.take k).filter (QdM K u)) ++ ceL c)) (hg:W.grownBy w5 vs.ownBlock) (hloc:v'.ownBlock=vs.ownBlock∨v'.ownBlock=some W.heap.size) :
  SmI w (w5.setCell ⟨bx,1,none⟩ v') p K R va i X vo bx u (k+1) v':=by
 have hW:=h.past hb;have o5:=hW.o.cells hW.s hW.sa hW.sr hg;have e:(R.take (k+1)).filter (QdM K u)=(R.take k).filter (QdM K u) ++ [c]:=by rw [List.take_add_one,hc,List.filter_append];simp [hy]
 have s5:OwnC w5 (w.heap.size+1+1+1) v' ((R.take (k+1)).filter (QdM K u)):=by rw [e];exact OwnC.mk hown
 have y5:w5.heap[bx]?=some (.cells #[.string u,vs] 56 (0,0)):=(hg.block bx (ZZc.1 hW.y).1 (fun e=>Qkd hW.s hW.y bx e.symm rfl)).trans hW.y;have g6:=Qah w5 bx 1 v';have ac:=h.lo;have aa:∀ {r:Nat} {o:Obj},r<w.heap.size+1+1+1->w5.heap[r]?=some o->(w5.setCell ⟨bx,1,none⟩ v').heap[r]?=some o:=fun {r o} hr q=>(g6.block r (ZZc.1 q).1 (fun e=>by injection e with e;omega)).trans q;have kc:∀ {v:Value} {L:List Ce},OwnC w5 (w.heap.size+1+1+1) v L->OwnC (w5.setCell ⟨bx,1,none⟩ v') (w.heap.size+1+1+1) v L:=fun {v L} o=>o.keptS (grS g6) (fun j q e=>by injection e with e;exact Qkd o y5 j q e.symm)
 have ab:∀ {v:Value} {L:List Ce},OwnC wr (w.heap.size+1+1+1) v L->ApV v vs->ApV v v':=fun {v L} o ha j q1 q2=>by
  rcases hloc with q | q
  ·rw [q] at q2;exact ha j q1 q2
  ·rw [q] at q2
   have:=(World.ownsRow.lt o j q1).2;have:=hb.size;injection q2 with q2;omega
 refine ⟨⟨aa (by omega) o5.x1,aa (by omega) o5.x2,o5.d.keptS (grS g6) (fun j q e=>by injection e with e;have:=h.bo j q;omega),fun s m=>kc (o5.r s m),o5.rap,kc o5.a,o5.c.keptS (grS g6) (fun d hd j q e=>by injection e with e;exact Qry (o5.c.o d hd) y5 j q e.symm),o5.ra,o5.nm,o5.l,o5.b.setCell (by show _<=bx;omega) _⟩,ZZl w5 bx 1 _ _ v' y5,kc s5,(ab h.o.a h.sa.symm).symm,fun s m=>ab (h.o.r s m) (h.sr s m),h.bo,h.lo⟩
theorem SmI.fin {av:Option Addr} {n cv:Nat} (h:SmI w wr p K R va i X vo bx u R.length (.slice av n cv)) (hu:K[i]?=some u) (hb:Below wr.heap.size wr W) (hown:w5.ownsRow (w.heap.size+1+1+1) 56 2 v' (X.length+1) (flS X ++ sdL ⟨u,R.filter (QdM K u),av,cv⟩)) (hg:W.grownBy w5 vo.ownBlock) :
  SmO w (w5.setCell ⟨w.heap.size+1+1,0,none⟩ v') p K R va (i+1) (X ++ [⟨u,R.filter (QdM K u),av,cv⟩]) v':=by
 have hW:=h.past hb;have hs:=hW.s;rw [List.take_length] at hs;obtain ⟨_,_,hn,_⟩:=hs.form;injection hn with _ hn _;have aa:slS ⟨u,R.filter (QdM K u),av,cv⟩=.slice av n cv:=by show Value.slice _ _ _=_;rw [hn]
 have ab:∀ j,vo.ownBlock=some j->w.heap.size+1+1+1<=j:=fun j q=>(World.ownsRow.lt h.o.d j q).1;have ac:∀ {r:Nat} {o:Obj},r<w.heap.size+1+1+1->W.heap[r]?=some o->w5.heap[r]?=some o:=fun {r o} hr q=>(hg.block r (ZZc.1 q).1 (fun e=>by have:=ab r e.symm;omega)).trans q;have z1:=ac (by omega) hW.o.x1;have z2:=ac (by omega) hW.o.x2;have g6:=Qah w5 (w.heap.size+1+1) 0 v'
 have kc:∀ {v:Value} {L:List Ce},OwnC W (w.heap.size+1+1+1) v L->OwnC (w5.setCell ⟨w.heap.size+1+1,0,none⟩ v') (w.heap.size+1+1+1) v L:=fun {v L} o=>by
  have o5:OwnC w5 (w.heap.size+1+1+1) v L:=o.keptS (grS hg) (fun j q e=>hW.o.d.neC o j q e);exact o5.keptS (grS g6) (fun j q e=>by have:=(World.ownsRow.lt o5 j q).1;injection e with e;omega)
 have oD:OwnD w5 (w.heap.size+1+1+1) v' (X ++ [⟨u,R.filter (QdM K u),av,cv⟩]):=OwnD.add hown;have c5:CesO w5 (w.heap.size+1+1+1) R:=hW.o.c.keptS (grS hg) (fun d hd j q e=>hW.o.d.ne (hW.o.c.o d hd) j q e);refine ⟨(g6.block _ (ZZc.1 z1).1 (fun e=>by injection e with e;omega)).trans z1,ZZl w5 _ 0 _ _ v' z2,oD.keptS (grS g6) (fun j q e=>by have:=(World.ownsRow.lt oD j q).1;injection e with e;omega),fun s m=>?_,?_,kc hW.o.a,c5.grown g6 (by omega),fun s m=>?_,?_,fun s m=>?_,?_⟩
 ·rcases List.mem_append.1 m with m | m
  ·exact kc (hW.o.r s m)
  ·obtain rfl:=List.mem_singleton.1 m
   rw [aa];exact kc hs
 ·refine List.pairwise_append.2 ⟨h.o.rap,List.pairwise_singleton _ _,fun a ha b hb=>?_⟩
  obtain rfl:=List.mem_singleton.1 hb;rw [aa];exact h.sr a ha
 ·rcases List.mem_append.1 m with m | m
  ·exact h.o.ra s m
  ·obtain rfl:=List.mem_singleton.1 m
   rw [aa];exact h.sa
 ·rw [List.map_append,h.o.nm,List.take_add_one,hu];rfl
 ·rcases List.mem_append.1 m with m | m
  ·exact h.o.l s m
  ·obtain rfl:=List.mem_singleton.1 m
   rfl
 ·exact (hW.o.b.grown hg hW.o.b.size (fun j hj=>by have:=ab j hj;omega)).setCell (by show _<=w.heap.size+1+1;omega) _
end
theorem box2P {r:Nat} {a b:Value} (h:w.heap[r]?=some (.cells #[a,b] T (0,0))):w.cell? ⟨r,0,none⟩=some a/\w.cell? ⟨r,1,none⟩=some b:=⟨QaG h 0 rfl,QaG h 1 rfl⟩
def ShA (w:World) (S:List Sd) (p:Pi) (Kn:List ByteArray) (e:Ending) (w':World):Prop:=∃ v X L,e=.returned (.agg (Qaf v p))/\Qc3 L/\(L.map Ce.key).Perm ((Qbi S).map Ce.key)/\ShrL Kn L X/\OwnD w' w.heap.size v X/\LvO w' w.heap.size X/\Below w.heap.size w w'
variable {ao:Option Addr}
variable {S:List Sd}
variable {Kn:List ByteArray}
theorem SmO.start {w1:World} {p:Pi} {W0:World} {va:Value} (h:LcI w W0 ao N ca S p 0 (.slice none 0 0) []) (hz:W0.heap.size=w.heap.size+1+1+1) (hr:OwnC w1 W0.heap.size va L) (ho:CesO w1 W0.heap.size L) (hb:Below W0.heap.size W0 w1):SmO w w1 p Kn L va 0 [] (.slice none 0 0):=by
 rw [hz] at hr ho;exact ⟨Qam h.x1 hb,Qam h.x2 hb,OwnD.nil _ _,by simp,.nil,hr,ho,by simp,by simp,by simp,Qac h.b hb⟩
theorem Qq0 {u o:ByteArray} {c:Ce} (h:QaX Kn c.s o):(o.toList == u.toList)=QdM Kn u c:=by
 by_cases e:o=u
 ·subst e
  rw [ownB_iff.2 h];simp
 ·rw [QtE h (fun q=>e q.symm)]
  cases q:(o.toList == u.toList)
  ·rfl
  ·exact absurd (QgC q) e
theorem Qmr {an:Option Addr} {cn:Nat} (p:Pi) (hI:PpI w ao N S) (hq:QS S) (hs:∀ s∈S,∀ c∈s.L,c.s.size<=100) (hKm:Qaj Kn=true) (hA:Qas w an Kn) :
  Calls prog 46 #[.agg (Qaf (.slice ao N ca) p),.slice an Kn.length cn] w fun e w'=>ShA w S p Kn e w':=by
 obtain ⟨i0,hi,a3,bc,bb⟩:=Qlk;obtain ⟨j0,hj,bd,a6,bl⟩:=Qf8;have HI:=Qaa hI;have HQ:=Qaa hq;have a1:=Qaa hs;have ba:=Qaa hKm;have HK:=Qaa (Qjr hKm);have HA:=Qaa hA;have br:Kn.length<=12:=(Qbz hKm).2;have ap:=Qaa (LcI.start (w:=w) (ao:=ao) (N:=N) (ca:=ca) (S:=S) (p:=p) trivial);have aK:Hid ((((w.alloc (.cells (Qaf (.slice ao N ca) p) 25)).alloc (.cells Qa3 25)).alloc (.cells (Qaf (.slice none 0 0) p) 25)).heap.size=w.heap.size+1+1+1):=Qaa (by simp);clear hI hq hs hKm hA;go_enter func46,ntmps46;go_upto_region 3 with fail;generalize ((w.alloc (.cells (Qaf (.slice ao N ca) p) 25)).alloc (.cells Qa3 25)).alloc (.cells (Qaf (.slice none 0 0) p) 25)=W0 at ap aK ⊢;obtain ⟨r0,r1,r2,r3,r4⟩:=Qa0 ap.out.x0;go_wp2_with fail;clear r0 r1 r2 r3 r4;refine (Qh8 p HI.out.n HQ (QaR HI.out.at' ap.out.b)).mono ?_;rintro e w1 ⟨va,L,rfl,ag⟩;have aG:=Qaa (SmO.start (Kn:=Kn) ap aK ag.r ag.o ag.b);have bg:=Qaa ag.asc
 have bk:Hid ((L.map Ce.key).Perm ((Qbi S).map Ce.key)):=by
  have h:=ag.pm;rw [List.take_of_length_le (by have:=HI.out.n;omega)] at h;exact Qaa h
 have bj:Hid (∀ c∈L,c.s.size<=100):=fun c hc=>by
  obtain ⟨s,hs,d,hd,_,e,_⟩:=ag.mem hc;rw [<- e];exact a1.out s hs d hd
 have aS:=ag.len HQ;have aT:=Qaa aS;obtain ⟨aa,cc,rfl,_⟩:=ag.r.form;clear ag ap aK aS W0;obtain ⟨na,aD⟩:∃ n,L.length=n:=⟨_,rfl⟩;rw [aD] at aG aT ⊢;have ai:=Qaa aD;have bs:=aT.out;clear aD;go_wp2
 go_loopw [7] (fun i wr=>∃ (k:Nat) (X:List Sd) (vo:Value),k<=Kn.length/\i=.int .i64 k/\Hid (SmO w wr p Kn L (.slice aa na cc) k X vo)) (fun i wr=>Kn.length - (Go.RowKit.intOf i).toNat)
 case atStart=>exact ⟨0,[],_,ZZj _,rfl,aG⟩
 case round=>
  clear aG;obtain ⟨i,X,vo,bp,rfl,HO⟩:=hrel;by_cases be:i<Kn.length
  ·have aF:(i:Int)<(Kn.length:Int):=by omega
   obtain ⟨u,hu⟩:∃ u,Kn[i]?=some u:=⟨Kn[i],ZZe be⟩;obtain ⟨bn,on,e,ak⟩:=HA.out (by omega);subst e;have HU:=Qaa hu;have aR:Hid (∀ W,Below w.heap.size w W->W.cell? ⟨bn,on+i,none⟩=some (.string u)):=fun W hW=>Qab hW (ak i u hu);have bh:Hid (∀ W,Below w.heap.size w W->Qas W (some ⟨bn,on,none⟩) Kn):=fun W hW=>Qay HA hW;have n0:=aR.out wr HO.out.b;have ax:=Qaa (SmI.start (u:=u) HO);clear hu ak;go_upto_region 8 with fail;clear n0;obtain ⟨bx,aW⟩:∃ b,wr.heap.size=b:=⟨_,rfl⟩;rw [aW] at ax ⊢;clear aW;generalize wr.alloc (.cells #[.string u,.slice none 0 0] 56)=W1 at ax ⊢;clear HO wr;go_wp2
   go_loopw [9] (fun i2 wr=>∃ (k:Nat) (vs:Value),k<=na/\i2=.int .i64 k/\Hid (SmI w wr p Kn L (.slice aa na cc) i X vo bx u k vs)) (fun i2 wr=>na - (Go.RowKit.intOf i2).toNat)
   case atStart=>exact ⟨0,_,ZZj _,rfl,ax⟩
   case round=>
    clear ax;obtain ⟨k,vs,hk,rfl,ah⟩:=hrel;by_cases bt:k<na
    ·have aL:(k:Int)<(na:Int):=by omega
     obtain ⟨c,hc⟩:∃ c,L[k]?=some c:=⟨L[k]'(by have:=ai.out;omega),ZZe _⟩;obtain ⟨ga,rfl⟩:=Qrc ah.out.o.a (by have:=ai.out;omega);have HC:=Qaa hc;have bi:=Qaa (bj.out c (ZZn hc));have aJ:Hid (∀ W,Below wr.heap.size wr W->QbT W ga (k*15) c):=fun W hW=>(Qi2 (ah.out.o.a.past hW) ai hc).1;clear hc;go_upto_region 11 with fail
     go_cut [42] (fun v w'=>∃ B,v=.bool B/\Hid (B=QdM Kn u c)/\Hid (Below wr.heap.size wr w'))
     case first=>
      have ad:(fun W=>Below wr.heap.size wr W) wr.drew:=(ZZb _ _).drew;refine Qal (fun W=>Below wr.heap.size wr W) 99 (by kernel_rfl) ?_;refine tkS 0 (.slice (some ⟨bn,on,none⟩) Kn.length cn) ad ?_;refine tkS 1 (.slice (some ⟨ga,0,none⟩) na cc) ad ?_;refine tkS 2 (.int .i64 (k:Int)) ad ?_;simp only [sX];refine tkS 3 (.pointer (some ⟨ga,k*15,none⟩)) ad ?_;refine tkS 4 (.pointer (some ⟨ga,k*15+1,none⟩)) ad ?_;refine tkL 5 (.string c.s) ad (fun W hW=>?_) ?_
      ·obtain ⟨x0,x1,x2,x3,x4,x5,x6,x7,x8,x9,bf,bo,aY,bm,aZ⟩:=aJ.out W hW
       clear hW;go_simp
      simp only [sX];refine tkS 7 (.slice (some ⟨bn,on,none⟩) Kn.length cn) ad ?_;refine tkS 8 (.int .i64 (i:Int)) ad ?_;refine tkS 9 (.pointer (some ⟨bn,on+i,none⟩)) ad ?_;simp only [sX];refine tkL 10 (.string u) ad (fun W hW=>?_) ?_
      ·have n0:=aR.out W (Qac ah.out.o.b hW)
       clear hW;go_simp
      simp only [sX];refine onE 6 fun K hK=>?_;go_simp;refine (Qdp cn c.s (by have:=bi.out;omega) ba (bh.out _ (Qac ah.out.o.b ad))).mono ?_;rintro e w2 ⟨uo,rfl,aU,aQ⟩;have al:Hid (Below wr.heap.size wr w2):=(ad:Below wr.heap.size wr wr.drew).trans (aQ.mono (ZZa _));obtain ⟨B,hB⟩:∃ B,(uo.toList == u.toList)=B:=⟨_,rfl⟩;have aw:Hid (B=QdM Kn u c):=by rw [<- hB];exact Qaa (Qq0 aU)
      clear aQ aU;dsimp only;refine gK hK al.out ?_
      try simp only [sX]
      refine tkS 11 (.bool B) al ?_;simp only [sX];refine dnE ?_ _;go_wp2;go_meet;exact ⟨B,rfl,aw,al⟩
     case rest=>
     obtain ⟨B,rfl,aw,al⟩:=hcut;obtain ⟨w3,aI⟩:∃ X,wc=X:=⟨_,rfl⟩;rw [aI] at al ⊢;clear aI;have am:=Qaa (ah.out.past al);have a9:=Qaa (aJ.out w3 al);clear ah aJ al
     cases B with
     | false=>
      have HF:=Qaa (am.out.skip HC aw.out.symm);clear am;go_wp2;go_roundw
      case rel=>exact ⟨k+1,vs,by omega,by first | rfl | go_num,HF⟩
      case measure=>simp [zI];omega
     | true=>
      obtain ⟨az,cz,rfl,_⟩:=am.out.s.form;obtain ⟨F,hF⟩:∃ F,(L.take k).filter (QdM Kn u)=F:=⟨_,rfl⟩;rw [hF] at am;have aV:=Qaa hF
      have bq:F.length<=720:=by
       rw [<- hF];have h1:=List.length_filter_le (QdM Kn u) (L.take k);have h2:(L.take k).length<=L.length:=by rw [List.length_take];omega
       have:=ai.out;omega
      clear hF;go_upto_region 12 with fail;have aj:Hid ((fun W1:World=>W1.heap[bx]?=some (.cells #[.string u,.slice az F.length cz] 56 (0,0))/\QbT W1 ga (k*15) c) w3.drew):=⟨am.out.y,a9⟩;have aB:Hid (Below w3.heap.size w3 w3.drew):=(ZZb _ _).drew;have a0:Hid (Below w3.heap.size w3 w3.drew):=aB;refine Qal (fun W1:World=>W1.heap[bx]?=some (.cells #[.string u,.slice az F.length cz] 56 (0,0))/\QbT W1 ga (k*15) c) 9 (by kernel_rfl) ?_;generalize w3.drew=X0 at aj aB a0 ⊢;refine tkS 0 (.pointer (some ⟨bx,1,none⟩)) aj ?_;refine tkL 1 (.slice az F.length cz) aj (fun W hW=>?_) ?_
      ·have q1:=QaG hW.1 1 rfl
       clear hW;go_simp
      refine tkS 2 (.slice (some ⟨ga,0,none⟩) na cc) aj ?_;simp only [sX];refine tkS 3 (.int .i64 (k:Int)) aj ?_;refine tkS 4 (.pointer (some ⟨ga,k*15,none⟩)) aj ?_;refine tkL 5 (.agg (Qap c)) aj (fun W hW=>?_) ?_
      ·obtain ⟨x0,x1,x2,x3,x4,x5,x6,x7,x8,x9,bf,bo,aY,bm,aZ⟩:=hW.2
       clear hW;go_simp
      simp only [sX];refine onE 6 fun K hK=>?_;go_simp;have ay:Below X0.heap.size X0 (X0.alloc (.cells (Qap c) 75)):=(ZZb _ _).alloc (ZZa _) _;have a5:=Qaa ay;have ae:=Qaa ((am.out.past aB).past ay);have a4:Hid ((fun W1:World=>W1.heap[bx]?=some (.cells #[.string u,.slice az F.length cz] 56 (0,0))/\QbT W1 ga (k*15) c) (X0.alloc (.cells (Qap c) 75))):=⟨ae.out.y,Qag aj.out.2 ay⟩;refine gK hK a4.out ?_;clear ay
      try simp only [sX]
      refine onE 7 fun K hK=>?_;rw [if_pos (by rfl)];have ow:=ae.out.s;rw [aV.out] at ow;unfold OwnC at ow;have aP:w.heap.size+1+1+1<=(X0.alloc (.cells (Qap c) 75)).heap.size:=(ZZc.1 ae.out.o.x2).1;refine Qfq _ (.tmp 44) (.tmp 49) 35 rfl (w.heap.size+1+1+1) 75 j0 (.agg QbN) 15 192 underlying35 hj bd a6 bl rfl (by decide) _ _ _ rfl ow ⟨X0.heap.size,0,none⟩ 1 1 (ceL c) rfl rfl QbG (Qc1 _) (by unfold maxLen;omega) (by omega) aP ?_;intro v8 w8 ac ab au;obtain ⟨a8,c8,rfl⟩:∃ ar cr,v8=.slice ar (F.length+1) cr:=Qan ac;have y8:w8.heap[bx]?=some (.cells #[.string u,.slice az F.length cz] 56 (0,0)):=(ab.block bx (ZZc.1 ae.out.y).1 (fun e=>Qkd ae.out.s ae.out.y bx e.symm rfl)).trans ae.out.y;have o8:=ae.out.o.cells ae.out.s ae.out.sa ae.out.sr ab;have aX:Hid ((fun W1:World=>W1.heap[bx]?=some (.cells #[.string u,.slice az F.length cz] 56 (0,0))/\QbT W1 ga (k*15) c) w8):=⟨y8,(Qi2 o8.a ai HC).1⟩;have HF:Hid (SmI w (w8.setCell ⟨bx,1,none⟩ (.slice a8 (F.length+1) c8)) p Kn L (.slice (some ⟨ga,0,none⟩) na cc) i X vo bx u (k+1) (.slice a8 (F.length+1) c8)):=Qaa ((am.out.past aB).add HC aw.out.symm a5 (by rw [aV.out];exact ac) ab au);have aq:=Qaa y8;clear ac ab au ow aP y8 o8;refine gK hK aX.out ?_
      try simp only [sX]
      refine tkS 8 (.pointer (some ⟨bx,1,none⟩)) aX ?_;simp only [sX];have q1:=QaG aq 1 rfl;have f1:=fzR 1 aq;refine onE 9 fun K hK=>?_;go_simp;clear q1 f1;refine hK.out _ _ (fun h=>absurd rfl h) ?_
      try simp only [sX]
      refine dnE ?_ _;go_wp2;go_roundw
      case rel=>exact ⟨k+1,_,by omega,by first | rfl | go_num,HF⟩
      case measure=>simp [zI];omega
    ·have aL:¬ (k:Int)<(na:Int):=by omega
     obtain rfl:k=na:=by omega
     have af:=ah.out;rw [<- ai.out] at af;obtain ⟨az,cz,rfl,_⟩:=af.s.form;obtain ⟨ns,aC⟩:∃ n,((L.take L.length).filter (QdM Kn u)).length=n:=⟨_,rfl⟩;rw [aC] at af;have aO:sdL ⟨u,L.filter (QdM Kn u),az,cz⟩=[.string u,.slice az ns cz]:=by show [_,Value.slice _ _ _]=_;rw [<- aC,List.take_length]
     have aA:=Qaa af;rw [ai.out] at aA;have a7:=Qaa aO
     have bu:X.length<=12:=by
      have h1:=congrArg List.length af.o.nm;rw [List.length_map,List.length_take] at h1;omega
     rw [aC] at ah;have p0:=(Qa0 af.o.x2).1;obtain ⟨b0,b1⟩:=box2P af.y;have OW:Hid (wr.ownsRow (w.heap.size+1+1+1) 56 2 vo X.length (flS X)):=Qaa af.o.d;have aI:w.heap.size+1+1+1<=wr.heap.size:=(ZZc.1 af.o.x2).1;clear aC aO af;go_wp2_with (at_builtin;refine wpList_append_own _ rfl _ _ 23 rfl (w.heap.size+1+1+1) 56 i0 (.agg #[.string ByteArray.empty,.slice none 0 0]) 2 40 underlying23 hi a3 bc bb rfl (by decide) _ _ _ rfl (World.ownsRow.alloc OW _) ⟨wr.heap.size,0,none⟩ 1 1 [.string u,.slice az ns cz] rfl rfl ?c1 ?c2 ?c3 ?c4 ?c5 ?_)
     case c2=>first | exact ⟨rfl,rfl⟩ | (intro x hx;simp only [List.mem_cons,List.not_mem_nil,or_false] at hx;rcases hx with rfl | rfl <;> rfl)
     case c3=>unfold maxLen;omega
     case c4=>omega
     case c5=>first | omega | (simp;omega)
     intro v' w5 ac ab _;obtain ⟨av,cv,rfl⟩:∃ ar cr,v'=.slice ar (X.length+1) cr:=Qan ac;have aH:Below wr.heap.size wr (wr.alloc (.cells #[.string u,.slice az ns cz] 56)):=(ZZb _ _).alloc (ZZa _) _
     have HF:Hid (SmO w (w5.setCell ⟨w.heap.size+1+1,0,none⟩ (.slice av (X.length+1) cv)) p Kn L (.slice aa k cc) (i+1) (X ++ [⟨u,L.filter (QdM Kn u),az,cz⟩]) (.slice av (X.length+1) cv)):=by
      have h:=aA.out;rw [<- ai.out] at h ⊢;exact Qaa (h.fin HU aH (by rw [a7.out];exact ac) ab)
     have z2:w5.heap[w.heap.size+1+1]?=some (.cells (Qaf vo p) 25 (0,0)):=(ab.block _ (by simp;omega) (fun e=>by have:=(World.ownsRow.lt OW _ e.symm).1;omega)).trans (Qam aA.out.o.x2 aH);have y0:=QaG z2 0 rfl;have f0:=fzR 0 z2;clear ac ab z2 aH p0 b0 b1 OW aA ah;go_wp2;go_roundw
     case rel=>exact ⟨i+1,_,_,by omega,by first | rfl | go_num,HF⟩
     case measure=>simp [zI];omega
  ·have aF:¬ (i:Int)<(Kn.length:Int):=by omega
   obtain ⟨av,cv,rfl,_⟩:=HO.out.d.form;have hX:ShrL Kn L X:=⟨by have h:=HO.out.nm;rw [List.take_of_length_le (by omega)] at h;exact h,HO.out.l⟩;have aM:LvO wr (w.heap.size+1+1+1) X:=hX.own HK HO.out.r HO.out.rap HO.out.c;have HX:=Qaa hX;have a2:=Qaa aM;have aN:Hid (CpP w wr X (.slice av X.length cv) X):=Qaa ⟨HO.out.d.le (by omega),aM.le (by omega),rfl,HO.out.b⟩;have aE:Hid (∀ j,(Value.slice av X.length cv).ownBlock=some j->w.heap.size+1+1+1<=j):=fun j q=>(World.ownsRow.lt HO.out.d j q).1;obtain ⟨z0,z1,z2,z3,z4⟩:=Qa0 HO.out.x2;obtain ⟨y0,y1,y2,y3,y4⟩:=Qa0 HO.out.x1;obtain ⟨f0,f1,f2,f3,f4⟩:=fA5 HO.out.x1;clear hX aM HO;go_wp2;refine bodyPost_ret (v:=.agg (Qaf (.slice av X.length cv) p)) (by simp [results,results46,go_sem,y0,y1,y2,y3,y4]) rfl ?_;have hC:=CpP.sets (v0:=.slice av X.length cv) (v1:=.int .i64 p.a) (v2:=.int .i64 p.b) (v3:=.int .i64 p.c) (v4:=.int .i64 p.d) aE a2 aN;exact ⟨_,X,L,rfl,bg,bk,HX,hC.r,hC.o,hC.b⟩
end Go.Proofs.YtlejlgldgafljaaGreatDoor
