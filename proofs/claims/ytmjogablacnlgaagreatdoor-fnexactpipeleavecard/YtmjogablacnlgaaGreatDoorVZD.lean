/-
 l10Share of the model: what its rounds keep.
-/
import Derived.Test.YtmjogablacnlgaaGreatDoorVZB
import Derived.Test.YtmjogablacnlgaaGreatDoorVYN
namespace Go.Proofs.YtmjogablacnlgaaGreatDoor
set_option linter.unusedVariables false
set_option linter.unusedSimpArgs false
open Go.ChangeShapes Go.WideShapes Go.ChangeAt Go.RowKit Go.PlainAid Go.Lib Go.Maps
set_option maxRecDepth 10000
theorem wp_append_at {P:Program} (w:World) {o:Oper} {a:Act} {K:Act→World→Prop} {Q:Exit→Act→World→Prop} (s x:Operand) (t:TypeId)
  (ho:o.op=.call { callee:=.builtin .append,args:=#[s,x],argTypes:=#[t,t] })
  (base:Nat) (e:TypeId) (i:TypeInfo) (z:Value) (size bytes:Nat) (ht:P.underlying t=some (.slice e)) (hi:P.info? e=some i) (hz:i.zero=some z)
  (hsize:i.size=size) (hby:i.bytes=bytes) (hzs:z.cells.size=size) (hsz:0<size)
  (v:Value) (n:Nat) (xs:List Value) (hs:a.eval s=v) (hown:w.ownsRow base e size v n xs)
  (ad:Addr) (m c:Nat) (news:List Value) (hx:a.eval x=.slice (some ad) m c) (hl:news.length=m*size) (hnews:∀ j u,news[j]?=some u→w.cell? (ad.add j)=some u) (h1:∀ u∈news,u.oneCell'=true)
  (h63:n+m≤maxLen) (hbytes:(n+m)*bytes≤140737488355328) (hbase:base≤w.heap.size)
  (h:∀ v' w',w'.ownsRow base e size v' (n+m) (xs ++ news)→w.grownBy w' v.ownBlock→(v'.ownBlock=v.ownBlock∨v'.ownBlock=some w.heap.size)→K (a.put o.dst v') w'):o.wp P a w K Q:=by
 obtain ⟨v',w',hr,h2,h3,h4,h5⟩:=run_append_own_at (P:=P) w base t o.type e i z size bytes ht hi hz hsize hby hzs hsz v n xs hown ad m c news hl hnews h1 h63 hbytes hbase;unfold Oper.wp execOp;simp only [ho,resolve,invoke,builtin,Sem.run_bind,Sem.run_pure,Result.andThen_ok,List.map_toArray,List.map_cons,List.map_nil,hs,hx,hr];exact h v' w' h2 h3 h5
theorem ty_row {w:World} {b:Nat} {cs:Array Value} {T:TypeId} {fz:Nat×Nat} (h:w.heap[b]?=some (.cells cs T fz)):Ty w (.slice (some ⟨b,0,none⟩) 0 0) T:=fun k e=>by
 obtain rfl:b=k:=Option.some.inj e;exact ⟨_,_,h⟩
theorem agblk_ne {w:World} {B b:Nat} {cs:Array Value} {fz:Nat×Nat} {o:Ag} {p:Pl} (ha:AgO w B o p) (h:w.heap[b]?=some (.cells cs 55 fz)):∀ k,AgBlk o p k→k≠b:=fun k hk e=>by
 subst e;rcases hk with (hk | hk) | (hk | hk)
 ·exact Ty.ne ha.P.ty (ty_row h) (by decide) _ hk rfl
 ·exact Ty.ne ha.N.ty (ty_row h) (by decide) _ hk rfl
 ·exact Ty.ne (own_ty ha.E.2) (ty_row h) (by decide) _ hk rfl
 ·exact Ty.ne (own_ty ha.R.2) (ty_row h) (by decide) _ hk rfl
theorem ownC_ne {w:World} {B b:Nat} {cs:Array Value} {fz:Nat×Nat} {v:Value} {L:List Ce} (ha:OwnC w B v L) (h:w.heap[b]?=some (.cells cs 55 fz)):∀ k,v.ownBlock=some k→k≠b:=fun k hk e=>by
 subst e;exact Ty.ne (own_ty ha) (ty_row h) (by decide) _ hk rfl
structure SmO (w wr:World) (p:Pi) (K:List ByteArray) (R:List Ce) (va:Value) (i:Nat) (X:List Sd) (vo:Value):Prop where
 x1:wr.heap[w.heap.size+1]?=some (.cells zeroPi 29 (0,0))
 x2:wr.heap[w.heap.size+1+1]?=some (.cells (piArr vo p) 29 (0,0))
 d:OwnD wr (w.heap.size+1+1+1) vo X
 r:∀ s∈X,OwnC wr (w.heap.size+1+1+1) (slS s) s.L
 rap:X.Pairwise (fun s t=>ApV (slS s) (slS t))
 a:OwnC wr (w.heap.size+1+1+1) va R
 c:CesO wr (w.heap.size+1+1+1) R
 ra:∀ s∈X,ApV (slS s) va
 nm:X.map Sd.nm=K.take i
 l:∀ s∈X,s.L=R.filter (ownB K s.nm)
 b:Below w.heap.size w wr
structure SmI (w wr:World) (p:Pi) (K:List ByteArray) (R:List Ce) (va:Value) (i:Nat) (X:List Sd) (vo:Value) (bx:Nat) (u:ByteArray) (k:Nat) (vs:Value):Prop where
 o:SmO w wr p K R va i X vo
 y:wr.heap[bx]?=some (.cells #[.string u,vs] 55 (0,0))
 s:OwnC wr (w.heap.size+1+1+1) vs ((R.take k).filter (ownB K u))
 sa:ApV vs va
 sr:∀ s∈X,ApV (slS s) vs
 bo:∀ j,vo.ownBlock=some j→j<bx
 lo:w.heap.size+1+1+1≤bx
section
variable {w wr W w5:World} {p:Pi} {K:List ByteArray} {R:List Ce} {va vo vs v':Value} {i k bx:Nat} {X:List Sd} {u:ByteArray} {c:Ce}
theorem SmO.past (h:SmO w wr p K R va i X vo) (hb:Below wr.heap.size wr W):SmO w W p K R va i X vo:=
 ⟨hpast h.x1 hb,hpast h.x2 hb,h.d.past hb,fun s hs=>(h.r s hs).past hb,h.rap,h.a.past hb,h.c.past hb,h.ra,h.nm,h.l,chain h.b hb⟩
theorem SmI.past (h:SmI w wr p K R va i X vo bx u k vs) (hb:Below wr.heap.size wr W):SmI w W p K R va i X vo bx u k vs:=
 ⟨h.o.past hb,hpast h.y hb,h.s.past hb,h.sa,h.sr,h.bo,h.lo⟩
theorem SmI.start (h:SmO w wr p K R va i X vo):SmI w (wr.alloc (.cells #[.string u,.slice none 0 0] 55)) p K R va i X vo wr.heap.size u 0 (.slice none 0 0):=
 ⟨h.past ((Below.refl _ _).alloc (Nat.le_refl _) _),heap_alloc_new wr _,by rw [List.take_zero];exact OwnC.nil _ _,(fun k q=>by cases q),(fun s hs k q e=>by cases e),fun j q=>(World.ownsRow.lt h.d j q).2,(Array.getElem?_eq_some_iff.1 h.x2).1⟩
theorem SmI.skip (h:SmI w wr p K R va i X vo bx u k vs) (hc:R[k]?=some c) (hn:ownB K u c=false):SmI w wr p K R va i X vo bx u (k+1) vs:=by
 refine ⟨h.o,h.y,?_,h.sa,h.sr,h.bo,h.lo⟩;have e:(R.take (k+1)).filter (ownB K u)=(R.take k).filter (ownB K u):=by rw [List.take_add_one,hc,List.filter_append];simp [hn]
 rw [e];exact h.s
theorem SmO.cells {F:List Ce} (h:SmO w W p K R va i X vo) (hs:OwnC W (w.heap.size+1+1+1) vs F) (hsa:ApV vs va) (hsr:∀ s∈X,ApV (slS s) vs) (hg:W.grownBy w5 vs.ownBlock):SmO w w5 p K R va i X vo:=by
 have far:∀ j,vs.ownBlock=some j→w.heap.size+1+1+1≤j:=fun j q=>(World.ownsRow.lt hs j q).1;have row:∀ {r:Nat} {o:Obj},r<w.heap.size+1+1+1→W.heap[r]?=some o→w5.heap[r]?=some o:=fun {r o} hr q=>(hg.block r (Array.getElem?_eq_some_iff.1 q).1 (fun e=>by have:=far r e.symm;omega)).trans q;refine ⟨row (by omega) h.x1,row (by omega) h.x2,h.d.keptS (grS hg) (fun j q e=>h.d.neC hs j e q),fun s m=>(h.r s m).kept hg (hsr s m),h.rap,h.a.kept hg hsa.symm,h.c.row hs hg,h.ra,h.nm,h.l,h.b.grown hg h.b.size (fun j hj=>by have:=far j hj;omega)⟩
theorem SmI.add (h:SmI w wr p K R va i X vo bx u k vs) (hc:R[k]?=some c) (hy:ownB K u c=true) (hb:Below wr.heap.size wr W) (hown:w5.ownsRow (w.heap.size+1+1+1) 69 15 v' (((R.take k).filter (ownB K u)).length+1) (flC ((R.take k).filter (ownB K u)) ++ ceL c)) (hg:W.grownBy w5 vs.ownBlock) (hloc:v'.ownBlock=vs.ownBlock∨v'.ownBlock=some W.heap.size) :
  SmI w (w5.setCell ⟨bx,1,none⟩ v') p K R va i X vo bx u (k+1) v':=by
 have hW:=h.past hb;have o5:=hW.o.cells hW.s hW.sa hW.sr hg;have e:(R.take (k+1)).filter (ownB K u)=(R.take k).filter (ownB K u) ++ [c]:=by rw [List.take_add_one,hc,List.filter_append];simp [hy]
 have s5:OwnC w5 (w.heap.size+1+1+1) v' ((R.take (k+1)).filter (ownB K u)):=by rw [e];exact OwnC.mk hown
 have y5:w5.heap[bx]?=some (.cells #[.string u,vs] 55 (0,0)):=(hg.block bx (Array.getElem?_eq_some_iff.1 hW.y).1 (fun e=>ownC_ne hW.s hW.y bx e.symm rfl)).trans hW.y;have g6:=grown_one w5 bx 1 v';have hlo:=h.lo;have row:∀ {r:Nat} {o:Obj},r<w.heap.size+1+1+1→w5.heap[r]?=some o→(w5.setCell ⟨bx,1,none⟩ v').heap[r]?=some o:=fun {r o} hr q=>(g6.block r (Array.getElem?_eq_some_iff.1 q).1 (fun e=>by injection e with e;omega)).trans q;have kc:∀ {v:Value} {L:List Ce},OwnC w5 (w.heap.size+1+1+1) v L→OwnC (w5.setCell ⟨bx,1,none⟩ v') (w.heap.size+1+1+1) v L:=fun {v L} o=>o.keptS (grS g6) (fun j q e=>by injection e with e;exact ownC_ne o y5 j q e.symm)
 have far:∀ {v:Value} {L:List Ce},OwnC wr (w.heap.size+1+1+1) v L→ApV v vs→ApV v v':=fun {v L} o ha j q1 q2=>by
  rcases hloc with q | q
  ·rw [q] at q2;exact ha j q1 q2
  ·rw [q] at q2
   have:=(World.ownsRow.lt o j q1).2;have:=hb.size;injection q2 with q2;omega
 refine ⟨⟨row (by omega) o5.x1,row (by omega) o5.x2,o5.d.keptS (grS g6) (fun j q e=>by injection e with e;have:=h.bo j q;omega),fun s m=>kc (o5.r s m),o5.rap,kc o5.a,o5.c.keptS (grS g6) (fun d hd j q e=>by injection e with e;exact agblk_ne (o5.c.o d hd) y5 j q e.symm),o5.ra,o5.nm,o5.l,o5.b.setCell (by show _≤bx;omega) _⟩,heap_setCell_same w5 bx 1 _ _ v' y5,kc s5,(far h.o.a h.sa.symm).symm,fun s m=>far (h.o.r s m) (h.sr s m),h.bo,h.lo⟩
theorem SmI.fin {av:Option Addr} {n cv:Nat} (h:SmI w wr p K R va i X vo bx u R.length (.slice av n cv)) (hu:K[i]?=some u) (hb:Below wr.heap.size wr W) (hown:w5.ownsRow (w.heap.size+1+1+1) 55 2 v' (X.length+1) (flS X ++ sdL ⟨u,R.filter (ownB K u),av,cv⟩)) (hg:W.grownBy w5 vo.ownBlock) :
  SmO w (w5.setCell ⟨w.heap.size+1+1,0,none⟩ v') p K R va (i+1) (X ++ [⟨u,R.filter (ownB K u),av,cv⟩]) v':=by
 have hW:=h.past hb;have hs:=hW.s;rw [List.take_length] at hs;obtain ⟨_,_,hn,_⟩:=hs.form;injection hn with _ hn _;have esl:slS ⟨u,R.filter (ownB K u),av,cv⟩=.slice av n cv:=by show Value.slice _ _ _=_;rw [hn]
 have far:∀ j,vo.ownBlock=some j→w.heap.size+1+1+1≤j:=fun j q=>(World.ownsRow.lt h.o.d j q).1;have row:∀ {r:Nat} {o:Obj},r<w.heap.size+1+1+1→W.heap[r]?=some o→w5.heap[r]?=some o:=fun {r o} hr q=>(hg.block r (Array.getElem?_eq_some_iff.1 q).1 (fun e=>by have:=far r e.symm;omega)).trans q;have z1:=row (by omega) hW.o.x1;have z2:=row (by omega) hW.o.x2;have g6:=grown_one w5 (w.heap.size+1+1) 0 v'
 have kc:∀ {v:Value} {L:List Ce},OwnC W (w.heap.size+1+1+1) v L→OwnC (w5.setCell ⟨w.heap.size+1+1,0,none⟩ v') (w.heap.size+1+1+1) v L:=fun {v L} o=>by
  have o5:OwnC w5 (w.heap.size+1+1+1) v L:=o.keptS (grS hg) (fun j q e=>hW.o.d.neC o j q e);exact o5.keptS (grS g6) (fun j q e=>by have:=(World.ownsRow.lt o5 j q).1;injection e with e;omega)
 have oD:OwnD w5 (w.heap.size+1+1+1) v' (X ++ [⟨u,R.filter (ownB K u),av,cv⟩]):=OwnD.add hown;have c5:CesO w5 (w.heap.size+1+1+1) R:=hW.o.c.keptS (grS hg) (fun d hd j q e=>hW.o.d.ne (hW.o.c.o d hd) j q e);refine ⟨(g6.block _ (Array.getElem?_eq_some_iff.1 z1).1 (fun e=>by injection e with e;omega)).trans z1,heap_setCell_same w5 _ 0 _ _ v' z2,oD.keptS (grS g6) (fun j q e=>by have:=(World.ownsRow.lt oD j q).1;injection e with e;omega),fun s m=>?_,?_,kc hW.o.a,c5.grown g6 (by omega),fun s m=>?_,?_,fun s m=>?_,?_⟩
 ·rcases List.mem_append.1 m with m | m
  ·exact kc (hW.o.r s m)
  ·obtain rfl:=List.mem_singleton.1 m
   rw [esl];exact kc hs
 ·refine List.pairwise_append.2 ⟨h.o.rap,List.pairwise_singleton _ _,fun a ha b hb=>?_⟩
  obtain rfl:=List.mem_singleton.1 hb;rw [esl];exact h.sr a ha
 ·rcases List.mem_append.1 m with m | m
  ·exact h.o.ra s m
  ·obtain rfl:=List.mem_singleton.1 m
   rw [esl];exact h.sa
 ·rw [List.map_append,h.o.nm,List.take_add_one,hu];rfl
 ·rcases List.mem_append.1 m with m | m
  ·exact h.o.l s m
  ·obtain rfl:=List.mem_singleton.1 m
   rfl
 ·exact (hW.o.b.grown hg hW.o.b.size (fun j hj=>by have:=far j hj;omega)).setCell (by show _≤w.heap.size+1+1;omega) _
end
end Go.Proofs.YtmjogablacnlgaaGreatDoor
