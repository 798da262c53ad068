/-
 Closing a window of a live pipe: what stands between two rounds.
-/
import Derived.Test.YtmjogablacnlgaaGreatDoorOZS
namespace Go.Proofs.YtmjogablacnlgaaGreatDoor
set_option linter.unusedVariables false
set_option linter.unusedSimpArgs false
open Go.ChangeShapes Go.WideShapes Go.ChangeAt Go.RowKit Go.PlainAid Go.Lib Go.Maps
set_option maxRecDepth 10000
theorem wpList_append_nilAt {P:Program} (w:World) {ops:Array Oper} {rest:List Oper} {o:Oper} {a:Act} {Q:Exit→Act→World→Prop} (hgd:o.guard=none) (s x:Operand) (t:TypeId)
  (ho:o.op=.call { callee:=.builtin .append,args:=#[s,x],argTypes:=#[t,t] })
  (base:Nat) (e:TypeId) (i:TypeInfo) (z:Value) (size bytes:Nat) (ht:P.underlying t=some (.slice e)) (hi:P.info? e=some i) (hz:i.zero=some z)
  (hsize:i.size=size) (hby:i.bytes=bytes) (hzs:z.cells.size=size) (hsz:0<size)
  (v:Value) (n:Nat) (xs:List Value) (hs:a.eval s=v) (hown:w.ownsRow base e size v n xs)
  (xo:Option Addr) (m c:Nat) (news:List Value) (hx:a.eval x=.slice xo m c) (hl:news.length=m*size) (hno:xo=none→m=0∧c=0) (hnews:∀ ad,xo=some ad→∀ j u,news[j]?=some u→w.cell? (ad.add j)=some u) (h1:∀ u∈news,u.oneCell'=true)
  (h63:n+m≤maxLen) (hbytes:(n+m)*bytes≤140737488355328) (hbase:base≤w.heap.size)
  (h:∀ v' w',w'.ownsRow base e size v' (n+m) (xs ++ news)→w.grownBy w' v.ownBlock→(v'.ownBlock=v.ownBlock∨v'.ownBlock=some w.heap.size)→wpList P ops Q rest (a.put o.dst v') w') :
  wpList P ops Q (o :: rest) a w:=by
 cases xo with
 | some ad=>exact wpList_append_own_at w hgd s x t ho base e i z size bytes ht hi hz hsize hby hzs hsz v n xs hs hown ad m c news hx hl (hnews ad rfl) h1 h63 hbytes hbase (fun v' w' q1 q2 _ q4=>h v' w' q1 q2 q4)
 | none=>
  obtain ⟨rfl,rfl⟩:=hno rfl;obtain rfl:news=[]:=List.eq_nil_of_length_eq_zero (by rw [hl,Nat.zero_mul]);refine wpList_plain hgd fun _ hK=>?_;have hr:=run_append_owned_none (P:=P) (w:=w) base t o.type e i size ht hi v n xs hown;unfold Oper.wp execOp;simp only [ho,resolve,invoke,builtin,Sem.run_bind,Sem.run_pure,Result.andThen_ok,List.map_toArray,List.map_cons,List.map_nil,hs,hx,hr];exact hK _ _ (h v w (by simpa using hown) (World.grownBy.refl _ _) (.inl rfl))
def restS (win:Int) (s:Sd):ByteArray×List (Int×ByteArray×Ag):=(s.nm,(s.L.filter (fun c=>!isW win c)).map Ce.key)
structure TkF (w:World) (B:Nat) (L:List Ce) (win:Int) (vr vo:Value) (R O:List Ce):Prop where
 r:OwnC w B vr R
 q:OwnC w B vo O
 ap:ApV vr vo
 o:CesO w B (R ++ O)
 kr:R.map Ce.key=(L.filter (fun c=>!isW win c)).map Ce.key
 ko:O.map Ce.key=(L.filter (isW win)).map Ce.key
section
variable {w wr w' w1 w2 w3:World} {B B' G lb mb n k:Nat} {nm:ByteArray} {L R O C:List Ce} {win:Int} {vr vo v v' vn:Value} {e:Ending} {p:Pi} {M X:List Sd} {K:List ByteArray} {s:Sd}
theorem TkF.past (h:TkF w B L win vr vo R O) (hb:Below w.heap.size w w'):TkF w' B L win vr vo R O:=⟨h.r.past hb,h.q.past hb,h.ap,h.o.past hb,h.kr,h.ko⟩
theorem TkF.le (h:TkF w B L win vr vo R O) (hb:B'≤B):TkF w B' L win vr vo R O:=⟨h.r.le hb,h.q.le hb,h.ap,h.o.le hb,h.kr,h.ko⟩
def TkG (w:World) (nm:ByteArray) (L:List Ce) (win:Int) (e:Ending) (w':World):Prop:=∃ ar nr cr ao no co R O,e=.returned (.agg #[.string nm,.slice ar nr cr,.slice ao no co,.int .i64 0])∧TkF w' w.heap.size L win (.slice ar nr cr) (.slice ao no co) R O∧Below w.heap.size w w'
theorem TkP.yes (h:TkP w nm L win e w') (h1:shB nm L=true) (h2:winB win=true):TkG w nm L win e w':=by
 obtain ⟨v,nm',R,O,cd,rfl,hA,hS,hb⟩:=h;unfold TkA at hA;rw [if_pos ⟨h1,h2⟩] at hA;obtain ⟨rfl,kr,ko,rfl⟩:=hA;obtain ⟨⟨vr,vo,rfl,r,q,ap⟩,o⟩:=hS;obtain ⟨ar,cr,rfl,_⟩:=r.form;obtain ⟨ao,co,rfl,_⟩:=q.form;exact ⟨ar,_,cr,ao,_,co,R,O,rfl,⟨r,q,ap,o,kr,ko⟩,hb⟩
structure CwT (wr w':World) (G:Nat) (nm:ByteArray) (L:List Ce) (win:Int) (vr vo:Value) (R O:List Ce):Prop where
 row:w'.heap[G]?=some (.cells #[.string nm,vr,vo,.int .i64 0] 135 (0,0))
 gl:wr.heap.size≤G
 f:TkF w' wr.heap.size L win vr vo R O
 b:Below wr.heap.size wr w'
def CwQ (wr:World) (nm:ByteArray) (L:List Ce) (win:Int) (v:Value) (w':World):Prop:=∃ G ar nr cr ao no co R O,v=.pointer (some ⟨G,0,none⟩)∧CwT wr w' G nm L win (.slice ar nr cr) (.slice ao no co) R O
structure CwI (w wr:World) (lb mb n:Nat) (p:Pi) (vn:Value) (K:List ByteArray) (M:List Sd) (win:Int) (k:Nat) (v:Value) (X:List Sd) (C:List Ce):Prop where
 x0:wr.heap[lb]?=some (.cells (lvArr p mb) 82 (0,0))
 mp:MpS wr mb n (X ++ M.drop k)
 on:OwnT wr w.heap.size vn K
 r:OwnC wr w.heap.size v C
 xr:∀ s∈X,OwnC wr w.heap.size (slS s) s.L
 rap:X.Pairwise (fun s t=>ApV (slS s) (slS t))
 va:∀ s∈X,ApV v (slS s)
 o:CesO wr w.heap.size (allC X ++ C)
 kx:X.map Sd.key=(M.take k).map (restS win)
 kc:C.map Ce.key=((allC (M.take k)).filter (isW win)).map Ce.key
 g:GrownS w wr (fun k=>k=mb)
theorem CwI.past (h:CwI w wr lb mb n p vn K M win k v X C) (hb:Below wr.heap.size wr w'):CwI w w' lb mb n p vn K M win k v X C:=
 ⟨hpast h.x0 hb,h.mp.past hb,own_past h.on hb,h.r.past hb,fun s hs=>(h.xr s hs).past hb,h.rap,h.va,h.o.past hb,h.kx,h.kc,(h.g.trans (GrownS.ofBelow hb)).weak (fun k q=>q.elim id (fun f=>f.elim))⟩
theorem CwI.step {ar:Option Addr} {nr cr:Nat} (h:CwI w wr lb mb n p vn K M win k v X C) (hlb:lb<w.heap.size) (hmb:mb<w.heap.size) (hne:lb≠mb) (hs:M[k]?=some s) (hT:CwT wr w1 G s.nm s.L win (.slice ar nr cr) vo R O) (hm2:MpS w2 mb (n+1) (X ++ ⟨s.nm,R,ar,cr⟩ :: M.drop (k+1))) (hg2:w1.grownBy w2 (some mb)) (hown:OwnC w3 w.heap.size v' (C ++ O)) (hg3:w2.grownBy w3 v.ownBlock) (hloc:v'.ownBlock=v.ownBlock∨v'.ownBlock=some w2.heap.size):CwI w w3 lb mb (n+1) p vn K M win (k+1) v' (X ++ [⟨s.nm,R,ar,cr⟩]) (C ++ O):=by
 have z0:=h.g.size;have z1:=hT.b.size;have z2:=hg2.size;have hW:=h.past hT.b;have far:∀ j,v.ownBlock=some j→w.heap.size≤j∧j<wr.heap.size:=fun j q=>World.ownsRow.lt h.r j q;have hnr:R.length=nr:=ownC_len hT.f.r;subst hnr;have slt:slS ⟨s.nm,R,ar,cr⟩=.slice ar R.length cr:=rfl;have tl:∀ j,(slS ⟨s.nm,R,ar,cr⟩).ownBlock=some j→wr.heap.size≤j∧j<w1.heap.size:=fun j q=>World.ownsRow.lt hT.f.r j q;have g2:GrownS w1 w2 (fun k=>k=mb):=(grS hg2).weak (fun k q=>by injection q with q;exact q.symm);have g3:=grS hg3;have r2:OwnC w2 w.heap.size v C:=hW.r.keptS g2 (fun j q e=>by have:=(far j q).1;omega);have x2:∀ x∈X,OwnC w2 w.heap.size (slS x) x.L:=fun x hx=>(hW.xr x hx).keptS g2 (fun j q e=>by have:=(World.ownsRow.lt (h.xr x hx) j q).1;omega)
 have row:∀ {r:Nat} {o:Obj},r<w.heap.size→r≠mb→w1.heap[r]?=some o→w3.heap[r]?=some o:=fun {r o} hr hrm q=>by
  have q2:=g2.row q (fun e=>hrm e);exact g3.row q2 (fun e=>by have:=(far r e).1;omega)
 refine ⟨row hlb hne hW.x0,?_,?_,hown,fun x hx=>?_,?_,fun x hx=>?_,?_,?_,?_,?_⟩
 ·have hm3:=hm2.kept hg3 (fun e=>by have:=(far mb e.symm).1;omega)
  rw [List.append_assoc];exact hm3
 ·have o2:=hW.on.kept hg2 (fun j q e=>by have:=(World.ownsRow.lt h.on j e).1;injection q with q;omega)
  exact o2.kept hg3 (fun j q e=>Ty.ne (own_ty o2) (own_ty r2) (by decide) j e q)
 ·rcases List.mem_append.1 hx with hx | hx
  ·exact (x2 x hx).kept hg3 (fun j q1 q2=>h.va x hx j q2 q1)
  ·obtain rfl:=List.mem_singleton.1 hx
   have t2:OwnC w2 wr.heap.size (slS ⟨s.nm,R,ar,cr⟩) R:=hT.f.r.keptS g2 (fun j q e=>by have:=(tl j q).1;omega);exact (t2.keptS g3 (fun j q e=>by have:=(tl j q).1;have:=(far j e).2;omega)).le z0
 ·refine List.pairwise_append.2 ⟨h.rap,List.pairwise_singleton _ _,fun a ha b hb j q1 q2=>?_⟩
  obtain rfl:=List.mem_singleton.1 hb;have:=(World.ownsRow.lt (h.xr a ha) j q1).2;have:=(tl j q2).1;omega
 ·intro j q1 q2
  rcases List.mem_append.1 hx with hx | hx
  ·have hj:=World.ownsRow.lt (h.xr x hx) j q2
   rcases hloc with e | e
   ·rw [e] at q1;exact h.va x hx j q1 q2
   ·rw [e] at q1;injection q1 with q1;omega
  ·obtain rfl:=List.mem_singleton.1 hx
   have hj:=tl j q2;rcases hloc with e | e
   ·rw [e] at q1;have:=(far j q1).2;omega
   ·rw [e] at q1;injection q1 with q1;omega
 ·have o1:=(h.o.app hT.b z0 hT.f.o)
  have o1':CesO w1 w.heap.size (allC (X ++ [⟨s.nm,R,ar,cr⟩]) ++ (C ++ O)):=o1.perm (by
   rw [allC_app,allC_one];simp only [List.append_assoc];refine List.Perm.append_left _ ?_;rw [← List.append_assoc,← List.append_assoc];exact List.Perm.append_right _ List.perm_append_comm)
  have o2:=o1'.grown hg2 hmb;exact o2.keptS g3 (fun c hc j q e=>OwnC.ne r2 (o2.o c hc) j q e)
 ·rw [List.map_append,h.kx,List.take_add_one,hs,List.map_append]
  have:Sd.key ⟨s.nm,R,ar,cr⟩=restS win s:=by unfold Sd.key restS;rw [hT.f.kr]
  simp [this]
 ·rw [List.map_append,h.kc,hT.f.ko,List.take_add_one,hs,allC_app,List.filter_append,List.map_append]
  simp [allC]
 ·refine ((h.g.trans (GrownS.ofBelow hT.b)).trans g2 |>.trans g3) |> (fun q=>⟨q.os,q.tape,q.output,q.size,fun j hj hn=>q.block j hj ?_⟩)
  rintro (((e | e) | e) | e)
  ·exact hn e
  ·exact e
  ·exact hn e
  ·have:=(far j e).1;omega
end
theorem row4 {W:World} {G:Nat} {a b c d:Value} {T:TypeId} (a' b' c' d':Value) (h:W.heap[G]?=some (.cells #[a,b,c,d] T (0,0))):((((W.setCell ⟨G,0,none⟩ a').setCell ⟨G,1,none⟩ b').setCell ⟨G,2,none⟩ c').setCell ⟨G,3,none⟩ d').heap[G]?=some (.cells #[a',b',c',d'] T (0,0)):=by
 have r1:=heap_setCell_same W G 0 _ _ a' h;have r2:=heap_setCell_same _ G 1 _ _ b' r1;have r3:=heap_setCell_same _ G 2 _ _ c' r2;have r4:=heap_setCell_same _ G 3 _ _ d' r3
 simpa using r4
theorem grown4 (W:World) (G:Nat) (a' b' c' d':Value):GrownS W ((((W.setCell ⟨G,0,none⟩ a').setCell ⟨G,1,none⟩ b').setCell ⟨G,2,none⟩ c').setCell ⟨G,3,none⟩ d') (fun k=>k=G):=by
 have g:∀ (X:World) j u,GrownS X (X.setCell ⟨G,j,none⟩ u) (fun k=>k=G):=fun X j u=>(grS (grown_one X G j u)).weak (fun k e=>by injection e with e;exact e.symm);exact (((g _ _ _).trans (g _ _ _)).trans (g _ _ _)).trans (g _ _ _) |>.weak (fun k q=>by rcases q with ((q | q) | q) | q <;> exact q)
theorem TkF.keptS {w w':World} {B lo G:Nat} {L R O:List Ce} {win:Int} {vr vo:Value} (h:TkF w B L win vr vo R O) (hg:GrownS w w' (fun k=>k=G)) (hn:∀ k,B≤k→k<lo→k≠G) (hl:TkF w B L win vr vo R O→∀ k,(vr.ownBlock=some k∨vo.ownBlock=some k∨∃ c∈R ++ O,AgBlk c.g c.p k)→k<lo):TkF w' B L win vr vo R O:=
 ⟨h.r.keptS hg (fun k q e=>hn k (World.ownsRow.lt h.r k q).1 (hl h k (.inl q)) e),h.q.keptS hg (fun k q e=>hn k (World.ownsRow.lt h.q k q).1 (hl h k (.inr (.inl q))) e),h.ap,h.o.keptS hg (fun c hc k q e=>hn k ((h.o.o c hc).lt q).1 (hl h k (.inr (.inr ⟨c,hc,q⟩))) e),h.kr,h.ko⟩
theorem TkF.lt {w:World} {B k:Nat} {L R O:List Ce} {win:Int} {vr vo:Value} (h:TkF w B L win vr vo R O) (q:vr.ownBlock=some k∨vo.ownBlock=some k∨∃ c∈R ++ O,AgBlk c.g c.p k):B≤k∧k<w.heap.size:=by
 rcases q with q | q | ⟨c,hc,q⟩
 ·exact World.ownsRow.lt h.r k q
 ·exact World.ownsRow.lt h.q k q
 ·exact (h.o.o c hc).lt q
theorem CwT.one {wr w3 Wa:World} {G:Nat} {nm:ByteArray} {L R O:List Ce} {win:Int} {vr vo a b c d:Value} (f:TkF w3 wr.heap.size L win vr vo R O) (hb:Below wr.heap.size wr w3) (ha:Below w3.heap.size w3 Wa) (e:G=w3.heap.size) (hr:Wa.heap[G]?=some (.cells #[a,b,c,d] 135 (0,0))):CwT wr ((((Wa.setCell ⟨G,0,none⟩ (.string nm)).setCell ⟨G,1,none⟩ vr).setCell ⟨G,2,none⟩ vo).setCell ⟨G,3,none⟩ (.int .i64 0)) G nm L win vr vo R O:=by
 have z:=hb.size;have g:=grown4 Wa G (.string nm) vr vo (.int .i64 0);refine ⟨row4 _ _ _ _ hr,by omega,?_,g.below (chain hb ha) (chain hb ha).size (fun k q=>by omega)⟩;exact (f.past ha).keptS (lo:=w3.heap.size) g (fun k _ h1 e2=>by omega) (fun _ k q=>(f.lt q).2)
theorem CwT.two {wr W1 w3:World} {G:Nat} {nm:ByteArray} {L R O:List Ce} {win:Int} {vr vo a b c d:Value} (f:TkF w3 W1.heap.size L win vr vo R O) (hb1:Below wr.heap.size wr W1) (hb:Below W1.heap.size W1 w3) (hG:wr.heap.size≤G) (hG1:G<W1.heap.size) (hr:w3.heap[G]?=some (.cells #[a,b,c,d] 135 (0,0))):CwT wr ((((w3.setCell ⟨G,0,none⟩ (.string nm)).setCell ⟨G,1,none⟩ vr).setCell ⟨G,2,none⟩ vo).setCell ⟨G,3,none⟩ (.int .i64 0)) G nm L win vr vo R O:=by
 have z:=hb1.size;have z2:=hb.size;have g:=grown4 w3 G (.string nm) vr vo (.int .i64 0);refine ⟨row4 _ _ _ _ hr,hG,?_,g.below (chain hb1 hb) (chain hb1 hb).size (fun k q=>by omega)⟩;exact (f.keptS (lo:=w3.heap.size) g (fun k h1 _ e2=>by omega) (fun _ k q=>(f.lt q).2)).le z
theorem pip_win {S:List Sd} {p:Pi} (h:pipB S p=true):0≤p.d∧p.d≤1000000000∧winB p.d=true:=by
 unfold pipB clkB at h;simp only [Bool.and_eq_true] at h;have q:winB p.d=true:=h.1.2;have q2:=q;unfold winB at q2;simp only [Bool.and_eq_true,decide_eq_true_eq] at q2;exact ⟨q2.1,q2.2,q⟩
theorem mem_all {S:List Sd} {s:Sd} {c:Ce} (hs:s∈S) (hc:c∈s.L):c∈allC S:=by unfold allC;exact List.mem_flatMap.2 ⟨s,hs,hc⟩
theorem all_ap {w:World} {B:Nat} {S:List Sd} {s:Sd} (h:CesO w B (allC S)) (hs:s∈S):CesO w B s.L:=by
 obtain ⟨A,R,rfl⟩:=List.append_of_mem hs;have e:allC (A ++ s :: R)=allC A ++ (s.L ++ allC R):=by simp [allC]
 rw [e] at h;exact ⟨fun c hc=>h.o c (by simp [hc]),(List.pairwise_append.1 (List.pairwise_append.1 h.ap).2.1).1⟩
theorem MX.past2 {w wr w':World} {mb:Nat} (h:MX w) (hV:0<mb) (hg:GrownS w wr (fun k=>k=mb)) (hb:Below wr.heap.size wr w'):MX w':=by
 obtain ⟨m,q⟩:=h;have e:wr.cell? ⟨0,0,none⟩=w.cell? ⟨0,0,none⟩:=World.cell?_of_block (w:=w) (hg.block _ (World.block_lt_of_cell? _ _ q) (fun e=>by have e':(0:Nat)=mb:=e;omega));exact MX.past ⟨m,e.trans q⟩ hb
section
variable {w wr:World} {mb n Bm:Nat} {M S:List Sd} {p:Pi}
theorem LvH.sh {s:Sd} (h:LvH w mb n Bm M S p) (hs:s∈M) (hg:GrownS w wr (fun k=>k=mb)):ShI wr s.ao s.L.length s.L∧shB s.nm s.L=true∧s.nm.size≤40∧s.L.length≤60:=by
 have hp:pipB M p=true:=by rw [pipB_key h.ky];exact h.r
 have hq:∀ t∈M,∀ c∈t.L,AgOk c.g∧AgSm c.g∧c.s.size≤maxLen:=sds_all h.ky (fun _ s g=>AgOk g∧AgSm g∧s.size≤maxLen) (fun t ht c hc=>⟨(h.q.ok t ht c hc).1,(h.q.ok t ht c hc).2.1,(h.q.ok t ht c hc).2.2.1⟩);have hsb:=sdsB_sh (pip_parts hp).1 hs
 have hl:s.L.length≤60:=by
  obtain ⟨t,ht,_,e⟩:=sds_mem h.ky hs;have e2:=congrArg List.length e;rw [List.length_map,List.length_map] at e2;have:=h.q.l t ht;omega
 have ho:=h.o.keptS hg (fun t ht k q e=>by
  rcases q with q | ⟨c,hc,q⟩
  ·have:=(World.ownsRow.lt (h.o.r t ht) k q).1;have:=h.lt;omega
  ·have:=((h.o.o.o c (mem_all ht hc)).lt q).1;have:=h.lt;omega)
 have hco:CesO wr Bm s.L:=all_ap ho.o hs;refine ⟨⟨rfl,by omega,fun c hc=>(hq s hs c hc).1,fun c hc=>(hq s hs c hc).2.1,fun c hc=>(hq s hs c hc).2.2,fun c hc=>(hco.o c hc).plgX,OwnC.at (ho.r s hs) hco.at⟩,hsb,(name_sizeM (memb_name h.memb (List.mem_map_of_mem hs))).2,hl⟩
theorem allC_take (M:List Sd) (k:Nat):(allC (M.take k)).Sublist (allC M):=by
 have h:allC M=allC (M.take k) ++ allC (M.drop k):=by rw [← allC_app,List.take_append_drop]
 rw [h];exact List.sublist_append_left _ _
end
def CwZ (w w':World) (lb mb:Nat) (p:Pi) (M:List Sd) (v:Value):Prop:=∃ n X C,MpS w' mb n X∧w'.heap[lb]?=some (.cells (lvArr ⟨p.a,p.b,p.c,p.d+1⟩ mb) 82 (0,0))∧LvO w' w.heap.size X∧OwnC w' w.heap.size v C∧CesO w' w.heap.size (allC X ++ C)∧(∀ s∈X,ApV v (slS s))∧AscC C∧X.map Sd.key=M.map (restS p.d)∧(C.map Ce.key).Perm (((allC M).filter (isW p.d)).map Ce.key)∧GrownS w w' (fun k=>k=mb∨k=lb)
theorem CwI.fin {w wr w4:World} {lb mb n:Nat} {p:Pi} {vn v:Value} {K:List ByteArray} {M X:List Sd} {C L:List Ce} (h:CwI w wr lb mb n p vn K M p.d M.length v X C) (hlb:lb<w.heap.size) (hmb:mb<w.heap.size) (hne:lb≠mb) (hL:AscC L) (hp:C.Perm L) (ho:OwnC w4 w.heap.size v L) (hg:wr.grownBy w4 v.ownBlock):CwZ w (w4.setCell ⟨lb,3,none⟩ (.int .i64 (p.d+1))) lb mb p M v:=by
 have far:∀ j,v.ownBlock=some j→w.heap.size≤j∧j<wr.heap.size:=fun j q=>World.ownsRow.lt h.r j q;have g4:=grS hg;have g5:GrownS w4 (w4.setCell ⟨lb,3,none⟩ (.int .i64 (p.d+1))) (fun k=>k=lb):=(grS (grown_one w4 lb 3 _)).weak (fun k e=>by injection e with e;exact e.symm);have x4:w4.heap[lb]?=some (.cells (lvArr p mb) 82 (0,0)):=g4.row h.x0 (fun e=>by have:=(far lb e).1;omega);have x5:=heap_setCell_same w4 lb 3 _ _ (.int .i64 (p.d+1)) x4;have m4:=h.mp.kept hg (fun e=>by have:=(far mb e.symm).1;omega);have m5:=m4.kept (grown_one w4 lb 3 (.int .i64 (p.d+1))) (fun e=>by injection e with e;exact hne e.symm);rw [List.drop_length,List.append_nil] at m5;have xs:∀ s∈X,OwnC (w4.setCell ⟨lb,3,none⟩ (.int .i64 (p.d+1))) w.heap.size (slS s) s.L:=fun s hs=>((h.xr s hs).kept hg (fun j q1 q2=>h.va s hs j q2 q1)).keptS g5 (fun k q e=>by have:=(World.ownsRow.lt (h.xr s hs) k q).1;omega);have o4:CesO w4 w.heap.size (allC X ++ C):=h.o.keptS g4 (fun c hc j q e=>OwnC.ne h.r (h.o.o c hc) j q e);have o5:CesO (w4.setCell ⟨lb,3,none⟩ (.int .i64 (p.d+1))) w.heap.size (allC X ++ L):=(o4.keptS g5 (fun c hc j q e=>by have:=((o4.o c hc).lt q).1;omega)).perm (List.Perm.append_left _ hp);refine ⟨n,X,L,m5,by simpa using x5,⟨xs,h.rap,⟨fun c hc=>o5.o c (List.mem_append_left _ hc),(List.pairwise_append.1 o5.ap).1⟩⟩,ho.keptS g5 (fun k q e=>by have:=(far k q).1;omega),o5,h.va,hL,?_,?_,?_⟩
 ·rw [h.kx,List.take_length]
 ·have e:=h.kc
  rw [List.take_length] at e;rw [← e];exact (hp.map _).symm
 ·refine ((h.g.trans g4).trans g5) |> (fun q=>⟨q.os,q.tape,q.output,q.size,fun j hj hn=>q.block j hj ?_⟩)
  rintro ((e | e) | e)
  ·exact hn (.inl e)
  ·have:=(far j e).1;omega
  ·exact hn (.inr e)
set_option maxHeartbeats 16000000 in
theorem c_closeWindow {w:World} {lb mb n Bm:Nat} {M S:List Sd} (p:Pi) (hm:MX w) (hV:0<mb) (hL:LvH w mb n Bm M S p) (hx:w.heap[lb]?=some (.cells (lvArr p mb) 82 (0,0))) (hne:lb≠mb) :
  Calls Tryz.prog 75 #[.pointer (some ⟨lb,0,none⟩)] w fun e w'=>∃ a n c,e=.returned (.slice a n c)∧CwZ w w' lb mb p M (.slice a n c):=by
 obtain ⟨i0,hi,hz0,hz1,hz2⟩:=infoCe;have hmb:mb<w.heap.size:=hL.mp.lt;have hlb:lb<w.heap.size:=(Array.getElem?_eq_some_iff.1 hx).1;obtain ⟨hw0,hw1,hwin⟩:=pip_win hL.r;have hkl:M.length≤12:=by rw [hL.len];exact hL.q.n
 have hn:=hL.n;obtain ⟨_,_,_,_,hall,_⟩:=hL.all;have HM:=hide hm;have HV:=hide hV;have HL:=hide hL;have HX:=hide hx;have HNe:=hide hne;have HLb:=hide hlb;have HMb:=hide hmb;have HWin:=hide hwin;have HAll:=hide hall;obtain ⟨K,hK⟩:∃ K,M.map Sd.nm=K:=⟨_,rfl⟩;have HK:=hide hK;have hKl:K.length=M.length:=by rw [← hK,List.length_map]
 have hwr:IntKind.i64.wrap (p.d+1)=p.d+1:=IntWalk.i64_in _ ⟨by omega,by omega⟩;clear hm hV hL hne hlb hmb hwin hall hK;obtain ⟨x0,x1,x2,x3,x4⟩:=box5 hx;clear hx;go_enter Tryz.func75,Tryz.ntmps75;go_wp2_with fail;clear x0 x1 x2 x3 x4;refine (c_members p HL.out.mp (K:=K) (by rw [← HK.out];exact memb_pair HL.out.memb) (by rw [HK.out]) (by omega)).mono ?_;rintro e w1 ⟨vn,rfl,ho,hb1⟩;obtain ⟨an,cn,rfl⟩:=ownT_any ho
 have H1:Hid (CwI w w1 lb mb n p (.slice an K.length cn) K M p.d 0 (.slice none 0 0) [] []):=
  hide ⟨hpast HX.out hb1,by simpa using HL.out.mp.past hb1,ho,OwnC.nil _ _,(fun s hs=>by cases hs),.nil,(fun s hs=>by cases hs),CesO.nil _ _,rfl,rfl,(GrownS.ofBelow hb1).weak (fun k f=>f.elim)⟩
 clear ho hb1;go_wp2
 go_loopw [3,12] (fun v i wr=>∃ (k:Nat) (a0:Option Addr) (n0 c0:Nat) (X:List Sd) (C:List Ce),k≤K.length∧i=.int .i64 k∧v=.slice a0 n0 c0∧Hid (CwI w wr lb mb (n+k) p (.slice an K.length cn) K M p.d k (.slice a0 n0 c0) X C)) (fun v i wr=>K.length - (Go.RowKit.intOf i).toNat)
 case atStart=>exact ⟨0,_,_,_,_,_,Nat.zero_le _,rfl,rfl,H1⟩
 case round=>
  clear H1;obtain ⟨k,a0,n0,c0,X,C,hk,rfl,rfl,H1⟩:=hrel;by_cases hkn:k<K.length
  ·have hkni:(k:Int)<(K.length:Int):=by omega
   obtain ⟨s,hs⟩:∃ s,M[k]?=some s:=⟨M[k]'(by omega),List.getElem?_eq_getElem _⟩;have hKs:K[k]?=some s.nm:=by rw [← HK.out,List.getElem?_map,hs];rfl
   have hsM:=List.mem_of_getElem? hs;obtain ⟨hSh,hsb,hz40,hl60⟩:=HL.out.sh hsM H1.out.g
   have hdr:X ++ M.drop k=X ++ s :: M.drop (k+1):=by
    obtain ⟨hi2,e2⟩:=List.getElem?_eq_some_iff.1 hs;rw [← e2,← List.drop_eq_getElem_cons hi2]
   have hmp:=H1.out.mp;rw [hdr] at hmp;have HMp:=hide hmp;have HSh:=hide hSh;have HSb:=hide hsb;have HS:=hide hs;obtain ⟨gn,rfl,nx0⟩:=ownT_cell H1.out.on rfl hKs;clear hKs hsM hSh hsb hs hdr hmp;go_upto_region 5 with fail;clear nx0
   go_cut [6] (fun v w'=>Hid (CwQ wr s.nm s.L p.d v w'))
   case first=>
    have HS0:Hid ((fun W=>Below wr.heap.size wr W) wr.drew):=(Below.refl _ _).drew;refine regionK (fun W=>Below wr.heap.size wr W) 13 (by kernel_rfl) ?_;refine tkS (i:=0) (v:=.pointer (some ⟨lb,0,none⟩)) rfl rfl HS0.out ?_;refine tkS (i:=1) (v:=.pointer (some ⟨lb,0,none⟩)) rfl rfl HS0.out ?_;refine tkS (i:=2) (v:=.pointer (some ⟨lb,4,none⟩)) rfl rfl HS0.out ?_;simp only [sA,sB,sC];refine tkL (i:=3) (v:=.map (some mb)) rfl rfl HS0.out (fun W hW=>?_) ?_
    ·obtain ⟨x0,x1,x2,x3,x4⟩:=box5 (hpast H1.out.x0 hW)
     clear hW;go_simp
    refine tkS (i:=4) (v:=.string s.nm) rfl rfl HS0.out ?_;refine tkL (i:=5) (v:=.agg #[.string s.nm,.slice s.ao s.L.length s.cp]) rfl rfl HS0.out (fun W hW=>?_) ?_
    ·have hlk:=(HMp.out.past hW).look (s:=s) (by simp) (by unfold maxLen;omega)
     clear hW;go_simp
    simp only [sA,sB,sC];refine tkS (i:=6) (v:=.pointer (some ⟨lb,0,none⟩)) rfl rfl HS0.out ?_;refine tkS (i:=7) (v:=.pointer (some ⟨lb,0,none⟩)) rfl rfl HS0.out ?_;refine tkS (i:=8) (v:=.pointer (some ⟨lb,0,none⟩)) rfl rfl HS0.out ?_;simp only [sA,sB,sC];refine tkS (i:=9) (v:=.pointer (some ⟨lb,3,none⟩)) rfl rfl HS0.out ?_;refine tkL (i:=10) (v:=.int .i64 p.d) rfl rfl HS0.out (fun W hW=>?_) ?_
    ·obtain ⟨x0,x1,x2,x3,x4⟩:=box5 (hpast H1.out.x0 hW)
     clear hW;go_simp
    simp only [sA,sB,sC];refine twoK (i:=11) (j:=12) (by kernel_rfl) rfl rfl (fun K0 hK0=>?_) (fun K0 hK0=>?_)
    ·go_simp
     refine (c_i_ShardTake s.nm p.d (by unfold maxLen;omega) (HM.out.past2 HV.out H1.out.g HS0.out) (HSh.out.past HS0.out)).mono ?_;rintro e w3 hP;obtain ⟨ar,nr,cr,ao,no,co,R,O,rfl,hF,hb3⟩:=hP.yes HSb.out HWin.out;have HB3:Hid (Below wr.heap.size wr w3):=chain HS0.out hb3;have HF3:Hid (TkF w3 wr.heap.size s.L p.d (.slice ar nr cr) (.slice ao no co) R O):=hide (hF.le HS0.out.size);clear hP hF hb3;dsimp only;refine hK0.out _ _ (fun _=>HB3.out) ?_;clear hK0 K0
     try simp only [Act.put,sA,sB,sC]
     refine oneK (i:=12) (by kernel_rfl) rfl (fun K0 hK0=>?_);go_simp;have hal:Below w3.heap.size w3 (w3.alloc (.cells #[.string ⟨#[]⟩,.slice none 0 0,.slice none 0 0,.int .i64 0] 135)):=(Below.refl _ _).alloc (Nat.le_refl _) _;have R0:=heap_alloc_new w3 (.cells #[.string ⟨#[]⟩,.slice none 0 0,.slice none 0 0,.int .i64 0] 135);have HBc:=hide (chain HB3.out hal);refine hK0.out _ _ (fun _=>HBc.out) ?_;clear hK0 K0
     try simp only [Act.put,sA,sB,sC]
     have HAl:=hide hal;have HR0:=hide R0;clear hal R0;generalize w3.alloc (.cells #[.string ⟨#[]⟩,.slice none 0 0,.slice none 0 0,.int .i64 0] 135)=Wa at HAl HR0 HBc ⊢;obtain ⟨G,hG⟩:∃ G,w3.heap.size=G:=⟨_,rfl⟩;have HG:=hide hG;rw [hG] at HR0 ⊢;clear hG;have q0:=cellP HR0.out 0 rfl;have q1:=cellP HR0.out 1 rfl;have q2:=cellP HR0.out 2 rfl;have q3:=cellP HR0.out 3 rfl;have f0:=fzR 0 HR0.out;have f1:=fzR 1 HR0.out;have f2:=fzR 2 HR0.out;have f3:=fzR 3 HR0.out;refine oneK (i:=13) (by kernel_rfl) rfl (fun K0 hK0=>?_);go_simp;refine hK0.out _ _ (fun h=>absurd rfl h) ?_;clear hK0 K0
     try simp only [Act.put,sA,sB,sC]
     refine doneK (by kernel_rfl) ?_ _;go_wp2;go_meet;exact hide ⟨G,ar,nr,cr,ao,no,co,R,O,rfl,CwT.one HF3.out HB3.out HAl.out HG.out.symm HR0.out⟩
    ·go_simp
     have hal:Below wr.heap.size wr ((wr.alloc (.cells #[.string ⟨#[]⟩,.slice none 0 0,.slice none 0 0,.int .i64 0] 135)).drew):=((Below.refl _ _).alloc (Nat.le_refl _) _).drew;have R0:((wr.alloc (.cells #[.string ⟨#[]⟩,.slice none 0 0,.slice none 0 0,.int .i64 0] 135)).drew).heap[wr.heap.size]?=some (.cells #[.string ⟨#[]⟩,.slice none 0 0,.slice none 0 0,.int .i64 0] 135 (0,0)):=heap_alloc_new wr (.cells #[.string ⟨#[]⟩,.slice none 0 0,.slice none 0 0,.int .i64 0] 135);have hGz:wr.heap.size<((wr.alloc (.cells #[.string ⟨#[]⟩,.slice none 0 0,.slice none 0 0,.int .i64 0] 135)).drew).heap.size:=by show _<(wr.alloc (.cells #[.string ⟨#[]⟩,.slice none 0 0,.slice none 0 0,.int .i64 0] 135)).heap.size;simp
     have HAl:=hide hal;have HR0:=hide R0;have HGz:=hide hGz;clear hal R0 hGz;refine hK0.out _ _ (fun _=>HAl.out) ?_;clear hK0 K0
     try simp only [Act.put,sA,sB,sC]
     generalize (wr.alloc (.cells #[.string ⟨#[]⟩,.slice none 0 0,.slice none 0 0,.int .i64 0] 135)).drew=Wa at HAl HR0 HGz ⊢;refine oneK (i:=11) (by kernel_rfl) rfl (fun K0 hK0=>?_);go_simp;refine (c_i_ShardTake s.nm p.d (by unfold maxLen;omega) (HM.out.past2 HV.out H1.out.g HAl.out) (HSh.out.past HAl.out)).mono ?_;rintro e w3 hP;obtain ⟨ar,nr,cr,ao,no,co,R,O,rfl,hF,hb3⟩:=hP.yes HSb.out HWin.out;have HR3:=hide (hpast HR0.out hb3);have HF3:=hide hF;have HB3:=hide hb3;have HBt:=hide (chain HAl.out hb3);clear hP hF hb3;dsimp only;refine hK0.out _ _ (fun _=>HBt.out) ?_;clear hK0 K0
     try simp only [Act.put,sA,sB,sC]
     have q0:=cellP HR3.out 0 rfl;have q1:=cellP HR3.out 1 rfl;have q2:=cellP HR3.out 2 rfl;have q3:=cellP HR3.out 3 rfl;have f0:=fzR 0 HR3.out;have f1:=fzR 1 HR3.out;have f2:=fzR 2 HR3.out;have f3:=fzR 3 HR3.out;refine oneK (i:=13) (by kernel_rfl) rfl (fun K0 hK0=>?_);go_simp;refine hK0.out _ _ (fun h=>absurd rfl h) ?_;clear hK0 K0
     try simp only [Act.put,sA,sB,sC]
     refine doneK (by kernel_rfl) ?_ _;go_wp2;go_meet;exact hide ⟨wr.heap.size,ar,nr,cr,ao,no,co,R,O,rfl,CwT.two HF3.out HAl.out HB3.out (Nat.le_refl _) HGz.out HR3.out⟩
   case rest=>
   obtain ⟨G,ar,nr,cr,ao,no,co,R,O,rfl,hT⟩:=hcut.out;clear hcut;have HT:=hide hT;have HI1:=hide (H1.out.past hT.b);have HMp1:=hide (HMp.out.past hT.b);have hGl:=hT.gl;have hzw:=H1.out.g.size;have hGmb:G≠mb:=by have:=HMb.out;omega
   clear hT HMp HSh HSb;have hRl:R.length=nr:=ownC_len HT.out.f.r;obtain ⟨w2,hrun,hm2,hg2⟩:=(HMp1.out.past (Below.refl _ wc).drew).put (s:=⟨s.nm,R,ar,cr⟩) rfl (by show s.nm.size≤_;unfold maxLen;omega) (by omega);have hrun:(Instr.mapUpdate 80 (.map (some mb)) (.string s.nm) (.agg #[.string s.nm,.slice ar nr cr])).run Tryz.prog wc.drew=.ok () w2:=by rw [← hRl];exact hrun
   have hg2':wc.grownBy w2 (some mb):=⟨hg2.os.trans rfl,hg2.tape.trans rfl,hg2.output.trans rfl,hg2.size,fun i a b=>(hg2.block i a b).trans rfl⟩;have HM2:=hide hm2;have HG2:=hide hg2';clear hm2 hg2 hg2' hRl;go_upto_region 6 with fail;have HS0:Hid ((fun W=>Below wc.heap.size wc W) wc.drew):=(Below.refl _ _).drew;refine regionK (fun W=>Below wc.heap.size wc W) 7 (by kernel_rfl) ?_;refine tkS (i:=0) (v:=.pointer (some ⟨lb,0,none⟩)) rfl rfl HS0.out ?_;refine tkS (i:=1) (v:=.pointer (some ⟨lb,0,none⟩)) rfl rfl HS0.out ?_;refine tkS (i:=2) (v:=.pointer (some ⟨lb,4,none⟩)) rfl rfl HS0.out ?_;simp only [sA,sB,sC];refine tkL (i:=3) (v:=.map (some mb)) rfl rfl HS0.out (fun W hW=>?_) ?_
   ·obtain ⟨x0,x1,x2,x3,x4⟩:=box5 (hpast HI1.out.x0 hW)
    clear hW;go_simp
   refine tkS (i:=4) (v:=.string s.nm) rfl rfl HS0.out ?_;refine tkS (i:=5) (v:=.pointer (some ⟨G,0,none⟩)) rfl rfl HS0.out ?_;simp only [sA,sB,sC];refine tkL (i:=6) (v:=.agg #[.string s.nm,.slice ar nr cr]) rfl rfl HS0.out (fun W hW=>?_) ?_
   ·have q0:=cellP (hpast HT.out.row hW) 0 rfl
    have q1:=cellP (hpast HT.out.row hW) 1 rfl;clear hW;go_simp
   simp only [sA,sB,sC];refine oneK (i:=7) (by kernel_rfl) rfl (fun K0 hK0=>?_);go_simp;refine hK0.out _ _ (fun h=>absurd rfl h) ?_;clear hK0 K0
   try simp only [Act.put,sA,sB,sC]
   refine doneK (by kernel_rfl) ?_ _;clear hrun HMp1;have g2:GrownS wc w2 (fun k=>k=mb):=(grS HG2.out).weak (fun k q=>by injection q with q;exact q.symm);have Y2:=g2.row HT.out.row (fun e=>hGmb e);have q1:=cellP Y2 2 rfl;have OW:Hid (OwnC w2 w.heap.size (.slice a0 n0 c0) C):=HI1.out.r.keptS g2 (fun j q e=>by have:=(World.ownsRow.lt HI1.out.r j q).1;have:=HMb.out;omega);have OS:Hid (OwnC w2 wr.heap.size (.slice ao no co) O):=HT.out.f.q.keptS g2 (fun j q e=>by have:=(World.ownsRow.lt HT.out.f.q j q).1;have:=HMb.out;omega);have hol:O.length=no:=ownC_len OS.out;have hcl:C.length=n0:=ownC_len OW.out;have HSr:=hide (own_src (c:=⟨s.nm,O,ao,co⟩) (by subst hol;exact OS.out))
   have hc72:C.length≤720:=by
    have e:=congrArg List.length HI1.out.kc;rw [List.length_map,List.length_map] at e;rw [e];exact Nat.le_trans (List.length_filter_le _ _) (Nat.le_trans (allC_take M k).length_le HAll.out)
   have ho60:O.length≤60:=by
    have e:=congrArg List.length HT.out.f.ko;rw [List.length_map,List.length_map] at e;rw [e];exact Nat.le_trans (List.length_filter_le _ _) hl60
   have hlo:w.heap.size≤w2.heap.size:=Nat.le_trans HI1.out.g.size HG2.out.size;clear g2 Y2;go_wp2_with (at_builtin;refine wpList_append_nilAt _ rfl _ _ 36 rfl w.heap.size 69 i0 (.agg zeroCe) 15 192 Tryz.underlying36 hi hz0 hz1 hz2 rfl (by decide) _ _ _ rfl OW.out ao no co (flC O) rfl ?c0 ?ca HSr.out.2 (flC_oneC _) ?c3 ?c4 hlo ?_)
   case c0=>rw [flC_len,hol]
   case ca=>intro q;have h:=HSr.out.1 q;exact ⟨hol ▸ h.1,h.2⟩
   case c3=>unfold maxLen;omega
   case c4=>omega
   intro v' w3 hown hg3 hloc
   have hown2:OwnC w3 w.heap.size v' (C ++ O):=by
    show World.ownsRow _ _ _ _ _ _ _
    rw [List.length_append,flC_app,hol,hcl];exact hown
   have HF0:=hide (H1.out.step HLb.out HMb.out HNe.out HS.out HT.out HM2.out HG2.out hown2 hg3 hloc);obtain ⟨a1,c1,rfl,_⟩:=hown2.form;have HF:=HF0;clear hown hown2 hg3 hloc HF0 OW OS HSr q1 HT HI1 HM2 HG2 H1;go_wp2;go_roundw
   case rel=>exact ⟨k+1,_,_,_,_,_,by omega,by first | rfl | go_num,rfl,HF⟩
   case measure=>simp [Go.RowKit.intOf];omega
  ·have hkni:¬ (k:Int)<(K.length:Int):=by omega
   obtain rfl:k=M.length:=by omega
   have hnd:(C.map (fun c=>(c.n,c.s))).Nodup:=by
    have e:=H1.out.kc;rw [List.take_length] at e;rw [kk_key e];have hq:=qs_nodup HL.out.q S.length;rw [List.take_length,← kk_key (all_key HL.out.ky)] at hq;exact hq.sublist ((List.filter_sublist (l:=allC M)).map _)
   obtain ⟨L,hLa,hpm⟩:=asc_ex hnd
   have hc72:C.length≤720:=by
    have e:=congrArg List.length H1.out.kc;rw [List.length_map,List.length_map] at e;rw [e];exact Nat.le_trans (List.length_filter_le _ _) (Nat.le_trans (allC_take M M.length).length_le HAll.out)
   have HC:=hide (c_sortCells hLa hpm (by omega) H1.out.r);have HLa:=hide hLa;have HPm:=hide hpm;clear hnd hLa hpm;go_wp2_with (go_at_call 91;refine HC.out.mono ?_;rintro e w4 ⟨rfl,ho4,hb4,hg4⟩;have HO4:=hide ho4;have HG4:=hide hg4;have X4:=hide (hg4.block lb (by have:=H1.out.g.size;have:=HLb.out;omega) (fun e=>by have:=(World.ownsRow.lt H1.out.r lb e.symm).1;have:=HLb.out;omega) |>.trans H1.out.x0);clear ho4 hb4 hg4 HC;obtain ⟨x0,x1,x2,x3,x4⟩:=box5 X4.out;have fz:=frozen_of_row w4 lb 3 _ _ X4.out);go_ret;exact ⟨_,_,_,rfl,H1.out.fin HLb.out HMb.out HNe.out HLa.out HPm.out HO4.out HG4.out⟩
def ClR (S:List Sd) (p:Pi) (q:Pi) (KM:List (ByteArray×List (Int×ByteArray×Ag))) (KC:List (Int×ByteArray×Ag)) (cd:Int):Prop:=
 if pipB S p=false then cd=1∧q=q0∧KM=[]∧KC=[] else
 if p.c<(p.d+1)*p.a+p.b then cd=11∧q=q0∧KM=[]∧KC=[] else
 cd=0∧q=⟨p.a,p.b,p.c,p.d+1⟩∧KM=S.map (restS p.d)∧∃ C,AscC C∧(C.map Ce.key).Perm (((allC S).filter (isW p.d)).map Ce.key)∧KC=C.map Ce.key
theorem rest_key {win:Int}:∀ {S T:List Sd},T.map Sd.key=S.map Sd.key→T.map (restS win)=S.map (restS win)
 | [],[],_=>rfl
 | s :: S,t :: T,h=>by
  obtain ⟨h1,h2,_,h3⟩:=sd_cons h;rw [List.map_cons,List.map_cons,rest_key h3];unfold restS;rw [h1,(filter_key h2).2]
 | [],_ :: _,h=>by simp at h
 | _ :: _,[],h=>by simp at h
theorem ClR.key {S T:List Sd} {p q:Pi} {KM:List (ByteArray×List (Int×ByteArray×Ag))} {KC:List (Int×ByteArray×Ag)} {cd:Int} (h:ClR T p q KM KC cd) (e:T.map Sd.key=S.map Sd.key):ClR S p q KM KC cd:=by
 unfold ClR at h ⊢;rw [pipB_key e,rest_key e,(filter_key (all_key e)).1] at h;exact h
theorem closeA {w w':World} {S T:List Sd} {p:Pi} {en:Ending} (e:T.map Sd.key=S.map Sd.key) (h:PoA w (ClR T p) en w'):PoA w (ClR S p) en w':=by
 obtain ⟨a,n,c,q,M,d,m,f,C,cd,h1,h2,h3⟩:=h;exact ⟨a,n,c,q,M,d,m,f,C,cd,h1,h2.key e,h3⟩
theorem ClR.same {S:List Sd} {p q q':Pi} {KM KM':List (ByteArray×List (Int×ByteArray×Ag))} {KC KC':List (Int×ByteArray×Ag)} {cd cd':Int} (h:ClR S p q KM KC cd) (k:ClR S p q' KM' KC' cd'):q=q'∧KM=KM'∧KC=KC'∧cd=cd':=by
 unfold ClR at h k
 split at h
 ·rename_i c;rw [if_pos c] at k;exact ⟨h.2.1.trans k.2.1.symm,h.2.2.1.trans k.2.2.1.symm,h.2.2.2.trans k.2.2.2.symm,h.1.trans k.1.symm⟩
 ·rename_i c
  rw [if_neg c] at k
  split at h
  ·rename_i c;rw [if_pos c] at k;exact ⟨h.2.1.trans k.2.1.symm,h.2.2.1.trans k.2.2.1.symm,h.2.2.2.trans k.2.2.2.symm,h.1.trans k.1.symm⟩
  ·rename_i c
   rw [if_neg c] at k;obtain ⟨h1,h2,h3,C,hC,hp,hk⟩:=h;obtain ⟨k1,k2,k3,D,kC,kp,kk⟩:=k;refine ⟨h2.trans k2.symm,h3.trans k3.symm,?_,h1.trans k1.symm⟩;rw [hk,kk];exact asc_same hC kC (hp.trans kp.symm)
theorem clk_parts {S:List Sd} {p:Pi} (h:pipB S p=true):1≤p.a∧p.a≤1000∧0≤p.b∧p.b≤1000∧0≤p.c∧p.c≤1000000000∧0≤p.d∧p.d≤1000000000:=by
 unfold pipB clkB inB at h;simp only [Bool.and_eq_true,decide_eq_true_eq] at h;obtain ⟨⟨⟨⟨h1,h2⟩,h3⟩,h4⟩,_⟩:=h;omega
theorem grown7 (W:World) (G:Nat) (a b c d e f g:Value):GrownS W (((((((W.setCell ⟨G,0,none⟩ a).setCell ⟨G,1,none⟩ b).setCell ⟨G,2,none⟩ c).setCell ⟨G,3,none⟩ d).setCell ⟨G,4,none⟩ e).setCell ⟨G,5,none⟩ f).setCell ⟨G,6,none⟩ g) (fun k=>k=G):=by
 have s:∀ (X:World) j u,GrownS X (X.setCell ⟨G,j,none⟩ u) (fun k=>k=G):=fun X j u=>(grS (grown_one X G j u)).weak (fun k e=>by injection e with e;exact e.symm);exact (((((((s _ _ _).trans (s _ _ _)).trans (s _ _ _)).trans (s _ _ _)).trans (s _ _ _)).trans (s _ _ _)).trans (s _ _ _)) |>.weak (fun k q=>by rcases q with (((((q | q) | q) | q) | q) | q) | q <;> exact q)
theorem PoB.mk2 {w:World} {B:Nat} {v u:Value} {X:List Sd} {C:List Ce} (r:OwnD w B v X) (o:LvO w B X) (r':OwnC w B u C) (o':CesO w B (allC X ++ C)) (va:∀ s∈X,ApV u (slS s)) (hv:∀ k,v.ownBlock=some k→¬ CBlk u C k):PoB w B w.heap.size v X u C:=by
 obtain ⟨p1,p2,p3⟩:=List.pairwise_append.1 o'.ap;refine ⟨PpB.of r o,CsB.of r' ⟨fun c hc=>o'.o c (List.mem_append_right _ hc),p2⟩,fun k q1 q2=>?_⟩;rcases q1 with q1 | ⟨s,hs,q1 | ⟨c,hc,q1⟩⟩
 ·exact hv k q1 q2
 ·rcases q2 with q2 | ⟨d,hd,q2⟩
  ·exact va s hs k q2 q1
  ·exact OwnC.ne (o.r s hs) (o'.o d (List.mem_append_right _ hd)) k q2 q1
 ·rcases q2 with q2 | ⟨d,hd,q2⟩
  ·exact OwnC.ne r' (o'.o c (List.mem_append_left _ (mem_all hs hc))) k q1 q2
  ·exact p3 c (mem_all hs hc) d hd k q1 q2
set_option maxHeartbeats 2000000 in
theorem c_mayClose {S:List Sd} (p:Pi) (hp:pipB S p=true) (w:World):Calls Tryz.prog 74 #[.agg #[.int .i64 p.a,.int .i64 p.b,.int .i64 p.c,.int .i64 p.d]] w fun e w'=>e=.returned (.bool (!decide (p.c<(p.d+1)*p.a+p.b)))∧Below w.heap.size w w':=by
 obtain ⟨a1,a2,b1,b2,c1,c2,d1,d2⟩:=clk_parts hp;have m0:0≤(p.d+1)*p.a:=Int.mul_nonneg (by omega) (by omega);have m1:(p.d+1)*p.a≤1000000001*1000:=Int.mul_le_mul (by omega) a2 (by omega) (by omega);have hw1:IntKind.i64.wrap (p.d+1)=p.d+1:=IntWalk.i64_in _ ⟨by omega,by omega⟩;have hw2:IntKind.i64.wrap ((p.d+1)*p.a)=(p.d+1)*p.a:=IntWalk.i64_in _ ⟨by omega,by omega⟩;have hw3:IntKind.i64.wrap ((p.d+1)*p.a+p.b)=(p.d+1)*p.a+p.b:=IntWalk.i64_in _ ⟨by omega,by omega⟩;have HT0:Hid (Below w.heap.size w (w.alloc (.cells #[.int .i64 p.a,.int .i64 p.b,.int .i64 p.c,.int .i64 p.d] 74))):=(Below.refl _ _).alloc (Nat.le_refl _) _;have k:=heap_alloc_new w (.cells #[.int .i64 p.a,.int .i64 p.b,.int .i64 p.c,.int .i64 p.d] 74);have x0:=cellP k 0 rfl;have x1:=cellP k 1 rfl;have x2:=cellP k 2 rfl;have x3:=cellP k 3 rfl;clear k hp a1 a2 b1 b2 c1 c2 d1 d2 m0 m1;by_cases hc:p.c<(p.d+1)*p.a+p.b
 ·have hd:¬ (p.d+1)*p.a+p.b≤p.c:=by omega
  go_enter Tryz.func74,Tryz.ntmps74;go_wp2;go_ret;exact ⟨by simp [hc,hd],HT0.out⟩
 ·have hd:(p.d+1)*p.a+p.b≤p.c:=by omega
  go_enter Tryz.func74,Tryz.ntmps74;go_wp2;go_ret;exact ⟨by simp [hc,hd],HT0.out⟩
set_option maxHeartbeats 16000000 in
theorem c_i_PipeClose {w:World} {ao:Option Addr} {N ca:Nat} {S:List Sd} (p:Pi) (hm:MX w) (hI:PpI w ao N S) :
  Calls Tryz.prog 31 #[.agg (piArr (.slice ao N ca) p)] w fun e w'=>PoA w (ClR S p) e w':=by
 have HI:=hide hI;have HM:=hide hm;have HVw:Hid (0<w.heap.size):=by obtain ⟨m,q⟩:=hm;exact hide (World.block_lt_of_cell? _ _ q)
 have a1:∀ (X:World) o,Below X.heap.size X (X.alloc o):=fun X o=>(Below.refl _ _).alloc (Nat.le_refl _) _;have k0:=heap_alloc_new w (.cells (piArr (.slice ao N ca) p) 29);have k1:=heap_alloc_new (w.alloc (.cells (piArr (.slice ao N ca) p) 29)) (.cells (poArr (.slice none 0 0) q0 (.slice none 0 0) 0) 41);simp only [World.size_alloc] at k1;have HR0:=hide (hpast k0 (a1 _ (.cells (poArr (.slice none 0 0) q0 (.slice none 0 0) 0) 41)));have HR1:=hide k1;have HT0:=hide (chain (a1 w (.cells (piArr (.slice ao N ca) p) 29)) (a1 _ (.cells (poArr (.slice none 0 0) q0 (.slice none 0 0) 0) 41)));clear hI hm a1 k0 k1;go_enter Tryz.func31,Tryz.ntmps31;go_upto_region 1 with fail;generalize (w.alloc (.cells (piArr (.slice ao N ca) p) 29)).alloc (.cells (poArr (.slice none 0 0) q0 (.slice none 0 0) 0) 41)=W0 at HR0 HR1 HT0 ⊢;have hlo:w.heap.size+1+1≤W0.heap.size:=(Array.getElem?_eq_some_iff.1 HR1.out).1;have HLO:=hide hlo;clear hlo;obtain ⟨x0,x1,x2,x3,x4⟩:=box5 HR0.out;go_wp2_with fail;clear x0 x1 x2 x3 x4;refine (c_i_PipeRight p HI.out.n HI.out.sm (fun s hs c hc=>⟨(HI.out.ok s hs c hc).1,(HI.out.ok s hs c hc).2.1⟩) (HM.out.past HT0.out) (sds_past HI.out.at' HT0.out)).mono ?_;rintro e w1 ⟨rfl,hb1⟩;have HR01:=hide (hpast HR0.out hb1);have HR11:=hide (hpast HR1.out hb1);have HT1:=hide (chain HT0.out hb1);have HLO1:=hide (Nat.le_trans HLO.out hb1.size);clear hb1 HR0 HR1
 cases hp:pipB S p with
 | false=>
  have HF:Hid (ClR S p q0 (([]:List Sd).map Sd.key) (([]:List Ce).map Ce.key) 1):=hide (by unfold ClR;rw [if_pos hp];exact ⟨rfl,rfl,rfl,rfl⟩);have R1:=HR11.out;clear hp HR01 HR11;obtain ⟨y0,y1,y2,y3,y4,y5,y6⟩:=box7 R1;have f0:=fzR 0 R1;have f1:=fzR 1 R1;have f2:=fzR 2 R1;have f3:=fzR 3 R1;have f4:=fzR 4 R1;have f5:=fzR 5 R1;have f6:=fzR 6 R1;clear R1;go_wp2;refine bodyPost_ret (v:=.agg (poArr (.slice none 0 0) q0 (.slice none 0 0) 1)) (by simp [results,Tryz.results31,go_sem,y0,y1,y2,y3,y4,y5,y6]) rfl ?_;have hC:=CpP.sets7 (v0:=.slice none 0 0) (v1:=.int .i64 0) (v2:=.int .i64 0) (v3:=.int .i64 0) (v4:=.int .i64 0) (v5:=.slice none 0 0) (v6:=.int .i64 1) (fun j q=>by cases q) (LvO.nil _ _) (nilP HT1.out);exact ⟨none,0,0,q0,[],none,0,0,[],1,rfl,HF.out,PoB.none hC.r hC.o,hC.b⟩
 | true=>
  have HP:=hide hp;clear hp;have HQ:=hide (HI.out.qs HP.out);obtain ⟨x0,x1,x2,x3,x4⟩:=box5 HR01.out;go_wp2_with fail;clear x0 x1 x2 x3 x4;refine (c_liveOf p HI.out.n (by have:=HQ.out.n;have:=HI.out.n;omega) HI.out.sm.l HI.out.sm.sm (fun s hs c hc=>(HI.out.ok s hs c hc).2.2) (fun s hs=>by have:=HI.out.sm.nz s hs;unfold maxLen;omega) (sds_ap (pip_parts HP.out).1) (sds_past HI.out.at' HT1.out)).mono ?_;rintro e w2 ⟨mb,rfl,Bm,M,hl⟩;have hky:M.map Sd.key=S.map Sd.key:=by have:=hl.ky;rw [List.take_of_length_le (by have:=HI.out.n;omega)] at this;exact this
  have HLv:Hid (LvH w2 mb N Bm M S p):=hide ⟨hl.mp,by have:=HQ.out.n;have:=HI.out.n;omega,hl.o,hl.lt,hl.bm,hky,HQ.out,HP.out⟩;have HLe:Hid (w1.heap.size≤mb):=hide hl.le;have hal:Below w2.heap.size w2 (w2.alloc (.cells (lvArr p mb) 82)):=(Below.refl _ _).alloc (Nat.le_refl _) _;have HY:=hide (heap_alloc_new w2 (.cells (lvArr p mb) 82));have HT2:=hide (chain (chain HT1.out hl.b) hal);have HR12:=hide (hpast (hpast HR11.out hl.b) hal);have HLv2:=hide (HLv.out.past hal);have HbL:Hid (mb<w2.heap.size):=hide hl.mp.lt;have HlL:Hid (w1.heap.size≤w2.heap.size):=hide hl.b.size;have HKy:=hide hky;clear hl hky hal HLv HR01 HR11 HT1;go_upto_region 4 with fail;generalize w2.alloc (.cells (lvArr p mb) 82)=W2 at HY HT2 HR12 HLv2 ⊢;generalize w2.heap.size=bl at HY HbL HlL ⊢;obtain ⟨x0,x1,x2,x3,x4⟩:=box5 HY.out;go_wp2_with fail;clear x0 x1 x2 x3 x4;refine (c_mayClose p HP.out W2).mono ?_;rintro e w3 ⟨rfl,hb3⟩;have HY3:=hide (hpast HY.out hb3);have HT3:=hide (chain HT2.out hb3);have HR13:=hide (hpast HR12.out hb3);have HLv3:=hide (HLv2.out.past hb3);clear hb3 HY HT2 HR12 HLv2;by_cases hc:p.c<(p.d+1)*p.a+p.b
  ·have hd:decide (p.c<(p.d+1)*p.a+p.b)=true:=decide_eq_true hc
   have HF:Hid (ClR S p q0 (([]:List Sd).map Sd.key) (([]:List Ce).map Ce.key) 11):=hide (by unfold ClR;rw [if_neg (by rw [HP.out];simp),if_pos hc];exact ⟨rfl,rfl,rfl,rfl⟩);rw [hd];have R1:=HR13.out;clear hc hd HR13 HY3 HLv3;obtain ⟨y0,y1,y2,y3,y4,y5,y6⟩:=box7 R1;have f0:=fzR 0 R1;have f1:=fzR 1 R1;have f2:=fzR 2 R1;have f3:=fzR 3 R1;have f4:=fzR 4 R1;have f5:=fzR 5 R1;have f6:=fzR 6 R1;clear R1;go_wp2;refine bodyPost_ret (v:=.agg (poArr (.slice none 0 0) q0 (.slice none 0 0) 11)) (by simp [results,Tryz.results31,go_sem,y0,y1,y2,y3,y4,y5,y6]) rfl ?_;have hC:=CpP.sets7 (v0:=.slice none 0 0) (v1:=.int .i64 0) (v2:=.int .i64 0) (v3:=.int .i64 0) (v4:=.int .i64 0) (v5:=.slice none 0 0) (v6:=.int .i64 11) (fun j q=>by cases q) (LvO.nil _ _) (nilP HT3.out);exact ⟨none,0,0,q0,[],none,0,0,[],11,rfl,HF.out,PoB.none hC.r hC.o,hC.b⟩
  have hd:decide (p.c<(p.d+1)*p.a+p.b)=false:=decide_eq_false hc;rw [hd]
  have HF:Hid (∀ (X:List Sd) (C:List Ce),X.map Sd.key=M.map (restS p.d)→AscC C→(C.map Ce.key).Perm (((allC M).filter (isW p.d)).map Ce.key)→ClR S p ⟨p.a,p.b,p.c,p.d+1⟩ (X.map Sd.key) (C.map Ce.key) 0):=hide (fun X C h1 h2 h3=>by
   unfold ClR;rw [if_neg (by rw [HP.out];simp),if_neg hc];exact ⟨rfl,rfl,by rw [h1,rest_key HKy.out],C,h2,by rw [← (filter_key (all_key HKy.out)).1];exact h3,rfl⟩)
  clear hc hd;go_wp2_with fail;have HVm:Hid (0<mb):=hide (by have h1:=HVw.out;have h2:=HLO1.out;have h3:=HLe.out;omega);refine (c_closeWindow p (HM.out.past HT3.out) HVm.out HLv3.out HY3.out (by have h:=HbL.out;omega)).mono ?_;rintro e w4 ⟨au,nu,cu,rfl,n',X,C,hmp,hx4,hlo4,hr4,ho4,hva,hasc,hkx,hkc,hg4⟩;have HFX:=hide (HF.out X C hkx hasc hkc);have hz3:w.heap.size+1+1≤w3.heap.size:=Nat.le_trans HLO1.out (by have h1:=HlL.out;have h2:=(Array.getElem?_eq_some_iff.1 HY3.out).1;omega);have R14:w4.heap[w.heap.size+1]?=some (.cells (poArr (.slice none 0 0) q0 (.slice none 0 0) 0) 41 (0,0)):=hg4.row HR13.out (fun q=>by have h1:=HLO1.out;have h2:=HLe.out;have h3:=HlL.out;omega);have HT4:Hid (Below w.heap.size w w4):=hide (hg4.below HT3.out HT3.out.size (fun k q=>by have h1:=HLO1.out;have h2:=HLe.out;have h3:=HlL.out;omega));have HR14:=hide R14;have HX4:=hide hx4;have HMp:=hide hmp;have HLo:=hide hlo4;have HRu:=hide hr4;have HOu:=hide ho4;have HVa:=hide hva;have HZ3:=hide hz3;have HZ34:Hid (w3.heap.size≤w4.heap.size):=hide hg4.size
  have hnm:X.map Sd.nm=M.map Sd.nm:=by
   have h:=congrArg (List.map Prod.fst) hkx;rw [List.map_map,List.map_map] at h;exact h
  have HNm:=hide hnm;have HMe:=hide HLv3.out.memb
  have hXl:X.length≤12:=by
   have h:=congrArg List.length hnm;rw [List.length_map,List.length_map] at h;rw [h,HLv3.out.len];exact HLv3.out.q.n
  clear hx4 hmp hlo4 hr4 ho4 hva hasc hkx hkc hg4 R14 hz3 HF HY3 HR13 HLv3 hnm;obtain ⟨x0,x1,x2,x3,x4⟩:=box5 HX4.out;go_wp2_with fail;clear x0 x1 x2 x3 x4;refine (c_pipe ⟨p.a,p.b,p.c,p.d+1⟩ HMp.out (List.Perm.refl X) (by rw [HNm.out];exact memb_pair HMe.out) (by omega) (fun s hs=>by have:=(name_sizeM (memb_name HMe.out (by rw [← HNm.out];exact List.mem_map_of_mem hs))).2;unfold maxLen;omega)).mono ?_;rintro e w5 ⟨v5,rfl,ho5,hb5⟩;obtain ⟨a5,c5,rfl,_⟩:=ho5.form;have HD5:=hide ho5;have HB5:=hide hb5;have R1:=hpast HR14.out hb5;have HT5:=hide (chain HT4.out hb5);clear ho5 hb5;obtain ⟨y0,y1,y2,y3,y4,y5,y6⟩:=box7 R1;have f0:=fzR 0 R1;have f1:=fzR 1 R1;have f2:=fzR 2 R1;have f3:=fzR 3 R1;have f4:=fzR 4 R1;have f5:=fzR 5 R1;have f6:=fzR 6 R1;clear R1;go_wp2;refine bodyPost_ret (v:=.agg (poArr (.slice a5 X.length c5) ⟨p.a,p.b,p.c,p.d+1⟩ (.slice au nu cu) 0)) (by simp [results,Tryz.results31,go_sem,y0,y1,y2,y3,y4,y5,y6]) rfl ?_;have z3:=HZ3.out;have z34:w3.heap.size≤w4.heap.size:=HZ34.out;have g7:=grown7 w5 (w.heap.size+1) (.slice a5 X.length c5) (.int .i64 p.a) (.int .i64 p.b) (.int .i64 p.c) (.int .i64 (p.d+1)) (.slice au nu cu) (.int .i64 0);have lo5:LvO w5 (w.heap.size+1+1) X:=(HLo.out.past HB5.out).le z3;have hC:=CpP.sets7 (w:=w) (S:=X) (v0:=.slice a5 X.length c5) (v1:=.int .i64 p.a) (v2:=.int .i64 p.b) (v3:=.int .i64 p.c) (v4:=.int .i64 (p.d+1)) (v5:=.slice au nu cu) (v6:=.int .i64 0) (fun j q=>by have:=(World.ownsRow.lt HD5.out j q).1;omega) lo5 ⟨HD5.out.le (by omega),lo5.le (by omega),rfl,HT5.out⟩;have ru5:=HRu.out.past HB5.out;have ou5:=HOu.out.past HB5.out;have ru:=(ru5.keptS g7 (fun k q e=>by have:=(World.ownsRow.lt ru5 k q).1;omega)).le (by omega:w.heap.size≤w3.heap.size);have ou:=(ou5.keptS g7 (fun c hc k q e=>by have:=((ou5.o c hc).lt q).1;omega)).le (by omega:w.heap.size≤w3.heap.size);refine ⟨a5,_,c5,_,X,au,nu,cu,C,0,rfl,HFX.out,PoB.mk2 hC.r hC.o ru ou HVa.out (fun k q1 q2=>?_),hC.b⟩;have h1:=(World.ownsRow.lt HD5.out k q1).1;rcases q2 with q2 | ⟨c,hc,q2⟩
  ·have:=(World.ownsRow.lt HRu.out k q2).2;omega
  ·have:=((HOu.out.o c (List.mem_append_right _ hc)).lt q2).2;omega
end Go.Proofs.YtmjogablacnlgaaGreatDoor
