/-
 Parts.
-/
import Derived.Test.YtioohanfodmddaaGreatDoorCZS
set_option maxHeartbeats 16000000
set_option linter.all false
namespace Go.Proofs.YtioohanfodmddaaGreatDoor
open Go.ChangeShapes Go.WideShapes Go.ChangeAt Go.RowKit Go.PlainAid Go.Lib Go.Maps Tryz
set_option maxRecDepth 10000
theorem mCz {p:Prop} (h:p:=by rename_i c;rw [if_pos c] at k;exact ⟨h.2.1.trans k.2.1.symm,h.2.2.1.trans k.2.2.1.symm,h.2.2.2.trans k.2.2.2.symm,h.1.trans k.1.symm⟩):p:=h
theorem mC1 {p:Prop} (h:p:=by exact ⟨none,0,0,q0,[],none,0,0,[],11,rfl,HF,PoB.none hC.r hC.o,hC.b⟩):p:=h
theorem mC2 {p:Prop} (h:p:=by exact ⟨none,0,0,q0,[],none,0,0,[],1,rfl,HF,PoB.none hC.r hC.o,hC.b⟩):p:=h
theorem Qeo {P:Program} (w:World) {ops:Array Oper} {rest:List Oper} {o:Oper} {a:Act} {Q:Exit->Act->World->Prop} (hgd:o.guard=none) (s x:Operand) (t:TypeId)
  (ho:o.op=.call { callee:=.builtin .append,args:=#[s,x],argTypes:=#[t,t] })
  (base:Nat) (e:TypeId) (i:TypeInfo) (z:Value) (size bytes:Nat) (ht:P.underlying t=some (.slice e)) (hi:P.info? e=some i) (hz:i.zero=some z)
  (hsize:i.size=size) (hby:i.bytes=bytes) (hzs:z.cells.size=size) (hsz:0<size)
  (v:Value) (n:Nat) (xs:List Value) (hs:a.eval s=v) (hown:w.ownsRow base e size v n xs)
  (xo:Option Addr) (m c:Nat) (news:List Value) (hx:a.eval x=.slice xo m c) (hl:news.length=m*size) (hno:xo=none->m=0/\c=0) (hnews:∀ ad,xo=some ad->∀ j u,news[j]?=some u->w.cell? (ad.add j)=some u) (h1:∀ u∈news,u.oneCell'=true)
  (h63:n+m<=maxLen) (hbytes:(n+m)*bytes<=140737488355328) (hbase:base<=w.heap.size)
  (h:∀ v' w',w'.ownsRow base e size v' (n+m) (xs ++ news)->w.grownBy w' v.ownBlock->(v'.ownBlock=v.ownBlock∨v'.ownBlock=some w.heap.size)->wpList P ops Q rest (a.put o.dst v') w') :
  wpList P ops Q (o :: rest) a w:=by
 cases xo with
 | some ad=>exact wpList_append_own_at w hgd s x t ho base e i z size bytes ht hi hz hsize hby hzs hsz v n xs hs hown ad m c news hx hl (hnews ad rfl) h1 h63 hbytes hbase (fun v' w' q1 q2 _ q4=>h v' w' q1 q2 q4)
 | none=>
  obtain ⟨rfl,rfl⟩:=hno rfl;obtain rfl:news=[]:=List.eq_nil_of_length_eq_zero xA;refine wpList_plain hgd fun _ hK=>?_;have hr:=run_append_owned_none (P:=P) (w:=w) base t o.type e i size ht hi v n xs hown;unfold Oper.wp execOp;simp only [ho,resolve,invoke,builtin,Sem.run_bind,Sem.run_pure,Result.andThen_ok,List.map_toArray,List.map_cons,List.map_nil,hs,hx,hr];exact hK _ _ (h v w (by simpa using hown) (World.grownBy.refl _ _) (.inl rfl))
def Qe7 (win:Int) (s:Sd):ByteArray×List (Int×ByteArray×Ag):=(s.nm,(s.L.filter (fun c=>!isW win c)).map Ce.key)
structure TkF (w:World) (B:Nat) (L:List Ce) (win:Int) (vr vo:Value) (R O:List Ce):Prop where
 r:OwnC w B vr R
 q:OwnC w B vo O
 ap:ApV vr vo
 o:CesO w B (R ++ O)
 kr:R.map Ce.key=(L.filter (fun c=>!isW win c)).map Ce.key
 ko:O.map Ce.key=(L.filter (isW win)).map Ce.key
section
variable {w wr w' w1 w2 w3:World} {B B' G lb mb n k:Nat} {nm:ByteArray} {L R O C:List Ce} {win:Int} {vr vo v v' vn:Value} {e:Ending} {p:Pi} {M X:List Sd} {K:List ByteArray} {s:Sd}
theorem TkF.past (h:TkF w B L win vr vo R O) (hb:Bw w w'):TkF w' B L win vr vo R O:=⟨h.r.past hb,h.q.past hb,h.ap,h.o.past hb,h.kr,h.ko⟩
theorem TkF.le (h:TkF w B L win vr vo R O) (hb:B'<=B):TkF w B' L win vr vo R O:=⟨h.r.le hb,h.q.le hb,h.ap,h.o.le hb,h.kr,h.ko⟩
def TkG (w:World) (nm:ByteArray) (L:List Ce) (win:Int) (e:Ending) (w':World):Prop:=∃ ar nr cr ao no co R O,e=.returned (.agg #[.string nm,.slice ar nr cr,.slice ao no co,.int .i64 0])/\TkF w' w.heap.size L win (.slice ar nr cr) (.slice ao no co) R O/\Bw w w'
theorem TkP.yes (h:TkP w nm L win e w') (h1:shB nm L=true) (h2:Qf7 win=true):TkG w nm L win e w':=by
 obtain ⟨v,aa,R,O,cd,rfl,hA,hS,hb⟩:=h;unfold TkA at hA;rw [if_pos ⟨h1,h2⟩] at hA;obtain ⟨rfl,kr,ko,rfl⟩:=hA;obtain ⟨⟨vr,vo,rfl,r,q,ap⟩,o⟩:=hS;obtain ⟨ar,cr,rfl,_⟩:=r.form;obtain ⟨ao,co,rfl,_⟩:=q.form;exact ⟨ar,_,cr,ao,_,co,R,O,rfl,⟨r,q,ap,o,kr,ko⟩,hb⟩
structure CwT (wr w':World) (G:Nat) (nm:ByteArray) (L:List Ce) (win:Int) (vr vo:Value) (R O:List Ce):Prop where
 row:w'.heap[G]?=some (.cells #[.string nm,vr,vo,.int .i64 0] 105 (0,0))
 gl:wr.heap.size<=G
 f:TkF w' wr.heap.size L win vr vo R O
 b:Bw wr w'
def CwQ (wr:World) (nm:ByteArray) (L:List Ce) (win:Int) (v:Value) (w':World):Prop:=∃ G ar nr cr ao no co R O,v=.pointer (some ⟨G,0,none⟩)/\CwT wr w' G nm L win (.slice ar nr cr) (.slice ao no co) R O
structure CwI (w wr:World) (lb mb n:Nat) (p:Pi) (vn:Value) (K:List ByteArray) (M:List Sd) (win:Int) (k:Nat) (v:Value) (X:List Sd) (C:List Ce):Prop where
 x0:wr.heap[lb]?=some (.cells (Qbw p mb) 62 (0,0))
 mp:MpS wr mb n (X ++ M.drop k)
 on:OwnT wr w.heap.size vn K
 r:OwnC wr w.heap.size v C
 xr:∀ s∈X,OwnC wr w.heap.size (slS s) s.L
 rap:X.Pairwise (fun s t=>ApV (slS s) (slS t))
 va:∀ s∈X,ApV v (slS s)
 o:CesO wr w.heap.size (QaK X ++ C)
 kx:X.map Sd.key=(M.take k).map (Qe7 win)
 kc:C.map Ce.key=((QaK (M.take k)).filter (isW win)).map Ce.key
 g:GrownS w wr (fun k=>k=mb)
theorem CwI.past (h:CwI w wr lb mb n p vn K M win k v X C) (hb:Bw wr w'):CwI w w' lb mb n p vn K M win k v X C:=
 ⟨Qag h.x0 hb,h.mp.past hb,QaX h.on hb,h.r.past hb,fun s hs=>(h.xr s hs).past hb,h.rap,h.va,h.o.past hb,h.kx,h.kc,(h.g.trans (GrownS.ofBelow hb)).weak (fun k q=>q.elim id (fun f=>f.elim))⟩
theorem CwI.step {ar:Option Addr} {nr cr:Nat} (h:CwI w wr lb mb n p vn K M win k v X C) (hlb:lb<w.heap.size) (hmb:mb<w.heap.size) (hne:lb≠mb) (hs:M[k]?=some s) (hT:CwT wr w1 G s.nm s.L win (.slice ar nr cr) vo R O) (hm2:MpS w2 mb (n+1) (X ++ ⟨s.nm,R,ar,cr⟩ :: M.drop (k+1))) (hg2:w1.grownBy w2 (some mb)) (hown:OwnC w3 w.heap.size v' (C ++ O)) (hg3:w2.grownBy w3 v.ownBlock) (hloc:v'.ownBlock=v.ownBlock∨v'.ownBlock=some w2.heap.size):CwI w w3 lb mb (n+1) p vn K M win (k+1) v' (X ++ [⟨s.nm,R,ar,cr⟩]) (C ++ O):=by
 have z0:=h.g.size;have z1:=hT.b.size;have z2:=hg2.size;have hW:=h.past hT.b;have aa:∀ j,v.ownBlock=some j->w.heap.size<=j/\j<wr.heap.size:=fun j q=>World.ownsRow.lt h.r j q;have ac:R.length=nr:=Qb8 hT.f.r;subst ac;have ae:slS ⟨s.nm,R,ar,cr⟩=.slice ar R.length cr:=rfl;have tl:∀ j,(slS ⟨s.nm,R,ar,cr⟩).ownBlock=some j->wr.heap.size<=j/\j<w1.heap.size:=fun j q=>World.ownsRow.lt hT.f.r j q;have g2:GrownS w1 w2 (fun k=>k=mb):=(grS hg2).weak (fun k q=>by injection q with q;exact q.symm);have g3:=grS hg3;have r2:OwnC w2 w.heap.size v C:=hW.r.keptS g2 (fun j q e=>by have:=(aa j q).1;omega);have x2:∀ x∈X,OwnC w2 w.heap.size (slS x) x.L:=fun x hx=>(hW.xr x hx).keptS g2 (fun j q e=>by have:=(World.ownsRow.lt (h.xr x hx) j q).1;omega)
 have row:∀ {r:Nat} {o:Obj},r<w.heap.size->r≠mb->w1.heap[r]?=some o->w3.heap[r]?=some o:=fun {r o} hr hrm q=>by
  have q2:=g2.row q (fun e=>hrm e);exact g3.row q2 (fun e=>by have:=(aa r e).1;omega)
 refine ⟨row hlb hne hW.x0,?_,?_,hown,fun x hx=>?_,?_,fun x hx=>?_,?_,?_,?_,?_⟩
 ·have ab:=hm2.kept hg3 (fun e=>by have:=(aa mb e.symm).1;omega)
  rw [List.append_assoc];exact ab
 ·have o2:=hW.on.kept hg2 (fun j q e=>by have:=(World.ownsRow.lt h.on j e).1;injection q with q;omega)
  exact o2.kept hg3 (fun j q e=>Ty.ne (Qcj o2) (Qcj r2) oF j e q)
 ·rcases List.mem_append.1 hx with hx | hx
  ·exact (x2 x hx).kept hg3 (fun j q1 q2=>h.va x hx j q2 q1)
  ·obtain rfl:=List.mem_singleton.1 hx
   have t2:OwnC w2 wr.heap.size (slS ⟨s.nm,R,ar,cr⟩) R:=hT.f.r.keptS g2 (fun j q e=>by have:=(tl j q).1;omega);exact (t2.keptS g3 (fun j q e=>by have:=(tl j q).1;have:=(aa j e).2;omega)).le z0
 ·refine List.pairwise_append.2 ⟨h.rap,List.pairwise_singleton _ _,fun a ha b hb j q1 q2=>?_⟩
  obtain rfl:=List.mem_singleton.1 hb;have:=(World.ownsRow.lt (h.xr a ha) j q1).2;have:=(tl j q2).1;omega
 ·intro j q1 q2
  rcases List.mem_append.1 hx with hx | hx
  ·have hj:=World.ownsRow.lt (h.xr x hx) j q2
   rcases hloc with e | e
   ·rw [e] at q1;exact h.va x hx j q1 q2
   ·rw [e] at q1;injection q1 with q1;omega
  ·obtain rfl:=List.mem_singleton.1 hx
   have hj:=tl j q2;rcases hloc with e | e
   ·rw [e] at q1;have:=(aa j q1).2;omega
   ·rw [e] at q1;injection q1 with q1;omega
 ·have o1:=(h.o.app hT.b z0 hT.f.o)
  have ad:CesO w1 w.heap.size (QaK (X ++ [⟨s.nm,R,ar,cr⟩]) ++ (C ++ O)):=o1.perm (by
   rw [Qct,Qgl];simp only [List.append_assoc];refine List.Perm.append_left _ ?_;rw [<- List.append_assoc,<- List.append_assoc];exact List.Perm.append_right _ List.perm_append_comm)
  have o2:=ad.grown hg2 hmb;exact o2.keptS g3 (fun c hc j q e=>OwnC.ne r2 (o2.o c hc) j q e)
 ·rw [List.map_append,h.kx,List.take_add_one,hs,List.map_append]
  have:Sd.key ⟨s.nm,R,ar,cr⟩=Qe7 win s:=by unfold Sd.key Qe7;rw [hT.f.kr]
  simp [this]
 ·rw [List.map_append,h.kc,hT.f.ko,List.take_add_one,hs,Qct,List.filter_append,List.map_append]
  simp [QaK]
 ·refine ((h.g.trans (GrownS.ofBelow hT.b)).trans g2 |>.trans g3) |> (fun q=>⟨q.os,q.tape,q.output,q.size,fun j hj hn=>q.block j hj ?_⟩)
  rintro (((e | e) | e) | e)
  ·exact hn e
  ·exact e
  ·exact hn e
  ·have:=(aa j e).1;omega
end
variable {B G lb mb n:Nat}
variable {a b c d v vo vr:Value}
theorem row4 {W:World} {T:TypeId} (a' b' c' d':Value) (h:W.heap[G]?=some (.cells #[a,b,c,d] T (0,0))):((((W.setCell ⟨G,0,none⟩ a').setCell ⟨G,1,none⟩ b').setCell ⟨G,2,none⟩ c').setCell ⟨G,3,none⟩ d').heap[G]?=some (.cells #[a',b',c',d'] T (0,0)):=by
 have r1:=ZZl W G 0 _ _ a' h;have r2:=ZZl _ G 1 _ _ b' r1;have r3:=ZZl _ G 2 _ _ c' r2;have r4:=ZZl _ G 3 _ _ d' r3
 simpa using r4
theorem Qto (W:World) (G:Nat) (a' b' c' d':Value):GrownS W ((((W.setCell ⟨G,0,none⟩ a').setCell ⟨G,1,none⟩ b').setCell ⟨G,2,none⟩ c').setCell ⟨G,3,none⟩ d') (fun k=>k=G):=by
 have g:∀ (X:World) j u,GrownS X (X.setCell ⟨G,j,none⟩ u) (fun k=>k=G):=fun X j u=>(grS (Qah X G j u)).weak (fun k e=>by injection e with e;exact e.symm);exact (((g _ _ _).trans (g _ _ _)).trans (g _ _ _)).trans (g _ _ _) |>.weak (fun k q=>by rcases q with ((q | q) | q) | q <;> exact q)
variable {w w' w3 wr:World}
variable {C L O R:List Ce}
variable {win:Int}
theorem TkF.keptS {lo:Nat} (h:TkF w B L win vr vo R O) (hg:GrownS w w' (fun k=>k=G)) (hn:∀ k,B<=k->k<lo->k≠G) (hl:TkF w B L win vr vo R O->∀ k,(vr.ownBlock=some k∨vo.ownBlock=some k∨∃ c∈R ++ O,Qdz c.g c.p k)->k<lo):TkF w' B L win vr vo R O:=
 ⟨h.r.keptS hg (fun k q e=>hn k (World.ownsRow.lt h.r k q).1 (hl h k (.inl q)) e),h.q.keptS hg (fun k q e=>hn k (World.ownsRow.lt h.q k q).1 (hl h k (.inr (.inl q))) e),h.ap,h.o.keptS hg (fun c hc k q e=>hn k ((h.o.o c hc).lt q).1 (hl h k (.inr (.inr ⟨c,hc,q⟩))) e),h.kr,h.ko⟩
theorem TkF.lt {k:Nat} (h:TkF w B L win vr vo R O) (q:vr.ownBlock=some k∨vo.ownBlock=some k∨∃ c∈R ++ O,Qdz c.g c.p k):B<=k/\k<w.heap.size:=by
 rcases q with q | q | ⟨c,hc,q⟩
 ·exact World.ownsRow.lt h.r k q
 ·exact World.ownsRow.lt h.q k q
 ·exact (h.o.o c hc).lt q
variable {nm:ByteArray}
theorem CwT.one {Wa:World} (f:TkF w3 wr.heap.size L win vr vo R O) (hb:Bw wr w3) (ha:Bw w3 Wa) (e:G=w3.heap.size) (hr:Wa.heap[G]?=some (.cells #[a,b,c,d] 105 (0,0))):CwT wr ((((Wa.setCell ⟨G,0,none⟩ (.string nm)).setCell ⟨G,1,none⟩ vr).setCell ⟨G,2,none⟩ vo).setCell ⟨G,3,none⟩ (.int .i64 0)) G nm L win vr vo R O:=by
 have z:=hb.size;have g:=Qto Wa G (.string nm) vr vo (.int .i64 0);refine ⟨row4 _ _ _ _ hr,by omega,?_,g.below (Qac hb ha) (Qac hb ha).size (fun k q=>by omega)⟩;exact (f.past ha).keptS (lo:=w3.heap.size) g (fun k _ h1 e2=>by omega) (fun _ k q=>(f.lt q).2)
theorem CwT.two {W1:World} (f:TkF w3 W1.heap.size L win vr vo R O) (hb1:Bw wr W1) (hb:Bw W1 w3) (hG:wr.heap.size<=G) (hG1:G<W1.heap.size) (hr:w3.heap[G]?=some (.cells #[a,b,c,d] 105 (0,0))):CwT wr ((((w3.setCell ⟨G,0,none⟩ (.string nm)).setCell ⟨G,1,none⟩ vr).setCell ⟨G,2,none⟩ vo).setCell ⟨G,3,none⟩ (.int .i64 0)) G nm L win vr vo R O:=by
 have z:=hb1.size;have z2:=hb.size;have g:=Qto w3 G (.string nm) vr vo (.int .i64 0);refine ⟨row4 _ _ _ _ hr,hG,?_,g.below (Qac hb1 hb) (Qac hb1 hb).size (fun k q=>by omega)⟩;exact (f.keptS (lo:=w3.heap.size) g (fun k h1 _ e2=>by omega) (fun _ k q=>(f.lt q).2)).le z
variable {M S X:List Sd}
variable {p:Pi}
theorem QvL (h:Qbq S p=true):0<=p.d/\p.d<=1000000000/\Qf7 p.d=true:=by
 unfold Qbq Qg2 at h;simp only [yB] at h;have q:Qf7 p.d=true:=h.1.2;have q2:=q;unfold Qf7 at q2;simp only [yB,decide_eq_true_eq] at q2;exact ⟨q2.1,q2.2,q⟩
variable {s:Sd}
theorem Qhc {c:Ce} (hs:s∈S) (hc:c∈s.L):c∈QaK S:=by unfold QaK;exact List.mem_flatMap.2 ⟨s,hs,hc⟩
theorem Qk6 (h:CesO w B (QaK S)) (hs:s∈S):CesO w B s.L:=by
 obtain ⟨A,R,rfl⟩:=List.append_of_mem hs;have e:QaK (A ++ s :: R)=QaK A ++ (s.L ++ QaK R):=by simp [QaK]
 rw [e] at h;exact ⟨fun c hc=>h.o c (by simp [hc]),(List.pairwise_append.1 (List.pairwise_append.1 h.ap).2.1).1⟩
theorem MX.past2 (h:MX w) (hV:1<mb) (hg:GrownS w wr (fun k=>k=mb)) (hb:Bw wr w'):MX w':=by
 obtain ⟨m,q⟩:=h;have e:wr.cell? ⟨1,0,none⟩=w.cell? ⟨1,0,none⟩:=World.cell?_of_block (w:=w) (hg.block _ (World.block_lt_of_cell? _ _ q) (fun e=>by have e':(1:Nat)=mb:=e;omega));exact MX.past ⟨m,e.trans q⟩ hb
section
variable {w wr:World} {mb n Bm:Nat} {M S:List Sd} {p:Pi}
theorem LvH.sh (h:LvH w mb n Bm M S p) (hs:s∈M) (hg:GrownS w wr (fun k=>k=mb)):ShI wr s.ao s.L.length s.L/\shB s.nm s.L=true/\s.nm.size<=40/\s.L.length<=60:=by
 have hp:Qbq M p=true:=by rw [Qjv h.ky];exact h.r
 have hq:∀ t∈M,∀ c∈t.L,AgOk c.g/\AgSm c.g/\c.s.size<=maxLen:=QlV h.ky (fun _ s g=>AgOk g/\AgSm g/\s.size<=maxLen) (fun t ht c hc=>⟨(h.q.ok t ht c hc).1,(h.q.ok t ht c hc).2.1,(h.q.ok t ht c hc).2.2.1⟩);have ab:=QcU (QaP hp).1 hs
 have hl:s.L.length<=60:=by
  obtain ⟨t,ht,_,e⟩:=Qey h.ky hs;have e2:=congrArg List.length e;rw [yA,yA] at e2;have:=h.q.l t ht;omega
 have ho:=h.o.keptS hg (fun t ht k q e=>by
  rcases q with q | ⟨c,hc,q⟩
  ·have:=(World.ownsRow.lt (h.o.r t ht) k q).1;have:=h.lt;omega
  ·have:=((h.o.o.o c (Qhc ht hc)).lt q).1;have:=h.lt;omega)
 have aa:CesO wr Bm s.L:=Qk6 ho.o hs;refine ⟨⟨rfl,by omega,fun c hc=>(hq s hs c hc).1,fun c hc=>(hq s hs c hc).2.1,fun c hc=>(hq s hs c hc).2.2,fun c hc=>(aa.o c hc).plgX,OwnC.at (ho.r s hs) aa.at⟩,ab,(QdG (Qdo h.memb (List.mem_map_of_mem hs))).2,hl⟩
theorem QkC (M:List Sd) (k:Nat):(QaK (M.take k)).Sublist (QaK M):=by
 have h:QaK M=QaK (M.take k) ++ QaK (M.drop k):=by rw [<- Qct,List.take_append_drop]
 rw [h];exact List.sublist_append_left _ _
end
def CwZ (w w':World) (lb mb:Nat) (p:Pi) (M:List Sd) (v:Value):Prop:=∃ n X C,MpS w' mb n X/\w'.heap[lb]?=some (.cells (Qbw ⟨p.a,p.b,p.c,p.d+1⟩ mb) 62 (0,0))/\LvO w' w.heap.size X/\OwnC w' w.heap.size v C/\CesO w' w.heap.size (QaK X ++ C)/\(∀ s∈X,ApV v (slS s))/\AscC C/\X.map Sd.key=M.map (Qe7 p.d)/\(C.map Ce.key).Perm (((QaK M).filter (isW p.d)).map Ce.key)/\GrownS w w' (fun k=>k=mb∨k=lb)
theorem CwI.fin {w4:World} {vn:Value} {K:List ByteArray} (h:CwI w wr lb mb n p vn K M p.d M.length v X C) (hlb:lb<w.heap.size) (hmb:mb<w.heap.size) (hne:lb≠mb) (hL:AscC L) (hp:C.Perm L) (ho:OwnC w4 w.heap.size v L) (hg:wr.grownBy w4 v.ownBlock):CwZ w (w4.setCell ⟨lb,3,none⟩ (.int .i64 (p.d+1))) lb mb p M v:=by
 have aa:∀ j,v.ownBlock=some j->w.heap.size<=j/\j<wr.heap.size:=fun j q=>World.ownsRow.lt h.r j q;have g4:=grS hg;have g5:GrownS w4 (w4.setCell ⟨lb,3,none⟩ (.int .i64 (p.d+1))) (fun k=>k=lb):=(grS (Qah w4 lb 3 _)).weak (fun k e=>by injection e with e;exact e.symm);have x4:w4.heap[lb]?=some (.cells (Qbw p mb) 62 (0,0)):=g4.row h.x0 (fun e=>by have:=(aa lb e).1;omega);have x5:=ZZl w4 lb 3 _ _ (.int .i64 (p.d+1)) x4;have m4:=h.mp.kept hg (fun e=>by have:=(aa mb e.symm).1;omega);have m5:=m4.kept (Qah w4 lb 3 (.int .i64 (p.d+1))) (fun e=>by injection e with e;exact hne e.symm);rw [List.drop_length,List.append_nil] at m5;have xs:∀ s∈X,OwnC (w4.setCell ⟨lb,3,none⟩ (.int .i64 (p.d+1))) w.heap.size (slS s) s.L:=fun s hs=>((h.xr s hs).kept hg (fun j q1 q2=>h.va s hs j q2 q1)).keptS g5 (fun k q e=>by have:=(World.ownsRow.lt (h.xr s hs) k q).1;omega);have o4:CesO w4 w.heap.size (QaK X ++ C):=h.o.keptS g4 (fun c hc j q e=>OwnC.ne h.r (h.o.o c hc) j q e);have o5:CesO (w4.setCell ⟨lb,3,none⟩ (.int .i64 (p.d+1))) w.heap.size (QaK X ++ L):=(o4.keptS g5 (fun c hc j q e=>by have:=((o4.o c hc).lt q).1;omega)).perm (List.Perm.append_left _ hp);refine ⟨n,X,L,m5,by simpa using x5,⟨xs,h.rap,⟨fun c hc=>o5.o c (List.mem_append_left _ hc),(List.pairwise_append.1 o5.ap).1⟩⟩,ho.keptS g5 (fun k q e=>by have:=(aa k q).1;omega),o5,h.va,hL,?_,?_,?_⟩
 ·rw [h.kx,List.take_length]
 ·have e:=h.kc
  rw [List.take_length] at e;rw [<- e];exact (hp.map _).symm
 ·refine ((h.g.trans g4).trans g5) |> (fun q=>⟨q.os,q.tape,q.output,q.size,fun j hj hn=>q.block j hj ?_⟩)
  rintro ((e | e) | e)
  ·exact hn (.inl e)
  ·have:=(aa j e).1;omega
  ·exact hn (.inr e)
theorem Qjj {Bm:Nat} (p:Pi) (hm:MX w) (hV:1<mb) (hL:LvH w mb n Bm M S p) (hx:w.heap[lb]?=some (.cells (Qbw p mb) 62 (0,0))) (hne:lb≠mb) :
  Calls prog 22 #[.pointer (some ⟨lb,0,none⟩)] w fun e w'=>∃ a n c,e=.returned (.slice a n c)/\CwZ w w' lb mb p M (.slice a n c):=by
 obtain ⟨i0,hi,bh,bj,bd⟩:=Qeb;have aT:mb<w.heap.size:=hL.mp.lt;have a3:lb<w.heap.size:=(ZZc.1 hx).1;obtain ⟨br,bq,ay⟩:=QvL hL.r;have bx:M.length<=12:=by rw [hL.len];exact hL.q.n
 have hn:=hL.n;obtain ⟨_,_,_,_,ax,_⟩:=hL.all;have HM:=Qaa hm;have HV:=Qaa hV;have HL:=Qaa hL;have HX:=Qaa hx;have a4:=Qaa hne;have aC:=Qaa a3;have ap:=Qaa aT;have am:=Qaa ay;have au:=Qaa ax;obtain ⟨K,hK⟩:∃ K,M.map Sd.nm=K:=⟨_,rfl⟩;have HK:=Qaa hK;have bv:K.length=M.length:=by rw [<- hK,yA]
 have bt:IntKind.i64.wrap (p.d+1)=p.d+1:=ZZi _ ⟨by omega,by omega⟩;clear hm hV hL hne a3 aT ay ax hK;obtain ⟨x0,x1,x2,x3,x4⟩:=Qbf hx;clear hx;go_enter func22,ntmps22;go_wp2_with fail;clear x0 x1 x2 x3 x4;refine (QjW p HL.mp (K:=K) (by rw [<- HK.out];exact QeH HL.memb) (by rw [HK.out]) oB).mono ?_;rintro e w1 ⟨vn,rfl,ho,aB⟩;obtain ⟨an,cn,rfl⟩:=QcR ho
 have H1:Hid (CwI w w1 lb mb n p (.slice an K.length cn) K M p.d 0 (.slice none 0 0) [] []):=
  Qaa ⟨Qag HX aB,by simpa using HL.mp.past aB,ho,OwnC.nil _ _,(fun s hs=>by cases hs),.nil,(fun s hs=>by cases hs),CesO.nil _ _,rfl,rfl,(GrownS.ofBelow aB).weak (fun k f=>f.elim)⟩
 clear ho aB;go_wp2
 go_loopw [3,12] (fun v i wr=>∃ (k:Nat) (a0:Option Addr) (n0 c0:Nat) (X:List Sd) (C:List Ce),k<=K.length/\i=.int .i64 k/\v=.slice a0 n0 c0/\Hid (CwI w wr lb mb (n+k) p (.slice an K.length cn) K M p.d k (.slice a0 n0 c0) X C)) (fun v i wr=>K.length - (Go.RowKit.intOf i).toNat)
 case atStart=>exact ⟨0,_,_,_,_,_,ZZj _,rfl,rfl,H1⟩
 case round=>
  clear H1;obtain ⟨k,a0,n0,c0,X,C,hk,rfl,rfl,H1⟩:=hrel;by_cases bp:k<K.length
  ·have aI:(k:Int)<(K.length:Int):=by omega
   obtain ⟨s,hs⟩:∃ s,M[k]?=some s:=⟨M[k]'oB,ZZe _⟩;have aZ:K[k]?=some s.nm:=by rw [<- HK.out,List.getElem?_map,hs];rfl
   have aS:=ZZn hs;obtain ⟨a8,aY,be,aP⟩:=HL.sh aS H1.g
   have aQ:X ++ M.drop k=X ++ s :: M.drop (k+1):=by
    obtain ⟨bl,e2⟩:=ZZd.1 hs;rw [<- e2,<- List.drop_eq_getElem_cons bl]
   have aD:=H1.mp;rw [aQ] at aD;have aH:=Qaa aD;have aM:=Qaa a8;have aN:=Qaa aY;have HS:=Qaa hs;obtain ⟨gn,rfl,bf⟩:=Qkk H1.on rfl aZ;clear aZ aS a8 aY hs aQ aD;go_upto_region 5 with fail;clear bf
   go_cut [6] (fun v w'=>Hid (CwQ wr s.nm s.L p.d v w'))
   case first=>
    have aa:Hid ((fun W=>Bw wr W) wr.drew):=(ZZb _ _).drew;refine Qal (fun W=>Bw wr W) 13 oG ?_;refine tkS 0 (.pointer (some ⟨lb,0,none⟩)) aa ?_;refine tkS 1 (.pointer (some ⟨lb,0,none⟩)) aa ?_;refine tkS 2 (.pointer (some ⟨lb,4,none⟩)) aa ?_;simp only [sX];refine tkL 3 (.map (some mb)) aa (fun W hW=>?_) ?_
    ·obtain ⟨x0,x1,x2,x3,x4⟩:=Qbf (Qag H1.x0 hW)
     exact mAo
    refine tkS 4 (.string s.nm) aa ?_;refine tkL 5 (.agg #[.string s.nm,.slice s.ao s.L.length s.cp]) aa (fun W hW=>?_) ?_
    ·have bu:=(aH.past hW).look (s:=s) oE oC
     exact mAo
    simp only [sX];refine tkS 6 (.pointer (some ⟨lb,0,none⟩)) aa ?_;refine tkS 7 (.pointer (some ⟨lb,0,none⟩)) aa ?_;refine tkS 8 (.pointer (some ⟨lb,0,none⟩)) aa ?_;simp only [sX];refine tkS 9 (.pointer (some ⟨lb,3,none⟩)) aa ?_;refine tkL 10 (.int .i64 p.d) aa (fun W hW=>?_) ?_
    ·obtain ⟨x0,x1,x2,x3,x4⟩:=Qbf (Qag H1.x0 hW)
     exact mAo
    simp only [sX];refine Qoj (i:=11) (j:=12) oG rfl rfl (fun K0 hK0=>?_) (fun K0 hK0=>?_)
    ·go_simp
     refine (Qe4 s.nm p.d oC (HM.past2 HV H1.g aa) (aM.past aa)).mono ?_;rintro e w3 hP;obtain ⟨ar,nr,cr,ao,no,co,R,O,rfl,hF,af⟩:=hP.yes aN am;have al:Hid (Bw wr w3):=Qac aa af;have aE:Hid (TkF w3 wr.heap.size s.L p.d (.slice ar nr cr) (.slice ao no co) R O):=Qaa (hF.le aa.size);clear hP hF af;dsimp only;refine hK0.out _ _ (fun _=>al.out) ?_;clear hK0 K0
     try simp only [sX]
     refine Qsb (i:=12) oG rfl (fun K0 hK0=>?_);go_simp;have aj:Bw w3 (w3.alloc (.cells zAb 105)):=bAA;have R0:=ZZk w3 (.cells zAb 105);have aV:=Qaa (Qac al aj);refine hK0.out _ _ (fun _=>aV.out) ?_;clear hK0 K0
     try simp only [sX]
     have ad:=Qaa aj;have ac:=Qaa R0;clear aj R0;generalize w3.alloc _=Wa at ad ac aV ⊢;obtain ⟨G,hG⟩:∃ G,w3.heap.size=G:=⟨_,rfl⟩;have HG:=Qaa hG;rw [hG] at ac ⊢;clear hG;have q0:=Qay ac 0 rfl;have q1:=Qay ac 1 rfl;have q2:=Qay ac 2 rfl;have q3:=Qay ac 3 rfl;obtain ⟨f0,f1,f2,f3⟩:=fA4 ac;refine Qsb (i:=13) oG rfl (fun K0 hK0=>?_);go_simp;refine hK0.out _ _ (fun h=>absurd rfl h) ?_;clear hK0 K0
     try simp only [sX]
     refine dnE ?_ _;go_wp2;go_meet;exact Qaa ⟨G,ar,nr,cr,ao,no,co,R,O,rfl,CwT.one aE al ad HG.symm ac⟩
    ·go_simp
     have aj:Bw wr ((wr.alloc (.cells zAb 105)).drew):=((ZZb _ _).alloc (ZZa _) _).drew;have R0:((wr.alloc (.cells zAb 105)).drew).heap[wr.heap.size]?=some (.cells zAb 105 (0,0)):=ZZk wr (.cells zAb 105);have aR:wr.heap.size<((wr.alloc (.cells zAb 105)).drew).heap.size:=by show _<(wr.alloc (.cells zAb 105)).heap.size;simp
     have ad:=Qaa aj;have ac:=Qaa R0;have a7:=Qaa aR;clear aj R0 aR;refine hK0.out _ _ (fun _=>ad.out) ?_;clear hK0 K0
     try simp only [sX]
     generalize (wr.alloc _).drew=Wa at ad ac a7 ⊢;refine Qsb (i:=11) oG rfl (fun K0 hK0=>?_);go_simp;refine (Qe4 s.nm p.d oC (HM.past2 HV H1.g ad) (aM.past ad)).mono ?_;rintro e w3 hP;obtain ⟨ar,nr,cr,ao,no,co,R,O,rfl,hF,af⟩:=hP.yes aN am;have ag:=Qaa (Qag ac af);have aE:=Qaa hF;have al:=Qaa af;have bn:=Qaa (Qac ad af);clear hP hF af;dsimp only;refine hK0.out _ _ (fun _=>bn.out) ?_;clear hK0 K0
     try simp only [sX]
     have q0:=Qay ag 0 rfl;have q1:=Qay ag 1 rfl;have q2:=Qay ag 2 rfl;have q3:=Qay ag 3 rfl;obtain ⟨f0,f1,f2,f3⟩:=fA4 ag;refine Qsb (i:=13) oG rfl (fun K0 hK0=>?_);go_simp;refine hK0.out _ _ (fun h=>absurd rfl h) ?_;clear hK0 K0
     try simp only [sX]
     refine dnE ?_ _;go_wp2;go_meet;exact Qaa ⟨wr.heap.size,ar,nr,cr,ao,no,co,R,O,rfl,CwT.two aE ad al (ZZa _) a7 ag⟩
   case rest=>
   obtain ⟨G,ar,nr,cr,ao,no,co,R,O,rfl,hT⟩:=hcut.out;clear hcut;have HT:=Qaa hT;have ah:=Qaa (H1.past hT.b);have aw:=Qaa (aH.past hT.b);have bw:=hT.gl;have bs:=H1.g.size;have aJ:G≠mb:=by have:=ap.out;omega
   clear hT aH aM aN;have aU:R.length=nr:=Qb8 HT.f.r;obtain ⟨w2,ae,a6,ai⟩:=(aw.past (Below.refl _ wc).drew).put (s:=⟨s.nm,R,ar,cr⟩) rfl (by show s.nm.size<=_;unfold maxLen;omega) oB;have ae:(Instr.mapUpdate 60 (.map (some mb)) (.string s.nm) (.agg #[.string s.nm,.slice ar nr cr])).run prog wc.drew=.ok () w2:=by rw [<- aU];exact ae
   have ak:wc.grownBy w2 (some mb):=⟨ai.os.trans rfl,ai.tape.trans rfl,ai.output.trans rfl,ai.size,fun i a b=>(ai.block i a b).trans rfl⟩;have a9:=Qaa a6;have az:=Qaa ak;clear a6 ai ak aU;go_upto_region 6 with fail;have aa:Hid ((fun W=>Bw wc W) wc.drew):=(ZZb _ _).drew;refine Qal (fun W=>Bw wc W) 7 oG ?_;refine tkS 0 (.pointer (some ⟨lb,0,none⟩)) aa ?_;refine tkS 1 (.pointer (some ⟨lb,0,none⟩)) aa ?_;refine tkS 2 (.pointer (some ⟨lb,4,none⟩)) aa ?_;simp only [sX];refine tkL 3 (.map (some mb)) aa (fun W hW=>?_) ?_
   ·obtain ⟨x0,x1,x2,x3,x4⟩:=Qbf (Qag ah.x0 hW)
    exact mAo
   refine tkS 4 (.string s.nm) aa ?_;refine tkS 5 (.pointer (some ⟨G,0,none⟩)) aa ?_;simp only [sX];refine tkL 6 (.agg #[.string s.nm,.slice ar nr cr]) aa (fun W hW=>?_) ?_
   ·have q0:=Qay (Qag HT.row hW) 0 rfl
    have q1:=Qay (Qag HT.row hW) 1 rfl;exact mAo
   simp only [sX];refine Qsb (i:=7) oG rfl (fun K0 hK0=>?_);go_simp;refine hK0.out _ _ (fun h=>absurd rfl h) ?_;clear hK0 K0
   try simp only [sX]
   refine dnE ?_ _;clear ae aw;have g2:GrownS wc w2 (fun k=>k=mb):=(grS az).weak (fun k q=>by injection q with q;exact q.symm);have Y2:=g2.row HT.row (fun e=>aJ e);have q1:=Qay Y2 2 rfl;have OW:Hid (OwnC w2 w.heap.size (.slice a0 n0 c0) C):=ah.r.keptS g2 (fun j q e=>by have:=(World.ownsRow.lt ah.r j q).1;have:=ap.out;omega);have OS:Hid (OwnC w2 wr.heap.size (.slice ao no co) O):=HT.f.q.keptS g2 (fun j q e=>by have:=(World.ownsRow.lt HT.f.q j q).1;have:=ap.out;omega);have aA:O.length=no:=Qb8 OS;have ba:C.length=n0:=Qb8 OW;have aK:=Qaa (Qrr (c:=⟨s.nm,O,ao,co⟩) (by subst aA;exact OS.out))
   have aL:C.length<=720:=by
    have e:=congrArg List.length ah.kc;rw [yA,yA] at e;rw [e];exact Nat.le_trans (List.length_filter_le _ _) (Nat.le_trans (QkC M k).length_le au)
   have bk:O.length<=60:=by
    have e:=congrArg List.length HT.f.ko;rw [yA,yA] at e;rw [e];exact Nat.le_trans (List.length_filter_le _ _) aP
   have bm:w.heap.size<=w2.heap.size:=Nat.le_trans ah.g.size az.size;clear g2 Y2;go_wp2_with (at_builtin;refine Qeo _ rfl _ _ 27 rfl w.heap.size 46 i0 (.agg Qbo) 15 192 underlying27 hi bh bj bd rfl oF _ _ _ rfl OW ao no co (flC O) rfl ?c0 ?ca aK.2 (Qc3 _) ?c3 ?c4 bm ?_)
   case c0=>rw [Qbn,aA]
   case ca=>intro q;have h:=aK.1 q;exact ⟨aA ▸ h.1,h.2⟩
   case c3=>unfold maxLen;omega
   case c4=>omega
   intro v' w3 aq aX av
   have ab:OwnC w3 w.heap.size v' (C ++ O):=by
    show World.ownsRow _ _ _ _ _ _ _
    rw [List.length_append,Qc1,aA,ba];exact aq
   have a5:=Qaa (H1.step aC ap a4 HS HT a9 az ab aX av);obtain ⟨a1,c1,rfl,_⟩:=ab.form;have HF:=a5;clear aq ab aX av a5 OW OS aK q1 HT ah a9 az H1;go_wp2;go_roundw
   case rel=>exact ⟨k+1,_,_,_,_,_,by omega,by first | rfl | go_num,rfl,HF⟩
   case measure=>simp [zI];omega
  ·have aI:¬ (k:Int)<(K.length:Int):=by omega
   obtain rfl:k=M.length:=oB
   have aW:(C.map (fun c=>(c.n,c.s))).Nodup:=by
    have e:=H1.kc;rw [List.take_length] at e;rw [QmG e];have hq:=QeR HL.q S.length;rw [List.take_length,<- QmG (QcE HL.ky)] at hq;exact hq.sublist ((List.filter_sublist (l:=QaK M)).map _)
   obtain ⟨L,aF,aO⟩:=Qnj aW
   have aL:C.length<=720:=by
    have e:=congrArg List.length H1.kc;rw [yA,yA] at e;rw [e];exact Nat.le_trans (List.length_filter_le _ _) (Nat.le_trans (QkC M M.length).length_le au)
   have HC:=Qaa (Qez aF aO oB H1.r);have bg:=Qaa aF;have bi:=Qaa aO;clear aW aF aO;go_wp2_with (go_at_call 59;refine HC.mono ?_;rintro e w4 ⟨rfl,a2,bb,aG⟩;have bo:=Qaa a2;have bc:=Qaa aG;have X4:=Qaa (aG.block lb (by have:=H1.g.size;have:=aC.out;omega) (fun e=>by have:=(World.ownsRow.lt H1.r lb e.symm).1;have:=aC.out;omega) |>.trans H1.x0);clear a2 bb aG HC;obtain ⟨x0,x1,x2,x3,x4⟩:=Qbf X4;have fz:=frozen_of_row w4 lb 3 _ _ X4);go_ret;exact ⟨_,_,_,rfl,H1.fin aC ap a4 bg bi bo bc⟩
def ClR (S:List Sd) (p:Pi) (q:Pi) (KM:List (ByteArray×List (Int×ByteArray×Ag))) (KC:List (Int×ByteArray×Ag)) (cd:Int):Prop:=
 if Qbq S p=false then cd=1/\q=q0/\KM=[]/\KC=[] else
 if p.c<(p.d+1)*p.a+p.b then cd=11/\q=q0/\KM=[]/\KC=[] else
 cd=0/\q=⟨p.a,p.b,p.c,p.d+1⟩/\KM=S.map (Qe7 p.d)/\∃ C,AscC C/\(C.map Ce.key).Perm (((QaK S).filter (isW p.d)).map Ce.key)/\KC=C.map Ce.key
theorem QmT {win:Int}:∀ {S T:List Sd},T.map Sd.key=S.map Sd.key->T.map (Qe7 win)=S.map (Qe7 win)
 | [],[],_=>rfl
 | s :: S,t :: T,h=>by
  obtain ⟨h1,h2,_,h3⟩:=QuJ h;rw [List.map_cons,List.map_cons,QmT h3];unfold Qe7;rw [h1,(Qb9 h2).2]
 | [],_ :: _,h=>by simp at h
 | _ :: _,[],h=>by simp at h
theorem ClR.same {q q':Pi} {KM KM':List (ByteArray×List (Int×ByteArray×Ag))} {KC KC':List (Int×ByteArray×Ag)} {cd cd':Int} (h:ClR S p q KM KC cd) (k:ClR S p q' KM' KC' cd'):q=q'/\KM=KM'/\KC=KC'/\cd=cd':=by
 unfold ClR at h k
 split at h
 ·exact mCz
 ·rename_i c
  rw [if_neg c] at k
  split at h
  ·exact mCz
  ·rename_i c
   rw [if_neg c] at k;obtain ⟨h1,h2,h3,C,hC,hp,hk⟩:=h;obtain ⟨k1,k2,k3,D,kC,kp,kk⟩:=k;refine ⟨h2.trans k2.symm,h3.trans k3.symm,?_,h1.trans k1.symm⟩;rw [hk,kk];exact QiO hC kC (hp.trans kp.symm)
theorem Qci (h:Qbq S p=true):1<=p.a/\p.a<=1000/\0<=p.b/\p.b<=1000/\0<=p.c/\p.c<=1000000000/\0<=p.d/\p.d<=1000000000:=by
 unfold Qbq Qg2 inB at h;simp only [yB,decide_eq_true_eq] at h;obtain ⟨⟨⟨⟨h1,h2⟩,h3⟩,h4⟩,_⟩:=h;omega
theorem QjO (W:World) (G:Nat) (a b c d e f g:Value):GrownS W (((((((W.setCell ⟨G,0,none⟩ a).setCell ⟨G,1,none⟩ b).setCell ⟨G,2,none⟩ c).setCell ⟨G,3,none⟩ d).setCell ⟨G,4,none⟩ e).setCell ⟨G,5,none⟩ f).setCell ⟨G,6,none⟩ g) (fun k=>k=G):=by
 have s:∀ (X:World) j u,GrownS X (X.setCell ⟨G,j,none⟩ u) (fun k=>k=G):=fun X j u=>(grS (Qah X G j u)).weak (fun k e=>by injection e with e;exact e.symm);exact (((((((s _ _ _).trans (s _ _ _)).trans (s _ _ _)).trans (s _ _ _)).trans (s _ _ _)).trans (s _ _ _)).trans (s _ _ _)) |>.weak (fun k q=>by rcases q with (((((q | q) | q) | q) | q) | q) | q <;> exact q)
theorem PoB.mk2 {u:Value} (r:OwnD w B v X) (o:LvO w B X) (r':OwnC w B u C) (o':CesO w B (QaK X ++ C)) (va:∀ s∈X,ApV u (slS s)) (hv:∀ k,v.ownBlock=some k->¬ Qf2 u C k):PoB w B w.heap.size v X u C:=by
 obtain ⟨p1,p2,p3⟩:=List.pairwise_append.1 o'.ap;refine ⟨PpB.of r o,CsB.of r' ⟨fun c hc=>o'.o c (List.mem_append_right _ hc),p2⟩,fun k q1 q2=>?_⟩;rcases q1 with q1 | ⟨s,hs,q1 | ⟨c,hc,q1⟩⟩
 ·exact hv k q1 q2
 ·rcases q2 with q2 | ⟨d,hd,q2⟩
  ·exact va s hs k q2 q1
  ·exact OwnC.ne (o.r s hs) (o'.o d (List.mem_append_right _ hd)) k q2 q1
 ·rcases q2 with q2 | ⟨d,hd,q2⟩
  ·exact OwnC.ne r' (o'.o c (List.mem_append_left _ (Qhc hs hc))) k q1 q2
  ·exact p3 c (Qhc hs hc) d hd k q1 q2
theorem Qow (p:Pi) (hp:Qbq S p=true) (w:World):Calls prog 21 #[.agg #[.int .i64 p.a,.int .i64 p.b,.int .i64 p.c,.int .i64 p.d]] w fun e w'=>e=.returned (.bool (!decide (p.c<(p.d+1)*p.a+p.b)))/\Bw w w':=by
 obtain ⟨a1,a2,b1,b2,c1,c2,d1,d2⟩:=Qci hp;have m0:0<=(p.d+1)*p.a:=Int.mul_nonneg oB oB;have m1:(p.d+1)*p.a<=1000000001*1000:=Int.mul_le_mul oB a2 oB oB;have ac:IntKind.i64.wrap (p.d+1)=p.d+1:=ZZi _ ⟨by omega,by omega⟩;have ab:IntKind.i64.wrap ((p.d+1)*p.a)=(p.d+1)*p.a:=ZZi _ ⟨by omega,by omega⟩;have ad:IntKind.i64.wrap ((p.d+1)*p.a+p.b)=(p.d+1)*p.a+p.b:=ZZi _ ⟨by omega,by omega⟩;have aa:Hid (Bw w (w.alloc (.cells #[.int .i64 p.a,.int .i64 p.b,.int .i64 p.c,.int .i64 p.d] 59))):=bAA;have k:=ZZk w (.cells #[.int .i64 p.a,.int .i64 p.b,.int .i64 p.c,.int .i64 p.d] 59);have x0:=Qay k 0 rfl;have x1:=Qay k 1 rfl;have x2:=Qay k 2 rfl;have x3:=Qay k 3 rfl;clear k hp a1 a2 b1 b2 c1 c2 d1 d2 m0 m1;by_cases hc:p.c<(p.d+1)*p.a+p.b
 ·have hd:¬ (p.d+1)*p.a+p.b<=p.c:=by omega
  go_enter func21,ntmps21;go_wp2;go_ret;exact ⟨by simp [hc,hd],aa⟩
 ·have hd:(p.d+1)*p.a+p.b<=p.c:=by omega
  go_enter func21,ntmps21;go_wp2;go_ret;exact ⟨by simp [hc,hd],aa⟩
theorem Qiy {ao:Option Addr} {N ca:Nat} (p:Pi) (hm:MX w) (hI:PpI w ao N S) :
  Calls prog 5 #[.agg (Qae (.slice ao N ca) p)] w fun e w'=>PoA w (ClR S p) e w':=by
 have HI:=Qaa hI;have HM:=Qaa hm;have a7:Hid (1<w.heap.size):=by obtain ⟨m,q⟩:=hm;exact Qaa (World.block_lt_of_cell? _ _ q)
 have a1:∀ (X:World) o,Bw X (X.alloc o):=fun X o=>bAA;have k0:=ZZk w (.cells (Qae (.slice ao N ca) p) 25);have k1:=ZZk (w.alloc (.cells (Qae (.slice ao N ca) p) 25)) (.cells (Qax (.slice none 0 0) q0 (.slice none 0 0) 0) 29);simp only [World.size_alloc] at k1;have aq:=Qaa (Qag k0 (a1 _ (.cells (Qax (.slice none 0 0) q0 (.slice none 0 0) 0) 29)));have am:=Qaa k1;have aw:=Qaa (Qac (a1 w (.cells (Qae (.slice ao N ca) p) 25)) (a1 _ (.cells (Qax (.slice none 0 0) q0 (.slice none 0 0) 0) 29)));clear hI hm a1 k0 k1;go_enter func5,ntmps5;go_upto_region 1 with fail;generalize (w.alloc _).alloc _=W0 at aq am aw ⊢;have aW:w.heap.size+1+1<=W0.heap.size:=(ZZc.1 am).1;have a9:=Qaa aW;clear aW;obtain ⟨x0,x1,x2,x3,x4⟩:=Qbf aq;go_wp2_with fail;clear x0 x1 x2 x3 x4;refine (QcS p HI.n HI.sm (fun s hs c hc=>⟨(HI.ok s hs c hc).1,(HI.ok s hs c hc).2.1⟩) (HM.past aw) (QaM HI.at' aw)).mono ?_;rintro e w1 ⟨rfl,aj⟩;have af:=Qaa (Qag aq aj);have ad:=Qaa (Qag am aj);have ar:=Qaa (Qac aw aj);have ac:=Qaa (Nat.le_trans a9 aj.size);clear aj aq am
 cases hp:Qbq S p with
 | false=>
  have HF:Hid (ClR S p q0 (([]:List Sd).map Sd.key) (([]:List Ce).map Ce.key) 1):=Qaa OV;have R1:=ad.out;clear hp af ad;obtain ⟨y0,y1,y2,y3,y4,y5,y6⟩:=QcH R1;obtain ⟨f0,f1,f2,f3,f4,f5,f6⟩:=fA7 R1;clear R1;go_wp2;refine bodyPost_ret (v:=.agg (Qax (.slice none 0 0) q0 (.slice none 0 0) 1)) (by simp [results,results5,go_sem,y0,y1,y2,y3,y4,y5,y6]) rfl ?_;have hC:=CpP.sets7 (v0:=.slice none 0 0) (v1:=.int .i64 0) (v2:=.int .i64 0) (v3:=.int .i64 0) (v4:=.int .i64 0) (v5:=.slice none 0 0) (v6:=.int .i64 1) (fun j q=>by cases q) (LvO.nil _ _) (Qoz ar);exact mC2
 | true=>
  have HP:=Qaa hp;clear hp;have HQ:=Qaa (HI.qs HP);obtain ⟨x0,x1,x2,x3,x4⟩:=Qbf af;go_wp2_with fail;clear x0 x1 x2 x3 x4;refine (Qjw p HI.n xD HI.sm.l HI.sm.sm (fun s hs c hc=>(HI.ok s hs c hc).2.2) (fun s hs=>by have:=HI.sm.nz s hs;unfold maxLen;omega) (Qpg (QaP HP).1) (QaM HI.at' ar)).mono ?_;rintro e w2 ⟨mb,rfl,Bm,M,hl⟩;have aG:M.map Sd.key=S.map Sd.key:=by have:=hl.ky;rw [List.take_of_length_le (oA HI.n)] at this;exact this
  have aU:Hid (LvH w2 mb N Bm M S p):=Qaa ⟨hl.mp,by have:=HQ.n;have:=HI.n;omega,hl.o,hl.lt,hl.bm,aG,HQ,HP⟩;have aA:Hid (w1.heap.size<=mb):=Qaa hl.le;have ay:Bw w2 (w2.alloc (.cells (Qbw p mb) 62)):=bAA;have HY:=Qaa (ZZk w2 (.cells (Qbw p mb) 62));have aE:=Qaa (Qac (Qac ar hl.b) ay);have ae:=Qaa (Qag (Qag ad hl.b) ay);have ag:=Qaa (aU.past ay);have a0:Hid (mb<w2.heap.size):=Qaa hl.mp.lt;have ax:Hid (w1.heap.size<=w2.heap.size):=Qaa hl.b.size;have a2:=Qaa aG;clear hl aG ay aU af ad ar;go_upto_region 4 with fail;generalize w2.alloc _=W2 at HY aE ae ag ⊢;generalize w2.heap.size=bl at HY a0 ax ⊢;obtain ⟨x0,x1,x2,x3,x4⟩:=Qbf HY;go_wp2_with fail;clear x0 x1 x2 x3 x4;refine (Qow p HP W2).mono ?_;rintro e w3 ⟨rfl,ak⟩;have ap:=Qaa (Qag HY ak);have al:=Qaa (Qac aE ak);have ab:=Qaa (Qag ae ak);have aa:=Qaa (ag.past ak);clear ak HY aE ae ag;by_cases hc:p.c<(p.d+1)*p.a+p.b
  ·have hd:decide (p.c<(p.d+1)*p.a+p.b)=true:=ZZh hc
   have HF:Hid (ClR S p q0 (([]:List Sd).map Sd.key) (([]:List Ce).map Ce.key) 11):=Qaa OF;rw [hd];have R1:=ab.out;clear hc hd ab ap aa;obtain ⟨y0,y1,y2,y3,y4,y5,y6⟩:=QcH R1;obtain ⟨f0,f1,f2,f3,f4,f5,f6⟩:=fA7 R1;clear R1;go_wp2;refine bodyPost_ret (v:=.agg (Qax (.slice none 0 0) q0 (.slice none 0 0) 11)) (by simp [results,results5,go_sem,y0,y1,y2,y3,y4,y5,y6]) rfl ?_;have hC:=CpP.sets7 (v0:=.slice none 0 0) (v1:=.int .i64 0) (v2:=.int .i64 0) (v3:=.int .i64 0) (v4:=.int .i64 0) (v5:=.slice none 0 0) (v6:=.int .i64 11) (fun j q=>by cases q) (LvO.nil _ _) (Qoz al);exact mC1
  have hd:decide (p.c<(p.d+1)*p.a+p.b)=false:=ZZg hc;rw [hd]
  have HF:Hid (∀ (X:List Sd) (C:List Ce),X.map Sd.key=M.map (Qe7 p.d)->AscC C->(C.map Ce.key).Perm (((QaK M).filter (isW p.d)).map Ce.key)->ClR S p ⟨p.a,p.b,p.c,p.d+1⟩ (X.map Sd.key) (C.map Ce.key) 0):=Qaa (fun X C h1 h2 h3=>by
   unfold ClR;rw [if_neg xN,if_neg hc];exact ⟨rfl,rfl,by rw [h1,QmT a2.out],C,h2,by rw [<- (Qb9 (QcE a2.out)).1];exact h3,rfl⟩)
  clear hc hd;go_wp2_with fail;have a3:Hid (1<mb):=Qaa (by have h1:=a7.out;have h2:=ac.out;have h3:=aA.out;omega);refine (Qjj p (HM.past al) a3 aa ap (by have h:=a0.out;omega)).mono ?_;rintro e w4 ⟨au,nu,cu,rfl,n',X,C,aJ,aO,ai,aY,aM,aQ,ah,aI,aZ,av⟩;have a4:=Qaa (HF.out X C aI ah aZ);have aR:w.heap.size+1+1<=w3.heap.size:=Nat.le_trans ac (by have h1:=ax.out;have h2:=(ZZc.1 ap).1;omega);have aX:w4.heap[w.heap.size+1]?=some (.cells (Qax (.slice none 0 0) q0 (.slice none 0 0) 0) 29 (0,0)):=av.row ab (fun q=>by have h1:=ac.out;have h2:=aA.out;have h3:=ax.out;omega);have a6:Hid (Bw w w4):=Qaa (av.below al al.size (fun k q=>by have h1:=ac.out;have h2:=aA.out;have h3:=ax.out;omega));have aF:=Qaa aX;have ba:=Qaa aO;have bb:=Qaa aJ;have be:=Qaa ai;have aK:=Qaa aY;have aT:=Qaa aM;have bd:=Qaa aQ;have bc:=Qaa aR;have aB:Hid (w3.heap.size<=w4.heap.size):=Qaa av.size
  have az:X.map Sd.nm=M.map Sd.nm:=by
   have h:=congrArg (List.map Prod.fst) aI;rw [List.map_map,List.map_map] at h;exact h
  have aP:=Qaa az;have aS:=Qaa aa.memb
  have bg:X.length<=12:=by
   have h:=congrArg List.length az;rw [yA,yA] at h;rw [h,aa.len];exact aa.q.n
  clear aO aJ ai aY aM aQ ah aI aZ av aX aR HF ap ab aa az;obtain ⟨x0,x1,x2,x3,x4⟩:=Qbf ba;go_wp2_with fail;clear x0 x1 x2 x3 x4;refine (c_pipe ⟨p.a,p.b,p.c,p.d+1⟩ bb (List.Perm.refl X) (by rw [aP.out];exact QeH aS) oB (fun s hs=>by have:=(QdG (Qdo aS (by rw [<- aP.out];exact List.mem_map_of_mem hs))).2;unfold maxLen;omega)).mono ?_;rintro e w5 ⟨v5,rfl,aC,an⟩;obtain ⟨a5,c5,rfl,_⟩:=aC.form;have aD:=Qaa aC;have aH:=Qaa an;have R1:=Qag aF an;have a8:=Qaa (Qac a6 an);clear aC an;obtain ⟨y0,y1,y2,y3,y4,y5,y6⟩:=QcH R1;obtain ⟨f0,f1,f2,f3,f4,f5,f6⟩:=fA7 R1;clear R1;go_wp2;refine bodyPost_ret (v:=.agg (Qax (.slice a5 X.length c5) ⟨p.a,p.b,p.c,p.d+1⟩ (.slice au nu cu) 0)) (by simp [results,results5,go_sem,y0,y1,y2,y3,y4,y5,y6]) rfl ?_;have z3:=bc.out;have bf:w3.heap.size<=w4.heap.size:=aB.out;have g7:=QjO w5 (w.heap.size+1) (.slice a5 X.length c5) (.int .i64 p.a) (.int .i64 p.b) (.int .i64 p.c) (.int .i64 (p.d+1)) (.slice au nu cu) (.int .i64 0);have aV:LvO w5 (w.heap.size+1+1) X:=(be.past aH).le z3;have hC:=CpP.sets7 (w:=w) (S:=X) (v0:=.slice a5 X.length c5) (v1:=.int .i64 p.a) (v2:=.int .i64 p.b) (v3:=.int .i64 p.c) (v4:=.int .i64 (p.d+1)) (v5:=.slice au nu cu) (v6:=.int .i64 0) (fun j q=>by have:=(World.ownsRow.lt aD j q).1;omega) aV ⟨aD.le oB,aV.le oB,rfl,a8⟩;have aL:=aK.past aH;have aN:=aT.past aH;have ru:=(aL.keptS g7 (fun k q e=>by have:=(World.ownsRow.lt aL k q).1;omega)).le (by omega:w.heap.size<=w3.heap.size);have ou:=(aN.keptS g7 (fun c hc k q e=>by have:=((aN.o c hc).lt q).1;omega)).le (by omega:w.heap.size<=w3.heap.size);refine ⟨a5,_,c5,_,X,au,nu,cu,C,0,rfl,a4,PoB.mk2 hC.r hC.o ru ou bd (fun k q1 q2=>?_),hC.b⟩;have h1:=(World.ownsRow.lt aD k q1).1;rcases q2 with q2 | ⟨c,hc,q2⟩
  ·have:=(World.ownsRow.lt aK k q2).2;omega
  ·have:=((aT.o c (List.mem_append_right _ hc)).lt q2).2;omega
end Go.Proofs.YtioohanfodmddaaGreatDoor
