/-
 Parts.
-/
import Derived.Test.YtandnmpllheniaaGreatDoorCJJ
import Derived.Test.YtandnmpllheniaaGreatDoorCJD
set_option linter.all false
namespace Go.Proofs.YtandnmpllheniaaGreatDoor
open Go.ChangeShapes Go.WideShapes Go.ChangeAt Go.RowKit Go.PlainAid Go.Maps
set_option maxRecDepth 10000
def reg (x:Int):Nat:=(x / 288230376151711744).toNat
theorem Qqn {x:Int} (h:U64 x):reg x<64:=by unfold U64 at h;unfold reg;omega
def lay (R:List Int) (x:Int):List Int:=R.set (reg x) (max (R.getD (reg x) 0) (rho x))
def Laid (R:List Int) (S:Int->Prop) (R':List Int):Prop:=R'.length=R.length/\∀ i,i<R.length->R.getD i 0<=R'.getD i 0/\(∀ x,S x->reg x=i->rho x<=R'.getD i 0)/\(R'.getD i 0=R.getD i 0∨∃ x,S x/\reg x=i/\R'.getD i 0=rho x)
theorem Laid.start (R:List Int) {S:Int->Prop} (h:∀ x,¬ S x):Laid R S R:=⟨rfl,fun i hi=>⟨Int.le_refl _,fun x hx=>absurd hx (h x),.inl rfl⟩⟩
theorem Qqu (R:List Int) (x:Int):(lay R x).length=R.length:=by simp [lay]
theorem lay_at (R:List Int) (x:Int) (i:Nat) (hi:i<R.length):(lay R x).getD i 0=if reg x=i then max (R.getD i 0) (rho x) else R.getD i 0:=by
 unfold lay;rw [List.getD_eq_getElem?_getD,List.getElem?_set];by_cases e:reg x=i
 ·subst e;simp [hi]
 ·simp [e]
theorem Laid.step {R R':List Int} {S S':Int->Prop} {y:Int} (h:Laid R S R') (hS:∀ x,S' x↔S x∨x=y):Laid R S' (lay R' y):=by
 refine ⟨by rw [Qqu,h.1],fun i hi=>?_⟩;obtain ⟨h1,h2,h3⟩:=h.2 i hi;rw [lay_at R' y i (by rw [h.1];exact hi)]
 split
 ·rename_i e
  refine ⟨by omega,fun x hx hr=>?_,?_⟩
  ·rcases (hS x).1 hx with hx | hx
   ·have:=h2 x hx hr;omega
   ·subst hx;omega
  ·by_cases hm:R'.getD i 0<=rho y
   ·exact .inr ⟨y,(hS y).2 (.inr rfl),e,by omega⟩
   ·rw [show max (R'.getD i 0) (rho y)=R'.getD i 0 by omega]
    rcases h3 with h3 | ⟨x,hx,hr,hv⟩
    ·exact .inl h3
    ·exact .inr ⟨x,(hS x).2 (.inl hx),hr,hv⟩
 ·rename_i e
  refine ⟨h1,fun x hx hr=>?_,?_⟩
  ·rcases (hS x).1 hx with hx | hx
   ·exact h2 x hx hr
   ·subst hx;exact absurd hr e
  ·rcases h3 with h3 | ⟨x,hx,hr,hv⟩
   ·exact .inl h3
   ·exact .inr ⟨x,(hS x).2 (.inl hx),hr,hv⟩
theorem Laid.same {R A B:List Int} {S S':Int->Prop} (h:Laid R S A) (g:Laid R S' B) (hS:∀ x,S x↔S' x):A=B:=by
 apply List.ext_getElem (by rw [h.1,g.1]);intro i h1 h2;have hi:i<R.length:=by rw [<- h.1];exact h1
 obtain ⟨a1,a2,a3⟩:=h.2 i hi;obtain ⟨b1,b2,b3⟩:=g.2 i hi;rw [List.getD_eq_getElem?_getD,List.getD_eq_getElem?_getD,List.getElem?_eq_getElem h1] at a1;simp only [List.getD_eq_getElem?_getD,List.getElem?_eq_getElem h1,List.getElem?_eq_getElem h2,Option.getD_some] at a1 a2 a3 b1 b2 b3;rcases a3 with a3 | ⟨x,hx,hr,hv⟩ <;> rcases b3 with b3 | ⟨y,hy,hs,hu⟩
 ·rw [a3,b3]
 ·have:=a2 y ((hS y).2 hy) hs;omega
 ·have:=b2 x ((hS x).1 hx) hr;omega
 ·have:=a2 y ((hS y).2 hy) hs
  have:=b2 x ((hS x).1 hx) hr;omega
def RowI (w:World) (B g:Nat) (R:List Int):Prop:=R.length=64/\w.ownsRow B 2 1 (.slice (some ⟨g,0,none⟩) 64 64) 64 (R.map (Value.int .i64))
theorem RowI.cell {w:World} {B g k:Nat} {R:List Int} {x:Int} (h:RowI w B g R) (hk:k<64) (hx:x=R.getD k 0):w.cell? ⟨g,k,none⟩=some (.int .i64 x):=by
 have hs:=h.1;rw [h.2.cellAt k (by omega),hx];rw [List.getD_eq_getElem?_getD,List.getElem?_map,List.getElem?_eq_getElem (by omega:k<R.length)];simp
theorem RowI.froz {w:World} {B g:Nat} {R:List Int} (h:RowI w B g R) (k:Nat):w.frozen? ⟨g,k,none⟩=false:=h.2.frozenAt k
theorem RowI.lt {w:World} {B g:Nat} {R:List Int} (h:RowI w B g R):B<=g/\g<w.heap.size:=Qlf h.2
theorem RowI.set {w:World} {B g:Nat} {R:List Int} (h:RowI w B g R) (k:Nat) (x:Int):RowI (w.setCell ⟨g,k,none⟩ (.int .i64 x)) B g (R.set k x):=by
 refine ⟨by simp [h.1],?_⟩;have:=(h.2.stored k (.int .i64 x)).1;rw [List.map_set];exact this
theorem RowI.grown {w w':World} {B g:Nat} {row:Option Nat} {R:List Int} (h:RowI w B g R) (hg:w.grownBy w' row) (hr:some g≠row):RowI w' B g R:=by
 refine ⟨h.1,h.2.1,?_⟩;rcases h.2.2 with h2 | ⟨g',ab,aa,e,h1,h2,h3⟩
 ·exact .inl h2
 ·cases e
  exact .inr ⟨g,64,aa,rfl,h1,(hg.block g (ZZc.1 h2).1 (fun hh=>hr hh)).trans h2,h3⟩
theorem QnY {x:Int} (h:(Lit.int .u64 x).wf=true):U64 x:=by
 unfold U64;simp [Lit.wf,IntKind.signed,IntKind.bits,IntKind.min,IntKind.max] at h;omega
theorem Qju (W:World) (b k:Nat) (v:Value):W.grownBy (W.setCell ⟨b,k,none⟩ v) (some b):=
 ⟨rfl,rfl,rfl,(KeepsWalks.setCell W _ v).size,fun i _ hk=>Below.heap_setCell _ _ _ i (fun e=>hk (by rw [e]))⟩
def LayI (w:World) (B g b:Nat) (L R:List Int) (wr:World):Prop:=
 ∃ (D:DataW Unit) (left:Lit->Bool) (cnt n:Nat) (R':List Int),wr.ranges Tryz.prog 26 (plainElem Tryz.prog 2) b w.heap.size n D left cnt/\RowI wr B g R'/\Laid R (fun x=>x∈L/\left (.int .u64 x)=false) R'/\(∀ x,left (.int .u64 x)=true->x∈L/\∀ z,D.atKey (.int .u64 x) z=.lit (.int .i64 (rho x)))/\Below B w wr
theorem QmP {L:List Int} {left:Lit->Bool} {y:Int} (hy:y∈L) (hl:left (.int .u64 y)=true) (x:Int):(x∈L/\(left (.int .u64 x) && !(Lit.int .u64 x).sameKey (.int .u64 y))=false)↔(x∈L/\left (.int .u64 x)=false)∨x=y:=by
 by_cases e:x=y
 ·subst e;simp [hy,Lit.sameKey]
 ·simp [e,Lit.sameKey]
set_option maxHeartbeats 2000000 in
theorem QeD {w:World} {B g b n:Nat} {L R:List Int} (hR:RowI w B g R) (hM:MpU w b n L) (hb:B<=b) (hgb:g≠b) :
  Calls Tryz.prog 320 #[.slice (some ⟨g,0,none⟩) 64 64,.map (some b)] w fun e w'=>(∃ r,e=.returned r)/\∃ R',Laid R (·∈L) R'/\RowI w' B g R'/\Below B w w':=by
 obtain ⟨hp,D,af,h1,h2,h3⟩:=hM;have hg:=hR.lt;have hB:B<=w.heap.size:=by omega
 have HG:=Qaa hg
 have H0:Hid (∀ w0:World,w0.ranges Tryz.prog 26 (plainElem Tryz.prog 2) b w.heap.size n D (Maps.has D) (Maps.size D)->w.grownBy w0 none->LayI w B g b L R w0):=fun w0 q1 q2=>
  ⟨D,_,_,n,R,q1,hR.grown q2 (by simp),Laid.start R (fun x=>by rintro ⟨k1,k2⟩;rw [(h1 x).2 k1] at k2;cases k2),fun x hx=>⟨(h1 x).1 hx,h3 x ((h1 x).1 hx)⟩,(Below.refl B w).grown q2 hB (fun j hj=>by cases hj)⟩
 have HD:=Qaa af;clear hp h1 h2 h3 af hR hg;go_enter Tryz.func320,Tryz.ntmps320;go_wp2_with (at_range;refine wpList_range_own _ rfl _ 320 rfl 26 2 QrD Tryz.underlying320 _ b n _ rfl HD ?_;intro w0 ae aJ aT;have HI:=Qaa (H0.out w0 ae aJ);clear ae aJ aT)
 go_frame
 go_loopw [4] (fun _ wr=>Hid (LayI w B g b L R wr)) (fun _ wr=>wr.rangeLeft b w.heap.size)
 case atStart=>exact HI
 case round=>
  clear HI H0 HD;obtain ⟨D,ah,a4,n,R',aL,ag,aR,aH,ak⟩:=hrel.out;have aA:=Qaa aL;have aO:=Qaa ag;have aI:=Qaa aR;have aP:=Qaa aH;have am:=Qaa ak;clear hrel aL ag aR aH ak;go_wp2_with (at_next;refine wpList_next_ranges_ii _ rfl _ rfl 26 2 .u64 .i64 QrD Tryz.underlying26 Tryz.underlying2 b w.heap.size n _ _ _ rfl aA ?_ ?_)
  ·intro a1 aM
   have HL:Hid (Laid R (·∈L) R'):=by
    have:=aI.out;simp only [aM,and_true] at this;exact this
   clear a1 aM;go_wp2
   go_end0
   exact ⟨⟨_,rfl⟩,R',HL,aO,am⟩
  ·intro x c w2 aq ar aX ap aE ad aB av aS a3
   obtain ⟨aC,aN⟩:=aP.out x ap
   obtain rfl:c=rho x:=by
    have:=(aE .nil).symm.trans (aN .nil);injection this with q;injection q
   have al:=QnY ar;have aD:=Qqn al;obtain ⟨v,hv⟩:∃ v,v=R'.getD (reg x) 0:=⟨_,rfl⟩;have aG:g≠w.heap.size:=by have:=HG.out;omega
   have ao:=aO.out.grown av (by simpa using aG);have aQ:w2.cell? ⟨g,(x / 288230376151711744).toNat,none⟩=some (.int .i64 v):=ao.cell aD hv;have a2:w2.frozen? ⟨g,(x / 288230376151711744).toNat,none⟩=false:=ao.froz (reg x);have ac:=Qaa ao;have aj:=Qaa ad;have HS:=Qaa (QmP aC ap);have aV:=Qaa aB;have az:=Qaa av;have aW:=Qaa ar;clear ar aX ap aE ad aB av aS aC aN ao;have HV:=Qaa hv;have q0:0<=x / 288230376151711744:=by unfold U64 at al;omega
   have q1:x / 288230376151711744<64:=by unfold U64 at al;omega
   obtain ⟨ws,an⟩:∃ ws:World,ws=w2.setCell ⟨g,(x / 288230376151711744).toNat,none⟩ (.int .i64 (max v (rho x))):=⟨_,rfl⟩;have aF:w2.grownBy ws (some g):=by rw [an];exact Qju _ _ _ _
   have aw:Hid (ws.ranges Tryz.prog 26 (plainElem Tryz.prog 2) b w.heap.size n D (fun z=>ah z && !z.sameKey (.int .u64 x)) aq):=aj.out.kept aF (by simpa using Ne.symm hgb) (by simpa using Ne.symm aG)
   have au:Hid (RowI ws B g (lay R' x)):=by
    have:=ac.out.set (reg x) (max v (rho x));rw [an];unfold lay;rw [<- hv];exact this
   have ai:Hid (Below B w ws):=(am.out.grown az (Nat.le_trans hB am.out.size) (fun j hj=>by cases hj;exact hB)).grown aF (Nat.le_trans hB (Nat.le_trans am.out.size az.out.size)) (fun j hj=>by cases hj;exact HG.out.1);clear hv al aD aj ac az;go_wp2_with (refine wpList_delete_ranges _ rfl _ _ 320 26 rfl 2 QrD Tryz.underlying320 _ b w.heap.size n _ _ _ rfl (by rw [<- an];exact aw.out) _ _ rfl (keyOf_int_mk Tryz.underlying26 aW) ?_;intro w3 ay ab ax aa;rw [<- an] at aa;go_frame)
   have aK:LayI w B g b L R w3:=by
    refine ⟨_,_,ay,n,lay R' x,ab,au.out.grown aa.grown (by simpa using hgb),aI.out.step (y:=x) (fun z=>?_),fun z hz=>?_,ai.out.grown aa.grown (Nat.le_trans hB ai.out.size) (fun j hj=>by cases hj;exact hb)⟩
    ·have:=HS.out z
     simp only [Bool.and_assoc,Bool.and_self];exact this
    ·have aY:z≠x:=by intro e;subst e;simp [Lit.sameKey] at hz
     have a0:ah (.int .u64 z)=true:=by
      simp only [Bool.and_eq_true] at hz;exact hz.1.1
     obtain ⟨k1,k2⟩:=aP.out z a0;exact ⟨k1,fun zz=>by rw [atKey_del_other (by intro e;injection e with _ e;exact aY e)];exact k2 zz⟩
   have aZ:w3.rangeLeft b w.heap.size<wr.rangeLeft b w.heap.size:=by
    rw [ab.left_eq,aA.out.left_eq];have:=aV.out;omega
   have aU:=Qaa aK;clear ab ax aa aK;go_roundw
   case rel=>exact aU
   case measure=>exact aZ
def mxL (A B:List Int) (m:Nat):List Int:=(List.range A.length).map fun i=>if i<m then max (A.getD i 0) (B.getD i 0) else A.getD i 0
theorem QdX (A B:List Int) (m:Nat):(mxL A B m).length=A.length:=by simp [mxL]
theorem Qex (A B:List Int) (m i:Nat) (hi:i<A.length):(mxL A B m).getD i 0=if i<m then max (A.getD i 0) (B.getD i 0) else A.getD i 0:=by
 rw [List.getD_eq_getElem?_getD,List.getElem?_eq_getElem (by rw [QdX];exact hi)];simp only [mxL,List.getElem_map,List.getElem_range,Option.getD_some]
theorem Qci (A B:List Int):mxL A B 0=A:=by
 apply List.ext_getElem (QdX A B 0);intro i h1 h2;simp [mxL,h2]
theorem Qh7 (A B:List Int) (m:Nat) (hm:m<A.length):(mxL A B m).set m (max (A.getD m 0) (B.getD m 0))=mxL A B (m+1):=by
 apply List.ext_getElem (by simp [QdX]);intro i h1 h2;rw [List.getElem_set];have hi:i<A.length:=by simpa [QdX] using h2
 split
 ·rename_i e;subst e
  simp only [mxL,List.getElem_map,List.getElem_range];rw [if_pos (by omega)]
 ·rename_i e
  simp only [mxL,List.getElem_map,List.getElem_range];by_cases q:i<m
  ·rw [if_pos q,if_pos (by omega)]
  ·rw [if_neg q,if_neg (by omega)]
theorem Laid.mx {A B R:List Int} {S:Int->Prop} (h:Laid A S R) (m:Nat):Laid (mxL A B m) S (mxL R B m):=by
 refine ⟨by rw [QdX,QdX,h.1],fun i hi=>?_⟩;rw [QdX] at hi;obtain ⟨h1,h2,h3⟩:=h.2 i hi;rw [Qex A B m i hi,Qex R B m i (by rw [h.1];exact hi)]
 split
 ·refine ⟨by omega,fun x hx hr=>by have:=h2 x hx hr;omega,?_⟩
  by_cases q:B.getD i 0<=R.getD i 0
  ·rcases h3 with h3 | ⟨x,hx,hr,hv⟩
   ·exact .inl (by omega)
   ·exact .inr ⟨x,hx,hr,by omega⟩
  ·exact .inl (by omega)
 ·exact ⟨h1,h2,h3⟩
theorem Laid.trans {A R R':List Int} {S T U:Int->Prop} (h:Laid A S R) (g:Laid R T R') (hU:∀ x,U x↔S x∨T x):Laid A U R':=by
 refine ⟨by rw [g.1,h.1],fun i hi=>?_⟩;obtain ⟨h1,h2,h3⟩:=h.2 i hi;obtain ⟨g1,g2,g3⟩:=g.2 i (by rw [h.1];exact hi);refine ⟨by omega,fun x hx hr=>?_,?_⟩
 ·rcases (hU x).1 hx with hx | hx
  ·have:=h2 x hx hr;omega
  ·exact g2 x hx hr
 ·rcases g3 with g3 | ⟨x,hx,hr,hv⟩
  ·rcases h3 with h3 | ⟨x,hx,hr,hv⟩
   ·exact .inl (by omega)
   ·exact .inr ⟨x,(hU x).2 (.inl hx),hr,by omega⟩
  ·exact .inr ⟨x,(hU x).2 (.inr hx),hr,hv⟩
theorem Laid.iff {A R:List Int} {S T:Int->Prop} (h:Laid A S R) (hS:∀ x,S x↔T x):Laid A T R:=by
 have:S=T:=funext fun x=>propext (hS x);rw [<- this];exact h
def Qcc (R:List Int):List Int:=if R.length=0 then List.replicate 64 0 else R
theorem Qec {R:List Int} (h:R.length=0∨R.length=64):(Qcc R).length=64:=by
 unfold Qcc;split
 ·simp
 ·omega
abbrev QiR (E1 E2:List Int):List Int:=Qce (Qce [] E1) E2
def Mg (E1 R1 E2 R2 E R:List Int):Prop:=(R1.length=0/\R2.length=0/\(QiR E1 E2).length<=40/\E=QiR E1 E2/\R=[])∨(¬ (R1.length=0/\R2.length=0/\(QiR E1 E2).length<=40)/\E=[]/\Laid (mxL (Qcc R1) R2 R2.length) (·∈QiR E1 E2) R)
theorem Mg.one {E1 R1 E2 R2 E R E' R':List Int} (h:Mg E1 R1 E2 R2 E R) (g:Mg E1 R1 E2 R2 E' R'):E=E'/\R=R':=by
 rcases h with ⟨a,b,c,d,e⟩ | ⟨a,b,c⟩ <;> rcases g with ⟨a',b',c',d',e'⟩ | ⟨a',b',c'⟩
 ·exact ⟨d.trans d'.symm,e.trans e'.symm⟩
 ·exact absurd ⟨a,b,c⟩ a'
 ·exact absurd ⟨a',b',c'⟩ a
 ·exact ⟨b.trans b'.symm,c.same c' (fun _=>Iff.rfl)⟩
theorem MpU.below {w w':World} {b n K:Nat} {L:List Int} (h:MpU w b n L) (hK:b<K) (hb:Below K w w'):MpU w' b n L:=by
 obtain ⟨hp,D,ab,h1,h2,h3⟩:=h;refine ⟨hp,D,?_,h1,h2,h3⟩;obtain ⟨es,aa,ac,r⟩:=ab;exact ⟨es,aa,(hb.block b hK).trans ac,r⟩
theorem RowI.below {w w':World} {B g K:Nat} {R:List Int} (h:RowI w B g R) (hK:g<K) (hb:Below K w w'):RowI w' B g R:=by
 refine ⟨h.1,h.2.1,?_⟩;rcases h.2.2 with h2 | ⟨g',ab,aa,e,h1,h2,h3⟩
 ·exact .inl h2
 ·cases e
  exact .inr ⟨g,64,aa,rfl,h1,(hb.block g hK).trans h2,h3⟩
theorem QgR:∀ (l:List Int) (x:Int),(QbZ l x).length<=l.length+1
 | [],x=>by simp [QbZ]
 | y :: r,x=>by
  have:=QgR r x;unfold QbZ
  split
  ·simp only [List.length_cons];omega
  ·split <;> simp
theorem Qip:∀ (m l:List Int),(Qce l m).length<=l.length+m.length
 | [],l=>by simp [Qce]
 | x :: m,l=>by
  have h:=Qip m (QbZ l x);have h2:(QbZ l x).length<=l.length+1:=QgR l x
  show (Qce (QbZ l x) m).length<=_
  simp only [List.length_cons];omega
theorem QoO (E1 E2:List Int):(QiR E1 E2).length<=E1.length+E2.length:=by
 have a:=Qip E1 [];have b:=Qip E2 (Qce [] E1);simp at a;unfold QiR;omega
def Qhr (w:World) (B:Nat) (v:Value) (E R:List Int):Prop:=∃ p n,v=.agg #[p,n]/\w.ownsRow B 26 1 p E.length (E.map (Value.int .u64))/\w.ownsRow B 2 1 n R.length (R.map (Value.int .i64))
end Go.Proofs.YtandnmpllheniaaGreatDoor
