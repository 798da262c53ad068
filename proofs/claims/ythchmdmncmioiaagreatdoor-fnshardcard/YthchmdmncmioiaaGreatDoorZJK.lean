/-
 Hashes laid in registers: what is laid, whatever the order; layHashes of the program.
-/
import Derived.Test.YthchmdmncmioiaaGreatDoorZJJ
import Derived.Test.YthchmdmncmioiaaGreatDoorZJD
namespace Go.Proofs.YthchmdmncmioiaaGreatDoor
set_option linter.unusedVariables false
set_option linter.unusedSimpArgs false
open Go.ChangeShapes Go.WideShapes Go.ChangeAt Go.RowKit Go.PlainAid Go.Maps
set_option maxRecDepth 10000
def reg (x:Int):Nat:=(x / 288230376151711744).toNat
theorem Qpb {x:Int} (h:U64 x):reg x<64:=by unfold U64 at h;unfold reg;omega
def lay (R:List Int) (x:Int):List Int:=R.set (reg x) (max (R.getD (reg x) 0) (rho x))
def Laid (R:List Int) (S:Int->Prop) (R':List Int):Prop:=R'.length=R.length/\∀ i,i<R.length->R.getD i 0<=R'.getD i 0/\(∀ x,S x->reg x=i->rho x<=R'.getD i 0)/\(R'.getD i 0=R.getD i 0∨∃ x,S x/\reg x=i/\R'.getD i 0=rho x)
theorem Laid.start (R:List Int) {S:Int->Prop} (h:∀ x,¬ S x):Laid R S R:=⟨rfl,fun i hi=>⟨Int.le_refl _,fun x hx=>absurd hx (h x),.inl rfl⟩⟩
theorem Qp7 (R:List Int) (x:Int):(lay R x).length=R.length:=by simp [lay]
theorem lay_at (R:List Int) (x:Int) (i:Nat) (hi:i<R.length):(lay R x).getD i 0=if reg x=i then max (R.getD i 0) (rho x) else R.getD i 0:=by
 unfold lay;rw [List.getD_eq_getElem?_getD,List.getElem?_set];by_cases e:reg x=i
 ·subst e;simp [hi]
 ·simp [e]
theorem Laid.step {R R':List Int} {S S':Int->Prop} {y:Int} (h:Laid R S R') (hS:∀ x,S' x↔S x∨x=y):Laid R S' (lay R' y):=by
 refine ⟨by rw [Qp7,h.1],fun i hi=>?_⟩;obtain ⟨h1,h2,h3⟩:=h.2 i hi;rw [lay_at R' y i (by rw [h.1];exact hi)]
 split
 ·rename_i e
  refine ⟨by omega,fun x hx hr=>?_,?_⟩
  ·rcases (hS x).1 hx with hx | hx
   ·have:=h2 x hx hr;omega
   ·subst hx;omega
  ·by_cases hm:R'.getD i 0<=rho y
   ·exact .inr ⟨y,(hS y).2 (.inr rfl),e,by omega⟩
   ·rw [show max (R'.getD i 0) (rho y)=R'.getD i 0 by omega]
    rcases h3 with h3 | ⟨x,hx,hr,hv⟩
    ·exact .inl h3
    ·exact .inr ⟨x,(hS x).2 (.inl hx),hr,hv⟩
 ·rename_i e
  refine ⟨h1,fun x hx hr=>?_,?_⟩
  ·rcases (hS x).1 hx with hx | hx
   ·exact h2 x hx hr
   ·subst hx;exact absurd hr e
  ·rcases h3 with h3 | ⟨x,hx,hr,hv⟩
   ·exact .inl h3
   ·exact .inr ⟨x,(hS x).2 (.inl hx),hr,hv⟩
theorem Laid.same {R A B:List Int} {S S':Int->Prop} (h:Laid R S A) (g:Laid R S' B) (hS:∀ x,S x↔S' x):A=B:=by
 apply List.ext_getElem (by rw [h.1,g.1]);intro i h1 h2;have hi:i<R.length:=by rw [<- h.1];exact h1
 obtain ⟨a1,a2,a3⟩:=h.2 i hi;obtain ⟨b1,b2,b3⟩:=g.2 i hi;rw [List.getD_eq_getElem?_getD,List.getD_eq_getElem?_getD,List.getElem?_eq_getElem h1] at a1;simp only [List.getD_eq_getElem?_getD,List.getElem?_eq_getElem h1,List.getElem?_eq_getElem h2,Option.getD_some] at a1 a2 a3 b1 b2 b3;rcases a3 with a3 | ⟨x,hx,hr,hv⟩ <;> rcases b3 with b3 | ⟨y,hy,hs,hu⟩
 ·rw [a3,b3]
 ·have:=a2 y ((hS y).2 hy) hs;omega
 ·have:=b2 x ((hS x).1 hx) hr;omega
 ·have:=a2 y ((hS y).2 hy) hs
  have:=b2 x ((hS x).1 hx) hr;omega
def RowI (w:World) (B g:Nat) (R:List Int):Prop:=R.length=64/\w.ownsRow B 2 1 (.slice (some ⟨g,0,none⟩) 64 64) 64 (R.map (Value.int .i64))
theorem RowI.cell {w:World} {B g k:Nat} {R:List Int} {x:Int} (h:RowI w B g R) (hk:k<64) (hx:x=R.getD k 0):w.cell? ⟨g,k,none⟩=some (.int .i64 x):=by
 have hs:=h.1;rw [h.2.cellAt k (by omega),hx];rw [List.getD_eq_getElem?_getD,List.getElem?_map,List.getElem?_eq_getElem (by omega:k<R.length)];simp
theorem RowI.froz {w:World} {B g:Nat} {R:List Int} (h:RowI w B g R) (k:Nat):w.frozen? ⟨g,k,none⟩=false:=h.2.frozenAt k
theorem RowI.lt {w:World} {B g:Nat} {R:List Int} (h:RowI w B g R):B<=g/\g<w.heap.size:=Qlb h.2
theorem RowI.set {w:World} {B g:Nat} {R:List Int} (h:RowI w B g R) (k:Nat) (x:Int):RowI (w.setCell ⟨g,k,none⟩ (.int .i64 x)) B g (R.set k x):=by
 refine ⟨by simp [h.1],?_⟩;have:=(h.2.stored k (.int .i64 x)).1;rw [List.map_set];exact this
theorem RowI.grown {w w':World} {B g:Nat} {row:Option Nat} {R:List Int} (h:RowI w B g R) (hg:w.grownBy w' row) (hr:some g≠row):RowI w' B g R:=by
 refine ⟨h.1,h.2.1,?_⟩;rcases h.2.2 with h2 | ⟨g',cap,cur,e,h1,h2,h3⟩
 ·exact .inl h2
 ·cases e
  exact .inr ⟨g,64,cur,rfl,h1,(hg.block g (ZZc.1 h2).1 (fun hh=>hr hh)).trans h2,h3⟩
theorem QmZ {x:Int} (h:(Lit.int .u64 x).wf=true):U64 x:=by
 unfold U64;simp [Lit.wf,IntKind.signed,IntKind.bits,IntKind.min,IntKind.max] at h;omega
theorem QiU (W:World) (b k:Nat) (v:Value):W.grownBy (W.setCell ⟨b,k,none⟩ v) (some b):=
 ⟨rfl,rfl,rfl,(KeepsWalks.setCell W _ v).size,fun i _ hk=>Below.heap_setCell _ _ _ i (fun e=>hk (by rw [e]))⟩
def LayI (w:World) (B g b:Nat) (L R:List Int) (wr:World):Prop:=
 ∃ (D:DataW Unit) (left:Lit->Bool) (cnt n:Nat) (R':List Int),wr.ranges Tryz.prog 26 (plainElem Tryz.prog 2) b w.heap.size n D left cnt/\RowI wr B g R'/\Laid R (fun x=>x∈L/\left (.int .u64 x)=false) R'/\(∀ x,left (.int .u64 x)=true->x∈L/\∀ z,D.atKey (.int .u64 x) z=.lit (.int .i64 (rho x)))/\Below B w wr
theorem Qmu {L:List Int} {left:Lit->Bool} {y:Int} (hy:y∈L) (hl:left (.int .u64 y)=true) (x:Int):(x∈L/\(left (.int .u64 x) && !(Lit.int .u64 x).sameKey (.int .u64 y))=false)↔(x∈L/\left (.int .u64 x)=false)∨x=y:=by
 by_cases e:x=y
 ·subst e;simp [hy,Lit.sameKey]
 ·simp [e,Lit.sameKey]
set_option maxHeartbeats 2000000 in
theorem Qd2 {w:World} {B g b n:Nat} {L R:List Int} (hR:RowI w B g R) (hM:MpU w b n L) (hb:B<=b) (hgb:g≠b) :
  Calls Tryz.prog 320 #[.slice (some ⟨g,0,none⟩) 64 64,.map (some b)] w fun e w'=>(∃ r,e=.returned r)/\∃ R',Laid R (·∈L) R'/\RowI w' B g R'/\Below B w w':=by
 obtain ⟨hp,D,hown,h1,h2,h3⟩:=hM;have hg:=hR.lt;have hB:B<=w.heap.size:=by omega
 have HG:=Qaa hg
 have H0:Hid (∀ w0:World,w0.ranges Tryz.prog 26 (plainElem Tryz.prog 2) b w.heap.size n D (Maps.has D) (Maps.size D)->w.grownBy w0 none->LayI w B g b L R w0):=fun w0 q1 q2=>
  ⟨D,_,_,n,R,q1,hR.grown q2 (by simp),Laid.start R (fun x=>by rintro ⟨k1,k2⟩;rw [(h1 x).2 k1] at k2;cases k2),fun x hx=>⟨(h1 x).1 hx,h3 x ((h1 x).1 hx)⟩,(Below.refl B w).grown q2 hB (fun j hj=>by cases hj)⟩
 have HD:=Qaa hown;clear hp h1 h2 h3 hown hR hg;go_enter Tryz.func320,Tryz.ntmps320;go_wp2_with (at_range;refine wpList_range_own _ rfl _ 320 rfl 26 2 QqQ Tryz.underlying320 _ b n _ rfl HD.out ?_;intro w0 hrg0 hg0 hs0;have HI:=Qaa (H0.out w0 hrg0 hg0);clear hrg0 hg0 hs0)
 go_frame
 go_loopw [4] (fun _ wr=>Hid (LayI w B g b L R wr)) (fun _ wr=>wr.rangeLeft b w.heap.size)
 case atStart=>exact HI
 case round=>
  clear HI H0 HD;obtain ⟨D,left,cnt,n,R',hrg,hRow,hLd,hlf,hbel⟩:=hrel.out;have HRg:=Qaa hrg;have HRo:=Qaa hRow;have HLd:=Qaa hLd;have HLf:=Qaa hlf;have HBl:=Qaa hbel;clear hrel hrg hRow hLd hlf hbel;go_wp2_with (at_next;refine wpList_next_ranges_ii _ rfl _ rfl 26 2 .u64 .i64 QqQ Tryz.underlying26 Tryz.underlying2 b w.heap.size n _ _ _ rfl HRg.out ?_ ?_)
  ·intro hc0 hl0
   have HL:Hid (Laid R (·∈L) R'):=by
    have:=HLd.out;simp only [hl0,and_true] at this;exact this
   clear hc0 hl0;go_wp2
   go_end0
   exact ⟨⟨_,rfl⟩,R',HL.out,HRo.out,HBl.out⟩
  ·intro x c w2 cnt2 hwx hwc hlx hat hrg2 hlt hg2 hs2 hen
   obtain ⟨hxL,hxr⟩:=HLf.out x hlx
   obtain rfl:c=rho x:=by
    have:=(hat .nil).symm.trans (hxr .nil);injection this with q;injection q
   have hux:=QmZ hwx;have hrl:=Qpb hux;obtain ⟨v,hv⟩:∃ v,v=R'.getD (reg x) 0:=⟨_,rfl⟩;have hne:g≠w.heap.size:=by have:=HG.out;omega
   have ho2:=HRo.out.grown hg2 (by simpa using hne);have hcell:w2.cell? ⟨g,(x / 288230376151711744).toNat,none⟩=some (.int .i64 v):=ho2.cell hrl hv;have hfz:w2.frozen? ⟨g,(x / 288230376151711744).toNat,none⟩=false:=ho2.froz (reg x);have HRo2:=Qaa ho2;have HRg2:=Qaa hrg2;have HS:=Qaa (Qmu hxL hlx);have HLt:=Qaa hlt;have HG2:=Qaa hg2;have HWx:=Qaa hwx;clear hwx hwc hlx hat hrg2 hlt hg2 hs2 hxL hxr ho2;have HV:=Qaa hv;have q0:0<=x / 288230376151711744:=by unfold U64 at hux;omega
   have q1:x / 288230376151711744<64:=by unfold U64 at hux;omega
   obtain ⟨ws,hws⟩:∃ ws:World,ws=w2.setCell ⟨g,(x / 288230376151711744).toNat,none⟩ (.int .i64 (max v (rho x))):=⟨_,rfl⟩;have hgs:w2.grownBy ws (some g):=by rw [hws];exact QiU _ _ _ _
   have HRgs:Hid (ws.ranges Tryz.prog 26 (plainElem Tryz.prog 2) b w.heap.size n D (fun z=>left z && !z.sameKey (.int .u64 x)) cnt2):=HRg2.out.kept hgs (by simpa using Ne.symm hgb) (by simpa using Ne.symm hne)
   have HRos:Hid (RowI ws B g (lay R' x)):=by
    have:=HRo2.out.set (reg x) (max v (rho x));rw [hws];unfold lay;rw [<- hv];exact this
   have HBls:Hid (Below B w ws):=(HBl.out.grown HG2.out (Nat.le_trans hB HBl.out.size) (fun j hj=>by cases hj;exact hB)).grown hgs (Nat.le_trans hB (Nat.le_trans HBl.out.size HG2.out.size)) (fun j hj=>by cases hj;exact HG.out.1);clear hv hux hrl HRg2 HRo2 HG2;go_wp2_with (refine wpList_delete_ranges _ rfl _ _ 320 26 rfl 2 QqQ Tryz.underlying320 _ b w.heap.size n _ _ _ rfl (by rw [<- hws];exact HRgs.out) _ _ rfl (keyOf_int_mk Tryz.underlying26 HWx.out) ?_;intro w3 cnt3 hrg3 hle3 htn3;rw [<- hws] at htn3;go_frame)
   have hL2:LayI w B g b L R w3:=by
    refine ⟨_,_,cnt3,n,lay R' x,hrg3,HRos.out.grown htn3.grown (by simpa using hgb),HLd.out.step (y:=x) (fun z=>?_),fun z hz=>?_,HBls.out.grown htn3.grown (Nat.le_trans hB HBls.out.size) (fun j hj=>by cases hj;exact hb)⟩
    ·have:=HS.out z
     simp only [Bool.and_assoc,Bool.and_self];exact this
    ·have hzx:z≠x:=by intro e;subst e;simp [Lit.sameKey] at hz
     have hz2:left (.int .u64 z)=true:=by
      simp only [Bool.and_eq_true] at hz;exact hz.1.1
     obtain ⟨k1,k2⟩:=HLf.out z hz2;exact ⟨k1,fun zz=>by rw [atKey_del_other (by intro e;injection e with _ e;exact hzx e)];exact k2 zz⟩
   have hms:w3.rangeLeft b w.heap.size<wr.rangeLeft b w.heap.size:=by
    rw [hrg3.left_eq,HRg.out.left_eq];have:=HLt.out;omega
   have HL2:=Qaa hL2;clear hrg3 hle3 htn3 hL2;go_roundw
   case rel=>exact HL2
   case measure=>exact hms
def mxL (A B:List Int) (m:Nat):List Int:=(List.range A.length).map fun i=>if i<m then max (A.getD i 0) (B.getD i 0) else A.getD i 0
theorem Qga (A B:List Int) (m:Nat):(mxL A B m).length=A.length:=by simp [mxL]
theorem Qjm (A B:List Int) (m i:Nat) (hi:i<A.length):(mxL A B m).getD i 0=if i<m then max (A.getD i 0) (B.getD i 0) else A.getD i 0:=by
 rw [List.getD_eq_getElem?_getD,List.getElem?_eq_getElem (by rw [Qga];exact hi)];simp only [mxL,List.getElem_map,List.getElem_range,Option.getD_some]
theorem QdB (A B:List Int):mxL A B 0=A:=by
 apply List.ext_getElem (Qga A B 0);intro i h1 h2;simp [mxL,h2]
theorem QnQ (A B:List Int) (m:Nat) (hm:m<A.length):(mxL A B m).set m (max (A.getD m 0) (B.getD m 0))=mxL A B (m+1):=by
 apply List.ext_getElem (by simp [Qga]);intro i h1 h2;rw [List.getElem_set];have hi:i<A.length:=by simpa [Qga] using h2
 split
 ·rename_i e;subst e
  simp only [mxL,List.getElem_map,List.getElem_range];rw [if_pos (by omega)]
 ·rename_i e
  simp only [mxL,List.getElem_map,List.getElem_range];by_cases q:i<m
  ·rw [if_pos q,if_pos (by omega)]
  ·rw [if_neg q,if_neg (by omega)]
theorem Laid.trans {A R R':List Int} {S T U:Int->Prop} (h:Laid A S R) (g:Laid R T R') (hU:∀ x,U x↔S x∨T x):Laid A U R':=by
 refine ⟨by rw [g.1,h.1],fun i hi=>?_⟩;obtain ⟨h1,h2,h3⟩:=h.2 i hi;obtain ⟨g1,g2,g3⟩:=g.2 i (by rw [h.1];exact hi);refine ⟨by omega,fun x hx hr=>?_,?_⟩
 ·rcases (hU x).1 hx with hx | hx
  ·have:=h2 x hx hr;omega
  ·exact g2 x hx hr
 ·rcases g3 with g3 | ⟨x,hx,hr,hv⟩
  ·rcases h3 with h3 | ⟨x,hx,hr,hv⟩
   ·exact .inl (by omega)
   ·exact .inr ⟨x,(hU x).2 (.inl hx),hr,by omega⟩
  ·exact .inr ⟨x,(hU x).2 (.inr hx),hr,hv⟩
theorem Laid.iff {A R:List Int} {S T:Int->Prop} (h:Laid A S R) (hS:∀ x,S x↔T x):Laid A T R:=by
 have:S=T:=funext fun x=>propext (hS x);rw [<- this];exact h
def Qcq (R:List Int):List Int:=if R.length=0 then List.replicate 64 0 else R
theorem QfD {R:List Int} (h:R.length=0∨R.length=64):(Qcq R).length=64:=by
 unfold Qcq;split
 ·simp
 ·omega
abbrev Qif (E1 E2:List Int):List Int:=Qda (Qda [] E1) E2
def Mg (E1 R1 E2 R2 E R:List Int):Prop:=(R1.length=0/\R2.length=0/\(Qif E1 E2).length<=40/\E=Qif E1 E2/\R=[])∨(¬ (R1.length=0/\R2.length=0/\(Qif E1 E2).length<=40)/\E=[]/\Laid (mxL (Qcq R1) R2 R2.length) (·∈Qif E1 E2) R)
theorem Mg.one {E1 R1 E2 R2 E R E' R':List Int} (h:Mg E1 R1 E2 R2 E R) (g:Mg E1 R1 E2 R2 E' R'):E=E'/\R=R':=by
 rcases h with ⟨a,b,c,d,e⟩ | ⟨a,b,c⟩ <;> rcases g with ⟨a',b',c',d',e'⟩ | ⟨a',b',c'⟩
 ·exact ⟨d.trans d'.symm,e.trans e'.symm⟩
 ·exact absurd ⟨a,b,c⟩ a'
 ·exact absurd ⟨a',b',c'⟩ a
 ·exact ⟨b.trans b'.symm,c.same c' (fun _=>Iff.rfl)⟩
theorem MpU.below {w w':World} {b n K:Nat} {L:List Int} (h:MpU w b n L) (hK:b<K) (hb:Below K w w'):MpU w' b n L:=by
 obtain ⟨hp,D,hown,h1,h2,h3⟩:=h;refine ⟨hp,D,?_,h1,h2,h3⟩;obtain ⟨es,clock,hbl,r⟩:=hown;exact ⟨es,clock,(hb.block b hK).trans hbl,r⟩
theorem Qgr:∀ (l:List Int) (x:Int),(QbM l x).length<=l.length+1
 | [],x=>by simp [QbM]
 | y :: r,x=>by
  have:=Qgr r x;unfold QbM
  split
  ·simp only [List.length_cons];omega
  ·split <;> simp
theorem Qjk:∀ (m l:List Int),(Qda l m).length<=l.length+m.length
 | [],l=>by simp [Qda]
 | x :: m,l=>by
  have h:=Qjk m (QbM l x);have h2:(QbM l x).length<=l.length+1:=Qgr l x
  show (Qda (QbM l x) m).length<=_
  simp only [List.length_cons];omega
theorem Qol (E1 E2:List Int):(Qif E1 E2).length<=E1.length+E2.length:=by
 have a:=Qjk E1 [];have b:=Qjk E2 (Qda [] E1);simp at a;unfold Qif;omega
def Qh9 (w:World) (B:Nat) (v:Value) (E R:List Int):Prop:=∃ p n,v=.agg #[p,n]/\w.ownsRow B 26 1 p E.length (E.map (Value.int .u64))/\w.ownsRow B 2 1 n R.length (R.map (Value.int .i64))
end Go.Proofs.YthchmdmncmioiaaGreatDoor
