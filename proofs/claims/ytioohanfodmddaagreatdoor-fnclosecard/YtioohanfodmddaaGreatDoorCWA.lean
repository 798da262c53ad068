/-
 Parts.
-/
import Derived.Test.YtioohanfodmddaaGreatDoorCYB
import Derived.DataShut
import Derived.Laws.MathBits
import Derived.Laws.NewBlocks
import Derived.Lib.AppendZerosOnto
import Derived.Lib.BitFns
import Derived.Shelf.Spec.SlicesInsert
set_option maxRecDepth 10000
set_option maxHeartbeats 8000000
set_option linter.all false
namespace Go.Proofs.YtioohanfodmddaaGreatDoor
open Go.ChangeShapes Go.WideShapes Go.ChangeAt Go.RowKit Go.PlainAid Go.Maps Go.Lib Tryz
theorem mA0 {p:Prop} (h:p:=by have:=HN.out;simp only [List.length_append,List.length_take,List.length_drop,List.length_cons,List.length_nil];omega):p:=h
theorem mA4 {p:Prop} (h:p:=by
 obtain ⟨x0,x1,x2⟩:=hW
 go_simp):p:=h
theorem mA7 {p:Prop} (h:p:=by
 obtain ⟨⟨x0,x1,x2,x3,x4⟩,x5,x6⟩:=HC.out W hW
 go_simp):p:=h
theorem mBj {p:Prop} (h:p:=by
 obtain ⟨aq,ar,au⟩:=hW
 go_simp):p:=h
theorem mB4 {p:Prop} (h:p:=by rw [el,HE.out,List.map_append,List.map_append];exact O3.out):p:=h
theorem mCi {p:Prop} (h:p:=by
 obtain ⟨⟨x0,x1,x2,x3,x4⟩,x5,x6⟩:=ar.out W hW
 go_simp):p:=h
theorem mCq {p:Prop} (h:p:=by
 go_wp2_with (go_at_call 86;refine (Qfs _ _ _).mono ?_;rintro e w1 ⟨rfl,hw⟩;obtain rfl:=hw.symm)
 go_end0
 exact ⟨⟨_,rfl⟩,HF.out _ HE⟩):p:=h
theorem mDl {p:Prop} (h:p:=by
 rcases h3 with h3 | ⟨x,hx,hr,hv⟩
 ·exact .inl h3
 ·exact .inr ⟨x,(hS x).2 (.inl hx),hr,hv⟩):p:=h
section
def QcC:List Int->Int->List Int
 | [],x=>[x]
 | y :: r,x=>if y<x then y :: QcC r x else if y=x then y :: r else x :: y :: r
theorem Qge (z:Int):∀ (l:List Int) (x:Int),z∈QcC l x↔z=x∨z∈l
 | [],x=>by simp [QcC]
 | y :: r,x=>by
  unfold QcC
  split
  ·simp only [List.mem_cons,Qge z r x]
   constructor
   ·rintro (h | h | h) <;> simp [h]
   ·rintro (h | h | h) <;> simp [h]
  ·split
   ·rename_i e;subst e;simp
   ·simp
def Qka (l m:List Int):List Int:=m.foldl QcC l
def rho (x:Int):Int:=min (64 - (Lib.bitLen (IntKind.u64.wrap (x*64)).toNat:Int)+1) 55
theorem Quh (x:Int):0<=IntKind.u64.wrap x/\IntKind.u64.wrap x<=18446744073709551615:=by
 have:IntKind.u64.wrap x=x % 18446744073709551616:=by simp [IntKind.wrap,IntKind.bits,IntKind.signed]
 rw [this];omega
theorem QjJ:∀ (f x:Nat),Lib.bitLenAux f x<=f
 | 0,x=>by simp [Lib.bitLenAux]
 | f+1,x=>by
  unfold Lib.bitLenAux
  split
  ·omega
  ·have:=QjJ f (x / 2);omega
theorem Qei (x:Nat):Lib.bitLen x<=64:=QjJ 64 x
theorem QuV (x:Int):1<=rho x/\rho x<=55:=by
 unfold rho;have:=Qei (IntKind.u64.wrap (x*64)).toNat;omega
end
variable {p v x y:Int}
variable {S S' T U:Int->Prop}
variable {A E L R R':List Int}
variable {w:World}
variable {c d g i k m n s:Nat}
section
def reg (x:Int):Nat:=(x / 288230376151711744).toNat
theorem reg_lt (h:U64 x):reg x<64:=by unfold U64 at h;unfold reg;omega
def lay (R:List Int) (x:Int):List Int:=R.set (reg x) (max (R.getD (reg x) 0) (rho x))
def Laid (R:List Int) (S:Int->Prop) (R':List Int):Prop:=R'.length=R.length/\∀ i,i<R.length->R.getD i 0<=R'.getD i 0/\(∀ x,S x->reg x=i->rho x<=R'.getD i 0)/\(R'.getD i 0=R.getD i 0∨∃ x,S x/\reg x=i/\R'.getD i 0=rho x)
theorem Laid.start (R:List Int) (h:∀ x,¬ S x):Laid R S R:=⟨rfl,fun i hi=>⟨Int.le_refl _,fun x hx=>absurd hx (h x),.inl rfl⟩⟩
theorem Qvx (R:List Int) (x:Int):(lay R x).length=R.length:=by simp [lay]
theorem lay_at (R:List Int) (x:Int) (i:Nat) (hi:i<R.length):(lay R x).getD i 0=if reg x=i then max (R.getD i 0) (rho x) else R.getD i 0:=by
 unfold lay;rw [List.getD_eq_getElem?_getD,List.getElem?_set];by_cases e:reg x=i
 ·subst e;simp [hi]
 ·simp [e]
theorem Laid.step (h:Laid R S R') (hS:∀ x,S' x↔S x∨x=y):Laid R S' (lay R' y):=by
 refine ⟨by rw [Qvx,h.1],fun i hi=>?_⟩;obtain ⟨h1,h2,h3⟩:=h.2 i hi;rw [lay_at R' y i (by rw [h.1];exact hi)]
 split
 ·rename_i e
  refine ⟨by omega,fun x hx hr=>?_,?_⟩
  ·rcases (hS x).1 hx with hx | hx
   ·have:=h2 x hx hr;omega
   ·subst hx;omega
  ·by_cases hm:R'.getD i 0<=rho y
   ·exact .inr ⟨y,(hS y).2 (.inr rfl),e,by omega⟩
   ·rw [show max (R'.getD i 0) (rho y)=R'.getD i 0 by omega]
    exact mDl
 ·rename_i e
  refine ⟨h1,fun x hx hr=>?_,?_⟩
  ·rcases (hS x).1 hx with hx | hx
   ·exact h2 x hx hr
   ·subst hx;exact absurd hr e
  ·exact mDl
theorem Laid.same {B:List Int} (h:Laid R S A) (g:Laid R S' B) (hS:∀ x,S x↔S' x):A=B:=by
 apply List.ext_getElem (by rw [h.1,g.1]);intro i h1 h2;have hi:i<R.length:=by rw [<- h.1];exact h1
 obtain ⟨a1,a2,a3⟩:=h.2 i hi;obtain ⟨b1,b2,b3⟩:=g.2 i hi;rw [List.getD_eq_getElem?_getD,List.getD_eq_getElem?_getD,List.getElem?_eq_getElem h1] at a1;simp only [List.getD_eq_getElem?_getD,List.getElem?_eq_getElem h1,List.getElem?_eq_getElem h2,Option.getD_some] at a1 a2 a3 b1 b2 b3;rcases a3 with a3 | ⟨x,hx,hr,hv⟩ <;> rcases b3 with b3 | ⟨y,hy,hs,hu⟩
 ·rw [a3,b3]
 ·have:=a2 y ((hS y).2 hy) hs;omega
 ·have:=b2 x ((hS x).1 hx) hr;omega
 ·have:=a2 y ((hS y).2 hy) hs
  have:=b2 x ((hS x).1 hx) hr;omega
def RowI (w:World) (B g:Nat) (R:List Int):Prop:=R.length=64/\w.ownsRow B 2 1 (.slice (some ⟨g,0,none⟩) 64 64) 64 (R.map (Value.int .i64))
theorem RowI.cell {B:Nat} (h:RowI w B g R) (hk:k<64) (hx:x=R.getD k 0):w.cell? ⟨g,k,none⟩=some (.int .i64 x):=by
 have hs:=h.1;rw [h.2.cellAt k oB,hx];rw [List.getD_eq_getElem?_getD,List.getElem?_map,List.getElem?_eq_getElem (by omega:k<R.length)];simp
theorem RowI.froz {B:Nat} (h:RowI w B g R) (k:Nat):w.frozen? ⟨g,k,none⟩=false:=h.2.frozenAt k
theorem RowI.lt {B:Nat} (h:RowI w B g R):B<=g/\g<w.heap.size:=QtW h.2
theorem RowI.set {B:Nat} (h:RowI w B g R) (k:Nat) (x:Int):RowI (w.setCell ⟨g,k,none⟩ (.int .i64 x)) B g (R.set k x):=by
 refine ⟨by simp [h.1],?_⟩;have:=(h.2.stored k (.int .i64 x)).1;rw [List.map_set];exact this
end
section
def mxL (A B:List Int) (m:Nat):List Int:=(List.range A.length).map fun i=>if i<m then max (A.getD i 0) (B.getD i 0) else A.getD i 0
theorem QlH (A B:List Int) (m:Nat):(mxL A B m).length=A.length:=by simp [mxL]
theorem QvC (A B:List Int) (m i:Nat) (hi:i<A.length):(mxL A B m).getD i 0=if i<m then max (A.getD i 0) (B.getD i 0) else A.getD i 0:=by
 rw [List.getD_eq_getElem?_getD,List.getElem?_eq_getElem (by rw [QlH];exact hi)];simp only [mxL,List.getElem_map,List.getElem_range,Option.getD_some]
theorem Qji (A B:List Int):mxL A B 0=A:=by
 apply List.ext_getElem (QlH A B 0);intro i h1 h2;simp [mxL,h2]
theorem Laid.trans (h:Laid A S R) (g:Laid R T R') (hU:∀ x,U x↔S x∨T x):Laid A U R':=by
 refine ⟨by rw [g.1,h.1],fun i hi=>?_⟩;obtain ⟨h1,h2,h3⟩:=h.2 i hi;obtain ⟨g1,g2,g3⟩:=g.2 i (by rw [h.1];exact hi);refine ⟨by omega,fun x hx hr=>?_,?_⟩
 ·rcases (hU x).1 hx with hx | hx
  ·have:=h2 x hx hr;omega
  ·exact g2 x hx hr
 ·rcases g3 with g3 | ⟨x,hx,hr,hv⟩
  ·rcases h3 with h3 | ⟨x,hx,hr,hv⟩
   ·exact .inl oB
   ·exact .inr ⟨x,(hU x).2 (.inl hx),hr,by omega⟩
  ·exact .inr ⟨x,(hU x).2 (.inr hx),hr,hv⟩
theorem Laid.iff (h:Laid A S R) (hS:∀ x,S x↔T x):Laid A T R:=by
 have:S=T:=funext fun x=>propext (hS x);rw [<- this];exact h
def Qil (R:List Int):List Int:=if R.length=0 then List.replicate 64 0 else R
theorem Qsw (h:R.length=0∨R.length=64):(Qil R).length=64:=by
 unfold Qil;split
 ·simp
 ·omega
abbrev QnN (E1 E2:List Int):List Int:=Qka (Qka [] E1) E2
def Mg (E1 R1 E2 R2 E R:List Int):Prop:=(R1.length=0/\R2.length=0/\(QnN E1 E2).length<=40/\E=QnN E1 E2/\R=[])∨(¬ (R1.length=0/\R2.length=0/\(QnN E1 E2).length<=40)/\E=[]/\Laid (mxL (Qil R1) R2 R2.length) (·∈QnN E1 E2) R)
theorem Mg.one {E1 R1 E2 R2 E':List Int} (h:Mg E1 R1 E2 R2 E R) (g:Mg E1 R1 E2 R2 E' R'):E=E'/\R=R':=by
 rcases h with ⟨a,b,c,d,e⟩ | ⟨a,b,c⟩ <;> rcases g with ⟨a',b',c',d',e'⟩ | ⟨a',b',c'⟩
 ·exact ⟨d.trans d'.symm,e.trans e'.symm⟩
 ·exact absurd ⟨a,b,c⟩ a'
 ·exact absurd ⟨a',b',c'⟩ a
 ·exact ⟨b.trans b'.symm,c.same c' (fun _=>Iff.rfl)⟩
theorem Qki:∀ (l:List Int) (x:Int),(QcC l x).length<=l.length+1
 | [],x=>by simp [QcC]
 | y :: r,x=>by
  have:=Qki r x;unfold QcC
  split
  ·simp only [List.length_cons];omega
  ·split <;> simp
end
variable {ao ra:Option Addr}
section
def zer64:List Value:=(List.replicate 64 (0:Int)).map (Value.int .i64)
theorem QuY:zer64.length=64:=by simp [zer64]
theorem Qom (h:R.length=0∨R.length=64):splice zer64 0 (R.map (Value.int .i64))=(Qil R).map (Value.int .i64):=by
 unfold Qil splice zer64;rcases h with h | h
 ·obtain rfl:=List.eq_nil_of_length_eq_zero h
  simp
 ·rw [if_neg oB]
  simp [h]
theorem info1I:(prog.info? 2).map (·.size)=some 1:=oG
theorem RowI.full {B:Nat} (h:RowI w B g R):w.heap[g]?=some (.cells (R.map (Value.int .i64)).toArray 2 (0,0)):=by
 rcases h.2.2 with ⟨e,_⟩ | ⟨g',ab,aa,e,h1,h2,_,_,h5,h6⟩
 ·cases e
 ·cases e
  rw [h2]
  have hc:aa.toList=R.map (Value.int .i64):=by
   rw [<- h6,List.take_of_length_le (by simp [h5])]
  rw [<- hc]
theorem RowI.of {B:Nat} (h:R.length=64) (hB:B<=g) (hg:w.heap[g]?=some (.cells (R.map (Value.int .i64)).toArray 2 (0,0))):RowI w B g R:=
 ⟨h,by simp [h],.inr ⟨g,64,_,rfl,hB,hg,Nat.le_refl _,by unfold maxLen;omega,by simp [h],List.take_of_length_le (by simp [h])⟩⟩
theorem RowI.le {B B':Nat} (h:RowI w B g R) (hB:B'<=B):RowI w B' g R:=⟨h.1,Qbu h.2 hB⟩
theorem Qr7 {w2:World} {K:Nat} (h:QaE .i64 w ao L) (hb:Bw w w2):0<(L.map (Value.int .i64)).length->∃ ad,ao=some ad/\∀ j v,(L.map (Value.int .i64))[j]?=some v->w2.cell? (ad.add j)=some v:=fun h0=>by
 obtain ⟨b,off,rfl,hc⟩:=h (by simpa using h0);refine ⟨_,rfl,fun j v hv=>?_⟩;rw [List.getElem?_map] at hv;obtain ⟨x,hx,rfl⟩:=Option.map_eq_some_iff.1 hv;have:=Qab hb (hc j x hx);by_cases e:j=0
 ·subst e;simpa [Addr.add] using this
 ·simpa [Addr.add,e] using this
theorem QpS (w:World) (v:Value) (T:TypeId):(w.alloc (.cells #[v] T)).cell? ⟨w.heap.size,0,none⟩=some v:=by
 rw [cell_of_row _ w.heap.size 0 _ _ (0,0) (heap_alloc_new w (.cells #[v] T))];rfl
end
section
theorem Qi5 (h:hlB E R=true):E.length<=40/\(R.length=0∨R.length=64):=by
 unfold hlB at h
 split at h
 ·rename_i h0
  unfold exB at h;simp only [yB,decide_eq_true_eq] at h;exact ⟨h.1,.inl h0⟩
 ·unfold Qhv at h
  simp only [yB,decide_eq_true_eq] at h;exact ⟨by omega,.inr h.2.1⟩
end
section
theorem ret_n {a b:Int} (h:a=b):Ending.returned (.int .i64 a)=.returned (.int .i64 b):=by rw [h]
theorem Qfs (a b:Int) (w:World) :
  Calls prog 86 #[.int .i64 a,.int .i64 b] w fun e w'=>e=.returned (.int .i64 (max a b))/\w'=w:=by
 by_cases h:b<a
 ·have HE:Hid (a=max a b):=Qaa oB
  go_enter func86,ntmps86;go_wp2;go_ret;exact ⟨ret_n HE,rfl⟩
 ·have HE:Hid (b=max a b):=Qaa oB
  go_enter func86,ntmps86;go_wp2;go_ret;exact ⟨ret_n HE,rfl⟩
end
section
theorem Qud {v:Nat} (h:9223372036854775808<=v) (h2:v<18446744073709551616):Lib.bitLen v=64:=by
 have hb:=Lib.bitLenAux_bounds 64 v (by simpa using h2) oB;have hl:=Qei v;have hd:Lib.bitLen v=Lib.bitLenAux 64 v:=rfl;rw [<- hd] at hb;by_cases q:Lib.bitLen v<=63
 ·have:2 ^ Lib.bitLen v<=2 ^ 63:=Nat.pow_le_pow_right oB q
  omega
 ·omega
def Qhz (n v:Int):Int:=min (64 - (Lib.bitLen v.toNat:Int)+n) 55
theorem Qo3 (x:Int):Qhz 1 (IntKind.u64.wrap (x*64))=rho x:=rfl
theorem QsG {n:Int} (h1:1<=n) (h0:0<=v) (hv:v<9223372036854775808):Qhz (n+1) (v*2)=Qhz n v:=by
 unfold Qhz;by_cases e:v=0
 ·subst e
  simp [Lib.bitLen,Lib.bitLenAux_zero];omega
 ·have:=Lib.bitLen_half (v*2).toNat oB oB
  have h2:(v*2).toNat / 2=v.toNat:=oB
  rw [h2] at this;rw [this];omega
theorem rho_full:Qhz 55 v=55:=by
 unfold Qhz;have:=Qei v.toNat;omega
theorem Qvk {n:Int} (hn:n<=55) (hv:9223372036854775808<=v) (h2:v<18446744073709551616):Qhz n v=n:=by
 unfold Qhz;rw [Qud oB oB];omega
theorem Qvq {B:Nat} (x:Int) (hx:U64 x) (hR:RowI w B g R) :
  Calls prog 218 #[.slice (some ⟨g,0,none⟩) 64 64,.int .u64 x] w fun e w'=>(∃ r,e=.returned r)/\RowI w' B g (lay R x)/\Below B w w':=by
 have aa:=reg_lt hx;have q0:0<=x / 288230376151711744:=by unfold U64 at hx;omega
 have q1:x / 288230376151711744<64:=by unfold U64 at hx;omega
 have qw:IntKind.i64.wrap (x / 288230376151711744)=x / 288230376151711744:=ZZi _ ⟨by omega,by omega⟩;obtain ⟨v,hv⟩:∃ v,v=R.getD (reg x) 0:=⟨_,rfl⟩;have ab:w.cell? ⟨g,(x / 288230376151711744).toNat,none⟩=some (.int .i64 v):=hR.cell aa hv;have ad:w.frozen? ⟨g,(x / 288230376151711744).toNat,none⟩=false:=hR.froz (reg x)
 have HF:Hid (∀ y,y=rho x->RowI (w.setCell ⟨g,(x / 288230376151711744).toNat,none⟩ (.int .i64 (max v y))) B g (lay R x)/\Below B w (w.setCell ⟨g,(x / 288230376151711744).toNat,none⟩ (.int .i64 (max v y)))):=fun y hy=>by
  subst hy;refine ⟨?_,(ZZb _ _).setCell hR.lt.1 _⟩;have:=hR.set (reg x) (max v (rho x));unfold lay;rw [<- hv];exact this
 obtain ⟨s0,s1⟩:=Quh (x*64);have HS:=Qaa (Qo3 x);clear hR hv aa;go_enter func218,ntmps218;go_wp2
 go_loopw [5,6] (fun a b wr=>wr=w/\∃ n z:Int,a=.int .i64 n/\b=.int .u64 z/\1<=n/\n<=55/\0<=z/\z<=18446744073709551615/\Hid (Qhz n z=rho x)) (fun a b wr=>55 - (Go.RowKit.intOf a).toNat)
 case atStart=>exact ⟨rfl,1,_,rfl,rfl,by omega,by omega,s0,s1,HS⟩
 case round=>
  clear HS s0 s1;obtain ⟨rfl,n,z,rfl,rfl,n1,n2,z0,z1,HR⟩:=hrel;by_cases hn:n<55
  ·by_cases hz:z<9223372036854775808
   ·have dz:z / 9223372036854775808=0:=by omega
    have d0:decide (z / 9223372036854775808=0)=true:=ZZh dz;have uw:IntKind.u64.wrap (z*2)=z*2:=IntWalk.u64_in _ ⟨by omega,by omega⟩;have ac:Hid (Qhz (n+1) (z*2)=rho x):=(QsG n1 z0 hz).trans HR;go_wp2;go_roundw
    case rel=>exact ⟨trivial,n+1,z*2,rfl,rfl,by omega,by omega,by omega,by omega,ac⟩
    case measure=>simp [zI];omega
   ·have dz:z / 9223372036854775808=1:=by omega
    have HE:Hid (n=rho x):=(Qvk n2 oB oB).symm.trans HR;exact mCq
  ·obtain rfl:n=55:=by omega
   have HE:Hid ((55:Int)=rho x):=rho_full.symm.trans HR;exact mCq
end
section
theorem QiM (h:L[k]?=some y) (x:Int):x∈L.take (k+1)↔x∈L.take k∨x=y:=by
 rw [List.take_add_one,h];simp
theorem Qko {eb:Option Addr} (h1:R.length=m) (h2:E.length=n) (l1:m=0∨m=64) (l2:n<=1000) (hR:QaE .i64 w ra R) (hE:QaE .u64 w eb E) (u1:∀ x∈E,U64 x) :
  Calls prog 169 #[.slice ra m d,.slice eb n c] w fun e w'=>∃ g R',e=.returned (.agg #[.slice none 0 0,.slice (some ⟨g,0,none⟩) 64 64])/\Laid (Qil R) (·∈E) R'/\RowI w' w.heap.size g R'/\Bw w w':=by
 have HR:=Qaa hR;have HE:=Qaa hE;have H1:=Qaa h1;have H2:=Qaa h2;have L1:=Qaa l1;have U1:=Qaa u1;have av:Hid ((Qil R).length=64):=Qsw (by rw [h1];exact l1);obtain ⟨i0,hi,ao,au,ap⟩:=info_parts Qfn;have aj:Hid (∀ o,Bw w (w.alloc o)):=fun o=>bAA;have ar:=Qaa (ZZk w (.cells #[.slice none 0 0,.slice none 0 0] 42));clear hR hE h1 h2 l1 u1;go_enter func169,ntmps169
 go_wp2_with (first
  | (at_make;refine wpList_make_full _ rfl _ _ 40 rfl (w.heap.size+1) 2 i0 (.int .i64 0) 1 underlying40 hi ao au .i64 .i64 _ _ 64 rfl rfl rfl rfl (by rw [ap];omega) oC oE ?_;intro w2 ab aa;simp only [World.size_alloc] at ab ⊢; have am:Hid (w2.heap[w.heap.size+1]?=some (.cells zer64.toArray 2 (0,0))):=RowI.full (R:=List.replicate 64 0) ⟨by simp,by rw [<- QqT];exact ab⟩;have af:Hid (Below (w.heap.size+1) (w.alloc (.cells #[.slice none 0 0,.slice none 0 0] 42)) w2):=(Below.refl _ _).grown aa oE (fun k e=>by cases e);clear ab aa)
  | (refine wpList_copy_splice rfl _ _ 40 40 rfl 2 underlying40 info1I _ _ _ _ _ _ rfl rfl (w.heap.size+1) 0 _ 2 am (R.map (Value.int .i64)) (by rw [yA,H1.out];rcases L1.out with q | q <;> rw [q] <;> rfl) (fun h0=>⟨rfl,Qr7 (K:=0) HR ((aj.out _).trans (af.mono oB)) h0⟩) (by rw [yA,H1.out,QuY];have:=L1.out;omega) (by intro v hv;simp at hv;obtain ⟨x,_,rfl⟩:=hv;rfl) (w.heap.size+1) (w.alloc (.cells #[.slice none 0 0,.slice none 0 0] 42)) af (Nat.le_refl _) ?_;intro w3 ac ak;have an:=Qaa ak;have al:Hid (RowI w3 (w.heap.size+1) (w.heap.size+1) (Qil R)):=RowI.of av (Nat.le_refl _) (by rw [<- Qom (by rw [H1.out];exact L1.out)];exact ac.out);clear ac ak am af))
 go_loopw [6] (fun i wr=>∃ (k:Nat) (R':List Int),k<=n/\i=.int .i64 k/\Hid (RowI wr (w.heap.size+1) (w.heap.size+1) R')/\Hid (Laid (Qil R) (·∈E.take k) R')/\Hid (Below (w.heap.size+1) (w.alloc (.cells #[.slice none 0 0,.slice none 0 0] 42)) wr)) (fun i wr=>n - (Go.RowKit.intOf i).toNat)
 case atStart=>exact ⟨0,Qil R,Nat.zero_le _,rfl,al,Laid.start _ (fun x hx=>by simp at hx),an⟩
 case round=>
  clear al an;obtain ⟨k,R',hk,rfl,HO,HL,ae⟩:=hrel;have ah:=Qaa ((aj.out (.cells #[.slice none 0 0,.slice none 0 0] 42)).trans (ae.mono oB));by_cases ax:k<n
  ·obtain ⟨b,az,e,ad⟩:=HE.out (oA H2.out)
   obtain ⟨y,hy⟩:∃ y,E[k]?=some y:=⟨E[k]'(oA H2.out),ZZe _⟩;subst e;have ay:=Qab ah (ad k y hy);have HY:=Qaa hy;have HZ:=Qaa (U1.out y (ZZn hy));clear ad hy;go_wp2_with (go_at_call 218;refine (Qvq _ HZ HO).mono ?_;rintro e w4 ⟨⟨r4,rfl⟩,ag,ai⟩;have aw:=Qaa ag;have aq:=Qaa (ae.trans ai);clear ag ai);go_roundw
   case rel=>exact ⟨k+1,_,by omega,by go_num,aw,HL.step (QiM HY),aq⟩
   case measure=>simp [zI];omega
  ·have HF:Hid (Laid (Qil R) (·∈E) R'):=by
    have:=HL.out;rw [List.take_of_length_le (oA H2.out)] at this;exact this
   have R2:=(ae.block _ oB).trans ar;have q0:wr.cell? ⟨w.heap.size,0,none⟩=some (.slice none 0 0):=by rw [cell_of_row _ _ 0 _ _ (0,0) R2];rfl
   have q1:wr.cell? ⟨w.heap.size,1,none⟩=some (.slice none 0 0):=by rw [cell_of_row _ _ 1 _ _ (0,0) R2];rfl
   have f0:=fzR 0 R2;have f1:=fzR 1 R2;clear R2;go_wp2;refine bodyPost_ret (v:=.agg #[.slice none 0 0,.slice (some ⟨w.heap.size+1,0,none⟩) 64 64]) (by simp [results,results169,go_sem,q0,q1]) rfl ⟨_,R',rfl,HF,?_,?_⟩
   ·refine RowI.le (B:=w.heap.size+1) ?_ oB
    refine ⟨HO.1,?_⟩
    repeat (refine ownsRow_setCell_below ?_ oE _)
    exact HO.2
   ·exact (ah.setCell oE _).setCell oE _
end
variable {kd:IntKind}
section
def QfY (L:List Int) (p:Int) (k:Nat):Prop:=k<=L.length/\(∀ (t:Nat) (x:Int),L[t]?=some x->t<k->x<p)/\∀ x,L[k]?=some x->¬ x<p
theorem QgN {r:List Int} (h:QfY (y :: r) p (k+1)):QfY r p k:=
 ⟨by have:=h.1;simp at this;exact this,fun t x hx ht=>h.2.1 (t+1) x OG oB,fun x hx=>h.2.2 x OG⟩
theorem Qqn {a:Int}:∀ (L:List Int) (k:Nat),QfY L a k->L[k]?=some a->QcC L a=L.take k ++ [a] ++ L.drop (k+1)
 | [],k,_,h=>by simp at h
 | y :: r,0,hp,h=>by
  obtain rfl:y=a:=oU
  simp [QcC]
 | y :: r,k+1,hp,h=>by
  have hy:=hp.2.1 0 y rfl oB;rw [QcC,if_pos hy,Qqn r k (QgN hp) oU];rfl
theorem QiH {a:Int}:∀ (L:List Int) (k:Nat),QfY L a k->(∀ x,L[k]?=some x->x≠a)->QcC L a=L.take k ++ [a] ++ L.drop k
 | [],k,hp,h=>by have:=hp.1;simp at this;subst this;rfl
 | y :: r,0,hp,h=>by
  have hy:=hp.2.2 y rfl;have hne:y≠a:=h y rfl;rw [QcC,if_neg hy,if_neg hne];rfl
 | y :: r,k+1,hp,h=>by
  have hy:=hp.2.1 0 y rfl oB;rw [QcC,if_pos hy,QiH r k (QgN hp) (fun x hx=>h x OG)];rfl
theorem Qft (h:QaE kd w ao L) (k:Nat):QaE kd w ao (L.take k):=fun h0=>by
 obtain ⟨b,off,e,hc⟩:=h OQ;exact ⟨b,off,e,fun i x hx=>hc i x OP⟩
theorem QhQ {b off:Nat} (h:QaE kd w (some ⟨b,off,none⟩) L) (k:Nat):QaE kd w (some ⟨b,off+k,none⟩) (L.drop k):=fun h0=>by
 rw [List.length_drop] at h0;obtain ⟨b',off',e,hc⟩:=h oB
 cases e
 exact ⟨b,off+k,rfl,fun i x hx=>by rw [List.getElem?_drop] at hx;have:=hc (k+i) x hx;rw [show off+k+i=off+(k+i) by omega];exact this⟩
theorem Qpx (a:Int) (hn:L.length=n) (hl:n<=1000000) (hcap:n<=c) (hcm:c<=maxLen) (hf:Qrm ao) (hno:ao=none->c=0) (hA:QaE .u64 w ao L) :
  Calls prog 168 #[.slice ao n c,.int .u64 a] w fun e w'=>∃ v,e=.returned v/\w'.ownsRow w.heap.size 33 1 v (QcC L a).length ((QcC L a).map (Value.int .u64))/\Bw w w':=by
 obtain ⟨i0,hi,ag,af,ae⟩:=info_parts Qex;have HA:=Qaa hA;have HN:=Qaa hn;have az:=Qaa hno;have aC:=Qaa hf;unfold maxLen at hcm;clear hA hn hno hf;go_enter func168,ntmps168;go_wp2
 go_loop [5] (fun i=>∃ k:Nat,k<=n/\i=.int .i64 k/\Hid (∀ (t:Nat) (x:Int),L[t]?=some x->t<k->x<a)) (fun i=>n - (Go.RowKit.intOf i).toNat)
 case atStart=>exact ⟨0,ZZj _,rfl,(fun t x _ h=>absurd h oB:∀ (t:Nat) (x:Int),L[t]?=some x->t<0->x<a)⟩
 case round=>
  obtain ⟨k,hk,rfl,HF⟩:=hrel;by_cases aD:k<n
  ·obtain ⟨b,ah,e,ai⟩:=HA.out (oA HN.out)
   subst e;obtain ⟨y,ak⟩:∃ y,L[k]?=some y:=⟨L[k]'(oA HN.out),ZZe _⟩;have aj:=ai k y ak;clear ai;by_cases ap:y<a
   ·have ax:Hid (∀ (t:Nat) (x:Int),L[t]?=some x->t<k+1->x<a):=Qaa (fun t z hz ht=>by
     by_cases e:t=k
     ·subst e;rw [ak] at hz;obtain rfl:=Option.some.inj hz;exact ap
     ·exact HF.out t z hz oB)
    have d1:decide (y<a)=true:=ZZh ap;clear ak;go_wp2
    go_round
    case rel=>exact ⟨k+1,by omega,by go_num,ax⟩
    case measure=>simp [zI];omega
   ·have HK:Hid (QfY L a k):=Qaa (⟨by have:=HN.out;omega,HF,fun z hz=>by rw [ak] at hz;obtain rfl:=Option.some.inj hz;exact ap⟩)
    have d1:decide (y<a)=false:=ZZg ap;have au:=Qaa ak;clear ak HF;by_cases ar:y=a
    ·subst ar
     have HE:Hid (QcC L y=L.take k ++ [y] ++ L.drop (k+1)):=Qqn L k HK au;have aE:IntKind.i64.wrap ((k:Int)+1)=(k:Int)+1:=by rw [IntKind.wrap_i64];omega
     have aG:((k:Int)+1).toNat=k+1:=oB
     have aI:(0:Int)<=(k:Int)+1:=oB
     have aH:(k:Int)+1<=(n:Int):=oB
     by_cases aA:c=k+1
     ·subst aA
      have aB:n=k+1:=oB
      have aF:k+1 - (k+1)=0:=oB
      subst aB;have aw:Hid (QcC L y=L.take k ++ [y] ++ []):=(by rw [HE.out,List.drop_eq_nil_of_le (oA HN.out)];exact Qaa rfl)
      go_wp2_with (first
       | (at_builtin;refine Qad _ rfl (.tmp 21) (.tmp 24) 39 rfl w.heap.size 33 i0 (.int .u64 0) 1 8 underlying39 hi ag af ae rfl oF _ _ _ rfl (World.ownsRow_made _ #[] 0 (Nat.le_refl _) (Nat.zero_le _) rfl) (some ⟨b,ah,none⟩) k (k+1) ((L.take k).map (Value.int .u64)) rfl oK (fun e=>by cases e) (QbI (Qft (Qak HA bAA) k)) (QaZ _ _) oC oB oE ?_;intro v1 w1 ab aa ac;simp only [Nat.zero_add,List.nil_append] at ab;obtain ⟨an,c1,rfl⟩:=Qan ab;have O1:=Qaa ab;have B1:=Qaa (((Below.refl w.heap.size w).alloc (Nat.le_refl _) _).grown aa oE (fun j hj=>by cases hj;exact Nat.le_refl _));have y0:=Qab B1 aj;clear ab aa ac)
       | (at_builtin;refine Qad _ rfl (.tmp 26) (.tmp 28) 39 rfl w.heap.size 33 i0 (.int .u64 0) 1 8 underlying39 hi ag af ae rfl oF _ _ _ rfl (QaX O1 bAA) (some ⟨w1.heap.size,0,none⟩) 1 1 [.int .u64 y] rfl rfl (fun e=>by cases e) (fun ad e=>by cases e;exact Qav (cs:=#[.int .u64 y]) rfl) (QaZ .u64 [y]) oC oB oI ?_;intro v2 w2 ab aa ac;obtain ⟨al,c2,rfl⟩:=Qan ab;have O2:=Qaa ab;have B2:=Qaa ((B1.alloc B1.size _).grown aa oI (fun j hj=>Qa9 O1 j hj));have x0:=Qab B2 aj;clear ab aa ac)
       | (at_builtin;refine Qad _ rfl (.tmp 44) (.tmp 47) 39 rfl w.heap.size 33 i0 (.int .u64 0) 1 8 underlying39 hi ag af ae rfl oF _ _ _ rfl O2 (some ⟨b,ah,none⟩) 0 0 (([]:List Int).map (Value.int .u64)) rfl rfl (fun e=>by cases e) (fun A _ j z hz=>by simp at hz) (QaZ _ _) oC oB (oA B2.size) ?_;intro v3 w3 ab aa ac;obtain ⟨am,c3,rfl⟩:=Qan ab;have O3:=Qaa ab;have B3:=Qaa (B2.grown aa B2.size (fun j hj=>Qa9 O2 j hj));clear ab aa ac))
      all_goals
       go_ret;refine ⟨_,rfl,?_,B3⟩
       have el:(QcC L y).length=k+1+0:=by
        rw [aw.out];exact mA0
       rw [el,aw.out,List.map_append,List.map_append];exact O3.out
     ·go_wp2_with (first
       | (at_builtin;refine Qad _ rfl (.tmp 21) (.tmp 24) 39 rfl w.heap.size 33 i0 (.int .u64 0) 1 8 underlying39 hi ag af ae rfl oF _ _ _ rfl (World.ownsRow_made _ #[] 0 (Nat.le_refl _) (Nat.zero_le _) rfl) (some ⟨b,ah,none⟩) k c ((L.take k).map (Value.int .u64)) rfl oK (fun e=>by cases e) (QbI (Qft (Qak HA bAA) k)) (QaZ _ _) oC oB oE ?_;intro v1 w1 ab aa ac;simp only [Nat.zero_add,List.nil_append] at ab;obtain ⟨an,c1,rfl⟩:=Qan ab;have O1:=Qaa ab;have B1:=Qaa (((Below.refl w.heap.size w).alloc (Nat.le_refl _) _).grown aa oE (fun j hj=>by cases hj;exact Nat.le_refl _));have y0:=Qab B1 aj;clear ab aa ac)
       | (at_builtin;refine Qad _ rfl (.tmp 26) (.tmp 28) 39 rfl w.heap.size 33 i0 (.int .u64 0) 1 8 underlying39 hi ag af ae rfl oF _ _ _ rfl (QaX O1 bAA) (some ⟨w1.heap.size,0,none⟩) 1 1 [.int .u64 y] rfl rfl (fun e=>by cases e) (fun ad e=>by cases e;exact Qav (cs:=#[.int .u64 y]) rfl) (QaZ .u64 [y]) oC oB oI ?_;intro v2 w2 ab aa ac;obtain ⟨al,c2,rfl⟩:=Qan ab;have O2:=Qaa ab;have B2:=Qaa ((B1.alloc B1.size _).grown aa oI (fun j hj=>Qa9 O1 j hj));have x0:=Qab B2 aj;clear ab aa ac)
       | (at_builtin;refine Qad _ rfl (.tmp 44) (.tmp 47) 39 rfl w.heap.size 33 i0 (.int .u64 0) 1 8 underlying39 hi ag af ae rfl oF _ _ _ rfl O2 (some ⟨b,ah+(k+1),none⟩) (n - (k+1)) (c - (k+1)) ((L.drop (k+1):List Int).map (Value.int .u64)) rfl oY (fun e=>by cases e) (QbI (QhQ (Qak HA B2) (k+1))) (QaZ _ _) oC oB (oA B2.size) ?_;intro v3 w3 ab aa ac;obtain ⟨am,c3,rfl⟩:=Qan ab;have O3:=Qaa ab;have B3:=Qaa (B2.grown aa B2.size (fun j hj=>Qa9 O2 j hj));clear ab aa ac))
      all_goals
       go_ret;refine ⟨_,rfl,?_,B3⟩
       have el:(QcC L y).length=k+1+(n - (k+1)):=by
        rw [HE.out];exact mA0
       exact mB4
    ·have HE:Hid (QcC L a=L.take k ++ [a] ++ L.drop k):=QiH L k HK (fun z hz=>by rw [au.out] at hz;obtain rfl:=Option.some.inj hz;exact ar)
     have av:¬ (c=k):=oB
     have d2:decide (y=a)=false:=ZZg ar
     go_wp2_with (first
      | (at_builtin;refine Qad _ rfl (.tmp 21) (.tmp 24) 39 rfl w.heap.size 33 i0 (.int .u64 0) 1 8 underlying39 hi ag af ae rfl oF _ _ _ rfl (World.ownsRow_made _ #[] 0 (Nat.le_refl _) (Nat.zero_le _) rfl) (some ⟨b,ah,none⟩) k c ((L.take k).map (Value.int .u64)) rfl oK (fun e=>by cases e) (QbI (Qft (Qak HA bAA) k)) (QaZ _ _) oC oB oE ?_;intro v1 w1 ab aa ac;simp only [Nat.zero_add,List.nil_append] at ab;obtain ⟨an,c1,rfl⟩:=Qan ab;have O1:=Qaa ab;have B1:=Qaa (((Below.refl w.heap.size w).alloc (Nat.le_refl _) _).grown aa oE (fun j hj=>by cases hj;exact Nat.le_refl _));have y0:=Qab B1 aj;clear ab aa ac)
      | (at_builtin;refine Qad _ rfl (.tmp 26) (.tmp 28) 39 rfl w.heap.size 33 i0 (.int .u64 0) 1 8 underlying39 hi ag af ae rfl oF _ _ _ rfl (QaX O1 bAA) (some ⟨w1.heap.size,0,none⟩) 1 1 [.int .u64 a] rfl rfl (fun e=>by cases e) (fun ad e=>by cases e;exact Qav (cs:=#[.int .u64 a]) rfl) (QaZ .u64 [a]) oC oB oI ?_;intro v2 w2 ab aa ac;obtain ⟨al,c2,rfl⟩:=Qan ab;have O2:=Qaa ab;have B2:=Qaa ((B1.alloc B1.size _).grown aa oI (fun j hj=>Qa9 O1 j hj));have x0:=Qab B2 aj;clear ab aa ac)
      | (at_builtin;refine Qad _ rfl (.tmp 44) (.tmp 47) 39 rfl w.heap.size 33 i0 (.int .u64 0) 1 8 underlying39 hi ag af ae rfl oF _ _ _ rfl O2 (some ⟨b,ah+k,none⟩) (n - k) (c - k) ((L.drop k:List Int).map (Value.int .u64)) rfl oY (fun e=>by cases e) (QbI (QhQ (Qak HA B2) k)) (QaZ _ _) oC oB (oA B2.size) ?_;intro v3 w3 ab aa ac;obtain ⟨am,c3,rfl⟩:=Qan ab;have O3:=Qaa ab;have B3:=Qaa (B2.grown aa B2.size (fun j hj=>Qa9 O2 j hj));clear ab aa ac))
     all_goals
      go_ret;refine ⟨_,rfl,?_,B3⟩
      have el:(QcC L a).length=k+1+(n - k):=by
       rw [HE.out];exact mA0
      exact mB4
  ·have aq:k=n:=by omega
   subst aq;have HK:Hid (QfY L a k):=Qaa (⟨by have:=HN.out;omega,HF,fun z hz=>absurd (ZZd.1 hz).1 (oA HN.out)⟩)
   have HE:Hid (QcC L a=L ++ [a] ++ []):=(by
    rw [QiH L k HK.out (fun z hz=>absurd (List.getElem?_eq_some_iff.1 hz).1 (oA HN.out)),List.take_of_length_le (oA HN.out),List.drop_eq_nil_of_le (oA HN.out)];exact Qaa rfl)
   clear HK HF;rcases aC.out with rfl | ⟨b,ah,rfl⟩
   ·have h0:c=0:=az.out rfl
    subst h0;have ay:k=0:=oB
    subst ay
    go_wp2_with (first
     | (at_builtin;refine Qad _ rfl (.tmp 21) (.tmp 24) 39 rfl w.heap.size 33 i0 (.int .u64 0) 1 8 underlying39 hi ag af ae rfl oF _ _ _ rfl (World.ownsRow_made _ #[] 0 (Nat.le_refl _) (Nat.zero_le _) rfl) (none) 0 0 ((L).map (Value.int .u64)) rfl xG (fun e=>⟨rfl,rfl⟩) (QbI (Qak HA bAA)) (QaZ _ _) oC oB oE ?_;intro v1 w1 ab aa ac;simp only [Nat.zero_add,List.nil_append] at ab;obtain ⟨an,c1,rfl⟩:=Qan ab;have O1:=Qaa ab;have B1:=Qaa (((Below.refl w.heap.size w).alloc (Nat.le_refl _) _).grown aa oE (fun j hj=>by cases hj;exact Nat.le_refl _));clear ab aa ac)
     | (at_builtin;refine Qad _ rfl (.tmp 26) (.tmp 28) 39 rfl w.heap.size 33 i0 (.int .u64 0) 1 8 underlying39 hi ag af ae rfl oF _ _ _ rfl (QaX O1 bAA) (some ⟨w1.heap.size,0,none⟩) 1 1 [.int .u64 a] rfl rfl (fun e=>by cases e) (fun ad e=>by cases e;exact Qav (cs:=#[.int .u64 a]) rfl) (QaZ .u64 [a]) oC oB oI ?_;intro v2 w2 ab aa ac;obtain ⟨al,c2,rfl⟩:=Qan ab;have O2:=Qaa ab;have B2:=Qaa ((B1.alloc B1.size _).grown aa oI (fun j hj=>Qa9 O1 j hj));clear ab aa ac)
     | (at_builtin;refine Qad _ rfl (.tmp 44) (.tmp 47) 39 rfl w.heap.size 33 i0 (.int .u64 0) 1 8 underlying39 hi ag af ae rfl oF _ _ _ rfl O2 (none) 0 0 (([]:List Int).map (Value.int .u64)) rfl rfl (fun e=>⟨rfl,rfl⟩) (fun A _ j z hz=>by simp at hz) (QaZ _ _) oC oB (oA B2.size) ?_;intro v3 w3 ab aa ac;obtain ⟨am,c3,rfl⟩:=Qan ab;have O3:=Qaa ab;have B3:=Qaa (B2.grown aa B2.size (fun j hj=>Qa9 O2 j hj));clear ab aa ac))
    all_goals
     go_ret;refine ⟨_,rfl,?_,B3⟩
     have el:(QcC L a).length=0+1+0:=by
      rw [HE.out];exact mA0
     exact mB4
   ·by_cases av:c=k
    ·subst av
     go_wp2_with (first
      | (at_builtin;refine Qad _ rfl (.tmp 21) (.tmp 24) 39 rfl w.heap.size 33 i0 (.int .u64 0) 1 8 underlying39 hi ag af ae rfl oF _ _ _ rfl (World.ownsRow_made _ #[] 0 (Nat.le_refl _) (Nat.zero_le _) rfl) (some ⟨b,ah,none⟩) c c ((L).map (Value.int .u64)) rfl xG (fun e=>by cases e) (QbI (Qak HA bAA)) (QaZ _ _) oC oB oE ?_;intro v1 w1 ab aa ac;simp only [Nat.zero_add,List.nil_append] at ab;obtain ⟨an,c1,rfl⟩:=Qan ab;have O1:=Qaa ab;have B1:=Qaa (((Below.refl w.heap.size w).alloc (Nat.le_refl _) _).grown aa oE (fun j hj=>by cases hj;exact Nat.le_refl _));clear ab aa ac)
      | (at_builtin;refine Qad _ rfl (.tmp 26) (.tmp 28) 39 rfl w.heap.size 33 i0 (.int .u64 0) 1 8 underlying39 hi ag af ae rfl oF _ _ _ rfl (QaX O1 bAA) (some ⟨w1.heap.size,0,none⟩) 1 1 [.int .u64 a] rfl rfl (fun e=>by cases e) (fun ad e=>by cases e;exact Qav (cs:=#[.int .u64 a]) rfl) (QaZ .u64 [a]) oC oB oI ?_;intro v2 w2 ab aa ac;obtain ⟨al,c2,rfl⟩:=Qan ab;have O2:=Qaa ab;have B2:=Qaa ((B1.alloc B1.size _).grown aa oI (fun j hj=>Qa9 O1 j hj));clear ab aa ac)
      | (at_builtin;refine Qad _ rfl (.tmp 44) (.tmp 47) 39 rfl w.heap.size 33 i0 (.int .u64 0) 1 8 underlying39 hi ag af ae rfl oF _ _ _ rfl O2 (_) 0 _ (([]:List Int).map (Value.int .u64)) rfl rfl (fun e=>by cases e) (fun A _ j z hz=>by simp at hz) (QaZ _ _) oC oB (oA B2.size) ?_;intro v3 w3 ab aa ac;obtain ⟨am,c3,rfl⟩:=Qan ab;have O3:=Qaa ab;have B3:=Qaa (B2.grown aa B2.size (fun j hj=>Qa9 O2 j hj));clear ab aa ac))
     all_goals
      go_ret;refine ⟨_,rfl,?_,B3⟩
      have el:(QcC L a).length=c+1+0:=by
       rw [HE.out];exact mA0
      exact mB4
    ·go_wp2_with (first
      | (at_builtin;refine Qad _ rfl (.tmp 21) (.tmp 24) 39 rfl w.heap.size 33 i0 (.int .u64 0) 1 8 underlying39 hi ag af ae rfl oF _ _ _ rfl (World.ownsRow_made _ #[] 0 (Nat.le_refl _) (Nat.zero_le _) rfl) (some ⟨b,ah,none⟩) k c ((L).map (Value.int .u64)) rfl xG (fun e=>by cases e) (QbI (Qak HA bAA)) (QaZ _ _) oC oB oE ?_;intro v1 w1 ab aa ac;simp only [Nat.zero_add,List.nil_append] at ab;obtain ⟨an,c1,rfl⟩:=Qan ab;have O1:=Qaa ab;have B1:=Qaa (((Below.refl w.heap.size w).alloc (Nat.le_refl _) _).grown aa oE (fun j hj=>by cases hj;exact Nat.le_refl _));clear ab aa ac)
      | (at_builtin;refine Qad _ rfl (.tmp 26) (.tmp 28) 39 rfl w.heap.size 33 i0 (.int .u64 0) 1 8 underlying39 hi ag af ae rfl oF _ _ _ rfl (QaX O1 bAA) (some ⟨w1.heap.size,0,none⟩) 1 1 [.int .u64 a] rfl rfl (fun e=>by cases e) (fun ad e=>by cases e;exact Qav (cs:=#[.int .u64 a]) rfl) (QaZ .u64 [a]) oC oB oI ?_;intro v2 w2 ab aa ac;obtain ⟨al,c2,rfl⟩:=Qan ab;have O2:=Qaa ab;have B2:=Qaa ((B1.alloc B1.size _).grown aa oI (fun j hj=>Qa9 O1 j hj));clear ab aa ac)
      | (at_builtin;refine Qad _ rfl (.tmp 44) (.tmp 47) 39 rfl w.heap.size 33 i0 (.int .u64 0) 1 8 underlying39 hi ag af ae rfl oF _ _ _ rfl O2 (_) 0 _ (([]:List Int).map (Value.int .u64)) rfl rfl (fun e=>by cases e) (fun A _ j z hz=>by simp at hz) (QaZ _ _) oC oB (oA B2.size) ?_;intro v3 w3 ab aa ac;obtain ⟨am,c3,rfl⟩:=Qan ab;have O3:=Qaa ab;have B3:=Qaa (B2.grown aa B2.size (fun j hj=>Qa9 O2 j hj));clear ab aa ac))
     all_goals
      go_ret;refine ⟨_,rfl,?_,B3⟩
      have el:(QcC L a).length=k+1+0:=by
       rw [HE.out];exact mA0
      exact mB4
end
section
theorem Qjm:∀ {m l:List Int},(l ++ m).Pairwise (· < ·)->Qka l m=l ++ m
 | [],l,_=>by simp [Qka]
 | x :: m,l,h=>by
  have hi:QcC l x=l ++ [x]:=by
   have hl:∀ y∈l,y<x:=fun y hy=>(List.pairwise_append.1 h).2.2 y hy x oE;clear h
   induction l with
   | nil=>rfl
   | cons y r ih=>rw [QcC,if_pos (hl y oE),ih (fun z hz=>hl z (by simp [hz]))];rfl
  show Qka (QcC l x) m=_
  rw [hi,Qjm oU];simp
theorem Qgd:∀ {L:List Int},upN L=true->L.Pairwise (· < ·)
 | [],_=>List.Pairwise.nil
 | [x],_=>by simp
 | x :: y :: r,h=>by
  simp only [upN,yB,decide_eq_true_eq] at h;have ih:=Qgd h.2;refine List.pairwise_cons.2 ⟨fun z hz=>?_,ih⟩;rcases List.mem_cons.1 hz with rfl | hz
  ·exact h.1
  ·have:=(List.pairwise_cons.1 ih).1 z hz;omega
theorem Qjl (h:upN E=true) (x:Int):QnN E [x]=QcC E x:=by
 unfold QnN;rw [Qjm (l:=[]) (by simpa using Qgd h)];rfl
theorem Qub (hE:E=[]) (h64:R.length=64) (h:Laid (Qil R) (·∈[x]) R'):Mg E R [x] [] [] R':=by
 subst hE;refine .inr ⟨fun k=>by omega,rfl,?_⟩;rw [List.length_nil,Qji];exact h.iff (fun y=>by simp [QnN,Qka,QcC])
theorem QrG (hu:upN E=true) (h40:¬ (QcC E x).length<=40) (h:Laid (Qil []) (·∈QcC E x) R'):Mg E [] [x] [] [] R':=by
 refine .inr ⟨fun k=>h40 (by rw [<- Qjl hu];exact k.2.2),rfl,?_⟩;rw [List.length_nil,Qji,Qjl hu];exact h
theorem Qu6 (hu:upN E=true) (h40:(QcC E x).length<=40):Mg E [] [x] [] (QcC E x) []:=
 .inl ⟨rfl,rfl,by rw [Qjl hu];exact h40,(Qjl hu x).symm,rfl⟩
theorem Qkq (h:hlB E R=true):(R=[]/\upN E=true)∨(R.length=64/\E=[]):=by
 unfold hlB at h
 split at h
 ·rename_i h0
  unfold exB at h;simp only [yB,decide_eq_true_eq] at h;exact .inl ⟨List.eq_nil_of_length_eq_zero h0,h.2⟩
 ·unfold Qhv at h
  simp only [yB,decide_eq_true_eq] at h;exact .inr ⟨h.2.1,List.eq_nil_of_length_eq_zero h.1⟩
theorem QsO {ea:Option Addr} (x:Int) (hb:hlB E R=true) (h1:E.length=n) (h2:R.length=m) (hcap:n<=c) (hcm:c<=maxLen) (f1:Qrm ea) (c1:ea=none->c=0) (hE:QaE .u64 w ea E) (hR:QaE .i64 w ra R) (u1:∀ y∈E,U64 y) (ux:U64 x) :
  Calls prog 146 #[.agg #[.slice ea n c,.slice ra m d],.int .u64 x] w fun e w'=>∃ v E' R',e=.returned v/\Mg E R [x] [] E' R'/\QvN w' w.heap.size v E' R'/\Bw w w':=by
 have HE:=Qaa hE;have HR:=Qaa hR;have F1:=Qaa f1;have C1:=Qaa c1;have H1:=Qaa h1;have H2:=Qaa h2;have U1:=Qaa u1;have UX:=Qaa ux;have ag:Hid (∀ o1 o2,Bw w ((w.alloc o1).alloc o2)):=fun o1 o2=>((Below.refl _ _).alloc (Nat.le_refl _) _).alloc oE _;have HL:=Qaa (Qi5 hb);have HP:=Qaa (Qkq hb)
 have HC:Hid (∀ W,Below (w.heap.size+1+1) ((w.alloc (.cells #[.slice ea n c,.slice ra m d] 42)).alloc (.cells #[.slice none 0 0,.slice none 0 0] 42)) W->Qce W w.heap.size (.slice ea n c) (.slice ra m d)/\W.heap[w.heap.size+1]?=some (.cells #[.slice none 0 0,.slice none 0 0] 42 (0,0))/\Bw w W):=fun W h=>by
  obtain ⟨q1,q2⟩:=Qjq w _ _ _ _ _ _ W oU;exact ⟨q1,q2,(ag.out _ _).trans (h.mono oB)⟩
 have aA:n<=40:=by have:=HL.1;have:=H1.out;omega
 clear hE hR f1 c1 h1 h2 u1 ux hb;rcases HP.out with ⟨al,ar⟩ | ⟨af,an⟩
 ·have ah:m=0:=by rw [<- H2.out,al];rfl
  subst ah;subst al;have ao:=Qaa ar;clear ar HP;go_enter func146,ntmps146;go_wp2_with fail;refine (Qpx x H1 oB hcap hcm F1 C1 (Qak HE (ag.out _ _))).mono ?_;rintro e w1 ⟨v1,rfl,o1,ai⟩;obtain ⟨⟨x0,x1⟩,r1,t1⟩:=HC.out w1 (by simpa [Bw] using ai);have av:=ai.size;simp only [World.size_alloc] at o1 av;obtain ⟨k,hk⟩:∃ k,(QcC E x).length=k:=⟨_,rfl⟩;obtain ⟨aH,q1,rfl⟩:=Qan o1;obtain ⟨aq,ay,_,aG,az,_⟩:=QmP o1;have aw:=Qaa o1;have am:=Qaa t1;have ae:=Qaa r1;have aF:=Qaa aq;have aE:k<=41:=by have:=Qki E x;have:=H1.out;omega
  have HK:=Qaa hk;rw [hk];clear o1 t1 r1 ai aq ay aG az hk;have q0:w1.cell? ⟨w.heap.size+1,0,none⟩=some (.slice none 0 0):=by rw [cell_of_row _ _ 0 _ _ (0,0) ae.out];rfl
  have ad:w1.cell? ⟨w.heap.size+1,1,none⟩=some (.slice none 0 0):=by rw [cell_of_row _ _ 1 _ _ (0,0) ae.out];rfl
  have f0:=fzR 0 ae;have f1:=fzR 1 ae;by_cases ap:k<=40
  ·have ak:¬ (40:Int)<(k:Int):=by omega
   have HM:Hid (Mg E [] [x] [] (QcC E x) []):=Qu6 ao (by rw [HK.out];exact ap);go_wp2;refine bodyPost_ret (v:=.agg #[.slice aH k q1,.slice none 0 0]) (by simp [results,results146,go_sem,q0,ad]) rfl ⟨_,_,[],rfl,HM,⟨_,_,rfl,?_,World.ownsRow_nil _ _ _ _⟩,?_⟩
   ·refine Qbu (B:=w.heap.size+1+1) ?_ oB
    repeat (refine ownsRow_setCell_below ?_ oE _)
    rw [<- HK.out];exact aw.out
   ·exact (am.setCell oE _).setCell oE _
  ·have ak:(40:Int)<(k:Int):=by omega
   have aC:Hid (∀ R',Laid (Qil []) (·∈QcC E x) R'->Mg E [] [x] [] [] R'):=fun R' h=>QrG ao (by rw [HK.out];exact ap) h
   have aD:Hid (∀ y∈QcC E x,U64 y):=fun y hy=>by
    rcases (Qge y E x).1 hy with rfl | h
    ·exact UX.out
    ·exact U1.out y h
   clear q0 ad f0 f1;go_wp2_with fail;refine (Qko (R:=[]) rfl HK (.inl rfl) oB (fun h=>by simp at h) aF aD).mono ?_;rintro e w2 ⟨g,R',rfl,hL,aa,ac⟩;have r2:=(ac.block (w.heap.size+1) oB).trans ae;have q0:w2.cell? ⟨w.heap.size+1,0,none⟩=some (.slice none 0 0):=by rw [cell_of_row _ _ 0 _ _ (0,0) r2];rfl
   have ad:w2.cell? ⟨w.heap.size+1,1,none⟩=some (.slice none 0 0):=by rw [cell_of_row _ _ 1 _ _ (0,0) r2];rfl
   have f0:=fzR 0 r2;have f1:=fzR 1 r2;have HM:=Qaa (aC.out R' hL);have aj:=Qaa (Qac am ac);have ab:=Qaa aa;clear hL aa ac r2;go_wp2;refine bodyPost_ret (v:=.agg #[.slice none 0 0,.slice (some ⟨g,0,none⟩) 64 64]) (by simp [results,results146,go_sem,q0,ad]) rfl ⟨_,[],R',rfl,HM,⟨_,_,rfl,World.ownsRow_nil _ _ _ _,?_⟩,?_⟩
   ·refine Qbu (B:=w1.heap.size) ?_ oB
    repeat (refine ownsRow_setCell_below ?_ oH _)
    rw [ab.1];exact ab.2
   ·exact (aj.setCell oE _).setCell oE _
 ·have ah:m=64:=by rw [<- H2.out,af]
  subst ah;have ax:=Qaa af;have au:=Qaa an;clear af an HP
  have aB:Hid (∀ (W:World) (g:Nat),W.heap.size=g->QaE .u64 (W.alloc (.cells #[.int .u64 x] 33)) (some ⟨g,0,none⟩) [x]):=(fun W g e _=>⟨g,0,rfl,fun i y hy=>by
   subst e
   cases i with
   | zero=>simp at hy;subst hy;exact QpS _ _ _
   | succ i=>simp at hy⟩)
  go_enter func146,ntmps146;go_wp2_with fail;refine (Qko (E:=[x]) H2 rfl (.inr rfl) oE (Qak HR ((ag.out _ _).alloc oH _)) (aB.out _ _ oE) (by intro y hy;simp at hy;subst hy;exact UX.out)).mono ?_;rintro e w2 ⟨g,R',rfl,hL,aa,ac⟩;obtain ⟨_,r2,t2⟩:=HC.out w2 (((Below.refl _ _).alloc oE _).trans (ac.mono oE));have q0:w2.cell? ⟨w.heap.size+1,0,none⟩=some (.slice none 0 0):=by rw [cell_of_row _ _ 0 _ _ (0,0) r2];rfl
  have ad:w2.cell? ⟨w.heap.size+1,1,none⟩=some (.slice none 0 0):=by rw [cell_of_row _ _ 1 _ _ (0,0) r2];rfl
  have f0:=fzR 0 r2;have f1:=fzR 1 r2;have HM:=Qaa (Qub au ax hL);have aj:=Qaa t2;simp only [World.size_alloc] at aa;have ab:=Qaa aa;clear hL aa ac r2 t2;go_wp2;refine bodyPost_ret (v:=.agg #[.slice none 0 0,.slice (some ⟨g,0,none⟩) 64 64]) (by simp [results,results146,go_sem,q0,ad]) rfl ⟨_,[],R',rfl,HM,⟨_,_,rfl,World.ownsRow_nil _ _ _ _,?_⟩,?_⟩
  ·refine Qbu (B:=w.heap.size+1+1) ?_ oB
   repeat (refine ownsRow_setCell_below ?_ oE _)
   rw [ab.1];exact Qbu ab.2 oB
  ·exact (aj.setCell oE _).setCell oE _
end
section
def mxx (A B:List Int):List Int:=mxL A B 64
theorem QkF (A B:List Int):(mxx A B).length=A.length:=QlH _ _ _
theorem Qnh {B:List Int} (hA:A.length=64) (i:Nat) (hi:i<64):(mxx A B).getD i 0=max (A.getD i 0) (B.getD i 0):=by
 unfold mxx;rw [QvC A B 64 i oB,if_pos hi]
def Qfo (B:List Int):Prop:=B.length=64/\∀ i,i<64->0<=B.getD i 0/\B.getD i 0<=55
theorem Laid.ok {B:List Int} (b:Qfo B) (h:Laid B S R):Qfo R:=⟨by rw [h.1];exact b.1,fun i hi=>by
 obtain ⟨h1,h2,h3⟩:=h.2 i (by rw [b.1];exact hi);have:=b.2 i hi;rcases h3 with h3 | ⟨x,_,_,h3⟩
 ·omega
 ·have:=QuV x;omega⟩
theorem Laid.two {A' B B':List Int} (a:Qfo A) (b:Qfo B) (h:Laid A S A') (g:Laid B T B') (hU:∀ x,U x↔S x∨T x):Laid (mxx A B) U (mxx A' B'):=by
 have a':=h.ok a;have b':=g.ok b;refine ⟨by rw [QkF,QkF,a.1,a'.1],fun i hi=>?_⟩;have hi:i<64:=by rw [QkF,a.1] at hi;exact hi
 obtain ⟨h1,h2,h3⟩:=h.2 i (by rw [a.1];exact hi);obtain ⟨g1,g2,g3⟩:=g.2 i (by rw [b.1];exact hi);rw [Qnh a.1 i hi,Qnh a'.1 i hi];refine ⟨by omega,fun x hx hr=>?_,?_⟩
 ·rcases (hU x).1 hx with hx | hx
  ·have:=h2 x hx hr;omega
  ·have:=g2 x hx hr;omega
 ·by_cases q:B'.getD i 0<=A'.getD i 0
  ·rcases h3 with h3 | ⟨x,hx,hr,h3⟩
   ·exact .inl oB
   ·exact .inr ⟨x,(hU x).2 (.inl hx),hr,by omega⟩
  ·rcases g3 with g3 | ⟨x,hx,hr,g3⟩
   ·exact .inl oB
   ·exact .inr ⟨x,(hU x).2 (.inr hx),hr,by omega⟩
end
section
def Qbb (a b:Int):Int:=if 18446744073709551615<a+b then 18446744073709551615 else a+b
theorem Qpp {a b:Int} (h:a=b):Ending.returned (.int .u64 a)=.returned (.int .u64 b):=by rw [h]
theorem Qb7 (a b:Int) (ha:U64 a) (hb:U64 b) (w:World) :
  Calls prog 107 #[.int .u64 a,.int .u64 b] w fun e w'=>e=.returned (.int .u64 (Qbb a b))/\w'=w:=by
 have Ha:Hid (U64 a):=ha;have Hb:Hid (U64 b):=hb;clear ha hb;go_enter func107,ntmps107;go_wp2
 ·have h:=‹IntKind.u64.wrap (a+b)<a›
  have ha:=Ha.out;have hb:=Hb.out;go_ret;refine ⟨Qpp ?_,rfl⟩;rw [IntKind.wrap_u64] at h;unfold U64 at ha hb;unfold Qbb;rw [if_pos oB]
 ·have h:=‹a<=IntKind.u64.wrap (a+b)›
  have ha:=Ha.out;have hb:=Hb.out;go_ret;refine ⟨Qpp ?_,rfl⟩;rw [IntKind.wrap_u64] at h ⊢; unfold U64 at ha hb;unfold Qbb;rw [if_neg oB];omega
end
section
abbrev QvU (w:World) (g:Nat) (a u:Int):Prop:=w.cell? ⟨g,0,none⟩=some (.int .i64 a)/\w.cell? ⟨g,1,none⟩=some (.int .u64 u)
theorem bc_new (w:World) (t:TypeId) (a u:Int):QvU (w.alloc (.cells #[.int .i64 a,.int .u64 u] t)) w.heap.size a u:=by
 have hb:=ZZk w (.cells #[.int .i64 a,.int .u64 u] t);exact mDf
end
section
theorem QoX {α:Type} {e:α->List Value} (he:∀ x,(e x).length=2):∀ (L:List α) (i:Nat),fl e (L.drop i)=(fl e L).drop (i*2)
 | [],i=>by simp [fl]
 | x :: L,0=>by simp [fl]
 | x :: L,i+1=>by
  rw [List.drop_succ_cons,QcT,QoX he L i,List.drop_append,he,show List.drop ((i+1)*2) (e x)=[] from List.drop_of_length_le xH,show (i+1)*2 - 2=i*2 by omega];rfl
end
section
theorem QiQ {a b:Int} (ha:U64 a) (hb:U64 b):U64 (Qbb a b):=by unfold Qbb;unfold U64 at *; split <;> omega
end
section
def Qdi (x:Int) (L:List Bn):Int:=L.foldl (fun s y=>Qbb s y.2) x
theorem Qnv {x:Int} (hx:U64 x):∀ {L:List Bn},(∀ y∈L,Qb4 y)->U64 (Qdi x L)
 | [],_=>hx
 | y :: r,h=>by
  have hy:=(h y (List.mem_cons_self ..)).2;have:U64 (Qbb x y.2):=by unfold Qbb;unfold U64 at *; split <;> omega
  exact Qnv this (fun z hz=>h z (ZZm _ hz))
theorem QnK {L:List Bn} {j:Nat} {y:Bn} (h:L[j]?=some y):Qdi x (L.take (j+1))=Qbb (Qdi x (L.take j)) y.2:=by
 rw [List.take_add_one,h];simp [Qdi,List.foldl_append]
def Qbe (L:List Bn):List Bn:=if L.length<=30 then L else match L.drop (L.length - 30) with
 | []=>[]
 | x :: r=>(x.1,Qdi x.2 (L.take (L.length - 30))) :: r
theorem Qr3 {L:List Bn} {x:Bn} (h:L[k]?=some x):L.set k x=L:=by
 refine List.ext_getElem? fun j=>?_;by_cases e:k=j
 ·subst e;rw [List.getElem?_set_self (List.getElem?_eq_some_iff.1 h).1,h]
 ·rw [List.getElem?_set_ne e]
end
variable {N P a b:List Bn}
section
def mrg:List Bn->List Bn->List Bn
 | [],b=>b
 | x :: a,[]=>x :: a
 | x :: a,y :: b=>if x.1<y.1 then x :: mrg a (y :: b) else if y.1<x.1 then y :: mrg (x :: a) b else (x.1,Qbb x.2 y.2) :: mrg a b
termination_by a b=>a.length+b.length
theorem Qdv (b:List Bn):mrg [] b=b:=by rw [mrg]
theorem QbU (a:List Bn):mrg a []=a:=by cases a <;> rw [mrg]
theorem Qh7 {x y:Bn} (h:x.1<y.1):mrg (x :: a) (y :: b)=x :: mrg a (y :: b):=by rw [mrg,if_pos h]
theorem Qkg {x y:Bn} (h:y.1<x.1):mrg (x :: a) (y :: b)=y :: mrg (x :: a) b:=by rw [mrg,if_neg oB,if_pos h]
theorem Qj4 {x y:Bn} (h:x.1=y.1):mrg (x :: a) (y :: b)=(x.1,Qbb x.2 y.2) :: mrg a b:=by rw [mrg,if_neg oB,if_neg oB]
theorem Qii {x:Bn} (hx:P[i]?=some x) (h:k=N.length∨∃ y,N[k]?=some y/\x.1<y.1):mrg (P.drop i) (N.drop k)=x :: mrg (P.drop (i+1)) (N.drop k):=by
 have hi:=(ZZd.1 hx).1;rw [List.drop_eq_getElem_cons hi,(List.getElem?_eq_some_iff.1 hx).2];rcases h with rfl | ⟨y,hy,aa⟩
 ·rw [List.drop_length,QbU,QbU]
 ·have hk:=(ZZd.1 hy).1
  rw [List.drop_eq_getElem_cons hk,(List.getElem?_eq_some_iff.1 hy).2,Qh7 aa]
theorem Qij {y:Bn} (hy:N[k]?=some y) (h:i=P.length∨∃ x,P[i]?=some x/\y.1<x.1):mrg (P.drop i) (N.drop k)=y :: mrg (P.drop i) (N.drop (k+1)):=by
 have hk:=(ZZd.1 hy).1;rw [List.drop_eq_getElem_cons hk,(List.getElem?_eq_some_iff.1 hy).2];rcases h with rfl | ⟨x,hx,aa⟩
 ·rw [List.drop_length,Qdv,Qdv]
 ·have hi:=(ZZd.1 hx).1
  rw [List.drop_eq_getElem_cons hi,(List.getElem?_eq_some_iff.1 hx).2,Qkg aa]
theorem Qor {x y:Bn} (hx:P[i]?=some x) (hy:N[k]?=some y) (h:x.1=y.1):mrg (P.drop i) (N.drop k)=(x.1,Qbb x.2 y.2) :: mrg (P.drop (i+1)) (N.drop (k+1)):=by
 have hi:=(ZZd.1 hx).1;have hk:=(ZZd.1 hy).1;rw [List.drop_eq_getElem_cons hi,(List.getElem?_eq_some_iff.1 hx).2,List.drop_eq_getElem_cons hk,(List.getElem?_eq_some_iff.1 hy).2,Qj4 h]
end
section
theorem QgW (R:List Bn) (x:Bn):fl QcQ R ++ QcQ x=fl QcQ (R ++ [x]):=by rw [Qip,Qrq]
theorem QsD {B:Nat} {T:TypeId} {v:Value} {xs:List Value} (h:w.ownsRow B T s v n xs) (hv:v≠.slice none 0 0):∃ g c,v=.slice (some ⟨g,0,none⟩) n c:=by
 rcases h.2 with ⟨e,_⟩ | ⟨g,c,_,e,_⟩
 ·exact absurd e hv
 ·exact ⟨g,c,e⟩
theorem mrg_ok (ha:∀ x∈a,Qb4 x) (hb:∀ x∈b,Qb4 x):∀ z∈mrg a b,Qb4 z:=by
 induction a,b using mrg.induct with
 | case1 b=>rw [Qdv];exact hb
 | case2 x a=>rw [QbU];exact ha
 | case3 x a y b h ih=>
  rw [Qh7 h];intro z hz;rcases List.mem_cons.1 hz with rfl | hz
  ·exact ha _ (List.mem_cons_self ..)
  ·exact ih (fun q hq=>ha q (ZZm _ hq)) hb z hz
 | case4 x a y b h h2 ih=>
  rw [Qkg h2];intro z hz;rcases List.mem_cons.1 hz with rfl | hz
  ·exact hb _ (List.mem_cons_self ..)
  ·exact ih ha (fun q hq=>hb q (ZZm _ hq)) z hz
 | case5 x a y b h h2 ih=>
  rw [Qj4 oB];intro z hz;rcases List.mem_cons.1 hz with rfl | hz
  ·exact ⟨(ha x (List.mem_cons_self ..)).1,QiQ (ha x (List.mem_cons_self ..)).2 (hb y (List.mem_cons_self ..)).2⟩
  ·exact ih (fun q hq=>ha q (ZZm _ hq)) (fun q hq=>hb q (ZZm _ hq)) z hz
theorem QnQ {R:List Bn} (h:s<R.length):(fl QcQ (R.set s (p,x))).set (s*2+1) (.int .u64 y)=fl QcQ (R.set s (p,y)):=by
 have hl:s<(R.set s (p,x)).length:=by rw [List.length_set];exact h
 have h1:=Qp2 (u:=.int .i64 p) (v:=.int .u64 y) Qd4 (R.set s (p,x)) s (p,y) hl rfl;rw [List.set_set] at h1;rw [<- h1]
 congr 1
 have h0:(fl QcQ (R.set s (p,x)))[s*2]?=some (.int .i64 p):=by
  have:=Qd6 Qd4 (R.set s (p,x)) s (p,x) 0 oB (by simp [h]);exact mDs
 refine List.ext_getElem? fun j=>?_;by_cases e:s*2=j
 ·subst e;rw [List.getElem?_set_self (List.getElem?_eq_some_iff.1 h0).1,h0]
 ·rw [List.getElem?_set_ne e]
theorem Qst {R:List Bn} {x0:Int} (hq:R.length=s+30) (hs:0<s) (h:R[s]?=some (p,x0)):Qbe R=(R.set s (p,Qdi x0 (R.take s))).drop s:=by
 have aa:=(ZZd.1 h).1;unfold Qbe;rw [if_neg oB,show R.length - 30=s by omega,List.drop_eq_getElem_cons aa]
 have hd:(R.set s (p,Qdi x0 (R.take s))).drop s=(p,Qdi x0 (R.take s)) :: R.drop (s+1):=by
  rw [List.drop_eq_getElem_cons (by rw [List.length_set];exact aa)];rw [show (R.set s (p,Qdi x0 (R.take s))).drop (s+1)=R.drop (s+1) from List.ext_getElem? fun q=>by rw [List.getElem?_drop,List.getElem?_drop,List.getElem?_set_ne oB]];simp
 rw [hd,(List.getElem?_eq_some_iff.1 h).2]
theorem QeJ {bo:Option Addr} (c c' m n:Nat) (hm:P.length=m) (hn:N.length=n) (lm:m<=30) (ln:n<=30) (hA:QaR w ao P) (hB:QaR w bo N) (kA:∀ x∈P,Qb4 x) (kB:∀ x∈N,Qb4 x) :
  Calls prog 167 #[.slice ao m c,.slice bo n c'] w fun e w'=>∃ v' n',e=.returned v'/\w'.ownsRow w.heap.size 218 2 v' n' (fl QcQ (Qbe (mrg P N)))/\n'=(Qbe (mrg P N)).length/\Bw w w':=by
 obtain ⟨i0,hi,aA,ax,ay⟩:=info_parts Qle;have HA:=Qaa hA;have aZ:=Qaa hB;have KA:=Qaa kA;have KB:=Qaa kB;have EM:=Qaa hm;have EN:=Qaa hn;clear hA hB kA kB hm hn;go_enter func167,ntmps167;go_wp2
 go_loopw [5,6,7] (fun v s t wr=>∃ (i k:Nat) (R:List Bn),i<=m/\k<=n/\s=.int .i64 i/\t=.int .i64 k/\v≠.slice none 0 0/\R.length<=i+k/\wr.ownsRow w.heap.size 218 2 v R.length (fl QcQ R)/\Hid (R ++ mrg (P.drop i) (N.drop k)=mrg P N)/\Bw w wr) (fun v s t wr=>(m - (RowKit.intOf s).toNat)+(n - (RowKit.intOf t).toNat))
 case atStart=>exact ⟨0,0,[],ZZj _,ZZj _,rfl,rfl,(fun e=>by cases e),ZZa _,World.ownsRow_made w #[] 0 (ZZa _) (ZZj _) rfl,(rfl:[] ++ mrg (P.drop 0) (N.drop 0)=mrg P N),(ZZb _ _).alloc (ZZa _) _⟩
 case round=>
  obtain ⟨i,k,R,bc,a7,rfl,rfl,hv,a3,ad,HR,ae⟩:=hrel;obtain ⟨g,cv,rfl⟩:=QsD ad hv;obtain ⟨q,hq⟩:∃ q,R.length=q:=⟨_,rfl⟩;rw [hq] at ad a3;rw [hq];have HQ:=Qaa hq;have HO:=Qaa ad;have HB:=Qaa ae;have aB:=Qaa (fun z=>(show (wr.drewN z).ownsRow w.heap.size 218 2 (.slice (some ⟨g,0,none⟩) q cv) q (fl QcQ R) from ad));have aw:=Qaa (fun z o=>((Qap ae z).alloc ae.size o:Bw w ((wr.drewN z).alloc o)));clear hq hv;have az:(i<m/\k=n)∨(i<m/\k<n)∨(i=m/\k<n)∨(i=m/\k=n):=oB
  rcases az with ⟨aD,aC⟩ | ⟨aD,aC⟩ | ⟨aD,aC⟩ | ⟨aD,aC⟩
  ·subst aC
   obtain ⟨⟨a,u⟩,ap⟩:∃ x,P[i]?=some x:=⟨P[i]'(oA EM.out),ZZe _⟩;obtain ⟨b,an,rfl,ag⟩:=HA.out (oA EM.out);have aj:=Qab ae (ag i _ ap).1;have ai:=Qab ae (ag i _ ap).2
   have HE:Hid ((R ++ [(a,u)]) ++ mrg (P.drop (i+1)) (N.drop k)=mrg P N):=by
    refine (?_:(R ++ [(a,u)]) ++ mrg (P.drop (i+1)) (N.drop k)=mrg P N);rw [<- HR.out,Qii ap (.inl EN.symm),List.append_assoc];rfl
   have d1:decide ((i:Int)<(m:Int))=true:=ZZh oB;clear ae ad ag ap;go_wp2
   go_quiet (fail)
   go_wp2_with (at_builtin;refine wpList_append_own _ rfl (.tmp 69) (.tmp 74) 36 rfl w.heap.size 218 i0 (.agg #[.int .i64 0,.int .u64 0]) 2 16 underlying36 hi aA ax ay rfl oF _ _ _ rfl ((aB.out _).alloc _) ⟨wr.heap.size,0,none⟩ 1 1 (QcQ (a,u)) rfl rfl (Qav (cs:=#[.int .i64 a,.int .u64 u]) rfl) (Qd2 _) oC oB oN ?_;intro v1 w1 ab aa ac;have O1:=Qaa ab;have B1:=Qaa ((aw.out _ _).grown aa oN (fun j hj=>(HO.lt j hj).1));have N1:=Qaa (show v1≠.slice none 0 0 from fun e=>by have:=(ac.1 e).2;omega);clear ab aa ac);go_roundw
   case rel=>exact ⟨i+1,k,R ++ [(a,u)],by omega,by omega,by go_num,rfl,N1,by simp;have:=HQ.out;omega,by have:=O1.out;rw [QgW] at this;simpa [HQ.out] using this,HE,B1⟩
   case measure=>simp [RowKit.intOf];omega
  ·obtain ⟨⟨a,u⟩,ap⟩:∃ x,P[i]?=some x:=⟨P[i]'(oA EM.out),ZZe _⟩
   obtain ⟨⟨a',u'⟩,av⟩:∃ x,N[k]?=some x:=⟨N[k]'(oA EN.out),ZZe _⟩;obtain ⟨b,an,rfl,ag⟩:=HA.out (oA EM.out);obtain ⟨b',al,rfl,af⟩:=aZ.out (oA EN.out);have aj:=Qab ae (ag i _ ap).1;have ai:=Qab ae (ag i _ ap).2;have a0:=Qab ae (af k _ av).1;have ah:=Qab ae (af k _ av).2;obtain ⟨_,hu⟩:=KA.out _ (ZZn ap);obtain ⟨_,aY⟩:=KB.out _ (ZZn av);simp only at hu aY;have d1:decide ((i:Int)<(m:Int))=true:=ZZh oB;have d2:((k:Int) == (n:Int))=false:=ZZf.2 oB;have d3:((i:Int) == (m:Int))=false:=ZZf.2 oB;have aK:=Qaa ap;have aG:=Qaa av;have aO:=Qaa (⟨(ag i _ ap).1,(ag i _ ap).2,(af k _ av).2⟩:w.cell? ⟨b,an+i*2,none⟩=some (.int .i64 a)/\w.cell? ⟨b,an+i*2+1,none⟩=some (.int .u64 u)/\w.cell? ⟨b',al+k*2+1,none⟩=some (.int .u64 u'));clear ae ad ag af ap av;have c3:a<a'∨(¬ a<a'/\a'<a)∨(¬ a<a'/\¬ a'<a):=oB
   rcases c3 with h1 | ⟨h1,h2⟩ | ⟨h1,h2⟩
   ·have HE:Hid ((R ++ [(a,u)]) ++ mrg (P.drop (i+1)) (N.drop k)=mrg P N):=by
     refine (?_:(R ++ [(a,u)]) ++ mrg (P.drop (i+1)) (N.drop k)=mrg P N);rw [<- HR.out,Qii aK.out (.inr ⟨_,aG.out,h1⟩),List.append_assoc];rfl
    have d4:decide (a<a')=true:=ZZh h1;go_wp2
    go_quiet (fail)
    go_wp2_with (at_builtin;refine wpList_append_own _ rfl (.tmp 69) (.tmp 74) 36 rfl w.heap.size 218 i0 (.agg #[.int .i64 0,.int .u64 0]) 2 16 underlying36 hi aA ax ay rfl oF _ _ _ rfl ((aB.out _).alloc _) ⟨wr.heap.size,0,none⟩ 1 1 (QcQ (a,u)) rfl rfl (Qav (cs:=#[.int .i64 a,.int .u64 u]) rfl) (Qd2 _) oC oB oN ?_;intro v1 w1 ab aa ac;have O1:=Qaa ab;have B1:=Qaa ((aw.out _ _).grown aa oN (fun j hj=>(HO.lt j hj).1));have N1:=Qaa (show v1≠.slice none 0 0 from fun e=>by have:=(ac.1 e).2;omega);clear ab aa ac);go_roundw
    case rel=>exact ⟨i+1,k,R ++ [(a,u)],by omega,by omega,by go_num,by go_num,N1,by simp;have:=HQ.out;omega,by have:=O1.out;rw [QgW] at this;simpa [HQ.out] using this,HE,B1⟩
    case measure=>simp [RowKit.intOf];omega
   ·have HE:Hid ((R ++ [(a',u')]) ++ mrg (P.drop i) (N.drop (k+1))=mrg P N):=by
     refine (?_:(R ++ [(a',u')]) ++ mrg (P.drop i) (N.drop (k+1))=mrg P N);rw [<- HR.out,Qij aG.out (.inr ⟨_,aK.out,h2⟩),List.append_assoc];rfl
    have d4:decide (a<a')=false:=ZZg h1;have d5:decide (a'<a)=true:=ZZh h2;go_wp2
    go_quiet (fail)
    go_wp2
    go_quiet (fail)
    go_wp2_with (at_builtin;refine wpList_append_own _ rfl (.tmp 96) (.tmp 101) 36 rfl w.heap.size 218 i0 (.agg #[.int .i64 0,.int .u64 0]) 2 16 underlying36 hi aA ax ay rfl oF _ _ _ rfl ((aB.out _).alloc _) ⟨wr.heap.size,0,none⟩ 1 1 (QcQ (a',u')) rfl rfl (Qav (cs:=#[.int .i64 a',.int .u64 u']) rfl) (Qd2 _) oC oB oN ?_;intro v1 w1 ab aa ac;have O1:=Qaa ab;have B1:=Qaa ((aw.out _ _).grown aa oN (fun j hj=>(HO.lt j hj).1));have N1:=Qaa (show v1≠.slice none 0 0 from fun e=>by have:=(ac.1 e).2;omega);clear ab aa ac);go_roundw
    case rel=>exact ⟨i,k+1,R ++ [(a',u')],by omega,by omega,by go_num,by go_num,N1,by simp;have:=HQ.out;omega,by have:=O1.out;rw [QgW] at this;simpa [HQ.out] using this,HE,B1⟩
    case measure=>simp [RowKit.intOf];omega
   ·have HE:Hid ((R ++ [(a,Qbb u u')]) ++ mrg (P.drop (i+1)) (N.drop (k+1))=mrg P N):=by
     refine (?_:(R ++ [(a,Qbb u u')]) ++ mrg (P.drop (i+1)) (N.drop (k+1))=mrg P N);rw [<- HR.out,Qor aK.out aG.out (by show a=a'; omega),List.append_assoc];rfl
    have d4:decide (a<a')=false:=ZZg h1;have d5:decide (a'<a)=false:=ZZg h2;go_wp2
    go_quiet (fail)
    go_wp2
    go_quiet (fail)
    go_wp2_with fail;have a9:=Qaa (fun (W:World) (hW:W.heap=wr.heap)=>(show W.ownsRow w.heap.size 218 2 (.slice (some ⟨g,0,none⟩) q cv) q (fl QcQ R) from by unfold World.ownsRow;rw [hW];exact HO.out));have ba:=Qaa (fun (W:World) (hW:W.heap=wr.heap) (h1:W.os=wr.os) (h2:W.tape=wr.tape) (h3:W.output=wr.output)=>(⟨h1.trans HB.os,h2.trans HB.tape,h3.trans HB.output,by rw [hW];exact HB.size,fun k hk=>by rw [hW];exact HB.block k hk⟩:Bw w W));refine Qal (fun W=>W.cell? ⟨b,an+i*2,none⟩=some (.int .i64 a)/\W.cell? ⟨b,an+i*2+1,none⟩=some (.int .u64 u)/\W.cell? ⟨b',al+k*2+1,none⟩=some (.int .u64 u')) 999 oG ?_;refine tkL 0 (.slice (some ⟨g,0,none⟩) q cv) ⟨aj,ai,ah⟩ (fun W hW=>?_) ?_
    ·exact mA4
    refine tkL 1 (.slice (some ⟨b,an,none⟩) m c) ⟨aj,ai,ah⟩ (fun W hW=>?_) ?_
    ·exact mA4
    refine tkL 2 (.int .i64 i) ⟨aj,ai,ah⟩ (fun W hW=>?_) ?_
    ·exact mA4
    simp only [sX];refine tkL 3 (.pointer (some ⟨b,an+i*2,none⟩)) ⟨aj,ai,ah⟩ (fun W hW=>?_) ?_
    ·exact mA4
    refine tkL 4 (.pointer (some ⟨b,an+i*2,none⟩)) ⟨aj,ai,ah⟩ (fun W hW=>?_) ?_
    ·exact mA4
    refine tkL 5 (.int .i64 a) ⟨aj,ai,ah⟩ (fun W hW=>?_) ?_
    ·exact mA4
    simp only [sX];refine tkL 6 (.slice (some ⟨b,an,none⟩) m c) ⟨aj,ai,ah⟩ (fun W hW=>?_) ?_
    ·exact mA4
    refine tkL 7 (.int .i64 i) ⟨aj,ai,ah⟩ (fun W hW=>?_) ?_
    ·exact mA4
    refine tkL 8 (.pointer (some ⟨b,an+i*2,none⟩)) ⟨aj,ai,ah⟩ (fun W hW=>?_) ?_
    ·exact mA4
    simp only [sX];refine tkL 9 (.pointer (some ⟨b,an+i*2+1,none⟩)) ⟨aj,ai,ah⟩ (fun W hW=>?_) ?_
    ·exact mA4
    refine tkL 10 (.int .u64 u) ⟨aj,ai,ah⟩ (fun W hW=>?_) ?_
    ·exact mA4
    refine tkL 11 (.slice (some ⟨b',al,none⟩) n c') ⟨aj,ai,ah⟩ (fun W hW=>?_) ?_
    ·exact mA4
    simp only [sX];refine tkL 12 (.int .i64 k) ⟨aj,ai,ah⟩ (fun W hW=>?_) ?_
    ·exact mA4
    refine tkL 13 (.pointer (some ⟨b',al+k*2,none⟩)) ⟨aj,ai,ah⟩ (fun W hW=>?_) ?_
    ·exact mA4
    refine tkL 14 (.pointer (some ⟨b',al+k*2+1,none⟩)) ⟨aj,ai,ah⟩ (fun W hW=>?_) ?_
    ·exact mA4
    simp only [sX];refine tkL 15 (.int .u64 u') ⟨aj,ai,ah⟩ (fun W hW=>?_) ?_
    ·exact mA4
    simp only [sX];refine onE 16 fun K hK=>?_;go_simp;refine (Qb7 _ _ hu aY _).mono ?_;rintro e w8 ⟨rfl,rfl⟩;dsimp only;refine hK.out _ _ (fun _=>⟨aj,ai,ah⟩) ?_
    try simp only [sX]
    refine tkL 17 (.agg #[.int .i64 a,.int .u64 (Qbb u u')]) ⟨aj,ai,ah⟩ (fun W hW=>?_) ?_
    ·exact mA4
    simp only [sX];have aN:=Qaa (fun (W:World) (hW:Bw w W)=>(⟨Qab hW aO.1,Qab hW aO.2.1,Qab hW aO.2.2⟩:(fun W=>W.cell? ⟨b,an+i*2,none⟩=some (.int .i64 a)/\W.cell? ⟨b,an+i*2+1,none⟩=some (.int .u64 u)/\W.cell? ⟨b',al+k*2+1,none⟩=some (.int .u64 u')) W));refine onE 18 fun K hK=>?_;go_simp;refine hK.out _ _ (fun _=>aN.out _ (aw.out _ _)) ?_
    try simp only [sX]
    refine onE 19 fun K hK=>?_;rw [if_pos oR];refine wp_append_own _ (.tmp 21) (.tmp 39) 36 rfl w.heap.size 218 i0 (.agg #[.int .i64 0,.int .u64 0]) 2 16 underlying36 hi aA ax ay rfl oF _ _ _ rfl ((aB.out _).alloc _) ⟨wr.heap.size,0,none⟩ 1 1 (QcQ (a,(Qbb u u'))) rfl rfl (Qav (cs:=#[.int .i64 a,.int .u64 (Qbb u u')]) rfl) (Qd2 _) oC oB oN ?_;intro v1 w1 ab aa ac;have O1:=Qaa ab;have B1:=Qaa ((aw.out _ _).grown aa oN (fun j hj=>(HO.lt j hj).1));have N1:=Qaa (show v1≠.slice none 0 0 from fun e=>by have:=(ac.1 e).2;omega);clear ab aa ac;refine hK.out _ _ (fun _=>aN.out _ B1) ?_;obtain ⟨be,a6,e1⟩:=Qan O1;subst e1
    try simp only [sX]
    refine onE 20 fun K hK=>?_;go_simp;refine hK.out _ _ (fun _=>aN.out _ B1) ?_
    try simp only [sX]
    refine dnE ?_ _;go_wp2;go_roundw
    case rel=>exact ⟨i+1,k+1,R ++ [(a,Qbb u u')],by omega,by omega,by go_num,by go_num,N1,by simp;have:=HQ.out;omega,by have:=O1.out;rw [QgW] at this;simpa [HQ.out] using this,HE,B1⟩
    case measure=>simp [RowKit.intOf];omega
  ·subst aD
   obtain ⟨⟨a',u'⟩,av⟩:∃ x,N[k]?=some x:=⟨N[k]'(oA EN.out),ZZe _⟩;obtain ⟨b',al,rfl,af⟩:=aZ.out (oA EN.out);have a0:=Qab ae (af k _ av).1;have ah:=Qab ae (af k _ av).2
   have HE:Hid ((R ++ [(a',u')]) ++ mrg (P.drop i) (N.drop (k+1))=mrg P N):=by
    refine (?_:(R ++ [(a',u')]) ++ mrg (P.drop i) (N.drop (k+1))=mrg P N);rw [<- HR.out,Qij av (.inl EM.symm),List.append_assoc];rfl
   have d2:((k:Int) == (n:Int))=false:=ZZf.2 oB;have d1:decide ((i:Int)<(i:Int))=false:=ZZg oB;clear ae ad af av;go_wp2
   go_quiet (fail)
   go_wp2
   go_quiet (fail)
   go_wp2_with (at_builtin;refine wpList_append_own _ rfl (.tmp 96) (.tmp 101) 36 rfl w.heap.size 218 i0 (.agg #[.int .i64 0,.int .u64 0]) 2 16 underlying36 hi aA ax ay rfl oF _ _ _ rfl ((aB.out _).alloc _) ⟨wr.heap.size,0,none⟩ 1 1 (QcQ (a',u')) rfl rfl (Qav (cs:=#[.int .i64 a',.int .u64 u']) rfl) (Qd2 _) oC oB oN ?_;intro v1 w1 ab aa ac;have O1:=Qaa ab;have B1:=Qaa ((aw.out _ _).grown aa oN (fun j hj=>(HO.lt j hj).1));have N1:=Qaa (show v1≠.slice none 0 0 from fun e=>by have:=(ac.1 e).2;omega);clear ab aa ac);go_roundw
   case rel=>exact ⟨i,k+1,R ++ [(a',u')],by omega,by omega,by go_num,by go_num,N1,by simp;have:=HQ.out;omega,by have:=O1.out;rw [QgW] at this;simpa [HQ.out] using this,HE,B1⟩
   case measure=>simp [RowKit.intOf];omega
  ·subst aD aC
   have HM:Hid (R=mrg P N):=by
    refine (?_:R=mrg P N);rw [<- HR.out,<- EM.out,<- EN.out,List.drop_length,List.drop_length,Qdv,List.append_nil]
   have aL:Hid (∀ z∈R,Qb4 z):=by
    refine (?_:∀ z∈R,Qb4 z);rw [HM.out];exact mrg_ok KA KB
   clear HR ae;by_cases bf:q<=30
   ·have HE:Hid (Qbe (mrg P N)=R):=Qaa (by rw [<- HM.out];exact if_pos (oA HQ.out))
    have aE:∀ j z,(fl QcQ R)[j]?=some z->wr.cell? ((⟨g,0,none⟩:Addr).add j)=some z:=fun j z hz=>ad.cells rfl j z hz;have aJ:=Qaa aE;clear ad aE;have d0:¬ (0:Int)<(q:Int) - 30:=oB
    go_wp2
    go_loopw [9] (fun z w2=>z=.int .i64 0/\w2=wr) (fun z w2=>0)
    case atStart=>exact ⟨rfl,rfl⟩
    case round=>
     obtain ⟨rfl,rfl⟩:=hrel;go_wp2_with (at_builtin;refine wpList_append_own _ rfl (.tmp 133) (.tmp 134) 36 rfl w.heap.size 218 i0 (.agg #[.int .i64 0,.int .u64 0]) 2 16 underlying36 hi aA ax ay rfl oF _ _ _ rfl (World.ownsRow_made _ #[] 0 HB.size (Nat.zero_le _) rfl) ⟨g,0,none⟩ q cv (fl QcQ R) rfl (by rw [Qdn Qd4];have:=HQ.out;omega) (fun j z hz=>by have:=aJ.out j z hz;exact QcF this _) (Qg8 _) oC oB oN ?_;intro v1 w1 ab aa ac;simp only [Nat.zero_add,List.nil_append] at ab;have O1:=Qaa ab;have B1:=Qaa ((HB.alloc HB.size _).grown aa oN (fun j hj=>by cases hj;exact HB.size));clear ab aa ac);go_ret;exact ⟨_,_,rfl,by rw [HE.out];exact O1.out,by rw [HE.out];exact HQ.symm,B1⟩
   ·obtain ⟨s,hs⟩:∃ s,q=s+30:=⟨q - 30,by omega⟩
    subst hs;obtain ⟨⟨p,x0⟩,aH⟩:∃ z,R[s]?=some z:=⟨R[s]'(oA HQ.out),ZZe _⟩;obtain ⟨_,aS⟩:=aL.out _ (ZZn aH);simp only at aS;have aV:=Qaa aH;have a2:=QiS ad;have aP:=Qi6 ad;have e1:((s+30:Nat):Int) - 30=(s:Int):=oB
    have a1:0<s:=oB
    clear ad aH;go_wp2
    go_loopw [9] (fun z w2=>∃ j:Nat,j<=s/\z=.int .i64 j/\w2.ownsRow w.heap.size 218 2 (.slice (some ⟨g,0,none⟩) (s+30) cv) (s+30) (fl QcQ (R.set s (p,Qdi x0 (R.take j))))/\Bw w w2) (fun z w2=>s - (RowKit.intOf z).toNat)
    case atStart=>exact ⟨0,Nat.zero_le _,rfl,by rw [show Qdi x0 (R.take 0)=x0 from rfl,Qr3 aV.out];exact HO.out,HB⟩
    case round=>
     clear HO HB aB aw;obtain ⟨j,hj,rfl,ad,ae⟩:=hrel;obtain ⟨x,hx⟩:∃ x,Qdi x0 (R.take j)=x:=⟨_,rfl⟩;rw [hx] at ad;have a4:U64 x:=by rw [<- hx];exact Qnv aS (fun y hy=>aL.out y (ZZo hy))
     have HX:=Qaa hx;have HO:=Qaa ad;have HB:=Qaa ae;have am:s+30=(R.set s (p,x)).length:=by rw [List.length_set];exact HQ.symm
     have aQ:s<R.length:=by have:=HQ.out;omega
     clear hx;by_cases bd:j<s
     ·obtain ⟨⟨b,y⟩,aF⟩:∃ z,R[j]?=some z:=⟨R[j]'oB,ZZe oB⟩
      obtain ⟨_,hy⟩:=aL.out _ (ZZn aF);simp only at hy;have aM:=(Qlb ad am (k:=s) (x:=(p,x)) (by simp [aQ])).2;have aI:=(Qlb ad am (k:=j) (x:=(b,y)) (by rw [List.getElem?_set_ne oB];exact aF)).2;have aR:=ad.frozenAt (s*2+1)
      have HW:Hid (Qbb x y=Qdi x0 (R.take (j+1))):=by
       refine (?_:Qbb x y=Qdi x0 (R.take (j+1)));rw [QnK aF,HX.out]
      have ak:(fun W=>W.cell? ⟨g,s*2+1,none⟩=some (.int .u64 x)/\W.cell? ⟨g,j*2+1,none⟩=some (.int .u64 y)/\W.frozen? ⟨g,s*2+1,none⟩=false) wr.drew:=⟨aM,aI,aR⟩;simp only at aM aI;have aX:=Qaa am;have a5:¬ (s:Int)+30<=(s:Int):=oB
      have a8:¬ (s:Int)+30<=(j:Int):=oB
      clear ad ae aF aM aI aR am;go_wp2_with fail;refine Qal (fun W=>W.cell? ⟨g,s*2+1,none⟩=some (.int .u64 x)/\W.cell? ⟨g,j*2+1,none⟩=some (.int .u64 y)/\W.frozen? ⟨g,s*2+1,none⟩=false) 15 oG ?_;refine tkL 0 (.slice (some ⟨g,0,none⟩) (s+30) cv) ak (fun W hW=>?_) ?_
      ·exact mBj
      refine tkL 1 (.int .i64 s) ak (fun W hW=>?_) ?_
      ·exact mBj
      refine tkL 2 (.slice (some ⟨g,0,none⟩) (s+30) cv) ak (fun W hW=>?_) ?_
      ·exact mBj
      simp only [sX];refine tkL 3 (.int .i64 s) ak (fun W hW=>?_) ?_
      ·exact mBj
      refine tkL 4 (.pointer (some ⟨g,s*2,none⟩)) ak (fun W hW=>?_) ?_
      ·exact mBj
      refine tkL 5 (.pointer (some ⟨g,s*2+1,none⟩)) ak (fun W hW=>?_) ?_
      ·exact mBj
      simp only [sX];refine tkL 6 (.int .u64 x) ak (fun W hW=>?_) ?_
      ·exact mBj
      refine tkL 7 (.slice (some ⟨g,0,none⟩) (s+30) cv) ak (fun W hW=>?_) ?_
      ·exact mBj
      refine tkL 8 (.int .i64 j) ak (fun W hW=>?_) ?_
      ·exact mBj
      simp only [sX];refine tkL 9 (.pointer (some ⟨g,j*2,none⟩)) ak (fun W hW=>?_) ?_
      ·exact mBj
      refine tkL 10 (.pointer (some ⟨g,j*2+1,none⟩)) ak (fun W hW=>?_) ?_
      ·exact mBj
      refine tkL 11 (.int .u64 y) ak (fun W hW=>?_) ?_
      ·exact mBj
      simp only [sX];refine onE 12 fun K hK=>?_;go_simp;refine (Qb7 _ _ a4 hy _).mono ?_;rintro e w8 ⟨rfl,rfl⟩;dsimp only;refine gK hK ak ?_
      try simp only [sX]
      refine onE 13 fun K hK=>?_;go_simp;refine gK hK ak ?_
      try simp only [sX]
      refine onE 14 fun K hK=>?_;go_simp;refine gK hK ak ?_
      try simp only [sX]
      obtain ⟨z0,z1,z2⟩:=ak;refine onE 15 fun K hK=>?_;go_simp;refine hK.out _ _ (fun h=>absurd rfl h) ?_
      try simp only [sX]
      refine dnE ?_ _;go_wp2;go_roundw
      case rel=>
       refine ⟨j+1,by omega,by go_num,?_,?_⟩
       ·have o1:=(HO.drew.stored (s*2+1) (.int .u64 (Qbb x y))).1
        have e2:(fl QcQ (R.set s (p,x))).set (s*2+1) (.int .u64 (Qbb x y))=fl QcQ (R.set s (p,Qbb x y)):=QnQ aQ;rw [e2] at o1;rw [<- HW.out];exact o1
       ·exact HB.drew.setCell (QtW HO).1 _
      case measure=>simp [RowKit.intOf];omega
     ·have aT:j=s:=by omega
      have HE:Hid (Qbe (mrg P N)=(R.set s (p,x)).drop s):=by
       refine (?_:Qbe (mrg P N)=(R.set s (p,x)).drop s);rw [<- HM.out,<- HX.out,aT];exact Qst HQ a1 aV
      have aE:∀ jj z,(fl QcQ ((R.set s (p,x)).drop s))[jj]?=some z->wr.cell? ((⟨g,s*2,none⟩:Addr).add jj)=some z:=fun jj z hz=>by
       rw [QoX Qd4,List.getElem?_drop] at hz;have:=ad.cells rfl (s*2+jj) z hz;rw [Addr.add_lit] at this ⊢
       simpa using this
      have aU:((R.set s (p,x)).drop s).length=30:=by rw [List.length_drop,<- am];omega
      have aJ:=Qaa aE;have aW:=Qaa aU;have bb:¬ cv=s:=oB
      clear ad ae aE aU am aT;go_wp2_with (at_builtin;refine wpList_append_own _ rfl (.tmp 133) (.tmp 134) 36 rfl w.heap.size 218 i0 (.agg #[.int .i64 0,.int .u64 0]) 2 16 underlying36 hi aA ax ay rfl oF _ _ _ rfl (World.ownsRow_made _ #[] 0 HB.size (Nat.zero_le _) rfl) ⟨g,s*2,none⟩ _ _ (fl QcQ ((R.set s (p,x)).drop s)) rfl (by rw [Qdn Qd4,aW.out] <;> omega) (fun j z hz=>by have:=aJ.out j z hz;exact QcF this _) (Qg8 _) oC oB oN ?_;intro v1 w1 ab aa ac;simp only [Nat.zero_add,List.nil_append,Nat.add_sub_cancel_left] at ab;have O1:=Qaa ab;have B1:=Qaa ((HB.alloc HB.size _).grown aa oN (fun j hj=>by cases hj;exact HB.size));clear ab aa ac);go_ret;exact ⟨_,_,rfl,by rw [HE.out];exact O1.out,by rw [HE.out];exact aW.symm,B1⟩
end
section
def Qrt (x y:Int):Int:=x*y / 18446744073709551616
theorem Qsr (x y:Int) (hx:U64 x) (hy:U64 y):IntKind.u64.wrap (IntKind.u64.wrap (IntKind.u64.wrap (x / 4294967296*(y / 4294967296))+IntKind.u64.wrap (IntKind.u64.wrap (x / 4294967296*bits BinOp.and IntKind.u64 y 4294967295)+IntKind.u64.wrap (bits BinOp.and IntKind.u64 x 4294967295*bits BinOp.and IntKind.u64 y 4294967295) / 4294967296) / 4294967296)+IntKind.u64.wrap (bits BinOp.and IntKind.u64 (IntKind.u64.wrap (IntKind.u64.wrap (x / 4294967296*bits BinOp.and IntKind.u64 y 4294967295)+IntKind.u64.wrap (bits BinOp.and IntKind.u64 x 4294967295*bits BinOp.and IntKind.u64 y 4294967295) / 4294967296)) 4294967295+IntKind.u64.wrap (bits BinOp.and IntKind.u64 x 4294967295*(y / 4294967296))) / 4294967296)=Qrt x y:=by
 unfold U64 at hx hy;simp only [IntKind.wrap_u64,and_low32 x hx.1 oB,and_low32 y hy.1 oB];rw [and_low32 _ oB oB];exact mul64_arith x y hx.1 oB hy.1 oB
theorem Qo6 (x y:Int) (hx:U64 x) (hy:U64 y):IntKind.u64.wrap (IntKind.u64.wrap (IntKind.u64.wrap (x / 4294967296*(y / 4294967296))+IntKind.u64.wrap (IntKind.u64.wrap (x / 4294967296*bits BinOp.and IntKind.u64 y 4294967295)+IntKind.u64.wrap (bits BinOp.and IntKind.u64 x 4294967295*bits BinOp.and IntKind.u64 y 4294967295) / 4294967296) / 4294967296)+IntKind.u64.wrap (IntKind.u64.wrap (bits BinOp.and IntKind.u64 x 4294967295*(y / 4294967296))+bits BinOp.and IntKind.u64 (IntKind.u64.wrap (IntKind.u64.wrap (x / 4294967296*bits BinOp.and IntKind.u64 y 4294967295)+IntKind.u64.wrap (bits BinOp.and IntKind.u64 x 4294967295*bits BinOp.and IntKind.u64 y 4294967295) / 4294967296)) 4294967295) / 4294967296)=Qrt x y:=by
 rw [Int.add_comm (IntKind.u64.wrap (bits BinOp.and IntKind.u64 x 4294967295*(y / 4294967296)))];exact Qsr x y hx hy
theorem Qur (a:Int) (ha:I64 a):bits .xor .i64 (-1) a=-1 - a:=by
 unfold I64 at ha
 show IntKind.i64.wrap ((BitVec.ofInt 64 (-1) ^^^ BitVec.ofInt 64 a).toNat:Int)=_
 have h1:BitVec.ofInt 64 (-1)=BitVec.allOnes 64:=oF
 rw [h1,BitVec.allOnes_xor,BitVec.toNat_not,BitVec.toNat_ofInt];rw [IntKind.wrap_i64]
 have e:((a % ((2 ^ 64:Nat):Int)).toNat:Int)=a % 18446744073709551616:=by
  rw [Int.toNat_of_nonneg (Int.emod_nonneg _ oF)];rfl
 omega
theorem QuB (b:Int) (hb:U64 b):bits .xor .u64 IntKind.u64.max b=18446744073709551615 - b:=by
 unfold U64 at hb;rw [IntKind.max_u64]
 show IntKind.u64.wrap ((BitVec.ofInt 64 18446744073709551615 ^^^ BitVec.ofInt 64 b).toNat:Int)=_
 have h1:BitVec.ofInt 64 18446744073709551615=BitVec.allOnes 64:=oF
 rw [h1,BitVec.allOnes_xor,BitVec.toNat_not,BitVec.toNat_ofInt];rw [IntKind.wrap_u64]
 have e:((b % ((2 ^ 64:Nat):Int)).toNat:Int)=b % 18446744073709551616:=by
  rw [Int.toNat_of_nonneg (Int.emod_nonneg _ oF)];rfl
 omega
def Qvn (a b:Int):Int:=wrap64 (-a - (if b=0 then 0 else 1))
def QvO (b:Int):Int:=uw (-b)
def thH (n w:Int):Int:=wrap64 (n*w / 18446744073709551616)
def thL (n w:Int):Int:=uw (n*w)
theorem Qu9 (a b:Int) (hb:U64 b):QeV (-1 - a) (18446744073709551615 - b) 0 1=Qvn a b/\QfH (18446744073709551615 - b) 1=QvO b:=by
 unfold U64 at hb;unfold QeV QfH Qvn QvO addC uw wrap64;refine ⟨?_,by omega⟩;by_cases h:b=0
 ·subst h;simp;omega
 ·rw [if_neg h];omega
theorem Qtg (n y:Int):Qvn (wrap64 (Qrt (-n) y)) (uw (-n*y))=thH n y/\QvO (uw (-n*y))=thL n y:=by
 have e:-n*y=-(n*y):=Int.neg_mul _ _;unfold Qrt thH thL;rw [e];generalize n*y=p;unfold Qvn QvO;refine ⟨?_,by unfold uw;omega⟩;by_cases k:uw (-p)=0
 ·rw [if_pos k];unfold uw at k;unfold wrap64;omega
 ·rw [if_neg k];unfold uw at k;unfold wrap64;omega
end
section
theorem Qr9 {a b c d:Int} (h:a=c) (k:b=d):Ending.returned (.tuple #[.int .u64 a,.int .u64 b])=.returned (.tuple #[.int .u64 c,.int .u64 d]):=by rw [h,k]
theorem QmO (x y:Int) (hx:U64 x) (hy:U64 y) (w:World) :
  Calls prog 200 #[.int .u64 x,.int .u64 y] w fun e w'=>e=.returned (.tuple #[.int .u64 (Qrt x y),.int .u64 (uw (x*y))])/\w'=w:=by
 have HF:Hid (_=_):=Qo6 x y hx hy;have HG:Hid (IntKind.u64.wrap (x*y)=uw (x*y)):=IntKind.wrap_u64 _;clear hx hy;go_enter func200,ntmps200;go_wp2;go_ret2;exact ⟨Qr9 HF HG,rfl⟩
theorem QnS (a b:Int) (ha:I64 a) (hb:U64 b) (w:World) :
  Calls prog 201 #[.agg #[.int .i64 a,.int .u64 b]] w fun e w'=>e=.returned (.agg #[.int .i64 (Qvn a b),.int .u64 (QvO b)])/\Bw w w':=by
 have HN:=Qu9 a b hb;have ab:U64 (18446744073709551615 - b):=by unfold U64 at *; omega
 have e1:=Qur a ha;have e2:=QuB b hb;have h1:U64 1:=by unfold U64;omega
 have HC:∀ w,Calls prog 108 #[.agg #[.int .i64 (bits .xor .i64 (-1) a),.int .u64 (bits .xor .u64 IntKind.u64.max b)],.agg #[.int .i64 0,.int .u64 1]] w fun e w'=>e=.returned (.agg #[.int .i64 (Qvn a b),.int .u64 (QvO b)])/\Bw w w':=by
  intro w;rw [e1,e2,<- HN.1,<- HN.2];exact Qeu _ _ _ _ w ab h1
 clear HN e1 e2 ha hb ab h1;go_enter func201,ntmps201;go_wp2_with (go_at_call 108;refine (HC _).mono ?_;rintro e w1 ⟨rfl,aa⟩;have p0:=Qab (a:=⟨w.heap.size+1,0,none⟩) (v:=.int .i64 0) aa oE;have p1:=Qab (a:=⟨w.heap.size+1,1,none⟩) (v:=.int .u64 0) aa oE;have f0:=aa.frozen (p:=⟨w.heap.size+1,0,none⟩) oE;have f1:=aa.frozen (p:=⟨w.heap.size+1,1,none⟩) oE);refine bodyPost_ret (v:=.agg #[.int .i64 (Qvn a b),.int .u64 (QvO b)]) (by simp [results,results201,go_sem,p0,p1]) rfl ⟨rfl,?_⟩;exact (((((Below.refl _ _).alloc (Nat.le_refl _) _).alloc oE _).trans (aa.mono oH)).setCell OE _).setCell OE _
theorem Qfa (n y:Int) (hn:I64 n) (hy:U64 y) (w:World) :
  Calls prog 144 #[.int .i64 n,.int .u64 y] w fun e w'=>e=.returned (.agg #[.int .i64 (thH n y),.int .u64 (thL n y)])/\Bw w w':=by
 by_cases h:n<0
 ·have hm:U64 (-n):=by unfold I64 at hn;unfold U64;omega
  have e1:IntKind.u64.wrap (-IntKind.u64.wrap n)=-n:=by simp only [IntKind.wrap_u64];unfold I64 at hn;omega
  have HC:Hid (∀ w,Calls prog 200 #[.int .u64 (-n),.int .u64 y] w fun e w'=>e=.returned (.tuple #[.int .u64 (Qrt (-n) y),.int .u64 (uw (-n*y))])/\w'=w):=fun w=>QmO _ _ hm hy w;have HE:=Qtg n y
  have HD:Hid (∀ w,Calls prog 201 #[.agg #[.int .i64 (wrap64 (Qrt (-n) y)),.int .u64 (uw (-n*y))]] w fun e w'=>e=.returned (.agg #[.int .i64 (thH n y),.int .u64 (thL n y)])/\Bw w w'):=by
   rw [<- HE.1,<- HE.2];exact fun w=>QnS _ _ (Qhk _) (QjN _) w
  clear hn hy hm HE;go_enter func144,ntmps144
  go_wp2_with (first
   | (go_at_call 200;refine (HC.out _).mono ?_;rintro e w1 ⟨rfl,rfl⟩)
   | (go_at_call 201;refine (HD.out _).mono ?_;rintro e w1 ⟨rfl,aa⟩;have p0:=Qab (a:=⟨w.heap.size+1,0,none⟩) (v:=.int .i64 (wrap64 (Qrt (-n) y))) aa oE;have p1:=Qab (a:=⟨w.heap.size+1,1,none⟩) (v:=.int .u64 (uw (-n*y))) aa oE;have f0:=aa.frozen (p:=⟨w.heap.size+1,0,none⟩) oE;have f1:=aa.frozen (p:=⟨w.heap.size+1,1,none⟩) oE;have r0:=Qab (a:=⟨w.heap.size,0,none⟩) (v:=.int .i64 0) aa oE;have r1:=Qab (a:=⟨w.heap.size,1,none⟩) (v:=.int .u64 0) aa oE;have g0:=QbQ (a:=⟨w.heap.size,0,none⟩) (v:=.int .i64 0) aa oE;have g1:=QbQ (a:=⟨w.heap.size,1,none⟩) (v:=.int .u64 0) aa oE))
  refine bodyPost_ret (v:=.agg #[.int .i64 (thH n y),.int .u64 (thL n y)]) (by simp [results,results144,go_sem,r0,r1]) rfl ⟨rfl,?_⟩;exact (((((((Below.refl _ _).alloc (Nat.le_refl _) _).alloc oE _).trans (aa.mono oH)).setCell OE _).setCell OE _).setCell OE _).setCell OE _
 ·have e1:IntKind.u64.wrap n=n:=by rw [IntKind.wrap_u64];unfold I64 at hn;omega
  have hm:U64 n:=by unfold I64 at hn;unfold U64;omega
  have HC:Hid (∀ w,Calls prog 200 #[.int .u64 n,.int .u64 y] w fun e w'=>e=.returned (.tuple #[.int .u64 (Qrt n y),.int .u64 (uw (n*y))])/\w'=w):=fun w=>QmO _ _ hm hy w;clear hn hy hm;go_enter func144,ntmps144;go_wp2_with (go_at_call 200;refine (HC.out _).mono ?_;rintro e w1 ⟨rfl,rfl⟩);exact bodyPost_ret (v:=.agg #[.int .i64 (wrap64 (Qrt n y)),.int .u64 (uw (n*y))]) (by simp [results,results144,go_sem]) rfl ⟨QiR rfl rfl,((Below.refl _ _).alloc (Nat.le_refl _) _).alloc oE _⟩
end
section
def Qol (z v wt:Int):Int:=if v=0 then Qbb z wt else z
end
section
def QeM (P:List Bn) (v wt:Int):List Bn:=if 0<v then Qbe (mrg P [(Qdg v,wt)]) else P
def Qfe (N:List Bn) (v wt:Int):List Bn:=if v<0 then Qbe (mrg N [(Qdg (-v),wt)]) else N
theorem Qnb (w:World) (t:TypeId) (a u:Int):QaR (w.alloc (.cells #[.int .i64 a,.int .u64 u] t)) (some ⟨w.heap.size,0,none⟩) [(a,u)]:=fun _=>⟨w.heap.size,0,rfl,fun i x hx=>by
 obtain ⟨rfl,rfl⟩:i=0/\x=(a,u):=by
  cases i with
  | zero=>exact ⟨rfl,by simpa using hx.symm⟩
  | succ j=>simp at hx
 exact bc_new w t a u⟩
theorem Qoh {z h l vv wt:Int} {pa na:Option Addr} {pn pc nn nc:Nat} (hz:U64 z) (hl0:U64 l) (hvv:I64 vv) (hwt:U64 wt) (hp:P.length=pn) (hn:N.length=nn) (lp:pn<=30) (ln:nn<=30) (hP:QaR w pa P) (hN:QaR w na N) (kP:∀ x∈P,Qb4 x) (kN:∀ x∈N,Qb4 x) (hv9:-999999999999999999<=vv/\vv<=999999999999999999) (cA:pa=none->pc=0) (cA':na=none->nc=0) :
  Calls prog 145 #[.agg #[.int .u64 z,.slice pa pn pc,.slice na nn nc,.int .i64 h,.int .u64 l],.int .i64 vv,.int .u64 wt] w fun e w'=>∃ v,e=.returned v/\QrM w' w.heap.size v (Qol z vv wt) (QeM P vv wt) (Qfe N vv wt) (QeV h l (thH vv wt) (thL vv wt)) (QfH l (thL vv wt))/\Bw w w':=by
 have HP:=Qaa hP;have HN:=Qaa hN;have KP:=Qaa kP;have KN:=Qaa kN;have CA:=Qaa cA;have be:=Qaa cA';clear hP hN kP kN cA cA';go_enter func145,ntmps145;go_wp2_with fail;generalize hW0:(w.alloc _).alloc _=W0;have T0:Bw w W0:=by rw [<- hW0];exact ((Below.refl _ _).alloc (Nat.le_refl _) _).alloc oE _
 have K0:Qe1 W0 w.heap.size z (.slice pa pn pc) (.slice na nn nc) h l:=by rw [<- hW0];exact QeA (QtZ w _ _ _ _ _ _) bAA
 have R0:W0.heap[w.heap.size+1]?=some (.cells QbF 38 (0,0)):=by rw [<- hW0];simpa using heap_alloc_new (w.alloc (Obj.cells #[.int .u64 z,.slice pa pn pc,.slice na nn nc,.int .i64 h,.int .u64 l] 38)) (Obj.cells QbF 38)
 have bd:W0.heap.size=w.heap.size+2:=by rw [<- hW0];simp
 clear hW0;have aU:=Qaa T0;clear T0;refine (Qg9 hp hn oB oB (Qai HP aU) (Qai HN aU) CA be).mono ?_;rintro e w1 ⟨v1,rfl,⟨p1,n1,m1,m2,rfl,aY,aO,a5⟩,aI⟩;obtain ⟨ag,c1,rfl⟩:=aY.any;obtain ⟨af,c2,rfl⟩:=aO.any;have ba:=Qaa (Qac aU aI);have K1:=QeA K0 aI;have R1:w1.heap[w.heap.size+1]?=some (.cells QbF 38 (0,0)):=by rw [aI.block _ oB];exact R0
 have bg:w.heap.size+2<=w1.heap.size:=by have:=aI.size;omega
 have av:=Qaa (aY.le (B':=w.heap.size) oB);have au:=Qaa (aO.le (B':=w.heap.size) oB);have bi:=Qaa a5;clear aI aY aO a5 K0 R0;go_wp2_with fail;generalize hW4:w1.alloc _=w4;have ax:Bw w1 w4:=by rw [<- hW4];exact bAA
 have S4:w4.heap[w1.heap.size]?=some (.cells #[.int .u64 z,.slice ag m1 c1,.slice af m2 c2,.int .i64 h,.int .u64 l] 38 (0,0)):=by rw [<- hW4];exact ZZk w1 _
 clear hW4;obtain ⟨sg,a7⟩:∃ sg,sg=w1.heap.size:=⟨_,rfl⟩;rw [<- a7] at S4 ⊢;have bm:w.heap.size+2<=sg:=oB
 have aW:sg<w4.heap.size:=(ZZc.1 S4).1;have a6:=Qaa (Qac ba ax);have K4:=QeA K1 ax;have R4:w4.heap[w.heap.size+1]?=some (.cells QbF 38 (0,0)):=by rw [ax.block _ oB];exact R1
 have aD:=Qaa (av.past ax);have ay:=Qaa (au.past ax);have a9:∀ W,Bw w4 W->Qe1 W w.heap.size z (.slice pa pn pc) (.slice na nn nc) h l/\W.heap[w.heap.size+1]?=some (.cells QbF 38 (0,0))/\W.heap[sg]?=some (.cells #[.int .u64 z,.slice ag m1 c1,.slice af m2 c2,.int .i64 h,.int .u64 l] 38 (0,0)):=fun W hW=>⟨QeA K4 hW,by rw [hW.block _ oB];exact R4,by rw [hW.block _ aW];exact S4⟩;have ar:=Qaa a9;clear a9 av au ax S4 R4 K4 K1 R1 a7 bg ba;have aa:(fun W=>Bw w4 W) w4.drew:=(ZZb _ _).drew;refine Qal (fun W=>Bw w4 W) 7 oG ?_;refine tkL 0 (.pointer (some ⟨w.heap.size,3,none⟩)) aa (fun W hW=>?_) ?_
 ·exact mCi
 refine tkL 1 (.agg #[.int .i64 h,.int .u64 l]) aa (fun W hW=>?_) ?_
 ·exact mCi
 refine tkL 2 (.int .i64 vv) aa (fun W hW=>?_) ?_
 ·exact mCi
 simp only [sX];refine tkL 3 (.int .u64 wt) aa (fun W hW=>?_) ?_
 ·exact mCi
 simp only [sX];refine onE 4 fun K hK=>?_;go_simp;refine (Qfa _ _ hvv hwt _).mono ?_;rintro e w5 ⟨rfl,ao⟩;dsimp only;have ab:=Qaa ((aa:Bw w4 w4.drew).trans ao);clear ao;refine gK hK ab.out ?_
 try simp only [sX]
 refine onE 5 fun K hK=>?_;go_simp;refine (Qeu _ _ _ _ _ hl0 (show U64 (thL vv wt) from QjN _)).mono ?_;rintro e w6 ⟨rfl,bb⟩;dsimp only;have al:=Qaa (Qac ab bb);clear bb;refine gK hK al.out ?_
 try simp only [sX]
 refine onE 6 fun K hK=>?_;go_simp;refine gK hK al.out ?_
 try simp only [sX]
 have R6:=(ar.out _ al).2.2;obtain ⟨y0,y1,y2,y3,y4⟩:=Qfi R6;have bk:=fzR 3 R6;have bc:=fzR 4 R6;refine onE 7 fun K hK=>?_;go_simp;refine hK.out _ _ (fun h=>absurd rfl h) ?_
 try simp only [sX]
 refine dnE ?_ _;obtain ⟨H7,aP⟩:∃ H,QeV h l (thH vv wt) (thL vv wt)=H:=⟨_,rfl⟩;obtain ⟨L7,aQ⟩:∃ H,QfH l (thL vv wt)=H:=⟨_,rfl⟩;have aN:=Qaa aP;have aX:=Qaa aQ;rw [aP,aQ];clear aP aQ;generalize hw3:(w6.setCell ⟨sg,3,none⟩ (.int .i64 H7)).setCell ⟨sg,4,none⟩ (.int .u64 L7)=w3
 have S3:w3.heap[sg]?=some (.cells #[.int .u64 z,.slice ag m1 c1,.slice af m2 c2,.int .i64 H7,.int .u64 L7] 38 (0,0)):=by
  rw [<- hw3];exact ZZl _ sg 4 _ _ _ (ZZl w6 sg 3 _ _ _ R6)
 have aF:w6.grownBy w3 (some sg):=by rw [<- hw3];exact (Qah _ _ _ _).trans (Qah _ _ _ _)
 have aR:∀ j,j<w6.heap.size->j≠sg->w3.heap[j]?=w6.heap[j]?:=fun j hj hne=>aF.block j hj (fun e=>hne (Option.some.inj e));obtain ⟨K6,Q6,_⟩:=ar.out _ al;have aT:=al.size;have R3:w3.heap[w.heap.size+1]?=some (.cells QbF 38 (0,0)):=by rw [aR _ oB oB];exact Q6
 have K3:Qe1 w3 w.heap.size z (.slice pa pn pc) (.slice na nn nc) h l:=by
  have aH:∀ j,w3.cell? ⟨w.heap.size,j,none⟩=w6.cell? ⟨w.heap.size,j,none⟩:=fun j=>World.cell?_of_block (w:=w6) (aR w.heap.size oB oB);exact ⟨by rw [aH];exact K6.1,by rw [aH];exact K6.2.1,by rw [aH];exact K6.2.2.1,by rw [aH];exact K6.2.2.2.1,by rw [aH];exact K6.2.2.2.2⟩
 have aw:=Qaa ((Qac a6 al).grown aF (Qac a6 al).size (fun k e=>by cases e;omega));have bf:sg<w3.heap.size:=(ZZc.1 S3).1;have o1:=aD.past al;have o2:=ay.past al;have av:=Qaa (o1.kept aF (.inr (o1.ne R6 oF)));have au:=Qaa (o2.kept aF (.inr (o2.ne R6 oF)));have hC:∀ W,Bw w3 W->Qe1 W w.heap.size z (.slice pa pn pc) (.slice na nn nc) h l/\W.heap[w.heap.size+1]?=some (.cells QbF 38 (0,0))/\W.heap[sg]?=some (.cells #[.int .u64 z,.slice ag m1 c1,.slice af m2 c2,.int .i64 H7,.int .u64 L7] 38 (0,0)):=fun W hW=>⟨QeA K3 hW,by rw [hW.block _ oB];exact R3,by rw [hW.block _ bf];exact S3⟩;have HC:=Qaa hC;have a0:=Qaa S3;have bl:=fzR 0 S3;obtain ⟨g0,g1,g2,g3,g4⟩:=Qfi S3
 have az:∀ (w9:World) (Z:Int) (p n:Value) (a b:Nat) (P9 N9:List Bn),w3.grownBy w9 (some sg)->w9.heap[sg]?=some (.cells #[.int .u64 Z,p,n,.int .i64 H7,.int .u64 L7] 38 (0,0))->OwnB w9 w.heap.size p a P9->OwnB w9 w.heap.size n b N9->QjM p n ->
   QrM (((((w9.setCell ⟨w.heap.size+1,0,none⟩ (.int .u64 Z)).setCell ⟨w.heap.size+1,1,none⟩ p).setCell ⟨w.heap.size+1,2,none⟩ n).setCell ⟨w.heap.size+1,3,none⟩ (.int .i64 H7)).setCell ⟨w.heap.size+1,4,none⟩ (.int .u64 L7)) w.heap.size (.agg #[.int .u64 Z,p,n,.int .i64 H7,.int .u64 L7]) Z P9 N9 H7 L7 /\
   Bw w (((((w9.setCell ⟨w.heap.size+1,0,none⟩ (.int .u64 Z)).setCell ⟨w.heap.size+1,1,none⟩ p).setCell ⟨w.heap.size+1,2,none⟩ n).setCell ⟨w.heap.size+1,3,none⟩ (.int .i64 H7)).setCell ⟨w.heap.size+1,4,none⟩ (.int .u64 L7))/\w9.heap[w.heap.size+1]?=some (.cells QbF 38 (0,0)):=fun w9 Z p n a b P9 N9 hg hr hp9 hn9 ac=>by
  have hR:w9.heap[w.heap.size+1]?=some (.cells QbF 38 (0,0)):=by rw [hg.block _ oB (fun e=>by have:=Option.some.inj e;omega)];exact R3
  have q1:=hp9.ne hR oF;have q2:=hn9.ne hR oF;refine ⟨⟨p,n,a,b,rfl,((((hp9.set q1 _).set q1 _).set q1 _).set q1 _).set q1 _,((((hn9.set q2 _).set q2 _).set q2 _).set q2 _).set q2 _,ac⟩,?_,hR⟩
  repeat (refine Below.setCell ?_ oJ _)
  exact aw.grown hg aw.size (fun k e=>by cases e;omega)
 have aq:=Qaa az;clear az hC o1 o2 hw3 aF aR K6 Q6 aT S3 R6 y0 y1 y2 y3 y4 bk bc ar aD ay;have c3:vv=0∨0<vv∨vv<0:=oB
 rcases c3 with aZ | bh | bj
 ·have aJ:Hid (Qol z vv wt=Qbb z wt):=if_pos aZ
  have aM:Hid (QeM P vv wt=P):=if_neg oB;have aV:Hid (Qfe N vv wt=N):=if_neg oB;have d0:(vv == 0)=true:=beq_iff_eq.2 aZ;have d1:decide (0<vv)=false:=ZZg oB;have d2:decide (vv<0)=false:=ZZg oB;clear aZ;obtain ⟨w9,ad⟩:∃ W,w3.setCell ⟨sg,0,none⟩ (.int .u64 (Qbb z wt))=W:=⟨_,rfl⟩;have ap:w3.grownBy w9 (some sg):=by rw [<- ad];exact Qah _ _ _ _
  have ah:w9.heap[sg]?=some (.cells #[.int .u64 (Qbb z wt),.slice ag m1 c1,.slice af m2 c2,.int .i64 H7,.int .u64 L7] 38 (0,0)):=by rw [<- ad];exact ZZl w3 sg 0 _ _ _ a0
  have am:OwnB w9 w.heap.size (.slice ag m1 c1) m1 P:=by rw [<- ad];exact av.set (av.ne a0.out oF) _
  have an:OwnB w9 w.heap.size (.slice af m2 c2) m2 N:=by rw [<- ad];exact au.set (au.ne a0.out oF) _
  have ac:=bi.out;obtain ⟨k0,k1,k2,k3,k4⟩:=K3;obtain ⟨F1,F2,R9⟩:=aq.out w9 (Qbb z wt) (.slice ag m1 c1) (.slice af m2 c2) m1 m2 _ _ ap ah am an ac;obtain ⟨u0,u1,u2,u3,u4⟩:=Qfi ah;obtain ⟨q0,q1,q2,q3,q4⟩:=Qfi R9;obtain ⟨a3,a4,a2,a8,a1⟩:=fA5 R9;have aG:=Qaa F1;have aA:=Qaa F2;clear F1 F2 R9 ah ap am an ac;go_wp2_with (go_at_call 107;refine (Qb7 _ _ hz hwt _).mono ?_;rintro e w8 ⟨rfl,hw⟩;obtain rfl:=hw.symm);refine bodyPost_ret (v:=.agg #[.int .u64 (Qbb z wt),.slice ag m1 c1,.slice af m2 c2,.int .i64 H7,.int .u64 L7]) (by simp [results,results145,go_sem,q0,q1,q2,q3,q4]) rfl ⟨_,rfl,?_,aA⟩;rw [aN.out,aX.out,aJ.out,aM.out,aV.out];exact aG.out
 ·have aJ:Hid (Qol z vv wt=z):=if_neg oB
  have aV:Hid (Qfe N vv wt=N):=if_neg oB;have aL:=Qaa bh;have d0:(vv == 0)=false:=ZZf.2 oB;go_wp2_with fail;have aa:(fun W=>Bw w3 W) w3.drew:=(ZZb _ _).drew;refine Qal (fun W=>Bw w3 W) 9 oG ?_;refine tkL 0 (.pointer (some ⟨w.heap.size,1,none⟩)) aa (fun W hW=>?_) ?_
  ·exact mA7
  refine tkL 1 (.slice pa pn pc) aa (fun W hW=>?_) ?_
  ·exact mA7
  refine tkL 2 (.int .i64 vv) aa (fun W hW=>?_) ?_
  ·exact mA7
  simp only [sX];refine tkL 4 (.int .u64 wt) aa (fun W hW=>?_) ?_
  ·exact mA7
  simp only [sX];refine onE 3 fun K hK=>?_;go_simp;refine (QbW _ _ oO).mono ?_;rintro e w4 ⟨rfl,rfl⟩;dsimp only;refine gK hK aa ?_
  try simp only [sX]
  refine tkS 5 (.agg #[.int .i64 (Qdg vv),.int .u64 wt]) aa ?_;simp only [sX];refine onE 6 fun K hK=>?_;go_simp;have aC:Bw w3 (w3.drew.alloc (.cells #[.int .i64 (Qdg vv),.int .u64 wt] 218)):=aa.alloc (ZZa _) _;have ai:=Qaa aC;clear aC;refine gK hK ai.out ?_
  try simp only [sX]
  refine onE 7 fun K hK=>?_;go_simp;refine (QeJ _ _ _ _ hp oR lp oB (Qai HP (Qac aw ai)) (Qnb _ _ _ _) KP (fun x hx=>by obtain rfl:x=(Qdg vv,wt):=OG;exact ⟨by have:=Qi2 vv;unfold I64;omega,hwt⟩)).mono ?_;rintro e w5 ⟨v5,n5,rfl,aE,aK,ao⟩;have ak:=OwnB.of aE aK;clear aE aK;dsimp only;have ab:=Qaa (Qac ai ao);have aB:=Qaa (ak.le (B':=w.heap.size) (by have:=aw.size;have:=ai.size;omega));have aS:=Qaa (fun q (h:Value.ownBlock v5=some q)=>(show w3.heap.size<=q from Nat.le_trans ai.size (ak.lt q h).1));obtain ⟨ae,c5,rfl⟩:=ak.any;clear ak ao;refine gK hK ab.out ?_
  try simp only [sX]
  refine onE 8 fun K hK=>?_;go_simp;refine gK hK ab.out ?_
  try simp only [sX]
  have R5:=(HC.out _ ab).2.2;obtain ⟨q0,q1,q2,q3,q4⟩:=Qfi R5;have f1:=fzR 1 R5;refine onE 9 fun K hK=>?_;go_simp;refine hK.out _ _ (fun h=>absurd rfl h) ?_
  try simp only [sX]
  refine dnE ?_ _;generalize ad:w5.setCell ⟨sg,1,none⟩ (.slice ae n5 c5)=w9;have ap:w3.grownBy w9 (some sg):=by rw [<- ad];exact World.grownBy.trans ⟨ab.os,ab.tape,ab.output,ab.size,fun k hk _=>ab.block k hk⟩ (Qah _ _ _ _)
  have ah:w9.heap[sg]?=some (.cells #[.int .u64 z,.slice ae n5 c5,.slice af m2 c2,.int .i64 H7,.int .u64 L7] 38 (0,0)):=by rw [<- ad];exact ZZl w5 sg 1 _ _ _ R5
  have aj:Value.ownBlock (.slice ae n5 c5)≠some sg:=aB.ne R5 oF
  have am:OwnB w9 w.heap.size (.slice ae n5 c5) n5 (QeM P vv wt):=by
   rw [<- ad,QeM,if_pos aL.out];exact aB.set aj _
  have an:OwnB w9 w.heap.size (.slice af m2 c2) m2 N:=by
   rw [<- ad];have h5:=au.past ab;exact h5.set (h5.ne R5 oF) _
  have ac:QjM (.slice ae n5 c5) (.slice af m2 c2):=fun k e1 e2=>by
   have h1:=aS.out k e1;have h2:=(au.lt k e2).2;omega
  have d2:decide (vv<0)=false:=ZZg (oA aL.out);clear ad aj R5 q0 q1 q2 q3 q4 f1;obtain ⟨F1,F2,R9⟩:=aq.out w9 z (.slice ae n5 c5) (.slice af m2 c2) n5 m2 _ _ ap ah am an ac;obtain ⟨u0,u1,u2,u3,u4⟩:=Qfi ah;obtain ⟨q0,q1,q2,q3,q4⟩:=Qfi R9;obtain ⟨a3,a4,a2,a8,a1⟩:=fA5 R9;have aG:=Qaa F1;have aA:=Qaa F2;clear F1 F2 R9 ah ap am an ac;go_wp2;refine bodyPost_ret (v:=.agg #[.int .u64 z,.slice ae n5 c5,.slice af m2 c2,.int .i64 H7,.int .u64 L7]) (by simp [results,results145,go_sem,q0,q1,q2,q3,q4]) rfl ⟨_,rfl,?_,aA⟩;rw [aN.out,aX.out,aJ.out,aV.out];exact aG.out
 ·have aJ:Hid (Qol z vv wt=z):=if_neg oB
  have aM:Hid (QeM P vv wt=P):=if_neg oB;have aL:=Qaa bj;have d0:(vv == 0)=false:=ZZf.2 oB;have d1:decide (0<vv)=false:=ZZg oB;have dm:IntKind.i64.wrap (-vv)=-vv:=by rw [IntKind.wrap_i64];omega
  go_wp2_with fail;have aa:(fun W=>Bw w3 W) w3.drew:=(ZZb _ _).drew;refine Qal (fun W=>Bw w3 W) 10 oG ?_;refine tkL 0 (.pointer (some ⟨w.heap.size,2,none⟩)) aa (fun W hW=>?_) ?_
  ·exact mA7
  refine tkL 1 (.slice na nn nc) aa (fun W hW=>?_) ?_
  ·exact mA7
  refine tkL 2 (.int .i64 vv) aa (fun W hW=>?_) ?_
  ·exact mA7
  simp only [sX];refine tkL 3 (.int .i64 (-vv)) aa (fun W hW=>?_) ?_
  ·exact mA7
  refine tkL 5 (.int .u64 wt) aa (fun W hW=>?_) ?_
  ·exact mA7
  simp only [sX];refine onE 4 fun K hK=>?_;go_simp;refine (QbW _ _ oO).mono ?_;rintro e w4 ⟨rfl,rfl⟩;dsimp only;refine gK hK aa ?_
  try simp only [sX]
  refine tkS 6 (.agg #[.int .i64 (Qdg (-vv)),.int .u64 wt]) aa ?_;simp only [sX];refine onE 7 fun K hK=>?_;go_simp;have aC:Bw w3 (w3.drew.alloc (.cells #[.int .i64 (Qdg (-vv)),.int .u64 wt] 218)):=aa.alloc (ZZa _) _;have ai:=Qaa aC;clear aC;refine gK hK ai.out ?_
  try simp only [sX]
  refine onE 8 fun K hK=>?_;go_simp;refine (QeJ _ _ _ _ hn oR ln oB (Qai HN (Qac aw ai)) (Qnb _ _ _ _) KN (fun x hx=>by obtain rfl:x=(Qdg (-vv),wt):=OG;exact ⟨by have:=Qi2 (-vv);unfold I64;omega,hwt⟩)).mono ?_;rintro e w5 ⟨v5,n5,rfl,aE,aK,ao⟩;have ak:=OwnB.of aE aK;clear aE aK;dsimp only;have ab:=Qaa (Qac ai ao);have aB:=Qaa (ak.le (B':=w.heap.size) (by have:=aw.size;have:=ai.size;omega));have aS:=Qaa (fun q (h:Value.ownBlock v5=some q)=>(show w3.heap.size<=q from Nat.le_trans ai.size (ak.lt q h).1));obtain ⟨ae,c5,rfl⟩:=ak.any;clear ak ao;refine gK hK ab.out ?_
  try simp only [sX]
  refine onE 9 fun K hK=>?_;go_simp;refine gK hK ab.out ?_
  try simp only [sX]
  have R5:=(HC.out _ ab).2.2;obtain ⟨q0,q1,q2,q3,q4⟩:=Qfi R5;have f1:=fzR 2 R5;refine onE 10 fun K hK=>?_;go_simp;refine hK.out _ _ (fun h=>absurd rfl h) ?_
  try simp only [sX]
  refine dnE ?_ _;generalize ad:w5.setCell ⟨sg,2,none⟩ (.slice ae n5 c5)=w9;have ap:w3.grownBy w9 (some sg):=by rw [<- ad];exact World.grownBy.trans ⟨ab.os,ab.tape,ab.output,ab.size,fun k hk _=>ab.block k hk⟩ (Qah _ _ _ _)
  have ah:w9.heap[sg]?=some (.cells #[.int .u64 z,.slice ag m1 c1,.slice ae n5 c5,.int .i64 H7,.int .u64 L7] 38 (0,0)):=by rw [<- ad];exact ZZl w5 sg 2 _ _ _ R5
  have aj:Value.ownBlock (.slice ae n5 c5)≠some sg:=aB.ne R5 oF
  have an:OwnB w9 w.heap.size (.slice ae n5 c5) n5 (Qfe N vv wt):=by
   rw [<- ad,Qfe,if_pos aL.out];exact aB.set aj _
  have am:OwnB w9 w.heap.size (.slice ag m1 c1) m1 P:=by
   rw [<- ad];have h5:=av.past ab;exact h5.set (h5.ne R5 oF) _
  have ac:QjM (.slice ag m1 c1) (.slice ae n5 c5):=fun k e1 e2=>by
   have h1:=aS.out k e2;have h2:=(av.lt k e1).2;omega
  clear ad aj R5 q0 q1 q2 q3 q4 f1;obtain ⟨F1,F2,R9⟩:=aq.out w9 z (.slice ag m1 c1) (.slice ae n5 c5) m1 n5 _ _ ap ah am an ac;obtain ⟨u0,u1,u2,u3,u4⟩:=Qfi ah;obtain ⟨q0,q1,q2,q3,q4⟩:=Qfi R9;obtain ⟨a3,a4,a2,a8,a1⟩:=fA5 R9;have aG:=Qaa F1;have aA:=Qaa F2;clear F1 F2 R9 ah ap am an ac;go_wp2;refine bodyPost_ret (v:=.agg #[.int .u64 z,.slice ag m1 c1,.slice ae n5 c5,.int .i64 H7,.int .u64 L7]) (by simp [results,results145,go_sem,q0,q1,q2,q3,q4]) rfl ⟨_,rfl,?_,aA⟩;rw [aN.out,aX.out,aJ.out,aM.out];exact aG.out
end
section
def Qir (k:Int):Bool:=decide (1<=k) && decide (k<=4)
def Qt4 (v:Int):Bool:=decide (-999999999999999999<=v) && decide (v<=999999999999999999)
def Qkc (k v:Int) (wd:ByteArray):Bool:=if k=4 then decide (v=0) && Qbg wd else Qt4 v && decide (wd.size=0)
def Qc0 (k wt:Int):Bool:=decide (wt=1) || (decide (k=1) || decide (k=3)) && decide (0<wt) && decide (wt<=1000000)
def Qhe (tm:Bool) (ti:Int):Bool:=if tm=true then decide (0<=ti) && decide (ti<=1000000000) else decide (ti=0)
end
section
variable {w0 w:World} {g:Nat} {k:Int} {se:ByteArray} {v:Int} {wd:ByteArray} {wt:Int} {tm:Bool} {ti:Int} {T:TypeId}
noncomputable def QbC (k:Int) (se:ByteArray) (v:Int) (wd:ByteArray) (wt:Int) (tm:Bool) (ti:Int):Bool:=Qir k && Qbl se && Qkc k v wd && Qc0 k wt && Qhe tm ti
end
section
structure Sx where
 k:Int
 se:ByteArray
 v:Int
 wd:ByteArray
 wt:Int
 tm:Bool
 ti:Int
noncomputable def Sx.B (x:Sx):Bool:=QbC x.k x.se x.v x.wd x.wt x.tm x.ti
structure Sx.Ok (x:Sx):Prop where
 k:I64 x.k
 v:I64 x.v
 wt:U64 x.wt
 ti:I64 x.ti
 se:x.se.size<=maxLen
 wd:x.wd.size<=maxLen
abbrev Qa0 (x:Sx):Array Value:=#[.int .i64 x.k,.string x.se,.int .i64 x.v,.string x.wd,.int .u64 x.wt,.bool x.tm,.int .i64 x.ti]
end
end Go.Proofs.YtioohanfodmddaaGreatDoor
