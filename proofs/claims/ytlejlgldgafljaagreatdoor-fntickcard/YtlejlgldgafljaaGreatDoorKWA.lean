/-
 Parts.
-/
import Derived.Test.YtlejlgldgafljaaGreatDoorKYB
import Derived.DataShut
import Derived.Laws.MathBits
import Derived.Laws.NewBlocks
import Derived.Lib.AppendZerosOnto
import Derived.Lib.BitFns
import Derived.Shelf.Spec.SlicesInsert
set_option maxRecDepth 10000
set_option maxHeartbeats 8000000
set_option linter.all false
namespace Go.Proofs.YtlejlgldgafljaaGreatDoor
open Go.ChangeShapes Go.WideShapes Go.ChangeAt Go.RowKit Go.PlainAid Go.Maps Go.Lib Tryz
section
def QcA:List Int->Int->List Int
 | [],x=>[x]
 | y :: r,x=>if y<x then y :: QcA r x else if y=x then y :: r else x :: y :: r
theorem QfJ (z:Int):∀ (l:List Int) (x:Int),z∈QcA l x↔z=x∨z∈l
 | [],x=>by simp [QcA]
 | y :: r,x=>by
  unfold QcA
  split
  ·simp only [List.mem_cons,QfJ z r x]
   constructor
   ·rintro (h | h | h) <;> simp [h]
   ·rintro (h | h | h) <;> simp [h]
  ·split
   ·rename_i e;subst e;simp
   ·simp
def Qjt (l m:List Int):List Int:=m.foldl QcA l
def rho (x:Int):Int:=min (64 - (Lib.bitLen (IntKind.u64.wrap (x*64)).toNat:Int)+1) 55
theorem QsQ (x:Int):0<=IntKind.u64.wrap x/\IntKind.u64.wrap x<=18446744073709551615:=by
 have:IntKind.u64.wrap x=x % 18446744073709551616:=by simp [IntKind.wrap,IntKind.bits,IntKind.signed]
 rw [this];omega
theorem Qjz:∀ (f x:Nat),Lib.bitLenAux f x<=f
 | 0,x=>by simp [Lib.bitLenAux]
 | f+1,x=>by
  unfold Lib.bitLenAux
  split
  ·omega
  ·have:=Qjz f (x / 2);omega
theorem Qd0 (x:Nat):Lib.bitLen x<=64:=Qjz 64 x
theorem Qtj (x:Int):1<=rho x/\rho x<=55:=by
 unfold rho;have:=Qd0 (IntKind.u64.wrap (x*64)).toNat;omega
end
variable {p v x y:Int}
variable {S S' T U:Int->Prop}
variable {A E L R R':List Int}
variable {w:World}
variable {c d g i k m n s:Nat}
section
def reg (x:Int):Nat:=(x / 288230376151711744).toNat
theorem reg_lt (h:U64 x):reg x<64:=by unfold U64 at h;unfold reg;omega
def lay (R:List Int) (x:Int):List Int:=R.set (reg x) (max (R.getD (reg x) 0) (rho x))
def Laid (R:List Int) (S:Int->Prop) (R':List Int):Prop:=R'.length=R.length/\∀ i,i<R.length->R.getD i 0<=R'.getD i 0/\(∀ x,S x->reg x=i->rho x<=R'.getD i 0)/\(R'.getD i 0=R.getD i 0∨∃ x,S x/\reg x=i/\R'.getD i 0=rho x)
theorem Laid.start (R:List Int) (h:∀ x,¬ S x):Laid R S R:=⟨rfl,fun i hi=>⟨Int.le_refl _,fun x hx=>absurd hx (h x),.inl rfl⟩⟩
theorem Qsx (R:List Int) (x:Int):(lay R x).length=R.length:=by simp [lay]
theorem lay_at (R:List Int) (x:Int) (i:Nat) (hi:i<R.length):(lay R x).getD i 0=if reg x=i then max (R.getD i 0) (rho x) else R.getD i 0:=by
 unfold lay;rw [List.getD_eq_getElem?_getD,List.getElem?_set];by_cases e:reg x=i
 ·subst e;simp [hi]
 ·simp [e]
theorem Laid.step (h:Laid R S R') (hS:∀ x,S' x↔S x∨x=y):Laid R S' (lay R' y):=by
 refine ⟨by rw [Qsx,h.1],fun i hi=>?_⟩;obtain ⟨h1,h2,h3⟩:=h.2 i hi;rw [lay_at R' y i (by rw [h.1];exact hi)]
 split
 ·rename_i e
  refine ⟨by omega,fun x hx hr=>?_,?_⟩
  ·rcases (hS x).1 hx with hx | hx
   ·have:=h2 x hx hr;omega
   ·subst hx;omega
  ·by_cases hm:R'.getD i 0<=rho y
   ·exact .inr ⟨y,(hS y).2 (.inr rfl),e,by omega⟩
   ·rw [show max (R'.getD i 0) (rho y)=R'.getD i 0 by omega]
    rcases h3 with h3 | ⟨x,hx,hr,hv⟩
    ·exact .inl h3
    ·exact .inr ⟨x,(hS x).2 (.inl hx),hr,hv⟩
 ·rename_i e
  refine ⟨h1,fun x hx hr=>?_,?_⟩
  ·rcases (hS x).1 hx with hx | hx
   ·exact h2 x hx hr
   ·subst hx;exact absurd hr e
  ·rcases h3 with h3 | ⟨x,hx,hr,hv⟩
   ·exact .inl h3
   ·exact .inr ⟨x,(hS x).2 (.inl hx),hr,hv⟩
theorem Laid.same {B:List Int} (h:Laid R S A) (g:Laid R S' B) (hS:∀ x,S x↔S' x):A=B:=by
 apply List.ext_getElem (by rw [h.1,g.1]);intro i h1 h2;have hi:i<R.length:=by rw [<- h.1];exact h1
 obtain ⟨a1,a2,a3⟩:=h.2 i hi;obtain ⟨b1,b2,b3⟩:=g.2 i hi;rw [List.getD_eq_getElem?_getD,List.getD_eq_getElem?_getD,List.getElem?_eq_getElem h1] at a1;simp only [List.getD_eq_getElem?_getD,List.getElem?_eq_getElem h1,List.getElem?_eq_getElem h2,Option.getD_some] at a1 a2 a3 b1 b2 b3;rcases a3 with a3 | ⟨x,hx,hr,hv⟩ <;> rcases b3 with b3 | ⟨y,hy,hs,hu⟩
 ·rw [a3,b3]
 ·have:=a2 y ((hS y).2 hy) hs;omega
 ·have:=b2 x ((hS x).1 hx) hr;omega
 ·have:=a2 y ((hS y).2 hy) hs
  have:=b2 x ((hS x).1 hx) hr;omega
def RowI (w:World) (B g:Nat) (R:List Int):Prop:=R.length=64/\w.ownsRow B 2 1 (.slice (some ⟨g,0,none⟩) 64 64) 64 (R.map (Value.int .i64))
theorem RowI.cell {B:Nat} (h:RowI w B g R) (hk:k<64) (hx:x=R.getD k 0):w.cell? ⟨g,k,none⟩=some (.int .i64 x):=by
 have hs:=h.1;rw [h.2.cellAt k (by omega),hx];rw [List.getD_eq_getElem?_getD,List.getElem?_map,List.getElem?_eq_getElem (by omega:k<R.length)];simp
theorem RowI.froz {B:Nat} (h:RowI w B g R) (k:Nat):w.frozen? ⟨g,k,none⟩=false:=h.2.frozenAt k
theorem RowI.lt {B:Nat} (h:RowI w B g R):B<=g/\g<w.heap.size:=QrY h.2
theorem RowI.set {B:Nat} (h:RowI w B g R) (k:Nat) (x:Int):RowI (w.setCell ⟨g,k,none⟩ (.int .i64 x)) B g (R.set k x):=by
 refine ⟨by simp [h.1],?_⟩;have:=(h.2.stored k (.int .i64 x)).1;rw [List.map_set];exact this
end
section
def mxL (A B:List Int) (m:Nat):List Int:=(List.range A.length).map fun i=>if i<m then max (A.getD i 0) (B.getD i 0) else A.getD i 0
theorem QkH (A B:List Int) (m:Nat):(mxL A B m).length=A.length:=by simp [mxL]
theorem QsG (A B:List Int) (m i:Nat) (hi:i<A.length):(mxL A B m).getD i 0=if i<m then max (A.getD i 0) (B.getD i 0) else A.getD i 0:=by
 rw [List.getD_eq_getElem?_getD,List.getElem?_eq_getElem (by rw [QkH];exact hi)];simp only [mxL,List.getElem_map,List.getElem_range,Option.getD_some]
theorem QiQ (A B:List Int):mxL A B 0=A:=by
 apply List.ext_getElem (QkH A B 0);intro i h1 h2;simp [mxL,h2]
theorem Laid.trans (h:Laid A S R) (g:Laid R T R') (hU:∀ x,U x↔S x∨T x):Laid A U R':=by
 refine ⟨by rw [g.1,h.1],fun i hi=>?_⟩;obtain ⟨h1,h2,h3⟩:=h.2 i hi;obtain ⟨g1,g2,g3⟩:=g.2 i (by rw [h.1];exact hi);refine ⟨by omega,fun x hx hr=>?_,?_⟩
 ·rcases (hU x).1 hx with hx | hx
  ·have:=h2 x hx hr;omega
  ·exact g2 x hx hr
 ·rcases g3 with g3 | ⟨x,hx,hr,hv⟩
  ·rcases h3 with h3 | ⟨x,hx,hr,hv⟩
   ·exact .inl (by omega)
   ·exact .inr ⟨x,(hU x).2 (.inl hx),hr,by omega⟩
  ·exact .inr ⟨x,(hU x).2 (.inr hx),hr,hv⟩
theorem Laid.iff (h:Laid A S R) (hS:∀ x,S x↔T x):Laid A T R:=by
 have:S=T:=funext fun x=>propext (hS x);rw [<- this];exact h
def QhP (R:List Int):List Int:=if R.length=0 then List.replicate 64 0 else R
theorem QrA (h:R.length=0∨R.length=64):(QhP R).length=64:=by
 unfold QhP;split
 ·simp
 ·omega
abbrev QmX (E1 E2:List Int):List Int:=Qjt (Qjt [] E1) E2
def Mg (E1 R1 E2 R2 E R:List Int):Prop:=(R1.length=0/\R2.length=0/\(QmX E1 E2).length<=40/\E=QmX E1 E2/\R=[])∨(¬ (R1.length=0/\R2.length=0/\(QmX E1 E2).length<=40)/\E=[]/\Laid (mxL (QhP R1) R2 R2.length) (·∈QmX E1 E2) R)
theorem Mg.one {E1 R1 E2 R2 E':List Int} (h:Mg E1 R1 E2 R2 E R) (g:Mg E1 R1 E2 R2 E' R'):E=E'/\R=R':=by
 rcases h with ⟨a,b,c,d,e⟩ | ⟨a,b,c⟩ <;> rcases g with ⟨a',b',c',d',e'⟩ | ⟨a',b',c'⟩
 ·exact ⟨d.trans d'.symm,e.trans e'.symm⟩
 ·exact absurd ⟨a,b,c⟩ a'
 ·exact absurd ⟨a',b',c'⟩ a
 ·exact ⟨b.trans b'.symm,c.same c' (fun _=>Iff.rfl)⟩
theorem Qj1:∀ (l:List Int) (x:Int),(QcA l x).length<=l.length+1
 | [],x=>by simp [QcA]
 | y :: r,x=>by
  have:=Qj1 r x;unfold QcA
  split
  ·simp only [List.length_cons];omega
  ·split <;> simp
end
variable {ao ra:Option Addr}
section
def zer64:List Value:=(List.replicate 64 (0:Int)).map (Value.int .i64)
theorem Qt0:zer64.length=64:=by simp [zer64]
theorem Qmz (h:R.length=0∨R.length=64):splice zer64 0 (R.map (Value.int .i64))=(QhP R).map (Value.int .i64):=by
 unfold QhP splice zer64;rcases h with h | h
 ·obtain rfl:=List.eq_nil_of_length_eq_zero h
  simp
 ·rw [if_neg (by omega)]
  simp [h]
theorem info1I:(prog.info? 2).map (·.size)=some 1:=by kernel_rfl
theorem RowI.full {B:Nat} (h:RowI w B g R):w.heap[g]?=some (.cells (R.map (Value.int .i64)).toArray 2 (0,0)):=by
 rcases h.2.2 with ⟨e,_⟩ | ⟨g',ab,aa,e,h1,h2,_,_,h5,h6⟩
 ·cases e
 ·cases e
  rw [h2]
  have hc:aa.toList=R.map (Value.int .i64):=by
   rw [<- h6,List.take_of_length_le (by simp [h5])]
  rw [<- hc]
theorem RowI.of {B:Nat} (h:R.length=64) (hB:B<=g) (hg:w.heap[g]?=some (.cells (R.map (Value.int .i64)).toArray 2 (0,0))):RowI w B g R:=
 ⟨h,by simp [h],.inr ⟨g,64,_,rfl,hB,hg,Nat.le_refl _,by unfold maxLen;omega,by simp [h],List.take_of_length_le (by simp [h])⟩⟩
theorem RowI.le {B B':Nat} (h:RowI w B g R) (hB:B'<=B):RowI w B' g R:=⟨h.1,Qbv h.2 hB⟩
theorem Qrh {w2:World} {K:Nat} (h:QaC .i64 w ao L) (hb:Below w.heap.size w w2):0<(L.map (Value.int .i64)).length->∃ ad,ao=some ad/\∀ j v,(L.map (Value.int .i64))[j]?=some v->w2.cell? (ad.add j)=some v:=fun h0=>by
 obtain ⟨b,off,rfl,hc⟩:=h (by simpa using h0);refine ⟨_,rfl,fun j v hv=>?_⟩;rw [List.getElem?_map] at hv;obtain ⟨x,hx,rfl⟩:=Option.map_eq_some_iff.1 hv;have:=Qab hb (hc j x hx);by_cases e:j=0
 ·subst e;simpa [Addr.add] using this
 ·simpa [Addr.add,e] using this
theorem Qo2 (w:World) (v:Value) (T:TypeId):(w.alloc (.cells #[v] T)).cell? ⟨w.heap.size,0,none⟩=some v:=by
 rw [cell_of_row _ w.heap.size 0 _ _ (0,0) (heap_alloc_new w (.cells #[v] T))];rfl
end
section
theorem QiJ (h:hlB E R=true):E.length<=40/\(R.length=0∨R.length=64):=by
 unfold hlB at h
 split at h
 ·rename_i h0
  unfold exB at h;simp only [Bool.and_eq_true,decide_eq_true_eq] at h;exact ⟨h.1,.inl h0⟩
 ·unfold QgQ at h
  simp only [Bool.and_eq_true,decide_eq_true_eq] at h;exact ⟨by omega,.inr h.2.1⟩
end
section
theorem ret_n {a b:Int} (h:a=b):Ending.returned (.int .i64 a)=.returned (.int .i64 b):=by rw [h]
theorem Qfj (a b:Int) (w:World) :
  Calls prog 83 #[.int .i64 a,.int .i64 b] w fun e w'=>e=.returned (.int .i64 (max a b))/\w'=w:=by
 by_cases h:b<a
 ·have HE:Hid (a=max a b):=(by omega:a=max a b)
  go_enter func83,ntmps83;go_wp2;go_ret;exact ⟨ret_n HE,rfl⟩
 ·have HE:Hid (b=max a b):=(by omega:b=max a b)
  go_enter func83,ntmps83;go_wp2;go_ret;exact ⟨ret_n HE,rfl⟩
end
section
theorem QtT {v:Nat} (h:9223372036854775808<=v) (h2:v<18446744073709551616):Lib.bitLen v=64:=by
 have hb:=Lib.bitLenAux_bounds 64 v (by simpa using h2) (by omega);have hl:=Qd0 v;have hd:Lib.bitLen v=Lib.bitLenAux 64 v:=rfl;rw [<- hd] at hb;by_cases q:Lib.bitLen v<=63
 ·have:2 ^ Lib.bitLen v<=2 ^ 63:=Nat.pow_le_pow_right (by omega) q
  omega
 ·omega
def Qg1 (n v:Int):Int:=min (64 - (Lib.bitLen v.toNat:Int)+n) 55
theorem Qnm (x:Int):Qg1 1 (IntKind.u64.wrap (x*64))=rho x:=rfl
theorem QqN {n:Int} (h1:1<=n) (h0:0<=v) (hv:v<9223372036854775808):Qg1 (n+1) (v*2)=Qg1 n v:=by
 unfold Qg1;by_cases e:v=0
 ·subst e
  simp [Lib.bitLen,Lib.bitLenAux_zero];omega
 ·have:=Lib.bitLen_half (v*2).toNat (by omega) (by omega)
  have h2:(v*2).toNat / 2=v.toNat:=by omega
  rw [h2] at this;rw [this];omega
theorem rho_full:Qg1 55 v=55:=by
 unfold Qg1;have:=Qd0 v.toNat;omega
theorem QsT {n:Int} (hn:n<=55) (hv:9223372036854775808<=v) (h2:v<18446744073709551616):Qg1 n v=n:=by
 unfold Qg1;rw [QtT (by omega) (by omega)];omega
theorem Qtt {B:Nat} (x:Int) (hx:U64 x) (hR:RowI w B g R) :
  Calls prog 186 #[.slice (some ⟨g,0,none⟩) 64 64,.int .u64 x] w fun e w'=>(∃ r,e=.returned r)/\RowI w' B g (lay R x)/\Below B w w':=by
 have ab:=reg_lt hx;have q0:0<=x / 288230376151711744:=by unfold U64 at hx;omega
 have q1:x / 288230376151711744<64:=by unfold U64 at hx;omega
 have qw:IntKind.i64.wrap (x / 288230376151711744)=x / 288230376151711744:=ZZi _ ⟨by omega,by omega⟩;obtain ⟨v,hv⟩:∃ v,v=R.getD (reg x) 0:=⟨_,rfl⟩;have aa:w.cell? ⟨g,(x / 288230376151711744).toNat,none⟩=some (.int .i64 v):=hR.cell ab hv;have ad:w.frozen? ⟨g,(x / 288230376151711744).toNat,none⟩=false:=hR.froz (reg x)
 have HF:Hid (∀ y,y=rho x->RowI (w.setCell ⟨g,(x / 288230376151711744).toNat,none⟩ (.int .i64 (max v y))) B g (lay R x)/\Below B w (w.setCell ⟨g,(x / 288230376151711744).toNat,none⟩ (.int .i64 (max v y)))):=fun y hy=>by
  subst hy;refine ⟨?_,(ZZb _ _).setCell hR.lt.1 _⟩;have:=hR.set (reg x) (max v (rho x));unfold lay;rw [<- hv];exact this
 obtain ⟨s0,s1⟩:=QsQ (x*64);have HS:=Qaa (Qnm x);clear hR hv ab;go_enter func186,ntmps186;go_wp2
 go_loopw [5,6] (fun a b wr=>wr=w/\∃ n z:Int,a=.int .i64 n/\b=.int .u64 z/\1<=n/\n<=55/\0<=z/\z<=18446744073709551615/\Hid (Qg1 n z=rho x)) (fun a b wr=>55 - (Go.RowKit.intOf a).toNat)
 case atStart=>exact ⟨rfl,1,_,rfl,rfl,by omega,by omega,s0,s1,HS⟩
 case round=>
  clear HS s0 s1;obtain ⟨rfl,n,z,rfl,rfl,n1,n2,z0,z1,HR⟩:=hrel;by_cases hn:n<55
  ·by_cases hz:z<9223372036854775808
   ·have dz:z / 9223372036854775808=0:=by omega
    have d0:decide (z / 9223372036854775808=0)=true:=ZZh dz;have uw:IntKind.u64.wrap (z*2)=z*2:=IntWalk.u64_in _ ⟨by omega,by omega⟩;have ac:Hid (Qg1 (n+1) (z*2)=rho x):=(QqN n1 z0 hz).trans HR;go_wp2;go_roundw
    case rel=>exact ⟨trivial,n+1,z*2,rfl,rfl,by omega,by omega,by omega,by omega,ac⟩
    case measure=>simp [zI];omega
   ·have dz:z / 9223372036854775808=1:=by omega
    have HE:Hid (n=rho x):=(QsT n2 (by omega) (by omega)).symm.trans HR;go_wp2_with (go_at_call 83;refine (Qfj _ _ _).mono ?_;rintro e w1 ⟨rfl,hw⟩;obtain rfl:=hw.symm)
    go_end0
    exact ⟨⟨_,rfl⟩,HF.out _ HE⟩
  ·obtain rfl:n=55:=by omega
   have HE:Hid ((55:Int)=rho x):=rho_full.symm.trans HR;go_wp2_with (go_at_call 83;refine (Qfj _ _ _).mono ?_;rintro e w1 ⟨rfl,hw⟩;obtain rfl:=hw.symm)
   go_end0
   exact ⟨⟨_,rfl⟩,HF.out _ HE⟩
end
section
theorem QiR (h:L[k]?=some y) (x:Int):x∈L.take (k+1)↔x∈L.take k∨x=y:=by
 rw [List.take_add_one,h];simp
theorem Qjo {eb:Option Addr} (h1:R.length=m) (h2:E.length=n) (l1:m=0∨m=64) (l2:n<=1000) (hR:QaC .i64 w ra R) (hE:QaC .u64 w eb E) (u1:∀ x∈E,U64 x) :
  Calls prog 169 #[.slice ra m d,.slice eb n c] w fun e w'=>∃ g R',e=.returned (.agg #[.slice none 0 0,.slice (some ⟨g,0,none⟩) 64 64])/\Laid (QhP R) (·∈E) R'/\RowI w' w.heap.size g R'/\Below w.heap.size w w':=by
 have HR:=Qaa hR;have HE:=Qaa hE;have H1:=Qaa h1;have H2:=Qaa h2;have L1:=Qaa l1;have U1:=Qaa u1;have aw:Hid ((QhP R).length=64):=QrA (by rw [h1];exact l1);obtain ⟨i0,hi,au,aq,ao⟩:=info_parts Qfi;have am:Hid (∀ o,Below w.heap.size w (w.alloc o)):=fun o=>(ZZb _ _).alloc (ZZa _) _;have av:=Qaa (ZZk w (.cells #[.slice none 0 0,.slice none 0 0] 71));clear hR hE h1 h2 l1 u1;go_enter func169,ntmps169
 go_wp2_with (first
  | (at_make;refine wpList_make_full _ rfl _ _ 69 rfl (w.heap.size+1) 2 i0 (.int .i64 0) 1 underlying69 hi au aq .i64 .i64 _ _ 64 rfl rfl rfl rfl (by rw [ao];omega) (by unfold maxLen;omega) (by simp) ?_;intro w2 ab aa;simp only [World.size_alloc] at ab ⊢; have ai:Hid (w2.heap[w.heap.size+1]?=some (.cells zer64.toArray 2 (0,0))):=RowI.full (R:=List.replicate 64 0) ⟨by simp,by rw [<- Qov];exact ab⟩;have af:Hid (Below (w.heap.size+1) (w.alloc (.cells #[.slice none 0 0,.slice none 0 0] 71)) w2):=(Below.refl _ _).grown aa (by simp) (fun k e=>by cases e);clear ab aa)
  | (refine wpList_copy_splice rfl _ _ 69 69 rfl 2 underlying69 info1I _ _ _ _ _ _ rfl rfl (w.heap.size+1) 0 _ 2 ai (R.map (Value.int .i64)) (by rw [List.length_map,H1.out];rcases L1.out with q | q <;> rw [q] <;> rfl) (fun h0=>⟨rfl,Qrh (K:=0) HR ((am.out _).trans (af.out.mono (by omega))) h0⟩) (by rw [List.length_map,H1.out,Qt0];have:=L1.out;omega) (by intro v hv;simp at hv;obtain ⟨x,_,rfl⟩:=hv;rfl) (w.heap.size+1) (w.alloc (.cells #[.slice none 0 0,.slice none 0 0] 71)) af (Nat.le_refl _) ?_;intro w3 ad aj;have al:=Qaa aj;have ag:Hid (RowI w3 (w.heap.size+1) (w.heap.size+1) (QhP R)):=RowI.of aw (Nat.le_refl _) (by rw [<- Qmz (by rw [H1.out];exact L1.out)];exact ad.out);clear ad aj ai af))
 go_loopw [6] (fun i wr=>∃ (k:Nat) (R':List Int),k<=n/\i=.int .i64 k/\Hid (RowI wr (w.heap.size+1) (w.heap.size+1) R')/\Hid (Laid (QhP R) (·∈E.take k) R')/\Hid (Below (w.heap.size+1) (w.alloc (.cells #[.slice none 0 0,.slice none 0 0] 71)) wr)) (fun i wr=>n - (Go.RowKit.intOf i).toNat)
 case atStart=>exact ⟨0,QhP R,Nat.zero_le _,rfl,ag,Laid.start _ (fun x hx=>by simp at hx),al⟩
 case round=>
  clear ag al;obtain ⟨k,R',hk,rfl,HO,HL,ae⟩:=hrel;have an:=Qaa ((am.out (.cells #[.slice none 0 0,.slice none 0 0] 71)).trans (ae.out.mono (by omega)));by_cases az:k<n
  ·obtain ⟨b,ay,e,ac⟩:=HE.out (by have:=H2.out;omega)
   obtain ⟨y,hy⟩:∃ y,E[k]?=some y:=⟨E[k]'(by have:=H2.out;omega),ZZe _⟩;subst e;have ax:=Qab an (ac k y hy);have HY:=Qaa hy;have HZ:=Qaa (U1.out y (ZZn hy));clear ac hy;go_wp2_with (go_at_call 186;refine (Qtt _ HZ HO).mono ?_;rintro e w4 ⟨⟨r4,rfl⟩,ak,ah⟩;have ar:=Qaa ak;have ap:=Qaa (ae.out.trans ah);clear ak ah);go_roundw
   case rel=>exact ⟨k+1,_,by omega,by go_num,ar,HL.out.step (QiR HY),ap⟩
   case measure=>simp [zI];omega
  ·have HF:Hid (Laid (QhP R) (·∈E) R'):=by
    have:=HL.out;rw [List.take_of_length_le (by have:=H2.out;omega)] at this;exact this
   have R2:=(ae.out.block _ (by omega)).trans av;have q0:wr.cell? ⟨w.heap.size,0,none⟩=some (.slice none 0 0):=by rw [cell_of_row _ _ 0 _ _ (0,0) R2];rfl
   have q1:wr.cell? ⟨w.heap.size,1,none⟩=some (.slice none 0 0):=by rw [cell_of_row _ _ 1 _ _ (0,0) R2];rfl
   have f0:=fzR 0 R2;have f1:=fzR 1 R2;clear R2;go_wp2;refine bodyPost_ret (v:=.agg #[.slice none 0 0,.slice (some ⟨w.heap.size+1,0,none⟩) 64 64]) (by simp [results,results169,go_sem,q0,q1]) rfl ⟨_,R',rfl,HF,?_,?_⟩
   ·refine RowI.le (B:=w.heap.size+1) ?_ (by omega)
    refine ⟨HO.out.1,?_⟩
    repeat (refine ownsRow_setCell_below ?_ (by simp) _)
    exact HO.out.2
   ·exact (an.out.setCell (by simp) _).setCell (by simp) _
end
variable {kd:IntKind}
section
def Qfv (L:List Int) (p:Int) (k:Nat):Prop:=k<=L.length/\(∀ (t:Nat) (x:Int),L[t]?=some x->t<k->x<p)/\∀ x,L[k]?=some x->¬ x<p
theorem QgB {r:List Int} (h:Qfv (y :: r) p (k+1)):Qfv r p k:=
 ⟨by have:=h.1;simp at this;exact this,fun t x hx ht=>h.2.1 (t+1) x (by simpa using hx) (by omega),fun x hx=>h.2.2 x (by simpa using hx)⟩
theorem QoH {a:Int}:∀ (L:List Int) (k:Nat),Qfv L a k->L[k]?=some a->QcA L a=L.take k ++ [a] ++ L.drop (k+1)
 | [],k,_,h=>by simp at h
 | y :: r,0,hp,h=>by
  obtain rfl:y=a:=by simpa using h
  simp [QcA]
 | y :: r,k+1,hp,h=>by
  have hy:=hp.2.1 0 y rfl (by omega);rw [QcA,if_pos hy,QoH r k (QgB hp) (by simpa using h)];rfl
theorem QiI {a:Int}:∀ (L:List Int) (k:Nat),Qfv L a k->(∀ x,L[k]?=some x->x≠a)->QcA L a=L.take k ++ [a] ++ L.drop k
 | [],k,hp,h=>by have:=hp.1;simp at this;subst this;rfl
 | y :: r,0,hp,h=>by
  have hy:=hp.2.2 y rfl;have hne:y≠a:=h y rfl;rw [QcA,if_neg hy,if_neg hne];rfl
 | y :: r,k+1,hp,h=>by
  have hy:=hp.2.1 0 y rfl (by omega);rw [QcA,if_pos hy,QiI r k (QgB hp) (fun x hx=>h x (by simpa using hx))];rfl
theorem Qe2 (h:QaC kd w ao L) (k:Nat):QaC kd w ao (L.take k):=fun h0=>by
 obtain ⟨b,off,e,hc⟩:=h (by rw [List.length_take] at h0;omega);exact ⟨b,off,e,fun i x hx=>hc i x (by rw [List.getElem?_take] at hx;split at hx;exact hx;cases hx)⟩
theorem QhI {b off:Nat} (h:QaC kd w (some ⟨b,off,none⟩) L) (k:Nat):QaC kd w (some ⟨b,off+k,none⟩) (L.drop k):=fun h0=>by
 rw [List.length_drop] at h0;obtain ⟨b',off',e,hc⟩:=h (by omega)
 cases e
 exact ⟨b,off+k,rfl,fun i x hx=>by rw [List.getElem?_drop] at hx;have:=hc (k+i) x hx;rw [show off+k+i=off+(k+i) by omega];exact this⟩
theorem QoJ (a:Int) (hn:L.length=n) (hl:n<=1000000) (hcap:n<=c) (hcm:c<=maxLen) (hf:Qo3 ao) (hno:ao=none->c=0) (hA:QaC .u64 w ao L) :
  Calls prog 170 #[.slice ao n c,.int .u64 a] w fun e w'=>∃ v,e=.returned v/\w'.ownsRow w.heap.size 62 1 v (QcA L a).length ((QcA L a).map (Value.int .u64))/\Below w.heap.size w w':=by
 obtain ⟨i0,hi,af,ag,ae⟩:=info_parts Qd4;have HA:=Qaa hA;have HN:=Qaa hn;have az:=Qaa hno;have aA:=Qaa hf;unfold maxLen at hcm;clear hA hn hno hf;go_enter func170,ntmps170;go_wp2
 go_loop [5] (fun i=>∃ k:Nat,k<=n/\i=.int .i64 k/\Hid (∀ (t:Nat) (x:Int),L[t]?=some x->t<k->x<a)) (fun i=>n - (Go.RowKit.intOf i).toNat)
 case atStart=>exact ⟨0,ZZj _,rfl,(fun t x _ h=>absurd h (by omega):∀ (t:Nat) (x:Int),L[t]?=some x->t<0->x<a)⟩
 case round=>
  obtain ⟨k,hk,rfl,HF⟩:=hrel;by_cases aF:k<n
  ·obtain ⟨b,ah,e,ai⟩:=HA.out (by have:=HN.out;omega)
   subst e;obtain ⟨y,ak⟩:∃ y,L[k]?=some y:=⟨L[k]'(by have:=HN.out;omega),ZZe _⟩;have aj:=ai k y ak;clear ai;by_cases ap:y<a
   ·have aB:Hid (∀ (t:Nat) (x:Int),L[t]?=some x->t<k+1->x<a):=(fun t z hz ht=>by
     by_cases e:t=k
     ·subst e;rw [ak] at hz;obtain rfl:=Option.some.inj hz;exact ap
     ·exact HF.out t z hz (by omega):∀ (t:Nat) (x:Int),L[t]?=some x->t<k+1->x<a)
    have d1:decide (y<a)=true:=ZZh ap;clear ak;go_wp2
    go_round
    case rel=>exact ⟨k+1,by omega,by go_num,aB⟩
    case measure=>simp [zI];omega
   ·have HK:Hid (Qfv L a k):=(⟨by have:=HN.out;omega,HF,fun z hz=>by rw [ak] at hz;obtain rfl:=Option.some.inj hz;exact ap⟩:Qfv L a k)
    have d1:decide (y<a)=false:=ZZg ap;have au:=Qaa ak;clear ak HF;by_cases ar:y=a
    ·subst ar
     have HE:Hid (QcA L y=L.take k ++ [y] ++ L.drop (k+1)):=QoH L k HK au;have aE:IntKind.i64.wrap ((k:Int)+1)=(k:Int)+1:=by rw [IntKind.wrap_i64];omega
     have aG:((k:Int)+1).toNat=k+1:=by omega
     have aH:(0:Int)<=(k:Int)+1:=by omega
     have aD:(k:Int)+1<=(n:Int):=by omega
     by_cases ay:c=k+1
     ·subst ay
      have ax:n=k+1:=by omega
      have aI:k+1 - (k+1)=0:=by omega
      subst ax;have av:Hid (QcA L y=L.take k ++ [y] ++ []):=(by rw [HE.out,List.drop_eq_nil_of_le (by have:=HN.out;omega)];exact Qaa rfl)
      go_wp2_with (first
       | (at_builtin;refine Qad _ rfl (.tmp 21) (.tmp 24) 68 rfl w.heap.size 62 i0 (.int .u64 0) 1 8 underlying68 hi af ag ae rfl (by decide) _ _ _ rfl (World.ownsRow_made _ #[] 0 (Nat.le_refl _) (Nat.zero_le _) rfl) (some ⟨b,ah,none⟩) k (k+1) ((L.take k).map (Value.int .u64)) rfl (by rw [List.length_map,List.length_take];have:=HN.out;omega) (fun e=>by cases e) (QbJ (Qe2 (Qak HA ((Below.refl _ _).alloc (Nat.le_refl _) _)) k)) (QaT _ _) (by unfold maxLen;omega) (by omega) (by simp) ?_;intro v1 w1 ab aa ac;simp only [Nat.zero_add,List.nil_append] at ab;obtain ⟨am,c1,rfl⟩:=Qan ab;have O1:=Qaa ab;have B1:=Qaa (((Below.refl w.heap.size w).alloc (Nat.le_refl _) _).grown aa (by simp) (fun j hj=>by cases hj;exact Nat.le_refl _));have y0:=Qab B1 aj;clear ab aa ac)
       | (at_builtin;refine Qad _ rfl (.tmp 26) (.tmp 28) 68 rfl w.heap.size 62 i0 (.int .u64 0) 1 8 underlying68 hi af ag ae rfl (by decide) _ _ _ rfl (QaY O1 ((Below.refl _ _).alloc (Nat.le_refl _) _)) (some ⟨w1.heap.size,0,none⟩) 1 1 [.int .u64 y] rfl rfl (fun e=>by cases e) (fun ad e=>by cases e;exact Qau (cs:=#[.int .u64 y]) rfl) (QaT .u64 [y]) (by unfold maxLen;omega) (by omega) (by simp;have:=B1.out.size;omega) ?_;intro v2 w2 ab aa ac;obtain ⟨an,c2,rfl⟩:=Qan ab;have O2:=Qaa ab;have B2:=Qaa ((B1.out.alloc B1.out.size _).grown aa (by simp;have:=B1.out.size;omega) (fun j hj=>Qa6 O1 j hj));have x0:=Qab B2 aj;clear ab aa ac)
       | (at_builtin;refine Qad _ rfl (.tmp 44) (.tmp 47) 68 rfl w.heap.size 62 i0 (.int .u64 0) 1 8 underlying68 hi af ag ae rfl (by decide) _ _ _ rfl O2 (some ⟨b,ah,none⟩) 0 0 (([]:List Int).map (Value.int .u64)) rfl rfl (fun e=>by cases e) (fun A _ j z hz=>by simp at hz) (QaT _ _) (by unfold maxLen;omega) (by omega) (by have:=B2.out.size;omega) ?_;intro v3 w3 ab aa ac;obtain ⟨al,c3,rfl⟩:=Qan ab;have O3:=Qaa ab;have B3:=Qaa (B2.out.grown aa B2.out.size (fun j hj=>Qa6 O2 j hj));clear ab aa ac))
      all_goals
       go_ret;refine ⟨_,rfl,?_,B3⟩
       have el:(QcA L y).length=k+1+0:=by
        rw [av.out];have:=HN.out;simp only [List.length_append,List.length_take,List.length_drop,List.length_cons,List.length_nil];omega
       rw [el,av.out,List.map_append,List.map_append];exact O3.out
     ·go_wp2_with (first
       | (at_builtin;refine Qad _ rfl (.tmp 21) (.tmp 24) 68 rfl w.heap.size 62 i0 (.int .u64 0) 1 8 underlying68 hi af ag ae rfl (by decide) _ _ _ rfl (World.ownsRow_made _ #[] 0 (Nat.le_refl _) (Nat.zero_le _) rfl) (some ⟨b,ah,none⟩) k c ((L.take k).map (Value.int .u64)) rfl (by rw [List.length_map,List.length_take];have:=HN.out;omega) (fun e=>by cases e) (QbJ (Qe2 (Qak HA ((Below.refl _ _).alloc (Nat.le_refl _) _)) k)) (QaT _ _) (by unfold maxLen;omega) (by omega) (by simp) ?_;intro v1 w1 ab aa ac;simp only [Nat.zero_add,List.nil_append] at ab;obtain ⟨am,c1,rfl⟩:=Qan ab;have O1:=Qaa ab;have B1:=Qaa (((Below.refl w.heap.size w).alloc (Nat.le_refl _) _).grown aa (by simp) (fun j hj=>by cases hj;exact Nat.le_refl _));have y0:=Qab B1 aj;clear ab aa ac)
       | (at_builtin;refine Qad _ rfl (.tmp 26) (.tmp 28) 68 rfl w.heap.size 62 i0 (.int .u64 0) 1 8 underlying68 hi af ag ae rfl (by decide) _ _ _ rfl (QaY O1 ((Below.refl _ _).alloc (Nat.le_refl _) _)) (some ⟨w1.heap.size,0,none⟩) 1 1 [.int .u64 y] rfl rfl (fun e=>by cases e) (fun ad e=>by cases e;exact Qau (cs:=#[.int .u64 y]) rfl) (QaT .u64 [y]) (by unfold maxLen;omega) (by omega) (by simp;have:=B1.out.size;omega) ?_;intro v2 w2 ab aa ac;obtain ⟨an,c2,rfl⟩:=Qan ab;have O2:=Qaa ab;have B2:=Qaa ((B1.out.alloc B1.out.size _).grown aa (by simp;have:=B1.out.size;omega) (fun j hj=>Qa6 O1 j hj));have x0:=Qab B2 aj;clear ab aa ac)
       | (at_builtin;refine Qad _ rfl (.tmp 44) (.tmp 47) 68 rfl w.heap.size 62 i0 (.int .u64 0) 1 8 underlying68 hi af ag ae rfl (by decide) _ _ _ rfl O2 (some ⟨b,ah+(k+1),none⟩) (n - (k+1)) (c - (k+1)) ((L.drop (k+1):List Int).map (Value.int .u64)) rfl (by rw [List.length_map,List.length_drop];have:=HN.out;omega) (fun e=>by cases e) (QbJ (QhI (Qak HA B2) (k+1))) (QaT _ _) (by unfold maxLen;omega) (by omega) (by have:=B2.out.size;omega) ?_;intro v3 w3 ab aa ac;obtain ⟨al,c3,rfl⟩:=Qan ab;have O3:=Qaa ab;have B3:=Qaa (B2.out.grown aa B2.out.size (fun j hj=>Qa6 O2 j hj));clear ab aa ac))
      all_goals
       go_ret;refine ⟨_,rfl,?_,B3⟩
       have el:(QcA L y).length=k+1+(n - (k+1)):=by
        rw [HE.out];have:=HN.out;simp only [List.length_append,List.length_take,List.length_drop,List.length_cons,List.length_nil];omega
       rw [el,HE.out,List.map_append,List.map_append];exact O3.out
    ·have HE:Hid (QcA L a=L.take k ++ [a] ++ L.drop k):=QiI L k HK (fun z hz=>by rw [au.out] at hz;obtain rfl:=Option.some.inj hz;exact ar)
     have aw:¬ (c=k):=by omega
     have d2:decide (y=a)=false:=ZZg ar
     go_wp2_with (first
      | (at_builtin;refine Qad _ rfl (.tmp 21) (.tmp 24) 68 rfl w.heap.size 62 i0 (.int .u64 0) 1 8 underlying68 hi af ag ae rfl (by decide) _ _ _ rfl (World.ownsRow_made _ #[] 0 (Nat.le_refl _) (Nat.zero_le _) rfl) (some ⟨b,ah,none⟩) k c ((L.take k).map (Value.int .u64)) rfl (by rw [List.length_map,List.length_take];have:=HN.out;omega) (fun e=>by cases e) (QbJ (Qe2 (Qak HA ((Below.refl _ _).alloc (Nat.le_refl _) _)) k)) (QaT _ _) (by unfold maxLen;omega) (by omega) (by simp) ?_;intro v1 w1 ab aa ac;simp only [Nat.zero_add,List.nil_append] at ab;obtain ⟨am,c1,rfl⟩:=Qan ab;have O1:=Qaa ab;have B1:=Qaa (((Below.refl w.heap.size w).alloc (Nat.le_refl _) _).grown aa (by simp) (fun j hj=>by cases hj;exact Nat.le_refl _));have y0:=Qab B1 aj;clear ab aa ac)
      | (at_builtin;refine Qad _ rfl (.tmp 26) (.tmp 28) 68 rfl w.heap.size 62 i0 (.int .u64 0) 1 8 underlying68 hi af ag ae rfl (by decide) _ _ _ rfl (QaY O1 ((Below.refl _ _).alloc (Nat.le_refl _) _)) (some ⟨w1.heap.size,0,none⟩) 1 1 [.int .u64 a] rfl rfl (fun e=>by cases e) (fun ad e=>by cases e;exact Qau (cs:=#[.int .u64 a]) rfl) (QaT .u64 [a]) (by unfold maxLen;omega) (by omega) (by simp;have:=B1.out.size;omega) ?_;intro v2 w2 ab aa ac;obtain ⟨an,c2,rfl⟩:=Qan ab;have O2:=Qaa ab;have B2:=Qaa ((B1.out.alloc B1.out.size _).grown aa (by simp;have:=B1.out.size;omega) (fun j hj=>Qa6 O1 j hj));have x0:=Qab B2 aj;clear ab aa ac)
      | (at_builtin;refine Qad _ rfl (.tmp 44) (.tmp 47) 68 rfl w.heap.size 62 i0 (.int .u64 0) 1 8 underlying68 hi af ag ae rfl (by decide) _ _ _ rfl O2 (some ⟨b,ah+k,none⟩) (n - k) (c - k) ((L.drop k:List Int).map (Value.int .u64)) rfl (by rw [List.length_map,List.length_drop];have:=HN.out;omega) (fun e=>by cases e) (QbJ (QhI (Qak HA B2) k)) (QaT _ _) (by unfold maxLen;omega) (by omega) (by have:=B2.out.size;omega) ?_;intro v3 w3 ab aa ac;obtain ⟨al,c3,rfl⟩:=Qan ab;have O3:=Qaa ab;have B3:=Qaa (B2.out.grown aa B2.out.size (fun j hj=>Qa6 O2 j hj));clear ab aa ac))
     all_goals
      go_ret;refine ⟨_,rfl,?_,B3⟩
      have el:(QcA L a).length=k+1+(n - k):=by
       rw [HE.out];have:=HN.out;simp only [List.length_append,List.length_take,List.length_drop,List.length_cons,List.length_nil];omega
      rw [el,HE.out,List.map_append,List.map_append];exact O3.out
  ·have aq:k=n:=by omega
   subst aq;have HK:Hid (Qfv L a k):=(⟨by have:=HN.out;omega,HF,fun z hz=>absurd (ZZd.1 hz).1 (by have:=HN.out;omega)⟩:Qfv L a k)
   have HE:Hid (QcA L a=L ++ [a] ++ []):=(by
    rw [QiI L k HK.out (fun z hz=>absurd (List.getElem?_eq_some_iff.1 hz).1 (by have:=HN.out;omega)),List.take_of_length_le (by have:=HN.out;omega),List.drop_eq_nil_of_le (by have:=HN.out;omega)];exact Qaa rfl)
   clear HK HF;rcases aA.out with rfl | ⟨b,ah,rfl⟩
   ·have h0:c=0:=az.out rfl
    subst h0;have aC:k=0:=by omega
    subst aC
    go_wp2_with (first
     | (at_builtin;refine Qad _ rfl (.tmp 21) (.tmp 24) 68 rfl w.heap.size 62 i0 (.int .u64 0) 1 8 underlying68 hi af ag ae rfl (by decide) _ _ _ rfl (World.ownsRow_made _ #[] 0 (Nat.le_refl _) (Nat.zero_le _) rfl) (none) 0 0 ((L).map (Value.int .u64)) rfl (by rw [List.length_map];have:=HN.out;omega) (fun e=>⟨rfl,rfl⟩) (QbJ (Qak HA ((Below.refl _ _).alloc (Nat.le_refl _) _))) (QaT _ _) (by unfold maxLen;omega) (by omega) (by simp) ?_;intro v1 w1 ab aa ac;simp only [Nat.zero_add,List.nil_append] at ab;obtain ⟨am,c1,rfl⟩:=Qan ab;have O1:=Qaa ab;have B1:=Qaa (((Below.refl w.heap.size w).alloc (Nat.le_refl _) _).grown aa (by simp) (fun j hj=>by cases hj;exact Nat.le_refl _));clear ab aa ac)
     | (at_builtin;refine Qad _ rfl (.tmp 26) (.tmp 28) 68 rfl w.heap.size 62 i0 (.int .u64 0) 1 8 underlying68 hi af ag ae rfl (by decide) _ _ _ rfl (QaY O1 ((Below.refl _ _).alloc (Nat.le_refl _) _)) (some ⟨w1.heap.size,0,none⟩) 1 1 [.int .u64 a] rfl rfl (fun e=>by cases e) (fun ad e=>by cases e;exact Qau (cs:=#[.int .u64 a]) rfl) (QaT .u64 [a]) (by unfold maxLen;omega) (by omega) (by simp;have:=B1.out.size;omega) ?_;intro v2 w2 ab aa ac;obtain ⟨an,c2,rfl⟩:=Qan ab;have O2:=Qaa ab;have B2:=Qaa ((B1.out.alloc B1.out.size _).grown aa (by simp;have:=B1.out.size;omega) (fun j hj=>Qa6 O1 j hj));clear ab aa ac)
     | (at_builtin;refine Qad _ rfl (.tmp 44) (.tmp 47) 68 rfl w.heap.size 62 i0 (.int .u64 0) 1 8 underlying68 hi af ag ae rfl (by decide) _ _ _ rfl O2 (none) 0 0 (([]:List Int).map (Value.int .u64)) rfl rfl (fun e=>⟨rfl,rfl⟩) (fun A _ j z hz=>by simp at hz) (QaT _ _) (by unfold maxLen;omega) (by omega) (by have:=B2.out.size;omega) ?_;intro v3 w3 ab aa ac;obtain ⟨al,c3,rfl⟩:=Qan ab;have O3:=Qaa ab;have B3:=Qaa (B2.out.grown aa B2.out.size (fun j hj=>Qa6 O2 j hj));clear ab aa ac))
    all_goals
     go_ret;refine ⟨_,rfl,?_,B3⟩
     have el:(QcA L a).length=0+1+0:=by
      rw [HE.out];have:=HN.out;simp only [List.length_append,List.length_take,List.length_drop,List.length_cons,List.length_nil];omega
     rw [el,HE.out,List.map_append,List.map_append];exact O3.out
   ·by_cases aw:c=k
    ·subst aw
     go_wp2_with (first
      | (at_builtin;refine Qad _ rfl (.tmp 21) (.tmp 24) 68 rfl w.heap.size 62 i0 (.int .u64 0) 1 8 underlying68 hi af ag ae rfl (by decide) _ _ _ rfl (World.ownsRow_made _ #[] 0 (Nat.le_refl _) (Nat.zero_le _) rfl) (some ⟨b,ah,none⟩) c c ((L).map (Value.int .u64)) rfl (by rw [List.length_map];have:=HN.out;omega) (fun e=>by cases e) (QbJ (Qak HA ((Below.refl _ _).alloc (Nat.le_refl _) _))) (QaT _ _) (by unfold maxLen;omega) (by omega) (by simp) ?_;intro v1 w1 ab aa ac;simp only [Nat.zero_add,List.nil_append] at ab;obtain ⟨am,c1,rfl⟩:=Qan ab;have O1:=Qaa ab;have B1:=Qaa (((Below.refl w.heap.size w).alloc (Nat.le_refl _) _).grown aa (by simp) (fun j hj=>by cases hj;exact Nat.le_refl _));clear ab aa ac)
      | (at_builtin;refine Qad _ rfl (.tmp 26) (.tmp 28) 68 rfl w.heap.size 62 i0 (.int .u64 0) 1 8 underlying68 hi af ag ae rfl (by decide) _ _ _ rfl (QaY O1 ((Below.refl _ _).alloc (Nat.le_refl _) _)) (some ⟨w1.heap.size,0,none⟩) 1 1 [.int .u64 a] rfl rfl (fun e=>by cases e) (fun ad e=>by cases e;exact Qau (cs:=#[.int .u64 a]) rfl) (QaT .u64 [a]) (by unfold maxLen;omega) (by omega) (by simp;have:=B1.out.size;omega) ?_;intro v2 w2 ab aa ac;obtain ⟨an,c2,rfl⟩:=Qan ab;have O2:=Qaa ab;have B2:=Qaa ((B1.out.alloc B1.out.size _).grown aa (by simp;have:=B1.out.size;omega) (fun j hj=>Qa6 O1 j hj));clear ab aa ac)
      | (at_builtin;refine Qad _ rfl (.tmp 44) (.tmp 47) 68 rfl w.heap.size 62 i0 (.int .u64 0) 1 8 underlying68 hi af ag ae rfl (by decide) _ _ _ rfl O2 (_) 0 _ (([]:List Int).map (Value.int .u64)) rfl rfl (fun e=>by cases e) (fun A _ j z hz=>by simp at hz) (QaT _ _) (by unfold maxLen;omega) (by omega) (by have:=B2.out.size;omega) ?_;intro v3 w3 ab aa ac;obtain ⟨al,c3,rfl⟩:=Qan ab;have O3:=Qaa ab;have B3:=Qaa (B2.out.grown aa B2.out.size (fun j hj=>Qa6 O2 j hj));clear ab aa ac))
     all_goals
      go_ret;refine ⟨_,rfl,?_,B3⟩
      have el:(QcA L a).length=c+1+0:=by
       rw [HE.out];have:=HN.out;simp only [List.length_append,List.length_take,List.length_drop,List.length_cons,List.length_nil];omega
      rw [el,HE.out,List.map_append,List.map_append];exact O3.out
    ·go_wp2_with (first
      | (at_builtin;refine Qad _ rfl (.tmp 21) (.tmp 24) 68 rfl w.heap.size 62 i0 (.int .u64 0) 1 8 underlying68 hi af ag ae rfl (by decide) _ _ _ rfl (World.ownsRow_made _ #[] 0 (Nat.le_refl _) (Nat.zero_le _) rfl) (some ⟨b,ah,none⟩) k c ((L).map (Value.int .u64)) rfl (by rw [List.length_map];have:=HN.out;omega) (fun e=>by cases e) (QbJ (Qak HA ((Below.refl _ _).alloc (Nat.le_refl _) _))) (QaT _ _) (by unfold maxLen;omega) (by omega) (by simp) ?_;intro v1 w1 ab aa ac;simp only [Nat.zero_add,List.nil_append] at ab;obtain ⟨am,c1,rfl⟩:=Qan ab;have O1:=Qaa ab;have B1:=Qaa (((Below.refl w.heap.size w).alloc (Nat.le_refl _) _).grown aa (by simp) (fun j hj=>by cases hj;exact Nat.le_refl _));clear ab aa ac)
      | (at_builtin;refine Qad _ rfl (.tmp 26) (.tmp 28) 68 rfl w.heap.size 62 i0 (.int .u64 0) 1 8 underlying68 hi af ag ae rfl (by decide) _ _ _ rfl (QaY O1 ((Below.refl _ _).alloc (Nat.le_refl _) _)) (some ⟨w1.heap.size,0,none⟩) 1 1 [.int .u64 a] rfl rfl (fun e=>by cases e) (fun ad e=>by cases e;exact Qau (cs:=#[.int .u64 a]) rfl) (QaT .u64 [a]) (by unfold maxLen;omega) (by omega) (by simp;have:=B1.out.size;omega) ?_;intro v2 w2 ab aa ac;obtain ⟨an,c2,rfl⟩:=Qan ab;have O2:=Qaa ab;have B2:=Qaa ((B1.out.alloc B1.out.size _).grown aa (by simp;have:=B1.out.size;omega) (fun j hj=>Qa6 O1 j hj));clear ab aa ac)
      | (at_builtin;refine Qad _ rfl (.tmp 44) (.tmp 47) 68 rfl w.heap.size 62 i0 (.int .u64 0) 1 8 underlying68 hi af ag ae rfl (by decide) _ _ _ rfl O2 (_) 0 _ (([]:List Int).map (Value.int .u64)) rfl rfl (fun e=>by cases e) (fun A _ j z hz=>by simp at hz) (QaT _ _) (by unfold maxLen;omega) (by omega) (by have:=B2.out.size;omega) ?_;intro v3 w3 ab aa ac;obtain ⟨al,c3,rfl⟩:=Qan ab;have O3:=Qaa ab;have B3:=Qaa (B2.out.grown aa B2.out.size (fun j hj=>Qa6 O2 j hj));clear ab aa ac))
     all_goals
      go_ret;refine ⟨_,rfl,?_,B3⟩
      have el:(QcA L a).length=k+1+0:=by
       rw [HE.out];have:=HN.out;simp only [List.length_append,List.length_take,List.length_drop,List.length_cons,List.length_nil];omega
      rw [el,HE.out,List.map_append,List.map_append];exact O3.out
end
section
theorem Qij:∀ {m l:List Int},(l ++ m).Pairwise (· < ·)->Qjt l m=l ++ m
 | [],l,_=>by simp [Qjt]
 | x :: m,l,h=>by
  have hi:QcA l x=l ++ [x]:=by
   have hl:∀ y∈l,y<x:=fun y hy=>(List.pairwise_append.1 h).2.2 y hy x (by simp);clear h
   induction l with
   | nil=>rfl
   | cons y r ih=>rw [QcA,if_pos (hl y (by simp)),ih (fun z hz=>hl z (by simp [hz]))];rfl
  show Qjt (QcA l x) m=_
  rw [hi,Qij (by simpa using h)];simp
theorem QfP:∀ {L:List Int},upN L=true->L.Pairwise (· < ·)
 | [],_=>List.Pairwise.nil
 | [x],_=>by simp
 | x :: y :: r,h=>by
  simp only [upN,Bool.and_eq_true,decide_eq_true_eq] at h;have ih:=QfP h.2;refine List.pairwise_cons.2 ⟨fun z hz=>?_,ih⟩;rcases List.mem_cons.1 hz with rfl | hz
  ·exact h.1
  ·have:=(List.pairwise_cons.1 ih).1 z hz;omega
theorem Qir (h:upN E=true) (x:Int):QmX E [x]=QcA E x:=by
 unfold QmX;rw [Qij (l:=[]) (by simpa using QfP h)];rfl
theorem Qsy (hE:E=[]) (h64:R.length=64) (h:Laid (QhP R) (·∈[x]) R'):Mg E R [x] [] [] R':=by
 subst hE;refine .inr ⟨fun k=>by omega,rfl,?_⟩;rw [List.length_nil,QiQ];exact h.iff (fun y=>by simp [QmX,Qjt,QcA])
theorem Qrz (hu:upN E=true) (h40:¬ (QcA E x).length<=40) (h:Laid (QhP []) (·∈QcA E x) R'):Mg E [] [x] [] [] R':=by
 refine .inr ⟨fun k=>h40 (by rw [<- Qir hu];exact k.2.2),rfl,?_⟩;rw [List.length_nil,QiQ,Qir hu];exact h
theorem QtB (hu:upN E=true) (h40:(QcA E x).length<=40):Mg E [] [x] [] (QcA E x) []:=
 .inl ⟨rfl,rfl,by rw [Qir hu];exact h40,(Qir hu x).symm,rfl⟩
theorem Qjd (h:hlB E R=true):(R=[]/\upN E=true)∨(R.length=64/\E=[]):=by
 unfold hlB at h
 split at h
 ·rename_i h0
  unfold exB at h;simp only [Bool.and_eq_true,decide_eq_true_eq] at h;exact .inl ⟨List.eq_nil_of_length_eq_zero h0,h.2⟩
 ·unfold QgQ at h
  simp only [Bool.and_eq_true,decide_eq_true_eq] at h;exact .inr ⟨h.2.1,List.eq_nil_of_length_eq_zero h.1⟩
theorem Qqr {ea:Option Addr} (x:Int) (hb:hlB E R=true) (h1:E.length=n) (h2:R.length=m) (hcap:n<=c) (hcm:c<=maxLen) (f1:Qo3 ea) (c1:ea=none->c=0) (hE:QaC .u64 w ea E) (hR:QaC .i64 w ra R) (u1:∀ y∈E,U64 y) (ux:U64 x) :
  Calls prog 133 #[.agg #[.slice ea n c,.slice ra m d],.int .u64 x] w fun e w'=>∃ v E' R',e=.returned v/\Mg E R [x] [] E' R'/\QsJ w' w.heap.size v E' R'/\Below w.heap.size w w':=by
 have HE:=Qaa hE;have HR:=Qaa hR;have F1:=Qaa f1;have C1:=Qaa c1;have H1:=Qaa h1;have H2:=Qaa h2;have U1:=Qaa u1;have UX:=Qaa ux;have af:Hid (∀ o1 o2,Below w.heap.size w ((w.alloc o1).alloc o2)):=fun o1 o2=>((Below.refl _ _).alloc (Nat.le_refl _) _).alloc (by simp) _;have HL:=Qaa (QiJ hb);have HP:=Qaa (Qjd hb)
 have HC:Hid (∀ W,Below (w.heap.size+1+1) ((w.alloc (.cells #[.slice ea n c,.slice ra m d] 71)).alloc (.cells #[.slice none 0 0,.slice none 0 0] 71)) W->Qck W w.heap.size (.slice ea n c) (.slice ra m d)/\W.heap[w.heap.size+1]?=some (.cells #[.slice none 0 0,.slice none 0 0] 71 (0,0))/\Below w.heap.size w W):=fun W h=>by
  obtain ⟨q1,q2⟩:=Qiz w _ _ _ _ _ _ W (by simpa using h);exact ⟨q1,q2,(af.out _ _).trans (h.mono (by omega))⟩
 have au:n<=40:=by have:=HL.out.1;have:=H1.out;omega
 clear hE hR f1 c1 h1 h2 u1 ux hb;rcases HP.out with ⟨ar,al⟩ | ⟨ag,aq⟩
 ·have ah:m=0:=by rw [<- H2.out,ar];rfl
  subst ah;subst ar;have am:=Qaa al;clear al HP;go_enter func133,ntmps133;go_wp2_with fail;refine (QoJ x H1 (by omega) hcap hcm F1 C1 (Qak HE (af.out _ _))).mono ?_;rintro e w1 ⟨v1,rfl,o1,ak⟩;obtain ⟨⟨x0,x1⟩,r1,t1⟩:=HC.out w1 (by simpa using ak);have aH:=ak.size;simp only [World.size_alloc] at o1 aH;obtain ⟨k,hk⟩:∃ k,(QcA E x).length=k:=⟨_,rfl⟩;obtain ⟨ax,q1,rfl⟩:=Qan o1;obtain ⟨ap,aG,_,aB,aF,_⟩:=Ql4 o1;have aE:=Qaa o1;have an:=Qaa t1;have ae:=Qaa r1;have aA:=Qaa ap;have aw:k<=41:=by have:=Qj1 E x;have:=H1.out;omega
  have HK:=Qaa hk;rw [hk];clear o1 t1 r1 ak ap aG aB aF hk;have q0:w1.cell? ⟨w.heap.size+1,0,none⟩=some (.slice none 0 0):=by rw [cell_of_row _ _ 0 _ _ (0,0) ae.out];rfl
  have ad:w1.cell? ⟨w.heap.size+1,1,none⟩=some (.slice none 0 0):=by rw [cell_of_row _ _ 1 _ _ (0,0) ae.out];rfl
  have f0:=fzR 0 ae;have f1:=fzR 1 ae;by_cases ao:k<=40
  ·have aj:¬ (40:Int)<(k:Int):=by omega
   have HM:Hid (Mg E [] [x] [] (QcA E x) []):=QtB am (by rw [HK.out];exact ao);go_wp2;refine bodyPost_ret (v:=.agg #[.slice ax k q1,.slice none 0 0]) (by simp [results,results133,go_sem,q0,ad]) rfl ⟨_,_,[],rfl,HM,⟨_,_,rfl,?_,World.ownsRow_nil _ _ _ _⟩,?_⟩
   ·refine Qbv (B:=w.heap.size+1+1) ?_ (by omega)
    repeat (refine ownsRow_setCell_below ?_ (by simp) _)
    rw [<- HK.out];exact aE.out
   ·exact (an.out.setCell (by simp) _).setCell (by simp) _
  ·have aj:(40:Int)<(k:Int):=by omega
   have ay:Hid (∀ R',Laid (QhP []) (·∈QcA E x) R'->Mg E [] [x] [] [] R'):=fun R' h=>Qrz am (by rw [HK.out];exact ao) h
   have az:Hid (∀ y∈QcA E x,U64 y):=fun y hy=>by
    rcases (QfJ y E x).1 hy with rfl | h
    ·exact UX.out
    ·exact U1.out y h
   clear q0 ad f0 f1;go_wp2_with fail;refine (Qjo (R:=[]) rfl HK (.inl rfl) (by omega) (fun h=>by simp at h) aA az).mono ?_;rintro e w2 ⟨g,R',rfl,hL,aa,ac⟩;have r2:=(ac.block (w.heap.size+1) (by omega)).trans ae;have q0:w2.cell? ⟨w.heap.size+1,0,none⟩=some (.slice none 0 0):=by rw [cell_of_row _ _ 0 _ _ (0,0) r2];rfl
   have ad:w2.cell? ⟨w.heap.size+1,1,none⟩=some (.slice none 0 0):=by rw [cell_of_row _ _ 1 _ _ (0,0) r2];rfl
   have f0:=fzR 0 r2;have f1:=fzR 1 r2;have HM:=Qaa (ay.out R' hL);have ai:=Qaa (Qac an ac);have ab:=Qaa aa;clear hL aa ac r2;go_wp2;refine bodyPost_ret (v:=.agg #[.slice none 0 0,.slice (some ⟨g,0,none⟩) 64 64]) (by simp [results,results133,go_sem,q0,ad]) rfl ⟨_,[],R',rfl,HM,⟨_,_,rfl,World.ownsRow_nil _ _ _ _,?_⟩,?_⟩
   ·refine Qbv (B:=w1.heap.size) ?_ (by omega)
    repeat (refine ownsRow_setCell_below ?_ (by simp;omega) _)
    rw [ab.out.1];exact ab.out.2
   ·exact (ai.out.setCell (by simp) _).setCell (by simp) _
 ·have ah:m=64:=by rw [<- H2.out,ag]
  subst ah;have aC:=Qaa ag;have av:=Qaa aq;clear ag aq HP
  have aD:Hid (∀ (W:World) (g:Nat),W.heap.size=g->QaC .u64 (W.alloc (.cells #[.int .u64 x] 62)) (some ⟨g,0,none⟩) [x]):=(fun W g e _=>⟨g,0,rfl,fun i y hy=>by
   subst e
   cases i with
   | zero=>simp at hy;subst hy;exact Qo2 _ _ _
   | succ i=>simp at hy⟩)
  go_enter func133,ntmps133;go_wp2_with fail;refine (Qjo (E:=[x]) H2 rfl (.inr rfl) (by simp) (Qak HR ((af.out _ _).alloc (by simp;omega) _)) (aD.out _ _ (by simp)) (by intro y hy;simp at hy;subst hy;exact UX.out)).mono ?_;rintro e w2 ⟨g,R',rfl,hL,aa,ac⟩;obtain ⟨_,r2,t2⟩:=HC.out w2 (((Below.refl _ _).alloc (by simp) _).trans (ac.mono (by simp)));have q0:w2.cell? ⟨w.heap.size+1,0,none⟩=some (.slice none 0 0):=by rw [cell_of_row _ _ 0 _ _ (0,0) r2];rfl
  have ad:w2.cell? ⟨w.heap.size+1,1,none⟩=some (.slice none 0 0):=by rw [cell_of_row _ _ 1 _ _ (0,0) r2];rfl
  have f0:=fzR 0 r2;have f1:=fzR 1 r2;have HM:=Qaa (Qsy av aC hL);have ai:=Qaa t2;simp only [World.size_alloc] at aa;have ab:=Qaa aa;clear hL aa ac r2 t2;go_wp2;refine bodyPost_ret (v:=.agg #[.slice none 0 0,.slice (some ⟨g,0,none⟩) 64 64]) (by simp [results,results133,go_sem,q0,ad]) rfl ⟨_,[],R',rfl,HM,⟨_,_,rfl,World.ownsRow_nil _ _ _ _,?_⟩,?_⟩
  ·refine Qbv (B:=w.heap.size+1+1) ?_ (by omega)
   repeat (refine ownsRow_setCell_below ?_ (by simp) _)
   rw [ab.out.1];exact Qbv ab.out.2 (by omega)
  ·exact (ai.out.setCell (by simp) _).setCell (by simp) _
end
section
def mxx (A B:List Int):List Int:=mxL A B 64
theorem Qi6 (A B:List Int):(mxx A B).length=A.length:=QkH _ _ _
theorem Qll {B:List Int} (hA:A.length=64) (i:Nat) (hi:i<64):(mxx A B).getD i 0=max (A.getD i 0) (B.getD i 0):=by
 unfold mxx;rw [QsG A B 64 i (by omega),if_pos hi]
def Qe5 (B:List Int):Prop:=B.length=64/\∀ i,i<64->0<=B.getD i 0/\B.getD i 0<=55
theorem Laid.ok {B:List Int} (b:Qe5 B) (h:Laid B S R):Qe5 R:=⟨by rw [h.1];exact b.1,fun i hi=>by
 obtain ⟨h1,h2,h3⟩:=h.2 i (by rw [b.1];exact hi);have:=b.2 i hi;rcases h3 with h3 | ⟨x,_,_,h3⟩
 ·omega
 ·have:=Qtj x;omega⟩
theorem Laid.two {A' B B':List Int} (a:Qe5 A) (b:Qe5 B) (h:Laid A S A') (g:Laid B T B') (hU:∀ x,U x↔S x∨T x):Laid (mxx A B) U (mxx A' B'):=by
 have a':=h.ok a;have b':=g.ok b;refine ⟨by rw [Qi6,Qi6,a.1,a'.1],fun i hi=>?_⟩;have hi:i<64:=by rw [Qi6,a.1] at hi;exact hi
 obtain ⟨h1,h2,h3⟩:=h.2 i (by rw [a.1];exact hi);obtain ⟨g1,g2,g3⟩:=g.2 i (by rw [b.1];exact hi);rw [Qll a.1 i hi,Qll a'.1 i hi];refine ⟨by omega,fun x hx hr=>?_,?_⟩
 ·rcases (hU x).1 hx with hx | hx
  ·have:=h2 x hx hr;omega
  ·have:=g2 x hx hr;omega
 ·by_cases q:B'.getD i 0<=A'.getD i 0
  ·rcases h3 with h3 | ⟨x,hx,hr,h3⟩
   ·exact .inl (by omega)
   ·exact .inr ⟨x,(hU x).2 (.inl hx),hr,by omega⟩
  ·rcases g3 with g3 | ⟨x,hx,hr,g3⟩
   ·exact .inl (by omega)
   ·exact .inr ⟨x,(hU x).2 (.inr hx),hr,by omega⟩
end
section
def Qa9 (a b:Int):Int:=if 18446744073709551615<a+b then 18446744073709551615 else a+b
theorem QpC {a b:Int} (h:a=b):Ending.returned (.int .u64 a)=.returned (.int .u64 b):=by rw [h]
theorem Qb3 (a b:Int) (ha:U64 a) (hb:U64 b) (w:World) :
  Calls prog 128 #[.int .u64 a,.int .u64 b] w fun e w'=>e=.returned (.int .u64 (Qa9 a b))/\w'=w:=by
 have Ha:Hid (U64 a):=ha;have Hb:Hid (U64 b):=hb;clear ha hb;go_enter func128,ntmps128;go_wp2
 ·have h:=‹IntKind.u64.wrap (a+b)<a›
  have ha:=Ha.out;have hb:=Hb.out;go_ret;refine ⟨QpC ?_,rfl⟩;rw [IntKind.wrap_u64] at h;unfold U64 at ha hb;unfold Qa9;rw [if_pos (by omega)]
 ·have h:=‹a<=IntKind.u64.wrap (a+b)›
  have ha:=Ha.out;have hb:=Hb.out;go_ret;refine ⟨QpC ?_,rfl⟩;rw [IntKind.wrap_u64] at h ⊢; unfold U64 at ha hb;unfold Qa9;rw [if_neg (by omega)];omega
end
section
abbrev Qtn (w:World) (g:Nat) (a u:Int):Prop:=w.cell? ⟨g,0,none⟩=some (.int .i64 a)/\w.cell? ⟨g,1,none⟩=some (.int .u64 u)
theorem bc_new (w:World) (t:TypeId) (a u:Int):Qtn (w.alloc (.cells #[.int .i64 a,.int .u64 u] t)) w.heap.size a u:=by
 have hb:=ZZk w (.cells #[.int .i64 a,.int .u64 u] t);exact ⟨by rw [cell_of_row _ w.heap.size 0 _ _ (0,0) hb];rfl,by rw [cell_of_row _ w.heap.size 1 _ _ (0,0) hb];rfl⟩
end
section
theorem Qo6 {α:Type} {e:α->List Value} (he:∀ x,(e x).length=2):∀ (L:List α) (i:Nat),fl e (L.drop i)=(fl e L).drop (i*2)
 | [],i=>by simp [fl]
 | x :: L,0=>by simp [fl]
 | x :: L,i+1=>by
  rw [List.drop_succ_cons,QcZ,Qo6 he L i,List.drop_append,he,show List.drop ((i+1)*2) (e x)=[] from List.drop_of_length_le (by rw [he];omega),show (i+1)*2 - 2=i*2 by omega];rfl
end
section
theorem QiF {a b:Int} (ha:U64 a) (hb:U64 b):U64 (Qa9 a b):=by unfold Qa9;unfold U64 at *; split <;> omega
end
section
def Qdl (x:Int) (L:List Bn):Int:=L.foldl (fun s y=>Qa9 s y.2) x
theorem QlW {x:Int} (hx:U64 x):∀ {L:List Bn},(∀ y∈L,Qb4 y)->U64 (Qdl x L)
 | [],_=>hx
 | y :: r,h=>by
  have hy:=(h y (List.mem_cons_self ..)).2;have:U64 (Qa9 x y.2):=by unfold Qa9;unfold U64 at *; split <;> omega
  exact QlW this (fun z hz=>h z (ZZm _ hz))
theorem Qmp {L:List Bn} {j:Nat} {y:Bn} (h:L[j]?=some y):Qdl x (L.take (j+1))=Qa9 (Qdl x (L.take j)) y.2:=by
 rw [List.take_add_one,h];simp [Qdl,List.foldl_append]
def Qbj (L:List Bn):List Bn:=if L.length<=30 then L else match L.drop (L.length - 30) with
 | []=>[]
 | x :: r=>(x.1,Qdl x.2 (L.take (L.length - 30))) :: r
theorem Qrt {L:List Bn} {x:Bn} (h:L[k]?=some x):L.set k x=L:=by
 refine List.ext_getElem? fun j=>?_;by_cases e:k=j
 ·subst e;rw [List.getElem?_set_self (List.getElem?_eq_some_iff.1 h).1,h]
 ·rw [List.getElem?_set_ne e]
end
variable {N P a b:List Bn}
section
def mrg:List Bn->List Bn->List Bn
 | [],b=>b
 | x :: a,[]=>x :: a
 | x :: a,y :: b=>if x.1<y.1 then x :: mrg a (y :: b) else if y.1<x.1 then y :: mrg (x :: a) b else (x.1,Qa9 x.2 y.2) :: mrg a b
termination_by a b=>a.length+b.length
theorem Qc9 (b:List Bn):mrg [] b=b:=by rw [mrg]
theorem QbQ (a:List Bn):mrg a []=a:=by cases a <;> rw [mrg]
theorem Qhv {x y:Bn} (h:x.1<y.1):mrg (x :: a) (y :: b)=x :: mrg a (y :: b):=by rw [mrg,if_pos h]
theorem Qjp {x y:Bn} (h:y.1<x.1):mrg (x :: a) (y :: b)=y :: mrg (x :: a) b:=by rw [mrg,if_neg (by omega),if_pos h]
theorem QjY {x y:Bn} (h:x.1=y.1):mrg (x :: a) (y :: b)=(x.1,Qa9 x.2 y.2) :: mrg a b:=by rw [mrg,if_neg (by omega),if_neg (by omega)]
theorem Qhk {x:Bn} (hx:P[i]?=some x) (h:k=N.length∨∃ y,N[k]?=some y/\x.1<y.1):mrg (P.drop i) (N.drop k)=x :: mrg (P.drop (i+1)) (N.drop k):=by
 have hi:=(ZZd.1 hx).1;rw [List.drop_eq_getElem_cons hi,(List.getElem?_eq_some_iff.1 hx).2];rcases h with rfl | ⟨y,hy,aa⟩
 ·rw [List.drop_length,QbQ,QbQ]
 ·have hk:=(ZZd.1 hy).1
  rw [List.drop_eq_getElem_cons hk,(List.getElem?_eq_some_iff.1 hy).2,Qhv aa]
theorem Qhg {y:Bn} (hy:N[k]?=some y) (h:i=P.length∨∃ x,P[i]?=some x/\y.1<x.1):mrg (P.drop i) (N.drop k)=y :: mrg (P.drop i) (N.drop (k+1)):=by
 have hk:=(ZZd.1 hy).1;rw [List.drop_eq_getElem_cons hk,(List.getElem?_eq_some_iff.1 hy).2];rcases h with rfl | ⟨x,hx,aa⟩
 ·rw [List.drop_length,Qc9,Qc9]
 ·have hi:=(ZZd.1 hx).1
  rw [List.drop_eq_getElem_cons hi,(List.getElem?_eq_some_iff.1 hx).2,Qjp aa]
theorem Qmt {x y:Bn} (hx:P[i]?=some x) (hy:N[k]?=some y) (h:x.1=y.1):mrg (P.drop i) (N.drop k)=(x.1,Qa9 x.2 y.2) :: mrg (P.drop (i+1)) (N.drop (k+1)):=by
 have hi:=(ZZd.1 hx).1;have hk:=(ZZd.1 hy).1;rw [List.drop_eq_getElem_cons hi,(List.getElem?_eq_some_iff.1 hx).2,List.drop_eq_getElem_cons hk,(List.getElem?_eq_some_iff.1 hy).2,QjY h]
end
section
theorem Qga (R:List Bn) (x:Bn):fl QcL R ++ QcL x=fl QcL (R ++ [x]):=by rw [QhB,QoM]
theorem QqX {B:Nat} {T:TypeId} {v:Value} {xs:List Value} (h:w.ownsRow B T s v n xs) (hv:v≠.slice none 0 0):∃ g c,v=.slice (some ⟨g,0,none⟩) n c:=by
 rcases h.2 with ⟨e,_⟩ | ⟨g,c,_,e,_⟩
 ·exact absurd e hv
 ·exact ⟨g,c,e⟩
theorem mrg_ok (ha:∀ x∈a,Qb4 x) (hb:∀ x∈b,Qb4 x):∀ z∈mrg a b,Qb4 z:=by
 induction a,b using mrg.induct with
 | case1 b=>rw [Qc9];exact hb
 | case2 x a=>rw [QbQ];exact ha
 | case3 x a y b h ih=>
  rw [Qhv h];intro z hz;rcases List.mem_cons.1 hz with rfl | hz
  ·exact ha _ (List.mem_cons_self ..)
  ·exact ih (fun q hq=>ha q (ZZm _ hq)) hb z hz
 | case4 x a y b h h2 ih=>
  rw [Qjp h2];intro z hz;rcases List.mem_cons.1 hz with rfl | hz
  ·exact hb _ (List.mem_cons_self ..)
  ·exact ih ha (fun q hq=>hb q (ZZm _ hq)) z hz
 | case5 x a y b h h2 ih=>
  rw [QjY (by omega)];intro z hz;rcases List.mem_cons.1 hz with rfl | hz
  ·exact ⟨(ha x (List.mem_cons_self ..)).1,QiF (ha x (List.mem_cons_self ..)).2 (hb y (List.mem_cons_self ..)).2⟩
  ·exact ih (fun q hq=>ha q (ZZm _ hq)) (fun q hq=>hb q (ZZm _ hq)) z hz
theorem QmJ {R:List Bn} (h:s<R.length):(fl QcL (R.set s (p,x))).set (s*2+1) (.int .u64 y)=fl QcL (R.set s (p,y)):=by
 have hl:s<(R.set s (p,x)).length:=by rw [List.length_set];exact h
 have h1:=Qoi (u:=.int .i64 p) (v:=.int .u64 y) QdQ (R.set s (p,x)) s (p,y) hl rfl;rw [List.set_set] at h1;rw [<- h1]
 congr 1
 have h0:(fl QcL (R.set s (p,x)))[s*2]?=some (.int .i64 p):=by
  have:=QdN QdQ (R.set s (p,x)) s (p,x) 0 (by omega) (by simp [h]);rw [Nat.add_zero] at this;rw [this];rfl
 refine List.ext_getElem? fun j=>?_;by_cases e:s*2=j
 ·subst e;rw [List.getElem?_set_self (List.getElem?_eq_some_iff.1 h0).1,h0]
 ·rw [List.getElem?_set_ne e]
theorem Qq2 {R:List Bn} {x0:Int} (hq:R.length=s+30) (hs:0<s) (h:R[s]?=some (p,x0)):Qbj R=(R.set s (p,Qdl x0 (R.take s))).drop s:=by
 have aa:=(ZZd.1 h).1;unfold Qbj;rw [if_neg (by omega),show R.length - 30=s by omega,List.drop_eq_getElem_cons aa]
 have hd:(R.set s (p,Qdl x0 (R.take s))).drop s=(p,Qdl x0 (R.take s)) :: R.drop (s+1):=by
  rw [List.drop_eq_getElem_cons (by rw [List.length_set];exact aa)];rw [show (R.set s (p,Qdl x0 (R.take s))).drop (s+1)=R.drop (s+1) from List.ext_getElem? fun q=>by rw [List.getElem?_drop,List.getElem?_drop,List.getElem?_set_ne (by omega)]];simp
 rw [hd,(List.getElem?_eq_some_iff.1 h).2]
theorem Qem {bo:Option Addr} (c c' m n:Nat) (hm:P.length=m) (hn:N.length=n) (lm:m<=30) (ln:n<=30) (hA:QaO w ao P) (hB:QaO w bo N) (kA:∀ x∈P,Qb4 x) (kB:∀ x∈N,Qb4 x) :
  Calls prog 167 #[.slice ao m c,.slice bo n c'] w fun e w'=>∃ v' n',e=.returned v'/\w'.ownsRow w.heap.size 181 2 v' n' (fl QcL (Qbj (mrg P N)))/\n'=(Qbj (mrg P N)).length/\Below w.heap.size w w':=by
 obtain ⟨i0,hi,aw,aA,az⟩:=info_parts Qkq;have HA:=Qaa hA;have aR:=Qaa hB;have KA:=Qaa kA;have KB:=Qaa kB;have EM:=Qaa hm;have EN:=Qaa hn;clear hA hB kA kB hm hn;go_enter func167,ntmps167;go_wp2
 go_loopw [5,6,7] (fun v s t wr=>∃ (i k:Nat) (R:List Bn),i<=m/\k<=n/\s=.int .i64 i/\t=.int .i64 k/\v≠.slice none 0 0/\R.length<=i+k/\wr.ownsRow w.heap.size 181 2 v R.length (fl QcL R)/\Hid (R ++ mrg (P.drop i) (N.drop k)=mrg P N)/\Below w.heap.size w wr) (fun v s t wr=>(m - (RowKit.intOf s).toNat)+(n - (RowKit.intOf t).toNat))
 case atStart=>exact ⟨0,0,[],ZZj _,ZZj _,rfl,rfl,(fun e=>by cases e),ZZa _,World.ownsRow_made w #[] 0 (ZZa _) (ZZj _) rfl,(rfl:[] ++ mrg (P.drop 0) (N.drop 0)=mrg P N),(ZZb _ _).alloc (ZZa _) _⟩
 case round=>
  obtain ⟨i,k,R,ba,bd,rfl,rfl,hv,a1,ad,HR,ae⟩:=hrel;obtain ⟨g,cv,rfl⟩:=QqX ad hv;obtain ⟨q,hq⟩:∃ q,R.length=q:=⟨_,rfl⟩;rw [hq] at ad a1;rw [hq];have HQ:=Qaa hq;have HO:=Qaa ad;have HB:=Qaa ae;have aB:=Qaa (fun z=>(show (wr.drewN z).ownsRow w.heap.size 181 2 (.slice (some ⟨g,0,none⟩) q cv) q (fl QcL R) from ad));have ay:=Qaa (fun z o=>((Qao ae z).alloc ae.size o:Below w.heap.size w ((wr.drewN z).alloc o)));clear hq hv;have ax:(i<m/\k=n)∨(i<m/\k<n)∨(i=m/\k<n)∨(i=m/\k=n):=by omega
  rcases ax with ⟨aD,aE⟩ | ⟨aD,aE⟩ | ⟨aD,aE⟩ | ⟨aD,aE⟩
  ·subst aE
   obtain ⟨⟨a,u⟩,ap⟩:∃ x,P[i]?=some x:=⟨P[i]'(by have:=EM.out;omega),ZZe _⟩;obtain ⟨b,an,rfl,ag⟩:=HA.out (by have:=EM.out;omega);have ai:=Qab ae (ag i _ ap).1;have aj:=Qab ae (ag i _ ap).2
   have HE:Hid ((R ++ [(a,u)]) ++ mrg (P.drop (i+1)) (N.drop k)=mrg P N):=by
    refine (?_:(R ++ [(a,u)]) ++ mrg (P.drop (i+1)) (N.drop k)=mrg P N);rw [<- HR.out,Qhk ap (.inl EN.out.symm),List.append_assoc];rfl
   have d1:decide ((i:Int)<(m:Int))=true:=ZZh (by omega);clear ae ad ag ap;go_wp2
   go_quiet (fail)
   go_wp2_with (at_builtin;refine wpList_append_own _ rfl (.tmp 69) (.tmp 74) 65 rfl w.heap.size 181 i0 (.agg #[.int .i64 0,.int .u64 0]) 2 16 underlying65 hi aw aA az rfl (by decide) _ _ _ rfl ((aB.out _).alloc _) ⟨wr.heap.size,0,none⟩ 1 1 (QcL (a,u)) rfl rfl (Qau (cs:=#[.int .i64 a,.int .u64 u]) rfl) (Qdz _) (by unfold maxLen;omega) (by omega) (by simp;have:=HB.out.size;omega) ?_;intro v1 w1 ab aa ac;have O1:=Qaa ab;have B1:=Qaa ((ay.out _ _).grown aa (by simp;have:=HB.out.size;omega) (fun j hj=>(HO.out.lt j hj).1));have N1:=Qaa (show v1≠.slice none 0 0 from fun e=>by have:=(ac.1 e).2;omega);clear ab aa ac);go_roundw
   case rel=>exact ⟨i+1,k,R ++ [(a,u)],by omega,by omega,by go_num,rfl,N1,by simp;have:=HQ.out;omega,by have:=O1.out;rw [Qga] at this;simpa [HQ.out] using this,HE,B1⟩
   case measure=>simp [RowKit.intOf];omega
  ·obtain ⟨⟨a,u⟩,ap⟩:∃ x,P[i]?=some x:=⟨P[i]'(by have:=EM.out;omega),ZZe _⟩
   obtain ⟨⟨a',u'⟩,av⟩:∃ x,N[k]?=some x:=⟨N[k]'(by have:=EN.out;omega),ZZe _⟩;obtain ⟨b,an,rfl,ag⟩:=HA.out (by have:=EM.out;omega);obtain ⟨b',al,rfl,af⟩:=aR.out (by have:=EN.out;omega);have ai:=Qab ae (ag i _ ap).1;have aj:=Qab ae (ag i _ ap).2;have a2:=Qab ae (af k _ av).1;have ah:=Qab ae (af k _ av).2;obtain ⟨_,hu⟩:=KA.out _ (ZZn ap);obtain ⟨_,aQ⟩:=KB.out _ (ZZn av);simp only at hu aQ;have d1:decide ((i:Int)<(m:Int))=true:=ZZh (by omega);have d2:((k:Int) == (n:Int))=false:=ZZf.2 (by omega);have d3:((i:Int) == (m:Int))=false:=ZZf.2 (by omega);have aI:=Qaa ap;have aN:=Qaa av;have aO:=Qaa (⟨(ag i _ ap).1,(ag i _ ap).2,(af k _ av).2⟩:w.cell? ⟨b,an+i*2,none⟩=some (.int .i64 a)/\w.cell? ⟨b,an+i*2+1,none⟩=some (.int .u64 u)/\w.cell? ⟨b',al+k*2+1,none⟩=some (.int .u64 u'));clear ae ad ag af ap av;have c3:a<a'∨(¬ a<a'/\a'<a)∨(¬ a<a'/\¬ a'<a):=by omega
   rcases c3 with h1 | ⟨h1,h2⟩ | ⟨h1,h2⟩
   ·have HE:Hid ((R ++ [(a,u)]) ++ mrg (P.drop (i+1)) (N.drop k)=mrg P N):=by
     refine (?_:(R ++ [(a,u)]) ++ mrg (P.drop (i+1)) (N.drop k)=mrg P N);rw [<- HR.out,Qhk aI.out (.inr ⟨_,aN.out,h1⟩),List.append_assoc];rfl
    have d4:decide (a<a')=true:=ZZh h1;go_wp2
    go_quiet (fail)
    go_wp2_with (at_builtin;refine wpList_append_own _ rfl (.tmp 69) (.tmp 74) 65 rfl w.heap.size 181 i0 (.agg #[.int .i64 0,.int .u64 0]) 2 16 underlying65 hi aw aA az rfl (by decide) _ _ _ rfl ((aB.out _).alloc _) ⟨wr.heap.size,0,none⟩ 1 1 (QcL (a,u)) rfl rfl (Qau (cs:=#[.int .i64 a,.int .u64 u]) rfl) (Qdz _) (by unfold maxLen;omega) (by omega) (by simp;have:=HB.out.size;omega) ?_;intro v1 w1 ab aa ac;have O1:=Qaa ab;have B1:=Qaa ((ay.out _ _).grown aa (by simp;have:=HB.out.size;omega) (fun j hj=>(HO.out.lt j hj).1));have N1:=Qaa (show v1≠.slice none 0 0 from fun e=>by have:=(ac.1 e).2;omega);clear ab aa ac);go_roundw
    case rel=>exact ⟨i+1,k,R ++ [(a,u)],by omega,by omega,by go_num,by go_num,N1,by simp;have:=HQ.out;omega,by have:=O1.out;rw [Qga] at this;simpa [HQ.out] using this,HE,B1⟩
    case measure=>simp [RowKit.intOf];omega
   ·have HE:Hid ((R ++ [(a',u')]) ++ mrg (P.drop i) (N.drop (k+1))=mrg P N):=by
     refine (?_:(R ++ [(a',u')]) ++ mrg (P.drop i) (N.drop (k+1))=mrg P N);rw [<- HR.out,Qhg aN.out (.inr ⟨_,aI.out,h2⟩),List.append_assoc];rfl
    have d4:decide (a<a')=false:=ZZg h1;have d5:decide (a'<a)=true:=ZZh h2;go_wp2
    go_quiet (fail)
    go_wp2
    go_quiet (fail)
    go_wp2_with (at_builtin;refine wpList_append_own _ rfl (.tmp 96) (.tmp 101) 65 rfl w.heap.size 181 i0 (.agg #[.int .i64 0,.int .u64 0]) 2 16 underlying65 hi aw aA az rfl (by decide) _ _ _ rfl ((aB.out _).alloc _) ⟨wr.heap.size,0,none⟩ 1 1 (QcL (a',u')) rfl rfl (Qau (cs:=#[.int .i64 a',.int .u64 u']) rfl) (Qdz _) (by unfold maxLen;omega) (by omega) (by simp;have:=HB.out.size;omega) ?_;intro v1 w1 ab aa ac;have O1:=Qaa ab;have B1:=Qaa ((ay.out _ _).grown aa (by simp;have:=HB.out.size;omega) (fun j hj=>(HO.out.lt j hj).1));have N1:=Qaa (show v1≠.slice none 0 0 from fun e=>by have:=(ac.1 e).2;omega);clear ab aa ac);go_roundw
    case rel=>exact ⟨i,k+1,R ++ [(a',u')],by omega,by omega,by go_num,by go_num,N1,by simp;have:=HQ.out;omega,by have:=O1.out;rw [Qga] at this;simpa [HQ.out] using this,HE,B1⟩
    case measure=>simp [RowKit.intOf];omega
   ·have HE:Hid ((R ++ [(a,Qa9 u u')]) ++ mrg (P.drop (i+1)) (N.drop (k+1))=mrg P N):=by
     refine (?_:(R ++ [(a,Qa9 u u')]) ++ mrg (P.drop (i+1)) (N.drop (k+1))=mrg P N);rw [<- HR.out,Qmt aI.out aN.out (by show a=a'; omega),List.append_assoc];rfl
    have d4:decide (a<a')=false:=ZZg h1;have d5:decide (a'<a)=false:=ZZg h2;go_wp2
    go_quiet (fail)
    go_wp2
    go_quiet (fail)
    go_wp2_with fail;have a8:=Qaa (fun (W:World) (hW:W.heap=wr.heap)=>(show W.ownsRow w.heap.size 181 2 (.slice (some ⟨g,0,none⟩) q cv) q (fl QcL R) from by unfold World.ownsRow;rw [hW];exact HO.out));have a9:=Qaa (fun (W:World) (hW:W.heap=wr.heap) (h1:W.os=wr.os) (h2:W.tape=wr.tape) (h3:W.output=wr.output)=>(⟨h1.trans HB.out.os,h2.trans HB.out.tape,h3.trans HB.out.output,by rw [hW];exact HB.out.size,fun k hk=>by rw [hW];exact HB.out.block k hk⟩:Below w.heap.size w W));refine Qal (fun W=>W.cell? ⟨b,an+i*2,none⟩=some (.int .i64 a)/\W.cell? ⟨b,an+i*2+1,none⟩=some (.int .u64 u)/\W.cell? ⟨b',al+k*2+1,none⟩=some (.int .u64 u')) 999 (by kernel_rfl) ?_;refine QcB (i:=0) (d:=21) (v:=.slice (some ⟨g,0,none⟩) q cv) rfl rfl (by kernel_rfl) (by kernel_rfl) (by kernel_rfl) (by decide) (by kernel_rfl) (fun _ _ _ h=>h) (Or.inl ⟨by rfl,fun W hW=>?_⟩) ⟨ai,aj,ah⟩ ?_
    ·obtain ⟨x0,x1,x2⟩:=hW
     go_simp
    refine QcB (i:=1) (d:=22) (v:=.slice (some ⟨b,an,none⟩) m c) rfl rfl (by kernel_rfl) (by kernel_rfl) (by kernel_rfl) (by decide) (by kernel_rfl) (fun _ _ _ h=>h) (Or.inl ⟨by rfl,fun W hW=>?_⟩) ⟨ai,aj,ah⟩ ?_
    ·obtain ⟨x0,x1,x2⟩:=hW
     go_simp
    refine QcB (i:=2) (d:=23) (v:=.int .i64 i) rfl rfl (by kernel_rfl) (by kernel_rfl) (by kernel_rfl) (by decide) (by kernel_rfl) (fun _ _ _ h=>h) (Or.inl ⟨by rfl,fun W hW=>?_⟩) ⟨ai,aj,ah⟩ ?_
    ·obtain ⟨x0,x1,x2⟩:=hW
     go_simp
    simp only [sX];refine QcB (i:=3) (d:=24) (v:=.pointer (some ⟨b,an+i*2,none⟩)) rfl rfl (by kernel_rfl) (by kernel_rfl) (by kernel_rfl) (by decide) (by kernel_rfl) (fun _ _ _ h=>h) (Or.inl ⟨by rfl,fun W hW=>?_⟩) ⟨ai,aj,ah⟩ ?_
    ·obtain ⟨x0,x1,x2⟩:=hW
     go_simp
    refine QcB (i:=4) (d:=25) (v:=.pointer (some ⟨b,an+i*2,none⟩)) rfl rfl (by kernel_rfl) (by kernel_rfl) (by kernel_rfl) (by decide) (by kernel_rfl) (fun _ _ _ h=>h) (Or.inl ⟨by rfl,fun W hW=>?_⟩) ⟨ai,aj,ah⟩ ?_
    ·obtain ⟨x0,x1,x2⟩:=hW
     go_simp
    refine QcB (i:=5) (d:=26) (v:=.int .i64 a) rfl rfl (by kernel_rfl) (by kernel_rfl) (by kernel_rfl) (by decide) (by kernel_rfl) (fun _ _ _ h=>h) (Or.inl ⟨by rfl,fun W hW=>?_⟩) ⟨ai,aj,ah⟩ ?_
    ·obtain ⟨x0,x1,x2⟩:=hW
     go_simp
    simp only [sX];refine QcB (i:=6) (d:=27) (v:=.slice (some ⟨b,an,none⟩) m c) rfl rfl (by kernel_rfl) (by kernel_rfl) (by kernel_rfl) (by decide) (by kernel_rfl) (fun _ _ _ h=>h) (Or.inl ⟨by rfl,fun W hW=>?_⟩) ⟨ai,aj,ah⟩ ?_
    ·obtain ⟨x0,x1,x2⟩:=hW
     go_simp
    refine QcB (i:=7) (d:=28) (v:=.int .i64 i) rfl rfl (by kernel_rfl) (by kernel_rfl) (by kernel_rfl) (by decide) (by kernel_rfl) (fun _ _ _ h=>h) (Or.inl ⟨by rfl,fun W hW=>?_⟩) ⟨ai,aj,ah⟩ ?_
    ·obtain ⟨x0,x1,x2⟩:=hW
     go_simp
    refine QcB (i:=8) (d:=29) (v:=.pointer (some ⟨b,an+i*2,none⟩)) rfl rfl (by kernel_rfl) (by kernel_rfl) (by kernel_rfl) (by decide) (by kernel_rfl) (fun _ _ _ h=>h) (Or.inl ⟨by rfl,fun W hW=>?_⟩) ⟨ai,aj,ah⟩ ?_
    ·obtain ⟨x0,x1,x2⟩:=hW
     go_simp
    simp only [sX];refine QcB (i:=9) (d:=30) (v:=.pointer (some ⟨b,an+i*2+1,none⟩)) rfl rfl (by kernel_rfl) (by kernel_rfl) (by kernel_rfl) (by decide) (by kernel_rfl) (fun _ _ _ h=>h) (Or.inl ⟨by rfl,fun W hW=>?_⟩) ⟨ai,aj,ah⟩ ?_
    ·obtain ⟨x0,x1,x2⟩:=hW
     go_simp
    refine QcB (i:=10) (d:=31) (v:=.int .u64 u) rfl rfl (by kernel_rfl) (by kernel_rfl) (by kernel_rfl) (by decide) (by kernel_rfl) (fun _ _ _ h=>h) (Or.inl ⟨by rfl,fun W hW=>?_⟩) ⟨ai,aj,ah⟩ ?_
    ·obtain ⟨x0,x1,x2⟩:=hW
     go_simp
    refine QcB (i:=11) (d:=32) (v:=.slice (some ⟨b',al,none⟩) n c') rfl rfl (by kernel_rfl) (by kernel_rfl) (by kernel_rfl) (by decide) (by kernel_rfl) (fun _ _ _ h=>h) (Or.inl ⟨by rfl,fun W hW=>?_⟩) ⟨ai,aj,ah⟩ ?_
    ·obtain ⟨x0,x1,x2⟩:=hW
     go_simp
    simp only [sX];refine QcB (i:=12) (d:=33) (v:=.int .i64 k) rfl rfl (by kernel_rfl) (by kernel_rfl) (by kernel_rfl) (by decide) (by kernel_rfl) (fun _ _ _ h=>h) (Or.inl ⟨by rfl,fun W hW=>?_⟩) ⟨ai,aj,ah⟩ ?_
    ·obtain ⟨x0,x1,x2⟩:=hW
     go_simp
    refine QcB (i:=13) (d:=34) (v:=.pointer (some ⟨b',al+k*2,none⟩)) rfl rfl (by kernel_rfl) (by kernel_rfl) (by kernel_rfl) (by decide) (by kernel_rfl) (fun _ _ _ h=>h) (Or.inl ⟨by rfl,fun W hW=>?_⟩) ⟨ai,aj,ah⟩ ?_
    ·obtain ⟨x0,x1,x2⟩:=hW
     go_simp
    refine QcB (i:=14) (d:=35) (v:=.pointer (some ⟨b',al+k*2+1,none⟩)) rfl rfl (by kernel_rfl) (by kernel_rfl) (by kernel_rfl) (by decide) (by kernel_rfl) (fun _ _ _ h=>h) (Or.inl ⟨by rfl,fun W hW=>?_⟩) ⟨ai,aj,ah⟩ ?_
    ·obtain ⟨x0,x1,x2⟩:=hW
     go_simp
    simp only [sX];refine QcB (i:=15) (d:=36) (v:=.int .u64 u') rfl rfl (by kernel_rfl) (by kernel_rfl) (by kernel_rfl) (by decide) (by kernel_rfl) (fun _ _ _ h=>h) (Or.inl ⟨by rfl,fun W hW=>?_⟩) ⟨ai,aj,ah⟩ ?_
    ·obtain ⟨x0,x1,x2⟩:=hW
     go_simp
    simp only [sX];refine onE 16 fun K hK=>?_;go_simp;refine (Qb3 _ _ hu aQ _).mono ?_;rintro e w8 ⟨rfl,rfl⟩;dsimp only;refine hK.out _ _ (fun _=>⟨ai,aj,ah⟩) ?_
    try simp only [sX]
    refine QcB (i:=17) (d:=38) (v:=.agg #[.int .i64 a,.int .u64 (Qa9 u u')]) rfl rfl (by kernel_rfl) (by kernel_rfl) (by kernel_rfl) (by decide) (by kernel_rfl) (fun _ _ _ h=>h) (Or.inl ⟨by rfl,fun W hW=>?_⟩) ⟨ai,aj,ah⟩ ?_
    ·obtain ⟨x0,x1,x2⟩:=hW
     go_simp
    simp only [sX];have aM:=Qaa (fun (W:World) (hW:Below w.heap.size w W)=>(⟨Qab hW aO.out.1,Qab hW aO.out.2.1,Qab hW aO.out.2.2⟩:(fun W=>W.cell? ⟨b,an+i*2,none⟩=some (.int .i64 a)/\W.cell? ⟨b,an+i*2+1,none⟩=some (.int .u64 u)/\W.cell? ⟨b',al+k*2+1,none⟩=some (.int .u64 u')) W));refine onE 18 fun K hK=>?_;go_simp;refine hK.out _ _ (fun _=>aM.out _ (ay.out _ _)) ?_
    try simp only [sX]
    refine onE 19 fun K hK=>?_;rw [if_pos (by rfl)];refine wp_append_own _ (.tmp 21) (.tmp 39) 65 rfl w.heap.size 181 i0 (.agg #[.int .i64 0,.int .u64 0]) 2 16 underlying65 hi aw aA az rfl (by decide) _ _ _ rfl ((aB.out _).alloc _) ⟨wr.heap.size,0,none⟩ 1 1 (QcL (a,(Qa9 u u'))) rfl rfl (Qau (cs:=#[.int .i64 a,.int .u64 (Qa9 u u')]) rfl) (Qdz _) (by unfold maxLen;omega) (by omega) (by simp;have:=HB.out.size;omega) ?_;intro v1 w1 ab aa ac;have O1:=Qaa ab;have B1:=Qaa ((ay.out _ _).grown aa (by simp;have:=HB.out.size;omega) (fun j hj=>(HO.out.lt j hj).1));have N1:=Qaa (show v1≠.slice none 0 0 from fun e=>by have:=(ac.1 e).2;omega);clear ab aa ac;refine hK.out _ _ (fun _=>aM.out _ B1) ?_;obtain ⟨a5,be,e1⟩:=Qan O1;subst e1
    try simp only [sX]
    refine onE 20 fun K hK=>?_;go_simp;refine hK.out _ _ (fun _=>aM.out _ B1) ?_
    try simp only [sX]
    refine dnE ?_ _;go_wp2;go_roundw
    case rel=>exact ⟨i+1,k+1,R ++ [(a,Qa9 u u')],by omega,by omega,by go_num,by go_num,N1,by simp;have:=HQ.out;omega,by have:=O1.out;rw [Qga] at this;simpa [HQ.out] using this,HE,B1⟩
    case measure=>simp [RowKit.intOf];omega
  ·subst aD
   obtain ⟨⟨a',u'⟩,av⟩:∃ x,N[k]?=some x:=⟨N[k]'(by have:=EN.out;omega),ZZe _⟩;obtain ⟨b',al,rfl,af⟩:=aR.out (by have:=EN.out;omega);have a2:=Qab ae (af k _ av).1;have ah:=Qab ae (af k _ av).2
   have HE:Hid ((R ++ [(a',u')]) ++ mrg (P.drop i) (N.drop (k+1))=mrg P N):=by
    refine (?_:(R ++ [(a',u')]) ++ mrg (P.drop i) (N.drop (k+1))=mrg P N);rw [<- HR.out,Qhg av (.inl EM.out.symm),List.append_assoc];rfl
   have d2:((k:Int) == (n:Int))=false:=ZZf.2 (by omega);have d1:decide ((i:Int)<(i:Int))=false:=ZZg (by omega);clear ae ad af av;go_wp2
   go_quiet (fail)
   go_wp2
   go_quiet (fail)
   go_wp2_with (at_builtin;refine wpList_append_own _ rfl (.tmp 96) (.tmp 101) 65 rfl w.heap.size 181 i0 (.agg #[.int .i64 0,.int .u64 0]) 2 16 underlying65 hi aw aA az rfl (by decide) _ _ _ rfl ((aB.out _).alloc _) ⟨wr.heap.size,0,none⟩ 1 1 (QcL (a',u')) rfl rfl (Qau (cs:=#[.int .i64 a',.int .u64 u']) rfl) (Qdz _) (by unfold maxLen;omega) (by omega) (by simp;have:=HB.out.size;omega) ?_;intro v1 w1 ab aa ac;have O1:=Qaa ab;have B1:=Qaa ((ay.out _ _).grown aa (by simp;have:=HB.out.size;omega) (fun j hj=>(HO.out.lt j hj).1));have N1:=Qaa (show v1≠.slice none 0 0 from fun e=>by have:=(ac.1 e).2;omega);clear ab aa ac);go_roundw
   case rel=>exact ⟨i,k+1,R ++ [(a',u')],by omega,by omega,by go_num,by go_num,N1,by simp;have:=HQ.out;omega,by have:=O1.out;rw [Qga] at this;simpa [HQ.out] using this,HE,B1⟩
   case measure=>simp [RowKit.intOf];omega
  ·subst aD aE
   have HM:Hid (R=mrg P N):=by
    refine (?_:R=mrg P N);rw [<- HR.out,<- EM.out,<- EN.out,List.drop_length,List.drop_length,Qc9,List.append_nil]
   have aG:Hid (∀ z∈R,Qb4 z):=by
    refine (?_:∀ z∈R,Qb4 z);rw [HM.out];exact mrg_ok KA KB
   clear HR ae;by_cases a6:q<=30
   ·have HE:Hid (Qbj (mrg P N)=R):=(by rw [<- HM.out];exact if_pos (by have:=HQ.out;omega):Qbj (mrg P N)=R)
    have aC:∀ j z,(fl QcL R)[j]?=some z->wr.cell? ((⟨g,0,none⟩:Addr).add j)=some z:=fun j z hz=>ad.cells rfl j z hz;have aL:=Qaa aC;clear ad aC;have d0:¬ (0:Int)<(q:Int) - 30:=by omega
    go_wp2
    go_loopw [9] (fun z w2=>z=.int .i64 0/\w2=wr) (fun z w2=>0)
    case atStart=>exact ⟨rfl,rfl⟩
    case round=>
     obtain ⟨rfl,rfl⟩:=hrel;go_wp2_with (at_builtin;refine wpList_append_own _ rfl (.tmp 133) (.tmp 134) 65 rfl w.heap.size 181 i0 (.agg #[.int .i64 0,.int .u64 0]) 2 16 underlying65 hi aw aA az rfl (by decide) _ _ _ rfl (World.ownsRow_made _ #[] 0 HB.out.size (Nat.zero_le _) rfl) ⟨g,0,none⟩ q cv (fl QcL R) rfl (by rw [Qdq QdQ];have:=HQ.out;omega) (fun j z hz=>by have:=aL.out j z hz;exact Qcc this _) (Qgb _) (by unfold maxLen;omega) (by omega) (by simp;have:=HB.out.size;omega) ?_;intro v1 w1 ab aa ac;simp only [Nat.zero_add,List.nil_append] at ab;have O1:=Qaa ab;have B1:=Qaa ((HB.out.alloc HB.out.size _).grown aa (by simp;have:=HB.out.size;omega) (fun j hj=>by cases hj;exact HB.out.size));clear ab aa ac);go_ret;exact ⟨_,_,rfl,by rw [HE.out];exact O1.out,by rw [HE.out];exact HQ.out.symm,B1⟩
   ·obtain ⟨s,hs⟩:∃ s,q=s+30:=⟨q - 30,by omega⟩
    subst hs;obtain ⟨⟨p,x0⟩,aJ⟩:∃ z,R[s]?=some z:=⟨R[s]'(by have:=HQ.out;omega),ZZe _⟩;obtain ⟨_,aS⟩:=aG.out _ (ZZn aJ);simp only at aS;have aW:=Qaa aJ;have a0:=Qie ad;have aP:=QhU ad;have e1:((s+30:Nat):Int) - 30=(s:Int):=by omega
    have a4:0<s:=by omega
    clear ad aJ;go_wp2
    go_loopw [9] (fun z w2=>∃ j:Nat,j<=s/\z=.int .i64 j/\w2.ownsRow w.heap.size 181 2 (.slice (some ⟨g,0,none⟩) (s+30) cv) (s+30) (fl QcL (R.set s (p,Qdl x0 (R.take j))))/\Below w.heap.size w w2) (fun z w2=>s - (RowKit.intOf z).toNat)
    case atStart=>exact ⟨0,Nat.zero_le _,rfl,by rw [show Qdl x0 (R.take 0)=x0 from rfl,Qrt aW.out];exact HO.out,HB⟩
    case round=>
     clear HO HB aB ay;obtain ⟨j,hj,rfl,ad,ae⟩:=hrel;obtain ⟨x,hx⟩:∃ x,Qdl x0 (R.take j)=x:=⟨_,rfl⟩;rw [hx] at ad;have a3:U64 x:=by rw [<- hx];exact QlW aS (fun y hy=>aG.out y (ZZo hy))
     have HX:=Qaa hx;have HO:=Qaa ad;have HB:=Qaa ae;have am:s+30=(R.set s (p,x)).length:=by rw [List.length_set];exact HQ.out.symm
     have aZ:s<R.length:=by have:=HQ.out;omega
     clear hx;by_cases a7:j<s
     ·obtain ⟨⟨b,y⟩,aF⟩:∃ z,R[j]?=some z:=⟨R[j]'(by omega),ZZe (by omega)⟩
      obtain ⟨_,hy⟩:=aG.out _ (ZZn aF);simp only at hy;have aK:=(Qj9 ad am (k:=s) (x:=(p,x)) (by simp [aZ])).2;have aH:=(Qj9 ad am (k:=j) (x:=(b,y)) (by rw [List.getElem?_set_ne (by omega)];exact aF)).2;have aU:=ad.frozenAt (s*2+1)
      have HW:Hid (Qa9 x y=Qdl x0 (R.take (j+1))):=by
       refine (?_:Qa9 x y=Qdl x0 (R.take (j+1)));rw [Qmp aF,HX.out]
      have ak:(fun W=>W.cell? ⟨g,s*2+1,none⟩=some (.int .u64 x)/\W.cell? ⟨g,j*2+1,none⟩=some (.int .u64 y)/\W.frozen? ⟨g,s*2+1,none⟩=false) wr.drew:=⟨aK,aH,aU⟩;simp only at aK aH;have aV:=Qaa am;have bc:¬ (s:Int)+30<=(s:Int):=by omega
      have bb:¬ (s:Int)+30<=(j:Int):=by omega
      clear ad ae aF aK aH aU am;go_wp2_with fail;refine Qal (fun W=>W.cell? ⟨g,s*2+1,none⟩=some (.int .u64 x)/\W.cell? ⟨g,j*2+1,none⟩=some (.int .u64 y)/\W.frozen? ⟨g,s*2+1,none⟩=false) 15 (by kernel_rfl) ?_;refine tkL 0 (.slice (some ⟨g,0,none⟩) (s+30) cv) ak (fun W hW=>?_) ?_
      ·obtain ⟨au,ar,aq⟩:=hW
       go_simp
      refine tkL 1 (.int .i64 s) ak (fun W hW=>?_) ?_
      ·obtain ⟨au,ar,aq⟩:=hW
       go_simp
      refine tkL 2 (.slice (some ⟨g,0,none⟩) (s+30) cv) ak (fun W hW=>?_) ?_
      ·obtain ⟨au,ar,aq⟩:=hW
       go_simp
      simp only [sX];refine tkL 3 (.int .i64 s) ak (fun W hW=>?_) ?_
      ·obtain ⟨au,ar,aq⟩:=hW
       go_simp
      refine tkL 4 (.pointer (some ⟨g,s*2,none⟩)) ak (fun W hW=>?_) ?_
      ·obtain ⟨au,ar,aq⟩:=hW
       go_simp
      refine tkL 5 (.pointer (some ⟨g,s*2+1,none⟩)) ak (fun W hW=>?_) ?_
      ·obtain ⟨au,ar,aq⟩:=hW
       go_simp
      simp only [sX];refine tkL 6 (.int .u64 x) ak (fun W hW=>?_) ?_
      ·obtain ⟨au,ar,aq⟩:=hW
       go_simp
      refine tkL 7 (.slice (some ⟨g,0,none⟩) (s+30) cv) ak (fun W hW=>?_) ?_
      ·obtain ⟨au,ar,aq⟩:=hW
       go_simp
      refine tkL 8 (.int .i64 j) ak (fun W hW=>?_) ?_
      ·obtain ⟨au,ar,aq⟩:=hW
       go_simp
      simp only [sX];refine tkL 9 (.pointer (some ⟨g,j*2,none⟩)) ak (fun W hW=>?_) ?_
      ·obtain ⟨au,ar,aq⟩:=hW
       go_simp
      refine tkL 10 (.pointer (some ⟨g,j*2+1,none⟩)) ak (fun W hW=>?_) ?_
      ·obtain ⟨au,ar,aq⟩:=hW
       go_simp
      refine tkL 11 (.int .u64 y) ak (fun W hW=>?_) ?_
      ·obtain ⟨au,ar,aq⟩:=hW
       go_simp
      simp only [sX];refine onE 12 fun K hK=>?_;go_simp;refine (Qb3 _ _ a3 hy _).mono ?_;rintro e w8 ⟨rfl,rfl⟩;dsimp only;refine gK hK ak ?_
      try simp only [sX]
      refine onE 13 fun K hK=>?_;go_simp;refine gK hK ak ?_
      try simp only [sX]
      refine onE 14 fun K hK=>?_;go_simp;refine gK hK ak ?_
      try simp only [sX]
      obtain ⟨z0,z1,z2⟩:=ak;refine onE 15 fun K hK=>?_;go_simp;refine hK.out _ _ (fun h=>absurd rfl h) ?_
      try simp only [sX]
      refine dnE ?_ _;go_wp2;go_roundw
      case rel=>
       refine ⟨j+1,by omega,by go_num,?_,?_⟩
       ·have o1:=(HO.out.drew.stored (s*2+1) (.int .u64 (Qa9 x y))).1
        have e2:(fl QcL (R.set s (p,x))).set (s*2+1) (.int .u64 (Qa9 x y))=fl QcL (R.set s (p,Qa9 x y)):=QmJ aZ;rw [e2] at o1;rw [<- HW.out];exact o1
       ·exact HB.out.drew.setCell (QrY HO).1 _
      case measure=>simp [RowKit.intOf];omega
     ·have aX:j=s:=by omega
      have HE:Hid (Qbj (mrg P N)=(R.set s (p,x)).drop s):=by
       refine (?_:Qbj (mrg P N)=(R.set s (p,x)).drop s);rw [<- HM.out,<- HX.out,aX];exact Qq2 HQ a4 aW
      have aC:∀ jj z,(fl QcL ((R.set s (p,x)).drop s))[jj]?=some z->wr.cell? ((⟨g,s*2,none⟩:Addr).add jj)=some z:=fun jj z hz=>by
       rw [Qo6 QdQ,List.getElem?_drop] at hz;have:=ad.cells rfl (s*2+jj) z hz;rw [Addr.add_lit] at this ⊢
       simpa using this
      have aY:((R.set s (p,x)).drop s).length=30:=by rw [List.length_drop,<- am];omega
      have aL:=Qaa aC;have aT:=Qaa aY;have bf:¬ cv=s:=by omega
      clear ad ae aC aY am aX;go_wp2_with (at_builtin;refine wpList_append_own _ rfl (.tmp 133) (.tmp 134) 65 rfl w.heap.size 181 i0 (.agg #[.int .i64 0,.int .u64 0]) 2 16 underlying65 hi aw aA az rfl (by decide) _ _ _ rfl (World.ownsRow_made _ #[] 0 HB.out.size (Nat.zero_le _) rfl) ⟨g,s*2,none⟩ _ _ (fl QcL ((R.set s (p,x)).drop s)) rfl (by rw [Qdq QdQ,aT.out] <;> omega) (fun j z hz=>by have:=aL.out j z hz;exact Qcc this _) (Qgb _) (by unfold maxLen;omega) (by omega) (by simp;have:=HB.out.size;omega) ?_;intro v1 w1 ab aa ac;simp only [Nat.zero_add,List.nil_append,Nat.add_sub_cancel_left] at ab;have O1:=Qaa ab;have B1:=Qaa ((HB.out.alloc HB.out.size _).grown aa (by simp;have:=HB.out.size;omega) (fun j hj=>by cases hj;exact HB.out.size));clear ab aa ac);go_ret;exact ⟨_,_,rfl,by rw [HE.out];exact O1.out,by rw [HE.out];exact aT.out.symm,B1⟩
end
section
def QpW (x y:Int):Int:=x*y / 18446744073709551616
theorem Qq5 (x y:Int) (hx:U64 x) (hy:U64 y):IntKind.u64.wrap (IntKind.u64.wrap (IntKind.u64.wrap (x / 4294967296*(y / 4294967296))+IntKind.u64.wrap (IntKind.u64.wrap (x / 4294967296*bits BinOp.and IntKind.u64 y 4294967295)+IntKind.u64.wrap (bits BinOp.and IntKind.u64 x 4294967295*bits BinOp.and IntKind.u64 y 4294967295) / 4294967296) / 4294967296)+IntKind.u64.wrap (bits BinOp.and IntKind.u64 (IntKind.u64.wrap (IntKind.u64.wrap (x / 4294967296*bits BinOp.and IntKind.u64 y 4294967295)+IntKind.u64.wrap (bits BinOp.and IntKind.u64 x 4294967295*bits BinOp.and IntKind.u64 y 4294967295) / 4294967296)) 4294967295+IntKind.u64.wrap (bits BinOp.and IntKind.u64 x 4294967295*(y / 4294967296))) / 4294967296)=QpW x y:=by
 unfold U64 at hx hy;simp only [IntKind.wrap_u64,and_low32 x hx.1 (by omega),and_low32 y hy.1 (by omega)];rw [and_low32 _ (by omega) (by omega)];exact mul64_arith x y hx.1 (by omega) hy.1 (by omega)
theorem Qnr (x y:Int) (hx:U64 x) (hy:U64 y):IntKind.u64.wrap (IntKind.u64.wrap (IntKind.u64.wrap (x / 4294967296*(y / 4294967296))+IntKind.u64.wrap (IntKind.u64.wrap (x / 4294967296*bits BinOp.and IntKind.u64 y 4294967295)+IntKind.u64.wrap (bits BinOp.and IntKind.u64 x 4294967295*bits BinOp.and IntKind.u64 y 4294967295) / 4294967296) / 4294967296)+IntKind.u64.wrap (IntKind.u64.wrap (bits BinOp.and IntKind.u64 x 4294967295*(y / 4294967296))+bits BinOp.and IntKind.u64 (IntKind.u64.wrap (IntKind.u64.wrap (x / 4294967296*bits BinOp.and IntKind.u64 y 4294967295)+IntKind.u64.wrap (bits BinOp.and IntKind.u64 x 4294967295*bits BinOp.and IntKind.u64 y 4294967295) / 4294967296)) 4294967295) / 4294967296)=QpW x y:=by
 rw [Int.add_comm (IntKind.u64.wrap (bits BinOp.and IntKind.u64 x 4294967295*(y / 4294967296)))];exact Qq5 x y hx hy
theorem QtS (a:Int) (ha:I64 a):bits .xor .i64 (-1) a=-1 - a:=by
 unfold I64 at ha
 show IntKind.i64.wrap ((BitVec.ofInt 64 (-1) ^^^ BitVec.ofInt 64 a).toNat:Int)=_
 have h1:BitVec.ofInt 64 (-1)=BitVec.allOnes 64:=by decide
 rw [h1,BitVec.allOnes_xor,BitVec.toNat_not,BitVec.toNat_ofInt];rw [IntKind.wrap_i64]
 have e:((a % ((2 ^ 64:Nat):Int)).toNat:Int)=a % 18446744073709551616:=by
  rw [Int.toNat_of_nonneg (Int.emod_nonneg _ (by decide))];rfl
 omega
theorem QtJ (b:Int) (hb:U64 b):bits .xor .u64 IntKind.u64.max b=18446744073709551615 - b:=by
 unfold U64 at hb;rw [IntKind.max_u64]
 show IntKind.u64.wrap ((BitVec.ofInt 64 18446744073709551615 ^^^ BitVec.ofInt 64 b).toNat:Int)=_
 have h1:BitVec.ofInt 64 18446744073709551615=BitVec.allOnes 64:=by decide
 rw [h1,BitVec.allOnes_xor,BitVec.toNat_not,BitVec.toNat_ofInt];rw [IntKind.wrap_u64]
 have e:((b % ((2 ^ 64:Nat):Int)).toNat:Int)=b % 18446744073709551616:=by
  rw [Int.toNat_of_nonneg (Int.emod_nonneg _ (by decide))];rfl
 omega
def Qs8 (a b:Int):Int:=wrap64 (-a - (if b=0 then 0 else 1))
def QsX (b:Int):Int:=uw (-b)
def thH (n w:Int):Int:=wrap64 (n*w / 18446744073709551616)
def thL (n w:Int):Int:=uw (n*w)
theorem QtU (a b:Int) (hb:U64 b):QeL (-1 - a) (18446744073709551615 - b) 0 1=Qs8 a b/\Qfa (18446744073709551615 - b) 1=QsX b:=by
 unfold U64 at hb;unfold QeL Qfa Qs8 QsX addC uw wrap64;refine ⟨?_,by omega⟩;by_cases h:b=0
 ·subst h;simp;omega
 ·rw [if_neg h];omega
theorem Qql (n y:Int):Qs8 (wrap64 (QpW (-n) y)) (uw (-n*y))=thH n y/\QsX (uw (-n*y))=thL n y:=by
 have e:-n*y=-(n*y):=Int.neg_mul _ _;unfold QpW thH thL;rw [e];generalize n*y=p;unfold Qs8 QsX;refine ⟨?_,by unfold uw;omega⟩;by_cases k:uw (-p)=0
 ·rw [if_pos k];unfold uw at k;unfold wrap64;omega
 ·rw [if_neg k];unfold uw at k;unfold wrap64;omega
end
section
theorem Qqa {a b c d:Int} (h:a=c) (k:b=d):Ending.returned (.tuple #[.int .u64 a,.int .u64 b])=.returned (.tuple #[.int .u64 c,.int .u64 d]):=by rw [h,k]
theorem Qmo (x y:Int) (hx:U64 x) (hy:U64 y) (w:World) :
  Calls prog 165 #[.int .u64 x,.int .u64 y] w fun e w'=>e=.returned (.tuple #[.int .u64 (QpW x y),.int .u64 (uw (x*y))])/\w'=w:=by
 have HF:Hid (_=_):=Qnr x y hx hy;have HG:Hid (IntKind.u64.wrap (x*y)=uw (x*y)):=IntKind.wrap_u64 _;clear hx hy;go_enter func165,ntmps165;go_wp2;go_ret2;exact ⟨Qqa HF HG,rfl⟩
theorem QmZ (a b:Int) (ha:I64 a) (hb:U64 b) (w:World) :
  Calls prog 166 #[.agg #[.int .i64 a,.int .u64 b]] w fun e w'=>e=.returned (.agg #[.int .i64 (Qs8 a b),.int .u64 (QsX b)])/\Below w.heap.size w w':=by
 have HN:=QtU a b hb;have ab:U64 (18446744073709551615 - b):=by unfold U64 at *; omega
 have e1:=QtS a ha;have e2:=QtJ b hb;have h1:U64 1:=by unfold U64;omega
 have HC:∀ w,Calls prog 129 #[.agg #[.int .i64 (bits .xor .i64 (-1) a),.int .u64 (bits .xor .u64 IntKind.u64.max b)],.agg #[.int .i64 0,.int .u64 1]] w fun e w'=>e=.returned (.agg #[.int .i64 (Qs8 a b),.int .u64 (QsX b)])/\Below w.heap.size w w':=by
  intro w;rw [e1,e2,<- HN.1,<- HN.2];exact Qd8 _ _ _ _ w ab h1
 clear HN e1 e2 ha hb ab h1;go_enter func166,ntmps166;go_wp2_with (go_at_call 129;refine (HC _).mono ?_;rintro e w1 ⟨rfl,aa⟩;have p0:=Qab (a:=⟨w.heap.size+1,0,none⟩) (v:=.int .i64 0) aa (by simp);have p1:=Qab (a:=⟨w.heap.size+1,1,none⟩) (v:=.int .u64 0) aa (by simp);have f0:=aa.frozen (p:=⟨w.heap.size+1,0,none⟩) (by simp);have f1:=aa.frozen (p:=⟨w.heap.size+1,1,none⟩) (by simp));refine bodyPost_ret (v:=.agg #[.int .i64 (Qs8 a b),.int .u64 (QsX b)]) (by simp [results,results166,go_sem,p0,p1]) rfl ⟨rfl,?_⟩;exact (((((Below.refl _ _).alloc (Nat.le_refl _) _).alloc (by simp) _).trans (aa.mono (by simp;omega))).setCell (by dsimp only;omega) _).setCell (by dsimp only;omega) _
theorem QeG (n y:Int) (hn:I64 n) (hy:U64 y) (w:World) :
  Calls prog 130 #[.int .i64 n,.int .u64 y] w fun e w'=>e=.returned (.agg #[.int .i64 (thH n y),.int .u64 (thL n y)])/\Below w.heap.size w w':=by
 by_cases h:n<0
 ·have hm:U64 (-n):=by unfold I64 at hn;unfold U64;omega
  have e1:IntKind.u64.wrap (-IntKind.u64.wrap n)=-n:=by simp only [IntKind.wrap_u64];unfold I64 at hn;omega
  have HC:Hid (∀ w,Calls prog 165 #[.int .u64 (-n),.int .u64 y] w fun e w'=>e=.returned (.tuple #[.int .u64 (QpW (-n) y),.int .u64 (uw (-n*y))])/\w'=w):=fun w=>Qmo _ _ hm hy w;have HE:=Qql n y
  have HD:Hid (∀ w,Calls prog 166 #[.agg #[.int .i64 (wrap64 (QpW (-n) y)),.int .u64 (uw (-n*y))]] w fun e w'=>e=.returned (.agg #[.int .i64 (thH n y),.int .u64 (thL n y)])/\Below w.heap.size w w'):=by
   rw [<- HE.1,<- HE.2];exact fun w=>QmZ _ _ (Qgg _) (QjA _) w
  clear hn hy hm HE;go_enter func130,ntmps130
  go_wp2_with (first
   | (go_at_call 165;refine (HC.out _).mono ?_;rintro e w1 ⟨rfl,rfl⟩)
   | (go_at_call 166;refine (HD.out _).mono ?_;rintro e w1 ⟨rfl,aa⟩;have p0:=Qab (a:=⟨w.heap.size+1,0,none⟩) (v:=.int .i64 (wrap64 (QpW (-n) y))) aa (by simp);have p1:=Qab (a:=⟨w.heap.size+1,1,none⟩) (v:=.int .u64 (uw (-n*y))) aa (by simp);have f0:=aa.frozen (p:=⟨w.heap.size+1,0,none⟩) (by simp);have f1:=aa.frozen (p:=⟨w.heap.size+1,1,none⟩) (by simp);have r0:=Qab (a:=⟨w.heap.size,0,none⟩) (v:=.int .i64 0) aa (by simp);have r1:=Qab (a:=⟨w.heap.size,1,none⟩) (v:=.int .u64 0) aa (by simp);have g0:=QcN (a:=⟨w.heap.size,0,none⟩) (v:=.int .i64 0) aa (by simp);have g1:=QcN (a:=⟨w.heap.size,1,none⟩) (v:=.int .u64 0) aa (by simp)))
  refine bodyPost_ret (v:=.agg #[.int .i64 (thH n y),.int .u64 (thL n y)]) (by simp [results,results130,go_sem,r0,r1]) rfl ⟨rfl,?_⟩;exact (((((((Below.refl _ _).alloc (Nat.le_refl _) _).alloc (by simp) _).trans (aa.mono (by simp;omega))).setCell (by dsimp only;omega) _).setCell (by dsimp only;omega) _).setCell (by dsimp only;omega) _).setCell (by dsimp only;omega) _
 ·have e1:IntKind.u64.wrap n=n:=by rw [IntKind.wrap_u64];unfold I64 at hn;omega
  have hm:U64 n:=by unfold I64 at hn;unfold U64;omega
  have HC:Hid (∀ w,Calls prog 165 #[.int .u64 n,.int .u64 y] w fun e w'=>e=.returned (.tuple #[.int .u64 (QpW n y),.int .u64 (uw (n*y))])/\w'=w):=fun w=>Qmo _ _ hm hy w;clear hn hy hm;go_enter func130,ntmps130;go_wp2_with (go_at_call 165;refine (HC.out _).mono ?_;rintro e w1 ⟨rfl,rfl⟩);exact bodyPost_ret (v:=.agg #[.int .i64 (wrap64 (QpW n y)),.int .u64 (uw (n*y))]) (by simp [results,results130,go_sem]) rfl ⟨Qip rfl rfl,((Below.refl _ _).alloc (Nat.le_refl _) _).alloc (by simp) _⟩
end
section
def QmH (z v wt:Int):Int:=if v=0 then Qa9 z wt else z
end
section
def QeH (P:List Bn) (v wt:Int):List Bn:=if 0<v then Qbj (mrg P [(Qdf v,wt)]) else P
def QeD (N:List Bn) (v wt:Int):List Bn:=if v<0 then Qbj (mrg N [(Qdf (-v),wt)]) else N
theorem Qk2 (w:World) (t:TypeId) (a u:Int):QaO (w.alloc (.cells #[.int .i64 a,.int .u64 u] t)) (some ⟨w.heap.size,0,none⟩) [(a,u)]:=fun _=>⟨w.heap.size,0,rfl,fun i x hx=>by
 obtain ⟨rfl,rfl⟩:i=0/\x=(a,u):=by
  cases i with
  | zero=>exact ⟨rfl,by simpa using hx.symm⟩
  | succ j=>simp at hx
 exact bc_new w t a u⟩
theorem Qm2 {z h l vv wt:Int} {pa na:Option Addr} {pn pc nn nc:Nat} (hz:U64 z) (hl0:U64 l) (hvv:I64 vv) (hwt:U64 wt) (hp:P.length=pn) (hn:N.length=nn) (lp:pn<=30) (ln:nn<=30) (hP:QaO w pa P) (hN:QaO w na N) (kP:∀ x∈P,Qb4 x) (kN:∀ x∈N,Qb4 x) (hv9:-999999999999999999<=vv/\vv<=999999999999999999) (cA:pa=none->pc=0) (cA':na=none->nc=0) :
  Calls prog 132 #[.agg #[.int .u64 z,.slice pa pn pc,.slice na nn nc,.int .i64 h,.int .u64 l],.int .i64 vv,.int .u64 wt] w fun e w'=>∃ v,e=.returned v/\Qp8 w' w.heap.size v (QmH z vv wt) (QeH P vv wt) (QeD N vv wt) (QeL h l (thH vv wt) (thL vv wt)) (Qfa l (thL vv wt))/\Below w.heap.size w w':=by
 have HP:=Qaa hP;have HN:=Qaa hN;have KP:=Qaa kP;have KN:=Qaa kN;have CA:=Qaa cA;have bk:=Qaa cA';clear hP hN kP kN cA cA';go_enter func132,ntmps132;go_wp2_with fail;generalize hW0:(w.alloc (Obj.cells #[.int .u64 z,.slice pa pn pc,.slice na nn nc,.int .i64 h,.int .u64 l] 67)).alloc (Obj.cells QbH 67)=W0;have T0:Below w.heap.size w W0:=by rw [<- hW0];exact ((Below.refl _ _).alloc (Nat.le_refl _) _).alloc (by simp) _
 have K0:Qer W0 w.heap.size z (.slice pa pn pc) (.slice na nn nc) h l:=by rw [<- hW0];exact Qd5 (Qr6 w _ _ _ _ _ _) ((ZZb _ _).alloc (ZZa _) _)
 have R0:W0.heap[w.heap.size+1]?=some (.cells QbH 67 (0,0)):=by rw [<- hW0];simpa using heap_alloc_new (w.alloc (Obj.cells #[.int .u64 z,.slice pa pn pc,.slice na nn nc,.int .i64 h,.int .u64 l] 67)) (Obj.cells QbH 67)
 have bi:W0.heap.size=w.heap.size+2:=by rw [<- hW0];simp
 clear hW0;have a0:=Qaa T0;clear T0;refine (Qge hp hn (by omega) (by omega) (Qai HP a0) (Qai HN a0) CA bk).mono ?_;rintro e w1 ⟨v1,rfl,⟨p1,n1,m1,m2,rfl,aX,aO,bb⟩,aJ⟩;obtain ⟨ag,c1,rfl⟩:=aX.any;obtain ⟨af,c2,rfl⟩:=aO.any;have a1:=Qaa (Qac a0 aJ);have K1:=Qd5 K0 aJ;have R1:w1.heap[w.heap.size+1]?=some (.cells QbH 67 (0,0)):=by rw [aJ.block _ (by omega)];exact R0
 have be:w.heap.size+2<=w1.heap.size:=by have:=aJ.size;omega
 have ar:=Qaa (aX.le (B':=w.heap.size) (by omega));have aq:=Qaa (aO.le (B':=w.heap.size) (by omega));have bd:=Qaa bb;clear aJ aX aO bb K0 R0;go_wp2_with fail;generalize hW4:w1.alloc (Obj.cells #[.int .u64 z,.slice ag m1 c1,.slice af m2 c2,.int .i64 h,.int .u64 l] 67)=w4;have ax:Below w1.heap.size w1 w4:=by rw [<- hW4];exact (ZZb _ _).alloc (ZZa _) _
 have S4:w4.heap[w1.heap.size]?=some (.cells #[.int .u64 z,.slice ag m1 c1,.slice af m2 c2,.int .i64 h,.int .u64 l] 67 (0,0)):=by rw [<- hW4];exact ZZk w1 _
 clear hW4;obtain ⟨sg,a9⟩:∃ sg,sg=w1.heap.size:=⟨_,rfl⟩;rw [<- a9] at S4 ⊢;have bl:w.heap.size+2<=sg:=by omega
 have aP:sg<w4.heap.size:=(ZZc.1 S4).1;have a6:=Qaa (Qac a1 ax);have K4:=Qd5 K1 ax;have R4:w4.heap[w.heap.size+1]?=some (.cells QbH 67 (0,0)):=by rw [ax.block _ (by omega)];exact R1
 have aD:=Qaa (ar.out.past ax);have aH:=Qaa (aq.out.past ax);have a8:∀ W,Below w4.heap.size w4 W->Qer W w.heap.size z (.slice pa pn pc) (.slice na nn nc) h l/\W.heap[w.heap.size+1]?=some (.cells QbH 67 (0,0))/\W.heap[sg]?=some (.cells #[.int .u64 z,.slice ag m1 c1,.slice af m2 c2,.int .i64 h,.int .u64 l] 67 (0,0)):=fun W hW=>⟨Qd5 K4 hW,by rw [hW.block _ (by omega)];exact R4,by rw [hW.block _ aP];exact S4⟩;have au:=Qaa a8;clear a8 ar aq ax S4 R4 K4 K1 R1 a9 be a1;have aa:(fun W=>Below w4.heap.size w4 W) w4.drew:=(ZZb _ _).drew;refine Qal (fun W=>Below w4.heap.size w4 W) 7 (by kernel_rfl) ?_;refine tkL 0 (.pointer (some ⟨w.heap.size,3,none⟩)) aa (fun W hW=>?_) ?_
 ·obtain ⟨⟨x0,x1,x2,x3,x4⟩,x5,x6⟩:=au.out W hW
  go_simp
 refine tkL 1 (.agg #[.int .i64 h,.int .u64 l]) aa (fun W hW=>?_) ?_
 ·obtain ⟨⟨x0,x1,x2,x3,x4⟩,x5,x6⟩:=au.out W hW
  go_simp
 refine tkL 2 (.int .i64 vv) aa (fun W hW=>?_) ?_
 ·obtain ⟨⟨x0,x1,x2,x3,x4⟩,x5,x6⟩:=au.out W hW
  go_simp
 simp only [sX];refine tkL 3 (.int .u64 wt) aa (fun W hW=>?_) ?_
 ·obtain ⟨⟨x0,x1,x2,x3,x4⟩,x5,x6⟩:=au.out W hW
  go_simp
 simp only [sX];refine onE 4 fun K hK=>?_;go_simp;refine (QeG _ _ hvv hwt _).mono ?_;rintro e w5 ⟨rfl,an⟩;dsimp only;have ab:=Qaa ((aa:Below w4.heap.size w4 w4.drew).trans an);clear an;refine gK hK ab.out ?_
 try simp only [sX]
 refine onE 5 fun K hK=>?_;go_simp;refine (Qd8 _ _ _ _ _ hl0 (show U64 (thL vv wt) from QjA _)).mono ?_;rintro e w6 ⟨rfl,a7⟩;dsimp only;have ak:=Qaa (Qac ab a7);clear a7;refine gK hK ak.out ?_
 try simp only [sX]
 refine onE 6 fun K hK=>?_;go_simp;refine gK hK ak.out ?_
 try simp only [sX]
 have R6:=(au.out _ ak).2.2;obtain ⟨y0,y1,y2,y3,y4⟩:=Qes R6;have bc:=fzR 3 R6;have bj:=fzR 4 R6;refine onE 7 fun K hK=>?_;go_simp;refine hK.out _ _ (fun h=>absurd rfl h) ?_
 try simp only [sX]
 refine dnE ?_ _;obtain ⟨H7,aN⟩:∃ H,QeL h l (thH vv wt) (thL vv wt)=H:=⟨_,rfl⟩;obtain ⟨L7,aT⟩:∃ H,Qfa l (thL vv wt)=H:=⟨_,rfl⟩;have aS:=Qaa aN;have aR:=Qaa aT;rw [aN,aT];clear aN aT;generalize hw3:(w6.setCell ⟨sg,3,none⟩ (.int .i64 H7)).setCell ⟨sg,4,none⟩ (.int .u64 L7)=w3
 have S3:w3.heap[sg]?=some (.cells #[.int .u64 z,.slice ag m1 c1,.slice af m2 c2,.int .i64 H7,.int .u64 L7] 67 (0,0)):=by
  rw [<- hw3];exact ZZl _ sg 4 _ _ _ (ZZl w6 sg 3 _ _ _ R6)
 have aK:w6.grownBy w3 (some sg):=by rw [<- hw3];exact (Qah _ _ _ _).trans (Qah _ _ _ _)
 have aV:∀ j,j<w6.heap.size->j≠sg->w3.heap[j]?=w6.heap[j]?:=fun j hj hne=>aK.block j hj (fun e=>hne (Option.some.inj e));obtain ⟨K6,Q6,_⟩:=au.out _ ak;have aU:=ak.out.size;have R3:w3.heap[w.heap.size+1]?=some (.cells QbH 67 (0,0)):=by rw [aV _ (by omega) (by omega)];exact Q6
 have K3:Qer w3 w.heap.size z (.slice pa pn pc) (.slice na nn nc) h l:=by
  have aA:∀ j,w3.cell? ⟨w.heap.size,j,none⟩=w6.cell? ⟨w.heap.size,j,none⟩:=fun j=>World.cell?_of_block (w:=w6) (aV w.heap.size (by omega) (by omega));exact ⟨by rw [aA];exact K6.1,by rw [aA];exact K6.2.1,by rw [aA];exact K6.2.2.1,by rw [aA];exact K6.2.2.2.1,by rw [aA];exact K6.2.2.2.2⟩
 have aw:=Qaa ((Qac a6 ak).grown aK (Qac a6 ak).size (fun k e=>by cases e;omega));have bf:sg<w3.heap.size:=(ZZc.1 S3).1;have o1:=aD.out.past ak;have o2:=aH.out.past ak;have ar:=Qaa (o1.kept aK (.inr (o1.ne R6 (by decide))));have aq:=Qaa (o2.kept aK (.inr (o2.ne R6 (by decide))));have hC:∀ W,Below w3.heap.size w3 W->Qer W w.heap.size z (.slice pa pn pc) (.slice na nn nc) h l/\W.heap[w.heap.size+1]?=some (.cells QbH 67 (0,0))/\W.heap[sg]?=some (.cells #[.int .u64 z,.slice ag m1 c1,.slice af m2 c2,.int .i64 H7,.int .u64 L7] 67 (0,0)):=fun W hW=>⟨Qd5 K3 hW,by rw [hW.block _ (by omega)];exact R3,by rw [hW.block _ bf];exact S3⟩;have HC:=Qaa hC;have aY:=Qaa S3;have bm:=fzR 0 S3;obtain ⟨g0,g1,g2,g3,g4⟩:=Qes S3
 have aI:∀ (w9:World) (Z:Int) (p n:Value) (a b:Nat) (P9 N9:List Bn),w3.grownBy w9 (some sg)->w9.heap[sg]?=some (.cells #[.int .u64 Z,p,n,.int .i64 H7,.int .u64 L7] 67 (0,0))->OwnB w9 w.heap.size p a P9->OwnB w9 w.heap.size n b N9->QjC p n ->
   Qp8 (((((w9.setCell ⟨w.heap.size+1,0,none⟩ (.int .u64 Z)).setCell ⟨w.heap.size+1,1,none⟩ p).setCell ⟨w.heap.size+1,2,none⟩ n).setCell ⟨w.heap.size+1,3,none⟩ (.int .i64 H7)).setCell ⟨w.heap.size+1,4,none⟩ (.int .u64 L7)) w.heap.size (.agg #[.int .u64 Z,p,n,.int .i64 H7,.int .u64 L7]) Z P9 N9 H7 L7 /\
   Below w.heap.size w (((((w9.setCell ⟨w.heap.size+1,0,none⟩ (.int .u64 Z)).setCell ⟨w.heap.size+1,1,none⟩ p).setCell ⟨w.heap.size+1,2,none⟩ n).setCell ⟨w.heap.size+1,3,none⟩ (.int .i64 H7)).setCell ⟨w.heap.size+1,4,none⟩ (.int .u64 L7))/\w9.heap[w.heap.size+1]?=some (.cells QbH 67 (0,0)):=fun w9 Z p n a b P9 N9 hg hr hp9 hn9 ac=>by
  have hR:w9.heap[w.heap.size+1]?=some (.cells QbH 67 (0,0)):=by rw [hg.block _ (by omega) (fun e=>by have:=Option.some.inj e;omega)];exact R3
  have q1:=hp9.ne hR (by decide);have q2:=hn9.ne hR (by decide);refine ⟨⟨p,n,a,b,rfl,((((hp9.set q1 _).set q1 _).set q1 _).set q1 _).set q1 _,((((hn9.set q2 _).set q2 _).set q2 _).set q2 _).set q2 _,ac⟩,?_,hR⟩
  repeat (refine Below.setCell ?_ (by simp <;> omega) _)
  exact aw.out.grown hg aw.out.size (fun k e=>by cases e;omega)
 have av:=Qaa aI;clear aI hC o1 o2 hw3 aK aV K6 Q6 aU S3 R6 y0 y1 y2 y3 y4 bc bj au aD aH;have c3:vv=0∨0<vv∨vv<0:=by omega
 rcases c3 with aW | bh | bg
 ·have aC:Hid (QmH z vv wt=Qa9 z wt):=if_pos aW
  have aZ:Hid (QeH P vv wt=P):=if_neg (by omega);have aQ:Hid (QeD N vv wt=N):=if_neg (by omega);have d0:(vv == 0)=true:=beq_iff_eq.2 aW;have d1:decide (0<vv)=false:=ZZg (by omega);have d2:decide (vv<0)=false:=ZZg (by omega);clear aW;obtain ⟨w9,ad⟩:∃ W,w3.setCell ⟨sg,0,none⟩ (.int .u64 (Qa9 z wt))=W:=⟨_,rfl⟩;have am:w3.grownBy w9 (some sg):=by rw [<- ad];exact Qah _ _ _ _
  have ai:w9.heap[sg]?=some (.cells #[.int .u64 (Qa9 z wt),.slice ag m1 c1,.slice af m2 c2,.int .i64 H7,.int .u64 L7] 67 (0,0)):=by rw [<- ad];exact ZZl w3 sg 0 _ _ _ aY
  have ap:OwnB w9 w.heap.size (.slice ag m1 c1) m1 P:=by rw [<- ad];exact ar.out.set (ar.out.ne aY.out (by decide)) _
  have ao:OwnB w9 w.heap.size (.slice af m2 c2) m2 N:=by rw [<- ad];exact aq.out.set (aq.out.ne aY.out (by decide)) _
  have ac:=bd.out;obtain ⟨k0,k1,k2,k3,k4⟩:=K3;obtain ⟨F1,F2,R9⟩:=av.out w9 (Qa9 z wt) (.slice ag m1 c1) (.slice af m2 c2) m1 m2 _ _ am ai ap ao ac;obtain ⟨u0,u1,u2,u3,u4⟩:=Qes ai;obtain ⟨q0,q1,q2,q3,q4⟩:=Qes R9;obtain ⟨a2,a4,ba,a3,a5⟩:=fA5 R9;have ay:=Qaa F1;have az:=Qaa F2;clear F1 F2 R9 ai am ap ao ac;go_wp2_with (go_at_call 128;refine (Qb3 _ _ hz hwt _).mono ?_;rintro e w8 ⟨rfl,hw⟩;obtain rfl:=hw.symm);refine bodyPost_ret (v:=.agg #[.int .u64 (Qa9 z wt),.slice ag m1 c1,.slice af m2 c2,.int .i64 H7,.int .u64 L7]) (by simp [results,results132,go_sem,q0,q1,q2,q3,q4]) rfl ⟨_,rfl,?_,az⟩;rw [aS.out,aR.out,aC.out,aZ.out,aQ.out];exact ay.out
 ·have aC:Hid (QmH z vv wt=z):=if_neg (by omega)
  have aQ:Hid (QeD N vv wt=N):=if_neg (by omega);have aL:=Qaa bh;have d0:(vv == 0)=false:=ZZf.2 (by omega);go_wp2_with fail;have aa:(fun W=>Below w3.heap.size w3 W) w3.drew:=(ZZb _ _).drew;refine Qal (fun W=>Below w3.heap.size w3 W) 9 (by kernel_rfl) ?_;refine tkL 0 (.pointer (some ⟨w.heap.size,1,none⟩)) aa (fun W hW=>?_) ?_
  ·obtain ⟨⟨x0,x1,x2,x3,x4⟩,x5,x6⟩:=HC.out W hW
   go_simp
  refine tkL 1 (.slice pa pn pc) aa (fun W hW=>?_) ?_
  ·obtain ⟨⟨x0,x1,x2,x3,x4⟩,x5,x6⟩:=HC.out W hW
   go_simp
  refine tkL 2 (.int .i64 vv) aa (fun W hW=>?_) ?_
  ·obtain ⟨⟨x0,x1,x2,x3,x4⟩,x5,x6⟩:=HC.out W hW
   go_simp
  simp only [sX];refine tkL 4 (.int .u64 wt) aa (fun W hW=>?_) ?_
  ·obtain ⟨⟨x0,x1,x2,x3,x4⟩,x5,x6⟩:=HC.out W hW
   go_simp
  simp only [sX];refine onE 3 fun K hK=>?_;go_simp;refine (QbV _ _ (by unfold I64;omega)).mono ?_;rintro e w4 ⟨rfl,rfl⟩;dsimp only;refine gK hK aa ?_
  try simp only [sX]
  refine tkS 5 (.agg #[.int .i64 (Qdf vv),.int .u64 wt]) aa ?_;simp only [sX];refine onE 6 fun K hK=>?_;go_simp;have aE:Below w3.heap.size w3 (w3.drew.alloc (.cells #[.int .i64 (Qdf vv),.int .u64 wt] 181)):=aa.alloc (ZZa _) _;have ah:=Qaa aE;clear aE;refine gK hK ah.out ?_
  try simp only [sX]
  refine onE 7 fun K hK=>?_;go_simp;refine (Qem _ _ _ _ hp (by rfl) lp (by omega) (Qai HP (Qac aw ah)) (Qk2 _ _ _ _) KP (fun x hx=>by obtain rfl:x=(Qdf vv,wt):=(by simpa using hx);exact ⟨by have:=QiA vv;unfold I64;omega,hwt⟩)).mono ?_;rintro e w5 ⟨v5,n5,rfl,aG,aF,an⟩;have al:=OwnB.of aG aF;clear aG aF;dsimp only;have ab:=Qaa (Qac ah an);have aB:=Qaa (al.le (B':=w.heap.size) (by have:=aw.out.size;have:=ah.out.size;omega));have aM:=Qaa (fun q (h:Value.ownBlock v5=some q)=>(show w3.heap.size<=q from Nat.le_trans ah.out.size (al.lt q h).1));obtain ⟨ae,c5,rfl⟩:=al.any;clear al an;refine gK hK ab.out ?_
  try simp only [sX]
  refine onE 8 fun K hK=>?_;go_simp;refine gK hK ab.out ?_
  try simp only [sX]
  have R5:=(HC.out _ ab).2.2;obtain ⟨q0,q1,q2,q3,q4⟩:=Qes R5;have f1:=fzR 1 R5;refine onE 9 fun K hK=>?_;go_simp;refine hK.out _ _ (fun h=>absurd rfl h) ?_
  try simp only [sX]
  refine dnE ?_ _;generalize ad:w5.setCell ⟨sg,1,none⟩ (.slice ae n5 c5)=w9;have am:w3.grownBy w9 (some sg):=by rw [<- ad];exact World.grownBy.trans ⟨ab.out.os,ab.out.tape,ab.out.output,ab.out.size,fun k hk _=>ab.out.block k hk⟩ (Qah _ _ _ _)
  have ai:w9.heap[sg]?=some (.cells #[.int .u64 z,.slice ae n5 c5,.slice af m2 c2,.int .i64 H7,.int .u64 L7] 67 (0,0)):=by rw [<- ad];exact ZZl w5 sg 1 _ _ _ R5
  have aj:Value.ownBlock (.slice ae n5 c5)≠some sg:=aB.out.ne R5 (by decide)
  have ap:OwnB w9 w.heap.size (.slice ae n5 c5) n5 (QeH P vv wt):=by
   rw [<- ad,QeH,if_pos aL.out];exact aB.out.set aj _
  have ao:OwnB w9 w.heap.size (.slice af m2 c2) m2 N:=by
   rw [<- ad];have h5:=aq.out.past ab;exact h5.set (h5.ne R5 (by decide)) _
  have ac:QjC (.slice ae n5 c5) (.slice af m2 c2):=fun k e1 e2=>by
   have h1:=aM.out k e1;have h2:=(aq.out.lt k e2).2;omega
  have d2:decide (vv<0)=false:=ZZg (by have:=aL.out;omega);clear ad aj R5 q0 q1 q2 q3 q4 f1;obtain ⟨F1,F2,R9⟩:=av.out w9 z (.slice ae n5 c5) (.slice af m2 c2) n5 m2 _ _ am ai ap ao ac;obtain ⟨u0,u1,u2,u3,u4⟩:=Qes ai;obtain ⟨q0,q1,q2,q3,q4⟩:=Qes R9;obtain ⟨a2,a4,ba,a3,a5⟩:=fA5 R9;have ay:=Qaa F1;have az:=Qaa F2;clear F1 F2 R9 ai am ap ao ac;go_wp2;refine bodyPost_ret (v:=.agg #[.int .u64 z,.slice ae n5 c5,.slice af m2 c2,.int .i64 H7,.int .u64 L7]) (by simp [results,results132,go_sem,q0,q1,q2,q3,q4]) rfl ⟨_,rfl,?_,az⟩;rw [aS.out,aR.out,aC.out,aQ.out];exact ay.out
 ·have aC:Hid (QmH z vv wt=z):=if_neg (by omega)
  have aZ:Hid (QeH P vv wt=P):=if_neg (by omega);have aL:=Qaa bg;have d0:(vv == 0)=false:=ZZf.2 (by omega);have d1:decide (0<vv)=false:=ZZg (by omega);have dm:IntKind.i64.wrap (-vv)=-vv:=by rw [IntKind.wrap_i64];omega
  go_wp2_with fail;have aa:(fun W=>Below w3.heap.size w3 W) w3.drew:=(ZZb _ _).drew;refine Qal (fun W=>Below w3.heap.size w3 W) 10 (by kernel_rfl) ?_;refine tkL 0 (.pointer (some ⟨w.heap.size,2,none⟩)) aa (fun W hW=>?_) ?_
  ·obtain ⟨⟨x0,x1,x2,x3,x4⟩,x5,x6⟩:=HC.out W hW
   go_simp
  refine tkL 1 (.slice na nn nc) aa (fun W hW=>?_) ?_
  ·obtain ⟨⟨x0,x1,x2,x3,x4⟩,x5,x6⟩:=HC.out W hW
   go_simp
  refine tkL 2 (.int .i64 vv) aa (fun W hW=>?_) ?_
  ·obtain ⟨⟨x0,x1,x2,x3,x4⟩,x5,x6⟩:=HC.out W hW
   go_simp
  simp only [sX];refine tkL 3 (.int .i64 (-vv)) aa (fun W hW=>?_) ?_
  ·obtain ⟨⟨x0,x1,x2,x3,x4⟩,x5,x6⟩:=HC.out W hW
   go_simp
  refine tkL 5 (.int .u64 wt) aa (fun W hW=>?_) ?_
  ·obtain ⟨⟨x0,x1,x2,x3,x4⟩,x5,x6⟩:=HC.out W hW
   go_simp
  simp only [sX];refine onE 4 fun K hK=>?_;go_simp;refine (QbV _ _ (by unfold I64;omega)).mono ?_;rintro e w4 ⟨rfl,rfl⟩;dsimp only;refine gK hK aa ?_
  try simp only [sX]
  refine tkS 6 (.agg #[.int .i64 (Qdf (-vv)),.int .u64 wt]) aa ?_;simp only [sX];refine onE 7 fun K hK=>?_;go_simp;have aE:Below w3.heap.size w3 (w3.drew.alloc (.cells #[.int .i64 (Qdf (-vv)),.int .u64 wt] 181)):=aa.alloc (ZZa _) _;have ah:=Qaa aE;clear aE;refine gK hK ah.out ?_
  try simp only [sX]
  refine onE 8 fun K hK=>?_;go_simp;refine (Qem _ _ _ _ hn (by rfl) ln (by omega) (Qai HN (Qac aw ah)) (Qk2 _ _ _ _) KN (fun x hx=>by obtain rfl:x=(Qdf (-vv),wt):=(by simpa using hx);exact ⟨by have:=QiA (-vv);unfold I64;omega,hwt⟩)).mono ?_;rintro e w5 ⟨v5,n5,rfl,aG,aF,an⟩;have al:=OwnB.of aG aF;clear aG aF;dsimp only;have ab:=Qaa (Qac ah an);have aB:=Qaa (al.le (B':=w.heap.size) (by have:=aw.out.size;have:=ah.out.size;omega));have aM:=Qaa (fun q (h:Value.ownBlock v5=some q)=>(show w3.heap.size<=q from Nat.le_trans ah.out.size (al.lt q h).1));obtain ⟨ae,c5,rfl⟩:=al.any;clear al an;refine gK hK ab.out ?_
  try simp only [sX]
  refine onE 9 fun K hK=>?_;go_simp;refine gK hK ab.out ?_
  try simp only [sX]
  have R5:=(HC.out _ ab).2.2;obtain ⟨q0,q1,q2,q3,q4⟩:=Qes R5;have f1:=fzR 2 R5;refine onE 10 fun K hK=>?_;go_simp;refine hK.out _ _ (fun h=>absurd rfl h) ?_
  try simp only [sX]
  refine dnE ?_ _;generalize ad:w5.setCell ⟨sg,2,none⟩ (.slice ae n5 c5)=w9;have am:w3.grownBy w9 (some sg):=by rw [<- ad];exact World.grownBy.trans ⟨ab.out.os,ab.out.tape,ab.out.output,ab.out.size,fun k hk _=>ab.out.block k hk⟩ (Qah _ _ _ _)
  have ai:w9.heap[sg]?=some (.cells #[.int .u64 z,.slice ag m1 c1,.slice ae n5 c5,.int .i64 H7,.int .u64 L7] 67 (0,0)):=by rw [<- ad];exact ZZl w5 sg 2 _ _ _ R5
  have aj:Value.ownBlock (.slice ae n5 c5)≠some sg:=aB.out.ne R5 (by decide)
  have ao:OwnB w9 w.heap.size (.slice ae n5 c5) n5 (QeD N vv wt):=by
   rw [<- ad,QeD,if_pos aL.out];exact aB.out.set aj _
  have ap:OwnB w9 w.heap.size (.slice ag m1 c1) m1 P:=by
   rw [<- ad];have h5:=ar.out.past ab;exact h5.set (h5.ne R5 (by decide)) _
  have ac:QjC (.slice ag m1 c1) (.slice ae n5 c5):=fun k e1 e2=>by
   have h1:=aM.out k e2;have h2:=(ar.out.lt k e1).2;omega
  clear ad aj R5 q0 q1 q2 q3 q4 f1;obtain ⟨F1,F2,R9⟩:=av.out w9 z (.slice ag m1 c1) (.slice ae n5 c5) m1 n5 _ _ am ai ap ao ac;obtain ⟨u0,u1,u2,u3,u4⟩:=Qes ai;obtain ⟨q0,q1,q2,q3,q4⟩:=Qes R9;obtain ⟨a2,a4,ba,a3,a5⟩:=fA5 R9;have ay:=Qaa F1;have az:=Qaa F2;clear F1 F2 R9 ai am ap ao ac;go_wp2;refine bodyPost_ret (v:=.agg #[.int .u64 z,.slice ag m1 c1,.slice ae n5 c5,.int .i64 H7,.int .u64 L7]) (by simp [results,results132,go_sem,q0,q1,q2,q3,q4]) rfl ⟨_,rfl,?_,az⟩;rw [aS.out,aR.out,aC.out,aZ.out];exact ay.out
end
section
def QiM (k:Int):Bool:=decide (1<=k) && decide (k<=4)
def QrV (v:Int):Bool:=decide (-999999999999999999<=v) && decide (v<=999999999999999999)
def QjD (k v:Int) (wd:ByteArray):Bool:=if k=4 then decide (v=0) && Qbk wd else QrV v && decide (wd.size=0)
def QcY (k wt:Int):Bool:=decide (wt=1) || (decide (k=1) || decide (k=3)) && decide (0<wt) && decide (wt<=1000000)
def Qgi (tm:Bool) (ti:Int):Bool:=if tm=true then decide (0<=ti) && decide (ti<=1000000000) else decide (ti=0)
end
section
variable {w0 w:World} {g:Nat} {k:Int} {se:ByteArray} {v:Int} {wd:ByteArray} {wt:Int} {tm:Bool} {ti:Int} {T:TypeId}
noncomputable def QbB (k:Int) (se:ByteArray) (v:Int) (wd:ByteArray) (wt:Int) (tm:Bool) (ti:Int):Bool:=QiM k && Qbn se && QjD k v wd && QcY k wt && Qgi tm ti
end
section
structure Sx where
 k:Int
 se:ByteArray
 v:Int
 wd:ByteArray
 wt:Int
 tm:Bool
 ti:Int
noncomputable def Sx.B (x:Sx):Bool:=QbB x.k x.se x.v x.wd x.wt x.tm x.ti
structure Sx.Ok (x:Sx):Prop where
 k:I64 x.k
 v:I64 x.v
 wt:U64 x.wt
 ti:I64 x.ti
 se:x.se.size<=maxLen
 wd:x.wd.size<=maxLen
abbrev QaV (x:Sx):Array Value:=#[.int .i64 x.k,.string x.se,.int .i64 x.v,.string x.wd,.int .u64 x.wt,.bool x.tm,.int .i64 x.ti]
end
end Go.Proofs.YtlejlgldgafljaaGreatDoor
