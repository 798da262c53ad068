/-
 Parts.
-/
import Derived.Test.YtdbaabbmcfnjbaaGreatDoorDYB
import Derived.DataShut
import Derived.Laws.MathBits
import Derived.Laws.NewBlocks
import Derived.Lib.AppendZerosOnto
import Derived.Lib.BitFns
import Derived.Shelf.Spec.SlicesInsert
set_option maxRecDepth 10000
set_option maxHeartbeats 8000000
set_option linter.all false
namespace Go.Proofs.YtdbaabbmcfnjbaaGreatDoor
open Go.ChangeShapes Go.WideShapes Go.ChangeAt Go.RowKit Go.PlainAid Go.Maps Go.Lib Tryz
section
def Qb0:List Int->Int->List Int
 | [],x=>[x]
 | y :: r,x=>if y<x then y :: Qb0 r x else if y=x then y :: r else x :: y :: r
theorem Qfr (z:Int):∀ (l:List Int) (x:Int),z∈Qb0 l x↔z=x∨z∈l
 | [],x=>by simp [Qb0]
 | y :: r,x=>by
  unfold Qb0
  split
  ·simp only [List.mem_cons,Qfr z r x]
   constructor
   ·rintro (h | h | h) <;> simp [h]
   ·rintro (h | h | h) <;> simp [h]
  ·split
   ·rename_i e;subst e;simp
   ·simp
def QcO (l m:List Int):List Int:=m.foldl Qb0 l
def rho (x:Int):Int:=min (64 - (Lib.bitLen (IntKind.u64.wrap (x*64)).toNat:Int)+1) 55
theorem QtR (x:Int):0<=IntKind.u64.wrap x/\IntKind.u64.wrap x<=18446744073709551615:=by
 have:IntKind.u64.wrap x=x % 18446744073709551616:=by simp [IntKind.wrap,IntKind.bits,IntKind.signed]
 rw [this];omega
theorem QiZ:∀ (f x:Nat),Lib.bitLenAux f x<=f
 | 0,x=>by simp [Lib.bitLenAux]
 | f+1,x=>by
  unfold Lib.bitLenAux
  split
  ·omega
  ·have:=QiZ f (x / 2);omega
theorem QdN (x:Nat):Lib.bitLen x<=64:=QiZ 64 x
theorem Qtt (x:Int):1<=rho x/\rho x<=55:=by
 unfold rho;have:=QdN (IntKind.u64.wrap (x*64)).toNat;omega
end
variable {p v x y:Int}
variable {S S' T U:Int->Prop}
variable {A E L R R':List Int}
variable {w:World}
variable {K c d g i k m n s:Nat}
section
def reg (x:Int):Nat:=(x / 288230376151711744).toNat
theorem reg_lt (h:U64 x):reg x<64:=by unfold U64 at h;unfold reg;omega
def lay (R:List Int) (x:Int):List Int:=R.set (reg x) (max (R.getD (reg x) 0) (rho x))
def Laid (R:List Int) (S:Int->Prop) (R':List Int):Prop:=R'.length=R.length/\∀ i,i<R.length->R.getD i 0<=R'.getD i 0/\(∀ x,S x->reg x=i->rho x<=R'.getD i 0)/\(R'.getD i 0=R.getD i 0∨∃ x,S x/\reg x=i/\R'.getD i 0=rho x)
theorem Laid.start (R:List Int) (h:∀ x,¬ S x):Laid R S R:=⟨rfl,fun i hi=>⟨Int.le_refl _,fun x hx=>absurd hx (h x),.inl rfl⟩⟩
theorem QuK (R:List Int) (x:Int):(lay R x).length=R.length:=by simp [lay]
theorem lay_at (R:List Int) (x:Int) (i:Nat) (hi:i<R.length):(lay R x).getD i 0=if reg x=i then max (R.getD i 0) (rho x) else R.getD i 0:=by
 unfold lay;rw [List.getD_eq_getElem?_getD,List.getElem?_set];by_cases e:reg x=i
 ·subst e;simp [hi]
 ·simp [e]
theorem Laid.step (h:Laid R S R') (hS:∀ x,S' x↔S x∨x=y):Laid R S' (lay R' y):=by
 refine ⟨by rw [QuK,h.1],fun i hi=>?_⟩;obtain ⟨h1,h2,h3⟩:=h.2 i hi;rw [lay_at R' y i (by rw [h.1];exact hi)]
 split
 ·rename_i e
  refine ⟨by omega,fun x hx hr=>?_,?_⟩
  ·rcases (hS x).1 hx with hx | hx
   ·have:=h2 x hx hr;omega
   ·subst hx;omega
  ·by_cases hm:R'.getD i 0<=rho y
   ·exact .inr ⟨y,(hS y).2 (.inr rfl),e,by omega⟩
   ·rw [show max (R'.getD i 0) (rho y)=R'.getD i 0 by omega]
    rcases h3 with h3 | ⟨x,hx,hr,hv⟩
    ·exact .inl h3
    ·exact .inr ⟨x,(hS x).2 (.inl hx),hr,hv⟩
 ·rename_i e
  refine ⟨h1,fun x hx hr=>?_,?_⟩
  ·rcases (hS x).1 hx with hx | hx
   ·exact h2 x hx hr
   ·subst hx;exact absurd hr e
  ·rcases h3 with h3 | ⟨x,hx,hr,hv⟩
   ·exact .inl h3
   ·exact .inr ⟨x,(hS x).2 (.inl hx),hr,hv⟩
theorem Laid.same {B:List Int} (h:Laid R S A) (g:Laid R S' B) (hS:∀ x,S x↔S' x):A=B:=by
 apply List.ext_getElem (by rw [h.1,g.1]);intro i h1 h2;have hi:i<R.length:=by rw [<- h.1];exact h1
 obtain ⟨a1,a2,a3⟩:=h.2 i hi;obtain ⟨b1,b2,b3⟩:=g.2 i hi;rw [List.getD_eq_getElem?_getD,List.getD_eq_getElem?_getD,List.getElem?_eq_getElem h1] at a1;simp only [List.getD_eq_getElem?_getD,List.getElem?_eq_getElem h1,List.getElem?_eq_getElem h2,Option.getD_some] at a1 a2 a3 b1 b2 b3;rcases a3 with a3 | ⟨x,hx,hr,hv⟩ <;> rcases b3 with b3 | ⟨y,hy,hs,hu⟩
 ·rw [a3,b3]
 ·have:=a2 y ((hS y).2 hy) hs;omega
 ·have:=b2 x ((hS x).1 hx) hr;omega
 ·have:=a2 y ((hS y).2 hy) hs
  have:=b2 x ((hS x).1 hx) hr;omega
def RowI (w:World) (B g:Nat) (R:List Int):Prop:=R.length=64/\w.ownsRow B 2 1 (.slice (some ⟨g,0,none⟩) 64 64) 64 (R.map (Value.int .i64))
theorem RowI.cell {B:Nat} (h:RowI w B g R) (hk:k<64) (hx:x=R.getD k 0):w.cell? ⟨g,k,none⟩=some (.int .i64 x):=by
 have hs:=h.1;rw [h.2.cellAt k (by omega),hx];rw [List.getD_eq_getElem?_getD,List.getElem?_map,List.getElem?_eq_getElem (by omega:k<R.length)];simp
theorem RowI.froz {B:Nat} (h:RowI w B g R) (k:Nat):w.frozen? ⟨g,k,none⟩=false:=h.2.frozenAt k
theorem RowI.lt {B:Nat} (h:RowI w B g R):B<=g/\g<w.heap.size:=Qsi h.2
theorem RowI.set {B:Nat} (h:RowI w B g R) (k:Nat) (x:Int):RowI (w.setCell ⟨g,k,none⟩ (.int .i64 x)) B g (R.set k x):=by
 refine ⟨by simp [h.1],?_⟩;have:=(h.2.stored k (.int .i64 x)).1;rw [List.map_set];exact this
end
section
def mxL (A B:List Int) (m:Nat):List Int:=(List.range A.length).map fun i=>if i<m then max (A.getD i 0) (B.getD i 0) else A.getD i 0
theorem Qdg (A B:List Int) (m:Nat):(mxL A B m).length=A.length:=by simp [mxL]
theorem Qge (A B:List Int) (m i:Nat) (hi:i<A.length):(mxL A B m).getD i 0=if i<m then max (A.getD i 0) (B.getD i 0) else A.getD i 0:=by
 rw [List.getD_eq_getElem?_getD,List.getElem?_eq_getElem (by rw [Qdg];exact hi)];simp only [mxL,List.getElem_map,List.getElem_range,Option.getD_some]
theorem Qdl (A B:List Int):mxL A B 0=A:=by
 apply List.ext_getElem (Qdg A B 0);intro i h1 h2;simp [mxL,h2]
theorem Laid.trans (h:Laid A S R) (g:Laid R T R') (hU:∀ x,U x↔S x∨T x):Laid A U R':=by
 refine ⟨by rw [g.1,h.1],fun i hi=>?_⟩;obtain ⟨h1,h2,h3⟩:=h.2 i hi;obtain ⟨g1,g2,g3⟩:=g.2 i (by rw [h.1];exact hi);refine ⟨by omega,fun x hx hr=>?_,?_⟩
 ·rcases (hU x).1 hx with hx | hx
  ·have:=h2 x hx hr;omega
  ·exact g2 x hx hr
 ·rcases g3 with g3 | ⟨x,hx,hr,hv⟩
  ·rcases h3 with h3 | ⟨x,hx,hr,hv⟩
   ·exact .inl (by omega)
   ·exact .inr ⟨x,(hU x).2 (.inl hx),hr,by omega⟩
  ·exact .inr ⟨x,(hU x).2 (.inr hx),hr,hv⟩
theorem Laid.iff (h:Laid A S R) (hS:∀ x,S x↔T x):Laid A T R:=by
 have:S=T:=funext fun x=>propext (hS x);rw [<- this];exact h
def QeC (R:List Int):List Int:=if R.length=0 then List.replicate 64 0 else R
theorem Qhk (h:R.length=0∨R.length=64):(QeC R).length=64:=by
 unfold QeC;split
 ·simp
 ·omega
abbrev QmH (E1 E2:List Int):List Int:=QcO (QcO [] E1) E2
def Mg (E1 R1 E2 R2 E R:List Int):Prop:=(R1.length=0/\R2.length=0/\(QmH E1 E2).length<=40/\E=QmH E1 E2/\R=[])∨(¬ (R1.length=0/\R2.length=0/\(QmH E1 E2).length<=40)/\E=[]/\Laid (mxL (QeC R1) R2 R2.length) (·∈QmH E1 E2) R)
theorem Mg.one {E1 R1 E2 R2 E':List Int} (h:Mg E1 R1 E2 R2 E R) (g:Mg E1 R1 E2 R2 E' R'):E=E'/\R=R':=by
 rcases h with ⟨a,b,c,d,e⟩ | ⟨a,b,c⟩ <;> rcases g with ⟨a',b',c',d',e'⟩ | ⟨a',b',c'⟩
 ·exact ⟨d.trans d'.symm,e.trans e'.symm⟩
 ·exact absurd ⟨a,b,c⟩ a'
 ·exact absurd ⟨a',b',c'⟩ a
 ·exact ⟨b.trans b'.symm,c.same c' (fun _=>Iff.rfl)⟩
theorem RowI.below {w':World} {B:Nat} (h:RowI w B g R) (hK:g<K) (hb:Below K w w'):RowI w' B g R:=by
 refine ⟨h.1,h.2.1,?_⟩;rcases h.2.2 with h2 | ⟨g',ab,aa,e,h1,h2,h3⟩
 ·exact .inl h2
 ·cases e
  exact .inr ⟨g,64,aa,rfl,h1,(hb.block g hK).trans h2,h3⟩
theorem Qgd:∀ (l:List Int) (x:Int),(Qb0 l x).length<=l.length+1
 | [],x=>by simp [Qb0]
 | y :: r,x=>by
  have:=Qgd r x;unfold Qb0
  split
  ·simp only [List.length_cons];omega
  ·split <;> simp
end
variable {ao ra:Option Addr}
section
def zer64:List Value:=(List.replicate 64 (0:Int)).map (Value.int .i64)
theorem QuD:zer64.length=64:=by simp [zer64]
theorem QmE (h:R.length=0∨R.length=64):splice zer64 0 (R.map (Value.int .i64))=(QeC R).map (Value.int .i64):=by
 unfold QeC splice zer64;rcases h with h | h
 ·obtain rfl:=List.eq_nil_of_length_eq_zero h
  simp
 ·rw [if_neg (by omega)]
  simp [h]
theorem info1I:(prog.info? 2).map (·.size)=some 1:=by kernel_rfl
theorem RowI.full {B:Nat} (h:RowI w B g R):w.heap[g]?=some (.cells (R.map (Value.int .i64)).toArray 2 (0,0)):=by
 rcases h.2.2 with ⟨e,_⟩ | ⟨g',ab,aa,e,h1,h2,_,_,h5,h6⟩
 ·cases e
 ·cases e
  rw [h2]
  have hc:aa.toList=R.map (Value.int .i64):=by
   rw [<- h6,List.take_of_length_le (by simp [h5])]
  rw [<- hc]
theorem RowI.of {B:Nat} (h:R.length=64) (hB:B<=g) (hg:w.heap[g]?=some (.cells (R.map (Value.int .i64)).toArray 2 (0,0))):RowI w B g R:=
 ⟨h,by simp [h],.inr ⟨g,64,_,rfl,hB,hg,Nat.le_refl _,by unfold maxLen;omega,by simp [h],List.take_of_length_le (by simp [h])⟩⟩
theorem RowI.le {B B':Nat} (h:RowI w B g R) (hB:B'<=B):RowI w B' g R:=⟨h.1,Qa1 h.2 hB⟩
theorem QpW {w2:World} (h:QaH .i64 w ao L) (hb:Below w.heap.size w w2):0<(L.map (Value.int .i64)).length->∃ ad,ao=some ad/\∀ j v,(L.map (Value.int .i64))[j]?=some v->w2.cell? (ad.add j)=some v:=fun h0=>by
 obtain ⟨b,off,rfl,hc⟩:=h (by simpa using h0);refine ⟨_,rfl,fun j v hv=>?_⟩;rw [List.getElem?_map] at hv;obtain ⟨x,hx,rfl⟩:=Option.map_eq_some_iff.1 hv;have:=Qab hb (hc j x hx);by_cases e:j=0
 ·subst e;simpa [Addr.add] using this
 ·simpa [Addr.add,e] using this
theorem Qm7 (w:World) (v:Value) (T:TypeId):(w.alloc (.cells #[v] T)).cell? ⟨w.heap.size,0,none⟩=some v:=by
 rw [cell_of_row _ w.heap.size 0 _ _ (0,0) (heap_alloc_new w (.cells #[v] T))];rfl
end
section
theorem Qc6 (h:hlB E R=true):E.length<=40/\(R.length=0∨R.length=64):=by
 unfold hlB at h
 split at h
 ·rename_i h0
  unfold exB at h;simp only [Bool.and_eq_true,decide_eq_true_eq] at h;exact ⟨h.1,.inl h0⟩
 ·unfold QmG at h
  simp only [Bool.and_eq_true,decide_eq_true_eq] at h;exact ⟨by omega,.inr h.2.1⟩
end
section
theorem Qmq {a b:Int} (h:a=b):Ending.returned (.int .i64 a)=.returned (.int .i64 b):=by rw [h]
theorem Qb6 (a b:Int) (w:World) :
  Calls prog 89 #[.int .i64 a,.int .i64 b] w fun e w'=>e=.returned (.int .i64 (max a b))/\w'=w:=by
 by_cases h:b<a
 ·have HE:Hid (a=max a b):=(by omega:a=max a b)
  go_enter func89,ntmps89;go_wp2;go_ret;exact ⟨Qmq HE,rfl⟩
 ·have HE:Hid (b=max a b):=(by omega:b=max a b)
  go_enter func89,ntmps89;go_wp2;go_ret;exact ⟨Qmq HE,rfl⟩
end
section
theorem QuZ {v:Nat} (h:9223372036854775808<=v) (h2:v<18446744073709551616):Lib.bitLen v=64:=by
 have hb:=Lib.bitLenAux_bounds 64 v (by simpa using h2) (by omega);have hl:=QdN v;have hd:Lib.bitLen v=Lib.bitLenAux 64 v:=rfl;rw [<- hd] at hb;by_cases q:Lib.bitLen v<=63
 ·have:2 ^ Lib.bitLen v<=2 ^ 63:=Nat.pow_le_pow_right (by omega) q
  omega
 ·omega
def QgI (n v:Int):Int:=min (64 - (Lib.bitLen v.toNat:Int)+n) 55
theorem Qo1 (x:Int):QgI 1 (IntKind.u64.wrap (x*64))=rho x:=rfl
theorem Qrp {n:Int} (h1:1<=n) (h0:0<=v) (hv:v<9223372036854775808):QgI (n+1) (v*2)=QgI n v:=by
 unfold QgI;by_cases e:v=0
 ·subst e
  simp [Lib.bitLen,Lib.bitLenAux_zero];omega
 ·have:=Lib.bitLen_half (v*2).toNat (by omega) (by omega)
  have h2:(v*2).toNat / 2=v.toNat:=by omega
  rw [h2] at this;rw [this];omega
theorem rho_full:QgI 55 v=55:=by
 unfold QgI;have:=QdN v.toNat;omega
theorem QtP {n:Int} (hn:n<=55) (hv:9223372036854775808<=v) (h2:v<18446744073709551616):QgI n v=n:=by
 unfold QgI;rw [QuZ (by omega) (by omega)];omega
theorem Qt7 {B:Nat} (x:Int) (hx:U64 x) (hR:RowI w B g R) :
  Calls prog 236 #[.slice (some ⟨g,0,none⟩) 64 64,.int .u64 x] w fun e w'=>(∃ r,e=.returned r)/\RowI w' B g (lay R x)/\Below B w w':=by
 have aa:=reg_lt hx;have q0:0<=x / 288230376151711744:=by unfold U64 at hx;omega
 have q1:x / 288230376151711744<64:=by unfold U64 at hx;omega
 have qw:IntKind.i64.wrap (x / 288230376151711744)=x / 288230376151711744:=ZZi _ ⟨by omega,by omega⟩;obtain ⟨v,hv⟩:∃ v,v=R.getD (reg x) 0:=⟨_,rfl⟩;have ab:w.cell? ⟨g,(x / 288230376151711744).toNat,none⟩=some (.int .i64 v):=hR.cell aa hv;have ad:w.frozen? ⟨g,(x / 288230376151711744).toNat,none⟩=false:=hR.froz (reg x)
 have HF:Hid (∀ y,y=rho x->RowI (w.setCell ⟨g,(x / 288230376151711744).toNat,none⟩ (.int .i64 (max v y))) B g (lay R x)/\Below B w (w.setCell ⟨g,(x / 288230376151711744).toNat,none⟩ (.int .i64 (max v y)))):=fun y hy=>by
  subst hy;refine ⟨?_,(ZZb _ _).setCell hR.lt.1 _⟩;have:=hR.set (reg x) (max v (rho x));unfold lay;rw [<- hv];exact this
 obtain ⟨s0,s1⟩:=QtR (x*64);have HS:=Qaa (Qo1 x);clear hR hv aa;go_enter func236,ntmps236;go_wp2
 go_loopw [5,6] (fun a b wr=>wr=w/\∃ n z:Int,a=.int .i64 n/\b=.int .u64 z/\1<=n/\n<=55/\0<=z/\z<=18446744073709551615/\Hid (QgI n z=rho x)) (fun a b wr=>55 - (Go.RowKit.intOf a).toNat)
 case atStart=>exact ⟨rfl,1,_,rfl,rfl,by omega,by omega,s0,s1,HS⟩
 case round=>
  clear HS s0 s1;obtain ⟨rfl,n,z,rfl,rfl,n1,n2,z0,z1,HR⟩:=hrel;by_cases hn:n<55
  ·by_cases hz:z<9223372036854775808
   ·have dz:z / 9223372036854775808=0:=by omega
    have d0:decide (z / 9223372036854775808=0)=true:=ZZh dz;have uw:IntKind.u64.wrap (z*2)=z*2:=IntWalk.u64_in _ ⟨by omega,by omega⟩;have ac:Hid (QgI (n+1) (z*2)=rho x):=(Qrp n1 z0 hz).trans HR;go_wp2;go_roundw
    case rel=>exact ⟨trivial,n+1,z*2,rfl,rfl,by omega,by omega,by omega,by omega,ac⟩
    case measure=>simp [zI];omega
   ·have dz:z / 9223372036854775808=1:=by omega
    have HE:Hid (n=rho x):=(QtP n2 (by omega) (by omega)).symm.trans HR;go_wp2_with (go_at_call 89;refine (Qb6 _ _ _).mono ?_;rintro e w1 ⟨rfl,hw⟩;obtain rfl:=hw.symm)
    go_end0
    exact ⟨⟨_,rfl⟩,HF.out _ HE⟩
  ·obtain rfl:n=55:=by omega
   have HE:Hid ((55:Int)=rho x):=rho_full.symm.trans HR;go_wp2_with (go_at_call 89;refine (Qb6 _ _ _).mono ?_;rintro e w1 ⟨rfl,hw⟩;obtain rfl:=hw.symm)
   go_end0
   exact ⟨⟨_,rfl⟩,HF.out _ HE⟩
end
section
theorem QhV (h:L[k]?=some y) (x:Int):x∈L.take (k+1)↔x∈L.take k∨x=y:=by
 rw [List.take_add_one,h];simp
theorem Qce {eb:Option Addr} (h1:R.length=m) (h2:E.length=n) (l1:m=0∨m=64) (l2:n<=1000) (hR:QaH .i64 w ra R) (hE:QaH .u64 w eb E) (u1:∀ x∈E,U64 x) :
  Calls prog 174 #[.slice ra m d,.slice eb n c] w fun e w'=>∃ g R',e=.returned (.agg #[.slice none 0 0,.slice (some ⟨g,0,none⟩) 64 64])/\Laid (QeC R) (·∈E) R'/\RowI w' w.heap.size g R'/\Below w.heap.size w w':=by
 have HR:=Qaa hR;have HE:=Qaa hE;have H1:=Qaa h1;have H2:=Qaa h2;have L1:=Qaa l1;have U1:=Qaa u1;have aq:Hid ((QeC R).length=64):=Qhk (by rw [h1];exact l1);obtain ⟨i0,hi,av,ap,au⟩:=info_parts Qg8;have an:Hid (∀ o,Below w.heap.size w (w.alloc o)):=fun o=>(ZZb _ _).alloc (ZZa _) _;have aw:=Qaa (ZZk w (.cells #[.slice none 0 0,.slice none 0 0] 88));clear hR hE h1 h2 l1 u1;go_enter func174,ntmps174
 go_wp2_with (first
  | (at_make;refine wpList_make_full _ rfl _ _ 86 rfl (w.heap.size+1) 2 i0 (.int .i64 0) 1 underlying86 hi av ap .i64 .i64 _ _ 64 rfl rfl rfl rfl (by rw [au];omega) (by unfold maxLen;omega) (by simp) ?_;intro w2 aa ab;simp only [World.size_alloc] at aa ⊢; have aj:Hid (w2.heap[w.heap.size+1]?=some (.cells zer64.toArray 2 (0,0))):=RowI.full (R:=List.replicate 64 0) ⟨by simp,by rw [<- Qn0];exact aa⟩;have af:Hid (Below (w.heap.size+1) (w.alloc (.cells #[.slice none 0 0,.slice none 0 0] 88)) w2):=(Below.refl _ _).grown ab (by simp) (fun k e=>by cases e);clear aa ab)
  | (refine wpList_copy_splice rfl _ _ 86 86 rfl 2 underlying86 info1I _ _ _ _ _ _ rfl rfl (w.heap.size+1) 0 _ 2 aj (R.map (Value.int .i64)) (by rw [List.length_map,H1.out];rcases L1.out with q | q <;> rw [q] <;> rfl) (fun h0=>⟨rfl,QpW HR ((an.out _).trans (af.out.mono (by omega))) h0⟩) (by rw [List.length_map,H1.out,QuD];have:=L1.out;omega) (by intro v hv;simp at hv;obtain ⟨x,_,rfl⟩:=hv;rfl) (w.heap.size+1) (w.alloc (.cells #[.slice none 0 0,.slice none 0 0] 88)) af (Nat.le_refl _) ?_;intro w3 ad ah;have am:=Qaa ah;have al:Hid (RowI w3 (w.heap.size+1) (w.heap.size+1) (QeC R)):=RowI.of aq (Nat.le_refl _) (by rw [<- QmE (by rw [H1.out];exact L1.out)];exact ad.out);clear ad ah aj af))
 go_loopw [6] (fun i wr=>∃ (k:Nat) (R':List Int),k<=n/\i=.int .i64 k/\Hid (RowI wr (w.heap.size+1) (w.heap.size+1) R')/\Hid (Laid (QeC R) (·∈E.take k) R')/\Hid (Below (w.heap.size+1) (w.alloc (.cells #[.slice none 0 0,.slice none 0 0] 88)) wr)) (fun i wr=>n - (Go.RowKit.intOf i).toNat)
 case atStart=>exact ⟨0,QeC R,Nat.zero_le _,rfl,al,Laid.start _ (fun x hx=>by simp at hx),am⟩
 case round=>
  clear al am;obtain ⟨k,R',hk,rfl,HO,HL,ae⟩:=hrel;have ag:=Qaa ((an.out (.cells #[.slice none 0 0,.slice none 0 0] 88)).trans (ae.out.mono (by omega)));by_cases ay:k<n
  ·obtain ⟨b,az,e,ac⟩:=HE.out (by have:=H2.out;omega)
   obtain ⟨y,hy⟩:∃ y,E[k]?=some y:=⟨E[k]'(by have:=H2.out;omega),ZZe _⟩;subst e;have ax:=Qab ag (ac k y hy);have HY:=Qaa hy;have HZ:=Qaa (U1.out y (ZZn hy));clear ac hy;go_wp2_with (go_at_call 236;refine (Qt7 _ HZ HO).mono ?_;rintro e w4 ⟨⟨r4,rfl⟩,ai,ak⟩;have ao:=Qaa ai;have ar:=Qaa (ae.out.trans ak);clear ai ak);go_roundw
   case rel=>exact ⟨k+1,_,by omega,by go_num,ao,HL.out.step (QhV HY),ar⟩
   case measure=>simp [zI];omega
  ·have HF:Hid (Laid (QeC R) (·∈E) R'):=by
    have:=HL.out;rw [List.take_of_length_le (by have:=H2.out;omega)] at this;exact this
   have R2:=(ae.out.block _ (by omega)).trans aw;have q0:wr.cell? ⟨w.heap.size,0,none⟩=some (.slice none 0 0):=by rw [cell_of_row _ _ 0 _ _ (0,0) R2];rfl
   have q1:wr.cell? ⟨w.heap.size,1,none⟩=some (.slice none 0 0):=by rw [cell_of_row _ _ 1 _ _ (0,0) R2];rfl
   have f0:=fzR 0 R2;have f1:=fzR 1 R2;clear R2;go_wp2;refine bodyPost_ret (v:=.agg #[.slice none 0 0,.slice (some ⟨w.heap.size+1,0,none⟩) 64 64]) (by simp [results,results174,go_sem,q0,q1]) rfl ⟨_,R',rfl,HF,?_,?_⟩
   ·refine RowI.le (B:=w.heap.size+1) ?_ (by omega)
    refine ⟨HO.out.1,?_⟩
    repeat (refine ownsRow_setCell_below ?_ (by simp) _)
    exact HO.out.2
   ·exact (ag.out.setCell (by simp) _).setCell (by simp) _
end
variable {kd:IntKind}
section
def Qe2 (L:List Int) (p:Int) (k:Nat):Prop:=k<=L.length/\(∀ (t:Nat) (x:Int),L[t]?=some x->t<k->x<p)/\∀ x,L[k]?=some x->¬ x<p
theorem Qgb {r:List Int} (h:Qe2 (y :: r) p (k+1)):Qe2 r p k:=
 ⟨by have:=h.1;simp at this;exact this,fun t x hx ht=>h.2.1 (t+1) x (by simpa using hx) (by omega),fun x hx=>h.2.2 x (by simpa using hx)⟩
theorem QoA {a:Int}:∀ (L:List Int) (k:Nat),Qe2 L a k->L[k]?=some a->Qb0 L a=L.take k ++ [a] ++ L.drop (k+1)
 | [],k,_,h=>by simp at h
 | y :: r,0,hp,h=>by
  obtain rfl:y=a:=by simpa using h
  simp [Qb0]
 | y :: r,k+1,hp,h=>by
  have hy:=hp.2.1 0 y rfl (by omega);rw [Qb0,if_pos hy,QoA r k (Qgb hp) (by simpa using h)];rfl
theorem QhO {a:Int}:∀ (L:List Int) (k:Nat),Qe2 L a k->(∀ x,L[k]?=some x->x≠a)->Qb0 L a=L.take k ++ [a] ++ L.drop k
 | [],k,hp,h=>by have:=hp.1;simp at this;subst this;rfl
 | y :: r,0,hp,h=>by
  have hy:=hp.2.2 y rfl;have hne:y≠a:=h y rfl;rw [Qb0,if_neg hy,if_neg hne];rfl
 | y :: r,k+1,hp,h=>by
  have hy:=hp.2.1 0 y rfl (by omega);rw [Qb0,if_pos hy,QhO r k (Qgb hp) (fun x hx=>h x (by simpa using hx))];rfl
theorem QeS (h:QaH kd w ao L) (k:Nat):QaH kd w ao (L.take k):=fun h0=>by
 obtain ⟨b,off,e,hc⟩:=h (by rw [List.length_take] at h0;omega);exact ⟨b,off,e,fun i x hx=>hc i x (by rw [List.getElem?_take] at hx;split at hx;exact hx;cases hx)⟩
theorem Qg4 {b off:Nat} (h:QaH kd w (some ⟨b,off,none⟩) L) (k:Nat):QaH kd w (some ⟨b,off+k,none⟩) (L.drop k):=fun h0=>by
 rw [List.length_drop] at h0;obtain ⟨b',off',e,hc⟩:=h (by omega)
 cases e
 exact ⟨b,off+k,rfl,fun i x hx=>by rw [List.getElem?_drop] at hx;have:=hc (k+i) x hx;rw [show off+k+i=off+(k+i) by omega];exact this⟩
theorem Qi0 (a:Int) (hn:L.length=n) (hl:n<=1000000) (hcap:n<=c) (hcm:c<=maxLen) (hf:QtM ao) (hno:ao=none->c=0) (hA:QaH .u64 w ao L) :
  Calls prog 173 #[.slice ao n c,.int .u64 a] w fun e w'=>∃ v,e=.returned v/\w'.ownsRow w.heap.size 69 1 v (Qb0 L a).length ((Qb0 L a).map (Value.int .u64))/\Below w.heap.size w w':=by
 obtain ⟨i0,hi,ae,ag,af⟩:=info_parts QdM;have HA:=Qaa hA;have HN:=Qaa hn;have aB:=Qaa hno;have az:=Qaa hf;unfold maxLen at hcm;clear hA hn hno hf;go_enter func173,ntmps173;go_wp2
 go_loop [5] (fun i=>∃ k:Nat,k<=n/\i=.int .i64 k/\Hid (∀ (t:Nat) (x:Int),L[t]?=some x->t<k->x<a)) (fun i=>n - (Go.RowKit.intOf i).toNat)
 case atStart=>exact ⟨0,ZZj _,rfl,(fun t x _ h=>absurd h (by omega):∀ (t:Nat) (x:Int),L[t]?=some x->t<0->x<a)⟩
 case round=>
  obtain ⟨k,hk,rfl,HF⟩:=hrel;by_cases aE:k<n
  ·obtain ⟨b,ah,e,ai⟩:=HA.out (by have:=HN.out;omega)
   subst e;obtain ⟨y,ak⟩:∃ y,L[k]?=some y:=⟨L[k]'(by have:=HN.out;omega),ZZe _⟩;have aj:=ai k y ak;clear ai;by_cases ap:y<a
   ·have ax:Hid (∀ (t:Nat) (x:Int),L[t]?=some x->t<k+1->x<a):=(fun t z hz ht=>by
     by_cases e:t=k
     ·subst e;rw [ak] at hz;obtain rfl:=Option.some.inj hz;exact ap
     ·exact HF.out t z hz (by omega):∀ (t:Nat) (x:Int),L[t]?=some x->t<k+1->x<a)
    have d1:decide (y<a)=true:=ZZh ap;clear ak;go_wp2
    go_round
    case rel=>exact ⟨k+1,by omega,by go_num,ax⟩
    case measure=>simp [zI];omega
   ·have HK:Hid (Qe2 L a k):=(⟨by have:=HN.out;omega,HF,fun z hz=>by rw [ak] at hz;obtain rfl:=Option.some.inj hz;exact ap⟩:Qe2 L a k)
    have d1:decide (y<a)=false:=ZZg ap;have aw:=Qaa ak;clear ak HF;by_cases ar:y=a
    ·subst ar
     have HE:Hid (Qb0 L y=L.take k ++ [y] ++ L.drop (k+1)):=QoA L k HK aw;have aH:IntKind.i64.wrap ((k:Int)+1)=(k:Int)+1:=by rw [IntKind.wrap_i64];omega
     have aF:((k:Int)+1).toNat=k+1:=by omega
     have aG:(0:Int)<=(k:Int)+1:=by omega
     have aD:(k:Int)+1<=(n:Int):=by omega
     by_cases aC:c=k+1
     ·subst aC
      have ay:n=k+1:=by omega
      have aI:k+1 - (k+1)=0:=by omega
      subst ay;have au:Hid (Qb0 L y=L.take k ++ [y] ++ []):=(by rw [HE.out,List.drop_eq_nil_of_le (by have:=HN.out;omega)];exact Qaa rfl)
      go_wp2_with (first
       | (at_builtin;refine Qad _ rfl (.tmp 21) (.tmp 24) 85 rfl w.heap.size 69 i0 (.int .u64 0) 1 8 underlying85 hi ae ag af rfl (by decide) _ _ _ rfl (World.ownsRow_made _ #[] 0 (Nat.le_refl _) (Nat.zero_le _) rfl) (some ⟨b,ah,none⟩) k (k+1) ((L.take k).map (Value.int .u64)) rfl (by rw [List.length_map,List.length_take];have:=HN.out;omega) (fun e=>by cases e) (Qbt (QeS (Qah HA ((Below.refl _ _).alloc (Nat.le_refl _) _)) k)) (QaQ _ _) (by unfold maxLen;omega) (by omega) (by simp) ?_;intro v1 w1 ab aa ac;simp only [Nat.zero_add,List.nil_append] at ab;obtain ⟨an,c1,rfl⟩:=Qag ab;have O1:=Qaa ab;have B1:=Qaa (((Below.refl w.heap.size w).alloc (Nat.le_refl _) _).grown aa (by simp) (fun j hj=>by cases hj;exact Nat.le_refl _));have y0:=Qab B1 aj;clear ab aa ac)
       | (at_builtin;refine Qad _ rfl (.tmp 26) (.tmp 28) 85 rfl w.heap.size 69 i0 (.int .u64 0) 1 8 underlying85 hi ae ag af rfl (by decide) _ _ _ rfl (Qat O1 ((Below.refl _ _).alloc (Nat.le_refl _) _)) (some ⟨w1.heap.size,0,none⟩) 1 1 [.int .u64 y] rfl rfl (fun e=>by cases e) (fun ad e=>by cases e;exact Qav (cs:=#[.int .u64 y]) rfl) (QaQ .u64 [y]) (by unfold maxLen;omega) (by omega) (by simp;have:=B1.out.size;omega) ?_;intro v2 w2 ab aa ac;obtain ⟨al,c2,rfl⟩:=Qag ab;have O2:=Qaa ab;have B2:=Qaa ((B1.out.alloc B1.out.size _).grown aa (by simp;have:=B1.out.size;omega) (fun j hj=>Qa4 O1 j hj));have x0:=Qab B2 aj;clear ab aa ac)
       | (at_builtin;refine Qad _ rfl (.tmp 44) (.tmp 47) 85 rfl w.heap.size 69 i0 (.int .u64 0) 1 8 underlying85 hi ae ag af rfl (by decide) _ _ _ rfl O2 (some ⟨b,ah,none⟩) 0 0 (([]:List Int).map (Value.int .u64)) rfl rfl (fun e=>by cases e) (fun A _ j z hz=>by simp at hz) (QaQ _ _) (by unfold maxLen;omega) (by omega) (by have:=B2.out.size;omega) ?_;intro v3 w3 ab aa ac;obtain ⟨am,c3,rfl⟩:=Qag ab;have O3:=Qaa ab;have B3:=Qaa (B2.out.grown aa B2.out.size (fun j hj=>Qa4 O2 j hj));clear ab aa ac))
      all_goals
       go_ret;refine ⟨_,rfl,?_,B3⟩
       have el:(Qb0 L y).length=k+1+0:=by
        rw [au.out];have:=HN.out;simp only [List.length_append,List.length_take,List.length_drop,List.length_cons,List.length_nil];omega
       rw [el,au.out,List.map_append,List.map_append];exact O3.out
     ·go_wp2_with (first
       | (at_builtin;refine Qad _ rfl (.tmp 21) (.tmp 24) 85 rfl w.heap.size 69 i0 (.int .u64 0) 1 8 underlying85 hi ae ag af rfl (by decide) _ _ _ rfl (World.ownsRow_made _ #[] 0 (Nat.le_refl _) (Nat.zero_le _) rfl) (some ⟨b,ah,none⟩) k c ((L.take k).map (Value.int .u64)) rfl (by rw [List.length_map,List.length_take];have:=HN.out;omega) (fun e=>by cases e) (Qbt (QeS (Qah HA ((Below.refl _ _).alloc (Nat.le_refl _) _)) k)) (QaQ _ _) (by unfold maxLen;omega) (by omega) (by simp) ?_;intro v1 w1 ab aa ac;simp only [Nat.zero_add,List.nil_append] at ab;obtain ⟨an,c1,rfl⟩:=Qag ab;have O1:=Qaa ab;have B1:=Qaa (((Below.refl w.heap.size w).alloc (Nat.le_refl _) _).grown aa (by simp) (fun j hj=>by cases hj;exact Nat.le_refl _));have y0:=Qab B1 aj;clear ab aa ac)
       | (at_builtin;refine Qad _ rfl (.tmp 26) (.tmp 28) 85 rfl w.heap.size 69 i0 (.int .u64 0) 1 8 underlying85 hi ae ag af rfl (by decide) _ _ _ rfl (Qat O1 ((Below.refl _ _).alloc (Nat.le_refl _) _)) (some ⟨w1.heap.size,0,none⟩) 1 1 [.int .u64 y] rfl rfl (fun e=>by cases e) (fun ad e=>by cases e;exact Qav (cs:=#[.int .u64 y]) rfl) (QaQ .u64 [y]) (by unfold maxLen;omega) (by omega) (by simp;have:=B1.out.size;omega) ?_;intro v2 w2 ab aa ac;obtain ⟨al,c2,rfl⟩:=Qag ab;have O2:=Qaa ab;have B2:=Qaa ((B1.out.alloc B1.out.size _).grown aa (by simp;have:=B1.out.size;omega) (fun j hj=>Qa4 O1 j hj));have x0:=Qab B2 aj;clear ab aa ac)
       | (at_builtin;refine Qad _ rfl (.tmp 44) (.tmp 47) 85 rfl w.heap.size 69 i0 (.int .u64 0) 1 8 underlying85 hi ae ag af rfl (by decide) _ _ _ rfl O2 (some ⟨b,ah+(k+1),none⟩) (n - (k+1)) (c - (k+1)) ((L.drop (k+1):List Int).map (Value.int .u64)) rfl (by rw [List.length_map,List.length_drop];have:=HN.out;omega) (fun e=>by cases e) (Qbt (Qg4 (Qah HA B2) (k+1))) (QaQ _ _) (by unfold maxLen;omega) (by omega) (by have:=B2.out.size;omega) ?_;intro v3 w3 ab aa ac;obtain ⟨am,c3,rfl⟩:=Qag ab;have O3:=Qaa ab;have B3:=Qaa (B2.out.grown aa B2.out.size (fun j hj=>Qa4 O2 j hj));clear ab aa ac))
      all_goals
       go_ret;refine ⟨_,rfl,?_,B3⟩
       have el:(Qb0 L y).length=k+1+(n - (k+1)):=by
        rw [HE.out];have:=HN.out;simp only [List.length_append,List.length_take,List.length_drop,List.length_cons,List.length_nil];omega
       rw [el,HE.out,List.map_append,List.map_append];exact O3.out
    ·have HE:Hid (Qb0 L a=L.take k ++ [a] ++ L.drop k):=QhO L k HK (fun z hz=>by rw [aw.out] at hz;obtain rfl:=Option.some.inj hz;exact ar)
     have av:¬ (c=k):=by omega
     have d2:decide (y=a)=false:=ZZg ar
     go_wp2_with (first
      | (at_builtin;refine Qad _ rfl (.tmp 21) (.tmp 24) 85 rfl w.heap.size 69 i0 (.int .u64 0) 1 8 underlying85 hi ae ag af rfl (by decide) _ _ _ rfl (World.ownsRow_made _ #[] 0 (Nat.le_refl _) (Nat.zero_le _) rfl) (some ⟨b,ah,none⟩) k c ((L.take k).map (Value.int .u64)) rfl (by rw [List.length_map,List.length_take];have:=HN.out;omega) (fun e=>by cases e) (Qbt (QeS (Qah HA ((Below.refl _ _).alloc (Nat.le_refl _) _)) k)) (QaQ _ _) (by unfold maxLen;omega) (by omega) (by simp) ?_;intro v1 w1 ab aa ac;simp only [Nat.zero_add,List.nil_append] at ab;obtain ⟨an,c1,rfl⟩:=Qag ab;have O1:=Qaa ab;have B1:=Qaa (((Below.refl w.heap.size w).alloc (Nat.le_refl _) _).grown aa (by simp) (fun j hj=>by cases hj;exact Nat.le_refl _));have y0:=Qab B1 aj;clear ab aa ac)
      | (at_builtin;refine Qad _ rfl (.tmp 26) (.tmp 28) 85 rfl w.heap.size 69 i0 (.int .u64 0) 1 8 underlying85 hi ae ag af rfl (by decide) _ _ _ rfl (Qat O1 ((Below.refl _ _).alloc (Nat.le_refl _) _)) (some ⟨w1.heap.size,0,none⟩) 1 1 [.int .u64 a] rfl rfl (fun e=>by cases e) (fun ad e=>by cases e;exact Qav (cs:=#[.int .u64 a]) rfl) (QaQ .u64 [a]) (by unfold maxLen;omega) (by omega) (by simp;have:=B1.out.size;omega) ?_;intro v2 w2 ab aa ac;obtain ⟨al,c2,rfl⟩:=Qag ab;have O2:=Qaa ab;have B2:=Qaa ((B1.out.alloc B1.out.size _).grown aa (by simp;have:=B1.out.size;omega) (fun j hj=>Qa4 O1 j hj));have x0:=Qab B2 aj;clear ab aa ac)
      | (at_builtin;refine Qad _ rfl (.tmp 44) (.tmp 47) 85 rfl w.heap.size 69 i0 (.int .u64 0) 1 8 underlying85 hi ae ag af rfl (by decide) _ _ _ rfl O2 (some ⟨b,ah+k,none⟩) (n - k) (c - k) ((L.drop k:List Int).map (Value.int .u64)) rfl (by rw [List.length_map,List.length_drop];have:=HN.out;omega) (fun e=>by cases e) (Qbt (Qg4 (Qah HA B2) k)) (QaQ _ _) (by unfold maxLen;omega) (by omega) (by have:=B2.out.size;omega) ?_;intro v3 w3 ab aa ac;obtain ⟨am,c3,rfl⟩:=Qag ab;have O3:=Qaa ab;have B3:=Qaa (B2.out.grown aa B2.out.size (fun j hj=>Qa4 O2 j hj));clear ab aa ac))
     all_goals
      go_ret;refine ⟨_,rfl,?_,B3⟩
      have el:(Qb0 L a).length=k+1+(n - k):=by
       rw [HE.out];have:=HN.out;simp only [List.length_append,List.length_take,List.length_drop,List.length_cons,List.length_nil];omega
      rw [el,HE.out,List.map_append,List.map_append];exact O3.out
  ·have aq:k=n:=by omega
   subst aq;have HK:Hid (Qe2 L a k):=(⟨by have:=HN.out;omega,HF,fun z hz=>absurd (ZZd.1 hz).1 (by have:=HN.out;omega)⟩:Qe2 L a k)
   have HE:Hid (Qb0 L a=L ++ [a] ++ []):=(by
    rw [QhO L k HK.out (fun z hz=>absurd (List.getElem?_eq_some_iff.1 hz).1 (by have:=HN.out;omega)),List.take_of_length_le (by have:=HN.out;omega),List.drop_eq_nil_of_le (by have:=HN.out;omega)];exact Qaa rfl)
   clear HK HF;rcases az.out with rfl | ⟨b,ah,rfl⟩
   ·have h0:c=0:=aB.out rfl
    subst h0;have aA:k=0:=by omega
    subst aA
    go_wp2_with (first
     | (at_builtin;refine Qad _ rfl (.tmp 21) (.tmp 24) 85 rfl w.heap.size 69 i0 (.int .u64 0) 1 8 underlying85 hi ae ag af rfl (by decide) _ _ _ rfl (World.ownsRow_made _ #[] 0 (Nat.le_refl _) (Nat.zero_le _) rfl) (none) 0 0 ((L).map (Value.int .u64)) rfl (by rw [List.length_map];have:=HN.out;omega) (fun e=>⟨rfl,rfl⟩) (Qbt (Qah HA ((Below.refl _ _).alloc (Nat.le_refl _) _))) (QaQ _ _) (by unfold maxLen;omega) (by omega) (by simp) ?_;intro v1 w1 ab aa ac;simp only [Nat.zero_add,List.nil_append] at ab;obtain ⟨an,c1,rfl⟩:=Qag ab;have O1:=Qaa ab;have B1:=Qaa (((Below.refl w.heap.size w).alloc (Nat.le_refl _) _).grown aa (by simp) (fun j hj=>by cases hj;exact Nat.le_refl _));clear ab aa ac)
     | (at_builtin;refine Qad _ rfl (.tmp 26) (.tmp 28) 85 rfl w.heap.size 69 i0 (.int .u64 0) 1 8 underlying85 hi ae ag af rfl (by decide) _ _ _ rfl (Qat O1 ((Below.refl _ _).alloc (Nat.le_refl _) _)) (some ⟨w1.heap.size,0,none⟩) 1 1 [.int .u64 a] rfl rfl (fun e=>by cases e) (fun ad e=>by cases e;exact Qav (cs:=#[.int .u64 a]) rfl) (QaQ .u64 [a]) (by unfold maxLen;omega) (by omega) (by simp;have:=B1.out.size;omega) ?_;intro v2 w2 ab aa ac;obtain ⟨al,c2,rfl⟩:=Qag ab;have O2:=Qaa ab;have B2:=Qaa ((B1.out.alloc B1.out.size _).grown aa (by simp;have:=B1.out.size;omega) (fun j hj=>Qa4 O1 j hj));clear ab aa ac)
     | (at_builtin;refine Qad _ rfl (.tmp 44) (.tmp 47) 85 rfl w.heap.size 69 i0 (.int .u64 0) 1 8 underlying85 hi ae ag af rfl (by decide) _ _ _ rfl O2 (none) 0 0 (([]:List Int).map (Value.int .u64)) rfl rfl (fun e=>⟨rfl,rfl⟩) (fun A _ j z hz=>by simp at hz) (QaQ _ _) (by unfold maxLen;omega) (by omega) (by have:=B2.out.size;omega) ?_;intro v3 w3 ab aa ac;obtain ⟨am,c3,rfl⟩:=Qag ab;have O3:=Qaa ab;have B3:=Qaa (B2.out.grown aa B2.out.size (fun j hj=>Qa4 O2 j hj));clear ab aa ac))
    all_goals
     go_ret;refine ⟨_,rfl,?_,B3⟩
     have el:(Qb0 L a).length=0+1+0:=by
      rw [HE.out];have:=HN.out;simp only [List.length_append,List.length_take,List.length_drop,List.length_cons,List.length_nil];omega
     rw [el,HE.out,List.map_append,List.map_append];exact O3.out
   ·by_cases av:c=k
    ·subst av
     go_wp2_with (first
      | (at_builtin;refine Qad _ rfl (.tmp 21) (.tmp 24) 85 rfl w.heap.size 69 i0 (.int .u64 0) 1 8 underlying85 hi ae ag af rfl (by decide) _ _ _ rfl (World.ownsRow_made _ #[] 0 (Nat.le_refl _) (Nat.zero_le _) rfl) (some ⟨b,ah,none⟩) c c ((L).map (Value.int .u64)) rfl (by rw [List.length_map];have:=HN.out;omega) (fun e=>by cases e) (Qbt (Qah HA ((Below.refl _ _).alloc (Nat.le_refl _) _))) (QaQ _ _) (by unfold maxLen;omega) (by omega) (by simp) ?_;intro v1 w1 ab aa ac;simp only [Nat.zero_add,List.nil_append] at ab;obtain ⟨an,c1,rfl⟩:=Qag ab;have O1:=Qaa ab;have B1:=Qaa (((Below.refl w.heap.size w).alloc (Nat.le_refl _) _).grown aa (by simp) (fun j hj=>by cases hj;exact Nat.le_refl _));clear ab aa ac)
      | (at_builtin;refine Qad _ rfl (.tmp 26) (.tmp 28) 85 rfl w.heap.size 69 i0 (.int .u64 0) 1 8 underlying85 hi ae ag af rfl (by decide) _ _ _ rfl (Qat O1 ((Below.refl _ _).alloc (Nat.le_refl _) _)) (some ⟨w1.heap.size,0,none⟩) 1 1 [.int .u64 a] rfl rfl (fun e=>by cases e) (fun ad e=>by cases e;exact Qav (cs:=#[.int .u64 a]) rfl) (QaQ .u64 [a]) (by unfold maxLen;omega) (by omega) (by simp;have:=B1.out.size;omega) ?_;intro v2 w2 ab aa ac;obtain ⟨al,c2,rfl⟩:=Qag ab;have O2:=Qaa ab;have B2:=Qaa ((B1.out.alloc B1.out.size _).grown aa (by simp;have:=B1.out.size;omega) (fun j hj=>Qa4 O1 j hj));clear ab aa ac)
      | (at_builtin;refine Qad _ rfl (.tmp 44) (.tmp 47) 85 rfl w.heap.size 69 i0 (.int .u64 0) 1 8 underlying85 hi ae ag af rfl (by decide) _ _ _ rfl O2 (_) 0 _ (([]:List Int).map (Value.int .u64)) rfl rfl (fun e=>by cases e) (fun A _ j z hz=>by simp at hz) (QaQ _ _) (by unfold maxLen;omega) (by omega) (by have:=B2.out.size;omega) ?_;intro v3 w3 ab aa ac;obtain ⟨am,c3,rfl⟩:=Qag ab;have O3:=Qaa ab;have B3:=Qaa (B2.out.grown aa B2.out.size (fun j hj=>Qa4 O2 j hj));clear ab aa ac))
     all_goals
      go_ret;refine ⟨_,rfl,?_,B3⟩
      have el:(Qb0 L a).length=c+1+0:=by
       rw [HE.out];have:=HN.out;simp only [List.length_append,List.length_take,List.length_drop,List.length_cons,List.length_nil];omega
      rw [el,HE.out,List.map_append,List.map_append];exact O3.out
    ·go_wp2_with (first
      | (at_builtin;refine Qad _ rfl (.tmp 21) (.tmp 24) 85 rfl w.heap.size 69 i0 (.int .u64 0) 1 8 underlying85 hi ae ag af rfl (by decide) _ _ _ rfl (World.ownsRow_made _ #[] 0 (Nat.le_refl _) (Nat.zero_le _) rfl) (some ⟨b,ah,none⟩) k c ((L).map (Value.int .u64)) rfl (by rw [List.length_map];have:=HN.out;omega) (fun e=>by cases e) (Qbt (Qah HA ((Below.refl _ _).alloc (Nat.le_refl _) _))) (QaQ _ _) (by unfold maxLen;omega) (by omega) (by simp) ?_;intro v1 w1 ab aa ac;simp only [Nat.zero_add,List.nil_append] at ab;obtain ⟨an,c1,rfl⟩:=Qag ab;have O1:=Qaa ab;have B1:=Qaa (((Below.refl w.heap.size w).alloc (Nat.le_refl _) _).grown aa (by simp) (fun j hj=>by cases hj;exact Nat.le_refl _));clear ab aa ac)
      | (at_builtin;refine Qad _ rfl (.tmp 26) (.tmp 28) 85 rfl w.heap.size 69 i0 (.int .u64 0) 1 8 underlying85 hi ae ag af rfl (by decide) _ _ _ rfl (Qat O1 ((Below.refl _ _).alloc (Nat.le_refl _) _)) (some ⟨w1.heap.size,0,none⟩) 1 1 [.int .u64 a] rfl rfl (fun e=>by cases e) (fun ad e=>by cases e;exact Qav (cs:=#[.int .u64 a]) rfl) (QaQ .u64 [a]) (by unfold maxLen;omega) (by omega) (by simp;have:=B1.out.size;omega) ?_;intro v2 w2 ab aa ac;obtain ⟨al,c2,rfl⟩:=Qag ab;have O2:=Qaa ab;have B2:=Qaa ((B1.out.alloc B1.out.size _).grown aa (by simp;have:=B1.out.size;omega) (fun j hj=>Qa4 O1 j hj));clear ab aa ac)
      | (at_builtin;refine Qad _ rfl (.tmp 44) (.tmp 47) 85 rfl w.heap.size 69 i0 (.int .u64 0) 1 8 underlying85 hi ae ag af rfl (by decide) _ _ _ rfl O2 (_) 0 _ (([]:List Int).map (Value.int .u64)) rfl rfl (fun e=>by cases e) (fun A _ j z hz=>by simp at hz) (QaQ _ _) (by unfold maxLen;omega) (by omega) (by have:=B2.out.size;omega) ?_;intro v3 w3 ab aa ac;obtain ⟨am,c3,rfl⟩:=Qag ab;have O3:=Qaa ab;have B3:=Qaa (B2.out.grown aa B2.out.size (fun j hj=>Qa4 O2 j hj));clear ab aa ac))
     all_goals
      go_ret;refine ⟨_,rfl,?_,B3⟩
      have el:(Qb0 L a).length=k+1+0:=by
       rw [HE.out];have:=HN.out;simp only [List.length_append,List.length_take,List.length_drop,List.length_cons,List.length_nil];omega
      rw [el,HE.out,List.map_append,List.map_append];exact O3.out
end
section
theorem Qic:∀ {m l:List Int},(l ++ m).Pairwise (· < ·)->QcO l m=l ++ m
 | [],l,_=>by simp [QcO]
 | x :: m,l,h=>by
  have hi:Qb0 l x=l ++ [x]:=by
   have hl:∀ y∈l,y<x:=fun y hy=>(List.pairwise_append.1 h).2.2 y hy x (by simp);clear h
   induction l with
   | nil=>rfl
   | cons y r ih=>rw [Qb0,if_pos (hl y (by simp)),ih (fun z hz=>hl z (by simp [hz]))];rfl
  show QcO (Qb0 l x) m=_
  rw [hi,Qic (by simpa using h)];simp
theorem Qfs:∀ {L:List Int},upN L=true->L.Pairwise (· < ·)
 | [],_=>List.Pairwise.nil
 | [x],_=>by simp
 | x :: y :: r,h=>by
  simp only [upN,Bool.and_eq_true,decide_eq_true_eq] at h;have ih:=Qfs h.2;refine List.pairwise_cons.2 ⟨fun z hz=>?_,ih⟩;rcases List.mem_cons.1 hz with rfl | hz
  ·exact h.1
  ·have:=(List.pairwise_cons.1 ih).1 z hz;omega
theorem QhR (h:upN E=true) (x:Int):QmH E [x]=Qb0 E x:=by
 unfold QmH;rw [Qic (l:=[]) (by simpa using Qfs h)];rfl
theorem Qt8 (hE:E=[]) (h64:R.length=64) (h:Laid (QeC R) (·∈[x]) R'):Mg E R [x] [] [] R':=by
 subst hE;refine .inr ⟨fun k=>by omega,rfl,?_⟩;rw [List.length_nil,Qdl];exact h.iff (fun y=>by simp [QmH,QcO,Qb0])
theorem QrM (hu:upN E=true) (h40:¬ (Qb0 E x).length<=40) (h:Laid (QeC []) (·∈Qb0 E x) R'):Mg E [] [x] [] [] R':=by
 refine .inr ⟨fun k=>h40 (by rw [<- QhR hu];exact k.2.2),rfl,?_⟩;rw [List.length_nil,Qdl,QhR hu];exact h
theorem Qu3 (hu:upN E=true) (h40:(Qb0 E x).length<=40):Mg E [] [x] [] (Qb0 E x) []:=
 .inl ⟨rfl,rfl,by rw [QhR hu];exact h40,(QhR hu x).symm,rfl⟩
theorem Qga (h:hlB E R=true):(R=[]/\upN E=true)∨(R.length=64/\E=[]):=by
 unfold hlB at h
 split at h
 ·rename_i h0
  unfold exB at h;simp only [Bool.and_eq_true,decide_eq_true_eq] at h;exact .inl ⟨List.eq_nil_of_length_eq_zero h0,h.2⟩
 ·unfold QmG at h
  simp only [Bool.and_eq_true,decide_eq_true_eq] at h;exact .inr ⟨h.2.1,List.eq_nil_of_length_eq_zero h.1⟩
theorem Qqw {ea:Option Addr} (x:Int) (hb:hlB E R=true) (h1:E.length=n) (h2:R.length=m) (hcap:n<=c) (hcm:c<=maxLen) (f1:QtM ea) (c1:ea=none->c=0) (hE:QaH .u64 w ea E) (hR:QaH .i64 w ra R) (u1:∀ y∈E,U64 y) (ux:U64 x) :
  Calls prog 170 #[.agg #[.slice ea n c,.slice ra m d],.int .u64 x] w fun e w'=>∃ v E' R',e=.returned v/\Mg E R [x] [] E' R'/\Qqd w' w.heap.size v E' R'/\Below w.heap.size w w':=by
 have HE:=Qaa hE;have HR:=Qaa hR;have F1:=Qaa f1;have C1:=Qaa c1;have H1:=Qaa h1;have H2:=Qaa h2;have U1:=Qaa u1;have UX:=Qaa ux;have af:Hid (∀ o1 o2,Below w.heap.size w ((w.alloc o1).alloc o2)):=fun o1 o2=>((Below.refl _ _).alloc (Nat.le_refl _) _).alloc (by simp) _;have HL:=Qaa (Qc6 hb);have HP:=Qaa (Qga hb)
 have HC:Hid (∀ W,Below (w.heap.size+1+1) ((w.alloc (.cells #[.slice ea n c,.slice ra m d] 88)).alloc (.cells #[.slice none 0 0,.slice none 0 0] 88)) W->QbC W w.heap.size (.slice ea n c) (.slice ra m d)/\W.heap[w.heap.size+1]?=some (.cells #[.slice none 0 0,.slice none 0 0] 88 (0,0))/\Below w.heap.size w W):=fun W h=>by
  obtain ⟨q1,q2⟩:=QkZ w _ _ _ _ _ _ W (by simpa using h);exact ⟨q1,q2,(af.out _ _).trans (h.mono (by omega))⟩
 have aB:n<=40:=by have:=HL.out.1;have:=H1.out;omega
 clear hE hR f1 c1 h1 h2 u1 ux hb;rcases HP.out with ⟨ar,aq⟩ | ⟨ak,an⟩
 ·have aj:m=0:=by rw [<- H2.out,ar];rfl
  subst aj;subst ar;have ap:=Qaa aq;clear aq HP;go_enter func170,ntmps170;go_wp2_with fail;refine (Qi0 x H1 (by omega) hcap hcm F1 C1 (Qah HE (af.out _ _))).mono ?_;rintro e w1 ⟨v1,rfl,o1,ah⟩;obtain ⟨⟨x0,x1⟩,r1,t1⟩:=HC.out w1 (by simpa using ah);have ay:=ah.size;simp only [World.size_alloc] at o1 ay;obtain ⟨k,hk⟩:∃ k,(Qb0 E x).length=k:=⟨_,rfl⟩;obtain ⟨aD,q1,rfl⟩:=Qag o1;obtain ⟨al,aG,_,ax,az,_⟩:=QfC o1;have aA:=Qaa o1;have am:=Qaa t1;have ae:=Qaa r1;have aC:=Qaa al;have aH:k<=41:=by have:=Qgd E x;have:=H1.out;omega
  have HK:=Qaa hk;rw [hk];clear o1 t1 r1 ah al aG ax az hk;have q0:w1.cell? ⟨w.heap.size+1,0,none⟩=some (.slice none 0 0):=by rw [cell_of_row _ _ 0 _ _ (0,0) ae.out];rfl
  have ac:w1.cell? ⟨w.heap.size+1,1,none⟩=some (.slice none 0 0):=by rw [cell_of_row _ _ 1 _ _ (0,0) ae.out];rfl
  have f0:=fzR 0 ae;have f1:=fzR 1 ae;by_cases ao:k<=40
  ·have ag:¬ (40:Int)<(k:Int):=by omega
   have HM:Hid (Mg E [] [x] [] (Qb0 E x) []):=Qu3 ap (by rw [HK.out];exact ao);go_wp2;refine bodyPost_ret (v:=.agg #[.slice aD k q1,.slice none 0 0]) (by simp [results,results170,go_sem,q0,ac]) rfl ⟨_,_,[],rfl,HM,⟨_,_,rfl,?_,World.ownsRow_nil _ _ _ _⟩,?_⟩
   ·refine Qa1 (B:=w.heap.size+1+1) ?_ (by omega)
    repeat (refine ownsRow_setCell_below ?_ (by simp) _)
    rw [<- HK.out];exact aA.out
   ·exact (am.out.setCell (by simp) _).setCell (by simp) _
  ·have ag:(40:Int)<(k:Int):=by omega
   have av:Hid (∀ R',Laid (QeC []) (·∈Qb0 E x) R'->Mg E [] [x] [] [] R'):=fun R' h=>QrM ap (by rw [HK.out];exact ao) h
   have aw:Hid (∀ y∈Qb0 E x,U64 y):=fun y hy=>by
    rcases (Qfr y E x).1 hy with rfl | h
    ·exact UX.out
    ·exact U1.out y h
   clear q0 ac f0 f1;go_wp2_with fail;refine (Qce (R:=[]) rfl HK (.inl rfl) (by omega) (fun h=>by simp at h) aC aw).mono ?_;rintro e w2 ⟨g,R',rfl,hL,aa,ad⟩;have r2:=(ad.block (w.heap.size+1) (by omega)).trans ae;have q0:w2.cell? ⟨w.heap.size+1,0,none⟩=some (.slice none 0 0):=by rw [cell_of_row _ _ 0 _ _ (0,0) r2];rfl
   have ac:w2.cell? ⟨w.heap.size+1,1,none⟩=some (.slice none 0 0):=by rw [cell_of_row _ _ 1 _ _ (0,0) r2];rfl
   have f0:=fzR 0 r2;have f1:=fzR 1 r2;have HM:=Qaa (av.out R' hL);have ai:=Qaa (Qac am ad);have ab:=Qaa aa;clear hL aa ad r2;go_wp2;refine bodyPost_ret (v:=.agg #[.slice none 0 0,.slice (some ⟨g,0,none⟩) 64 64]) (by simp [results,results170,go_sem,q0,ac]) rfl ⟨_,[],R',rfl,HM,⟨_,_,rfl,World.ownsRow_nil _ _ _ _,?_⟩,?_⟩
   ·refine Qa1 (B:=w1.heap.size) ?_ (by omega)
    repeat (refine ownsRow_setCell_below ?_ (by simp;omega) _)
    rw [ab.out.1];exact ab.out.2
   ·exact (ai.out.setCell (by simp) _).setCell (by simp) _
 ·have aj:m=64:=by rw [<- H2.out,ak]
  subst aj;have aF:=Qaa ak;have aE:=Qaa an;clear ak an HP
  have au:Hid (∀ (W:World) (g:Nat),W.heap.size=g->QaH .u64 (W.alloc (.cells #[.int .u64 x] 69)) (some ⟨g,0,none⟩) [x]):=(fun W g e _=>⟨g,0,rfl,fun i y hy=>by
   subst e
   cases i with
   | zero=>simp at hy;subst hy;exact Qm7 _ _ _
   | succ i=>simp at hy⟩)
  go_enter func170,ntmps170;go_wp2_with fail;refine (Qce (E:=[x]) H2 rfl (.inr rfl) (by simp) (Qah HR ((af.out _ _).alloc (by simp;omega) _)) (au.out _ _ (by simp)) (by intro y hy;simp at hy;subst hy;exact UX.out)).mono ?_;rintro e w2 ⟨g,R',rfl,hL,aa,ad⟩;obtain ⟨_,r2,t2⟩:=HC.out w2 (((Below.refl _ _).alloc (by simp) _).trans (ad.mono (by simp)));have q0:w2.cell? ⟨w.heap.size+1,0,none⟩=some (.slice none 0 0):=by rw [cell_of_row _ _ 0 _ _ (0,0) r2];rfl
  have ac:w2.cell? ⟨w.heap.size+1,1,none⟩=some (.slice none 0 0):=by rw [cell_of_row _ _ 1 _ _ (0,0) r2];rfl
  have f0:=fzR 0 r2;have f1:=fzR 1 r2;have HM:=Qaa (Qt8 aE aF hL);have ai:=Qaa t2;simp only [World.size_alloc] at aa;have ab:=Qaa aa;clear hL aa ad r2 t2;go_wp2;refine bodyPost_ret (v:=.agg #[.slice none 0 0,.slice (some ⟨g,0,none⟩) 64 64]) (by simp [results,results170,go_sem,q0,ac]) rfl ⟨_,[],R',rfl,HM,⟨_,_,rfl,World.ownsRow_nil _ _ _ _,?_⟩,?_⟩
  ·refine Qa1 (B:=w.heap.size+1+1) ?_ (by omega)
   repeat (refine ownsRow_setCell_below ?_ (by simp) _)
   rw [ab.out.1];exact Qa1 ab.out.2 (by omega)
  ·exact (ai.out.setCell (by simp) _).setCell (by simp) _
end
section
def mxx (A B:List Int):List Int:=mxL A B 64
theorem Qiw (A B:List Int):(mxx A B).length=A.length:=Qdg _ _ _
theorem Qlj {B:List Int} (hA:A.length=64) (i:Nat) (hi:i<64):(mxx A B).getD i 0=max (A.getD i 0) (B.getD i 0):=by
 unfold mxx;rw [Qge A B 64 i (by omega),if_pos hi]
def QeD (B:List Int):Prop:=B.length=64/\∀ i,i<64->0<=B.getD i 0/\B.getD i 0<=55
theorem Laid.ok {B:List Int} (b:QeD B) (h:Laid B S R):QeD R:=⟨by rw [h.1];exact b.1,fun i hi=>by
 obtain ⟨h1,h2,h3⟩:=h.2 i (by rw [b.1];exact hi);have:=b.2 i hi;rcases h3 with h3 | ⟨x,_,_,h3⟩
 ·omega
 ·have:=Qtt x;omega⟩
theorem Laid.two {A' B B':List Int} (a:QeD A) (b:QeD B) (h:Laid A S A') (g:Laid B T B') (hU:∀ x,U x↔S x∨T x):Laid (mxx A B) U (mxx A' B'):=by
 have a':=h.ok a;have b':=g.ok b;refine ⟨by rw [Qiw,Qiw,a.1,a'.1],fun i hi=>?_⟩;have hi:i<64:=by rw [Qiw,a.1] at hi;exact hi
 obtain ⟨h1,h2,h3⟩:=h.2 i (by rw [a.1];exact hi);obtain ⟨g1,g2,g3⟩:=g.2 i (by rw [b.1];exact hi);rw [Qlj a.1 i hi,Qlj a'.1 i hi];refine ⟨by omega,fun x hx hr=>?_,?_⟩
 ·rcases (hU x).1 hx with hx | hx
  ·have:=h2 x hx hr;omega
  ·have:=g2 x hx hr;omega
 ·by_cases q:B'.getD i 0<=A'.getD i 0
  ·rcases h3 with h3 | ⟨x,hx,hr,h3⟩
   ·exact .inl (by omega)
   ·exact .inr ⟨x,(hU x).2 (.inl hx),hr,by omega⟩
  ·rcases g3 with g3 | ⟨x,hx,hr,g3⟩
   ·exact .inl (by omega)
   ·exact .inr ⟨x,(hU x).2 (.inr hx),hr,by omega⟩
end
section
def QaD (a b:Int):Int:=if 18446744073709551615<a+b then 18446744073709551615 else a+b
theorem QkA {a b:Int} (h:a=b):Ending.returned (.int .u64 a)=.returned (.int .u64 b):=by rw [h]
theorem Qax (a b:Int) (ha:U64 a) (hb:U64 b) (w:World) :
  Calls prog 119 #[.int .u64 a,.int .u64 b] w fun e w'=>e=.returned (.int .u64 (QaD a b))/\w'=w:=by
 have Ha:Hid (U64 a):=ha;have Hb:Hid (U64 b):=hb;clear ha hb;go_enter func119,ntmps119;go_wp2
 ·have h:=‹IntKind.u64.wrap (a+b)<a›
  have ha:=Ha.out;have hb:=Hb.out;go_ret;refine ⟨QkA ?_,rfl⟩;rw [IntKind.wrap_u64] at h;unfold U64 at ha hb;unfold QaD;rw [if_pos (by omega)]
 ·have h:=‹a<=IntKind.u64.wrap (a+b)›
  have ha:=Ha.out;have hb:=Hb.out;go_ret;refine ⟨QkA ?_,rfl⟩;rw [IntKind.wrap_u64] at h ⊢; unfold U64 at ha hb;unfold QaD;rw [if_neg (by omega)];omega
end
section
abbrev Qui (w:World) (g:Nat) (a u:Int):Prop:=w.cell? ⟨g,0,none⟩=some (.int .i64 a)/\w.cell? ⟨g,1,none⟩=some (.int .u64 u)
theorem bc_new (w:World) (t:TypeId) (a u:Int):Qui (w.alloc (.cells #[.int .i64 a,.int .u64 u] t)) w.heap.size a u:=by
 have hb:=ZZk w (.cells #[.int .i64 a,.int .u64 u] t);exact ⟨by rw [cell_of_row _ w.heap.size 0 _ _ (0,0) hb];rfl,by rw [cell_of_row _ w.heap.size 1 _ _ (0,0) hb];rfl⟩
end
section
theorem QoX {α:Type} {e:α->List Value} (he:∀ x,(e x).length=2):∀ (L:List α) (i:Nat),fl e (L.drop i)=(fl e L).drop (i*2)
 | [],i=>by simp [fl]
 | x :: L,0=>by simp [fl]
 | x :: L,i+1=>by
  rw [List.drop_succ_cons,QbS,QoX he L i,List.drop_append,he,show List.drop ((i+1)*2) (e x)=[] from List.drop_of_length_le (by rw [he];omega),show (i+1)*2 - 2=i*2 by omega];rfl
end
section
theorem Qh1 {a b:Int} (ha:U64 a) (hb:U64 b):U64 (QaD a b):=by unfold QaD;unfold U64 at *; split <;> omega
end
section
def Qdc (x:Int) (L:List Bn):Int:=L.foldl (fun s y=>QaD s y.2) x
theorem Qlb {x:Int} (hx:U64 x):∀ {L:List Bn},(∀ y∈L,Qbw y)->U64 (Qdc x L)
 | [],_=>hx
 | y :: r,h=>by
  have hy:=(h y (List.mem_cons_self ..)).2;have:U64 (QaD x y.2):=by unfold QaD;unfold U64 at *; split <;> omega
  exact Qlb this (fun z hz=>h z (ZZm _ hz))
theorem Qmh {L:List Bn} {j:Nat} {y:Bn} (h:L[j]?=some y):Qdc x (L.take (j+1))=QaD (Qdc x (L.take j)) y.2:=by
 rw [List.take_add_one,h];simp [Qdc,List.foldl_append]
def Qaq (L:List Bn):List Bn:=if L.length<=30 then L else match L.drop (L.length - 30) with
 | []=>[]
 | x :: r=>(x.1,Qdc x.2 (L.take (L.length - 30))) :: r
theorem Qqc {L:List Bn} {x:Bn} (h:L[k]?=some x):L.set k x=L:=by
 refine List.ext_getElem? fun j=>?_;by_cases e:k=j
 ·subst e;rw [List.getElem?_set_self (List.getElem?_eq_some_iff.1 h).1,h]
 ·rw [List.getElem?_set_ne e]
end
variable {N P a b:List Bn}
section
def mrg:List Bn->List Bn->List Bn
 | [],b=>b
 | x :: a,[]=>x :: a
 | x :: a,y :: b=>if x.1<y.1 then x :: mrg a (y :: b) else if y.1<x.1 then y :: mrg (x :: a) b else (x.1,QaD x.2 y.2) :: mrg a b
termination_by a b=>a.length+b.length
theorem Qdf (b:List Bn):mrg [] b=b:=by rw [mrg]
theorem QbN (a:List Bn):mrg a []=a:=by cases a <;> rw [mrg]
theorem QgN {x y:Bn} (h:x.1<y.1):mrg (x :: a) (y :: b)=x :: mrg a (y :: b):=by rw [mrg,if_pos h]
theorem QjO {x y:Bn} (h:y.1<x.1):mrg (x :: a) (y :: b)=y :: mrg (x :: a) b:=by rw [mrg,if_neg (by omega),if_pos h]
theorem Qjk {x y:Bn} (h:x.1=y.1):mrg (x :: a) (y :: b)=(x.1,QaD x.2 y.2) :: mrg a b:=by rw [mrg,if_neg (by omega),if_neg (by omega)]
theorem Qhc {x:Bn} (hx:P[i]?=some x) (h:k=N.length∨∃ y,N[k]?=some y/\x.1<y.1):mrg (P.drop i) (N.drop k)=x :: mrg (P.drop (i+1)) (N.drop k):=by
 have hi:=(ZZd.1 hx).1;rw [List.drop_eq_getElem_cons hi,(List.getElem?_eq_some_iff.1 hx).2];rcases h with rfl | ⟨y,hy,aa⟩
 ·rw [List.drop_length,QbN,QbN]
 ·have hk:=(ZZd.1 hy).1
  rw [List.drop_eq_getElem_cons hk,(List.getElem?_eq_some_iff.1 hy).2,QgN aa]
theorem Qg6 {y:Bn} (hy:N[k]?=some y) (h:i=P.length∨∃ x,P[i]?=some x/\y.1<x.1):mrg (P.drop i) (N.drop k)=y :: mrg (P.drop i) (N.drop (k+1)):=by
 have hk:=(ZZd.1 hy).1;rw [List.drop_eq_getElem_cons hk,(List.getElem?_eq_some_iff.1 hy).2];rcases h with rfl | ⟨x,hx,aa⟩
 ·rw [List.drop_length,Qdf,Qdf]
 ·have hi:=(ZZd.1 hx).1
  rw [List.drop_eq_getElem_cons hi,(List.getElem?_eq_some_iff.1 hx).2,QjO aa]
theorem Qmg {x y:Bn} (hx:P[i]?=some x) (hy:N[k]?=some y) (h:x.1=y.1):mrg (P.drop i) (N.drop k)=(x.1,QaD x.2 y.2) :: mrg (P.drop (i+1)) (N.drop (k+1)):=by
 have hi:=(ZZd.1 hx).1;have hk:=(ZZd.1 hy).1;rw [List.drop_eq_getElem_cons hi,(List.getElem?_eq_some_iff.1 hx).2,List.drop_eq_getElem_cons hk,(List.getElem?_eq_some_iff.1 hy).2,Qjk h]
end
section
theorem Qf6 (R:List Bn) (x:Bn):fl Qc2 R ++ Qc2 x=fl Qc2 (R ++ [x]):=by rw [QdK,QlC]
theorem QrC {B:Nat} {T:TypeId} {v:Value} {xs:List Value} (h:w.ownsRow B T s v n xs) (hv:v≠.slice none 0 0):∃ g c,v=.slice (some ⟨g,0,none⟩) n c:=by
 rcases h.2 with ⟨e,_⟩ | ⟨g,c,_,e,_⟩
 ·exact absurd e hv
 ·exact ⟨g,c,e⟩
theorem mrg_ok (ha:∀ x∈a,Qbw x) (hb:∀ x∈b,Qbw x):∀ z∈mrg a b,Qbw z:=by
 induction a,b using mrg.induct with
 | case1 b=>rw [Qdf];exact hb
 | case2 x a=>rw [QbN];exact ha
 | case3 x a y b h ih=>
  rw [QgN h];intro z hz;rcases List.mem_cons.1 hz with rfl | hz
  ·exact ha _ (List.mem_cons_self ..)
  ·exact ih (fun q hq=>ha q (ZZm _ hq)) hb z hz
 | case4 x a y b h h2 ih=>
  rw [QjO h2];intro z hz;rcases List.mem_cons.1 hz with rfl | hz
  ·exact hb _ (List.mem_cons_self ..)
  ·exact ih ha (fun q hq=>hb q (ZZm _ hq)) z hz
 | case5 x a y b h h2 ih=>
  rw [Qjk (by omega)];intro z hz;rcases List.mem_cons.1 hz with rfl | hz
  ·exact ⟨(ha x (List.mem_cons_self ..)).1,Qh1 (ha x (List.mem_cons_self ..)).2 (hb y (List.mem_cons_self ..)).2⟩
  ·exact ih (fun q hq=>ha q (ZZm _ hq)) (fun q hq=>hb q (ZZm _ hq)) z hz
theorem Qmr {R:List Bn} (h:s<R.length):(fl Qc2 (R.set s (p,x))).set (s*2+1) (.int .u64 y)=fl Qc2 (R.set s (p,y)):=by
 have hl:s<(R.set s (p,x)).length:=by rw [List.length_set];exact h
 have h1:=Qsk (u:=.int .i64 p) (v:=.int .u64 y) QeX (R.set s (p,x)) s (p,y) hl rfl;rw [List.set_set] at h1;rw [<- h1]
 congr 1
 have h0:(fl Qc2 (R.set s (p,x)))[s*2]?=some (.int .i64 p):=by
  have:=Qel QeX (R.set s (p,x)) s (p,x) 0 (by omega) (by simp [h]);rw [Nat.add_zero] at this;rw [this];rfl
 refine List.ext_getElem? fun j=>?_;by_cases e:s*2=j
 ·subst e;rw [List.getElem?_set_self (List.getElem?_eq_some_iff.1 h0).1,h0]
 ·rw [List.getElem?_set_ne e]
theorem Qr0 {R:List Bn} {x0:Int} (hq:R.length=s+30) (hs:0<s) (h:R[s]?=some (p,x0)):Qaq R=(R.set s (p,Qdc x0 (R.take s))).drop s:=by
 have aa:=(ZZd.1 h).1;unfold Qaq;rw [if_neg (by omega),show R.length - 30=s by omega,List.drop_eq_getElem_cons aa]
 have hd:(R.set s (p,Qdc x0 (R.take s))).drop s=(p,Qdc x0 (R.take s)) :: R.drop (s+1):=by
  rw [List.drop_eq_getElem_cons (by rw [List.length_set];exact aa)];rw [show (R.set s (p,Qdc x0 (R.take s))).drop (s+1)=R.drop (s+1) from List.ext_getElem? fun q=>by rw [List.getElem?_drop,List.getElem?_drop,List.getElem?_set_ne (by omega)]];simp
 rw [hd,(List.getElem?_eq_some_iff.1 h).2]
theorem Qb4 {bo:Option Addr} (c c' m n:Nat) (hm:P.length=m) (hn:N.length=n) (lm:m<=30) (ln:n<=30) (hA:QaJ w ao P) (hB:QaJ w bo N) (kA:∀ x∈P,Qbw x) (kB:∀ x∈N,Qbw x) :
  Calls prog 172 #[.slice ao m c,.slice bo n c'] w fun e w'=>∃ v' n',e=.returned v'/\w'.ownsRow w.heap.size 176 2 v' n' (fl Qc2 (Qaq (mrg P N)))/\n'=(Qaq (mrg P N)).length/\Below w.heap.size w w':=by
 obtain ⟨i0,hi,aw,ay,aA⟩:=info_parts QpD;have HA:=Qaa hA;have aR:=Qaa hB;have KA:=Qaa kA;have KB:=Qaa kB;have EM:=Qaa hm;have EN:=Qaa hn;clear hA hB kA kB hm hn;go_enter func172,ntmps172;go_wp2
 go_loopw [5,6,7] (fun v s t wr=>∃ (i k:Nat) (R:List Bn),i<=m/\k<=n/\s=.int .i64 i/\t=.int .i64 k/\v≠.slice none 0 0/\R.length<=i+k/\wr.ownsRow w.heap.size 176 2 v R.length (fl Qc2 R)/\Hid (R ++ mrg (P.drop i) (N.drop k)=mrg P N)/\Below w.heap.size w wr) (fun v s t wr=>(m - (RowKit.intOf s).toNat)+(n - (RowKit.intOf t).toNat))
 case atStart=>exact ⟨0,0,[],ZZj _,ZZj _,rfl,rfl,(fun e=>by cases e),ZZa _,World.ownsRow_made w #[] 0 (ZZa _) (ZZj _) rfl,(rfl:[] ++ mrg (P.drop 0) (N.drop 0)=mrg P N),(ZZb _ _).alloc (ZZa _) _⟩
 case round=>
  obtain ⟨i,k,R,bb,be,rfl,rfl,hv,a0,ad,HR,ae⟩:=hrel;obtain ⟨g,cv,rfl⟩:=QrC ad hv;obtain ⟨q,hq⟩:∃ q,R.length=q:=⟨_,rfl⟩;rw [hq] at ad a0;rw [hq];have HQ:=Qaa hq;have HO:=Qaa ad;have HB:=Qaa ae;have aB:=Qaa (fun z=>(show (wr.drewN z).ownsRow w.heap.size 176 2 (.slice (some ⟨g,0,none⟩) q cv) q (fl Qc2 R) from ad));have az:=Qaa (fun z o=>((Qar ae z).alloc ae.size o:Below w.heap.size w ((wr.drewN z).alloc o)));clear hq hv;have ax:(i<m/\k=n)∨(i<m/\k<n)∨(i=m/\k<n)∨(i=m/\k=n):=by omega
  rcases ax with ⟨aC,aD⟩ | ⟨aC,aD⟩ | ⟨aC,aD⟩ | ⟨aC,aD⟩
  ·subst aD
   obtain ⟨⟨a,u⟩,ap⟩:∃ x,P[i]?=some x:=⟨P[i]'(by have:=EM.out;omega),ZZe _⟩;obtain ⟨b,an,rfl,ag⟩:=HA.out (by have:=EM.out;omega);have ai:=Qab ae (ag i _ ap).1;have ah:=Qab ae (ag i _ ap).2
   have HE:Hid ((R ++ [(a,u)]) ++ mrg (P.drop (i+1)) (N.drop k)=mrg P N):=by
    refine (?_:(R ++ [(a,u)]) ++ mrg (P.drop (i+1)) (N.drop k)=mrg P N);rw [<- HR.out,Qhc ap (.inl EN.out.symm),List.append_assoc];rfl
   have d1:decide ((i:Int)<(m:Int))=true:=ZZh (by omega);clear ae ad ag ap;go_wp2
   go_quiet (fail)
   go_wp2_with (at_builtin;refine wpList_append_own _ rfl (.tmp 69) (.tmp 74) 82 rfl w.heap.size 176 i0 (.agg #[.int .i64 0,.int .u64 0]) 2 16 underlying82 hi aw ay aA rfl (by decide) _ _ _ rfl ((aB.out _).alloc _) ⟨wr.heap.size,0,none⟩ 1 1 (Qc2 (a,u)) rfl rfl (Qav (cs:=#[.int .i64 a,.int .u64 u]) rfl) (Qdv _) (by unfold maxLen;omega) (by omega) (by simp;have:=HB.out.size;omega) ?_;intro v1 w1 ab aa ac;have O1:=Qaa ab;have B1:=Qaa ((az.out _ _).grown aa (by simp;have:=HB.out.size;omega) (fun j hj=>(HO.out.lt j hj).1));have N1:=Qaa (show v1≠.slice none 0 0 from fun e=>by have:=(ac.1 e).2;omega);clear ab aa ac);go_roundw
   case rel=>exact ⟨i+1,k,R ++ [(a,u)],by omega,by omega,by go_num,rfl,N1,by simp;have:=HQ.out;omega,by have:=O1.out;rw [Qf6] at this;simpa [HQ.out] using this,HE,B1⟩
   case measure=>simp [RowKit.intOf];omega
  ·obtain ⟨⟨a,u⟩,ap⟩:∃ x,P[i]?=some x:=⟨P[i]'(by have:=EM.out;omega),ZZe _⟩
   obtain ⟨⟨a',u'⟩,av⟩:∃ x,N[k]?=some x:=⟨N[k]'(by have:=EN.out;omega),ZZe _⟩;obtain ⟨b,an,rfl,ag⟩:=HA.out (by have:=EM.out;omega);obtain ⟨b',al,rfl,af⟩:=aR.out (by have:=EN.out;omega);have ai:=Qab ae (ag i _ ap).1;have ah:=Qab ae (ag i _ ap).2;have a3:=Qab ae (af k _ av).1;have aj:=Qab ae (af k _ av).2;obtain ⟨_,hu⟩:=KA.out _ (ZZn ap);obtain ⟨_,aZ⟩:=KB.out _ (ZZn av);simp only at hu aZ;have d1:decide ((i:Int)<(m:Int))=true:=ZZh (by omega);have d2:((k:Int) == (n:Int))=false:=ZZf.2 (by omega);have d3:((i:Int) == (m:Int))=false:=ZZf.2 (by omega);have aN:=Qaa ap;have aJ:=Qaa av;have aK:=Qaa (⟨(ag i _ ap).1,(ag i _ ap).2,(af k _ av).2⟩:w.cell? ⟨b,an+i*2,none⟩=some (.int .i64 a)/\w.cell? ⟨b,an+i*2+1,none⟩=some (.int .u64 u)/\w.cell? ⟨b',al+k*2+1,none⟩=some (.int .u64 u'));clear ae ad ag af ap av;have c3:a<a'∨(¬ a<a'/\a'<a)∨(¬ a<a'/\¬ a'<a):=by omega
   rcases c3 with h1 | ⟨h1,h2⟩ | ⟨h1,h2⟩
   ·have HE:Hid ((R ++ [(a,u)]) ++ mrg (P.drop (i+1)) (N.drop k)=mrg P N):=by
     refine (?_:(R ++ [(a,u)]) ++ mrg (P.drop (i+1)) (N.drop k)=mrg P N);rw [<- HR.out,Qhc aN.out (.inr ⟨_,aJ.out,h1⟩),List.append_assoc];rfl
    have d4:decide (a<a')=true:=ZZh h1;go_wp2
    go_quiet (fail)
    go_wp2_with (at_builtin;refine wpList_append_own _ rfl (.tmp 69) (.tmp 74) 82 rfl w.heap.size 176 i0 (.agg #[.int .i64 0,.int .u64 0]) 2 16 underlying82 hi aw ay aA rfl (by decide) _ _ _ rfl ((aB.out _).alloc _) ⟨wr.heap.size,0,none⟩ 1 1 (Qc2 (a,u)) rfl rfl (Qav (cs:=#[.int .i64 a,.int .u64 u]) rfl) (Qdv _) (by unfold maxLen;omega) (by omega) (by simp;have:=HB.out.size;omega) ?_;intro v1 w1 ab aa ac;have O1:=Qaa ab;have B1:=Qaa ((az.out _ _).grown aa (by simp;have:=HB.out.size;omega) (fun j hj=>(HO.out.lt j hj).1));have N1:=Qaa (show v1≠.slice none 0 0 from fun e=>by have:=(ac.1 e).2;omega);clear ab aa ac);go_roundw
    case rel=>exact ⟨i+1,k,R ++ [(a,u)],by omega,by omega,by go_num,by go_num,N1,by simp;have:=HQ.out;omega,by have:=O1.out;rw [Qf6] at this;simpa [HQ.out] using this,HE,B1⟩
    case measure=>simp [RowKit.intOf];omega
   ·have HE:Hid ((R ++ [(a',u')]) ++ mrg (P.drop i) (N.drop (k+1))=mrg P N):=by
     refine (?_:(R ++ [(a',u')]) ++ mrg (P.drop i) (N.drop (k+1))=mrg P N);rw [<- HR.out,Qg6 aJ.out (.inr ⟨_,aN.out,h2⟩),List.append_assoc];rfl
    have d4:decide (a<a')=false:=ZZg h1;have d5:decide (a'<a)=true:=ZZh h2;go_wp2
    go_quiet (fail)
    go_wp2
    go_quiet (fail)
    go_wp2_with (at_builtin;refine wpList_append_own _ rfl (.tmp 96) (.tmp 101) 82 rfl w.heap.size 176 i0 (.agg #[.int .i64 0,.int .u64 0]) 2 16 underlying82 hi aw ay aA rfl (by decide) _ _ _ rfl ((aB.out _).alloc _) ⟨wr.heap.size,0,none⟩ 1 1 (Qc2 (a',u')) rfl rfl (Qav (cs:=#[.int .i64 a',.int .u64 u']) rfl) (Qdv _) (by unfold maxLen;omega) (by omega) (by simp;have:=HB.out.size;omega) ?_;intro v1 w1 ab aa ac;have O1:=Qaa ab;have B1:=Qaa ((az.out _ _).grown aa (by simp;have:=HB.out.size;omega) (fun j hj=>(HO.out.lt j hj).1));have N1:=Qaa (show v1≠.slice none 0 0 from fun e=>by have:=(ac.1 e).2;omega);clear ab aa ac);go_roundw
    case rel=>exact ⟨i,k+1,R ++ [(a',u')],by omega,by omega,by go_num,by go_num,N1,by simp;have:=HQ.out;omega,by have:=O1.out;rw [Qf6] at this;simpa [HQ.out] using this,HE,B1⟩
    case measure=>simp [RowKit.intOf];omega
   ·have HE:Hid ((R ++ [(a,QaD u u')]) ++ mrg (P.drop (i+1)) (N.drop (k+1))=mrg P N):=by
     refine (?_:(R ++ [(a,QaD u u')]) ++ mrg (P.drop (i+1)) (N.drop (k+1))=mrg P N);rw [<- HR.out,Qmg aN.out aJ.out (by show a=a'; omega),List.append_assoc];rfl
    have d4:decide (a<a')=false:=ZZg h1;have d5:decide (a'<a)=false:=ZZg h2;go_wp2
    go_quiet (fail)
    go_wp2
    go_quiet (fail)
    go_wp2_with fail;have a5:=Qaa (fun (W:World) (hW:W.heap=wr.heap)=>(show W.ownsRow w.heap.size 176 2 (.slice (some ⟨g,0,none⟩) q cv) q (fl Qc2 R) from by unfold World.ownsRow;rw [hW];exact HO.out));have a6:=Qaa (fun (W:World) (hW:W.heap=wr.heap) (h1:W.os=wr.os) (h2:W.tape=wr.tape) (h3:W.output=wr.output)=>(⟨h1.trans HB.out.os,h2.trans HB.out.tape,h3.trans HB.out.output,by rw [hW];exact HB.out.size,fun k hk=>by rw [hW];exact HB.out.block k hk⟩:Below w.heap.size w W));refine Qao (fun W=>W.cell? ⟨b,an+i*2,none⟩=some (.int .i64 a)/\W.cell? ⟨b,an+i*2+1,none⟩=some (.int .u64 u)/\W.cell? ⟨b',al+k*2+1,none⟩=some (.int .u64 u')) 999 (by kernel_rfl) ?_;refine tkL 0 (.slice (some ⟨g,0,none⟩) q cv) ⟨ai,ah,aj⟩ (fun W hW=>?_) ?_
    ·obtain ⟨x0,x1,x2⟩:=hW
     go_simp
    refine tkL 1 (.slice (some ⟨b,an,none⟩) m c) ⟨ai,ah,aj⟩ (fun W hW=>?_) ?_
    ·obtain ⟨x0,x1,x2⟩:=hW
     go_simp
    refine tkL 2 (.int .i64 i) ⟨ai,ah,aj⟩ (fun W hW=>?_) ?_
    ·obtain ⟨x0,x1,x2⟩:=hW
     go_simp
    simp only [sX];refine tkL 3 (.pointer (some ⟨b,an+i*2,none⟩)) ⟨ai,ah,aj⟩ (fun W hW=>?_) ?_
    ·obtain ⟨x0,x1,x2⟩:=hW
     go_simp
    refine tkL 4 (.pointer (some ⟨b,an+i*2,none⟩)) ⟨ai,ah,aj⟩ (fun W hW=>?_) ?_
    ·obtain ⟨x0,x1,x2⟩:=hW
     go_simp
    refine tkL 5 (.int .i64 a) ⟨ai,ah,aj⟩ (fun W hW=>?_) ?_
    ·obtain ⟨x0,x1,x2⟩:=hW
     go_simp
    simp only [sX];refine tkL 6 (.slice (some ⟨b,an,none⟩) m c) ⟨ai,ah,aj⟩ (fun W hW=>?_) ?_
    ·obtain ⟨x0,x1,x2⟩:=hW
     go_simp
    refine tkL 7 (.int .i64 i) ⟨ai,ah,aj⟩ (fun W hW=>?_) ?_
    ·obtain ⟨x0,x1,x2⟩:=hW
     go_simp
    refine tkL 8 (.pointer (some ⟨b,an+i*2,none⟩)) ⟨ai,ah,aj⟩ (fun W hW=>?_) ?_
    ·obtain ⟨x0,x1,x2⟩:=hW
     go_simp
    simp only [sX];refine tkL 9 (.pointer (some ⟨b,an+i*2+1,none⟩)) ⟨ai,ah,aj⟩ (fun W hW=>?_) ?_
    ·obtain ⟨x0,x1,x2⟩:=hW
     go_simp
    refine tkL 10 (.int .u64 u) ⟨ai,ah,aj⟩ (fun W hW=>?_) ?_
    ·obtain ⟨x0,x1,x2⟩:=hW
     go_simp
    refine tkL 11 (.slice (some ⟨b',al,none⟩) n c') ⟨ai,ah,aj⟩ (fun W hW=>?_) ?_
    ·obtain ⟨x0,x1,x2⟩:=hW
     go_simp
    simp only [sX];refine tkL 12 (.int .i64 k) ⟨ai,ah,aj⟩ (fun W hW=>?_) ?_
    ·obtain ⟨x0,x1,x2⟩:=hW
     go_simp
    refine tkL 13 (.pointer (some ⟨b',al+k*2,none⟩)) ⟨ai,ah,aj⟩ (fun W hW=>?_) ?_
    ·obtain ⟨x0,x1,x2⟩:=hW
     go_simp
    refine tkL 14 (.pointer (some ⟨b',al+k*2+1,none⟩)) ⟨ai,ah,aj⟩ (fun W hW=>?_) ?_
    ·obtain ⟨x0,x1,x2⟩:=hW
     go_simp
    simp only [sX];refine tkL 15 (.int .u64 u') ⟨ai,ah,aj⟩ (fun W hW=>?_) ?_
    ·obtain ⟨x0,x1,x2⟩:=hW
     go_simp
    simp only [sX];refine onE 16 fun K hK=>?_;go_simp;refine (Qax _ _ hu aZ _).mono ?_;rintro e w8 ⟨rfl,rfl⟩;dsimp only;refine hK.out _ _ (fun _=>⟨ai,ah,aj⟩) ?_
    try simp only [sX]
    refine tkL 17 (.agg #[.int .i64 a,.int .u64 (QaD u u')]) ⟨ai,ah,aj⟩ (fun W hW=>?_) ?_
    ·obtain ⟨x0,x1,x2⟩:=hW
     go_simp
    simp only [sX];have aI:=Qaa (fun (W:World) (hW:Below w.heap.size w W)=>(⟨Qab hW aK.out.1,Qab hW aK.out.2.1,Qab hW aK.out.2.2⟩:(fun W=>W.cell? ⟨b,an+i*2,none⟩=some (.int .i64 a)/\W.cell? ⟨b,an+i*2+1,none⟩=some (.int .u64 u)/\W.cell? ⟨b',al+k*2+1,none⟩=some (.int .u64 u')) W));refine onE 18 fun K hK=>?_;go_simp;refine hK.out _ _ (fun _=>aI.out _ (az.out _ _)) ?_
    try simp only [sX]
    refine onE 19 fun K hK=>?_;rw [if_pos (by rfl)];refine wp_append_own _ (.tmp 21) (.tmp 39) 82 rfl w.heap.size 176 i0 (.agg #[.int .i64 0,.int .u64 0]) 2 16 underlying82 hi aw ay aA rfl (by decide) _ _ _ rfl ((aB.out _).alloc _) ⟨wr.heap.size,0,none⟩ 1 1 (Qc2 (a,(QaD u u'))) rfl rfl (Qav (cs:=#[.int .i64 a,.int .u64 (QaD u u')]) rfl) (Qdv _) (by unfold maxLen;omega) (by omega) (by simp;have:=HB.out.size;omega) ?_;intro v1 w1 ab aa ac;have O1:=Qaa ab;have B1:=Qaa ((az.out _ _).grown aa (by simp;have:=HB.out.size;omega) (fun j hj=>(HO.out.lt j hj).1));have N1:=Qaa (show v1≠.slice none 0 0 from fun e=>by have:=(ac.1 e).2;omega);clear ab aa ac;refine hK.out _ _ (fun _=>aI.out _ B1) ?_;obtain ⟨bc,bd,e1⟩:=Qag O1;subst e1
    try simp only [sX]
    refine onE 20 fun K hK=>?_;go_simp;refine hK.out _ _ (fun _=>aI.out _ B1) ?_
    try simp only [sX]
    refine dnE ?_ _;go_wp2;go_roundw
    case rel=>exact ⟨i+1,k+1,R ++ [(a,QaD u u')],by omega,by omega,by go_num,by go_num,N1,by simp;have:=HQ.out;omega,by have:=O1.out;rw [Qf6] at this;simpa [HQ.out] using this,HE,B1⟩
    case measure=>simp [RowKit.intOf];omega
  ·subst aC
   obtain ⟨⟨a',u'⟩,av⟩:∃ x,N[k]?=some x:=⟨N[k]'(by have:=EN.out;omega),ZZe _⟩;obtain ⟨b',al,rfl,af⟩:=aR.out (by have:=EN.out;omega);have a3:=Qab ae (af k _ av).1;have aj:=Qab ae (af k _ av).2
   have HE:Hid ((R ++ [(a',u')]) ++ mrg (P.drop i) (N.drop (k+1))=mrg P N):=by
    refine (?_:(R ++ [(a',u')]) ++ mrg (P.drop i) (N.drop (k+1))=mrg P N);rw [<- HR.out,Qg6 av (.inl EM.out.symm),List.append_assoc];rfl
   have d2:((k:Int) == (n:Int))=false:=ZZf.2 (by omega);have d1:decide ((i:Int)<(i:Int))=false:=ZZg (by omega);clear ae ad af av;go_wp2
   go_quiet (fail)
   go_wp2
   go_quiet (fail)
   go_wp2_with (at_builtin;refine wpList_append_own _ rfl (.tmp 96) (.tmp 101) 82 rfl w.heap.size 176 i0 (.agg #[.int .i64 0,.int .u64 0]) 2 16 underlying82 hi aw ay aA rfl (by decide) _ _ _ rfl ((aB.out _).alloc _) ⟨wr.heap.size,0,none⟩ 1 1 (Qc2 (a',u')) rfl rfl (Qav (cs:=#[.int .i64 a',.int .u64 u']) rfl) (Qdv _) (by unfold maxLen;omega) (by omega) (by simp;have:=HB.out.size;omega) ?_;intro v1 w1 ab aa ac;have O1:=Qaa ab;have B1:=Qaa ((az.out _ _).grown aa (by simp;have:=HB.out.size;omega) (fun j hj=>(HO.out.lt j hj).1));have N1:=Qaa (show v1≠.slice none 0 0 from fun e=>by have:=(ac.1 e).2;omega);clear ab aa ac);go_roundw
   case rel=>exact ⟨i,k+1,R ++ [(a',u')],by omega,by omega,by go_num,by go_num,N1,by simp;have:=HQ.out;omega,by have:=O1.out;rw [Qf6] at this;simpa [HQ.out] using this,HE,B1⟩
   case measure=>simp [RowKit.intOf];omega
  ·subst aC aD
   have HM:Hid (R=mrg P N):=by
    refine (?_:R=mrg P N);rw [<- HR.out,<- EM.out,<- EN.out,List.drop_length,List.drop_length,Qdf,List.append_nil]
   have aO:Hid (∀ z∈R,Qbw z):=by
    refine (?_:∀ z∈R,Qbw z);rw [HM.out];exact mrg_ok KA KB
   clear HR ae;by_cases a9:q<=30
   ·have HE:Hid (Qaq (mrg P N)=R):=(by rw [<- HM.out];exact if_pos (by have:=HQ.out;omega):Qaq (mrg P N)=R)
    have aE:∀ j z,(fl Qc2 R)[j]?=some z->wr.cell? ((⟨g,0,none⟩:Addr).add j)=some z:=fun j z hz=>ad.cells rfl j z hz;have aG:=Qaa aE;clear ad aE;have d0:¬ (0:Int)<(q:Int) - 30:=by omega
    go_wp2
    go_loopw [9] (fun z w2=>z=.int .i64 0/\w2=wr) (fun z w2=>0)
    case atStart=>exact ⟨rfl,rfl⟩
    case round=>
     obtain ⟨rfl,rfl⟩:=hrel;go_wp2_with (at_builtin;refine wpList_append_own _ rfl (.tmp 133) (.tmp 134) 82 rfl w.heap.size 176 i0 (.agg #[.int .i64 0,.int .u64 0]) 2 16 underlying82 hi aw ay aA rfl (by decide) _ _ _ rfl (World.ownsRow_made _ #[] 0 HB.out.size (Nat.zero_le _) rfl) ⟨g,0,none⟩ q cv (fl Qc2 R) rfl (by rw [QbH QeX];have:=HQ.out;omega) (fun j z hz=>by have:=aG.out j z hz;exact Qf8 this _) (QhS _) (by unfold maxLen;omega) (by omega) (by simp;have:=HB.out.size;omega) ?_;intro v1 w1 ab aa ac;simp only [Nat.zero_add,List.nil_append] at ab;have O1:=Qaa ab;have B1:=Qaa ((HB.out.alloc HB.out.size _).grown aa (by simp;have:=HB.out.size;omega) (fun j hj=>by cases hj;exact HB.out.size));clear ab aa ac);go_ret;exact ⟨_,_,rfl,by rw [HE.out];exact O1.out,by rw [HE.out];exact HQ.out.symm,B1⟩
   ·obtain ⟨s,hs⟩:∃ s,q=s+30:=⟨q - 30,by omega⟩
    subst hs;obtain ⟨⟨p,x0⟩,aL⟩:∃ z,R[s]?=some z:=⟨R[s]'(by have:=HQ.out;omega),ZZe _⟩;obtain ⟨_,aP⟩:=aO.out _ (ZZn aL);simp only at aP;have aS:=Qaa aL;have a2:=Qkb ad;have aU:=Qhl ad;have e1:((s+30:Nat):Int) - 30=(s:Int):=by omega
    have a1:0<s:=by omega
    clear ad aL;go_wp2
    go_loopw [9] (fun z w2=>∃ j:Nat,j<=s/\z=.int .i64 j/\w2.ownsRow w.heap.size 176 2 (.slice (some ⟨g,0,none⟩) (s+30) cv) (s+30) (fl Qc2 (R.set s (p,Qdc x0 (R.take j))))/\Below w.heap.size w w2) (fun z w2=>s - (RowKit.intOf z).toNat)
    case atStart=>exact ⟨0,Nat.zero_le _,rfl,by rw [show Qdc x0 (R.take 0)=x0 from rfl,Qqc aS.out];exact HO.out,HB⟩
    case round=>
     clear HO HB aB az;obtain ⟨j,hj,rfl,ad,ae⟩:=hrel;obtain ⟨x,hx⟩:∃ x,Qdc x0 (R.take j)=x:=⟨_,rfl⟩;rw [hx] at ad;have a4:U64 x:=by rw [<- hx];exact Qlb aP (fun y hy=>aO.out y (ZZo hy))
     have HX:=Qaa hx;have HO:=Qaa ad;have HB:=Qaa ae;have am:s+30=(R.set s (p,x)).length:=by rw [List.length_set];exact HQ.out.symm
     have aT:s<R.length:=by have:=HQ.out;omega
     clear hx;by_cases bf:j<s
     ·obtain ⟨⟨b,y⟩,aF⟩:∃ z,R[j]?=some z:=⟨R[j]'(by omega),ZZe (by omega)⟩
      obtain ⟨_,hy⟩:=aO.out _ (ZZn aF);simp only at hy;have aH:=(Qi9 ad am (k:=s) (x:=(p,x)) (by simp [aT])).2;have aM:=(Qi9 ad am (k:=j) (x:=(b,y)) (by rw [List.getElem?_set_ne (by omega)];exact aF)).2;have aX:=ad.frozenAt (s*2+1)
      have HW:Hid (QaD x y=Qdc x0 (R.take (j+1))):=by
       refine (?_:QaD x y=Qdc x0 (R.take (j+1)));rw [Qmh aF,HX.out]
      have ak:(fun W=>W.cell? ⟨g,s*2+1,none⟩=some (.int .u64 x)/\W.cell? ⟨g,j*2+1,none⟩=some (.int .u64 y)/\W.frozen? ⟨g,s*2+1,none⟩=false) wr.drew:=⟨aH,aM,aX⟩;simp only at aH aM;have aW:=Qaa am;have a7:¬ (s:Int)+30<=(s:Int):=by omega
      have a8:¬ (s:Int)+30<=(j:Int):=by omega
      clear ad ae aF aH aM aX am;go_wp2_with fail;refine Qao (fun W=>W.cell? ⟨g,s*2+1,none⟩=some (.int .u64 x)/\W.cell? ⟨g,j*2+1,none⟩=some (.int .u64 y)/\W.frozen? ⟨g,s*2+1,none⟩=false) 15 (by kernel_rfl) ?_;refine tkL 0 (.slice (some ⟨g,0,none⟩) (s+30) cv) ak (fun W hW=>?_) ?_
      ·obtain ⟨aq,au,ar⟩:=hW
       go_simp
      refine tkL 1 (.int .i64 s) ak (fun W hW=>?_) ?_
      ·obtain ⟨aq,au,ar⟩:=hW
       go_simp
      refine tkL 2 (.slice (some ⟨g,0,none⟩) (s+30) cv) ak (fun W hW=>?_) ?_
      ·obtain ⟨aq,au,ar⟩:=hW
       go_simp
      simp only [sX];refine tkL 3 (.int .i64 s) ak (fun W hW=>?_) ?_
      ·obtain ⟨aq,au,ar⟩:=hW
       go_simp
      refine tkL 4 (.pointer (some ⟨g,s*2,none⟩)) ak (fun W hW=>?_) ?_
      ·obtain ⟨aq,au,ar⟩:=hW
       go_simp
      refine tkL 5 (.pointer (some ⟨g,s*2+1,none⟩)) ak (fun W hW=>?_) ?_
      ·obtain ⟨aq,au,ar⟩:=hW
       go_simp
      simp only [sX];refine tkL 6 (.int .u64 x) ak (fun W hW=>?_) ?_
      ·obtain ⟨aq,au,ar⟩:=hW
       go_simp
      refine tkL 7 (.slice (some ⟨g,0,none⟩) (s+30) cv) ak (fun W hW=>?_) ?_
      ·obtain ⟨aq,au,ar⟩:=hW
       go_simp
      refine tkL 8 (.int .i64 j) ak (fun W hW=>?_) ?_
      ·obtain ⟨aq,au,ar⟩:=hW
       go_simp
      simp only [sX];refine tkL 9 (.pointer (some ⟨g,j*2,none⟩)) ak (fun W hW=>?_) ?_
      ·obtain ⟨aq,au,ar⟩:=hW
       go_simp
      refine tkL 10 (.pointer (some ⟨g,j*2+1,none⟩)) ak (fun W hW=>?_) ?_
      ·obtain ⟨aq,au,ar⟩:=hW
       go_simp
      refine tkL 11 (.int .u64 y) ak (fun W hW=>?_) ?_
      ·obtain ⟨aq,au,ar⟩:=hW
       go_simp
      simp only [sX];refine onE 12 fun K hK=>?_;go_simp;refine (Qax _ _ a4 hy _).mono ?_;rintro e w8 ⟨rfl,rfl⟩;dsimp only;refine gK hK ak ?_
      try simp only [sX]
      refine onE 13 fun K hK=>?_;go_simp;refine gK hK ak ?_
      try simp only [sX]
      refine onE 14 fun K hK=>?_;go_simp;refine gK hK ak ?_
      try simp only [sX]
      obtain ⟨z0,z1,z2⟩:=ak;refine onE 15 fun K hK=>?_;go_simp;refine hK.out _ _ (fun h=>absurd rfl h) ?_
      try simp only [sX]
      refine dnE ?_ _;go_wp2;go_roundw
      case rel=>
       refine ⟨j+1,by omega,by go_num,?_,?_⟩
       ·have o1:=(HO.out.drew.stored (s*2+1) (.int .u64 (QaD x y))).1
        have e2:(fl Qc2 (R.set s (p,x))).set (s*2+1) (.int .u64 (QaD x y))=fl Qc2 (R.set s (p,QaD x y)):=Qmr aT;rw [e2] at o1;rw [<- HW.out];exact o1
       ·exact HB.out.drew.setCell (Qsi HO).1 _
      case measure=>simp [RowKit.intOf];omega
     ·have aV:j=s:=by omega
      have HE:Hid (Qaq (mrg P N)=(R.set s (p,x)).drop s):=by
       refine (?_:Qaq (mrg P N)=(R.set s (p,x)).drop s);rw [<- HM.out,<- HX.out,aV];exact Qr0 HQ a1 aS
      have aE:∀ jj z,(fl Qc2 ((R.set s (p,x)).drop s))[jj]?=some z->wr.cell? ((⟨g,s*2,none⟩:Addr).add jj)=some z:=fun jj z hz=>by
       rw [QoX QeX,List.getElem?_drop] at hz;have:=ad.cells rfl (s*2+jj) z hz;rw [Addr.add_lit] at this ⊢
       simpa using this
      have aQ:((R.set s (p,x)).drop s).length=30:=by rw [List.length_drop,<- am];omega
      have aG:=Qaa aE;have aY:=Qaa aQ;have ba:¬ cv=s:=by omega
      clear ad ae aE aQ am aV;go_wp2_with (at_builtin;refine wpList_append_own _ rfl (.tmp 133) (.tmp 134) 82 rfl w.heap.size 176 i0 (.agg #[.int .i64 0,.int .u64 0]) 2 16 underlying82 hi aw ay aA rfl (by decide) _ _ _ rfl (World.ownsRow_made _ #[] 0 HB.out.size (Nat.zero_le _) rfl) ⟨g,s*2,none⟩ _ _ (fl Qc2 ((R.set s (p,x)).drop s)) rfl (by rw [QbH QeX,aY.out] <;> omega) (fun j z hz=>by have:=aG.out j z hz;exact Qf8 this _) (QhS _) (by unfold maxLen;omega) (by omega) (by simp;have:=HB.out.size;omega) ?_;intro v1 w1 ab aa ac;simp only [Nat.zero_add,List.nil_append,Nat.add_sub_cancel_left] at ab;have O1:=Qaa ab;have B1:=Qaa ((HB.out.alloc HB.out.size _).grown aa (by simp;have:=HB.out.size;omega) (fun j hj=>by cases hj;exact HB.out.size));clear ab aa ac);go_ret;exact ⟨_,_,rfl,by rw [HE.out];exact O1.out,by rw [HE.out];exact aY.out.symm,B1⟩
end
section
def QpV (x y:Int):Int:=x*y / 18446744073709551616
theorem Qrr (x y:Int) (hx:U64 x) (hy:U64 y):IntKind.u64.wrap (IntKind.u64.wrap (IntKind.u64.wrap (x / 4294967296*(y / 4294967296))+IntKind.u64.wrap (IntKind.u64.wrap (x / 4294967296*bits BinOp.and IntKind.u64 y 4294967295)+IntKind.u64.wrap (bits BinOp.and IntKind.u64 x 4294967295*bits BinOp.and IntKind.u64 y 4294967295) / 4294967296) / 4294967296)+IntKind.u64.wrap (bits BinOp.and IntKind.u64 (IntKind.u64.wrap (IntKind.u64.wrap (x / 4294967296*bits BinOp.and IntKind.u64 y 4294967295)+IntKind.u64.wrap (bits BinOp.and IntKind.u64 x 4294967295*bits BinOp.and IntKind.u64 y 4294967295) / 4294967296)) 4294967295+IntKind.u64.wrap (bits BinOp.and IntKind.u64 x 4294967295*(y / 4294967296))) / 4294967296)=QpV x y:=by
 unfold U64 at hx hy;simp only [IntKind.wrap_u64,and_low32 x hx.1 (by omega),and_low32 y hy.1 (by omega)];rw [and_low32 _ (by omega) (by omega)];exact mul64_arith x y hx.1 (by omega) hy.1 (by omega)
theorem Qnj (x y:Int) (hx:U64 x) (hy:U64 y):IntKind.u64.wrap (IntKind.u64.wrap (IntKind.u64.wrap (x / 4294967296*(y / 4294967296))+IntKind.u64.wrap (IntKind.u64.wrap (x / 4294967296*bits BinOp.and IntKind.u64 y 4294967295)+IntKind.u64.wrap (bits BinOp.and IntKind.u64 x 4294967295*bits BinOp.and IntKind.u64 y 4294967295) / 4294967296) / 4294967296)+IntKind.u64.wrap (IntKind.u64.wrap (bits BinOp.and IntKind.u64 x 4294967295*(y / 4294967296))+bits BinOp.and IntKind.u64 (IntKind.u64.wrap (IntKind.u64.wrap (x / 4294967296*bits BinOp.and IntKind.u64 y 4294967295)+IntKind.u64.wrap (bits BinOp.and IntKind.u64 x 4294967295*bits BinOp.and IntKind.u64 y 4294967295) / 4294967296)) 4294967295) / 4294967296)=QpV x y:=by
 rw [Int.add_comm (IntKind.u64.wrap (bits BinOp.and IntKind.u64 x 4294967295*(y / 4294967296)))];exact Qrr x y hx hy
theorem Qt5 (a:Int) (ha:I64 a):bits .xor .i64 (-1) a=-1 - a:=by
 unfold I64 at ha
 show IntKind.i64.wrap ((BitVec.ofInt 64 (-1) ^^^ BitVec.ofInt 64 a).toNat:Int)=_
 have h1:BitVec.ofInt 64 (-1)=BitVec.allOnes 64:=by decide
 rw [h1,BitVec.allOnes_xor,BitVec.toNat_not,BitVec.toNat_ofInt];rw [IntKind.wrap_i64]
 have e:((a % ((2 ^ 64:Nat):Int)).toNat:Int)=a % 18446744073709551616:=by
  rw [Int.toNat_of_nonneg (Int.emod_nonneg _ (by decide))];rfl
 omega
theorem Qu2 (b:Int) (hb:U64 b):bits .xor .u64 IntKind.u64.max b=18446744073709551615 - b:=by
 unfold U64 at hb;rw [IntKind.max_u64]
 show IntKind.u64.wrap ((BitVec.ofInt 64 18446744073709551615 ^^^ BitVec.ofInt 64 b).toNat:Int)=_
 have h1:BitVec.ofInt 64 18446744073709551615=BitVec.allOnes 64:=by decide
 rw [h1,BitVec.allOnes_xor,BitVec.toNat_not,BitVec.toNat_ofInt];rw [IntKind.wrap_u64]
 have e:((b % ((2 ^ 64:Nat):Int)).toNat:Int)=b % 18446744073709551616:=by
  rw [Int.toNat_of_nonneg (Int.emod_nonneg _ (by decide))];rfl
 omega
def QpT (a b:Int):Int:=wrap64 (-a - (if b=0 then 0 else 1))
def QpL (b:Int):Int:=uw (-b)
def thH (n w:Int):Int:=wrap64 (n*w / 18446744073709551616)
def thL (n w:Int):Int:=uw (n*w)
theorem Qug (a b:Int) (hb:U64 b):Qbg (-1 - a) (18446744073709551615 - b) 0 1=QpT a b/\Qbl (18446744073709551615 - b) 1=QpL b:=by
 unfold U64 at hb;unfold Qbg Qbl QpT QpL addC uw wrap64;refine ⟨?_,by omega⟩;by_cases h:b=0
 ·subst h;simp;omega
 ·rw [if_neg h];omega
theorem Qq0 (n y:Int):QpT (wrap64 (QpV (-n) y)) (uw (-n*y))=thH n y/\QpL (uw (-n*y))=thL n y:=by
 have e:-n*y=-(n*y):=Int.neg_mul _ _;unfold QpV thH thL;rw [e];generalize n*y=p;unfold QpT QpL;refine ⟨?_,by unfold uw;omega⟩;by_cases k:uw (-p)=0
 ·rw [if_pos k];unfold uw at k;unfold wrap64;omega
 ·rw [if_neg k];unfold uw at k;unfold wrap64;omega
end
section
theorem QqH {a b c d:Int} (h:a=c) (k:b=d):Ending.returned (.tuple #[.int .u64 a,.int .u64 b])=.returned (.tuple #[.int .u64 c,.int .u64 d]):=by rw [h,k]
theorem QlS (x y:Int) (hx:U64 x) (hy:U64 y) (w:World) :
  Calls prog 235 #[.int .u64 x,.int .u64 y] w fun e w'=>e=.returned (.tuple #[.int .u64 (QpV x y),.int .u64 (uw (x*y))])/\w'=w:=by
 have HF:Hid (_=_):=Qnj x y hx hy;have HG:Hid (IntKind.u64.wrap (x*y)=uw (x*y)):=IntKind.wrap_u64 _;clear hx hy;go_enter func235,ntmps235;go_wp2;go_ret2;exact ⟨QqH HF HG,rfl⟩
theorem QgY (a b:Int) (ha:I64 a) (hb:U64 b) (w:World) :
  Calls prog 117 #[.agg #[.int .i64 a,.int .u64 b]] w fun e w'=>e=.returned (.agg #[.int .i64 (QpT a b),.int .u64 (QpL b)])/\Below w.heap.size w w':=by
 have HN:=Qug a b hb;have ab:U64 (18446744073709551615 - b):=by unfold U64 at *; omega
 have e1:=Qt5 a ha;have e2:=Qu2 b hb;have h1:U64 1:=by unfold U64;omega
 have HC:∀ w,Calls prog 120 #[.agg #[.int .i64 (bits .xor .i64 (-1) a),.int .u64 (bits .xor .u64 IntKind.u64.max b)],.agg #[.int .i64 0,.int .u64 1]] w fun e w'=>e=.returned (.agg #[.int .i64 (QpT a b),.int .u64 (QpL b)])/\Below w.heap.size w w':=by
  intro w;rw [e1,e2,<- HN.1,<- HN.2];exact Qbs _ _ _ _ w ab h1
 clear HN e1 e2 ha hb ab h1;go_enter func117,ntmps117;go_wp2_with (go_at_call 120;refine (HC _).mono ?_;rintro e w1 ⟨rfl,aa⟩;have p0:=Qab (a:=⟨w.heap.size+1,0,none⟩) (v:=.int .i64 0) aa (by simp);have p1:=Qab (a:=⟨w.heap.size+1,1,none⟩) (v:=.int .u64 0) aa (by simp);have f0:=aa.frozen (p:=⟨w.heap.size+1,0,none⟩) (by simp);have f1:=aa.frozen (p:=⟨w.heap.size+1,1,none⟩) (by simp));refine bodyPost_ret (v:=.agg #[.int .i64 (QpT a b),.int .u64 (QpL b)]) (by simp [results,results117,go_sem,p0,p1]) rfl ⟨rfl,?_⟩;exact (((((Below.refl _ _).alloc (Nat.le_refl _) _).alloc (by simp) _).trans (aa.mono (by simp;omega))).setCell (by dsimp only;omega) _).setCell (by dsimp only;omega) _
theorem Qd8 (n y:Int) (hn:I64 n) (hy:U64 y) (w:World) :
  Calls prog 168 #[.int .i64 n,.int .u64 y] w fun e w'=>e=.returned (.agg #[.int .i64 (thH n y),.int .u64 (thL n y)])/\Below w.heap.size w w':=by
 by_cases h:n<0
 ·have hm:U64 (-n):=by unfold I64 at hn;unfold U64;omega
  have e1:IntKind.u64.wrap (-IntKind.u64.wrap n)=-n:=by simp only [IntKind.wrap_u64];unfold I64 at hn;omega
  have HC:Hid (∀ w,Calls prog 235 #[.int .u64 (-n),.int .u64 y] w fun e w'=>e=.returned (.tuple #[.int .u64 (QpV (-n) y),.int .u64 (uw (-n*y))])/\w'=w):=fun w=>QlS _ _ hm hy w;have HE:=Qq0 n y
  have HD:Hid (∀ w,Calls prog 117 #[.agg #[.int .i64 (wrap64 (QpV (-n) y)),.int .u64 (uw (-n*y))]] w fun e w'=>e=.returned (.agg #[.int .i64 (thH n y),.int .u64 (thL n y)])/\Below w.heap.size w w'):=by
   rw [<- HE.1,<- HE.2];exact fun w=>QgY _ _ (Qir _) (Qi4 _) w
  clear hn hy hm HE;go_enter func168,ntmps168
  go_wp2_with (first
   | (go_at_call 235;refine (HC.out _).mono ?_;rintro e w1 ⟨rfl,rfl⟩)
   | (go_at_call 117;refine (HD.out _).mono ?_;rintro e w1 ⟨rfl,aa⟩;have p0:=Qab (a:=⟨w.heap.size+1,0,none⟩) (v:=.int .i64 (wrap64 (QpV (-n) y))) aa (by simp);have p1:=Qab (a:=⟨w.heap.size+1,1,none⟩) (v:=.int .u64 (uw (-n*y))) aa (by simp);have f0:=aa.frozen (p:=⟨w.heap.size+1,0,none⟩) (by simp);have f1:=aa.frozen (p:=⟨w.heap.size+1,1,none⟩) (by simp);have r0:=Qab (a:=⟨w.heap.size,0,none⟩) (v:=.int .i64 0) aa (by simp);have r1:=Qab (a:=⟨w.heap.size,1,none⟩) (v:=.int .u64 0) aa (by simp);have g0:=QfN (a:=⟨w.heap.size,0,none⟩) (v:=.int .i64 0) aa (by simp);have g1:=QfN (a:=⟨w.heap.size,1,none⟩) (v:=.int .u64 0) aa (by simp)))
  refine bodyPost_ret (v:=.agg #[.int .i64 (thH n y),.int .u64 (thL n y)]) (by simp [results,results168,go_sem,r0,r1]) rfl ⟨rfl,?_⟩;exact (((((((Below.refl _ _).alloc (Nat.le_refl _) _).alloc (by simp) _).trans (aa.mono (by simp;omega))).setCell (by dsimp only;omega) _).setCell (by dsimp only;omega) _).setCell (by dsimp only;omega) _).setCell (by dsimp only;omega) _
 ·have e1:IntKind.u64.wrap n=n:=by rw [IntKind.wrap_u64];unfold I64 at hn;omega
  have hm:U64 n:=by unfold I64 at hn;unfold U64;omega
  have HC:Hid (∀ w,Calls prog 235 #[.int .u64 n,.int .u64 y] w fun e w'=>e=.returned (.tuple #[.int .u64 (QpV n y),.int .u64 (uw (n*y))])/\w'=w):=fun w=>QlS _ _ hm hy w;clear hn hy hm;go_enter func168,ntmps168;go_wp2_with (go_at_call 235;refine (HC.out _).mono ?_;rintro e w1 ⟨rfl,rfl⟩);exact bodyPost_ret (v:=.agg #[.int .i64 (wrap64 (QpV n y)),.int .u64 (uw (n*y))]) (by simp [results,results168,go_sem]) rfl ⟨QhJ rfl rfl,((Below.refl _ _).alloc (Nat.le_refl _) _).alloc (by simp) _⟩
end
section
def QmX (z v wt:Int):Int:=if v=0 then QaD z wt else z
end
section
def Qee (P:List Bn) (v wt:Int):List Bn:=if 0<v then Qaq (mrg P [(Qc7 v,wt)]) else P
def Qeb (N:List Bn) (v wt:Int):List Bn:=if v<0 then Qaq (mrg N [(Qc7 (-v),wt)]) else N
theorem Qlp (w:World) (t:TypeId) (a u:Int):QaJ (w.alloc (.cells #[.int .i64 a,.int .u64 u] t)) (some ⟨w.heap.size,0,none⟩) [(a,u)]:=fun _=>⟨w.heap.size,0,rfl,fun i x hx=>by
 obtain ⟨rfl,rfl⟩:i=0/\x=(a,u):=by
  cases i with
  | zero=>exact ⟨rfl,by simpa using hx.symm⟩
  | succ j=>simp at hx
 exact bc_new w t a u⟩
theorem QmU {z h l vv wt:Int} {pa na:Option Addr} {pn pc nn nc:Nat} (hz:U64 z) (hl0:U64 l) (hvv:I64 vv) (hwt:U64 wt) (hp:P.length=pn) (hn:N.length=nn) (lp:pn<=30) (ln:nn<=30) (hP:QaJ w pa P) (hN:QaJ w na N) (kP:∀ x∈P,Qbw x) (kN:∀ x∈N,Qbw x) (hv9:-999999999999999999<=vv/\vv<=999999999999999999) (cA:pa=none->pc=0) (cA':na=none->nc=0) :
  Calls prog 169 #[.agg #[.int .u64 z,.slice pa pn pc,.slice na nn nc,.int .i64 h,.int .u64 l],.int .i64 vv,.int .u64 wt] w fun e w'=>∃ v,e=.returned v/\QoG w' w.heap.size v (QmX z vv wt) (Qee P vv wt) (Qeb N vv wt) (Qbg h l (thH vv wt) (thL vv wt)) (Qbl l (thL vv wt))/\Below w.heap.size w w':=by
 have HP:=Qaa hP;have HN:=Qaa hN;have KP:=Qaa kP;have KN:=Qaa kN;have CA:=Qaa cA;have be:=Qaa cA';clear hP hN kP kN cA cA';go_enter func169,ntmps169;go_wp2_with fail;generalize hW0:(w.alloc (Obj.cells #[.int .u64 z,.slice pa pn pc,.slice na nn nc,.int .i64 h,.int .u64 l] 84)).alloc (Obj.cells Qbm 84)=W0;have T0:Below w.heap.size w W0:=by rw [<- hW0];exact ((Below.refl _ _).alloc (Nat.le_refl _) _).alloc (by simp) _
 have K0:Qcg W0 w.heap.size z (.slice pa pn pc) (.slice na nn nc) h l:=by rw [<- hW0];exact Qca (Qg1 w _ _ _ _ _ _) ((ZZb _ _).alloc (ZZa _) _)
 have R0:W0.heap[w.heap.size+1]?=some (.cells Qbm 84 (0,0)):=by rw [<- hW0];simpa using heap_alloc_new (w.alloc (Obj.cells #[.int .u64 z,.slice pa pn pc,.slice na nn nc,.int .i64 h,.int .u64 l] 84)) (Obj.cells Qbm 84)
 have bj:W0.heap.size=w.heap.size+2:=by rw [<- hW0];simp
 clear hW0;have aV:=Qaa T0;clear T0;refine (Qgi hp hn (by omega) (by omega) (Qak HP aV) (Qak HN aV) CA be).mono ?_;rintro e w1 ⟨v1,rfl,⟨p1,n1,m1,m2,rfl,aO,aW,a3⟩,aE⟩;obtain ⟨ag,c1,rfl⟩:=aO.any;obtain ⟨af,c2,rfl⟩:=aW.any;have a4:=Qaa (Qac aV aE);have K1:=Qca K0 aE;have R1:w1.heap[w.heap.size+1]?=some (.cells Qbm 84 (0,0)):=by rw [aE.block _ (by omega)];exact R0
 have bd:w.heap.size+2<=w1.heap.size:=by have:=aE.size;omega
 have au:=Qaa (aO.le (B':=w.heap.size) (by omega));have av:=Qaa (aW.le (B':=w.heap.size) (by omega));have bi:=Qaa a3;clear aE aO aW a3 K0 R0;go_wp2_with fail;generalize hW4:w1.alloc (Obj.cells #[.int .u64 z,.slice ag m1 c1,.slice af m2 c2,.int .i64 h,.int .u64 l] 84)=w4;have ax:Below w1.heap.size w1 w4:=by rw [<- hW4];exact (ZZb _ _).alloc (ZZa _) _
 have S4:w4.heap[w1.heap.size]?=some (.cells #[.int .u64 z,.slice ag m1 c1,.slice af m2 c2,.int .i64 h,.int .u64 l] 84 (0,0)):=by rw [<- hW4];exact ZZk w1 _
 clear hW4;obtain ⟨sg,a2⟩:∃ sg,sg=w1.heap.size:=⟨_,rfl⟩;rw [<- a2] at S4 ⊢;have bl:w.heap.size+2<=sg:=by omega
 have aX:sg<w4.heap.size:=(ZZc.1 S4).1;have ba:=Qaa (Qac a4 ax);have K4:=Qca K1 ax;have R4:w4.heap[w.heap.size+1]?=some (.cells Qbm 84 (0,0)):=by rw [ax.block _ (by omega)];exact R1
 have aF:=Qaa (au.out.past ax);have aI:=Qaa (av.out.past ax);have a5:∀ W,Below w4.heap.size w4 W->Qcg W w.heap.size z (.slice pa pn pc) (.slice na nn nc) h l/\W.heap[w.heap.size+1]?=some (.cells Qbm 84 (0,0))/\W.heap[sg]?=some (.cells #[.int .u64 z,.slice ag m1 c1,.slice af m2 c2,.int .i64 h,.int .u64 l] 84 (0,0)):=fun W hW=>⟨Qca K4 hW,by rw [hW.block _ (by omega)];exact R4,by rw [hW.block _ aX];exact S4⟩;have ar:=Qaa a5;clear a5 au av ax S4 R4 K4 K1 R1 a2 bd a4;have ab:(fun W=>Below w4.heap.size w4 W) w4.drew:=(ZZb _ _).drew;refine Qao (fun W=>Below w4.heap.size w4 W) 7 (by kernel_rfl) ?_;refine tkL 0 (.pointer (some ⟨w.heap.size,3,none⟩)) ab (fun W hW=>?_) ?_
 ·obtain ⟨⟨x0,x1,x2,x3,x4⟩,x5,x6⟩:=ar.out W hW
  go_simp
 refine tkL 1 (.agg #[.int .i64 h,.int .u64 l]) ab (fun W hW=>?_) ?_
 ·obtain ⟨⟨x0,x1,x2,x3,x4⟩,x5,x6⟩:=ar.out W hW
  go_simp
 refine tkL 2 (.int .i64 vv) ab (fun W hW=>?_) ?_
 ·obtain ⟨⟨x0,x1,x2,x3,x4⟩,x5,x6⟩:=ar.out W hW
  go_simp
 simp only [sX];refine tkL 3 (.int .u64 wt) ab (fun W hW=>?_) ?_
 ·obtain ⟨⟨x0,x1,x2,x3,x4⟩,x5,x6⟩:=ar.out W hW
  go_simp
 simp only [sX];refine onE 4 fun K hK=>?_;go_simp;refine (Qd8 _ _ hvv hwt _).mono ?_;rintro e w5 ⟨rfl,ap⟩;dsimp only;have aa:=Qaa ((ab:Below w4.heap.size w4 w4.drew).trans ap);clear ap;refine gK hK aa.out ?_
 try simp only [sX]
 refine onE 5 fun K hK=>?_;go_simp;refine (Qbs _ _ _ _ _ hl0 (show U64 (thL vv wt) from Qi4 _)).mono ?_;rintro e w6 ⟨rfl,a6⟩;dsimp only;have al:=Qaa (Qac aa a6);clear a6;refine gK hK al.out ?_
 try simp only [sX]
 refine onE 6 fun K hK=>?_;go_simp;refine gK hK al.out ?_
 try simp only [sX]
 have R6:=(ar.out _ al).2.2;obtain ⟨y0,y1,y2,y3,y4⟩:=Qem R6;have bg:=fzR 3 R6;have bk:=fzR 4 R6;refine onE 7 fun K hK=>?_;go_simp;refine hK.out _ _ (fun h=>absurd rfl h) ?_
 try simp only [sX]
 refine dnE ?_ _;obtain ⟨H7,aR⟩:∃ H,Qbg h l (thH vv wt) (thL vv wt)=H:=⟨_,rfl⟩;obtain ⟨L7,aT⟩:∃ H,Qbl l (thL vv wt)=H:=⟨_,rfl⟩;have aN:=Qaa aR;have a0:=Qaa aT;rw [aR,aT];clear aR aT;generalize hw3:(w6.setCell ⟨sg,3,none⟩ (.int .i64 H7)).setCell ⟨sg,4,none⟩ (.int .u64 L7)=w3
 have S3:w3.heap[sg]?=some (.cells #[.int .u64 z,.slice ag m1 c1,.slice af m2 c2,.int .i64 H7,.int .u64 L7] 84 (0,0)):=by
  rw [<- hw3];exact ZZl _ sg 4 _ _ _ (ZZl w6 sg 3 _ _ _ R6)
 have aC:w6.grownBy w3 (some sg):=by rw [<- hw3];exact (Qal _ _ _ _).trans (Qal _ _ _ _)
 have aU:∀ j,j<w6.heap.size->j≠sg->w3.heap[j]?=w6.heap[j]?:=fun j hj hne=>aC.block j hj (fun e=>hne (Option.some.inj e));obtain ⟨K6,Q6,_⟩:=ar.out _ al;have aQ:=al.out.size;have R3:w3.heap[w.heap.size+1]?=some (.cells Qbm 84 (0,0)):=by rw [aU _ (by omega) (by omega)];exact Q6
 have K3:Qcg w3 w.heap.size z (.slice pa pn pc) (.slice na nn nc) h l:=by
  have aJ:∀ j,w3.cell? ⟨w.heap.size,j,none⟩=w6.cell? ⟨w.heap.size,j,none⟩:=fun j=>World.cell?_of_block (w:=w6) (aU w.heap.size (by omega) (by omega));exact ⟨by rw [aJ];exact K6.1,by rw [aJ];exact K6.2.1,by rw [aJ];exact K6.2.2.1,by rw [aJ];exact K6.2.2.2.1,by rw [aJ];exact K6.2.2.2.2⟩
 have aw:=Qaa ((Qac ba al).grown aC (Qac ba al).size (fun k e=>by cases e;omega));have bf:sg<w3.heap.size:=(ZZc.1 S3).1;have o1:=aF.out.past al;have o2:=aI.out.past al;have au:=Qaa (o1.kept aC (.inr (o1.ne R6 (by decide))));have av:=Qaa (o2.kept aC (.inr (o2.ne R6 (by decide))));have hC:∀ W,Below w3.heap.size w3 W->Qcg W w.heap.size z (.slice pa pn pc) (.slice na nn nc) h l/\W.heap[w.heap.size+1]?=some (.cells Qbm 84 (0,0))/\W.heap[sg]?=some (.cells #[.int .u64 z,.slice ag m1 c1,.slice af m2 c2,.int .i64 H7,.int .u64 L7] 84 (0,0)):=fun W hW=>⟨Qca K3 hW,by rw [hW.block _ (by omega)];exact R3,by rw [hW.block _ bf];exact S3⟩;have HC:=Qaa hC;have aY:=Qaa S3;have bm:=fzR 0 S3;obtain ⟨g0,g1,g2,g3,g4⟩:=Qem S3
 have aG:∀ (w9:World) (Z:Int) (p n:Value) (a b:Nat) (P9 N9:List Bn),w3.grownBy w9 (some sg)->w9.heap[sg]?=some (.cells #[.int .u64 Z,p,n,.int .i64 H7,.int .u64 L7] 84 (0,0))->OwnB w9 w.heap.size p a P9->OwnB w9 w.heap.size n b N9->Qgc p n ->
   QoG (((((w9.setCell ⟨w.heap.size+1,0,none⟩ (.int .u64 Z)).setCell ⟨w.heap.size+1,1,none⟩ p).setCell ⟨w.heap.size+1,2,none⟩ n).setCell ⟨w.heap.size+1,3,none⟩ (.int .i64 H7)).setCell ⟨w.heap.size+1,4,none⟩ (.int .u64 L7)) w.heap.size (.agg #[.int .u64 Z,p,n,.int .i64 H7,.int .u64 L7]) Z P9 N9 H7 L7 /\
   Below w.heap.size w (((((w9.setCell ⟨w.heap.size+1,0,none⟩ (.int .u64 Z)).setCell ⟨w.heap.size+1,1,none⟩ p).setCell ⟨w.heap.size+1,2,none⟩ n).setCell ⟨w.heap.size+1,3,none⟩ (.int .i64 H7)).setCell ⟨w.heap.size+1,4,none⟩ (.int .u64 L7))/\w9.heap[w.heap.size+1]?=some (.cells Qbm 84 (0,0)):=fun w9 Z p n a b P9 N9 hg hr hp9 hn9 ac=>by
  have hR:w9.heap[w.heap.size+1]?=some (.cells Qbm 84 (0,0)):=by rw [hg.block _ (by omega) (fun e=>by have:=Option.some.inj e;omega)];exact R3
  have q1:=hp9.ne hR (by decide);have q2:=hn9.ne hR (by decide);refine ⟨⟨p,n,a,b,rfl,((((hp9.set q1 _).set q1 _).set q1 _).set q1 _).set q1 _,((((hn9.set q2 _).set q2 _).set q2 _).set q2 _).set q2 _,ac⟩,?_,hR⟩
  repeat (refine Below.setCell ?_ (by simp <;> omega) _)
  exact aw.out.grown hg aw.out.size (fun k e=>by cases e;omega)
 have aq:=Qaa aG;clear aG hC o1 o2 hw3 aC aU K6 Q6 aQ S3 R6 y0 y1 y2 y3 y4 bg bk ar aF aI;have c3:vv=0∨0<vv∨vv<0:=by omega
 rcases c3 with aP | bh | bc
 ·have aB:Hid (QmX z vv wt=QaD z wt):=if_pos aP
  have aS:Hid (Qee P vv wt=P):=if_neg (by omega);have aM:Hid (Qeb N vv wt=N):=if_neg (by omega);have d0:(vv == 0)=true:=beq_iff_eq.2 aP;have d1:decide (0<vv)=false:=ZZg (by omega);have d2:decide (vv<0)=false:=ZZg (by omega);clear aP;obtain ⟨w9,ad⟩:∃ W,w3.setCell ⟨sg,0,none⟩ (.int .u64 (QaD z wt))=W:=⟨_,rfl⟩;have an:w3.grownBy w9 (some sg):=by rw [<- ad];exact Qal _ _ _ _
  have aj:w9.heap[sg]?=some (.cells #[.int .u64 (QaD z wt),.slice ag m1 c1,.slice af m2 c2,.int .i64 H7,.int .u64 L7] 84 (0,0)):=by rw [<- ad];exact ZZl w3 sg 0 _ _ _ aY
  have ao:OwnB w9 w.heap.size (.slice ag m1 c1) m1 P:=by rw [<- ad];exact au.out.set (au.out.ne aY.out (by decide)) _
  have am:OwnB w9 w.heap.size (.slice af m2 c2) m2 N:=by rw [<- ad];exact av.out.set (av.out.ne aY.out (by decide)) _
  have ac:=bi.out;obtain ⟨k0,k1,k2,k3,k4⟩:=K3;obtain ⟨F1,F2,R9⟩:=aq.out w9 (QaD z wt) (.slice ag m1 c1) (.slice af m2 c2) m1 m2 _ _ an aj ao am ac;obtain ⟨u0,u1,u2,u3,u4⟩:=Qem aj;obtain ⟨q0,q1,q2,q3,q4⟩:=Qem R9;obtain ⟨a9,bb,a7,a1,a8⟩:=fA5 R9;have aK:=Qaa F1;have ay:=Qaa F2;clear F1 F2 R9 aj an ao am ac;go_wp2_with (go_at_call 119;refine (Qax _ _ hz hwt _).mono ?_;rintro e w8 ⟨rfl,hw⟩;obtain rfl:=hw.symm);refine bodyPost_ret (v:=.agg #[.int .u64 (QaD z wt),.slice ag m1 c1,.slice af m2 c2,.int .i64 H7,.int .u64 L7]) (by simp [results,results169,go_sem,q0,q1,q2,q3,q4]) rfl ⟨_,rfl,?_,ay⟩;rw [aN.out,a0.out,aB.out,aS.out,aM.out];exact aK.out
 ·have aB:Hid (QmX z vv wt=z):=if_neg (by omega)
  have aM:Hid (Qeb N vv wt=N):=if_neg (by omega);have aL:=Qaa bh;have d0:(vv == 0)=false:=ZZf.2 (by omega);go_wp2_with fail;have ab:(fun W=>Below w3.heap.size w3 W) w3.drew:=(ZZb _ _).drew;refine Qao (fun W=>Below w3.heap.size w3 W) 9 (by kernel_rfl) ?_;refine tkL 0 (.pointer (some ⟨w.heap.size,1,none⟩)) ab (fun W hW=>?_) ?_
  ·obtain ⟨⟨x0,x1,x2,x3,x4⟩,x5,x6⟩:=HC.out W hW
   go_simp
  refine tkL 1 (.slice pa pn pc) ab (fun W hW=>?_) ?_
  ·obtain ⟨⟨x0,x1,x2,x3,x4⟩,x5,x6⟩:=HC.out W hW
   go_simp
  refine tkL 2 (.int .i64 vv) ab (fun W hW=>?_) ?_
  ·obtain ⟨⟨x0,x1,x2,x3,x4⟩,x5,x6⟩:=HC.out W hW
   go_simp
  simp only [sX];refine tkL 4 (.int .u64 wt) ab (fun W hW=>?_) ?_
  ·obtain ⟨⟨x0,x1,x2,x3,x4⟩,x5,x6⟩:=HC.out W hW
   go_simp
  simp only [sX];refine onE 3 fun K hK=>?_;go_simp;refine (QbP _ _ (by unfold I64;omega)).mono ?_;rintro e w4 ⟨rfl,rfl⟩;dsimp only;refine gK hK ab ?_
  try simp only [sX]
  refine tkS 5 (.agg #[.int .i64 (Qc7 vv),.int .u64 wt]) ab ?_;simp only [sX];refine onE 6 fun K hK=>?_;go_simp;have aA:Below w3.heap.size w3 (w3.drew.alloc (.cells #[.int .i64 (Qc7 vv),.int .u64 wt] 176)):=ab.alloc (ZZa _) _;have ai:=Qaa aA;clear aA;refine gK hK ai.out ?_
  try simp only [sX]
  refine onE 7 fun K hK=>?_;go_simp;refine (Qb4 _ _ _ _ hp (by rfl) lp (by omega) (Qak HP (Qac aw ai)) (Qlp _ _ _ _) KP (fun x hx=>by obtain rfl:x=(Qc7 vv,wt):=(by simpa using hx);exact ⟨by have:=QhK vv;unfold I64;omega,hwt⟩)).mono ?_;rintro e w5 ⟨v5,n5,rfl,aH,az,ap⟩;have ak:=OwnB.of aH az;clear aH az;dsimp only;have aa:=Qaa (Qac ai ap);have aD:=Qaa (ak.le (B':=w.heap.size) (by have:=aw.out.size;have:=ai.out.size;omega));have aZ:=Qaa (fun q (h:Value.ownBlock v5=some q)=>(show w3.heap.size<=q from Nat.le_trans ai.out.size (ak.lt q h).1));obtain ⟨ae,c5,rfl⟩:=ak.any;clear ak ap;refine gK hK aa.out ?_
  try simp only [sX]
  refine onE 8 fun K hK=>?_;go_simp;refine gK hK aa.out ?_
  try simp only [sX]
  have R5:=(HC.out _ aa).2.2;obtain ⟨q0,q1,q2,q3,q4⟩:=Qem R5;have f1:=fzR 1 R5;refine onE 9 fun K hK=>?_;go_simp;refine hK.out _ _ (fun h=>absurd rfl h) ?_
  try simp only [sX]
  refine dnE ?_ _;generalize ad:w5.setCell ⟨sg,1,none⟩ (.slice ae n5 c5)=w9;have an:w3.grownBy w9 (some sg):=by rw [<- ad];exact World.grownBy.trans ⟨aa.out.os,aa.out.tape,aa.out.output,aa.out.size,fun k hk _=>aa.out.block k hk⟩ (Qal _ _ _ _)
  have aj:w9.heap[sg]?=some (.cells #[.int .u64 z,.slice ae n5 c5,.slice af m2 c2,.int .i64 H7,.int .u64 L7] 84 (0,0)):=by rw [<- ad];exact ZZl w5 sg 1 _ _ _ R5
  have ah:Value.ownBlock (.slice ae n5 c5)≠some sg:=aD.out.ne R5 (by decide)
  have ao:OwnB w9 w.heap.size (.slice ae n5 c5) n5 (Qee P vv wt):=by
   rw [<- ad,Qee,if_pos aL.out];exact aD.out.set ah _
  have am:OwnB w9 w.heap.size (.slice af m2 c2) m2 N:=by
   rw [<- ad];have h5:=av.out.past aa;exact h5.set (h5.ne R5 (by decide)) _
  have ac:Qgc (.slice ae n5 c5) (.slice af m2 c2):=fun k e1 e2=>by
   have h1:=aZ.out k e1;have h2:=(av.out.lt k e2).2;omega
  have d2:decide (vv<0)=false:=ZZg (by have:=aL.out;omega);clear ad ah R5 q0 q1 q2 q3 q4 f1;obtain ⟨F1,F2,R9⟩:=aq.out w9 z (.slice ae n5 c5) (.slice af m2 c2) n5 m2 _ _ an aj ao am ac;obtain ⟨u0,u1,u2,u3,u4⟩:=Qem aj;obtain ⟨q0,q1,q2,q3,q4⟩:=Qem R9;obtain ⟨a9,bb,a7,a1,a8⟩:=fA5 R9;have aK:=Qaa F1;have ay:=Qaa F2;clear F1 F2 R9 aj an ao am ac;go_wp2;refine bodyPost_ret (v:=.agg #[.int .u64 z,.slice ae n5 c5,.slice af m2 c2,.int .i64 H7,.int .u64 L7]) (by simp [results,results169,go_sem,q0,q1,q2,q3,q4]) rfl ⟨_,rfl,?_,ay⟩;rw [aN.out,a0.out,aB.out,aM.out];exact aK.out
 ·have aB:Hid (QmX z vv wt=z):=if_neg (by omega)
  have aS:Hid (Qee P vv wt=P):=if_neg (by omega);have aL:=Qaa bc;have d0:(vv == 0)=false:=ZZf.2 (by omega);have d1:decide (0<vv)=false:=ZZg (by omega);have dm:IntKind.i64.wrap (-vv)=-vv:=by rw [IntKind.wrap_i64];omega
  go_wp2_with fail;have ab:(fun W=>Below w3.heap.size w3 W) w3.drew:=(ZZb _ _).drew;refine Qao (fun W=>Below w3.heap.size w3 W) 10 (by kernel_rfl) ?_;refine tkL 0 (.pointer (some ⟨w.heap.size,2,none⟩)) ab (fun W hW=>?_) ?_
  ·obtain ⟨⟨x0,x1,x2,x3,x4⟩,x5,x6⟩:=HC.out W hW
   go_simp
  refine tkL 1 (.slice na nn nc) ab (fun W hW=>?_) ?_
  ·obtain ⟨⟨x0,x1,x2,x3,x4⟩,x5,x6⟩:=HC.out W hW
   go_simp
  refine tkL 2 (.int .i64 vv) ab (fun W hW=>?_) ?_
  ·obtain ⟨⟨x0,x1,x2,x3,x4⟩,x5,x6⟩:=HC.out W hW
   go_simp
  simp only [sX];refine tkL 3 (.int .i64 (-vv)) ab (fun W hW=>?_) ?_
  ·obtain ⟨⟨x0,x1,x2,x3,x4⟩,x5,x6⟩:=HC.out W hW
   go_simp
  refine tkL 5 (.int .u64 wt) ab (fun W hW=>?_) ?_
  ·obtain ⟨⟨x0,x1,x2,x3,x4⟩,x5,x6⟩:=HC.out W hW
   go_simp
  simp only [sX];refine onE 4 fun K hK=>?_;go_simp;refine (QbP _ _ (by unfold I64;omega)).mono ?_;rintro e w4 ⟨rfl,rfl⟩;dsimp only;refine gK hK ab ?_
  try simp only [sX]
  refine tkS 6 (.agg #[.int .i64 (Qc7 (-vv)),.int .u64 wt]) ab ?_;simp only [sX];refine onE 7 fun K hK=>?_;go_simp;have aA:Below w3.heap.size w3 (w3.drew.alloc (.cells #[.int .i64 (Qc7 (-vv)),.int .u64 wt] 176)):=ab.alloc (ZZa _) _;have ai:=Qaa aA;clear aA;refine gK hK ai.out ?_
  try simp only [sX]
  refine onE 8 fun K hK=>?_;go_simp;refine (Qb4 _ _ _ _ hn (by rfl) ln (by omega) (Qak HN (Qac aw ai)) (Qlp _ _ _ _) KN (fun x hx=>by obtain rfl:x=(Qc7 (-vv),wt):=(by simpa using hx);exact ⟨by have:=QhK (-vv);unfold I64;omega,hwt⟩)).mono ?_;rintro e w5 ⟨v5,n5,rfl,aH,az,ap⟩;have ak:=OwnB.of aH az;clear aH az;dsimp only;have aa:=Qaa (Qac ai ap);have aD:=Qaa (ak.le (B':=w.heap.size) (by have:=aw.out.size;have:=ai.out.size;omega));have aZ:=Qaa (fun q (h:Value.ownBlock v5=some q)=>(show w3.heap.size<=q from Nat.le_trans ai.out.size (ak.lt q h).1));obtain ⟨ae,c5,rfl⟩:=ak.any;clear ak ap;refine gK hK aa.out ?_
  try simp only [sX]
  refine onE 9 fun K hK=>?_;go_simp;refine gK hK aa.out ?_
  try simp only [sX]
  have R5:=(HC.out _ aa).2.2;obtain ⟨q0,q1,q2,q3,q4⟩:=Qem R5;have f1:=fzR 2 R5;refine onE 10 fun K hK=>?_;go_simp;refine hK.out _ _ (fun h=>absurd rfl h) ?_
  try simp only [sX]
  refine dnE ?_ _;generalize ad:w5.setCell ⟨sg,2,none⟩ (.slice ae n5 c5)=w9;have an:w3.grownBy w9 (some sg):=by rw [<- ad];exact World.grownBy.trans ⟨aa.out.os,aa.out.tape,aa.out.output,aa.out.size,fun k hk _=>aa.out.block k hk⟩ (Qal _ _ _ _)
  have aj:w9.heap[sg]?=some (.cells #[.int .u64 z,.slice ag m1 c1,.slice ae n5 c5,.int .i64 H7,.int .u64 L7] 84 (0,0)):=by rw [<- ad];exact ZZl w5 sg 2 _ _ _ R5
  have ah:Value.ownBlock (.slice ae n5 c5)≠some sg:=aD.out.ne R5 (by decide)
  have am:OwnB w9 w.heap.size (.slice ae n5 c5) n5 (Qeb N vv wt):=by
   rw [<- ad,Qeb,if_pos aL.out];exact aD.out.set ah _
  have ao:OwnB w9 w.heap.size (.slice ag m1 c1) m1 P:=by
   rw [<- ad];have h5:=au.out.past aa;exact h5.set (h5.ne R5 (by decide)) _
  have ac:Qgc (.slice ag m1 c1) (.slice ae n5 c5):=fun k e1 e2=>by
   have h1:=aZ.out k e2;have h2:=(au.out.lt k e1).2;omega
  clear ad ah R5 q0 q1 q2 q3 q4 f1;obtain ⟨F1,F2,R9⟩:=aq.out w9 z (.slice ag m1 c1) (.slice ae n5 c5) m1 n5 _ _ an aj ao am ac;obtain ⟨u0,u1,u2,u3,u4⟩:=Qem aj;obtain ⟨q0,q1,q2,q3,q4⟩:=Qem R9;obtain ⟨a9,bb,a7,a1,a8⟩:=fA5 R9;have aK:=Qaa F1;have ay:=Qaa F2;clear F1 F2 R9 aj an ao am ac;go_wp2;refine bodyPost_ret (v:=.agg #[.int .u64 z,.slice ag m1 c1,.slice ae n5 c5,.int .i64 H7,.int .u64 L7]) (by simp [results,results169,go_sem,q0,q1,q2,q3,q4]) rfl ⟨_,rfl,?_,ay⟩;rw [aN.out,a0.out,aB.out,aS.out];exact aK.out
end
section
def QqF (k:Int):Bool:=decide (1<=k) && decide (k<=4)
def valB (v:Int):Bool:=decide (-999999999999999999<=v) && decide (v<=999999999999999999)
def QrX (k v:Int) (wd:ByteArray):Bool:=if k=4 then decide (v=0) && QbG wd else valB v && decide (wd.size=0)
def QfI (k wt:Int):Bool:=decide (wt=1) || (decide (k=1) || decide (k=3)) && decide (0<wt) && decide (wt<=1000000)
def QmP (tm:Bool) (ti:Int):Bool:=if tm=true then decide (0<=ti) && decide (ti<=1000000000) else decide (ti=0)
end
section
variable {w0 w:World} {g:Nat} {k:Int} {se:ByteArray} {v:Int} {wd:ByteArray} {wt:Int} {tm:Bool} {ti:Int} {T:TypeId}
noncomputable def Qlt (k:Int) (se:ByteArray) (v:Int) (wd:ByteArray) (wt:Int) (tm:Bool) (ti:Int):Bool:=QqF k && Qby se && QrX k v wd && QfI k wt && QmP tm ti
end
section
structure Sx where
 k:Int
 se:ByteArray
 v:Int
 wd:ByteArray
 wt:Int
 tm:Bool
 ti:Int
noncomputable def Sx.B (x:Sx):Bool:=Qlt x.k x.se x.v x.wd x.wt x.tm x.ti
structure Sx.Ok (x:Sx):Prop where
 k:I64 x.k
 v:I64 x.v
 wt:U64 x.wt
 ti:I64 x.ti
 se:x.se.size<=maxLen
 wd:x.wd.size<=maxLen
abbrev QcA (x:Sx):Array Value:=#[.int .i64 x.k,.string x.se,.int .i64 x.v,.string x.wd,.int .u64 x.wt,.bool x.tm,.int .i64 x.ti]
end
end Go.Proofs.YtdbaabbmcfnjbaaGreatDoor
