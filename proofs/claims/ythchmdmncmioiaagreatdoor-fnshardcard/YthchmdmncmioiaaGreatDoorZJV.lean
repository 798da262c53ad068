/-
 Plain facts on products of 64 bits, on the complement and on the negative of a wide number. Of no program.
-/
import Derived.Laws.MathBits
import Derived.DataShut
import Derived.Test.YthchmdmncmioiaaGreatDoorZJT
set_option maxHeartbeats 4000000
namespace Go.Proofs.YthchmdmncmioiaaGreatDoor
open Go.RowKit
def Qia (x y:Int):Int:=x*y / 18446744073709551616
theorem Qkh (x y:Int) (hx:U64 x) (hy:U64 y):IntKind.u64.wrap (IntKind.u64.wrap (IntKind.u64.wrap (x / 4294967296*(y / 4294967296))+IntKind.u64.wrap (IntKind.u64.wrap (x / 4294967296*bits BinOp.and IntKind.u64 y 4294967295)+IntKind.u64.wrap (bits BinOp.and IntKind.u64 x 4294967295*bits BinOp.and IntKind.u64 y 4294967295) / 4294967296) / 4294967296)+IntKind.u64.wrap (bits BinOp.and IntKind.u64 (IntKind.u64.wrap (IntKind.u64.wrap (x / 4294967296*bits BinOp.and IntKind.u64 y 4294967295)+IntKind.u64.wrap (bits BinOp.and IntKind.u64 x 4294967295*bits BinOp.and IntKind.u64 y 4294967295) / 4294967296)) 4294967295+IntKind.u64.wrap (bits BinOp.and IntKind.u64 x 4294967295*(y / 4294967296))) / 4294967296)=Qia x y:=by
 unfold U64 at hx hy;simp only [IntKind.wrap_u64,and_low32 x hx.1 (by omega),and_low32 y hy.1 (by omega)];rw [and_low32 _ (by omega) (by omega)];exact mul64_arith x y hx.1 (by omega) hy.1 (by omega)
theorem QnN (x y:Int) (hx:U64 x) (hy:U64 y):IntKind.u64.wrap (IntKind.u64.wrap (IntKind.u64.wrap (x / 4294967296*(y / 4294967296))+IntKind.u64.wrap (IntKind.u64.wrap (x / 4294967296*bits BinOp.and IntKind.u64 y 4294967295)+IntKind.u64.wrap (bits BinOp.and IntKind.u64 x 4294967295*bits BinOp.and IntKind.u64 y 4294967295) / 4294967296) / 4294967296)+IntKind.u64.wrap (IntKind.u64.wrap (bits BinOp.and IntKind.u64 x 4294967295*(y / 4294967296))+bits BinOp.and IntKind.u64 (IntKind.u64.wrap (IntKind.u64.wrap (x / 4294967296*bits BinOp.and IntKind.u64 y 4294967295)+IntKind.u64.wrap (bits BinOp.and IntKind.u64 x 4294967295*bits BinOp.and IntKind.u64 y 4294967295) / 4294967296)) 4294967295) / 4294967296)=Qia x y:=by
 rw [Int.add_comm (IntKind.u64.wrap (bits BinOp.and IntKind.u64 x 4294967295*(y / 4294967296)))];exact Qkh x y hx hy
theorem QpT (a:Int) (ha:I64 a):bits .xor .i64 (-1) a=-1 - a:=by
 unfold I64 at ha
 show IntKind.i64.wrap ((BitVec.ofInt 64 (-1) ^^^ BitVec.ofInt 64 a).toNat:Int)=_
 have h1:BitVec.ofInt 64 (-1)=BitVec.allOnes 64:=by decide
 rw [h1,BitVec.allOnes_xor,BitVec.toNat_not,BitVec.toNat_ofInt];rw [IntKind.wrap_i64]
 have e:((a % ((2 ^ 64:Nat):Int)).toNat:Int)=a % 18446744073709551616:=by
  rw [Int.toNat_of_nonneg (Int.emod_nonneg _ (by decide))];rfl
 omega
theorem Qp9 (b:Int) (hb:U64 b):bits .xor .u64 IntKind.u64.max b=18446744073709551615 - b:=by
 unfold U64 at hb;rw [IntKind.max_u64]
 show IntKind.u64.wrap ((BitVec.ofInt 64 18446744073709551615 ^^^ BitVec.ofInt 64 b).toNat:Int)=_
 have h1:BitVec.ofInt 64 18446744073709551615=BitVec.allOnes 64:=by decide
 rw [h1,BitVec.allOnes_xor,BitVec.toNat_not,BitVec.toNat_ofInt];rw [IntKind.wrap_u64]
 have e:((b % ((2 ^ 64:Nat):Int)).toNat:Int)=b % 18446744073709551616:=by
  rw [Int.toNat_of_nonneg (Int.emod_nonneg _ (by decide))];rfl
 omega
def QpF (a b:Int):Int:=wrap64 (-a - (if b=0 then 0 else 1))
def Qqg (b:Int):Int:=uw (-b)
def thH (n w:Int):Int:=wrap64 (n*w / 18446744073709551616)
def thL (n w:Int):Int:=uw (n*w)
theorem Qqz (a b:Int) (hb:U64 b):Qbp (-1 - a) (18446744073709551615 - b) 0 1=QpF a b/\Qbu (18446744073709551615 - b) 1=Qqg b:=by
 unfold U64 at hb;unfold Qbp Qbu QpF Qqg Qhi uw wrap64;refine ⟨?_,by omega⟩;by_cases h:b=0
 ·subst h;simp;omega
 ·rw [if_neg h];omega
theorem th_neg (n y:Int) (hn:I64 n) (h:n<0):wrap64 (IntKind.u64.wrap (Qia (uw n) y - y))=thH n y/\uw (uw n*y)=thL n y:=by
 unfold I64 at hn;have e:uw n=n+18446744073709551616:=by unfold uw;omega
 have e2:uw n*y=n*y+18446744073709551616*y:=by rw [e];exact Int.add_mul _ _ _
 rw [IntKind.wrap_u64];unfold Qia thH thL;rw [e2];generalize n*y=p;unfold uw wrap64;refine ⟨by omega,by omega⟩
theorem th_pos (n y:Int) (hn:I64 n) (h:¬ n<0):wrap64 (Qia (uw n) y)=thH n y/\uw (uw n*y)=thL n y:=by
 unfold I64 at hn;have e:uw n=n:=by unfold uw;omega
 rw [e];exact ⟨rfl,rfl⟩
theorem Qog (n y:Int):QpF (wrap64 (Qia (-n) y)) (uw (-n*y))=thH n y/\Qqg (uw (-n*y))=thL n y:=by
 have e:-n*y=-(n*y):=Int.neg_mul _ _;unfold Qia thH thL;rw [e];generalize n*y=p;unfold QpF Qqg;refine ⟨?_,by unfold uw;omega⟩;by_cases k:uw (-p)=0
 ·rw [if_pos k];unfold uw at k;unfold wrap64;omega
 ·rw [if_neg k];unfold uw at k;unfold wrap64;omega
open Go.ChangeAt Go.ChangeShapes Go.WideShapes
theorem Qkl {a b c d:Int} (h:a=c) (k:b=d):Ending.returned (.tuple #[.int .u64 a,.int .u64 b])=.returned (.tuple #[.int .u64 c,.int .u64 d]):=by rw [h,k]
theorem QpU (x y:Int) (hx:U64 x) (hy:U64 y) (w:World) :
  Calls Tryz.prog 281 #[.int .u64 x,.int .u64 y] w fun e w'=>e=.returned (.tuple #[.int .u64 (Qia x y),.int .u64 (uw (x*y))])/\w'=w:=by
 have HF:Hid (_=_):=Qkh x y hx hy;have HG:Hid (IntKind.u64.wrap (x*y)=uw (x*y)):=IntKind.wrap_u64 _;clear hx hy;go_enter Tryz.func281,Tryz.ntmps281;go_wp2;go_ret2;exact ⟨Qkl HF.out HG.out,rfl⟩
theorem Qj8 (x y:Int) (hx:U64 x) (hy:U64 y) (w:World) :
  Calls Tryz.prog 176 #[.int .u64 x,.int .u64 y] w fun e w'=>e=.returned (.tuple #[.int .u64 (Qia x y),.int .u64 (uw (x*y))])/\w'=w:=by
 have HF:Hid (_=_):=QnN x y hx hy;have HG:Hid (IntKind.u64.wrap (x*y)=uw (x*y)):=IntKind.wrap_u64 _;clear hx hy;go_enter Tryz.func176,Tryz.ntmps176;go_wp2;go_ret2;exact ⟨Qkl HF.out HG.out,rfl⟩
theorem QlN (a b:Int) (ha:I64 a) (hb:U64 b) (w:World) :
  Calls Tryz.prog 177 #[.agg #[.int .i64 a,.int .u64 b]] w fun e w'=>e=.returned (.agg #[.int .i64 (QpF a b),.int .u64 (Qqg b)])/\Below w.heap.size w w':=by
 have HN:=Qqz a b hb;have hb':U64 (18446744073709551615 - b):=by unfold U64 at *; omega
 have e1:=QpT a ha;have e2:=Qp9 b hb;have h1:U64 1:=by unfold U64;omega
 have HC:∀ w,Calls Tryz.prog 133 #[.agg #[.int .i64 (bits .xor .i64 (-1) a),.int .u64 (bits .xor .u64 IntKind.u64.max b)],.agg #[.int .i64 0,.int .u64 1]] w fun e w'=>e=.returned (.agg #[.int .i64 (QpF a b),.int .u64 (Qqg b)])/\Below w.heap.size w w':=by
  intro w;rw [e1,e2,<- HN.1,<- HN.2];exact Qc4 _ _ _ _ w hb' h1
 clear HN e1 e2 ha hb hb' h1;go_enter Tryz.func177,Tryz.ntmps177;go_wp2_with (go_at_call 133;refine (HC _).mono ?_;rintro e w1 ⟨rfl,hb1⟩;have p0:=Qab (a:=⟨w.heap.size+1,0,none⟩) (v:=.int .i64 0) hb1 (by simp);have p1:=Qab (a:=⟨w.heap.size+1,1,none⟩) (v:=.int .u64 0) hb1 (by simp);have f0:=hb1.frozen (p:=⟨w.heap.size+1,0,none⟩) (by simp);have f1:=hb1.frozen (p:=⟨w.heap.size+1,1,none⟩) (by simp));refine bodyPost_ret (v:=.agg #[.int .i64 (QpF a b),.int .u64 (Qqg b)]) (by simp [results,Tryz.results177,go_sem,p0,p1]) rfl ⟨rfl,?_⟩;exact (((((Below.refl _ _).alloc (Nat.le_refl _) _).alloc (by simp) _).trans (hb1.mono (by simp;omega))).setCell (by dsimp only;omega) _).setCell (by dsimp only;omega) _
theorem Qb1 (n y:Int) (hn:I64 n) (hy:U64 y) (w:World) :
  Calls Tryz.prog 280 #[.int .i64 n,.int .u64 y] w fun e w'=>e=.returned (.agg #[.int .i64 (thH n y),.int .u64 (thL n y)])/\Below w.heap.size w w':=by
 have e1:IntKind.u64.wrap n=uw n:=IntKind.wrap_u64 n;have HC:Hid (∀ w,Calls Tryz.prog 281 #[.int .u64 (uw n),.int .u64 y] w fun e w'=>e=.returned (.tuple #[.int .u64 (Qia (uw n) y),.int .u64 (uw (uw n*y))])/\w'=w):=fun w=>QpU _ _ (Qd4 n) hy w;by_cases h:n<0
 ·have HE:Hid (wrap64 (IntKind.u64.wrap (Qia (uw n) y - y))=thH n y/\uw (uw n*y)=thL n y):=th_neg n y hn h
  clear hn hy;go_enter Tryz.func280,Tryz.ntmps280;go_wp2_with (go_at_call 281;refine (HC.out _).mono ?_;rintro e w1 ⟨rfl,rfl⟩);exact bodyPost_ret (v:=.agg #[.int .i64 (wrap64 (IntKind.u64.wrap (Qia (uw n) y - y))),.int .u64 (uw (uw n*y))]) (by simp [results,Tryz.results280,go_sem]) rfl ⟨QdD HE.out.1 HE.out.2,(Below.refl _ _).alloc (Nat.le_refl _) _⟩
 ·have HE:Hid (wrap64 (Qia (uw n) y)=thH n y/\uw (uw n*y)=thL n y):=th_pos n y hn h
  clear hn hy;go_enter Tryz.func280,Tryz.ntmps280;go_wp2_with (go_at_call 281;refine (HC.out _).mono ?_;rintro e w1 ⟨rfl,rfl⟩);exact bodyPost_ret (v:=.agg #[.int .i64 (wrap64 (Qia (uw n) y)),.int .u64 (uw (uw n*y))]) (by simp [results,Tryz.results280,go_sem]) rfl ⟨QdD HE.out.1 HE.out.2,(Below.refl _ _).alloc (Nat.le_refl _) _⟩
theorem Qev (n y:Int) (hn:I64 n) (hy:U64 y) (w:World) :
  Calls Tryz.prog 134 #[.int .i64 n,.int .u64 y] w fun e w'=>e=.returned (.agg #[.int .i64 (thH n y),.int .u64 (thL n y)])/\Below w.heap.size w w':=by
 by_cases h:n<0
 ·have hm:U64 (-n):=by unfold I64 at hn;unfold U64;omega
  have e1:IntKind.u64.wrap (-IntKind.u64.wrap n)=-n:=by simp only [IntKind.wrap_u64];unfold I64 at hn;omega
  have HC:Hid (∀ w,Calls Tryz.prog 176 #[.int .u64 (-n),.int .u64 y] w fun e w'=>e=.returned (.tuple #[.int .u64 (Qia (-n) y),.int .u64 (uw (-n*y))])/\w'=w):=fun w=>Qj8 _ _ hm hy w;have HE:=Qog n y
  have HD:Hid (∀ w,Calls Tryz.prog 177 #[.agg #[.int .i64 (wrap64 (Qia (-n) y)),.int .u64 (uw (-n*y))]] w fun e w'=>e=.returned (.agg #[.int .i64 (thH n y),.int .u64 (thL n y)])/\Below w.heap.size w w'):=by
   rw [<- HE.1,<- HE.2];exact fun w=>QlN _ _ (Qgo _) (Qd4 _) w
  clear hn hy hm HE;go_enter Tryz.func134,Tryz.ntmps134
  go_wp2_with (first
   | (go_at_call 176;refine (HC.out _).mono ?_;rintro e w1 ⟨rfl,rfl⟩)
   | (go_at_call 177;refine (HD.out _).mono ?_;rintro e w1 ⟨rfl,hb1⟩;have p0:=Qab (a:=⟨w.heap.size+1,0,none⟩) (v:=.int .i64 (wrap64 (Qia (-n) y))) hb1 (by simp);have p1:=Qab (a:=⟨w.heap.size+1,1,none⟩) (v:=.int .u64 (uw (-n*y))) hb1 (by simp);have f0:=hb1.frozen (p:=⟨w.heap.size+1,0,none⟩) (by simp);have f1:=hb1.frozen (p:=⟨w.heap.size+1,1,none⟩) (by simp);have r0:=Qab (a:=⟨w.heap.size,0,none⟩) (v:=.int .i64 0) hb1 (by simp);have r1:=Qab (a:=⟨w.heap.size,1,none⟩) (v:=.int .u64 0) hb1 (by simp);have g0:=QbL (a:=⟨w.heap.size,0,none⟩) (v:=.int .i64 0) hb1 (by simp);have g1:=QbL (a:=⟨w.heap.size,1,none⟩) (v:=.int .u64 0) hb1 (by simp)))
  refine bodyPost_ret (v:=.agg #[.int .i64 (thH n y),.int .u64 (thL n y)]) (by simp [results,Tryz.results134,go_sem,r0,r1]) rfl ⟨rfl,?_⟩;exact (((((((Below.refl _ _).alloc (Nat.le_refl _) _).alloc (by simp) _).trans (hb1.mono (by simp;omega))).setCell (by dsimp only;omega) _).setCell (by dsimp only;omega) _).setCell (by dsimp only;omega) _).setCell (by dsimp only;omega) _
 ·have e1:IntKind.u64.wrap n=n:=by rw [IntKind.wrap_u64];unfold I64 at hn;omega
  have hm:U64 n:=by unfold I64 at hn;unfold U64;omega
  have HC:Hid (∀ w,Calls Tryz.prog 176 #[.int .u64 n,.int .u64 y] w fun e w'=>e=.returned (.tuple #[.int .u64 (Qia n y),.int .u64 (uw (n*y))])/\w'=w):=fun w=>Qj8 _ _ hm hy w;clear hn hy hm;go_enter Tryz.func134,Tryz.ntmps134;go_wp2_with (go_at_call 176;refine (HC.out _).mono ?_;rintro e w1 ⟨rfl,rfl⟩);exact bodyPost_ret (v:=.agg #[.int .i64 (wrap64 (Qia n y)),.int .u64 (uw (n*y))]) (by simp [results,Tryz.results134,go_sem]) rfl ⟨QdD rfl rfl,((Below.refl _ _).alloc (Nat.le_refl _) _).alloc (by simp) _⟩
set_option linter.unusedVariables false
set_option linter.unusedSimpArgs false
set_option maxRecDepth 10000
open Go.Lib Go.PlainAid
def Qec (z v wt:Int):Int:=if v=0 then QaA z wt else z
def QoJ (P:List Bn) (v wt:Int):List Bn:=if 0<v then Qps P [(Qc8 v,wt)] else P
def Qof (N:List Bn) (v wt:Int):List Bn:=if v<0 then Qps N [(Qc8 (-v),wt)] else N
def Qjo (P N:List Bn) (v wt:Int):Prop:=skB P N=true/\(-999999999999999999<=v/\v<=999999999999999999)/\wt≠0
abbrev QdT (w:World) (g:Nat) (x:Int):Prop:=w.cell? ⟨g,0,none⟩=some (.int .u64 x)
theorem Qco (v:Int) (w:World) (hv:I64 v) :
  Calls Tryz.prog 124 #[.int .i64 v] w fun e w'=>e=.returned (.bool (decide (-999999999999999999<=v/\v<=999999999999999999)))/\w'=w:=by
 unfold I64 at hv;by_cases h1:-999999999999999999<=v
 ·by_cases h2:v<=999999999999999999
  ·rw [decide_eq_true ⟨h1,h2⟩]
   go_enter Tryz.func124,Tryz.ntmps124;go_wp2;go_ret;exact ⟨rfl,rfl⟩
  ·rw [decide_eq_false (fun h=>h2 h.2)]
   go_enter Tryz.func124,Tryz.ntmps124;go_wp2;go_ret;exact ⟨rfl,rfl⟩
 ·rw [decide_eq_false (fun h=>h1 h.1)]
  go_enter Tryz.func124,Tryz.ntmps124;go_wp2;go_ret;exact ⟨rfl,rfl⟩
theorem Qiy {w:World} {ao:Option Addr} {Q:List Bn} (c n om:Nat) {at_ wt:Int} (hn:Q.length=n) (hl:n<=30) (hA:Qay w ao Q) (kA:∀ x∈Q,Qbk x) (ha:I64 at_) (hw:U64 wt) (hO:QdT w om wt) :
  Calls Tryz.prog 292 #[.slice ao n c,.int .i64 at_,.pointer (some ⟨om,0,none⟩)] w fun e w'=>∃ v' n',e=.returned v'/\OwnB w' w.heap.size v' n' (Qps Q [(at_,wt)])/\Below w.heap.size w w':=by
 have HA:=Qaa hA;have hb:∀ o,Below w.heap.size w (w.alloc o):=fun o=>(ZZb _ _).alloc (ZZa _) o;have HB:=Qaa hb
 have hbi:∀ t,Qay (w.alloc (.cells #[.int .i64 at_,.int .u64 wt] t)) (some ⟨w.heap.size,0,none⟩) [(at_,wt)]:=fun t _=>⟨w.heap.size,0,rfl,fun i x hx=>by
  obtain ⟨rfl,rfl⟩:i=0/\x=(at_,wt):=by
   cases i with
   | zero=>exact ⟨rfl,by simpa using hx.symm⟩
   | succ j=>simp at hx
  exact Qfo w t at_ wt⟩
 have HBi:=Qaa hbi;clear hA hb hbi;go_enter Tryz.func292,Tryz.ntmps292;go_wp2_with (go_at_call 291;refine (Qdg _ _ _ _ hn (by rfl) hl (by omega) (Qae HA.out (HB.out _)) (HBi.out _) kA (fun x hx=>by obtain rfl:x=(at_,wt):=(by simpa using hx);exact ⟨ha,hw⟩)).mono ?_;rintro e w1 ⟨v',n',rfl,ho,hb1⟩;have HO:=Qaa (ho.le (B':=w.heap.size) (by simp));have HB1:=Qaa ((HB.out _).trans (hb1.mono (by simp)));obtain ⟨ao1,c1,rfl⟩:=ho.any;clear ho hb1);go_ret;exact ⟨_,_,rfl,HO.out,HB1.out⟩
theorem Qhq {w:World} {z h l vv wt:Int} {pa na:Option Addr} {pn pc nn nc:Nat} {P N:List Bn} (hz:U64 z) (hl0:U64 l) (hvv:I64 vv) (hwt:U64 wt) (hp:P.length=pn) (hn:N.length=nn) (lp:pn<=1048576) (ln:nn<=1048576) (hP:Qay w pa P) (hN:Qay w na N) (kP:∀ x∈P,Qbk x) (kN:∀ x∈N,Qbk x) :
  Calls Tryz.prog 289 #[.agg #[.int .u64 z,.slice pa pn pc,.slice na nn nc,.int .i64 h,.int .u64 l],.int .i64 vv,.int .u64 wt] w fun e w'=>∃ v,e=.returned v/\Below w.heap.size w w'/\((Qjo P N vv wt/\Qef w' w.heap.size v (Qec z vv wt) (QoJ P vv wt) (Qof N vv wt) (Qbp h l (thH vv wt) (thL vv wt)) (Qbu l (thL vv wt)))∨(¬ Qjo P N vv wt/\Qef w' w.heap.size v z P N h l)):=by
 have HP:=Qaa hP;have HN:=Qaa hN;have KP:=Qaa kP;have KN:=Qaa kN;clear hP hN kP kN;go_enter Tryz.func289,Tryz.ntmps289;go_wp2_with fail;generalize hW0:((w.alloc (Obj.cells #[.int .u64 z,.slice pa pn pc,.slice na nn nc,.int .i64 h,.int .u64 l] 43)).alloc (Obj.cells #[.int .u64 wt] 26)).alloc (Obj.cells Qav 43)=W0;have T0:Below w.heap.size w W0:=by rw [<- hW0];exact (((Below.refl _ _).alloc (Nat.le_refl _) _).alloc (by simp) _).alloc (by simp;omega) _
 have K0:Qa4 W0 w.heap.size z (.slice pa pn pc) (.slice na nn nc) h l:=by rw [<- hW0];exact Qaz (Qdk w _ _ _ _ _ _) (((Below.refl _ _).alloc (Nat.le_refl _) _).alloc (by simp) _)
 have N0:QdT W0 (w.heap.size+1) wt:=by
  rw [<- hW0];exact Qeb (by simp) _
 have R0:W0.heap[w.heap.size+1+1]?=some (.cells Qav 43 (0,0)):=by rw [<- hW0];simpa using heap_alloc_new ((w.alloc (Obj.cells #[.int .u64 z,.slice pa pn pc,.slice na nn nc,.int .i64 h,.int .u64 l] 43)).alloc (Obj.cells #[.int .u64 wt] 26)) (Obj.cells Qav 43)
 have hsz0:W0.heap.size=w.heap.size+3:=by rw [<- hW0];simp
 clear hW0;have HT0:=Qaa T0;clear T0;refine (Qfn hp hn lp ln (Qae HP.out HT0.out) (Qae HN.out HT0.out)).mono ?_;rintro e w1 ⟨v1,rfl,⟨p1,n1,m1,m2,rfl,ho1,ho2,hap⟩,hb1⟩;obtain ⟨ao1,c1,rfl⟩:=ho1.any;obtain ⟨ao2,c2,rfl⟩:=ho2.any;have HT1:=Qaa (Qad HT0.out hb1);have K1:=Qaz K0 hb1;have N1:QdT w1 (w.heap.size+1) wt:=Qab hb1 N0;have R1:w1.heap[w.heap.size+1+1]?=some (.cells Qav 43 (0,0)):=by rw [hb1.block _ (by omega)];exact R0
 obtain ⟨sg,hsg⟩:∃ sg,sg=w1.heap.size:=⟨_,rfl⟩;have hs1:w.heap.size+3<=w1.heap.size:=by have:=hb1.size;omega
 have hbA:∀ o,Below w1.heap.size w1 (w1.alloc o):=fun o=>(ZZb _ _).alloc (ZZa _) o;have KA:∀ o,Qa4 (w1.alloc o) w.heap.size z (.slice pa pn pc) (.slice na nn nc) h l:=fun o=>Qaz K1 (hbA o);have HO1:=Qaa (ho1.le (B':=w.heap.size) (by omega));have HO2:=Qaa (ho2.le (B':=w.heap.size) (by omega));have HbA:=Qaa hbA;have HAp:=Qaa hap;clear hb1 ho1 ho2 hap K0 N0 R0 hbA;go_wp2_with fail;refine (QaY hp hn lp ln (Qae HP.out (Qad HT1.out (HbA.out _))) (Qae HN.out (Qad HT1.out (HbA.out _))) KP.out KN.out).mono ?_;rintro e w3 ⟨rfl,hb3⟩;have HB3:=Qaa (Qad (HbA.out _) hb3);have HT3:=Qaa (Qad HT1.out HB3.out);have K3:=Qaz K1 HB3.out;have N3:QdT w3 (w.heap.size+1) wt:=Qab HB3.out N1;have R3:w3.heap[w.heap.size+1+1]?=some (.cells Qav 43 (0,0)):=by rw [HB3.out.block _ (by omega)];exact R1
 have S3:w3.heap[sg]?=some (.cells #[.int .u64 z,.slice ao1 m1 c1,.slice ao2 m2 c2,.int .i64 h,.int .u64 l] 43 (0,0)):=by
  rw [hsg,hb3.block _ (by simp)];exact ZZk w1 _
 have hs3:sg<w3.heap.size:=(ZZc.1 S3).1;rw [<- hsg];have hs4:w.heap.size+3<=sg:=by omega
 clear hsg hs1;have hC:∀ W,Below w3.heap.size w3 W->Qa4 W w.heap.size z (.slice pa pn pc) (.slice na nn nc) h l/\QdT W (w.heap.size+1) wt/\W.heap[w.heap.size+1+1]?=some (.cells Qav 43 (0,0))/\W.heap[sg]?=some (.cells #[.int .u64 z,.slice ao1 m1 c1,.slice ao2 m2 c2,.int .i64 h,.int .u64 l] 43 (0,0)):=fun W hW=>⟨Qaz K3 hW,Qab hW N3,by rw [hW.block _ (by omega)];exact R3,by rw [hW.block _ hs3];exact S3⟩;have HC:=Qaa hC;have HO1:=Qaa (HO1.out.past HB3.out);have HO2:=Qaa (HO2.out.past HB3.out);obtain ⟨g0,g1,g2,g3,g4⟩:=Qbx S3;have fs0:=fzR 0 S3;obtain ⟨q0,q1,q2,q3,q4⟩:=Qbx R3;obtain ⟨fr0,fr1,fr2,fr3,fr4⟩:=fA5 R3;clear hb3 hC KA K1 N1 R1 HbA;have hbad:¬ Qjo P N vv wt∨Qjo P N vv wt:=(Classical.em _).symm;rcases hbad with hb | hb
 ·have HBad:=Qaa hb
  have hcs:(skB P N=false)∨(skB P N=true/\decide (-999999999999999999<=vv/\vv<=999999999999999999)=false)∨(skB P N=true/\decide (-999999999999999999<=vv/\vv<=999999999999999999)=true/\wt=0):=by
   cases h1:skB P N with
   | false=>exact .inl rfl
   | true=>
    by_cases h2:-999999999999999999<=vv/\vv<=999999999999999999
    ·by_cases h3:wt=0
     ·exact .inr (.inr ⟨rfl,ZZh h2,h3⟩)
     ·exact absurd ⟨h1,h2,h3⟩ hb
    ·exact .inr (.inl ⟨rfl,ZZg h2⟩)
  clear hb S3 R3;rcases hcs with e1 | ⟨e1,e2⟩ | ⟨e1,e2,e3⟩
  all_goals
   rw [e1];go_wp2_with (first | (go_at_call 124;refine (Qco _ _ hvv).mono ?_;rintro e w4 ⟨rfl,rfl⟩;rw [e2]));refine bodyPost_ret (v:=.agg #[.int .u64 z,.slice ao1 m1 c1,.slice ao2 m2 c2,.int .i64 h,.int .u64 l]) (by simp [results,Tryz.results289,go_sem,q0,q1,q2,q3,q4]) rfl ⟨_,rfl,?_,.inr ⟨HBad.out,_,_,m1,m2,rfl,?_,?_,HAp.out⟩⟩
   ·repeat (refine Below.setCell ?_ (by simp <;> omega) _)
    exact HT3.out
   ·have hne:=HO1.out.ne (HC.out _ (ZZb _ _)).2.2.1 (by decide)
    repeat (refine OwnB.set ?_ hne _)
    exact HO1.out
   ·have hne:=HO2.out.ne (HC.out _ (ZZb _ _)).2.2.1 (by decide)
    repeat (refine OwnB.set ?_ hne _)
    exact HO2.out
 ·obtain ⟨e1,⟨e2,e2'⟩,e3⟩:=id hb
  have HOk:=Qaa hb;have d2:decide (-999999999999999999<=vv/\vv<=999999999999999999)=true:=ZZh ⟨e2,e2'⟩;have d3:(wt == 0)=false:=ZZf.2 e3
  obtain ⟨l30P,l30N⟩:pn<=30/\nn<=30:=by
   have:=Bool.and_eq_true_iff.1 e1;have h1:=(Bool.and_eq_true_iff.1 this.1).1;have h2:=(Bool.and_eq_true_iff.1 this.2).1;have:=of_decide_eq_true h1;have:=of_decide_eq_true h2;omega
  clear hb;rw [e1]
  have hsW:∀ W,w3.grownBy W (some sg)->Qa4 W w.heap.size z (.slice pa pn pc) (.slice na nn nc) h l/\QdT W (w.heap.size+1) wt/\W.heap[w.heap.size+1+1]?=some (.cells Qav 43 (0,0)):=fun W hW=>by
   have hk:∀ j,j<w3.heap.size->j≠sg->W.heap[j]?=w3.heap[j]?:=fun j hj hne=>hW.block j hj (fun e=>hne (Option.some.inj e));have hb0:∀ j,W.cell? ⟨w.heap.size,j,none⟩=w3.cell? ⟨w.heap.size,j,none⟩:=fun j=>World.cell?_of_block (w:=w3) (hk w.heap.size (by omega) (by omega));refine ⟨⟨by rw [hb0];exact K3.1,by rw [hb0];exact K3.2.1,by rw [hb0];exact K3.2.2.1,by rw [hb0];exact K3.2.2.2.1,by rw [hb0];exact K3.2.2.2.2⟩,?_,by rw [hk (w.heap.size+1+1) (by omega) (by omega)];exact R3⟩;have:W.cell? ⟨w.heap.size+1,0,none⟩=w3.cell? ⟨w.heap.size+1,0,none⟩:=World.cell?_of_block (w:=w3) (hk (w.heap.size+1) (by omega) (by omega));rw [QdT,this];exact N3
  have HsW:=Qaa hsW;have HS3:=Qaa S3;clear S3 R3 hsW;have c3:vv=0∨0<vv∨vv<0:=by omega
  rcases c3 with hv0 | hP0 | hN0
  ·have hz4:Hid (Qec z vv wt=QaA z wt):=if_pos hv0
   have hP4:Hid (QoJ P vv wt=P):=if_neg (by omega);have hN4:Hid (Qof N vv wt=N):=if_neg (by omega);have d0:(vv == 0)=true:=by simp [hv0]
   clear hv0
   go_wp2_with (first
    | (go_at_call 124;refine (Qco _ _ hvv).mono ?_;rintro e w4 ⟨rfl,hw⟩;obtain rfl:=hw.symm;rw [d2])
    | (go_at_call 86;refine (QaH _ _ hz hwt _).mono ?_;rintro e w4 ⟨rfl,hw⟩;obtain rfl:=hw.symm))
   generalize hw4:World.setCell _ ⟨sg,0,none⟩ (.int .u64 (QaA z wt))=w4;have hg4:w3.grownBy w4 (some sg):=by rw [<- hw4];exact QaX _ _ _ _
   have hr4:w4.heap[sg]?=some (.cells #[.int .u64 (Qec z vv wt),.slice ao1 m1 c1,.slice ao2 m2 c2,.int .i64 h,.int .u64 l] 43 (0,0)):=by
    rw [<- hw4,hz4.out];exact ZZl _ sg 0 _ _ _ HS3.out
   have hoP:OwnB w4 w.heap.size (.slice ao1 m1 c1) m1 (QoJ P vv wt):=by
    rw [<- hw4,hP4.out];exact HO1.out.set (HO1.out.ne HS3.out (by decide)) _
   have hoN:OwnB w4 w.heap.size (.slice ao2 m2 c2) m2 (Qof N vv wt):=by
    rw [<- hw4,hN4.out];exact HO2.out.set (HO2.out.ne HS3.out (by decide)) _
   have hap:=HAp.out;clear hz4 hP4 hN4 HO1 HO2 hw4 g0 g1 g2 g3 g4 fs0;obtain ⟨K4,N4,R4⟩:=HsW.out _ hg4;have hT4:Below w.heap.size w w4:=HT3.out.grown hg4 HT3.out.size (fun k e=>by cases e;omega);have hlt4:sg<w4.heap.size:=(ZZc.1 hr4).1;have hC4:∀ W,Below w4.heap.size w4 W->Qa4 W w.heap.size z (.slice pa pn pc) (.slice na nn nc) h l/\QdT W (w.heap.size+1) wt/\W.heap[w.heap.size+1+1]?=some (.cells Qav 43 (0,0))/\W.heap[sg]?=some (.cells #[.int .u64 (Qec z vv wt),.slice ao1 m1 c1,.slice ao2 m2 c2,.int .i64 h,.int .u64 l] 43 (0,0)):=fun W hW=>⟨Qaz K4 hW,Qab hW N4,by rw [hW.block _ (by omega)];exact R4,by rw [hW.block _ hlt4];exact hr4⟩;have HC4:=Qaa hC4;have HT4:=Qaa hT4;have HoP:=Qaa hoP;have HoN:=Qaa hoN;have Hap:=Qaa hap;obtain ⟨Z4,hZ4⟩:∃ Z,Qec z vv wt=Z:=⟨_,rfl⟩;rw [hZ4] at HC4;have HZ4:=Qaa hZ4;clear hC4 hT4 hoP hoN hap hr4 hg4 K4 N4 R4 hZ4 HC;have HS0:(fun W=>Below w4.heap.size w4 W) w4.drew:=(ZZb _ _).drew;refine Qaj (fun W=>Below w4.heap.size w4 W) 7 (by kernel_rfl) ?_;refine tkL (i:=0) (v:=.pointer (some ⟨w.heap.size,3,none⟩)) rfl rfl HS0 (fun W hW=>?_) ?_
   ·obtain ⟨⟨x0,x1,x2,x3,x4⟩,x5,x6,x7⟩:=HC4.out W hW
    go_simp
   refine tkL (i:=1) (v:=.agg #[.int .i64 h,.int .u64 l]) rfl rfl HS0 (fun W hW=>?_) ?_
   ·obtain ⟨⟨x0,x1,x2,x3,x4⟩,x5,x6,x7⟩:=HC4.out W hW
    go_simp
   refine tkL (i:=2) (v:=.int .i64 vv) rfl rfl HS0 (fun W hW=>?_) ?_
   ·obtain ⟨⟨x0,x1,x2,x3,x4⟩,x5,x6,x7⟩:=HC4.out W hW
    go_simp
   simp only [sA,sB,sC];refine tkL (i:=3) (v:=.int .u64 wt) rfl rfl HS0 (fun W hW=>?_) ?_
   ·obtain ⟨⟨x0,x1,x2,x3,x4⟩,x5,x6,x7⟩:=HC4.out W hW
    go_simp
   simp only [sA,sB,sC];refine onE (i:=4) rfl (fun K hK=>?_);go_simp;refine (Qb1 _ _ hvv hwt _).mono ?_;rintro e w5 ⟨rfl,hb5⟩;dsimp only;have HB5:=Qaa ((HS0:Below w4.heap.size w4 w4.drew).trans hb5);clear hb5;refine hK.out _ _ (fun _=>HB5.out) ?_;clear hK K
   try simp only [Act.put,sA,sB,sC]
   refine onE (i:=5) rfl (fun K hK=>?_);go_simp;refine (QbJ _ _ _ _ _ hl0 (show U64 (thL vv wt) from Qd4 _)).mono ?_;rintro e w6 ⟨rfl,hb6⟩;dsimp only;have HB6:=Qaa (Qad HB5.out hb6);clear hb6;refine hK.out _ _ (fun _=>HB6.out) ?_;clear hK K
   try simp only [Act.put,sA,sB,sC]
   refine onE (i:=6) rfl (fun K hK=>?_);go_simp;refine hK.out _ _ (fun _=>HB6.out) ?_;clear hK K
   try simp only [Act.put,sA,sB,sC]
   have R6:=(HC4.out _ HB6.out).2.2.2;obtain ⟨y0,y1,y2,y3,y4⟩:=Qbx R6;have fy3:=fzR 3 R6;have fy4:=fzR 4 R6;refine onE (i:=7) rfl (fun K hK=>?_);go_simp;refine hK.out _ _ (fun h=>absurd rfl h) ?_;clear hK K
   try simp only [Act.put,sA,sB,sC]
   refine Qar (by kernel_rfl) ?_ _;obtain ⟨H7,hH7⟩:∃ H,Qbp h l (thH vv wt) (thL vv wt)=H:=⟨_,rfl⟩;obtain ⟨L7,hL7⟩:∃ H,Qbu l (thL vv wt)=H:=⟨_,rfl⟩;have HH7:=Qaa hH7;have HL7:=Qaa hL7;rw [hH7,hL7];clear hH7 hL7;generalize hw7:(w6.setCell ⟨sg,3,none⟩ (.int .i64 H7)).setCell ⟨sg,4,none⟩ (.int .u64 L7)=w7
   have S7:w7.heap[sg]?=some (.cells #[.int .u64 Z4,.slice ao1 m1 c1,.slice ao2 m2 c2,.int .i64 H7,.int .u64 L7] 43 (0,0)):=by
    rw [<- hw7];exact ZZl _ sg 4 _ _ _ (ZZl w6 sg 3 _ _ _ R6)
   have hg7:w6.grownBy w7 (some sg):=by rw [<- hw7];exact (QaX _ _ _ _).trans (QaX _ _ _ _)
   have R7:w7.heap[w.heap.size+1+1]?=some (.cells Qav 43 (0,0)):=by
    have hR:=(HC4.out _ HB6.out).2.2.1;rw [hg7.block _ (Array.getElem?_eq_some_iff.1 hR).1 (fun e=>by have:=Option.some.inj e;omega)];exact hR
   have T7:Below w.heap.size w w7:=(Qad HT4.out HB6.out).grown hg7 (Qad HT4.out HB6.out).size (fun k e=>by cases e;omega);have hoP:=HoP.out.past HB6.out;have hoN:=HoN.out.past HB6.out;have hP7:=hoP.kept hg7 (.inr (hoP.ne R6 (by decide)));have hN7:=hoN.kept hg7 (.inr (hoN.ne R6 (by decide)));have HP7:=Qaa hP7;have HN7:=Qaa hN7;have HT7:=Qaa T7;have HR7:=Qaa R7;obtain ⟨g0,g1,g2,g3,g4⟩:=Qbx S7;obtain ⟨q0,q1,q2,q3,q4⟩:=Qbx R7;obtain ⟨fr0,fr1,fr2,fr3,fr4⟩:=fA5 R7;clear S7 hg7 R7 T7 hoP hoN hP7 hN7 hw7 y0 y1 y2 y3 y4 fy3 fy4 R6;go_wp2;refine bodyPost_ret (v:=.agg #[.int .u64 Z4,.slice ao1 m1 c1,.slice ao2 m2 c2,.int .i64 H7,.int .u64 L7]) (by simp [results,Tryz.results289,go_sem,q0,q1,q2,q3,q4]) rfl ⟨_,rfl,?_,.inl ⟨HOk.out,?_⟩⟩
   ·repeat (refine Below.setCell ?_ (by simp <;> omega) _)
    exact HT7.out
   ·rw [HH7.out,HL7.out,HZ4.out]
    refine ⟨_,_,m1,m2,rfl,?_,?_,Hap.out⟩
    ·have hne:=HP7.out.ne HR7.out (by decide)
     repeat (refine OwnB.set ?_ hne _)
     exact HP7.out
    ·have hne:=HN7.out.ne HR7.out (by decide)
     repeat (refine OwnB.set ?_ hne _)
     exact HN7.out
  ·have hz4:Hid (Qec z vv wt=z):=if_neg (by omega)
   have hN4:Hid (Qof N vv wt=N):=if_neg (by omega);have HP0:=Qaa hP0;have d0:(vv == 0)=false:=ZZf.2 (by omega);have d1:decide (0<vv)=true:=ZZh hP0
   go_wp2_with (first
    | (go_at_call 124;refine (Qco _ _ hvv).mono ?_;rintro e w4 ⟨rfl,hw⟩;obtain rfl:=hw.symm;rw [d2]))
   have HS0:(fun W=>Below w3.heap.size w3 W) w3.drew:=(ZZb _ _).drew;refine Qaj (fun W=>Below w3.heap.size w3 W) 7 (by kernel_rfl) ?_;refine tkL (i:=0) (v:=.func (.func 292) #[] #[.pointer (some ⟨w.heap.size+1,0,none⟩)]) rfl rfl HS0 (fun W hW=>?_) ?_
   ·obtain ⟨⟨x0,x1,x2,x3,x4⟩,x5,x6,x7⟩:=HC.out W hW
    go_simp
   refine tkL (i:=1) (v:=.pointer (some ⟨w.heap.size,1,none⟩)) rfl rfl HS0 (fun W hW=>?_) ?_
   ·obtain ⟨⟨x0,x1,x2,x3,x4⟩,x5,x6,x7⟩:=HC.out W hW
    go_simp
   refine tkL (i:=2) (v:=.slice pa pn pc) rfl rfl HS0 (fun W hW=>?_) ?_
   ·obtain ⟨⟨x0,x1,x2,x3,x4⟩,x5,x6,x7⟩:=HC.out W hW
    go_simp
   simp only [sA,sB,sC];refine tkL (i:=3) (v:=.int .i64 vv) rfl rfl HS0 (fun W hW=>?_) ?_
   ·obtain ⟨⟨x0,x1,x2,x3,x4⟩,x5,x6,x7⟩:=HC.out W hW
    go_simp
   simp only [sA,sB,sC];refine onE (i:=4) rfl (fun K hK=>?_);go_simp;refine (QcN _ _ (by unfold I64;omega)).mono ?_;rintro e w4 ⟨rfl,rfl⟩;dsimp only;refine hK.out _ _ (fun _=>HS0) ?_;clear hK K
   try simp only [Act.put,sA,sB,sC]
   refine onE (i:=5) rfl (fun K hK=>?_);go_simp;refine (Qiy (Q:=P) _ _ _ hp l30P (Qae HP.out (Qad HT3.out HS0)) KP.out (by have:=Qe7 vv;unfold I64;omega) hwt (HC.out _ HS0).2.1).mono ?_;rintro e w5 ⟨v5,n5,rfl,ho5,hb5⟩;dsimp only;have HB5:=Qaa ((HS0:Below w3.heap.size w3 w3.drew).trans hb5);have HO5:=Qaa (ho5.le (B':=w.heap.size) (by show w.heap.size<=w3.heap.size;have:=HT3.out.size;omega));have HF5:=Qaa (fun q (h:Value.ownBlock v5=some q)=>(show w3.heap.size<=q from (ho5.lt q h).1));obtain ⟨ao5,c5,rfl⟩:=ho5.any;clear ho5 hb5;refine hK.out _ _ (fun _=>HB5.out) ?_;clear hK K
   try simp only [Act.put,sA,sB,sC]
   refine onE (i:=6) rfl (fun K hK=>?_);go_simp;refine hK.out _ _ (fun _=>HB5.out) ?_;clear hK K
   try simp only [Act.put,sA,sB,sC]
   have R5:=(HC.out _ HB5.out).2.2.2;obtain ⟨q0,q1,q2,q3,q4⟩:=Qbx R5;have f1:=fzR 1 R5;refine onE (i:=7) rfl (fun K hK=>?_);go_simp;refine hK.out _ _ (fun h=>absurd rfl h) ?_;clear hK K
   try simp only [Act.put,sA,sB,sC]
   refine Qar (by kernel_rfl) ?_ _;generalize hw4:w5.setCell ⟨sg,1,none⟩ (.slice ao5 n5 c5)=w4;have hg4:w3.grownBy w4 (some sg):=by rw [<- hw4];exact World.grownBy.trans ⟨HB5.out.os,HB5.out.tape,HB5.out.output,HB5.out.size,fun k hk _=>HB5.out.block k hk⟩ (QaX _ _ _ _)
   have hr4:w4.heap[sg]?=some (.cells #[.int .u64 (Qec z vv wt),.slice ao5 n5 c5,.slice ao2 m2 c2,.int .i64 h,.int .u64 l] 43 (0,0)):=by
    rw [<- hw4,hz4.out];exact ZZl w5 sg 1 _ _ _ R5
   have hne5:Value.ownBlock (.slice ao5 n5 c5)≠some sg:=HO5.out.ne R5 (by decide)
   have hoP:OwnB w4 w.heap.size (.slice ao5 n5 c5) n5 (QoJ P vv wt):=by
    rw [<- hw4,QoJ,if_pos HP0.out];exact HO5.out.set hne5 _
   have hoN:OwnB w4 w.heap.size (.slice ao2 m2 c2) m2 (Qof N vv wt):=by
    rw [<- hw4,hN4.out];have h5:=HO2.out.past HB5.out;exact h5.set (h5.ne R5 (by decide)) _
   have hap:QdX (.slice ao5 n5 c5) (.slice ao2 m2 c2):=fun k e1 e2=>by
    have h1:=HF5.out k e1;have h2:=(HO2.out.lt k e2).2;omega
   clear HO1 HO2 hw4 HO5 HF5 R5 q0 q1 q2 q3 q4 f1 hne5 HB5 hz4 hN4 g0 g1 g2 g3 g4 fs0 HS0;obtain ⟨K4,N4,R4⟩:=HsW.out _ hg4;have hT4:Below w.heap.size w w4:=HT3.out.grown hg4 HT3.out.size (fun k e=>by cases e;omega);have hlt4:sg<w4.heap.size:=(ZZc.1 hr4).1;have hC4:∀ W,Below w4.heap.size w4 W->Qa4 W w.heap.size z (.slice pa pn pc) (.slice na nn nc) h l/\QdT W (w.heap.size+1) wt/\W.heap[w.heap.size+1+1]?=some (.cells Qav 43 (0,0))/\W.heap[sg]?=some (.cells #[.int .u64 (Qec z vv wt),.slice ao5 n5 c5,.slice ao2 m2 c2,.int .i64 h,.int .u64 l] 43 (0,0)):=fun W hW=>⟨Qaz K4 hW,Qab hW N4,by rw [hW.block _ (by omega)];exact R4,by rw [hW.block _ hlt4];exact hr4⟩;have HC4:=Qaa hC4;have HT4:=Qaa hT4;have HoP:=Qaa hoP;have HoN:=Qaa hoN;have Hap:=Qaa hap;obtain ⟨Z4,hZ4⟩:∃ Z,Qec z vv wt=Z:=⟨_,rfl⟩;rw [hZ4] at HC4;have HZ4:=Qaa hZ4;clear hC4 hT4 hoP hoN hap hr4 hg4 K4 N4 R4 hZ4 HC;have HS0:(fun W=>Below w4.heap.size w4 W) w4.drew:=(ZZb _ _).drew;go_wp2_with fail;refine Qaj (fun W=>Below w4.heap.size w4 W) 7 (by kernel_rfl) ?_;refine tkL (i:=0) (v:=.pointer (some ⟨w.heap.size,3,none⟩)) rfl rfl HS0 (fun W hW=>?_) ?_
   ·obtain ⟨⟨x0,x1,x2,x3,x4⟩,x5,x6,x7⟩:=HC4.out W hW
    go_simp
   refine tkL (i:=1) (v:=.agg #[.int .i64 h,.int .u64 l]) rfl rfl HS0 (fun W hW=>?_) ?_
   ·obtain ⟨⟨x0,x1,x2,x3,x4⟩,x5,x6,x7⟩:=HC4.out W hW
    go_simp
   refine tkL (i:=2) (v:=.int .i64 vv) rfl rfl HS0 (fun W hW=>?_) ?_
   ·obtain ⟨⟨x0,x1,x2,x3,x4⟩,x5,x6,x7⟩:=HC4.out W hW
    go_simp
   simp only [sA,sB,sC];refine tkL (i:=3) (v:=.int .u64 wt) rfl rfl HS0 (fun W hW=>?_) ?_
   ·obtain ⟨⟨x0,x1,x2,x3,x4⟩,x5,x6,x7⟩:=HC4.out W hW
    go_simp
   simp only [sA,sB,sC];refine onE (i:=4) rfl (fun K hK=>?_);go_simp;refine (Qb1 _ _ hvv hwt _).mono ?_;rintro e w5 ⟨rfl,hb5⟩;dsimp only;have HB5:=Qaa ((HS0:Below w4.heap.size w4 w4.drew).trans hb5);clear hb5;refine hK.out _ _ (fun _=>HB5.out) ?_;clear hK K
   try simp only [Act.put,sA,sB,sC]
   refine onE (i:=5) rfl (fun K hK=>?_);go_simp;refine (QbJ _ _ _ _ _ hl0 (show U64 (thL vv wt) from Qd4 _)).mono ?_;rintro e w6 ⟨rfl,hb6⟩;dsimp only;have HB6:=Qaa (Qad HB5.out hb6);clear hb6;refine hK.out _ _ (fun _=>HB6.out) ?_;clear hK K
   try simp only [Act.put,sA,sB,sC]
   refine onE (i:=6) rfl (fun K hK=>?_);go_simp;refine hK.out _ _ (fun _=>HB6.out) ?_;clear hK K
   try simp only [Act.put,sA,sB,sC]
   have R6:=(HC4.out _ HB6.out).2.2.2;obtain ⟨y0,y1,y2,y3,y4⟩:=Qbx R6;have fy3:=fzR 3 R6;have fy4:=fzR 4 R6;refine onE (i:=7) rfl (fun K hK=>?_);go_simp;refine hK.out _ _ (fun h=>absurd rfl h) ?_;clear hK K
   try simp only [Act.put,sA,sB,sC]
   refine Qar (by kernel_rfl) ?_ _;obtain ⟨H7,hH7⟩:∃ H,Qbp h l (thH vv wt) (thL vv wt)=H:=⟨_,rfl⟩;obtain ⟨L7,hL7⟩:∃ H,Qbu l (thL vv wt)=H:=⟨_,rfl⟩;have HH7:=Qaa hH7;have HL7:=Qaa hL7;rw [hH7,hL7];clear hH7 hL7;generalize hw7:(w6.setCell ⟨sg,3,none⟩ (.int .i64 H7)).setCell ⟨sg,4,none⟩ (.int .u64 L7)=w7
   have S7:w7.heap[sg]?=some (.cells #[.int .u64 Z4,.slice ao5 n5 c5,.slice ao2 m2 c2,.int .i64 H7,.int .u64 L7] 43 (0,0)):=by
    rw [<- hw7];exact ZZl _ sg 4 _ _ _ (ZZl w6 sg 3 _ _ _ R6)
   have hg7:w6.grownBy w7 (some sg):=by rw [<- hw7];exact (QaX _ _ _ _).trans (QaX _ _ _ _)
   have R7:w7.heap[w.heap.size+1+1]?=some (.cells Qav 43 (0,0)):=by
    have hR:=(HC4.out _ HB6.out).2.2.1;rw [hg7.block _ (Array.getElem?_eq_some_iff.1 hR).1 (fun e=>by have:=Option.some.inj e;omega)];exact hR
   have T7:Below w.heap.size w w7:=(Qad HT4.out HB6.out).grown hg7 (Qad HT4.out HB6.out).size (fun k e=>by cases e;omega);have hoP:=HoP.out.past HB6.out;have hoN:=HoN.out.past HB6.out;have hP7:=hoP.kept hg7 (.inr (hoP.ne R6 (by decide)));have hN7:=hoN.kept hg7 (.inr (hoN.ne R6 (by decide)));have HP7:=Qaa hP7;have HN7:=Qaa hN7;have HT7:=Qaa T7;have HR7:=Qaa R7;obtain ⟨g0,g1,g2,g3,g4⟩:=Qbx S7;obtain ⟨q0,q1,q2,q3,q4⟩:=Qbx R7;obtain ⟨fr0,fr1,fr2,fr3,fr4⟩:=fA5 R7;clear S7 hg7 R7 T7 hoP hoN hP7 hN7 hw7 y0 y1 y2 y3 y4 fy3 fy4 R6;go_wp2;refine bodyPost_ret (v:=.agg #[.int .u64 Z4,.slice ao5 n5 c5,.slice ao2 m2 c2,.int .i64 H7,.int .u64 L7]) (by simp [results,Tryz.results289,go_sem,q0,q1,q2,q3,q4]) rfl ⟨_,rfl,?_,.inl ⟨HOk.out,?_⟩⟩
   ·repeat (refine Below.setCell ?_ (by simp <;> omega) _)
    exact HT7.out
   ·rw [HH7.out,HL7.out,HZ4.out]
    refine ⟨_,_,n5,m2,rfl,?_,?_,Hap.out⟩
    ·have hne:=HP7.out.ne HR7.out (by decide)
     repeat (refine OwnB.set ?_ hne _)
     exact HP7.out
    ·have hne:=HN7.out.ne HR7.out (by decide)
     repeat (refine OwnB.set ?_ hne _)
     exact HN7.out
  ·have hz4:Hid (Qec z vv wt=z):=if_neg (by omega)
   have hP4:Hid (QoJ P vv wt=P):=if_neg (by omega);have HN0:=Qaa hN0;have d0:(vv == 0)=false:=ZZf.2 (by omega);have d1:decide (0<vv)=false:=ZZg (by omega);have dm:IntKind.i64.wrap (-vv)=-vv:=by rw [IntKind.wrap_i64];omega
   go_wp2_with (first
    | (go_at_call 124;refine (Qco _ _ hvv).mono ?_;rintro e w4 ⟨rfl,hw⟩;obtain rfl:=hw.symm;rw [d2]))
   have HS0:(fun W=>Below w3.heap.size w3 W) w3.drew:=(ZZb _ _).drew;refine Qaj (fun W=>Below w3.heap.size w3 W) 8 (by kernel_rfl) ?_;refine tkL (i:=0) (v:=.func (.func 292) #[] #[.pointer (some ⟨w.heap.size+1,0,none⟩)]) rfl rfl HS0 (fun W hW=>?_) ?_
   ·obtain ⟨⟨x0,x1,x2,x3,x4⟩,x5,x6,x7⟩:=HC.out W hW
    go_simp
   refine tkL (i:=1) (v:=.pointer (some ⟨w.heap.size,2,none⟩)) rfl rfl HS0 (fun W hW=>?_) ?_
   ·obtain ⟨⟨x0,x1,x2,x3,x4⟩,x5,x6,x7⟩:=HC.out W hW
    go_simp
   refine tkL (i:=2) (v:=.slice na nn nc) rfl rfl HS0 (fun W hW=>?_) ?_
   ·obtain ⟨⟨x0,x1,x2,x3,x4⟩,x5,x6,x7⟩:=HC.out W hW
    go_simp
   simp only [sA,sB,sC];refine tkL (i:=3) (v:=.int .i64 vv) rfl rfl HS0 (fun W hW=>?_) ?_
   ·obtain ⟨⟨x0,x1,x2,x3,x4⟩,x5,x6,x7⟩:=HC.out W hW
    go_simp
   refine tkL (i:=4) (v:=.int .i64 (-vv)) rfl rfl HS0 (fun W hW=>?_) ?_
   ·obtain ⟨⟨x0,x1,x2,x3,x4⟩,x5,x6,x7⟩:=HC.out W hW
    go_simp
   simp only [sA,sB,sC];refine onE (i:=5) rfl (fun K hK=>?_);go_simp;refine (QcN _ _ (by unfold I64;omega)).mono ?_;rintro e w4 ⟨rfl,rfl⟩;dsimp only;refine hK.out _ _ (fun _=>HS0) ?_;clear hK K
   try simp only [Act.put,sA,sB,sC]
   refine onE (i:=6) rfl (fun K hK=>?_);go_simp;refine (Qiy (Q:=N) _ _ _ hn l30N (Qae HN.out (Qad HT3.out HS0)) KN.out (by have:=Qe7 (-vv);unfold I64;omega) hwt (HC.out _ HS0).2.1).mono ?_;rintro e w5 ⟨v5,n5,rfl,ho5,hb5⟩;dsimp only;have HB5:=Qaa ((HS0:Below w3.heap.size w3 w3.drew).trans hb5);have HO5:=Qaa (ho5.le (B':=w.heap.size) (by show w.heap.size<=w3.heap.size;have:=HT3.out.size;omega));have HF5:=Qaa (fun q (h:Value.ownBlock v5=some q)=>(show w3.heap.size<=q from (ho5.lt q h).1));obtain ⟨ao5,c5,rfl⟩:=ho5.any;clear ho5 hb5;refine hK.out _ _ (fun _=>HB5.out) ?_;clear hK K
   try simp only [Act.put,sA,sB,sC]
   refine onE (i:=7) rfl (fun K hK=>?_);go_simp;refine hK.out _ _ (fun _=>HB5.out) ?_;clear hK K
   try simp only [Act.put,sA,sB,sC]
   have R5:=(HC.out _ HB5.out).2.2.2;obtain ⟨q0,q1,q2,q3,q4⟩:=Qbx R5;have f1:=fzR 2 R5;refine onE (i:=8) rfl (fun K hK=>?_);go_simp;refine hK.out _ _ (fun h=>absurd rfl h) ?_;clear hK K
   try simp only [Act.put,sA,sB,sC]
   refine Qar (by kernel_rfl) ?_ _;generalize hw4:w5.setCell ⟨sg,2,none⟩ (.slice ao5 n5 c5)=w4;have hg4:w3.grownBy w4 (some sg):=by rw [<- hw4];exact World.grownBy.trans ⟨HB5.out.os,HB5.out.tape,HB5.out.output,HB5.out.size,fun k hk _=>HB5.out.block k hk⟩ (QaX _ _ _ _)
   have hr4:w4.heap[sg]?=some (.cells #[.int .u64 (Qec z vv wt),.slice ao1 m1 c1,.slice ao5 n5 c5,.int .i64 h,.int .u64 l] 43 (0,0)):=by
    rw [<- hw4,hz4.out];exact ZZl w5 sg 2 _ _ _ R5
   have hne5:Value.ownBlock (.slice ao5 n5 c5)≠some sg:=HO5.out.ne R5 (by decide)
   have hoN:OwnB w4 w.heap.size (.slice ao5 n5 c5) n5 (Qof N vv wt):=by
    rw [<- hw4,Qof,if_pos HN0.out];exact HO5.out.set hne5 _
   have hoP:OwnB w4 w.heap.size (.slice ao1 m1 c1) m1 (QoJ P vv wt):=by
    rw [<- hw4,hP4.out];have h5:=HO1.out.past HB5.out;exact h5.set (h5.ne R5 (by decide)) _
   have hap:QdX (.slice ao1 m1 c1) (.slice ao5 n5 c5):=fun k e1 e2=>by
    have h1:=HF5.out k e2;have h2:=(HO1.out.lt k e1).2;omega
   clear HO1 HO2 hw4 HO5 HF5 R5 q0 q1 q2 q3 q4 f1 hne5 HB5 hz4 hP4 g0 g1 g2 g3 g4 fs0 HS0;obtain ⟨K4,N4,R4⟩:=HsW.out _ hg4;have hT4:Below w.heap.size w w4:=HT3.out.grown hg4 HT3.out.size (fun k e=>by cases e;omega);have hlt4:sg<w4.heap.size:=(ZZc.1 hr4).1;have hC4:∀ W,Below w4.heap.size w4 W->Qa4 W w.heap.size z (.slice pa pn pc) (.slice na nn nc) h l/\QdT W (w.heap.size+1) wt/\W.heap[w.heap.size+1+1]?=some (.cells Qav 43 (0,0))/\W.heap[sg]?=some (.cells #[.int .u64 (Qec z vv wt),.slice ao1 m1 c1,.slice ao5 n5 c5,.int .i64 h,.int .u64 l] 43 (0,0)):=fun W hW=>⟨Qaz K4 hW,Qab hW N4,by rw [hW.block _ (by omega)];exact R4,by rw [hW.block _ hlt4];exact hr4⟩;have HC4:=Qaa hC4;have HT4:=Qaa hT4;have HoP:=Qaa hoP;have HoN:=Qaa hoN;have Hap:=Qaa hap;obtain ⟨Z4,hZ4⟩:∃ Z,Qec z vv wt=Z:=⟨_,rfl⟩;rw [hZ4] at HC4;have HZ4:=Qaa hZ4;clear hC4 hT4 hoP hoN hap hr4 hg4 K4 N4 R4 hZ4 HC;have HS0:(fun W=>Below w4.heap.size w4 W) w4.drew:=(ZZb _ _).drew;go_wp2_with fail;refine Qaj (fun W=>Below w4.heap.size w4 W) 7 (by kernel_rfl) ?_;refine tkL (i:=0) (v:=.pointer (some ⟨w.heap.size,3,none⟩)) rfl rfl HS0 (fun W hW=>?_) ?_
   ·obtain ⟨⟨x0,x1,x2,x3,x4⟩,x5,x6,x7⟩:=HC4.out W hW
    go_simp
   refine tkL (i:=1) (v:=.agg #[.int .i64 h,.int .u64 l]) rfl rfl HS0 (fun W hW=>?_) ?_
   ·obtain ⟨⟨x0,x1,x2,x3,x4⟩,x5,x6,x7⟩:=HC4.out W hW
    go_simp
   refine tkL (i:=2) (v:=.int .i64 vv) rfl rfl HS0 (fun W hW=>?_) ?_
   ·obtain ⟨⟨x0,x1,x2,x3,x4⟩,x5,x6,x7⟩:=HC4.out W hW
    go_simp
   simp only [sA,sB,sC];refine tkL (i:=3) (v:=.int .u64 wt) rfl rfl HS0 (fun W hW=>?_) ?_
   ·obtain ⟨⟨x0,x1,x2,x3,x4⟩,x5,x6,x7⟩:=HC4.out W hW
    go_simp
   simp only [sA,sB,sC];refine onE (i:=4) rfl (fun K hK=>?_);go_simp;refine (Qb1 _ _ hvv hwt _).mono ?_;rintro e w5 ⟨rfl,hb5⟩;dsimp only;have HB5:=Qaa ((HS0:Below w4.heap.size w4 w4.drew).trans hb5);clear hb5;refine hK.out _ _ (fun _=>HB5.out) ?_;clear hK K
   try simp only [Act.put,sA,sB,sC]
   refine onE (i:=5) rfl (fun K hK=>?_);go_simp;refine (QbJ _ _ _ _ _ hl0 (show U64 (thL vv wt) from Qd4 _)).mono ?_;rintro e w6 ⟨rfl,hb6⟩;dsimp only;have HB6:=Qaa (Qad HB5.out hb6);clear hb6;refine hK.out _ _ (fun _=>HB6.out) ?_;clear hK K
   try simp only [Act.put,sA,sB,sC]
   refine onE (i:=6) rfl (fun K hK=>?_);go_simp;refine hK.out _ _ (fun _=>HB6.out) ?_;clear hK K
   try simp only [Act.put,sA,sB,sC]
   have R6:=(HC4.out _ HB6.out).2.2.2;obtain ⟨y0,y1,y2,y3,y4⟩:=Qbx R6;have fy3:=fzR 3 R6;have fy4:=fzR 4 R6;refine onE (i:=7) rfl (fun K hK=>?_);go_simp;refine hK.out _ _ (fun h=>absurd rfl h) ?_;clear hK K
   try simp only [Act.put,sA,sB,sC]
   refine Qar (by kernel_rfl) ?_ _;obtain ⟨H7,hH7⟩:∃ H,Qbp h l (thH vv wt) (thL vv wt)=H:=⟨_,rfl⟩;obtain ⟨L7,hL7⟩:∃ H,Qbu l (thL vv wt)=H:=⟨_,rfl⟩;have HH7:=Qaa hH7;have HL7:=Qaa hL7;rw [hH7,hL7];clear hH7 hL7;generalize hw7:(w6.setCell ⟨sg,3,none⟩ (.int .i64 H7)).setCell ⟨sg,4,none⟩ (.int .u64 L7)=w7
   have S7:w7.heap[sg]?=some (.cells #[.int .u64 Z4,.slice ao1 m1 c1,.slice ao5 n5 c5,.int .i64 H7,.int .u64 L7] 43 (0,0)):=by
    rw [<- hw7];exact ZZl _ sg 4 _ _ _ (ZZl w6 sg 3 _ _ _ R6)
   have hg7:w6.grownBy w7 (some sg):=by rw [<- hw7];exact (QaX _ _ _ _).trans (QaX _ _ _ _)
   have R7:w7.heap[w.heap.size+1+1]?=some (.cells Qav 43 (0,0)):=by
    have hR:=(HC4.out _ HB6.out).2.2.1;rw [hg7.block _ (Array.getElem?_eq_some_iff.1 hR).1 (fun e=>by have:=Option.some.inj e;omega)];exact hR
   have T7:Below w.heap.size w w7:=(Qad HT4.out HB6.out).grown hg7 (Qad HT4.out HB6.out).size (fun k e=>by cases e;omega);have hoP:=HoP.out.past HB6.out;have hoN:=HoN.out.past HB6.out;have hP7:=hoP.kept hg7 (.inr (hoP.ne R6 (by decide)));have hN7:=hoN.kept hg7 (.inr (hoN.ne R6 (by decide)));have HP7:=Qaa hP7;have HN7:=Qaa hN7;have HT7:=Qaa T7;have HR7:=Qaa R7;obtain ⟨g0,g1,g2,g3,g4⟩:=Qbx S7;obtain ⟨q0,q1,q2,q3,q4⟩:=Qbx R7;obtain ⟨fr0,fr1,fr2,fr3,fr4⟩:=fA5 R7;clear S7 hg7 R7 T7 hoP hoN hP7 hN7 hw7 y0 y1 y2 y3 y4 fy3 fy4 R6;go_wp2;refine bodyPost_ret (v:=.agg #[.int .u64 Z4,.slice ao1 m1 c1,.slice ao5 n5 c5,.int .i64 H7,.int .u64 L7]) (by simp [results,Tryz.results289,go_sem,q0,q1,q2,q3,q4]) rfl ⟨_,rfl,?_,.inl ⟨HOk.out,?_⟩⟩
   ·repeat (refine Below.setCell ?_ (by simp <;> omega) _)
    exact HT7.out
   ·rw [HH7.out,HL7.out,HZ4.out]
    refine ⟨_,_,m1,n5,rfl,?_,?_,Hap.out⟩
    ·have hne:=HP7.out.ne HR7.out (by decide)
     repeat (refine OwnB.set ?_ hne _)
     exact HP7.out
    ·have hne:=HN7.out.ne HR7.out (by decide)
     repeat (refine OwnB.set ?_ hne _)
     exact HN7.out
def Qcz (P:List Bn) (v wt:Int):List Bn:=if 0<v then QaJ (mrg P [(Qc8 v,wt)]) else P
def Qcy (N:List Bn) (v wt:Int):List Bn:=if v<0 then QaJ (mrg N [(Qc8 (-v),wt)]) else N
theorem QkF (w:World) (t:TypeId) (a u:Int):Qay (w.alloc (.cells #[.int .i64 a,.int .u64 u] t)) (some ⟨w.heap.size,0,none⟩) [(a,u)]:=fun _=>⟨w.heap.size,0,rfl,fun i x hx=>by
 obtain ⟨rfl,rfl⟩:i=0/\x=(a,u):=by
  cases i with
  | zero=>exact ⟨rfl,by simpa using hx.symm⟩
  | succ j=>simp at hx
 exact Qfo w t a u⟩
theorem Qlr {w:World} {z h l vv wt:Int} {pa na:Option Addr} {pn pc nn nc:Nat} {P N:List Bn} (hz:U64 z) (hl0:U64 l) (hvv:I64 vv) (hwt:U64 wt) (hp:P.length=pn) (hn:N.length=nn) (lp:pn<=30) (ln:nn<=30) (hP:Qay w pa P) (hN:Qay w na N) (kP:∀ x∈P,Qbk x) (kN:∀ x∈N,Qbk x) (hv9:-999999999999999999<=vv/\vv<=999999999999999999) (cA:pa=none->pc=0) (cA':na=none->nc=0) :
  Calls Tryz.prog 136 #[.agg #[.int .u64 z,.slice pa pn pc,.slice na nn nc,.int .i64 h,.int .u64 l],.int .i64 vv,.int .u64 wt] w fun e w'=>∃ v,e=.returned v/\Qef w' w.heap.size v (Qec z vv wt) (Qcz P vv wt) (Qcy N vv wt) (Qbp h l (thH vv wt) (thL vv wt)) (Qbu l (thL vv wt))/\Below w.heap.size w w':=by
 have HP:=Qaa hP;have HN:=Qaa hN;have KP:=Qaa kP;have KN:=Qaa kN;have CA:=Qaa cA;have CA':=Qaa cA';clear hP hN kP kN cA cA';go_enter Tryz.func136,Tryz.ntmps136;go_wp2_with fail;generalize hW0:(w.alloc (Obj.cells #[.int .u64 z,.slice pa pn pc,.slice na nn nc,.int .i64 h,.int .u64 l] 43)).alloc (Obj.cells Qav 43)=W0;have T0:Below w.heap.size w W0:=by rw [<- hW0];exact ((Below.refl _ _).alloc (Nat.le_refl _) _).alloc (by simp) _
 have K0:Qa4 W0 w.heap.size z (.slice pa pn pc) (.slice na nn nc) h l:=by rw [<- hW0];exact Qaz (Qdk w _ _ _ _ _ _) ((ZZb _ _).alloc (ZZa _) _)
 have R0:W0.heap[w.heap.size+1]?=some (.cells Qav 43 (0,0)):=by rw [<- hW0];simpa using heap_alloc_new (w.alloc (Obj.cells #[.int .u64 z,.slice pa pn pc,.slice na nn nc,.int .i64 h,.int .u64 l] 43)) (Obj.cells Qav 43)
 have hsz0:W0.heap.size=w.heap.size+2:=by rw [<- hW0];simp
 clear hW0;have HT0:=Qaa T0;clear T0;refine (Qge hp hn (by omega) (by omega) (Qae HP.out HT0.out) (Qae HN.out HT0.out) CA.out CA'.out).mono ?_;rintro e w1 ⟨v1,rfl,⟨p1,n1,m1,m2,rfl,ho1,ho2,hap⟩,hb1⟩;obtain ⟨ao1,c1,rfl⟩:=ho1.any;obtain ⟨ao2,c2,rfl⟩:=ho2.any;have HT1:=Qaa (Qad HT0.out hb1);have K1:=Qaz K0 hb1;have R1:w1.heap[w.heap.size+1]?=some (.cells Qav 43 (0,0)):=by rw [hb1.block _ (by omega)];exact R0
 have hs1:w.heap.size+2<=w1.heap.size:=by have:=hb1.size;omega
 have HO1:=Qaa (ho1.le (B':=w.heap.size) (by omega));have HO2:=Qaa (ho2.le (B':=w.heap.size) (by omega));have HAp:=Qaa hap;clear hb1 ho1 ho2 hap K0 R0;go_wp2_with fail;generalize hW4:w1.alloc (Obj.cells #[.int .u64 z,.slice ao1 m1 c1,.slice ao2 m2 c2,.int .i64 h,.int .u64 l] 43)=w4;have hB4:Below w1.heap.size w1 w4:=by rw [<- hW4];exact (ZZb _ _).alloc (ZZa _) _
 have S4:w4.heap[w1.heap.size]?=some (.cells #[.int .u64 z,.slice ao1 m1 c1,.slice ao2 m2 c2,.int .i64 h,.int .u64 l] 43 (0,0)):=by rw [<- hW4];exact ZZk w1 _
 clear hW4;obtain ⟨sg,hsg⟩:∃ sg,sg=w1.heap.size:=⟨_,rfl⟩;rw [<- hsg] at S4 ⊢;have hs4:w.heap.size+2<=sg:=by omega
 have hlt4:sg<w4.heap.size:=(ZZc.1 S4).1;have HT4:=Qaa (Qad HT1.out hB4);have K4:=Qaz K1 hB4;have R4:w4.heap[w.heap.size+1]?=some (.cells Qav 43 (0,0)):=by rw [hB4.block _ (by omega)];exact R1
 have HO14:=Qaa (HO1.out.past hB4);have HO24:=Qaa (HO2.out.past hB4);have hC4:∀ W,Below w4.heap.size w4 W->Qa4 W w.heap.size z (.slice pa pn pc) (.slice na nn nc) h l/\W.heap[w.heap.size+1]?=some (.cells Qav 43 (0,0))/\W.heap[sg]?=some (.cells #[.int .u64 z,.slice ao1 m1 c1,.slice ao2 m2 c2,.int .i64 h,.int .u64 l] 43 (0,0)):=fun W hW=>⟨Qaz K4 hW,by rw [hW.block _ (by omega)];exact R4,by rw [hW.block _ hlt4];exact S4⟩;have HC4:=Qaa hC4;clear hC4 HO1 HO2 hB4 S4 R4 K4 K1 R1 hsg hs1 HT1;have HS0:(fun W=>Below w4.heap.size w4 W) w4.drew:=(ZZb _ _).drew;refine Qaj (fun W=>Below w4.heap.size w4 W) 7 (by kernel_rfl) ?_;refine tkL (i:=0) (v:=.pointer (some ⟨w.heap.size,3,none⟩)) rfl rfl HS0 (fun W hW=>?_) ?_
 ·obtain ⟨⟨x0,x1,x2,x3,x4⟩,x5,x6⟩:=HC4.out W hW
  go_simp
 refine tkL (i:=1) (v:=.agg #[.int .i64 h,.int .u64 l]) rfl rfl HS0 (fun W hW=>?_) ?_
 ·obtain ⟨⟨x0,x1,x2,x3,x4⟩,x5,x6⟩:=HC4.out W hW
  go_simp
 refine tkL (i:=2) (v:=.int .i64 vv) rfl rfl HS0 (fun W hW=>?_) ?_
 ·obtain ⟨⟨x0,x1,x2,x3,x4⟩,x5,x6⟩:=HC4.out W hW
  go_simp
 simp only [sA,sB,sC];refine tkL (i:=3) (v:=.int .u64 wt) rfl rfl HS0 (fun W hW=>?_) ?_
 ·obtain ⟨⟨x0,x1,x2,x3,x4⟩,x5,x6⟩:=HC4.out W hW
  go_simp
 simp only [sA,sB,sC];refine onE (i:=4) rfl (fun K hK=>?_);go_simp;refine (Qev _ _ hvv hwt _).mono ?_;rintro e w5 ⟨rfl,hb5⟩;dsimp only;have HB5:=Qaa ((HS0:Below w4.heap.size w4 w4.drew).trans hb5);clear hb5;refine hK.out _ _ (fun _=>HB5.out) ?_;clear hK K
 try simp only [Act.put,sA,sB,sC]
 refine onE (i:=5) rfl (fun K hK=>?_);go_simp;refine (Qc4 _ _ _ _ _ hl0 (show U64 (thL vv wt) from Qd4 _)).mono ?_;rintro e w6 ⟨rfl,hb6⟩;dsimp only;have HB6:=Qaa (Qad HB5.out hb6);clear hb6;refine hK.out _ _ (fun _=>HB6.out) ?_;clear hK K
 try simp only [Act.put,sA,sB,sC]
 refine onE (i:=6) rfl (fun K hK=>?_);go_simp;refine hK.out _ _ (fun _=>HB6.out) ?_;clear hK K
 try simp only [Act.put,sA,sB,sC]
 have R6:=(HC4.out _ HB6.out).2.2;obtain ⟨y0,y1,y2,y3,y4⟩:=Qbx R6;have fy3:=fzR 3 R6;have fy4:=fzR 4 R6;refine onE (i:=7) rfl (fun K hK=>?_);go_simp;refine hK.out _ _ (fun h=>absurd rfl h) ?_;clear hK K
 try simp only [Act.put,sA,sB,sC]
 refine Qar (by kernel_rfl) ?_ _;obtain ⟨H7,hH7⟩:∃ H,Qbp h l (thH vv wt) (thL vv wt)=H:=⟨_,rfl⟩;obtain ⟨L7,hL7⟩:∃ H,Qbu l (thL vv wt)=H:=⟨_,rfl⟩;have HH7:=Qaa hH7;have HL7:=Qaa hL7;rw [hH7,hL7];clear hH7 hL7;generalize hw3:(w6.setCell ⟨sg,3,none⟩ (.int .i64 H7)).setCell ⟨sg,4,none⟩ (.int .u64 L7)=w3
 have S3:w3.heap[sg]?=some (.cells #[.int .u64 z,.slice ao1 m1 c1,.slice ao2 m2 c2,.int .i64 H7,.int .u64 L7] 43 (0,0)):=by
  rw [<- hw3];exact ZZl _ sg 4 _ _ _ (ZZl w6 sg 3 _ _ _ R6)
 have hg3:w6.grownBy w3 (some sg):=by rw [<- hw3];exact (QaX _ _ _ _).trans (QaX _ _ _ _)
 have hk3:∀ j,j<w6.heap.size->j≠sg->w3.heap[j]?=w6.heap[j]?:=fun j hj hne=>hg3.block j hj (fun e=>hne (Option.some.inj e));obtain ⟨K6,Q6,_⟩:=HC4.out _ HB6.out;have hb6z:=HB6.out.size;have R3:w3.heap[w.heap.size+1]?=some (.cells Qav 43 (0,0)):=by rw [hk3 _ (by omega) (by omega)];exact Q6
 have K3:Qa4 w3 w.heap.size z (.slice pa pn pc) (.slice na nn nc) h l:=by
  have hb0:∀ j,w3.cell? ⟨w.heap.size,j,none⟩=w6.cell? ⟨w.heap.size,j,none⟩:=fun j=>World.cell?_of_block (w:=w6) (hk3 w.heap.size (by omega) (by omega));exact ⟨by rw [hb0];exact K6.1,by rw [hb0];exact K6.2.1,by rw [hb0];exact K6.2.2.1,by rw [hb0];exact K6.2.2.2.1,by rw [hb0];exact K6.2.2.2.2⟩
 have HT3:=Qaa ((Qad HT4.out HB6.out).grown hg3 (Qad HT4.out HB6.out).size (fun k e=>by cases e;omega));have hs3:sg<w3.heap.size:=(ZZc.1 S3).1;have o1:=HO14.out.past HB6.out;have o2:=HO24.out.past HB6.out;have HO1:=Qaa (o1.kept hg3 (.inr (o1.ne R6 (by decide))));have HO2:=Qaa (o2.kept hg3 (.inr (o2.ne R6 (by decide))));have hC:∀ W,Below w3.heap.size w3 W->Qa4 W w.heap.size z (.slice pa pn pc) (.slice na nn nc) h l/\W.heap[w.heap.size+1]?=some (.cells Qav 43 (0,0))/\W.heap[sg]?=some (.cells #[.int .u64 z,.slice ao1 m1 c1,.slice ao2 m2 c2,.int .i64 H7,.int .u64 L7] 43 (0,0)):=fun W hW=>⟨Qaz K3 hW,by rw [hW.block _ (by omega)];exact R3,by rw [hW.block _ hs3];exact S3⟩;have HC:=Qaa hC;have HS3:=Qaa S3;have fs0:=fzR 0 S3;obtain ⟨g0,g1,g2,g3,g4⟩:=Qbx S3
 have hfin:∀ (w9:World) (Z:Int) (p n:Value) (a b:Nat) (P9 N9:List Bn),w3.grownBy w9 (some sg)->w9.heap[sg]?=some (.cells #[.int .u64 Z,p,n,.int .i64 H7,.int .u64 L7] 43 (0,0))->OwnB w9 w.heap.size p a P9->OwnB w9 w.heap.size n b N9->QdX p n ->
   Qef (((((w9.setCell ⟨w.heap.size+1,0,none⟩ (.int .u64 Z)).setCell ⟨w.heap.size+1,1,none⟩ p).setCell ⟨w.heap.size+1,2,none⟩ n).setCell ⟨w.heap.size+1,3,none⟩ (.int .i64 H7)).setCell ⟨w.heap.size+1,4,none⟩ (.int .u64 L7)) w.heap.size (.agg #[.int .u64 Z,p,n,.int .i64 H7,.int .u64 L7]) Z P9 N9 H7 L7 /\
   Below w.heap.size w (((((w9.setCell ⟨w.heap.size+1,0,none⟩ (.int .u64 Z)).setCell ⟨w.heap.size+1,1,none⟩ p).setCell ⟨w.heap.size+1,2,none⟩ n).setCell ⟨w.heap.size+1,3,none⟩ (.int .i64 H7)).setCell ⟨w.heap.size+1,4,none⟩ (.int .u64 L7))/\w9.heap[w.heap.size+1]?=some (.cells Qav 43 (0,0)):=fun w9 Z p n a b P9 N9 hg hr hp9 hn9 hap9=>by
  have hR:w9.heap[w.heap.size+1]?=some (.cells Qav 43 (0,0)):=by rw [hg.block _ (by omega) (fun e=>by have:=Option.some.inj e;omega)];exact R3
  have q1:=hp9.ne hR (by decide);have q2:=hn9.ne hR (by decide);refine ⟨⟨p,n,a,b,rfl,((((hp9.set q1 _).set q1 _).set q1 _).set q1 _).set q1 _,((((hn9.set q2 _).set q2 _).set q2 _).set q2 _).set q2 _,hap9⟩,?_,hR⟩
  repeat (refine Below.setCell ?_ (by simp <;> omega) _)
  exact HT3.out.grown hg HT3.out.size (fun k e=>by cases e;omega)
 have HFin:=Qaa hfin;clear hfin hC o1 o2 hw3 hg3 hk3 K6 Q6 hb6z S3 R6 y0 y1 y2 y3 y4 fy3 fy4 HC4 HO14 HO24;have c3:vv=0∨0<vv∨vv<0:=by omega
 rcases c3 with hv0 | hP0 | hN0
 ·have hz4:Hid (Qec z vv wt=QaA z wt):=if_pos hv0
  have hP4:Hid (Qcz P vv wt=P):=if_neg (by omega);have hN4:Hid (Qcy N vv wt=N):=if_neg (by omega);have d0:(vv == 0)=true:=beq_iff_eq.2 hv0;have d1:decide (0<vv)=false:=ZZg (by omega);have d2:decide (vv<0)=false:=ZZg (by omega);clear hv0;obtain ⟨w9,hw9⟩:∃ W,w3.setCell ⟨sg,0,none⟩ (.int .u64 (QaA z wt))=W:=⟨_,rfl⟩;have hg9:w3.grownBy w9 (some sg):=by rw [<- hw9];exact QaX _ _ _ _
  have hr9:w9.heap[sg]?=some (.cells #[.int .u64 (QaA z wt),.slice ao1 m1 c1,.slice ao2 m2 c2,.int .i64 H7,.int .u64 L7] 43 (0,0)):=by rw [<- hw9];exact ZZl w3 sg 0 _ _ _ HS3.out
  have hoP:OwnB w9 w.heap.size (.slice ao1 m1 c1) m1 P:=by rw [<- hw9];exact HO1.out.set (HO1.out.ne HS3.out (by decide)) _
  have hoN:OwnB w9 w.heap.size (.slice ao2 m2 c2) m2 N:=by rw [<- hw9];exact HO2.out.set (HO2.out.ne HS3.out (by decide)) _
  have hap9:=HAp.out;obtain ⟨k0,k1,k2,k3,k4⟩:=K3;obtain ⟨F1,F2,R9⟩:=HFin.out w9 (QaA z wt) (.slice ao1 m1 c1) (.slice ao2 m2 c2) m1 m2 _ _ hg9 hr9 hoP hoN hap9;obtain ⟨u0,u1,u2,u3,u4⟩:=Qbx hr9;obtain ⟨q0,q1,q2,q3,q4⟩:=Qbx R9;obtain ⟨fr0,fr1,fr2,fr3,fr4⟩:=fA5 R9;have HF1:=Qaa F1;have HF2:=Qaa F2;clear F1 F2 R9 hr9 hg9 hoP hoN hap9;go_wp2_with (go_at_call 132;refine (QbF _ _ hz hwt _).mono ?_;rintro e w8 ⟨rfl,hw⟩;obtain rfl:=hw.symm);refine bodyPost_ret (v:=.agg #[.int .u64 (QaA z wt),.slice ao1 m1 c1,.slice ao2 m2 c2,.int .i64 H7,.int .u64 L7]) (by simp [results,Tryz.results136,go_sem,q0,q1,q2,q3,q4]) rfl ⟨_,rfl,?_,HF2.out⟩;rw [HH7.out,HL7.out,hz4.out,hP4.out,hN4.out];exact HF1.out
 ·have hz4:Hid (Qec z vv wt=z):=if_neg (by omega)
  have hN4:Hid (Qcy N vv wt=N):=if_neg (by omega);have HV0:=Qaa hP0;have d0:(vv == 0)=false:=ZZf.2 (by omega);go_wp2_with fail;have HS0:(fun W=>Below w3.heap.size w3 W) w3.drew:=(ZZb _ _).drew;refine Qaj (fun W=>Below w3.heap.size w3 W) 9 (by kernel_rfl) ?_;refine tkL (i:=0) (v:=.pointer (some ⟨w.heap.size,1,none⟩)) rfl rfl HS0 (fun W hW=>?_) ?_
  ·obtain ⟨⟨x0,x1,x2,x3,x4⟩,x5,x6⟩:=HC.out W hW
   go_simp
  refine tkL (i:=1) (v:=.slice pa pn pc) rfl rfl HS0 (fun W hW=>?_) ?_
  ·obtain ⟨⟨x0,x1,x2,x3,x4⟩,x5,x6⟩:=HC.out W hW
   go_simp
  refine tkL (i:=2) (v:=.int .i64 vv) rfl rfl HS0 (fun W hW=>?_) ?_
  ·obtain ⟨⟨x0,x1,x2,x3,x4⟩,x5,x6⟩:=HC.out W hW
   go_simp
  simp only [sA,sB,sC];refine tkL (i:=4) (v:=.int .u64 wt) rfl rfl HS0 (fun W hW=>?_) ?_
  ·obtain ⟨⟨x0,x1,x2,x3,x4⟩,x5,x6⟩:=HC.out W hW
   go_simp
  simp only [sA,sB,sC];refine onE (i:=3) rfl (fun K hK=>?_);go_simp;refine (QbV _ _ (by unfold I64;omega)).mono ?_;rintro e w4 ⟨rfl,rfl⟩;dsimp only;refine hK.out _ _ (fun _=>HS0) ?_;clear hK K
  try simp only [Act.put,sA,sB,sC]
  refine tkS (i:=5) (v:=.agg #[.int .i64 (Qc8 vv),.int .u64 wt]) rfl rfl HS0 ?_;simp only [sA,sB,sC];refine onE (i:=6) rfl (fun K hK=>?_);go_simp;have hba:Below w3.heap.size w3 (w3.drew.alloc (.cells #[.int .i64 (Qc8 vv),.int .u64 wt] 199)):=HS0.alloc (ZZa _) _;have HBA:=Qaa hba;clear hba;refine hK.out _ _ (fun _=>HBA.out) ?_;clear hK K
  try simp only [Act.put,sA,sB,sC]
  refine onE (i:=7) rfl (fun K hK=>?_);go_simp;refine (Qb3 _ _ _ _ hp (by rfl) lp (by omega) (Qae HP.out (Qad HT3.out HBA.out)) (QkF _ _ _ _) KP.out (fun x hx=>by obtain rfl:x=(Qc8 vv,wt):=(by simpa using hx);exact ⟨by have:=Qe7 vv;unfold I64;omega,hwt⟩)).mono ?_;rintro e w5 ⟨v5,n5,rfl,hr5,hn5,hb5⟩;have ho5:=OwnB.of hr5 hn5;clear hr5 hn5;dsimp only;have HB5:=Qaa (Qad HBA.out hb5);have HO5:=Qaa (ho5.le (B':=w.heap.size) (by have:=HT3.out.size;have:=HBA.out.size;omega));have HF5:=Qaa (fun q (h:Value.ownBlock v5=some q)=>(show w3.heap.size<=q from Nat.le_trans HBA.out.size (ho5.lt q h).1));obtain ⟨ao5,c5,rfl⟩:=ho5.any;clear ho5 hb5;refine hK.out _ _ (fun _=>HB5.out) ?_;clear hK K
  try simp only [Act.put,sA,sB,sC]
  refine onE (i:=8) rfl (fun K hK=>?_);go_simp;refine hK.out _ _ (fun _=>HB5.out) ?_;clear hK K
  try simp only [Act.put,sA,sB,sC]
  have R5:=(HC.out _ HB5.out).2.2;obtain ⟨q0,q1,q2,q3,q4⟩:=Qbx R5;have f1:=fzR 1 R5;refine onE (i:=9) rfl (fun K hK=>?_);go_simp;refine hK.out _ _ (fun h=>absurd rfl h) ?_;clear hK K
  try simp only [Act.put,sA,sB,sC]
  refine Qar (by kernel_rfl) ?_ _;generalize hw9:w5.setCell ⟨sg,1,none⟩ (.slice ao5 n5 c5)=w9;have hg9:w3.grownBy w9 (some sg):=by rw [<- hw9];exact World.grownBy.trans ⟨HB5.out.os,HB5.out.tape,HB5.out.output,HB5.out.size,fun k hk _=>HB5.out.block k hk⟩ (QaX _ _ _ _)
  have hr9:w9.heap[sg]?=some (.cells #[.int .u64 z,.slice ao5 n5 c5,.slice ao2 m2 c2,.int .i64 H7,.int .u64 L7] 43 (0,0)):=by rw [<- hw9];exact ZZl w5 sg 1 _ _ _ R5
  have hne5:Value.ownBlock (.slice ao5 n5 c5)≠some sg:=HO5.out.ne R5 (by decide)
  have hoP:OwnB w9 w.heap.size (.slice ao5 n5 c5) n5 (Qcz P vv wt):=by
   rw [<- hw9,Qcz,if_pos HV0.out];exact HO5.out.set hne5 _
  have hoN:OwnB w9 w.heap.size (.slice ao2 m2 c2) m2 N:=by
   rw [<- hw9];have h5:=HO2.out.past HB5.out;exact h5.set (h5.ne R5 (by decide)) _
  have hap9:QdX (.slice ao5 n5 c5) (.slice ao2 m2 c2):=fun k e1 e2=>by
   have h1:=HF5.out k e1;have h2:=(HO2.out.lt k e2).2;omega
  have d2:decide (vv<0)=false:=ZZg (by have:=HV0.out;omega);clear hw9 hne5 R5 q0 q1 q2 q3 q4 f1;obtain ⟨F1,F2,R9⟩:=HFin.out w9 z (.slice ao5 n5 c5) (.slice ao2 m2 c2) n5 m2 _ _ hg9 hr9 hoP hoN hap9;obtain ⟨u0,u1,u2,u3,u4⟩:=Qbx hr9;obtain ⟨q0,q1,q2,q3,q4⟩:=Qbx R9;obtain ⟨fr0,fr1,fr2,fr3,fr4⟩:=fA5 R9;have HF1:=Qaa F1;have HF2:=Qaa F2;clear F1 F2 R9 hr9 hg9 hoP hoN hap9;go_wp2;refine bodyPost_ret (v:=.agg #[.int .u64 z,.slice ao5 n5 c5,.slice ao2 m2 c2,.int .i64 H7,.int .u64 L7]) (by simp [results,Tryz.results136,go_sem,q0,q1,q2,q3,q4]) rfl ⟨_,rfl,?_,HF2.out⟩;rw [HH7.out,HL7.out,hz4.out,hN4.out];exact HF1.out
 ·have hz4:Hid (Qec z vv wt=z):=if_neg (by omega)
  have hP4:Hid (Qcz P vv wt=P):=if_neg (by omega);have HV0:=Qaa hN0;have d0:(vv == 0)=false:=ZZf.2 (by omega);have d1:decide (0<vv)=false:=ZZg (by omega);have dm:IntKind.i64.wrap (-vv)=-vv:=by rw [IntKind.wrap_i64];omega
  go_wp2_with fail;have HS0:(fun W=>Below w3.heap.size w3 W) w3.drew:=(ZZb _ _).drew;refine Qaj (fun W=>Below w3.heap.size w3 W) 10 (by kernel_rfl) ?_;refine tkL (i:=0) (v:=.pointer (some ⟨w.heap.size,2,none⟩)) rfl rfl HS0 (fun W hW=>?_) ?_
  ·obtain ⟨⟨x0,x1,x2,x3,x4⟩,x5,x6⟩:=HC.out W hW
   go_simp
  refine tkL (i:=1) (v:=.slice na nn nc) rfl rfl HS0 (fun W hW=>?_) ?_
  ·obtain ⟨⟨x0,x1,x2,x3,x4⟩,x5,x6⟩:=HC.out W hW
   go_simp
  refine tkL (i:=2) (v:=.int .i64 vv) rfl rfl HS0 (fun W hW=>?_) ?_
  ·obtain ⟨⟨x0,x1,x2,x3,x4⟩,x5,x6⟩:=HC.out W hW
   go_simp
  simp only [sA,sB,sC];refine tkL (i:=3) (v:=.int .i64 (-vv)) rfl rfl HS0 (fun W hW=>?_) ?_
  ·obtain ⟨⟨x0,x1,x2,x3,x4⟩,x5,x6⟩:=HC.out W hW
   go_simp
  refine tkL (i:=5) (v:=.int .u64 wt) rfl rfl HS0 (fun W hW=>?_) ?_
  ·obtain ⟨⟨x0,x1,x2,x3,x4⟩,x5,x6⟩:=HC.out W hW
   go_simp
  simp only [sA,sB,sC];refine onE (i:=4) rfl (fun K hK=>?_);go_simp;refine (QbV _ _ (by unfold I64;omega)).mono ?_;rintro e w4 ⟨rfl,rfl⟩;dsimp only;refine hK.out _ _ (fun _=>HS0) ?_;clear hK K
  try simp only [Act.put,sA,sB,sC]
  refine tkS (i:=6) (v:=.agg #[.int .i64 (Qc8 (-vv)),.int .u64 wt]) rfl rfl HS0 ?_;simp only [sA,sB,sC];refine onE (i:=7) rfl (fun K hK=>?_);go_simp;have hba:Below w3.heap.size w3 (w3.drew.alloc (.cells #[.int .i64 (Qc8 (-vv)),.int .u64 wt] 199)):=HS0.alloc (ZZa _) _;have HBA:=Qaa hba;clear hba;refine hK.out _ _ (fun _=>HBA.out) ?_;clear hK K
  try simp only [Act.put,sA,sB,sC]
  refine onE (i:=8) rfl (fun K hK=>?_);go_simp;refine (Qb3 _ _ _ _ hn (by rfl) ln (by omega) (Qae HN.out (Qad HT3.out HBA.out)) (QkF _ _ _ _) KN.out (fun x hx=>by obtain rfl:x=(Qc8 (-vv),wt):=(by simpa using hx);exact ⟨by have:=Qe7 (-vv);unfold I64;omega,hwt⟩)).mono ?_;rintro e w5 ⟨v5,n5,rfl,hr5,hn5,hb5⟩;have ho5:=OwnB.of hr5 hn5;clear hr5 hn5;dsimp only;have HB5:=Qaa (Qad HBA.out hb5);have HO5:=Qaa (ho5.le (B':=w.heap.size) (by have:=HT3.out.size;have:=HBA.out.size;omega));have HF5:=Qaa (fun q (h:Value.ownBlock v5=some q)=>(show w3.heap.size<=q from Nat.le_trans HBA.out.size (ho5.lt q h).1));obtain ⟨ao5,c5,rfl⟩:=ho5.any;clear ho5 hb5;refine hK.out _ _ (fun _=>HB5.out) ?_;clear hK K
  try simp only [Act.put,sA,sB,sC]
  refine onE (i:=9) rfl (fun K hK=>?_);go_simp;refine hK.out _ _ (fun _=>HB5.out) ?_;clear hK K
  try simp only [Act.put,sA,sB,sC]
  have R5:=(HC.out _ HB5.out).2.2;obtain ⟨q0,q1,q2,q3,q4⟩:=Qbx R5;have f1:=fzR 2 R5;refine onE (i:=10) rfl (fun K hK=>?_);go_simp;refine hK.out _ _ (fun h=>absurd rfl h) ?_;clear hK K
  try simp only [Act.put,sA,sB,sC]
  refine Qar (by kernel_rfl) ?_ _;generalize hw9:w5.setCell ⟨sg,2,none⟩ (.slice ao5 n5 c5)=w9;have hg9:w3.grownBy w9 (some sg):=by rw [<- hw9];exact World.grownBy.trans ⟨HB5.out.os,HB5.out.tape,HB5.out.output,HB5.out.size,fun k hk _=>HB5.out.block k hk⟩ (QaX _ _ _ _)
  have hr9:w9.heap[sg]?=some (.cells #[.int .u64 z,.slice ao1 m1 c1,.slice ao5 n5 c5,.int .i64 H7,.int .u64 L7] 43 (0,0)):=by rw [<- hw9];exact ZZl w5 sg 2 _ _ _ R5
  have hne5:Value.ownBlock (.slice ao5 n5 c5)≠some sg:=HO5.out.ne R5 (by decide)
  have hoN:OwnB w9 w.heap.size (.slice ao5 n5 c5) n5 (Qcy N vv wt):=by
   rw [<- hw9,Qcy,if_pos HV0.out];exact HO5.out.set hne5 _
  have hoP:OwnB w9 w.heap.size (.slice ao1 m1 c1) m1 P:=by
   rw [<- hw9];have h5:=HO1.out.past HB5.out;exact h5.set (h5.ne R5 (by decide)) _
  have hap9:QdX (.slice ao1 m1 c1) (.slice ao5 n5 c5):=fun k e1 e2=>by
   have h1:=HF5.out k e2;have h2:=(HO1.out.lt k e1).2;omega
  clear hw9 hne5 R5 q0 q1 q2 q3 q4 f1;obtain ⟨F1,F2,R9⟩:=HFin.out w9 z (.slice ao1 m1 c1) (.slice ao5 n5 c5) m1 n5 _ _ hg9 hr9 hoP hoN hap9;obtain ⟨u0,u1,u2,u3,u4⟩:=Qbx hr9;obtain ⟨q0,q1,q2,q3,q4⟩:=Qbx R9;obtain ⟨fr0,fr1,fr2,fr3,fr4⟩:=fA5 R9;have HF1:=Qaa F1;have HF2:=Qaa F2;clear F1 F2 R9 hr9 hg9 hoP hoN hap9;go_wp2;refine bodyPost_ret (v:=.agg #[.int .u64 z,.slice ao1 m1 c1,.slice ao5 n5 c5,.int .i64 H7,.int .u64 L7]) (by simp [results,Tryz.results136,go_sem,q0,q1,q2,q3,q4]) rfl ⟨_,rfl,?_,HF2.out⟩;rw [HH7.out,HL7.out,hz4.out,hP4.out];exact HF1.out
theorem Qm0:∀ {L:List Bn} {q:Int},Qbt q L=true->Qc9 L/\∀ x∈L,q<x.1
 | [],_,_=>⟨Qc1,fun x hx=>by simp at hx⟩
 | y :: r,q,h=>by
  simp only [Qbt,Bool.and_eq_true,decide_eq_true_eq] at h;obtain ⟨⟨⟨h1,h2⟩,h3⟩,h4⟩:=h;obtain ⟨k1,k2⟩:=Qm0 h4;refine ⟨rise_cons.2 ⟨k2,k1⟩,fun x hx=>?_⟩;rcases List.mem_cons.1 hx with rfl | hx
  ·exact h1
  ·have:=k2 x hx;omega
theorem QiQ {L:List Bn} (h:QaS L=true):Qc9 L/\L.length<=30:=by
 unfold QaS at h;simp only [Bool.and_eq_true,decide_eq_true_eq] at h;exact ⟨(Qm0 h.2).1,h.1⟩
theorem QcI {P N:List Bn} (h:skB P N=true):(Qc9 P/\P.length<=30)/\Qc9 N/\N.length<=30:=by
 unfold skB at h;simp only [Bool.and_eq_true] at h;exact ⟨QiQ h.1,QiQ h.2⟩
theorem Qhx (x:Bn):Qc9 [x]:=rise_cons.2 ⟨fun y hy=>by simp at hy,Qc1⟩
theorem Qh5 {P N:List Bn} (hP:Qc9 P) (hN:Qc9 N):Qps P N=QaJ (mrg P N):=by
 unfold Qps;rw [QlK hP,QdA hN]
abbrev sk5 (w:World) (r:Nat) (Z:Int) (p n:Value) (H L:Int):World:=((((w.setCell ⟨r,0,none⟩ (.int .u64 Z)).setCell ⟨r,1,none⟩ p).setCell ⟨r,2,none⟩ n).setCell ⟨r,3,none⟩ (.int .i64 H)).setCell ⟨r,4,none⟩ (.int .u64 L)
theorem Qid {w w2:World} {r a b:Nat} {Z H L:Int} {p n:Value} {P N:List Bn} (hT:Below w.heap.size w w2) (hr:w2.heap[r]?=some (.cells Qav 43 (0,0))) (hwr:w.heap.size<=r) (hp:OwnB w2 w.heap.size p a P) (hn:OwnB w2 w.heap.size n b N) (hap:QdX p n) :
  Qef (sk5 w2 r Z p n H L) w.heap.size (.agg #[.int .u64 Z,p,n,.int .i64 H,.int .u64 L]) Z P N H L/\Below w.heap.size w (sk5 w2 r Z p n H L):=by
 have q1:=hp.ne hr (by decide);have q2:=hn.ne hr (by decide);refine ⟨⟨p,n,a,b,rfl,((((hp.set q1 _).set q1 _).set q1 _).set q1 _).set q1 _,((((hn.set q2 _).set q2 _).set q2 _).set q2 _).set q2 _,hap⟩,?_⟩
 repeat (refine Below.setCell ?_ hwr _)
 exact hT
def QiA (P N P' N':List Bn):Prop:=skB P N=true/\skB P' N'=true
theorem Qkf {w w1:World} {r:Nat} (hT:Below w.heap.size w w1) (hr:w1.heap[r]?=some (.cells Qav 43 (0,0))) (hwr:w.heap.size<=r) :
  Qef (sk5 w1 r 0 (.slice none 0 0) (.slice none 0 0) 0 0) w.heap.size (.agg #[.int .u64 0,.slice none 0 0,.slice none 0 0,.int .i64 0,.int .u64 0]) 0 [] [] 0 0/\Below w.heap.size w (sk5 w1 r 0 (.slice none 0 0) (.slice none 0 0) 0 0):=
 Qid (a:=0) (b:=0) hT hr hwr ⟨rfl,.inl ⟨rfl,rfl⟩⟩ ⟨rfl,.inl ⟨rfl,rfl⟩⟩ (fun k e=>by cases e)
theorem Qpx {w:World} {z h l z' h' l':Int} {pa na pb nb:Option Addr} {pn pc nn nc pm pd nm nd:Nat} {P N P' N':List Bn} (hz:U64 z) (hl0:U64 l) (hz':U64 z') (hl0':U64 l') (hp:P.length=pn) (hn:N.length=nn) (hp':P'.length=pm) (hn':N'.length=nm) (lp:pn<=30) (ln:nn<=30) (lp':pm<=30) (ln':nm<=30) (hP:Qay w pa P) (hN:Qay w na N) (hP':Qay w pb P') (hN':Qay w nb N') (kP:∀ x∈P,Qbk x) (kN:∀ x∈N,Qbk x) (kP':∀ x∈P',Qbk x) (kN':∀ x∈N',Qbk x) :
  Calls Tryz.prog 141 #[.agg #[.int .u64 z,.slice pa pn pc,.slice na nn nc,.int .i64 h,.int .u64 l],.agg #[.int .u64 z',.slice pb pm pd,.slice nb nm nd,.int .i64 h',.int .u64 l']] w fun e w'=>∃ v,e=.returned v/\Below w.heap.size w w'/\Qef w' w.heap.size v (QaA z z') (QaJ (mrg P P')) (QaJ (mrg N N')) (Qbp h l h' l') (Qbu l l'):=by
 have HP:=Qaa hP;have HN:=Qaa hN;have KP:=Qaa kP;have KN:=Qaa kN;have HP':=Qaa hP';have HN':=Qaa hN';have KP':=Qaa kP';have KN':=Qaa kN';clear hP hN kP kN hP' hN' kP' kN';go_enter Tryz.func141,Tryz.ntmps141;go_wp2_with fail;generalize hW0:((w.alloc (Obj.cells #[.int .u64 z,.slice pa pn pc,.slice na nn nc,.int .i64 h,.int .u64 l] 43)).alloc (Obj.cells #[.int .u64 z',.slice pb pm pd,.slice nb nm nd,.int .i64 h',.int .u64 l'] 43)).alloc (Obj.cells Qav 43)=W0;have T0:Below w.heap.size w W0:=by rw [<- hW0];exact (((Below.refl _ _).alloc (Nat.le_refl _) _).alloc (by simp) _).alloc (by simp;omega) _
 have K0:Qa4 W0 w.heap.size z (.slice pa pn pc) (.slice na nn nc) h l:=by rw [<- hW0];exact Qaz (Qdk w _ _ _ _ _ _) (((Below.refl _ _).alloc (Nat.le_refl _) _).alloc (by simp) _)
 have J0:Qa4 W0 (w.heap.size+1) z' (.slice pb pm pd) (.slice nb nm nd) h' l':=by
  rw [<- hW0];have:=Qdk (w.alloc (Obj.cells #[.int .u64 z,.slice pa pn pc,.slice na nn nc,.int .i64 h,.int .u64 l] 43)) 43 z' h' l' (.slice pb pm pd) (.slice nb nm nd);exact Qaz (by simpa using this) ((Below.refl _ _).alloc (Nat.le_refl _) _)
 have R0:W0.heap[w.heap.size+1+1]?=some (.cells Qav 43 (0,0)):=by rw [<- hW0];simpa using heap_alloc_new ((w.alloc (Obj.cells #[.int .u64 z,.slice pa pn pc,.slice na nn nc,.int .i64 h,.int .u64 l] 43)).alloc (Obj.cells #[.int .u64 z',.slice pb pm pd,.slice nb nm nd,.int .i64 h',.int .u64 l'] 43)) (Obj.cells Qav 43)
 have hsz0:W0.heap.size=w.heap.size+3:=by rw [<- hW0];simp
 clear hW0;have HT0:=Qaa T0;clear T0;have hC:∀ W,Below W0.heap.size W0 W->Qa4 W w.heap.size z (.slice pa pn pc) (.slice na nn nc) h l/\Qa4 W (w.heap.size+1) z' (.slice pb pm pd) (.slice nb nm nd) h' l'/\W.heap[w.heap.size+1+1]?=some (.cells Qav 43 (0,0)):=fun W hW=>⟨Qaz K0 hW,Qaz J0 hW,by rw [hW.block _ (by omega)];exact R0⟩;have HC:=Qaa hC;have HTW:=Qaa HT0.out;clear hC K0 J0 R0;have HS0:(fun W=>Below W0.heap.size W0 W) W0.drew:=(ZZb _ _).drew;refine Qaj (fun W=>Below W0.heap.size W0 W) 21 (by kernel_rfl) ?_;refine tkL (i:=0) (v:=.pointer (some ⟨w.heap.size,0,none⟩)) rfl rfl HS0 (fun W hW=>?_) ?_
 ·obtain ⟨⟨x0,x1,x2,x3,x4⟩,⟨y0,y1,y2,y3,y4⟩,_⟩:=HC.out W hW
  go_simp
 refine tkL (i:=1) (v:=.int .u64 z) rfl rfl HS0 (fun W hW=>?_) ?_
 ·obtain ⟨⟨x0,x1,x2,x3,x4⟩,⟨y0,y1,y2,y3,y4⟩,_⟩:=HC.out W hW
  go_simp
 refine tkL (i:=2) (v:=.pointer (some ⟨w.heap.size+1,0,none⟩)) rfl rfl HS0 (fun W hW=>?_) ?_
 ·obtain ⟨⟨x0,x1,x2,x3,x4⟩,⟨y0,y1,y2,y3,y4⟩,_⟩:=HC.out W hW
  go_simp
 simp only [sA,sB,sC];refine tkL (i:=3) (v:=.int .u64 z') rfl rfl HS0 (fun W hW=>?_) ?_
 ·obtain ⟨⟨x0,x1,x2,x3,x4⟩,⟨y0,y1,y2,y3,y4⟩,_⟩:=HC.out W hW
  go_simp
 refine tkL (i:=5) (v:=.pointer (some ⟨w.heap.size,1,none⟩)) rfl rfl HS0 (fun W hW=>?_) ?_
 ·obtain ⟨⟨x0,x1,x2,x3,x4⟩,⟨y0,y1,y2,y3,y4⟩,_⟩:=HC.out W hW
  go_simp
 refine tkL (i:=6) (v:=.slice pa pn pc) rfl rfl HS0 (fun W hW=>?_) ?_
 ·obtain ⟨⟨x0,x1,x2,x3,x4⟩,⟨y0,y1,y2,y3,y4⟩,_⟩:=HC.out W hW
  go_simp
 simp only [sA,sB,sC];refine tkL (i:=7) (v:=.pointer (some ⟨w.heap.size+1,1,none⟩)) rfl rfl HS0 (fun W hW=>?_) ?_
 ·obtain ⟨⟨x0,x1,x2,x3,x4⟩,⟨y0,y1,y2,y3,y4⟩,_⟩:=HC.out W hW
  go_simp
 refine tkL (i:=8) (v:=.slice pb pm pd) rfl rfl HS0 (fun W hW=>?_) ?_
 ·obtain ⟨⟨x0,x1,x2,x3,x4⟩,⟨y0,y1,y2,y3,y4⟩,_⟩:=HC.out W hW
  go_simp
 refine tkL (i:=10) (v:=.pointer (some ⟨w.heap.size,2,none⟩)) rfl rfl HS0 (fun W hW=>?_) ?_
 ·obtain ⟨⟨x0,x1,x2,x3,x4⟩,⟨y0,y1,y2,y3,y4⟩,_⟩:=HC.out W hW
  go_simp
 simp only [sA,sB,sC];refine tkL (i:=11) (v:=.slice na nn nc) rfl rfl HS0 (fun W hW=>?_) ?_
 ·obtain ⟨⟨x0,x1,x2,x3,x4⟩,⟨y0,y1,y2,y3,y4⟩,_⟩:=HC.out W hW
  go_simp
 refine tkL (i:=12) (v:=.pointer (some ⟨w.heap.size+1,2,none⟩)) rfl rfl HS0 (fun W hW=>?_) ?_
 ·obtain ⟨⟨x0,x1,x2,x3,x4⟩,⟨y0,y1,y2,y3,y4⟩,_⟩:=HC.out W hW
  go_simp
 refine tkL (i:=13) (v:=.slice nb nm nd) rfl rfl HS0 (fun W hW=>?_) ?_
 ·obtain ⟨⟨x0,x1,x2,x3,x4⟩,⟨y0,y1,y2,y3,y4⟩,_⟩:=HC.out W hW
  go_simp
 simp only [sA,sB,sC];refine tkL (i:=15) (v:=.pointer (some ⟨w.heap.size,3,none⟩)) rfl rfl HS0 (fun W hW=>?_) ?_
 ·obtain ⟨⟨x0,x1,x2,x3,x4⟩,⟨y0,y1,y2,y3,y4⟩,_⟩:=HC.out W hW
  go_simp
 refine tkL (i:=16) (v:=.agg #[.int .i64 h,.int .u64 l]) rfl rfl HS0 (fun W hW=>?_) ?_
 ·obtain ⟨⟨x0,x1,x2,x3,x4⟩,⟨y0,y1,y2,y3,y4⟩,_⟩:=HC.out W hW
  go_simp
 refine tkL (i:=17) (v:=.pointer (some ⟨w.heap.size+1,3,none⟩)) rfl rfl HS0 (fun W hW=>?_) ?_
 ·obtain ⟨⟨x0,x1,x2,x3,x4⟩,⟨y0,y1,y2,y3,y4⟩,_⟩:=HC.out W hW
  go_simp
 simp only [sA,sB,sC];refine tkL (i:=18) (v:=.agg #[.int .i64 h',.int .u64 l']) rfl rfl HS0 (fun W hW=>?_) ?_
 ·obtain ⟨⟨x0,x1,x2,x3,x4⟩,⟨y0,y1,y2,y3,y4⟩,_⟩:=HC.out W hW
  go_simp
 simp only [sA,sB,sC];refine onE (i:=4) rfl (fun K hK=>?_);go_simp;refine (QbF _ _ hz hz' _).mono ?_;rintro e w4 ⟨rfl,rfl⟩;dsimp only;refine hK.out _ _ (fun _=>HS0) ?_;clear hK K
 try simp only [Act.put,sA,sB,sC]
 refine onE (i:=9) rfl (fun K hK=>?_);go_simp;refine (Qb3 _ _ _ _ hp hp' (by omega) (by omega) (Qae HP.out (Qad HTW.out HS0)) (Qae HP'.out (Qad HTW.out HS0)) KP.out KP'.out).mono ?_;rintro e w5 ⟨v5,n5,rfl,hr5,hn5,hb5⟩;have ho5:=OwnB.of hr5 hn5;clear hr5 hn5;dsimp only;have HB5:=Qaa ((HS0:Below W0.heap.size W0 W0.drew).trans hb5);have HO5:=Qaa (ho5.le (B':=w.heap.size) HTW.out.size);obtain ⟨ao5,c5,rfl⟩:=ho5.any;clear ho5 hb5;refine hK.out _ _ (fun _=>HB5.out) ?_;clear hK K
 try simp only [Act.put,sA,sB,sC]
 refine onE (i:=14) rfl (fun K hK=>?_);go_simp;refine (Qb3 _ _ _ _ hn hn' (by omega) (by omega) (Qae HN.out (Qad HTW.out HB5.out)) (Qae HN'.out (Qad HTW.out HB5.out)) KN.out KN'.out).mono ?_;rintro e w6 ⟨v6,n6,rfl,hr6,hn6,hb6⟩;have ho6:=OwnB.of hr6 hn6;clear hr6 hn6;dsimp only;have HB6:=Qaa (Qad HB5.out hb6);have HO56:=Qaa (HO5.out.past hb6);have HAp:Hid (QdX (.slice ao5 n5 c5) v6):=(fun k e1 e2=>by have:=(HO5.out.lt k e1).2;have:=(ho6.lt k e2).1;omega:QdX (.slice ao5 n5 c5) v6);have HO6:=Qaa (ho6.le (B':=w.heap.size) (by have:=HTW.out.size;have:=HB5.out.size;omega));obtain ⟨ao6,c6,rfl⟩:=ho6.any;clear ho6 hb6;refine hK.out _ _ (fun _=>HB6.out) ?_;clear hK K
 try simp only [Act.put,sA,sB,sC]
 refine onE (i:=19) rfl (fun K hK=>?_);go_simp;refine (Qc4 _ _ _ _ _ hl0 hl0').mono ?_;rintro e w7 ⟨rfl,hb7⟩;dsimp only;have HB7:=Qaa (Qad HB6.out hb7);have HO57:=Qaa (HO56.out.past hb7);have HO67:=Qaa (HO6.out.past hb7);clear hb7;refine hK.out _ _ (fun _=>HB7.out) ?_;clear hK K
 try simp only [Act.put,sA,sB,sC]
 obtain ⟨Z7,hZ7⟩:∃ X,QaA z z'=X:=⟨_,rfl⟩;obtain ⟨H7,hH7⟩:∃ X,Qbp h l h' l'=X:=⟨_,rfl⟩;obtain ⟨L7,hL7⟩:∃ X,Qbu l l'=X:=⟨_,rfl⟩;rw [hZ7,hH7,hL7];have HE:=Qaa (And.intro hZ7 (And.intro hH7 hL7));clear hZ7 hH7 hL7;refine tkS (i:=20) (v:=.agg #[.int .u64 Z7,.slice ao5 n5 c5,.slice ao6 n6 c6,.int .i64 H7,.int .u64 L7]) rfl rfl HB7.out ?_;simp only [sA,sB,sC];have R7:=(HC.out _ HB7.out).2.2;have HF:=Qaa (Qid (Z:=Z7) (H:=H7) (L:=L7) (Qad HTW.out HB7.out) R7 (by omega) HO57.out HO67.out HAp.out);obtain ⟨q0,q1,q2,q3,q4⟩:=Qbx R7;obtain ⟨f0,f1,f2,f3,f4⟩:=fA5 R7;refine onE (i:=21) rfl (fun K hK=>?_);go_simp;refine hK.out _ _ (fun h=>absurd rfl h) ?_;clear hK K
 try simp only [Act.put,sA,sB,sC]
 refine Qar (by kernel_rfl) ?_ _;clear R7 HC;go_wp2;refine bodyPost_ret (v:=.agg #[.int .u64 Z7,.slice ao5 n5 c5,.slice ao6 n6 c6,.int .i64 H7,.int .u64 L7]) (by simp [results,Tryz.results141,go_sem,q0,q1,q2,q3,q4]) rfl ⟨_,rfl,HF.out.2,by rw [HE.out.1,HE.out.2.1,HE.out.2.2];exact HF.out.1⟩
theorem QfT {w:World} {z h l z' h' l':Int} {pa na pb nb:Option Addr} {pn pc nn nc pm pd nm nd:Nat} {P N P' N':List Bn} (hz:U64 z) (hl0:U64 l) (hz':U64 z') (hl0':U64 l') (hp:P.length=pn) (hn:N.length=nn) (hp':P'.length=pm) (hn':N'.length=nm) (lp:pn<=1048576) (ln:nn<=1048576) (lp':pm<=1048576) (ln':nm<=1048576) (hP:Qay w pa P) (hN:Qay w na N) (hP':Qay w pb P') (hN':Qay w nb N') (kP:∀ x∈P,Qbk x) (kN:∀ x∈N,Qbk x) (kP':∀ x∈P',Qbk x) (kN':∀ x∈N',Qbk x) :
  Calls Tryz.prog 288 #[.agg #[.int .u64 z,.slice pa pn pc,.slice na nn nc,.int .i64 h,.int .u64 l],.agg #[.int .u64 z',.slice pb pm pd,.slice nb nm nd,.int .i64 h',.int .u64 l']] w fun e w'=>∃ v,e=.returned v/\Below w.heap.size w w'/\((QiA P N P' N'/\Qef w' w.heap.size v (QaA z z') (Qps P P') (Qps N N') (Qbp h l h' l') (Qbu l l'))∨(¬ QiA P N P' N'/\Qef w' w.heap.size v 0 [] [] 0 0)):=by
 have HP:=Qaa hP;have HN:=Qaa hN;have KP:=Qaa kP;have KN:=Qaa kN;have HP':=Qaa hP';have HN':=Qaa hN';have KP':=Qaa kP';have KN':=Qaa kN';clear hP hN kP kN hP' hN' kP' kN'
 cases hs:skB P N with
 | false=>
  have HNo:Hid (¬ QiA P N P' N'):=fun h=>by rw [h.1] at hs;cases hs
  go_enter Tryz.func288,Tryz.ntmps288;go_wp2_with fail;generalize hW0:((w.alloc (Obj.cells #[.int .u64 z,.slice pa pn pc,.slice na nn nc,.int .i64 h,.int .u64 l] 43)).alloc (Obj.cells #[.int .u64 z',.slice pb pm pd,.slice nb nm nd,.int .i64 h',.int .u64 l'] 43)).alloc (Obj.cells Qav 43)=W0;have T0:Below w.heap.size w W0:=by rw [<- hW0];exact (((Below.refl _ _).alloc (Nat.le_refl _) _).alloc (by simp) _).alloc (by simp;omega) _
  have K0:Qa4 W0 w.heap.size z (.slice pa pn pc) (.slice na nn nc) h l:=by rw [<- hW0];exact Qaz (Qdk w _ _ _ _ _ _) (((Below.refl _ _).alloc (Nat.le_refl _) _).alloc (by simp) _)
  have J0:Qa4 W0 (w.heap.size+1) z' (.slice pb pm pd) (.slice nb nm nd) h' l':=by
   rw [<- hW0];have:=Qdk (w.alloc (Obj.cells #[.int .u64 z,.slice pa pn pc,.slice na nn nc,.int .i64 h,.int .u64 l] 43)) 43 z' h' l' (.slice pb pm pd) (.slice nb nm nd);exact Qaz (by simpa using this) ((Below.refl _ _).alloc (Nat.le_refl _) _)
  have R0:W0.heap[w.heap.size+1+1]?=some (.cells Qav 43 (0,0)):=by rw [<- hW0];simpa using heap_alloc_new ((w.alloc (Obj.cells #[.int .u64 z,.slice pa pn pc,.slice na nn nc,.int .i64 h,.int .u64 l] 43)).alloc (Obj.cells #[.int .u64 z',.slice pb pm pd,.slice nb nm nd,.int .i64 h',.int .u64 l'] 43)) (Obj.cells Qav 43)
  have hsz0:W0.heap.size=w.heap.size+3:=by rw [<- hW0];simp
  clear hW0;have HT0:=Qaa T0;clear T0;refine (QaY hp hn lp ln (Qae HP.out HT0.out) (Qae HN.out HT0.out) KP.out KN.out).mono ?_;rintro e w1 ⟨rfl,hb1⟩;rw [hs];have HT1:=Qaa (Qad HT0.out hb1);have K1:=Qaz K0 hb1;have J1:=Qaz J0 hb1;have R1:w1.heap[w.heap.size+1+1]?=some (.cells Qav 43 (0,0)):=by rw [hb1.block _ (by omega)];exact R0
  clear hb1 K0 J0 R0;clear hs;have HF:=Qaa (Qkf HT1.out R1 (by omega));obtain ⟨q0,q1,q2,q3,q4⟩:=Qbx R1;obtain ⟨f0,f1,f2,f3,f4⟩:=fA5 R1;clear R1;go_wp2;refine bodyPost_ret (v:=.agg #[.int .u64 0,.slice none 0 0,.slice none 0 0,.int .i64 0,.int .u64 0]) (by simp [results,Tryz.results288,go_sem,q0,q1,q2,q3,q4]) rfl ⟨_,rfl,HF.out.2,.inr ⟨HNo.out,HF.out.1⟩⟩
 | true=>
  have hr:=QcI hs;have hp30:=hr.1.2;have hn30:=hr.2.2;clear hr
  cases hs':skB P' N' with
  | false=>
   have HNo:Hid (¬ QiA P N P' N'):=fun h=>by rw [h.2] at hs'; cases hs'
   go_enter Tryz.func288,Tryz.ntmps288;go_wp2_with fail;generalize hW0:((w.alloc (Obj.cells #[.int .u64 z,.slice pa pn pc,.slice na nn nc,.int .i64 h,.int .u64 l] 43)).alloc (Obj.cells #[.int .u64 z',.slice pb pm pd,.slice nb nm nd,.int .i64 h',.int .u64 l'] 43)).alloc (Obj.cells Qav 43)=W0;have T0:Below w.heap.size w W0:=by rw [<- hW0];exact (((Below.refl _ _).alloc (Nat.le_refl _) _).alloc (by simp) _).alloc (by simp;omega) _
   have K0:Qa4 W0 w.heap.size z (.slice pa pn pc) (.slice na nn nc) h l:=by rw [<- hW0];exact Qaz (Qdk w _ _ _ _ _ _) (((Below.refl _ _).alloc (Nat.le_refl _) _).alloc (by simp) _)
   have J0:Qa4 W0 (w.heap.size+1) z' (.slice pb pm pd) (.slice nb nm nd) h' l':=by
    rw [<- hW0];have:=Qdk (w.alloc (Obj.cells #[.int .u64 z,.slice pa pn pc,.slice na nn nc,.int .i64 h,.int .u64 l] 43)) 43 z' h' l' (.slice pb pm pd) (.slice nb nm nd);exact Qaz (by simpa using this) ((Below.refl _ _).alloc (Nat.le_refl _) _)
   have R0:W0.heap[w.heap.size+1+1]?=some (.cells Qav 43 (0,0)):=by rw [<- hW0];simpa using heap_alloc_new ((w.alloc (Obj.cells #[.int .u64 z,.slice pa pn pc,.slice na nn nc,.int .i64 h,.int .u64 l] 43)).alloc (Obj.cells #[.int .u64 z',.slice pb pm pd,.slice nb nm nd,.int .i64 h',.int .u64 l'] 43)) (Obj.cells Qav 43)
   have hsz0:W0.heap.size=w.heap.size+3:=by rw [<- hW0];simp
   clear hW0;have HT0:=Qaa T0;clear T0;refine (QaY hp hn lp ln (Qae HP.out HT0.out) (Qae HN.out HT0.out) KP.out KN.out).mono ?_;rintro e w1 ⟨rfl,hb1⟩;rw [hs];have HT1:=Qaa (Qad HT0.out hb1);have K1:=Qaz K0 hb1;have J1:=Qaz J0 hb1;have R1:w1.heap[w.heap.size+1+1]?=some (.cells Qav 43 (0,0)):=by rw [hb1.block _ (by omega)];exact R0
   clear hb1 K0 J0 R0;go_wp2_with fail;refine (QaY hp' hn' lp' ln' (Qae HP'.out HT1.out) (Qae HN'.out HT1.out) KP'.out KN'.out).mono ?_;rintro e w2 ⟨rfl,hb2⟩;rw [hs'];have HT2:=Qaa (Qad HT1.out hb2);have K2:=Qaz K1 hb2;have J2:=Qaz J1 hb2;have hz1:w.heap.size+1+1<w1.heap.size:=(ZZc.1 R1).1;have R2:w2.heap[w.heap.size+1+1]?=some (.cells Qav 43 (0,0)):=by rw [hb2.block _ hz1];exact R1
   clear hb2 K1 J1 R1;clear hs hs';have HF:=Qaa (Qkf HT2.out R2 (by omega));obtain ⟨q0,q1,q2,q3,q4⟩:=Qbx R2;obtain ⟨f0,f1,f2,f3,f4⟩:=fA5 R2;clear R2;go_wp2;refine bodyPost_ret (v:=.agg #[.int .u64 0,.slice none 0 0,.slice none 0 0,.int .i64 0,.int .u64 0]) (by simp [results,Tryz.results288,go_sem,q0,q1,q2,q3,q4]) rfl ⟨_,rfl,HF.out.2,.inr ⟨HNo.out,HF.out.1⟩⟩
  | true=>
   have hr:=QcI hs';have hp30':=hr.1.2;have hn30':=hr.2.2;clear hr;have HYes:Hid (QiA P N P' N'):=(⟨hs,hs'⟩:QiA P N P' N');go_enter Tryz.func288,Tryz.ntmps288;go_wp2_with fail;generalize hW0:((w.alloc (Obj.cells #[.int .u64 z,.slice pa pn pc,.slice na nn nc,.int .i64 h,.int .u64 l] 43)).alloc (Obj.cells #[.int .u64 z',.slice pb pm pd,.slice nb nm nd,.int .i64 h',.int .u64 l'] 43)).alloc (Obj.cells Qav 43)=W0;have T0:Below w.heap.size w W0:=by rw [<- hW0];exact (((Below.refl _ _).alloc (Nat.le_refl _) _).alloc (by simp) _).alloc (by simp;omega) _
   have K0:Qa4 W0 w.heap.size z (.slice pa pn pc) (.slice na nn nc) h l:=by rw [<- hW0];exact Qaz (Qdk w _ _ _ _ _ _) (((Below.refl _ _).alloc (Nat.le_refl _) _).alloc (by simp) _)
   have J0:Qa4 W0 (w.heap.size+1) z' (.slice pb pm pd) (.slice nb nm nd) h' l':=by
    rw [<- hW0];have:=Qdk (w.alloc (Obj.cells #[.int .u64 z,.slice pa pn pc,.slice na nn nc,.int .i64 h,.int .u64 l] 43)) 43 z' h' l' (.slice pb pm pd) (.slice nb nm nd);exact Qaz (by simpa using this) ((Below.refl _ _).alloc (Nat.le_refl _) _)
   have R0:W0.heap[w.heap.size+1+1]?=some (.cells Qav 43 (0,0)):=by rw [<- hW0];simpa using heap_alloc_new ((w.alloc (Obj.cells #[.int .u64 z,.slice pa pn pc,.slice na nn nc,.int .i64 h,.int .u64 l] 43)).alloc (Obj.cells #[.int .u64 z',.slice pb pm pd,.slice nb nm nd,.int .i64 h',.int .u64 l'] 43)) (Obj.cells Qav 43)
   have hsz0:W0.heap.size=w.heap.size+3:=by rw [<- hW0];simp
   clear hW0;have HT0:=Qaa T0;clear T0;refine (QaY hp hn lp ln (Qae HP.out HT0.out) (Qae HN.out HT0.out) KP.out KN.out).mono ?_;rintro e w1 ⟨rfl,hb1⟩;rw [hs];have HT1:=Qaa (Qad HT0.out hb1);have K1:=Qaz K0 hb1;have J1:=Qaz J0 hb1;have R1:w1.heap[w.heap.size+1+1]?=some (.cells Qav 43 (0,0)):=by rw [hb1.block _ (by omega)];exact R0
   clear hb1 K0 J0 R0;go_wp2_with fail;refine (QaY hp' hn' lp' ln' (Qae HP'.out HT1.out) (Qae HN'.out HT1.out) KP'.out KN'.out).mono ?_;rintro e w2 ⟨rfl,hb2⟩;rw [hs'];have HT2:=Qaa (Qad HT1.out hb2);have K2:=Qaz K1 hb2;have J2:=Qaz J1 hb2;have hz1:w.heap.size+1+1<w1.heap.size:=(ZZc.1 R1).1;have R2:w2.heap[w.heap.size+1+1]?=some (.cells Qav 43 (0,0)):=by rw [hb2.block _ hz1];exact R1
   clear hb2 K1 J1 R1;have hz2:w.heap.size+1+1<w2.heap.size:=(ZZc.1 R2).1;have hC:∀ W,Below w2.heap.size w2 W->Qa4 W w.heap.size z (.slice pa pn pc) (.slice na nn nc) h l/\Qa4 W (w.heap.size+1) z' (.slice pb pm pd) (.slice nb nm nd) h' l'/\W.heap[w.heap.size+1+1]?=some (.cells Qav 43 (0,0)):=fun W hW=>⟨Qaz K2 hW,Qaz J2 hW,by rw [hW.block _ hz2];exact R2⟩;have HC:=Qaa hC;have HTW:=Qaa HT2.out;clear hC K2 J2 R2 hs hs';go_wp2_with fail;have HS0:(fun W=>Below w2.heap.size w2 W) w2.drew:=(ZZb _ _).drew;refine Qaj (fun W=>Below w2.heap.size w2 W) 21 (by kernel_rfl) ?_;refine tkL (i:=0) (v:=.pointer (some ⟨w.heap.size,0,none⟩)) rfl rfl HS0 (fun W hW=>?_) ?_
   ·obtain ⟨⟨x0,x1,x2,x3,x4⟩,⟨y0,y1,y2,y3,y4⟩,_⟩:=HC.out W hW
    go_simp
   refine tkL (i:=1) (v:=.int .u64 z) rfl rfl HS0 (fun W hW=>?_) ?_
   ·obtain ⟨⟨x0,x1,x2,x3,x4⟩,⟨y0,y1,y2,y3,y4⟩,_⟩:=HC.out W hW
    go_simp
   refine tkL (i:=2) (v:=.pointer (some ⟨w.heap.size+1,0,none⟩)) rfl rfl HS0 (fun W hW=>?_) ?_
   ·obtain ⟨⟨x0,x1,x2,x3,x4⟩,⟨y0,y1,y2,y3,y4⟩,_⟩:=HC.out W hW
    go_simp
   simp only [sA,sB,sC];refine tkL (i:=3) (v:=.int .u64 z') rfl rfl HS0 (fun W hW=>?_) ?_
   ·obtain ⟨⟨x0,x1,x2,x3,x4⟩,⟨y0,y1,y2,y3,y4⟩,_⟩:=HC.out W hW
    go_simp
   refine tkL (i:=5) (v:=.pointer (some ⟨w.heap.size,1,none⟩)) rfl rfl HS0 (fun W hW=>?_) ?_
   ·obtain ⟨⟨x0,x1,x2,x3,x4⟩,⟨y0,y1,y2,y3,y4⟩,_⟩:=HC.out W hW
    go_simp
   refine tkL (i:=6) (v:=.slice pa pn pc) rfl rfl HS0 (fun W hW=>?_) ?_
   ·obtain ⟨⟨x0,x1,x2,x3,x4⟩,⟨y0,y1,y2,y3,y4⟩,_⟩:=HC.out W hW
    go_simp
   simp only [sA,sB,sC];refine tkL (i:=7) (v:=.pointer (some ⟨w.heap.size+1,1,none⟩)) rfl rfl HS0 (fun W hW=>?_) ?_
   ·obtain ⟨⟨x0,x1,x2,x3,x4⟩,⟨y0,y1,y2,y3,y4⟩,_⟩:=HC.out W hW
    go_simp
   refine tkL (i:=8) (v:=.slice pb pm pd) rfl rfl HS0 (fun W hW=>?_) ?_
   ·obtain ⟨⟨x0,x1,x2,x3,x4⟩,⟨y0,y1,y2,y3,y4⟩,_⟩:=HC.out W hW
    go_simp
   refine tkL (i:=10) (v:=.pointer (some ⟨w.heap.size,2,none⟩)) rfl rfl HS0 (fun W hW=>?_) ?_
   ·obtain ⟨⟨x0,x1,x2,x3,x4⟩,⟨y0,y1,y2,y3,y4⟩,_⟩:=HC.out W hW
    go_simp
   simp only [sA,sB,sC];refine tkL (i:=11) (v:=.slice na nn nc) rfl rfl HS0 (fun W hW=>?_) ?_
   ·obtain ⟨⟨x0,x1,x2,x3,x4⟩,⟨y0,y1,y2,y3,y4⟩,_⟩:=HC.out W hW
    go_simp
   refine tkL (i:=12) (v:=.pointer (some ⟨w.heap.size+1,2,none⟩)) rfl rfl HS0 (fun W hW=>?_) ?_
   ·obtain ⟨⟨x0,x1,x2,x3,x4⟩,⟨y0,y1,y2,y3,y4⟩,_⟩:=HC.out W hW
    go_simp
   refine tkL (i:=13) (v:=.slice nb nm nd) rfl rfl HS0 (fun W hW=>?_) ?_
   ·obtain ⟨⟨x0,x1,x2,x3,x4⟩,⟨y0,y1,y2,y3,y4⟩,_⟩:=HC.out W hW
    go_simp
   simp only [sA,sB,sC];refine tkL (i:=15) (v:=.pointer (some ⟨w.heap.size,3,none⟩)) rfl rfl HS0 (fun W hW=>?_) ?_
   ·obtain ⟨⟨x0,x1,x2,x3,x4⟩,⟨y0,y1,y2,y3,y4⟩,_⟩:=HC.out W hW
    go_simp
   refine tkL (i:=16) (v:=.agg #[.int .i64 h,.int .u64 l]) rfl rfl HS0 (fun W hW=>?_) ?_
   ·obtain ⟨⟨x0,x1,x2,x3,x4⟩,⟨y0,y1,y2,y3,y4⟩,_⟩:=HC.out W hW
    go_simp
   refine tkL (i:=17) (v:=.pointer (some ⟨w.heap.size+1,3,none⟩)) rfl rfl HS0 (fun W hW=>?_) ?_
   ·obtain ⟨⟨x0,x1,x2,x3,x4⟩,⟨y0,y1,y2,y3,y4⟩,_⟩:=HC.out W hW
    go_simp
   simp only [sA,sB,sC];refine tkL (i:=18) (v:=.agg #[.int .i64 h',.int .u64 l']) rfl rfl HS0 (fun W hW=>?_) ?_
   ·obtain ⟨⟨x0,x1,x2,x3,x4⟩,⟨y0,y1,y2,y3,y4⟩,_⟩:=HC.out W hW
    go_simp
   simp only [sA,sB,sC];refine onE (i:=4) rfl (fun K hK=>?_);go_simp;refine (QaH _ _ hz hz' _).mono ?_;rintro e w4 ⟨rfl,rfl⟩;dsimp only;refine hK.out _ _ (fun _=>HS0) ?_;clear hK K
   try simp only [Act.put,sA,sB,sC]
   refine onE (i:=9) rfl (fun K hK=>?_);go_simp;refine (Qdg _ _ _ _ hp hp' (by omega) (by omega) (Qae HP.out (Qad HTW.out HS0)) (Qae HP'.out (Qad HTW.out HS0)) KP.out KP'.out).mono ?_;rintro e w5 ⟨v5,n5,rfl,ho5,hb5⟩;dsimp only;have HB5:=Qaa ((HS0:Below w2.heap.size w2 w2.drew).trans hb5);have HO5:=Qaa (ho5.le (B':=w.heap.size) HTW.out.size);obtain ⟨ao5,c5,rfl⟩:=ho5.any;clear ho5 hb5;refine hK.out _ _ (fun _=>HB5.out) ?_;clear hK K
   try simp only [Act.put,sA,sB,sC]
   refine onE (i:=14) rfl (fun K hK=>?_);go_simp;refine (Qdg _ _ _ _ hn hn' (by omega) (by omega) (Qae HN.out (Qad HTW.out HB5.out)) (Qae HN'.out (Qad HTW.out HB5.out)) KN.out KN'.out).mono ?_;rintro e w6 ⟨v6,n6,rfl,ho6,hb6⟩;dsimp only;have HB6:=Qaa (Qad HB5.out hb6);have HO56:=Qaa (HO5.out.past hb6);have HAp:Hid (QdX (.slice ao5 n5 c5) v6):=(fun k e1 e2=>by have:=(HO5.out.lt k e1).2;have:=(ho6.lt k e2).1;omega:QdX (.slice ao5 n5 c5) v6);have HO6:=Qaa (ho6.le (B':=w.heap.size) (by have:=HTW.out.size;have:=HB5.out.size;omega));obtain ⟨ao6,c6,rfl⟩:=ho6.any;clear ho6 hb6;refine hK.out _ _ (fun _=>HB6.out) ?_;clear hK K
   try simp only [Act.put,sA,sB,sC]
   refine onE (i:=19) rfl (fun K hK=>?_);go_simp;refine (QbJ _ _ _ _ _ hl0 hl0').mono ?_;rintro e w7 ⟨rfl,hb7⟩;dsimp only;have HB7:=Qaa (Qad HB6.out hb7);have HO57:=Qaa (HO56.out.past hb7);have HO67:=Qaa (HO6.out.past hb7);clear hb7;refine hK.out _ _ (fun _=>HB7.out) ?_;clear hK K
   try simp only [Act.put,sA,sB,sC]
   obtain ⟨Z7,hZ7⟩:∃ X,QaA z z'=X:=⟨_,rfl⟩;obtain ⟨H7,hH7⟩:∃ X,Qbp h l h' l'=X:=⟨_,rfl⟩;obtain ⟨L7,hL7⟩:∃ X,Qbu l l'=X:=⟨_,rfl⟩;rw [hZ7,hH7,hL7];have HE:=Qaa (And.intro hZ7 (And.intro hH7 hL7));clear hZ7 hH7 hL7;refine tkS (i:=20) (v:=.agg #[.int .u64 Z7,.slice ao5 n5 c5,.slice ao6 n6 c6,.int .i64 H7,.int .u64 L7]) rfl rfl HB7.out ?_;simp only [sA,sB,sC];have R7:=(HC.out _ HB7.out).2.2;have HF:=Qaa (Qid (Z:=Z7) (H:=H7) (L:=L7) (Qad HTW.out HB7.out) R7 (by omega) HO57.out HO67.out HAp.out);obtain ⟨q0,q1,q2,q3,q4⟩:=Qbx R7;obtain ⟨f0,f1,f2,f3,f4⟩:=fA5 R7;refine onE (i:=21) rfl (fun K hK=>?_);go_simp;refine hK.out _ _ (fun h=>absurd rfl h) ?_;clear hK K
   try simp only [Act.put,sA,sB,sC]
   refine Qar (by kernel_rfl) ?_ _;clear R7 HC;go_wp2;refine bodyPost_ret (v:=.agg #[.int .u64 Z7,.slice ao5 n5 c5,.slice ao6 n6 c6,.int .i64 H7,.int .u64 L7]) (by simp [results,Tryz.results288,go_sem,q0,q1,q2,q3,q4]) rfl ⟨_,rfl,HF.out.2,.inl ⟨HYes.out,by rw [HE.out.1,HE.out.2.1,HE.out.2.2];exact HF.out.1⟩⟩
end Go.Proofs.YthchmdmncmioiaaGreatDoor
