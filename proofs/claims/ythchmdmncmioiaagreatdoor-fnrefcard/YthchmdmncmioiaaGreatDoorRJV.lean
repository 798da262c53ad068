/-
 Plain facts on products of 64 bits, on the complement and on the negative of a wide number. Of no program.
-/
import Derived.Laws.MathBits
import Derived.DataShut
import Derived.Test.YthchmdmncmioiaaGreatDoorRJT
namespace Go.Proofs.YthchmdmncmioiaaGreatDoor
open Go.RowKit
def mulH (x y:Int):Int:=x*y / 18446744073709551616
theorem mul_form (x y:Int) (hx:U64 x) (hy:U64 y):IntKind.u64.wrap (IntKind.u64.wrap (IntKind.u64.wrap (x / 4294967296*(y / 4294967296))+IntKind.u64.wrap (IntKind.u64.wrap (x / 4294967296*bits BinOp.and IntKind.u64 y 4294967295)+IntKind.u64.wrap (bits BinOp.and IntKind.u64 x 4294967295*bits BinOp.and IntKind.u64 y 4294967295) / 4294967296) / 4294967296)+IntKind.u64.wrap (bits BinOp.and IntKind.u64 (IntKind.u64.wrap (IntKind.u64.wrap (x / 4294967296*bits BinOp.and IntKind.u64 y 4294967295)+IntKind.u64.wrap (bits BinOp.and IntKind.u64 x 4294967295*bits BinOp.and IntKind.u64 y 4294967295) / 4294967296)) 4294967295+IntKind.u64.wrap (bits BinOp.and IntKind.u64 x 4294967295*(y / 4294967296))) / 4294967296)=mulH x y:=by
 unfold U64 at hx hy;simp only [IntKind.wrap_u64,and_low32 x hx.1 (by omega),and_low32 y hy.1 (by omega)];rw [and_low32 _ (by omega) (by omega)];exact mul64_arith x y hx.1 (by omega) hy.1 (by omega)
theorem mul_form' (x y:Int) (hx:U64 x) (hy:U64 y):IntKind.u64.wrap (IntKind.u64.wrap (IntKind.u64.wrap (x / 4294967296*(y / 4294967296))+IntKind.u64.wrap (IntKind.u64.wrap (x / 4294967296*bits BinOp.and IntKind.u64 y 4294967295)+IntKind.u64.wrap (bits BinOp.and IntKind.u64 x 4294967295*bits BinOp.and IntKind.u64 y 4294967295) / 4294967296) / 4294967296)+IntKind.u64.wrap (IntKind.u64.wrap (bits BinOp.and IntKind.u64 x 4294967295*(y / 4294967296))+bits BinOp.and IntKind.u64 (IntKind.u64.wrap (IntKind.u64.wrap (x / 4294967296*bits BinOp.and IntKind.u64 y 4294967295)+IntKind.u64.wrap (bits BinOp.and IntKind.u64 x 4294967295*bits BinOp.and IntKind.u64 y 4294967295) / 4294967296)) 4294967295) / 4294967296)=mulH x y:=by
 rw [Int.add_comm (IntKind.u64.wrap (bits BinOp.and IntKind.u64 x 4294967295*(y / 4294967296)))];exact mul_form x y hx hy
theorem not_i64 (a:Int) (ha:I64 a):bits .xor .i64 (-1) a=-1 - a:=by
 unfold I64 at ha
 show IntKind.i64.wrap ((BitVec.ofInt 64 (-1) ^^^ BitVec.ofInt 64 a).toNat:Int)=_
 have h1:BitVec.ofInt 64 (-1)=BitVec.allOnes 64:=by decide
 rw [h1,BitVec.allOnes_xor,BitVec.toNat_not,BitVec.toNat_ofInt];rw [IntKind.wrap_i64]
 have e:((a % ((2 ^ 64:Nat):Int)).toNat:Int)=a % 18446744073709551616:=by
  rw [Int.toNat_of_nonneg (Int.emod_nonneg _ (by decide))];rfl
 omega
theorem not_u64 (b:Int) (hb:U64 b):bits .xor .u64 IntKind.u64.max b=18446744073709551615 - b:=by
 unfold U64 at hb;rw [IntKind.max_u64]
 show IntKind.u64.wrap ((BitVec.ofInt 64 18446744073709551615 ^^^ BitVec.ofInt 64 b).toNat:Int)=_
 have h1:BitVec.ofInt 64 18446744073709551615=BitVec.allOnes 64:=by decide
 rw [h1,BitVec.allOnes_xor,BitVec.toNat_not,BitVec.toNat_ofInt];rw [IntKind.wrap_u64]
 have e:((b % ((2 ^ 64:Nat):Int)).toNat:Int)=b % 18446744073709551616:=by
  rw [Int.toNat_of_nonneg (Int.emod_nonneg _ (by decide))];rfl
 omega
def negH (a b:Int):Int:=wrap64 (-a - (if b=0 then 0 else 1))
def negL (b:Int):Int:=uw (-b)
def thH (n w:Int):Int:=wrap64 (n*w / 18446744073709551616)
def thL (n w:Int):Int:=uw (n*w)
theorem neg_add (a b:Int) (hb:U64 b):addH (-1 - a) (18446744073709551615 - b) 0 1=negH a b∧addL (18446744073709551615 - b) 1=negL b:=by
 unfold U64 at hb;unfold addH addL negH negL addC uw wrap64;refine ⟨?_,by omega⟩;by_cases h:b=0
 ·subst h;simp;omega
 ·rw [if_neg h];omega
theorem th_neg (n y:Int) (hn:I64 n) (h:n<0):wrap64 (IntKind.u64.wrap (mulH (uw n) y - y))=thH n y∧uw (uw n*y)=thL n y:=by
 unfold I64 at hn;have e:uw n=n+18446744073709551616:=by unfold uw;omega
 have e2:uw n*y=n*y+18446744073709551616*y:=by rw [e];exact Int.add_mul _ _ _
 rw [IntKind.wrap_u64];unfold mulH thH thL;rw [e2];generalize n*y=p;unfold uw wrap64;refine ⟨by omega,by omega⟩
theorem th_pos (n y:Int) (hn:I64 n) (h:¬ n<0):wrap64 (mulH (uw n) y)=thH n y∧uw (uw n*y)=thL n y:=by
 unfold I64 at hn;have e:uw n=n:=by unfold uw;omega
 rw [e];exact ⟨rfl,rfl⟩
theorem th_minus (n y:Int):negH (wrap64 (mulH (-n) y)) (uw (-n*y))=thH n y∧negL (uw (-n*y))=thL n y:=by
 have e:-n*y=-(n*y):=Int.neg_mul _ _;unfold mulH thH thL;rw [e];generalize n*y=p;unfold negH negL;refine ⟨?_,by unfold uw;omega⟩;by_cases k:uw (-p)=0
 ·rw [if_pos k];unfold uw at k;unfold wrap64;omega
 ·rw [if_neg k];unfold uw at k;unfold wrap64;omega
open Go.ChangeAt Go.ChangeShapes Go.WideShapes
theorem ret_pair {a b c d:Int} (h:a=c) (k:b=d):Ending.returned (.tuple #[.int .u64 a,.int .u64 b])=.returned (.tuple #[.int .u64 c,.int .u64 d]):=by rw [h,k]
set_option maxHeartbeats 1000000 in
theorem c_Mul64 (x y:Int) (hx:U64 x) (hy:U64 y) (w:World) :
  Calls Tryz.prog 281 #[.int .u64 x,.int .u64 y] w fun e w'=>e=.returned (.tuple #[.int .u64 (mulH x y),.int .u64 (uw (x*y))])∧w'=w:=by
 have HF:Hid (_=_):=mul_form x y hx hy;have HG:Hid (IntKind.u64.wrap (x*y)=uw (x*y)):=IntKind.wrap_u64 _;clear hx hy;go_enter Tryz.func281,Tryz.ntmps281;go_wp2;go_ret2;exact ⟨ret_pair HF.out HG.out,rfl⟩
set_option maxHeartbeats 1000000 in
theorem c_l01Mul (x y:Int) (hx:U64 x) (hy:U64 y) (w:World) :
  Calls Tryz.prog 176 #[.int .u64 x,.int .u64 y] w fun e w'=>e=.returned (.tuple #[.int .u64 (mulH x y),.int .u64 (uw (x*y))])∧w'=w:=by
 have HF:Hid (_=_):=mul_form' x y hx hy;have HG:Hid (IntKind.u64.wrap (x*y)=uw (x*y)):=IntKind.wrap_u64 _;clear hx hy;go_enter Tryz.func176,Tryz.ntmps176;go_wp2;go_ret2;exact ⟨ret_pair HF.out HG.out,rfl⟩
theorem c_l01Minus (a b:Int) (ha:I64 a) (hb:U64 b) (w:World) :
  Calls Tryz.prog 177 #[.agg #[.int .i64 a,.int .u64 b]] w fun e w'=>e=.returned (.agg #[.int .i64 (negH a b),.int .u64 (negL b)])∧Below w.heap.size w w':=by
 have HN:=neg_add a b hb;have hb':U64 (18446744073709551615 - b):=by unfold U64 at *; omega
 have e1:=not_i64 a ha;have e2:=not_u64 b hb;have h1:U64 1:=by unfold U64;omega
 have HC:∀ w,Calls Tryz.prog 133 #[.agg #[.int .i64 (bits .xor .i64 (-1) a),.int .u64 (bits .xor .u64 IntKind.u64.max b)],.agg #[.int .i64 0,.int .u64 1]] w fun e w'=>e=.returned (.agg #[.int .i64 (negH a b),.int .u64 (negL b)])∧Below w.heap.size w w':=by
  intro w;rw [e1,e2,← HN.1,← HN.2];exact c_s_WideAdd _ _ _ _ w hb' h1
 clear HN e1 e2 ha hb hb' h1;go_enter Tryz.func177,Tryz.ntmps177;go_wp2_with (go_at_call 133;refine (HC _).mono ?_;rintro e w1 ⟨rfl,hb1⟩;have p0:=cell_past (a:=⟨w.heap.size+1,0,none⟩) (v:=.int .i64 0) hb1 (by simp);have p1:=cell_past (a:=⟨w.heap.size+1,1,none⟩) (v:=.int .u64 0) hb1 (by simp);have f0:=hb1.frozen (p:=⟨w.heap.size+1,0,none⟩) (by simp);have f1:=hb1.frozen (p:=⟨w.heap.size+1,1,none⟩) (by simp));refine bodyPost_ret (v:=.agg #[.int .i64 (negH a b),.int .u64 (negL b)]) (by simp [results,Tryz.results177,go_sem,p0,p1]) rfl ⟨rfl,?_⟩;exact (((((Below.refl _ _).alloc (Nat.le_refl _) _).alloc (by simp) _).trans (hb1.mono (by simp;omega))).setCell (by dsimp only;omega) _).setCell (by dsimp only;omega) _
set_option maxHeartbeats 1000000 in
theorem c_i_WideTimes (n y:Int) (hn:I64 n) (hy:U64 y) (w:World) :
  Calls Tryz.prog 280 #[.int .i64 n,.int .u64 y] w fun e w'=>e=.returned (.agg #[.int .i64 (thH n y),.int .u64 (thL n y)])∧Below w.heap.size w w':=by
 have e1:IntKind.u64.wrap n=uw n:=IntKind.wrap_u64 n;have HC:Hid (∀ w,Calls Tryz.prog 281 #[.int .u64 (uw n),.int .u64 y] w fun e w'=>e=.returned (.tuple #[.int .u64 (mulH (uw n) y),.int .u64 (uw (uw n*y))])∧w'=w):=fun w=>c_Mul64 _ _ (uw_in n) hy w;by_cases h:n<0
 ·have HE:Hid (wrap64 (IntKind.u64.wrap (mulH (uw n) y - y))=thH n y∧uw (uw n*y)=thL n y):=th_neg n y hn h
  clear hn hy;go_enter Tryz.func280,Tryz.ntmps280;go_wp2_with (go_at_call 281;refine (HC.out _).mono ?_;rintro e w1 ⟨rfl,rfl⟩);exact bodyPost_ret (v:=.agg #[.int .i64 (wrap64 (IntKind.u64.wrap (mulH (uw n) y - y))),.int .u64 (uw (uw n*y))]) (by simp [results,Tryz.results280,go_sem]) rfl ⟨ret_wide HE.out.1 HE.out.2,(Below.refl _ _).alloc (Nat.le_refl _) _⟩
 ·have HE:Hid (wrap64 (mulH (uw n) y)=thH n y∧uw (uw n*y)=thL n y):=th_pos n y hn h
  clear hn hy;go_enter Tryz.func280,Tryz.ntmps280;go_wp2_with (go_at_call 281;refine (HC.out _).mono ?_;rintro e w1 ⟨rfl,rfl⟩);exact bodyPost_ret (v:=.agg #[.int .i64 (wrap64 (mulH (uw n) y)),.int .u64 (uw (uw n*y))]) (by simp [results,Tryz.results280,go_sem]) rfl ⟨ret_wide HE.out.1 HE.out.2,(Below.refl _ _).alloc (Nat.le_refl _) _⟩
set_option maxHeartbeats 1000000 in
theorem c_s_WideTimes (n y:Int) (hn:I64 n) (hy:U64 y) (w:World) :
  Calls Tryz.prog 134 #[.int .i64 n,.int .u64 y] w fun e w'=>e=.returned (.agg #[.int .i64 (thH n y),.int .u64 (thL n y)])∧Below w.heap.size w w':=by
 by_cases h:n<0
 ·have hm:U64 (-n):=by unfold I64 at hn;unfold U64;omega
  have e1:IntKind.u64.wrap (-IntKind.u64.wrap n)=-n:=by simp only [IntKind.wrap_u64];unfold I64 at hn;omega
  have HC:Hid (∀ w,Calls Tryz.prog 176 #[.int .u64 (-n),.int .u64 y] w fun e w'=>e=.returned (.tuple #[.int .u64 (mulH (-n) y),.int .u64 (uw (-n*y))])∧w'=w):=fun w=>c_l01Mul _ _ hm hy w;have HE:=th_minus n y
  have HD:Hid (∀ w,Calls Tryz.prog 177 #[.agg #[.int .i64 (wrap64 (mulH (-n) y)),.int .u64 (uw (-n*y))]] w fun e w'=>e=.returned (.agg #[.int .i64 (thH n y),.int .u64 (thL n y)])∧Below w.heap.size w w'):=by
   rw [← HE.1,← HE.2];exact fun w=>c_l01Minus _ _ (w64_in _) (uw_in _) w
  clear hn hy hm HE;go_enter Tryz.func134,Tryz.ntmps134
  go_wp2_with (first
   | (go_at_call 176;refine (HC.out _).mono ?_;rintro e w1 ⟨rfl,rfl⟩)
   | (go_at_call 177;refine (HD.out _).mono ?_;rintro e w1 ⟨rfl,hb1⟩;have p0:=cell_past (a:=⟨w.heap.size+1,0,none⟩) (v:=.int .i64 (wrap64 (mulH (-n) y))) hb1 (by simp);have p1:=cell_past (a:=⟨w.heap.size+1,1,none⟩) (v:=.int .u64 (uw (-n*y))) hb1 (by simp);have f0:=hb1.frozen (p:=⟨w.heap.size+1,0,none⟩) (by simp);have f1:=hb1.frozen (p:=⟨w.heap.size+1,1,none⟩) (by simp);have r0:=cell_past (a:=⟨w.heap.size,0,none⟩) (v:=.int .i64 0) hb1 (by simp);have r1:=cell_past (a:=⟨w.heap.size,1,none⟩) (v:=.int .u64 0) hb1 (by simp);have g0:=frozen_past (a:=⟨w.heap.size,0,none⟩) (v:=.int .i64 0) hb1 (by simp);have g1:=frozen_past (a:=⟨w.heap.size,1,none⟩) (v:=.int .u64 0) hb1 (by simp)))
  refine bodyPost_ret (v:=.agg #[.int .i64 (thH n y),.int .u64 (thL n y)]) (by simp [results,Tryz.results134,go_sem,r0,r1]) rfl ⟨rfl,?_⟩;exact (((((((Below.refl _ _).alloc (Nat.le_refl _) _).alloc (by simp) _).trans (hb1.mono (by simp;omega))).setCell (by dsimp only;omega) _).setCell (by dsimp only;omega) _).setCell (by dsimp only;omega) _).setCell (by dsimp only;omega) _
 ·have e1:IntKind.u64.wrap n=n:=by rw [IntKind.wrap_u64];unfold I64 at hn;omega
  have hm:U64 n:=by unfold I64 at hn;unfold U64;omega
  have HC:Hid (∀ w,Calls Tryz.prog 176 #[.int .u64 n,.int .u64 y] w fun e w'=>e=.returned (.tuple #[.int .u64 (mulH n y),.int .u64 (uw (n*y))])∧w'=w):=fun w=>c_l01Mul _ _ hm hy w;clear hn hy hm;go_enter Tryz.func134,Tryz.ntmps134;go_wp2_with (go_at_call 176;refine (HC.out _).mono ?_;rintro e w1 ⟨rfl,rfl⟩);exact bodyPost_ret (v:=.agg #[.int .i64 (wrap64 (mulH n y)),.int .u64 (uw (n*y))]) (by simp [results,Tryz.results134,go_sem]) rfl ⟨ret_wide rfl rfl,((Below.refl _ _).alloc (Nat.le_refl _) _).alloc (by simp) _⟩
set_option linter.unusedVariables false
set_option linter.unusedSimpArgs false
set_option maxRecDepth 10000
open Go.Lib Go.PlainAid
def putZ (z v wt:Int):Int:=if v=0 then wAdd z wt else z
def putP (P:List Bn) (v wt:Int):List Bn:=if 0<v then gatL P [(binI v,wt)] else P
def putN (N:List Bn) (v wt:Int):List Bn:=if v<0 then gatL N [(binI (-v),wt)] else N
def putOk (P N:List Bn) (v wt:Int):Prop:=skB P N=true∧(-999999999999999999≤v∧v≤999999999999999999)∧wt≠0
abbrev NumAt' (w:World) (g:Nat) (x:Int):Prop:=w.cell? ⟨g,0,none⟩=some (.int .u64 x)
theorem c_valueRight (v:Int) (w:World) (hv:I64 v) :
  Calls Tryz.prog 124 #[.int .i64 v] w fun e w'=>e=.returned (.bool (decide (-999999999999999999≤v∧v≤999999999999999999)))∧w'=w:=by
 unfold I64 at hv;by_cases h1:-999999999999999999≤v
 ·by_cases h2:v≤999999999999999999
  ·rw [decide_eq_true ⟨h1,h2⟩]
   go_enter Tryz.func124,Tryz.ntmps124;go_wp2;go_ret;exact ⟨rfl,rfl⟩
  ·rw [decide_eq_false (fun h=>h2 h.2)]
   go_enter Tryz.func124,Tryz.ntmps124;go_wp2;go_ret;exact ⟨rfl,rfl⟩
 ·rw [decide_eq_false (fun h=>h1 h.1)]
  go_enter Tryz.func124,Tryz.ntmps124;go_wp2;go_ret;exact ⟨rfl,rfl⟩
theorem c_putInto {w:World} {ao:Option Addr} {Q:List Bn} (c n om:Nat) {at_ wt:Int} (hn:Q.length=n) (hl:n≤30) (hA:BinsAt w ao Q) (kA:∀ x∈Q,BnOk x) (ha:I64 at_) (hw:U64 wt) (hO:NumAt' w om wt) :
  Calls Tryz.prog 292 #[.slice ao n c,.int .i64 at_,.pointer (some ⟨om,0,none⟩)] w fun e w'=>∃ v' n',e=.returned v'∧OwnB w' w.heap.size v' n' (gatL Q [(at_,wt)])∧Below w.heap.size w w':=by
 have HA:=hide hA;have hb:∀ o,Below w.heap.size w (w.alloc o):=fun o=>(Below.refl _ _).alloc (Nat.le_refl _) o;have HB:=hide hb
 have hbi:∀ t,BinsAt (w.alloc (.cells #[.int .i64 at_,.int .u64 wt] t)) (some ⟨w.heap.size,0,none⟩) [(at_,wt)]:=fun t _=>⟨w.heap.size,0,rfl,fun i x hx=>by
  obtain ⟨rfl,rfl⟩:i=0∧x=(at_,wt):=by
   cases i with
   | zero=>exact ⟨rfl,by simpa using hx.symm⟩
   | succ j=>simp at hx
  exact bc_new w t at_ wt⟩
 have HBi:=hide hbi;clear hA hb hbi;go_enter Tryz.func292,Tryz.ntmps292;go_wp2_with (go_at_call 291;refine (c_gatherBins _ _ _ _ hn (by rfl) hl (by omega) (bins_past HA.out (HB.out _)) (HBi.out _) kA (fun x hx=>by obtain rfl:x=(at_,wt):=(by simpa using hx);exact ⟨ha,hw⟩)).mono ?_;rintro e w1 ⟨v',n',rfl,ho,hb1⟩;have HO:=hide (ho.le (B':=w.heap.size) (by simp));have HB1:=hide ((HB.out _).trans (hb1.mono (by simp)));obtain ⟨ao1,c1,rfl⟩:=ho.any;clear ho hb1);go_ret;exact ⟨_,_,rfl,HO.out,HB1.out⟩
set_option maxHeartbeats 4000000 in
theorem c_i_SketchPut {w:World} {z h l vv wt:Int} {pa na:Option Addr} {pn pc nn nc:Nat} {P N:List Bn} (hz:U64 z) (hl0:U64 l) (hvv:I64 vv) (hwt:U64 wt) (hp:P.length=pn) (hn:N.length=nn) (lp:pn≤1048576) (ln:nn≤1048576) (hP:BinsAt w pa P) (hN:BinsAt w na N) (kP:∀ x∈P,BnOk x) (kN:∀ x∈N,BnOk x) :
  Calls Tryz.prog 289 #[.agg #[.int .u64 z,.slice pa pn pc,.slice na nn nc,.int .i64 h,.int .u64 l],.int .i64 vv,.int .u64 wt] w fun e w'=>∃ v,e=.returned v∧Below w.heap.size w w'∧((putOk P N vv wt∧SkOut w' w.heap.size v (putZ z vv wt) (putP P vv wt) (putN N vv wt) (addH h l (thH vv wt) (thL vv wt)) (addL l (thL vv wt)))∨(¬ putOk P N vv wt∧SkOut w' w.heap.size v z P N h l)):=by
 have HP:=hide hP;have HN:=hide hN;have KP:=hide kP;have KN:=hide kN;clear hP hN kP kN;go_enter Tryz.func289,Tryz.ntmps289;go_wp2_with fail;generalize hW0:((w.alloc (Obj.cells #[.int .u64 z,.slice pa pn pc,.slice na nn nc,.int .i64 h,.int .u64 l] 43)).alloc (Obj.cells #[.int .u64 wt] 26)).alloc (Obj.cells zeroSk 43)=W0;have T0:Below w.heap.size w W0:=by rw [← hW0];exact (((Below.refl _ _).alloc (Nat.le_refl _) _).alloc (by simp) _).alloc (by simp;omega) _
 have K0:SkCell W0 w.heap.size z (.slice pa pn pc) (.slice na nn nc) h l:=by rw [← hW0];exact sk_past (sk_new w _ _ _ _ _ _) (((Below.refl _ _).alloc (Nat.le_refl _) _).alloc (by simp) _)
 have N0:NumAt' W0 (w.heap.size+1) wt:=by
  rw [← hW0];exact cell_on (by simp) _
 have R0:W0.heap[w.heap.size+1+1]?=some (.cells zeroSk 43 (0,0)):=by rw [← hW0];simpa using heap_alloc_new ((w.alloc (Obj.cells #[.int .u64 z,.slice pa pn pc,.slice na nn nc,.int .i64 h,.int .u64 l] 43)).alloc (Obj.cells #[.int .u64 wt] 26)) (Obj.cells zeroSk 43)
 have hsz0:W0.heap.size=w.heap.size+3:=by rw [← hW0];simp
 clear hW0;have HT0:=hide T0;clear T0;refine (c_copySketch hp hn lp ln (bins_past HP.out HT0.out) (bins_past HN.out HT0.out)).mono ?_;rintro e w1 ⟨v1,rfl,⟨p1,n1,m1,m2,rfl,ho1,ho2,hap⟩,hb1⟩;obtain ⟨ao1,c1,rfl⟩:=ho1.any;obtain ⟨ao2,c2,rfl⟩:=ho2.any;have HT1:=hide (chain HT0.out hb1);have K1:=sk_past K0 hb1;have N1:NumAt' w1 (w.heap.size+1) wt:=cell_past hb1 N0;have R1:w1.heap[w.heap.size+1+1]?=some (.cells zeroSk 43 (0,0)):=by rw [hb1.block _ (by omega)];exact R0
 obtain ⟨sg,hsg⟩:∃ sg,sg=w1.heap.size:=⟨_,rfl⟩;have hs1:w.heap.size+3≤w1.heap.size:=by have:=hb1.size;omega
 have hbA:∀ o,Below w1.heap.size w1 (w1.alloc o):=fun o=>(Below.refl _ _).alloc (Nat.le_refl _) o;have KA:∀ o,SkCell (w1.alloc o) w.heap.size z (.slice pa pn pc) (.slice na nn nc) h l:=fun o=>sk_past K1 (hbA o);have HO1:=hide (ho1.le (B':=w.heap.size) (by omega));have HO2:=hide (ho2.le (B':=w.heap.size) (by omega));have HbA:=hide hbA;have HAp:=hide hap;clear hb1 ho1 ho2 hap K0 N0 R0 hbA;go_wp2_with fail;refine (c_i_SketchRight hp hn lp ln (bins_past HP.out (chain HT1.out (HbA.out _))) (bins_past HN.out (chain HT1.out (HbA.out _))) KP.out KN.out).mono ?_;rintro e w3 ⟨rfl,hb3⟩;have HB3:=hide (chain (HbA.out _) hb3);have HT3:=hide (chain HT1.out HB3.out);have K3:=sk_past K1 HB3.out;have N3:NumAt' w3 (w.heap.size+1) wt:=cell_past HB3.out N1;have R3:w3.heap[w.heap.size+1+1]?=some (.cells zeroSk 43 (0,0)):=by rw [HB3.out.block _ (by omega)];exact R1
 have S3:w3.heap[sg]?=some (.cells #[.int .u64 z,.slice ao1 m1 c1,.slice ao2 m2 c2,.int .i64 h,.int .u64 l] 43 (0,0)):=by
  rw [hsg,hb3.block _ (by simp)];exact heap_alloc_new w1 _
 have hs3:sg<w3.heap.size:=(Array.getElem?_eq_some_iff.1 S3).1;rw [← hsg];have hs4:w.heap.size+3≤sg:=by omega
 clear hsg hs1;have hC:∀ W,Below w3.heap.size w3 W→SkCell W w.heap.size z (.slice pa pn pc) (.slice na nn nc) h l∧NumAt' W (w.heap.size+1) wt∧W.heap[w.heap.size+1+1]?=some (.cells zeroSk 43 (0,0))∧W.heap[sg]?=some (.cells #[.int .u64 z,.slice ao1 m1 c1,.slice ao2 m2 c2,.int .i64 h,.int .u64 l] 43 (0,0)):=fun W hW=>⟨sk_past K3 hW,cell_past hW N3,by rw [hW.block _ (by omega)];exact R3,by rw [hW.block _ hs3];exact S3⟩;have HC:=hide hC;have HO1:=hide (HO1.out.past HB3.out);have HO2:=hide (HO2.out.past HB3.out);obtain ⟨g0,g1,g2,g3,g4⟩:=cell5 S3;have fs0:=fzR 0 S3;obtain ⟨q0,q1,q2,q3,q4⟩:=cell5 R3;have fr0:=fzR 0 R3;have fr1:=fzR 1 R3;have fr2:=fzR 2 R3;have fr3:=fzR 3 R3;have fr4:=fzR 4 R3;clear hb3 hC KA K1 N1 R1 HbA;have hbad:¬ putOk P N vv wt∨putOk P N vv wt:=(Classical.em _).symm;rcases hbad with hb | hb
 ·have HBad:=hide hb
  have hcs:(skB P N=false)∨(skB P N=true∧decide (-999999999999999999≤vv∧vv≤999999999999999999)=false)∨(skB P N=true∧decide (-999999999999999999≤vv∧vv≤999999999999999999)=true∧wt=0):=by
   cases h1:skB P N with
   | false=>exact .inl rfl
   | true=>
    by_cases h2:-999999999999999999≤vv∧vv≤999999999999999999
    ·by_cases h3:wt=0
     ·exact .inr (.inr ⟨rfl,decide_eq_true h2,h3⟩)
     ·exact absurd ⟨h1,h2,h3⟩ hb
    ·exact .inr (.inl ⟨rfl,decide_eq_false h2⟩)
  clear hb S3 R3;rcases hcs with e1 | ⟨e1,e2⟩ | ⟨e1,e2,e3⟩
  all_goals
   rw [e1];go_wp2_with (first | (go_at_call 124;refine (c_valueRight _ _ hvv).mono ?_;rintro e w4 ⟨rfl,rfl⟩;rw [e2]));refine bodyPost_ret (v:=.agg #[.int .u64 z,.slice ao1 m1 c1,.slice ao2 m2 c2,.int .i64 h,.int .u64 l]) (by simp [results,Tryz.results289,go_sem,q0,q1,q2,q3,q4]) rfl ⟨_,rfl,?_,.inr ⟨HBad.out,_,_,m1,m2,rfl,?_,?_,HAp.out⟩⟩
   ·repeat (refine Below.setCell ?_ (by simp <;> omega) _)
    exact HT3.out
   ·have hne:=HO1.out.ne (HC.out _ (Below.refl _ _)).2.2.1 (by decide)
    repeat (refine OwnB.set ?_ hne _)
    exact HO1.out
   ·have hne:=HO2.out.ne (HC.out _ (Below.refl _ _)).2.2.1 (by decide)
    repeat (refine OwnB.set ?_ hne _)
    exact HO2.out
 ·obtain ⟨e1,⟨e2,e2'⟩,e3⟩:=id hb
  have HOk:=hide hb;have d2:decide (-999999999999999999≤vv∧vv≤999999999999999999)=true:=decide_eq_true ⟨e2,e2'⟩;have d3:(wt == 0)=false:=beq_eq_false_iff_ne.2 e3
  obtain ⟨l30P,l30N⟩:pn≤30∧nn≤30:=by
   have:=Bool.and_eq_true_iff.1 e1;have h1:=(Bool.and_eq_true_iff.1 this.1).1;have h2:=(Bool.and_eq_true_iff.1 this.2).1;have:=of_decide_eq_true h1;have:=of_decide_eq_true h2;omega
  clear hb;rw [e1]
  have hsW:∀ W,w3.grownBy W (some sg)→SkCell W w.heap.size z (.slice pa pn pc) (.slice na nn nc) h l∧NumAt' W (w.heap.size+1) wt∧W.heap[w.heap.size+1+1]?=some (.cells zeroSk 43 (0,0)):=fun W hW=>by
   have hk:∀ j,j<w3.heap.size→j≠sg→W.heap[j]?=w3.heap[j]?:=fun j hj hne=>hW.block j hj (fun e=>hne (Option.some.inj e));have hb0:∀ j,W.cell? ⟨w.heap.size,j,none⟩=w3.cell? ⟨w.heap.size,j,none⟩:=fun j=>World.cell?_of_block (w:=w3) (hk w.heap.size (by omega) (by omega));refine ⟨⟨by rw [hb0];exact K3.1,by rw [hb0];exact K3.2.1,by rw [hb0];exact K3.2.2.1,by rw [hb0];exact K3.2.2.2.1,by rw [hb0];exact K3.2.2.2.2⟩,?_,by rw [hk (w.heap.size+1+1) (by omega) (by omega)];exact R3⟩;have:W.cell? ⟨w.heap.size+1,0,none⟩=w3.cell? ⟨w.heap.size+1,0,none⟩:=World.cell?_of_block (w:=w3) (hk (w.heap.size+1) (by omega) (by omega));rw [NumAt',this];exact N3
  have HsW:=hide hsW;have HS3:=hide S3;clear S3 R3 hsW;have c3:vv=0∨0<vv∨vv<0:=by omega
  rcases c3 with hv0 | hP0 | hN0
  ·have hz4:Hid (putZ z vv wt=wAdd z wt):=if_pos hv0
   have hP4:Hid (putP P vv wt=P):=if_neg (by omega);have hN4:Hid (putN N vv wt=N):=if_neg (by omega);have d0:(vv == 0)=true:=by simp [hv0]
   clear hv0
   go_wp2_with (first
    | (go_at_call 124;refine (c_valueRight _ _ hvv).mono ?_;rintro e w4 ⟨rfl,hw⟩;obtain rfl:=hw.symm;rw [d2])
    | (go_at_call 86;refine (c_i_WeightAdd _ _ hz hwt _).mono ?_;rintro e w4 ⟨rfl,hw⟩;obtain rfl:=hw.symm))
   generalize hw4:World.setCell _ ⟨sg,0,none⟩ (.int .u64 (wAdd z wt))=w4;have hg4:w3.grownBy w4 (some sg):=by rw [← hw4];exact grown_one _ _ _ _
   have hr4:w4.heap[sg]?=some (.cells #[.int .u64 (putZ z vv wt),.slice ao1 m1 c1,.slice ao2 m2 c2,.int .i64 h,.int .u64 l] 43 (0,0)):=by
    rw [← hw4,hz4.out];exact heap_setCell_same _ sg 0 _ _ _ HS3.out
   have hoP:OwnB w4 w.heap.size (.slice ao1 m1 c1) m1 (putP P vv wt):=by
    rw [← hw4,hP4.out];exact HO1.out.set (HO1.out.ne HS3.out (by decide)) _
   have hoN:OwnB w4 w.heap.size (.slice ao2 m2 c2) m2 (putN N vv wt):=by
    rw [← hw4,hN4.out];exact HO2.out.set (HO2.out.ne HS3.out (by decide)) _
   have hap:=HAp.out;clear hz4 hP4 hN4 HO1 HO2 hw4 g0 g1 g2 g3 g4 fs0;obtain ⟨K4,N4,R4⟩:=HsW.out _ hg4;have hT4:Below w.heap.size w w4:=HT3.out.grown hg4 HT3.out.size (fun k e=>by cases e;omega);have hlt4:sg<w4.heap.size:=(Array.getElem?_eq_some_iff.1 hr4).1;have hC4:∀ W,Below w4.heap.size w4 W→SkCell W w.heap.size z (.slice pa pn pc) (.slice na nn nc) h l∧NumAt' W (w.heap.size+1) wt∧W.heap[w.heap.size+1+1]?=some (.cells zeroSk 43 (0,0))∧W.heap[sg]?=some (.cells #[.int .u64 (putZ z vv wt),.slice ao1 m1 c1,.slice ao2 m2 c2,.int .i64 h,.int .u64 l] 43 (0,0)):=fun W hW=>⟨sk_past K4 hW,cell_past hW N4,by rw [hW.block _ (by omega)];exact R4,by rw [hW.block _ hlt4];exact hr4⟩;have HC4:=hide hC4;have HT4:=hide hT4;have HoP:=hide hoP;have HoN:=hide hoN;have Hap:=hide hap;obtain ⟨Z4,hZ4⟩:∃ Z,putZ z vv wt=Z:=⟨_,rfl⟩;rw [hZ4] at HC4;have HZ4:=hide hZ4;clear hC4 hT4 hoP hoN hap hr4 hg4 K4 N4 R4 hZ4 HC;have HS0:(fun W=>Below w4.heap.size w4 W) w4.drew:=(Below.refl _ _).drew;refine regionK (fun W=>Below w4.heap.size w4 W) 7 (by kernel_rfl) ?_;refine tkL (i:=0) (v:=.pointer (some ⟨w.heap.size,3,none⟩)) rfl rfl HS0 (fun W hW=>?_) ?_
   ·obtain ⟨⟨x0,x1,x2,x3,x4⟩,x5,x6,x7⟩:=HC4.out W hW
    go_simp
   refine tkL (i:=1) (v:=.agg #[.int .i64 h,.int .u64 l]) rfl rfl HS0 (fun W hW=>?_) ?_
   ·obtain ⟨⟨x0,x1,x2,x3,x4⟩,x5,x6,x7⟩:=HC4.out W hW
    go_simp
   refine tkL (i:=2) (v:=.int .i64 vv) rfl rfl HS0 (fun W hW=>?_) ?_
   ·obtain ⟨⟨x0,x1,x2,x3,x4⟩,x5,x6,x7⟩:=HC4.out W hW
    go_simp
   simp only [sA,sB,sC];refine tkL (i:=3) (v:=.int .u64 wt) rfl rfl HS0 (fun W hW=>?_) ?_
   ·obtain ⟨⟨x0,x1,x2,x3,x4⟩,x5,x6,x7⟩:=HC4.out W hW
    go_simp
   simp only [sA,sB,sC];refine onE (i:=4) rfl (fun K hK=>?_);go_simp;refine (c_i_WideTimes _ _ hvv hwt _).mono ?_;rintro e w5 ⟨rfl,hb5⟩;dsimp only;have HB5:=hide ((HS0:Below w4.heap.size w4 w4.drew).trans hb5);clear hb5;refine hK.out _ _ (fun _=>HB5.out) ?_;clear hK K
   try simp only [Act.put,sA,sB,sC]
   refine onE (i:=5) rfl (fun K hK=>?_);go_simp;refine (c_i_WideAdd _ _ _ _ _ hl0 (show U64 (thL vv wt) from uw_in _)).mono ?_;rintro e w6 ⟨rfl,hb6⟩;dsimp only;have HB6:=hide (chain HB5.out hb6);clear hb6;refine hK.out _ _ (fun _=>HB6.out) ?_;clear hK K
   try simp only [Act.put,sA,sB,sC]
   refine onE (i:=6) rfl (fun K hK=>?_);go_simp;refine hK.out _ _ (fun _=>HB6.out) ?_;clear hK K
   try simp only [Act.put,sA,sB,sC]
   have R6:=(HC4.out _ HB6.out).2.2.2;obtain ⟨y0,y1,y2,y3,y4⟩:=cell5 R6;have fy3:=fzR 3 R6;have fy4:=fzR 4 R6;refine onE (i:=7) rfl (fun K hK=>?_);go_simp;refine hK.out _ _ (fun h=>absurd rfl h) ?_;clear hK K
   try simp only [Act.put,sA,sB,sC]
   refine doneK (by kernel_rfl) ?_ _;obtain ⟨H7,hH7⟩:∃ H,addH h l (thH vv wt) (thL vv wt)=H:=⟨_,rfl⟩;obtain ⟨L7,hL7⟩:∃ H,addL l (thL vv wt)=H:=⟨_,rfl⟩;have HH7:=hide hH7;have HL7:=hide hL7;rw [hH7,hL7];clear hH7 hL7;generalize hw7:(w6.setCell ⟨sg,3,none⟩ (.int .i64 H7)).setCell ⟨sg,4,none⟩ (.int .u64 L7)=w7
   have S7:w7.heap[sg]?=some (.cells #[.int .u64 Z4,.slice ao1 m1 c1,.slice ao2 m2 c2,.int .i64 H7,.int .u64 L7] 43 (0,0)):=by
    rw [← hw7];exact heap_setCell_same _ sg 4 _ _ _ (heap_setCell_same w6 sg 3 _ _ _ R6)
   have hg7:w6.grownBy w7 (some sg):=by rw [← hw7];exact (grown_one _ _ _ _).trans (grown_one _ _ _ _)
   have R7:w7.heap[w.heap.size+1+1]?=some (.cells zeroSk 43 (0,0)):=by
    have hR:=(HC4.out _ HB6.out).2.2.1;rw [hg7.block _ (Array.getElem?_eq_some_iff.1 hR).1 (fun e=>by have:=Option.some.inj e;omega)];exact hR
   have T7:Below w.heap.size w w7:=(chain HT4.out HB6.out).grown hg7 (chain HT4.out HB6.out).size (fun k e=>by cases e;omega);have hoP:=HoP.out.past HB6.out;have hoN:=HoN.out.past HB6.out;have hP7:=hoP.kept hg7 (.inr (hoP.ne R6 (by decide)));have hN7:=hoN.kept hg7 (.inr (hoN.ne R6 (by decide)));have HP7:=hide hP7;have HN7:=hide hN7;have HT7:=hide T7;have HR7:=hide R7;obtain ⟨g0,g1,g2,g3,g4⟩:=cell5 S7;obtain ⟨q0,q1,q2,q3,q4⟩:=cell5 R7;have fr0:=fzR 0 R7;have fr1:=fzR 1 R7;have fr2:=fzR 2 R7;have fr3:=fzR 3 R7;have fr4:=fzR 4 R7;clear S7 hg7 R7 T7 hoP hoN hP7 hN7 hw7 y0 y1 y2 y3 y4 fy3 fy4 R6;go_wp2;refine bodyPost_ret (v:=.agg #[.int .u64 Z4,.slice ao1 m1 c1,.slice ao2 m2 c2,.int .i64 H7,.int .u64 L7]) (by simp [results,Tryz.results289,go_sem,q0,q1,q2,q3,q4]) rfl ⟨_,rfl,?_,.inl ⟨HOk.out,?_⟩⟩
   ·repeat (refine Below.setCell ?_ (by simp <;> omega) _)
    exact HT7.out
   ·rw [HH7.out,HL7.out,HZ4.out]
    refine ⟨_,_,m1,m2,rfl,?_,?_,Hap.out⟩
    ·have hne:=HP7.out.ne HR7.out (by decide)
     repeat (refine OwnB.set ?_ hne _)
     exact HP7.out
    ·have hne:=HN7.out.ne HR7.out (by decide)
     repeat (refine OwnB.set ?_ hne _)
     exact HN7.out
  ·have hz4:Hid (putZ z vv wt=z):=if_neg (by omega)
   have hN4:Hid (putN N vv wt=N):=if_neg (by omega);have HP0:=hide hP0;have d0:(vv == 0)=false:=beq_eq_false_iff_ne.2 (by omega);have d1:decide (0<vv)=true:=decide_eq_true hP0
   go_wp2_with (first
    | (go_at_call 124;refine (c_valueRight _ _ hvv).mono ?_;rintro e w4 ⟨rfl,hw⟩;obtain rfl:=hw.symm;rw [d2]))
   have HS0:(fun W=>Below w3.heap.size w3 W) w3.drew:=(Below.refl _ _).drew;refine regionK (fun W=>Below w3.heap.size w3 W) 7 (by kernel_rfl) ?_;refine tkL (i:=0) (v:=.func (.func 292) #[] #[.pointer (some ⟨w.heap.size+1,0,none⟩)]) rfl rfl HS0 (fun W hW=>?_) ?_
   ·obtain ⟨⟨x0,x1,x2,x3,x4⟩,x5,x6,x7⟩:=HC.out W hW
    go_simp
   refine tkL (i:=1) (v:=.pointer (some ⟨w.heap.size,1,none⟩)) rfl rfl HS0 (fun W hW=>?_) ?_
   ·obtain ⟨⟨x0,x1,x2,x3,x4⟩,x5,x6,x7⟩:=HC.out W hW
    go_simp
   refine tkL (i:=2) (v:=.slice pa pn pc) rfl rfl HS0 (fun W hW=>?_) ?_
   ·obtain ⟨⟨x0,x1,x2,x3,x4⟩,x5,x6,x7⟩:=HC.out W hW
    go_simp
   simp only [sA,sB,sC];refine tkL (i:=3) (v:=.int .i64 vv) rfl rfl HS0 (fun W hW=>?_) ?_
   ·obtain ⟨⟨x0,x1,x2,x3,x4⟩,x5,x6,x7⟩:=HC.out W hW
    go_simp
   simp only [sA,sB,sC];refine onE (i:=4) rfl (fun K hK=>?_);go_simp;refine (c_i_BinOf _ _ (by unfold I64;omega)).mono ?_;rintro e w4 ⟨rfl,rfl⟩;dsimp only;refine hK.out _ _ (fun _=>HS0) ?_;clear hK K
   try simp only [Act.put,sA,sB,sC]
   refine onE (i:=5) rfl (fun K hK=>?_);go_simp;refine (c_putInto (Q:=P) _ _ _ hp l30P (bins_past HP.out (chain HT3.out HS0)) KP.out (by have:=binI_in vv;unfold I64;omega) hwt (HC.out _ HS0).2.1).mono ?_;rintro e w5 ⟨v5,n5,rfl,ho5,hb5⟩;dsimp only;have HB5:=hide ((HS0:Below w3.heap.size w3 w3.drew).trans hb5);have HO5:=hide (ho5.le (B':=w.heap.size) (by show w.heap.size≤w3.heap.size;have:=HT3.out.size;omega));have HF5:=hide (fun q (h:Value.ownBlock v5=some q)=>(show w3.heap.size≤q from (ho5.lt q h).1));obtain ⟨ao5,c5,rfl⟩:=ho5.any;clear ho5 hb5;refine hK.out _ _ (fun _=>HB5.out) ?_;clear hK K
   try simp only [Act.put,sA,sB,sC]
   refine onE (i:=6) rfl (fun K hK=>?_);go_simp;refine hK.out _ _ (fun _=>HB5.out) ?_;clear hK K
   try simp only [Act.put,sA,sB,sC]
   have R5:=(HC.out _ HB5.out).2.2.2;obtain ⟨q0,q1,q2,q3,q4⟩:=cell5 R5;have f1:=fzR 1 R5;refine onE (i:=7) rfl (fun K hK=>?_);go_simp;refine hK.out _ _ (fun h=>absurd rfl h) ?_;clear hK K
   try simp only [Act.put,sA,sB,sC]
   refine doneK (by kernel_rfl) ?_ _;generalize hw4:w5.setCell ⟨sg,1,none⟩ (.slice ao5 n5 c5)=w4;have hg4:w3.grownBy w4 (some sg):=by rw [← hw4];exact World.grownBy.trans ⟨HB5.out.os,HB5.out.tape,HB5.out.output,HB5.out.size,fun k hk _=>HB5.out.block k hk⟩ (grown_one _ _ _ _)
   have hr4:w4.heap[sg]?=some (.cells #[.int .u64 (putZ z vv wt),.slice ao5 n5 c5,.slice ao2 m2 c2,.int .i64 h,.int .u64 l] 43 (0,0)):=by
    rw [← hw4,hz4.out];exact heap_setCell_same w5 sg 1 _ _ _ R5
   have hne5:Value.ownBlock (.slice ao5 n5 c5)≠some sg:=HO5.out.ne R5 (by decide)
   have hoP:OwnB w4 w.heap.size (.slice ao5 n5 c5) n5 (putP P vv wt):=by
    rw [← hw4,putP,if_pos HP0.out];exact HO5.out.set hne5 _
   have hoN:OwnB w4 w.heap.size (.slice ao2 m2 c2) m2 (putN N vv wt):=by
    rw [← hw4,hN4.out];have h5:=HO2.out.past HB5.out;exact h5.set (h5.ne R5 (by decide)) _
   have hap:Apart (.slice ao5 n5 c5) (.slice ao2 m2 c2):=fun k e1 e2=>by
    have h1:=HF5.out k e1;have h2:=(HO2.out.lt k e2).2;omega
   clear HO1 HO2 hw4 HO5 HF5 R5 q0 q1 q2 q3 q4 f1 hne5 HB5 hz4 hN4 g0 g1 g2 g3 g4 fs0 HS0;obtain ⟨K4,N4,R4⟩:=HsW.out _ hg4;have hT4:Below w.heap.size w w4:=HT3.out.grown hg4 HT3.out.size (fun k e=>by cases e;omega);have hlt4:sg<w4.heap.size:=(Array.getElem?_eq_some_iff.1 hr4).1;have hC4:∀ W,Below w4.heap.size w4 W→SkCell W w.heap.size z (.slice pa pn pc) (.slice na nn nc) h l∧NumAt' W (w.heap.size+1) wt∧W.heap[w.heap.size+1+1]?=some (.cells zeroSk 43 (0,0))∧W.heap[sg]?=some (.cells #[.int .u64 (putZ z vv wt),.slice ao5 n5 c5,.slice ao2 m2 c2,.int .i64 h,.int .u64 l] 43 (0,0)):=fun W hW=>⟨sk_past K4 hW,cell_past hW N4,by rw [hW.block _ (by omega)];exact R4,by rw [hW.block _ hlt4];exact hr4⟩;have HC4:=hide hC4;have HT4:=hide hT4;have HoP:=hide hoP;have HoN:=hide hoN;have Hap:=hide hap;obtain ⟨Z4,hZ4⟩:∃ Z,putZ z vv wt=Z:=⟨_,rfl⟩;rw [hZ4] at HC4;have HZ4:=hide hZ4;clear hC4 hT4 hoP hoN hap hr4 hg4 K4 N4 R4 hZ4 HC;have HS0:(fun W=>Below w4.heap.size w4 W) w4.drew:=(Below.refl _ _).drew;go_wp2_with fail;refine regionK (fun W=>Below w4.heap.size w4 W) 7 (by kernel_rfl) ?_;refine tkL (i:=0) (v:=.pointer (some ⟨w.heap.size,3,none⟩)) rfl rfl HS0 (fun W hW=>?_) ?_
   ·obtain ⟨⟨x0,x1,x2,x3,x4⟩,x5,x6,x7⟩:=HC4.out W hW
    go_simp
   refine tkL (i:=1) (v:=.agg #[.int .i64 h,.int .u64 l]) rfl rfl HS0 (fun W hW=>?_) ?_
   ·obtain ⟨⟨x0,x1,x2,x3,x4⟩,x5,x6,x7⟩:=HC4.out W hW
    go_simp
   refine tkL (i:=2) (v:=.int .i64 vv) rfl rfl HS0 (fun W hW=>?_) ?_
   ·obtain ⟨⟨x0,x1,x2,x3,x4⟩,x5,x6,x7⟩:=HC4.out W hW
    go_simp
   simp only [sA,sB,sC];refine tkL (i:=3) (v:=.int .u64 wt) rfl rfl HS0 (fun W hW=>?_) ?_
   ·obtain ⟨⟨x0,x1,x2,x3,x4⟩,x5,x6,x7⟩:=HC4.out W hW
    go_simp
   simp only [sA,sB,sC];refine onE (i:=4) rfl (fun K hK=>?_);go_simp;refine (c_i_WideTimes _ _ hvv hwt _).mono ?_;rintro e w5 ⟨rfl,hb5⟩;dsimp only;have HB5:=hide ((HS0:Below w4.heap.size w4 w4.drew).trans hb5);clear hb5;refine hK.out _ _ (fun _=>HB5.out) ?_;clear hK K
   try simp only [Act.put,sA,sB,sC]
   refine onE (i:=5) rfl (fun K hK=>?_);go_simp;refine (c_i_WideAdd _ _ _ _ _ hl0 (show U64 (thL vv wt) from uw_in _)).mono ?_;rintro e w6 ⟨rfl,hb6⟩;dsimp only;have HB6:=hide (chain HB5.out hb6);clear hb6;refine hK.out _ _ (fun _=>HB6.out) ?_;clear hK K
   try simp only [Act.put,sA,sB,sC]
   refine onE (i:=6) rfl (fun K hK=>?_);go_simp;refine hK.out _ _ (fun _=>HB6.out) ?_;clear hK K
   try simp only [Act.put,sA,sB,sC]
   have R6:=(HC4.out _ HB6.out).2.2.2;obtain ⟨y0,y1,y2,y3,y4⟩:=cell5 R6;have fy3:=fzR 3 R6;have fy4:=fzR 4 R6;refine onE (i:=7) rfl (fun K hK=>?_);go_simp;refine hK.out _ _ (fun h=>absurd rfl h) ?_;clear hK K
   try simp only [Act.put,sA,sB,sC]
   refine doneK (by kernel_rfl) ?_ _;obtain ⟨H7,hH7⟩:∃ H,addH h l (thH vv wt) (thL vv wt)=H:=⟨_,rfl⟩;obtain ⟨L7,hL7⟩:∃ H,addL l (thL vv wt)=H:=⟨_,rfl⟩;have HH7:=hide hH7;have HL7:=hide hL7;rw [hH7,hL7];clear hH7 hL7;generalize hw7:(w6.setCell ⟨sg,3,none⟩ (.int .i64 H7)).setCell ⟨sg,4,none⟩ (.int .u64 L7)=w7
   have S7:w7.heap[sg]?=some (.cells #[.int .u64 Z4,.slice ao5 n5 c5,.slice ao2 m2 c2,.int .i64 H7,.int .u64 L7] 43 (0,0)):=by
    rw [← hw7];exact heap_setCell_same _ sg 4 _ _ _ (heap_setCell_same w6 sg 3 _ _ _ R6)
   have hg7:w6.grownBy w7 (some sg):=by rw [← hw7];exact (grown_one _ _ _ _).trans (grown_one _ _ _ _)
   have R7:w7.heap[w.heap.size+1+1]?=some (.cells zeroSk 43 (0,0)):=by
    have hR:=(HC4.out _ HB6.out).2.2.1;rw [hg7.block _ (Array.getElem?_eq_some_iff.1 hR).1 (fun e=>by have:=Option.some.inj e;omega)];exact hR
   have T7:Below w.heap.size w w7:=(chain HT4.out HB6.out).grown hg7 (chain HT4.out HB6.out).size (fun k e=>by cases e;omega);have hoP:=HoP.out.past HB6.out;have hoN:=HoN.out.past HB6.out;have hP7:=hoP.kept hg7 (.inr (hoP.ne R6 (by decide)));have hN7:=hoN.kept hg7 (.inr (hoN.ne R6 (by decide)));have HP7:=hide hP7;have HN7:=hide hN7;have HT7:=hide T7;have HR7:=hide R7;obtain ⟨g0,g1,g2,g3,g4⟩:=cell5 S7;obtain ⟨q0,q1,q2,q3,q4⟩:=cell5 R7;have fr0:=fzR 0 R7;have fr1:=fzR 1 R7;have fr2:=fzR 2 R7;have fr3:=fzR 3 R7;have fr4:=fzR 4 R7;clear S7 hg7 R7 T7 hoP hoN hP7 hN7 hw7 y0 y1 y2 y3 y4 fy3 fy4 R6;go_wp2;refine bodyPost_ret (v:=.agg #[.int .u64 Z4,.slice ao5 n5 c5,.slice ao2 m2 c2,.int .i64 H7,.int .u64 L7]) (by simp [results,Tryz.results289,go_sem,q0,q1,q2,q3,q4]) rfl ⟨_,rfl,?_,.inl ⟨HOk.out,?_⟩⟩
   ·repeat (refine Below.setCell ?_ (by simp <;> omega) _)
    exact HT7.out
   ·rw [HH7.out,HL7.out,HZ4.out]
    refine ⟨_,_,n5,m2,rfl,?_,?_,Hap.out⟩
    ·have hne:=HP7.out.ne HR7.out (by decide)
     repeat (refine OwnB.set ?_ hne _)
     exact HP7.out
    ·have hne:=HN7.out.ne HR7.out (by decide)
     repeat (refine OwnB.set ?_ hne _)
     exact HN7.out
  ·have hz4:Hid (putZ z vv wt=z):=if_neg (by omega)
   have hP4:Hid (putP P vv wt=P):=if_neg (by omega);have HN0:=hide hN0;have d0:(vv == 0)=false:=beq_eq_false_iff_ne.2 (by omega);have d1:decide (0<vv)=false:=decide_eq_false (by omega);have dm:IntKind.i64.wrap (-vv)=-vv:=by rw [IntKind.wrap_i64];omega
   go_wp2_with (first
    | (go_at_call 124;refine (c_valueRight _ _ hvv).mono ?_;rintro e w4 ⟨rfl,hw⟩;obtain rfl:=hw.symm;rw [d2]))
   have HS0:(fun W=>Below w3.heap.size w3 W) w3.drew:=(Below.refl _ _).drew;refine regionK (fun W=>Below w3.heap.size w3 W) 8 (by kernel_rfl) ?_;refine tkL (i:=0) (v:=.func (.func 292) #[] #[.pointer (some ⟨w.heap.size+1,0,none⟩)]) rfl rfl HS0 (fun W hW=>?_) ?_
   ·obtain ⟨⟨x0,x1,x2,x3,x4⟩,x5,x6,x7⟩:=HC.out W hW
    go_simp
   refine tkL (i:=1) (v:=.pointer (some ⟨w.heap.size,2,none⟩)) rfl rfl HS0 (fun W hW=>?_) ?_
   ·obtain ⟨⟨x0,x1,x2,x3,x4⟩,x5,x6,x7⟩:=HC.out W hW
    go_simp
   refine tkL (i:=2) (v:=.slice na nn nc) rfl rfl HS0 (fun W hW=>?_) ?_
   ·obtain ⟨⟨x0,x1,x2,x3,x4⟩,x5,x6,x7⟩:=HC.out W hW
    go_simp
   simp only [sA,sB,sC];refine tkL (i:=3) (v:=.int .i64 vv) rfl rfl HS0 (fun W hW=>?_) ?_
   ·obtain ⟨⟨x0,x1,x2,x3,x4⟩,x5,x6,x7⟩:=HC.out W hW
    go_simp
   refine tkL (i:=4) (v:=.int .i64 (-vv)) rfl rfl HS0 (fun W hW=>?_) ?_
   ·obtain ⟨⟨x0,x1,x2,x3,x4⟩,x5,x6,x7⟩:=HC.out W hW
    go_simp
   simp only [sA,sB,sC];refine onE (i:=5) rfl (fun K hK=>?_);go_simp;refine (c_i_BinOf _ _ (by unfold I64;omega)).mono ?_;rintro e w4 ⟨rfl,rfl⟩;dsimp only;refine hK.out _ _ (fun _=>HS0) ?_;clear hK K
   try simp only [Act.put,sA,sB,sC]
   refine onE (i:=6) rfl (fun K hK=>?_);go_simp;refine (c_putInto (Q:=N) _ _ _ hn l30N (bins_past HN.out (chain HT3.out HS0)) KN.out (by have:=binI_in (-vv);unfold I64;omega) hwt (HC.out _ HS0).2.1).mono ?_;rintro e w5 ⟨v5,n5,rfl,ho5,hb5⟩;dsimp only;have HB5:=hide ((HS0:Below w3.heap.size w3 w3.drew).trans hb5);have HO5:=hide (ho5.le (B':=w.heap.size) (by show w.heap.size≤w3.heap.size;have:=HT3.out.size;omega));have HF5:=hide (fun q (h:Value.ownBlock v5=some q)=>(show w3.heap.size≤q from (ho5.lt q h).1));obtain ⟨ao5,c5,rfl⟩:=ho5.any;clear ho5 hb5;refine hK.out _ _ (fun _=>HB5.out) ?_;clear hK K
   try simp only [Act.put,sA,sB,sC]
   refine onE (i:=7) rfl (fun K hK=>?_);go_simp;refine hK.out _ _ (fun _=>HB5.out) ?_;clear hK K
   try simp only [Act.put,sA,sB,sC]
   have R5:=(HC.out _ HB5.out).2.2.2;obtain ⟨q0,q1,q2,q3,q4⟩:=cell5 R5;have f1:=fzR 2 R5;refine onE (i:=8) rfl (fun K hK=>?_);go_simp;refine hK.out _ _ (fun h=>absurd rfl h) ?_;clear hK K
   try simp only [Act.put,sA,sB,sC]
   refine doneK (by kernel_rfl) ?_ _;generalize hw4:w5.setCell ⟨sg,2,none⟩ (.slice ao5 n5 c5)=w4;have hg4:w3.grownBy w4 (some sg):=by rw [← hw4];exact World.grownBy.trans ⟨HB5.out.os,HB5.out.tape,HB5.out.output,HB5.out.size,fun k hk _=>HB5.out.block k hk⟩ (grown_one _ _ _ _)
   have hr4:w4.heap[sg]?=some (.cells #[.int .u64 (putZ z vv wt),.slice ao1 m1 c1,.slice ao5 n5 c5,.int .i64 h,.int .u64 l] 43 (0,0)):=by
    rw [← hw4,hz4.out];exact heap_setCell_same w5 sg 2 _ _ _ R5
   have hne5:Value.ownBlock (.slice ao5 n5 c5)≠some sg:=HO5.out.ne R5 (by decide)
   have hoN:OwnB w4 w.heap.size (.slice ao5 n5 c5) n5 (putN N vv wt):=by
    rw [← hw4,putN,if_pos HN0.out];exact HO5.out.set hne5 _
   have hoP:OwnB w4 w.heap.size (.slice ao1 m1 c1) m1 (putP P vv wt):=by
    rw [← hw4,hP4.out];have h5:=HO1.out.past HB5.out;exact h5.set (h5.ne R5 (by decide)) _
   have hap:Apart (.slice ao1 m1 c1) (.slice ao5 n5 c5):=fun k e1 e2=>by
    have h1:=HF5.out k e2;have h2:=(HO1.out.lt k e1).2;omega
   clear HO1 HO2 hw4 HO5 HF5 R5 q0 q1 q2 q3 q4 f1 hne5 HB5 hz4 hP4 g0 g1 g2 g3 g4 fs0 HS0;obtain ⟨K4,N4,R4⟩:=HsW.out _ hg4;have hT4:Below w.heap.size w w4:=HT3.out.grown hg4 HT3.out.size (fun k e=>by cases e;omega);have hlt4:sg<w4.heap.size:=(Array.getElem?_eq_some_iff.1 hr4).1;have hC4:∀ W,Below w4.heap.size w4 W→SkCell W w.heap.size z (.slice pa pn pc) (.slice na nn nc) h l∧NumAt' W (w.heap.size+1) wt∧W.heap[w.heap.size+1+1]?=some (.cells zeroSk 43 (0,0))∧W.heap[sg]?=some (.cells #[.int .u64 (putZ z vv wt),.slice ao1 m1 c1,.slice ao5 n5 c5,.int .i64 h,.int .u64 l] 43 (0,0)):=fun W hW=>⟨sk_past K4 hW,cell_past hW N4,by rw [hW.block _ (by omega)];exact R4,by rw [hW.block _ hlt4];exact hr4⟩;have HC4:=hide hC4;have HT4:=hide hT4;have HoP:=hide hoP;have HoN:=hide hoN;have Hap:=hide hap;obtain ⟨Z4,hZ4⟩:∃ Z,putZ z vv wt=Z:=⟨_,rfl⟩;rw [hZ4] at HC4;have HZ4:=hide hZ4;clear hC4 hT4 hoP hoN hap hr4 hg4 K4 N4 R4 hZ4 HC;have HS0:(fun W=>Below w4.heap.size w4 W) w4.drew:=(Below.refl _ _).drew;go_wp2_with fail;refine regionK (fun W=>Below w4.heap.size w4 W) 7 (by kernel_rfl) ?_;refine tkL (i:=0) (v:=.pointer (some ⟨w.heap.size,3,none⟩)) rfl rfl HS0 (fun W hW=>?_) ?_
   ·obtain ⟨⟨x0,x1,x2,x3,x4⟩,x5,x6,x7⟩:=HC4.out W hW
    go_simp
   refine tkL (i:=1) (v:=.agg #[.int .i64 h,.int .u64 l]) rfl rfl HS0 (fun W hW=>?_) ?_
   ·obtain ⟨⟨x0,x1,x2,x3,x4⟩,x5,x6,x7⟩:=HC4.out W hW
    go_simp
   refine tkL (i:=2) (v:=.int .i64 vv) rfl rfl HS0 (fun W hW=>?_) ?_
   ·obtain ⟨⟨x0,x1,x2,x3,x4⟩,x5,x6,x7⟩:=HC4.out W hW
    go_simp
   simp only [sA,sB,sC];refine tkL (i:=3) (v:=.int .u64 wt) rfl rfl HS0 (fun W hW=>?_) ?_
   ·obtain ⟨⟨x0,x1,x2,x3,x4⟩,x5,x6,x7⟩:=HC4.out W hW
    go_simp
   simp only [sA,sB,sC];refine onE (i:=4) rfl (fun K hK=>?_);go_simp;refine (c_i_WideTimes _ _ hvv hwt _).mono ?_;rintro e w5 ⟨rfl,hb5⟩;dsimp only;have HB5:=hide ((HS0:Below w4.heap.size w4 w4.drew).trans hb5);clear hb5;refine hK.out _ _ (fun _=>HB5.out) ?_;clear hK K
   try simp only [Act.put,sA,sB,sC]
   refine onE (i:=5) rfl (fun K hK=>?_);go_simp;refine (c_i_WideAdd _ _ _ _ _ hl0 (show U64 (thL vv wt) from uw_in _)).mono ?_;rintro e w6 ⟨rfl,hb6⟩;dsimp only;have HB6:=hide (chain HB5.out hb6);clear hb6;refine hK.out _ _ (fun _=>HB6.out) ?_;clear hK K
   try simp only [Act.put,sA,sB,sC]
   refine onE (i:=6) rfl (fun K hK=>?_);go_simp;refine hK.out _ _ (fun _=>HB6.out) ?_;clear hK K
   try simp only [Act.put,sA,sB,sC]
   have R6:=(HC4.out _ HB6.out).2.2.2;obtain ⟨y0,y1,y2,y3,y4⟩:=cell5 R6;have fy3:=fzR 3 R6;have fy4:=fzR 4 R6;refine onE (i:=7) rfl (fun K hK=>?_);go_simp;refine hK.out _ _ (fun h=>absurd rfl h) ?_;clear hK K
   try simp only [Act.put,sA,sB,sC]
   refine doneK (by kernel_rfl) ?_ _;obtain ⟨H7,hH7⟩:∃ H,addH h l (thH vv wt) (thL vv wt)=H:=⟨_,rfl⟩;obtain ⟨L7,hL7⟩:∃ H,addL l (thL vv wt)=H:=⟨_,rfl⟩;have HH7:=hide hH7;have HL7:=hide hL7;rw [hH7,hL7];clear hH7 hL7;generalize hw7:(w6.setCell ⟨sg,3,none⟩ (.int .i64 H7)).setCell ⟨sg,4,none⟩ (.int .u64 L7)=w7
   have S7:w7.heap[sg]?=some (.cells #[.int .u64 Z4,.slice ao1 m1 c1,.slice ao5 n5 c5,.int .i64 H7,.int .u64 L7] 43 (0,0)):=by
    rw [← hw7];exact heap_setCell_same _ sg 4 _ _ _ (heap_setCell_same w6 sg 3 _ _ _ R6)
   have hg7:w6.grownBy w7 (some sg):=by rw [← hw7];exact (grown_one _ _ _ _).trans (grown_one _ _ _ _)
   have R7:w7.heap[w.heap.size+1+1]?=some (.cells zeroSk 43 (0,0)):=by
    have hR:=(HC4.out _ HB6.out).2.2.1;rw [hg7.block _ (Array.getElem?_eq_some_iff.1 hR).1 (fun e=>by have:=Option.some.inj e;omega)];exact hR
   have T7:Below w.heap.size w w7:=(chain HT4.out HB6.out).grown hg7 (chain HT4.out HB6.out).size (fun k e=>by cases e;omega);have hoP:=HoP.out.past HB6.out;have hoN:=HoN.out.past HB6.out;have hP7:=hoP.kept hg7 (.inr (hoP.ne R6 (by decide)));have hN7:=hoN.kept hg7 (.inr (hoN.ne R6 (by decide)));have HP7:=hide hP7;have HN7:=hide hN7;have HT7:=hide T7;have HR7:=hide R7;obtain ⟨g0,g1,g2,g3,g4⟩:=cell5 S7;obtain ⟨q0,q1,q2,q3,q4⟩:=cell5 R7;have fr0:=fzR 0 R7;have fr1:=fzR 1 R7;have fr2:=fzR 2 R7;have fr3:=fzR 3 R7;have fr4:=fzR 4 R7;clear S7 hg7 R7 T7 hoP hoN hP7 hN7 hw7 y0 y1 y2 y3 y4 fy3 fy4 R6;go_wp2;refine bodyPost_ret (v:=.agg #[.int .u64 Z4,.slice ao1 m1 c1,.slice ao5 n5 c5,.int .i64 H7,.int .u64 L7]) (by simp [results,Tryz.results289,go_sem,q0,q1,q2,q3,q4]) rfl ⟨_,rfl,?_,.inl ⟨HOk.out,?_⟩⟩
   ·repeat (refine Below.setCell ?_ (by simp <;> omega) _)
    exact HT7.out
   ·rw [HH7.out,HL7.out,HZ4.out]
    refine ⟨_,_,m1,n5,rfl,?_,?_,Hap.out⟩
    ·have hne:=HP7.out.ne HR7.out (by decide)
     repeat (refine OwnB.set ?_ hne _)
     exact HP7.out
    ·have hne:=HN7.out.ne HR7.out (by decide)
     repeat (refine OwnB.set ?_ hne _)
     exact HN7.out
def putPS (P:List Bn) (v wt:Int):List Bn:=if 0<v then keepL (mrg P [(binI v,wt)]) else P
def putNS (N:List Bn) (v wt:Int):List Bn:=if v<0 then keepL (mrg N [(binI (-v),wt)]) else N
theorem one_bins (w:World) (t:TypeId) (a u:Int):BinsAt (w.alloc (.cells #[.int .i64 a,.int .u64 u] t)) (some ⟨w.heap.size,0,none⟩) [(a,u)]:=fun _=>⟨w.heap.size,0,rfl,fun i x hx=>by
 obtain ⟨rfl,rfl⟩:i=0∧x=(a,u):=by
  cases i with
  | zero=>exact ⟨rfl,by simpa using hx.symm⟩
  | succ j=>simp at hx
 exact bc_new w t a u⟩
set_option maxHeartbeats 4000000 in
theorem c_s_l03Put {w:World} {z h l vv wt:Int} {pa na:Option Addr} {pn pc nn nc:Nat} {P N:List Bn} (hz:U64 z) (hl0:U64 l) (hvv:I64 vv) (hwt:U64 wt) (hp:P.length=pn) (hn:N.length=nn) (lp:pn≤30) (ln:nn≤30) (hP:BinsAt w pa P) (hN:BinsAt w na N) (kP:∀ x∈P,BnOk x) (kN:∀ x∈N,BnOk x) (hv9:-999999999999999999≤vv∧vv≤999999999999999999) (cA:pa=none→pc=0) (cA':na=none→nc=0) :
  Calls Tryz.prog 136 #[.agg #[.int .u64 z,.slice pa pn pc,.slice na nn nc,.int .i64 h,.int .u64 l],.int .i64 vv,.int .u64 wt] w fun e w'=>∃ v,e=.returned v∧SkOut w' w.heap.size v (putZ z vv wt) (putPS P vv wt) (putNS N vv wt) (addH h l (thH vv wt) (thL vv wt)) (addL l (thL vv wt))∧Below w.heap.size w w':=by
 have HP:=hide hP;have HN:=hide hN;have KP:=hide kP;have KN:=hide kN;have CA:=hide cA;have CA':=hide cA';clear hP hN kP kN cA cA';go_enter Tryz.func136,Tryz.ntmps136;go_wp2_with fail;generalize hW0:(w.alloc (Obj.cells #[.int .u64 z,.slice pa pn pc,.slice na nn nc,.int .i64 h,.int .u64 l] 43)).alloc (Obj.cells zeroSk 43)=W0;have T0:Below w.heap.size w W0:=by rw [← hW0];exact ((Below.refl _ _).alloc (Nat.le_refl _) _).alloc (by simp) _
 have K0:SkCell W0 w.heap.size z (.slice pa pn pc) (.slice na nn nc) h l:=by rw [← hW0];exact sk_past (sk_new w _ _ _ _ _ _) ((Below.refl _ _).alloc (Nat.le_refl _) _)
 have R0:W0.heap[w.heap.size+1]?=some (.cells zeroSk 43 (0,0)):=by rw [← hW0];simpa using heap_alloc_new (w.alloc (Obj.cells #[.int .u64 z,.slice pa pn pc,.slice na nn nc,.int .i64 h,.int .u64 l] 43)) (Obj.cells zeroSk 43)
 have hsz0:W0.heap.size=w.heap.size+2:=by rw [← hW0];simp
 clear hW0;have HT0:=hide T0;clear T0;refine (c_s_l03Copy hp hn (by omega) (by omega) (bins_past HP.out HT0.out) (bins_past HN.out HT0.out) CA.out CA'.out).mono ?_;rintro e w1 ⟨v1,rfl,⟨p1,n1,m1,m2,rfl,ho1,ho2,hap⟩,hb1⟩;obtain ⟨ao1,c1,rfl⟩:=ho1.any;obtain ⟨ao2,c2,rfl⟩:=ho2.any;have HT1:=hide (chain HT0.out hb1);have K1:=sk_past K0 hb1;have R1:w1.heap[w.heap.size+1]?=some (.cells zeroSk 43 (0,0)):=by rw [hb1.block _ (by omega)];exact R0
 have hs1:w.heap.size+2≤w1.heap.size:=by have:=hb1.size;omega
 have HO1:=hide (ho1.le (B':=w.heap.size) (by omega));have HO2:=hide (ho2.le (B':=w.heap.size) (by omega));have HAp:=hide hap;clear hb1 ho1 ho2 hap K0 R0;go_wp2_with fail;generalize hW4:w1.alloc (Obj.cells #[.int .u64 z,.slice ao1 m1 c1,.slice ao2 m2 c2,.int .i64 h,.int .u64 l] 43)=w4;have hB4:Below w1.heap.size w1 w4:=by rw [← hW4];exact (Below.refl _ _).alloc (Nat.le_refl _) _
 have S4:w4.heap[w1.heap.size]?=some (.cells #[.int .u64 z,.slice ao1 m1 c1,.slice ao2 m2 c2,.int .i64 h,.int .u64 l] 43 (0,0)):=by rw [← hW4];exact heap_alloc_new w1 _
 clear hW4;obtain ⟨sg,hsg⟩:∃ sg,sg=w1.heap.size:=⟨_,rfl⟩;rw [← hsg] at S4 ⊢;have hs4:w.heap.size+2≤sg:=by omega
 have hlt4:sg<w4.heap.size:=(Array.getElem?_eq_some_iff.1 S4).1;have HT4:=hide (chain HT1.out hB4);have K4:=sk_past K1 hB4;have R4:w4.heap[w.heap.size+1]?=some (.cells zeroSk 43 (0,0)):=by rw [hB4.block _ (by omega)];exact R1
 have HO14:=hide (HO1.out.past hB4);have HO24:=hide (HO2.out.past hB4);have hC4:∀ W,Below w4.heap.size w4 W→SkCell W w.heap.size z (.slice pa pn pc) (.slice na nn nc) h l∧W.heap[w.heap.size+1]?=some (.cells zeroSk 43 (0,0))∧W.heap[sg]?=some (.cells #[.int .u64 z,.slice ao1 m1 c1,.slice ao2 m2 c2,.int .i64 h,.int .u64 l] 43 (0,0)):=fun W hW=>⟨sk_past K4 hW,by rw [hW.block _ (by omega)];exact R4,by rw [hW.block _ hlt4];exact S4⟩;have HC4:=hide hC4;clear hC4 HO1 HO2 hB4 S4 R4 K4 K1 R1 hsg hs1 HT1;have HS0:(fun W=>Below w4.heap.size w4 W) w4.drew:=(Below.refl _ _).drew;refine regionK (fun W=>Below w4.heap.size w4 W) 7 (by kernel_rfl) ?_;refine tkL (i:=0) (v:=.pointer (some ⟨w.heap.size,3,none⟩)) rfl rfl HS0 (fun W hW=>?_) ?_
 ·obtain ⟨⟨x0,x1,x2,x3,x4⟩,x5,x6⟩:=HC4.out W hW
  go_simp
 refine tkL (i:=1) (v:=.agg #[.int .i64 h,.int .u64 l]) rfl rfl HS0 (fun W hW=>?_) ?_
 ·obtain ⟨⟨x0,x1,x2,x3,x4⟩,x5,x6⟩:=HC4.out W hW
  go_simp
 refine tkL (i:=2) (v:=.int .i64 vv) rfl rfl HS0 (fun W hW=>?_) ?_
 ·obtain ⟨⟨x0,x1,x2,x3,x4⟩,x5,x6⟩:=HC4.out W hW
  go_simp
 simp only [sA,sB,sC];refine tkL (i:=3) (v:=.int .u64 wt) rfl rfl HS0 (fun W hW=>?_) ?_
 ·obtain ⟨⟨x0,x1,x2,x3,x4⟩,x5,x6⟩:=HC4.out W hW
  go_simp
 simp only [sA,sB,sC];refine onE (i:=4) rfl (fun K hK=>?_);go_simp;refine (c_s_WideTimes _ _ hvv hwt _).mono ?_;rintro e w5 ⟨rfl,hb5⟩;dsimp only;have HB5:=hide ((HS0:Below w4.heap.size w4 w4.drew).trans hb5);clear hb5;refine hK.out _ _ (fun _=>HB5.out) ?_;clear hK K
 try simp only [Act.put,sA,sB,sC]
 refine onE (i:=5) rfl (fun K hK=>?_);go_simp;refine (c_s_WideAdd _ _ _ _ _ hl0 (show U64 (thL vv wt) from uw_in _)).mono ?_;rintro e w6 ⟨rfl,hb6⟩;dsimp only;have HB6:=hide (chain HB5.out hb6);clear hb6;refine hK.out _ _ (fun _=>HB6.out) ?_;clear hK K
 try simp only [Act.put,sA,sB,sC]
 refine onE (i:=6) rfl (fun K hK=>?_);go_simp;refine hK.out _ _ (fun _=>HB6.out) ?_;clear hK K
 try simp only [Act.put,sA,sB,sC]
 have R6:=(HC4.out _ HB6.out).2.2;obtain ⟨y0,y1,y2,y3,y4⟩:=cell5 R6;have fy3:=fzR 3 R6;have fy4:=fzR 4 R6;refine onE (i:=7) rfl (fun K hK=>?_);go_simp;refine hK.out _ _ (fun h=>absurd rfl h) ?_;clear hK K
 try simp only [Act.put,sA,sB,sC]
 refine doneK (by kernel_rfl) ?_ _;obtain ⟨H7,hH7⟩:∃ H,addH h l (thH vv wt) (thL vv wt)=H:=⟨_,rfl⟩;obtain ⟨L7,hL7⟩:∃ H,addL l (thL vv wt)=H:=⟨_,rfl⟩;have HH7:=hide hH7;have HL7:=hide hL7;rw [hH7,hL7];clear hH7 hL7;generalize hw3:(w6.setCell ⟨sg,3,none⟩ (.int .i64 H7)).setCell ⟨sg,4,none⟩ (.int .u64 L7)=w3
 have S3:w3.heap[sg]?=some (.cells #[.int .u64 z,.slice ao1 m1 c1,.slice ao2 m2 c2,.int .i64 H7,.int .u64 L7] 43 (0,0)):=by
  rw [← hw3];exact heap_setCell_same _ sg 4 _ _ _ (heap_setCell_same w6 sg 3 _ _ _ R6)
 have hg3:w6.grownBy w3 (some sg):=by rw [← hw3];exact (grown_one _ _ _ _).trans (grown_one _ _ _ _)
 have hk3:∀ j,j<w6.heap.size→j≠sg→w3.heap[j]?=w6.heap[j]?:=fun j hj hne=>hg3.block j hj (fun e=>hne (Option.some.inj e));obtain ⟨K6,Q6,_⟩:=HC4.out _ HB6.out;have hb6z:=HB6.out.size;have R3:w3.heap[w.heap.size+1]?=some (.cells zeroSk 43 (0,0)):=by rw [hk3 _ (by omega) (by omega)];exact Q6
 have K3:SkCell w3 w.heap.size z (.slice pa pn pc) (.slice na nn nc) h l:=by
  have hb0:∀ j,w3.cell? ⟨w.heap.size,j,none⟩=w6.cell? ⟨w.heap.size,j,none⟩:=fun j=>World.cell?_of_block (w:=w6) (hk3 w.heap.size (by omega) (by omega));exact ⟨by rw [hb0];exact K6.1,by rw [hb0];exact K6.2.1,by rw [hb0];exact K6.2.2.1,by rw [hb0];exact K6.2.2.2.1,by rw [hb0];exact K6.2.2.2.2⟩
 have HT3:=hide ((chain HT4.out HB6.out).grown hg3 (chain HT4.out HB6.out).size (fun k e=>by cases e;omega));have hs3:sg<w3.heap.size:=(Array.getElem?_eq_some_iff.1 S3).1;have o1:=HO14.out.past HB6.out;have o2:=HO24.out.past HB6.out;have HO1:=hide (o1.kept hg3 (.inr (o1.ne R6 (by decide))));have HO2:=hide (o2.kept hg3 (.inr (o2.ne R6 (by decide))));have hC:∀ W,Below w3.heap.size w3 W→SkCell W w.heap.size z (.slice pa pn pc) (.slice na nn nc) h l∧W.heap[w.heap.size+1]?=some (.cells zeroSk 43 (0,0))∧W.heap[sg]?=some (.cells #[.int .u64 z,.slice ao1 m1 c1,.slice ao2 m2 c2,.int .i64 H7,.int .u64 L7] 43 (0,0)):=fun W hW=>⟨sk_past K3 hW,by rw [hW.block _ (by omega)];exact R3,by rw [hW.block _ hs3];exact S3⟩;have HC:=hide hC;have HS3:=hide S3;have fs0:=fzR 0 S3;obtain ⟨g0,g1,g2,g3,g4⟩:=cell5 S3
 have hfin:∀ (w9:World) (Z:Int) (p n:Value) (a b:Nat) (P9 N9:List Bn),w3.grownBy w9 (some sg)→w9.heap[sg]?=some (.cells #[.int .u64 Z,p,n,.int .i64 H7,.int .u64 L7] 43 (0,0))→OwnB w9 w.heap.size p a P9→OwnB w9 w.heap.size n b N9→Apart p n →
   SkOut (((((w9.setCell ⟨w.heap.size+1,0,none⟩ (.int .u64 Z)).setCell ⟨w.heap.size+1,1,none⟩ p).setCell ⟨w.heap.size+1,2,none⟩ n).setCell ⟨w.heap.size+1,3,none⟩ (.int .i64 H7)).setCell ⟨w.heap.size+1,4,none⟩ (.int .u64 L7)) w.heap.size (.agg #[.int .u64 Z,p,n,.int .i64 H7,.int .u64 L7]) Z P9 N9 H7 L7 ∧
   Below w.heap.size w (((((w9.setCell ⟨w.heap.size+1,0,none⟩ (.int .u64 Z)).setCell ⟨w.heap.size+1,1,none⟩ p).setCell ⟨w.heap.size+1,2,none⟩ n).setCell ⟨w.heap.size+1,3,none⟩ (.int .i64 H7)).setCell ⟨w.heap.size+1,4,none⟩ (.int .u64 L7))∧w9.heap[w.heap.size+1]?=some (.cells zeroSk 43 (0,0)):=fun w9 Z p n a b P9 N9 hg hr hp9 hn9 hap9=>by
  have hR:w9.heap[w.heap.size+1]?=some (.cells zeroSk 43 (0,0)):=by rw [hg.block _ (by omega) (fun e=>by have:=Option.some.inj e;omega)];exact R3
  have q1:=hp9.ne hR (by decide);have q2:=hn9.ne hR (by decide);refine ⟨⟨p,n,a,b,rfl,((((hp9.set q1 _).set q1 _).set q1 _).set q1 _).set q1 _,((((hn9.set q2 _).set q2 _).set q2 _).set q2 _).set q2 _,hap9⟩,?_,hR⟩
  repeat (refine Below.setCell ?_ (by simp <;> omega) _)
  exact HT3.out.grown hg HT3.out.size (fun k e=>by cases e;omega)
 have HFin:=hide hfin;clear hfin hC o1 o2 hw3 hg3 hk3 K6 Q6 hb6z S3 R6 y0 y1 y2 y3 y4 fy3 fy4 HC4 HO14 HO24;have c3:vv=0∨0<vv∨vv<0:=by omega
 rcases c3 with hv0 | hP0 | hN0
 ·have hz4:Hid (putZ z vv wt=wAdd z wt):=if_pos hv0
  have hP4:Hid (putPS P vv wt=P):=if_neg (by omega);have hN4:Hid (putNS N vv wt=N):=if_neg (by omega);have d0:(vv == 0)=true:=beq_iff_eq.2 hv0;have d1:decide (0<vv)=false:=decide_eq_false (by omega);have d2:decide (vv<0)=false:=decide_eq_false (by omega);clear hv0;obtain ⟨w9,hw9⟩:∃ W,w3.setCell ⟨sg,0,none⟩ (.int .u64 (wAdd z wt))=W:=⟨_,rfl⟩;have hg9:w3.grownBy w9 (some sg):=by rw [← hw9];exact grown_one _ _ _ _
  have hr9:w9.heap[sg]?=some (.cells #[.int .u64 (wAdd z wt),.slice ao1 m1 c1,.slice ao2 m2 c2,.int .i64 H7,.int .u64 L7] 43 (0,0)):=by rw [← hw9];exact heap_setCell_same w3 sg 0 _ _ _ HS3.out
  have hoP:OwnB w9 w.heap.size (.slice ao1 m1 c1) m1 P:=by rw [← hw9];exact HO1.out.set (HO1.out.ne HS3.out (by decide)) _
  have hoN:OwnB w9 w.heap.size (.slice ao2 m2 c2) m2 N:=by rw [← hw9];exact HO2.out.set (HO2.out.ne HS3.out (by decide)) _
  have hap9:=HAp.out;obtain ⟨k0,k1,k2,k3,k4⟩:=K3;obtain ⟨F1,F2,R9⟩:=HFin.out w9 (wAdd z wt) (.slice ao1 m1 c1) (.slice ao2 m2 c2) m1 m2 _ _ hg9 hr9 hoP hoN hap9;obtain ⟨u0,u1,u2,u3,u4⟩:=cell5 hr9;obtain ⟨q0,q1,q2,q3,q4⟩:=cell5 R9;have fr0:=fzR 0 R9;have fr1:=fzR 1 R9;have fr2:=fzR 2 R9;have fr3:=fzR 3 R9;have fr4:=fzR 4 R9;have HF1:=hide F1;have HF2:=hide F2;clear F1 F2 R9 hr9 hg9 hoP hoN hap9;go_wp2_with (go_at_call 132;refine (c_s_WeightAdd _ _ hz hwt _).mono ?_;rintro e w8 ⟨rfl,hw⟩;obtain rfl:=hw.symm);refine bodyPost_ret (v:=.agg #[.int .u64 (wAdd z wt),.slice ao1 m1 c1,.slice ao2 m2 c2,.int .i64 H7,.int .u64 L7]) (by simp [results,Tryz.results136,go_sem,q0,q1,q2,q3,q4]) rfl ⟨_,rfl,?_,HF2.out⟩;rw [HH7.out,HL7.out,hz4.out,hP4.out,hN4.out];exact HF1.out
 ·have hz4:Hid (putZ z vv wt=z):=if_neg (by omega)
  have hN4:Hid (putNS N vv wt=N):=if_neg (by omega);have HV0:=hide hP0;have d0:(vv == 0)=false:=beq_eq_false_iff_ne.2 (by omega);go_wp2_with fail;have HS0:(fun W=>Below w3.heap.size w3 W) w3.drew:=(Below.refl _ _).drew;refine regionK (fun W=>Below w3.heap.size w3 W) 9 (by kernel_rfl) ?_;refine tkL (i:=0) (v:=.pointer (some ⟨w.heap.size,1,none⟩)) rfl rfl HS0 (fun W hW=>?_) ?_
  ·obtain ⟨⟨x0,x1,x2,x3,x4⟩,x5,x6⟩:=HC.out W hW
   go_simp
  refine tkL (i:=1) (v:=.slice pa pn pc) rfl rfl HS0 (fun W hW=>?_) ?_
  ·obtain ⟨⟨x0,x1,x2,x3,x4⟩,x5,x6⟩:=HC.out W hW
   go_simp
  refine tkL (i:=2) (v:=.int .i64 vv) rfl rfl HS0 (fun W hW=>?_) ?_
  ·obtain ⟨⟨x0,x1,x2,x3,x4⟩,x5,x6⟩:=HC.out W hW
   go_simp
  simp only [sA,sB,sC];refine tkL (i:=4) (v:=.int .u64 wt) rfl rfl HS0 (fun W hW=>?_) ?_
  ·obtain ⟨⟨x0,x1,x2,x3,x4⟩,x5,x6⟩:=HC.out W hW
   go_simp
  simp only [sA,sB,sC];refine onE (i:=3) rfl (fun K hK=>?_);go_simp;refine (c_s_BinOf _ _ (by unfold I64;omega)).mono ?_;rintro e w4 ⟨rfl,rfl⟩;dsimp only;refine hK.out _ _ (fun _=>HS0) ?_;clear hK K
  try simp only [Act.put,sA,sB,sC]
  refine tkS (i:=5) (v:=.agg #[.int .i64 (binI vv),.int .u64 wt]) rfl rfl HS0 ?_;simp only [sA,sB,sC];refine onE (i:=6) rfl (fun K hK=>?_);go_simp;have hba:Below w3.heap.size w3 (w3.drew.alloc (.cells #[.int .i64 (binI vv),.int .u64 wt] 199)):=HS0.alloc (Nat.le_refl _) _;have HBA:=hide hba;clear hba;refine hK.out _ _ (fun _=>HBA.out) ?_;clear hK K
  try simp only [Act.put,sA,sB,sC]
  refine onE (i:=7) rfl (fun K hK=>?_);go_simp;refine (c_s_l03Gather _ _ _ _ hp (by rfl) lp (by omega) (bins_past HP.out (chain HT3.out HBA.out)) (one_bins _ _ _ _) KP.out (fun x hx=>by obtain rfl:x=(binI vv,wt):=(by simpa using hx);exact ⟨by have:=binI_in vv;unfold I64;omega,hwt⟩)).mono ?_;rintro e w5 ⟨v5,n5,rfl,hr5,hn5,hb5⟩;have ho5:=OwnB.of hr5 hn5;clear hr5 hn5;dsimp only;have HB5:=hide (chain HBA.out hb5);have HO5:=hide (ho5.le (B':=w.heap.size) (by have:=HT3.out.size;have:=HBA.out.size;omega));have HF5:=hide (fun q (h:Value.ownBlock v5=some q)=>(show w3.heap.size≤q from Nat.le_trans HBA.out.size (ho5.lt q h).1));obtain ⟨ao5,c5,rfl⟩:=ho5.any;clear ho5 hb5;refine hK.out _ _ (fun _=>HB5.out) ?_;clear hK K
  try simp only [Act.put,sA,sB,sC]
  refine onE (i:=8) rfl (fun K hK=>?_);go_simp;refine hK.out _ _ (fun _=>HB5.out) ?_;clear hK K
  try simp only [Act.put,sA,sB,sC]
  have R5:=(HC.out _ HB5.out).2.2;obtain ⟨q0,q1,q2,q3,q4⟩:=cell5 R5;have f1:=fzR 1 R5;refine onE (i:=9) rfl (fun K hK=>?_);go_simp;refine hK.out _ _ (fun h=>absurd rfl h) ?_;clear hK K
  try simp only [Act.put,sA,sB,sC]
  refine doneK (by kernel_rfl) ?_ _;generalize hw9:w5.setCell ⟨sg,1,none⟩ (.slice ao5 n5 c5)=w9;have hg9:w3.grownBy w9 (some sg):=by rw [← hw9];exact World.grownBy.trans ⟨HB5.out.os,HB5.out.tape,HB5.out.output,HB5.out.size,fun k hk _=>HB5.out.block k hk⟩ (grown_one _ _ _ _)
  have hr9:w9.heap[sg]?=some (.cells #[.int .u64 z,.slice ao5 n5 c5,.slice ao2 m2 c2,.int .i64 H7,.int .u64 L7] 43 (0,0)):=by rw [← hw9];exact heap_setCell_same w5 sg 1 _ _ _ R5
  have hne5:Value.ownBlock (.slice ao5 n5 c5)≠some sg:=HO5.out.ne R5 (by decide)
  have hoP:OwnB w9 w.heap.size (.slice ao5 n5 c5) n5 (putPS P vv wt):=by
   rw [← hw9,putPS,if_pos HV0.out];exact HO5.out.set hne5 _
  have hoN:OwnB w9 w.heap.size (.slice ao2 m2 c2) m2 N:=by
   rw [← hw9];have h5:=HO2.out.past HB5.out;exact h5.set (h5.ne R5 (by decide)) _
  have hap9:Apart (.slice ao5 n5 c5) (.slice ao2 m2 c2):=fun k e1 e2=>by
   have h1:=HF5.out k e1;have h2:=(HO2.out.lt k e2).2;omega
  have d2:decide (vv<0)=false:=decide_eq_false (by have:=HV0.out;omega);clear hw9 hne5 R5 q0 q1 q2 q3 q4 f1;obtain ⟨F1,F2,R9⟩:=HFin.out w9 z (.slice ao5 n5 c5) (.slice ao2 m2 c2) n5 m2 _ _ hg9 hr9 hoP hoN hap9;obtain ⟨u0,u1,u2,u3,u4⟩:=cell5 hr9;obtain ⟨q0,q1,q2,q3,q4⟩:=cell5 R9;have fr0:=fzR 0 R9;have fr1:=fzR 1 R9;have fr2:=fzR 2 R9;have fr3:=fzR 3 R9;have fr4:=fzR 4 R9;have HF1:=hide F1;have HF2:=hide F2;clear F1 F2 R9 hr9 hg9 hoP hoN hap9;go_wp2;refine bodyPost_ret (v:=.agg #[.int .u64 z,.slice ao5 n5 c5,.slice ao2 m2 c2,.int .i64 H7,.int .u64 L7]) (by simp [results,Tryz.results136,go_sem,q0,q1,q2,q3,q4]) rfl ⟨_,rfl,?_,HF2.out⟩;rw [HH7.out,HL7.out,hz4.out,hN4.out];exact HF1.out
 ·have hz4:Hid (putZ z vv wt=z):=if_neg (by omega)
  have hP4:Hid (putPS P vv wt=P):=if_neg (by omega);have HV0:=hide hN0;have d0:(vv == 0)=false:=beq_eq_false_iff_ne.2 (by omega);have d1:decide (0<vv)=false:=decide_eq_false (by omega);have dm:IntKind.i64.wrap (-vv)=-vv:=by rw [IntKind.wrap_i64];omega
  go_wp2_with fail;have HS0:(fun W=>Below w3.heap.size w3 W) w3.drew:=(Below.refl _ _).drew;refine regionK (fun W=>Below w3.heap.size w3 W) 10 (by kernel_rfl) ?_;refine tkL (i:=0) (v:=.pointer (some ⟨w.heap.size,2,none⟩)) rfl rfl HS0 (fun W hW=>?_) ?_
  ·obtain ⟨⟨x0,x1,x2,x3,x4⟩,x5,x6⟩:=HC.out W hW
   go_simp
  refine tkL (i:=1) (v:=.slice na nn nc) rfl rfl HS0 (fun W hW=>?_) ?_
  ·obtain ⟨⟨x0,x1,x2,x3,x4⟩,x5,x6⟩:=HC.out W hW
   go_simp
  refine tkL (i:=2) (v:=.int .i64 vv) rfl rfl HS0 (fun W hW=>?_) ?_
  ·obtain ⟨⟨x0,x1,x2,x3,x4⟩,x5,x6⟩:=HC.out W hW
   go_simp
  simp only [sA,sB,sC];refine tkL (i:=3) (v:=.int .i64 (-vv)) rfl rfl HS0 (fun W hW=>?_) ?_
  ·obtain ⟨⟨x0,x1,x2,x3,x4⟩,x5,x6⟩:=HC.out W hW
   go_simp
  refine tkL (i:=5) (v:=.int .u64 wt) rfl rfl HS0 (fun W hW=>?_) ?_
  ·obtain ⟨⟨x0,x1,x2,x3,x4⟩,x5,x6⟩:=HC.out W hW
   go_simp
  simp only [sA,sB,sC];refine onE (i:=4) rfl (fun K hK=>?_);go_simp;refine (c_s_BinOf _ _ (by unfold I64;omega)).mono ?_;rintro e w4 ⟨rfl,rfl⟩;dsimp only;refine hK.out _ _ (fun _=>HS0) ?_;clear hK K
  try simp only [Act.put,sA,sB,sC]
  refine tkS (i:=6) (v:=.agg #[.int .i64 (binI (-vv)),.int .u64 wt]) rfl rfl HS0 ?_;simp only [sA,sB,sC];refine onE (i:=7) rfl (fun K hK=>?_);go_simp;have hba:Below w3.heap.size w3 (w3.drew.alloc (.cells #[.int .i64 (binI (-vv)),.int .u64 wt] 199)):=HS0.alloc (Nat.le_refl _) _;have HBA:=hide hba;clear hba;refine hK.out _ _ (fun _=>HBA.out) ?_;clear hK K
  try simp only [Act.put,sA,sB,sC]
  refine onE (i:=8) rfl (fun K hK=>?_);go_simp;refine (c_s_l03Gather _ _ _ _ hn (by rfl) ln (by omega) (bins_past HN.out (chain HT3.out HBA.out)) (one_bins _ _ _ _) KN.out (fun x hx=>by obtain rfl:x=(binI (-vv),wt):=(by simpa using hx);exact ⟨by have:=binI_in (-vv);unfold I64;omega,hwt⟩)).mono ?_;rintro e w5 ⟨v5,n5,rfl,hr5,hn5,hb5⟩;have ho5:=OwnB.of hr5 hn5;clear hr5 hn5;dsimp only;have HB5:=hide (chain HBA.out hb5);have HO5:=hide (ho5.le (B':=w.heap.size) (by have:=HT3.out.size;have:=HBA.out.size;omega));have HF5:=hide (fun q (h:Value.ownBlock v5=some q)=>(show w3.heap.size≤q from Nat.le_trans HBA.out.size (ho5.lt q h).1));obtain ⟨ao5,c5,rfl⟩:=ho5.any;clear ho5 hb5;refine hK.out _ _ (fun _=>HB5.out) ?_;clear hK K
  try simp only [Act.put,sA,sB,sC]
  refine onE (i:=9) rfl (fun K hK=>?_);go_simp;refine hK.out _ _ (fun _=>HB5.out) ?_;clear hK K
  try simp only [Act.put,sA,sB,sC]
  have R5:=(HC.out _ HB5.out).2.2;obtain ⟨q0,q1,q2,q3,q4⟩:=cell5 R5;have f1:=fzR 2 R5;refine onE (i:=10) rfl (fun K hK=>?_);go_simp;refine hK.out _ _ (fun h=>absurd rfl h) ?_;clear hK K
  try simp only [Act.put,sA,sB,sC]
  refine doneK (by kernel_rfl) ?_ _;generalize hw9:w5.setCell ⟨sg,2,none⟩ (.slice ao5 n5 c5)=w9;have hg9:w3.grownBy w9 (some sg):=by rw [← hw9];exact World.grownBy.trans ⟨HB5.out.os,HB5.out.tape,HB5.out.output,HB5.out.size,fun k hk _=>HB5.out.block k hk⟩ (grown_one _ _ _ _)
  have hr9:w9.heap[sg]?=some (.cells #[.int .u64 z,.slice ao1 m1 c1,.slice ao5 n5 c5,.int .i64 H7,.int .u64 L7] 43 (0,0)):=by rw [← hw9];exact heap_setCell_same w5 sg 2 _ _ _ R5
  have hne5:Value.ownBlock (.slice ao5 n5 c5)≠some sg:=HO5.out.ne R5 (by decide)
  have hoN:OwnB w9 w.heap.size (.slice ao5 n5 c5) n5 (putNS N vv wt):=by
   rw [← hw9,putNS,if_pos HV0.out];exact HO5.out.set hne5 _
  have hoP:OwnB w9 w.heap.size (.slice ao1 m1 c1) m1 P:=by
   rw [← hw9];have h5:=HO1.out.past HB5.out;exact h5.set (h5.ne R5 (by decide)) _
  have hap9:Apart (.slice ao1 m1 c1) (.slice ao5 n5 c5):=fun k e1 e2=>by
   have h1:=HF5.out k e2;have h2:=(HO1.out.lt k e1).2;omega
  clear hw9 hne5 R5 q0 q1 q2 q3 q4 f1;obtain ⟨F1,F2,R9⟩:=HFin.out w9 z (.slice ao1 m1 c1) (.slice ao5 n5 c5) m1 n5 _ _ hg9 hr9 hoP hoN hap9;obtain ⟨u0,u1,u2,u3,u4⟩:=cell5 hr9;obtain ⟨q0,q1,q2,q3,q4⟩:=cell5 R9;have fr0:=fzR 0 R9;have fr1:=fzR 1 R9;have fr2:=fzR 2 R9;have fr3:=fzR 3 R9;have fr4:=fzR 4 R9;have HF1:=hide F1;have HF2:=hide F2;clear F1 F2 R9 hr9 hg9 hoP hoN hap9;go_wp2;refine bodyPost_ret (v:=.agg #[.int .u64 z,.slice ao1 m1 c1,.slice ao5 n5 c5,.int .i64 H7,.int .u64 L7]) (by simp [results,Tryz.results136,go_sem,q0,q1,q2,q3,q4]) rfl ⟨_,rfl,?_,HF2.out⟩;rw [HH7.out,HL7.out,hz4.out,hP4.out];exact HF1.out
theorem rise_of:∀ {L:List Bn} {q:Int},riseB q L=true→Rise L∧∀ x∈L,q<x.1
 | [],_,_=>⟨rise_nil,fun x hx=>by simp at hx⟩
 | y :: r,q,h=>by
  simp only [riseB,Bool.and_eq_true,decide_eq_true_eq] at h;obtain ⟨⟨⟨h1,h2⟩,h3⟩,h4⟩:=h;obtain ⟨k1,k2⟩:=rise_of h4;refine ⟨rise_cons.2 ⟨k2,k1⟩,fun x hx=>?_⟩;rcases List.mem_cons.1 hx with rfl | hx
  ·exact h1
  ·have:=k2 x hx;omega
theorem bins_rise {L:List Bn} (h:binsB L=true):Rise L∧L.length≤30:=by
 unfold binsB at h;simp only [Bool.and_eq_true,decide_eq_true_eq] at h;exact ⟨(rise_of h.2).1,h.1⟩
theorem sk_rise {P N:List Bn} (h:skB P N=true):(Rise P∧P.length≤30)∧Rise N∧N.length≤30:=by
 unfold skB at h;simp only [Bool.and_eq_true] at h;exact ⟨bins_rise h.1,bins_rise h.2⟩
theorem rise_one (x:Bn):Rise [x]:=rise_cons.2 ⟨fun y hy=>by simp at hy,rise_nil⟩
theorem gat_mrg {P N:List Bn} (hP:Rise P) (hN:Rise N):gatL P N=keepL (mrg P N):=by
 unfold gatL;rw [insAll_nil hP,insAll_mrg hN]
abbrev sk5 (w:World) (r:Nat) (Z:Int) (p n:Value) (H L:Int):World:=((((w.setCell ⟨r,0,none⟩ (.int .u64 Z)).setCell ⟨r,1,none⟩ p).setCell ⟨r,2,none⟩ n).setCell ⟨r,3,none⟩ (.int .i64 H)).setCell ⟨r,4,none⟩ (.int .u64 L)
theorem sk_store {w w2:World} {r a b:Nat} {Z H L:Int} {p n:Value} {P N:List Bn} (hT:Below w.heap.size w w2) (hr:w2.heap[r]?=some (.cells zeroSk 43 (0,0))) (hwr:w.heap.size≤r) (hp:OwnB w2 w.heap.size p a P) (hn:OwnB w2 w.heap.size n b N) (hap:Apart p n) :
  SkOut (sk5 w2 r Z p n H L) w.heap.size (.agg #[.int .u64 Z,p,n,.int .i64 H,.int .u64 L]) Z P N H L∧Below w.heap.size w (sk5 w2 r Z p n H L):=by
 have q1:=hp.ne hr (by decide);have q2:=hn.ne hr (by decide);refine ⟨⟨p,n,a,b,rfl,((((hp.set q1 _).set q1 _).set q1 _).set q1 _).set q1 _,((((hn.set q2 _).set q2 _).set q2 _).set q2 _).set q2 _,hap⟩,?_⟩
 repeat (refine Below.setCell ?_ hwr _)
 exact hT
def mrgOk (P N P' N':List Bn):Prop:=skB P N=true∧skB P' N'=true
theorem zero_out {w w1:World} {r:Nat} (hT:Below w.heap.size w w1) (hr:w1.heap[r]?=some (.cells zeroSk 43 (0,0))) (hwr:w.heap.size≤r) :
  SkOut (sk5 w1 r 0 (.slice none 0 0) (.slice none 0 0) 0 0) w.heap.size (.agg #[.int .u64 0,.slice none 0 0,.slice none 0 0,.int .i64 0,.int .u64 0]) 0 [] [] 0 0∧Below w.heap.size w (sk5 w1 r 0 (.slice none 0 0) (.slice none 0 0) 0 0):=
 sk_store (a:=0) (b:=0) hT hr hwr ⟨rfl,.inl ⟨rfl,rfl⟩⟩ ⟨rfl,.inl ⟨rfl,rfl⟩⟩ (fun k e=>by cases e)
set_option maxHeartbeats 4000000 in
theorem c_s_l03Merge {w:World} {z h l z' h' l':Int} {pa na pb nb:Option Addr} {pn pc nn nc pm pd nm nd:Nat} {P N P' N':List Bn} (hz:U64 z) (hl0:U64 l) (hz':U64 z') (hl0':U64 l') (hp:P.length=pn) (hn:N.length=nn) (hp':P'.length=pm) (hn':N'.length=nm) (lp:pn≤30) (ln:nn≤30) (lp':pm≤30) (ln':nm≤30) (hP:BinsAt w pa P) (hN:BinsAt w na N) (hP':BinsAt w pb P') (hN':BinsAt w nb N') (kP:∀ x∈P,BnOk x) (kN:∀ x∈N,BnOk x) (kP':∀ x∈P',BnOk x) (kN':∀ x∈N',BnOk x) :
  Calls Tryz.prog 141 #[.agg #[.int .u64 z,.slice pa pn pc,.slice na nn nc,.int .i64 h,.int .u64 l],.agg #[.int .u64 z',.slice pb pm pd,.slice nb nm nd,.int .i64 h',.int .u64 l']] w fun e w'=>∃ v,e=.returned v∧Below w.heap.size w w'∧SkOut w' w.heap.size v (wAdd z z') (keepL (mrg P P')) (keepL (mrg N N')) (addH h l h' l') (addL l l'):=by
 have HP:=hide hP;have HN:=hide hN;have KP:=hide kP;have KN:=hide kN;have HP':=hide hP';have HN':=hide hN';have KP':=hide kP';have KN':=hide kN';clear hP hN kP kN hP' hN' kP' kN';go_enter Tryz.func141,Tryz.ntmps141;go_wp2_with fail;generalize hW0:((w.alloc (Obj.cells #[.int .u64 z,.slice pa pn pc,.slice na nn nc,.int .i64 h,.int .u64 l] 43)).alloc (Obj.cells #[.int .u64 z',.slice pb pm pd,.slice nb nm nd,.int .i64 h',.int .u64 l'] 43)).alloc (Obj.cells zeroSk 43)=W0;have T0:Below w.heap.size w W0:=by rw [← hW0];exact (((Below.refl _ _).alloc (Nat.le_refl _) _).alloc (by simp) _).alloc (by simp;omega) _
 have K0:SkCell W0 w.heap.size z (.slice pa pn pc) (.slice na nn nc) h l:=by rw [← hW0];exact sk_past (sk_new w _ _ _ _ _ _) (((Below.refl _ _).alloc (Nat.le_refl _) _).alloc (by simp) _)
 have J0:SkCell W0 (w.heap.size+1) z' (.slice pb pm pd) (.slice nb nm nd) h' l':=by
  rw [← hW0];have:=sk_new (w.alloc (Obj.cells #[.int .u64 z,.slice pa pn pc,.slice na nn nc,.int .i64 h,.int .u64 l] 43)) 43 z' h' l' (.slice pb pm pd) (.slice nb nm nd);exact sk_past (by simpa using this) ((Below.refl _ _).alloc (Nat.le_refl _) _)
 have R0:W0.heap[w.heap.size+1+1]?=some (.cells zeroSk 43 (0,0)):=by rw [← hW0];simpa using heap_alloc_new ((w.alloc (Obj.cells #[.int .u64 z,.slice pa pn pc,.slice na nn nc,.int .i64 h,.int .u64 l] 43)).alloc (Obj.cells #[.int .u64 z',.slice pb pm pd,.slice nb nm nd,.int .i64 h',.int .u64 l'] 43)) (Obj.cells zeroSk 43)
 have hsz0:W0.heap.size=w.heap.size+3:=by rw [← hW0];simp
 clear hW0;have HT0:=hide T0;clear T0;have hC:∀ W,Below W0.heap.size W0 W→SkCell W w.heap.size z (.slice pa pn pc) (.slice na nn nc) h l∧SkCell W (w.heap.size+1) z' (.slice pb pm pd) (.slice nb nm nd) h' l'∧W.heap[w.heap.size+1+1]?=some (.cells zeroSk 43 (0,0)):=fun W hW=>⟨sk_past K0 hW,sk_past J0 hW,by rw [hW.block _ (by omega)];exact R0⟩;have HC:=hide hC;have HTW:=hide HT0.out;clear hC K0 J0 R0;have HS0:(fun W=>Below W0.heap.size W0 W) W0.drew:=(Below.refl _ _).drew;refine regionK (fun W=>Below W0.heap.size W0 W) 21 (by kernel_rfl) ?_;refine tkL (i:=0) (v:=.pointer (some ⟨w.heap.size,0,none⟩)) rfl rfl HS0 (fun W hW=>?_) ?_
 ·obtain ⟨⟨x0,x1,x2,x3,x4⟩,⟨y0,y1,y2,y3,y4⟩,_⟩:=HC.out W hW
  go_simp
 refine tkL (i:=1) (v:=.int .u64 z) rfl rfl HS0 (fun W hW=>?_) ?_
 ·obtain ⟨⟨x0,x1,x2,x3,x4⟩,⟨y0,y1,y2,y3,y4⟩,_⟩:=HC.out W hW
  go_simp
 refine tkL (i:=2) (v:=.pointer (some ⟨w.heap.size+1,0,none⟩)) rfl rfl HS0 (fun W hW=>?_) ?_
 ·obtain ⟨⟨x0,x1,x2,x3,x4⟩,⟨y0,y1,y2,y3,y4⟩,_⟩:=HC.out W hW
  go_simp
 simp only [sA,sB,sC];refine tkL (i:=3) (v:=.int .u64 z') rfl rfl HS0 (fun W hW=>?_) ?_
 ·obtain ⟨⟨x0,x1,x2,x3,x4⟩,⟨y0,y1,y2,y3,y4⟩,_⟩:=HC.out W hW
  go_simp
 refine tkL (i:=5) (v:=.pointer (some ⟨w.heap.size,1,none⟩)) rfl rfl HS0 (fun W hW=>?_) ?_
 ·obtain ⟨⟨x0,x1,x2,x3,x4⟩,⟨y0,y1,y2,y3,y4⟩,_⟩:=HC.out W hW
  go_simp
 refine tkL (i:=6) (v:=.slice pa pn pc) rfl rfl HS0 (fun W hW=>?_) ?_
 ·obtain ⟨⟨x0,x1,x2,x3,x4⟩,⟨y0,y1,y2,y3,y4⟩,_⟩:=HC.out W hW
  go_simp
 simp only [sA,sB,sC];refine tkL (i:=7) (v:=.pointer (some ⟨w.heap.size+1,1,none⟩)) rfl rfl HS0 (fun W hW=>?_) ?_
 ·obtain ⟨⟨x0,x1,x2,x3,x4⟩,⟨y0,y1,y2,y3,y4⟩,_⟩:=HC.out W hW
  go_simp
 refine tkL (i:=8) (v:=.slice pb pm pd) rfl rfl HS0 (fun W hW=>?_) ?_
 ·obtain ⟨⟨x0,x1,x2,x3,x4⟩,⟨y0,y1,y2,y3,y4⟩,_⟩:=HC.out W hW
  go_simp
 refine tkL (i:=10) (v:=.pointer (some ⟨w.heap.size,2,none⟩)) rfl rfl HS0 (fun W hW=>?_) ?_
 ·obtain ⟨⟨x0,x1,x2,x3,x4⟩,⟨y0,y1,y2,y3,y4⟩,_⟩:=HC.out W hW
  go_simp
 simp only [sA,sB,sC];refine tkL (i:=11) (v:=.slice na nn nc) rfl rfl HS0 (fun W hW=>?_) ?_
 ·obtain ⟨⟨x0,x1,x2,x3,x4⟩,⟨y0,y1,y2,y3,y4⟩,_⟩:=HC.out W hW
  go_simp
 refine tkL (i:=12) (v:=.pointer (some ⟨w.heap.size+1,2,none⟩)) rfl rfl HS0 (fun W hW=>?_) ?_
 ·obtain ⟨⟨x0,x1,x2,x3,x4⟩,⟨y0,y1,y2,y3,y4⟩,_⟩:=HC.out W hW
  go_simp
 refine tkL (i:=13) (v:=.slice nb nm nd) rfl rfl HS0 (fun W hW=>?_) ?_
 ·obtain ⟨⟨x0,x1,x2,x3,x4⟩,⟨y0,y1,y2,y3,y4⟩,_⟩:=HC.out W hW
  go_simp
 simp only [sA,sB,sC];refine tkL (i:=15) (v:=.pointer (some ⟨w.heap.size,3,none⟩)) rfl rfl HS0 (fun W hW=>?_) ?_
 ·obtain ⟨⟨x0,x1,x2,x3,x4⟩,⟨y0,y1,y2,y3,y4⟩,_⟩:=HC.out W hW
  go_simp
 refine tkL (i:=16) (v:=.agg #[.int .i64 h,.int .u64 l]) rfl rfl HS0 (fun W hW=>?_) ?_
 ·obtain ⟨⟨x0,x1,x2,x3,x4⟩,⟨y0,y1,y2,y3,y4⟩,_⟩:=HC.out W hW
  go_simp
 refine tkL (i:=17) (v:=.pointer (some ⟨w.heap.size+1,3,none⟩)) rfl rfl HS0 (fun W hW=>?_) ?_
 ·obtain ⟨⟨x0,x1,x2,x3,x4⟩,⟨y0,y1,y2,y3,y4⟩,_⟩:=HC.out W hW
  go_simp
 simp only [sA,sB,sC];refine tkL (i:=18) (v:=.agg #[.int .i64 h',.int .u64 l']) rfl rfl HS0 (fun W hW=>?_) ?_
 ·obtain ⟨⟨x0,x1,x2,x3,x4⟩,⟨y0,y1,y2,y3,y4⟩,_⟩:=HC.out W hW
  go_simp
 simp only [sA,sB,sC];refine onE (i:=4) rfl (fun K hK=>?_);go_simp;refine (c_s_WeightAdd _ _ hz hz' _).mono ?_;rintro e w4 ⟨rfl,rfl⟩;dsimp only;refine hK.out _ _ (fun _=>HS0) ?_;clear hK K
 try simp only [Act.put,sA,sB,sC]
 refine onE (i:=9) rfl (fun K hK=>?_);go_simp;refine (c_s_l03Gather _ _ _ _ hp hp' (by omega) (by omega) (bins_past HP.out (chain HTW.out HS0)) (bins_past HP'.out (chain HTW.out HS0)) KP.out KP'.out).mono ?_;rintro e w5 ⟨v5,n5,rfl,hr5,hn5,hb5⟩;have ho5:=OwnB.of hr5 hn5;clear hr5 hn5;dsimp only;have HB5:=hide ((HS0:Below W0.heap.size W0 W0.drew).trans hb5);have HO5:=hide (ho5.le (B':=w.heap.size) HTW.out.size);obtain ⟨ao5,c5,rfl⟩:=ho5.any;clear ho5 hb5;refine hK.out _ _ (fun _=>HB5.out) ?_;clear hK K
 try simp only [Act.put,sA,sB,sC]
 refine onE (i:=14) rfl (fun K hK=>?_);go_simp;refine (c_s_l03Gather _ _ _ _ hn hn' (by omega) (by omega) (bins_past HN.out (chain HTW.out HB5.out)) (bins_past HN'.out (chain HTW.out HB5.out)) KN.out KN'.out).mono ?_;rintro e w6 ⟨v6,n6,rfl,hr6,hn6,hb6⟩;have ho6:=OwnB.of hr6 hn6;clear hr6 hn6;dsimp only;have HB6:=hide (chain HB5.out hb6);have HO56:=hide (HO5.out.past hb6);have HAp:Hid (Apart (.slice ao5 n5 c5) v6):=(fun k e1 e2=>by have:=(HO5.out.lt k e1).2;have:=(ho6.lt k e2).1;omega:Apart (.slice ao5 n5 c5) v6);have HO6:=hide (ho6.le (B':=w.heap.size) (by have:=HTW.out.size;have:=HB5.out.size;omega));obtain ⟨ao6,c6,rfl⟩:=ho6.any;clear ho6 hb6;refine hK.out _ _ (fun _=>HB6.out) ?_;clear hK K
 try simp only [Act.put,sA,sB,sC]
 refine onE (i:=19) rfl (fun K hK=>?_);go_simp;refine (c_s_WideAdd _ _ _ _ _ hl0 hl0').mono ?_;rintro e w7 ⟨rfl,hb7⟩;dsimp only;have HB7:=hide (chain HB6.out hb7);have HO57:=hide (HO56.out.past hb7);have HO67:=hide (HO6.out.past hb7);clear hb7;refine hK.out _ _ (fun _=>HB7.out) ?_;clear hK K
 try simp only [Act.put,sA,sB,sC]
 obtain ⟨Z7,hZ7⟩:∃ X,wAdd z z'=X:=⟨_,rfl⟩;obtain ⟨H7,hH7⟩:∃ X,addH h l h' l'=X:=⟨_,rfl⟩;obtain ⟨L7,hL7⟩:∃ X,addL l l'=X:=⟨_,rfl⟩;rw [hZ7,hH7,hL7];have HE:=hide (And.intro hZ7 (And.intro hH7 hL7));clear hZ7 hH7 hL7;refine tkS (i:=20) (v:=.agg #[.int .u64 Z7,.slice ao5 n5 c5,.slice ao6 n6 c6,.int .i64 H7,.int .u64 L7]) rfl rfl HB7.out ?_;simp only [sA,sB,sC];have R7:=(HC.out _ HB7.out).2.2;have HF:=hide (sk_store (Z:=Z7) (H:=H7) (L:=L7) (chain HTW.out HB7.out) R7 (by omega) HO57.out HO67.out HAp.out);obtain ⟨q0,q1,q2,q3,q4⟩:=cell5 R7;have f0:=fzR 0 R7;have f1:=fzR 1 R7;have f2:=fzR 2 R7;have f3:=fzR 3 R7;have f4:=fzR 4 R7;refine onE (i:=21) rfl (fun K hK=>?_);go_simp;refine hK.out _ _ (fun h=>absurd rfl h) ?_;clear hK K
 try simp only [Act.put,sA,sB,sC]
 refine doneK (by kernel_rfl) ?_ _;clear R7 HC;go_wp2;refine bodyPost_ret (v:=.agg #[.int .u64 Z7,.slice ao5 n5 c5,.slice ao6 n6 c6,.int .i64 H7,.int .u64 L7]) (by simp [results,Tryz.results141,go_sem,q0,q1,q2,q3,q4]) rfl ⟨_,rfl,HF.out.2,by rw [HE.out.1,HE.out.2.1,HE.out.2.2];exact HF.out.1⟩
set_option maxHeartbeats 4000000 in
theorem c_i_SketchMerge {w:World} {z h l z' h' l':Int} {pa na pb nb:Option Addr} {pn pc nn nc pm pd nm nd:Nat} {P N P' N':List Bn} (hz:U64 z) (hl0:U64 l) (hz':U64 z') (hl0':U64 l') (hp:P.length=pn) (hn:N.length=nn) (hp':P'.length=pm) (hn':N'.length=nm) (lp:pn≤1048576) (ln:nn≤1048576) (lp':pm≤1048576) (ln':nm≤1048576) (hP:BinsAt w pa P) (hN:BinsAt w na N) (hP':BinsAt w pb P') (hN':BinsAt w nb N') (kP:∀ x∈P,BnOk x) (kN:∀ x∈N,BnOk x) (kP':∀ x∈P',BnOk x) (kN':∀ x∈N',BnOk x) :
  Calls Tryz.prog 288 #[.agg #[.int .u64 z,.slice pa pn pc,.slice na nn nc,.int .i64 h,.int .u64 l],.agg #[.int .u64 z',.slice pb pm pd,.slice nb nm nd,.int .i64 h',.int .u64 l']] w fun e w'=>∃ v,e=.returned v∧Below w.heap.size w w'∧((mrgOk P N P' N'∧SkOut w' w.heap.size v (wAdd z z') (gatL P P') (gatL N N') (addH h l h' l') (addL l l'))∨(¬ mrgOk P N P' N'∧SkOut w' w.heap.size v 0 [] [] 0 0)):=by
 have HP:=hide hP;have HN:=hide hN;have KP:=hide kP;have KN:=hide kN;have HP':=hide hP';have HN':=hide hN';have KP':=hide kP';have KN':=hide kN';clear hP hN kP kN hP' hN' kP' kN'
 cases hs:skB P N with
 | false=>
  have HNo:Hid (¬ mrgOk P N P' N'):=fun h=>by rw [h.1] at hs;cases hs
  go_enter Tryz.func288,Tryz.ntmps288;go_wp2_with fail;generalize hW0:((w.alloc (Obj.cells #[.int .u64 z,.slice pa pn pc,.slice na nn nc,.int .i64 h,.int .u64 l] 43)).alloc (Obj.cells #[.int .u64 z',.slice pb pm pd,.slice nb nm nd,.int .i64 h',.int .u64 l'] 43)).alloc (Obj.cells zeroSk 43)=W0;have T0:Below w.heap.size w W0:=by rw [← hW0];exact (((Below.refl _ _).alloc (Nat.le_refl _) _).alloc (by simp) _).alloc (by simp;omega) _
  have K0:SkCell W0 w.heap.size z (.slice pa pn pc) (.slice na nn nc) h l:=by rw [← hW0];exact sk_past (sk_new w _ _ _ _ _ _) (((Below.refl _ _).alloc (Nat.le_refl _) _).alloc (by simp) _)
  have J0:SkCell W0 (w.heap.size+1) z' (.slice pb pm pd) (.slice nb nm nd) h' l':=by
   rw [← hW0];have:=sk_new (w.alloc (Obj.cells #[.int .u64 z,.slice pa pn pc,.slice na nn nc,.int .i64 h,.int .u64 l] 43)) 43 z' h' l' (.slice pb pm pd) (.slice nb nm nd);exact sk_past (by simpa using this) ((Below.refl _ _).alloc (Nat.le_refl _) _)
  have R0:W0.heap[w.heap.size+1+1]?=some (.cells zeroSk 43 (0,0)):=by rw [← hW0];simpa using heap_alloc_new ((w.alloc (Obj.cells #[.int .u64 z,.slice pa pn pc,.slice na nn nc,.int .i64 h,.int .u64 l] 43)).alloc (Obj.cells #[.int .u64 z',.slice pb pm pd,.slice nb nm nd,.int .i64 h',.int .u64 l'] 43)) (Obj.cells zeroSk 43)
  have hsz0:W0.heap.size=w.heap.size+3:=by rw [← hW0];simp
  clear hW0;have HT0:=hide T0;clear T0;refine (c_i_SketchRight hp hn lp ln (bins_past HP.out HT0.out) (bins_past HN.out HT0.out) KP.out KN.out).mono ?_;rintro e w1 ⟨rfl,hb1⟩;rw [hs];have HT1:=hide (chain HT0.out hb1);have K1:=sk_past K0 hb1;have J1:=sk_past J0 hb1;have R1:w1.heap[w.heap.size+1+1]?=some (.cells zeroSk 43 (0,0)):=by rw [hb1.block _ (by omega)];exact R0
  clear hb1 K0 J0 R0;clear hs;have HF:=hide (zero_out HT1.out R1 (by omega));obtain ⟨q0,q1,q2,q3,q4⟩:=cell5 R1;have f0:=fzR 0 R1;have f1:=fzR 1 R1;have f2:=fzR 2 R1;have f3:=fzR 3 R1;have f4:=fzR 4 R1;clear R1;go_wp2;refine bodyPost_ret (v:=.agg #[.int .u64 0,.slice none 0 0,.slice none 0 0,.int .i64 0,.int .u64 0]) (by simp [results,Tryz.results288,go_sem,q0,q1,q2,q3,q4]) rfl ⟨_,rfl,HF.out.2,.inr ⟨HNo.out,HF.out.1⟩⟩
 | true=>
  have hr:=sk_rise hs;have hp30:=hr.1.2;have hn30:=hr.2.2;clear hr
  cases hs':skB P' N' with
  | false=>
   have HNo:Hid (¬ mrgOk P N P' N'):=fun h=>by rw [h.2] at hs'; cases hs'
   go_enter Tryz.func288,Tryz.ntmps288;go_wp2_with fail;generalize hW0:((w.alloc (Obj.cells #[.int .u64 z,.slice pa pn pc,.slice na nn nc,.int .i64 h,.int .u64 l] 43)).alloc (Obj.cells #[.int .u64 z',.slice pb pm pd,.slice nb nm nd,.int .i64 h',.int .u64 l'] 43)).alloc (Obj.cells zeroSk 43)=W0;have T0:Below w.heap.size w W0:=by rw [← hW0];exact (((Below.refl _ _).alloc (Nat.le_refl _) _).alloc (by simp) _).alloc (by simp;omega) _
   have K0:SkCell W0 w.heap.size z (.slice pa pn pc) (.slice na nn nc) h l:=by rw [← hW0];exact sk_past (sk_new w _ _ _ _ _ _) (((Below.refl _ _).alloc (Nat.le_refl _) _).alloc (by simp) _)
   have J0:SkCell W0 (w.heap.size+1) z' (.slice pb pm pd) (.slice nb nm nd) h' l':=by
    rw [← hW0];have:=sk_new (w.alloc (Obj.cells #[.int .u64 z,.slice pa pn pc,.slice na nn nc,.int .i64 h,.int .u64 l] 43)) 43 z' h' l' (.slice pb pm pd) (.slice nb nm nd);exact sk_past (by simpa using this) ((Below.refl _ _).alloc (Nat.le_refl _) _)
   have R0:W0.heap[w.heap.size+1+1]?=some (.cells zeroSk 43 (0,0)):=by rw [← hW0];simpa using heap_alloc_new ((w.alloc (Obj.cells #[.int .u64 z,.slice pa pn pc,.slice na nn nc,.int .i64 h,.int .u64 l] 43)).alloc (Obj.cells #[.int .u64 z',.slice pb pm pd,.slice nb nm nd,.int .i64 h',.int .u64 l'] 43)) (Obj.cells zeroSk 43)
   have hsz0:W0.heap.size=w.heap.size+3:=by rw [← hW0];simp
   clear hW0;have HT0:=hide T0;clear T0;refine (c_i_SketchRight hp hn lp ln (bins_past HP.out HT0.out) (bins_past HN.out HT0.out) KP.out KN.out).mono ?_;rintro e w1 ⟨rfl,hb1⟩;rw [hs];have HT1:=hide (chain HT0.out hb1);have K1:=sk_past K0 hb1;have J1:=sk_past J0 hb1;have R1:w1.heap[w.heap.size+1+1]?=some (.cells zeroSk 43 (0,0)):=by rw [hb1.block _ (by omega)];exact R0
   clear hb1 K0 J0 R0;go_wp2_with fail;refine (c_i_SketchRight hp' hn' lp' ln' (bins_past HP'.out HT1.out) (bins_past HN'.out HT1.out) KP'.out KN'.out).mono ?_;rintro e w2 ⟨rfl,hb2⟩;rw [hs'];have HT2:=hide (chain HT1.out hb2);have K2:=sk_past K1 hb2;have J2:=sk_past J1 hb2;have hz1:w.heap.size+1+1<w1.heap.size:=(Array.getElem?_eq_some_iff.1 R1).1;have R2:w2.heap[w.heap.size+1+1]?=some (.cells zeroSk 43 (0,0)):=by rw [hb2.block _ hz1];exact R1
   clear hb2 K1 J1 R1;clear hs hs';have HF:=hide (zero_out HT2.out R2 (by omega));obtain ⟨q0,q1,q2,q3,q4⟩:=cell5 R2;have f0:=fzR 0 R2;have f1:=fzR 1 R2;have f2:=fzR 2 R2;have f3:=fzR 3 R2;have f4:=fzR 4 R2;clear R2;go_wp2;refine bodyPost_ret (v:=.agg #[.int .u64 0,.slice none 0 0,.slice none 0 0,.int .i64 0,.int .u64 0]) (by simp [results,Tryz.results288,go_sem,q0,q1,q2,q3,q4]) rfl ⟨_,rfl,HF.out.2,.inr ⟨HNo.out,HF.out.1⟩⟩
  | true=>
   have hr:=sk_rise hs';have hp30':=hr.1.2;have hn30':=hr.2.2;clear hr;have HYes:Hid (mrgOk P N P' N'):=(⟨hs,hs'⟩:mrgOk P N P' N');go_enter Tryz.func288,Tryz.ntmps288;go_wp2_with fail;generalize hW0:((w.alloc (Obj.cells #[.int .u64 z,.slice pa pn pc,.slice na nn nc,.int .i64 h,.int .u64 l] 43)).alloc (Obj.cells #[.int .u64 z',.slice pb pm pd,.slice nb nm nd,.int .i64 h',.int .u64 l'] 43)).alloc (Obj.cells zeroSk 43)=W0;have T0:Below w.heap.size w W0:=by rw [← hW0];exact (((Below.refl _ _).alloc (Nat.le_refl _) _).alloc (by simp) _).alloc (by simp;omega) _
   have K0:SkCell W0 w.heap.size z (.slice pa pn pc) (.slice na nn nc) h l:=by rw [← hW0];exact sk_past (sk_new w _ _ _ _ _ _) (((Below.refl _ _).alloc (Nat.le_refl _) _).alloc (by simp) _)
   have J0:SkCell W0 (w.heap.size+1) z' (.slice pb pm pd) (.slice nb nm nd) h' l':=by
    rw [← hW0];have:=sk_new (w.alloc (Obj.cells #[.int .u64 z,.slice pa pn pc,.slice na nn nc,.int .i64 h,.int .u64 l] 43)) 43 z' h' l' (.slice pb pm pd) (.slice nb nm nd);exact sk_past (by simpa using this) ((Below.refl _ _).alloc (Nat.le_refl _) _)
   have R0:W0.heap[w.heap.size+1+1]?=some (.cells zeroSk 43 (0,0)):=by rw [← hW0];simpa using heap_alloc_new ((w.alloc (Obj.cells #[.int .u64 z,.slice pa pn pc,.slice na nn nc,.int .i64 h,.int .u64 l] 43)).alloc (Obj.cells #[.int .u64 z',.slice pb pm pd,.slice nb nm nd,.int .i64 h',.int .u64 l'] 43)) (Obj.cells zeroSk 43)
   have hsz0:W0.heap.size=w.heap.size+3:=by rw [← hW0];simp
   clear hW0;have HT0:=hide T0;clear T0;refine (c_i_SketchRight hp hn lp ln (bins_past HP.out HT0.out) (bins_past HN.out HT0.out) KP.out KN.out).mono ?_;rintro e w1 ⟨rfl,hb1⟩;rw [hs];have HT1:=hide (chain HT0.out hb1);have K1:=sk_past K0 hb1;have J1:=sk_past J0 hb1;have R1:w1.heap[w.heap.size+1+1]?=some (.cells zeroSk 43 (0,0)):=by rw [hb1.block _ (by omega)];exact R0
   clear hb1 K0 J0 R0;go_wp2_with fail;refine (c_i_SketchRight hp' hn' lp' ln' (bins_past HP'.out HT1.out) (bins_past HN'.out HT1.out) KP'.out KN'.out).mono ?_;rintro e w2 ⟨rfl,hb2⟩;rw [hs'];have HT2:=hide (chain HT1.out hb2);have K2:=sk_past K1 hb2;have J2:=sk_past J1 hb2;have hz1:w.heap.size+1+1<w1.heap.size:=(Array.getElem?_eq_some_iff.1 R1).1;have R2:w2.heap[w.heap.size+1+1]?=some (.cells zeroSk 43 (0,0)):=by rw [hb2.block _ hz1];exact R1
   clear hb2 K1 J1 R1;have hz2:w.heap.size+1+1<w2.heap.size:=(Array.getElem?_eq_some_iff.1 R2).1;have hC:∀ W,Below w2.heap.size w2 W→SkCell W w.heap.size z (.slice pa pn pc) (.slice na nn nc) h l∧SkCell W (w.heap.size+1) z' (.slice pb pm pd) (.slice nb nm nd) h' l'∧W.heap[w.heap.size+1+1]?=some (.cells zeroSk 43 (0,0)):=fun W hW=>⟨sk_past K2 hW,sk_past J2 hW,by rw [hW.block _ hz2];exact R2⟩;have HC:=hide hC;have HTW:=hide HT2.out;clear hC K2 J2 R2 hs hs';go_wp2_with fail;have HS0:(fun W=>Below w2.heap.size w2 W) w2.drew:=(Below.refl _ _).drew;refine regionK (fun W=>Below w2.heap.size w2 W) 21 (by kernel_rfl) ?_;refine tkL (i:=0) (v:=.pointer (some ⟨w.heap.size,0,none⟩)) rfl rfl HS0 (fun W hW=>?_) ?_
   ·obtain ⟨⟨x0,x1,x2,x3,x4⟩,⟨y0,y1,y2,y3,y4⟩,_⟩:=HC.out W hW
    go_simp
   refine tkL (i:=1) (v:=.int .u64 z) rfl rfl HS0 (fun W hW=>?_) ?_
   ·obtain ⟨⟨x0,x1,x2,x3,x4⟩,⟨y0,y1,y2,y3,y4⟩,_⟩:=HC.out W hW
    go_simp
   refine tkL (i:=2) (v:=.pointer (some ⟨w.heap.size+1,0,none⟩)) rfl rfl HS0 (fun W hW=>?_) ?_
   ·obtain ⟨⟨x0,x1,x2,x3,x4⟩,⟨y0,y1,y2,y3,y4⟩,_⟩:=HC.out W hW
    go_simp
   simp only [sA,sB,sC];refine tkL (i:=3) (v:=.int .u64 z') rfl rfl HS0 (fun W hW=>?_) ?_
   ·obtain ⟨⟨x0,x1,x2,x3,x4⟩,⟨y0,y1,y2,y3,y4⟩,_⟩:=HC.out W hW
    go_simp
   refine tkL (i:=5) (v:=.pointer (some ⟨w.heap.size,1,none⟩)) rfl rfl HS0 (fun W hW=>?_) ?_
   ·obtain ⟨⟨x0,x1,x2,x3,x4⟩,⟨y0,y1,y2,y3,y4⟩,_⟩:=HC.out W hW
    go_simp
   refine tkL (i:=6) (v:=.slice pa pn pc) rfl rfl HS0 (fun W hW=>?_) ?_
   ·obtain ⟨⟨x0,x1,x2,x3,x4⟩,⟨y0,y1,y2,y3,y4⟩,_⟩:=HC.out W hW
    go_simp
   simp only [sA,sB,sC];refine tkL (i:=7) (v:=.pointer (some ⟨w.heap.size+1,1,none⟩)) rfl rfl HS0 (fun W hW=>?_) ?_
   ·obtain ⟨⟨x0,x1,x2,x3,x4⟩,⟨y0,y1,y2,y3,y4⟩,_⟩:=HC.out W hW
    go_simp
   refine tkL (i:=8) (v:=.slice pb pm pd) rfl rfl HS0 (fun W hW=>?_) ?_
   ·obtain ⟨⟨x0,x1,x2,x3,x4⟩,⟨y0,y1,y2,y3,y4⟩,_⟩:=HC.out W hW
    go_simp
   refine tkL (i:=10) (v:=.pointer (some ⟨w.heap.size,2,none⟩)) rfl rfl HS0 (fun W hW=>?_) ?_
   ·obtain ⟨⟨x0,x1,x2,x3,x4⟩,⟨y0,y1,y2,y3,y4⟩,_⟩:=HC.out W hW
    go_simp
   simp only [sA,sB,sC];refine tkL (i:=11) (v:=.slice na nn nc) rfl rfl HS0 (fun W hW=>?_) ?_
   ·obtain ⟨⟨x0,x1,x2,x3,x4⟩,⟨y0,y1,y2,y3,y4⟩,_⟩:=HC.out W hW
    go_simp
   refine tkL (i:=12) (v:=.pointer (some ⟨w.heap.size+1,2,none⟩)) rfl rfl HS0 (fun W hW=>?_) ?_
   ·obtain ⟨⟨x0,x1,x2,x3,x4⟩,⟨y0,y1,y2,y3,y4⟩,_⟩:=HC.out W hW
    go_simp
   refine tkL (i:=13) (v:=.slice nb nm nd) rfl rfl HS0 (fun W hW=>?_) ?_
   ·obtain ⟨⟨x0,x1,x2,x3,x4⟩,⟨y0,y1,y2,y3,y4⟩,_⟩:=HC.out W hW
    go_simp
   simp only [sA,sB,sC];refine tkL (i:=15) (v:=.pointer (some ⟨w.heap.size,3,none⟩)) rfl rfl HS0 (fun W hW=>?_) ?_
   ·obtain ⟨⟨x0,x1,x2,x3,x4⟩,⟨y0,y1,y2,y3,y4⟩,_⟩:=HC.out W hW
    go_simp
   refine tkL (i:=16) (v:=.agg #[.int .i64 h,.int .u64 l]) rfl rfl HS0 (fun W hW=>?_) ?_
   ·obtain ⟨⟨x0,x1,x2,x3,x4⟩,⟨y0,y1,y2,y3,y4⟩,_⟩:=HC.out W hW
    go_simp
   refine tkL (i:=17) (v:=.pointer (some ⟨w.heap.size+1,3,none⟩)) rfl rfl HS0 (fun W hW=>?_) ?_
   ·obtain ⟨⟨x0,x1,x2,x3,x4⟩,⟨y0,y1,y2,y3,y4⟩,_⟩:=HC.out W hW
    go_simp
   simp only [sA,sB,sC];refine tkL (i:=18) (v:=.agg #[.int .i64 h',.int .u64 l']) rfl rfl HS0 (fun W hW=>?_) ?_
   ·obtain ⟨⟨x0,x1,x2,x3,x4⟩,⟨y0,y1,y2,y3,y4⟩,_⟩:=HC.out W hW
    go_simp
   simp only [sA,sB,sC];refine onE (i:=4) rfl (fun K hK=>?_);go_simp;refine (c_i_WeightAdd _ _ hz hz' _).mono ?_;rintro e w4 ⟨rfl,rfl⟩;dsimp only;refine hK.out _ _ (fun _=>HS0) ?_;clear hK K
   try simp only [Act.put,sA,sB,sC]
   refine onE (i:=9) rfl (fun K hK=>?_);go_simp;refine (c_gatherBins _ _ _ _ hp hp' (by omega) (by omega) (bins_past HP.out (chain HTW.out HS0)) (bins_past HP'.out (chain HTW.out HS0)) KP.out KP'.out).mono ?_;rintro e w5 ⟨v5,n5,rfl,ho5,hb5⟩;dsimp only;have HB5:=hide ((HS0:Below w2.heap.size w2 w2.drew).trans hb5);have HO5:=hide (ho5.le (B':=w.heap.size) HTW.out.size);obtain ⟨ao5,c5,rfl⟩:=ho5.any;clear ho5 hb5;refine hK.out _ _ (fun _=>HB5.out) ?_;clear hK K
   try simp only [Act.put,sA,sB,sC]
   refine onE (i:=14) rfl (fun K hK=>?_);go_simp;refine (c_gatherBins _ _ _ _ hn hn' (by omega) (by omega) (bins_past HN.out (chain HTW.out HB5.out)) (bins_past HN'.out (chain HTW.out HB5.out)) KN.out KN'.out).mono ?_;rintro e w6 ⟨v6,n6,rfl,ho6,hb6⟩;dsimp only;have HB6:=hide (chain HB5.out hb6);have HO56:=hide (HO5.out.past hb6);have HAp:Hid (Apart (.slice ao5 n5 c5) v6):=(fun k e1 e2=>by have:=(HO5.out.lt k e1).2;have:=(ho6.lt k e2).1;omega:Apart (.slice ao5 n5 c5) v6);have HO6:=hide (ho6.le (B':=w.heap.size) (by have:=HTW.out.size;have:=HB5.out.size;omega));obtain ⟨ao6,c6,rfl⟩:=ho6.any;clear ho6 hb6;refine hK.out _ _ (fun _=>HB6.out) ?_;clear hK K
   try simp only [Act.put,sA,sB,sC]
   refine onE (i:=19) rfl (fun K hK=>?_);go_simp;refine (c_i_WideAdd _ _ _ _ _ hl0 hl0').mono ?_;rintro e w7 ⟨rfl,hb7⟩;dsimp only;have HB7:=hide (chain HB6.out hb7);have HO57:=hide (HO56.out.past hb7);have HO67:=hide (HO6.out.past hb7);clear hb7;refine hK.out _ _ (fun _=>HB7.out) ?_;clear hK K
   try simp only [Act.put,sA,sB,sC]
   obtain ⟨Z7,hZ7⟩:∃ X,wAdd z z'=X:=⟨_,rfl⟩;obtain ⟨H7,hH7⟩:∃ X,addH h l h' l'=X:=⟨_,rfl⟩;obtain ⟨L7,hL7⟩:∃ X,addL l l'=X:=⟨_,rfl⟩;rw [hZ7,hH7,hL7];have HE:=hide (And.intro hZ7 (And.intro hH7 hL7));clear hZ7 hH7 hL7;refine tkS (i:=20) (v:=.agg #[.int .u64 Z7,.slice ao5 n5 c5,.slice ao6 n6 c6,.int .i64 H7,.int .u64 L7]) rfl rfl HB7.out ?_;simp only [sA,sB,sC];have R7:=(HC.out _ HB7.out).2.2;have HF:=hide (sk_store (Z:=Z7) (H:=H7) (L:=L7) (chain HTW.out HB7.out) R7 (by omega) HO57.out HO67.out HAp.out);obtain ⟨q0,q1,q2,q3,q4⟩:=cell5 R7;have f0:=fzR 0 R7;have f1:=fzR 1 R7;have f2:=fzR 2 R7;have f3:=fzR 3 R7;have f4:=fzR 4 R7;refine onE (i:=21) rfl (fun K hK=>?_);go_simp;refine hK.out _ _ (fun h=>absurd rfl h) ?_;clear hK K
   try simp only [Act.put,sA,sB,sC]
   refine doneK (by kernel_rfl) ?_ _;clear R7 HC;go_wp2;refine bodyPost_ret (v:=.agg #[.int .u64 Z7,.slice ao5 n5 c5,.slice ao6 n6 c6,.int .i64 H7,.int .u64 L7]) (by simp [results,Tryz.results288,go_sem,q0,q1,q2,q3,q4]) rfl ⟨_,rfl,HF.out.2,.inl ⟨HYes.out,by rw [HE.out.1,HE.out.2.1,HE.out.2.2];exact HF.out.1⟩⟩
end Go.Proofs.YthchmdmncmioiaaGreatDoor
