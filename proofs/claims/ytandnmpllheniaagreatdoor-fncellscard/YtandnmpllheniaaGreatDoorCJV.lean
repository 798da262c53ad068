/-
 Parts.
-/
import Derived.Laws.MathBits
import Derived.DataShut
import Derived.Test.YtandnmpllheniaaGreatDoorCJT
set_option linter.all false
set_option maxHeartbeats 4000000
namespace Go.Proofs.YtandnmpllheniaaGreatDoor
open Go.RowKit
def Qh2 (x y:Int):Int:=x*y / 18446744073709551616
theorem Qlr (x y:Int) (hx:U64 x) (hy:U64 y):IntKind.u64.wrap (IntKind.u64.wrap (IntKind.u64.wrap (x / 4294967296*(y / 4294967296))+IntKind.u64.wrap (IntKind.u64.wrap (x / 4294967296*bits BinOp.and IntKind.u64 y 4294967295)+IntKind.u64.wrap (bits BinOp.and IntKind.u64 x 4294967295*bits BinOp.and IntKind.u64 y 4294967295) / 4294967296) / 4294967296)+IntKind.u64.wrap (bits BinOp.and IntKind.u64 (IntKind.u64.wrap (IntKind.u64.wrap (x / 4294967296*bits BinOp.and IntKind.u64 y 4294967295)+IntKind.u64.wrap (bits BinOp.and IntKind.u64 x 4294967295*bits BinOp.and IntKind.u64 y 4294967295) / 4294967296)) 4294967295+IntKind.u64.wrap (bits BinOp.and IntKind.u64 x 4294967295*(y / 4294967296))) / 4294967296)=Qh2 x y:=by
 unfold U64 at hx hy;simp only [IntKind.wrap_u64,and_low32 x hx.1 (by omega),and_low32 y hy.1 (by omega)];rw [and_low32 _ (by omega) (by omega)];exact mul64_arith x y hx.1 (by omega) hy.1 (by omega)
theorem Qog (x y:Int) (hx:U64 x) (hy:U64 y):IntKind.u64.wrap (IntKind.u64.wrap (IntKind.u64.wrap (x / 4294967296*(y / 4294967296))+IntKind.u64.wrap (IntKind.u64.wrap (x / 4294967296*bits BinOp.and IntKind.u64 y 4294967295)+IntKind.u64.wrap (bits BinOp.and IntKind.u64 x 4294967295*bits BinOp.and IntKind.u64 y 4294967295) / 4294967296) / 4294967296)+IntKind.u64.wrap (IntKind.u64.wrap (bits BinOp.and IntKind.u64 x 4294967295*(y / 4294967296))+bits BinOp.and IntKind.u64 (IntKind.u64.wrap (IntKind.u64.wrap (x / 4294967296*bits BinOp.and IntKind.u64 y 4294967295)+IntKind.u64.wrap (bits BinOp.and IntKind.u64 x 4294967295*bits BinOp.and IntKind.u64 y 4294967295) / 4294967296)) 4294967295) / 4294967296)=Qh2 x y:=by
 rw [Int.add_comm (IntKind.u64.wrap (bits BinOp.and IntKind.u64 x 4294967295*(y / 4294967296)))];exact Qlr x y hx hy
theorem Qrg (a:Int) (ha:I64 a):bits .xor .i64 (-1) a=-1 - a:=by
 unfold I64 at ha
 show IntKind.i64.wrap ((BitVec.ofInt 64 (-1) ^^^ BitVec.ofInt 64 a).toNat:Int)=_
 have h1:BitVec.ofInt 64 (-1)=BitVec.allOnes 64:=by decide
 rw [h1,BitVec.allOnes_xor,BitVec.toNat_not,BitVec.toNat_ofInt];rw [IntKind.wrap_i64]
 have e:((a % ((2 ^ 64:Nat):Int)).toNat:Int)=a % 18446744073709551616:=by
  rw [Int.toNat_of_nonneg (Int.emod_nonneg _ (by decide))];rfl
 omega
theorem Qre (b:Int) (hb:U64 b):bits .xor .u64 IntKind.u64.max b=18446744073709551615 - b:=by
 unfold U64 at hb;rw [IntKind.max_u64]
 show IntKind.u64.wrap ((BitVec.ofInt 64 18446744073709551615 ^^^ BitVec.ofInt 64 b).toNat:Int)=_
 have h1:BitVec.ofInt 64 18446744073709551615=BitVec.allOnes 64:=by decide
 rw [h1,BitVec.allOnes_xor,BitVec.toNat_not,BitVec.toNat_ofInt];rw [IntKind.wrap_u64]
 have e:((b % ((2 ^ 64:Nat):Int)).toNat:Int)=b % 18446744073709551616:=by
  rw [Int.toNat_of_nonneg (Int.emod_nonneg _ (by decide))];rfl
 omega
def QqE (a b:Int):Int:=wrap64 (-a - (if b=0 then 0 else 1))
def Qqz (b:Int):Int:=uw (-b)
def thH (n w:Int):Int:=wrap64 (n*w / 18446744073709551616)
def thL (n w:Int):Int:=uw (n*w)
theorem Qq1 (a b:Int) (hb:U64 b):QaO (-1 - a) (18446744073709551615 - b) 0 1=QqE a b/\QaS (18446744073709551615 - b) 1=Qqz b:=by
 unfold U64 at hb;unfold QaO QaS QqE Qqz Qhl uw wrap64;refine ⟨?_,by omega⟩;by_cases h:b=0
 ·subst h;simp;omega
 ·rw [if_neg h];omega
theorem th_neg (n y:Int) (hn:I64 n) (h:n<0):wrap64 (IntKind.u64.wrap (Qh2 (uw n) y - y))=thH n y/\uw (uw n*y)=thL n y:=by
 unfold I64 at hn;have e:uw n=n+18446744073709551616:=by unfold uw;omega
 have e2:uw n*y=n*y+18446744073709551616*y:=by rw [e];exact Int.add_mul _ _ _
 rw [IntKind.wrap_u64];unfold Qh2 thH thL;rw [e2];generalize n*y=p;unfold uw wrap64;refine ⟨by omega,by omega⟩
theorem th_pos (n y:Int) (hn:I64 n) (h:¬ n<0):wrap64 (Qh2 (uw n) y)=thH n y/\uw (uw n*y)=thL n y:=by
 unfold I64 at hn;have e:uw n=n:=by unfold uw;omega
 rw [e];exact ⟨rfl,rfl⟩
theorem Qpi (n y:Int):QqE (wrap64 (Qh2 (-n) y)) (uw (-n*y))=thH n y/\Qqz (uw (-n*y))=thL n y:=by
 have e:-n*y=-(n*y):=Int.neg_mul _ _;unfold Qh2 thH thL;rw [e];generalize n*y=p;unfold QqE Qqz;refine ⟨?_,by unfold uw;omega⟩;by_cases k:uw (-p)=0
 ·rw [if_pos k];unfold uw at k;unfold wrap64;omega
 ·rw [if_neg k];unfold uw at k;unfold wrap64;omega
open Go.ChangeAt Go.ChangeShapes Go.WideShapes
theorem QlS {a b c d:Int} (h:a=c) (k:b=d):Ending.returned (.tuple #[.int .u64 a,.int .u64 b])=.returned (.tuple #[.int .u64 c,.int .u64 d]):=by rw [h,k]
theorem Qrr (x y:Int) (hx:U64 x) (hy:U64 y) (w:World) :
  Calls Tryz.prog 281 #[.int .u64 x,.int .u64 y] w fun e w'=>e=.returned (.tuple #[.int .u64 (Qh2 x y),.int .u64 (uw (x*y))])/\w'=w:=by
 have HF:Hid (_=_):=Qlr x y hx hy;have HG:Hid (IntKind.u64.wrap (x*y)=uw (x*y)):=IntKind.wrap_u64 _;clear hx hy;go_enter Tryz.func281,Tryz.ntmps281;go_wp2;go_ret2;exact ⟨QlS HF HG,rfl⟩
theorem QkL (x y:Int) (hx:U64 x) (hy:U64 y) (w:World) :
  Calls Tryz.prog 176 #[.int .u64 x,.int .u64 y] w fun e w'=>e=.returned (.tuple #[.int .u64 (Qh2 x y),.int .u64 (uw (x*y))])/\w'=w:=by
 have HF:Hid (_=_):=Qog x y hx hy;have HG:Hid (IntKind.u64.wrap (x*y)=uw (x*y)):=IntKind.wrap_u64 _;clear hx hy;go_enter Tryz.func176,Tryz.ntmps176;go_wp2;go_ret2;exact ⟨QlS HF HG,rfl⟩
theorem Qmz (a b:Int) (ha:I64 a) (hb:U64 b) (w:World) :
  Calls Tryz.prog 177 #[.agg #[.int .i64 a,.int .u64 b]] w fun e w'=>e=.returned (.agg #[.int .i64 (QqE a b),.int .u64 (Qqz b)])/\Below w.heap.size w w':=by
 have HN:=Qq1 a b hb;have ab:U64 (18446744073709551615 - b):=by unfold U64 at *; omega
 have e1:=Qrg a ha;have e2:=Qre b hb;have h1:U64 1:=by unfold U64;omega
 have HC:∀ w,Calls Tryz.prog 133 #[.agg #[.int .i64 (bits .xor .i64 (-1) a),.int .u64 (bits .xor .u64 IntKind.u64.max b)],.agg #[.int .i64 0,.int .u64 1]] w fun e w'=>e=.returned (.agg #[.int .i64 (QqE a b),.int .u64 (Qqz b)])/\Below w.heap.size w w':=by
  intro w;rw [e1,e2,<- HN.1,<- HN.2];exact QbN _ _ _ _ w ab h1
 clear HN e1 e2 ha hb ab h1;go_enter Tryz.func177,Tryz.ntmps177;go_wp2_with (go_at_call 133;refine (HC _).mono ?_;rintro e w1 ⟨rfl,aa⟩;have p0:=Qab (a:=⟨w.heap.size+1,0,none⟩) (v:=.int .i64 0) aa (by simp);have p1:=Qab (a:=⟨w.heap.size+1,1,none⟩) (v:=.int .u64 0) aa (by simp);have f0:=aa.frozen (p:=⟨w.heap.size+1,0,none⟩) (by simp);have f1:=aa.frozen (p:=⟨w.heap.size+1,1,none⟩) (by simp));refine bodyPost_ret (v:=.agg #[.int .i64 (QqE a b),.int .u64 (Qqz b)]) (by simp [results,Tryz.results177,go_sem,p0,p1]) rfl ⟨rfl,?_⟩;exact (((((Below.refl _ _).alloc (Nat.le_refl _) _).alloc (by simp) _).trans (aa.mono (by simp;omega))).setCell (by dsimp only;omega) _).setCell (by dsimp only;omega) _
theorem Qcm (n y:Int) (hn:I64 n) (hy:U64 y) (w:World) :
  Calls Tryz.prog 280 #[.int .i64 n,.int .u64 y] w fun e w'=>e=.returned (.agg #[.int .i64 (thH n y),.int .u64 (thL n y)])/\Below w.heap.size w w':=by
 have e1:IntKind.u64.wrap n=uw n:=IntKind.wrap_u64 n;have HC:Hid (∀ w,Calls Tryz.prog 281 #[.int .u64 (uw n),.int .u64 y] w fun e w'=>e=.returned (.tuple #[.int .u64 (Qh2 (uw n) y),.int .u64 (uw (uw n*y))])/\w'=w):=fun w=>Qrr _ _ (QeJ n) hy w;by_cases h:n<0
 ·have HE:Hid (wrap64 (IntKind.u64.wrap (Qh2 (uw n) y - y))=thH n y/\uw (uw n*y)=thL n y):=th_neg n y hn h
  clear hn hy;go_enter Tryz.func280,Tryz.ntmps280;go_wp2_with (go_at_call 281;refine (HC.out _).mono ?_;rintro e w1 ⟨rfl,rfl⟩);exact bodyPost_ret (v:=.agg #[.int .i64 (wrap64 (IntKind.u64.wrap (Qh2 (uw n) y - y))),.int .u64 (uw (uw n*y))]) (by simp [results,Tryz.results280,go_sem]) rfl ⟨Qd2 HE.out.1 HE.out.2,(Below.refl _ _).alloc (Nat.le_refl _) _⟩
 ·have HE:Hid (wrap64 (Qh2 (uw n) y)=thH n y/\uw (uw n*y)=thL n y):=th_pos n y hn h
  clear hn hy;go_enter Tryz.func280,Tryz.ntmps280;go_wp2_with (go_at_call 281;refine (HC.out _).mono ?_;rintro e w1 ⟨rfl,rfl⟩);exact bodyPost_ret (v:=.agg #[.int .i64 (wrap64 (Qh2 (uw n) y)),.int .u64 (uw (uw n*y))]) (by simp [results,Tryz.results280,go_sem]) rfl ⟨Qd2 HE.out.1 HE.out.2,(Below.refl _ _).alloc (Nat.le_refl _) _⟩
theorem Qe0 (n y:Int) (hn:I64 n) (hy:U64 y) (w:World) :
  Calls Tryz.prog 134 #[.int .i64 n,.int .u64 y] w fun e w'=>e=.returned (.agg #[.int .i64 (thH n y),.int .u64 (thL n y)])/\Below w.heap.size w w':=by
 by_cases h:n<0
 ·have hm:U64 (-n):=by unfold I64 at hn;unfold U64;omega
  have e1:IntKind.u64.wrap (-IntKind.u64.wrap n)=-n:=by simp only [IntKind.wrap_u64];unfold I64 at hn;omega
  have HC:Hid (∀ w,Calls Tryz.prog 176 #[.int .u64 (-n),.int .u64 y] w fun e w'=>e=.returned (.tuple #[.int .u64 (Qh2 (-n) y),.int .u64 (uw (-n*y))])/\w'=w):=fun w=>QkL _ _ hm hy w;have HE:=Qpi n y
  have HD:Hid (∀ w,Calls Tryz.prog 177 #[.agg #[.int .i64 (wrap64 (Qh2 (-n) y)),.int .u64 (uw (-n*y))]] w fun e w'=>e=.returned (.agg #[.int .i64 (thH n y),.int .u64 (thL n y)])/\Below w.heap.size w w'):=by
   rw [<- HE.1,<- HE.2];exact fun w=>Qmz _ _ (QgN _) (QeJ _) w
  clear hn hy hm HE;go_enter Tryz.func134,Tryz.ntmps134
  go_wp2_with (first
   | (go_at_call 176;refine (HC.out _).mono ?_;rintro e w1 ⟨rfl,rfl⟩)
   | (go_at_call 177;refine (HD.out _).mono ?_;rintro e w1 ⟨rfl,aa⟩;have p0:=Qab (a:=⟨w.heap.size+1,0,none⟩) (v:=.int .i64 (wrap64 (Qh2 (-n) y))) aa (by simp);have p1:=Qab (a:=⟨w.heap.size+1,1,none⟩) (v:=.int .u64 (uw (-n*y))) aa (by simp);have f0:=aa.frozen (p:=⟨w.heap.size+1,0,none⟩) (by simp);have f1:=aa.frozen (p:=⟨w.heap.size+1,1,none⟩) (by simp);have r0:=Qab (a:=⟨w.heap.size,0,none⟩) (v:=.int .i64 0) aa (by simp);have r1:=Qab (a:=⟨w.heap.size,1,none⟩) (v:=.int .u64 0) aa (by simp);have g0:=Qb3 (a:=⟨w.heap.size,0,none⟩) (v:=.int .i64 0) aa (by simp);have g1:=Qb3 (a:=⟨w.heap.size,1,none⟩) (v:=.int .u64 0) aa (by simp)))
  refine bodyPost_ret (v:=.agg #[.int .i64 (thH n y),.int .u64 (thL n y)]) (by simp [results,Tryz.results134,go_sem,r0,r1]) rfl ⟨rfl,?_⟩;exact (((((((Below.refl _ _).alloc (Nat.le_refl _) _).alloc (by simp) _).trans (aa.mono (by simp;omega))).setCell (by dsimp only;omega) _).setCell (by dsimp only;omega) _).setCell (by dsimp only;omega) _).setCell (by dsimp only;omega) _
 ·have e1:IntKind.u64.wrap n=n:=by rw [IntKind.wrap_u64];unfold I64 at hn;omega
  have hm:U64 n:=by unfold I64 at hn;unfold U64;omega
  have HC:Hid (∀ w,Calls Tryz.prog 176 #[.int .u64 n,.int .u64 y] w fun e w'=>e=.returned (.tuple #[.int .u64 (Qh2 n y),.int .u64 (uw (n*y))])/\w'=w):=fun w=>QkL _ _ hm hy w;clear hn hy hm;go_enter Tryz.func134,Tryz.ntmps134;go_wp2_with (go_at_call 176;refine (HC.out _).mono ?_;rintro e w1 ⟨rfl,rfl⟩);exact bodyPost_ret (v:=.agg #[.int .i64 (wrap64 (Qh2 n y)),.int .u64 (uw (n*y))]) (by simp [results,Tryz.results134,go_sem]) rfl ⟨Qd2 rfl rfl,((Below.refl _ _).alloc (Nat.le_refl _) _).alloc (by simp) _⟩
set_option maxRecDepth 10000
open Go.Lib Go.PlainAid
def QeF (z v wt:Int):Int:=if v=0 then Qar z wt else z
def QoI (P:List Bn) (v wt:Int):List Bn:=if 0<v then Qqd P [(Qdv v,wt)] else P
def QoS (N:List Bn) (v wt:Int):List Bn:=if v<0 then Qqd N [(Qdv (-v),wt)] else N
def QjY (P N:List Bn) (v wt:Int):Prop:=skB P N=true/\(-999999999999999999<=v/\v<=999999999999999999)/\wt≠0
abbrev Qen (w:World) (g:Nat) (x:Int):Prop:=w.cell? ⟨g,0,none⟩=some (.int .u64 x)
theorem QcF (v:Int) (w:World) (hv:I64 v) :
  Calls Tryz.prog 124 #[.int .i64 v] w fun e w'=>e=.returned (.bool (decide (-999999999999999999<=v/\v<=999999999999999999)))/\w'=w:=by
 unfold I64 at hv;by_cases h1:-999999999999999999<=v
 ·by_cases h2:v<=999999999999999999
  ·rw [decide_eq_true ⟨h1,h2⟩]
   go_enter Tryz.func124,Tryz.ntmps124;go_wp2;go_ret;exact ⟨rfl,rfl⟩
  ·rw [decide_eq_false (fun h=>h2 h.2)]
   go_enter Tryz.func124,Tryz.ntmps124;go_wp2;go_ret;exact ⟨rfl,rfl⟩
 ·rw [decide_eq_false (fun h=>h1 h.1)]
  go_enter Tryz.func124,Tryz.ntmps124;go_wp2;go_ret;exact ⟨rfl,rfl⟩
theorem QjL {w:World} {ao:Option Addr} {Q:List Bn} (c n om:Nat) {at_ wt:Int} (hn:Q.length=n) (hl:n<=30) (hA:QaA w ao Q) (kA:∀ x∈Q,Qa8 x) (ha:I64 at_) (hw:U64 wt) (hO:Qen w om wt) :
  Calls Tryz.prog 292 #[.slice ao n c,.int .i64 at_,.pointer (some ⟨om,0,none⟩)] w fun e w'=>∃ v' n',e=.returned v'/\OwnB w' w.heap.size v' n' (Qqd Q [(at_,wt)])/\Below w.heap.size w w':=by
 have HA:=Qaa hA;have hb:∀ o,Below w.heap.size w (w.alloc o):=fun o=>(ZZb _ _).alloc (ZZa _) o;have HB:=Qaa hb
 have aa:∀ t,QaA (w.alloc (.cells #[.int .i64 at_,.int .u64 wt] t)) (some ⟨w.heap.size,0,none⟩) [(at_,wt)]:=fun t _=>⟨w.heap.size,0,rfl,fun i x hx=>by
  obtain ⟨rfl,rfl⟩:i=0/\x=(at_,wt):=by
   cases i with
   | zero=>exact ⟨rfl,by simpa using hx.symm⟩
   | succ j=>simp at hx
  exact Qf3 w t at_ wt⟩
 have ac:=Qaa aa;clear hA hb aa;go_enter Tryz.func292,Tryz.ntmps292;go_wp2_with (go_at_call 291;refine (QdL _ _ _ _ hn (by rfl) hl (by omega) (Qae HA (HB.out _)) (ac.out _) kA (fun x hx=>by obtain rfl:x=(at_,wt):=(by simpa using hx);exact ⟨ha,hw⟩)).mono ?_;rintro e w1 ⟨v',n',rfl,ho,ab⟩;have HO:=Qaa (ho.le (B':=w.heap.size) (by simp));have ad:=Qaa ((HB.out _).trans (ab.mono (by simp)));obtain ⟨ae,c1,rfl⟩:=ho.any;clear ho ab);go_ret;exact ⟨_,_,rfl,HO,ad⟩
theorem QiQ {w:World} {z h l vv wt:Int} {pa na:Option Addr} {pn pc nn nc:Nat} {P N:List Bn} (hz:U64 z) (hl0:U64 l) (hvv:I64 vv) (hwt:U64 wt) (hp:P.length=pn) (hn:N.length=nn) (lp:pn<=1048576) (ln:nn<=1048576) (hP:QaA w pa P) (hN:QaA w na N) (kP:∀ x∈P,Qa8 x) (kN:∀ x∈N,Qa8 x) :
  Calls Tryz.prog 289 #[.agg #[.int .u64 z,.slice pa pn pc,.slice na nn nc,.int .i64 h,.int .u64 l],.int .i64 vv,.int .u64 wt] w fun e w'=>∃ v,e=.returned v/\Below w.heap.size w w'/\((QjY P N vv wt/\QeH w' w.heap.size v (QeF z vv wt) (QoI P vv wt) (QoS N vv wt) (QaO h l (thH vv wt) (thL vv wt)) (QaS l (thL vv wt)))∨(¬ QjY P N vv wt/\QeH w' w.heap.size v z P N h l)):=by
 have HP:=Qaa hP;have HN:=Qaa hN;have KP:=Qaa kP;have KN:=Qaa kN;clear hP hN kP kN;go_enter Tryz.func289,Tryz.ntmps289;go_wp2_with fail;generalize hW0:((w.alloc (Obj.cells #[.int .u64 z,.slice pa pn pc,.slice na nn nc,.int .i64 h,.int .u64 l] 43)).alloc (Obj.cells #[.int .u64 wt] 26)).alloc (Obj.cells Qax 43)=W0;have T0:Below w.heap.size w W0:=by rw [<- hW0];exact (((Below.refl _ _).alloc (Nat.le_refl _) _).alloc (by simp) _).alloc (by simp;omega) _
 have K0:Qbb W0 w.heap.size z (.slice pa pn pc) (.slice na nn nc) h l:=by rw [<- hW0];exact QaB (QdD w _ _ _ _ _ _) (((Below.refl _ _).alloc (Nat.le_refl _) _).alloc (by simp) _)
 have N0:Qen W0 (w.heap.size+1) wt:=by
  rw [<- hW0];exact QeN (by simp) _
 have R0:W0.heap[w.heap.size+1+1]?=some (.cells Qax 43 (0,0)):=by rw [<- hW0];simpa using heap_alloc_new ((w.alloc (Obj.cells #[.int .u64 z,.slice pa pn pc,.slice na nn nc,.int .i64 h,.int .u64 l] 43)).alloc (Obj.cells #[.int .u64 wt] 26)) (Obj.cells Qax 43)
 have bt:W0.heap.size=w.heap.size+3:=by rw [<- hW0];simp
 clear hW0;have a9:=Qaa T0;clear T0;refine (Qf4 hp hn lp ln (Qae HP a9) (Qae HN a9)).mono ?_;rintro e w1 ⟨v1,rfl,⟨p1,n1,m1,m2,rfl,bb,bc,ay⟩,aL⟩;obtain ⟨al,c1,rfl⟩:=bb.any;obtain ⟨aj,c2,rfl⟩:=bc.any;have a4:=Qaa (Qac a9 aL);have K1:=QaB K0 aL;have N1:Qen w1 (w.heap.size+1) wt:=Qab aL N0;have R1:w1.heap[w.heap.size+1+1]?=some (.cells Qax 43 (0,0)):=by rw [aL.block _ (by omega)];exact R0
 obtain ⟨sg,bk⟩:∃ sg,sg=w1.heap.size:=⟨_,rfl⟩;have bp:w.heap.size+3<=w1.heap.size:=by have:=aL.size;omega
 have bl:∀ o,Below w1.heap.size w1 (w1.alloc o):=fun o=>(ZZb _ _).alloc (ZZa _) o;have KA:∀ o,Qbb (w1.alloc o) w.heap.size z (.slice pa pn pc) (.slice na nn nc) h l:=fun o=>QaB K1 (bl o);have ao:=Qaa (bb.le (B':=w.heap.size) (by omega));have an:=Qaa (bc.le (B':=w.heap.size) (by omega));have a0:=Qaa bl;have bn:=Qaa ay;clear aL bb bc ay K0 N0 R0 bl;go_wp2_with fail;refine (Qa0 hp hn lp ln (Qae HP (Qac a4 (a0.out _))) (Qae HN (Qac a4 (a0.out _))) KP KN).mono ?_;rintro e w3 ⟨rfl,bh⟩;have aM:=Qaa (Qac (a0.out _) bh);have ap:=Qaa (Qac a4 aM);have K3:=QaB K1 aM;have N3:Qen w3 (w.heap.size+1) wt:=Qab aM N1;have R3:w3.heap[w.heap.size+1+1]?=some (.cells Qax 43 (0,0)):=by rw [aM.out.block _ (by omega)];exact R1
 have S3:w3.heap[sg]?=some (.cells #[.int .u64 z,.slice al m1 c1,.slice aj m2 c2,.int .i64 h,.int .u64 l] 43 (0,0)):=by
  rw [bk,bh.block _ (by simp)];exact ZZk w1 _
 have bs:sg<w3.heap.size:=(ZZc.1 S3).1;rw [<- bk];have bx:w.heap.size+3<=sg:=by omega
 clear bk bp;have hC:∀ W,Below w3.heap.size w3 W->Qbb W w.heap.size z (.slice pa pn pc) (.slice na nn nc) h l/\Qen W (w.heap.size+1) wt/\W.heap[w.heap.size+1+1]?=some (.cells Qax 43 (0,0))/\W.heap[sg]?=some (.cells #[.int .u64 z,.slice al m1 c1,.slice aj m2 c2,.int .i64 h,.int .u64 l] 43 (0,0)):=fun W hW=>⟨QaB K3 hW,Qab hW N3,by rw [hW.block _ (by omega)];exact R3,by rw [hW.block _ bs];exact S3⟩;have HC:=Qaa hC;have ao:=Qaa (ao.out.past aM);have an:=Qaa (an.out.past aM);obtain ⟨g0,g1,g2,g3,g4⟩:=QbO S3;have a6:=fzR 0 S3;obtain ⟨q0,q1,q2,q3,q4⟩:=QbO R3;obtain ⟨be,ba,bg,a7,a2⟩:=fA5 R3;clear bh hC KA K1 N1 R1 a0;have bi:¬ QjY P N vv wt∨QjY P N vv wt:=(Classical.em _).symm;rcases bi with hb | hb
 ·have a8:=Qaa hb
  have bu:(skB P N=false)∨(skB P N=true/\decide (-999999999999999999<=vv/\vv<=999999999999999999)=false)∨(skB P N=true/\decide (-999999999999999999<=vv/\vv<=999999999999999999)=true/\wt=0):=by
   cases h1:skB P N with
   | false=>exact .inl rfl
   | true=>
    by_cases h2:-999999999999999999<=vv/\vv<=999999999999999999
    ·by_cases h3:wt=0
     ·exact .inr (.inr ⟨rfl,ZZh h2,h3⟩)
     ·exact absurd ⟨h1,h2,h3⟩ hb
    ·exact .inr (.inl ⟨rfl,ZZg h2⟩)
  clear hb S3 R3;rcases bu with e1 | ⟨e1,e2⟩ | ⟨e1,e2,e3⟩
  all_goals
   rw [e1];go_wp2_with (first | (go_at_call 124;refine (QcF _ _ hvv).mono ?_;rintro e w4 ⟨rfl,rfl⟩;rw [e2]));refine bodyPost_ret (v:=.agg #[.int .u64 z,.slice al m1 c1,.slice aj m2 c2,.int .i64 h,.int .u64 l]) (by simp [results,Tryz.results289,go_sem,q0,q1,q2,q3,q4]) rfl ⟨_,rfl,?_,.inr ⟨a8,_,_,m1,m2,rfl,?_,?_,bn⟩⟩
   ·repeat (refine Below.setCell ?_ (by simp <;> omega) _)
    exact ap.out
   ·have ai:=ao.out.ne (HC.out _ (ZZb _ _)).2.2.1 (by decide)
    repeat (refine OwnB.set ?_ ai _)
    exact ao.out
   ·have ai:=an.out.ne (HC.out _ (ZZb _ _)).2.2.1 (by decide)
    repeat (refine OwnB.set ?_ ai _)
    exact an.out
 ·obtain ⟨e1,⟨e2,bq⟩,e3⟩:=id hb
  have bj:=Qaa hb;have d2:decide (-999999999999999999<=vv/\vv<=999999999999999999)=true:=ZZh ⟨e2,bq⟩;have d3:(wt == 0)=false:=ZZf.2 e3
  obtain ⟨bd,a5⟩:pn<=30/\nn<=30:=by
   have:=Bool.and_eq_true_iff.1 e1;have h1:=(Bool.and_eq_true_iff.1 this.1).1;have h2:=(Bool.and_eq_true_iff.1 this.2).1;have:=of_decide_eq_true h1;have:=of_decide_eq_true h2;omega
  clear hb;rw [e1]
  have bm:∀ W,w3.grownBy W (some sg)->Qbb W w.heap.size z (.slice pa pn pc) (.slice na nn nc) h l/\Qen W (w.heap.size+1) wt/\W.heap[w.heap.size+1+1]?=some (.cells Qax 43 (0,0)):=fun W hW=>by
   have hk:∀ j,j<w3.heap.size->j≠sg->W.heap[j]?=w3.heap[j]?:=fun j hj ai=>hW.block j hj (fun e=>ai (Option.some.inj e));have aR:∀ j,W.cell? ⟨w.heap.size,j,none⟩=w3.cell? ⟨w.heap.size,j,none⟩:=fun j=>World.cell?_of_block (w:=w3) (hk w.heap.size (by omega) (by omega));refine ⟨⟨by rw [aR];exact K3.1,by rw [aR];exact K3.2.1,by rw [aR];exact K3.2.2.1,by rw [aR];exact K3.2.2.2.1,by rw [aR];exact K3.2.2.2.2⟩,?_,by rw [hk (w.heap.size+1+1) (by omega) (by omega)];exact R3⟩;have:W.cell? ⟨w.heap.size+1,0,none⟩=w3.cell? ⟨w.heap.size+1,0,none⟩:=World.cell?_of_block (w:=w3) (hk (w.heap.size+1) (by omega) (by omega));rw [Qen,this];exact N3
  have a1:=Qaa bm;have a3:=Qaa S3;clear S3 R3 bm;have c3:vv=0∨0<vv∨vv<0:=by omega
  rcases c3 with bf | bo | br
  ·have aI:Hid (QeF z vv wt=Qar z wt):=if_pos bf
   have aO:Hid (QoI P vv wt=P):=if_neg (by omega);have aZ:Hid (QoS N vv wt=N):=if_neg (by omega);have d0:(vv == 0)=true:=by simp [bf]
   clear bf
   go_wp2_with (first
    | (go_at_call 124;refine (QcF _ _ hvv).mono ?_;rintro e w4 ⟨rfl,hw⟩;obtain rfl:=hw.symm;rw [d2])
    | (go_at_call 86;refine (QaJ _ _ hz hwt _).mono ?_;rintro e w4 ⟨rfl,hw⟩;obtain rfl:=hw.symm))
   generalize hw4:World.setCell _ ⟨sg,0,none⟩ (.int .u64 (Qar z wt))=w4;have ax:w3.grownBy w4 (some sg):=by rw [<- hw4];exact Qau _ _ _ _
   have av:w4.heap[sg]?=some (.cells #[.int .u64 (QeF z vv wt),.slice al m1 c1,.slice aj m2 c2,.int .i64 h,.int .u64 l] 43 (0,0)):=by
    rw [<- hw4,aI.out];exact ZZl _ sg 0 _ _ _ a3
   have af:OwnB w4 w.heap.size (.slice al m1 c1) m1 (QoI P vv wt):=by
    rw [<- hw4,aO.out];exact ao.out.set (ao.out.ne a3.out (by decide)) _
   have ae:OwnB w4 w.heap.size (.slice aj m2 c2) m2 (QoS N vv wt):=by
    rw [<- hw4,aZ.out];exact an.out.set (an.out.ne a3.out (by decide)) _
   have ay:=bn.out;clear aI aO aZ ao an hw4 g0 g1 g2 g3 g4 a6;obtain ⟨K4,N4,R4⟩:=a1.out _ ax;have aG:Below w.heap.size w w4:=ap.out.grown ax ap.out.size (fun k e=>by cases e;omega);have ar:sg<w4.heap.size:=(ZZc.1 av).1;have aF:∀ W,Below w4.heap.size w4 W->Qbb W w.heap.size z (.slice pa pn pc) (.slice na nn nc) h l/\Qen W (w.heap.size+1) wt/\W.heap[w.heap.size+1+1]?=some (.cells Qax 43 (0,0))/\W.heap[sg]?=some (.cells #[.int .u64 (QeF z vv wt),.slice al m1 c1,.slice aj m2 c2,.int .i64 h,.int .u64 l] 43 (0,0)):=fun W hW=>⟨QaB K4 hW,Qab hW N4,by rw [hW.block _ (by omega)];exact R4,by rw [hW.block _ ar];exact av⟩;have ad:=Qaa aF;have aD:=Qaa aG;have aP:=Qaa af;have aV:=Qaa ae;have aY:=Qaa ay;obtain ⟨Z4,aq⟩:∃ Z,QeF z vv wt=Z:=⟨_,rfl⟩;rw [aq] at ad;have aX:=Qaa aq;clear aF aG af ae ay av ax K4 N4 R4 aq HC;have aa:(fun W=>Below w4.heap.size w4 W) w4.drew:=(ZZb _ _).drew;refine Qaj (fun W=>Below w4.heap.size w4 W) 7 (by kernel_rfl) ?_;refine tkL 0 (.pointer (some ⟨w.heap.size,3,none⟩)) aa (fun W hW=>?_) ?_
   ·obtain ⟨⟨x0,x1,x2,x3,x4⟩,x5,x6,x7⟩:=ad.out W hW
    go_simp
   refine tkL 1 (.agg #[.int .i64 h,.int .u64 l]) aa (fun W hW=>?_) ?_
   ·obtain ⟨⟨x0,x1,x2,x3,x4⟩,x5,x6,x7⟩:=ad.out W hW
    go_simp
   refine tkL 2 (.int .i64 vv) aa (fun W hW=>?_) ?_
   ·obtain ⟨⟨x0,x1,x2,x3,x4⟩,x5,x6,x7⟩:=ad.out W hW
    go_simp
   simp only [sX];refine tkL 3 (.int .u64 wt) aa (fun W hW=>?_) ?_
   ·obtain ⟨⟨x0,x1,x2,x3,x4⟩,x5,x6,x7⟩:=ad.out W hW
    go_simp
   simp only [sX];refine onE 4 fun K hK=>?_;go_simp;refine (Qcm _ _ hvv hwt _).mono ?_;rintro e w5 ⟨rfl,ak⟩;dsimp only;have ab:=Qaa ((aa:Below w4.heap.size w4 w4.drew).trans ak);clear ak;refine gK hK ab.out ?_
   try simp only [sX]
   refine onE 5 fun K hK=>?_;go_simp;refine (Qb1 _ _ _ _ _ hl0 (show U64 (thL vv wt) from QeJ _)).mono ?_;rintro e w6 ⟨rfl,aH⟩;dsimp only;have ac:=Qaa (Qac ab aH);clear aH;refine gK hK ac.out ?_
   try simp only [sX]
   refine onE 6 fun K hK=>?_;go_simp;refine gK hK ac.out ?_
   try simp only [sX]
   have R6:=(ad.out _ ac).2.2.2;obtain ⟨y0,y1,y2,y3,y4⟩:=QbO R6;have aS:=fzR 3 R6;have aW:=fzR 4 R6;refine onE 7 fun K hK=>?_;go_simp;refine hK.out _ _ (fun h=>absurd rfl h) ?_
   try simp only [sX]
   refine dnE ?_ _;obtain ⟨H7,am⟩:∃ H,QaO h l (thH vv wt) (thL vv wt)=H:=⟨_,rfl⟩;obtain ⟨L7,au⟩:∃ H,QaS l (thL vv wt)=H:=⟨_,rfl⟩;have aT:=Qaa am;have aU:=Qaa au;rw [am,au];clear am au;generalize hw7:(w6.setCell ⟨sg,3,none⟩ (.int .i64 H7)).setCell ⟨sg,4,none⟩ (.int .u64 L7)=w7
   have S7:w7.heap[sg]?=some (.cells #[.int .u64 Z4,.slice al m1 c1,.slice aj m2 c2,.int .i64 H7,.int .u64 L7] 43 (0,0)):=by
    rw [<- hw7];exact ZZl _ sg 4 _ _ _ (ZZl w6 sg 3 _ _ _ R6)
   have ag:w6.grownBy w7 (some sg):=by rw [<- hw7];exact (Qau _ _ _ _).trans (Qau _ _ _ _)
   have R7:w7.heap[w.heap.size+1+1]?=some (.cells Qax 43 (0,0)):=by
    have hR:=(ad.out _ ac).2.2.1;rw [ag.block _ (Array.getElem?_eq_some_iff.1 hR).1 (fun e=>by have:=Option.some.inj e;omega)];exact hR
   have T7:Below w.heap.size w w7:=(Qac aD ac).grown ag (Qac aD ac).size (fun k e=>by cases e;omega);have af:=aP.out.past ac;have ae:=aV.out.past ac;have aC:=af.kept ag (.inr (af.ne R6 (by decide)));have aE:=ae.kept ag (.inr (ae.ne R6 (by decide)));have aJ:=Qaa aC;have aA:=Qaa aE;have aQ:=Qaa T7;have aB:=Qaa R7;obtain ⟨g0,g1,g2,g3,g4⟩:=QbO S7;obtain ⟨q0,q1,q2,q3,q4⟩:=QbO R7;obtain ⟨be,ba,bg,a7,a2⟩:=fA5 R7;clear S7 ag R7 T7 af ae aC aE hw7 y0 y1 y2 y3 y4 aS aW R6;go_wp2;refine bodyPost_ret (v:=.agg #[.int .u64 Z4,.slice al m1 c1,.slice aj m2 c2,.int .i64 H7,.int .u64 L7]) (by simp [results,Tryz.results289,go_sem,q0,q1,q2,q3,q4]) rfl ⟨_,rfl,?_,.inl ⟨bj,?_⟩⟩
   ·repeat (refine Below.setCell ?_ (by simp <;> omega) _)
    exact aQ.out
   ·rw [aT.out,aU.out,aX.out]
    refine ⟨_,_,m1,m2,rfl,?_,?_,aY⟩
    ·have ai:=aJ.out.ne aB (by decide)
     repeat (refine OwnB.set ?_ ai _)
     exact aJ.out
    ·have ai:=aA.out.ne aB (by decide)
     repeat (refine OwnB.set ?_ ai _)
     exact aA.out
  ·have aI:Hid (QeF z vv wt=z):=if_neg (by omega)
   have aZ:Hid (QoS N vv wt=N):=if_neg (by omega);have bv:=Qaa bo;have d0:(vv == 0)=false:=ZZf.2 (by omega);have d1:decide (0<vv)=true:=ZZh bo
   go_wp2_with (first
    | (go_at_call 124;refine (QcF _ _ hvv).mono ?_;rintro e w4 ⟨rfl,hw⟩;obtain rfl:=hw.symm;rw [d2]))
   have aa:(fun W=>Below w3.heap.size w3 W) w3.drew:=(ZZb _ _).drew;refine Qaj (fun W=>Below w3.heap.size w3 W) 7 (by kernel_rfl) ?_;refine tkL 0 (.func (.func 292) #[] #[.pointer (some ⟨w.heap.size+1,0,none⟩)]) aa (fun W hW=>?_) ?_
   ·obtain ⟨⟨x0,x1,x2,x3,x4⟩,x5,x6,x7⟩:=HC.out W hW
    go_simp
   refine tkL 1 (.pointer (some ⟨w.heap.size,1,none⟩)) aa (fun W hW=>?_) ?_
   ·obtain ⟨⟨x0,x1,x2,x3,x4⟩,x5,x6,x7⟩:=HC.out W hW
    go_simp
   refine tkL 2 (.slice pa pn pc) aa (fun W hW=>?_) ?_
   ·obtain ⟨⟨x0,x1,x2,x3,x4⟩,x5,x6,x7⟩:=HC.out W hW
    go_simp
   simp only [sX];refine tkL 3 (.int .i64 vv) aa (fun W hW=>?_) ?_
   ·obtain ⟨⟨x0,x1,x2,x3,x4⟩,x5,x6,x7⟩:=HC.out W hW
    go_simp
   simp only [sX];refine onE 4 fun K hK=>?_;go_simp;refine (Qc3 _ _ (by unfold I64;omega)).mono ?_;rintro e w4 ⟨rfl,rfl⟩;dsimp only;refine gK hK aa ?_
   try simp only [sX]
   refine onE 5 fun K hK=>?_;go_simp;refine (QjL (Q:=P) _ _ _ hp bd (Qae HP (Qac ap aa)) KP (by have:=QfH vv;unfold I64;omega) hwt (HC.out _ aa).2.1).mono ?_;rintro e w5 ⟨v5,n5,rfl,az,ak⟩;dsimp only;have ab:=Qaa ((aa:Below w3.heap.size w3 w3.drew).trans ak);have aK:=Qaa (az.le (B':=w.heap.size) (by show w.heap.size<=w3.heap.size;have:=ap.out.size;omega));have aN:=Qaa (fun q (h:Value.ownBlock v5=some q)=>(show w3.heap.size<=q from (az.lt q h).1));obtain ⟨ah,c5,rfl⟩:=az.any;clear az ak;refine gK hK ab.out ?_
   try simp only [sX]
   refine onE 6 fun K hK=>?_;go_simp;refine gK hK ab.out ?_
   try simp only [sX]
   have R5:=(HC.out _ ab).2.2.2;obtain ⟨q0,q1,q2,q3,q4⟩:=QbO R5;have f1:=fzR 1 R5;refine onE 7 fun K hK=>?_;go_simp;refine hK.out _ _ (fun h=>absurd rfl h) ?_
   try simp only [sX]
   refine dnE ?_ _;generalize hw4:w5.setCell ⟨sg,1,none⟩ (.slice ah n5 c5)=w4;have ax:w3.grownBy w4 (some sg):=by rw [<- hw4];exact World.grownBy.trans ⟨ab.out.os,ab.out.tape,ab.out.output,ab.out.size,fun k hk _=>ab.out.block k hk⟩ (Qau _ _ _ _)
   have av:w4.heap[sg]?=some (.cells #[.int .u64 (QeF z vv wt),.slice ah n5 c5,.slice aj m2 c2,.int .i64 h,.int .u64 l] 43 (0,0)):=by
    rw [<- hw4,aI.out];exact ZZl w5 sg 1 _ _ _ R5
   have aw:Value.ownBlock (.slice ah n5 c5)≠some sg:=aK.out.ne R5 (by decide)
   have af:OwnB w4 w.heap.size (.slice ah n5 c5) n5 (QoI P vv wt):=by
    rw [<- hw4,QoI,if_pos bv.out];exact aK.out.set aw _
   have ae:OwnB w4 w.heap.size (.slice aj m2 c2) m2 (QoS N vv wt):=by
    rw [<- hw4,aZ.out];have h5:=an.out.past ab;exact h5.set (h5.ne R5 (by decide)) _
   have ay:QdP (.slice ah n5 c5) (.slice aj m2 c2):=fun k e1 e2=>by
    have h1:=aN.out k e1;have h2:=(an.out.lt k e2).2;omega
   clear ao an hw4 aK aN R5 q0 q1 q2 q3 q4 f1 aw ab aI aZ g0 g1 g2 g3 g4 a6 aa;obtain ⟨K4,N4,R4⟩:=a1.out _ ax;have aG:Below w.heap.size w w4:=ap.out.grown ax ap.out.size (fun k e=>by cases e;omega);have ar:sg<w4.heap.size:=(ZZc.1 av).1;have aF:∀ W,Below w4.heap.size w4 W->Qbb W w.heap.size z (.slice pa pn pc) (.slice na nn nc) h l/\Qen W (w.heap.size+1) wt/\W.heap[w.heap.size+1+1]?=some (.cells Qax 43 (0,0))/\W.heap[sg]?=some (.cells #[.int .u64 (QeF z vv wt),.slice ah n5 c5,.slice aj m2 c2,.int .i64 h,.int .u64 l] 43 (0,0)):=fun W hW=>⟨QaB K4 hW,Qab hW N4,by rw [hW.block _ (by omega)];exact R4,by rw [hW.block _ ar];exact av⟩;have ad:=Qaa aF;have aD:=Qaa aG;have aP:=Qaa af;have aV:=Qaa ae;have aY:=Qaa ay;obtain ⟨Z4,aq⟩:∃ Z,QeF z vv wt=Z:=⟨_,rfl⟩;rw [aq] at ad;have aX:=Qaa aq;clear aF aG af ae ay av ax K4 N4 R4 aq HC;have aa:(fun W=>Below w4.heap.size w4 W) w4.drew:=(ZZb _ _).drew;go_wp2_with fail;refine Qaj (fun W=>Below w4.heap.size w4 W) 7 (by kernel_rfl) ?_;refine tkL 0 (.pointer (some ⟨w.heap.size,3,none⟩)) aa (fun W hW=>?_) ?_
   ·obtain ⟨⟨x0,x1,x2,x3,x4⟩,x5,x6,x7⟩:=ad.out W hW
    go_simp
   refine tkL 1 (.agg #[.int .i64 h,.int .u64 l]) aa (fun W hW=>?_) ?_
   ·obtain ⟨⟨x0,x1,x2,x3,x4⟩,x5,x6,x7⟩:=ad.out W hW
    go_simp
   refine tkL 2 (.int .i64 vv) aa (fun W hW=>?_) ?_
   ·obtain ⟨⟨x0,x1,x2,x3,x4⟩,x5,x6,x7⟩:=ad.out W hW
    go_simp
   simp only [sX];refine tkL 3 (.int .u64 wt) aa (fun W hW=>?_) ?_
   ·obtain ⟨⟨x0,x1,x2,x3,x4⟩,x5,x6,x7⟩:=ad.out W hW
    go_simp
   simp only [sX];refine onE 4 fun K hK=>?_;go_simp;refine (Qcm _ _ hvv hwt _).mono ?_;rintro e w5 ⟨rfl,ak⟩;dsimp only;have ab:=Qaa ((aa:Below w4.heap.size w4 w4.drew).trans ak);clear ak;refine gK hK ab.out ?_
   try simp only [sX]
   refine onE 5 fun K hK=>?_;go_simp;refine (Qb1 _ _ _ _ _ hl0 (show U64 (thL vv wt) from QeJ _)).mono ?_;rintro e w6 ⟨rfl,aH⟩;dsimp only;have ac:=Qaa (Qac ab aH);clear aH;refine gK hK ac.out ?_
   try simp only [sX]
   refine onE 6 fun K hK=>?_;go_simp;refine gK hK ac.out ?_
   try simp only [sX]
   have R6:=(ad.out _ ac).2.2.2;obtain ⟨y0,y1,y2,y3,y4⟩:=QbO R6;have aS:=fzR 3 R6;have aW:=fzR 4 R6;refine onE 7 fun K hK=>?_;go_simp;refine hK.out _ _ (fun h=>absurd rfl h) ?_
   try simp only [sX]
   refine dnE ?_ _;obtain ⟨H7,am⟩:∃ H,QaO h l (thH vv wt) (thL vv wt)=H:=⟨_,rfl⟩;obtain ⟨L7,au⟩:∃ H,QaS l (thL vv wt)=H:=⟨_,rfl⟩;have aT:=Qaa am;have aU:=Qaa au;rw [am,au];clear am au;generalize hw7:(w6.setCell ⟨sg,3,none⟩ (.int .i64 H7)).setCell ⟨sg,4,none⟩ (.int .u64 L7)=w7
   have S7:w7.heap[sg]?=some (.cells #[.int .u64 Z4,.slice ah n5 c5,.slice aj m2 c2,.int .i64 H7,.int .u64 L7] 43 (0,0)):=by
    rw [<- hw7];exact ZZl _ sg 4 _ _ _ (ZZl w6 sg 3 _ _ _ R6)
   have ag:w6.grownBy w7 (some sg):=by rw [<- hw7];exact (Qau _ _ _ _).trans (Qau _ _ _ _)
   have R7:w7.heap[w.heap.size+1+1]?=some (.cells Qax 43 (0,0)):=by
    have hR:=(ad.out _ ac).2.2.1;rw [ag.block _ (Array.getElem?_eq_some_iff.1 hR).1 (fun e=>by have:=Option.some.inj e;omega)];exact hR
   have T7:Below w.heap.size w w7:=(Qac aD ac).grown ag (Qac aD ac).size (fun k e=>by cases e;omega);have af:=aP.out.past ac;have ae:=aV.out.past ac;have aC:=af.kept ag (.inr (af.ne R6 (by decide)));have aE:=ae.kept ag (.inr (ae.ne R6 (by decide)));have aJ:=Qaa aC;have aA:=Qaa aE;have aQ:=Qaa T7;have aB:=Qaa R7;obtain ⟨g0,g1,g2,g3,g4⟩:=QbO S7;obtain ⟨q0,q1,q2,q3,q4⟩:=QbO R7;obtain ⟨be,ba,bg,a7,a2⟩:=fA5 R7;clear S7 ag R7 T7 af ae aC aE hw7 y0 y1 y2 y3 y4 aS aW R6;go_wp2;refine bodyPost_ret (v:=.agg #[.int .u64 Z4,.slice ah n5 c5,.slice aj m2 c2,.int .i64 H7,.int .u64 L7]) (by simp [results,Tryz.results289,go_sem,q0,q1,q2,q3,q4]) rfl ⟨_,rfl,?_,.inl ⟨bj,?_⟩⟩
   ·repeat (refine Below.setCell ?_ (by simp <;> omega) _)
    exact aQ.out
   ·rw [aT.out,aU.out,aX.out]
    refine ⟨_,_,n5,m2,rfl,?_,?_,aY⟩
    ·have ai:=aJ.out.ne aB (by decide)
     repeat (refine OwnB.set ?_ ai _)
     exact aJ.out
    ·have ai:=aA.out.ne aB (by decide)
     repeat (refine OwnB.set ?_ ai _)
     exact aA.out
  ·have aI:Hid (QeF z vv wt=z):=if_neg (by omega)
   have aO:Hid (QoI P vv wt=P):=if_neg (by omega);have bw:=Qaa br;have d0:(vv == 0)=false:=ZZf.2 (by omega);have d1:decide (0<vv)=false:=ZZg (by omega);have dm:IntKind.i64.wrap (-vv)=-vv:=by rw [IntKind.wrap_i64];omega
   go_wp2_with (first
    | (go_at_call 124;refine (QcF _ _ hvv).mono ?_;rintro e w4 ⟨rfl,hw⟩;obtain rfl:=hw.symm;rw [d2]))
   have aa:(fun W=>Below w3.heap.size w3 W) w3.drew:=(ZZb _ _).drew;refine Qaj (fun W=>Below w3.heap.size w3 W) 8 (by kernel_rfl) ?_;refine tkL 0 (.func (.func 292) #[] #[.pointer (some ⟨w.heap.size+1,0,none⟩)]) aa (fun W hW=>?_) ?_
   ·obtain ⟨⟨x0,x1,x2,x3,x4⟩,x5,x6,x7⟩:=HC.out W hW
    go_simp
   refine tkL 1 (.pointer (some ⟨w.heap.size,2,none⟩)) aa (fun W hW=>?_) ?_
   ·obtain ⟨⟨x0,x1,x2,x3,x4⟩,x5,x6,x7⟩:=HC.out W hW
    go_simp
   refine tkL 2 (.slice na nn nc) aa (fun W hW=>?_) ?_
   ·obtain ⟨⟨x0,x1,x2,x3,x4⟩,x5,x6,x7⟩:=HC.out W hW
    go_simp
   simp only [sX];refine tkL 3 (.int .i64 vv) aa (fun W hW=>?_) ?_
   ·obtain ⟨⟨x0,x1,x2,x3,x4⟩,x5,x6,x7⟩:=HC.out W hW
    go_simp
   refine tkL 4 (.int .i64 (-vv)) aa (fun W hW=>?_) ?_
   ·obtain ⟨⟨x0,x1,x2,x3,x4⟩,x5,x6,x7⟩:=HC.out W hW
    go_simp
   simp only [sX];refine onE 5 fun K hK=>?_;go_simp;refine (Qc3 _ _ (by unfold I64;omega)).mono ?_;rintro e w4 ⟨rfl,rfl⟩;dsimp only;refine gK hK aa ?_
   try simp only [sX]
   refine onE 6 fun K hK=>?_;go_simp;refine (QjL (Q:=N) _ _ _ hn a5 (Qae HN (Qac ap aa)) KN (by have:=QfH (-vv);unfold I64;omega) hwt (HC.out _ aa).2.1).mono ?_;rintro e w5 ⟨v5,n5,rfl,az,ak⟩;dsimp only;have ab:=Qaa ((aa:Below w3.heap.size w3 w3.drew).trans ak);have aK:=Qaa (az.le (B':=w.heap.size) (by show w.heap.size<=w3.heap.size;have:=ap.out.size;omega));have aN:=Qaa (fun q (h:Value.ownBlock v5=some q)=>(show w3.heap.size<=q from (az.lt q h).1));obtain ⟨ah,c5,rfl⟩:=az.any;clear az ak;refine gK hK ab.out ?_
   try simp only [sX]
   refine onE 7 fun K hK=>?_;go_simp;refine gK hK ab.out ?_
   try simp only [sX]
   have R5:=(HC.out _ ab).2.2.2;obtain ⟨q0,q1,q2,q3,q4⟩:=QbO R5;have f1:=fzR 2 R5;refine onE 8 fun K hK=>?_;go_simp;refine hK.out _ _ (fun h=>absurd rfl h) ?_
   try simp only [sX]
   refine dnE ?_ _;generalize hw4:w5.setCell ⟨sg,2,none⟩ (.slice ah n5 c5)=w4;have ax:w3.grownBy w4 (some sg):=by rw [<- hw4];exact World.grownBy.trans ⟨ab.out.os,ab.out.tape,ab.out.output,ab.out.size,fun k hk _=>ab.out.block k hk⟩ (Qau _ _ _ _)
   have av:w4.heap[sg]?=some (.cells #[.int .u64 (QeF z vv wt),.slice al m1 c1,.slice ah n5 c5,.int .i64 h,.int .u64 l] 43 (0,0)):=by
    rw [<- hw4,aI.out];exact ZZl w5 sg 2 _ _ _ R5
   have aw:Value.ownBlock (.slice ah n5 c5)≠some sg:=aK.out.ne R5 (by decide)
   have ae:OwnB w4 w.heap.size (.slice ah n5 c5) n5 (QoS N vv wt):=by
    rw [<- hw4,QoS,if_pos bw.out];exact aK.out.set aw _
   have af:OwnB w4 w.heap.size (.slice al m1 c1) m1 (QoI P vv wt):=by
    rw [<- hw4,aO.out];have h5:=ao.out.past ab;exact h5.set (h5.ne R5 (by decide)) _
   have ay:QdP (.slice al m1 c1) (.slice ah n5 c5):=fun k e1 e2=>by
    have h1:=aN.out k e2;have h2:=(ao.out.lt k e1).2;omega
   clear ao an hw4 aK aN R5 q0 q1 q2 q3 q4 f1 aw ab aI aO g0 g1 g2 g3 g4 a6 aa;obtain ⟨K4,N4,R4⟩:=a1.out _ ax;have aG:Below w.heap.size w w4:=ap.out.grown ax ap.out.size (fun k e=>by cases e;omega);have ar:sg<w4.heap.size:=(ZZc.1 av).1;have aF:∀ W,Below w4.heap.size w4 W->Qbb W w.heap.size z (.slice pa pn pc) (.slice na nn nc) h l/\Qen W (w.heap.size+1) wt/\W.heap[w.heap.size+1+1]?=some (.cells Qax 43 (0,0))/\W.heap[sg]?=some (.cells #[.int .u64 (QeF z vv wt),.slice al m1 c1,.slice ah n5 c5,.int .i64 h,.int .u64 l] 43 (0,0)):=fun W hW=>⟨QaB K4 hW,Qab hW N4,by rw [hW.block _ (by omega)];exact R4,by rw [hW.block _ ar];exact av⟩;have ad:=Qaa aF;have aD:=Qaa aG;have aP:=Qaa af;have aV:=Qaa ae;have aY:=Qaa ay;obtain ⟨Z4,aq⟩:∃ Z,QeF z vv wt=Z:=⟨_,rfl⟩;rw [aq] at ad;have aX:=Qaa aq;clear aF aG af ae ay av ax K4 N4 R4 aq HC;have aa:(fun W=>Below w4.heap.size w4 W) w4.drew:=(ZZb _ _).drew;go_wp2_with fail;refine Qaj (fun W=>Below w4.heap.size w4 W) 7 (by kernel_rfl) ?_;refine tkL 0 (.pointer (some ⟨w.heap.size,3,none⟩)) aa (fun W hW=>?_) ?_
   ·obtain ⟨⟨x0,x1,x2,x3,x4⟩,x5,x6,x7⟩:=ad.out W hW
    go_simp
   refine tkL 1 (.agg #[.int .i64 h,.int .u64 l]) aa (fun W hW=>?_) ?_
   ·obtain ⟨⟨x0,x1,x2,x3,x4⟩,x5,x6,x7⟩:=ad.out W hW
    go_simp
   refine tkL 2 (.int .i64 vv) aa (fun W hW=>?_) ?_
   ·obtain ⟨⟨x0,x1,x2,x3,x4⟩,x5,x6,x7⟩:=ad.out W hW
    go_simp
   simp only [sX];refine tkL 3 (.int .u64 wt) aa (fun W hW=>?_) ?_
   ·obtain ⟨⟨x0,x1,x2,x3,x4⟩,x5,x6,x7⟩:=ad.out W hW
    go_simp
   simp only [sX];refine onE 4 fun K hK=>?_;go_simp;refine (Qcm _ _ hvv hwt _).mono ?_;rintro e w5 ⟨rfl,ak⟩;dsimp only;have ab:=Qaa ((aa:Below w4.heap.size w4 w4.drew).trans ak);clear ak;refine gK hK ab.out ?_
   try simp only [sX]
   refine onE 5 fun K hK=>?_;go_simp;refine (Qb1 _ _ _ _ _ hl0 (show U64 (thL vv wt) from QeJ _)).mono ?_;rintro e w6 ⟨rfl,aH⟩;dsimp only;have ac:=Qaa (Qac ab aH);clear aH;refine gK hK ac.out ?_
   try simp only [sX]
   refine onE 6 fun K hK=>?_;go_simp;refine gK hK ac.out ?_
   try simp only [sX]
   have R6:=(ad.out _ ac).2.2.2;obtain ⟨y0,y1,y2,y3,y4⟩:=QbO R6;have aS:=fzR 3 R6;have aW:=fzR 4 R6;refine onE 7 fun K hK=>?_;go_simp;refine hK.out _ _ (fun h=>absurd rfl h) ?_
   try simp only [sX]
   refine dnE ?_ _;obtain ⟨H7,am⟩:∃ H,QaO h l (thH vv wt) (thL vv wt)=H:=⟨_,rfl⟩;obtain ⟨L7,au⟩:∃ H,QaS l (thL vv wt)=H:=⟨_,rfl⟩;have aT:=Qaa am;have aU:=Qaa au;rw [am,au];clear am au;generalize hw7:(w6.setCell ⟨sg,3,none⟩ (.int .i64 H7)).setCell ⟨sg,4,none⟩ (.int .u64 L7)=w7
   have S7:w7.heap[sg]?=some (.cells #[.int .u64 Z4,.slice al m1 c1,.slice ah n5 c5,.int .i64 H7,.int .u64 L7] 43 (0,0)):=by
    rw [<- hw7];exact ZZl _ sg 4 _ _ _ (ZZl w6 sg 3 _ _ _ R6)
   have ag:w6.grownBy w7 (some sg):=by rw [<- hw7];exact (Qau _ _ _ _).trans (Qau _ _ _ _)
   have R7:w7.heap[w.heap.size+1+1]?=some (.cells Qax 43 (0,0)):=by
    have hR:=(ad.out _ ac).2.2.1;rw [ag.block _ (Array.getElem?_eq_some_iff.1 hR).1 (fun e=>by have:=Option.some.inj e;omega)];exact hR
   have T7:Below w.heap.size w w7:=(Qac aD ac).grown ag (Qac aD ac).size (fun k e=>by cases e;omega);have af:=aP.out.past ac;have ae:=aV.out.past ac;have aC:=af.kept ag (.inr (af.ne R6 (by decide)));have aE:=ae.kept ag (.inr (ae.ne R6 (by decide)));have aJ:=Qaa aC;have aA:=Qaa aE;have aQ:=Qaa T7;have aB:=Qaa R7;obtain ⟨g0,g1,g2,g3,g4⟩:=QbO S7;obtain ⟨q0,q1,q2,q3,q4⟩:=QbO R7;obtain ⟨be,ba,bg,a7,a2⟩:=fA5 R7;clear S7 ag R7 T7 af ae aC aE hw7 y0 y1 y2 y3 y4 aS aW R6;go_wp2;refine bodyPost_ret (v:=.agg #[.int .u64 Z4,.slice al m1 c1,.slice ah n5 c5,.int .i64 H7,.int .u64 L7]) (by simp [results,Tryz.results289,go_sem,q0,q1,q2,q3,q4]) rfl ⟨_,rfl,?_,.inl ⟨bj,?_⟩⟩
   ·repeat (refine Below.setCell ?_ (by simp <;> omega) _)
    exact aQ.out
   ·rw [aT.out,aU.out,aX.out]
    refine ⟨_,_,m1,n5,rfl,?_,?_,aY⟩
    ·have ai:=aJ.out.ne aB (by decide)
     repeat (refine OwnB.set ?_ ai _)
     exact aJ.out
    ·have ai:=aA.out.ne aB (by decide)
     repeat (refine OwnB.set ?_ ai _)
     exact aA.out
def QcW (P:List Bn) (v wt:Int):List Bn:=if 0<v then Qan (mrg P [(Qdv v,wt)]) else P
def QcP (N:List Bn) (v wt:Int):List Bn:=if v<0 then Qan (mrg N [(Qdv (-v),wt)]) else N
theorem Qlo (w:World) (t:TypeId) (a u:Int):QaA (w.alloc (.cells #[.int .i64 a,.int .u64 u] t)) (some ⟨w.heap.size,0,none⟩) [(a,u)]:=fun _=>⟨w.heap.size,0,rfl,fun i x hx=>by
 obtain ⟨rfl,rfl⟩:i=0/\x=(a,u):=by
  cases i with
  | zero=>exact ⟨rfl,by simpa using hx.symm⟩
  | succ j=>simp at hx
 exact Qf3 w t a u⟩
theorem QmE {w:World} {z h l vv wt:Int} {pa na:Option Addr} {pn pc nn nc:Nat} {P N:List Bn} (hz:U64 z) (hl0:U64 l) (hvv:I64 vv) (hwt:U64 wt) (hp:P.length=pn) (hn:N.length=nn) (lp:pn<=30) (ln:nn<=30) (hP:QaA w pa P) (hN:QaA w na N) (kP:∀ x∈P,Qa8 x) (kN:∀ x∈N,Qa8 x) (hv9:-999999999999999999<=vv/\vv<=999999999999999999) (cA:pa=none->pc=0) (cA':na=none->nc=0) :
  Calls Tryz.prog 136 #[.agg #[.int .u64 z,.slice pa pn pc,.slice na nn nc,.int .i64 h,.int .u64 l],.int .i64 vv,.int .u64 wt] w fun e w'=>∃ v,e=.returned v/\QeH w' w.heap.size v (QeF z vv wt) (QcW P vv wt) (QcP N vv wt) (QaO h l (thH vv wt) (thL vv wt)) (QaS l (thL vv wt))/\Below w.heap.size w w':=by
 have HP:=Qaa hP;have HN:=Qaa hN;have KP:=Qaa kP;have KN:=Qaa kN;have CA:=Qaa cA;have bh:=Qaa cA';clear hP hN kP kN cA cA';go_enter Tryz.func136,Tryz.ntmps136;go_wp2_with fail;generalize hW0:(w.alloc (Obj.cells #[.int .u64 z,.slice pa pn pc,.slice na nn nc,.int .i64 h,.int .u64 l] 43)).alloc (Obj.cells Qax 43)=W0;have T0:Below w.heap.size w W0:=by rw [<- hW0];exact ((Below.refl _ _).alloc (Nat.le_refl _) _).alloc (by simp) _
 have K0:Qbb W0 w.heap.size z (.slice pa pn pc) (.slice na nn nc) h l:=by rw [<- hW0];exact QaB (QdD w _ _ _ _ _ _) ((ZZb _ _).alloc (ZZa _) _)
 have R0:W0.heap[w.heap.size+1]?=some (.cells Qax 43 (0,0)):=by rw [<- hW0];simpa using heap_alloc_new (w.alloc (Obj.cells #[.int .u64 z,.slice pa pn pc,.slice na nn nc,.int .i64 h,.int .u64 l] 43)) (Obj.cells Qax 43)
 have bf:W0.heap.size=w.heap.size+2:=by rw [<- hW0];simp
 clear hW0;have aW:=Qaa T0;clear T0;refine (Qgw hp hn (by omega) (by omega) (Qae HP aW) (Qae HN aW) CA bh).mono ?_;rintro e w1 ⟨v1,rfl,⟨p1,n1,m1,m2,rfl,aX,a0,a8⟩,aD⟩;obtain ⟨af,c1,rfl⟩:=aX.any;obtain ⟨ag,c2,rfl⟩:=a0.any;have a4:=Qaa (Qac aW aD);have K1:=QaB K0 aD;have R1:w1.heap[w.heap.size+1]?=some (.cells Qax 43 (0,0)):=by rw [aD.block _ (by omega)];exact R0
 have be:w.heap.size+2<=w1.heap.size:=by have:=aD.size;omega
 have au:=Qaa (aX.le (B':=w.heap.size) (by omega));have ar:=Qaa (a0.le (B':=w.heap.size) (by omega));have bk:=Qaa a8;clear aD aX a0 a8 K0 R0;go_wp2_with fail;generalize hW4:w1.alloc (Obj.cells #[.int .u64 z,.slice af m1 c1,.slice ag m2 c2,.int .i64 h,.int .u64 l] 43)=w4;have aw:Below w1.heap.size w1 w4:=by rw [<- hW4];exact (ZZb _ _).alloc (ZZa _) _
 have S4:w4.heap[w1.heap.size]?=some (.cells #[.int .u64 z,.slice af m1 c1,.slice ag m2 c2,.int .i64 h,.int .u64 l] 43 (0,0)):=by rw [<- hW4];exact ZZk w1 _
 clear hW4;obtain ⟨sg,bb⟩:∃ sg,sg=w1.heap.size:=⟨_,rfl⟩;rw [<- bb] at S4 ⊢;have bl:w.heap.size+2<=sg:=by omega
 have aV:sg<w4.heap.size:=(ZZc.1 S4).1;have a9:=Qaa (Qac a4 aw);have K4:=QaB K1 aw;have R4:w4.heap[w.heap.size+1]?=some (.cells Qax 43 (0,0)):=by rw [aw.block _ (by omega)];exact R1
 have aI:=Qaa (au.out.past aw);have aB:=Qaa (ar.out.past aw);have a2:∀ W,Below w4.heap.size w4 W->Qbb W w.heap.size z (.slice pa pn pc) (.slice na nn nc) h l/\W.heap[w.heap.size+1]?=some (.cells Qax 43 (0,0))/\W.heap[sg]?=some (.cells #[.int .u64 z,.slice af m1 c1,.slice ag m2 c2,.int .i64 h,.int .u64 l] 43 (0,0)):=fun W hW=>⟨QaB K4 hW,by rw [hW.block _ (by omega)];exact R4,by rw [hW.block _ aV];exact S4⟩;have aq:=Qaa a2;clear a2 au ar aw S4 R4 K4 K1 R1 bb be a4;have aa:(fun W=>Below w4.heap.size w4 W) w4.drew:=(ZZb _ _).drew;refine Qaj (fun W=>Below w4.heap.size w4 W) 7 (by kernel_rfl) ?_;refine tkL 0 (.pointer (some ⟨w.heap.size,3,none⟩)) aa (fun W hW=>?_) ?_
 ·obtain ⟨⟨x0,x1,x2,x3,x4⟩,x5,x6⟩:=aq.out W hW
  go_simp
 refine tkL 1 (.agg #[.int .i64 h,.int .u64 l]) aa (fun W hW=>?_) ?_
 ·obtain ⟨⟨x0,x1,x2,x3,x4⟩,x5,x6⟩:=aq.out W hW
  go_simp
 refine tkL 2 (.int .i64 vv) aa (fun W hW=>?_) ?_
 ·obtain ⟨⟨x0,x1,x2,x3,x4⟩,x5,x6⟩:=aq.out W hW
  go_simp
 simp only [sX];refine tkL 3 (.int .u64 wt) aa (fun W hW=>?_) ?_
 ·obtain ⟨⟨x0,x1,x2,x3,x4⟩,x5,x6⟩:=aq.out W hW
  go_simp
 simp only [sX];refine onE 4 fun K hK=>?_;go_simp;refine (Qe0 _ _ hvv hwt _).mono ?_;rintro e w5 ⟨rfl,ap⟩;dsimp only;have ab:=Qaa ((aa:Below w4.heap.size w4 w4.drew).trans ap);clear ap;refine gK hK ab.out ?_
 try simp only [sX]
 refine onE 5 fun K hK=>?_;go_simp;refine (QbN _ _ _ _ _ hl0 (show U64 (thL vv wt) from QeJ _)).mono ?_;rintro e w6 ⟨rfl,a5⟩;dsimp only;have ak:=Qaa (Qac ab a5);clear a5;refine gK hK ak.out ?_
 try simp only [sX]
 refine onE 6 fun K hK=>?_;go_simp;refine gK hK ak.out ?_
 try simp only [sX]
 have R6:=(aq.out _ ak).2.2;obtain ⟨y0,y1,y2,y3,y4⟩:=QbO R6;have bc:=fzR 3 R6;have bi:=fzR 4 R6;refine onE 7 fun K hK=>?_;go_simp;refine hK.out _ _ (fun h=>absurd rfl h) ?_
 try simp only [sX]
 refine dnE ?_ _;obtain ⟨H7,aM⟩:∃ H,QaO h l (thH vv wt) (thL vv wt)=H:=⟨_,rfl⟩;obtain ⟨L7,aY⟩:∃ H,QaS l (thL vv wt)=H:=⟨_,rfl⟩;have aN:=Qaa aM;have aS:=Qaa aY;rw [aM,aY];clear aM aY;generalize hw3:(w6.setCell ⟨sg,3,none⟩ (.int .i64 H7)).setCell ⟨sg,4,none⟩ (.int .u64 L7)=w3
 have S3:w3.heap[sg]?=some (.cells #[.int .u64 z,.slice af m1 c1,.slice ag m2 c2,.int .i64 H7,.int .u64 L7] 43 (0,0)):=by
  rw [<- hw3];exact ZZl _ sg 4 _ _ _ (ZZl w6 sg 3 _ _ _ R6)
 have aG:w6.grownBy w3 (some sg):=by rw [<- hw3];exact (Qau _ _ _ _).trans (Qau _ _ _ _)
 have aU:∀ j,j<w6.heap.size->j≠sg->w3.heap[j]?=w6.heap[j]?:=fun j hj hne=>aG.block j hj (fun e=>hne (Option.some.inj e));obtain ⟨K6,Q6,_⟩:=aq.out _ ak;have aR:=ak.out.size;have R3:w3.heap[w.heap.size+1]?=some (.cells Qax 43 (0,0)):=by rw [aU _ (by omega) (by omega)];exact Q6
 have K3:Qbb w3 w.heap.size z (.slice pa pn pc) (.slice na nn nc) h l:=by
  have aK:∀ j,w3.cell? ⟨w.heap.size,j,none⟩=w6.cell? ⟨w.heap.size,j,none⟩:=fun j=>World.cell?_of_block (w:=w6) (aU w.heap.size (by omega) (by omega));exact ⟨by rw [aK];exact K6.1,by rw [aK];exact K6.2.1,by rw [aK];exact K6.2.2.1,by rw [aK];exact K6.2.2.2.1,by rw [aK];exact K6.2.2.2.2⟩
 have ax:=Qaa ((Qac a9 ak).grown aG (Qac a9 ak).size (fun k e=>by cases e;omega));have bj:sg<w3.heap.size:=(ZZc.1 S3).1;have o1:=aI.out.past ak;have o2:=aB.out.past ak;have au:=Qaa (o1.kept aG (.inr (o1.ne R6 (by decide))));have ar:=Qaa (o2.kept aG (.inr (o2.ne R6 (by decide))));have hC:∀ W,Below w3.heap.size w3 W->Qbb W w.heap.size z (.slice pa pn pc) (.slice na nn nc) h l/\W.heap[w.heap.size+1]?=some (.cells Qax 43 (0,0))/\W.heap[sg]?=some (.cells #[.int .u64 z,.slice af m1 c1,.slice ag m2 c2,.int .i64 H7,.int .u64 L7] 43 (0,0)):=fun W hW=>⟨QaB K3 hW,by rw [hW.block _ (by omega)];exact R3,by rw [hW.block _ bj];exact S3⟩;have HC:=Qaa hC;have aQ:=Qaa S3;have bm:=fzR 0 S3;obtain ⟨g0,g1,g2,g3,g4⟩:=QbO S3
 have aH:∀ (w9:World) (Z:Int) (p n:Value) (a b:Nat) (P9 N9:List Bn),w3.grownBy w9 (some sg)->w9.heap[sg]?=some (.cells #[.int .u64 Z,p,n,.int .i64 H7,.int .u64 L7] 43 (0,0))->OwnB w9 w.heap.size p a P9->OwnB w9 w.heap.size n b N9->QdP p n ->
   QeH (((((w9.setCell ⟨w.heap.size+1,0,none⟩ (.int .u64 Z)).setCell ⟨w.heap.size+1,1,none⟩ p).setCell ⟨w.heap.size+1,2,none⟩ n).setCell ⟨w.heap.size+1,3,none⟩ (.int .i64 H7)).setCell ⟨w.heap.size+1,4,none⟩ (.int .u64 L7)) w.heap.size (.agg #[.int .u64 Z,p,n,.int .i64 H7,.int .u64 L7]) Z P9 N9 H7 L7 /\
   Below w.heap.size w (((((w9.setCell ⟨w.heap.size+1,0,none⟩ (.int .u64 Z)).setCell ⟨w.heap.size+1,1,none⟩ p).setCell ⟨w.heap.size+1,2,none⟩ n).setCell ⟨w.heap.size+1,3,none⟩ (.int .i64 H7)).setCell ⟨w.heap.size+1,4,none⟩ (.int .u64 L7))/\w9.heap[w.heap.size+1]?=some (.cells Qax 43 (0,0)):=fun w9 Z p n a b P9 N9 hg hr hp9 hn9 ac=>by
  have hR:w9.heap[w.heap.size+1]?=some (.cells Qax 43 (0,0)):=by rw [hg.block _ (by omega) (fun e=>by have:=Option.some.inj e;omega)];exact R3
  have q1:=hp9.ne hR (by decide);have q2:=hn9.ne hR (by decide);refine ⟨⟨p,n,a,b,rfl,((((hp9.set q1 _).set q1 _).set q1 _).set q1 _).set q1 _,((((hn9.set q2 _).set q2 _).set q2 _).set q2 _).set q2 _,ac⟩,?_,hR⟩
  repeat (refine Below.setCell ?_ (by simp <;> omega) _)
  exact ax.out.grown hg ax.out.size (fun k e=>by cases e;omega)
 have av:=Qaa aH;clear aH hC o1 o2 hw3 aG aU K6 Q6 aR S3 R6 y0 y1 y2 y3 y4 bc bi aq aI aB;have c3:vv=0∨0<vv∨vv<0:=by omega
 rcases c3 with aT | bd | bg
 ·have aF:Hid (QeF z vv wt=Qar z wt):=if_pos aT
  have aP:Hid (QcW P vv wt=P):=if_neg (by omega);have aZ:Hid (QcP N vv wt=N):=if_neg (by omega);have d0:(vv == 0)=true:=beq_iff_eq.2 aT;have d1:decide (0<vv)=false:=ZZg (by omega);have d2:decide (vv<0)=false:=ZZg (by omega);clear aT;obtain ⟨w9,ad⟩:∃ W,w3.setCell ⟨sg,0,none⟩ (.int .u64 (Qar z wt))=W:=⟨_,rfl⟩;have an:w3.grownBy w9 (some sg):=by rw [<- ad];exact Qau _ _ _ _
  have ai:w9.heap[sg]?=some (.cells #[.int .u64 (Qar z wt),.slice af m1 c1,.slice ag m2 c2,.int .i64 H7,.int .u64 L7] 43 (0,0)):=by rw [<- ad];exact ZZl w3 sg 0 _ _ _ aQ
  have ao:OwnB w9 w.heap.size (.slice af m1 c1) m1 P:=by rw [<- ad];exact au.out.set (au.out.ne aQ.out (by decide)) _
  have am:OwnB w9 w.heap.size (.slice ag m2 c2) m2 N:=by rw [<- ad];exact ar.out.set (ar.out.ne aQ.out (by decide)) _
  have ac:=bk.out;obtain ⟨k0,k1,k2,k3,k4⟩:=K3;obtain ⟨F1,F2,R9⟩:=av.out w9 (Qar z wt) (.slice af m1 c1) (.slice ag m2 c2) m1 m2 _ _ an ai ao am ac;obtain ⟨u0,u1,u2,u3,u4⟩:=QbO ai;obtain ⟨q0,q1,q2,q3,q4⟩:=QbO R9;obtain ⟨a1,ba,a6,a7,a3⟩:=fA5 R9;have ay:=Qaa F1;have aA:=Qaa F2;clear F1 F2 R9 ai an ao am ac;go_wp2_with (go_at_call 132;refine (Qbj _ _ hz hwt _).mono ?_;rintro e w8 ⟨rfl,hw⟩;obtain rfl:=hw.symm);refine bodyPost_ret (v:=.agg #[.int .u64 (Qar z wt),.slice af m1 c1,.slice ag m2 c2,.int .i64 H7,.int .u64 L7]) (by simp [results,Tryz.results136,go_sem,q0,q1,q2,q3,q4]) rfl ⟨_,rfl,?_,aA⟩;rw [aN.out,aS.out,aF.out,aP.out,aZ.out];exact ay.out
 ·have aF:Hid (QeF z vv wt=z):=if_neg (by omega)
  have aZ:Hid (QcP N vv wt=N):=if_neg (by omega);have aL:=Qaa bd;have d0:(vv == 0)=false:=ZZf.2 (by omega);go_wp2_with fail;have aa:(fun W=>Below w3.heap.size w3 W) w3.drew:=(ZZb _ _).drew;refine Qaj (fun W=>Below w3.heap.size w3 W) 9 (by kernel_rfl) ?_;refine tkL 0 (.pointer (some ⟨w.heap.size,1,none⟩)) aa (fun W hW=>?_) ?_
  ·obtain ⟨⟨x0,x1,x2,x3,x4⟩,x5,x6⟩:=HC.out W hW
   go_simp
  refine tkL 1 (.slice pa pn pc) aa (fun W hW=>?_) ?_
  ·obtain ⟨⟨x0,x1,x2,x3,x4⟩,x5,x6⟩:=HC.out W hW
   go_simp
  refine tkL 2 (.int .i64 vv) aa (fun W hW=>?_) ?_
  ·obtain ⟨⟨x0,x1,x2,x3,x4⟩,x5,x6⟩:=HC.out W hW
   go_simp
  simp only [sX];refine tkL 4 (.int .u64 wt) aa (fun W hW=>?_) ?_
  ·obtain ⟨⟨x0,x1,x2,x3,x4⟩,x5,x6⟩:=HC.out W hW
   go_simp
  simp only [sX];refine onE 3 fun K hK=>?_;go_simp;refine (Qca _ _ (by unfold I64;omega)).mono ?_;rintro e w4 ⟨rfl,rfl⟩;dsimp only;refine gK hK aa ?_
  try simp only [sX]
  refine tkS 5 (.agg #[.int .i64 (Qdv vv),.int .u64 wt]) aa ?_;simp only [sX];refine onE 6 fun K hK=>?_;go_simp;have aJ:Below w3.heap.size w3 (w3.drew.alloc (.cells #[.int .i64 (Qdv vv),.int .u64 wt] 199)):=aa.alloc (ZZa _) _;have aj:=Qaa aJ;clear aJ;refine gK hK aj.out ?_
  try simp only [sX]
  refine onE 7 fun K hK=>?_;go_simp;refine (Qcl _ _ _ _ hp (by rfl) lp (by omega) (Qae HP (Qac ax aj)) (Qlo _ _ _ _) KP (fun x hx=>by obtain rfl:x=(Qdv vv,wt):=(by simpa using hx);exact ⟨by have:=QfH vv;unfold I64;omega,hwt⟩)).mono ?_;rintro e w5 ⟨v5,n5,rfl,aE,aC,ap⟩;have al:=OwnB.of aE aC;clear aE aC;dsimp only;have ab:=Qaa (Qac aj ap);have az:=Qaa (al.le (B':=w.heap.size) (by have:=ax.out.size;have:=aj.out.size;omega));have aO:=Qaa (fun q (h:Value.ownBlock v5=some q)=>(show w3.heap.size<=q from Nat.le_trans aj.out.size (al.lt q h).1));obtain ⟨ae,c5,rfl⟩:=al.any;clear al ap;refine gK hK ab.out ?_
  try simp only [sX]
  refine onE 8 fun K hK=>?_;go_simp;refine gK hK ab.out ?_
  try simp only [sX]
  have R5:=(HC.out _ ab).2.2;obtain ⟨q0,q1,q2,q3,q4⟩:=QbO R5;have f1:=fzR 1 R5;refine onE 9 fun K hK=>?_;go_simp;refine hK.out _ _ (fun h=>absurd rfl h) ?_
  try simp only [sX]
  refine dnE ?_ _;generalize ad:w5.setCell ⟨sg,1,none⟩ (.slice ae n5 c5)=w9;have an:w3.grownBy w9 (some sg):=by rw [<- ad];exact World.grownBy.trans ⟨ab.out.os,ab.out.tape,ab.out.output,ab.out.size,fun k hk _=>ab.out.block k hk⟩ (Qau _ _ _ _)
  have ai:w9.heap[sg]?=some (.cells #[.int .u64 z,.slice ae n5 c5,.slice ag m2 c2,.int .i64 H7,.int .u64 L7] 43 (0,0)):=by rw [<- ad];exact ZZl w5 sg 1 _ _ _ R5
  have ah:Value.ownBlock (.slice ae n5 c5)≠some sg:=az.out.ne R5 (by decide)
  have ao:OwnB w9 w.heap.size (.slice ae n5 c5) n5 (QcW P vv wt):=by
   rw [<- ad,QcW,if_pos aL.out];exact az.out.set ah _
  have am:OwnB w9 w.heap.size (.slice ag m2 c2) m2 N:=by
   rw [<- ad];have h5:=ar.out.past ab;exact h5.set (h5.ne R5 (by decide)) _
  have ac:QdP (.slice ae n5 c5) (.slice ag m2 c2):=fun k e1 e2=>by
   have h1:=aO.out k e1;have h2:=(ar.out.lt k e2).2;omega
  have d2:decide (vv<0)=false:=ZZg (by have:=aL.out;omega);clear ad ah R5 q0 q1 q2 q3 q4 f1;obtain ⟨F1,F2,R9⟩:=av.out w9 z (.slice ae n5 c5) (.slice ag m2 c2) n5 m2 _ _ an ai ao am ac;obtain ⟨u0,u1,u2,u3,u4⟩:=QbO ai;obtain ⟨q0,q1,q2,q3,q4⟩:=QbO R9;obtain ⟨a1,ba,a6,a7,a3⟩:=fA5 R9;have ay:=Qaa F1;have aA:=Qaa F2;clear F1 F2 R9 ai an ao am ac;go_wp2;refine bodyPost_ret (v:=.agg #[.int .u64 z,.slice ae n5 c5,.slice ag m2 c2,.int .i64 H7,.int .u64 L7]) (by simp [results,Tryz.results136,go_sem,q0,q1,q2,q3,q4]) rfl ⟨_,rfl,?_,aA⟩;rw [aN.out,aS.out,aF.out,aZ.out];exact ay.out
 ·have aF:Hid (QeF z vv wt=z):=if_neg (by omega)
  have aP:Hid (QcW P vv wt=P):=if_neg (by omega);have aL:=Qaa bg;have d0:(vv == 0)=false:=ZZf.2 (by omega);have d1:decide (0<vv)=false:=ZZg (by omega);have dm:IntKind.i64.wrap (-vv)=-vv:=by rw [IntKind.wrap_i64];omega
  go_wp2_with fail;have aa:(fun W=>Below w3.heap.size w3 W) w3.drew:=(ZZb _ _).drew;refine Qaj (fun W=>Below w3.heap.size w3 W) 10 (by kernel_rfl) ?_;refine tkL 0 (.pointer (some ⟨w.heap.size,2,none⟩)) aa (fun W hW=>?_) ?_
  ·obtain ⟨⟨x0,x1,x2,x3,x4⟩,x5,x6⟩:=HC.out W hW
   go_simp
  refine tkL 1 (.slice na nn nc) aa (fun W hW=>?_) ?_
  ·obtain ⟨⟨x0,x1,x2,x3,x4⟩,x5,x6⟩:=HC.out W hW
   go_simp
  refine tkL 2 (.int .i64 vv) aa (fun W hW=>?_) ?_
  ·obtain ⟨⟨x0,x1,x2,x3,x4⟩,x5,x6⟩:=HC.out W hW
   go_simp
  simp only [sX];refine tkL 3 (.int .i64 (-vv)) aa (fun W hW=>?_) ?_
  ·obtain ⟨⟨x0,x1,x2,x3,x4⟩,x5,x6⟩:=HC.out W hW
   go_simp
  refine tkL 5 (.int .u64 wt) aa (fun W hW=>?_) ?_
  ·obtain ⟨⟨x0,x1,x2,x3,x4⟩,x5,x6⟩:=HC.out W hW
   go_simp
  simp only [sX];refine onE 4 fun K hK=>?_;go_simp;refine (Qca _ _ (by unfold I64;omega)).mono ?_;rintro e w4 ⟨rfl,rfl⟩;dsimp only;refine gK hK aa ?_
  try simp only [sX]
  refine tkS 6 (.agg #[.int .i64 (Qdv (-vv)),.int .u64 wt]) aa ?_;simp only [sX];refine onE 7 fun K hK=>?_;go_simp;have aJ:Below w3.heap.size w3 (w3.drew.alloc (.cells #[.int .i64 (Qdv (-vv)),.int .u64 wt] 199)):=aa.alloc (ZZa _) _;have aj:=Qaa aJ;clear aJ;refine gK hK aj.out ?_
  try simp only [sX]
  refine onE 8 fun K hK=>?_;go_simp;refine (Qcl _ _ _ _ hn (by rfl) ln (by omega) (Qae HN (Qac ax aj)) (Qlo _ _ _ _) KN (fun x hx=>by obtain rfl:x=(Qdv (-vv),wt):=(by simpa using hx);exact ⟨by have:=QfH (-vv);unfold I64;omega,hwt⟩)).mono ?_;rintro e w5 ⟨v5,n5,rfl,aE,aC,ap⟩;have al:=OwnB.of aE aC;clear aE aC;dsimp only;have ab:=Qaa (Qac aj ap);have az:=Qaa (al.le (B':=w.heap.size) (by have:=ax.out.size;have:=aj.out.size;omega));have aO:=Qaa (fun q (h:Value.ownBlock v5=some q)=>(show w3.heap.size<=q from Nat.le_trans aj.out.size (al.lt q h).1));obtain ⟨ae,c5,rfl⟩:=al.any;clear al ap;refine gK hK ab.out ?_
  try simp only [sX]
  refine onE 9 fun K hK=>?_;go_simp;refine gK hK ab.out ?_
  try simp only [sX]
  have R5:=(HC.out _ ab).2.2;obtain ⟨q0,q1,q2,q3,q4⟩:=QbO R5;have f1:=fzR 2 R5;refine onE 10 fun K hK=>?_;go_simp;refine hK.out _ _ (fun h=>absurd rfl h) ?_
  try simp only [sX]
  refine dnE ?_ _;generalize ad:w5.setCell ⟨sg,2,none⟩ (.slice ae n5 c5)=w9;have an:w3.grownBy w9 (some sg):=by rw [<- ad];exact World.grownBy.trans ⟨ab.out.os,ab.out.tape,ab.out.output,ab.out.size,fun k hk _=>ab.out.block k hk⟩ (Qau _ _ _ _)
  have ai:w9.heap[sg]?=some (.cells #[.int .u64 z,.slice af m1 c1,.slice ae n5 c5,.int .i64 H7,.int .u64 L7] 43 (0,0)):=by rw [<- ad];exact ZZl w5 sg 2 _ _ _ R5
  have ah:Value.ownBlock (.slice ae n5 c5)≠some sg:=az.out.ne R5 (by decide)
  have am:OwnB w9 w.heap.size (.slice ae n5 c5) n5 (QcP N vv wt):=by
   rw [<- ad,QcP,if_pos aL.out];exact az.out.set ah _
  have ao:OwnB w9 w.heap.size (.slice af m1 c1) m1 P:=by
   rw [<- ad];have h5:=au.out.past ab;exact h5.set (h5.ne R5 (by decide)) _
  have ac:QdP (.slice af m1 c1) (.slice ae n5 c5):=fun k e1 e2=>by
   have h1:=aO.out k e2;have h2:=(au.out.lt k e1).2;omega
  clear ad ah R5 q0 q1 q2 q3 q4 f1;obtain ⟨F1,F2,R9⟩:=av.out w9 z (.slice af m1 c1) (.slice ae n5 c5) m1 n5 _ _ an ai ao am ac;obtain ⟨u0,u1,u2,u3,u4⟩:=QbO ai;obtain ⟨q0,q1,q2,q3,q4⟩:=QbO R9;obtain ⟨a1,ba,a6,a7,a3⟩:=fA5 R9;have ay:=Qaa F1;have aA:=Qaa F2;clear F1 F2 R9 ai an ao am ac;go_wp2;refine bodyPost_ret (v:=.agg #[.int .u64 z,.slice af m1 c1,.slice ae n5 c5,.int .i64 H7,.int .u64 L7]) (by simp [results,Tryz.results136,go_sem,q0,q1,q2,q3,q4]) rfl ⟨_,rfl,?_,aA⟩;rw [aN.out,aS.out,aF.out,aP.out];exact ay.out
theorem QnG:∀ {L:List Bn} {q:Int},QbF q L=true->Qc6 L/\∀ x∈L,q<x.1
 | [],_,_=>⟨Qda,fun x hx=>by simp at hx⟩
 | y :: r,q,h=>by
  simp only [QbF,Bool.and_eq_true,decide_eq_true_eq] at h;obtain ⟨⟨⟨h1,h2⟩,h3⟩,h4⟩:=h;obtain ⟨k1,k2⟩:=QnG h4;refine ⟨rise_cons.2 ⟨k2,k1⟩,fun x hx=>?_⟩;rcases List.mem_cons.1 hx with rfl | hx
  ·exact h1
  ·have:=k2 x hx;omega
theorem QjC {L:List Bn} (h:QaR L=true):Qc6 L/\L.length<=30:=by
 unfold QaR at h;simp only [Bool.and_eq_true,decide_eq_true_eq] at h;exact ⟨(QnG h.2).1,h.1⟩
theorem QbV {P N:List Bn} (h:skB P N=true):(Qc6 P/\P.length<=30)/\Qc6 N/\N.length<=30:=by
 unfold skB at h;simp only [Bool.and_eq_true] at h;exact ⟨QjC h.1,QjC h.2⟩
theorem Qh6 (x:Bn):Qc6 [x]:=rise_cons.2 ⟨fun y hy=>by simp at hy,Qda⟩
theorem Qh3 {P N:List Bn} (hP:Qc6 P) (hN:Qc6 N):Qqd P N=Qan (mrg P N):=by
 unfold Qqd;rw [QmC hP,Qed hN]
abbrev sk5 (w:World) (r:Nat) (Z:Int) (p n:Value) (H L:Int):World:=((((w.setCell ⟨r,0,none⟩ (.int .u64 Z)).setCell ⟨r,1,none⟩ p).setCell ⟨r,2,none⟩ n).setCell ⟨r,3,none⟩ (.int .i64 H)).setCell ⟨r,4,none⟩ (.int .u64 L)
theorem Qic {w w2:World} {r a b:Nat} {Z H L:Int} {p n:Value} {P N:List Bn} (hT:Below w.heap.size w w2) (hr:w2.heap[r]?=some (.cells Qax 43 (0,0))) (hwr:w.heap.size<=r) (hp:OwnB w2 w.heap.size p a P) (hn:OwnB w2 w.heap.size n b N) (hap:QdP p n) :
  QeH (sk5 w2 r Z p n H L) w.heap.size (.agg #[.int .u64 Z,p,n,.int .i64 H,.int .u64 L]) Z P N H L/\Below w.heap.size w (sk5 w2 r Z p n H L):=by
 have q1:=hp.ne hr (by decide);have q2:=hn.ne hr (by decide);refine ⟨⟨p,n,a,b,rfl,((((hp.set q1 _).set q1 _).set q1 _).set q1 _).set q1 _,((((hn.set q2 _).set q2 _).set q2 _).set q2 _).set q2 _,hap⟩,?_⟩
 repeat (refine Below.setCell ?_ hwr _)
 exact hT
def QjA (P N P' N':List Bn):Prop:=skB P N=true/\skB P' N'=true
theorem Qln {w w1:World} {r:Nat} (hT:Below w.heap.size w w1) (hr:w1.heap[r]?=some (.cells Qax 43 (0,0))) (hwr:w.heap.size<=r) :
  QeH (sk5 w1 r 0 (.slice none 0 0) (.slice none 0 0) 0 0) w.heap.size (.agg #[.int .u64 0,.slice none 0 0,.slice none 0 0,.int .i64 0,.int .u64 0]) 0 [] [] 0 0/\Below w.heap.size w (sk5 w1 r 0 (.slice none 0 0) (.slice none 0 0) 0 0):=
 Qic (a:=0) (b:=0) hT hr hwr ⟨rfl,.inl ⟨rfl,rfl⟩⟩ ⟨rfl,.inl ⟨rfl,rfl⟩⟩ (fun k e=>by cases e)
theorem Qjr {w:World} {z h l z' h' l':Int} {pa na pb nb:Option Addr} {pn pc nn nc pm pd nm nd:Nat} {P N P' N':List Bn} (hz:U64 z) (hl0:U64 l) (hz':U64 z') (hl0':U64 l') (hp:P.length=pn) (hn:N.length=nn) (hp':P'.length=pm) (hn':N'.length=nm) (lp:pn<=30) (ln:nn<=30) (lp':pm<=30) (ln':nm<=30) (hP:QaA w pa P) (hN:QaA w na N) (hP':QaA w pb P') (hN':QaA w nb N') (kP:∀ x∈P,Qa8 x) (kN:∀ x∈N,Qa8 x) (kP':∀ x∈P',Qa8 x) (kN':∀ x∈N',Qa8 x) :
  Calls Tryz.prog 141 #[.agg #[.int .u64 z,.slice pa pn pc,.slice na nn nc,.int .i64 h,.int .u64 l],.agg #[.int .u64 z',.slice pb pm pd,.slice nb nm nd,.int .i64 h',.int .u64 l']] w fun e w'=>∃ v,e=.returned v/\Below w.heap.size w w'/\QeH w' w.heap.size v (Qar z z') (Qan (mrg P P')) (Qan (mrg N N')) (QaO h l h' l') (QaS l l'):=by
 have HP:=Qaa hP;have HN:=Qaa hN;have KP:=Qaa kP;have KN:=Qaa kN;have aA:=Qaa hP';have aE:=Qaa hN';have aB:=Qaa kP';have aG:=Qaa kN';clear hP hN kP kN hP' hN' kP' kN';go_enter Tryz.func141,Tryz.ntmps141;go_wp2_with fail;generalize hW0:((w.alloc (Obj.cells #[.int .u64 z,.slice pa pn pc,.slice na nn nc,.int .i64 h,.int .u64 l] 43)).alloc (Obj.cells #[.int .u64 z',.slice pb pm pd,.slice nb nm nd,.int .i64 h',.int .u64 l'] 43)).alloc (Obj.cells Qax 43)=W0;have T0:Below w.heap.size w W0:=by rw [<- hW0];exact (((Below.refl _ _).alloc (Nat.le_refl _) _).alloc (by simp) _).alloc (by simp;omega) _
 have K0:Qbb W0 w.heap.size z (.slice pa pn pc) (.slice na nn nc) h l:=by rw [<- hW0];exact QaB (QdD w _ _ _ _ _ _) (((Below.refl _ _).alloc (Nat.le_refl _) _).alloc (by simp) _)
 have J0:Qbb W0 (w.heap.size+1) z' (.slice pb pm pd) (.slice nb nm nd) h' l':=by
  rw [<- hW0];have:=QdD (w.alloc (Obj.cells #[.int .u64 z,.slice pa pn pc,.slice na nn nc,.int .i64 h,.int .u64 l] 43)) 43 z' h' l' (.slice pb pm pd) (.slice nb nm nd);exact QaB (by simpa using this) ((Below.refl _ _).alloc (Nat.le_refl _) _)
 have R0:W0.heap[w.heap.size+1+1]?=some (.cells Qax 43 (0,0)):=by rw [<- hW0];simpa using heap_alloc_new ((w.alloc (Obj.cells #[.int .u64 z,.slice pa pn pc,.slice na nn nc,.int .i64 h,.int .u64 l] 43)).alloc (Obj.cells #[.int .u64 z',.slice pb pm pd,.slice nb nm nd,.int .i64 h',.int .u64 l'] 43)) (Obj.cells Qax 43)
 have aD:W0.heap.size=w.heap.size+3:=by rw [<- hW0];simp
 clear hW0;have aC:=Qaa T0;clear T0;have hC:∀ W,Below W0.heap.size W0 W->Qbb W w.heap.size z (.slice pa pn pc) (.slice na nn nc) h l/\Qbb W (w.heap.size+1) z' (.slice pb pm pd) (.slice nb nm nd) h' l'/\W.heap[w.heap.size+1+1]?=some (.cells Qax 43 (0,0)):=fun W hW=>⟨QaB K0 hW,QaB J0 hW,by rw [hW.block _ (by omega)];exact R0⟩;have HC:=Qaa hC;have ab:=Qaa aC;clear hC K0 J0 R0;have aa:(fun W=>Below W0.heap.size W0 W) W0.drew:=(ZZb _ _).drew;refine Qaj (fun W=>Below W0.heap.size W0 W) 21 (by kernel_rfl) ?_;refine tkL 0 (.pointer (some ⟨w.heap.size,0,none⟩)) aa (fun W hW=>?_) ?_
 ·obtain ⟨⟨x0,x1,x2,x3,x4⟩,⟨y0,y1,y2,y3,y4⟩,_⟩:=HC.out W hW
  go_simp
 refine tkL 1 (.int .u64 z) aa (fun W hW=>?_) ?_
 ·obtain ⟨⟨x0,x1,x2,x3,x4⟩,⟨y0,y1,y2,y3,y4⟩,_⟩:=HC.out W hW
  go_simp
 refine tkL 2 (.pointer (some ⟨w.heap.size+1,0,none⟩)) aa (fun W hW=>?_) ?_
 ·obtain ⟨⟨x0,x1,x2,x3,x4⟩,⟨y0,y1,y2,y3,y4⟩,_⟩:=HC.out W hW
  go_simp
 simp only [sX];refine tkL 3 (.int .u64 z') aa (fun W hW=>?_) ?_
 ·obtain ⟨⟨x0,x1,x2,x3,x4⟩,⟨y0,y1,y2,y3,y4⟩,_⟩:=HC.out W hW
  go_simp
 refine tkL 5 (.pointer (some ⟨w.heap.size,1,none⟩)) aa (fun W hW=>?_) ?_
 ·obtain ⟨⟨x0,x1,x2,x3,x4⟩,⟨y0,y1,y2,y3,y4⟩,_⟩:=HC.out W hW
  go_simp
 refine tkL 6 (.slice pa pn pc) aa (fun W hW=>?_) ?_
 ·obtain ⟨⟨x0,x1,x2,x3,x4⟩,⟨y0,y1,y2,y3,y4⟩,_⟩:=HC.out W hW
  go_simp
 simp only [sX];refine tkL 7 (.pointer (some ⟨w.heap.size+1,1,none⟩)) aa (fun W hW=>?_) ?_
 ·obtain ⟨⟨x0,x1,x2,x3,x4⟩,⟨y0,y1,y2,y3,y4⟩,_⟩:=HC.out W hW
  go_simp
 refine tkL 8 (.slice pb pm pd) aa (fun W hW=>?_) ?_
 ·obtain ⟨⟨x0,x1,x2,x3,x4⟩,⟨y0,y1,y2,y3,y4⟩,_⟩:=HC.out W hW
  go_simp
 refine tkL 10 (.pointer (some ⟨w.heap.size,2,none⟩)) aa (fun W hW=>?_) ?_
 ·obtain ⟨⟨x0,x1,x2,x3,x4⟩,⟨y0,y1,y2,y3,y4⟩,_⟩:=HC.out W hW
  go_simp
 simp only [sX];refine tkL 11 (.slice na nn nc) aa (fun W hW=>?_) ?_
 ·obtain ⟨⟨x0,x1,x2,x3,x4⟩,⟨y0,y1,y2,y3,y4⟩,_⟩:=HC.out W hW
  go_simp
 refine tkL 12 (.pointer (some ⟨w.heap.size+1,2,none⟩)) aa (fun W hW=>?_) ?_
 ·obtain ⟨⟨x0,x1,x2,x3,x4⟩,⟨y0,y1,y2,y3,y4⟩,_⟩:=HC.out W hW
  go_simp
 refine tkL 13 (.slice nb nm nd) aa (fun W hW=>?_) ?_
 ·obtain ⟨⟨x0,x1,x2,x3,x4⟩,⟨y0,y1,y2,y3,y4⟩,_⟩:=HC.out W hW
  go_simp
 simp only [sX];refine tkL 15 (.pointer (some ⟨w.heap.size,3,none⟩)) aa (fun W hW=>?_) ?_
 ·obtain ⟨⟨x0,x1,x2,x3,x4⟩,⟨y0,y1,y2,y3,y4⟩,_⟩:=HC.out W hW
  go_simp
 refine tkL 16 (.agg #[.int .i64 h,.int .u64 l]) aa (fun W hW=>?_) ?_
 ·obtain ⟨⟨x0,x1,x2,x3,x4⟩,⟨y0,y1,y2,y3,y4⟩,_⟩:=HC.out W hW
  go_simp
 refine tkL 17 (.pointer (some ⟨w.heap.size+1,3,none⟩)) aa (fun W hW=>?_) ?_
 ·obtain ⟨⟨x0,x1,x2,x3,x4⟩,⟨y0,y1,y2,y3,y4⟩,_⟩:=HC.out W hW
  go_simp
 simp only [sX];refine tkL 18 (.agg #[.int .i64 h',.int .u64 l']) aa (fun W hW=>?_) ?_
 ·obtain ⟨⟨x0,x1,x2,x3,x4⟩,⟨y0,y1,y2,y3,y4⟩,_⟩:=HC.out W hW
  go_simp
 simp only [sX];refine onE 4 fun K hK=>?_;go_simp;refine (Qbj _ _ hz hz' _).mono ?_;rintro e w4 ⟨rfl,rfl⟩;dsimp only;refine gK hK aa ?_
 try simp only [sX]
 refine onE 9 fun K hK=>?_;go_simp;refine (Qcl _ _ _ _ hp hp' (by omega) (by omega) (Qae HP (Qac ab aa)) (Qae aA (Qac ab aa)) KP aB).mono ?_;rintro e w5 ⟨v5,n5,rfl,ax,av,ar⟩;have an:=OwnB.of ax av;clear ax av;dsimp only;have ac:=Qaa ((aa:Below W0.heap.size W0 W0.drew).trans ar);have aq:=Qaa (an.le (B':=w.heap.size) ab.out.size);obtain ⟨ag,c5,rfl⟩:=an.any;clear an ar;refine gK hK ac.out ?_
 try simp only [sX]
 refine onE 14 fun K hK=>?_;go_simp;refine (Qcl _ _ _ _ hn hn' (by omega) (by omega) (Qae HN (Qac ab ac)) (Qae aE (Qac ab ac)) KN aG).mono ?_;rintro e w6 ⟨v6,n6,rfl,aw,ay,ah⟩;have ae:=OwnB.of aw ay;clear aw ay;dsimp only;have au:=Qaa (Qac ac ah);have al:=Qaa (aq.out.past ah);have aF:Hid (QdP (.slice ag n5 c5) v6):=(fun k e1 e2=>by have:=(aq.out.lt k e1).2;have:=(ae.lt k e2).1;omega:QdP (.slice ag n5 c5) v6);have az:=Qaa (ae.le (B':=w.heap.size) (by have:=ab.out.size;have:=ac.out.size;omega));obtain ⟨ap,c6,rfl⟩:=ae.any;clear ae ah;refine gK hK au.out ?_
 try simp only [sX]
 refine onE 19 fun K hK=>?_;go_simp;refine (QbN _ _ _ _ _ hl0 hl0').mono ?_;rintro e w7 ⟨rfl,af⟩;dsimp only;have ad:=Qaa (Qac au af);have ak:=Qaa (al.out.past af);have aj:=Qaa (az.out.past af);clear af;refine gK hK ad.out ?_
 try simp only [sX]
 obtain ⟨Z7,ao⟩:∃ X,Qar z z'=X:=⟨_,rfl⟩;obtain ⟨H7,ai⟩:∃ X,QaO h l h' l'=X:=⟨_,rfl⟩;obtain ⟨L7,am⟩:∃ X,QaS l l'=X:=⟨_,rfl⟩;rw [ao,ai,am];have HE:=Qaa (And.intro ao (And.intro ai am));clear ao ai am;refine tkS 20 (.agg #[.int .u64 Z7,.slice ag n5 c5,.slice ap n6 c6,.int .i64 H7,.int .u64 L7]) ad ?_;simp only [sX];have R7:=(HC.out _ ad).2.2;have HF:=Qaa (Qic (Z:=Z7) (H:=H7) (L:=L7) (Qac ab ad) R7 (by omega) ak aj aF);obtain ⟨q0,q1,q2,q3,q4⟩:=QbO R7;obtain ⟨f0,f1,f2,f3,f4⟩:=fA5 R7;refine onE 21 fun K hK=>?_;go_simp;refine hK.out _ _ (fun h=>absurd rfl h) ?_
 try simp only [sX]
 refine dnE ?_ _;clear R7 HC;go_wp2;refine bodyPost_ret (v:=.agg #[.int .u64 Z7,.slice ag n5 c5,.slice ap n6 c6,.int .i64 H7,.int .u64 L7]) (by simp [results,Tryz.results141,go_sem,q0,q1,q2,q3,q4]) rfl ⟨_,rfl,HF.out.2,by rw [HE.out.1,HE.out.2.1,HE.out.2.2];exact HF.out.1⟩
theorem Qg6 {w:World} {z h l z' h' l':Int} {pa na pb nb:Option Addr} {pn pc nn nc pm pd nm nd:Nat} {P N P' N':List Bn} (hz:U64 z) (hl0:U64 l) (hz':U64 z') (hl0':U64 l') (hp:P.length=pn) (hn:N.length=nn) (hp':P'.length=pm) (hn':N'.length=nm) (lp:pn<=1048576) (ln:nn<=1048576) (lp':pm<=1048576) (ln':nm<=1048576) (hP:QaA w pa P) (hN:QaA w na N) (hP':QaA w pb P') (hN':QaA w nb N') (kP:∀ x∈P,Qa8 x) (kN:∀ x∈N,Qa8 x) (kP':∀ x∈P',Qa8 x) (kN':∀ x∈N',Qa8 x) :
  Calls Tryz.prog 288 #[.agg #[.int .u64 z,.slice pa pn pc,.slice na nn nc,.int .i64 h,.int .u64 l],.agg #[.int .u64 z',.slice pb pm pd,.slice nb nm nd,.int .i64 h',.int .u64 l']] w fun e w'=>∃ v,e=.returned v/\Below w.heap.size w w'/\((QjA P N P' N'/\QeH w' w.heap.size v (Qar z z') (Qqd P P') (Qqd N N') (QaO h l h' l') (QaS l l'))∨(¬ QjA P N P' N'/\QeH w' w.heap.size v 0 [] [] 0 0)):=by
 have HP:=Qaa hP;have HN:=Qaa hN;have KP:=Qaa kP;have KN:=Qaa kN;have an:=Qaa hP';have ay:=Qaa hN';have au:=Qaa kP';have aC:=Qaa kN';clear hP hN kP kN hP' hN' kP' kN'
 cases hs:skB P N with
 | false=>
  have az:Hid (¬ QjA P N P' N'):=fun h=>by rw [h.1] at hs;cases hs
  go_enter Tryz.func288,Tryz.ntmps288;go_wp2_with fail;generalize hW0:((w.alloc (Obj.cells #[.int .u64 z,.slice pa pn pc,.slice na nn nc,.int .i64 h,.int .u64 l] 43)).alloc (Obj.cells #[.int .u64 z',.slice pb pm pd,.slice nb nm nd,.int .i64 h',.int .u64 l'] 43)).alloc (Obj.cells Qax 43)=W0;have T0:Below w.heap.size w W0:=by rw [<- hW0];exact (((Below.refl _ _).alloc (Nat.le_refl _) _).alloc (by simp) _).alloc (by simp;omega) _
  have K0:Qbb W0 w.heap.size z (.slice pa pn pc) (.slice na nn nc) h l:=by rw [<- hW0];exact QaB (QdD w _ _ _ _ _ _) (((Below.refl _ _).alloc (Nat.le_refl _) _).alloc (by simp) _)
  have J0:Qbb W0 (w.heap.size+1) z' (.slice pb pm pd) (.slice nb nm nd) h' l':=by
   rw [<- hW0];have:=QdD (w.alloc (Obj.cells #[.int .u64 z,.slice pa pn pc,.slice na nn nc,.int .i64 h,.int .u64 l] 43)) 43 z' h' l' (.slice pb pm pd) (.slice nb nm nd);exact QaB (by simpa using this) ((Below.refl _ _).alloc (Nat.le_refl _) _)
  have R0:W0.heap[w.heap.size+1+1]?=some (.cells Qax 43 (0,0)):=by rw [<- hW0];simpa using heap_alloc_new ((w.alloc (Obj.cells #[.int .u64 z,.slice pa pn pc,.slice na nn nc,.int .i64 h,.int .u64 l] 43)).alloc (Obj.cells #[.int .u64 z',.slice pb pm pd,.slice nb nm nd,.int .i64 h',.int .u64 l'] 43)) (Obj.cells Qax 43)
  have ah:W0.heap.size=w.heap.size+3:=by rw [<- hW0];simp
  clear hW0;have ac:=Qaa T0;clear T0;refine (Qa0 hp hn lp ln (Qae HP ac) (Qae HN ac) KP KN).mono ?_;rintro e w1 ⟨rfl,ab⟩;rw [hs];have ae:=Qaa (Qac ac ab);have K1:=QaB K0 ab;have J1:=QaB J0 ab;have R1:w1.heap[w.heap.size+1+1]?=some (.cells Qax 43 (0,0)):=by rw [ab.block _ (by omega)];exact R0
  clear ab K0 J0 R0;clear hs;have HF:=Qaa (Qln ae R1 (by omega));obtain ⟨q0,q1,q2,q3,q4⟩:=QbO R1;obtain ⟨f0,f1,f2,f3,f4⟩:=fA5 R1;clear R1;go_wp2;refine bodyPost_ret (v:=.agg #[.int .u64 0,.slice none 0 0,.slice none 0 0,.int .i64 0,.int .u64 0]) (by simp [results,Tryz.results288,go_sem,q0,q1,q2,q3,q4]) rfl ⟨_,rfl,HF.out.2,.inr ⟨az,HF.out.1⟩⟩
 | true=>
  have hr:=QbV hs;have aL:=hr.1.2;have aM:=hr.2.2;clear hr
  cases hs':skB P' N' with
  | false=>
   have az:Hid (¬ QjA P N P' N'):=fun h=>by rw [h.2] at hs'; cases hs'
   go_enter Tryz.func288,Tryz.ntmps288;go_wp2_with fail;generalize hW0:((w.alloc (Obj.cells #[.int .u64 z,.slice pa pn pc,.slice na nn nc,.int .i64 h,.int .u64 l] 43)).alloc (Obj.cells #[.int .u64 z',.slice pb pm pd,.slice nb nm nd,.int .i64 h',.int .u64 l'] 43)).alloc (Obj.cells Qax 43)=W0;have T0:Below w.heap.size w W0:=by rw [<- hW0];exact (((Below.refl _ _).alloc (Nat.le_refl _) _).alloc (by simp) _).alloc (by simp;omega) _
   have K0:Qbb W0 w.heap.size z (.slice pa pn pc) (.slice na nn nc) h l:=by rw [<- hW0];exact QaB (QdD w _ _ _ _ _ _) (((Below.refl _ _).alloc (Nat.le_refl _) _).alloc (by simp) _)
   have J0:Qbb W0 (w.heap.size+1) z' (.slice pb pm pd) (.slice nb nm nd) h' l':=by
    rw [<- hW0];have:=QdD (w.alloc (Obj.cells #[.int .u64 z,.slice pa pn pc,.slice na nn nc,.int .i64 h,.int .u64 l] 43)) 43 z' h' l' (.slice pb pm pd) (.slice nb nm nd);exact QaB (by simpa using this) ((Below.refl _ _).alloc (Nat.le_refl _) _)
   have R0:W0.heap[w.heap.size+1+1]?=some (.cells Qax 43 (0,0)):=by rw [<- hW0];simpa using heap_alloc_new ((w.alloc (Obj.cells #[.int .u64 z,.slice pa pn pc,.slice na nn nc,.int .i64 h,.int .u64 l] 43)).alloc (Obj.cells #[.int .u64 z',.slice pb pm pd,.slice nb nm nd,.int .i64 h',.int .u64 l'] 43)) (Obj.cells Qax 43)
   have ah:W0.heap.size=w.heap.size+3:=by rw [<- hW0];simp
   clear hW0;have ac:=Qaa T0;clear T0;refine (Qa0 hp hn lp ln (Qae HP ac) (Qae HN ac) KP KN).mono ?_;rintro e w1 ⟨rfl,ab⟩;rw [hs];have ae:=Qaa (Qac ac ab);have K1:=QaB K0 ab;have J1:=QaB J0 ab;have R1:w1.heap[w.heap.size+1+1]?=some (.cells Qax 43 (0,0)):=by rw [ab.block _ (by omega)];exact R0
   clear ab K0 J0 R0;go_wp2_with fail;refine (Qa0 hp' hn' lp' ln' (Qae an ae) (Qae ay ae) au aC).mono ?_;rintro e w2 ⟨rfl,ad⟩;rw [hs'];have am:=Qaa (Qac ae ad);have K2:=QaB K1 ad;have J2:=QaB J1 ad;have av:w.heap.size+1+1<w1.heap.size:=(ZZc.1 R1).1;have R2:w2.heap[w.heap.size+1+1]?=some (.cells Qax 43 (0,0)):=by rw [ad.block _ av];exact R1
   clear ad K1 J1 R1;clear hs hs';have HF:=Qaa (Qln am R2 (by omega));obtain ⟨q0,q1,q2,q3,q4⟩:=QbO R2;obtain ⟨f0,f1,f2,f3,f4⟩:=fA5 R2;clear R2;go_wp2;refine bodyPost_ret (v:=.agg #[.int .u64 0,.slice none 0 0,.slice none 0 0,.int .i64 0,.int .u64 0]) (by simp [results,Tryz.results288,go_sem,q0,q1,q2,q3,q4]) rfl ⟨_,rfl,HF.out.2,.inr ⟨az,HF.out.1⟩⟩
  | true=>
   have hr:=QbV hs';have aJ:=hr.1.2;have aH:=hr.2.2;clear hr;have ax:Hid (QjA P N P' N'):=(⟨hs,hs'⟩:QjA P N P' N');go_enter Tryz.func288,Tryz.ntmps288;go_wp2_with fail;generalize hW0:((w.alloc (Obj.cells #[.int .u64 z,.slice pa pn pc,.slice na nn nc,.int .i64 h,.int .u64 l] 43)).alloc (Obj.cells #[.int .u64 z',.slice pb pm pd,.slice nb nm nd,.int .i64 h',.int .u64 l'] 43)).alloc (Obj.cells Qax 43)=W0;have T0:Below w.heap.size w W0:=by rw [<- hW0];exact (((Below.refl _ _).alloc (Nat.le_refl _) _).alloc (by simp) _).alloc (by simp;omega) _
   have K0:Qbb W0 w.heap.size z (.slice pa pn pc) (.slice na nn nc) h l:=by rw [<- hW0];exact QaB (QdD w _ _ _ _ _ _) (((Below.refl _ _).alloc (Nat.le_refl _) _).alloc (by simp) _)
   have J0:Qbb W0 (w.heap.size+1) z' (.slice pb pm pd) (.slice nb nm nd) h' l':=by
    rw [<- hW0];have:=QdD (w.alloc (Obj.cells #[.int .u64 z,.slice pa pn pc,.slice na nn nc,.int .i64 h,.int .u64 l] 43)) 43 z' h' l' (.slice pb pm pd) (.slice nb nm nd);exact QaB (by simpa using this) ((Below.refl _ _).alloc (Nat.le_refl _) _)
   have R0:W0.heap[w.heap.size+1+1]?=some (.cells Qax 43 (0,0)):=by rw [<- hW0];simpa using heap_alloc_new ((w.alloc (Obj.cells #[.int .u64 z,.slice pa pn pc,.slice na nn nc,.int .i64 h,.int .u64 l] 43)).alloc (Obj.cells #[.int .u64 z',.slice pb pm pd,.slice nb nm nd,.int .i64 h',.int .u64 l'] 43)) (Obj.cells Qax 43)
   have ah:W0.heap.size=w.heap.size+3:=by rw [<- hW0];simp
   clear hW0;have ac:=Qaa T0;clear T0;refine (Qa0 hp hn lp ln (Qae HP ac) (Qae HN ac) KP KN).mono ?_;rintro e w1 ⟨rfl,ab⟩;rw [hs];have ae:=Qaa (Qac ac ab);have K1:=QaB K0 ab;have J1:=QaB J0 ab;have R1:w1.heap[w.heap.size+1+1]?=some (.cells Qax 43 (0,0)):=by rw [ab.block _ (by omega)];exact R0
   clear ab K0 J0 R0;go_wp2_with fail;refine (Qa0 hp' hn' lp' ln' (Qae an ae) (Qae ay ae) au aC).mono ?_;rintro e w2 ⟨rfl,ad⟩;rw [hs'];have am:=Qaa (Qac ae ad);have K2:=QaB K1 ad;have J2:=QaB J1 ad;have av:w.heap.size+1+1<w1.heap.size:=(ZZc.1 R1).1;have R2:w2.heap[w.heap.size+1+1]?=some (.cells Qax 43 (0,0)):=by rw [ad.block _ av];exact R1
   clear ad K1 J1 R1;have aN:w.heap.size+1+1<w2.heap.size:=(ZZc.1 R2).1;have hC:∀ W,Below w2.heap.size w2 W->Qbb W w.heap.size z (.slice pa pn pc) (.slice na nn nc) h l/\Qbb W (w.heap.size+1) z' (.slice pb pm pd) (.slice nb nm nd) h' l'/\W.heap[w.heap.size+1+1]?=some (.cells Qax 43 (0,0)):=fun W hW=>⟨QaB K2 hW,QaB J2 hW,by rw [hW.block _ aN];exact R2⟩;have HC:=Qaa hC;have af:=Qaa am;clear hC K2 J2 R2 hs hs';go_wp2_with fail;have aa:(fun W=>Below w2.heap.size w2 W) w2.drew:=(ZZb _ _).drew;refine Qaj (fun W=>Below w2.heap.size w2 W) 21 (by kernel_rfl) ?_;refine tkL 0 (.pointer (some ⟨w.heap.size,0,none⟩)) aa (fun W hW=>?_) ?_
   ·obtain ⟨⟨x0,x1,x2,x3,x4⟩,⟨y0,y1,y2,y3,y4⟩,_⟩:=HC.out W hW
    go_simp
   refine tkL 1 (.int .u64 z) aa (fun W hW=>?_) ?_
   ·obtain ⟨⟨x0,x1,x2,x3,x4⟩,⟨y0,y1,y2,y3,y4⟩,_⟩:=HC.out W hW
    go_simp
   refine tkL 2 (.pointer (some ⟨w.heap.size+1,0,none⟩)) aa (fun W hW=>?_) ?_
   ·obtain ⟨⟨x0,x1,x2,x3,x4⟩,⟨y0,y1,y2,y3,y4⟩,_⟩:=HC.out W hW
    go_simp
   simp only [sX];refine tkL 3 (.int .u64 z') aa (fun W hW=>?_) ?_
   ·obtain ⟨⟨x0,x1,x2,x3,x4⟩,⟨y0,y1,y2,y3,y4⟩,_⟩:=HC.out W hW
    go_simp
   refine tkL 5 (.pointer (some ⟨w.heap.size,1,none⟩)) aa (fun W hW=>?_) ?_
   ·obtain ⟨⟨x0,x1,x2,x3,x4⟩,⟨y0,y1,y2,y3,y4⟩,_⟩:=HC.out W hW
    go_simp
   refine tkL 6 (.slice pa pn pc) aa (fun W hW=>?_) ?_
   ·obtain ⟨⟨x0,x1,x2,x3,x4⟩,⟨y0,y1,y2,y3,y4⟩,_⟩:=HC.out W hW
    go_simp
   simp only [sX];refine tkL 7 (.pointer (some ⟨w.heap.size+1,1,none⟩)) aa (fun W hW=>?_) ?_
   ·obtain ⟨⟨x0,x1,x2,x3,x4⟩,⟨y0,y1,y2,y3,y4⟩,_⟩:=HC.out W hW
    go_simp
   refine tkL 8 (.slice pb pm pd) aa (fun W hW=>?_) ?_
   ·obtain ⟨⟨x0,x1,x2,x3,x4⟩,⟨y0,y1,y2,y3,y4⟩,_⟩:=HC.out W hW
    go_simp
   refine tkL 10 (.pointer (some ⟨w.heap.size,2,none⟩)) aa (fun W hW=>?_) ?_
   ·obtain ⟨⟨x0,x1,x2,x3,x4⟩,⟨y0,y1,y2,y3,y4⟩,_⟩:=HC.out W hW
    go_simp
   simp only [sX];refine tkL 11 (.slice na nn nc) aa (fun W hW=>?_) ?_
   ·obtain ⟨⟨x0,x1,x2,x3,x4⟩,⟨y0,y1,y2,y3,y4⟩,_⟩:=HC.out W hW
    go_simp
   refine tkL 12 (.pointer (some ⟨w.heap.size+1,2,none⟩)) aa (fun W hW=>?_) ?_
   ·obtain ⟨⟨x0,x1,x2,x3,x4⟩,⟨y0,y1,y2,y3,y4⟩,_⟩:=HC.out W hW
    go_simp
   refine tkL 13 (.slice nb nm nd) aa (fun W hW=>?_) ?_
   ·obtain ⟨⟨x0,x1,x2,x3,x4⟩,⟨y0,y1,y2,y3,y4⟩,_⟩:=HC.out W hW
    go_simp
   simp only [sX];refine tkL 15 (.pointer (some ⟨w.heap.size,3,none⟩)) aa (fun W hW=>?_) ?_
   ·obtain ⟨⟨x0,x1,x2,x3,x4⟩,⟨y0,y1,y2,y3,y4⟩,_⟩:=HC.out W hW
    go_simp
   refine tkL 16 (.agg #[.int .i64 h,.int .u64 l]) aa (fun W hW=>?_) ?_
   ·obtain ⟨⟨x0,x1,x2,x3,x4⟩,⟨y0,y1,y2,y3,y4⟩,_⟩:=HC.out W hW
    go_simp
   refine tkL 17 (.pointer (some ⟨w.heap.size+1,3,none⟩)) aa (fun W hW=>?_) ?_
   ·obtain ⟨⟨x0,x1,x2,x3,x4⟩,⟨y0,y1,y2,y3,y4⟩,_⟩:=HC.out W hW
    go_simp
   simp only [sX];refine tkL 18 (.agg #[.int .i64 h',.int .u64 l']) aa (fun W hW=>?_) ?_
   ·obtain ⟨⟨x0,x1,x2,x3,x4⟩,⟨y0,y1,y2,y3,y4⟩,_⟩:=HC.out W hW
    go_simp
   simp only [sX];refine onE 4 fun K hK=>?_;go_simp;refine (QaJ _ _ hz hz' _).mono ?_;rintro e w4 ⟨rfl,rfl⟩;dsimp only;refine gK hK aa ?_
   try simp only [sX]
   refine onE 9 fun K hK=>?_;go_simp;refine (QdL _ _ _ _ hp hp' (by omega) (by omega) (Qae HP (Qac af aa)) (Qae an (Qac af aa)) KP au).mono ?_;rintro e w5 ⟨v5,n5,rfl,aB,aG⟩;dsimp only;have ag:=Qaa ((aa:Below w2.heap.size w2 w2.drew).trans aG);have aF:=Qaa (aB.le (B':=w.heap.size) af.out.size);obtain ⟨al,c5,rfl⟩:=aB.any;clear aB aG;refine gK hK ag.out ?_
   try simp only [sX]
   refine onE 14 fun K hK=>?_;go_simp;refine (QdL _ _ _ _ hn hn' (by omega) (by omega) (Qae HN (Qac af ag)) (Qae ay (Qac af ag)) KN aC).mono ?_;rintro e w6 ⟨v6,n6,rfl,aj,ao⟩;dsimp only;have aI:=Qaa (Qac ag ao);have aw:=Qaa (aF.out.past ao);have aO:Hid (QdP (.slice al n5 c5) v6):=(fun k e1 e2=>by have:=(aF.out.lt k e1).2;have:=(aj.lt k e2).1;omega:QdP (.slice al n5 c5) v6);have aK:=Qaa (aj.le (B':=w.heap.size) (by have:=af.out.size;have:=ag.out.size;omega));obtain ⟨aE,c6,rfl⟩:=aj.any;clear aj ao;refine gK hK aI.out ?_
   try simp only [sX]
   refine onE 19 fun K hK=>?_;go_simp;refine (Qb1 _ _ _ _ _ hl0 hl0').mono ?_;rintro e w7 ⟨rfl,ak⟩;dsimp only;have ai:=Qaa (Qac aI ak);have ar:=Qaa (aw.out.past ak);have aq:=Qaa (aK.out.past ak);clear ak;refine gK hK ai.out ?_
   try simp only [sX]
   obtain ⟨Z7,aD⟩:∃ X,Qar z z'=X:=⟨_,rfl⟩;obtain ⟨H7,ap⟩:∃ X,QaO h l h' l'=X:=⟨_,rfl⟩;obtain ⟨L7,aA⟩:∃ X,QaS l l'=X:=⟨_,rfl⟩;rw [aD,ap,aA];have HE:=Qaa (And.intro aD (And.intro ap aA));clear aD ap aA;refine tkS 20 (.agg #[.int .u64 Z7,.slice al n5 c5,.slice aE n6 c6,.int .i64 H7,.int .u64 L7]) ai ?_;simp only [sX];have R7:=(HC.out _ ai).2.2;have HF:=Qaa (Qic (Z:=Z7) (H:=H7) (L:=L7) (Qac af ai) R7 (by omega) ar aq aO);obtain ⟨q0,q1,q2,q3,q4⟩:=QbO R7;obtain ⟨f0,f1,f2,f3,f4⟩:=fA5 R7;refine onE 21 fun K hK=>?_;go_simp;refine hK.out _ _ (fun h=>absurd rfl h) ?_
   try simp only [sX]
   refine dnE ?_ _;clear R7 HC;go_wp2;refine bodyPost_ret (v:=.agg #[.int .u64 Z7,.slice al n5 c5,.slice aE n6 c6,.int .i64 H7,.int .u64 L7]) (by simp [results,Tryz.results288,go_sem,q0,q1,q2,q3,q4]) rfl ⟨_,rfl,HF.out.2,.inl ⟨ax,by rw [HE.out.1,HE.out.2.1,HE.out.2.2];exact HF.out.1⟩⟩
end Go.Proofs.YtandnmpllheniaaGreatDoor
