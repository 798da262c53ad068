/-
 Contracts of SketchSame, of the program and of its model.
-/
import Derived.Test.YthchmdmncmioiaaGreatDoorZJB
namespace Go.Proofs.YthchmdmncmioiaaGreatDoor
set_option maxHeartbeats 4000000
set_option linter.unusedVariables false
set_option linter.unusedSimpArgs false
open Go.ChangeShapes Go.WideShapes Go.ChangeAt Go.RowKit Go.PlainAid Go.Lib
set_option maxRecDepth 10000
theorem QhU (a p b q:Int) (w:World):(binOp .eql 40 (.agg #[.int .i64 a,.int .u64 p]) (.agg #[.int .i64 b,.int .u64 q])).run Tryz.prog w=.ok (.bool (a == b && p == q)) w:=by
 have hS:Tryz.prog.underlying 40=some (.struct (Tryz.prog.fieldsOf 40)):=by kernel_rfl
 have hp:Tryz.prog.stoodInHeld 40=false:=by kernel_rfl
 rw [run_eql_struct,show (10000:Nat)=9999+1 from rfl,run_equalIn_agg w 9999 40 _ _ hS hp];simp only [Program.fieldsOf,Tryz.underlying40];go_simp;by_cases h1:a=b <;> by_cases h2:p=q <;> simp [h1,h2]
theorem Qmo (a p b q:Int) (w:World):(binOp .neq 199 (.agg #[.int .i64 a,.int .u64 p]) (.agg #[.int .i64 b,.int .u64 q])).run Tryz.prog w=.ok (.bool (!(a == b && p == q))) w:=by
 have hS:Tryz.prog.underlying 199=some (.struct (Tryz.prog.fieldsOf 199)):=by kernel_rfl
 have hp:Tryz.prog.stoodInHeld 199=false:=by kernel_rfl
 rw [run_neq_struct,show (10000:Nat)=9999+1 from rfl,run_equalIn_agg w 9999 199 _ _ hS hp];simp only [Program.fieldsOf,Tryz.underlying199];go_simp;by_cases h1:a=b <;> by_cases h2:p=q <;> simp [h1,h2]
theorem Qap {a b:Bool} (h:a=b):Ending.returned (.bool a)=.returned (.bool b):=by rw [h]
theorem QiW {L M:List Bn} {k:Nat} {a u a' u':Int} (h:L[k]?=some (a,u)) (g:M[k]?=some (a',u')):decide (L.drop k=M.drop k)=((a == a' && u == u') && decide (L.drop (k+1)=M.drop (k+1))):=by
 have hk:=(ZZd.1 h).1;have gk:=(ZZd.1 g).1;rw [List.drop_eq_getElem_cons hk,(List.getElem?_eq_some_iff.1 h).2,List.drop_eq_getElem_cons gk,(List.getElem?_eq_some_iff.1 g).2];by_cases h1:a=a' <;> by_cases h2:u=u' <;> simp [h1,h2]
def Qa5 (z h l:Int) (P N:List Bn) (z' h' l':Int) (P' N':List Bn):Bool:=(z == z') && (h == h' && l == l') && decide (P=P') && decide (N=N')
theorem Qb7 {w:World} {ao bo:Option Addr} {L M:List Bn} (c c' n m:Nat) (hn:L.length=n) (hm:M.length=m) (ln:n<=1048576) (lm:m<=1048576) (hA:Qay w ao L) (hB:Qay w bo M) :
  Calls Tryz.prog 139 #[.slice ao n c,.slice bo m c'] w fun e w'=>e=.returned (.bool (decide (L=M)))/\Below w.heap.size w w':=by
 have HN:=Qaa hn;have HM:=Qaa hm;have HA:=Qaa hA;have HB':=Qaa hB;clear hn hm hA hB;by_cases hnm:n=m
 ·subst hnm
  go_enter Tryz.func139,Tryz.ntmps139;go_wp2
  go_loopw [5] (fun i wr=>Below w.heap.size w wr/\∃ k:Nat,k<=n/\i=.int .i64 k/\Hid (decide (L=M)=decide (L.drop k=M.drop k))) (fun i wr=>n - (Go.RowKit.intOf i).toNat)
  case atStart=>exact ⟨ZZb _ _,0,ZZj _,rfl,(rfl:decide (L=M)=decide (L.drop 0=M.drop 0))⟩
  case round=>
   obtain ⟨hbel,k,hk,rfl,HR⟩:=hrel;have HB:=Qaa hbel;by_cases hkn:k<n
   ·obtain ⟨⟨a,u⟩,hRk⟩:∃ a,L[k]?=some a:=⟨L[k]'(by have:=HN.out;omega),ZZe _⟩
    obtain ⟨⟨a',u'⟩,hSk⟩:∃ a,M[k]?=some a:=⟨M[k]'(by have:=HM.out;omega),ZZe _⟩;obtain ⟨b,off,rfl,hcell⟩:=HA.out (by have:=HN.out;omega);obtain ⟨b',off',rfl,hcell'⟩:=HB'.out (by have:=HM.out;omega);have hc0:=Qab hbel (hcell k _ hRk).1;have hc1:=Qab hbel (hcell k _ hRk).2;have hd0:=Qab hbel (hcell' k _ hSk).1;have hd1:=Qab hbel (hcell' k _ hSk).2;have HD:=Qaa (QiW hRk hSk);have hq:=Qmo a u a' u';clear hbel hRk hSk hcell hcell';by_cases he:a=a'/\u=u'
    ·have hb:(a == a' && u == u')=true:=by simp [he.1,he.2]
     have HE:Hid (decide (L=M)=decide (L.drop (k+1)=M.drop (k+1))):=by
      refine (?_:decide (L=M)=decide (L.drop (k+1)=M.drop (k+1)));rw [HR.out,HD.out,hb,Bool.true_and]
     rw [hb] at hq;clear he hb;go_wp2
     go_quiet (fail)
     go_wp2;go_roundw
     case rel=>exact ⟨Qah HB.out _,k+1,by omega,by go_num,HE⟩
     case measure=>simp [Go.RowKit.intOf];omega
    ·have hb:(a == a' && u == u')=false:=by
      rw [Bool.eq_false_iff];intro hh;simp at hh;exact he hh
     have HE:Hid (false=decide (L=M)):=by
      refine (?_:false=decide (L=M));rw [HR.out,HD.out,hb,Bool.false_and]
     rw [hb] at hq;clear he hb;go_wp2
     go_quiet (fail)
     go_wp2;go_ret;exact ⟨Qap HE.out,Qah HB.out _⟩
   ·have HE:Hid (true=decide (L=M)):=by
     refine (?_:true=decide (L=M));rw [HR.out,List.drop_eq_nil_of_le (by have:=HN.out;omega),List.drop_eq_nil_of_le (by have:=HM.out;omega)];rfl
    clear hbel;go_wp2;go_ret;exact ⟨Qap HE.out,HB.out⟩
 ·have hni:((n:Int) == (m:Int))=false:=ZZf.2 (by omega)
  have HE:Hid (false=decide (L=M)):=by
   refine (?_:false=decide (L=M));rw [eq_comm,decide_eq_false_iff_not];intro e;have:=HN.out;have:=HM.out;rw [e] at *; omega
  go_enter Tryz.func139,Tryz.ntmps139;go_wp2;go_ret;exact ⟨Qap HE.out,ZZb _ _⟩
theorem QcG {w:World} {ao bo:Option Addr} {L M:List Bn} (c c' n m:Nat) (hn:L.length=n) (hm:M.length=m) (ln:n<=1048576) (lm:m<=1048576) (hA:Qay w ao L) (hB:Qay w bo M) :
  Calls Tryz.prog 183 #[.slice ao n c,.slice bo m c'] w fun e w'=>e=.returned (.bool (decide (L=M)))/\Below w.heap.size w w':=by
 have HN:=Qaa hn;have HM:=Qaa hm;have HA:=Qaa hA;have HB':=Qaa hB;clear hn hm hA hB;by_cases hnm:n=m
 ·subst hnm
  go_enter Tryz.func183,Tryz.ntmps183;go_wp2
  go_loopw [13] (fun i wr=>Below w.heap.size w wr/\∃ k:Nat,k<=n/\i=.int .i64 k/\Hid (decide (L=M)=decide (L.drop k=M.drop k))) (fun i wr=>n - (Go.RowKit.intOf i).toNat)
  case atStart=>exact ⟨ZZb _ _,0,ZZj _,rfl,(rfl:decide (L=M)=decide (L.drop 0=M.drop 0))⟩
  case round=>
   obtain ⟨hbel,k,hk,rfl,HR⟩:=hrel;have HB:=Qaa hbel;by_cases hkn:k<n
   ·obtain ⟨⟨a,u⟩,hRk⟩:∃ a,L[k]?=some a:=⟨L[k]'(by have:=HN.out;omega),ZZe _⟩
    obtain ⟨⟨a',u'⟩,hSk⟩:∃ a,M[k]?=some a:=⟨M[k]'(by have:=HM.out;omega),ZZe _⟩;obtain ⟨b,off,rfl,hcell⟩:=HA.out (by have:=HN.out;omega);obtain ⟨b',off',rfl,hcell'⟩:=HB'.out (by have:=HM.out;omega);have hc0:=Qab hbel (hcell k _ hRk).1;have hc1:=Qab hbel (hcell k _ hRk).2;have hd0:=Qab hbel (hcell' k _ hSk).1;have hd1:=Qab hbel (hcell' k _ hSk).2;have HD:=Qaa (QiW hRk hSk);have hq:=Qmo a u a' u';clear hbel hRk hSk hcell hcell';by_cases he:a=a'/\u=u'
    ·have hb:(a == a' && u == u')=true:=by simp [he.1,he.2]
     have HE:Hid (decide (L=M)=decide (L.drop (k+1)=M.drop (k+1))):=by
      refine (?_:decide (L=M)=decide (L.drop (k+1)=M.drop (k+1)));rw [HR.out,HD.out,hb,Bool.true_and]
     rw [hb] at hq;clear he hb;go_wp2
     go_quiet (fail)
     go_wp2;go_roundw
     case rel=>exact ⟨Qah HB.out _,k+1,by omega,by go_num,HE⟩
     case measure=>simp [Go.RowKit.intOf];omega
    ·have hb:(a == a' && u == u')=false:=by
      rw [Bool.eq_false_iff];intro hh;simp at hh;exact he hh
     have HE:Hid (false=decide (L=M)):=by
      refine (?_:false=decide (L=M));rw [HR.out,HD.out,hb,Bool.false_and]
     rw [hb] at hq;clear he hb;go_wp2
     go_quiet (fail)
     go_wp2;go_ret;exact ⟨Qap HE.out,Qah HB.out _⟩
   ·have HE:Hid (true=decide (L=M)):=by
     refine (?_:true=decide (L=M));rw [HR.out,List.drop_eq_nil_of_le (by have:=HN.out;omega),List.drop_eq_nil_of_le (by have:=HM.out;omega)];rfl
    clear hbel;go_wp2;go_ret;exact ⟨Qap HE.out,HB.out⟩
 ·have hni:((n:Int) == (m:Int))=false:=ZZf.2 (by omega)
  have HE:Hid (false=decide (L=M)):=by
   refine (?_:false=decide (L=M));rw [eq_comm,decide_eq_false_iff_not];intro e;have:=HN.out;have:=HM.out;rw [e] at *; omega
  go_enter Tryz.func183,Tryz.ntmps183;go_wp2;go_ret;exact ⟨Qap HE.out,ZZb _ _⟩
theorem QdR {w:World} {z h l z' h' l':Int} {pa na pb nb:Option Addr} {pn pc nn nc pm pd nm nd:Nat} {P N P' N':List Bn} (hp:P.length=pn) (hn:N.length=nn) (hp':P'.length=pm) (hn':N'.length=nm) (lp:pn<=1048576) (ln:nn<=1048576) (lp':pm<=1048576) (ln':nm<=1048576) (hP:Qay w pa P) (hN:Qay w na N) (hP2:Qay w pb P') (hN2:Qay w nb N') :
  Calls Tryz.prog 97 #[.agg #[.int .u64 z,.slice pa pn pc,.slice na nn nc,.int .i64 h,.int .u64 l],.agg #[.int .u64 z',.slice pb pm pd,.slice nb nm nd,.int .i64 h',.int .u64 l']] w fun e w'=>e=.returned (.bool (Qa5 z h l P N z' h' l' P' N'))/\Below w.heap.size w w':=by
 have HP:=Qaa hP;have HN:=Qaa hN;have HP2:=Qaa hP2;have HN2:=Qaa hN2;clear hP hN hP2 hN2;have hW:∀ o1 o2,Below w.heap.size w ((w.alloc o1).alloc o2):=fun o1 o2=>((Below.refl _ _).alloc (Nat.le_refl _) _).alloc (by simp) _;have HW:=Qaa hW;clear hW;have hq:=QhU h l h' l';by_cases h1:z=z'
 ·subst h1
  cases hb:(h == h' && l == l') with
  | true=>
   rw [hb] at hq;by_cases h3:P=P'
   ·have d3:decide (P=P')=true:=ZZh h3
    have HE:Hid (decide (N=N')=Qa5 z h l P N z h' l' P' N'):=by
     refine (?_:decide (N=N')=Qa5 z h l P N z h' l' P' N');simp only [Qa5,hb,d3,beq_self_eq_true,Bool.true_and]
    clear hb h3;go_enter Tryz.func97,Tryz.ntmps97;go_wp2_with fail;refine (Qb7 _ _ _ _ hp hp' lp lp' (Qae HP.out (HW.out _ _)) (Qae HP2.out (HW.out _ _))).mono ?_;rintro e w1 ⟨rfl,hb1⟩;rw [d3];have hT1:=(HW.out _ _).trans (hb1.mono (by simp <;> omega));obtain ⟨hc1,_⟩:=QhK hb1;simp at hc1;have HT1:=Qaa hT1;clear hb1 hT1;go_wp2_with fail;refine (Qb7 _ _ _ _ hn hn' ln ln' (Qae HN.out HT1.out) (Qae HN2.out HT1.out)).mono ?_;rintro e w2 ⟨rfl,hb2⟩;have HT2:=Qaa (Qad HT1.out hb2);clear hb2;go_wp2;go_ret;exact ⟨Qap HE.out,HT2.out⟩
   ·have d3:decide (P=P')=false:=ZZg h3
    have HE:Hid (false=Qa5 z h l P N z h' l' P' N'):=by
     refine (?_:false=Qa5 z h l P N z h' l' P' N');simp only [Qa5,d3,Bool.and_false,Bool.false_and]
    clear hb h3;go_enter Tryz.func97,Tryz.ntmps97;go_wp2_with fail;refine (Qb7 _ _ _ _ hp hp' lp lp' (Qae HP.out (HW.out _ _)) (Qae HP2.out (HW.out _ _))).mono ?_;rintro e w1 ⟨rfl,hb1⟩;rw [d3];have HT1:=Qaa ((HW.out _ _).trans (hb1.mono (by simp <;> omega)));clear hb1;go_wp2;go_ret;exact ⟨Qap HE.out,HT1.out⟩
  | false=>
   rw [hb] at hq
   have HE:Hid (false=Qa5 z h l P N z h' l' P' N'):=by
    refine (?_:false=Qa5 z h l P N z h' l' P' N');simp only [Qa5,hb,Bool.and_false,Bool.false_and]
   clear hb;go_enter Tryz.func97,Tryz.ntmps97;go_wp2;go_ret;exact ⟨Qap HE.out,HW.out _ _⟩
 ·have d1:(z == z')=false:=ZZf.2 h1
  have HE:Hid (false=Qa5 z h l P N z' h' l' P' N'):=by
   refine (?_:false=Qa5 z h l P N z' h' l' P' N');simp only [Qa5,d1,Bool.false_and]
  clear h1;go_enter Tryz.func97,Tryz.ntmps97;go_wp2;go_ret;exact ⟨Qap HE.out,HW.out _ _⟩
theorem QgK {w:World} {z h l z' h' l':Int} {pa na pb nb:Option Addr} {pn pc nn nc pm pd nm nd:Nat} {P N P' N':List Bn} (hp:P.length=pn) (hn:N.length=nn) (hp':P'.length=pm) (hn':N'.length=nm) (lp:pn<=1048576) (ln:nn<=1048576) (lp':pm<=1048576) (ln':nm<=1048576) (hP:Qay w pa P) (hN:Qay w na N) (hP2:Qay w pb P') (hN2:Qay w nb N') :
  Calls Tryz.prog 143 #[.agg #[.int .u64 z,.slice pa pn pc,.slice na nn nc,.int .i64 h,.int .u64 l],.agg #[.int .u64 z',.slice pb pm pd,.slice nb nm nd,.int .i64 h',.int .u64 l']] w fun e w'=>e=.returned (.bool (Qa5 z h l P N z' h' l' P' N'))/\Below w.heap.size w w':=by
 have HP:=Qaa hP;have HN:=Qaa hN;have HP2:=Qaa hP2;have HN2:=Qaa hN2;clear hP hN hP2 hN2;have hW:∀ o1 o2,Below w.heap.size w ((w.alloc o1).alloc o2):=fun o1 o2=>((Below.refl _ _).alloc (Nat.le_refl _) _).alloc (by simp) _;have HW:=Qaa hW;clear hW;have hq:=QhU h l h' l';by_cases h1:z=z'
 ·subst h1
  cases hb:(h == h' && l == l') with
  | true=>
   rw [hb] at hq;by_cases h3:P=P'
   ·have d3:decide (P=P')=true:=ZZh h3
    have HE:Hid (decide (N=N')=Qa5 z h l P N z h' l' P' N'):=by
     refine (?_:decide (N=N')=Qa5 z h l P N z h' l' P' N');simp only [Qa5,hb,d3,beq_self_eq_true,Bool.true_and]
    clear hb h3;go_enter Tryz.func143,Tryz.ntmps143;go_wp2_with fail;refine (QcG _ _ _ _ hp hp' lp lp' (Qae HP.out (HW.out _ _)) (Qae HP2.out (HW.out _ _))).mono ?_;rintro e w1 ⟨rfl,hb1⟩;rw [d3];have hT1:=(HW.out _ _).trans (hb1.mono (by simp <;> omega));obtain ⟨hc1,_⟩:=QhK hb1;simp at hc1;have HT1:=Qaa hT1;clear hb1 hT1;go_wp2_with fail;refine (QcG _ _ _ _ hn hn' ln ln' (Qae HN.out HT1.out) (Qae HN2.out HT1.out)).mono ?_;rintro e w2 ⟨rfl,hb2⟩;have HT2:=Qaa (Qad HT1.out hb2);clear hb2;go_wp2;go_ret;exact ⟨Qap HE.out,HT2.out⟩
   ·have d3:decide (P=P')=false:=ZZg h3
    have HE:Hid (false=Qa5 z h l P N z h' l' P' N'):=by
     refine (?_:false=Qa5 z h l P N z h' l' P' N');simp only [Qa5,d3,Bool.and_false,Bool.false_and]
    clear hb h3;go_enter Tryz.func143,Tryz.ntmps143;go_wp2_with fail;refine (QcG _ _ _ _ hp hp' lp lp' (Qae HP.out (HW.out _ _)) (Qae HP2.out (HW.out _ _))).mono ?_;rintro e w1 ⟨rfl,hb1⟩;rw [d3];have HT1:=Qaa ((HW.out _ _).trans (hb1.mono (by simp <;> omega)));clear hb1;go_wp2;go_ret;exact ⟨Qap HE.out,HT1.out⟩
  | false=>
   rw [hb] at hq
   have HE:Hid (false=Qa5 z h l P N z h' l' P' N'):=by
    refine (?_:false=Qa5 z h l P N z h' l' P' N');simp only [Qa5,hb,Bool.and_false,Bool.false_and]
   clear hb;go_enter Tryz.func143,Tryz.ntmps143;go_wp2;go_ret;exact ⟨Qap HE.out,HW.out _ _⟩
 ·have d1:(z == z')=false:=ZZf.2 h1
  have HE:Hid (false=Qa5 z h l P N z' h' l' P' N'):=by
   refine (?_:false=Qa5 z h l P N z' h' l' P' N');simp only [Qa5,d1,Bool.false_and]
  clear h1;go_enter Tryz.func143,Tryz.ntmps143;go_wp2;go_ret;exact ⟨Qap HE.out,HW.out _ _⟩
theorem QfM {L M:List Int} {n m:Nat} (hn:L.length=n) (hm:M.length=m) (h:n≠m):false=decide (L=M):=by
 rw [eq_comm,decide_eq_false_iff_not];intro e;rw [e] at hn;omega
theorem Qeq {L M:List Int} {k:Nat} {a a':Int} {B:Bool} (h:L[k]?=some a) (g:M[k]?=some a') (e:B=decide (L.drop k=M.drop k)):(a=a'->B=decide (L.drop (k+1)=M.drop (k+1)))/\(a≠a'->false=B):=by
 rw [Qlw h g] at e;exact ⟨fun q=>by rw [e,q,beq_self_eq_true,Bool.true_and],fun q=>by rw [e,beq_eq_false_iff_ne.2 q];rfl⟩
theorem QeF {L M:List Int} {n k:Nat} {B:Bool} (hn:L.length=n) (hm:M.length=n) (hk:¬ k<n) (e:B=decide (L.drop k=M.drop k)):true=B:=by
 rw [e,List.drop_eq_nil_of_le (by omega),List.drop_eq_nil_of_le (by omega)];rfl
def Qbg (E R E' R':List Int):Bool:=decide (E=E') && decide (R=R')
theorem QdU {w:World} {ao bo:Option Addr} {L M:List Int} (c c' n m:Nat) (hn:L.length=n) (hm:M.length=m) (ln:n<=1048576) (lm:m<=1048576) (hA:Qas .u64 w ao L) (hB:Qas .u64 w bo M) :
  Calls Tryz.prog 184 #[.slice ao n c,.slice bo m c'] w fun e w'=>e=.returned (.bool (decide (L=M)))/\Below w.heap.size w w':=by
 have HN:=Qaa hn;have HM:=Qaa hm;have HA:=Qaa hA;have HB':=Qaa hB;clear hn hm hA hB;by_cases hnm:n=m
 ·subst hnm
  go_enter Tryz.func184,Tryz.ntmps184;go_wp2
  go_loopw [13] (fun i wr=>Below w.heap.size w wr/\∃ k:Nat,k<=n/\i=.int .i64 k/\Hid (decide (L=M)=decide (L.drop k=M.drop k))) (fun i wr=>n - (Go.RowKit.intOf i).toNat)
  case atStart=>exact ⟨ZZb _ _,0,ZZj _,rfl,(rfl:decide (L=M)=decide (L.drop 0=M.drop 0))⟩
  case round=>
   obtain ⟨hbel,k,hk,rfl,HR⟩:=hrel;have HB:=Qaa hbel;by_cases hkn:k<n
   ·obtain ⟨a,hRk⟩:∃ a,L[k]?=some a:=⟨L[k]'(by have:=HN.out;omega),ZZe _⟩
    obtain ⟨a',hSk⟩:∃ a,M[k]?=some a:=⟨M[k]'(by have:=HM.out;omega),ZZe _⟩;obtain ⟨b,off,rfl,hcell⟩:=HA.out (by have:=HN.out;omega);obtain ⟨b',off',rfl,hcell'⟩:=HB'.out (by have:=HM.out;omega);have hc0:=Qab hbel (hcell k _ hRk);have hd0:=Qab hbel (hcell' k _ hSk);have HD:=Qaa (Qeq hRk hSk HR.out);clear hbel hRk hSk hcell hcell' HR;by_cases he:a=a'
    ·subst he
     have HE:=Qaa (HD.out.1 rfl);clear HD;go_wp2
     go_quiet (fail)
     go_wp2;go_roundw
     case rel=>exact ⟨Qah HB.out _,k+1,by omega,by go_num,HE⟩
     case measure=>simp [Go.RowKit.intOf];omega
    ·have hq:(a == a')=false:=ZZf.2 he
     have HE:=Qaa (HD.out.2 he);clear he;go_wp2
     go_quiet (fail)
     go_wp2;go_ret;exact ⟨Qa3 HE.out,Qah HB.out _⟩
   ·have HE:=Qaa (QeF HN.out HM.out hkn HR.out)
    clear hbel;go_wp2;go_ret;exact ⟨Qa3 HE.out,HB.out⟩
 ·have hni:((n:Int) == (m:Int))=false:=ZZf.2 (by omega)
  have HE:=Qaa (QfM HN.out HM.out hnm);go_enter Tryz.func184,Tryz.ntmps184;go_wp2;go_ret;exact ⟨Qa3 HE.out,ZZb _ _⟩
theorem Qhr {w:World} {ao bo:Option Addr} {L M:List Int} (c c' n m:Nat) (hn:L.length=n) (hm:M.length=m) (ln:n<=1048576) (lm:m<=1048576) (hA:Qas .i64 w ao L) (hB:Qas .i64 w bo M) :
  Calls Tryz.prog 185 #[.slice ao n c,.slice bo m c'] w fun e w'=>e=.returned (.bool (decide (L=M)))/\Below w.heap.size w w':=by
 have HN:=Qaa hn;have HM:=Qaa hm;have HA:=Qaa hA;have HB':=Qaa hB;clear hn hm hA hB;by_cases hnm:n=m
 ·subst hnm
  go_enter Tryz.func185,Tryz.ntmps185;go_wp2
  go_loopw [13] (fun i wr=>Below w.heap.size w wr/\∃ k:Nat,k<=n/\i=.int .i64 k/\Hid (decide (L=M)=decide (L.drop k=M.drop k))) (fun i wr=>n - (Go.RowKit.intOf i).toNat)
  case atStart=>exact ⟨ZZb _ _,0,ZZj _,rfl,(rfl:decide (L=M)=decide (L.drop 0=M.drop 0))⟩
  case round=>
   obtain ⟨hbel,k,hk,rfl,HR⟩:=hrel;have HB:=Qaa hbel;by_cases hkn:k<n
   ·obtain ⟨a,hRk⟩:∃ a,L[k]?=some a:=⟨L[k]'(by have:=HN.out;omega),ZZe _⟩
    obtain ⟨a',hSk⟩:∃ a,M[k]?=some a:=⟨M[k]'(by have:=HM.out;omega),ZZe _⟩;obtain ⟨b,off,rfl,hcell⟩:=HA.out (by have:=HN.out;omega);obtain ⟨b',off',rfl,hcell'⟩:=HB'.out (by have:=HM.out;omega);have hc0:=Qab hbel (hcell k _ hRk);have hd0:=Qab hbel (hcell' k _ hSk);have HD:=Qaa (Qeq hRk hSk HR.out);clear hbel hRk hSk hcell hcell' HR;by_cases he:a=a'
    ·subst he
     have HE:=Qaa (HD.out.1 rfl);clear HD;go_wp2
     go_quiet (fail)
     go_wp2;go_roundw
     case rel=>exact ⟨Qah HB.out _,k+1,by omega,by go_num,HE⟩
     case measure=>simp [Go.RowKit.intOf];omega
    ·have hq:(a == a')=false:=ZZf.2 he
     have HE:=Qaa (HD.out.2 he);clear he;go_wp2
     go_quiet (fail)
     go_wp2;go_ret;exact ⟨Qa3 HE.out,Qah HB.out _⟩
   ·have HE:=Qaa (QeF HN.out HM.out hkn HR.out)
    clear hbel;go_wp2;go_ret;exact ⟨Qa3 HE.out,HB.out⟩
 ·have hni:((n:Int) == (m:Int))=false:=ZZf.2 (by omega)
  have HE:=Qaa (QfM HN.out HM.out hnm);go_enter Tryz.func185,Tryz.ntmps185;go_wp2;go_ret;exact ⟨Qa3 HE.out,ZZb _ _⟩
theorem QjJ {w:World} {pa na pb nb:Option Addr} {pn pc nn nc pm pd nm nd:Nat} {P N P' N':List Int} (hp:P.length=pn) (hn:N.length=nn) (hp':P'.length=pm) (hn':N'.length=nm) (lp:pn<=1048576) (ln:nn<=1048576) (lp':pm<=1048576) (ln':nm<=1048576) (hP:Qas .u64 w pa P) (hN:Qas .i64 w na N) (hP2:Qas .u64 w pb P') (hN2:Qas .i64 w nb N') :
  Calls Tryz.prog 144 #[.agg #[.slice pa pn pc,.slice na nn nc],.agg #[.slice pb pm pd,.slice nb nm nd]] w fun e w'=>e=.returned (.bool (Qbg P N P' N'))/\Below w.heap.size w w':=by
 have HP:=Qaa hP;have HN:=Qaa hN;have HP2:=Qaa hP2;have HN2:=Qaa hN2;clear hP hN hP2 hN2;have hW:∀ o1 o2,Below w.heap.size w ((w.alloc o1).alloc o2):=fun o1 o2=>((Below.refl _ _).alloc (Nat.le_refl _) _).alloc (by simp) _;have HW:=Qaa hW;clear hW;by_cases h3:P=P'
 ·have d3:decide (P=P')=true:=ZZh h3
  have HE:Hid (decide (N=N')=Qbg P N P' N'):=(by simp only [Qbg,d3,Bool.true_and]:decide (N=N')=Qbg P N P' N');clear h3;go_enter Tryz.func144,Tryz.ntmps144;go_wp2_with fail;refine (QdU _ _ _ _ hp hp' lp lp' (Qag HP.out (HW.out _ _)) (Qag HP2.out (HW.out _ _))).mono ?_;rintro e w1 ⟨rfl,hb1⟩;rw [d3];have hT1:=(HW.out _ _).trans (hb1.mono (by simp <;> omega));obtain ⟨hc1,_⟩:=QhK hb1;simp at hc1;have HT1:=Qaa hT1;clear hb1 hT1;go_wp2_with fail;refine (Qhr _ _ _ _ hn hn' ln ln' (Qag HN.out HT1.out) (Qag HN2.out HT1.out)).mono ?_;rintro e w2 ⟨rfl,hb2⟩;have HT2:=Qaa (Qad HT1.out hb2);clear hb2;go_wp2;go_ret;exact ⟨Qa3 HE.out,HT2.out⟩
 ·have d3:decide (P=P')=false:=ZZg h3
  have HE:Hid (false=Qbg P N P' N'):=(by simp only [Qbg,d3,Bool.false_and]:false=Qbg P N P' N');clear h3;go_enter Tryz.func144,Tryz.ntmps144;go_wp2_with fail;refine (QdU _ _ _ _ hp hp' lp lp' (Qag HP.out (HW.out _ _)) (Qag HP2.out (HW.out _ _))).mono ?_;rintro e w1 ⟨rfl,hb1⟩;rw [d3];have HT1:=Qaa ((HW.out _ _).trans (hb1.mono (by simp <;> omega)));clear hb1;go_wp2;go_ret;exact ⟨Qa3 HE.out,HT1.out⟩
theorem Qpe (w:World) (t:TypeId) (p n p' n':Value):QbQ ((w.alloc (.cells #[p,n] t)).alloc (.cells #[p',n'] t)) w.heap.size p n/\QbQ ((w.alloc (.cells #[p,n] t)).alloc (.cells #[p',n'] t)) (w.heap.size+1) p' n':=by
 refine ⟨QbY (Qgz w t p n) ((ZZb _ _).alloc (ZZa _) _),?_⟩;have:=Qgz (w.alloc (.cells #[p,n] t)) t p' n'
 simpa using this
theorem QjT {w:World} {pa na pb nb:Option Addr} {pn pc nn nc pm pd nm nd:Nat} {P N P' N':List Int} (hp:P.length=pn) (hn:N.length=nn) (hp':P'.length=pm) (hn':N'.length=nm) (lp:pn<=1048576) (ln:nn<=1048576) (lp':pm<=1048576) (ln':nm<=1048576) (hP:Qas .u64 w pa P) (hN:Qas .i64 w na N) (hP2:Qas .u64 w pb P') (hN2:Qas .i64 w nb N') :
  Calls Tryz.prog 98 #[.agg #[.slice pa pn pc,.slice na nn nc],.agg #[.slice pb pm pd,.slice nb nm nd]] w fun e w'=>e=.returned (.bool (Qbg P N P' N'))/\Below w.heap.size w w':=by
 have HP:=Qaa hP;have HN:=Qaa hN;have HP2:=Qaa hP2;have HN2:=Qaa hN2;have EP:=Qaa hp;have EN:=Qaa hn;have EP2:=Qaa hp';have EN2:=Qaa hn';clear hP hN hP2 hN2 hp hn hp' hn';have hW:∀ o1 o2,Below w.heap.size w ((w.alloc o1).alloc o2):=fun o1 o2=>((Below.refl _ _).alloc (Nat.le_refl _) _).alloc (by simp) _;have HW:=Qaa hW;clear hW;by_cases h1:pn=pm
 ·subst h1
  by_cases h2:nn=nm
  ·subst h2
   go_enter Tryz.func98,Tryz.ntmps98;go_wp2
   go_loopw [5] (fun i wr=>Below w.heap.size w wr/\QbQ wr w.heap.size (.slice pa pn pc) (.slice na nn nc)/\QbQ wr (w.heap.size+1) (.slice pb pn pd) (.slice nb nn nd)/\∃ k:Nat,k<=pn/\i=.int .i64 k/\Hid (decide (P=P')=decide (P.drop k=P'.drop k))) (fun i wr=>pn - (Go.RowKit.intOf i).toNat)
   case atStart=>exact ⟨HW.out _ _,(Qpe _ _ _ _ _ _).1,(Qpe _ _ _ _ _ _).2,0,ZZj _,rfl,(rfl:decide (P=P')=decide (P.drop 0=P'.drop 0))⟩
   case round=>
    obtain ⟨hbel,hK,hJ,k,hk,rfl,HR⟩:=hrel;have HB:=Qaa hbel;have HK:=Qaa hK;have HJ:=Qaa hJ;by_cases hkn:k<pn
    ·obtain ⟨a,hRk⟩:∃ a,P[k]?=some a:=⟨P[k]'(by have:=EP.out;omega),ZZe _⟩
     obtain ⟨a',hSk⟩:∃ a,P'[k]?=some a:=⟨P'[k]'(by have:=EP2.out;omega),ZZe _⟩;obtain ⟨b,off,rfl,hcell⟩:=HP.out (by have:=EP.out;omega);obtain ⟨b',off',rfl,hcell'⟩:=HP2.out (by have:=EP2.out;omega);have hc0:=Qab hbel (hcell k _ hRk);have hd0:=Qab hbel (hcell' k _ hSk);have HD:=Qaa (Qeq hRk hSk HR.out);clear hbel hRk hSk hcell hcell' HR;by_cases he:a=a'
     ·subst he
      have HE:=Qaa (HD.out.1 rfl);clear HD;go_wp2
      go_quiet (fail)
      go_wp2;go_roundw
      case rel=>exact ⟨Qah HB.out _,HK.out,HJ.out,k+1,by omega,by go_num,HE⟩
      case measure=>simp [Go.RowKit.intOf];omega
     ·have hq:(a == a')=false:=ZZf.2 he
      have HE:Hid (false=Qbg P N P' N'):=(by simp only [Qbg,<- HD.out.2 he,Bool.false_and]:false=Qbg P N P' N');clear he;go_wp2
      go_quiet (fail)
      go_wp2;go_ret;exact ⟨Qa3 HE.out,Qah HB.out _⟩
    ·have HE1:=Qaa (QeF EP.out EP2.out hkn HR.out)
     clear hbel HR;go_wp2
     go_loopw [6] (fun i wr=>Below w.heap.size w wr/\QbQ wr w.heap.size (.slice pa pn pc) (.slice na nn nc)/\QbQ wr (w.heap.size+1) (.slice pb pn pd) (.slice nb nn nd)/\∃ k:Nat,k<=nn/\i=.int .i64 k/\Hid (decide (N=N')=decide (N.drop k=N'.drop k))) (fun i wr=>nn - (Go.RowKit.intOf i).toNat)
     case atStart=>exact ⟨HB.out,HK.out,HJ.out,0,ZZj _,rfl,(rfl:decide (N=N')=decide (N.drop 0=N'.drop 0))⟩
     case round=>
      clear HB HK HJ hK hJ;obtain ⟨hbel,hK,hJ,j,hj,rfl,HR⟩:=hrel;have HB:=Qaa hbel;have HK:=Qaa hK;have HJ:=Qaa hJ;by_cases hjn:j<nn
      ·obtain ⟨a,hRk⟩:∃ a,N[j]?=some a:=⟨N[j]'(by have:=EN.out;omega),ZZe _⟩
       obtain ⟨a',hSk⟩:∃ a,N'[j]?=some a:=⟨N'[j]'(by have:=EN2.out;omega),ZZe _⟩;obtain ⟨b,off,rfl,hcell⟩:=HN.out (by have:=EN.out;omega);obtain ⟨b',off',rfl,hcell'⟩:=HN2.out (by have:=EN2.out;omega);have hc0:=Qab hbel (hcell j _ hRk);have hd0:=Qab hbel (hcell' j _ hSk);have HD:=Qaa (Qeq hRk hSk HR.out);clear hbel hRk hSk hcell hcell' HR;by_cases he:a=a'
       ·subst he
        have HE:=Qaa (HD.out.1 rfl);clear HD;go_wp2
        go_quiet (fail)
        go_wp2;go_roundw
        case rel=>exact ⟨Qah HB.out _,HK.out,HJ.out,j+1,by omega,by go_num,HE⟩
        case measure=>simp [Go.RowKit.intOf];omega
       ·have hq:(a == a')=false:=ZZf.2 he
        have HE:Hid (false=Qbg P N P' N'):=(by simp only [Qbg,<- HD.out.2 he,Bool.and_false]:false=Qbg P N P' N');clear he;go_wp2
        go_quiet (fail)
        go_wp2;go_ret;exact ⟨Qa3 HE.out,Qah HB.out _⟩
      ·have HE:Hid (true=Qbg P N P' N'):=(by simp only [Qbg,<- HE1.out,<- QeF EN.out EN2.out hjn HR.out,Bool.and_true]:true=Qbg P N P' N')
       clear hbel HR;go_wp2;go_ret;exact ⟨Qa3 HE.out,HB.out⟩
  ·have hni:((nn:Int) == (nm:Int))=false:=ZZf.2 (by omega)
   have HE:Hid (false=Qbg P N P' N'):=(by simp only [Qbg,<- QfM EN.out EN2.out h2,Bool.and_false]:false=Qbg P N P' N');go_enter Tryz.func98,Tryz.ntmps98;go_wp2;go_ret;exact ⟨Qa3 HE.out,HW.out _ _⟩
 ·have hni:((pn:Int) == (pm:Int))=false:=ZZf.2 (by omega)
  have HE:Hid (false=Qbg P N P' N'):=(by simp only [Qbg,<- QfM EP.out EP2.out h1,Bool.false_and]:false=Qbg P N P' N');go_enter Tryz.func98,Tryz.ntmps98;go_wp2;go_ret;exact ⟨Qa3 HE.out,HW.out _ _⟩
theorem Qdn (a p b q:Int) (w:World):(binOp .neq 40 (.agg #[.int .i64 a,.int .u64 p]) (.agg #[.int .i64 b,.int .u64 q])).run Tryz.prog w=.ok (.bool (!(a == b && p == q))) w:=by
 have hS:Tryz.prog.underlying 40=some (.struct (Tryz.prog.fieldsOf 40)):=by kernel_rfl
 have hp:Tryz.prog.stoodInHeld 40=false:=by kernel_rfl
 rw [run_neq_struct,show (10000:Nat)=9999+1 from rfl,run_equalIn_agg w 9999 40 _ _ hS hp];simp only [Program.fieldsOf,Tryz.underlying40];go_simp;by_cases h1:a=b <;> by_cases h2:p=q <;> simp [h1,h2]
def QaG (g g':Ag):Bool:=(g.k == g'.k) && (g.s == g'.s) && (g.h == g'.h && g.l == g'.l) && (g.a == g'.a) && (g.t == g'.t) && Qa5 g.z g.x g.y g.P g.N g'.z g'.x g'.y g'.P g'.N && Qbg g.E g.R g'.E g'.R
theorem QcT {w:World} {g g':Ag} {p p':Pl} (hs:AgSm g) (hs':AgSm g') (hA:AgAt w g p) (hB:AgAt w g' p') :
  Calls Tryz.prog 102 #[.agg (Qal g p),.agg (Qal g' p')] w fun e w'=>e=.returned (.bool (QaG g g'))/\Below w.heap.size w w':=by
 obtain ⟨k,s,h,l,a,t,z,P,N,x,y,E,R⟩:=g;obtain ⟨k',s',h',l',a',t',z',P',N',x',y',E',R'⟩:=g';obtain ⟨pa,pc,na,nc,ea,ec,ra,rc⟩:=p;obtain ⟨pa',pc',na',nc',ea',ec',ra',rc'⟩:=p';obtain ⟨gP,gN,gE,gR⟩:=hs;obtain ⟨gP',gN',gE',gR'⟩:=hs';obtain ⟨aP,aN,aE,aR⟩:=hA;obtain ⟨bP,bN,bE,bR⟩:=hB;simp only at gP gN gE gR gP' gN' gE' gR' aP aN aE aR bP bN bE bR;have HA:=Qaa (And.intro (And.intro aP aN) (And.intro aE aR));have HB:=Qaa (And.intro (And.intro bP bN) (And.intro bE bR));simp only [Qal];obtain ⟨pn,ep⟩:∃ n,P.length=n:=⟨_,rfl⟩;obtain ⟨nn,en⟩:∃ n,N.length=n:=⟨_,rfl⟩;obtain ⟨xn,ex⟩:∃ n,E.length=n:=⟨_,rfl⟩;obtain ⟨rn,er⟩:∃ n,R.length=n:=⟨_,rfl⟩;obtain ⟨pm,ep'⟩:∃ n,P'.length=n:=⟨_,rfl⟩;obtain ⟨nm,en'⟩:∃ n,N'.length=n:=⟨_,rfl⟩;obtain ⟨xm,ex'⟩:∃ n,E'.length=n:=⟨_,rfl⟩;obtain ⟨rm,er'⟩:∃ n,R'.length=n:=⟨_,rfl⟩;rw [ep] at gP;rw [en] at gN;rw [ex] at gE;rw [er] at gR;rw [ep'] at gP'; rw [en'] at gN'; rw [ex'] at gE'; rw [er'] at gR';rw [ep,en,ex,er,ep',en',ex',er'];have EP:=Qaa ep;have EN:=Qaa en;have EX:=Qaa ex;have ER:=Qaa er;have EP':=Qaa ep';have EN':=Qaa en';have EX':=Qaa ex';have ER':=Qaa er';clear ep en ex er ep' en' ex' er' aP aN aE aR bP bN bE bR;have HW:Hid (∀ o1 o2,Below w.heap.size w ((w.alloc o1).alloc o2)):=fun o1 o2=>((Below.refl _ _).alloc (Nat.le_refl _) _).alloc (by simp) _;by_cases qk:k=k'
 rotate_left
 ·have bk:(k == k')=false:=ZZf.2 qk
  have HE:Hid (false=QaG ⟨k,s,h,l,a,t,z,P,N,x,y,E,R⟩ ⟨k',s',h',l',a',t',z',P',N',x',y',E',R'⟩):=(by simp [QaG,qk]:false=QaG ⟨k,s,h,l,a,t,z,P,N,x,y,E,R⟩ ⟨k',s',h',l',a',t',z',P',N',x',y',E',R'⟩);go_enter Tryz.func102,Tryz.ntmps102;go_wp2;go_ret;exact ⟨Qap HE.out,HW.out _ _⟩
 subst qk;by_cases qs:s=s'
 rotate_left
 ·have bs:(s == s')=false:=ZZf.2 qs
  have HE:Hid (false=QaG ⟨k,s,h,l,a,t,z,P,N,x,y,E,R⟩ ⟨k,s',h',l',a',t',z',P',N',x',y',E',R'⟩):=(by simp [QaG,qs]:false=QaG ⟨k,s,h,l,a,t,z,P,N,x,y,E,R⟩ ⟨k,s',h',l',a',t',z',P',N',x',y',E',R'⟩);go_enter Tryz.func102,Tryz.ntmps102;go_wp2;go_ret;exact ⟨Qap HE.out,HW.out _ _⟩
 subst qs;by_cases qw:h=h'/\l=l'
 rotate_left
 ·have bw:(h == h' && l == l')=false:=by rw [Bool.eq_false_iff];intro hh;simp at hh;exact qw hh
  have hq:=Qdn h l h' l';rw [bw] at hq;clear qw;have HE:Hid (false=QaG ⟨k,s,h,l,a,t,z,P,N,x,y,E,R⟩ ⟨k,s,h',l',a',t',z',P',N',x',y',E',R'⟩):=(by simp [QaG,bw]:false=QaG ⟨k,s,h,l,a,t,z,P,N,x,y,E,R⟩ ⟨k,s,h',l',a',t',z',P',N',x',y',E',R'⟩);go_enter Tryz.func102,Tryz.ntmps102;go_wp2;go_ret;exact ⟨Qap HE.out,HW.out _ _⟩
 obtain ⟨qh,ql⟩:=qw;subst qh;subst ql;have hq:=Qdn h l h l;rw [show (h == h && l == l)=true by simp] at hq;by_cases qa:a=a'
 rotate_left
 ·have ba:(a == a')=false:=ZZf.2 qa
  have HE:Hid (false=QaG ⟨k,s,h,l,a,t,z,P,N,x,y,E,R⟩ ⟨k,s,h,l,a',t',z',P',N',x',y',E',R'⟩):=(by simp [QaG,qa]:false=QaG ⟨k,s,h,l,a,t,z,P,N,x,y,E,R⟩ ⟨k,s,h,l,a',t',z',P',N',x',y',E',R'⟩);go_enter Tryz.func102,Tryz.ntmps102;go_wp2;go_ret;exact ⟨Qap HE.out,HW.out _ _⟩
 subst qa;by_cases qt:t=t'
 rotate_left
 ·have bt:(t == t')=false:=ZZf.2 qt
  have HE:Hid (false=QaG ⟨k,s,h,l,a,t,z,P,N,x,y,E,R⟩ ⟨k,s,h,l,a,t',z',P',N',x',y',E',R'⟩):=(by simp [QaG,qt]:false=QaG ⟨k,s,h,l,a,t,z,P,N,x,y,E,R⟩ ⟨k,s,h,l,a,t',z',P',N',x',y',E',R'⟩);go_enter Tryz.func102,Tryz.ntmps102;go_wp2;go_ret;exact ⟨Qap HE.out,HW.out _ _⟩
 subst qt;have HS:Hid (QaG ⟨k,s,h,l,a,t,z,P,N,x,y,E,R⟩ ⟨k,s,h,l,a,t,z',P',N',x',y',E',R'⟩=(Qa5 z x y P N z' x' y' P' N' && Qbg E R E' R')):=(by simp [QaG]:QaG ⟨k,s,h,l,a,t,z,P,N,x,y,E,R⟩ ⟨k,s,h,l,a,t,z',P',N',x',y',E',R'⟩=(Qa5 z x y P N z' x' y' P' N' && Qbg E R E' R'));go_enter Tryz.func102,Tryz.ntmps102;go_wp2_with fail;refine (QgK EP.out EN.out EP'.out EN'.out gP gN gP' gN' (Qae HA.out.1.1 (HW.out _ _)) (Qae HA.out.1.2 (HW.out _ _)) (Qae HB.out.1.1 (HW.out _ _)) (Qae HB.out.1.2 (HW.out _ _))).mono ?_;rintro e w1 ⟨rfl,hb1⟩;have HT1:=Qaa ((HW.out _ _).trans (hb1.mono (by simp <;> omega)));obtain ⟨hc1,_⟩:=QhK hb1;simp at hc1;clear hb1
 cases hsk:Qa5 z x y P N z' x' y' P' N' with
 | false=>
  have HE:Hid (false=QaG ⟨k,s,h,l,a,t,z,P,N,x,y,E,R⟩ ⟨k,s,h,l,a,t,z',P',N',x',y',E',R'⟩):=by have:=HS.out;rw [hsk,Bool.false_and] at this;exact this.symm
  go_wp2;go_ret;exact ⟨Qap HE.out,HT1.out⟩
 | true=>
  have HE:Hid (Qbg E R E' R'=QaG ⟨k,s,h,l,a,t,z,P,N,x,y,E,R⟩ ⟨k,s,h,l,a,t,z',P',N',x',y',E',R'⟩):=by have:=HS.out;rw [hsk,Bool.true_and] at this;exact this.symm
  go_wp2_with fail;refine (QjJ EX.out ER.out EX'.out ER'.out gE gR gE' gR' (Qag HA.out.2.1 HT1.out) (Qag HA.out.2.2 HT1.out) (Qag HB.out.2.1 HT1.out) (Qag HB.out.2.2 HT1.out)).mono ?_;rintro e w2 ⟨rfl,hb2⟩;have HT2:=Qaa (Qad HT1.out hb2);clear hb2;go_wp2;go_ret;exact ⟨Qap HE.out,HT2.out⟩
theorem Qjv {w:World} {g g':Ag} {p p':Pl} (hs:AgSm g) (hs':AgSm g') (hA:AgAt w g p) (hB:AgAt w g' p') :
  Calls Tryz.prog 49 #[.agg (Qal g p),.agg (Qal g' p')] w fun e w'=>e=.returned (.bool (QaG g g'))/\Below w.heap.size w w':=by
 obtain ⟨k,s,h,l,a,t,z,P,N,x,y,E,R⟩:=g;obtain ⟨k',s',h',l',a',t',z',P',N',x',y',E',R'⟩:=g';obtain ⟨pa,pc,na,nc,ea,ec,ra,rc⟩:=p;obtain ⟨pa',pc',na',nc',ea',ec',ra',rc'⟩:=p';obtain ⟨gP,gN,gE,gR⟩:=hs;obtain ⟨gP',gN',gE',gR'⟩:=hs';obtain ⟨aP,aN,aE,aR⟩:=hA;obtain ⟨bP,bN,bE,bR⟩:=hB;simp only at gP gN gE gR gP' gN' gE' gR' aP aN aE aR bP bN bE bR;have HA:=Qaa (And.intro (And.intro aP aN) (And.intro aE aR));have HB:=Qaa (And.intro (And.intro bP bN) (And.intro bE bR));simp only [Qal];obtain ⟨pn,ep⟩:∃ n,P.length=n:=⟨_,rfl⟩;obtain ⟨nn,en⟩:∃ n,N.length=n:=⟨_,rfl⟩;obtain ⟨xn,ex⟩:∃ n,E.length=n:=⟨_,rfl⟩;obtain ⟨rn,er⟩:∃ n,R.length=n:=⟨_,rfl⟩;obtain ⟨pm,ep'⟩:∃ n,P'.length=n:=⟨_,rfl⟩;obtain ⟨nm,en'⟩:∃ n,N'.length=n:=⟨_,rfl⟩;obtain ⟨xm,ex'⟩:∃ n,E'.length=n:=⟨_,rfl⟩;obtain ⟨rm,er'⟩:∃ n,R'.length=n:=⟨_,rfl⟩;rw [ep] at gP;rw [en] at gN;rw [ex] at gE;rw [er] at gR;rw [ep'] at gP'; rw [en'] at gN'; rw [ex'] at gE'; rw [er'] at gR';rw [ep,en,ex,er,ep',en',ex',er'];have EP:=Qaa ep;have EN:=Qaa en;have EX:=Qaa ex;have ER:=Qaa er;have EP':=Qaa ep';have EN':=Qaa en';have EX':=Qaa ex';have ER':=Qaa er';clear ep en ex er ep' en' ex' er' aP aN aE aR bP bN bE bR;have HW:Hid (∀ o1 o2,Below w.heap.size w ((w.alloc o1).alloc o2)):=fun o1 o2=>((Below.refl _ _).alloc (Nat.le_refl _) _).alloc (by simp) _;by_cases qk:k=k'
 rotate_left
 ·have bk:(k == k')=false:=ZZf.2 qk
  have HE:Hid (false=QaG ⟨k,s,h,l,a,t,z,P,N,x,y,E,R⟩ ⟨k',s',h',l',a',t',z',P',N',x',y',E',R'⟩):=(by simp [QaG,qk]:false=QaG ⟨k,s,h,l,a,t,z,P,N,x,y,E,R⟩ ⟨k',s',h',l',a',t',z',P',N',x',y',E',R'⟩);go_enter Tryz.func49,Tryz.ntmps49;go_wp2;go_ret;exact ⟨Qap HE.out,HW.out _ _⟩
 subst qk;by_cases qs:s=s'
 rotate_left
 ·have bs:(s == s')=false:=ZZf.2 qs
  have HE:Hid (false=QaG ⟨k,s,h,l,a,t,z,P,N,x,y,E,R⟩ ⟨k,s',h',l',a',t',z',P',N',x',y',E',R'⟩):=(by simp [QaG,qs]:false=QaG ⟨k,s,h,l,a,t,z,P,N,x,y,E,R⟩ ⟨k,s',h',l',a',t',z',P',N',x',y',E',R'⟩);go_enter Tryz.func49,Tryz.ntmps49;go_wp2;go_ret;exact ⟨Qap HE.out,HW.out _ _⟩
 subst qs;by_cases qw:h=h'/\l=l'
 rotate_left
 ·have bw:(h == h' && l == l')=false:=by rw [Bool.eq_false_iff];intro hh;simp at hh;exact qw hh
  have hq:=QhU h l h' l';rw [bw] at hq;clear qw;have HE:Hid (false=QaG ⟨k,s,h,l,a,t,z,P,N,x,y,E,R⟩ ⟨k,s,h',l',a',t',z',P',N',x',y',E',R'⟩):=(by simp [QaG,bw]:false=QaG ⟨k,s,h,l,a,t,z,P,N,x,y,E,R⟩ ⟨k,s,h',l',a',t',z',P',N',x',y',E',R'⟩);go_enter Tryz.func49,Tryz.ntmps49;go_wp2;go_ret;exact ⟨Qap HE.out,HW.out _ _⟩
 obtain ⟨qh,ql⟩:=qw;subst qh;subst ql;have hq:=QhU h l h l;rw [show (h == h && l == l)=true by simp] at hq;by_cases qa:a=a'
 rotate_left
 ·have ba:(a == a')=false:=ZZf.2 qa
  have HE:Hid (false=QaG ⟨k,s,h,l,a,t,z,P,N,x,y,E,R⟩ ⟨k,s,h,l,a',t',z',P',N',x',y',E',R'⟩):=(by simp [QaG,qa]:false=QaG ⟨k,s,h,l,a,t,z,P,N,x,y,E,R⟩ ⟨k,s,h,l,a',t',z',P',N',x',y',E',R'⟩);go_enter Tryz.func49,Tryz.ntmps49;go_wp2;go_ret;exact ⟨Qap HE.out,HW.out _ _⟩
 subst qa;by_cases qt:t=t'
 rotate_left
 ·have bt:(t == t')=false:=ZZf.2 qt
  have HE:Hid (false=QaG ⟨k,s,h,l,a,t,z,P,N,x,y,E,R⟩ ⟨k,s,h,l,a,t',z',P',N',x',y',E',R'⟩):=(by simp [QaG,qt]:false=QaG ⟨k,s,h,l,a,t,z,P,N,x,y,E,R⟩ ⟨k,s,h,l,a,t',z',P',N',x',y',E',R'⟩);go_enter Tryz.func49,Tryz.ntmps49;go_wp2;go_ret;exact ⟨Qap HE.out,HW.out _ _⟩
 subst qt;have HS:Hid (QaG ⟨k,s,h,l,a,t,z,P,N,x,y,E,R⟩ ⟨k,s,h,l,a,t,z',P',N',x',y',E',R'⟩=(Qa5 z x y P N z' x' y' P' N' && Qbg E R E' R')):=(by simp [QaG]:QaG ⟨k,s,h,l,a,t,z,P,N,x,y,E,R⟩ ⟨k,s,h,l,a,t,z',P',N',x',y',E',R'⟩=(Qa5 z x y P N z' x' y' P' N' && Qbg E R E' R'));go_enter Tryz.func49,Tryz.ntmps49;go_wp2_with fail;refine (QdR EP.out EN.out EP'.out EN'.out gP gN gP' gN' (Qae HA.out.1.1 (HW.out _ _)) (Qae HA.out.1.2 (HW.out _ _)) (Qae HB.out.1.1 (HW.out _ _)) (Qae HB.out.1.2 (HW.out _ _))).mono ?_;rintro e w1 ⟨rfl,hb1⟩;have HT1:=Qaa ((HW.out _ _).trans (hb1.mono (by simp <;> omega)));obtain ⟨hc1,_⟩:=QhK hb1;simp at hc1;clear hb1
 cases hsk:Qa5 z x y P N z' x' y' P' N' with
 | false=>
  have HE:Hid (false=QaG ⟨k,s,h,l,a,t,z,P,N,x,y,E,R⟩ ⟨k,s,h,l,a,t,z',P',N',x',y',E',R'⟩):=by have:=HS.out;rw [hsk,Bool.false_and] at this;exact this.symm
  go_wp2;go_ret;exact ⟨Qap HE.out,HT1.out⟩
 | true=>
  have HE:Hid (Qbg E R E' R'=QaG ⟨k,s,h,l,a,t,z,P,N,x,y,E,R⟩ ⟨k,s,h,l,a,t,z',P',N',x',y',E',R'⟩):=by have:=HS.out;rw [hsk,Bool.true_and] at this;exact this.symm
  go_wp2_with fail;refine (QjT EX.out ER.out EX'.out ER'.out gE gR gE' gR' (Qag HA.out.2.1 HT1.out) (Qag HA.out.2.2 HT1.out) (Qag HB.out.2.1 HT1.out) (Qag HB.out.2.2 HT1.out)).mono ?_;rintro e w2 ⟨rfl,hb2⟩;have HT2:=Qaa (Qad HT1.out hb2);clear hb2;go_wp2;go_ret;exact ⟨Qap HE.out,HT2.out⟩
end Go.Proofs.YthchmdmncmioiaaGreatDoor
