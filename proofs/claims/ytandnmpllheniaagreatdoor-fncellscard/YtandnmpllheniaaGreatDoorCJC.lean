/-
 Parts.
-/
import Derived.Test.YtandnmpllheniaaGreatDoorCJB
set_option maxHeartbeats 4000000
namespace Go.Proofs.YtandnmpllheniaaGreatDoor
open Go.ChangeShapes Go.WideShapes Go.ChangeAt Go.RowKit Go.PlainAid Go.Lib
set_option maxRecDepth 10000
theorem QhZ (a p b q:Int) (w:World):(binOp .eql 40 (.agg #[.int .i64 a,.int .u64 p]) (.agg #[.int .i64 b,.int .u64 q])).run Tryz.prog w=.ok (.bool (a == b && p == q)) w:=by
 have hS:Tryz.prog.underlying 40=some (.struct (Tryz.prog.fieldsOf 40)):=by kernel_rfl
 have hp:Tryz.prog.stoodInHeld 40=false:=by kernel_rfl
 rw [run_eql_struct,show (10000:Nat)=9999+1 from rfl,run_equalIn_agg w 9999 40 _ _ hS hp];simp only [Program.fieldsOf,Tryz.underlying40];go_simp;by_cases h1:a=b <;> by_cases h2:p=q <;> simp [h1,h2]
theorem QnU (a p b q:Int) (w:World):(binOp .neq 199 (.agg #[.int .i64 a,.int .u64 p]) (.agg #[.int .i64 b,.int .u64 q])).run Tryz.prog w=.ok (.bool (!(a == b && p == q))) w:=by
 have hS:Tryz.prog.underlying 199=some (.struct (Tryz.prog.fieldsOf 199)):=by kernel_rfl
 have hp:Tryz.prog.stoodInHeld 199=false:=by kernel_rfl
 rw [run_neq_struct,show (10000:Nat)=9999+1 from rfl,run_equalIn_agg w 9999 199 _ _ hS hp];simp only [Program.fieldsOf,Tryz.underlying199];go_simp;by_cases h1:a=b <;> by_cases h2:p=q <;> simp [h1,h2]
theorem Qat {a b:Bool} (h:a=b):Ending.returned (.bool a)=.returned (.bool b):=by rw [h]
theorem QiU {L M:List Bn} {k:Nat} {a u a' u':Int} (h:L[k]?=some (a,u)) (g:M[k]?=some (a',u')):decide (L.drop k=M.drop k)=((a == a' && u == u') && decide (L.drop (k+1)=M.drop (k+1))):=by
 have hk:=(ZZd.1 h).1;have gk:=(ZZd.1 g).1;rw [List.drop_eq_getElem_cons hk,(List.getElem?_eq_some_iff.1 h).2,List.drop_eq_getElem_cons gk,(List.getElem?_eq_some_iff.1 g).2];by_cases h1:a=a' <;> by_cases h2:u=u' <;> simp [h1,h2]
def Qbc (z h l:Int) (P N:List Bn) (z' h' l':Int) (P' N':List Bn):Bool:=(z == z') && (h == h' && l == l') && decide (P=P') && decide (N=N')
theorem Qct {w:World} {ao bo:Option Addr} {L M:List Bn} (c c' n m:Nat) (hn:L.length=n) (hm:M.length=m) (ln:n<=1048576) (lm:m<=1048576) (hA:QaA w ao L) (hB:QaA w bo M) :
  Calls Tryz.prog 139 #[.slice ao n c,.slice bo m c'] w fun e w'=>e=.returned (.bool (decide (L=M)))/\Below w.heap.size w w':=by
 have HN:=Qaa hn;have HM:=Qaa hm;have HA:=Qaa hA;have af:=Qaa hB;clear hn hm hA hB;by_cases ah:n=m
 ·subst ah
  go_enter Tryz.func139,Tryz.ntmps139;go_wp2
  go_loopw [5] (fun i wr=>Below w.heap.size w wr/\∃ k:Nat,k<=n/\i=.int .i64 k/\Hid (decide (L=M)=decide (L.drop k=M.drop k))) (fun i wr=>n - (Go.RowKit.intOf i).toNat)
  case atStart=>exact ⟨ZZb _ _,0,ZZj _,rfl,(rfl:decide (L=M)=decide (L.drop 0=M.drop 0))⟩
  case round=>
   obtain ⟨aa,k,hk,rfl,HR⟩:=hrel;have HB:=Qaa aa;by_cases al:k<n
   ·obtain ⟨⟨a,u⟩,ad⟩:∃ a,L[k]?=some a:=⟨L[k]'(by have:=HN.out;omega),ZZe _⟩
    obtain ⟨⟨a',u'⟩,ae⟩:∃ a,M[k]?=some a:=⟨M[k]'(by have:=HM.out;omega),ZZe _⟩;obtain ⟨b,ap,rfl,ac⟩:=HA.out (by have:=HN.out;omega);obtain ⟨b',ag,rfl,ab⟩:=af.out (by have:=HM.out;omega);have an:=Qab aa (ac k _ ad).1;have ak:=Qab aa (ac k _ ad).2;have aj:=Qab aa (ab k _ ae).1;have am:=Qab aa (ab k _ ae).2;have HD:=Qaa (QiU ad ae);have hq:=QnU a u a' u';clear aa ad ae ac ab;by_cases he:a=a'/\u=u'
    ·have hb:(a == a' && u == u')=true:=by simp [he.1,he.2]
     have HE:Hid (decide (L=M)=decide (L.drop (k+1)=M.drop (k+1))):=by
      refine (?_:decide (L=M)=decide (L.drop (k+1)=M.drop (k+1)));rw [HR.out,HD.out,hb,Bool.true_and]
     rw [hb] at hq;clear he hb;go_wp2
     go_quiet (fail)
     go_wp2;go_roundw
     case rel=>exact ⟨Qah HB _,k+1,by omega,by go_num,HE⟩
     case measure=>simp [zI];omega
    ·have hb:(a == a' && u == u')=false:=by
      rw [Bool.eq_false_iff];intro hh;simp at hh;exact he hh
     have HE:Hid (false=decide (L=M)):=by
      refine (?_:false=decide (L=M));rw [HR.out,HD.out,hb,Bool.false_and]
     rw [hb] at hq;clear he hb;go_wp2
     go_quiet (fail)
     go_wp2;go_ret;exact ⟨Qat HE,Qah HB _⟩
   ·have HE:Hid (true=decide (L=M)):=by
     refine (?_:true=decide (L=M));rw [HR.out,List.drop_eq_nil_of_le (by have:=HN.out;omega),List.drop_eq_nil_of_le (by have:=HM.out;omega)];rfl
    clear aa;go_wp2;go_ret;exact ⟨Qat HE,HB⟩
 ·have ai:((n:Int) == (m:Int))=false:=ZZf.2 (by omega)
  have HE:Hid (false=decide (L=M)):=by
   refine (?_:false=decide (L=M));rw [eq_comm,decide_eq_false_iff_not];intro e;have:=HN.out;have:=HM.out;rw [e] at *; omega
  go_enter Tryz.func139,Tryz.ntmps139;go_wp2;go_ret;exact ⟨Qat HE,ZZb _ _⟩
theorem QcQ {w:World} {ao bo:Option Addr} {L M:List Bn} (c c' n m:Nat) (hn:L.length=n) (hm:M.length=m) (ln:n<=1048576) (lm:m<=1048576) (hA:QaA w ao L) (hB:QaA w bo M) :
  Calls Tryz.prog 183 #[.slice ao n c,.slice bo m c'] w fun e w'=>e=.returned (.bool (decide (L=M)))/\Below w.heap.size w w':=by
 have HN:=Qaa hn;have HM:=Qaa hm;have HA:=Qaa hA;have af:=Qaa hB;clear hn hm hA hB;by_cases ah:n=m
 ·subst ah
  go_enter Tryz.func183,Tryz.ntmps183;go_wp2
  go_loopw [13] (fun i wr=>Below w.heap.size w wr/\∃ k:Nat,k<=n/\i=.int .i64 k/\Hid (decide (L=M)=decide (L.drop k=M.drop k))) (fun i wr=>n - (Go.RowKit.intOf i).toNat)
  case atStart=>exact ⟨ZZb _ _,0,ZZj _,rfl,(rfl:decide (L=M)=decide (L.drop 0=M.drop 0))⟩
  case round=>
   obtain ⟨aa,k,hk,rfl,HR⟩:=hrel;have HB:=Qaa aa;by_cases al:k<n
   ·obtain ⟨⟨a,u⟩,ad⟩:∃ a,L[k]?=some a:=⟨L[k]'(by have:=HN.out;omega),ZZe _⟩
    obtain ⟨⟨a',u'⟩,ae⟩:∃ a,M[k]?=some a:=⟨M[k]'(by have:=HM.out;omega),ZZe _⟩;obtain ⟨b,ap,rfl,ac⟩:=HA.out (by have:=HN.out;omega);obtain ⟨b',ag,rfl,ab⟩:=af.out (by have:=HM.out;omega);have an:=Qab aa (ac k _ ad).1;have ak:=Qab aa (ac k _ ad).2;have aj:=Qab aa (ab k _ ae).1;have am:=Qab aa (ab k _ ae).2;have HD:=Qaa (QiU ad ae);have hq:=QnU a u a' u';clear aa ad ae ac ab;by_cases he:a=a'/\u=u'
    ·have hb:(a == a' && u == u')=true:=by simp [he.1,he.2]
     have HE:Hid (decide (L=M)=decide (L.drop (k+1)=M.drop (k+1))):=by
      refine (?_:decide (L=M)=decide (L.drop (k+1)=M.drop (k+1)));rw [HR.out,HD.out,hb,Bool.true_and]
     rw [hb] at hq;clear he hb;go_wp2
     go_quiet (fail)
     go_wp2;go_roundw
     case rel=>exact ⟨Qah HB _,k+1,by omega,by go_num,HE⟩
     case measure=>simp [zI];omega
    ·have hb:(a == a' && u == u')=false:=by
      rw [Bool.eq_false_iff];intro hh;simp at hh;exact he hh
     have HE:Hid (false=decide (L=M)):=by
      refine (?_:false=decide (L=M));rw [HR.out,HD.out,hb,Bool.false_and]
     rw [hb] at hq;clear he hb;go_wp2
     go_quiet (fail)
     go_wp2;go_ret;exact ⟨Qat HE,Qah HB _⟩
   ·have HE:Hid (true=decide (L=M)):=by
     refine (?_:true=decide (L=M));rw [HR.out,List.drop_eq_nil_of_le (by have:=HN.out;omega),List.drop_eq_nil_of_le (by have:=HM.out;omega)];rfl
    clear aa;go_wp2;go_ret;exact ⟨Qat HE,HB⟩
 ·have ai:((n:Int) == (m:Int))=false:=ZZf.2 (by omega)
  have HE:Hid (false=decide (L=M)):=by
   refine (?_:false=decide (L=M));rw [eq_comm,decide_eq_false_iff_not];intro e;have:=HN.out;have:=HM.out;rw [e] at *; omega
  go_enter Tryz.func183,Tryz.ntmps183;go_wp2;go_ret;exact ⟨Qat HE,ZZb _ _⟩
theorem Qek {w:World} {z h l z' h' l':Int} {pa na pb nb:Option Addr} {pn pc nn nc pm pd nm nd:Nat} {P N P' N':List Bn} (hp:P.length=pn) (hn:N.length=nn) (hp':P'.length=pm) (hn':N'.length=nm) (lp:pn<=1048576) (ln:nn<=1048576) (lp':pm<=1048576) (ln':nm<=1048576) (hP:QaA w pa P) (hN:QaA w na N) (hP2:QaA w pb P') (hN2:QaA w nb N') :
  Calls Tryz.prog 97 #[.agg #[.int .u64 z,.slice pa pn pc,.slice na nn nc,.int .i64 h,.int .u64 l],.agg #[.int .u64 z',.slice pb pm pd,.slice nb nm nd,.int .i64 h',.int .u64 l']] w fun e w'=>e=.returned (.bool (Qbc z h l P N z' h' l' P' N'))/\Below w.heap.size w w':=by
 have HP:=Qaa hP;have HN:=Qaa hN;have ae:=Qaa hP2;have ah:=Qaa hN2;clear hP hN hP2 hN2;have hW:∀ o1 o2,Below w.heap.size w ((w.alloc o1).alloc o2):=fun o1 o2=>((Below.refl _ _).alloc (Nat.le_refl _) _).alloc (by simp) _;have HW:=Qaa hW;clear hW;have hq:=QhZ h l h' l';by_cases h1:z=z'
 ·subst h1
  cases hb:(h == h' && l == l') with
  | true=>
   rw [hb] at hq;by_cases h3:P=P'
   ·have d3:decide (P=P')=true:=ZZh h3
    have HE:Hid (decide (N=N')=Qbc z h l P N z h' l' P' N'):=by
     refine (?_:decide (N=N')=Qbc z h l P N z h' l' P' N');simp only [Qbc,hb,d3,beq_self_eq_true,Bool.true_and]
    clear hb h3;go_enter Tryz.func97,Tryz.ntmps97;go_wp2_with fail;refine (Qct _ _ _ _ hp hp' lp lp' (Qae HP (HW.out _ _)) (Qae ae (HW.out _ _))).mono ?_;rintro e w1 ⟨rfl,aa⟩;rw [d3];have ac:=(HW.out _ _).trans (aa.mono (by simp <;> omega));obtain ⟨af,_⟩:=QiC aa;simp at af;have ab:=Qaa ac;clear aa ac;go_wp2_with fail;refine (Qct _ _ _ _ hn hn' ln ln' (Qae HN ab) (Qae ah ab)).mono ?_;rintro e w2 ⟨rfl,ad⟩;have ag:=Qaa (Qac ab ad);clear ad;go_wp2;go_ret;exact ⟨Qat HE,ag⟩
   ·have d3:decide (P=P')=false:=ZZg h3
    have HE:Hid (false=Qbc z h l P N z h' l' P' N'):=by
     refine (?_:false=Qbc z h l P N z h' l' P' N');simp only [Qbc,d3,Bool.and_false,Bool.false_and]
    clear hb h3;go_enter Tryz.func97,Tryz.ntmps97;go_wp2_with fail;refine (Qct _ _ _ _ hp hp' lp lp' (Qae HP (HW.out _ _)) (Qae ae (HW.out _ _))).mono ?_;rintro e w1 ⟨rfl,aa⟩;rw [d3];have ab:=Qaa ((HW.out _ _).trans (aa.mono (by simp <;> omega)));clear aa;go_wp2;go_ret;exact ⟨Qat HE,ab⟩
  | false=>
   rw [hb] at hq
   have HE:Hid (false=Qbc z h l P N z h' l' P' N'):=by
    refine (?_:false=Qbc z h l P N z h' l' P' N');simp only [Qbc,hb,Bool.and_false,Bool.false_and]
   clear hb;go_enter Tryz.func97,Tryz.ntmps97;go_wp2;go_ret;exact ⟨Qat HE,HW.out _ _⟩
 ·have d1:(z == z')=false:=ZZf.2 h1
  have HE:Hid (false=Qbc z h l P N z' h' l' P' N'):=by
   refine (?_:false=Qbc z h l P N z' h' l' P' N');simp only [Qbc,d1,Bool.false_and]
  clear h1;go_enter Tryz.func97,Tryz.ntmps97;go_wp2;go_ret;exact ⟨Qat HE,HW.out _ _⟩
theorem Qhw {w:World} {z h l z' h' l':Int} {pa na pb nb:Option Addr} {pn pc nn nc pm pd nm nd:Nat} {P N P' N':List Bn} (hp:P.length=pn) (hn:N.length=nn) (hp':P'.length=pm) (hn':N'.length=nm) (lp:pn<=1048576) (ln:nn<=1048576) (lp':pm<=1048576) (ln':nm<=1048576) (hP:QaA w pa P) (hN:QaA w na N) (hP2:QaA w pb P') (hN2:QaA w nb N') :
  Calls Tryz.prog 143 #[.agg #[.int .u64 z,.slice pa pn pc,.slice na nn nc,.int .i64 h,.int .u64 l],.agg #[.int .u64 z',.slice pb pm pd,.slice nb nm nd,.int .i64 h',.int .u64 l']] w fun e w'=>e=.returned (.bool (Qbc z h l P N z' h' l' P' N'))/\Below w.heap.size w w':=by
 have HP:=Qaa hP;have HN:=Qaa hN;have ae:=Qaa hP2;have ah:=Qaa hN2;clear hP hN hP2 hN2;have hW:∀ o1 o2,Below w.heap.size w ((w.alloc o1).alloc o2):=fun o1 o2=>((Below.refl _ _).alloc (Nat.le_refl _) _).alloc (by simp) _;have HW:=Qaa hW;clear hW;have hq:=QhZ h l h' l';by_cases h1:z=z'
 ·subst h1
  cases hb:(h == h' && l == l') with
  | true=>
   rw [hb] at hq;by_cases h3:P=P'
   ·have d3:decide (P=P')=true:=ZZh h3
    have HE:Hid (decide (N=N')=Qbc z h l P N z h' l' P' N'):=by
     refine (?_:decide (N=N')=Qbc z h l P N z h' l' P' N');simp only [Qbc,hb,d3,beq_self_eq_true,Bool.true_and]
    clear hb h3;go_enter Tryz.func143,Tryz.ntmps143;go_wp2_with fail;refine (QcQ _ _ _ _ hp hp' lp lp' (Qae HP (HW.out _ _)) (Qae ae (HW.out _ _))).mono ?_;rintro e w1 ⟨rfl,aa⟩;rw [d3];have ac:=(HW.out _ _).trans (aa.mono (by simp <;> omega));obtain ⟨af,_⟩:=QiC aa;simp at af;have ab:=Qaa ac;clear aa ac;go_wp2_with fail;refine (QcQ _ _ _ _ hn hn' ln ln' (Qae HN ab) (Qae ah ab)).mono ?_;rintro e w2 ⟨rfl,ad⟩;have ag:=Qaa (Qac ab ad);clear ad;go_wp2;go_ret;exact ⟨Qat HE,ag⟩
   ·have d3:decide (P=P')=false:=ZZg h3
    have HE:Hid (false=Qbc z h l P N z h' l' P' N'):=by
     refine (?_:false=Qbc z h l P N z h' l' P' N');simp only [Qbc,d3,Bool.and_false,Bool.false_and]
    clear hb h3;go_enter Tryz.func143,Tryz.ntmps143;go_wp2_with fail;refine (QcQ _ _ _ _ hp hp' lp lp' (Qae HP (HW.out _ _)) (Qae ae (HW.out _ _))).mono ?_;rintro e w1 ⟨rfl,aa⟩;rw [d3];have ab:=Qaa ((HW.out _ _).trans (aa.mono (by simp <;> omega)));clear aa;go_wp2;go_ret;exact ⟨Qat HE,ab⟩
  | false=>
   rw [hb] at hq
   have HE:Hid (false=Qbc z h l P N z h' l' P' N'):=by
    refine (?_:false=Qbc z h l P N z h' l' P' N');simp only [Qbc,hb,Bool.and_false,Bool.false_and]
   clear hb;go_enter Tryz.func143,Tryz.ntmps143;go_wp2;go_ret;exact ⟨Qat HE,HW.out _ _⟩
 ·have d1:(z == z')=false:=ZZf.2 h1
  have HE:Hid (false=Qbc z h l P N z' h' l' P' N'):=by
   refine (?_:false=Qbc z h l P N z' h' l' P' N');simp only [Qbc,d1,Bool.false_and]
  clear h1;go_enter Tryz.func143,Tryz.ntmps143;go_wp2;go_ret;exact ⟨Qat HE,HW.out _ _⟩
theorem Qgc {L M:List Int} {n m:Nat} (hn:L.length=n) (hm:M.length=m) (h:n≠m):false=decide (L=M):=by
 rw [eq_comm,decide_eq_false_iff_not];intro e;rw [e] at hn;omega
theorem Qfg {L M:List Int} {k:Nat} {a a':Int} {B:Bool} (h:L[k]?=some a) (g:M[k]?=some a') (e:B=decide (L.drop k=M.drop k)):(a=a'->B=decide (L.drop (k+1)=M.drop (k+1)))/\(a≠a'->false=B):=by
 rw [Qmh h g] at e;exact ⟨fun q=>by rw [e,q,beq_self_eq_true,Bool.true_and],fun q=>by rw [e,beq_eq_false_iff_ne.2 q];rfl⟩
theorem Qe2 {L M:List Int} {n k:Nat} {B:Bool} (hn:L.length=n) (hm:M.length=n) (hk:¬ k<n) (e:B=decide (L.drop k=M.drop k)):true=B:=by
 rw [e,List.drop_eq_nil_of_le (by omega),List.drop_eq_nil_of_le (by omega)];rfl
def Qbs (E R E' R':List Int):Bool:=decide (E=E') && decide (R=R')
theorem Qem {w:World} {ao bo:Option Addr} {L M:List Int} (c c' n m:Nat) (hn:L.length=n) (hm:M.length=m) (ln:n<=1048576) (lm:m<=1048576) (hA:Qaq .u64 w ao L) (hB:Qaq .u64 w bo M) :
  Calls Tryz.prog 184 #[.slice ao n c,.slice bo m c'] w fun e w'=>e=.returned (.bool (decide (L=M)))/\Below w.heap.size w w':=by
 have HN:=Qaa hn;have HM:=Qaa hm;have HA:=Qaa hA;have ag:=Qaa hB;clear hn hm hA hB;by_cases af:n=m
 ·subst af
  go_enter Tryz.func184,Tryz.ntmps184;go_wp2
  go_loopw [13] (fun i wr=>Below w.heap.size w wr/\∃ k:Nat,k<=n/\i=.int .i64 k/\Hid (decide (L=M)=decide (L.drop k=M.drop k))) (fun i wr=>n - (Go.RowKit.intOf i).toNat)
  case atStart=>exact ⟨ZZb _ _,0,ZZj _,rfl,(rfl:decide (L=M)=decide (L.drop 0=M.drop 0))⟩
  case round=>
   obtain ⟨aa,k,hk,rfl,HR⟩:=hrel;have HB:=Qaa aa;by_cases ai:k<n
   ·obtain ⟨a,ad⟩:∃ a,L[k]?=some a:=⟨L[k]'(by have:=HN.out;omega),ZZe _⟩
    obtain ⟨a',ae⟩:∃ a,M[k]?=some a:=⟨M[k]'(by have:=HM.out;omega),ZZe _⟩;obtain ⟨b,am,rfl,ac⟩:=HA.out (by have:=HN.out;omega);obtain ⟨b',ah,rfl,ab⟩:=ag.out (by have:=HM.out;omega);have al:=Qab aa (ac k _ ad);have ak:=Qab aa (ab k _ ae);have HD:=Qaa (Qfg ad ae HR);clear aa ad ae ac ab HR;by_cases he:a=a'
    ·subst he
     have HE:=Qaa (HD.out.1 rfl);clear HD;go_wp2
     go_quiet (fail)
     go_wp2;go_roundw
     case rel=>exact ⟨Qah HB _,k+1,by omega,by go_num,HE⟩
     case measure=>simp [zI];omega
    ·have hq:(a == a')=false:=ZZf.2 he
     have HE:=Qaa (HD.out.2 he);clear he;go_wp2
     go_quiet (fail)
     go_wp2;go_ret;exact ⟨Qa5 HE,Qah HB _⟩
   ·have HE:=Qaa (Qe2 HN HM ai HR)
    clear aa;go_wp2;go_ret;exact ⟨Qa5 HE,HB⟩
 ·have aj:((n:Int) == (m:Int))=false:=ZZf.2 (by omega)
  have HE:=Qaa (Qgc HN HM af);go_enter Tryz.func184,Tryz.ntmps184;go_wp2;go_ret;exact ⟨Qa5 HE,ZZb _ _⟩
theorem Qim {w:World} {ao bo:Option Addr} {L M:List Int} (c c' n m:Nat) (hn:L.length=n) (hm:M.length=m) (ln:n<=1048576) (lm:m<=1048576) (hA:Qaq .i64 w ao L) (hB:Qaq .i64 w bo M) :
  Calls Tryz.prog 185 #[.slice ao n c,.slice bo m c'] w fun e w'=>e=.returned (.bool (decide (L=M)))/\Below w.heap.size w w':=by
 have HN:=Qaa hn;have HM:=Qaa hm;have HA:=Qaa hA;have ag:=Qaa hB;clear hn hm hA hB;by_cases af:n=m
 ·subst af
  go_enter Tryz.func185,Tryz.ntmps185;go_wp2
  go_loopw [13] (fun i wr=>Below w.heap.size w wr/\∃ k:Nat,k<=n/\i=.int .i64 k/\Hid (decide (L=M)=decide (L.drop k=M.drop k))) (fun i wr=>n - (Go.RowKit.intOf i).toNat)
  case atStart=>exact ⟨ZZb _ _,0,ZZj _,rfl,(rfl:decide (L=M)=decide (L.drop 0=M.drop 0))⟩
  case round=>
   obtain ⟨aa,k,hk,rfl,HR⟩:=hrel;have HB:=Qaa aa;by_cases ai:k<n
   ·obtain ⟨a,ad⟩:∃ a,L[k]?=some a:=⟨L[k]'(by have:=HN.out;omega),ZZe _⟩
    obtain ⟨a',ae⟩:∃ a,M[k]?=some a:=⟨M[k]'(by have:=HM.out;omega),ZZe _⟩;obtain ⟨b,am,rfl,ac⟩:=HA.out (by have:=HN.out;omega);obtain ⟨b',ah,rfl,ab⟩:=ag.out (by have:=HM.out;omega);have al:=Qab aa (ac k _ ad);have ak:=Qab aa (ab k _ ae);have HD:=Qaa (Qfg ad ae HR);clear aa ad ae ac ab HR;by_cases he:a=a'
    ·subst he
     have HE:=Qaa (HD.out.1 rfl);clear HD;go_wp2
     go_quiet (fail)
     go_wp2;go_roundw
     case rel=>exact ⟨Qah HB _,k+1,by omega,by go_num,HE⟩
     case measure=>simp [zI];omega
    ·have hq:(a == a')=false:=ZZf.2 he
     have HE:=Qaa (HD.out.2 he);clear he;go_wp2
     go_quiet (fail)
     go_wp2;go_ret;exact ⟨Qa5 HE,Qah HB _⟩
   ·have HE:=Qaa (Qe2 HN HM ai HR)
    clear aa;go_wp2;go_ret;exact ⟨Qa5 HE,HB⟩
 ·have aj:((n:Int) == (m:Int))=false:=ZZf.2 (by omega)
  have HE:=Qaa (Qgc HN HM af);go_enter Tryz.func185,Tryz.ntmps185;go_wp2;go_ret;exact ⟨Qa5 HE,ZZb _ _⟩
theorem Qj0 {w:World} {pa na pb nb:Option Addr} {pn pc nn nc pm pd nm nd:Nat} {P N P' N':List Int} (hp:P.length=pn) (hn:N.length=nn) (hp':P'.length=pm) (hn':N'.length=nm) (lp:pn<=1048576) (ln:nn<=1048576) (lp':pm<=1048576) (ln':nm<=1048576) (hP:Qaq .u64 w pa P) (hN:Qaq .i64 w na N) (hP2:Qaq .u64 w pb P') (hN2:Qaq .i64 w nb N') :
  Calls Tryz.prog 144 #[.agg #[.slice pa pn pc,.slice na nn nc],.agg #[.slice pb pm pd,.slice nb nm nd]] w fun e w'=>e=.returned (.bool (Qbs P N P' N'))/\Below w.heap.size w w':=by
 have HP:=Qaa hP;have HN:=Qaa hN;have ad:=Qaa hP2;have af:=Qaa hN2;clear hP hN hP2 hN2;have hW:∀ o1 o2,Below w.heap.size w ((w.alloc o1).alloc o2):=fun o1 o2=>((Below.refl _ _).alloc (Nat.le_refl _) _).alloc (by simp) _;have HW:=Qaa hW;clear hW;by_cases h3:P=P'
 ·have d3:decide (P=P')=true:=ZZh h3
  have HE:Hid (decide (N=N')=Qbs P N P' N'):=(by simp only [Qbs,d3,Bool.true_and]:decide (N=N')=Qbs P N P' N');clear h3;go_enter Tryz.func144,Tryz.ntmps144;go_wp2_with fail;refine (Qem _ _ _ _ hp hp' lp lp' (Qaf HP (HW.out _ _)) (Qaf ad (HW.out _ _))).mono ?_;rintro e w1 ⟨rfl,aa⟩;rw [d3];have ae:=(HW.out _ _).trans (aa.mono (by simp <;> omega));obtain ⟨ag,_⟩:=QiC aa;simp at ag;have ab:=Qaa ae;clear aa ae;go_wp2_with fail;refine (Qim _ _ _ _ hn hn' ln ln' (Qaf HN ab) (Qaf af ab)).mono ?_;rintro e w2 ⟨rfl,ac⟩;have ah:=Qaa (Qac ab ac);clear ac;go_wp2;go_ret;exact ⟨Qa5 HE,ah⟩
 ·have d3:decide (P=P')=false:=ZZg h3
  have HE:Hid (false=Qbs P N P' N'):=(by simp only [Qbs,d3,Bool.false_and]:false=Qbs P N P' N');clear h3;go_enter Tryz.func144,Tryz.ntmps144;go_wp2_with fail;refine (Qem _ _ _ _ hp hp' lp lp' (Qaf HP (HW.out _ _)) (Qaf ad (HW.out _ _))).mono ?_;rintro e w1 ⟨rfl,aa⟩;rw [d3];have ab:=Qaa ((HW.out _ _).trans (aa.mono (by simp <;> omega)));clear aa;go_wp2;go_ret;exact ⟨Qa5 HE,ab⟩
theorem QpZ (w:World) (t:TypeId) (p n p' n':Value):Qbm ((w.alloc (.cells #[p,n] t)).alloc (.cells #[p',n'] t)) w.heap.size p n/\Qbm ((w.alloc (.cells #[p,n] t)).alloc (.cells #[p',n'] t)) (w.heap.size+1) p' n':=by
 refine ⟨Qbq (QgI w t p n) ((ZZb _ _).alloc (ZZa _) _),?_⟩;have:=QgI (w.alloc (.cells #[p,n] t)) t p' n'
 simpa using this
theorem Qj3 {w:World} {pa na pb nb:Option Addr} {pn pc nn nc pm pd nm nd:Nat} {P N P' N':List Int} (hp:P.length=pn) (hn:N.length=nn) (hp':P'.length=pm) (hn':N'.length=nm) (lp:pn<=1048576) (ln:nn<=1048576) (lp':pm<=1048576) (ln':nm<=1048576) (hP:Qaq .u64 w pa P) (hN:Qaq .i64 w na N) (hP2:Qaq .u64 w pb P') (hN2:Qaq .i64 w nb N') :
  Calls Tryz.prog 98 #[.agg #[.slice pa pn pc,.slice na nn nc],.agg #[.slice pb pm pd,.slice nb nm nd]] w fun e w'=>e=.returned (.bool (Qbs P N P' N'))/\Below w.heap.size w w':=by
 have HP:=Qaa hP;have HN:=Qaa hN;have al:=Qaa hP2;have aj:=Qaa hN2;have EP:=Qaa hp;have EN:=Qaa hn;have ag:=Qaa hp';have af:=Qaa hn';clear hP hN hP2 hN2 hp hn hp' hn';have hW:∀ o1 o2,Below w.heap.size w ((w.alloc o1).alloc o2):=fun o1 o2=>((Below.refl _ _).alloc (Nat.le_refl _) _).alloc (by simp) _;have HW:=Qaa hW;clear hW;by_cases h1:pn=pm
 ·subst h1
  by_cases h2:nn=nm
  ·subst h2
   go_enter Tryz.func98,Tryz.ntmps98;go_wp2
   go_loopw [5] (fun i wr=>Below w.heap.size w wr/\Qbm wr w.heap.size (.slice pa pn pc) (.slice na nn nc)/\Qbm wr (w.heap.size+1) (.slice pb pn pd) (.slice nb nn nd)/\∃ k:Nat,k<=pn/\i=.int .i64 k/\Hid (decide (P=P')=decide (P.drop k=P'.drop k))) (fun i wr=>pn - (Go.RowKit.intOf i).toNat)
   case atStart=>exact ⟨HW.out _ _,(QpZ _ _ _ _ _ _).1,(QpZ _ _ _ _ _ _).2,0,ZZj _,rfl,(rfl:decide (P=P')=decide (P.drop 0=P'.drop 0))⟩
   case round=>
    obtain ⟨ab,hK,hJ,k,hk,rfl,HR⟩:=hrel;have HB:=Qaa ab;have HK:=Qaa hK;have HJ:=Qaa hJ;by_cases am:k<pn
    ·obtain ⟨a,ad⟩:∃ a,P[k]?=some a:=⟨P[k]'(by have:=EP.out;omega),ZZe _⟩
     obtain ⟨a',ae⟩:∃ a,P'[k]?=some a:=⟨P'[k]'(by have:=ag.out;omega),ZZe _⟩;obtain ⟨b,ai,rfl,ac⟩:=HP.out (by have:=EP.out;omega);obtain ⟨b',ah,rfl,aa⟩:=al.out (by have:=ag.out;omega);have ap:=Qab ab (ac k _ ad);have ak:=Qab ab (aa k _ ae);have HD:=Qaa (Qfg ad ae HR);clear ab ad ae ac aa HR;by_cases he:a=a'
     ·subst he
      have HE:=Qaa (HD.out.1 rfl);clear HD;go_wp2
      go_quiet (fail)
      go_wp2;go_roundw
      case rel=>exact ⟨Qah HB _,HK,HJ,k+1,by omega,by go_num,HE⟩
      case measure=>simp [zI];omega
     ·have hq:(a == a')=false:=ZZf.2 he
      have HE:Hid (false=Qbs P N P' N'):=(by simp only [Qbs,<- HD.out.2 he,Bool.false_and]:false=Qbs P N P' N');clear he;go_wp2
      go_quiet (fail)
      go_wp2;go_ret;exact ⟨Qa5 HE,Qah HB _⟩
    ·have aq:=Qaa (Qe2 EP ag am HR)
     clear ab HR;go_wp2
     go_loopw [6] (fun i wr=>Below w.heap.size w wr/\Qbm wr w.heap.size (.slice pa pn pc) (.slice na nn nc)/\Qbm wr (w.heap.size+1) (.slice pb pn pd) (.slice nb nn nd)/\∃ k:Nat,k<=nn/\i=.int .i64 k/\Hid (decide (N=N')=decide (N.drop k=N'.drop k))) (fun i wr=>nn - (Go.RowKit.intOf i).toNat)
     case atStart=>exact ⟨HB,HK,HJ,0,ZZj _,rfl,(rfl:decide (N=N')=decide (N.drop 0=N'.drop 0))⟩
     case round=>
      clear HB HK HJ hK hJ;obtain ⟨ab,hK,hJ,j,hj,rfl,HR⟩:=hrel;have HB:=Qaa ab;have HK:=Qaa hK;have HJ:=Qaa hJ;by_cases ao:j<nn
      ·obtain ⟨a,ad⟩:∃ a,N[j]?=some a:=⟨N[j]'(by have:=EN.out;omega),ZZe _⟩
       obtain ⟨a',ae⟩:∃ a,N'[j]?=some a:=⟨N'[j]'(by have:=af.out;omega),ZZe _⟩;obtain ⟨b,ai,rfl,ac⟩:=HN.out (by have:=EN.out;omega);obtain ⟨b',ah,rfl,aa⟩:=aj.out (by have:=af.out;omega);have ap:=Qab ab (ac j _ ad);have ak:=Qab ab (aa j _ ae);have HD:=Qaa (Qfg ad ae HR);clear ab ad ae ac aa HR;by_cases he:a=a'
       ·subst he
        have HE:=Qaa (HD.out.1 rfl);clear HD;go_wp2
        go_quiet (fail)
        go_wp2;go_roundw
        case rel=>exact ⟨Qah HB _,HK,HJ,j+1,by omega,by go_num,HE⟩
        case measure=>simp [zI];omega
       ·have hq:(a == a')=false:=ZZf.2 he
        have HE:Hid (false=Qbs P N P' N'):=(by simp only [Qbs,<- HD.out.2 he,Bool.and_false]:false=Qbs P N P' N');clear he;go_wp2
        go_quiet (fail)
        go_wp2;go_ret;exact ⟨Qa5 HE,Qah HB _⟩
      ·have HE:Hid (true=Qbs P N P' N'):=(by simp only [Qbs,<- aq.out,<- Qe2 EN.out af.out ao HR.out,Bool.and_true]:true=Qbs P N P' N')
       clear ab HR;go_wp2;go_ret;exact ⟨Qa5 HE,HB⟩
  ·have an:((nn:Int) == (nm:Int))=false:=ZZf.2 (by omega)
   have HE:Hid (false=Qbs P N P' N'):=(by simp only [Qbs,<- Qgc EN.out af.out h2,Bool.and_false]:false=Qbs P N P' N');go_enter Tryz.func98,Tryz.ntmps98;go_wp2;go_ret;exact ⟨Qa5 HE,HW.out _ _⟩
 ·have an:((pn:Int) == (pm:Int))=false:=ZZf.2 (by omega)
  have HE:Hid (false=Qbs P N P' N'):=(by simp only [Qbs,<- Qgc EP.out ag.out h1,Bool.false_and]:false=Qbs P N P' N');go_enter Tryz.func98,Tryz.ntmps98;go_wp2;go_ret;exact ⟨Qa5 HE,HW.out _ _⟩
theorem QdC (a p b q:Int) (w:World):(binOp .neq 40 (.agg #[.int .i64 a,.int .u64 p]) (.agg #[.int .i64 b,.int .u64 q])).run Tryz.prog w=.ok (.bool (!(a == b && p == q))) w:=by
 have hS:Tryz.prog.underlying 40=some (.struct (Tryz.prog.fieldsOf 40)):=by kernel_rfl
 have hp:Tryz.prog.stoodInHeld 40=false:=by kernel_rfl
 rw [run_neq_struct,show (10000:Nat)=9999+1 from rfl,run_equalIn_agg w 9999 40 _ _ hS hp];simp only [Program.fieldsOf,Tryz.underlying40];go_simp;by_cases h1:a=b <;> by_cases h2:p=q <;> simp [h1,h2]
def QaF (g g':Ag):Bool:=(g.k == g'.k) && (g.s == g'.s) && (g.h == g'.h && g.l == g'.l) && (g.a == g'.a) && (g.t == g'.t) && Qbc g.z g.x g.y g.P g.N g'.z g'.x g'.y g'.P g'.N && Qbs g.E g.R g'.E g'.R
theorem Qcx {w:World} {g g':Ag} {p p':Pl} (hs:AgSm g) (hs':AgSm g') (hA:AgAt w g p) (hB:AgAt w g' p') :
  Calls Tryz.prog 102 #[.agg (Qak g p),.agg (Qak g' p')] w fun e w'=>e=.returned (.bool (QaF g g'))/\Below w.heap.size w w':=by
 obtain ⟨k,s,h,l,a,t,z,P,N,x,y,E,R⟩:=g;obtain ⟨k',s',h',l',a',t',z',P',N',x',y',E',R'⟩:=g';obtain ⟨pa,pc,na,nc,ea,ec,ra,rc⟩:=p;obtain ⟨ar,av,ax,aw,au,az,ay,aA⟩:=p';obtain ⟨gP,gN,gE,gR⟩:=hs;obtain ⟨af,ag,aj,ai⟩:=hs';obtain ⟨aP,aN,aE,aR⟩:=hA;obtain ⟨bP,bN,bE,bR⟩:=hB;simp only at gP gN gE gR af ag aj ai aP aN aE aR bP bN bE bR;have HA:=Qaa (And.intro (And.intro aP aN) (And.intro aE aR));have HB:=Qaa (And.intro (And.intro bP bN) (And.intro bE bR));simp only [Qak];obtain ⟨pn,ep⟩:∃ n,P.length=n:=⟨_,rfl⟩;obtain ⟨nn,en⟩:∃ n,N.length=n:=⟨_,rfl⟩;obtain ⟨xn,ex⟩:∃ n,E.length=n:=⟨_,rfl⟩;obtain ⟨rn,er⟩:∃ n,R.length=n:=⟨_,rfl⟩;obtain ⟨pm,ab⟩:∃ n,P'.length=n:=⟨_,rfl⟩;obtain ⟨nm,ad⟩:∃ n,N'.length=n:=⟨_,rfl⟩;obtain ⟨xm,ac⟩:∃ n,E'.length=n:=⟨_,rfl⟩;obtain ⟨rm,ae⟩:∃ n,R'.length=n:=⟨_,rfl⟩;rw [ep] at gP;rw [en] at gN;rw [ex] at gE;rw [er] at gR;rw [ab] at af; rw [ad] at ag; rw [ac] at aj; rw [ae] at ai;rw [ep,en,ex,er,ab,ad,ac,ae];have EP:=Qaa ep;have EN:=Qaa en;have EX:=Qaa ex;have ER:=Qaa er;have ap:=Qaa ab;have an:=Qaa ad;have am:=Qaa ac;have aq:=Qaa ae;clear ep en ex er ab ad ac ae aP aN aE aR bP bN bE bR;have HW:Hid (∀ o1 o2,Below w.heap.size w ((w.alloc o1).alloc o2)):=fun o1 o2=>((Below.refl _ _).alloc (Nat.le_refl _) _).alloc (by simp) _;by_cases qk:k=k'
 rotate_left
 ·have bk:(k == k')=false:=ZZf.2 qk
  have HE:Hid (false=QaF ⟨k,s,h,l,a,t,z,P,N,x,y,E,R⟩ ⟨k',s',h',l',a',t',z',P',N',x',y',E',R'⟩):=(by simp [QaF,qk]:false=QaF ⟨k,s,h,l,a,t,z,P,N,x,y,E,R⟩ ⟨k',s',h',l',a',t',z',P',N',x',y',E',R'⟩);go_enter Tryz.func102,Tryz.ntmps102;go_wp2;go_ret;exact ⟨Qat HE,HW.out _ _⟩
 subst qk;by_cases qs:s=s'
 rotate_left
 ·have bs:(s == s')=false:=ZZf.2 qs
  have HE:Hid (false=QaF ⟨k,s,h,l,a,t,z,P,N,x,y,E,R⟩ ⟨k,s',h',l',a',t',z',P',N',x',y',E',R'⟩):=(by simp [QaF,qs]:false=QaF ⟨k,s,h,l,a,t,z,P,N,x,y,E,R⟩ ⟨k,s',h',l',a',t',z',P',N',x',y',E',R'⟩);go_enter Tryz.func102,Tryz.ntmps102;go_wp2;go_ret;exact ⟨Qat HE,HW.out _ _⟩
 subst qs;by_cases qw:h=h'/\l=l'
 rotate_left
 ·have bw:(h == h' && l == l')=false:=by rw [Bool.eq_false_iff];intro hh;simp at hh;exact qw hh
  have hq:=QdC h l h' l';rw [bw] at hq;clear qw;have HE:Hid (false=QaF ⟨k,s,h,l,a,t,z,P,N,x,y,E,R⟩ ⟨k,s,h',l',a',t',z',P',N',x',y',E',R'⟩):=(by simp [QaF,bw]:false=QaF ⟨k,s,h,l,a,t,z,P,N,x,y,E,R⟩ ⟨k,s,h',l',a',t',z',P',N',x',y',E',R'⟩);go_enter Tryz.func102,Tryz.ntmps102;go_wp2;go_ret;exact ⟨Qat HE,HW.out _ _⟩
 obtain ⟨qh,ql⟩:=qw;subst qh;subst ql;have hq:=QdC h l h l;rw [show (h == h && l == l)=true by simp] at hq;by_cases qa:a=a'
 rotate_left
 ·have ba:(a == a')=false:=ZZf.2 qa
  have HE:Hid (false=QaF ⟨k,s,h,l,a,t,z,P,N,x,y,E,R⟩ ⟨k,s,h,l,a',t',z',P',N',x',y',E',R'⟩):=(by simp [QaF,qa]:false=QaF ⟨k,s,h,l,a,t,z,P,N,x,y,E,R⟩ ⟨k,s,h,l,a',t',z',P',N',x',y',E',R'⟩);go_enter Tryz.func102,Tryz.ntmps102;go_wp2;go_ret;exact ⟨Qat HE,HW.out _ _⟩
 subst qa;by_cases qt:t=t'
 rotate_left
 ·have bt:(t == t')=false:=ZZf.2 qt
  have HE:Hid (false=QaF ⟨k,s,h,l,a,t,z,P,N,x,y,E,R⟩ ⟨k,s,h,l,a,t',z',P',N',x',y',E',R'⟩):=(by simp [QaF,qt]:false=QaF ⟨k,s,h,l,a,t,z,P,N,x,y,E,R⟩ ⟨k,s,h,l,a,t',z',P',N',x',y',E',R'⟩);go_enter Tryz.func102,Tryz.ntmps102;go_wp2;go_ret;exact ⟨Qat HE,HW.out _ _⟩
 subst qt;have HS:Hid (QaF ⟨k,s,h,l,a,t,z,P,N,x,y,E,R⟩ ⟨k,s,h,l,a,t,z',P',N',x',y',E',R'⟩=(Qbc z x y P N z' x' y' P' N' && Qbs E R E' R')):=(by simp [QaF]:QaF ⟨k,s,h,l,a,t,z,P,N,x,y,E,R⟩ ⟨k,s,h,l,a,t,z',P',N',x',y',E',R'⟩=(Qbc z x y P N z' x' y' P' N' && Qbs E R E' R'));go_enter Tryz.func102,Tryz.ntmps102;go_wp2_with fail;refine (Qhw EP EN ap an gP gN af ag (Qae HA.out.1.1 (HW.out _ _)) (Qae HA.out.1.2 (HW.out _ _)) (Qae HB.out.1.1 (HW.out _ _)) (Qae HB.out.1.2 (HW.out _ _))).mono ?_;rintro e w1 ⟨rfl,ah⟩;have aa:=Qaa ((HW.out _ _).trans (ah.mono (by simp <;> omega)));obtain ⟨al,_⟩:=QiC ah;simp at al;clear ah
 cases hsk:Qbc z x y P N z' x' y' P' N' with
 | false=>
  have HE:Hid (false=QaF ⟨k,s,h,l,a,t,z,P,N,x,y,E,R⟩ ⟨k,s,h,l,a,t,z',P',N',x',y',E',R'⟩):=by have:=HS.out;rw [hsk,Bool.false_and] at this;exact this.symm
  go_wp2;go_ret;exact ⟨Qat HE,aa⟩
 | true=>
  have HE:Hid (Qbs E R E' R'=QaF ⟨k,s,h,l,a,t,z,P,N,x,y,E,R⟩ ⟨k,s,h,l,a,t,z',P',N',x',y',E',R'⟩):=by have:=HS.out;rw [hsk,Bool.true_and] at this;exact this.symm
  go_wp2_with fail;refine (Qj0 EX ER am aq gE gR aj ai (Qaf HA.out.2.1 aa) (Qaf HA.out.2.2 aa) (Qaf HB.out.2.1 aa) (Qaf HB.out.2.2 aa)).mono ?_;rintro e w2 ⟨rfl,ak⟩;have ao:=Qaa (Qac aa ak);clear ak;go_wp2;go_ret;exact ⟨Qat HE,ao⟩
theorem QkJ {w:World} {g g':Ag} {p p':Pl} (hs:AgSm g) (hs':AgSm g') (hA:AgAt w g p) (hB:AgAt w g' p') :
  Calls Tryz.prog 49 #[.agg (Qak g p),.agg (Qak g' p')] w fun e w'=>e=.returned (.bool (QaF g g'))/\Below w.heap.size w w':=by
 obtain ⟨k,s,h,l,a,t,z,P,N,x,y,E,R⟩:=g;obtain ⟨k',s',h',l',a',t',z',P',N',x',y',E',R'⟩:=g';obtain ⟨pa,pc,na,nc,ea,ec,ra,rc⟩:=p;obtain ⟨ar,av,ax,aw,au,az,ay,aA⟩:=p';obtain ⟨gP,gN,gE,gR⟩:=hs;obtain ⟨af,ag,aj,ai⟩:=hs';obtain ⟨aP,aN,aE,aR⟩:=hA;obtain ⟨bP,bN,bE,bR⟩:=hB;simp only at gP gN gE gR af ag aj ai aP aN aE aR bP bN bE bR;have HA:=Qaa (And.intro (And.intro aP aN) (And.intro aE aR));have HB:=Qaa (And.intro (And.intro bP bN) (And.intro bE bR));simp only [Qak];obtain ⟨pn,ep⟩:∃ n,P.length=n:=⟨_,rfl⟩;obtain ⟨nn,en⟩:∃ n,N.length=n:=⟨_,rfl⟩;obtain ⟨xn,ex⟩:∃ n,E.length=n:=⟨_,rfl⟩;obtain ⟨rn,er⟩:∃ n,R.length=n:=⟨_,rfl⟩;obtain ⟨pm,ab⟩:∃ n,P'.length=n:=⟨_,rfl⟩;obtain ⟨nm,ad⟩:∃ n,N'.length=n:=⟨_,rfl⟩;obtain ⟨xm,ac⟩:∃ n,E'.length=n:=⟨_,rfl⟩;obtain ⟨rm,ae⟩:∃ n,R'.length=n:=⟨_,rfl⟩;rw [ep] at gP;rw [en] at gN;rw [ex] at gE;rw [er] at gR;rw [ab] at af; rw [ad] at ag; rw [ac] at aj; rw [ae] at ai;rw [ep,en,ex,er,ab,ad,ac,ae];have EP:=Qaa ep;have EN:=Qaa en;have EX:=Qaa ex;have ER:=Qaa er;have ap:=Qaa ab;have an:=Qaa ad;have am:=Qaa ac;have aq:=Qaa ae;clear ep en ex er ab ad ac ae aP aN aE aR bP bN bE bR;have HW:Hid (∀ o1 o2,Below w.heap.size w ((w.alloc o1).alloc o2)):=fun o1 o2=>((Below.refl _ _).alloc (Nat.le_refl _) _).alloc (by simp) _;by_cases qk:k=k'
 rotate_left
 ·have bk:(k == k')=false:=ZZf.2 qk
  have HE:Hid (false=QaF ⟨k,s,h,l,a,t,z,P,N,x,y,E,R⟩ ⟨k',s',h',l',a',t',z',P',N',x',y',E',R'⟩):=(by simp [QaF,qk]:false=QaF ⟨k,s,h,l,a,t,z,P,N,x,y,E,R⟩ ⟨k',s',h',l',a',t',z',P',N',x',y',E',R'⟩);go_enter Tryz.func49,Tryz.ntmps49;go_wp2;go_ret;exact ⟨Qat HE,HW.out _ _⟩
 subst qk;by_cases qs:s=s'
 rotate_left
 ·have bs:(s == s')=false:=ZZf.2 qs
  have HE:Hid (false=QaF ⟨k,s,h,l,a,t,z,P,N,x,y,E,R⟩ ⟨k,s',h',l',a',t',z',P',N',x',y',E',R'⟩):=(by simp [QaF,qs]:false=QaF ⟨k,s,h,l,a,t,z,P,N,x,y,E,R⟩ ⟨k,s',h',l',a',t',z',P',N',x',y',E',R'⟩);go_enter Tryz.func49,Tryz.ntmps49;go_wp2;go_ret;exact ⟨Qat HE,HW.out _ _⟩
 subst qs;by_cases qw:h=h'/\l=l'
 rotate_left
 ·have bw:(h == h' && l == l')=false:=by rw [Bool.eq_false_iff];intro hh;simp at hh;exact qw hh
  have hq:=QhZ h l h' l';rw [bw] at hq;clear qw;have HE:Hid (false=QaF ⟨k,s,h,l,a,t,z,P,N,x,y,E,R⟩ ⟨k,s,h',l',a',t',z',P',N',x',y',E',R'⟩):=(by simp [QaF,bw]:false=QaF ⟨k,s,h,l,a,t,z,P,N,x,y,E,R⟩ ⟨k,s,h',l',a',t',z',P',N',x',y',E',R'⟩);go_enter Tryz.func49,Tryz.ntmps49;go_wp2;go_ret;exact ⟨Qat HE,HW.out _ _⟩
 obtain ⟨qh,ql⟩:=qw;subst qh;subst ql;have hq:=QhZ h l h l;rw [show (h == h && l == l)=true by simp] at hq;by_cases qa:a=a'
 rotate_left
 ·have ba:(a == a')=false:=ZZf.2 qa
  have HE:Hid (false=QaF ⟨k,s,h,l,a,t,z,P,N,x,y,E,R⟩ ⟨k,s,h,l,a',t',z',P',N',x',y',E',R'⟩):=(by simp [QaF,qa]:false=QaF ⟨k,s,h,l,a,t,z,P,N,x,y,E,R⟩ ⟨k,s,h,l,a',t',z',P',N',x',y',E',R'⟩);go_enter Tryz.func49,Tryz.ntmps49;go_wp2;go_ret;exact ⟨Qat HE,HW.out _ _⟩
 subst qa;by_cases qt:t=t'
 rotate_left
 ·have bt:(t == t')=false:=ZZf.2 qt
  have HE:Hid (false=QaF ⟨k,s,h,l,a,t,z,P,N,x,y,E,R⟩ ⟨k,s,h,l,a,t',z',P',N',x',y',E',R'⟩):=(by simp [QaF,qt]:false=QaF ⟨k,s,h,l,a,t,z,P,N,x,y,E,R⟩ ⟨k,s,h,l,a,t',z',P',N',x',y',E',R'⟩);go_enter Tryz.func49,Tryz.ntmps49;go_wp2;go_ret;exact ⟨Qat HE,HW.out _ _⟩
 subst qt;have HS:Hid (QaF ⟨k,s,h,l,a,t,z,P,N,x,y,E,R⟩ ⟨k,s,h,l,a,t,z',P',N',x',y',E',R'⟩=(Qbc z x y P N z' x' y' P' N' && Qbs E R E' R')):=(by simp [QaF]:QaF ⟨k,s,h,l,a,t,z,P,N,x,y,E,R⟩ ⟨k,s,h,l,a,t,z',P',N',x',y',E',R'⟩=(Qbc z x y P N z' x' y' P' N' && Qbs E R E' R'));go_enter Tryz.func49,Tryz.ntmps49;go_wp2_with fail;refine (Qek EP EN ap an gP gN af ag (Qae HA.out.1.1 (HW.out _ _)) (Qae HA.out.1.2 (HW.out _ _)) (Qae HB.out.1.1 (HW.out _ _)) (Qae HB.out.1.2 (HW.out _ _))).mono ?_;rintro e w1 ⟨rfl,ah⟩;have aa:=Qaa ((HW.out _ _).trans (ah.mono (by simp <;> omega)));obtain ⟨al,_⟩:=QiC ah;simp at al;clear ah
 cases hsk:Qbc z x y P N z' x' y' P' N' with
 | false=>
  have HE:Hid (false=QaF ⟨k,s,h,l,a,t,z,P,N,x,y,E,R⟩ ⟨k,s,h,l,a,t,z',P',N',x',y',E',R'⟩):=by have:=HS.out;rw [hsk,Bool.false_and] at this;exact this.symm
  go_wp2;go_ret;exact ⟨Qat HE,aa⟩
 | true=>
  have HE:Hid (Qbs E R E' R'=QaF ⟨k,s,h,l,a,t,z,P,N,x,y,E,R⟩ ⟨k,s,h,l,a,t,z',P',N',x',y',E',R'⟩):=by have:=HS.out;rw [hsk,Bool.true_and] at this;exact this.symm
  go_wp2_with fail;refine (Qj3 EX ER am aq gE gR aj ai (Qaf HA.out.2.1 aa) (Qaf HA.out.2.2 aa) (Qaf HB.out.2.1 aa) (Qaf HB.out.2.2 aa)).mono ?_;rintro e w2 ⟨rfl,ak⟩;have ao:=Qaa (Qac aa ak);clear ak;go_wp2;go_ret;exact ⟨Qat HE,ao⟩
end Go.Proofs.YtandnmpllheniaaGreatDoor
