/-
 Contracts of SketchSame, of the program and of its model.
-/
import Derived.Test.YtmjogablacnlgaaGreatDoorOJB
namespace Go.Proofs.YtmjogablacnlgaaGreatDoor
set_option linter.unusedVariables false
set_option linter.unusedSimpArgs false
open Go.ChangeShapes Go.WideShapes Go.ChangeAt Go.RowKit Go.PlainAid Go.Lib
set_option maxRecDepth 10000
set_option maxHeartbeats 1000000 in
theorem eq_wide (a p b q:Int) (w:World):(binOp .eql 58 (.agg #[.int .i64 a,.int .u64 p]) (.agg #[.int .i64 b,.int .u64 q])).run Tryz.prog w=.ok (.bool (a == b && p == q)) w:=by
 have hS:Tryz.prog.underlying 58=some (.struct (Tryz.prog.fieldsOf 58)):=by kernel_rfl
 have hp:Tryz.prog.stoodInHeld 58=false:=by kernel_rfl
 rw [run_eql_struct,show (10000:Nat)=9999+1 from rfl,run_equalIn_agg w 9999 58 _ _ hS hp];simp only [Program.fieldsOf,Tryz.underlying58];go_simp;by_cases h1:a=b <;> by_cases h2:p=q <;> simp [h1,h2]
set_option maxHeartbeats 1000000 in
theorem neq_bin (a p b q:Int) (w:World):(binOp .neq 128 (.agg #[.int .i64 a,.int .u64 p]) (.agg #[.int .i64 b,.int .u64 q])).run Tryz.prog w=.ok (.bool (!(a == b && p == q))) w:=by
 have hS:Tryz.prog.underlying 128=some (.struct (Tryz.prog.fieldsOf 128)):=by kernel_rfl
 have hp:Tryz.prog.stoodInHeld 128=false:=by kernel_rfl
 rw [run_neq_struct,show (10000:Nat)=9999+1 from rfl,run_equalIn_agg w 9999 128 _ _ hS hp];simp only [Program.fieldsOf,Tryz.underlying128];go_simp;by_cases h1:a=b <;> by_cases h2:p=q <;> simp [h1,h2]
theorem ret_bs {a b:Bool} (h:a=b):Ending.returned (.bool a)=.returned (.bool b):=by rw [h]
theorem drop_same {L M:List Bn} {k:Nat} {a u a' u':Int} (h:L[k]?=some (a,u)) (g:M[k]?=some (a',u')):decide (L.drop k=M.drop k)=((a == a' && u == u') && decide (L.drop (k+1)=M.drop (k+1))):=by
 have hk:=(List.getElem?_eq_some_iff.1 h).1;have gk:=(List.getElem?_eq_some_iff.1 g).1;rw [List.drop_eq_getElem_cons hk,(List.getElem?_eq_some_iff.1 h).2,List.drop_eq_getElem_cons gk,(List.getElem?_eq_some_iff.1 g).2];by_cases h1:a=a' <;> by_cases h2:u=u' <;> simp [h1,h2]
def sameS (z h l:Int) (P N:List Bn) (z' h' l':Int) (P' N':List Bn):Bool:=(z == z') && (h == h' && l == l') && decide (P=P') && decide (N=N')
set_option maxHeartbeats 1000000 in
theorem c_s_l03SameBins {w:World} {ao bo:Option Addr} {L M:List Bn} (c c' n m:Nat) (hn:L.length=n) (hm:M.length=m) (ln:n≤1048576) (lm:m≤1048576) (hA:BinsAt w ao L) (hB:BinsAt w bo M) :
  Calls Tryz.prog 200 #[.slice ao n c,.slice bo m c'] w fun e w'=>e=.returned (.bool (decide (L=M)))∧Below w.heap.size w w':=by
 have HN:=hide hn;have HM:=hide hm;have HA:=hide hA;have HB':=hide hB;clear hn hm hA hB;by_cases hnm:n=m
 ·subst hnm
  go_enter Tryz.func200,Tryz.ntmps200;go_wp2
  go_loopw [5] (fun i wr=>Below w.heap.size w wr∧∃ k:Nat,k≤n∧i=.int .i64 k∧Hid (decide (L=M)=decide (L.drop k=M.drop k))) (fun i wr=>n - (Go.RowKit.intOf i).toNat)
  case atStart=>exact ⟨Below.refl _ _,0,Nat.zero_le _,rfl,(rfl:decide (L=M)=decide (L.drop 0=M.drop 0))⟩
  case round=>
   obtain ⟨hbel,k,hk,rfl,HR⟩:=hrel;have HB:=hide hbel;by_cases hkn:k<n
   ·obtain ⟨⟨a,u⟩,hRk⟩:∃ a,L[k]?=some a:=⟨L[k]'(by have:=HN.out;omega),List.getElem?_eq_getElem _⟩
    obtain ⟨⟨a',u'⟩,hSk⟩:∃ a,M[k]?=some a:=⟨M[k]'(by have:=HM.out;omega),List.getElem?_eq_getElem _⟩;obtain ⟨b,off,rfl,hcell⟩:=HA.out (by have:=HN.out;omega);obtain ⟨b',off',rfl,hcell'⟩:=HB'.out (by have:=HM.out;omega);have hc0:=cell_past hbel (hcell k _ hRk).1;have hc1:=cell_past hbel (hcell k _ hRk).2;have hd0:=cell_past hbel (hcell' k _ hSk).1;have hd1:=cell_past hbel (hcell' k _ hSk).2;have HD:=hide (drop_same hRk hSk);have hq:=neq_bin a u a' u';clear hbel hRk hSk hcell hcell';by_cases he:a=a'∧u=u'
    ·have hb:(a == a' && u == u')=true:=by simp [he.1,he.2]
     have HE:Hid (decide (L=M)=decide (L.drop (k+1)=M.drop (k+1))):=by
      refine (?_:decide (L=M)=decide (L.drop (k+1)=M.drop (k+1)));rw [HR.out,HD.out,hb,Bool.true_and]
     rw [hb] at hq;clear he hb;go_wp2
     go_quiet (fail)
     go_wp2;go_roundw
     case rel=>exact ⟨bel_drews HB.out _,k+1,by omega,by go_num,HE⟩
     case measure=>simp [Go.RowKit.intOf];omega
    ·have hb:(a == a' && u == u')=false:=by
      rw [Bool.eq_false_iff];intro hh;simp at hh;exact he hh
     have HE:Hid (false=decide (L=M)):=by
      refine (?_:false=decide (L=M));rw [HR.out,HD.out,hb,Bool.false_and]
     rw [hb] at hq;clear he hb;go_wp2
     go_quiet (fail)
     go_wp2;go_ret;exact ⟨ret_bs HE.out,bel_drews HB.out _⟩
   ·have HE:Hid (true=decide (L=M)):=by
     refine (?_:true=decide (L=M));rw [HR.out,List.drop_eq_nil_of_le (by have:=HN.out;omega),List.drop_eq_nil_of_le (by have:=HM.out;omega)];rfl
    clear hbel;go_wp2;go_ret;exact ⟨ret_bs HE.out,HB.out⟩
 ·have hni:((n:Int) == (m:Int))=false:=beq_eq_false_iff_ne.2 (by omega)
  have HE:Hid (false=decide (L=M)):=by
   refine (?_:false=decide (L=M));rw [eq_comm,decide_eq_false_iff_not];intro e;have:=HN.out;have:=HM.out;rw [e] at *; omega
  go_enter Tryz.func200,Tryz.ntmps200;go_wp2;go_ret;exact ⟨ret_bs HE.out,Below.refl _ _⟩
set_option maxHeartbeats 1000000 in
theorem c_slices_Equal {w:World} {ao bo:Option Addr} {L M:List Bn} (c c' n m:Nat) (hn:L.length=n) (hm:M.length=m) (ln:n≤1048576) (lm:m≤1048576) (hA:BinsAt w ao L) (hB:BinsAt w bo M) :
  Calls Tryz.prog 257 #[.slice ao n c,.slice bo m c'] w fun e w'=>e=.returned (.bool (decide (L=M)))∧Below w.heap.size w w':=by
 have HN:=hide hn;have HM:=hide hm;have HA:=hide hA;have HB':=hide hB;clear hn hm hA hB;by_cases hnm:n=m
 ·subst hnm
  go_enter Tryz.func257,Tryz.ntmps257;go_wp2
  go_loopw [13] (fun i wr=>Below w.heap.size w wr∧∃ k:Nat,k≤n∧i=.int .i64 k∧Hid (decide (L=M)=decide (L.drop k=M.drop k))) (fun i wr=>n - (Go.RowKit.intOf i).toNat)
  case atStart=>exact ⟨Below.refl _ _,0,Nat.zero_le _,rfl,(rfl:decide (L=M)=decide (L.drop 0=M.drop 0))⟩
  case round=>
   obtain ⟨hbel,k,hk,rfl,HR⟩:=hrel;have HB:=hide hbel;by_cases hkn:k<n
   ·obtain ⟨⟨a,u⟩,hRk⟩:∃ a,L[k]?=some a:=⟨L[k]'(by have:=HN.out;omega),List.getElem?_eq_getElem _⟩
    obtain ⟨⟨a',u'⟩,hSk⟩:∃ a,M[k]?=some a:=⟨M[k]'(by have:=HM.out;omega),List.getElem?_eq_getElem _⟩;obtain ⟨b,off,rfl,hcell⟩:=HA.out (by have:=HN.out;omega);obtain ⟨b',off',rfl,hcell'⟩:=HB'.out (by have:=HM.out;omega);have hc0:=cell_past hbel (hcell k _ hRk).1;have hc1:=cell_past hbel (hcell k _ hRk).2;have hd0:=cell_past hbel (hcell' k _ hSk).1;have hd1:=cell_past hbel (hcell' k _ hSk).2;have HD:=hide (drop_same hRk hSk);have hq:=neq_bin a u a' u';clear hbel hRk hSk hcell hcell';by_cases he:a=a'∧u=u'
    ·have hb:(a == a' && u == u')=true:=by simp [he.1,he.2]
     have HE:Hid (decide (L=M)=decide (L.drop (k+1)=M.drop (k+1))):=by
      refine (?_:decide (L=M)=decide (L.drop (k+1)=M.drop (k+1)));rw [HR.out,HD.out,hb,Bool.true_and]
     rw [hb] at hq;clear he hb;go_wp2
     go_quiet (fail)
     go_wp2;go_roundw
     case rel=>exact ⟨bel_drews HB.out _,k+1,by omega,by go_num,HE⟩
     case measure=>simp [Go.RowKit.intOf];omega
    ·have hb:(a == a' && u == u')=false:=by
      rw [Bool.eq_false_iff];intro hh;simp at hh;exact he hh
     have HE:Hid (false=decide (L=M)):=by
      refine (?_:false=decide (L=M));rw [HR.out,HD.out,hb,Bool.false_and]
     rw [hb] at hq;clear he hb;go_wp2
     go_quiet (fail)
     go_wp2;go_ret;exact ⟨ret_bs HE.out,bel_drews HB.out _⟩
   ·have HE:Hid (true=decide (L=M)):=by
     refine (?_:true=decide (L=M));rw [HR.out,List.drop_eq_nil_of_le (by have:=HN.out;omega),List.drop_eq_nil_of_le (by have:=HM.out;omega)];rfl
    clear hbel;go_wp2;go_ret;exact ⟨ret_bs HE.out,HB.out⟩
 ·have hni:((n:Int) == (m:Int))=false:=beq_eq_false_iff_ne.2 (by omega)
  have HE:Hid (false=decide (L=M)):=by
   refine (?_:false=decide (L=M));rw [eq_comm,decide_eq_false_iff_not];intro e;have:=HN.out;have:=HM.out;rw [e] at *; omega
  go_enter Tryz.func257,Tryz.ntmps257;go_wp2;go_ret;exact ⟨ret_bs HE.out,Below.refl _ _⟩
set_option maxHeartbeats 2000000 in
theorem c_s_SketchSame {w:World} {z h l z' h' l':Int} {pa na pb nb:Option Addr} {pn pc nn nc pm pd nm nd:Nat} {P N P' N':List Bn} (hp:P.length=pn) (hn:N.length=nn) (hp':P'.length=pm) (hn':N'.length=nm) (lp:pn≤1048576) (ln:nn≤1048576) (lp':pm≤1048576) (ln':nm≤1048576) (hP:BinsAt w pa P) (hN:BinsAt w na N) (hP2:BinsAt w pb P') (hN2:BinsAt w nb N') :
  Calls Tryz.prog 175 #[.agg #[.int .u64 z,.slice pa pn pc,.slice na nn nc,.int .i64 h,.int .u64 l],.agg #[.int .u64 z',.slice pb pm pd,.slice nb nm nd,.int .i64 h',.int .u64 l']] w fun e w'=>e=.returned (.bool (sameS z h l P N z' h' l' P' N'))∧Below w.heap.size w w':=by
 have HP:=hide hP;have HN:=hide hN;have HP2:=hide hP2;have HN2:=hide hN2;clear hP hN hP2 hN2;have hW:∀ o1 o2,Below w.heap.size w ((w.alloc o1).alloc o2):=fun o1 o2=>((Below.refl _ _).alloc (Nat.le_refl _) _).alloc (by simp) _;have HW:=hide hW;clear hW;have hq:=eq_wide h l h' l';by_cases h1:z=z'
 ·subst h1
  cases hb:(h == h' && l == l') with
  | true=>
   rw [hb] at hq;by_cases h3:P=P'
   ·have d3:decide (P=P')=true:=decide_eq_true h3
    have HE:Hid (decide (N=N')=sameS z h l P N z h' l' P' N'):=by
     refine (?_:decide (N=N')=sameS z h l P N z h' l' P' N');simp only [sameS,hb,d3,beq_self_eq_true,Bool.true_and]
    clear hb h3;go_enter Tryz.func175,Tryz.ntmps175;go_wp2_with fail;refine (c_s_l03SameBins _ _ _ _ hp hp' lp lp' (bins_past HP.out (HW.out _ _)) (bins_past HP2.out (HW.out _ _))).mono ?_;rintro e w1 ⟨rfl,hb1⟩;rw [d3];have hT1:=(HW.out _ _).trans (hb1.mono (by simp <;> omega));obtain ⟨hc1,_⟩:=bcell hb1;simp at hc1;have HT1:=hide hT1;clear hb1 hT1;go_wp2_with fail;refine (c_s_l03SameBins _ _ _ _ hn hn' ln ln' (bins_past HN.out HT1.out) (bins_past HN2.out HT1.out)).mono ?_;rintro e w2 ⟨rfl,hb2⟩;have HT2:=hide (chain HT1.out hb2);clear hb2;go_wp2;go_ret;exact ⟨ret_bs HE.out,HT2.out⟩
   ·have d3:decide (P=P')=false:=decide_eq_false h3
    have HE:Hid (false=sameS z h l P N z h' l' P' N'):=by
     refine (?_:false=sameS z h l P N z h' l' P' N');simp only [sameS,d3,Bool.and_false,Bool.false_and]
    clear hb h3;go_enter Tryz.func175,Tryz.ntmps175;go_wp2_with fail;refine (c_s_l03SameBins _ _ _ _ hp hp' lp lp' (bins_past HP.out (HW.out _ _)) (bins_past HP2.out (HW.out _ _))).mono ?_;rintro e w1 ⟨rfl,hb1⟩;rw [d3];have HT1:=hide ((HW.out _ _).trans (hb1.mono (by simp <;> omega)));clear hb1;go_wp2;go_ret;exact ⟨ret_bs HE.out,HT1.out⟩
  | false=>
   rw [hb] at hq
   have HE:Hid (false=sameS z h l P N z h' l' P' N'):=by
    refine (?_:false=sameS z h l P N z h' l' P' N');simp only [sameS,hb,Bool.and_false,Bool.false_and]
   clear hb;go_enter Tryz.func175,Tryz.ntmps175;go_wp2;go_ret;exact ⟨ret_bs HE.out,HW.out _ _⟩
 ·have d1:(z == z')=false:=beq_eq_false_iff_ne.2 h1
  have HE:Hid (false=sameS z h l P N z' h' l' P' N'):=by
   refine (?_:false=sameS z h l P N z' h' l' P' N');simp only [sameS,d1,Bool.false_and]
  clear h1;go_enter Tryz.func175,Tryz.ntmps175;go_wp2;go_ret;exact ⟨ret_bs HE.out,HW.out _ _⟩
set_option maxHeartbeats 2000000 in
theorem c_i_SketchSame {w:World} {z h l z' h' l':Int} {pa na pb nb:Option Addr} {pn pc nn nc pm pd nm nd:Nat} {P N P' N':List Bn} (hp:P.length=pn) (hn:N.length=nn) (hp':P'.length=pm) (hn':N'.length=nm) (lp:pn≤1048576) (ln:nn≤1048576) (lp':pm≤1048576) (ln':nm≤1048576) (hP:BinsAt w pa P) (hN:BinsAt w na N) (hP2:BinsAt w pb P') (hN2:BinsAt w nb N') :
  Calls Tryz.prog 234 #[.agg #[.int .u64 z,.slice pa pn pc,.slice na nn nc,.int .i64 h,.int .u64 l],.agg #[.int .u64 z',.slice pb pm pd,.slice nb nm nd,.int .i64 h',.int .u64 l']] w fun e w'=>e=.returned (.bool (sameS z h l P N z' h' l' P' N'))∧Below w.heap.size w w':=by
 have HP:=hide hP;have HN:=hide hN;have HP2:=hide hP2;have HN2:=hide hN2;clear hP hN hP2 hN2;have hW:∀ o1 o2,Below w.heap.size w ((w.alloc o1).alloc o2):=fun o1 o2=>((Below.refl _ _).alloc (Nat.le_refl _) _).alloc (by simp) _;have HW:=hide hW;clear hW;have hq:=eq_wide h l h' l';by_cases h1:z=z'
 ·subst h1
  cases hb:(h == h' && l == l') with
  | true=>
   rw [hb] at hq;by_cases h3:P=P'
   ·have d3:decide (P=P')=true:=decide_eq_true h3
    have HE:Hid (decide (N=N')=sameS z h l P N z h' l' P' N'):=by
     refine (?_:decide (N=N')=sameS z h l P N z h' l' P' N');simp only [sameS,hb,d3,beq_self_eq_true,Bool.true_and]
    clear hb h3;go_enter Tryz.func234,Tryz.ntmps234;go_wp2_with fail;refine (c_slices_Equal _ _ _ _ hp hp' lp lp' (bins_past HP.out (HW.out _ _)) (bins_past HP2.out (HW.out _ _))).mono ?_;rintro e w1 ⟨rfl,hb1⟩;rw [d3];have hT1:=(HW.out _ _).trans (hb1.mono (by simp <;> omega));obtain ⟨hc1,_⟩:=bcell hb1;simp at hc1;have HT1:=hide hT1;clear hb1 hT1;go_wp2_with fail;refine (c_slices_Equal _ _ _ _ hn hn' ln ln' (bins_past HN.out HT1.out) (bins_past HN2.out HT1.out)).mono ?_;rintro e w2 ⟨rfl,hb2⟩;have HT2:=hide (chain HT1.out hb2);clear hb2;go_wp2;go_ret;exact ⟨ret_bs HE.out,HT2.out⟩
   ·have d3:decide (P=P')=false:=decide_eq_false h3
    have HE:Hid (false=sameS z h l P N z h' l' P' N'):=by
     refine (?_:false=sameS z h l P N z h' l' P' N');simp only [sameS,d3,Bool.and_false,Bool.false_and]
    clear hb h3;go_enter Tryz.func234,Tryz.ntmps234;go_wp2_with fail;refine (c_slices_Equal _ _ _ _ hp hp' lp lp' (bins_past HP.out (HW.out _ _)) (bins_past HP2.out (HW.out _ _))).mono ?_;rintro e w1 ⟨rfl,hb1⟩;rw [d3];have HT1:=hide ((HW.out _ _).trans (hb1.mono (by simp <;> omega)));clear hb1;go_wp2;go_ret;exact ⟨ret_bs HE.out,HT1.out⟩
  | false=>
   rw [hb] at hq
   have HE:Hid (false=sameS z h l P N z h' l' P' N'):=by
    refine (?_:false=sameS z h l P N z h' l' P' N');simp only [sameS,hb,Bool.and_false,Bool.false_and]
   clear hb;go_enter Tryz.func234,Tryz.ntmps234;go_wp2;go_ret;exact ⟨ret_bs HE.out,HW.out _ _⟩
 ·have d1:(z == z')=false:=beq_eq_false_iff_ne.2 h1
  have HE:Hid (false=sameS z h l P N z' h' l' P' N'):=by
   refine (?_:false=sameS z h l P N z' h' l' P' N');simp only [sameS,d1,Bool.false_and]
  clear h1;go_enter Tryz.func234,Tryz.ntmps234;go_wp2;go_ret;exact ⟨ret_bs HE.out,HW.out _ _⟩
theorem dec_lens {L M:List Int} {n m:Nat} (hn:L.length=n) (hm:M.length=m) (h:n≠m):false=decide (L=M):=by
 rw [eq_comm,decide_eq_false_iff_not];intro e;rw [e] at hn;omega
theorem drop_step {L M:List Int} {k:Nat} {a a':Int} {B:Bool} (h:L[k]?=some a) (g:M[k]?=some a') (e:B=decide (L.drop k=M.drop k)):(a=a'→B=decide (L.drop (k+1)=M.drop (k+1)))∧(a≠a'→false=B):=by
 rw [drop_sameN h g] at e;exact ⟨fun q=>by rw [e,q,beq_self_eq_true,Bool.true_and],fun q=>by rw [e,beq_eq_false_iff_ne.2 q];rfl⟩
theorem drop_done {L M:List Int} {n k:Nat} {B:Bool} (hn:L.length=n) (hm:M.length=n) (hk:¬ k<n) (e:B=decide (L.drop k=M.drop k)):true=B:=by
 rw [e,List.drop_eq_nil_of_le (by omega),List.drop_eq_nil_of_le (by omega)];rfl
def sameH (E R E' R':List Int):Bool:=decide (E=E') && decide (R=R')
set_option maxHeartbeats 1000000 in
theorem c_EqualUint64S {w:World} {ao bo:Option Addr} {L M:List Int} (c c' n m:Nat) (hn:L.length=n) (hm:M.length=m) (ln:n≤1048576) (lm:m≤1048576) (hA:NumsAt .u64 w ao L) (hB:NumsAt .u64 w bo M) :
  Calls Tryz.prog 258 #[.slice ao n c,.slice bo m c'] w fun e w'=>e=.returned (.bool (decide (L=M)))∧Below w.heap.size w w':=by
 have HN:=hide hn;have HM:=hide hm;have HA:=hide hA;have HB':=hide hB;clear hn hm hA hB;by_cases hnm:n=m
 ·subst hnm
  go_enter Tryz.func258,Tryz.ntmps258;go_wp2
  go_loopw [13] (fun i wr=>Below w.heap.size w wr∧∃ k:Nat,k≤n∧i=.int .i64 k∧Hid (decide (L=M)=decide (L.drop k=M.drop k))) (fun i wr=>n - (Go.RowKit.intOf i).toNat)
  case atStart=>exact ⟨Below.refl _ _,0,Nat.zero_le _,rfl,(rfl:decide (L=M)=decide (L.drop 0=M.drop 0))⟩
  case round=>
   obtain ⟨hbel,k,hk,rfl,HR⟩:=hrel;have HB:=hide hbel;by_cases hkn:k<n
   ·obtain ⟨a,hRk⟩:∃ a,L[k]?=some a:=⟨L[k]'(by have:=HN.out;omega),List.getElem?_eq_getElem _⟩
    obtain ⟨a',hSk⟩:∃ a,M[k]?=some a:=⟨M[k]'(by have:=HM.out;omega),List.getElem?_eq_getElem _⟩;obtain ⟨b,off,rfl,hcell⟩:=HA.out (by have:=HN.out;omega);obtain ⟨b',off',rfl,hcell'⟩:=HB'.out (by have:=HM.out;omega);have hc0:=cell_past hbel (hcell k _ hRk);have hd0:=cell_past hbel (hcell' k _ hSk);have HD:=hide (drop_step hRk hSk HR.out);clear hbel hRk hSk hcell hcell' HR;by_cases he:a=a'
    ·subst he
     have HE:=hide (HD.out.1 rfl);clear HD;go_wp2
     go_quiet (fail)
     go_wp2;go_roundw
     case rel=>exact ⟨bel_drews HB.out _,k+1,by omega,by go_num,HE⟩
     case measure=>simp [Go.RowKit.intOf];omega
    ·have hq:(a == a')=false:=beq_eq_false_iff_ne.2 he
     have HE:=hide (HD.out.2 he);clear he;go_wp2
     go_quiet (fail)
     go_wp2;go_ret;exact ⟨ret_bn HE.out,bel_drews HB.out _⟩
   ·have HE:=hide (drop_done HN.out HM.out hkn HR.out)
    clear hbel;go_wp2;go_ret;exact ⟨ret_bn HE.out,HB.out⟩
 ·have hni:((n:Int) == (m:Int))=false:=beq_eq_false_iff_ne.2 (by omega)
  have HE:=hide (dec_lens HN.out HM.out hnm);go_enter Tryz.func258,Tryz.ntmps258;go_wp2;go_ret;exact ⟨ret_bn HE.out,Below.refl _ _⟩
set_option maxHeartbeats 1000000 in
theorem c_EqualInt64S {w:World} {ao bo:Option Addr} {L M:List Int} (c c' n m:Nat) (hn:L.length=n) (hm:M.length=m) (ln:n≤1048576) (lm:m≤1048576) (hA:NumsAt .i64 w ao L) (hB:NumsAt .i64 w bo M) :
  Calls Tryz.prog 259 #[.slice ao n c,.slice bo m c'] w fun e w'=>e=.returned (.bool (decide (L=M)))∧Below w.heap.size w w':=by
 have HN:=hide hn;have HM:=hide hm;have HA:=hide hA;have HB':=hide hB;clear hn hm hA hB;by_cases hnm:n=m
 ·subst hnm
  go_enter Tryz.func259,Tryz.ntmps259;go_wp2
  go_loopw [13] (fun i wr=>Below w.heap.size w wr∧∃ k:Nat,k≤n∧i=.int .i64 k∧Hid (decide (L=M)=decide (L.drop k=M.drop k))) (fun i wr=>n - (Go.RowKit.intOf i).toNat)
  case atStart=>exact ⟨Below.refl _ _,0,Nat.zero_le _,rfl,(rfl:decide (L=M)=decide (L.drop 0=M.drop 0))⟩
  case round=>
   obtain ⟨hbel,k,hk,rfl,HR⟩:=hrel;have HB:=hide hbel;by_cases hkn:k<n
   ·obtain ⟨a,hRk⟩:∃ a,L[k]?=some a:=⟨L[k]'(by have:=HN.out;omega),List.getElem?_eq_getElem _⟩
    obtain ⟨a',hSk⟩:∃ a,M[k]?=some a:=⟨M[k]'(by have:=HM.out;omega),List.getElem?_eq_getElem _⟩;obtain ⟨b,off,rfl,hcell⟩:=HA.out (by have:=HN.out;omega);obtain ⟨b',off',rfl,hcell'⟩:=HB'.out (by have:=HM.out;omega);have hc0:=cell_past hbel (hcell k _ hRk);have hd0:=cell_past hbel (hcell' k _ hSk);have HD:=hide (drop_step hRk hSk HR.out);clear hbel hRk hSk hcell hcell' HR;by_cases he:a=a'
    ·subst he
     have HE:=hide (HD.out.1 rfl);clear HD;go_wp2
     go_quiet (fail)
     go_wp2;go_roundw
     case rel=>exact ⟨bel_drews HB.out _,k+1,by omega,by go_num,HE⟩
     case measure=>simp [Go.RowKit.intOf];omega
    ·have hq:(a == a')=false:=beq_eq_false_iff_ne.2 he
     have HE:=hide (HD.out.2 he);clear he;go_wp2
     go_quiet (fail)
     go_wp2;go_ret;exact ⟨ret_bn HE.out,bel_drews HB.out _⟩
   ·have HE:=hide (drop_done HN.out HM.out hkn HR.out)
    clear hbel;go_wp2;go_ret;exact ⟨ret_bn HE.out,HB.out⟩
 ·have hni:((n:Int) == (m:Int))=false:=beq_eq_false_iff_ne.2 (by omega)
  have HE:=hide (dec_lens HN.out HM.out hnm);go_enter Tryz.func259,Tryz.ntmps259;go_wp2;go_ret;exact ⟨ret_bn HE.out,Below.refl _ _⟩
set_option maxHeartbeats 2000000 in
theorem c_i_HllSame {w:World} {pa na pb nb:Option Addr} {pn pc nn nc pm pd nm nd:Nat} {P N P' N':List Int} (hp:P.length=pn) (hn:N.length=nn) (hp':P'.length=pm) (hn':N'.length=nm) (lp:pn≤1048576) (ln:nn≤1048576) (lp':pm≤1048576) (ln':nm≤1048576) (hP:NumsAt .u64 w pa P) (hN:NumsAt .i64 w na N) (hP2:NumsAt .u64 w pb P') (hN2:NumsAt .i64 w nb N') :
  Calls Tryz.prog 235 #[.agg #[.slice pa pn pc,.slice na nn nc],.agg #[.slice pb pm pd,.slice nb nm nd]] w fun e w'=>e=.returned (.bool (sameH P N P' N'))∧Below w.heap.size w w':=by
 have HP:=hide hP;have HN:=hide hN;have HP2:=hide hP2;have HN2:=hide hN2;clear hP hN hP2 hN2;have hW:∀ o1 o2,Below w.heap.size w ((w.alloc o1).alloc o2):=fun o1 o2=>((Below.refl _ _).alloc (Nat.le_refl _) _).alloc (by simp) _;have HW:=hide hW;clear hW;by_cases h3:P=P'
 ·have d3:decide (P=P')=true:=decide_eq_true h3
  have HE:Hid (decide (N=N')=sameH P N P' N'):=(by simp only [sameH,d3,Bool.true_and]:decide (N=N')=sameH P N P' N');clear h3;go_enter Tryz.func235,Tryz.ntmps235;go_wp2_with fail;refine (c_EqualUint64S _ _ _ _ hp hp' lp lp' (nums_past HP.out (HW.out _ _)) (nums_past HP2.out (HW.out _ _))).mono ?_;rintro e w1 ⟨rfl,hb1⟩;rw [d3];have hT1:=(HW.out _ _).trans (hb1.mono (by simp <;> omega));obtain ⟨hc1,_⟩:=bcell hb1;simp at hc1;have HT1:=hide hT1;clear hb1 hT1;go_wp2_with fail;refine (c_EqualInt64S _ _ _ _ hn hn' ln ln' (nums_past HN.out HT1.out) (nums_past HN2.out HT1.out)).mono ?_;rintro e w2 ⟨rfl,hb2⟩;have HT2:=hide (chain HT1.out hb2);clear hb2;go_wp2;go_ret;exact ⟨ret_bn HE.out,HT2.out⟩
 ·have d3:decide (P=P')=false:=decide_eq_false h3
  have HE:Hid (false=sameH P N P' N'):=(by simp only [sameH,d3,Bool.false_and]:false=sameH P N P' N');clear h3;go_enter Tryz.func235,Tryz.ntmps235;go_wp2_with fail;refine (c_EqualUint64S _ _ _ _ hp hp' lp lp' (nums_past HP.out (HW.out _ _)) (nums_past HP2.out (HW.out _ _))).mono ?_;rintro e w1 ⟨rfl,hb1⟩;rw [d3];have HT1:=hide ((HW.out _ _).trans (hb1.mono (by simp <;> omega)));clear hb1;go_wp2;go_ret;exact ⟨ret_bn HE.out,HT1.out⟩
set_option maxHeartbeats 1000000 in
theorem neq_wideA (a p b q:Int) (w:World):(binOp .neq 58 (.agg #[.int .i64 a,.int .u64 p]) (.agg #[.int .i64 b,.int .u64 q])).run Tryz.prog w=.ok (.bool (!(a == b && p == q))) w:=by
 have hS:Tryz.prog.underlying 58=some (.struct (Tryz.prog.fieldsOf 58)):=by kernel_rfl
 have hp:Tryz.prog.stoodInHeld 58=false:=by kernel_rfl
 rw [run_neq_struct,show (10000:Nat)=9999+1 from rfl,run_equalIn_agg w 9999 58 _ _ hS hp];simp only [Program.fieldsOf,Tryz.underlying58];go_simp;by_cases h1:a=b <;> by_cases h2:p=q <;> simp [h1,h2]
def sameA (g g':Ag):Bool:=(g.k == g'.k) && (g.s == g'.s) && (g.h == g'.h && g.l == g'.l) && (g.a == g'.a) && (g.t == g'.t) && sameS g.z g.x g.y g.P g.N g'.z g'.x g'.y g'.P g'.N && sameH g.E g.R g'.E g'.R
set_option maxHeartbeats 4000000 in
theorem c_i_AggSame {w:World} {g g':Ag} {p p':Pl} (hs:AgSm g) (hs':AgSm g') (hA:AgAt w g p) (hB:AgAt w g' p') :
  Calls Tryz.prog 207 #[.agg (agArr g p),.agg (agArr g' p')] w fun e w'=>e=.returned (.bool (sameA g g'))∧Below w.heap.size w w':=by
 obtain ⟨k,s,h,l,a,t,z,P,N,x,y,E,R⟩:=g;obtain ⟨k',s',h',l',a',t',z',P',N',x',y',E',R'⟩:=g';obtain ⟨pa,pc,na,nc,ea,ec,ra,rc⟩:=p;obtain ⟨pa',pc',na',nc',ea',ec',ra',rc'⟩:=p';obtain ⟨gP,gN,gE,gR⟩:=hs;obtain ⟨gP',gN',gE',gR'⟩:=hs';obtain ⟨aP,aN,aE,aR⟩:=hA;obtain ⟨bP,bN,bE,bR⟩:=hB;simp only at gP gN gE gR gP' gN' gE' gR' aP aN aE aR bP bN bE bR;have HA:=hide (And.intro (And.intro aP aN) (And.intro aE aR));have HB:=hide (And.intro (And.intro bP bN) (And.intro bE bR));simp only [agArr];obtain ⟨pn,ep⟩:∃ n,P.length=n:=⟨_,rfl⟩;obtain ⟨nn,en⟩:∃ n,N.length=n:=⟨_,rfl⟩;obtain ⟨xn,ex⟩:∃ n,E.length=n:=⟨_,rfl⟩;obtain ⟨rn,er⟩:∃ n,R.length=n:=⟨_,rfl⟩;obtain ⟨pm,ep'⟩:∃ n,P'.length=n:=⟨_,rfl⟩;obtain ⟨nm,en'⟩:∃ n,N'.length=n:=⟨_,rfl⟩;obtain ⟨xm,ex'⟩:∃ n,E'.length=n:=⟨_,rfl⟩;obtain ⟨rm,er'⟩:∃ n,R'.length=n:=⟨_,rfl⟩;rw [ep] at gP;rw [en] at gN;rw [ex] at gE;rw [er] at gR;rw [ep'] at gP'; rw [en'] at gN'; rw [ex'] at gE'; rw [er'] at gR';rw [ep,en,ex,er,ep',en',ex',er'];have EP:=hide ep;have EN:=hide en;have EX:=hide ex;have ER:=hide er;have EP':=hide ep';have EN':=hide en';have EX':=hide ex';have ER':=hide er';clear ep en ex er ep' en' ex' er' aP aN aE aR bP bN bE bR;have HW:Hid (∀ o1 o2,Below w.heap.size w ((w.alloc o1).alloc o2)):=fun o1 o2=>((Below.refl _ _).alloc (Nat.le_refl _) _).alloc (by simp) _;by_cases qk:k=k'
 rotate_left
 ·have bk:(k == k')=false:=beq_eq_false_iff_ne.2 qk
  have HE:Hid (false=sameA ⟨k,s,h,l,a,t,z,P,N,x,y,E,R⟩ ⟨k',s',h',l',a',t',z',P',N',x',y',E',R'⟩):=(by simp [sameA,qk]:false=sameA ⟨k,s,h,l,a,t,z,P,N,x,y,E,R⟩ ⟨k',s',h',l',a',t',z',P',N',x',y',E',R'⟩);go_enter Tryz.func207,Tryz.ntmps207;go_wp2;go_ret;exact ⟨ret_bs HE.out,HW.out _ _⟩
 subst qk;by_cases qs:s=s'
 rotate_left
 ·have bs:(s == s')=false:=beq_eq_false_iff_ne.2 qs
  have HE:Hid (false=sameA ⟨k,s,h,l,a,t,z,P,N,x,y,E,R⟩ ⟨k,s',h',l',a',t',z',P',N',x',y',E',R'⟩):=(by simp [sameA,qs]:false=sameA ⟨k,s,h,l,a,t,z,P,N,x,y,E,R⟩ ⟨k,s',h',l',a',t',z',P',N',x',y',E',R'⟩);go_enter Tryz.func207,Tryz.ntmps207;go_wp2;go_ret;exact ⟨ret_bs HE.out,HW.out _ _⟩
 subst qs;by_cases qw:h=h'∧l=l'
 rotate_left
 ·have bw:(h == h' && l == l')=false:=by rw [Bool.eq_false_iff];intro hh;simp at hh;exact qw hh
  have hq:=neq_wideA h l h' l';rw [bw] at hq;clear qw;have HE:Hid (false=sameA ⟨k,s,h,l,a,t,z,P,N,x,y,E,R⟩ ⟨k,s,h',l',a',t',z',P',N',x',y',E',R'⟩):=(by simp [sameA,bw]:false=sameA ⟨k,s,h,l,a,t,z,P,N,x,y,E,R⟩ ⟨k,s,h',l',a',t',z',P',N',x',y',E',R'⟩);go_enter Tryz.func207,Tryz.ntmps207;go_wp2;go_ret;exact ⟨ret_bs HE.out,HW.out _ _⟩
 obtain ⟨qh,ql⟩:=qw;subst qh;subst ql;have hq:=neq_wideA h l h l;rw [show (h == h && l == l)=true by simp] at hq;by_cases qa:a=a'
 rotate_left
 ·have ba:(a == a')=false:=beq_eq_false_iff_ne.2 qa
  have HE:Hid (false=sameA ⟨k,s,h,l,a,t,z,P,N,x,y,E,R⟩ ⟨k,s,h,l,a',t',z',P',N',x',y',E',R'⟩):=(by simp [sameA,qa]:false=sameA ⟨k,s,h,l,a,t,z,P,N,x,y,E,R⟩ ⟨k,s,h,l,a',t',z',P',N',x',y',E',R'⟩);go_enter Tryz.func207,Tryz.ntmps207;go_wp2;go_ret;exact ⟨ret_bs HE.out,HW.out _ _⟩
 subst qa;by_cases qt:t=t'
 rotate_left
 ·have bt:(t == t')=false:=beq_eq_false_iff_ne.2 qt
  have HE:Hid (false=sameA ⟨k,s,h,l,a,t,z,P,N,x,y,E,R⟩ ⟨k,s,h,l,a,t',z',P',N',x',y',E',R'⟩):=(by simp [sameA,qt]:false=sameA ⟨k,s,h,l,a,t,z,P,N,x,y,E,R⟩ ⟨k,s,h,l,a,t',z',P',N',x',y',E',R'⟩);go_enter Tryz.func207,Tryz.ntmps207;go_wp2;go_ret;exact ⟨ret_bs HE.out,HW.out _ _⟩
 subst qt;have HS:Hid (sameA ⟨k,s,h,l,a,t,z,P,N,x,y,E,R⟩ ⟨k,s,h,l,a,t,z',P',N',x',y',E',R'⟩=(sameS z x y P N z' x' y' P' N' && sameH E R E' R')):=(by simp [sameA]:sameA ⟨k,s,h,l,a,t,z,P,N,x,y,E,R⟩ ⟨k,s,h,l,a,t,z',P',N',x',y',E',R'⟩=(sameS z x y P N z' x' y' P' N' && sameH E R E' R'));go_enter Tryz.func207,Tryz.ntmps207;go_wp2_with fail;refine (c_i_SketchSame EP.out EN.out EP'.out EN'.out gP gN gP' gN' (bins_past HA.out.1.1 (HW.out _ _)) (bins_past HA.out.1.2 (HW.out _ _)) (bins_past HB.out.1.1 (HW.out _ _)) (bins_past HB.out.1.2 (HW.out _ _))).mono ?_;rintro e w1 ⟨rfl,hb1⟩;have HT1:=hide ((HW.out _ _).trans (hb1.mono (by simp <;> omega)));obtain ⟨hc1,_⟩:=bcell hb1;simp at hc1;clear hb1
 cases hsk:sameS z x y P N z' x' y' P' N' with
 | false=>
  have HE:Hid (false=sameA ⟨k,s,h,l,a,t,z,P,N,x,y,E,R⟩ ⟨k,s,h,l,a,t,z',P',N',x',y',E',R'⟩):=by have:=HS.out;rw [hsk,Bool.false_and] at this;exact this.symm
  go_wp2;go_ret;exact ⟨ret_bs HE.out,HT1.out⟩
 | true=>
  have HE:Hid (sameH E R E' R'=sameA ⟨k,s,h,l,a,t,z,P,N,x,y,E,R⟩ ⟨k,s,h,l,a,t,z',P',N',x',y',E',R'⟩):=by have:=HS.out;rw [hsk,Bool.true_and] at this;exact this.symm
  go_wp2_with fail;refine (c_i_HllSame EX.out ER.out EX'.out ER'.out gE gR gE' gR' (nums_past HA.out.2.1 HT1.out) (nums_past HA.out.2.2 HT1.out) (nums_past HB.out.2.1 HT1.out) (nums_past HB.out.2.2 HT1.out)).mono ?_;rintro e w2 ⟨rfl,hb2⟩;have HT2:=hide (chain HT1.out hb2);clear hb2;go_wp2;go_ret;exact ⟨ret_bs HE.out,HT2.out⟩
end Go.Proofs.YtmjogablacnlgaaGreatDoor
