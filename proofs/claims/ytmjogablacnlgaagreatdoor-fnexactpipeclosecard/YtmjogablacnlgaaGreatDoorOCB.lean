/-
 Right cells: what it is.
-/
import Derived.Test.YtmjogablacnlgaaGreatDoorOCA
import Derived.Test.YtmjogablacnlgaaGreatDoorOSB
import Derived.Lib.Bytealg
import Derived.Lib.Walk
namespace Go.Proofs.YtmjogablacnlgaaGreatDoor
set_option linter.unusedVariables false
set_option linter.unusedSimpArgs false
open Go.ChangeShapes Go.WideShapes Go.ChangeAt Go.RowKit Go.PlainAid Go.Lib
set_option maxRecDepth 10000
def cAh (c d:Ce):Bool:=decide (c.n<d.n) || ((c.n == d.n) && strLt c.s d.s)
def winB (n:Int):Bool:=decide (0≤n) && decide (n≤1000000000)
noncomputable def cRi (c:Ce):Bool:=winB c.n && serRB c.s && agB c.g && !(c.g.s == 0)
noncomputable def cRs:Option Ce→List Ce→Bool
 | _,[]=>true
 | none,c :: L=>cRi c && cRs (some c) L
 | some b,c :: L=>(cRi c && cAh b c) && cRs (some c) L
def preC (L:List Ce) (k:Nat):Option Ce:=if k=0 then none else L[k - 1]?
theorem cRs_none {L:List Ce} {c:Ce} (hc:L[0]?=some c):cRs (preC L 0) (L.drop 0)=(cRi c && cRs (preC L 1) (L.drop 1)):=by
 cases L with
 | nil=>cases hc
 | cons d M=>
  obtain rfl:d=c:=by simpa using hc
  simp [preC,cRs]
theorem cRs_some {L:List Ce} {k:Nat} {b c:Ce} (hb:L[k]?=some b) (hc:L[k+1]?=some c):cRs (preC L (k+1)) (L.drop (k+1))=((cRi c && cAh b c) && cRs (preC L (k+1+1)) (L.drop (k+1+1))):=by
 have h1:=(List.getElem?_eq_some_iff.1 hc).1;rw [List.drop_eq_getElem_cons h1,(List.getElem?_eq_some_iff.1 hc).2];have e1:preC L (k+1)=some b:=by unfold preC;rw [if_neg (by omega)];simpa using hb
 have e2:preC L (k+1+1)=some c:=by unfold preC;rw [if_neg (by omega)];simpa using hc
 rw [e1,e2]
 rfl
noncomputable def csR (L:List Ce):Bool:=decide (L.length≤60) && cRs none L
theorem cRi_key {c c':Ce} (h:c.key=c'.key):cRi c=cRi c':=by
 obtain ⟨q,rfl⟩:=key_eq h
 rfl
theorem cAh_key {c d c' d':Ce} (h:c.key=c'.key) (k:d.key=d'.key):cAh c d=cAh c' d':=by
 obtain ⟨q,rfl⟩:=key_eq h;obtain ⟨q',rfl⟩:=key_eq k
 rfl
theorem cRs_key:∀ {L L':List Ce} {b b':Option Ce},b.map Ce.key=b'.map Ce.key→L.map Ce.key=L'.map Ce.key→cRs b L=cRs b' L'
 | [],[],b,b',_,_=>by cases b <;> cases b' <;> rfl
 | c :: L,c' :: L',none,none,_,h=>by
  simp only [List.map_cons,List.cons.injEq] at h;unfold cRs;rw [cRi_key h.1,cRs_key (b:=some c) (b':=some c') (by simp [h.1]) h.2]
 | c :: L,c' :: L',some b,some b',k,h=>by
  simp only [List.map_cons,List.cons.injEq] at h;simp only [Option.map_some,Option.some.injEq] at k;unfold cRs;rw [cRi_key h.1,cAh_key k h.1,cRs_key (b:=some c) (b':=some c') (by simp [h.1]) h.2]
 | _ :: _,_ :: _,none,some _,k,_=>by simp at k
 | _ :: _,_ :: _,some _,none,k,_=>by simp at k
 | [],_ :: _,_,_,_,h=>by simp at h
 | _ :: _,[],_,_,_,h=>by simp at h
theorem csR_key {L L':List Ce} (h:L.map Ce.key=L'.map Ce.key):csR L=csR L':=by
 have e1:L.length=L'.length:=by have:=congrArg List.length h;simpa using this
 unfold csR;rw [e1,cRs_key rfl h]
end Go.Proofs.YtmjogablacnlgaaGreatDoor
namespace Go.Proofs.YtmjogablacnlgaaGreatDoor
set_option linter.unusedVariables false
set_option linter.unusedSimpArgs false
open Go.ChangeShapes Go.WideShapes Go.ChangeAt Go.RowKit Go.PlainAid
set_option maxRecDepth 10000
def cmpS (a b:ByteArray):Int:=Lib.compareBytes a.data.toList b.data.toList
theorem cmpB_lt:∀ a b:List UInt8,decide (Lib.compareBytes a b<0)=Op.bytesLess a b
 | [],[]=>by simp [Lib.compareBytes,Op.bytesLess]
 | [],_ :: _=>by simp [Lib.compareBytes,Op.bytesLess]
 | _ :: _,[]=>by simp [Lib.compareBytes,Op.bytesLess]
 | a :: x,b :: y=>by
  unfold Lib.compareBytes Op.bytesLess;by_cases h:a<b
  ·simp [h]
  ·by_cases h2:b<a
   ·have:a≠b:=fun e=>by subst e;exact h h2
    simp [h,h2,this]
   ·have e:a=b:=by
     simp only [UInt8.lt_iff_toNat_lt] at h h2;exact UInt8.toNat_inj.1 (by omega)
    simp [h,h2,e,cmpB_lt x y]
theorem cmpS_lt (a b:ByteArray):decide (cmpS a b<0)=strLt a b:=by
 unfold cmpS strLt;rw [ByteArray.toList_eq,ByteArray.toList_eq];exact cmpB_lt _ _
set_option maxHeartbeats 1000000 in
set_option maxRecDepth 100000 in
theorem c_CompareString (a b:ByteArray) (w:World) :
  Calls Tryz.prog 193 #[.string a,.string b] w fun e w'=>e=.returned (.int .i64 (cmpS a b))∧w'=w:=by
 go_enter Tryz.func193,Tryz.ntmps193;go_wp2;rw [run_callFunc_extern Tryz.func221 (by kernel_rfl) (by kernel_rfl) (by kernel_rfl) (e:=Extern.BytealgCompare.compare) (by kernel_rfl),Lib.run_compareString];simp only [Result.andThen];rw [Oper.upon_value];go_wp2;go_ret;exact ⟨rfl,rfl⟩
theorem c_Compare (a b:ByteArray) (w:World) :
  Calls Tryz.prog 161 #[.string a,.string b] w fun e w'=>e=.returned (.int .i64 (cmpS a b))∧w'=w:=by
 go_enter Tryz.func161,Tryz.ntmps161;go_wp2_with (go_at_call 193;refine (c_CompareString _ _ _).mono ?_;rintro e w' ⟨rfl,rfl⟩);go_ret;exact ⟨rfl,rfl⟩
open Go.Lib
def cmpW (a b:Int):Int:=if a<b then -1 else if b<a then 1 else 0
def cmpK (n:Int) (s:ByteArray) (n':Int) (s':ByteArray):Int:=if cmpW n n'=0 then cmpS s s' else cmpW n n'
theorem cmpK_ge (c d:Ce):decide (0≤cmpK c.n c.s d.n d.s)=!cAh c d:=by
 unfold cmpK cAh cmpW;have h:=cmpS_lt c.s d.s;by_cases h1:c.n<d.n
 ·simp [h1]
 ·by_cases h2:d.n<c.n
  ·have h3:¬ c.n=d.n:=by omega
   simp [h1,h2,h3]
  ·have h3:c.n=d.n:=by omega
   rw [h3];simp only [Int.lt_irrefl,if_false,if_true,decide_false,Bool.false_or,beq_self_eq_true,Bool.true_and];rw [← h];by_cases q:cmpS c.s d.s<0
   ·simp [q]
   ·rw [decide_eq_false q,decide_eq_true (by omega)];rfl
theorem ret_iR {a b:Int} (h:a=b):Ending.returned (.int .i64 a)=.returned (.int .i64 b):=by rw [h]
theorem c_isNaN (a:Int) (w:World):Calls Tryz.prog 192 #[.int .i64 a] w fun e w'=>e=.returned (.bool false)∧w'=w:=by
 have e1:(a != a)=false:=by simp
 go_enter Tryz.func192,Tryz.ntmps192;go_wp2;go_ret;exact ⟨rfl,rfl⟩
theorem c_cmpCompare (a b:Int) (w:World) :
  Calls Tryz.prog 160 #[.int .i64 a,.int .i64 b] w fun e w'=>e=.returned (.int .i64 (cmpW a b))∧w'=w:=by
 have e1:(a != a)=false:=by simp
 have e2:(b != b)=false:=by simp
 by_cases h1:a<b
 ·have HE:Hid (cmpW a b=-1):=(if_pos h1:cmpW a b=-1)
  go_enter Tryz.func160,Tryz.ntmps160;go_wp2_with (go_at_call 192;refine (c_isNaN _ _).mono ?_;rintro e w1 ⟨rfl,hw1⟩;obtain rfl:=hw1);go_ret;exact ⟨ret_iR HE.out.symm,rfl⟩
 ·by_cases h2:b<a
  ·have HE:Hid (cmpW a b=1):=((if_neg h1).trans (if_pos h2):cmpW a b=1)
   go_enter Tryz.func160,Tryz.ntmps160;go_wp2_with (go_at_call 192;refine (c_isNaN _ _).mono ?_;rintro e w1 ⟨rfl,hw1⟩;obtain rfl:=hw1);go_ret;exact ⟨ret_iR HE.out.symm,rfl⟩
  ·have HE:Hid (cmpW a b=0):=((if_neg h1).trans (if_neg h2):cmpW a b=0)
   go_enter Tryz.func160,Tryz.ntmps160;go_wp2_with (go_at_call 192;refine (c_isNaN _ _).mono ?_;rintro e w1 ⟨rfl,hw1⟩;obtain rfl:=hw1);go_ret;exact ⟨ret_iR HE.out.symm,rfl⟩
def orI (x y:Int):Int:=if x=0 then y else x
theorem c_cmpOr {w:World} {b:Nat} (x y:Int) (h0:w.cell? ⟨b,0,none⟩=some (.int .i64 x)) (h1:w.cell? ⟨b,1,none⟩=some (.int .i64 y)) :
  Calls Tryz.prog 159 #[.slice (some ⟨b,0,none⟩) 2 2] w fun e w'=>e=.returned (.int .i64 (orI x y))∧w'=w:=by
 have H0:=hide h0;have H1:=hide h1;clear h0 h1;go_enter Tryz.func159,Tryz.ntmps159;go_wp2
 go_loopw [8] (fun i wr=>(i=.int .i64 0∨(i=.int .i64 1∧Hid (x=0))∨(i=.int .i64 2∧Hid (x=0∧y=0)))∧wr=w) (fun i wr=>2 - (Go.RowKit.intOf i).toNat)
 case atStart=>exact ⟨.inl rfl,rfl⟩
 case round=>
  obtain ⟨hi,rfl⟩:=hrel;rcases hi with rfl | ⟨rfl,HX⟩ | ⟨rfl,HX⟩
  ·have h0:=H0.out
   by_cases hx:x=0
   ·have HX:=hide hx
    have bx:(x != 0)=false:=by simp [hx]
    clear hx;go_wp2;go_roundw
    case rel=>exact ⟨.inr (.inl ⟨by go_num,HX⟩),by first | rfl | trivial⟩
    case measure=>simp [Go.RowKit.intOf]
   ·have bx:(x != 0)=true:=by simp [hx]
    have HF:Hid (orI x y=x):=(if_neg hx:orI x y=x);clear hx;go_wp2;go_ret;exact ⟨ret_iR HF.out.symm,rfl⟩
  ·have h1:=H1.out
   have HF:Hid (orI x y=y):=(if_pos HX.out:orI x y=y);by_cases hy:y=0
   ·have HY:=hide (And.intro HX.out hy)
    have by':(y != 0)=false:=by simp [hy]
    clear hy;go_wp2;go_roundw
    case rel=>exact ⟨.inr (.inr ⟨by go_num,HY⟩),by first | rfl | trivial⟩
    case measure=>simp [Go.RowKit.intOf]
   ·have by':(y != 0)=true:=by simp [hy]
    clear hy;go_wp2;go_ret;exact ⟨ret_iR HF.out.symm,rfl⟩
  ·have HF:Hid (orI x y=0):=(by unfold orI;rw [if_pos HX.out.1];exact HX.out.2:orI x y=0)
   go_wp2;go_ret;exact ⟨ret_iR HF.out.symm,rfl⟩
set_option maxHeartbeats 2000000 in
theorem c_compareKeys (n:Int) (s:ByteArray) (n':Int) (s':ByteArray) (w:World) :
  Calls Tryz.prog 117 #[.agg #[.int .i64 n,.string s],.agg #[.int .i64 n',.string s']] w fun e w'=>e=.returned (.int .i64 (cmpK n s n' s'))∧Below w.heap.size w w':=by
 have HB0:Hid (∀ o o',Below w.heap.size w ((w.alloc o).alloc o')):=fun o o'=>((Below.refl _ _).alloc (Nat.le_refl _) o).alloc (by simp) o'
 have HN:Hid (∀ T,((w.alloc (.cells #[.int .i64 n,.string s] T)).alloc (.cells #[.int .i64 n',.string s'] T)).heap[w.heap.size]?=some (.cells #[.int .i64 n,.string s] T (0,0))∧((w.alloc (.cells #[.int .i64 n,.string s] T)).alloc (.cells #[.int .i64 n',.string s'] T)).heap[w.heap.size+1]?=some (.cells #[.int .i64 n',.string s'] T (0,0))):=fun T=>by
  have k0:=heap_alloc_new w (.cells #[.int .i64 n,.string s] T);have k1:=heap_alloc_new (w.alloc (.cells #[.int .i64 n,.string s] T)) (.cells #[.int .i64 n',.string s'] T);simp only [World.size_alloc] at k1;exact ⟨(((Below.refl (w.alloc (.cells #[.int .i64 n,.string s] T)).heap.size (w.alloc (.cells #[.int .i64 n,.string s] T))).alloc (Nat.le_refl _) (.cells #[.int .i64 n',.string s'] T)).block _ (by simp)).trans k0,k1⟩
 go_enter Tryz.func117,Tryz.ntmps117;go_wp2_with fail;have HR:=hide (HN.out 152);have HB1:=hide (HB0.out (.cells #[.int .i64 n,.string s] 152) (.cells #[.int .i64 n',.string s'] 152));have hsz:((w.alloc (.cells #[.int .i64 n,.string s] 152)).alloc (.cells #[.int .i64 n',.string s'] 152)).heap.size=w.heap.size+1+1:=by simp
 generalize (w.alloc (.cells #[.int .i64 n,.string s] 152)).alloc (.cells #[.int .i64 n',.string s'] 152)=W0 at HR HB1 hsz ⊢;clear HN HB0;have R0:(fun W=>W.heap[w.heap.size]?=some (.cells #[.int .i64 n,.string s] 152 (0,0))∧W.heap[w.heap.size+1]?=some (.cells #[.int .i64 n',.string s'] 152 (0,0))) W0.drew:=HR.out;refine regionK (fun W=>W.heap[w.heap.size]?=some (.cells #[.int .i64 n,.string s] 152 (0,0))∧W.heap[w.heap.size+1]?=some (.cells #[.int .i64 n',.string s'] 152 (0,0))) 12 (by kernel_rfl) ?_;refine tkL (i:=0) (v:=.pointer (some ⟨w.heap.size,0,none⟩)) rfl rfl R0 (fun W hW=>?_) ?_
 ·have x0:=cellKC hW.1 0 rfl
  have x1:=cellKC hW.1 1 rfl;have y0:=cellKC hW.2 0 rfl;have y1:=cellKC hW.2 1 rfl;clear hW;go_simp
 refine tkL (i:=1) (v:=.int .i64 n) rfl rfl R0 (fun W hW=>?_) ?_
 ·have x0:=cellKC hW.1 0 rfl
  have x1:=cellKC hW.1 1 rfl;have y0:=cellKC hW.2 0 rfl;have y1:=cellKC hW.2 1 rfl;clear hW;go_simp
 refine tkL (i:=2) (v:=.pointer (some ⟨w.heap.size+1,0,none⟩)) rfl rfl R0 (fun W hW=>?_) ?_
 ·have x0:=cellKC hW.1 0 rfl
  have x1:=cellKC hW.1 1 rfl;have y0:=cellKC hW.2 0 rfl;have y1:=cellKC hW.2 1 rfl;clear hW;go_simp
 simp only [sA,sB,sC];refine tkL (i:=3) (v:=.int .i64 n') rfl rfl R0 (fun W hW=>?_) ?_
 ·have x0:=cellKC hW.1 0 rfl
  have x1:=cellKC hW.1 1 rfl;have y0:=cellKC hW.2 0 rfl;have y1:=cellKC hW.2 1 rfl;clear hW;go_simp
 refine tkL (i:=5) (v:=.pointer (some ⟨w.heap.size,1,none⟩)) rfl rfl R0 (fun W hW=>?_) ?_
 ·have x0:=cellKC hW.1 0 rfl
  have x1:=cellKC hW.1 1 rfl;have y0:=cellKC hW.2 0 rfl;have y1:=cellKC hW.2 1 rfl;clear hW;go_simp
 refine tkL (i:=6) (v:=.string s) rfl rfl R0 (fun W hW=>?_) ?_
 ·have x0:=cellKC hW.1 0 rfl
  have x1:=cellKC hW.1 1 rfl;have y0:=cellKC hW.2 0 rfl;have y1:=cellKC hW.2 1 rfl;clear hW;go_simp
 simp only [sA,sB,sC];refine tkL (i:=7) (v:=.pointer (some ⟨w.heap.size+1,1,none⟩)) rfl rfl R0 (fun W hW=>?_) ?_
 ·have x0:=cellKC hW.1 0 rfl
  have x1:=cellKC hW.1 1 rfl;have y0:=cellKC hW.2 0 rfl;have y1:=cellKC hW.2 1 rfl;clear hW;go_simp
 refine tkL (i:=8) (v:=.string s') rfl rfl R0 (fun W hW=>?_) ?_
 ·have x0:=cellKC hW.1 0 rfl
  have x1:=cellKC hW.1 1 rfl;have y0:=cellKC hW.2 0 rfl;have y1:=cellKC hW.2 1 rfl;clear hW;go_simp
 simp only [sA,sB,sC];refine onE (i:=4) rfl (fun K hK=>?_);go_simp;refine (c_cmpCompare n n' _).mono ?_;rintro e wz ⟨rfl,hwz⟩;obtain rfl:=hwz.symm;dsimp only;refine hK.out _ _ (fun _=>R0) ?_;clear hK K
 try simp only [Act.put,sA,sB,sC]
 refine onE (i:=9) rfl (fun K hK=>?_);go_simp;refine (c_Compare s s' _).mono ?_;rintro e wz ⟨rfl,hwz⟩;obtain rfl:=hwz.symm;dsimp only;refine hK.out _ _ (fun _=>R0) ?_;clear hK K
 try simp only [Act.put,sA,sB,sC]
 have k2:=heap_alloc_new W0 (.cells #[.int .i64 (cmpW n n'),.int .i64 (cmpS s s')] 3);rw [hsz] at k2;have k3:(W0.alloc (.cells #[.int .i64 (cmpW n n'),.int .i64 (cmpS s s')] 3)).drew.heap[w.heap.size+1+1]?=some (.cells #[.int .i64 (cmpW n n'),.int .i64 (cmpS s s')] 3 (0,0)):=k2;have HC:=hide (And.intro (cellKC k3 0 rfl) (cellKC k3 1 rfl));clear k2 k3;have hA1:Below W0.heap.size W0 (W0.alloc (.cells #[.int .i64 (cmpW n n'),.int .i64 (cmpS s s')] 3)).drew:=((Below.refl _ _).alloc (Nat.le_refl _) _).drew;have R1:=And.intro ((hA1.block w.heap.size (by omega)).trans HR.out.1) ((hA1.block (w.heap.size+1) (by omega)).trans HR.out.2);have HT1:=hide (chain HB1.out hA1);clear hA1;refine onE (i:=10) rfl (fun K hK=>?_);go_simp;refine hK.out _ _ (fun _=>R1) ?_;clear hK K
 try simp only [Act.put,sA,sB,sC]
 refine onE (i:=11) rfl (fun K hK=>?_);go_simp;refine (c_cmpOr _ _ HC.out.1 HC.out.2).mono ?_;rintro e wz ⟨rfl,hwz⟩;obtain rfl:=hwz.symm;dsimp only;refine hK.out _ _ (fun _=>R1) ?_;clear hK K
 try simp only [Act.put,sA,sB,sC]
 refine onE (i:=12) rfl (fun K hK=>?_);go_simp;refine hK.out _ _ (fun h=>absurd rfl h) ?_;clear hK K
 try simp only [Act.put,sA,sB,sC]
 refine doneK (by kernel_rfl) ?_ _;go_wp2;go_ret;exact ⟨rfl,HT1.out⟩
end Go.Proofs.YtmjogablacnlgaaGreatDoor
