/-
 Parts.
-/
import Derived.Test.YtandnmpllheniaaGreatDoorCCA
import Derived.Test.YtandnmpllheniaaGreatDoorCSC
import Derived.Test.YtandnmpllheniaaGreatDoorCKA
import Derived.Lib.Bytealg
import Derived.Lib.Walk
set_option linter.all false
set_option maxHeartbeats 2000000
set_option maxRecDepth 10000
namespace Go.Proofs.YtandnmpllheniaaGreatDoor
open Go.ChangeShapes Go.WideShapes Go.ChangeAt Go.RowKit Go.PlainAid Go.Lib
def cAh (c d:Ce):Bool:=decide (c.n<d.n) || ((c.n == d.n) && Qa4 c.s d.s)
def Qfq (n:Int):Bool:=decide (0<=n) && decide (n<=1000000000)
noncomputable def cRi (c:Ce):Bool:=Qfq c.n && Qbv c.s && agB c.g && !(c.g.s == 0)
noncomputable def cRs:Option Ce->List Ce->Bool
 | _,[]=>true
 | none,c :: L=>cRi c && cRs (some c) L
 | some b,c :: L=>(cRi c && cAh b c) && cRs (some c) L
def QiD (L:List Ce) (k:Nat):Option Ce:=if k=0 then none else L[k - 1]?
theorem Qk1 {L:List Ce} {c:Ce} (hc:L[0]?=some c):cRs (QiD L 0) (L.drop 0)=(cRi c && cRs (QiD L 1) (L.drop 1)):=by
 cases L with
 | nil=>cases hc
 | cons d M=>
  obtain rfl:d=c:=by simpa using hc
  simp [QiD,cRs]
theorem QkN {L:List Ce} {k:Nat} {b c:Ce} (hb:L[k]?=some b) (hc:L[k+1]?=some c):cRs (QiD L (k+1)) (L.drop (k+1))=((cRi c && cAh b c) && cRs (QiD L (k+1+1)) (L.drop (k+1+1))):=by
 have h1:=(ZZd.1 hc).1;rw [List.drop_eq_getElem_cons h1,(List.getElem?_eq_some_iff.1 hc).2];have e1:QiD L (k+1)=some b:=by unfold QiD;rw [if_neg (by omega)];simpa using hb
 have e2:QiD L (k+1+1)=some c:=by unfold QiD;rw [if_neg (by omega)];simpa using hc
 rw [e1,e2]
 rfl
noncomputable def csR (L:List Ce):Bool:=decide (L.length<=60) && cRs none L
theorem QeK {c d c' d':Ce} (h:c.key=c'.key) (k:d.key=d'.key):cAh c d=cAh c' d':=by
 obtain ⟨q,rfl⟩:=Qk3 h;obtain ⟨q',rfl⟩:=Qk3 k
 rfl
end Go.Proofs.YtandnmpllheniaaGreatDoor
namespace Go.Proofs.YtandnmpllheniaaGreatDoor
open Go.ChangeShapes Go.WideShapes Go.ChangeAt Go.RowKit Go.PlainAid
def QkZ (a b:ByteArray):Int:=Lib.compareBytes a.data.toList b.data.toList
theorem Qm0:∀ a b:List UInt8,decide (Lib.compareBytes a b<0)=Op.bytesLess a b
 | [],[]=>by simp [Lib.compareBytes,Op.bytesLess]
 | [],_ :: _=>by simp [Lib.compareBytes,Op.bytesLess]
 | _ :: _,[]=>by simp [Lib.compareBytes,Op.bytesLess]
 | a :: x,b :: y=>by
  unfold Lib.compareBytes Op.bytesLess;by_cases h:a<b
  ·simp [h]
  ·by_cases h2:b<a
   ·have:a≠b:=fun e=>by subst e;exact h h2
    simp [h,h2,this]
   ·have e:a=b:=by
     simp only [UInt8.lt_iff_toNat_lt] at h h2;exact UInt8.toNat_inj.1 (by omega)
    simp [h,h2,e,Qm0 x y]
theorem Qrl (a b:ByteArray):decide (QkZ a b<0)=Qa4 a b:=by
 unfold QkZ Qa4;rw [ByteArray.toList_eq,ByteArray.toList_eq];exact Qm0 _ _
set_option maxRecDepth 100000 in
theorem Qhe (a b:ByteArray) (w:World) :
  Calls Tryz.prog 188 #[.string a,.string b] w fun e w'=>e=.returned (.int .i64 (QkZ a b))/\w'=w:=by
 go_enter Tryz.func188,Tryz.ntmps188;go_wp2;rw [run_callFunc_extern Tryz.func212 (by kernel_rfl) (by kernel_rfl) (by kernel_rfl) (e:=Extern.BytealgCompare.compare) (by kernel_rfl),Lib.run_compareString];simp only [Result.andThen];rw [Oper.upon_value];go_wp2;go_ret;exact ⟨rfl,rfl⟩
theorem Qjg (a b:ByteArray) (w:World) :
  Calls Tryz.prog 151 #[.string a,.string b] w fun e w'=>e=.returned (.int .i64 (QkZ a b))/\w'=w:=by
 go_enter Tryz.func151,Tryz.ntmps151;go_wp2_with (go_at_call 188;refine (Qhe _ _ _).mono ?_;rintro e w' ⟨rfl,rfl⟩);go_ret;exact ⟨rfl,rfl⟩
open Go.Lib
def QiS (a b:Int):Int:=if a<b then -1 else if b<a then 1 else 0
def QnC (n:Int) (s:ByteArray) (n':Int) (s':ByteArray):Int:=if QiS n n'=0 then QkZ s s' else QiS n n'
theorem QmI (c d:Ce):decide (0<=QnC c.n c.s d.n d.s)=!cAh c d:=by
 unfold QnC cAh QiS;have h:=Qrl c.s d.s;by_cases h1:c.n<d.n
 ·simp [h1]
 ·by_cases h2:d.n<c.n
  ·have h3:¬ c.n=d.n:=by omega
   simp [h1,h2,h3]
  ·have h3:c.n=d.n:=by omega
   rw [h3];simp only [Int.lt_irrefl,if_false,if_true,decide_false,Bool.false_or,beq_self_eq_true,Bool.true_and];rw [<- h];by_cases q:QkZ c.s d.s<0
   ·simp [q]
   ·rw [decide_eq_false q,decide_eq_true (by omega)];rfl
theorem QhQ {a b:Int} (h:a=b):Ending.returned (.int .i64 a)=.returned (.int .i64 b):=by rw [h]
theorem Qke (a:Int) (w:World):Calls Tryz.prog 187 #[.int .i64 a] w fun e w'=>e=.returned (.bool false)/\w'=w:=by
 have e1:(a != a)=false:=by simp
 go_enter Tryz.func187,Tryz.ntmps187;go_wp2;go_ret;exact ⟨rfl,rfl⟩
theorem QfU (a b:Int) (w:World) :
  Calls Tryz.prog 150 #[.int .i64 a,.int .i64 b] w fun e w'=>e=.returned (.int .i64 (QiS a b))/\w'=w:=by
 have e1:(a != a)=false:=by simp
 have e2:(b != b)=false:=by simp
 by_cases h1:a<b
 ·have HE:Hid (QiS a b=-1):=(if_pos h1:QiS a b=-1)
  go_enter Tryz.func150,Tryz.ntmps150;go_wp2_with (go_at_call 187;refine (Qke _ _).mono ?_;rintro e w1 ⟨rfl,aa⟩;obtain rfl:=aa);go_ret;exact ⟨QhQ HE.out.symm,rfl⟩
 ·by_cases h2:b<a
  ·have HE:Hid (QiS a b=1):=((if_neg h1).trans (if_pos h2):QiS a b=1)
   go_enter Tryz.func150,Tryz.ntmps150;go_wp2_with (go_at_call 187;refine (Qke _ _).mono ?_;rintro e w1 ⟨rfl,aa⟩;obtain rfl:=aa);go_ret;exact ⟨QhQ HE.out.symm,rfl⟩
  ·have HE:Hid (QiS a b=0):=((if_neg h1).trans (if_neg h2):QiS a b=0)
   go_enter Tryz.func150,Tryz.ntmps150;go_wp2_with (go_at_call 187;refine (Qke _ _).mono ?_;rintro e w1 ⟨rfl,aa⟩;obtain rfl:=aa);go_ret;exact ⟨QhQ HE.out.symm,rfl⟩
def orI (x y:Int):Int:=if x=0 then y else x
theorem QmH {w:World} {b:Nat} (x y:Int) (h0:w.cell? ⟨b,0,none⟩=some (.int .i64 x)) (h1:w.cell? ⟨b,1,none⟩=some (.int .i64 y)) :
  Calls Tryz.prog 149 #[.slice (some ⟨b,0,none⟩) 2 2] w fun e w'=>e=.returned (.int .i64 (orI x y))/\w'=w:=by
 have H0:=Qaa h0;have H1:=Qaa h1;clear h0 h1;go_enter Tryz.func149,Tryz.ntmps149;go_wp2
 go_loopw [8] (fun i wr=>(i=.int .i64 0∨(i=.int .i64 1/\Hid (x=0))∨(i=.int .i64 2/\Hid (x=0/\y=0)))/\wr=w) (fun i wr=>2 - (Go.RowKit.intOf i).toNat)
 case atStart=>exact ⟨.inl rfl,rfl⟩
 case round=>
  obtain ⟨hi,rfl⟩:=hrel;rcases hi with rfl | ⟨rfl,HX⟩ | ⟨rfl,HX⟩
  ·have h0:=H0.out
   by_cases hx:x=0
   ·have HX:=Qaa hx
    have bx:(x != 0)=false:=by simp [hx]
    clear hx;go_wp2;go_roundw
    case rel=>exact ⟨.inr (.inl ⟨by go_num,HX⟩),by first | rfl | trivial⟩
    case measure=>simp [zI]
   ·have bx:(x != 0)=true:=by simp [hx]
    have HF:Hid (orI x y=x):=(if_neg hx:orI x y=x);clear hx;go_wp2;go_ret;exact ⟨QhQ HF.out.symm,rfl⟩
  ·have h1:=H1.out
   have HF:Hid (orI x y=y):=(if_pos HX.out:orI x y=y);by_cases hy:y=0
   ·have HY:=Qaa (And.intro HX hy)
    have aa:(y != 0)=false:=by simp [hy]
    clear hy;go_wp2;go_roundw
    case rel=>exact ⟨.inr (.inr ⟨by go_num,HY⟩),by first | rfl | trivial⟩
    case measure=>simp [zI]
   ·have aa:(y != 0)=true:=by simp [hy]
    clear hy;go_wp2;go_ret;exact ⟨QhQ HF.out.symm,rfl⟩
  ·have HF:Hid (orI x y=0):=(by unfold orI;rw [if_pos HX.out.1];exact HX.out.2:orI x y=0)
   go_wp2;go_ret;exact ⟨QhQ HF.out.symm,rfl⟩
theorem Qiw (n:Int) (s:ByteArray) (n':Int) (s':ByteArray) (w:World) :
  Calls Tryz.prog 109 #[.agg #[.int .i64 n,.string s],.agg #[.int .i64 n',.string s']] w fun e w'=>e=.returned (.int .i64 (QnC n s n' s'))/\Below w.heap.size w w':=by
 have ac:Hid (∀ o o',Below w.heap.size w ((w.alloc o).alloc o')):=fun o o'=>((Below.refl _ _).alloc (Nat.le_refl _) o).alloc (by simp) o'
 have HN:Hid (∀ T,((w.alloc (.cells #[.int .i64 n,.string s] T)).alloc (.cells #[.int .i64 n',.string s'] T)).heap[w.heap.size]?=some (.cells #[.int .i64 n,.string s] T (0,0))/\((w.alloc (.cells #[.int .i64 n,.string s] T)).alloc (.cells #[.int .i64 n',.string s'] T)).heap[w.heap.size+1]?=some (.cells #[.int .i64 n',.string s'] T (0,0))):=fun T=>by
  have k0:=ZZk w (.cells #[.int .i64 n,.string s] T);have k1:=ZZk (w.alloc (.cells #[.int .i64 n,.string s] T)) (.cells #[.int .i64 n',.string s'] T);simp only [World.size_alloc] at k1;exact ⟨(((Below.refl (w.alloc (.cells #[.int .i64 n,.string s] T)).heap.size (w.alloc (.cells #[.int .i64 n,.string s] T))).alloc (Nat.le_refl _) (.cells #[.int .i64 n',.string s'] T)).block _ (by simp)).trans k0,k1⟩
 go_enter Tryz.func109,Tryz.ntmps109;go_wp2_with fail;have HR:=Qaa (HN.out 85);have ae:=Qaa (ac.out (.cells #[.int .i64 n,.string s] 85) (.cells #[.int .i64 n',.string s'] 85));have ad:((w.alloc (.cells #[.int .i64 n,.string s] 85)).alloc (.cells #[.int .i64 n',.string s'] 85)).heap.size=w.heap.size+1+1:=by simp
 generalize (w.alloc (.cells #[.int .i64 n,.string s] 85)).alloc (.cells #[.int .i64 n',.string s'] 85)=W0 at HR ae ad ⊢;clear HN ac;have R0:(fun W=>W.heap[w.heap.size]?=some (.cells #[.int .i64 n,.string s] 85 (0,0))/\W.heap[w.heap.size+1]?=some (.cells #[.int .i64 n',.string s'] 85 (0,0))) W0.drew:=HR.out;refine Qaj (fun W=>W.heap[w.heap.size]?=some (.cells #[.int .i64 n,.string s] 85 (0,0))/\W.heap[w.heap.size+1]?=some (.cells #[.int .i64 n',.string s'] 85 (0,0))) 12 (by kernel_rfl) ?_;refine tkL 0 (.pointer (some ⟨w.heap.size,0,none⟩)) R0 (fun W hW=>?_) ?_
 ·have x0:=Qay hW.1 0 rfl
  have x1:=Qad hW.1 1 rfl;have y0:=Qad hW.2 0 rfl;have y1:=Qad hW.2 1 rfl;clear hW;go_simp
 refine tkL 1 (.int .i64 n) R0 (fun W hW=>?_) ?_
 ·have x0:=Qay hW.1 0 rfl
  have x1:=Qad hW.1 1 rfl;have y0:=Qad hW.2 0 rfl;have y1:=Qad hW.2 1 rfl;clear hW;go_simp
 refine tkL 2 (.pointer (some ⟨w.heap.size+1,0,none⟩)) R0 (fun W hW=>?_) ?_
 ·have x0:=Qay hW.1 0 rfl
  have x1:=Qad hW.1 1 rfl;have y0:=Qad hW.2 0 rfl;have y1:=Qad hW.2 1 rfl;clear hW;go_simp
 simp only [sX];refine tkL 3 (.int .i64 n') R0 (fun W hW=>?_) ?_
 ·have x0:=Qay hW.1 0 rfl
  have x1:=Qad hW.1 1 rfl;have y0:=Qad hW.2 0 rfl;have y1:=Qad hW.2 1 rfl;clear hW;go_simp
 refine tkL 5 (.pointer (some ⟨w.heap.size,1,none⟩)) R0 (fun W hW=>?_) ?_
 ·have x0:=Qay hW.1 0 rfl
  have x1:=Qad hW.1 1 rfl;have y0:=Qad hW.2 0 rfl;have y1:=Qad hW.2 1 rfl;clear hW;go_simp
 refine tkL 6 (.string s) R0 (fun W hW=>?_) ?_
 ·have x0:=Qay hW.1 0 rfl
  have x1:=Qad hW.1 1 rfl;have y0:=Qad hW.2 0 rfl;have y1:=Qad hW.2 1 rfl;clear hW;go_simp
 simp only [sX];refine tkL 7 (.pointer (some ⟨w.heap.size+1,1,none⟩)) R0 (fun W hW=>?_) ?_
 ·have x0:=Qay hW.1 0 rfl
  have x1:=Qad hW.1 1 rfl;have y0:=Qad hW.2 0 rfl;have y1:=Qad hW.2 1 rfl;clear hW;go_simp
 refine tkL 8 (.string s') R0 (fun W hW=>?_) ?_
 ·have x0:=Qay hW.1 0 rfl
  have x1:=Qad hW.1 1 rfl;have y0:=Qad hW.2 0 rfl;have y1:=Qad hW.2 1 rfl;clear hW;go_simp
 simp only [sX];refine onE 4 fun K hK=>?_;go_simp;refine (QfU n n' _).mono ?_;rintro e wz ⟨rfl,aa⟩;obtain rfl:=aa.symm;dsimp only;refine gK hK R0 ?_
 try simp only [sX]
 refine onE 9 fun K hK=>?_;go_simp;refine (Qjg s s' _).mono ?_;rintro e wz ⟨rfl,aa⟩;obtain rfl:=aa.symm;dsimp only;refine gK hK R0 ?_
 try simp only [sX]
 have k2:=ZZk W0 (.cells #[.int .i64 (QiS n n'),.int .i64 (QkZ s s')] 3);rw [ad] at k2;have k3:(W0.alloc (.cells #[.int .i64 (QiS n n'),.int .i64 (QkZ s s')] 3)).drew.heap[w.heap.size+1+1]?=some (.cells #[.int .i64 (QiS n n'),.int .i64 (QkZ s s')] 3 (0,0)):=k2;have HC:=Qaa (And.intro (Qay k3 0 rfl) (Qay k3 1 rfl));clear k2 k3;have ab:Below W0.heap.size W0 (W0.alloc (.cells #[.int .i64 (QiS n n'),.int .i64 (QkZ s s')] 3)).drew:=((ZZb _ _).alloc (ZZa _) _).drew;have R1:=And.intro ((ab.block w.heap.size (by omega)).trans HR.out.1) ((ab.block (w.heap.size+1) (by omega)).trans HR.out.2);have af:=Qaa (Qac ae ab);clear ab;refine onE 10 fun K hK=>?_;go_simp;refine gK hK R1 ?_
 try simp only [sX]
 refine onE 11 fun K hK=>?_;go_simp;refine (QmH _ _ HC.out.1 HC.out.2).mono ?_;rintro e wz ⟨rfl,aa⟩;obtain rfl:=aa.symm;dsimp only;refine gK hK R1 ?_
 try simp only [sX]
 refine onE 12 fun K hK=>?_;go_simp;refine hK.out _ _ (fun h=>absurd rfl h) ?_
 try simp only [sX]
 refine dnE ?_ _;go_wp2;go_ret;exact ⟨rfl,af⟩
end Go.Proofs.YtandnmpllheniaaGreatDoor
