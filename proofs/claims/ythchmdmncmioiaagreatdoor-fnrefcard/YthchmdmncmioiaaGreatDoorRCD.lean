/-
 Right cells: the model.
-/
import Derived.Test.YthchmdmncmioiaaGreatDoorRCB
import Derived.Test.YthchmdmncmioiaaGreatDoorRSE
namespace Go.Proofs.YthchmdmncmioiaaGreatDoor
set_option linter.unusedVariables false
set_option linter.unusedSimpArgs false
open Go.ChangeShapes Go.WideShapes Go.ChangeAt Go.RowKit Go.PlainAid Go.Lib
set_option maxRecDepth 10000
theorem ret_bS {a b:Bool} (h:a=b):Ending.returned (.bool a)=.returned (.bool b):=by rw [h]
theorem c_l01IsW (n lo hi:Int) (w:World):Calls Tryz.prog 90 #[.int .i64 n,.int .i64 lo,.int .i64 hi] w fun e w'=>e=.returned (.bool (decide (lo≤n) && decide (n≤hi)))∧w'=w:=by
 by_cases h1:lo≤n <;> by_cases h2:n≤hi <;> (go_enter Tryz.func90,Tryz.ntmps90;go_wp2;go_ret;exact ⟨by simp [h1,h2],rfl⟩)
theorem c_l08Window (n:Int) (w:World):Calls Tryz.prog 47 #[.int .i64 n] w fun e w'=>e=.returned (.bool (winB n))∧w'=w:=by
 go_enter Tryz.func47,Tryz.ntmps47;go_wp2_with (go_at_call 90;refine (c_l01IsW _ _ _ _).mono ?_;rintro e w1 ⟨rfl,hw1⟩;obtain rfl:=hw1);go_ret;exact ⟨rfl,rfl⟩
set_option maxHeartbeats 2000000 in
theorem c_l08Ahead (c:Ce) (n:Int) (s:ByteArray) (w:World) :
  Calls Tryz.prog 60 #[.agg (ceArr c),.int .i64 n,.string s] w fun e w'=>e=.returned (.bool (decide (c.n<n) || ((c.n == n) && strLt c.s s)))∧Below w.heap.size w w':=by
 have HB0:Hid (Below w.heap.size w (w.alloc (.cells (ceArr c) 51))):=(Below.refl _ _).alloc (Nat.le_refl _) _;obtain ⟨B,hB⟩:∃ B,strLt c.s s=B:=⟨_,rfl⟩;have HL:=hide hB;by_cases h1:c.n<n
 ·have HE:Hid (true=(decide (c.n<n) || ((c.n == n) && strLt c.s s))):=(by simp [h1]:true=(decide (c.n<n) || ((c.n == n) && strLt c.s s)))
  generalize (decide (c.n<n) || ((c.n == n) && strLt c.s s))=Z at HE ⊢;go_enter Tryz.func60,Tryz.ntmps60;go_wp2;go_ret;exact ⟨ret_bS HE.out,HB0.out⟩
 ·by_cases h2:c.n=n
  ·have HE:Hid (B=(decide (c.n<n) || ((c.n == n) && strLt c.s s))):=(by simp [h2,hB]:B=(decide (c.n<n) || ((c.n == n) && strLt c.s s)))
   generalize (decide (c.n<n) || ((c.n == n) && strLt c.s s))=Z at HE ⊢;have b2:(c.n == n)=true:=by simp [h2]
   have hbl:Op.bytesLess c.s.toList s.toList=B:=hB;clear h2 hB HL;go_enter Tryz.func60,Tryz.ntmps60
   cases B <;> (go_wp2;go_ret;exact ⟨ret_bS HE.out,HB0.out⟩)
  ·have HE:Hid (false=(decide (c.n<n) || ((c.n == n) && strLt c.s s))):=(by simp [h1,h2]:false=(decide (c.n<n) || ((c.n == n) && strLt c.s s)))
   generalize (decide (c.n<n) || ((c.n == n) && strLt c.s s))=Z at HE ⊢;have b2:(c.n == n)=false:=beq_eq_false_iff_ne.2 h2;clear h2;go_enter Tryz.func60,Tryz.ntmps60;go_wp2;go_ret;exact ⟨ret_bS HE.out,HB0.out⟩
end Go.Proofs.YthchmdmncmioiaaGreatDoor
