/-
  The contract of impl.wideNegative: the negative of a wide number.
-/
import Derived.Test.YtohjpaokjhifoaaDoorBitsS
import Derived.Test.YtohjpaokjhifoaaDoorMathT
import Derived.Test.YtohjpaokjhifoaaDoorKeep
namespace Go.Proofs.YtohjpaokjhifoaaDoor
open Go.ChangeShapes Go.WideShapes Go.ChangeAt Go.RowKit

theorem neg_sub (a b : Int) (hb : U64 b) : wrap64 (uw (-uw a - brw b 0)) = negH a b ∧ uw (-b) = negL b := by
  refine ⟨?_, rfl⟩
  unfold U64 at hb; unfold negH brw
  by_cases k : b = 0
  · subst k; simp only [Int.add_zero, Int.lt_irrefl, if_false, if_true]; unfold uw wrap64; omega
  · rw [if_neg k, if_pos (by omega)]; unfold uw wrap64; omega

theorem c_wideNegative (a b : Int) (hb : U64 b) (w : World) :
    Calls Tryd.prog 39 #[.agg #[.int .i64 a, .int .u64 b]] w fun e w' => e = .returned (.agg #[.int .i64 (negH a b), .int .u64 (negL b)]) ∧ Below w.heap.size w w' := by
  have HN : Hid (_ ∧ _) := neg_sub a b hb
  have hc : 0 ≤ brw b 0 ∧ brw b 0 ≤ 1 := by unfold brw; split <;> omega
  have k1 := fun w => c_Sub64 b 0 hb (by omega) (by omega) w
  have k2 := fun w => c_Sub64 (uw a) (brw b 0) (uw_in a) hc.1 hc.2 w
  have e1 : IntKind.u64.wrap a = uw a := IntKind.wrap_u64 a
  simp only [Int.sub_zero] at k1
  clear hb hc
  go_enter Tryd.func39, Tryd.ntmps39
  go_wp2
  exact bodyPost_ret (v := .agg #[.int .i64 (wrap64 (uw (-uw a - brw b 0))), .int .u64 (uw (-b))]) (by simp [results, Tryd.results39, go_sem]) rfl ⟨ret_wide HN.out.1 HN.out.2, ((Below.refl _ _).alloc (Nat.le_refl _) _).alloc (by simp) _⟩
end Go.Proofs.YtohjpaokjhifoaaDoor
