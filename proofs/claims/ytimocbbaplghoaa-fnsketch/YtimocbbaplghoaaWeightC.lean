/-
  Contracts of WeightAdd, of the program and of its model: the sum, up to 2^64-1.
-/
import Derived.Test.YtimocbbaplghoaaBits
namespace Go.Proofs.Ytimocbbaplghoaa
open Go.ChangeShapes Go.WideShapes Go.ChangeAt Go.RowKit

/-- The sum of two weights. -/
def wAdd (a b : Int) : Int := if 18446744073709551615 < a + b then 18446744073709551615 else a + b
theorem ret_u64 {a b : Int} (h : a = b) : Ending.returned (.int .u64 a) = .returned (.int .u64 b) := by rw [h]

theorem c_s_WeightAdd (a b : Int) (ha : U64 a) (hb : U64 b) (w : World) :
    Calls Try.prog 55 #[.int .u64 a, .int .u64 b] w fun e w' => e = .returned (.int .u64 (wAdd a b)) ∧ w' = w := by
  have Ha : Hid (U64 a) := ha
  have Hb : Hid (U64 b) := hb
  clear ha hb
  go_enter Try.func55, Try.ntmps55
  go_wp2
  · have h := ‹IntKind.u64.wrap (a + b) < a›
    have ha := Ha.out; have hb := Hb.out
    go_ret
    refine ⟨ret_u64 ?_, rfl⟩
    rw [IntKind.wrap_u64] at h; unfold U64 at ha hb; unfold wAdd; rw [if_pos (by omega)]
  · have h := ‹a ≤ IntKind.u64.wrap (a + b)›
    have ha := Ha.out; have hb := Hb.out
    go_ret
    refine ⟨ret_u64 ?_, rfl⟩
    rw [IntKind.wrap_u64] at h ⊢; unfold U64 at ha hb; unfold wAdd; rw [if_neg (by omega)]; omega

theorem c_i_WeightAdd (a b : Int) (ha : U64 a) (hb : U64 b) (w : World) :
    Calls Try.prog 18 #[.int .u64 a, .int .u64 b] w fun e w' => e = .returned (.int .u64 (wAdd a b)) ∧ w' = w := by
  have k1 := fun w => c_Add64 a b 0 ha.1 hb.1 (by omega) (by omega) w
  simp only [Int.add_zero] at k1
  have Ha : Hid (U64 a) := ha
  have Hb : Hid (U64 b) := hb
  clear ha hb
  go_enter Try.func18, Try.ntmps18
  go_wp2
  · have h := ‹0 < addC a b›
    have ha := Ha.out; have hb := Hb.out
    go_ret
    refine ⟨ret_u64 ?_, rfl⟩
    unfold addC at h; unfold U64 at ha hb; unfold wAdd; rw [if_pos (by omega)]
  · have h := ‹addC a b ≤ 0›
    have ha := Ha.out; have hb := Hb.out
    go_ret
    refine ⟨ret_u64 ?_, rfl⟩
    unfold addC at h; unfold uw; unfold U64 at ha hb; unfold wAdd; rw [if_neg (by omega)]; omega
end Go.Proofs.Ytimocbbaplghoaa
