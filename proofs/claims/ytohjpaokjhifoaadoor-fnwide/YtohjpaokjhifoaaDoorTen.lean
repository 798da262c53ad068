/-
  Contracts: a wide number divided by ten, of the program (by math/bits.Div64) and of its model; the negative of a wide number.
-/
import Derived.Test.YtohjpaokjhifoaaDoorTimes
import Derived.Test.YtohjpaokjhifoaaDoorMathD
import Derived.Deep.QuietTactic
import Derived.BigQuiet
namespace Go.Proofs.YtohjpaokjhifoaaDoor
open Go.ChangeShapes Go.WideShapes Go.ChangeAt Go.RowKit

theorem ret_i64 {a b : Int} (h : a = b) : Ending.returned (.int .i64 a) = .returned (.int .i64 b) := by rw [h]
set_option maxRecDepth 100000 in
theorem c_Len64_10 (w : World) :
    Calls Tryd.prog 81 #[.int .u64 10] w fun e w' => e = .returned (.int .i64 4) ∧ w' = w := by
  go_enter Tryd.func81, Tryd.ntmps81
  go_wp2
  go_ret
  exact ⟨ret_i64 (by kernel_rfl), rfl⟩
theorem ret_three {a b c d e f : Int} (h : a = d) (k : b = e) (l : c = f) : Ending.returned (.tuple #[.int .u64 a, .int .u64 b, .int .u64 c]) = .returned (.tuple #[.int .u64 d, .int .u64 e, .int .u64 f]) := by rw [h, k, l]

theorem c_l01Tenth (M : Nat) (hM : M < 340282366920938463463374607431768211456) (w : World) :
    Calls Tryd.prog 79 #[.int .u64 (hiN M), .int .u64 (loN M)] w fun e w' => e = .returned (.tuple #[.int .u64 (hiN (M / 10)), .int .u64 (loN (M / 10)), .int .u64 (dgN M)]) ∧ w' = w := by
  have hh := hiN_in hM
  have hl := loN_in M
  have HT : Hid (_ ∧ _ ∧ _) := ten_all M hM
  have ex := ten_x _ _ hh hl
  have hx : 0 ≤ hiN M % 10 * 4294967296 + loN M / 4294967296 ∧ hiN M % 10 * 4294967296 + loN M / 4294967296 < 42949672960 := by unfold U64 at hh hl; omega
  have ey := ten_y (hiN M % 10 * 4294967296 + loN M / 4294967296) _ hx.1 hl
  have hy : 0 ≤ (hiN M % 10 * 4294967296 + loN M / 4294967296) % 10 * 4294967296 + loN M % 4294967296 ∧ (hiN M % 10 * 4294967296 + loN M / 4294967296) % 10 * 4294967296 + loN M % 4294967296 < 42949672960 := by unfold U64 at hl; omega
  have EZ : Hid (_ = _) := ten_z' _ _ hx.1 hx.2 hy.1 hy.2
  have ed := tmod10 hy.1
  clear hh hl hx hy
  go_enter Tryd.func79, Tryd.ntmps79
  go_wp2
  go_ret3
  exact ⟨ret_three HT.out.1 (EZ.out.trans HT.out.2.1) HT.out.2.2, rfl⟩

theorem c_LeadingZeros64_10 (w : World) :
    Calls Tryd.prog 76 #[.int .u64 10] w fun e w' => e = .returned (.int .i64 60) ∧ w' = w := by
  go_enter Tryd.func76, Tryd.ntmps76
  go_wp2_with (go_at_call 81; refine (c_Len64_10 _).mono ?_; rintro e w1 ⟨rfl, rfl⟩)
  go_ret
  exact ⟨rfl, rfl⟩

set_option maxHeartbeats 1000000 in
theorem c_Div64_10 (h l : Int) (hh : 1 ≤ h) (hh2 : h ≤ 9) (hl : U64 l) (w : World) :
    Calls Tryd.prog 58 #[.int .u64 h, .int .u64 l, .int .u64 10] w fun e w' => e = .returned (.tuple #[.int .u64 (tq h l), .int .u64 (tr h l)]) ∧ w' = w := by
  have h1 : ¬ (10 : Int) ≤ h := by omega
  have h2 : (h == 0) = false := by simp; omega
  have r1 := dU_or h l hh hh2 hl
  have r2 := dm0
  have r3 := dV_w l
  have r4 := dV_1 l
  have r5 := dV_m l
  have r6 := dQ1_w h l hh hh2 hl
  have r7 := dP1_w h l hh hh2 hl
  have r8 := dR1_w h l hh hh2 hl
  have c1 := dQ1_c h l hh hh2 hl
  have c2 := wrap_nn (IntKind.u64.wrap (4294967296 * dR1 h l) + dV1 l)
  have s1 := dW_w h l hh hh2 hl
  have s2 := dQ0_w h l
  have s3 := dP0_w h l
  have s4 := dR0_w h l
  have c3 := dQ0_c h l
  have c4 := wrap_nn (IntKind.u64.wrap (4294967296 * dR0 h l))
  have HE : Hid (_ ∧ _) := d_end h l hh hh2 hl
  clear hl
  go_enter Tryd.func58, Tryd.ntmps58
  go_wp2_with (go_at_call 76; refine (c_LeadingZeros64_10 _).mono ?_; rintro e w1 ⟨rfl, rfl⟩)
  refine wp_loop_rounds 1 ?_; rw [rounds_succ]
  go_wp2
  refine wp_loop_rounds 1 ?_; rw [rounds_succ]
  go_wp2
  go_ret2
  exact ⟨ret_pair HE.out.1 HE.out.2, rfl⟩

theorem c_Div64_0 (l : Int) (hl : U64 l) (w : World) :
    Calls Tryd.prog 58 #[.int .u64 0, .int .u64 l, .int .u64 10] w fun e w' => e = .returned (.tuple #[.int .u64 (tq 0 l), .int .u64 (tr 0 l)]) ∧ ∃ n, w' = w.drewN n := by
  have HE : Hid (_ ∧ _) := d_zero l hl
  clear hl
  go_enter Tryd.func58, Tryd.ntmps58
  go_wp2
  go_quiet (fail)
  go_wp2
  go_ret2
  exact ⟨ret_pair HE.out.1 HE.out.2, _, rfl⟩

theorem c_divideByTen (M : Nat) (hM : M < 340282366920938463463374607431768211456) (w : World) :
    Calls Tryd.prog 40 #[.int .u64 (hiN M), .int .u64 (loN M)] w fun e w' => e = .returned (.tuple #[.int .u64 (hiN (M / 10)), .int .u64 (loN (M / 10)), .int .u64 (dgN M)]) ∧ ∃ n, w' = w.drewN n := by
  have hh := hiN_in hM
  have hl := loN_in M
  have HT : Hid (_ ∧ _ ∧ _) := d_ten M hM
  have em := tmod10 hh.1
  have hm : 0 ≤ hiN M % 10 ∧ hiN M % 10 ≤ 9 := by omega
  generalize hg : hiN M % 10 = m at *
  have HG : Hid (hiN M % 10 = m) := hg
  clear hg
  have HC : Hid (∀ w, Calls Tryd.prog 58 #[.int .u64 m, .int .u64 (loN M), .int .u64 10] w fun e w' => e = .returned (.tuple #[.int .u64 (tq m (loN M)), .int .u64 (tr m (loN M))]) ∧ ∃ n, w' = w.drewN n) := by
    intro w
    by_cases e : m = 0
    · subst e; exact c_Div64_0 _ hl w
    · exact (c_Div64_10 m _ (by omega) hm.2 hl w).mono fun e w' h => ⟨h.1, 0, h.2⟩
  clear hh hl hm
  go_enter Tryd.func40, Tryd.ntmps40
  go_wp2_with (go_at_call 58; refine (HC.out _).mono ?_; rintro e w1 ⟨rfl, n, rfl⟩)
  go_ret3
  exact ⟨ret_three HT.out.1 HT.out.2.1 HT.out.2.2, _, rfl⟩
end Go.Proofs.YtohjpaokjhifoaaDoor
