/-
  Plain facts on a wide number divided by ten. Of no program.
-/
import Derived.Test.YtohjpaokjhifoaaDoorMathT
import Derived.Laws.BitsAllLaws
namespace Go.Proofs.YtohjpaokjhifoaaDoor
set_option linter.unusedVariables false
set_option linter.unusedSimpArgs false
open Go.RowKit

/-- The halves of a natural number below 2^128, and its last digit. -/
def hiN (M : Nat) : Int := ((M / 18446744073709551616 : Nat) : Int)
def loN (M : Nat) : Int := ((M % 18446744073709551616 : Nat) : Int)
def dgN (M : Nat) : Int := ((M % 10 : Nat) : Int)

theorem hiN_in {M : Nat} (h : M < 340282366920938463463374607431768211456) : U64 (hiN M) := by unfold U64 hiN; omega
theorem loN_in (M : Nat) : U64 (loN M) := by unfold U64 loN; omega
theorem dgN_in (M : Nat) : 0 ≤ dgN M ∧ dgN M ≤ 9 := by unfold dgN; omega

/-- What lies apart is put together by a sum. -/
theorem or_add (a b s : Nat) (k : Nat) (ha : a = s * 2 ^ k) (hb : b < 2 ^ k) : a ||| b = a + b := by
  subst ha
  rw [Nat.mul_comm, ← Nat.two_pow_add_eq_or_of_lt hb]
theorem or_u64 (a b : Int) (k : Nat) (s : Int) (ha : a = s * 2 ^ k) (hs : 0 ≤ s) (hb0 : 0 ≤ b) (hb : b < 2 ^ k) (hsum : a + b < 18446744073709551616) : bits .or .u64 a b = a + b := by
  obtain ⟨s, rfl⟩ := Int.eq_ofNat_of_zero_le hs
  obtain ⟨b, rfl⟩ := Int.eq_ofNat_of_zero_le hb0
  have e : a = ((s * 2 ^ k : Nat) : Int) := by rw [ha]; simp
  subst e
  have hb' : b < 2 ^ k := by exact_mod_cast hb
  have h1 : s * 2 ^ k + b < 18446744073709551616 := by
    generalize s * 2 ^ k = X at hsum ⊢
    omega
  rw [u64_or_nat _ _ (by omega) (by omega), or_add _ _ s k rfl hb']
  simp

theorem tdiv10 {x : Int} (h : 0 ≤ x) : x.tdiv 10 = x / 10 := Int.tdiv_eq_ediv_of_nonneg h
theorem tmod10 {x : Int} (h : 0 ≤ x) : x.tmod 10 = x % 10 := Int.tmod_eq_emod_of_nonneg h

theorem ten_x (h l : Int) (hh : U64 h) (hl : U64 l) : bits BinOp.or IntKind.u64 (IntKind.u64.wrap (h.tmod 10 * 4294967296)) (l / 4294967296) = (h % 10) * 4294967296 + l / 4294967296 := by
  unfold U64 at hh hl
  rw [tmod10 hh.1, IntKind.wrap_u64, show h % 10 * 4294967296 % 18446744073709551616 = h % 10 * 4294967296 by omega]
  exact or_u64 _ _ 32 (h % 10) rfl (by omega) (by omega) (by show l / 4294967296 < 4294967296; omega) (by omega)
theorem ten_y (x l : Int) (hx : 0 ≤ x) (hl : U64 l) : bits BinOp.or IntKind.u64 (IntKind.u64.wrap (x.tmod 10 * 4294967296)) (bits BinOp.and IntKind.u64 l 4294967295) = (x % 10) * 4294967296 + l % 4294967296 := by
  unfold U64 at hl
  rw [tmod10 hx, IntKind.wrap_u64, and_low32 l hl.1 (by omega), show x % 10 * 4294967296 % 18446744073709551616 = x % 10 * 4294967296 by omega]
  exact or_u64 _ _ 32 (x % 10) rfl (by omega) (by omega) (by show l % 4294967296 < 4294967296; omega) (by omega)
theorem ten_z (x y : Int) (hx : 0 ≤ x) (hx2 : x < 42949672960) (hy : 0 ≤ y) (hy2 : y < 42949672960) : bits BinOp.or IntKind.u64 (IntKind.u64.wrap (IntKind.u64.wrap (x.tdiv 10) * 4294967296)) (IntKind.u64.wrap (y.tdiv 10)) = x / 10 * 4294967296 + y / 10 := by
  rw [tdiv10 hx, tdiv10 hy, IntKind.wrap_u64, IntKind.wrap_u64, IntKind.wrap_u64, show x / 10 % 18446744073709551616 = x / 10 by omega, show y / 10 % 18446744073709551616 = y / 10 by omega, show x / 10 * 4294967296 % 18446744073709551616 = x / 10 * 4294967296 by omega]
  exact or_u64 _ _ 32 (x / 10) rfl (by omega) (by omega) (by show y / 10 < 4294967296; omega) (by omega)

theorem ten_z' (x y : Int) (hx : 0 ≤ x) (hx2 : x < 42949672960) (hy : 0 ≤ y) (hy2 : y < 42949672960) : bits BinOp.or IntKind.u64 (IntKind.u64.wrap (IntKind.u64.wrap (x.tdiv 10) * 4294967296)) (y / 10) = x / 10 * 4294967296 + y / 10 := by
  have h := ten_z x y hx hx2 hy hy2
  rwa [tdiv10 hy, IntKind.wrap_u64 (y / 10), show y / 10 % 18446744073709551616 = y / 10 by omega] at h

/-- The model's division by ten. -/
theorem ten_all (M : Nat) (hM : M < 340282366920938463463374607431768211456) :
    IntKind.u64.wrap ((hiN M).tdiv 10) = hiN (M / 10) ∧
    (hiN M % 10 * 4294967296 + loN M / 4294967296) / 10 * 4294967296 + ((hiN M % 10 * 4294967296 + loN M / 4294967296) % 10 * 4294967296 + loN M % 4294967296) / 10 = loN (M / 10) ∧
    ((hiN M % 10 * 4294967296 + loN M / 4294967296) % 10 * 4294967296 + loN M % 4294967296) % 10 = dgN M := by
  refine ⟨?_, ?_, ?_⟩
  · have e : M / 18446744073709551616 / 10 = M / 10 / 18446744073709551616 := by rw [Nat.div_div_eq_div_mul, Nat.div_div_eq_div_mul]
    rw [tdiv10 (hiN_in hM).1, IntKind.wrap_u64]; unfold hiN; rw [← e]; omega
  · unfold hiN loN; omega
  · unfold hiN loN dgN; omega

/-! ### math/bits.Div64 at ten: Knuth's steps, by name. -/
def dU (h l : Int) : Int := h * 1152921504606846976 + l / 16
def dQ1 (h l : Int) : Int := dU h l / 2684354560
def dR1 (h l : Int) : Int := dU h l % 2684354560
def dP1 (h l : Int) : Int := dQ1 h l * 2684354560
def dV (l : Int) : Int := l % 16 * 1152921504606846976
def dV1 (l : Int) : Int := l % 16 * 268435456
def dT (h l : Int) : Int := (4294967296 * dR1 h l) % 18446744073709551616
def dW (h l : Int) : Int := dR1 h l * 4294967296 + dV1 l
def dQ0 (h l : Int) : Int := dW h l / 2684354560
def dP0 (h l : Int) : Int := dQ0 h l * 2684354560
def dR0 (h l : Int) : Int := dW h l % 2684354560

theorem dU_or (h l : Int) (h0 : 1 ≤ h) (h1 : h ≤ 9) (hl : U64 l) : bits BinOp.or IntKind.u64 (h * 1152921504606846976) (l / 16) = dU h l := by
  unfold U64 at hl
  exact or_u64 _ _ 60 h rfl (by omega) (by omega) (by show l / 16 < 1152921504606846976; omega) (by omega)
theorem dm0 : bits BinOp.and IntKind.u64 11529215046068469760 4294967295 = 0 := by decide
theorem dV_w (l : Int) : IntKind.u64.wrap (l * 1152921504606846976) = dV l := by
  rw [IntKind.wrap_u64]; unfold dV; omega
theorem dV_1 (l : Int) : dV l / 4294967296 = dV1 l := by unfold dV dV1; omega
theorem dV_m (l : Int) : bits BinOp.and IntKind.u64 (dV l) 4294967295 = 0 := by
  rw [and_low32 _ (by unfold dV; omega) (by unfold dV; omega)]; unfold dV; omega
theorem dU_b (h l : Int) (h0 : 1 ≤ h) (h1 : h ≤ 9) (hl : U64 l) : 0 ≤ dU h l ∧ dU h l < 11529215046068469760 := by unfold U64 at hl; unfold dU; omega
theorem dQ1_w (h l : Int) (h0 : 1 ≤ h) (h1 : h ≤ 9) (hl : U64 l) : IntKind.u64.wrap ((dU h l).tdiv 2684354560) = dQ1 h l := by
  have b := dU_b h l h0 h1 hl
  rw [Int.tdiv_eq_ediv_of_nonneg b.1, IntKind.wrap_u64]; unfold dQ1; omega
theorem dQ1_b (h l : Int) (h0 : 1 ≤ h) (h1 : h ≤ 9) (hl : U64 l) : 0 ≤ dQ1 h l ∧ dQ1 h l < 4294967296 := by
  have b := dU_b h l h0 h1 hl; unfold dQ1; omega
theorem dP1_w (h l : Int) (h0 : 1 ≤ h) (h1 : h ≤ 9) (hl : U64 l) : IntKind.u64.wrap (dQ1 h l * 2684354560) = dP1 h l := by
  have b := dQ1_b h l h0 h1 hl; rw [IntKind.wrap_u64]; unfold dP1; omega
theorem wrap_nn (x : Int) : decide (IntKind.u64.wrap x < 0) = false := by rw [IntKind.wrap_u64]; exact decide_eq_false (by omega)
theorem dQ1_c (h l : Int) (h0 : 1 ≤ h) (h1 : h ≤ 9) (hl : U64 l) : decide (4294967296 ≤ dQ1 h l) = false := by
  have b := dQ1_b h l h0 h1 hl; exact decide_eq_false (by omega)
theorem dR1_w (h l : Int) (h0 : 1 ≤ h) (h1 : h ≤ 9) (hl : U64 l) : IntKind.u64.wrap (dU h l - dP1 h l) = dR1 h l := by
  have b := dU_b h l h0 h1 hl; rw [IntKind.wrap_u64]; unfold dP1 dR1 dQ1; omega
theorem dW_b (h l : Int) : 0 ≤ dW h l ∧ dW h l < 11529215046068469760 := by unfold dW dR1 dV1; omega
theorem dW_w (h l : Int) (h0 : 1 ≤ h) (h1 : h ≤ 9) (hl : U64 l) : IntKind.u64.wrap (IntKind.u64.wrap (IntKind.u64.wrap (dU h l * 4294967296) + dV1 l) - IntKind.u64.wrap (dQ1 h l * 11529215046068469760)) = dW h l := by
  have b := dU_b h l h0 h1 hl
  simp only [IntKind.wrap_u64]; unfold dW dR1 dQ1 dV1; omega
theorem dQ0_w (h l : Int) : IntKind.u64.wrap ((dW h l).tdiv 2684354560) = dQ0 h l := by
  have b := dW_b h l
  rw [Int.tdiv_eq_ediv_of_nonneg b.1, IntKind.wrap_u64]; unfold dQ0; omega
theorem dQ0_b (h l : Int) : 0 ≤ dQ0 h l ∧ dQ0 h l < 4294967296 := by
  have b := dW_b h l; unfold dQ0; omega
theorem dP0_w (h l : Int) : IntKind.u64.wrap (dQ0 h l * 2684354560) = dP0 h l := by
  have b := dQ0_b h l; rw [IntKind.wrap_u64]; unfold dP0; omega
theorem dR0_w (h l : Int) : IntKind.u64.wrap (dW h l - dP0 h l) = dR0 h l := by
  have b := dW_b h l; rw [IntKind.wrap_u64]; unfold dP0 dR0 dQ0; omega
theorem dQ0_c (h l : Int) : decide (4294967296 ≤ dQ0 h l) = false := by
  have b := dQ0_b h l; exact decide_eq_false (by omega)

def tq (h l : Int) : Int := (h * 18446744073709551616 + l) / 10
def tr (h l : Int) : Int := (h * 18446744073709551616 + l) % 10
theorem d_end (h l : Int) (h0 : 1 ≤ h) (h1 : h ≤ 9) (hl : U64 l) : IntKind.u64.wrap (IntKind.u64.wrap (dQ1 h l * 4294967296) + dQ0 h l) = tq h l ∧
    IntKind.u64.wrap (IntKind.u64.wrap (IntKind.u64.wrap (dW h l * 4294967296)) - IntKind.u64.wrap (dQ0 h l * 11529215046068469760)) / 1152921504606846976 = tr h l := by
  have b := dU_b h l h0 h1 hl
  have b1 := dQ1_b h l h0 h1 hl
  have b2 := dQ0_b h l
  unfold U64 at hl
  simp only [IntKind.wrap_u64]
  have e1 : dU h l = 2684354560 * dQ1 h l + dR1 h l := by unfold dQ1 dR1; omega
  have e2 : dW h l = 2684354560 * dQ0 h l + dR0 h l := by unfold dQ0 dR0; omega
  have e3 : dW h l = dR1 h l * 4294967296 + l % 16 * 268435456 := rfl
  have e4 : dU h l = h * 1152921504606846976 + l / 16 := rfl
  have b3 : 0 ≤ dR0 h l ∧ dR0 h l < 2684354560 := by unfold dR0; omega
  unfold tq tr
  generalize dQ1 h l = q1 at *
  generalize dQ0 h l = q0 at *
  generalize dR1 h l = a1 at *
  generalize dR0 h l = a0 at *
  generalize dW h l = x at *
  generalize dU h l = u at *
  subst e2
  refine ⟨by omega, by omega⟩
theorem d_zero (l : Int) (hl : U64 l) : IntKind.u64.wrap (l.tdiv 10) = tq 0 l ∧ l.tmod 10 = tr 0 l := by
  unfold U64 at hl
  rw [tdiv10 hl.1, tmod10 hl.1, IntKind.wrap_u64]; unfold tq tr; omega
theorem d_ten (M : Nat) (hM : M < 340282366920938463463374607431768211456) : IntKind.u64.wrap ((hiN M).tdiv 10) = hiN (M / 10) ∧ tq (hiN M % 10) (loN M) = loN (M / 10) ∧ tr (hiN M % 10) (loN M) = dgN M := by
  refine ⟨(ten_all M hM).1, ?_, ?_⟩
  · unfold tq hiN loN; omega
  · unfold tr hiN loN dgN; omega
end Go.Proofs.YtohjpaokjhifoaaDoor
