/-
  Plain facts on products of 64 bits, on the complement and on the negative of a wide number. Of no program.
-/
import Derived.Test.YtimocbbaplghoaaMath
import Derived.Laws.MathBits
import Derived.DataShut
namespace Go.Proofs.Ytimocbbaplghoaa
open Go.RowKit

def mulH (x y : Int) : Int := x * y / 18446744073709551616

theorem mul_form (x y : Int) (hx : U64 x) (hy : U64 y) : IntKind.u64.wrap (IntKind.u64.wrap (IntKind.u64.wrap (x / 4294967296 * (y / 4294967296)) + IntKind.u64.wrap (IntKind.u64.wrap (x / 4294967296 * bits BinOp.and IntKind.u64 y 4294967295) + IntKind.u64.wrap (bits BinOp.and IntKind.u64 x 4294967295 * bits BinOp.and IntKind.u64 y 4294967295) / 4294967296) / 4294967296) + IntKind.u64.wrap (bits BinOp.and IntKind.u64 (IntKind.u64.wrap (IntKind.u64.wrap (x / 4294967296 * bits BinOp.and IntKind.u64 y 4294967295) + IntKind.u64.wrap (bits BinOp.and IntKind.u64 x 4294967295 * bits BinOp.and IntKind.u64 y 4294967295) / 4294967296)) 4294967295 + IntKind.u64.wrap (bits BinOp.and IntKind.u64 x 4294967295 * (y / 4294967296))) / 4294967296) = mulH x y := by
  unfold U64 at hx hy
  simp only [IntKind.wrap_u64, and_low32 x hx.1 (by omega), and_low32 y hy.1 (by omega)]
  rw [and_low32 _ (by omega) (by omega)]
  exact mul64_arith x y hx.1 (by omega) hy.1 (by omega)

theorem mul_form' (x y : Int) (hx : U64 x) (hy : U64 y) : IntKind.u64.wrap (IntKind.u64.wrap (IntKind.u64.wrap (x / 4294967296 * (y / 4294967296)) + IntKind.u64.wrap (IntKind.u64.wrap (x / 4294967296 * bits BinOp.and IntKind.u64 y 4294967295) + IntKind.u64.wrap (bits BinOp.and IntKind.u64 x 4294967295 * bits BinOp.and IntKind.u64 y 4294967295) / 4294967296) / 4294967296) + IntKind.u64.wrap (IntKind.u64.wrap (bits BinOp.and IntKind.u64 x 4294967295 * (y / 4294967296)) + bits BinOp.and IntKind.u64 (IntKind.u64.wrap (IntKind.u64.wrap (x / 4294967296 * bits BinOp.and IntKind.u64 y 4294967295) + IntKind.u64.wrap (bits BinOp.and IntKind.u64 x 4294967295 * bits BinOp.and IntKind.u64 y 4294967295) / 4294967296)) 4294967295) / 4294967296) = mulH x y := by
  rw [Int.add_comm (IntKind.u64.wrap (bits BinOp.and IntKind.u64 x 4294967295 * (y / 4294967296)))]
  exact mul_form x y hx hy

theorem mulH_in (x y : Int) (hx : U64 x) (hy : U64 y) : U64 (mulH x y) := by
  unfold U64 at *; unfold mulH
  have h1 : 0 ≤ x * y := Int.mul_nonneg hx.1 hy.1
  have h2 : x * y ≤ 18446744073709551615 * 18446744073709551615 := Int.mul_le_mul hx.2 hy.2 hy.1 (by omega)
  omega

theorem not_i64 (a : Int) (ha : I64 a) : bits .xor .i64 (-1) a = -1 - a := by
  unfold I64 at ha
  show IntKind.i64.wrap ((BitVec.ofInt 64 (-1) ^^^ BitVec.ofInt 64 a).toNat : Int) = _
  have h1 : BitVec.ofInt 64 (-1) = BitVec.allOnes 64 := by decide
  rw [h1, BitVec.allOnes_xor, BitVec.toNat_not, BitVec.toNat_ofInt]
  rw [IntKind.wrap_i64]
  have e : ((a % ((2 ^ 64 : Nat) : Int)).toNat : Int) = a % 18446744073709551616 := by
    rw [Int.toNat_of_nonneg (Int.emod_nonneg _ (by decide))]; rfl
  omega
theorem not_u64 (b : Int) (hb : U64 b) : bits .xor .u64 IntKind.u64.max b = 18446744073709551615 - b := by
  unfold U64 at hb
  rw [IntKind.max_u64]
  show IntKind.u64.wrap ((BitVec.ofInt 64 18446744073709551615 ^^^ BitVec.ofInt 64 b).toNat : Int) = _
  have h1 : BitVec.ofInt 64 18446744073709551615 = BitVec.allOnes 64 := by decide
  rw [h1, BitVec.allOnes_xor, BitVec.toNat_not, BitVec.toNat_ofInt]
  rw [IntKind.wrap_u64]
  have e : ((b % ((2 ^ 64 : Nat) : Int)).toNat : Int) = b % 18446744073709551616 := by
    rw [Int.toNat_of_nonneg (Int.emod_nonneg _ (by decide))]; rfl
  omega

/-- The negative of a wide number: its halves. -/
def negH (a b : Int) : Int := wrap64 (-a - (if b = 0 then 0 else 1))
def negL (b : Int) : Int := uw (-b)
/-- A number times a weight: its halves. -/
def thH (n w : Int) : Int := wrap64 (n * w / 18446744073709551616)
def thL (n w : Int) : Int := uw (n * w)

theorem neg_add (a b : Int) (hb : U64 b) : addH (-1 - a) (18446744073709551615 - b) 0 1 = negH a b ∧ addL (18446744073709551615 - b) 1 = negL b := by
  unfold U64 at hb; unfold addH addL negH negL addC uw wrap64
  refine ⟨?_, by omega⟩
  by_cases h : b = 0
  · subst h; simp; omega
  · rw [if_neg h]; omega

theorem th_neg (n y : Int) (hn : I64 n) (h : n < 0) : wrap64 (IntKind.u64.wrap (mulH (uw n) y - y)) = thH n y ∧ uw (uw n * y) = thL n y := by
  unfold I64 at hn
  have e : uw n = n + 18446744073709551616 := by unfold uw; omega
  have e2 : uw n * y = n * y + 18446744073709551616 * y := by rw [e]; exact Int.add_mul _ _ _
  rw [IntKind.wrap_u64]; unfold mulH thH thL; rw [e2]
  generalize n * y = p
  unfold uw wrap64
  refine ⟨by omega, by omega⟩
theorem th_pos (n y : Int) (hn : I64 n) (h : ¬ n < 0) : wrap64 (mulH (uw n) y) = thH n y ∧ uw (uw n * y) = thL n y := by
  unfold I64 at hn
  have e : uw n = n := by unfold uw; omega
  rw [e]; exact ⟨rfl, rfl⟩
theorem th_minus (n y : Int) : negH (wrap64 (mulH (-n) y)) (uw (-n * y)) = thH n y ∧ negL (uw (-n * y)) = thL n y := by
  have e : -n * y = -(n * y) := Int.neg_mul _ _
  unfold mulH thH thL; rw [e]
  generalize n * y = p
  unfold negH negL
  refine ⟨?_, by unfold uw; omega⟩
  by_cases k : uw (-p) = 0
  · rw [if_pos k]; unfold uw at k; unfold wrap64; omega
  · rw [if_neg k]; unfold uw at k; unfold wrap64; omega
end Go.Proofs.Ytimocbbaplghoaa
