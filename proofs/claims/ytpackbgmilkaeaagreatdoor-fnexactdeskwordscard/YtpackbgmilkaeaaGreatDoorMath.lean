/-
  Plain facts on numbers of 64 and of 128 bits, of no program: what the walks of the wide numbers lean on.
-/
import Derived.WalkKit
import Derived.ProofKit
import Derived.OpenShut
import Derived.Below
import Derived.WalkSpells
namespace Go.Proofs.YtpackbgmilkaeaaGreatDoor
open Go.ChangeShapes Go.WideShapes Go.ChangeAt Go.RowKit

/-- The low half. -/
def uw (n : Int) : Int := n % 18446744073709551616
/-- The carry of two low halves. -/
def addC (b d : Int) : Int := (b + d) / 18446744073709551616
def addH (a b c d : Int) : Int := wrap64 (a + c + addC b d)
def addL (b d : Int) : Int := uw (b + d)
def ofH (n : Int) : Int := n / 9223372036854775808

/-- A low half. -/
def U64 (n : Int) : Prop := 0 ≤ n ∧ n ≤ 18446744073709551615
def I64 (n : Int) : Prop := -9223372036854775808 ≤ n ∧ n ≤ 9223372036854775807

theorem uw_in (n : Int) : U64 (uw n) := by unfold U64 uw; omega
theorem w64_in (n : Int) : I64 (wrap64 n) := by unfold I64 wrap64; omega
theorem uw_id {n : Int} (h : U64 n) : uw n = n := by unfold U64 at h; unfold uw; omega
theorem w64_id {n : Int} (h : I64 n) : wrap64 n = n := by unfold I64 at h; unfold wrap64; omega

theorem ret_wide {a b c d : Int} (h : a = c) (k : b = d) : Ending.returned (.agg #[.int .i64 a, .int .u64 b]) = .returned (.agg #[.int .i64 c, .int .u64 d]) := by rw [h, k]
end Go.Proofs.YtpackbgmilkaeaaGreatDoor
