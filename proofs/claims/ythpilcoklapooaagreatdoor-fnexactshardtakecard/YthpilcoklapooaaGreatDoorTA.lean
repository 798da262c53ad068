/-
  Lists of bins brought together: in any order, and however they are put together.
-/
import Derived.Test.YthpilcoklapooaaGreatDoorJT
import Derived.Test.YthpilcoklapooaaGreatDoorJD
import Derived.Test.YthpilcoklapooaaGreatDoorJA
import Derived.Test.YthpilcoklapooaaGreatDoorJQ
import Derived.Test.YthpilcoklapooaaGreatDoorJV
import Derived.Test.YthpilcoklapooaaGreatDoorJC
namespace Go.Proofs.YthpilcoklapooaaGreatDoor
set_option linter.unusedVariables false
set_option linter.unusedSimpArgs false

end Go.Proofs.YthpilcoklapooaaGreatDoor

/-
  Bins above a place and the weights at it or below, in lists that are brought together.
-/
namespace Go.Proofs.YthpilcoklapooaaGreatDoor
set_option linter.unusedVariables false
set_option linter.unusedSimpArgs false

/-- No more than a weight may be. -/
def capW (t : Int) : Int := if 18446744073709551615 < t then 18446744073709551615 else t
def sumW (L : List Bn) : Int := (L.map (fun x => x.2)).sum
def lowL (m : Int) (L : List Bn) : List Bn := L.filter (fun x => decide (x.1 ≤ m))
def highL (m : Int) (L : List Bn) : List Bn := L.filter (fun x => decide (m < x.1))
end Go.Proofs.YthpilcoklapooaaGreatDoor

/-
  Thirty bins are kept ahead of bringing together, or behind: the same.
-/
namespace Go.Proofs.YthpilcoklapooaaGreatDoor
set_option linter.unusedVariables false
set_option linter.unusedSimpArgs false

end Go.Proofs.YthpilcoklapooaaGreatDoor

/-
  Contracts of SketchWeight, of the program and of its model.
-/
namespace Go.Proofs.YthpilcoklapooaaGreatDoor
set_option linter.unusedVariables false
set_option linter.unusedSimpArgs false
open Go.ChangeShapes Go.WideShapes Go.ChangeAt Go.RowKit Go.PlainAid Go.Lib
set_option maxRecDepth 10000

/-- A weight stays at 2^64-1. -/
def satU (n : Int) : Int := if 18446744073709551615 < n then 18446744073709551615 else n
def wsum : List Bn → Int
  | [] => 0
  | x :: r => x.2 + wsum r
/-- The weight of a sketch. -/
def skW (z : Int) (P N : List Bn) : Int := if skB P N = true then satU (z + wsum P + wsum N) else 0
end Go.Proofs.YthpilcoklapooaaGreatDoor

/-
  Sketches that are brought together: they stay right, in whatever order; the weight is that of both.
-/
namespace Go.Proofs.YthpilcoklapooaaGreatDoor
set_option linter.unusedVariables false
set_option linter.unusedSimpArgs false
open Go.ChangeShapes Go.WideShapes Go.ChangeAt Go.RowKit Go.PlainAid Go.Lib

def BnR (x : Bn) : Prop := 0 < x.1 ∧ x.1 ≤ 6878 ∧ x.2 ≠ 0
end Go.Proofs.YthpilcoklapooaaGreatDoor

/-
  A value that is put is a sketch of one value that is brought together: the mathematics.
-/
namespace Go.Proofs.YthpilcoklapooaaGreatDoor
set_option linter.unusedVariables false
set_option linter.unusedSimpArgs false
open Go.ChangeShapes Go.WideShapes Go.ChangeAt Go.RowKit Go.PlainAid Go.Lib

structure T5 where
  z : Int
  P : List Bn
  N : List Bn
  h : Int
  l : Int
def T5.M (a b : T5) : T5 := ⟨wAdd a.z b.z, keepL (mrg a.P b.P), keepL (mrg a.N b.N), addH a.h a.l b.h b.l, addL a.l b.l⟩
structure T5.Ok (a : T5) : Prop where
  hz : U64 a.z
  hl : U64 a.l
  kP : ∀ x ∈ a.P, BnOk x
  kN : ∀ x ∈ a.N, BnOk x
structure T5.Good (a : T5) : Prop extends T5.Ok a where
  sk : skB a.P a.N = true
/-- The sketch of one value. -/
def one5 (v w : Int) : T5 := ⟨if v = 0 then w else 0, if 0 < v then [(binI v, w)] else [], if v < 0 then [(binI (-v), w)] else [], thH v w, thL v w⟩
theorem keep_same {P : List Bn} (h : P.length ≤ 30) : keepL P = P := by unfold keepL; rw [if_pos h]
theorem wAdd_0 {z : Int} (h : U64 z) : wAdd z 0 = z := by unfold wAdd; unfold U64 at h; rw [if_neg (by omega), Int.add_zero]
/-- What a put hands back. -/
structure PutIs (a b : T5) (v w : Int) : Prop where
  yes : putOk a.P a.N v w → b = ⟨putZ a.z v w, putPS a.P v w, putNS a.N v w, addH a.h a.l (thH v w) (thL v w), addL a.l (thL v w)⟩
  no : ¬ putOk a.P a.N v w → b = a
structure MrgIs (a b c : T5) : Prop where
  yes : mrgOk a.P a.N b.P b.N → c = a.M b
  no : ¬ mrgOk a.P a.N b.P b.N → c = ⟨0, [], [], 0, 0⟩
theorem PutIs.M {a b : T5} {v w : Int} (h : PutIs a b v w) (ha : a.Ok) (ok : putOk a.P a.N v w) : b = a.M (one5 v w) := by
  rw [h.yes ok]
  have r := sk_rise ok.1
  unfold T5.M one5 putZ putPS putNS
  dsimp only
  congr 1
  · split
    · rfl
    · rw [wAdd_0 ha.hz]
  · split
    · rfl
    · rw [mrg_nil', keep_same r.1.2]
  · split
    · rfl
    · rw [mrg_nil', keep_same r.2.2]
theorem PutIs.fn {a b c : T5} {v w : Int} (h : PutIs a b v w) (k : PutIs a c v w) : b = c := by
  by_cases ok : putOk a.P a.N v w
  · rw [h.yes ok, k.yes ok]
  · rw [h.no ok, k.no ok]
theorem MrgIs.fn {a b c d : T5} (h : MrgIs a b c) (k : MrgIs a b d) : c = d := by
  by_cases ok : mrgOk a.P a.N b.P b.N
  · rw [h.yes ok, k.yes ok]
  · rw [h.no ok, k.no ok]
end Go.Proofs.YthpilcoklapooaaGreatDoor
