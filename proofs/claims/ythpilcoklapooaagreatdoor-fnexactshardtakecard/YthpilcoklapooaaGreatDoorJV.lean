/-
  Plain facts on products of 64 bits, on the complement and on the negative of a wide number. Of no program.
-/
import Derived.Test.YthpilcoklapooaaGreatDoorJA
import Derived.Laws.MathBits
import Derived.DataShut
import Derived.Test.YthpilcoklapooaaGreatDoorJT
import Derived.Test.YthpilcoklapooaaGreatDoorJU
namespace Go.Proofs.YthpilcoklapooaaGreatDoor
open Go.RowKit

def mulH (x y : Int) : Int := x * y / 18446744073709551616

/-- The negative of a wide number: its halves. -/
def negH (a b : Int) : Int := wrap64 (-a - (if b = 0 then 0 else 1))
def negL (b : Int) : Int := uw (-b)
/-- A number times a weight: its halves. -/
def thH (n w : Int) : Int := wrap64 (n * w / 18446744073709551616)
def thL (n w : Int) : Int := uw (n * w)

end Go.Proofs.YthpilcoklapooaaGreatDoor

/-
  Contracts of the products: math/bits.Mul64, its model l01Mul, the negative of a wide number, WideTimes of both sides.
-/
namespace Go.Proofs.YthpilcoklapooaaGreatDoor
open Go.ChangeShapes Go.WideShapes Go.ChangeAt Go.RowKit

end Go.Proofs.YthpilcoklapooaaGreatDoor

/-
  Contract of the program's SketchPut.
-/
namespace Go.Proofs.YthpilcoklapooaaGreatDoor
set_option linter.unusedVariables false
set_option linter.unusedSimpArgs false
open Go.ChangeShapes Go.WideShapes Go.ChangeAt Go.RowKit Go.PlainAid Go.Lib
set_option maxRecDepth 10000

/-- What is put where. -/
def putZ (z v wt : Int) : Int := if v = 0 then wAdd z wt else z
def putP (P : List Bn) (v wt : Int) : List Bn := if 0 < v then gatL P [(binI v, wt)] else P
def putN (N : List Bn) (v wt : Int) : List Bn := if v < 0 then gatL N [(binI (-v), wt)] else N
def putOk (P N : List Bn) (v wt : Int) : Prop := skB P N = true ∧ (-999999999999999999 ≤ v ∧ v ≤ 999999999999999999) ∧ wt ≠ 0
/-- A number of 64 bits in a block of its own. -/
abbrev NumAt' (w : World) (g : Nat) (x : Int) : Prop := w.cell? ⟨g, 0, none⟩ = some (.int .u64 x)

end Go.Proofs.YthpilcoklapooaaGreatDoor

/-
  Contracts of the model's SketchPut.
-/
namespace Go.Proofs.YthpilcoklapooaaGreatDoor
set_option linter.unusedVariables false
set_option linter.unusedSimpArgs false
open Go.ChangeShapes Go.WideShapes Go.ChangeAt Go.RowKit Go.PlainAid Go.Lib
set_option maxRecDepth 10000

/-- What is put where, as the model does. -/
def putPS (P : List Bn) (v wt : Int) : List Bn := if 0 < v then keepL (mrg P [(binI v, wt)]) else P
def putNS (N : List Bn) (v wt : Int) : List Bn := if v < 0 then keepL (mrg N [(binI (-v), wt)]) else N
end Go.Proofs.YthpilcoklapooaaGreatDoor

/-
  Contract of the model's SketchPut, and that both put the same.
-/
namespace Go.Proofs.YthpilcoklapooaaGreatDoor
set_option linter.unusedVariables false
set_option linter.unusedSimpArgs false
open Go.ChangeShapes Go.WideShapes Go.ChangeAt Go.RowKit Go.PlainAid Go.Lib
set_option maxRecDepth 10000

theorem rise_of : ∀ {L : List Bn} {q : Int}, riseB q L = true → Rise L ∧ ∀ x ∈ L, q < x.1
  | [], _, _ => ⟨rise_nil, fun x hx => by simp at hx⟩
  | y :: r, q, h => by
    simp only [riseB, Bool.and_eq_true, decide_eq_true_eq] at h
    obtain ⟨⟨⟨h1, h2⟩, h3⟩, h4⟩ := h
    obtain ⟨k1, k2⟩ := rise_of h4
    refine ⟨rise_cons.2 ⟨k2, k1⟩, fun x hx => ?_⟩
    rcases List.mem_cons.1 hx with rfl | hx
    · exact h1
    · have := k2 x hx; omega
theorem bins_rise {L : List Bn} (h : binsB L = true) : Rise L ∧ L.length ≤ 30 := by
  unfold binsB at h
  simp only [Bool.and_eq_true, decide_eq_true_eq] at h
  exact ⟨(rise_of h.2).1, h.1⟩
theorem sk_rise {P N : List Bn} (h : skB P N = true) : (Rise P ∧ P.length ≤ 30) ∧ Rise N ∧ N.length ≤ 30 := by
  unfold skB at h
  simp only [Bool.and_eq_true] at h
  exact ⟨bins_rise h.1, bins_rise h.2⟩
/-- A sketch laid into the row of an answer. -/
abbrev sk5 (w : World) (r : Nat) (Z : Int) (p n : Value) (H L : Int) : World := ((((w.setCell ⟨r, 0, none⟩ (.int .u64 Z)).setCell ⟨r, 1, none⟩ p).setCell ⟨r, 2, none⟩ n).setCell ⟨r, 3, none⟩ (.int .i64 H)).setCell ⟨r, 4, none⟩ (.int .u64 L)
end Go.Proofs.YthpilcoklapooaaGreatDoor

/-
  Contracts of SketchMerge, the program's and the model's.
-/
namespace Go.Proofs.YthpilcoklapooaaGreatDoor
set_option linter.unusedVariables false
set_option linter.unusedSimpArgs false
open Go.ChangeShapes Go.WideShapes Go.ChangeAt Go.RowKit Go.PlainAid Go.Lib
set_option maxRecDepth 10000

def mrgOk (P N P' N' : List Bn) : Prop := skB P N = true ∧ skB P' N' = true
end Go.Proofs.YthpilcoklapooaaGreatDoor
