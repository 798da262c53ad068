/-
  The contract of codeOf at every error that a reader hands back.
-/
import Derived.Test.YtljngkjhhkccgaaGreatDoorCodeOf
namespace Go.Proofs.YtljngkjhhkccgaaGreatDoor
set_option linter.unusedVariables false
set_option linter.unusedSimpArgs false
open Go.ChangeShapes Go.WideShapes Go.ChangeAt Go.RowKit Go.PlainAid

/-- What a reader hands back as its error. -/
def errV (c : Int) : Value := if c = 0 then .nilIface else .iface 55 (.agg #[.int .i64 c])

theorem c_codeOf (c : Int) (w : World) (hg : errT w) :
    Calls Tryz.prog 16 #[errV c] w fun e w' => e = .returned (.int .i64 c) ∧ Below w.heap.size w w' := by
  unfold errV
  by_cases h : c = 0
  · rw [if_pos h, h]; exact c_codeOf_nil w
  · rw [if_neg h]; exact c_codeOf_hit c w hg

/-- A cell of another block behind three stores. -/
theorem cell_far3 {w : World} {a : Addr} {v : Value} {G : Nat} {i j k : Nat} {x y z : Value} (h : w.cell? a = some v) (hne : G ≠ a.block) :
    (((w.setCell ⟨G, i, none⟩ x).setCell ⟨G, j, none⟩ y).setCell ⟨G, k, none⟩ z).cell? a = some v := by
  rw [World.cell?_setCell_far _ _ _ _ hne, World.cell?_setCell_far _ _ _ _ hne, World.cell?_setCell_far _ _ _ _ hne]; exact h

end Go.Proofs.YtljngkjhhkccgaaGreatDoor
