/-
  DERIVED. GIVEN WITH THE SEED: THE CARDS: each row of YtalmhekbagjdeaaGreatDoorRows.lean that lists a variable, with what it lists TIED to the program's text (the seventh form; the later family's looks); each row that meets fmt, with fmt's text TOLD by the authors' own Lean function (tested against real Go, not proved from fmt's source: count such statements apart). THE CARD IS WHAT COUNTS. Prove the row's statement (the work); the ties are given (YtalmhekbagjdeaaGreatDoorTie.lean); close each card by the builder's one call (the guide's Derived/Test/ToyasCard.lean, 'card_holds'). Laid BY PROGRAM, IN A SANDBOX (cutbox-door.mjs). By AI agents, Wed Nov 11 2026. No macro, syntax, notation, axiom, sorry.
-/
import Derived.Test.YtalmhekbagjdeaaGreatDoorRows
import GoSem.ClaimSeven
namespace Go.Proofs.YtalmhekbagjdeaaGreatDoor
namespace Rows

/-- THE TIED CARD OF 'laws.FnExactShardRight'. -/
def fnExactShardRightCard : Claim7 := { stood := { row := fnExactShardRightRow, standIns := [], harness := (true, "e629fb396f5285e2b722ce8c08be3f89bcbfebd2418467df4278ad6863bdbd1b"), looks := true }, kinds := [], alts := [], laidByText := true, laidKinds := [.data, .pinned], laidTests := true, laidLooks := .later }
def FnExactShardRightCardSaid : Prop := Claim7.holds Tryz.pinned (.plain (OpenSpec.ofChange fnExactShardRightSpec)) fnExactShardRightCard

/-- THE TIED CARD OF 'laws.FnExactCellsRight'. -/
def fnExactCellsRightCard : Claim7 := { stood := { row := fnExactCellsRightRow, standIns := [], harness := (true, "e629fb396f5285e2b722ce8c08be3f89bcbfebd2418467df4278ad6863bdbd1b"), looks := true }, kinds := [], alts := [], laidByText := true, laidKinds := [.data, .pinned], laidTests := true, laidLooks := .later }
def FnExactCellsRightCardSaid : Prop := Claim7.holds Tryz.pinned (.plain (OpenSpec.ofChange fnExactCellsRightSpec)) fnExactCellsRightCard

/-- THE TIED CARD OF 'laws.FnExactShardTake'. -/
def fnExactShardTakeCard : Claim7 := { stood := { row := fnExactShardTakeRow, standIns := [], harness := (true, "e629fb396f5285e2b722ce8c08be3f89bcbfebd2418467df4278ad6863bdbd1b"), looks := true }, kinds := [], alts := [], laidByText := true, laidKinds := [.data, .pinned], laidTests := true, laidLooks := .later }
def FnExactShardTakeCardSaid : Prop := Claim7.holds Tryz.pinned (.plain (OpenSpec.ofChange fnExactShardTakeSpec)) fnExactShardTakeCard

/-- THE SECOND FORM's CARD OF 'laws.FnExactShardRight'. -/
def fnExactShardRightUptoCard : Claim7 := { stood := { row := fnExactShardRightUptoRow, standIns := [], harness := (true, "e629fb396f5285e2b722ce8c08be3f89bcbfebd2418467df4278ad6863bdbd1b"), looks := true }, kinds := [], alts := [], laidByText := true, laidKinds := [.data, .pinned], laidTests := true, laidLooks := .later }
def FnExactShardRightUptoCardSaid : Prop := Claim7.holds Tryz.pinned (.plain (OpenSpec.upto fnExactShardRightSpec)) fnExactShardRightUptoCard

/-- THE SECOND FORM's CARD OF 'laws.FnExactCellsRight'. -/
def fnExactCellsRightUptoCard : Claim7 := { stood := { row := fnExactCellsRightUptoRow, standIns := [], harness := (true, "e629fb396f5285e2b722ce8c08be3f89bcbfebd2418467df4278ad6863bdbd1b"), looks := true }, kinds := [], alts := [], laidByText := true, laidKinds := [.data, .pinned], laidTests := true, laidLooks := .later }
def FnExactCellsRightUptoCardSaid : Prop := Claim7.holds Tryz.pinned (.plain (OpenSpec.upto fnExactCellsRightSpec)) fnExactCellsRightUptoCard

/-- THE SECOND FORM's CARD OF 'laws.FnExactShardTake'. -/
def fnExactShardTakeUptoCard : Claim7 := { stood := { row := fnExactShardTakeUptoRow, standIns := [], harness := (true, "e629fb396f5285e2b722ce8c08be3f89bcbfebd2418467df4278ad6863bdbd1b"), looks := true }, kinds := [], alts := [], laidByText := true, laidKinds := [.data, .pinned], laidTests := true, laidLooks := .later }
def FnExactShardTakeUptoCardSaid : Prop := Claim7.holds Tryz.pinned (.plain (OpenSpec.upto fnExactShardTakeSpec)) fnExactShardTakeUptoCard
end Rows
end Go.Proofs.YtalmhekbagjdeaaGreatDoor
