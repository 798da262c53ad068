/-
  DERIVED. GIVEN WITH THE SEED: THE CARDS: each row of YthpilcoklapooaaGreatDoorRows.lean that lists a variable, with what it lists TIED to the program's text (the seventh form; the later family's looks); each row that meets fmt, with fmt's text TOLD by the authors' own Lean function (tested against real Go, not proved from fmt's source: count such statements apart). THE CARD IS WHAT COUNTS. Prove the row's statement (the work); the ties are given (YthpilcoklapooaaGreatDoorTie.lean); close each card by the builder's one call (the guide's Derived/Test/ToyasCard.lean, 'card_holds'). Laid BY PROGRAM, IN A SANDBOX (cutbox-door.mjs). By AI agents, Wed Nov 11 2026. No macro, syntax, notation, axiom, sorry.
-/
import Derived.Test.YthpilcoklapooaaGreatDoorRows
import GoSem.ClaimSeven
namespace Go.Proofs.YthpilcoklapooaaGreatDoor
namespace Rows

/-- THE TIED CARD OF 'laws.FnAgg'. -/
def fnAggCard : Claim7 := { stood := { row := fnAggRow, standIns := [], harness := (true, "f557d74e87352a0981fbb5da295fabffd74ae39a48b3d099ef1184e4f2654511"), looks := true }, kinds := [], alts := [], laidByText := true, laidKinds := [.data, .pinned], laidTests := true, laidLooks := .later }
def FnAggCardSaid : Prop := Claim7.holds Tryz.pinned (.plain (OpenSpec.ofChange fnAggSpec)) fnAggCard

/-- THE TIED CARD OF 'laws.FnExactShardTake'. -/
def fnExactShardTakeCard : Claim7 := { stood := { row := fnExactShardTakeRow, standIns := [], harness := (true, "f557d74e87352a0981fbb5da295fabffd74ae39a48b3d099ef1184e4f2654511"), looks := true }, kinds := [], alts := [], laidByText := true, laidKinds := [.data, .pinned], laidTests := true, laidLooks := .later }
def FnExactShardTakeCardSaid : Prop := Claim7.holds Tryz.pinned (.plain (OpenSpec.ofChange fnExactShardTakeSpec)) fnExactShardTakeCard

/-- THE TIED CARD OF 'laws.FnExactShardPut'. -/
def fnExactShardPutCard : Claim7 := { stood := { row := fnExactShardPutRow, standIns := [], harness := (true, "f557d74e87352a0981fbb5da295fabffd74ae39a48b3d099ef1184e4f2654511"), looks := true }, kinds := [], alts := [], laidByText := true, laidKinds := [.data, .pinned], laidTests := true, laidLooks := .later }
def FnExactShardPutCardSaid : Prop := Claim7.holds Tryz.pinned (.plain (OpenSpec.ofChange fnExactShardPutSpec)) fnExactShardPutCard

/-- THE TIED CARD OF 'laws.FnExactCellsMerge'. -/
def fnExactCellsMergeCard : Claim7 := { stood := { row := fnExactCellsMergeRow, standIns := [], harness := (true, "f557d74e87352a0981fbb5da295fabffd74ae39a48b3d099ef1184e4f2654511"), looks := true }, kinds := [], alts := [], laidByText := true, laidKinds := [.data, .pinned], laidTests := true, laidLooks := .later }
def FnExactCellsMergeCardSaid : Prop := Claim7.holds Tryz.pinned (.plain (OpenSpec.ofChange fnExactCellsMergeSpec)) fnExactCellsMergeCard

/-- THE TIED CARD OF 'laws.FnExactCellsOf'. -/
def fnExactCellsOfCard : Claim7 := { stood := { row := fnExactCellsOfRow, standIns := [], harness := (true, "f557d74e87352a0981fbb5da295fabffd74ae39a48b3d099ef1184e4f2654511"), looks := true }, kinds := [], alts := [], laidByText := true, laidKinds := [.data, .pinned], laidTests := true, laidLooks := .later }
def FnExactCellsOfCardSaid : Prop := Claim7.holds Tryz.pinned (.plain (OpenSpec.ofChange fnExactCellsOfSpec)) fnExactCellsOfCard

/-- THE TIED CARD OF 'laws.FnShard'. -/
def fnShardCard : Claim7 := { stood := { row := fnShardRow, standIns := [], harness := (true, "f557d74e87352a0981fbb5da295fabffd74ae39a48b3d099ef1184e4f2654511"), looks := true }, kinds := [], alts := [], laidByText := true, laidKinds := [.data, .pinned], laidTests := true, laidLooks := .later }
def FnShardCardSaid : Prop := Claim7.holds Tryz.pinned (.plain (OpenSpec.ofChange fnShardSpec)) fnShardCard

/-- THE SECOND FORM's CARD OF 'laws.FnAgg'. -/
def fnAggUptoCard : Claim7 := { stood := { row := fnAggUptoRow, standIns := [], harness := (true, "f557d74e87352a0981fbb5da295fabffd74ae39a48b3d099ef1184e4f2654511"), looks := true }, kinds := [], alts := [], laidByText := true, laidKinds := [.data, .pinned], laidTests := true, laidLooks := .later }
def FnAggUptoCardSaid : Prop := Claim7.holds Tryz.pinned (.plain (OpenSpec.upto fnAggSpec)) fnAggUptoCard

/-- THE SECOND FORM's CARD OF 'laws.FnExactShardTake'. -/
def fnExactShardTakeUptoCard : Claim7 := { stood := { row := fnExactShardTakeUptoRow, standIns := [], harness := (true, "f557d74e87352a0981fbb5da295fabffd74ae39a48b3d099ef1184e4f2654511"), looks := true }, kinds := [], alts := [], laidByText := true, laidKinds := [.data, .pinned], laidTests := true, laidLooks := .later }
def FnExactShardTakeUptoCardSaid : Prop := Claim7.holds Tryz.pinned (.plain (OpenSpec.upto fnExactShardTakeSpec)) fnExactShardTakeUptoCard

/-- THE SECOND FORM's CARD OF 'laws.FnExactShardPut'. -/
def fnExactShardPutUptoCard : Claim7 := { stood := { row := fnExactShardPutUptoRow, standIns := [], harness := (true, "f557d74e87352a0981fbb5da295fabffd74ae39a48b3d099ef1184e4f2654511"), looks := true }, kinds := [], alts := [], laidByText := true, laidKinds := [.data, .pinned], laidTests := true, laidLooks := .later }
def FnExactShardPutUptoCardSaid : Prop := Claim7.holds Tryz.pinned (.plain (OpenSpec.upto fnExactShardPutSpec)) fnExactShardPutUptoCard

/-- THE SECOND FORM's CARD OF 'laws.FnExactCellsMerge'. -/
def fnExactCellsMergeUptoCard : Claim7 := { stood := { row := fnExactCellsMergeUptoRow, standIns := [], harness := (true, "f557d74e87352a0981fbb5da295fabffd74ae39a48b3d099ef1184e4f2654511"), looks := true }, kinds := [], alts := [], laidByText := true, laidKinds := [.data, .pinned], laidTests := true, laidLooks := .later }
def FnExactCellsMergeUptoCardSaid : Prop := Claim7.holds Tryz.pinned (.plain (OpenSpec.upto fnExactCellsMergeSpec)) fnExactCellsMergeUptoCard

/-- THE SECOND FORM's CARD OF 'laws.FnExactCellsOf'. -/
def fnExactCellsOfUptoCard : Claim7 := { stood := { row := fnExactCellsOfUptoRow, standIns := [], harness := (true, "f557d74e87352a0981fbb5da295fabffd74ae39a48b3d099ef1184e4f2654511"), looks := true }, kinds := [], alts := [], laidByText := true, laidKinds := [.data, .pinned], laidTests := true, laidLooks := .later }
def FnExactCellsOfUptoCardSaid : Prop := Claim7.holds Tryz.pinned (.plain (OpenSpec.upto fnExactCellsOfSpec)) fnExactCellsOfUptoCard

/-- THE SECOND FORM's CARD OF 'laws.FnShard'. -/
def fnShardUptoCard : Claim7 := { stood := { row := fnShardUptoRow, standIns := [], harness := (true, "f557d74e87352a0981fbb5da295fabffd74ae39a48b3d099ef1184e4f2654511"), looks := true }, kinds := [], alts := [], laidByText := true, laidKinds := [.data, .pinned], laidTests := true, laidLooks := .later }
def FnShardUptoCardSaid : Prop := Claim7.holds Tryz.pinned (.plain (OpenSpec.upto fnShardSpec)) fnShardUptoCard
end Rows
end Go.Proofs.YthpilcoklapooaaGreatDoor
