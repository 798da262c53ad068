/-
  DERIVED. GIVEN WITH THE SEED: THE CARDS: each row of YtandnmpllheniaaGreatDoorRows.lean that lists a variable, with what it lists TIED to the program's text (the seventh form; the later family's looks); each row that meets fmt, with fmt's text TOLD by the authors' own Lean function (tested against real Go, not proved from fmt's source: count such statements apart). THE CARD IS WHAT COUNTS. Prove the row's statement (the work); the ties are given (YtandnmpllheniaaGreatDoorTie.lean); close each card by the builder's one call (the guide's Derived/Test/ToyasCard.lean, 'card_holds'). Laid BY PROGRAM, IN A SANDBOX (cutbox-door.mjs). By AI agents, Wed Nov 11 2026. No macro, syntax, notation, axiom, sorry.
-/
import Derived.Test.YtandnmpllheniaaGreatDoorRows
import GoSem.ClaimSeven
namespace Go.Proofs.YtandnmpllheniaaGreatDoor
namespace Rows

/-- THE TIED CARD OF 'laws.FnShard'. -/
def fnShardCard : Claim7 := { stood := { row := fnShardRow, standIns := [], harness := (true, "1256d0f356fdb4ff240d5730399934e134f7972ea3d2b1866d952e98adb39595"), looks := true }, kinds := [], alts := [], laidByText := true, laidKinds := [.data, .pinned], laidTests := true, laidLooks := .later }
def FnShardCardSaid : Prop := Claim7.holds Tryz.pinned (.plain (OpenSpec.ofChange fnShardSpec)) fnShardCard

/-- THE TIED CARD OF 'laws.FnCells'. -/
def fnCellsCard : Claim7 := { stood := { row := fnCellsRow, standIns := [], harness := (true, "1256d0f356fdb4ff240d5730399934e134f7972ea3d2b1866d952e98adb39595"), looks := true }, kinds := [], alts := [], laidByText := true, laidKinds := [.data, .pinned], laidTests := true, laidLooks := .later }
def FnCellsCardSaid : Prop := Claim7.holds Tryz.pinned (.plain (OpenSpec.ofChange fnCellsSpec)) fnCellsCard

/-- THE TIED CARD OF 'laws.FnRef'. -/
def fnRefCard : Claim7 := { stood := { row := fnRefRow, standIns := [], harness := (true, "1256d0f356fdb4ff240d5730399934e134f7972ea3d2b1866d952e98adb39595"), looks := true }, kinds := [], alts := [], laidByText := true, laidKinds := [.data, .pinned], laidTests := true, laidLooks := .later }
def FnRefCardSaid : Prop := Claim7.holds Tryz.pinned (.plain (OpenSpec.ofChange fnRefSpec)) fnRefCard

/-- THE TIED CARD OF 'laws.FnExactShardTake'. -/
def fnExactShardTakeCard : Claim7 := { stood := { row := fnExactShardTakeRow, standIns := [], harness := (true, "1256d0f356fdb4ff240d5730399934e134f7972ea3d2b1866d952e98adb39595"), looks := true }, kinds := [], alts := [], laidByText := true, laidKinds := [.data, .pinned], laidTests := true, laidLooks := .later }
def FnExactShardTakeCardSaid : Prop := Claim7.holds Tryz.pinned (.plain (OpenSpec.ofChange fnExactShardTakeSpec)) fnExactShardTakeCard

/-- THE SECOND FORM's CARD OF 'laws.FnShard'. -/
def fnShardUptoCard : Claim7 := { stood := { row := fnShardUptoRow, standIns := [], harness := (true, "1256d0f356fdb4ff240d5730399934e134f7972ea3d2b1866d952e98adb39595"), looks := true }, kinds := [], alts := [], laidByText := true, laidKinds := [.data, .pinned], laidTests := true, laidLooks := .later }
def FnShardUptoCardSaid : Prop := Claim7.holds Tryz.pinned (.plain (OpenSpec.upto fnShardSpec)) fnShardUptoCard

/-- THE SECOND FORM's CARD OF 'laws.FnCells'. -/
def fnCellsUptoCard : Claim7 := { stood := { row := fnCellsUptoRow, standIns := [], harness := (true, "1256d0f356fdb4ff240d5730399934e134f7972ea3d2b1866d952e98adb39595"), looks := true }, kinds := [], alts := [], laidByText := true, laidKinds := [.data, .pinned], laidTests := true, laidLooks := .later }
def FnCellsUptoCardSaid : Prop := Claim7.holds Tryz.pinned (.plain (OpenSpec.upto fnCellsSpec)) fnCellsUptoCard

/-- THE SECOND FORM's CARD OF 'laws.FnRef'. -/
def fnRefUptoCard : Claim7 := { stood := { row := fnRefUptoRow, standIns := [], harness := (true, "1256d0f356fdb4ff240d5730399934e134f7972ea3d2b1866d952e98adb39595"), looks := true }, kinds := [], alts := [], laidByText := true, laidKinds := [.data, .pinned], laidTests := true, laidLooks := .later }
def FnRefUptoCardSaid : Prop := Claim7.holds Tryz.pinned (.plain (OpenSpec.upto fnRefSpec)) fnRefUptoCard

/-- THE SECOND FORM's CARD OF 'laws.FnExactShardTake'. -/
def fnExactShardTakeUptoCard : Claim7 := { stood := { row := fnExactShardTakeUptoRow, standIns := [], harness := (true, "1256d0f356fdb4ff240d5730399934e134f7972ea3d2b1866d952e98adb39595"), looks := true }, kinds := [], alts := [], laidByText := true, laidKinds := [.data, .pinned], laidTests := true, laidLooks := .later }
def FnExactShardTakeUptoCardSaid : Prop := Claim7.holds Tryz.pinned (.plain (OpenSpec.upto fnExactShardTakeSpec)) fnExactShardTakeUptoCard
end Rows
end Go.Proofs.YtandnmpllheniaaGreatDoor
