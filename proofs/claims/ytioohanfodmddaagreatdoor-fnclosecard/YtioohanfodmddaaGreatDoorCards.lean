/-
  DERIVED. GIVEN WITH THE SEED: THE CARDS: each row of YtioohanfodmddaaGreatDoorRows.lean that lists a variable, with what it lists TIED to the program's text (the seventh form; the later family's looks); each row that meets fmt, with fmt's text TOLD by the authors' own Lean function (tested against real Go, not proved from fmt's source: count such statements apart). THE CARD IS WHAT COUNTS. Prove the row's statement (the work); the ties are given (YtioohanfodmddaaGreatDoorTie.lean); close each card by the builder's one call (the guide's Derived/Test/ToyasCard.lean, 'card_holds'). Laid BY PROGRAM, IN A SANDBOX (cutbox-door.mjs). By AI agents, Wed Nov 11 2026. No macro, syntax, notation, axiom, sorry.
-/
import Derived.Test.YtioohanfodmddaaGreatDoorRows
import GoSem.ClaimSeven
namespace Go.Proofs.YtioohanfodmddaaGreatDoor
namespace Rows

/-- THE TIED CARD OF 'laws.FnClose'. -/
def fnCloseCard : Claim7 := { stood := { row := fnCloseRow, standIns := [], harness := (true, "16a5dd72e1148f628dd3161aeeb28f4761c4aec2af02ee162b585c832a3140f7"), looks := true }, kinds := [], alts := [], laidByText := true, laidKinds := [.data, .data, .data, .data, .handle, .sentinel, .sentinel, .pinned], laidTests := true, laidLooks := .later }
def FnCloseCardSaid : Prop := Claim7.holds Tryz.pinned (.plain (OpenSpec.ofChange fnCloseSpec)) fnCloseCard

/-- THE SECOND FORM's CARD OF 'laws.FnClose'. -/
def fnCloseUptoCard : Claim7 := { stood := { row := fnCloseUptoRow, standIns := [], harness := (true, "16a5dd72e1148f628dd3161aeeb28f4761c4aec2af02ee162b585c832a3140f7"), looks := true }, kinds := [], alts := [], laidByText := true, laidKinds := [.data, .data, .data, .data, .handle, .sentinel, .sentinel, .pinned], laidTests := true, laidLooks := .later }
def FnCloseUptoCardSaid : Prop := Claim7.holds Tryz.pinned (.plain (OpenSpec.upto fnCloseSpec)) fnCloseUptoCard
end Rows
end Go.Proofs.YtioohanfodmddaaGreatDoor
