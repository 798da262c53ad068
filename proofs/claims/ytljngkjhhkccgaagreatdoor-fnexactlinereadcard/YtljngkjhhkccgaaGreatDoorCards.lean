/-
  DERIVED. GIVEN WITH THE SEED: THE CARDS: each row of YtljngkjhhkccgaaGreatDoorRows.lean that lists a variable, with what it lists TIED to the program's text (the seventh form; the later family's looks); each row that meets fmt, with fmt's text TOLD by the authors' own Lean function (tested against real Go, not proved from fmt's source: count such statements apart). THE CARD IS WHAT COUNTS. Prove the row's statement (the work); the ties are given (YtljngkjhhkccgaaGreatDoorTie.lean); close each card by the builder's one call (the guide's Derived/Test/ToyasCard.lean, 'card_holds'). Laid BY PROGRAM, IN A SANDBOX (cutbox-door.mjs). By AI agents, Wed Nov 11 2026. No macro, syntax, notation, axiom, sorry.
-/
import Derived.Test.YtljngkjhhkccgaaGreatDoorRows
import GoSem.ClaimSeven
namespace Go.Proofs.YtljngkjhhkccgaaGreatDoor
namespace Rows

/-- THE TIED CARD OF 'laws.FnExactLineRead'. -/
def fnExactLineReadCard : Claim7 := { stood := { row := fnExactLineReadRow, standIns := [], harness := (true, "e7e18b26d0c43eecd470fa589f92f293b08b18e15d01123cb7bc4f3f9c55fa3a"), looks := true }, kinds := [], alts := [], laidByText := true, laidKinds := [.data, .data, .data, .data, .handle, .sentinel, .sentinel, .pinned], laidTests := true, laidLooks := .later }
def FnExactLineReadCardSaid : Prop := Claim7.holds Tryz.pinned (.plain (OpenSpec.ofChange fnExactLineReadSpec)) fnExactLineReadCard

/-- THE SECOND FORM's CARD OF 'laws.FnExactLineRead'. -/
def fnExactLineReadUptoCard : Claim7 := { stood := { row := fnExactLineReadUptoRow, standIns := [], harness := (true, "e7e18b26d0c43eecd470fa589f92f293b08b18e15d01123cb7bc4f3f9c55fa3a"), looks := true }, kinds := [], alts := [], laidByText := true, laidKinds := [.data, .data, .data, .data, .handle, .sentinel, .sentinel, .pinned], laidTests := true, laidLooks := .later }
def FnExactLineReadUptoCardSaid : Prop := Claim7.holds Tryz.pinned (.plain (OpenSpec.upto fnExactLineReadSpec)) fnExactLineReadUptoCard
end Rows
end Go.Proofs.YtljngkjhhkccgaaGreatDoor
