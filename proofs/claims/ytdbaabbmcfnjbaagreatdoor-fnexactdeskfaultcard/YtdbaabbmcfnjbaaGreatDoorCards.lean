/-
  DERIVED. GIVEN WITH THE SEED: THE CARDS: each row of YtdbaabbmcfnjbaaGreatDoorRows.lean that lists a variable, with what it lists TIED to the program's text (the seventh form; the later family's looks); each row that meets fmt, with fmt's text TOLD by the authors' own Lean function (tested against real Go, not proved from fmt's source: count such statements apart). THE CARD IS WHAT COUNTS. Prove the row's statement (the work); the ties are given (YtdbaabbmcfnjbaaGreatDoorTie.lean); close each card by the builder's one call (the guide's Derived/Test/ToyasCard.lean, 'card_holds'). Laid BY PROGRAM, IN A SANDBOX (cutbox-door.mjs). By AI agents, Wed Nov 11 2026. No macro, syntax, notation, axiom, sorry.
-/
import Derived.Test.YtdbaabbmcfnjbaaGreatDoorRows
import GoSem.ClaimSeven
namespace Go.Proofs.YtdbaabbmcfnjbaaGreatDoor
namespace Rows

/-- THE TIED CARD OF 'laws.FnExactDeskFault'. -/
def fnExactDeskFaultCard : Claim7 := { stood := { row := fnExactDeskFaultRow, standIns := [], harness := (true, "c2e493e501e68b290667293054998b0011139026d48c9246bf9791e9740c6f99"), looks := true }, kinds := [], alts := [], laidByText := true, laidKinds := [.pinned, .data, .data, .data, .data, .sentinel, .sentinel, .handle], laidTests := true, laidLooks := .later }
def FnExactDeskFaultCardSaid : Prop := Claim7.holds Tryz.pinned (.plain (OpenSpec.ofChange fnExactDeskFaultSpec)) fnExactDeskFaultCard

/-- THE SECOND FORM's CARD OF 'laws.FnExactDeskFault'. -/
def fnExactDeskFaultUptoCard : Claim7 := { stood := { row := fnExactDeskFaultUptoRow, standIns := [], harness := (true, "c2e493e501e68b290667293054998b0011139026d48c9246bf9791e9740c6f99"), looks := true }, kinds := [], alts := [], laidByText := true, laidKinds := [.pinned, .data, .data, .data, .data, .sentinel, .sentinel, .handle], laidTests := true, laidLooks := .later }
def FnExactDeskFaultUptoCardSaid : Prop := Claim7.holds Tryz.pinned (.plain (OpenSpec.upto fnExactDeskFaultSpec)) fnExactDeskFaultUptoCard
end Rows
end Go.Proofs.YtdbaabbmcfnjbaaGreatDoor
