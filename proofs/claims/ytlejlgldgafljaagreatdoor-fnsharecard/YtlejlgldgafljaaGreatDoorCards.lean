/-
  DERIVED. GIVEN WITH THE SEED: THE CARDS: each row of YtlejlgldgafljaaGreatDoorRows.lean that lists a variable, with what it lists TIED to the program's text (the seventh form; the later family's looks); each row that meets fmt, with fmt's text TOLD by the authors' own Lean function (tested against real Go, not proved from fmt's source: count such statements apart). THE CARD IS WHAT COUNTS. Prove the row's statement (the work); the ties are given (YtlejlgldgafljaaGreatDoorTie.lean); close each card by the builder's one call (the guide's Derived/Test/ToyasCard.lean, 'card_holds'). Laid BY PROGRAM, IN A SANDBOX (cutbox-door.mjs). By AI agents, Wed Nov 11 2026. No macro, syntax, notation, axiom, sorry.
-/
import Derived.Test.YtlejlgldgafljaaGreatDoorRows
import GoSem.ClaimSeven
namespace Go.Proofs.YtlejlgldgafljaaGreatDoor
namespace Rows

/-- THE TIED CARD OF 'laws.FnTick'. -/
def fnTickCard : Claim7 := { stood := { row := fnTickRow, standIns := [], harness := (true, "ee4b03ef6787cffbd9ccf2059dfe54506478c1ca6189d3ae992f5d46fb1bc07f"), looks := true }, kinds := [], alts := [], laidByText := true, laidKinds := [.data, .data, .data, .data, .pinned], laidTests := true, laidLooks := .later }
def FnTickCardSaid : Prop := Claim7.holds Tryz.pinned (.plain (OpenSpec.ofChange fnTickSpec)) fnTickCard

/-- THE TIED CARD OF 'laws.FnShare'. -/
def fnShareCard : Claim7 := { stood := { row := fnShareRow, standIns := [], harness := (true, "ee4b03ef6787cffbd9ccf2059dfe54506478c1ca6189d3ae992f5d46fb1bc07f"), looks := true }, kinds := [], alts := [], laidByText := true, laidKinds := [.data, .data, .data, .data, .pinned], laidTests := true, laidLooks := .later }
def FnShareCardSaid : Prop := Claim7.holds Tryz.pinned (.plain (OpenSpec.ofChange fnShareSpec)) fnShareCard

/-- THE SECOND FORM's CARD OF 'laws.FnTick'. -/
def fnTickUptoCard : Claim7 := { stood := { row := fnTickUptoRow, standIns := [], harness := (true, "ee4b03ef6787cffbd9ccf2059dfe54506478c1ca6189d3ae992f5d46fb1bc07f"), looks := true }, kinds := [], alts := [], laidByText := true, laidKinds := [.data, .data, .data, .data, .pinned], laidTests := true, laidLooks := .later }
def FnTickUptoCardSaid : Prop := Claim7.holds Tryz.pinned (.plain (OpenSpec.upto fnTickSpec)) fnTickUptoCard

/-- THE SECOND FORM's CARD OF 'laws.FnShare'. -/
def fnShareUptoCard : Claim7 := { stood := { row := fnShareUptoRow, standIns := [], harness := (true, "ee4b03ef6787cffbd9ccf2059dfe54506478c1ca6189d3ae992f5d46fb1bc07f"), looks := true }, kinds := [], alts := [], laidByText := true, laidKinds := [.data, .data, .data, .data, .pinned], laidTests := true, laidLooks := .later }
def FnShareUptoCardSaid : Prop := Claim7.holds Tryz.pinned (.plain (OpenSpec.upto fnShareSpec)) fnShareUptoCard
end Rows
end Go.Proofs.YtlejlgldgafljaaGreatDoor
