/-
  DERIVED. GIVEN WITH THE SEED: THE CARDS: each row of YtiljachdemadhafDoorRows.lean that lists a variable, with what it lists TIED to the program's text (the seventh form; the later family's looks); each row that meets fmt, with fmt's text TOLD by the authors' own Lean function (tested against real Go, not proved from fmt's source: count such statements apart). THE CARD IS WHAT COUNTS. Prove the row's statement (the work); the ties are given (YtiljachdemadhafDoorTie.lean); close each card by the builder's one call (the guide's Derived/Test/ToyasCard.lean, 'card_holds'). Laid BY PROGRAM, IN A SANDBOX (cutbox-door.mjs). By AI agents, Wed Nov 11 2026. No macro, syntax, notation, axiom, sorry.
-/
import Derived.Test.YtiljachdemadhafDoorRows
import GoSem.ClaimSeven
namespace Go.Proofs.YtiljachdemadhafDoor
namespace Rows

/-- THE TIED CARD OF 'laws.FnExactWideRead'. -/
def fnExactWideReadCard : Claim7 := { stood := { row := fnExactWideReadRow, standIns := [], harness := (true, "191f37e0b947e5df0a21d98f67c20a1871bbb1b5a433c66dfa7bc6cfd2498c1c"), looks := true }, kinds := [], alts := [], laidByText := true, laidKinds := [.handle], laidTests := true, laidLooks := .later }
def FnExactWideReadCardSaid : Prop := Claim7.holds Tryd.pinned (.plain (OpenSpec.ofChange fnExactWideReadSpec)) fnExactWideReadCard

/-- THE SECOND FORM's CARD OF 'laws.FnExactWideRead'. -/
def fnExactWideReadUptoCard : Claim7 := { stood := { row := fnExactWideReadUptoRow, standIns := [], harness := (true, "191f37e0b947e5df0a21d98f67c20a1871bbb1b5a433c66dfa7bc6cfd2498c1c"), looks := true }, kinds := [], alts := [], laidByText := true, laidKinds := [.handle], laidTests := true, laidLooks := .later }
def FnExactWideReadUptoCardSaid : Prop := Claim7.holds Tryd.pinned (.plain (OpenSpec.upto fnExactWideReadSpec)) fnExactWideReadUptoCard
end Rows
end Go.Proofs.YtiljachdemadhafDoor
