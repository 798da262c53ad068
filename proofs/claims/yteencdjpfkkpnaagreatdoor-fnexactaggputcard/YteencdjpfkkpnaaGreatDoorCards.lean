/-
  DERIVED. GIVEN WITH THE SEED: THE CARDS: each row of YteencdjpfkkpnaaGreatDoorRows.lean that lists a variable, with what it lists TIED to the program's text (the seventh form; the later family's looks); each row that meets fmt, with fmt's text TOLD by the authors' own Lean function (tested against real Go, not proved from fmt's source: count such statements apart). THE CARD IS WHAT COUNTS. Prove the row's statement (the work); the ties are given (YteencdjpfkkpnaaGreatDoorTie.lean); close each card by the builder's one call (the guide's Derived/Test/ToyasCard.lean, 'card_holds'). Laid BY PROGRAM, IN A SANDBOX (cutbox-door.mjs). By AI agents, Wed Nov 11 2026. No macro, syntax, notation, axiom, sorry.
-/
import Derived.Test.YteencdjpfkkpnaaGreatDoorRows
import GoSem.ClaimSeven
namespace Go.Proofs.YteencdjpfkkpnaaGreatDoor
namespace Rows

/-- THE TIED CARD OF 'laws.FnExactAggPut'. -/
def fnExactAggPutCard : Claim7 := { stood := { row := fnExactAggPutRow, standIns := [], harness := (true, "02d055fe149ea69e9457c92da5fe17c4aedebce99686dc63685f60d531806a6b"), looks := true }, kinds := [], alts := [], laidByText := true, laidKinds := [.data, .pinned], laidTests := true, laidLooks := .later }
def FnExactAggPutCardSaid : Prop := Claim7.holds Tryz.pinned (.plain (OpenSpec.ofChange fnExactAggPutSpec)) fnExactAggPutCard

/-- THE TIED CARD OF 'laws.FnAgg'. -/
def fnAggCard : Claim7 := { stood := { row := fnAggRow, standIns := [], harness := (true, "02d055fe149ea69e9457c92da5fe17c4aedebce99686dc63685f60d531806a6b"), looks := true }, kinds := [], alts := [], laidByText := true, laidKinds := [.data, .pinned], laidTests := true, laidLooks := .later }
def FnAggCardSaid : Prop := Claim7.holds Tryz.pinned (.plain (OpenSpec.ofChange fnAggSpec)) fnAggCard

/-- THE SECOND FORM's CARD OF 'laws.FnExactAggPut'. -/
def fnExactAggPutUptoCard : Claim7 := { stood := { row := fnExactAggPutUptoRow, standIns := [], harness := (true, "02d055fe149ea69e9457c92da5fe17c4aedebce99686dc63685f60d531806a6b"), looks := true }, kinds := [], alts := [], laidByText := true, laidKinds := [.data, .pinned], laidTests := true, laidLooks := .later }
def FnExactAggPutUptoCardSaid : Prop := Claim7.holds Tryz.pinned (.plain (OpenSpec.upto fnExactAggPutSpec)) fnExactAggPutUptoCard

/-- THE SECOND FORM's CARD OF 'laws.FnAgg'. -/
def fnAggUptoCard : Claim7 := { stood := { row := fnAggUptoRow, standIns := [], harness := (true, "02d055fe149ea69e9457c92da5fe17c4aedebce99686dc63685f60d531806a6b"), looks := true }, kinds := [], alts := [], laidByText := true, laidKinds := [.data, .pinned], laidTests := true, laidLooks := .later }
def FnAggUptoCardSaid : Prop := Claim7.holds Tryz.pinned (.plain (OpenSpec.upto fnAggSpec)) fnAggUptoCard
end Rows
end Go.Proofs.YteencdjpfkkpnaaGreatDoor
