/-
  DERIVED. GIVEN WITH THE SEED: THE CARDS: each row of YtmjogablacnlgaaGreatDoorRows.lean that lists a variable, with what it lists TIED to the program's text (the seventh form; the later family's looks); each row that meets fmt, with fmt's text TOLD by the authors' own Lean function (tested against real Go, not proved from fmt's source: count such statements apart). THE CARD IS WHAT COUNTS. Prove the row's statement (the work); the ties are given (YtmjogablacnlgaaGreatDoorTie.lean); close each card by the builder's one call (the guide's Derived/Test/ToyasCard.lean, 'card_holds'). Laid BY PROGRAM, IN A SANDBOX (cutbox-door.mjs). By AI agents, Wed Nov 11 2026. No macro, syntax, notation, axiom, sorry.
-/
import Derived.Test.YtmjogablacnlgaaGreatDoorRows
import GoSem.ClaimSeven
namespace Go.Proofs.YtmjogablacnlgaaGreatDoor
namespace Rows

/-- THE TIED CARD OF 'laws.FnExactPipeRight'. -/
def fnExactPipeRightCard : Claim7 := { stood := { row := fnExactPipeRightRow, standIns := [], harness := (true, "ee0e330422e443662945ea33e64ff8a5a377511c1cab7f070fe1a16949bda886"), looks := true }, kinds := [], alts := [], laidByText := true, laidKinds := [.data, .data, .data, .data, .pinned], laidTests := true, laidLooks := .later }
def FnExactPipeRightCardSaid : Prop := Claim7.holds Tryz.pinned (.plain (OpenSpec.ofChange fnExactPipeRightSpec)) fnExactPipeRightCard

/-- THE TIED CARD OF 'laws.FnExactPipeTick'. -/
def fnExactPipeTickCard : Claim7 := { stood := { row := fnExactPipeTickRow, standIns := [], harness := (true, "ee0e330422e443662945ea33e64ff8a5a377511c1cab7f070fe1a16949bda886"), looks := true }, kinds := [], alts := [], laidByText := true, laidKinds := [.data, .data, .data, .data, .pinned], laidTests := true, laidLooks := .later }
def FnExactPipeTickCardSaid : Prop := Claim7.holds Tryz.pinned (.plain (OpenSpec.ofChange fnExactPipeTickSpec)) fnExactPipeTickCard

/-- THE TIED CARD OF 'laws.FnExactPipeCells'. -/
def fnExactPipeCellsCard : Claim7 := { stood := { row := fnExactPipeCellsRow, standIns := [], harness := (true, "ee0e330422e443662945ea33e64ff8a5a377511c1cab7f070fe1a16949bda886"), looks := true }, kinds := [], alts := [], laidByText := true, laidKinds := [.data, .data, .data, .data, .pinned], laidTests := true, laidLooks := .later }
def FnExactPipeCellsCardSaid : Prop := Claim7.holds Tryz.pinned (.plain (OpenSpec.ofChange fnExactPipeCellsSpec)) fnExactPipeCellsCard

/-- THE TIED CARD OF 'laws.FnExactPipeJoin'. -/
def fnExactPipeJoinCard : Claim7 := { stood := { row := fnExactPipeJoinRow, standIns := [], harness := (true, "ee0e330422e443662945ea33e64ff8a5a377511c1cab7f070fe1a16949bda886"), looks := true }, kinds := [], alts := [], laidByText := true, laidKinds := [.data, .data, .data, .data, .pinned], laidTests := true, laidLooks := .later }
def FnExactPipeJoinCardSaid : Prop := Claim7.holds Tryz.pinned (.plain (OpenSpec.ofChange fnExactPipeJoinSpec)) fnExactPipeJoinCard

/-- THE TIED CARD OF 'laws.FnExactPipeLeave'. -/
def fnExactPipeLeaveCard : Claim7 := { stood := { row := fnExactPipeLeaveRow, standIns := [], harness := (true, "ee0e330422e443662945ea33e64ff8a5a377511c1cab7f070fe1a16949bda886"), looks := true }, kinds := [], alts := [], laidByText := true, laidKinds := [.data, .data, .data, .data, .pinned], laidTests := true, laidLooks := .later }
def FnExactPipeLeaveCardSaid : Prop := Claim7.holds Tryz.pinned (.plain (OpenSpec.ofChange fnExactPipeLeaveSpec)) fnExactPipeLeaveCard

/-- THE TIED CARD OF 'laws.FnExactPipeClose'. -/
def fnExactPipeCloseCard : Claim7 := { stood := { row := fnExactPipeCloseRow, standIns := [], harness := (true, "ee0e330422e443662945ea33e64ff8a5a377511c1cab7f070fe1a16949bda886"), looks := true }, kinds := [], alts := [], laidByText := true, laidKinds := [.data, .data, .data, .data, .pinned], laidTests := true, laidLooks := .later }
def FnExactPipeCloseCardSaid : Prop := Claim7.holds Tryz.pinned (.plain (OpenSpec.ofChange fnExactPipeCloseSpec)) fnExactPipeCloseCard

/-- THE SECOND FORM's CARD OF 'laws.FnExactPipeRight'. -/
def fnExactPipeRightUptoCard : Claim7 := { stood := { row := fnExactPipeRightUptoRow, standIns := [], harness := (true, "ee0e330422e443662945ea33e64ff8a5a377511c1cab7f070fe1a16949bda886"), looks := true }, kinds := [], alts := [], laidByText := true, laidKinds := [.data, .data, .data, .data, .pinned], laidTests := true, laidLooks := .later }
def FnExactPipeRightUptoCardSaid : Prop := Claim7.holds Tryz.pinned (.plain (OpenSpec.upto fnExactPipeRightSpec)) fnExactPipeRightUptoCard

/-- THE SECOND FORM's CARD OF 'laws.FnExactPipeTick'. -/
def fnExactPipeTickUptoCard : Claim7 := { stood := { row := fnExactPipeTickUptoRow, standIns := [], harness := (true, "ee0e330422e443662945ea33e64ff8a5a377511c1cab7f070fe1a16949bda886"), looks := true }, kinds := [], alts := [], laidByText := true, laidKinds := [.data, .data, .data, .data, .pinned], laidTests := true, laidLooks := .later }
def FnExactPipeTickUptoCardSaid : Prop := Claim7.holds Tryz.pinned (.plain (OpenSpec.upto fnExactPipeTickSpec)) fnExactPipeTickUptoCard

/-- THE SECOND FORM's CARD OF 'laws.FnExactPipeCells'. -/
def fnExactPipeCellsUptoCard : Claim7 := { stood := { row := fnExactPipeCellsUptoRow, standIns := [], harness := (true, "ee0e330422e443662945ea33e64ff8a5a377511c1cab7f070fe1a16949bda886"), looks := true }, kinds := [], alts := [], laidByText := true, laidKinds := [.data, .data, .data, .data, .pinned], laidTests := true, laidLooks := .later }
def FnExactPipeCellsUptoCardSaid : Prop := Claim7.holds Tryz.pinned (.plain (OpenSpec.upto fnExactPipeCellsSpec)) fnExactPipeCellsUptoCard

/-- THE SECOND FORM's CARD OF 'laws.FnExactPipeJoin'. -/
def fnExactPipeJoinUptoCard : Claim7 := { stood := { row := fnExactPipeJoinUptoRow, standIns := [], harness := (true, "ee0e330422e443662945ea33e64ff8a5a377511c1cab7f070fe1a16949bda886"), looks := true }, kinds := [], alts := [], laidByText := true, laidKinds := [.data, .data, .data, .data, .pinned], laidTests := true, laidLooks := .later }
def FnExactPipeJoinUptoCardSaid : Prop := Claim7.holds Tryz.pinned (.plain (OpenSpec.upto fnExactPipeJoinSpec)) fnExactPipeJoinUptoCard

/-- THE SECOND FORM's CARD OF 'laws.FnExactPipeLeave'. -/
def fnExactPipeLeaveUptoCard : Claim7 := { stood := { row := fnExactPipeLeaveUptoRow, standIns := [], harness := (true, "ee0e330422e443662945ea33e64ff8a5a377511c1cab7f070fe1a16949bda886"), looks := true }, kinds := [], alts := [], laidByText := true, laidKinds := [.data, .data, .data, .data, .pinned], laidTests := true, laidLooks := .later }
def FnExactPipeLeaveUptoCardSaid : Prop := Claim7.holds Tryz.pinned (.plain (OpenSpec.upto fnExactPipeLeaveSpec)) fnExactPipeLeaveUptoCard

/-- THE SECOND FORM's CARD OF 'laws.FnExactPipeClose'. -/
def fnExactPipeCloseUptoCard : Claim7 := { stood := { row := fnExactPipeCloseUptoRow, standIns := [], harness := (true, "ee0e330422e443662945ea33e64ff8a5a377511c1cab7f070fe1a16949bda886"), looks := true }, kinds := [], alts := [], laidByText := true, laidKinds := [.data, .data, .data, .data, .pinned], laidTests := true, laidLooks := .later }
def FnExactPipeCloseUptoCardSaid : Prop := Claim7.holds Tryz.pinned (.plain (OpenSpec.upto fnExactPipeCloseSpec)) fnExactPipeCloseUptoCard
end Rows
end Go.Proofs.YtmjogablacnlgaaGreatDoor
