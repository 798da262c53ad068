/-
  DERIVED. GIVEN WITH THE SEED: THE CARDS: each row of YtiiclgcpagdekaaGreatDoorRows.lean that lists a variable, with what it lists TIED to the program's text (the seventh form; the later family's looks); each row that meets fmt, with fmt's text TOLD by the authors' own Lean function (tested against real Go, not proved from fmt's source: count such statements apart). THE CARD IS WHAT COUNTS. Prove the row's statement (the work); the ties are given (YtiiclgcpagdekaaGreatDoorTie.lean); close each card by the builder's one call (the guide's Derived/Test/ToyasCard.lean, 'card_holds'). Laid BY PROGRAM, IN A SANDBOX (cutbox-door.mjs). By AI agents, Wed Nov 11 2026. No macro, syntax, notation, axiom, sorry.
-/
import Derived.Test.YtiiclgcpagdekaaGreatDoorRows
import GoSem.ClaimSeven
namespace Go.Proofs.YtiiclgcpagdekaaGreatDoor
namespace Rows

/-- THE TIED CARD OF 'laws.FnExactShardPut'. -/
def fnExactShardPutCard : Claim7 := { stood := { row := fnExactShardPutRow, standIns := [], harness := (true, "a87807e60dfc708c022fa67bd30df845507c9b3d452365df133fbb7ba6188588"), looks := true }, kinds := [], alts := [], laidByText := true, laidKinds := [.data, .pinned], laidTests := true, laidLooks := .later }
def FnExactShardPutCardSaid : Prop := Claim7.holds Tryz.pinned (.plain (OpenSpec.ofChange fnExactShardPutSpec)) fnExactShardPutCard

/-- THE TIED CARD OF 'laws.FnExactCellsMerge'. -/
def fnExactCellsMergeCard : Claim7 := { stood := { row := fnExactCellsMergeRow, standIns := [], harness := (true, "a87807e60dfc708c022fa67bd30df845507c9b3d452365df133fbb7ba6188588"), looks := true }, kinds := [], alts := [], laidByText := true, laidKinds := [.data, .pinned], laidTests := true, laidLooks := .later }
def FnExactCellsMergeCardSaid : Prop := Claim7.holds Tryz.pinned (.plain (OpenSpec.ofChange fnExactCellsMergeSpec)) fnExactCellsMergeCard

/-- THE TIED CARD OF 'laws.FnExactCellsOf'. -/
def fnExactCellsOfCard : Claim7 := { stood := { row := fnExactCellsOfRow, standIns := [], harness := (true, "a87807e60dfc708c022fa67bd30df845507c9b3d452365df133fbb7ba6188588"), looks := true }, kinds := [], alts := [], laidByText := true, laidKinds := [.data, .pinned], laidTests := true, laidLooks := .later }
def FnExactCellsOfCardSaid : Prop := Claim7.holds Tryz.pinned (.plain (OpenSpec.ofChange fnExactCellsOfSpec)) fnExactCellsOfCard

/-- THE TIED CARD OF 'laws.FnShard'. -/
def fnShardCard : Claim7 := { stood := { row := fnShardRow, standIns := [], harness := (true, "a87807e60dfc708c022fa67bd30df845507c9b3d452365df133fbb7ba6188588"), looks := true }, kinds := [], alts := [], laidByText := true, laidKinds := [.data, .pinned], laidTests := true, laidLooks := .later }
def FnShardCardSaid : Prop := Claim7.holds Tryz.pinned (.plain (OpenSpec.ofChange fnShardSpec)) fnShardCard

/-- THE TIED CARD OF 'laws.FnCells'. -/
def fnCellsCard : Claim7 := { stood := { row := fnCellsRow, standIns := [], harness := (true, "a87807e60dfc708c022fa67bd30df845507c9b3d452365df133fbb7ba6188588"), looks := true }, kinds := [], alts := [], laidByText := true, laidKinds := [.data, .pinned], laidTests := true, laidLooks := .later }
def FnCellsCardSaid : Prop := Claim7.holds Tryz.pinned (.plain (OpenSpec.ofChange fnCellsSpec)) fnCellsCard

/-- THE TIED CARD OF 'laws.FnRef'. -/
def fnRefCard : Claim7 := { stood := { row := fnRefRow, standIns := [], harness := (true, "a87807e60dfc708c022fa67bd30df845507c9b3d452365df133fbb7ba6188588"), looks := true }, kinds := [], alts := [], laidByText := true, laidKinds := [.data, .pinned], laidTests := true, laidLooks := .later }
def FnRefCardSaid : Prop := Claim7.holds Tryz.pinned (.plain (OpenSpec.ofChange fnRefSpec)) fnRefCard

/-- THE SECOND FORM's CARD OF 'laws.FnExactShardPut'. -/
def fnExactShardPutUptoCard : Claim7 := { stood := { row := fnExactShardPutUptoRow, standIns := [], harness := (true, "a87807e60dfc708c022fa67bd30df845507c9b3d452365df133fbb7ba6188588"), looks := true }, kinds := [], alts := [], laidByText := true, laidKinds := [.data, .pinned], laidTests := true, laidLooks := .later }
def FnExactShardPutUptoCardSaid : Prop := Claim7.holds Tryz.pinned (.plain (OpenSpec.upto fnExactShardPutSpec)) fnExactShardPutUptoCard

/-- THE SECOND FORM's CARD OF 'laws.FnExactCellsMerge'. -/
def fnExactCellsMergeUptoCard : Claim7 := { stood := { row := fnExactCellsMergeUptoRow, standIns := [], harness := (true, "a87807e60dfc708c022fa67bd30df845507c9b3d452365df133fbb7ba6188588"), looks := true }, kinds := [], alts := [], laidByText := true, laidKinds := [.data, .pinned], laidTests := true, laidLooks := .later }
def FnExactCellsMergeUptoCardSaid : Prop := Claim7.holds Tryz.pinned (.plain (OpenSpec.upto fnExactCellsMergeSpec)) fnExactCellsMergeUptoCard

/-- THE SECOND FORM's CARD OF 'laws.FnExactCellsOf'. -/
def fnExactCellsOfUptoCard : Claim7 := { stood := { row := fnExactCellsOfUptoRow, standIns := [], harness := (true, "a87807e60dfc708c022fa67bd30df845507c9b3d452365df133fbb7ba6188588"), looks := true }, kinds := [], alts := [], laidByText := true, laidKinds := [.data, .pinned], laidTests := true, laidLooks := .later }
def FnExactCellsOfUptoCardSaid : Prop := Claim7.holds Tryz.pinned (.plain (OpenSpec.upto fnExactCellsOfSpec)) fnExactCellsOfUptoCard

/-- THE SECOND FORM's CARD OF 'laws.FnShard'. -/
def fnShardUptoCard : Claim7 := { stood := { row := fnShardUptoRow, standIns := [], harness := (true, "a87807e60dfc708c022fa67bd30df845507c9b3d452365df133fbb7ba6188588"), looks := true }, kinds := [], alts := [], laidByText := true, laidKinds := [.data, .pinned], laidTests := true, laidLooks := .later }
def FnShardUptoCardSaid : Prop := Claim7.holds Tryz.pinned (.plain (OpenSpec.upto fnShardSpec)) fnShardUptoCard

/-- THE SECOND FORM's CARD OF 'laws.FnCells'. -/
def fnCellsUptoCard : Claim7 := { stood := { row := fnCellsUptoRow, standIns := [], harness := (true, "a87807e60dfc708c022fa67bd30df845507c9b3d452365df133fbb7ba6188588"), looks := true }, kinds := [], alts := [], laidByText := true, laidKinds := [.data, .pinned], laidTests := true, laidLooks := .later }
def FnCellsUptoCardSaid : Prop := Claim7.holds Tryz.pinned (.plain (OpenSpec.upto fnCellsSpec)) fnCellsUptoCard

/-- THE SECOND FORM's CARD OF 'laws.FnRef'. -/
def fnRefUptoCard : Claim7 := { stood := { row := fnRefUptoRow, standIns := [], harness := (true, "a87807e60dfc708c022fa67bd30df845507c9b3d452365df133fbb7ba6188588"), looks := true }, kinds := [], alts := [], laidByText := true, laidKinds := [.data, .pinned], laidTests := true, laidLooks := .later }
def FnRefUptoCardSaid : Prop := Claim7.holds Tryz.pinned (.plain (OpenSpec.upto fnRefSpec)) fnRefUptoCard
end Rows
end Go.Proofs.YtiiclgcpagdekaaGreatDoor
