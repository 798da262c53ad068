/-
  DERIVED. GIVEN WITH THE SEED: THE CARDS: each row of YtiafgcppidmoiaaDoorRows.lean that lists a variable, with what it lists TIED to the program's text (the seventh form; the later family's looks); each row that meets fmt, with fmt's text TOLD by the authors' own Lean function (tested against real Go, not proved from fmt's source: count such statements apart). THE CARD IS WHAT COUNTS. Prove the row's statement (the work); the ties are given (YtiafgcppidmoiaaDoorTie.lean); close each card by the builder's one call (the guide's Derived/Test/ToyasCard.lean, 'card_holds'). Laid BY PROGRAM, IN A SANDBOX (cutbox-door.mjs). By AI agents, Wed Nov 11 2026. No macro, syntax, notation, axiom, sorry.
-/
import Derived.Test.YtiafgcppidmoiaaDoorRows
import GoSem.ClaimSeven
namespace Go.Proofs.YtiafgcppidmoiaaDoor
namespace Rows

/-- THE TIED CARD OF 'laws.FnExactSeriesRight'. -/
def fnExactSeriesRightCard : Claim7 := { stood := { row := fnExactSeriesRightRow, standIns := [], harness := (true, "d9ba6a73de3a7679aaf6017910c827056d51d8f6ede7f4c0c9370d6bc47911b2"), looks := false }, kinds := [], alts := [], laidByText := true, laidKinds := [.data, .pinned], laidTests := true, laidLooks := .later }
def FnExactSeriesRightCardSaid : Prop := Claim7.holds Tryd.pinned (.plain (OpenSpec.ofChange fnExactSeriesRightSpec)) fnExactSeriesRightCard

/-- THE TIED CARD OF 'laws.FnExactSampleRight'. -/
def fnExactSampleRightCard : Claim7 := { stood := { row := fnExactSampleRightRow, standIns := [], harness := (true, "d9ba6a73de3a7679aaf6017910c827056d51d8f6ede7f4c0c9370d6bc47911b2"), looks := false }, kinds := [], alts := [], laidByText := true, laidKinds := [.data, .pinned], laidTests := true, laidLooks := .later }
def FnExactSampleRightCardSaid : Prop := Claim7.holds Tryd.pinned (.plain (OpenSpec.ofChange fnExactSampleRightSpec)) fnExactSampleRightCard

/-- THE TIED CARD OF 'laws.FnSeries'. -/
def fnSeriesCard : Claim7 := { stood := { row := fnSeriesRow, standIns := [], harness := (true, "d9ba6a73de3a7679aaf6017910c827056d51d8f6ede7f4c0c9370d6bc47911b2"), looks := false }, kinds := [], alts := [], laidByText := true, laidKinds := [.data, .pinned], laidTests := true, laidLooks := .later }
def FnSeriesCardSaid : Prop := Claim7.holds Tryd.pinned (.plain (OpenSpec.ofChange fnSeriesSpec)) fnSeriesCard

/-- THE SECOND FORM's CARD OF 'laws.FnExactSeriesRight'. -/
def fnExactSeriesRightUptoCard : Claim7 := { stood := { row := fnExactSeriesRightUptoRow, standIns := [], harness := (true, "d9ba6a73de3a7679aaf6017910c827056d51d8f6ede7f4c0c9370d6bc47911b2"), looks := false }, kinds := [], alts := [], laidByText := true, laidKinds := [.data, .pinned], laidTests := true, laidLooks := .later }
def FnExactSeriesRightUptoCardSaid : Prop := Claim7.holds Tryd.pinned (.plain (OpenSpec.upto fnExactSeriesRightSpec)) fnExactSeriesRightUptoCard

/-- THE SECOND FORM's CARD OF 'laws.FnExactSampleRight'. -/
def fnExactSampleRightUptoCard : Claim7 := { stood := { row := fnExactSampleRightUptoRow, standIns := [], harness := (true, "d9ba6a73de3a7679aaf6017910c827056d51d8f6ede7f4c0c9370d6bc47911b2"), looks := false }, kinds := [], alts := [], laidByText := true, laidKinds := [.data, .pinned], laidTests := true, laidLooks := .later }
def FnExactSampleRightUptoCardSaid : Prop := Claim7.holds Tryd.pinned (.plain (OpenSpec.upto fnExactSampleRightSpec)) fnExactSampleRightUptoCard

/-- THE SECOND FORM's CARD OF 'laws.FnSeries'. -/
def fnSeriesUptoCard : Claim7 := { stood := { row := fnSeriesUptoRow, standIns := [], harness := (true, "d9ba6a73de3a7679aaf6017910c827056d51d8f6ede7f4c0c9370d6bc47911b2"), looks := false }, kinds := [], alts := [], laidByText := true, laidKinds := [.data, .pinned], laidTests := true, laidLooks := .later }
def FnSeriesUptoCardSaid : Prop := Claim7.holds Tryd.pinned (.plain (OpenSpec.upto fnSeriesSpec)) fnSeriesUptoCard
end Rows
end Go.Proofs.YtiafgcppidmoiaaDoor
