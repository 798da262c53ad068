/-
  DERIVED. GIVEN WITH THE SEED: THE CARDS: each row of YtpoopmembaldhaaDoorRows.lean that lists a variable, with what it lists TIED to the program's text (the seventh form; the later family's looks); each row that meets fmt, with fmt's text TOLD by the authors' own Lean function (tested against real Go, not proved from fmt's source: count such statements apart). THE CARD IS WHAT COUNTS. Prove the row's statement (the work); the ties are given (YtpoopmembaldhaaDoorTie.lean); close each card by the builder's one call (the guide's Derived/Test/ToyasCard.lean, 'card_holds'). Laid BY PROGRAM, IN A SANDBOX (cutbox-door.mjs). By AI agents, Wed Nov 11 2026. No macro, syntax, notation, axiom, sorry.
-/
import Derived.Test.YtpoopmembaldhaaDoorRows
import GoSem.ClaimSeven
namespace Go.Proofs.YtpoopmembaldhaaDoor
namespace Rows

/-- THE TIED CARD OF 'laws.FnExactValueRead'. -/
def fnExactValueReadCard : Claim7 := { stood := { row := fnExactValueReadRow, standIns := [], harness := (true, "3be6faf859340e248f85c6a1a47234eb6e2812a2fd5e2246b59604fa011871c2"), looks := true }, kinds := [], alts := [], laidByText := true, laidKinds := [.handle], laidTests := true, laidLooks := .later }
def FnExactValueReadCardSaid : Prop := Claim7.holds Tryd.pinned (.plain (OpenSpec.ofChange fnExactValueReadSpec)) fnExactValueReadCard

/-- THE TIED CARD OF 'laws.FnExactValueText'. -/
def fnExactValueTextCard : Claim7 := { stood := { row := fnExactValueTextRow, standIns := [], harness := (true, "3be6faf859340e248f85c6a1a47234eb6e2812a2fd5e2246b59604fa011871c2"), looks := true }, kinds := [], alts := [], laidByText := true, laidKinds := [.data, .data, .data, .data, .pinned], laidTests := true, laidLooks := .later }
def FnExactValueTextCardSaid : Prop := Claim7.holds Tryd.pinned (.plain (OpenSpec.ofChange fnExactValueTextSpec)) fnExactValueTextCard

/-- THE SECOND FORM's CARD OF 'laws.FnExactValueRead'. -/
def fnExactValueReadUptoCard : Claim7 := { stood := { row := fnExactValueReadUptoRow, standIns := [], harness := (true, "3be6faf859340e248f85c6a1a47234eb6e2812a2fd5e2246b59604fa011871c2"), looks := true }, kinds := [], alts := [], laidByText := true, laidKinds := [.handle], laidTests := true, laidLooks := .later }
def FnExactValueReadUptoCardSaid : Prop := Claim7.holds Tryd.pinned (.plain (OpenSpec.upto fnExactValueReadSpec)) fnExactValueReadUptoCard

/-- THE SECOND FORM's CARD OF 'laws.FnExactValueText'. -/
def fnExactValueTextUptoCard : Claim7 := { stood := { row := fnExactValueTextUptoRow, standIns := [], harness := (true, "3be6faf859340e248f85c6a1a47234eb6e2812a2fd5e2246b59604fa011871c2"), looks := true }, kinds := [], alts := [], laidByText := true, laidKinds := [.data, .data, .data, .data, .pinned], laidTests := true, laidLooks := .later }
def FnExactValueTextUptoCardSaid : Prop := Claim7.holds Tryd.pinned (.plain (OpenSpec.upto fnExactValueTextSpec)) fnExactValueTextUptoCard
end Rows
end Go.Proofs.YtpoopmembaldhaaDoor
