/-
  The model's sketch of how many: l04Merge where one has registers.
-/
import Derived.Test.YteencdjpfkkpnaaGreatDoorJO
namespace Go.Proofs.YteencdjpfkkpnaaGreatDoor
set_option linter.unusedVariables false
set_option linter.unusedSimpArgs false
open Go.ChangeShapes Go.WideShapes Go.ChangeAt Go.RowKit Go.PlainAid Go.Maps
set_option maxRecDepth 10000

end Go.Proofs.YteencdjpfkkpnaaGreatDoor

/-
  The model's sketch of how many: HllMerge.
-/
namespace Go.Proofs.YteencdjpfkkpnaaGreatDoor
set_option linter.unusedVariables false
set_option linter.unusedSimpArgs false
open Go.ChangeShapes Go.WideShapes Go.ChangeAt Go.RowKit Go.PlainAid Go.Maps
set_option maxRecDepth 10000

end Go.Proofs.YteencdjpfkkpnaaGreatDoor
