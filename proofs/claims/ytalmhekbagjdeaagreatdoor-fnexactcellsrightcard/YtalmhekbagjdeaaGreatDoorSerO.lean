/-
  SeriesOf, of the program and of its model.
-/
import Derived.Test.YtalmhekbagjdeaaGreatDoorSerW
namespace Go.Proofs.YtalmhekbagjdeaaGreatDoor
set_option linter.unusedVariables false
set_option linter.unusedSimpArgs false
open Go.ChangeShapes Go.WideShapes Go.ChangeAt Go.RowKit Go.PlainAid
set_option maxRecDepth 10000

def serO (name : ByteArray) (L : List ByteArray) : ByteArray := if 400 < L.length then ByteArray.empty else serW name L
end Go.Proofs.YtalmhekbagjdeaaGreatDoor
