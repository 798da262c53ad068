/-
  The law of a call of math/bits.Add64, which the model stands in for.
-/
import Derived.Test.YtalmhekbagjdeaaGreatDoorRows
import Derived.Test.YtalmhekbagjdeaaGreatDoorMath
import Derived.Laws.Externs
namespace Go.Proofs.YtalmhekbagjdeaaGreatDoor
open Go.ChangeShapes Go.WideShapes Go.ChangeAt Go.RowKit

end Go.Proofs.YtalmhekbagjdeaaGreatDoor
