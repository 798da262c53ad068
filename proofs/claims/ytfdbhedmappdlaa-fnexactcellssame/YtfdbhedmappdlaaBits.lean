/-
  The law of a call of math/bits.Add64, which the model stands in for.
-/
import Derived.Test.YtfdbhedmappdlaaRows
import Derived.Test.YtfdbhedmappdlaaMath
import Derived.Laws.Externs
namespace Go.Proofs.Ytfdbhedmappdlaa
open Go.ChangeShapes Go.WideShapes Go.ChangeAt Go.RowKit

end Go.Proofs.Ytfdbhedmappdlaa
