/-
  The law of a call of math/bits.Add64, which the model stands in for.
-/
import Derived.Test.YtjcogjfgppkomaaRows
import Derived.Test.YtjcogjfgppkomaaMath
import Derived.Laws.Externs
namespace Go.Proofs.Ytjcogjfgppkomaa
open Go.ChangeShapes Go.WideShapes Go.ChangeAt Go.RowKit

end Go.Proofs.Ytjcogjfgppkomaa
