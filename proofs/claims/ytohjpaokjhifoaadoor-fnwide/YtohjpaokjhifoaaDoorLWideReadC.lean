/-
  The contract of spec.WideRead at every text.
-/
import Derived.Test.YtohjpaokjhifoaaDoorReadS
namespace Go.Proofs.YtohjpaokjhifoaaDoor
set_option linter.unusedVariables false
set_option linter.unusedSimpArgs false
open Go.ChangeShapes Go.WideShapes Go.ChangeAt Go.RowKit Go.PlainAid

theorem c_s_WideRead (s : ByteArray) (hs : s.size ≤ maxLen) (w : World) :
    Calls Tryd.prog 20 #[.string s] w fun e w' => e = .returned (.agg #[.int .i64 (rdH s), .int .u64 (rdL s), .int .i64 (rdC s)]) ∧ Below w.heap.size w w' := by
  cases hf : fitB s
  · exact c_s_WideRead_size s hs hf w
  · cases hn : negB s
    · exact c_s_WideRead_pos s hs hf hn w
    · exact c_s_WideRead_neg s hs hf hn w

end Go.Proofs.YtohjpaokjhifoaaDoor
