/-
  The model's SeriesRight.
-/
import Derived.Test.YtalmhekbagjdeaaGreatDoorSrtS
namespace Go.Proofs.YtalmhekbagjdeaaGreatDoor
set_option linter.unusedVariables false
set_option linter.unusedSimpArgs false
open Go.ChangeShapes Go.WideShapes Go.ChangeAt Go.RowKit Go.PlainAid
set_option maxRecDepth 10000

set_option maxHeartbeats 1000000 in
theorem c_s_SeriesRight {w : World} (t : ByteArray) (hs : t.size ≤ maxLen) :
    Calls Tryz.prog 26 #[.string t] w fun e w' => e = .returned (.bool (serRB t)) ∧ Below w.heap.size w w' := by
  unfold maxLen at hs
  by_cases h1 : 20000 < t.size
  · have h1i : (20000 : Int) < (t.size : Int) := by omega
    have HE : Hid (serRB t = false) := serRB_f (fun ⟨name, K, h⟩ => by have := h.2.2.2.2.1; omega)
    go_enter Tryz.func26, Tryz.ntmps26
    go_wp2
    go_ret
    exact ⟨ret_bool HE.out.symm, Below.refl _ _⟩
  have h1i : ¬ (20000 : Int) < (t.size : Int) := by omega
  go_enter Tryz.func26, Tryz.ntmps26
  go_wp2_with fail
  refine (c_s_l06Parts t (by omega)).mono ?_
  rintro e w1 ⟨nm, ao, n, c, rfl, _, hb⟩
  go_wp2
  go_ret
  exact ⟨rfl, hb⟩
end Go.Proofs.YtalmhekbagjdeaaGreatDoor
