/-
  Weak contracts of the draws: a text to be read as a value.
-/
import Derived.Test.YtohjpaokjhifoaaDoorDrawC
import Derived.Test.YtohjpaokjhifoaaDoorVTextS
namespace Go.Proofs.YtohjpaokjhifoaaDoor
set_option linter.unusedVariables false
set_option linter.unusedSimpArgs false
open Go.ChangeShapes Go.WideShapes Go.ChangeAt Go.RowKit Go.PlainAid

theorem vtx_size (v : Int) : (vtx v).size ≤ 30 := by
  unfold vtx
  have hs : (sgx v).size ≤ 1 := by unfold sgx; split <;> decide
  split
  · rename_i h
    have hd := dtx_size (v.natAbs / 1000000) (by omega)
    have hp := ptx_size (v.natAbs % 1000000)
    have h46 : (⟨#[46]⟩ : ByteArray).size = 1 := rfl
    split
    · rw [ByteArray.size_append]; omega
    · simp only [ByteArray.size_append, h46]; omega
  · decide

theorem c_DrawValueText (ao : Option Addr) (ln cap : Nat) (w : World) (hc : CodeAt w w.heap.size ao ln) :
    Calls Tryd.prog 5 #[.slice ao ln cap] w fun e w' => ∃ v, e = .returned (.int .i64 v) ∧ I64 v ∧ Below w.heap.size w w' := by
  go_enter Tryd.func5, Tryd.ntmps5
  go_wp2_with (first
    | (go_at_call 23; refine (c_l01Source _ _ _ _ hc).mono ?_; rintro e w1 ⟨rfl, hS⟩)
    | (go_at_call 24; refine (c_l01Any hc hS).mono ?_; rintro e w2 ⟨v, rfl, hI, hS2, hg2⟩))
  go_ret
  exact ⟨v, rfl, hI, hS2.bel⟩
set_option maxRecDepth 10000 in
set_option maxHeartbeats 1000000 in
theorem c_DrawValueRead (ao : Option Addr) (ln cap : Nat) (w : World) (hc : CodeAt w w.heap.size ao ln) :
    Calls Tryd.prog 9 #[.slice ao ln cap] w fun e w' => ∃ u, e = .returned (.string u) ∧ u.size ≤ 32 ∧ Below w.heap.size w w' := by
  go_enter Tryd.func9, Tryd.ntmps9
  go_wp2_with (first
    | (go_at_call 23; refine (c_l01Source _ _ _ _ hc).mono ?_; rintro e w1 ⟨rfl, hS⟩)
    | (go_at_call 24; refine (c_l01Any hc hS).mono ?_; rintro e w2 ⟨x, rfl, hI, hS, hg2⟩)
    | (go_at_call 7; refine (c_s_ValueText _ _).mono ?_; rintro e w3 ⟨rfl, hb3⟩; have hS := src_past hS hb3; have hz := vtx_size x)
    | (go_at_call 32; refine (c_n hc hS _ (by omega)).mono ?_; rintro e w4 ⟨v, rfl, v0, v1, _, hS, hg4⟩)
    | (go_at_call 33; refine (c_spoil hc hS _ (by omega)).mono ?_; rintro e w5 ⟨u, rfl, hu, hS, hg5⟩)
    | (go_at_call 34; refine (c_pick_lit hc hS 30 (by rfl) (by omega) (by omega) (by decide)).mono ?_; rintro e w5 ⟨u, rfl, hu, hS, hg5⟩))
  all_goals go_ret
  all_goals first | exact ⟨u, rfl, by omega, hS.bel⟩ | exact ⟨_, rfl, by omega, hS.bel⟩
end Go.Proofs.YtohjpaokjhifoaaDoor
