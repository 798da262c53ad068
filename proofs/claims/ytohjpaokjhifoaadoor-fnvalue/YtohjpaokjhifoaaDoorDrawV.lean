/-
  Weak contracts of the draws: a text to be read as a value.
-/
import Derived.Test.YtohjpaokjhifoaaDoorDrawC
import Derived.Test.YtohjpaokjhifoaaDoorVTextS
namespace Go.Proofs.YtohjpaokjhifoaaDoor
set_option linter.unusedVariables false
set_option linter.unusedSimpArgs false
open Go.ChangeShapes Go.WideShapes Go.ChangeAt Go.RowKit Go.PlainAid

theorem vtx_size (v : Int) : (vtx v).size ≤ 30 := by
  unfold vtx
  have hs : (sgx v).size ≤ 1 := by unfold sgx; split <;> decide
  split
  · rename_i h
    have hd := dtx_size (v.natAbs / 1000000) (by omega)
    have hp := ptx_size (v.natAbs % 1000000)
    have h46 : (⟨#[46]⟩ : ByteArray).size = 1 := rfl
    split
    · rw [ByteArray.size_append]; omega
    · simp only [ByteArray.size_append, h46]; omega
  · decide

/-- All cells of a new block are short texts. -/
def isS (m : Nat) : Value → Bool
  | .string u => decide (u.size ≤ m)
  | _ => false
theorem isS_of {m : Nat} {v : Value} (h : isS m v = true) : ∃ u, v = .string u ∧ u.size ≤ m := by
  unfold isS at h
  split at h
  · rename_i u
    exact ⟨u, rfl, of_decide_eq_true h⟩
  · cases h
theorem lit_strs {w : World} {m : Nat} {cs : Array Value} {t : TypeId} (h : cs.toList.all (isS m) = true) (j : Nat) (hj : j < cs.size) : ∃ u, (w.alloc (.cells cs t)).cell? ⟨w.heap.size, j, none⟩ = some (.string u) ∧ u.size ≤ m := by
  obtain ⟨u, e, hu⟩ := isS_of (List.all_eq_true.1 h cs[j] (Array.mem_toList_iff.2 (Array.getElem_mem hj)))
  have hb : (w.alloc (.cells cs t)).heap[w.heap.size]? = some (.cells cs t (0, 0)) := heap_alloc_new w _
  exact ⟨u, by rw [cell_of_row _ w.heap.size j _ _ (0, 0) hb, Array.getElem?_eq_getElem hj, e], hu⟩

theorem c_pick_lit {W w : World} {B ln cap s : Nat} {ao : Option Addr} (hc : CodeAt W B ao ln) (h : Src W B ao ln cap s w) (M : Nat) {k : Nat} {cs : Array Value} {t : TypeId} (hk : k = cs.size) (h1 : 1 < k) (h9 : k ≤ 1000) (hcs : cs.toList.all (isS M) = true) :
    Calls Tryd.prog 34 #[.pointer (some ⟨s, 0, none⟩), .slice (some ⟨w.heap.size, 0, none⟩) k k] (w.alloc (.cells cs t)) fun e w' => ∃ u, e = .returned (.string u) ∧ u.size ≤ M ∧ Src W B ao ln cap s w' ∧ w.grownBy w' (some s) := by
  refine (c_pick hc (src_past h ((Below.refl _ _).alloc (Nat.le_refl _) _)) w.heap.size k M (by have := src_lt h; omega) h1 h9 (fun j hj => lit_strs hcs j (by omega))).mono ?_
  rintro e w' ⟨u, rfl, hu, hS, hg⟩
  exact ⟨u, rfl, hu, hS, (World.grownBy_alloc _ _ _).trans hg⟩
set_option maxRecDepth 10000 in
set_option maxHeartbeats 1000000 in
theorem c_DrawValueRead (ao : Option Addr) (ln cap : Nat) (w : World) (hc : CodeAt w w.heap.size ao ln) :
    Calls Tryd.prog 9 #[.slice ao ln cap] w fun e w' => ∃ u, e = .returned (.string u) ∧ u.size ≤ 32 ∧ Below w.heap.size w w' := by
  go_enter Tryd.func9, Tryd.ntmps9
  go_wp2_with (first
    | (go_at_call 23; refine (c_l01Source _ _ _ _ hc).mono ?_; rintro e w1 ⟨rfl, hS⟩)
    | (go_at_call 24; refine (c_l01Any hc hS).mono ?_; rintro e w2 ⟨x, rfl, hI, hS, hg2⟩)
    | (go_at_call 7; refine (c_s_ValueText _ _).mono ?_; rintro e w3 ⟨rfl, hb3⟩; have hS := src_past hS hb3; have hz := vtx_size x)
    | (go_at_call 32; refine (c_n hc hS _ (by omega)).mono ?_; rintro e w4 ⟨v, rfl, v0, v1, _, hS, hg4⟩)
    | (go_at_call 33; refine (c_spoil hc hS _ (by omega)).mono ?_; rintro e w5 ⟨u, rfl, hu, hS, hg5⟩)
    | (go_at_call 34; refine (c_pick_lit hc hS 30 (by rfl) (by omega) (by omega) (by decide)).mono ?_; rintro e w5 ⟨u, rfl, hu, hS, hg5⟩))
  all_goals go_ret
  all_goals first | exact ⟨u, rfl, by omega, hS.bel⟩ | exact ⟨_, rfl, by omega, hS.bel⟩
end Go.Proofs.YtohjpaokjhifoaaDoor
