/-
  Weak contracts of the draws: numbers, bools, picks.
-/
import Derived.Test.YtiafgcppidmoiaaDoorDrawB
namespace Go.Proofs.YtiafgcppidmoiaaDoor
set_option linter.unusedVariables false
set_option linter.unusedSimpArgs false
open Go.ChangeShapes Go.WideShapes Go.ChangeAt Go.RowKit Go.PlainAid

theorem src_drews {W w : World} {B ln cap s k : Nat} {ao : Option Addr} (h : Src W B ao ln cap s w) : Src W B ao ln cap s (w.drewN k) :=
  ⟨src_bel h (grown_drews _ _ _), h.hB, h.blk⟩
/-- All cells of a new block are numbers of 64 bits. -/
def isI : Value → Bool
  | .int .i64 y => decide (-9223372036854775808 ≤ y) && decide (y ≤ 9223372036854775807)
  | _ => false
theorem isI_of {v : Value} (h : isI v = true) : ∃ y, v = .int .i64 y ∧ I64 y := by
  unfold isI at h
  split at h
  · rename_i y
    have := Bool.and_eq_true_iff.1 h
    exact ⟨y, rfl, of_decide_eq_true this.1, of_decide_eq_true this.2⟩
  · cases h
def allI (cs : Array Value) : Bool := cs.toList.all isI
theorem allI_at {cs : Array Value} (h : allI cs = true) {i : Nat} (hi : i < cs.size) : ∃ y, cs[i]? = some (.int .i64 y) ∧ I64 y := by
  obtain ⟨y, e, hI⟩ := isI_of (List.all_eq_true.1 h cs[i] (Array.mem_toList_iff.2 (Array.getElem_mem hi)))
  exact ⟨y, by rw [Array.getElem?_eq_getElem hi, e], hI⟩
theorem lit_cell {w w2 : World} {cs : Array Value} {t : TypeId} {s : Nat} (hg : (w.alloc (.cells cs t)).grownBy w2 (some s)) (hs : s < w.heap.size) (h : allI cs = true) {v : Int} (h0 : 0 ≤ v) (h1 : v < cs.size) :
    ∃ y, w2.cell? ⟨w.heap.size, v.toNat, none⟩ = some (.int .i64 y) ∧ I64 y := by
  obtain ⟨y, hy, hI⟩ := allI_at h (i := v.toNat) (by omega)
  have hb : w2.heap[w.heap.size]? = some (.cells cs t (0, 0)) := by
    rw [hg.block w.heap.size (by simp) (fun e => by cases e; omega)]; exact heap_alloc_new w _
  exact ⟨y, by rw [cell_of_row w2 w.heap.size v.toNat _ _ (0, 0) hb]; exact hy, hI⟩

theorem c_one {W w : World} {B ln cap s : Nat} {ao : Option Addr} (hc : CodeAt W B ao ln) (h : Src W B ao ln cap s w) (most : Int) (h9 : most ≤ 9223372036854775807) :
    Calls Tryd.prog 30 #[.pointer (some ⟨s, 0, none⟩), .int .i64 most] w fun e w' => ∃ b, e = .returned (.bool b) ∧ Src W B ao ln cap s w' ∧ w.grownBy w' (some s) := by
  go_enter Tryd.func30, Tryd.ntmps30
  go_wp2_with (go_at_call 28; refine (c_n hc h _ h9).mono ?_; rintro e w2 ⟨v, rfl, v0, v1, _, hS2, hg2⟩)
  go_ret
  exact ⟨_, rfl, hS2, hg2⟩



theorem c_pick {W w : World} {B ln cap s : Nat} {ao : Option Addr} (hc : CodeAt W B ao ln) (h : Src W B ao ln cap s w) (g k M : Nat) (hg : g ≠ s) (hk : 1 < k) (hk9 : k ≤ 1000) (hcell : ∀ j, j < k → ∃ u, w.cell? ⟨g, j, none⟩ = some (.string u) ∧ u.size ≤ M) :
    Calls Tryd.prog 27 #[.pointer (some ⟨s, 0, none⟩), .slice (some ⟨g, 0, none⟩) k k] w fun e w' => ∃ u, e = .returned (.string u) ∧ u.size ≤ M ∧ Src W B ao ln cap s w' ∧ w.grownBy w' (some s) := by
  go_enter Tryd.func27, Tryd.ntmps27
  go_wp2_with (go_at_call 28; refine (c_n hc h _ (by omega)).mono ?_; rintro e w2 ⟨v, rfl, v0, v1, _, hS2, hg2⟩; have v1 := v1 (by omega); obtain ⟨u, hu, huM⟩ := hcell v.toNat (by omega); have hu2 := hg2.cell hu (by simpa using hg))
  go_ret
  exact ⟨u, rfl, huM, hS2, hg2⟩


/-- All cells of a new block are short texts. -/
def isS (m : Nat) : Value → Bool
  | .string u => decide (u.size ≤ m)
  | _ => false
theorem isS_of {m : Nat} {v : Value} (h : isS m v = true) : ∃ u, v = .string u ∧ u.size ≤ m := by
  unfold isS at h
  split at h
  · rename_i u
    exact ⟨u, rfl, of_decide_eq_true h⟩
  · cases h
theorem lit_strs {w : World} {m : Nat} {cs : Array Value} {t : TypeId} (h : cs.toList.all (isS m) = true) (j : Nat) (hj : j < cs.size) : ∃ u, (w.alloc (.cells cs t)).cell? ⟨w.heap.size, j, none⟩ = some (.string u) ∧ u.size ≤ m := by
  obtain ⟨u, e, hu⟩ := isS_of (List.all_eq_true.1 h cs[j] (Array.mem_toList_iff.2 (Array.getElem_mem hj)))
  have hb : (w.alloc (.cells cs t)).heap[w.heap.size]? = some (.cells cs t (0, 0)) := heap_alloc_new w _
  exact ⟨u, by rw [cell_of_row _ w.heap.size j _ _ (0, 0) hb, Array.getElem?_eq_getElem hj, e], hu⟩

theorem c_pick_lit {W w : World} {B ln cap s : Nat} {ao : Option Addr} (hc : CodeAt W B ao ln) (h : Src W B ao ln cap s w) (M : Nat) {k : Nat} {cs : Array Value} {t : TypeId} (hk : k = cs.size) (h1 : 1 < k) (h9 : k ≤ 1000) (hcs : cs.toList.all (isS M) = true) :
    Calls Tryd.prog 27 #[.pointer (some ⟨s, 0, none⟩), .slice (some ⟨w.heap.size, 0, none⟩) k k] (w.alloc (.cells cs t)) fun e w' => ∃ u, e = .returned (.string u) ∧ u.size ≤ M ∧ Src W B ao ln cap s w' ∧ w.grownBy w' (some s) := by
  refine (c_pick hc (src_past h ((Below.refl _ _).alloc (Nat.le_refl _) _)) w.heap.size k M (by have := src_lt h; omega) h1 h9 (fun j hj => lit_strs hcs j (by omega))).mono ?_
  rintro e w' ⟨u, rfl, hu, hS, hg⟩
  exact ⟨u, rfl, hu, hS, (World.grownBy_alloc _ _ _).trans hg⟩
end Go.Proofs.YtiafgcppidmoiaaDoor
