/-
  Weak contracts of the draws: numbers, bools, picks.
-/
import Derived.Test.YtljhjcmodaaaoaaDrawB
namespace Go.Proofs.Ytljhjcmodaaaoaa
set_option linter.unusedVariables false
set_option linter.unusedSimpArgs false
open Go.ChangeShapes Go.WideShapes Go.ChangeAt Go.RowKit Go.PlainAid

theorem src_drews {W w : World} {B ln cap s k : Nat} {ao : Option Addr} (h : Src W B ao ln cap s w) : Src W B ao ln cap s (w.drewN k) :=
  ⟨src_bel h (grown_drews _ _ _), h.hB, h.blk⟩
/-- All cells of a new block are numbers of 64 bits. -/
def isI : Value → Bool
  | .int .i64 y => decide (-9223372036854775808 ≤ y) && decide (y ≤ 9223372036854775807)
  | _ => false
theorem isI_of {v : Value} (h : isI v = true) : ∃ y, v = .int .i64 y ∧ I64 y := by
  unfold isI at h
  split at h
  · rename_i y
    have := Bool.and_eq_true_iff.1 h
    exact ⟨y, rfl, of_decide_eq_true this.1, of_decide_eq_true this.2⟩
  · cases h
def allI (cs : Array Value) : Bool := cs.toList.all isI
theorem allI_at {cs : Array Value} (h : allI cs = true) {i : Nat} (hi : i < cs.size) : ∃ y, cs[i]? = some (.int .i64 y) ∧ I64 y := by
  obtain ⟨y, e, hI⟩ := isI_of (List.all_eq_true.1 h cs[i] (Array.mem_toList_iff.2 (Array.getElem_mem hi)))
  exact ⟨y, by rw [Array.getElem?_eq_getElem hi, e], hI⟩
theorem lit_cell {w w2 : World} {cs : Array Value} {t : TypeId} {s : Nat} (hg : (w.alloc (.cells cs t)).grownBy w2 (some s)) (hs : s < w.heap.size) (h : allI cs = true) {v : Int} (h0 : 0 ≤ v) (h1 : v < cs.size) :
    ∃ y, w2.cell? ⟨w.heap.size, v.toNat, none⟩ = some (.int .i64 y) ∧ I64 y := by
  obtain ⟨y, hy, hI⟩ := allI_at h (i := v.toNat) (by omega)
  have hb : w2.heap[w.heap.size]? = some (.cells cs t (0, 0)) := by
    rw [hg.block w.heap.size (by simp) (fun e => by cases e; omega)]; exact heap_alloc_new w _
  exact ⟨y, by rw [cell_of_row w2 w.heap.size v.toNat _ _ (0, 0) hb]; exact hy, hI⟩

theorem c_one {W w : World} {B ln cap s : Nat} {ao : Option Addr} (hc : CodeAt W B ao ln) (h : Src W B ao ln cap s w) (most : Int) (h9 : most ≤ 9223372036854775807) :
    Calls Try.prog 56 #[.pointer (some ⟨s, 0, none⟩), .int .i64 most] w fun e w' => ∃ b, e = .returned (.bool b) ∧ Src W B ao ln cap s w' ∧ w.grownBy w' (some s) := by
  go_enter Try.func56, Try.ntmps56
  go_wp2_with (go_at_call 55; refine (c_n hc h _ h9).mono ?_; rintro e w2 ⟨v, rfl, v0, v1, _, hS2, hg2⟩)
  go_ret
  exact ⟨_, rfl, hS2, hg2⟩





/-- All cells of a new block are short texts. -/
def isS (m : Nat) : Value → Bool
  | .string u => decide (u.size ≤ m)
  | _ => false
theorem isS_of {m : Nat} {v : Value} (h : isS m v = true) : ∃ u, v = .string u ∧ u.size ≤ m := by
  unfold isS at h
  split at h
  · rename_i u
    exact ⟨u, rfl, of_decide_eq_true h⟩
  · cases h
theorem lit_strs {w : World} {m : Nat} {cs : Array Value} {t : TypeId} (h : cs.toList.all (isS m) = true) (j : Nat) (hj : j < cs.size) : ∃ u, (w.alloc (.cells cs t)).cell? ⟨w.heap.size, j, none⟩ = some (.string u) ∧ u.size ≤ m := by
  obtain ⟨u, e, hu⟩ := isS_of (List.all_eq_true.1 h cs[j] (Array.mem_toList_iff.2 (Array.getElem_mem hj)))
  have hb : (w.alloc (.cells cs t)).heap[w.heap.size]? = some (.cells cs t (0, 0)) := heap_alloc_new w _
  exact ⟨u, by rw [cell_of_row _ w.heap.size j _ _ (0, 0) hb, Array.getElem?_eq_getElem hj, e], hu⟩

end Go.Proofs.Ytljhjcmodaaaoaa
