/-
  Weak contracts of the draws: numbers, bools, picks.
-/
import Derived.Test.YtohjpaokjhifoaaDoorDrawB
namespace Go.Proofs.YtohjpaokjhifoaaDoor
set_option linter.unusedVariables false
set_option linter.unusedSimpArgs false
open Go.ChangeShapes Go.WideShapes Go.ChangeAt Go.RowKit Go.PlainAid

theorem src_drews {W w : World} {B ln cap s k : Nat} {ao : Option Addr} (h : Src W B ao ln cap s w) : Src W B ao ln cap s (w.drewN k) :=
  ⟨src_bel h (grown_drews _ _ _), h.hB, h.blk⟩
/-- All cells of a new block are numbers of 64 bits. -/
def isI : Value → Bool
  | .int .i64 y => decide (-9223372036854775808 ≤ y) && decide (y ≤ 9223372036854775807)
  | _ => false
theorem isI_of {v : Value} (h : isI v = true) : ∃ y, v = .int .i64 y ∧ I64 y := by
  unfold isI at h
  split at h
  · rename_i y
    have := Bool.and_eq_true_iff.1 h
    exact ⟨y, rfl, of_decide_eq_true this.1, of_decide_eq_true this.2⟩
  · cases h
def allI (cs : Array Value) : Bool := cs.toList.all isI
theorem allI_at {cs : Array Value} (h : allI cs = true) {i : Nat} (hi : i < cs.size) : ∃ y, cs[i]? = some (.int .i64 y) ∧ I64 y := by
  obtain ⟨y, e, hI⟩ := isI_of (List.all_eq_true.1 h cs[i] (Array.mem_toList_iff.2 (Array.getElem_mem hi)))
  exact ⟨y, by rw [Array.getElem?_eq_getElem hi, e], hI⟩
theorem lit_cell {w w2 : World} {cs : Array Value} {t : TypeId} {s : Nat} (hg : (w.alloc (.cells cs t)).grownBy w2 (some s)) (hs : s < w.heap.size) (h : allI cs = true) {v : Int} (h0 : 0 ≤ v) (h1 : v < cs.size) :
    ∃ y, w2.cell? ⟨w.heap.size, v.toNat, none⟩ = some (.int .i64 y) ∧ I64 y := by
  obtain ⟨y, hy, hI⟩ := allI_at h (i := v.toNat) (by omega)
  have hb : w2.heap[w.heap.size]? = some (.cells cs t (0, 0)) := by
    rw [hg.block w.heap.size (by simp) (fun e => by cases e; omega)]; exact heap_alloc_new w _
  exact ⟨y, by rw [cell_of_row w2 w.heap.size v.toNat _ _ (0, 0) hb]; exact hy, hI⟩

theorem c_one {W w : World} {B ln cap s : Nat} {ao : Option Addr} (hc : CodeAt W B ao ln) (h : Src W B ao ln cap s w) (most : Int) (h9 : most ≤ 9223372036854775807) :
    Calls Tryd.prog 55 #[.pointer (some ⟨s, 0, none⟩), .int .i64 most] w fun e w' => ∃ b, e = .returned (.bool b) ∧ Src W B ao ln cap s w' ∧ w.grownBy w' (some s) := by
  go_enter Tryd.func55, Tryd.ntmps55
  go_wp2_with (go_at_call 32; refine (c_n hc h _ h9).mono ?_; rintro e w2 ⟨v, rfl, v0, v1, _, hS2, hg2⟩)
  go_ret
  exact ⟨_, rfl, hS2, hg2⟩

theorem c_edge {W w : World} {B ln cap s : Nat} {ao : Option Addr} (hc : CodeAt W B ao ln) (h : Src W B ao ln cap s w) :
    Calls Tryd.prog 47 #[.pointer (some ⟨s, 0, none⟩)] w fun e w' => ∃ v, e = .returned (.int .i64 v) ∧ I64 v ∧ Src W B ao ln cap s w' ∧ w.grownBy w' (some s) := by
  have hs := src_lt h
  have ha : ∀ o, Src W B ao ln cap s (w.alloc o) := fun o => src_past h ((Below.refl _ _).alloc (Nat.le_refl _) _)
  go_enter Tryd.func47, Tryd.ntmps47
  go_wp2_with (go_at_call 32; refine (c_n hc (ha _) _ (by omega)).mono ?_; rintro e w2 ⟨v, rfl, v0, v1, _, hS2, hg2⟩; have v1 := v1 (by omega); obtain ⟨y, hy, hI⟩ := lit_cell hg2 hs (by decide) v0 v1)
  go_ret
  exact ⟨y, rfl, hI, hS2, (World.grownBy_alloc _ _ _).trans hg2⟩

set_option maxHeartbeats 1000000 in
theorem c_l01Any {W w : World} {B ln cap s : Nat} {ao : Option Addr} (hc : CodeAt W B ao ln) (h : Src W B ao ln cap s w) :
    Calls Tryd.prog 24 #[.pointer (some ⟨s, 0, none⟩)] w fun e w' => ∃ v, e = .returned (.int .i64 v) ∧ I64 v ∧ Src W B ao ln cap s w' ∧ w.grownBy w' (some s) := by
  have hG : w.grownBy w (some s) := World.grownBy.refl _ _
  have hS := h
  clear h
  go_enter Tryd.func24, Tryd.ntmps24
  go_wp2_with (first
    | (go_at_call 47; refine (c_edge hc hS).mono ?_; rintro e w2 ⟨y, rfl, hI, hS2, hg2⟩; have hG := hG.trans hg2)
    | (go_at_call 32; refine (c_n hc (by first | exact hS | exact src_past hS ((Below.refl _ _).alloc (Nat.le_refl _) _)) _ (by omega)).mono ?_; rintro e w2 ⟨v, rfl, v0, v1, _, hS2, hg2⟩; have v1 := v1 (by omega); (first | (have hG := hG.trans hg2) | (obtain ⟨y, hy, hI⟩ := lit_cell hg2 (src_lt hS) (by decide) v0 v1; have hG := hG.trans ((World.grownBy_alloc _ _ _).trans hg2))); have hS := hS2))
  all_goals (go_ret; first | exact ⟨_, rfl, hI, hS2, hG⟩ | exact ⟨_, rfl, by unfold I64; omega, hS2, hG⟩)

theorem c_pick {W w : World} {B ln cap s : Nat} {ao : Option Addr} (hc : CodeAt W B ao ln) (h : Src W B ao ln cap s w) (g k M : Nat) (hg : g ≠ s) (hk : 1 < k) (hk9 : k ≤ 1000) (hcell : ∀ j, j < k → ∃ u, w.cell? ⟨g, j, none⟩ = some (.string u) ∧ u.size ≤ M) :
    Calls Tryd.prog 34 #[.pointer (some ⟨s, 0, none⟩), .slice (some ⟨g, 0, none⟩) k k] w fun e w' => ∃ u, e = .returned (.string u) ∧ u.size ≤ M ∧ Src W B ao ln cap s w' ∧ w.grownBy w' (some s) := by
  go_enter Tryd.func34, Tryd.ntmps34
  go_wp2_with (go_at_call 32; refine (c_n hc h _ (by omega)).mono ?_; rintro e w2 ⟨v, rfl, v0, v1, _, hS2, hg2⟩; have v1 := v1 (by omega); obtain ⟨u, hu, huM⟩ := hcell v.toNat (by omega); have hu2 := hg2.cell hu (by simpa using hg))
  go_ret
  exact ⟨u, rfl, huM, hS2, hg2⟩

theorem one_byte (w : World) (y : Int) : (convert 22 9 (.slice (some ⟨w.heap.size, 0, none⟩) 1 1)).run Tryd.prog (w.alloc (.cells #[.int .u8 y] 5)) = .ok (.string (strOfNums [y])) (w.alloc (.cells #[.int .u8 y] 5)) :=
  run_convert_bytes_arg (P := Tryd.prog) (w.alloc (.cells #[.int .u8 y] 5)) 22 5 Tryd.underlying22 Tryd.underlying5 w.heap.size 0 1 1 [y] rfl (fun i hi => by
    obtain rfl : i = 0 := by omega
    simp) 9 Tryd.underlying9
set_option maxRecDepth 10000 in
set_option maxHeartbeats 1000000 in
theorem c_spoil {W w : World} {B ln cap s : Nat} {ao : Option Addr} (hc : CodeAt W B ao ln) (h : Src W B ao ln cap s w) (t : ByteArray) (ht : t.size ≤ 1000000) :
    Calls Tryd.prog 33 #[.pointer (some ⟨s, 0, none⟩), .string t] w fun e w' => ∃ u, e = .returned (.string u) ∧ u.size ≤ t.size + 2 ∧ Src W B ao ln cap s w' ∧ w.grownBy w' (some s) := by
  have hG : w.grownBy w (some s) := World.grownBy.refl _ _
  have hS := h
  have hbC := get_bt ⟨#[32, 10, 48, 97, 45, 110, 44, 58, 93, 255, 40, 120, 126, 49, 128, 225, 59]⟩
  have hC1 : ∀ y, (strOfNums [y]).size = 1 := fun y => rfl
  clear h
  go_enter Tryd.func33, Tryd.ntmps33
  go_wp2_with (first
    | (go_at_call 32; refine (c_n hc hS _ (by omega)).mono ?_; rintro e w2 ⟨v, rfl, v0, v1, _, hS2, hg2⟩; have v1 := v1 (by omega); have hG := hG.trans hg2; have hS := hS2; have kc := one_byte w2)
    | (go_at_call 55; refine (c_one hc (by first | exact hS | exact src_past hS ((Below.refl _ _).alloc (Nat.le_refl _) _)) _ (by omega)).mono ?_; rintro e w2 ⟨b, rfl, hS2, hg2⟩; (first | (have hG := hG.trans hg2) | (have hG := hG.trans ((World.grownBy_alloc _ _ _).trans hg2))); have hS := hS2))
  all_goals (go_quiet (fail); go_wp2)
  all_goals (go_ret; first
    | exact ⟨_, rfl, by simp only [ByteArray.size_append, ByteArray.size_extract, hC1]; omega, src_drews hS, hG.trans (grown_drews _ _ _)⟩
    | exact ⟨_, rfl, by simp only [ByteArray.size_append, ByteArray.size_extract, hC1]; omega, src_drews (src_past hS ((Below.refl _ _).alloc (Nat.le_refl _) _)), hG.trans ((World.grownBy_alloc _ _ _).trans (grown_drews _ _ _))⟩)

/-- All cells of a new block are short texts. -/
def isS (m : Nat) : Value → Bool
  | .string u => decide (u.size ≤ m)
  | _ => false
theorem isS_of {m : Nat} {v : Value} (h : isS m v = true) : ∃ u, v = .string u ∧ u.size ≤ m := by
  unfold isS at h
  split at h
  · rename_i u
    exact ⟨u, rfl, of_decide_eq_true h⟩
  · cases h
theorem lit_strs {w : World} {m : Nat} {cs : Array Value} {t : TypeId} (h : cs.toList.all (isS m) = true) (j : Nat) (hj : j < cs.size) : ∃ u, (w.alloc (.cells cs t)).cell? ⟨w.heap.size, j, none⟩ = some (.string u) ∧ u.size ≤ m := by
  obtain ⟨u, e, hu⟩ := isS_of (List.all_eq_true.1 h cs[j] (Array.mem_toList_iff.2 (Array.getElem_mem hj)))
  have hb : (w.alloc (.cells cs t)).heap[w.heap.size]? = some (.cells cs t (0, 0)) := heap_alloc_new w _
  exact ⟨u, by rw [cell_of_row _ w.heap.size j _ _ (0, 0) hb, Array.getElem?_eq_getElem hj, e], hu⟩

theorem c_pick_lit {W w : World} {B ln cap s : Nat} {ao : Option Addr} (hc : CodeAt W B ao ln) (h : Src W B ao ln cap s w) (M : Nat) {k : Nat} {cs : Array Value} {t : TypeId} (hk : k = cs.size) (h1 : 1 < k) (h9 : k ≤ 1000) (hcs : cs.toList.all (isS M) = true) :
    Calls Tryd.prog 34 #[.pointer (some ⟨s, 0, none⟩), .slice (some ⟨w.heap.size, 0, none⟩) k k] (w.alloc (.cells cs t)) fun e w' => ∃ u, e = .returned (.string u) ∧ u.size ≤ M ∧ Src W B ao ln cap s w' ∧ w.grownBy w' (some s) := by
  refine (c_pick hc (src_past h ((Below.refl _ _).alloc (Nat.le_refl _) _)) w.heap.size k M (by have := src_lt h; omega) h1 h9 (fun j hj => lit_strs hcs j (by omega))).mono ?_
  rintro e w' ⟨u, rfl, hu, hS, hg⟩
  exact ⟨u, rfl, hu, hS, (World.grownBy_alloc _ _ _).trans hg⟩
end Go.Proofs.YtohjpaokjhifoaaDoor
