/-
  The walk of the law FnValue.
-/
import Derived.Test.YtohjpaokjhifoaaDoorMathH
import Derived.Test.YtohjpaokjhifoaaDoorLValueReadC
import Derived.Deep.RegionHeld3
namespace Go.Proofs.YtohjpaokjhifoaaDoor
set_option linter.unusedVariables false
set_option linter.unusedSimpArgs false
open Go.ChangeShapes Go.WideShapes Go.ChangeAt Go.RowKit Go.PlainAid

theorem codeAt_past {w w' : World} {B B' : Nat} {ao : Option Addr} {ln : Nat} (h : CodeAt w B ao ln) (hb : Below B w w') (hB : B ≤ B') : CodeAt w' B' ao ln := by
  refine ⟨h.1, fun h0 => ?_⟩
  obtain ⟨b, off, e, hl, hc⟩ := h.2 h0
  exact ⟨b, off, e, by omega, fun i hi => by obtain ⟨x, hx⟩ := hc i hi; exact ⟨x, by rw [hb.cell (by exact hl)]; exact hx⟩⟩

theorem bel_drews {B k : Nat} {w w' : World} (h : Below B w w') : Below B w (w'.drewN k) := ⟨h.os, h.tape, h.output, h.size, h.block⟩

set_option maxRecDepth 10000 in
set_option maxHeartbeats 2000000 in
theorem walkValue_in (ao1 ao2 : Option Addr) (l1 c1 l2 c2 : Nat) (w : World) (h1 : CodeAt w w.heap.size ao1 l1) (h2 : CodeAt w w.heap.size ao2 l2) (hE : errT w) (hT : tabU w) :
    Calls Tryd.prog 3 #[.slice ao1 l1 c1, .slice ao2 l2 c2] w fun e w' => e = .returned (.bool true) ∧ Below w.heap.size w w' := by
  have hl1 : ¬ (1048576 : Int) < (l1 : Int) := by have := h1.1; omega
  have hl2 : ¬ (1048576 : Int) < (l2 : Int) := by have := h2.1; omega
  have hB : Below w.heap.size w w := Below.refl _ _
  have HS : Hid (∀ v, (vtx v).size ≤ 30) := vtx_size
  go_enter Tryd.func3, Tryd.ntmps3
  go_wp2_with (first
    | (go_at_call 5; refine (c_DrawValueText _ _ _ _ h1).mono ?_; rintro e w1 ⟨v, rfl, hI, hb⟩; have hB := hB.trans (hb.mono hB.size); have hE := cell_past hb hE; have hT := tabU_past hT hb (Nat.le_refl _); clear hb hI)
    | (go_at_call 6; refine (c_i_ValueText _ _ hT).mono ?_; rintro e w2 ⟨rfl, hb⟩; have hB := hB.trans (hb.mono hB.size); have hE := cell_past hb hE; have hT := tabU_past hT hb (Nat.le_refl _); clear hb)
    | (go_at_call 7; refine (c_s_ValueText _ _).mono ?_; rintro e w2 ⟨rfl, hb⟩; have hB := hB.trans (hb.mono hB.size); have hE := cell_past hb hE; have hT := tabU_past hT hb (Nat.le_refl _); clear hb))
  · go_wp2_with (first
      | (go_at_call 9; refine (c_DrawValueRead _ _ _ _ (codeAt_past h2 hB hB.size)).mono ?_; rintro e w5 ⟨u, rfl, hu, hb⟩; have hB := hB.trans (hb.mono hB.size); have hE := cell_past hb hE; have hT := tabU_past hT hb (Nat.le_refl _); clear hb)
      | (go_at_call 8; refine (c_i_ValueRead _ (by unfold maxLen; omega) _ hE).mono ?_; rintro e w6 ⟨rfl, hb⟩; have hB := hB.trans (hb.mono hB.size); have hE := cell_past hb hE; have hT := tabU_past hT hb (Nat.le_refl _); clear hb; have hz6 := hB.size))
    have hB9 : ∀ o, Below w.heap.size w ((w6.alloc o).drew) := fun o => (hB.alloc hz6 o).drew
    have hE9 : ∀ o, errT ((w6.alloc o).drew) := fun o => cell_on hE o
    have hT9 : ∀ o, tabU ((w6.alloc o).drew) := fun o => tabU_past hT (((Below.refl w6.heap.size w6).alloc (Nat.le_refl _) o).drew) (Nat.le_refl _)
    clear hB hE hT
    go_region_held3 (fun w' => w'.cell? ⟨w6.heap.size, 0, none⟩ = some (.int .i64 (rvV u)) ∧ w'.cell? ⟨w6.heap.size, 1, none⟩ = some (.int .i64 (rvC u)) ∧ Below w.heap.size w w' ∧ errT w' ∧ tabU w')
      (first | exact hS2 | exact ⟨by simp, by simp, hB9 _, hE9 _, hT9 _⟩)
      (first
        | (go_at_call 10; have hS1 := ‹_ ∧ _ ∧ Below _ _ _ ∧ errT _ ∧ tabU _›; refine (c_s_ValueRead _ (by unfold maxLen; omega) _).mono ?_; rintro e w7 ⟨rfl, hb7⟩; have hS2 : w7.cell? ⟨w6.heap.size, 0, none⟩ = some (.int .i64 (rvV u)) ∧ w7.cell? ⟨w6.heap.size, 1, none⟩ = some (.int .i64 (rvC u)) ∧ Below w.heap.size w w7 ∧ errT w7 ∧ tabU w7 := ⟨cell_past hb7 hS1.1, cell_past hb7 hS1.2.1, hS1.2.2.1.trans (hb7.mono hS1.2.2.1.size), cell_past hb7 hS1.2.2.2.1, tabU_past hS1.2.2.2.2 hb7 (Nat.le_refl _)⟩))
    have s0 := hS2.1
    have s1 := hS2.2.1
    have hB := hS2.2.2.1
    have hE := hS2.2.2.2.1
    have hT := hS2.2.2.2.2
    have hz7 := hB.size
    clear hS2 hB9 hE9 hT9
    by_cases hc : rvC u = 0
    · obtain ⟨hr2, hlen⟩ := read_len hc
      obtain ⟨q3, q4⟩ := read_back hr2
      have hleni : ((vtx (rvV u)).size : Int) ≤ (u.size : Int) := by omega
      have hzw := HS.out (rvV u)
      rw [hc] at s1
      clear hr2 hlen
      go_wp2_with (go_at_call 6; refine (c_i_ValueText _ _ hT).mono ?_; rintro e w8 ⟨rfl, hb⟩; have s0 := cell_past hb s0; have s1 := cell_past hb s1; have hB := hB.trans (hb.mono hB.size); have hE := cell_past hb hE; clear hb)
      go_region_held3 (fun w' => w'.cell? ⟨w6.heap.size, 0, none⟩ = some (.int .i64 (rvV u)) ∧ w'.cell? ⟨w6.heap.size, 1, none⟩ = some (.int .i64 0) ∧ Below w.heap.size w w' ∧ errT w')
        (first | exact hS2 | exact ⟨s0, s1, hB.drew, hE⟩)
        (first
          | (go_at_call 8; have hS1 := ‹_ ∧ _ ∧ Below _ _ _ ∧ errT _›; refine (c_i_ValueRead _ (by unfold maxLen; omega) _ hS1.2.2.2).mono ?_; rintro e w9 ⟨rfl, hb9⟩; have hS2 : w9.cell? ⟨w6.heap.size, 0, none⟩ = some (.int .i64 (rvV u)) ∧ w9.cell? ⟨w6.heap.size, 1, none⟩ = some (.int .i64 0) ∧ Below w.heap.size w w9 ∧ errT w9 := ⟨cell_past hb9 hS1.1, cell_past hb9 hS1.2.1, hS1.2.2.1.trans (hb9.mono hS1.2.2.1.size), cell_past hb9 hS1.2.2.2⟩))
      go_wp2
      go_ret
      exact ⟨rfl, hS2.2.2.1⟩
    · have hcn : (rvC u != 0) = true := by simp [hc]
      go_wp2_with (go_at_call 6; refine (c_i_ValueText _ _ hT).mono ?_; rintro e w8 ⟨rfl, hb⟩; have s0 := cell_past hb s0; have s1 := cell_past hb s1; have hB := hB.trans (hb.mono hB.size); have hE := cell_past hb hE; clear hb)
      go_quiet (fail)
      go_wp2
      go_ret
      exact ⟨rfl, bel_drews hB⟩
  · have hr : right v := Classical.byContradiction fun hn => by
      have he : ¬ (vtx v).toList = [] := by assumption
      rw [vtx_out hn] at he; exact he (by first | rfl | decide | simp)
    obtain ⟨q1, q2⟩ := read_back hr
    have hzv := HS.out v
    clear hr
    go_wp2_with (first
      | (go_at_call 9; refine (c_DrawValueRead _ _ _ _ (codeAt_past h2 hB hB.size)).mono ?_; rintro e w5 ⟨u, rfl, hu, hb⟩; have hB := hB.trans (hb.mono hB.size); have hE := cell_past hb hE; have hT := tabU_past hT hb (Nat.le_refl _); clear hb)
      | (go_at_call 8; refine (c_i_ValueRead _ (by unfold maxLen; omega) _ hE).mono ?_; rintro e w6 ⟨rfl, hb⟩; have hB := hB.trans (hb.mono hB.size); have hE := cell_past hb hE; have hT := tabU_past hT hb (Nat.le_refl _); clear hb; have hz6 := hB.size))
    have hB9 : ∀ o, Below w.heap.size w ((w6.alloc o).drew) := fun o => (hB.alloc hz6 o).drew
    have hE9 : ∀ o, errT ((w6.alloc o).drew) := fun o => cell_on hE o
    have hT9 : ∀ o, tabU ((w6.alloc o).drew) := fun o => tabU_past hT (((Below.refl w6.heap.size w6).alloc (Nat.le_refl _) o).drew) (Nat.le_refl _)
    clear hB hE hT
    go_region_held3 (fun w' => w'.cell? ⟨w6.heap.size, 0, none⟩ = some (.int .i64 (rvV u)) ∧ w'.cell? ⟨w6.heap.size, 1, none⟩ = some (.int .i64 (rvC u)) ∧ Below w.heap.size w w' ∧ errT w' ∧ tabU w')
      (first | exact hS2 | exact ⟨by simp, by simp, hB9 _, hE9 _, hT9 _⟩)
      (first
        | (go_at_call 10; have hS1 := ‹_ ∧ _ ∧ Below _ _ _ ∧ errT _ ∧ tabU _›; refine (c_s_ValueRead _ (by unfold maxLen; omega) _).mono ?_; rintro e w7 ⟨rfl, hb7⟩; have hS2 : w7.cell? ⟨w6.heap.size, 0, none⟩ = some (.int .i64 (rvV u)) ∧ w7.cell? ⟨w6.heap.size, 1, none⟩ = some (.int .i64 (rvC u)) ∧ Below w.heap.size w w7 ∧ errT w7 ∧ tabU w7 := ⟨cell_past hb7 hS1.1, cell_past hb7 hS1.2.1, hS1.2.2.1.trans (hb7.mono hS1.2.2.1.size), cell_past hb7 hS1.2.2.2.1, tabU_past hS1.2.2.2.2 hb7 (Nat.le_refl _)⟩))
    have s0 := hS2.1
    have s1 := hS2.2.1
    have hB := hS2.2.2.1
    have hE := hS2.2.2.2.1
    have hT := hS2.2.2.2.2
    have hz7 := hB.size
    clear hS2 hB9 hE9 hT9
    by_cases hc : rvC u = 0
    · obtain ⟨hr2, hlen⟩ := read_len hc
      obtain ⟨q3, q4⟩ := read_back hr2
      have hleni : ((vtx (rvV u)).size : Int) ≤ (u.size : Int) := by omega
      have hzw := HS.out (rvV u)
      rw [hc] at s1
      clear hr2 hlen
      go_wp2_with (go_at_call 6; refine (c_i_ValueText _ _ hT).mono ?_; rintro e w8 ⟨rfl, hb⟩; have s0 := cell_past hb s0; have s1 := cell_past hb s1; have hB := hB.trans (hb.mono hB.size); have hE := cell_past hb hE; clear hb)
      go_region_held3 (fun w' => w'.cell? ⟨w6.heap.size, 0, none⟩ = some (.int .i64 (rvV u)) ∧ w'.cell? ⟨w6.heap.size, 1, none⟩ = some (.int .i64 0) ∧ Below w.heap.size w w' ∧ errT w')
        (first | exact hS2 | exact ⟨s0, s1, hB.drew, hE⟩)
        (first
          | (go_at_call 8; have hS1 := ‹_ ∧ _ ∧ Below _ _ _ ∧ errT _›; refine (c_i_ValueRead _ (by unfold maxLen; omega) _ hS1.2.2.2).mono ?_; rintro e w9 ⟨rfl, hb9⟩; have hS2 : w9.cell? ⟨w6.heap.size, 0, none⟩ = some (.int .i64 (rvV u)) ∧ w9.cell? ⟨w6.heap.size, 1, none⟩ = some (.int .i64 0) ∧ Below w.heap.size w w9 ∧ errT w9 := ⟨cell_past hb9 hS1.1, cell_past hb9 hS1.2.1, hS1.2.2.1.trans (hb9.mono hS1.2.2.1.size), cell_past hb9 hS1.2.2.2⟩))
      go_wp2
      go_ret
      exact ⟨rfl, hS2.2.2.1⟩
    · have hcn : (rvC u != 0) = true := by simp [hc]
      go_wp2_with (go_at_call 6; refine (c_i_ValueText _ _ hT).mono ?_; rintro e w8 ⟨rfl, hb⟩; have s0 := cell_past hb s0; have s1 := cell_past hb s1; have hB := hB.trans (hb.mono hB.size); have hE := cell_past hb hE; clear hb)
      go_quiet (fail)
      go_wp2
      go_ret
      exact ⟨rfl, bel_drews hB⟩

theorem walkValue_long (v1 v2 : Value) (ao1 ao2 : Option Addr) (l1 c1 l2 c2 : Nat) (w : World) (h9 : l1 ≤ maxLen) (h8 : l2 ≤ maxLen) (h : 1048576 < l1 ∨ 1048576 < l2) :
    Calls Tryd.prog 3 #[.slice ao1 l1 c1, .slice ao2 l2 c2] w fun e w' => e = .returned (.bool true) ∧ Below w.heap.size w w' := by
  unfold maxLen at h9 h8
  have hc : ((1048576 : Int) < (l1 : Int)) ∨ ((¬ (1048576 : Int) < (l1 : Int)) ∧ (1048576 : Int) < (l2 : Int)) := by omega
  clear h
  rcases hc with h | ⟨h, h'⟩
  · go_enter Tryd.func3, Tryd.ntmps3
    go_wp2
    go_ret
    exact ⟨rfl, Below.refl _ _⟩
  · go_enter Tryd.func3, Tryd.ntmps3
    go_wp2
    go_ret
    exact ⟨rfl, Below.refl _ _⟩
end Go.Proofs.YtohjpaokjhifoaaDoor
