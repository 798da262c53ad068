/-
  Weak contracts of the draws: weights and wide numbers.
-/
import Derived.Test.YtohjpaokjhifoaaDoorDrawC
import Derived.Test.YtohjpaokjhifoaaDoorWTextS
import Derived.Test.YtohjpaokjhifoaaDoorMathR
import Derived.Deep.RegionHeld3
namespace Go.Proofs.YtohjpaokjhifoaaDoor
set_option linter.unusedVariables false
set_option linter.unusedSimpArgs false
open Go.ChangeShapes Go.WideShapes Go.ChangeAt Go.RowKit Go.PlainAid

def isU : Value → Bool
  | .int .u64 y => decide (0 ≤ y) && decide (y ≤ 18446744073709551615)
  | _ => false
theorem isU_of {v : Value} (h : isU v = true) : ∃ y, v = .int .u64 y ∧ U64 y := by
  unfold isU at h
  split at h
  · rename_i y
    have := Bool.and_eq_true_iff.1 h
    exact ⟨y, rfl, of_decide_eq_true this.1, of_decide_eq_true this.2⟩
  · cases h
theorem lit_cellU {w w2 : World} {cs : Array Value} {t : TypeId} {s : Nat} (hg : (w.alloc (.cells cs t)).grownBy w2 (some s)) (hs : s < w.heap.size) (h : cs.toList.all isU = true) {v : Int} (h0 : 0 ≤ v) (h1 : v < cs.size) :
    ∃ y, w2.cell? ⟨w.heap.size, v.toNat, none⟩ = some (.int .u64 y) ∧ U64 y := by
  have hi : v.toNat < cs.size := by omega
  obtain ⟨y, e, hI⟩ := isU_of (List.all_eq_true.1 h cs[v.toNat] (Array.mem_toList_iff.2 (Array.getElem_mem hi)))
  have hb : w2.heap[w.heap.size]? = some (.cells cs t (0, 0)) := by
    rw [hg.block w.heap.size (by simp) (fun e => by cases e; omega)]; exact heap_alloc_new w _
  exact ⟨y, by rw [cell_of_row w2 w.heap.size v.toNat _ _ (0, 0) hb, Array.getElem?_eq_getElem hi, e], hI⟩

set_option maxHeartbeats 1000000 in
theorem c_l01Weight {W w : World} {B ln cap s : Nat} {ao : Option Addr} (hc : CodeAt W B ao ln) (h : Src W B ao ln cap s w) :
    Calls Tryd.prog 42 #[.pointer (some ⟨s, 0, none⟩)] w fun e w' => ∃ v, e = .returned (.int .u64 v) ∧ U64 v ∧ Src W B ao ln cap s w' ∧ w.grownBy w' (some s) := by
  have hG : w.grownBy w (some s) := World.grownBy.refl _ _
  have hS := h
  clear h
  go_enter Tryd.func42, Tryd.ntmps42
  go_wp2_with (first
    | (go_at_call 55; refine (c_one hc hS _ (by omega)).mono ?_; rintro e w2 ⟨b, rfl, hS2, hg2⟩; have hG := hG.trans hg2; have hS := hS2)
    | (go_at_call 32; refine (c_n hc (by first | exact hS | exact src_past hS ((Below.refl _ _).alloc (Nat.le_refl _) _)) _ (by omega)).mono ?_; rintro e w2 ⟨v, rfl, v0, v1, _, hS2, hg2⟩; have v1 := v1 (by omega); (first | (have hG := hG.trans hg2) | (obtain ⟨y, hy, hI⟩ := lit_cellU hg2 (src_lt hS) (by decide) v0 v1; have hG := hG.trans ((World.grownBy_alloc _ _ _).trans hg2))); have hS := hS2))
  all_goals (go_ret; first | exact ⟨_, rfl, hI, hS, hG⟩ | exact ⟨_, rfl, by unfold U64; omega, hS, hG⟩)

theorem codeAt_on {w : World} {ao : Option Addr} {ln : Nat} (h : CodeAt w w.heap.size ao ln) (o : Obj) : CodeAt (w.alloc o) (w.alloc o).heap.size ao ln := by
  refine ⟨h.1, fun h0 => ?_⟩
  obtain ⟨b, off, e, hl, hc⟩ := h.2 h0
  exact ⟨b, off, e, by simp; omega, fun i hi => by obtain ⟨x, hx⟩ := hc i hi; exact ⟨x, cell_on hx o⟩⟩
theorem c_l01Source_at (ao : Option Addr) (ln cap : Nat) (w : World) {K : Nat} (hK : w.heap.size = K) (hc : CodeAt w K ao ln) :
    Calls Tryd.prog 23 #[.slice ao ln cap] w fun e w' => e = .returned (.pointer (some ⟨K, 0, none⟩)) ∧ Src w K ao ln cap K w' := by
  subst hK; exact c_l01Source ao ln cap w hc
theorem cell_far2 {w : World} {a : Addr} {v : Value} {G : Nat} {i j : Nat} {x y : Value} (h : w.cell? a = some v) (hne : G ≠ a.block) :
    ((w.setCell ⟨G, i, none⟩ x).setCell ⟨G, j, none⟩ y).cell? a = some v := by
  rw [World.cell?_setCell_far _ _ _ _ hne, World.cell?_setCell_far _ _ _ _ hne]; exact h
/-- A new wide number's block. -/
def ZB (w : World) (G : Nat) (a b : Int) : Prop := w.heap[G]? = some (.cells #[.int .i64 a, .int .u64 b] 32 (0, 0))
theorem zb_cells {w : World} {G : Nat} {a b : Int} (h : ZB w G a b) : w.cell? ⟨G, 0, none⟩ = some (.int .i64 a) ∧ w.cell? ⟨G, 1, none⟩ = some (.int .u64 b) ∧ w.frozen? ⟨G, 0, none⟩ = false ∧ w.frozen? ⟨G, 1, none⟩ = false := by
  refine ⟨?_, ?_, frozen_of_row w G 0 _ _ h, frozen_of_row w G 1 _ _ h⟩
  · rw [cell_of_row w G 0 _ _ (0, 0) h]; rfl
  · rw [cell_of_row w G 1 _ _ (0, 0) h]; rfl
theorem zb_lt {w : World} {G : Nat} {a b : Int} (h : ZB w G a b) : G < w.heap.size := by
  rcases Nat.lt_or_ge G w.heap.size with k | k
  · exact k
  · unfold ZB at h; rw [Array.getElem?_eq_none k] at h; cases h
theorem zb_grown {w w' : World} {G s : Nat} {a b : Int} (h : ZB w G a b) (hg : w.grownBy w' (some s)) (hne : G ≠ s) : ZB w' G a b := by
  unfold ZB; rw [hg.block G (zb_lt h) (by simpa using hne)]; exact h
theorem zb_past {w w' : World} {G : Nat} {a b : Int} (h : ZB w G a b) (hb : Below w.heap.size w w') : ZB w' G a b := by
  unfold ZB; rw [hb.block G (zb_lt h)]; exact h
theorem zb_new (w : World) (a b : Int) : ZB (w.alloc (.cells #[.int .i64 a, .int .u64 b] 32)) w.heap.size a b := heap_alloc_new w _
theorem grown_below {w w' : World} (s : Nat) (h : Below w.heap.size w w') : w.grownBy w' (some s) := ⟨h.os, h.tape, h.output, h.size, fun k hk _ => h.block k hk⟩
theorem grown_new {w w' : World} {s : Nat} {p : Addr} {u : Value} (h : w.grownBy w' (some s)) (hp : w.heap.size ≤ p.block) : w.grownBy (w'.setCell p u) (some s) :=
  ⟨h.os, h.tape, h.output, by simpa [World.setCell] using h.size, fun k hk hne => by rw [Below.heap_setCell _ _ _ _ (by omega)]; exact h.block k hk hne⟩
theorem src_set {W w : World} {B ln cap s : Nat} {ao : Option Addr} (h : Src W B ao ln cap s w) {p : Addr} {u : Value} (hp : s < p.block) : Src W B ao ln cap s (w.setCell p u) := by
  obtain ⟨x, y, z, hk, h1, h2⟩ := h.blk
  exact ⟨h.bel.setCell (Nat.le_trans h.hB (Nat.le_of_lt hp)) _, h.hB, x, y, z, by rw [Below.heap_setCell _ _ _ _ (by omega)]; exact hk, h1, h2⟩

set_option maxHeartbeats 1000000 in
theorem c_l01WideD {W w : World} {B ln cap s : Nat} {ao : Option Addr} (hc : CodeAt W B ao ln) (h : Src W B ao ln cap s w) :
    Calls Tryd.prog 37 #[.pointer (some ⟨s, 0, none⟩)] w fun e w' => ∃ a b, e = .returned (.agg #[.int .i64 a, .int .u64 b]) ∧ I64 a ∧ U64 b ∧ Src W B ao ln cap s w' ∧ w.grownBy w' (some s) := by
  have hs := src_lt h
  have ha : ∀ o, Src W B ao ln cap s (w.alloc o) := fun o => src_past h ((Below.refl _ _).alloc (Nat.le_refl _) _)
  have hz0 := zb_new w 0 0
  clear h
  go_enter Tryd.func37, Tryd.ntmps37
  go_wp2_with (first
    | (go_at_call 55; refine (c_one hc (ha _) _ (by omega)).mono ?_; rintro e w2 ⟨bb, rfl, hS, hg2⟩; have hG := (World.grownBy_alloc _ _ _).trans hg2; have hZ := zb_grown hz0 hg2 (by omega); obtain ⟨s0, s1, t0, t1⟩ := zb_cells hZ)
    | (go_at_call 47; refine (c_edge hc hS).mono ?_; (first | (have hJ := hI; rintro e w2 ⟨x2, rfl, hI2, hS, hg2⟩) | (rintro e w2 ⟨x, rfl, hI, hS, hg2⟩)); have hG := hG.trans hg2; have hZ := zb_grown hZ hg2 (by omega); obtain ⟨s0, s1, t0, t1⟩ := zb_cells hZ)
    | (go_at_call 24; refine (c_l01Any hc hS).mono ?_; rintro e w2 ⟨x, rfl, hI, hS, hg2⟩; have hG := hG.trans hg2; have hZ := zb_grown hZ hg2 (by omega); obtain ⟨s0, s1, t0, t1⟩ := zb_cells hZ)
    | (go_at_call 42; refine (c_l01Weight hc hS).mono ?_; rintro e w2 ⟨y, rfl, hU, hS, hg2⟩; have hG := hG.trans hg2; have hZ := zb_grown hZ hg2 (by omega); obtain ⟨s0, s1, t0, t1⟩ := zb_cells hZ)
    | (go_at_call 56; refine (c_s_WideTimes _ _ hI hU _).mono ?_; rintro e w2 ⟨rfl, hb⟩; have hS := src_past hS hb; have hG := hG.trans (grown_below s hb); have hZ := zb_past hZ hb; obtain ⟨s0, s1, t0, t1⟩ := zb_cells hZ))
  · exact bodyPost_ret (v := .agg #[.int .i64 x, .int .u64 (IntKind.u64.wrap x2)]) (by simp [results, Tryd.results37, go_sem, s0, s1]) rfl ⟨_, _, rfl, hI, by rw [IntKind.wrap_u64]; unfold U64; omega, src_set (src_set hS hs) hs, grown_new (grown_new hG (Nat.le_refl _)) (Nat.le_refl _)⟩
  · exact bodyPost_ret (v := .agg #[.int .i64 (thH x y), .int .u64 (thL x y)]) (by simp [results, Tryd.results37, go_sem, s0, s1]) rfl ⟨_, _, rfl, w64_in _, uw_in _, src_set (src_set hS hs) hs, grown_new (grown_new hG (Nat.le_refl _)) (Nat.le_refl _)⟩

theorem c_DrawWideTimes (ao : Option Addr) (ln cap : Nat) (w : World) (hc : CodeAt w w.heap.size ao ln) :
    Calls Tryd.prog 17 #[.slice ao ln cap] w fun e w' => ∃ n y, e = .returned (.tuple #[.int .i64 n, .int .u64 y]) ∧ I64 n ∧ U64 y ∧ Below w.heap.size w w' := by
  go_enter Tryd.func17, Tryd.ntmps17
  go_wp2_with (first
    | (go_at_call 23; refine (c_l01Source _ _ _ _ hc).mono ?_; rintro e w1 ⟨rfl, hS⟩)
    | (go_at_call 24; refine (c_l01Any hc hS).mono ?_; rintro e w2 ⟨n, rfl, hI, hS, hg2⟩)
    | (go_at_call 42; refine (c_l01Weight hc hS).mono ?_; rintro e w2 ⟨y, rfl, hU, hS, hg2⟩))
  go_ret2
  exact ⟨n, y, rfl, hI, hU, hS.bel⟩

set_option maxRecDepth 10000 in
theorem c_DrawWideText (ao : Option Addr) (ln cap : Nat) (w : World) (hc : CodeAt w w.heap.size ao ln) :
    Calls Tryd.prog 12 #[.slice ao ln cap] w fun e w' => ∃ a b, e = .returned (.agg #[.int .i64 a, .int .u64 b]) ∧ I64 a ∧ U64 b ∧ Below w.heap.size w w' := by
  have ha : ∀ o, CodeAt (w.alloc o) (w.heap.size + 1) ao ln := fun o => by have := codeAt_on hc o; simpa using this
  have hz0 := zb_new w 0 0
  have hbl : ∀ o, Below w.heap.size w (w.alloc o) := fun o => (Below.refl _ _).alloc (Nat.le_refl _) _
  go_enter Tryd.func12, Tryd.ntmps12
  go_wp2_with (first
    | (go_at_call 23; refine (c_l01Source_at (K := w.heap.size + 1) _ _ _ _ (by simp) (ha _)).mono ?_; rintro e w1 ⟨rfl, hS⟩; have hZ := zb_past hz0 (hS.bel.mono (by simp)))
    | (go_at_call 37; refine (c_l01WideD (ha _) hS).mono ?_; rintro e w2 ⟨a, b, rfl, hI, hU, hS, hg2⟩; have hZ := zb_grown hZ hg2 (by omega); obtain ⟨s0, s1, t0, t1⟩ := zb_cells hZ))
  exact bodyPost_ret (v := .agg #[.int .i64 a, .int .u64 b]) (by simp [results, Tryd.results12, go_sem, s0, s1]) rfl ⟨a, b, rfl, hI, hU, (((hbl _).trans (hS.bel.mono (by simp))).setCell (Nat.le_refl _) _).setCell (Nat.le_refl _) _⟩

theorem codeAt_on2 {w : World} {ao : Option Addr} {ln : Nat} (h : CodeAt w w.heap.size ao ln) (o o' : Obj) : CodeAt ((w.alloc o).alloc o') (w.heap.size + 2) ao ln := by
  have := codeAt_on (codeAt_on h o) o'; simpa using this
set_option maxRecDepth 10000 in
set_option maxHeartbeats 1000000 in
theorem c_DrawWideAdd (ao : Option Addr) (ln cap : Nat) (w : World) (hc : CodeAt w w.heap.size ao ln) :
    Calls Tryd.prog 11 #[.slice ao ln cap] w fun e w' => ∃ a b c d, e = .returned (.tuple #[.agg #[.int .i64 a, .int .u64 b], .agg #[.int .i64 c, .int .u64 d]]) ∧ I64 a ∧ U64 b ∧ I64 c ∧ U64 d ∧ Below w.heap.size w w' := by
  have ha := codeAt_on2 hc
  have hz0 : ∀ o', ZB ((w.alloc (.cells #[.int .i64 0, .int .u64 0] 32)).alloc o') w.heap.size 0 0 := fun o' => zb_past (zb_new w 0 0) ((Below.refl _ _).alloc (Nat.le_refl _) _)
  have hz1 : ∀ o, ZB ((w.alloc o).alloc (.cells #[.int .i64 0, .int .u64 0] 32)) (w.heap.size + 1) 0 0 := fun o => by have := zb_new (w.alloc o) 0 0; simpa using this
  have hbl : ∀ o o', Below w.heap.size w ((w.alloc o).alloc o') := fun o o' => ((Below.refl _ _).alloc (Nat.le_refl _) _).alloc (by simp) _
  go_enter Tryd.func11, Tryd.ntmps11
  go_wp2_with (first
    | (go_at_call 23; refine (c_l01Source_at (K := w.heap.size + 2) _ _ _ _ (by simp) (ha _ _)).mono ?_; rintro e w1 ⟨rfl, hS⟩; have hZ0 := zb_past (hz0 _) (hS.bel.mono (by simp)); have hZ1 := zb_past (hz1 _) (hS.bel.mono (by simp)))
    | (go_at_call 37; refine (c_l01WideD (ha _ _) hS).mono ?_; rintro e w2 ⟨a, b, rfl, hI, hU, hS, hg2⟩; have hZ0 := zb_grown hZ0 hg2 (by omega); have hZ1 := zb_grown hZ1 hg2 (by omega)))
  have hz2 := src_lt hS
  obtain ⟨Wb, hWb⟩ : ∃ Wb, Wb = (w.alloc (.cells #[.int .i64 0, .int .u64 0] 32)).alloc (.cells #[.int .i64 0, .int .u64 0] 32) := ⟨_, rfl⟩
  rw [← hWb] at hS
  have hcb : CodeAt Wb (w.heap.size + 2) ao ln := by rw [hWb]; exact ha _ _
  have hbel : Below w.heap.size w Wb := by rw [hWb]; exact hbl _ _
  have Z0 : ∀ o, ZB ((w2.alloc o).drew) w.heap.size 0 0 := fun o => zb_past hZ0 (((Below.refl _ _).alloc (Nat.le_refl _) _).drew)
  have Z1 : ∀ o, ZB ((w2.alloc o).drew) (w.heap.size + 1) 0 0 := fun o => zb_past hZ1 (((Below.refl _ _).alloc (Nat.le_refl _) _).drew)
  have ZA : ZB ((w2.alloc (.cells #[.int .i64 a, .int .u64 b] 32)).drew) w2.heap.size a b := zb_new w2 a b
  obtain ⟨A0, A1, A2, A3⟩ := zb_cells ZA
  have SA : ∀ o, Src Wb (w.heap.size + 2) ao ln cap (w.heap.size + 2) ((w2.alloc o).drew) := fun o => src_past hS (((Below.refl _ _).alloc (Nat.le_refl _) _).drew)
  clear hZ0 hZ1 hS hz0 hz1 hbl hWb ha
  have BA : ∀ o, Below w.heap.size w ((w2.alloc o).drew) := fun o => hbel.trans ((SA o).bel.mono (by omega))
  go_region_held3 (fun w' => w'.cell? ⟨w2.heap.size, 0, none⟩ = some (.int .i64 a) ∧ w'.cell? ⟨w2.heap.size, 1, none⟩ = some (.int .u64 b) ∧ Below w.heap.size w w')
    (first | exact hSS | exact ⟨A0, A1, BA _⟩ | exact ⟨cell_far2 hSS.1 (by dsimp only; omega), cell_far2 hSS.2.1 (by dsimp only; omega), (hSS.2.2.setCell (by dsimp only; omega) _).setCell (by dsimp only; omega) _⟩ | exact ⟨cell_far2 (cell_far2 hSS.1 (by dsimp only; omega)) (by dsimp only; omega), cell_far2 (cell_far2 hSS.2.1 (by dsimp only; omega)) (by dsimp only; omega), (((hSS.2.2.setCell (by dsimp only; omega) _).setCell (by dsimp only; omega) _).setCell (by dsimp only; omega) _).setCell (by dsimp only; omega) _⟩)
    (first
      | (go_at_call 37; refine (c_l01WideD hcb (SA _)).mono ?_; rintro e w3 ⟨c, d, rfl, hI2, hU2, hS3, hg3⟩; have hSS : w3.cell? ⟨w2.heap.size, 0, none⟩ = some (.int .i64 a) ∧ w3.cell? ⟨w2.heap.size, 1, none⟩ = some (.int .u64 b) ∧ Below w.heap.size w w3 := ⟨hg3.cell A0 (by simp; omega), hg3.cell A1 (by simp; omega), hbel.trans (hS3.bel.mono (by omega))⟩; obtain ⟨s0, s1, t0, t1⟩ := zb_cells (zb_grown (Z0 _) hg3 (by omega)); obtain ⟨u0, u1, v0, v1⟩ := zb_cells (zb_grown (Z1 _) hg3 (by omega))))
  go_wp2
  exact bodyPost_ret (v := .tuple #[.agg #[.int .i64 a, .int .u64 b], .agg #[.int .i64 c, .int .u64 d]]) (by simp [results, Tryd.results11, go_sem, s0, s1, u0, u1]) rfl ⟨a, b, c, d, rfl, hI, hU, hI2, hU2, (((hSS.2.2.setCell (by dsimp only; omega) _).setCell (by dsimp only; omega) _).setCell (by dsimp only; omega) _).setCell (by dsimp only; omega) _⟩

theorem wtxt_size (a b : Int) (ha : I64 a) (hb : U64 b) : (strOfNums (wtxt a b)).size ≤ 40 := by
  rw [strOfNums_size]
  have := (decR_len (mag a b) (mag_lt a b ha hb)).2
  unfold wtxt; split
  · rw [List.length_cons, List.length_reverse]; omega
  · rw [List.length_reverse]; omega
set_option maxRecDepth 10000 in
set_option maxHeartbeats 1000000 in
theorem c_DrawWideRead (ao : Option Addr) (ln cap : Nat) (w : World) (hc : CodeAt w w.heap.size ao ln) :
    Calls Tryd.prog 19 #[.slice ao ln cap] w fun e w' => ∃ u, e = .returned (.string u) ∧ u.size ≤ 42 ∧ Below w.heap.size w w' := by
  go_enter Tryd.func19, Tryd.ntmps19
  go_wp2_with (first
    | (go_at_call 23; refine (c_l01Source _ _ _ _ hc).mono ?_; rintro e w1 ⟨rfl, hS⟩)
    | (go_at_call 37; refine (c_l01WideD hc hS).mono ?_; rintro e w2 ⟨a, b, rfl, hI, hU, hS, hg2⟩)
    | (go_at_call 44; refine (c_s_WideText _ _ hI hU _).mono ?_; rintro e w3 ⟨rfl, hb3⟩; have hS := src_past hS hb3; have hz := wtxt_size a b hI hU)
    | (go_at_call 32; refine (c_n hc hS _ (by omega)).mono ?_; rintro e w4 ⟨v, rfl, v0, v1, _, hS, hg4⟩)
    | (go_at_call 33; refine (c_spoil hc hS _ (by omega)).mono ?_; rintro e w5 ⟨u, rfl, hu, hS, hg5⟩)
    | (go_at_call 34; refine (c_pick_lit hc hS 40 (by rfl) (by omega) (by omega) (by decide)).mono ?_; rintro e w5 ⟨u, rfl, hu, hS, hg5⟩))
  all_goals go_ret
  all_goals first | exact ⟨u, rfl, by omega, hS.bel⟩ | exact ⟨_, rfl, by omega, hS.bel⟩
end Go.Proofs.YtohjpaokjhifoaaDoor
