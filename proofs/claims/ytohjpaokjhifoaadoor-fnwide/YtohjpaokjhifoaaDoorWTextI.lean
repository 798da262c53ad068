/-
  The contract of impl.WideText: a wide number in digits.
-/
import Derived.Test.YtohjpaokjhifoaaDoorWTextS
import Derived.Test.YtohjpaokjhifoaaDoorNeg
import Derived.WalkSmall
namespace Go.Proofs.YtohjpaokjhifoaaDoor
set_option linter.unusedVariables false
set_option linter.unusedSimpArgs false
open Go.ChangeShapes Go.WideShapes Go.ChangeAt Go.RowKit

/-- The test of a round. -/
theorem go_on' (M T : Nat) (L : List Int) (hT : T + L.length = 40) : ((L = [] ∨ M ≠ 0) ∧ (((T : Int) == 40) = true ∨ (((T : Int) == 40) = false ∧ 0 < hiN M) ∨ (((T : Int) == 40) = false ∧ decide (0 < hiN M) = false ∧ 0 < loN M))) ∨
    (((T : Int) == 40) = false ∧ decide (0 < hiN M) = false ∧ decide (0 < loN M) = false ∧ M = 0 ∧ L ≠ []) := by
  by_cases e0 : L = []
  · exact .inl ⟨.inl e0, .inl (by subst e0; simp at hT; subst hT; rfl)⟩
  · have e1 : ((T : Int) == 40) = false := by have := List.length_pos_iff.2 e0; simp; omega
    by_cases e : 0 < hiN M
    · exact .inl ⟨.inr (by unfold hiN at e; omega), .inr (.inl ⟨e1, e⟩)⟩
    · have e2 : decide (0 < hiN M) = false := decide_eq_false e
      by_cases k : 0 < loN M
      · exact .inl ⟨.inr (by unfold loN at k; omega), .inr (.inr ⟨e1, e2, k⟩)⟩
      · exact .inr ⟨e1, e2, decide_eq_false k, by unfold hiN at e; unfold loN at k; omega, e0⟩

/-- What the array holds: L from its end. -/
def Tail (w : World) (G : Nat) (L : List Int) : Prop := ∃ cur : Array Value, w.heap[G]? = some (.cells cur 67 (0, 0)) ∧ cur.size = 40 ∧ ∀ j, j < L.length → cur[39 - j]? = some (.int .u8 (L.getD j 0))

theorem tail_cell {w : World} {G : Nat} {L : List Int} (h : Tail w G L) (j : Nat) (hj : j < 40) : (∃ v, w.cell? ⟨G, j, none⟩ = some v) ∧ w.frozen? ⟨G, j, none⟩ = false := by
  obtain ⟨cur, hg, hs, _⟩ := h
  refine ⟨⟨cur[j]'(by omega), ?_⟩, frozen_of_row w G j cur _ hg⟩
  rw [cell_of_row w G j cur _ (0, 0) hg]; simp [hs, hj]
theorem tail_put {w : World} {G : Nat} {L : List Int} {x : Int} (h : Tail w G L) (hl : L.length ≤ 39) : Tail (w.setCell ⟨G, 39 - L.length, none⟩ (.int .u8 x)) G (L ++ [x]) := by
  obtain ⟨cur, hg, hs, hc⟩ := h
  refine ⟨cur.setIfInBounds (39 - L.length) (.int .u8 x), heap_setCell_same w G _ cur _ _ hg, by simpa using hs, ?_⟩
  intro j hj
  rw [List.length_append, List.length_singleton] at hj
  rw [Array.getElem?_setIfInBounds]
  by_cases e : j = L.length
  · subst e; rw [if_pos rfl, if_pos (by omega)]; simp
  · rw [if_neg (by omega), hc j (by omega)]
    rw [List.getD_eq_getElem?_getD, List.getD_eq_getElem?_getD, List.getElem?_append_left (by omega)]
theorem tail_row {w : World} {G : Nat} {L : List Int} (h : Tail w G L) (i : Nat) (hi : i < L.length) (hl : L.length ≤ 40) : w.cell? ⟨G, 40 - L.length + i, none⟩ = some (.int .u8 (L.reverse.getD i 0)) := by
  obtain ⟨cur, hg, hs, hc⟩ := h
  rw [cell_of_row w G _ cur _ (0, 0) hg]
  have := hc (L.length - 1 - i) (by omega)
  rw [show 39 - (L.length - 1 - i) = 40 - L.length + i by omega] at this
  rw [this, List.getD_eq_getElem?_getD, List.getD_eq_getElem?_getD, List.getElem?_reverse hi]

/-- Where the loop stands. -/
def Stand (w wr : World) (G N M T : Nat) (a : Int) (L : List Int) : Prop := T + L.length = 40 ∧ Dig N M L ∧ Tail wr G L ∧ wr.cell? ⟨w.heap.size, 0, none⟩ = some (.int .i64 a) ∧ Below w.heap.size w wr ∧ w.heap.size < G

theorem stand_draw {w wr : World} {G N M T : Nat} {a : Int} {L : List Int} (h : Stand w wr G N M T a L) (n : Nat) : Stand w (wr.drewN n) G N M T a L := by
  obtain ⟨hT, hD, hTl, hc, hb, hG⟩ := h
  exact ⟨hT, hD, hTl, hc, below_drewN hb n, hG⟩
theorem stand_step {w wr : World} {G N M T : Nat} {a : Int} {L : List Int} (h : Stand w wr G N M T a L) (hgo : L = [] ∨ M ≠ 0) (n : Nat) : Stand w ((wr.drewN n).setCell ⟨G, T - 1, none⟩ (.int .u8 (48 + dgN M))) G N (M / 10) (T - 1) a (L ++ [48 + dgN M]) := by
  obtain ⟨hT, hD, hTl, hc, hb, hG⟩ := stand_draw h n
  have hr := dig_room hD hgo
  have e : T - 1 = 39 - L.length := by omega
  refine ⟨by simp; omega, dig_step hD hgo, ?_, ?_, hb.setCell (by dsimp only; omega) _, hG⟩
  · have := tail_put (x := 48 + dgN M) hTl (by omega)
    rw [← e] at this
    exact this
  · rw [World.cell?_setCell_far _ _ _ _ (by simp; omega)]; exact hc

theorem slice40 (G T : Nat) (W : World) (h1 : 1 ≤ T) (h2 : T ≤ 40) : (Instr.sliceAt 67 (.pointer (some ⟨G, 0, none⟩)) (some (.int .i64 ((T : Int) - 1))) none none).run Tryd.prog W = .ok (.slice (some ⟨G, T - 1, none⟩) (40 - (T - 1)) (40 - (T - 1))) W := by
  have e5 : (Tryd.prog.arrayLen 67) = 40 := by kernel_rfl
  have es : (sizeOf (Tryd.prog.elem 67)).run Tryd.prog W = .ok 1 W := by kernel_rfl
  rw [run_sliceAt_array_l W 67 ⟨G, 0, none⟩ (by kernel_rfl) .i64 _ (by omega) (by rw [e5]; omega), es, e5]
  have e : ((T : Int) - 1).toNat = T - 1 := by omega
  simp only [Result.andThen, slicedAt, e]
  rw [if_neg (by omega)]
  simp [Addr.add]
  omega

theorem slice40p (G T : Nat) (W : World) (h2 : T ≤ 39) : (Instr.sliceAt 67 (.pointer (some ⟨G, 0, none⟩)) (some (.int .i64 (T : Int))) none none).run Tryd.prog W = .ok (.slice (some ⟨G, T, none⟩) (40 - T) (40 - T)) W := by
  have e5 : (Tryd.prog.arrayLen 67) = 40 := by kernel_rfl
  have es : (sizeOf (Tryd.prog.elem 67)).run Tryd.prog W = .ok 1 W := by kernel_rfl
  rw [run_sliceAt_array_l W 67 ⟨G, 0, none⟩ (by kernel_rfl) .i64 _ (by omega) (by rw [e5]; omega), es, e5]
  simp only [Result.andThen, slicedAt, Int.toNat_natCast]
  rw [if_neg (by omega)]
  simp [Addr.add]
  omega

/-- The array as it is made. -/
def zeros40 : Obj := .cells #[.int .u8 0, .int .u8 0, .int .u8 0, .int .u8 0, .int .u8 0, .int .u8 0, .int .u8 0, .int .u8 0, .int .u8 0, .int .u8 0, .int .u8 0, .int .u8 0, .int .u8 0, .int .u8 0, .int .u8 0, .int .u8 0, .int .u8 0, .int .u8 0, .int .u8 0, .int .u8 0, .int .u8 0, .int .u8 0, .int .u8 0, .int .u8 0, .int .u8 0, .int .u8 0, .int .u8 0, .int .u8 0, .int .u8 0, .int .u8 0, .int .u8 0, .int .u8 0, .int .u8 0, .int .u8 0, .int .u8 0, .int .u8 0, .int .u8 0, .int .u8 0, .int .u8 0, .int .u8 0] 67
theorem stand_new {w W : World} {N : Nat} {a : Int} {G : Nat} (hN : N < 340282366920938463463374607431768211456) (hG : W.heap.size = G) (hc : W.cell? ⟨w.heap.size, 0, none⟩ = some (.int .i64 a)) (hb : Below w.heap.size w W) (hlt : w.heap.size < G) : Stand w (W.alloc zeros40) G N N 40 a [] := by
  subst hG
  exact ⟨rfl, dig_start N hN, ⟨_, heap_alloc_new W _, rfl, fun j hj => absurd hj (by simp)⟩, cell_on hc _, hb.alloc hb.size _, hlt⟩

set_option maxRecDepth 10000 in
set_option maxHeartbeats 2000000 in
theorem c_i_WideText (a b : Int) (ha : I64 a) (hb : U64 b) (w : World) :
    Calls Tryd.prog 15 #[.agg #[.int .i64 a, .int .u64 b]] w fun e w' => e = .returned (.string (strOfNums (wtxt a b))) ∧ Below w.heap.size w w' := by
  have HM : Hid (mag a b < 340282366920938463463374607431768211456) := mag_lt a b ha hb
  by_cases h : a < 0
  · obtain ⟨e1, e2⟩ := mag_neg a b ha hb h
    have HC : Hid (∀ w, Calls Tryd.prog 39 #[.agg #[.int .i64 a, .int .u64 b]] w fun e w' => e = .returned (.agg #[.int .i64 (negH a b), .int .u64 (negL b)]) ∧ Below w.heap.size w w') := fun w => c_wideNegative a b hb w
    clear ha hb
    go_enter Tryd.func15, Tryd.ntmps15
    go_wp2_with (first
      | (go_at_call 39; refine (HC.out _).mono ?_; rintro e w1 ⟨rfl, hb1⟩; have hz1 := hb1.size; simp at hz1; have p0 := cell_past (a := ⟨w.heap.size, 0, none⟩) (v := .int .i64 a) hb1 (by simp); have p1 := cell_past (a := ⟨w.heap.size, 1, none⟩) (v := .int .u64 b) hb1 (by simp); have q0 := cell_past (a := ⟨w.heap.size + 1, 0, none⟩) (v := .int .i64 a) hb1 (by simp); have q1 := cell_past (a := ⟨w.heap.size + 1, 1, none⟩) (v := .int .u64 b) hb1 (by simp); have f0 := frozen_past (a := ⟨w.heap.size + 1, 0, none⟩) (v := .int .i64 a) hb1 (by simp); have f1 := frozen_past (a := ⟨w.heap.size + 1, 1, none⟩) (v := .int .u64 b) hb1 (by simp)))
    go_quiet (fail)
    go_wp2
    go_loopw [4, 5, 7, 8] (fun h l t d wr => ∃ (M T : Nat) (L : List Int), h = .int .u64 (hiN M) ∧ l = .int .u64 (loN M) ∧ t = .int .i64 T ∧ Stand w wr w1.heap.size (mag a b) M T a L) (fun h l t d wr => (intOf t).toNat)
    case atStart =>
      refine ⟨mag a b, 40, [], rfl, rfl, rfl, stand_new HM.out (by simp) ?_ (below_drewN (((((Below.refl _ _).alloc (Nat.le_refl _) _).alloc (by simp) _).trans (hb1.mono (by simp; omega))).setCell (by dsimp only; omega) _ |>.setCell (by dsimp only; omega) _) _) (by omega)⟩
      show ((w1.setCell ⟨w.heap.size + 1, 0, none⟩ _).setCell ⟨w.heap.size + 1, 1, none⟩ _).cell? ⟨w.heap.size, 0, none⟩ = _
      rw [World.cell?_setCell_far _ _ _ _ (by simp), World.cell?_setCell_far _ _ _ _ (by simp)]; exact p0
    case round =>
      obtain ⟨M, T, L, rfl, rfl, rfl, hS⟩ := hrel
      have HS : Hid (Stand w wr w1.heap.size (mag a b) M T a L) := hS
      have hT := hS.1
      have HMM : Hid (M < 340282366920938463463374607431768211456) := dig_lt hS.2.1 HM.out
      have hd0 := (dgN_in M).1
      have hd1 := (dgN_in M).2
      rcases go_on' M T L hT with ⟨hgo, htest⟩ | ⟨g1, g2, g3, hM, hne⟩
      · have hL := dig_room hS.2.1 hgo
        have HN : Hid (∀ n, _) := stand_step hS hgo
        obtain ⟨⟨v0, c0⟩, f9⟩ := tail_cell hS.2.2.1 (T - 1) (by omega)
        have i0 : (0 : Int) ≤ (T : Int) - 1 := by omega
        have i1 : (T : Int) - 1 < 40 := by omega
        have i2 : ((T : Int) - 1).toNat = T - 1 := by omega
        clear hS hgo p0 p1 q0 q1 f0 f1 hb1 hz1
        rcases htest with g1 | ⟨g1, g2⟩ | ⟨g1, g2, g3⟩
        all_goals
          go_wp2_with (go_at_call 40; refine (c_divideByTen M HMM.out _).mono ?_; rintro e w2 ⟨rfl, nn, hw⟩; obtain rfl := hw)
          go_roundw
          case rel => exact ⟨M / 10, T - 1, L ++ [48 + dgN M], rfl, rfl, by go_num, HN.out _⟩
          case measure => simp [intOf]; omega
      · have HE : Hid (L = decR (mag a b)) := (by subst hM; exact dig_end hS.2.1 hne : L = decR (mag a b))
        have hl := (decR_len _ HM.out)
        rw [← HE.out] at hl
        obtain ⟨⟨v0, c0⟩, f9⟩ := tail_cell hS.2.2.1 (T - 1) (by omega)
        have cA := hS.2.2.2.1
        have i0 : (0 : Int) ≤ (T : Int) - 1 := by omega
        have i1 : (T : Int) - 1 < 40 := by omega
        have i2 : ((T : Int) - 1).toNat = T - 1 := by omega
        have i3 : (T : Int) - 1 ≤ 40 := by omega
        have i4 : ¬ 40 = T - 1 := by omega
        have ks := fun W => slice40 w1.heap.size T W (by omega) (by omega)
        have hTl := tail_put (x := 45) hS.2.2.1 (show L.length ≤ 39 by omega)
        rw [show 39 - L.length = T - 1 by omega] at hTl
        have hlen : (L ++ [(45 : Int)]).reverse.length = 40 - (T - 1) := by simp; omega
        have kc := run_convert_bytes_arg (P := Tryd.prog) (wr.setCell ⟨w1.heap.size, T - 1, none⟩ (.int .u8 45)) 22 5 Tryd.underlying22 Tryd.underlying5 w1.heap.size (T - 1) (40 - (T - 1)) (40 - (T - 1)) (L ++ [(45 : Int)]).reverse hlen (fun i hi => by
          have := tail_row hTl i (by simp; omega) (by simp; omega)
          rw [show 40 - (L ++ [(45 : Int)]).length + i = T - 1 + i by simp; omega] at this
          exact this) 9 Tryd.underlying9
        have HB : Hid (Below w.heap.size w (wr.setCell ⟨w1.heap.size, T - 1, none⟩ (.int .u8 45))) := hS.2.2.2.2.1.setCell (by dsimp only; have := hS.2.2.2.2.2; omega) _
        have HX : Hid (strOfNums (45 :: L.reverse) = strOfNums (wtxt a b)) := (by unfold wtxt; rw [if_pos h, ← HE.out] : strOfNums (45 :: L.reverse) = strOfNums (wtxt a b))
        clear hS p0 p1 q0 q1 f0 f1 hb1 hz1 hM hne hTl hlen
        go_wp2
        go_ret
        exact ⟨ret_str HX.out, HB.out⟩
  · obtain ⟨e1, e2⟩ := mag_pos a b ha hb h
    have E2 : Hid (b = loN (mag a b)) := e2
    clear ha hb e2
    go_enter Tryd.func15, Tryd.ntmps15
    go_wp2
    go_quiet (fail)
    go_wp2
    go_loopw [4, 5, 7, 8] (fun h l t d wr => ∃ (M T : Nat) (L : List Int), h = .int .u64 (hiN M) ∧ l = .int .u64 (loN M) ∧ t = .int .i64 T ∧ Stand w wr (w.heap.size + 1 + 1) (mag a b) M T a L) (fun h l t d wr => (intOf t).toNat)
    case atStart =>
      refine ⟨mag a b, 40, [], rfl, by rw [← E2.out], rfl, stand_new HM.out (by simp) ?_ (below_drewN (((Below.refl _ _).alloc (Nat.le_refl _) _).alloc (by simp) _) _) (by omega)⟩
      show ((w.alloc _).alloc _).cell? ⟨w.heap.size, 0, none⟩ = _
      simp
    case round =>
      obtain ⟨M, T, L, rfl, rfl, rfl, hS⟩ := hrel
      have HS : Hid (Stand w wr (w.heap.size + 1 + 1) (mag a b) M T a L) := hS
      have hT := hS.1
      have HMM : Hid (M < 340282366920938463463374607431768211456) := dig_lt hS.2.1 HM.out
      have hd0 := (dgN_in M).1
      have hd1 := (dgN_in M).2
      rcases go_on' M T L hT with ⟨hgo, htest⟩ | ⟨g1, g2, g3, hM, hne⟩
      · have hL := dig_room hS.2.1 hgo
        have HN : Hid (∀ n, _) := stand_step hS hgo
        obtain ⟨⟨v0, c0⟩, f9⟩ := tail_cell hS.2.2.1 (T - 1) (by omega)
        have i0 : (0 : Int) ≤ (T : Int) - 1 := by omega
        have i1 : (T : Int) - 1 < 40 := by omega
        have i2 : ((T : Int) - 1).toNat = T - 1 := by omega
        clear hS hgo
        rcases htest with g1 | ⟨g1, g2⟩ | ⟨g1, g2, g3⟩
        all_goals
          go_wp2_with (go_at_call 40; refine (c_divideByTen M HMM.out _).mono ?_; rintro e w2 ⟨rfl, nn, hw⟩; obtain rfl := hw)
          go_roundw
          case rel => exact ⟨M / 10, T - 1, L ++ [48 + dgN M], rfl, rfl, by go_num, HN.out _⟩
          case measure => simp [intOf]; omega
      · have HE : Hid (L = decR (mag a b)) := (by subst hM; exact dig_end hS.2.1 hne : L = decR (mag a b))
        have hl := (decR_len _ HM.out)
        rw [← HE.out] at hl
        have cA := hS.2.2.2.1
        have ks := fun W => slice40p (w.heap.size + 1 + 1) T W (by omega)
        have hlen : L.reverse.length = 40 - T := by simp; omega
        have kc := run_convert_bytes_arg (P := Tryd.prog) wr 22 5 Tryd.underlying22 Tryd.underlying5 (w.heap.size + 1 + 1) T (40 - T) (40 - T) L.reverse hlen (fun i hi => by
          have := tail_row hS.2.2.1 i (by omega) (by omega)
          rw [show 40 - L.length + i = T + i by omega] at this
          exact this) 9 Tryd.underlying9
        have HB : Hid (Below w.heap.size w wr) := hS.2.2.2.2.1
        have HX : Hid (strOfNums L.reverse = strOfNums (wtxt a b)) := (by unfold wtxt; rw [if_neg (by omega), ← HE.out] : strOfNums L.reverse = strOfNums (wtxt a b))
        clear hS hM hne hlen
        go_wp2
        go_ret
        exact ⟨ret_str HX.out, HB.out⟩
end Go.Proofs.YtohjpaokjhifoaaDoor
