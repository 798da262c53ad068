/-
  A sketch of how many, copied and compared, as the exact laws do.
-/
import Derived.Test.YtalmhekbagjdeaaGreatDoorNumC
import Derived.Test.YtalmhekbagjdeaaGreatDoorOwnG
namespace Go.Proofs.YtalmhekbagjdeaaGreatDoor
set_option linter.unusedVariables false
set_option linter.unusedSimpArgs false
open Go.ChangeShapes Go.WideShapes Go.ChangeAt Go.RowKit Go.PlainAid Go.Lib
set_option maxRecDepth 10000

/-- The two cells of a sketch of how many, in a block of its own. -/
abbrev HlCell (w : World) (g : Nat) (p n : Value) : Prop := w.cell? ⟨g, 0, none⟩ = some p ∧ w.cell? ⟨g, 1, none⟩ = some n
theorem hl_past {w w' : World} {g : Nat} {p n : Value} (k : HlCell w g p n) (hb : Below w.heap.size w w') : HlCell w' g p n :=
  ⟨cell_past hb k.1, cell_past hb k.2⟩
theorem hl_new (w : World) (t : TypeId) (p n : Value) : HlCell (w.alloc (.cells #[p, n] t)) w.heap.size p n := by
  have hb := heap_alloc_new w (.cells #[p, n] t)
  exact ⟨by rw [cell_of_row _ w.heap.size 0 _ _ (0, 0) hb]; rfl, by rw [cell_of_row _ w.heap.size 1 _ _ (0, 0) hb]; rfl⟩

theorem c_szHll (left : Int) (pa na : Option Addr) (pn pc nn nc : Nat) (h0 : 0 ≤ left) (h1 : left ≤ 1048576) (hp : pn ≤ maxLen) (hn : nn ≤ maxLen) (w : World) :
    Calls Tryz.prog 69 #[.agg #[.slice pa pn pc, .slice na nn nc], .int .i64 left] w fun e w' => ∃ v, e = .returned (.int .i64 v) ∧ v ≤ left ∧ (¬ v < 0 → 0 ≤ v ∧ pn ≤ 1048576 ∧ nn ≤ 1048576) ∧ Below w.heap.size w w' := by
  have hB : ∀ o, Below w.heap.size w (w.alloc o) := fun o => (Below.refl _ _).alloc (Nat.le_refl _) o
  have HB := hide hB
  clear hB
  by_cases k : left - (pn : Int) < 0
  · go_enter Tryz.func69, Tryz.ntmps69
    go_wp2_with (go_at_call 95; refine (c_szUint64S_neg _ _ _ _ (by omega) (by omega) (by assumption) (by omega) _).mono ?_; rintro e w1 ⟨rfl, rfl⟩)
    go_ret
    exact ⟨-1, rfl, by omega, fun h => by omega, HB.out _⟩
  · by_cases k2 : left - (pn : Int) - (nn : Int) < 0
    · go_enter Tryz.func69, Tryz.ntmps69
      go_wp2_with (first | (go_at_call 96; refine (c_szInt64S_neg _ _ _ _ (by omega) (by omega) (by assumption) (by omega) _).mono ?_; rintro e w1 ⟨rfl, rfl⟩) | (go_at_call 95; refine (c_szUint64S_pos _ _ _ _ (by omega) (by omega) (by assumption) (by omega) _).mono ?_; rintro e w1 ⟨rfl, rfl⟩))
      go_ret
      exact ⟨-1, rfl, by omega, fun h => by omega, HB.out _⟩
    · go_enter Tryz.func69, Tryz.ntmps69
      go_wp2_with (first | (go_at_call 96; refine (c_szInt64S_pos _ _ _ _ (by omega) (by omega) (by assumption) (by omega) _).mono ?_; rintro e w1 ⟨rfl, rfl⟩) | (go_at_call 95; refine (c_szUint64S_pos _ _ _ _ (by omega) (by omega) (by assumption) (by omega) _).mono ?_; rintro e w1 ⟨rfl, rfl⟩))
      go_ret
      exact ⟨_, rfl, by omega, fun h => by omega, HB.out _⟩

set_option maxHeartbeats 1000000 in
theorem c_toHll {w : World} {pa na : Option Addr} {pn pc nn nc : Nat} {P N : List Int} (hp : P.length = pn) (hn : N.length = nn) (lp : pn ≤ 1048576) (ln : nn ≤ 1048576) (hP : NumsAt .u64 w pa P) (hN : NumsAt .i64 w na N) :
    Calls Tryz.prog 77 #[.agg #[.slice pa pn pc, .slice na nn nc]] w fun e w' => ∃ gp gn, e = .returned (.agg #[.slice (some ⟨gp, 0, none⟩) pn pn, .slice (some ⟨gn, 0, none⟩) nn nn]) ∧
      w.heap.size ≤ gp ∧ gp < gn ∧ gn < w'.heap.size ∧ w'.ownsRow w.heap.size 47 1 (.slice (some ⟨gp, 0, none⟩) pn pn) pn (P.map (Value.int .u64)) ∧ w'.ownsRow w.heap.size 2 1 (.slice (some ⟨gn, 0, none⟩) nn nn) nn (N.map (Value.int .i64)) ∧ Below w.heap.size w w' := by
  have HP := hide hP
  have HN := hide hN
  clear hP hN
  go_enter Tryz.func77, Tryz.ntmps77
  go_wp2_with fail
  refine (c_toUint64S _ _ hp lp (nums_past HP.out (by repeat (first | exact Below.refl _ _ | refine Below.setCell ?_ (by simp) _ | refine Below.alloc ?_ (by simp <;> omega) _)))).mono ?_
  rintro e w1 ⟨rfl, ho1, hb1⟩
  obtain ⟨hc1, hf1⟩ := bcell hb1
  have hz1 := hb1.size
  have hT1 : Below w.heap.size w w1 := Below.trans (by repeat (first | exact Below.refl _ _ | refine Below.setCell ?_ (by simp) _ | refine Below.alloc ?_ (by simp <;> omega) _)) (hb1.mono (by simp <;> omega))
  simp at hz1 hc1 hf1
  have HO1 := hide ho1
  have HB1 := hide hb1
  have HT1 := hide hT1
  clear ho1 hb1 hT1
  go_wp2_with fail
  refine (c_toInt64S _ _ hn ln (nums_past HN.out (HT1.out.setCell (by simp <;> omega) _))).mono ?_
  rintro e w2 ⟨rfl, ho2, hb2⟩
  obtain ⟨hc2, hf2⟩ := bcell hb2
  have hz2 := hb2.size
  have hT2 : Below w.heap.size w w2 := (HT1.out.setCell (by simp <;> omega) _).trans (hb2.mono (by simp <;> omega))
  simp at hz2 hc2 hf2
  replace hc2 := fun b o (h : b < w.heap.size + 1 + 1 + 1) => hc2 b o (by omega)
  replace hf2 := fun b o (h : b < w.heap.size + 1 + 1 + 1) => hf2 b o (by omega)
  have HO2 := hide ho2
  have HB2 := hide hb2
  have HT2 := hide hT2
  clear ho2 hb2 hT2
  go_wp2
  have oP1 : w1.ownsRow (w.heap.size + 1 + 1 + 1) 47 1 (.slice (some ⟨w.heap.size + 1 + 1 + 1, 0, none⟩) pn pn) pn (P.map (Value.int .u64)) := by simpa using HO1.out
  have oP3 := own_past (ownsRow_setCell_below oP1 (a := ⟨w.heap.size + 1 + 1, 0, none⟩) (by simp) _) HB2.out
  have oN2 : w2.ownsRow w1.heap.size 2 1 (.slice (some ⟨w1.heap.size, 0, none⟩) nn nn) nn (N.map (Value.int .i64)) := by simpa using HO2.out
  have hzn := (own_lt oN2).2
  have hzp := (own_lt oP1).2
  have r : ∀ j, j < 2 → ∃ u, w2.cell? ⟨w.heap.size + 1, j, none⟩ = some u := fun j hj => by
    rw [hc2 _ _ (by omega), World.cell?_setCell_other _ _ _ _ (by simp), hc1 _ _ (by omega)]
    rw [cell_of_row _ (w.heap.size + 1) j _ _ (0, 0) (mid_row w _ _ _ _)]
    exact ⟨_, Array.getElem?_eq_getElem (by simpa using hj)⟩
  obtain ⟨u0, r0⟩ := r 0 (by omega)
  obtain ⟨u1, r1⟩ := r 1 (by omega)
  refine bodyPost_ret (v := .agg #[.slice (some ⟨w.heap.size + 1 + 1 + 1, 0, none⟩) pn pn, .slice (some ⟨w1.heap.size, 0, none⟩) nn nn]) (by simp [results, Tryz.results77, go_sem, r0, r1]) rfl ⟨_, _, rfl, by omega, by omega, by simp; omega, ?_, ?_, ?_⟩
  · refine own_le (B := w.heap.size + 1 + 1 + 1) ?_ (by omega)
    repeat (refine ownsRow_setCell_below ?_ (by simp) _)
    exact oP3
  · refine own_le (B := w1.heap.size) ?_ (by omega)
    repeat (refine ownsRow_setCell_below ?_ (by simp; omega) _)
    exact oN2
  · repeat (refine Below.setCell ?_ (by simp <;> omega) _)
    exact HT2.out

set_option maxHeartbeats 1000000 in
theorem c_eqHll {w : World} {pa na pb nb : Option Addr} {pn pc nn nc pd nd : Nat} {P N : List Int} (hp : P.length = pn) (hn : N.length = nn) (lp : pn ≤ 1048576) (ln : nn ≤ 1048576) (hP : NumsAt .u64 w pa P) (hN : NumsAt .i64 w na N) (hP2 : NumsAt .u64 w pb P) (hN2 : NumsAt .i64 w nb N) :
    Calls Tryz.prog 88 #[.agg #[.slice pa pn pc, .slice na nn nc], .agg #[.slice pb pn pd, .slice nb nn nd]] w fun e w' => e = .returned (.bool true) ∧ Below w.heap.size w w' := by
  have HP := hide hP
  have HN := hide hN
  have HP2 := hide hP2
  have HN2 := hide hN2
  clear hP hN hP2 hN2
  have hW : ∀ o1 o2, Below w.heap.size w ((w.alloc o1).alloc o2) := fun o1 o2 => ((Below.refl _ _).alloc (Nat.le_refl _) _).alloc (by simp) _
  have HW := hide hW
  clear hW
  go_enter Tryz.func88, Tryz.ntmps88
  go_wp2_with fail
  refine (c_eqUint64S _ _ _ hp lp (nums_past HP.out (HW.out _ _)) (nums_past HP2.out (HW.out _ _))).mono ?_
  rintro e w1 ⟨rfl, hb1⟩
  have hT1 := (HW.out _ _).trans (hb1.mono (by simp <;> omega))
  obtain ⟨hc1, _⟩ := bcell hb1
  have hz1 := hb1.size
  simp at hc1 hz1
  have HT1 := hide hT1
  clear hb1 hT1
  go_wp2_with fail
  refine (c_eqInt64S _ _ _ hn ln (nums_past HN.out HT1.out) (nums_past HN2.out HT1.out)).mono ?_
  rintro e w2 ⟨rfl, hb2⟩
  have HT2 := hide (chain HT1.out hb2)
  clear hb2
  go_wp2
  go_ret
  exact ⟨rfl, HT2.out⟩
end Go.Proofs.YtalmhekbagjdeaaGreatDoor
