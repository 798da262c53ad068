/-
  A sketch copied and compared, as the exact laws do.
-/
import Derived.Test.YtalmhekbagjdeaaGreatDoorBinsC
import Derived.Test.YtalmhekbagjdeaaGreatDoorOwnG
import Derived.Test.YtalmhekbagjdeaaGreatDoorWide
namespace Go.Proofs.YtalmhekbagjdeaaGreatDoor
set_option linter.unusedVariables false
set_option linter.unusedSimpArgs false
open Go.ChangeShapes Go.WideShapes Go.ChangeAt Go.RowKit Go.PlainAid Go.Lib
set_option maxRecDepth 10000

/-- A sketch's five cells in a block of its own. -/
abbrev SkCell (w : World) (g : Nat) (z : Int) (p n : Value) (h l : Int) : Prop := w.cell? ⟨g, 0, none⟩ = some (.int .u64 z) ∧ w.cell? ⟨g, 1, none⟩ = some p ∧ w.cell? ⟨g, 2, none⟩ = some n ∧ w.cell? ⟨g, 3, none⟩ = some (.int .i64 h) ∧ w.cell? ⟨g, 4, none⟩ = some (.int .u64 l)
theorem sk_past {w w' : World} {g : Nat} {z h l : Int} {p n : Value} (k : SkCell w g z p n h l) (hb : Below w.heap.size w w') : SkCell w' g z p n h l :=
  ⟨cell_past hb k.1, cell_past hb k.2.1, cell_past hb k.2.2.1, cell_past hb k.2.2.2.1, cell_past hb k.2.2.2.2⟩
theorem sk_new (w : World) (t : TypeId) (z h l : Int) (p n : Value) : SkCell (w.alloc (.cells #[.int .u64 z, p, n, .int .i64 h, .int .u64 l] t)) w.heap.size z p n h l := by
  have hb := heap_alloc_new w (.cells #[.int .u64 z, p, n, .int .i64 h, .int .u64 l] t)
  exact ⟨by rw [cell_of_row _ w.heap.size 0 _ _ (0, 0) hb]; rfl, by rw [cell_of_row _ w.heap.size 1 _ _ (0, 0) hb]; rfl, by rw [cell_of_row _ w.heap.size 2 _ _ (0, 0) hb]; rfl, by rw [cell_of_row _ w.heap.size 3 _ _ (0, 0) hb]; rfl, by rw [cell_of_row _ w.heap.size 4 _ _ (0, 0) hb]; rfl⟩

set_option maxHeartbeats 1000000 in
theorem c_toSketch {w : World} {z h l : Int} {pa na : Option Addr} {pn pc nn nc : Nat} {P N : List Bn} (hp : P.length = pn) (hn : N.length = nn) (lp : pn ≤ 1048576) (ln : nn ≤ 1048576) (hP : BinsAt w pa P) (hN : BinsAt w na N) :
    Calls Tryz.prog 76 #[.agg #[.int .u64 z, .slice pa pn pc, .slice na nn nc, .int .i64 h, .int .u64 l]] w fun e w' => ∃ gp gn, e = .returned (.agg #[.int .u64 z, .slice (some ⟨gp, 0, none⟩) pn pn, .slice (some ⟨gn, 0, none⟩) nn nn, .int .i64 h, .int .u64 l]) ∧
      w.heap.size ≤ gp ∧ gp < gn ∧ gn < w'.heap.size ∧ w'.ownsRow w.heap.size 136 2 (.slice (some ⟨gp, 0, none⟩) pn pn) pn (fl encB P) ∧ w'.ownsRow w.heap.size 136 2 (.slice (some ⟨gn, 0, none⟩) nn nn) nn (fl encB N) ∧ Below w.heap.size w w' := by
  have HP := hide hP
  have HN := hide hN
  clear hP hN
  go_enter Tryz.func76, Tryz.ntmps76
  go_wp2_with fail
  refine (c_toBinS _ _ hp lp (bins_past HP.out (by repeat (first | exact Below.refl _ _ | refine Below.setCell ?_ (by simp) _ | refine Below.alloc ?_ (by simp <;> omega) _)))).mono ?_
  rintro e w1 ⟨rfl, ho1, hb1⟩
  obtain ⟨hc1, hf1⟩ := bcell hb1
  have hz1 := hb1.size
  have hT1 : Below w.heap.size w w1 := Below.trans (by repeat (first | exact Below.refl _ _ | refine Below.setCell ?_ (by simp) _ | refine Below.alloc ?_ (by simp <;> omega) _)) (hb1.mono (by simp <;> omega))
  simp at hz1 hc1 hf1
  have HO1 := hide ho1
  have HB1 := hide hb1
  have HT1 := hide hT1
  clear ho1 hb1 hT1
  go_wp2_with fail
  refine (c_toBinS _ _ hn ln (bins_past HN.out (HT1.out.setCell (by simp <;> omega) _))).mono ?_
  rintro e w2 ⟨rfl, ho2, hb2⟩
  obtain ⟨hc2, hf2⟩ := bcell hb2
  have hz2 := hb2.size
  have hT2 : Below w.heap.size w w2 := (HT1.out.setCell (by simp <;> omega) _).trans (hb2.mono (by simp <;> omega))
  simp at hz2 hc2 hf2
  replace hc2 := fun b o (h : b < w.heap.size + 1 + 1 + 1) => hc2 b o (by omega)
  replace hf2 := fun b o (h : b < w.heap.size + 1 + 1 + 1) => hf2 b o (by omega)
  have HO2 := hide ho2
  have HB2 := hide hb2
  have HT2 := hide hT2
  clear ho2 hb2 hT2
  go_wp2_with fail
  refine (c_toWide _ _ _).mono ?_
  rintro e w3 ⟨rfl, hb3⟩
  obtain ⟨hc3, hf3⟩ := bcell hb3
  have hz3 := hb3.size
  simp at hz3 hc3 hf3
  replace hc3 := fun b o (h : b < w.heap.size + 1 + 1 + 1) => hc3 b o (by omega)
  replace hf3 := fun b o (h : b < w.heap.size + 1 + 1 + 1) => hf3 b o (by omega)
  have HB3 := hide hb3
  clear hb3
  go_wp2
  have oP1 : w1.ownsRow (w.heap.size + 1 + 1 + 1) 136 2 (.slice (some ⟨w.heap.size + 1 + 1 + 1, 0, none⟩) pn pn) pn (fl encB P) := by simpa using HO1.out
  have oP3 := own_past (ownsRow_setCell_below (own_past (ownsRow_setCell_below oP1 (a := ⟨w.heap.size + 1 + 1, 1, none⟩) (by simp) _) HB2.out) (a := ⟨w.heap.size + 1 + 1, 2, none⟩) (by simp) _) HB3.out
  have oN2 : w2.ownsRow w1.heap.size 136 2 (.slice (some ⟨w1.heap.size, 0, none⟩) nn nn) nn (fl encB N) := by simpa using HO2.out
  have oN3 := own_past (ownsRow_setCell_below oN2 (a := ⟨w.heap.size + 1 + 1, 2, none⟩) (by simp; omega) _) HB3.out
  have hT3 : Below w.heap.size w w3 := by
    refine chain ?_ HB3.out
    exact HT2.out.setCell (by simp <;> omega) _
  have hzn := (own_lt oN3).2
  have hzp := (own_lt oP1).2
  have r : ∀ j, j < 5 → ∃ u, w3.cell? ⟨w.heap.size + 1, j, none⟩ = some u := fun j hj => by
    rw [hc3 _ _ (by omega), World.cell?_setCell_other _ _ _ _ (by simp), hc2 _ _ (by omega), World.cell?_setCell_other _ _ _ _ (by simp), hc1 _ _ (by omega)]
    rw [cell_of_row _ (w.heap.size + 1) j _ _ (0, 0) (mid_row w _ _ _ _)]
    exact ⟨_, Array.getElem?_eq_getElem (by simpa using hj)⟩
  obtain ⟨u0, r0⟩ := r 0 (by omega)
  obtain ⟨u1, r1⟩ := r 1 (by omega)
  obtain ⟨u2, r2⟩ := r 2 (by omega)
  obtain ⟨u3, r3⟩ := r 3 (by omega)
  obtain ⟨u4, r4⟩ := r 4 (by omega)
  refine bodyPost_ret (v := .agg #[.int .u64 z, .slice (some ⟨w.heap.size + 1 + 1 + 1, 0, none⟩) pn pn, .slice (some ⟨w1.heap.size, 0, none⟩) nn nn, .int .i64 h, .int .u64 l]) (by simp [results, Tryz.results76, go_sem, r0, r1, r2, r3, r4]) rfl ⟨_, _, rfl, by omega, by omega, by simp; omega, ?_, ?_, ?_⟩
  · refine own_le (B := w.heap.size + 1 + 1 + 1) ?_ (by omega)
    repeat (refine ownsRow_setCell_below ?_ (by simp) _)
    exact oP3
  · refine own_le (B := w1.heap.size) ?_ (by omega)
    repeat (refine ownsRow_setCell_below ?_ (by simp; omega) _)
    exact oN3
  · repeat (refine Below.setCell ?_ (by simp <;> omega) _)
    exact hT3

set_option maxHeartbeats 1000000 in
theorem c_eqSketch {w : World} {z h l : Int} {pa na pb nb : Option Addr} {pn pc nn nc pd nd : Nat} {P N : List Bn} (hp : P.length = pn) (hn : N.length = nn) (lp : pn ≤ 1048576) (ln : nn ≤ 1048576) (hP : BinsAt w pa P) (hN : BinsAt w na N) (hP2 : BinsAt w pb P) (hN2 : BinsAt w nb N) :
    Calls Tryz.prog 87 #[.agg #[.int .u64 z, .slice pa pn pc, .slice na nn nc, .int .i64 h, .int .u64 l], .agg #[.int .u64 z, .slice pb pn pd, .slice nb nn nd, .int .i64 h, .int .u64 l]] w fun e w' => e = .returned (.bool true) ∧ Below w.heap.size w w' := by
  have HP := hide hP
  have HN := hide hN
  have HP2 := hide hP2
  have HN2 := hide hN2
  clear hP hN hP2 hN2
  have hW : ∀ o1 o2, Below w.heap.size w ((w.alloc o1).alloc o2) := fun o1 o2 => ((Below.refl _ _).alloc (Nat.le_refl _) _).alloc (by simp) _
  have HW := hide hW
  clear hW
  go_enter Tryz.func87, Tryz.ntmps87
  go_wp2_with fail
  refine (c_eqBinS _ _ _ hp lp (bins_past HP.out (HW.out _ _)) (bins_past HP2.out (HW.out _ _))).mono ?_
  rintro e w1 ⟨rfl, hb1⟩
  have hT1 := (HW.out _ _).trans (hb1.mono (by simp <;> omega))
  obtain ⟨hc1, _⟩ := bcell hb1
  have hz1 := hb1.size
  simp at hc1 hz1
  have HT1 := hide hT1
  clear hb1 hT1
  go_wp2_with fail
  refine (c_eqBinS _ _ _ hn ln (bins_past HN.out HT1.out) (bins_past HN2.out HT1.out)).mono ?_
  rintro e w2 ⟨rfl, hb2⟩
  have hT2 := chain HT1.out hb2
  obtain ⟨hc2, _⟩ := bcell hb2
  replace hc2 := fun b o (h : b < w.heap.size + 1 + 1) => hc2 b o (by omega)
  have HT2 := hide hT2
  clear hb2 hT2
  go_wp2_with (go_at_call 86; refine (c_eqWide _ _ _).mono ?_; rintro e w3 ⟨rfl, hb3⟩; have HB3 := hide hb3; clear hb3)
  go_ret
  exact ⟨rfl, chain HT2.out HB3.out⟩
end Go.Proofs.YtalmhekbagjdeaaGreatDoor
