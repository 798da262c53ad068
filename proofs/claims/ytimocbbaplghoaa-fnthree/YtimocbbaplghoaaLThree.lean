/-
  FnThree: three drawn right sketches are brought together in any order.
-/
import Derived.Test.YtimocbbaplghoaaSkL
import Derived.Test.YtimocbbaplghoaaOpenC
namespace Go.Proofs.Ytimocbbaplghoaa
set_option linter.unusedVariables false
set_option linter.unusedSimpArgs false
open Go.ChangeShapes Go.WideShapes Go.ChangeAt Go.RowKit Go.PlainAid Go.Lib
set_option maxRecDepth 10000

set_option maxHeartbeats 4000000 in
theorem walkThree (ao : Option Addr) (ln cap : Nat) (bo : Option Addr) (lm cbp : Nat) (w : World) (hl : ln ≤ maxLen) (ha : ln ≤ 1048576 → CodeAt w w.heap.size ao ln) (hm : lm ≤ maxLen) (hb : lm ≤ 1048576 → CodeAt w w.heap.size bo lm) :
    Calls Try.prog 4 #[.slice ao ln cap, .slice bo lm cbp] w fun e w' => e = .returned (.bool true) ∧ Below w.heap.size w w' := by
  have hlz : ln ≤ 9223372036854775807 := hl
  have hmz : lm ≤ 9223372036854775807 := hm
  by_cases hl1 : 1048576 < ln
  · have hl1i : (1048576 : Int) < (ln : Int) := by omega
    clear ha hb
    go_enter Try.func4, Try.ntmps4
    go_wp2
    go_ret
    exact ⟨rfl, Below.refl _ _⟩
  have hl1i : ¬ (1048576 : Int) < (ln : Int) := by omega
  by_cases hm1 : 1048576 < lm
  · have hm1i : (1048576 : Int) < (lm : Int) := by omega
    clear ha hb
    go_enter Try.func4, Try.ntmps4
    go_wp2
    go_ret
    exact ⟨rfl, Below.refl _ _⟩
  have hm1i : ¬ (1048576 : Int) < (lm : Int) := by omega
  have HA := hide (ha (by omega))
  have HB := hide (hb (by omega))
  clear ha hb
  go_enter Try.func4, Try.ntmps4
  go_wp2_with fail
  refine (c_DrawSketchMerge HA.out).mono ?_
  rintro e w1 ⟨z, h, l, pa, pn, pc, na, nn, nc, P, N, z', h', l', pa', pn', pc', na', nn', nc', P', N', rfl, I1, I2, b1⟩
  go_wp2_with fail
  have L1 := SkL.made I1
  have L2 := SkL.made (I2.past ((Below.refl _ _).alloc (Nat.le_refl _) (.cells #[.int .u64 z, .slice pa pn pc, .slice na nn nc, .int .i64 h, .int .u64 l] 28)))
  have L1 := L1.past ((Below.refl _ _).alloc (Nat.le_refl _) (.cells #[.int .u64 z', .slice pa' pn' pc', .slice na' nn' nc', .int .i64 h', .int .u64 l'] 28))
  have b2 := (b1.alloc b1.size (.cells #[.int .u64 z, .slice pa pn pc, .slice na nn nc, .int .i64 h, .int .u64 l] 28)).alloc (by simp; have := b1.size; omega) (.cells #[.int .u64 z', .slice pa' pn' pc', .slice na' nn' nc', .int .i64 h', .int .u64 l'] 28)
  rw [show (w1.alloc (.cells #[.int .u64 z, .slice pa pn pc, .slice na nn nc, .int .i64 h, .int .u64 l] 28)).heap.size = w1.heap.size + 1 by simp] at L2
  generalize (w1.alloc (.cells #[.int .u64 z, .slice pa pn pc, .slice na nn nc, .int .i64 h, .int .u64 l] 28)).alloc (.cells #[.int .u64 z', .slice pa' pn' pc', .slice na' nn' nc', .int .i64 h', .int .u64 l'] 28) = W1 at L1 L2 b2 ⊢
  generalize w1.heap.size + 1 = r2 at L2 ⊢
  generalize w1.heap.size = r1 at L1 ⊢
  have HL1 := hide L1
  have HL2 := hide L2
  have HB2 := hide b2
  clear L1 L2 b2 I1 I2 b1
  refine (c_DrawSketchWeight (codeAt_in HB.out HB2.out (Nat.le_refl _) HB2.out.size)).mono ?_
  rintro e w2 ⟨z3, h3, l3, pa3, pn3, pc3, na3, nn3, nc3, P3, N3, rfl, I3, b3⟩
  have HL1' := hide (HL1.out.past b3)
  have HL2' := hide (HL2.out.past b3)
  have HB3 := hide (chain HB2.out b3)
  clear HL1 HL2 HB2 b3
  have L3 := SkL.made I3
  have b5 := HB3.out.alloc HB3.out.size (.cells #[.int .u64 z3, .slice pa3 pn3 pc3, .slice na3 nn3 nc3, .int .i64 h3, .int .u64 l3] 28)
  have hbw : Below w2.heap.size w2 (w2.alloc (.cells #[.int .u64 z3, .slice pa3 pn3 pc3, .slice na3 nn3 nc3, .int .i64 h3, .int .u64 l3] 28)) := (Below.refl _ _).alloc (Nat.le_refl _) _
  have L1 := HL1'.out.past hbw
  have L2 := HL2'.out.past hbw
  go_wp2_with fail
  generalize w2.alloc (.cells #[.int .u64 z3, .slice pa3 pn3 pc3, .slice na3 nn3 nc3, .int .i64 h3, .int .u64 l3] 28) = W2 at L1 L2 L3 b5 ⊢
  generalize w2.heap.size = r3 at L3 ⊢
  have HL1 := hide L1
  have HL2 := hide L2
  have HL3 := hide L3
  have HBd := hide b5
  clear L1 L2 L3 b5 hbw HL1' HL2' HB3 I3
  refine regionK (fun W' => (SkL W' r1 z h l pa pn pc na nn nc P N ∧ SkL W' r2 z' h' l' pa' pn' pc' na' nn' nc' P' N' ∧ SkL W' r3 z3 h3 l3 pa3 pn3 pc3 na3 nn3 nc3 P3 N3)) 5 (by rfl) ?_
  have HL1 := hide HL1.out.drew
  have HL2 := hide HL2.out.drew
  have HL3 := hide HL3.out.drew
  have HBd := hide HBd.out.drew
  refine takeK (i := 0) (d := 25) (v := .agg #[.int .u64 z3, .slice pa3 pn3 pc3, .slice na3 nn3 nc3, .int .i64 h3, .int .u64 l3]) rfl rfl (by kernel_rfl) (by kernel_rfl) (by kernel_rfl) (by decide) (by kernel_rfl) (fun _ _ _ h => h) (Or.inl ⟨by rfl, fun W hW => ?_⟩) ⟨HL1.out, HL2.out, HL3.out⟩ ?_
  · obtain ⟨x0, x1, x2, x3, x4⟩ := hW.2.2.cells
    go_simp
  simp only [List.setIfInBounds_toArray, List.set_cons_zero, List.set_cons_succ]
  refine takeK (i := 2) (d := 27) (v := .agg #[.int .u64 z3, .slice pa3 pn3 pc3, .slice na3 nn3 nc3, .int .i64 h3, .int .u64 l3]) rfl rfl (by kernel_rfl) (by kernel_rfl) (by kernel_rfl) (by decide) (by kernel_rfl) (fun _ _ _ h => h) (Or.inl ⟨by rfl, fun W hW => ?_⟩) ⟨HL1.out, HL2.out, HL3.out⟩ ?_
  · obtain ⟨x0, x1, x2, x3, x4⟩ := hW.2.2.cells
    go_simp
  simp only [List.setIfInBounds_toArray, List.set_cons_zero, List.set_cons_succ]
  refine oneK (i := 1) (by kernel_rfl) rfl (fun K hK => ?_)
  go_simp
  refine (c_i_SketchWeight HL3.out.sk.hz HL3.out.sk.lp HL3.out.sk.ln (HL3.out.sk.p20) (HL3.out.sk.n20) HL3.out.sk.hP HL3.out.sk.hN HL3.out.sk.kP HL3.out.sk.kN).mono ?_
  rintro e w3 ⟨rfl, hb3⟩
  have HL1 := hide (HL1.out.past hb3)
  have HL2 := hide (HL2.out.past hb3)
  have HL3 := hide (HL3.out.past hb3)
  have HBd := hide (chain HBd.out hb3)
  clear hb3
  dsimp only
  refine hK.out _ _ (fun _ => ⟨HL1.out, HL2.out, HL3.out⟩) ?_
  clear hK K
  try simp only [Act.put, List.setIfInBounds_toArray, List.set_cons_zero, List.set_cons_succ]
  refine oneK (i := 3) (by kernel_rfl) rfl (fun K hK => ?_)
  go_simp
  refine (c_s_SketchWeight HL3.out.sk.hz HL3.out.sk.lp HL3.out.sk.ln (HL3.out.sk.p20) (HL3.out.sk.n20) HL3.out.sk.hP HL3.out.sk.hN HL3.out.sk.kP HL3.out.sk.kN).mono ?_
  rintro e w4 ⟨rfl, hb4⟩
  have HL1 := hide (HL1.out.past hb4)
  have HL2 := hide (HL2.out.past hb4)
  have HL3 := hide (HL3.out.past hb4)
  have HBd := hide (chain HBd.out hb4)
  clear hb4
  dsimp only
  refine hK.out _ _ (fun _ => ⟨HL1.out, HL2.out, HL3.out⟩) ?_
  clear hK K
  try simp only [Act.put, List.setIfInBounds_toArray, List.set_cons_zero, List.set_cons_succ]
  refine takeK (i := 4) (d := 29) (v := .bool false) rfl rfl (by kernel_rfl) (by kernel_rfl) (by kernel_rfl) (by decide) (by kernel_rfl) (fun _ _ _ h => h) (Or.inl ⟨by rfl, fun W hW => ?_⟩) ⟨HL1.out, HL2.out, HL3.out⟩ ?_
  · clear hW
    go_simp
  simp only [List.setIfInBounds_toArray, List.set_cons_zero, List.set_cons_succ]
  refine doneK (by kernel_rfl) ?_ _
  obtain ⟨a0, a1, a2, a3, a4⟩ := HL1.out.cells
  obtain ⟨b0, b1, b2, b3, b4⟩ := HL2.out.cells
  obtain ⟨c0, c1, c2, c3, c4⟩ := HL3.out.cells
  go_wp2_with fail
  clear a0 a1 a2 a3 a4 b0 b1 b2 b3 b4 c0 c1 c2 c3 c4
  refine (c_i_SketchMerge HL1.out.sk.hz HL1.out.sk.hl HL2.out.sk.hz HL2.out.sk.hl HL1.out.sk.lp HL1.out.sk.ln HL2.out.sk.lp HL2.out.sk.ln HL1.out.sk.p20 HL1.out.sk.n20 HL2.out.sk.p20 HL2.out.sk.n20 HL1.out.sk.hP HL1.out.sk.hN HL2.out.sk.hP HL2.out.sk.hN HL1.out.sk.kP HL1.out.sk.kN HL2.out.sk.kP HL2.out.sk.kN).mono ?_
  rintro e w5 ⟨v5, rfl, hb5, hq5⟩
  obtain ⟨z4, h4, l4, pa4, pn4, pc4, na4, nn4, nc4, P4, N4, rfl, I4, M4⟩ := mrg_sk HL1.out.sk HL2.out.sk hq5
  have HL1 := hide (HL1.out.past hb5)
  have HL2 := hide (HL2.out.past hb5)
  have HL3 := hide (HL3.out.past hb5)
  have HBd := hide (chain HBd.out hb5)
  have HI4 := hide I4
  have HM4 := hide M4
  clear hb5 hq5 I4 M4
  have hal : Below w5.heap.size w5 (w5.alloc (.cells #[.int .u64 z4, .slice pa4 pn4 pc4, .slice na4 nn4 nc4, .int .i64 h4, .int .u64 l4] 28)) := (Below.refl _ _).alloc (Nat.le_refl _) _
  have HL1 := hide (HL1.out.past hal)
  have HL2 := hide (HL2.out.past hal)
  have HL3 := hide (HL3.out.past hal)
  have HBd := hide (chain HBd.out hal)
  have HL4 := hide (SkL.made HI4.out)
  obtain ⟨a0, a1, a2, a3, a4⟩ := HL1.out.cells
  obtain ⟨b0, b1, b2, b3, b4⟩ := HL2.out.cells
  obtain ⟨c0, c1, c2, c3, c4⟩ := HL3.out.cells
  clear hal HI4
  go_wp2_with fail
  clear a0 a1 a2 a3 a4 b0 b1 b2 b3 b4 c0 c1 c2 c3 c4
  generalize w5.alloc (.cells #[.int .u64 z4, .slice pa4 pn4 pc4, .slice na4 nn4 nc4, .int .i64 h4, .int .u64 l4] 28) = W5 at HL1 HL2 HL3 HL4 HBd ⊢
  generalize w5.heap.size = r4 at HL4 ⊢
  refine (c_i_SketchMerge HL2.out.sk.hz HL2.out.sk.hl HL3.out.sk.hz HL3.out.sk.hl HL2.out.sk.lp HL2.out.sk.ln HL3.out.sk.lp HL3.out.sk.ln HL2.out.sk.p20 HL2.out.sk.n20 HL3.out.sk.p20 HL3.out.sk.n20 HL2.out.sk.hP HL2.out.sk.hN HL3.out.sk.hP HL3.out.sk.hN HL2.out.sk.kP HL2.out.sk.kN HL3.out.sk.kP HL3.out.sk.kN).mono ?_
  rintro e w6 ⟨v6, rfl, hb6, hq6⟩
  obtain ⟨z5, h5, l5, pa5, pn5, pc5, na5, nn5, nc5, P5, N5, rfl, I5, M5⟩ := mrg_sk HL2.out.sk HL3.out.sk hq6
  have HL1 := hide (HL1.out.past hb6)
  have HL2 := hide (HL2.out.past hb6)
  have HL3 := hide (HL3.out.past hb6)
  have HL4 := hide (HL4.out.past hb6)
  have HBd := hide (chain HBd.out hb6)
  have HI5 := hide I5
  have HM5 := hide M5
  clear hb6 hq6 I5 M5
  have hal : Below w6.heap.size w6 (w6.alloc (.cells #[.int .u64 z5, .slice pa5 pn5 pc5, .slice na5 nn5 nc5, .int .i64 h5, .int .u64 l5] 28)) := (Below.refl _ _).alloc (Nat.le_refl _) _
  have HL1 := hide (HL1.out.past hal)
  have HL2 := hide (HL2.out.past hal)
  have HL3 := hide (HL3.out.past hal)
  have HL4 := hide (HL4.out.past hal)
  have HBd := hide (chain HBd.out hal)
  have HL5 := hide (SkL.made HI5.out)
  obtain ⟨a0, a1, a2, a3, a4⟩ := HL1.out.cells
  clear hal HI5
  go_wp2_with fail
  clear a0 a1 a2 a3 a4
  generalize w6.alloc (.cells #[.int .u64 z5, .slice pa5 pn5 pc5, .slice na5 nn5 nc5, .int .i64 h5, .int .u64 l5] 28) = W6 at HL1 HL2 HL3 HL4 HL5 HBd ⊢
  generalize w6.heap.size = r5 at HL5 ⊢
  refine (c_s_SketchRight HL1.out.sk.lp HL1.out.sk.ln (HL1.out.sk.p20) (HL1.out.sk.n20) HL1.out.sk.hP HL1.out.sk.hN HL1.out.sk.kP HL1.out.sk.kN).mono ?_
  rintro e w7 ⟨rfl, hb7⟩
  have HL1 := hide (HL1.out.past hb7)
  have HL2 := hide (HL2.out.past hb7)
  have HL3 := hide (HL3.out.past hb7)
  have HL4 := hide (HL4.out.past hb7)
  have HL5 := hide (HL5.out.past hb7)
  have HBd := hide (chain HBd.out hb7)
  clear hb7
  cases hs1 : skB P N with
  | false =>
    go_wp2_with fail
    refine regionK (fun W' => (SkL W' r1 z h l pa pn pc na nn nc P N ∧ SkL W' r2 z' h' l' pa' pn' pc' na' nn' nc' P' N' ∧ SkL W' r3 z3 h3 l3 pa3 pn3 pc3 na3 nn3 nc3 P3 N3 ∧ SkL W' r4 z4 h4 l4 pa4 pn4 pc4 na4 nn4 nc4 P4 N4 ∧ SkL W' r5 z5 h5 l5 pa5 pn5 pc5 na5 nn5 nc5 P5 N5)) 12 (by rfl) ?_
    have HL1 := hide HL1.out.drew
    have HL2 := hide HL2.out.drew
    have HL3 := hide HL3.out.drew
    have HL4 := hide HL4.out.drew
    have HL5 := hide HL5.out.drew
    have HBd := hide HBd.out.drew
    refine takeK (i := 0) (d := 49) (v := .agg #[.int .u64 z, .slice pa pn pc, .slice na nn nc, .int .i64 h, .int .u64 l]) rfl rfl (by kernel_rfl) (by kernel_rfl) (by kernel_rfl) (by decide) (by kernel_rfl) (fun _ _ _ h => h) (Or.inl ⟨by rfl, fun W hW => ?_⟩) ⟨HL1.out, HL2.out, HL3.out, HL4.out, HL5.out⟩ ?_
    · obtain ⟨x0, x1, x2, x3, x4⟩ := hW.1.cells
      go_simp
    simp only [List.setIfInBounds_toArray, List.set_cons_zero, List.set_cons_succ]
    refine takeK (i := 2) (d := 51) (v := .agg #[.int .u64 z, .slice pa pn pc, .slice na nn nc, .int .i64 h, .int .u64 l]) rfl rfl (by kernel_rfl) (by kernel_rfl) (by kernel_rfl) (by decide) (by kernel_rfl) (fun _ _ _ h => h) (Or.inl ⟨by rfl, fun W hW => ?_⟩) ⟨HL1.out, HL2.out, HL3.out, HL4.out, HL5.out⟩ ?_
    · obtain ⟨x0, x1, x2, x3, x4⟩ := hW.1.cells
      go_simp
    simp only [List.setIfInBounds_toArray, List.set_cons_zero, List.set_cons_succ]
    refine oneK (i := 1) (by kernel_rfl) rfl (fun K hK => ?_)
    go_simp
    refine (c_i_SketchRight HL1.out.sk.lp HL1.out.sk.ln (HL1.out.sk.p20) (HL1.out.sk.n20) HL1.out.sk.hP HL1.out.sk.hN HL1.out.sk.kP HL1.out.sk.kN).mono ?_
    rintro e u1 ⟨rfl, hc1⟩
    have HL1 := hide (HL1.out.past hc1)
    have HL2 := hide (HL2.out.past hc1)
    have HL3 := hide (HL3.out.past hc1)
    have HL4 := hide (HL4.out.past hc1)
    have HL5 := hide (HL5.out.past hc1)
    have HBd := hide (chain HBd.out hc1)
    clear hc1
    dsimp only
    refine hK.out _ _ (fun _ => ⟨HL1.out, HL2.out, HL3.out, HL4.out, HL5.out⟩) ?_
    clear hK K
    try simp only [Act.put, List.setIfInBounds_toArray, List.set_cons_zero, List.set_cons_succ]
    refine oneK (i := 3) (by kernel_rfl) rfl (fun K hK => ?_)
    go_simp
    refine (c_s_SketchRight HL1.out.sk.lp HL1.out.sk.ln (HL1.out.sk.p20) (HL1.out.sk.n20) HL1.out.sk.hP HL1.out.sk.hN HL1.out.sk.kP HL1.out.sk.kN).mono ?_
    rintro e u2 ⟨rfl, hc2⟩
    have HL1 := hide (HL1.out.past hc2)
    have HL2 := hide (HL2.out.past hc2)
    have HL3 := hide (HL3.out.past hc2)
    have HL4 := hide (HL4.out.past hc2)
    have HL5 := hide (HL5.out.past hc2)
    have HBd := hide (chain HBd.out hc2)
    clear hc2
    dsimp only
    refine hK.out _ _ (fun _ => ⟨HL1.out, HL2.out, HL3.out, HL4.out, HL5.out⟩) ?_
    clear hK K
    try simp only [Act.put, List.setIfInBounds_toArray, List.set_cons_zero, List.set_cons_succ]
    refine takeK (i := 4) (d := 53) (v := .bool true) rfl rfl (by kernel_rfl) (by kernel_rfl) (by kernel_rfl) (by decide) (by kernel_rfl) (fun _ _ _ h => h) (Or.inl ⟨by rfl, fun W hW => ?_⟩) ⟨HL1.out, HL2.out, HL3.out, HL4.out, HL5.out⟩ ?_
    · clear hW
      go_simp
    simp only [List.setIfInBounds_toArray, List.set_cons_zero, List.set_cons_succ]
    refine takeK (i := 5) (d := 54) (v := .bool true) rfl rfl (by kernel_rfl) (by kernel_rfl) (by kernel_rfl) (by decide) (by kernel_rfl) (fun _ _ _ h => h) (Or.inl ⟨by rfl, fun W hW => ?_⟩) ⟨HL1.out, HL2.out, HL3.out, HL4.out, HL5.out⟩ ?_
    · clear hW
      go_simp
    simp only [List.setIfInBounds_toArray, List.set_cons_zero, List.set_cons_succ]
    refine takeK (i := 6) (d := 55) (v := .agg #[.int .u64 z', .slice pa' pn' pc', .slice na' nn' nc', .int .i64 h', .int .u64 l']) rfl rfl (by kernel_rfl) (by kernel_rfl) (by kernel_rfl) (by decide) (by kernel_rfl) (fun _ _ _ h => h) (Or.inl ⟨by rfl, fun W hW => ?_⟩) ⟨HL1.out, HL2.out, HL3.out, HL4.out, HL5.out⟩ ?_
    · obtain ⟨x0, x1, x2, x3, x4⟩ := hW.2.1.cells
      go_simp
    simp only [List.setIfInBounds_toArray, List.set_cons_zero, List.set_cons_succ]
    refine takeK (i := 8) (d := 57) (v := .agg #[.int .u64 z', .slice pa' pn' pc', .slice na' nn' nc', .int .i64 h', .int .u64 l']) rfl rfl (by kernel_rfl) (by kernel_rfl) (by kernel_rfl) (by decide) (by kernel_rfl) (fun _ _ _ h => h) (Or.inl ⟨by rfl, fun W hW => ?_⟩) ⟨HL1.out, HL2.out, HL3.out, HL4.out, HL5.out⟩ ?_
    · obtain ⟨x0, x1, x2, x3, x4⟩ := hW.2.1.cells
      go_simp
    simp only [List.setIfInBounds_toArray, List.set_cons_zero, List.set_cons_succ]
    refine oneK (i := 7) (by kernel_rfl) rfl (fun K hK => ?_)
    rw [if_pos (by rfl)]
    go_simp
    refine (c_i_SketchRight HL2.out.sk.lp HL2.out.sk.ln (HL2.out.sk.p20) (HL2.out.sk.n20) HL2.out.sk.hP HL2.out.sk.hN HL2.out.sk.kP HL2.out.sk.kN).mono ?_
    rintro e u3 ⟨rfl, hc3⟩
    have HL1 := hide (HL1.out.past hc3)
    have HL2 := hide (HL2.out.past hc3)
    have HL3 := hide (HL3.out.past hc3)
    have HL4 := hide (HL4.out.past hc3)
    have HL5 := hide (HL5.out.past hc3)
    have HBd := hide (chain HBd.out hc3)
    clear hc3
    dsimp only
    refine hK.out _ _ (fun _ => ⟨HL1.out, HL2.out, HL3.out, HL4.out, HL5.out⟩) ?_
    clear hK K
    try simp only [Act.put, List.setIfInBounds_toArray, List.set_cons_zero, List.set_cons_succ]
    refine oneK (i := 9) (by kernel_rfl) rfl (fun K hK => ?_)
    rw [if_pos (by rfl)]
    go_simp
    refine (c_s_SketchRight HL2.out.sk.lp HL2.out.sk.ln (HL2.out.sk.p20) (HL2.out.sk.n20) HL2.out.sk.hP HL2.out.sk.hN HL2.out.sk.kP HL2.out.sk.kN).mono ?_
    rintro e u4 ⟨rfl, hc4⟩
    have HL1 := hide (HL1.out.past hc4)
    have HL2 := hide (HL2.out.past hc4)
    have HL3 := hide (HL3.out.past hc4)
    have HL4 := hide (HL4.out.past hc4)
    have HL5 := hide (HL5.out.past hc4)
    have HBd := hide (chain HBd.out hc4)
    clear hc4
    dsimp only
    refine hK.out _ _ (fun _ => ⟨HL1.out, HL2.out, HL3.out, HL4.out, HL5.out⟩) ?_
    clear hK K
    try simp only [Act.put, List.setIfInBounds_toArray, List.set_cons_zero, List.set_cons_succ]
    refine takeK (i := 10) (d := 59) (v := .bool true) rfl rfl (by kernel_rfl) (by kernel_rfl) (by kernel_rfl) (by decide) (by kernel_rfl) (fun _ _ _ h => h) (Or.inl ⟨by rfl, fun W hW => ?_⟩) ⟨HL1.out, HL2.out, HL3.out, HL4.out, HL5.out⟩ ?_
    · clear hW
      go_simp
    simp only [List.setIfInBounds_toArray, List.set_cons_zero, List.set_cons_succ]
    refine takeK (i := 11) (d := 60) (v := .bool true) rfl rfl (by kernel_rfl) (by kernel_rfl) (by kernel_rfl) (by decide) (by kernel_rfl) (fun _ _ _ h => h) (Or.inl ⟨by rfl, fun W hW => ?_⟩) ⟨HL1.out, HL2.out, HL3.out, HL4.out, HL5.out⟩ ?_
    · clear hW
      go_simp
    simp only [List.setIfInBounds_toArray, List.set_cons_zero, List.set_cons_succ]
    refine oneK (i := 12) (by kernel_rfl) rfl (fun K hK => ?_)
    go_simp
    refine hK.out _ _ (fun h => absurd rfl h) ?_
    clear hK K
    try simp only [Act.put, List.setIfInBounds_toArray, List.set_cons_zero, List.set_cons_succ]
    refine doneK (by kernel_rfl) ?_ _
    go_wp2
    go_ret
    exact ⟨rfl, HBd.out⟩
  | true =>
    obtain ⟨a0, a1, a2, a3, a4⟩ := HL2.out.cells
    go_wp2_with fail
    clear a0 a1 a2 a3 a4
    refine (c_s_SketchRight HL2.out.sk.lp HL2.out.sk.ln (HL2.out.sk.p20) (HL2.out.sk.n20) HL2.out.sk.hP HL2.out.sk.hN HL2.out.sk.kP HL2.out.sk.kN).mono ?_
    rintro e w8 ⟨rfl, hb8⟩
    have HL1 := hide (HL1.out.past hb8)
    have HL2 := hide (HL2.out.past hb8)
    have HL3 := hide (HL3.out.past hb8)
    have HL4 := hide (HL4.out.past hb8)
    have HL5 := hide (HL5.out.past hb8)
    have HBd := hide (chain HBd.out hb8)
    clear hb8
    cases hs2 : skB P' N' with
    | false =>
      go_wp2_with fail
      refine regionK (fun W' => (SkL W' r1 z h l pa pn pc na nn nc P N ∧ SkL W' r2 z' h' l' pa' pn' pc' na' nn' nc' P' N' ∧ SkL W' r3 z3 h3 l3 pa3 pn3 pc3 na3 nn3 nc3 P3 N3 ∧ SkL W' r4 z4 h4 l4 pa4 pn4 pc4 na4 nn4 nc4 P4 N4 ∧ SkL W' r5 z5 h5 l5 pa5 pn5 pc5 na5 nn5 nc5 P5 N5)) 12 (by rfl) ?_
      have HL1 := hide HL1.out.drew
      have HL2 := hide HL2.out.drew
      have HL3 := hide HL3.out.drew
      have HL4 := hide HL4.out.drew
      have HL5 := hide HL5.out.drew
      have HBd := hide HBd.out.drew
      refine takeK (i := 0) (d := 49) (v := .agg #[.int .u64 z, .slice pa pn pc, .slice na nn nc, .int .i64 h, .int .u64 l]) rfl rfl (by kernel_rfl) (by kernel_rfl) (by kernel_rfl) (by decide) (by kernel_rfl) (fun _ _ _ h => h) (Or.inl ⟨by rfl, fun W hW => ?_⟩) ⟨HL1.out, HL2.out, HL3.out, HL4.out, HL5.out⟩ ?_
      · obtain ⟨x0, x1, x2, x3, x4⟩ := hW.1.cells
        go_simp
      simp only [List.setIfInBounds_toArray, List.set_cons_zero, List.set_cons_succ]
      refine takeK (i := 2) (d := 51) (v := .agg #[.int .u64 z, .slice pa pn pc, .slice na nn nc, .int .i64 h, .int .u64 l]) rfl rfl (by kernel_rfl) (by kernel_rfl) (by kernel_rfl) (by decide) (by kernel_rfl) (fun _ _ _ h => h) (Or.inl ⟨by rfl, fun W hW => ?_⟩) ⟨HL1.out, HL2.out, HL3.out, HL4.out, HL5.out⟩ ?_
      · obtain ⟨x0, x1, x2, x3, x4⟩ := hW.1.cells
        go_simp
      simp only [List.setIfInBounds_toArray, List.set_cons_zero, List.set_cons_succ]
      refine oneK (i := 1) (by kernel_rfl) rfl (fun K hK => ?_)
      go_simp
      refine (c_i_SketchRight HL1.out.sk.lp HL1.out.sk.ln (HL1.out.sk.p20) (HL1.out.sk.n20) HL1.out.sk.hP HL1.out.sk.hN HL1.out.sk.kP HL1.out.sk.kN).mono ?_
      rintro e u1 ⟨rfl, hc1⟩
      have HL1 := hide (HL1.out.past hc1)
      have HL2 := hide (HL2.out.past hc1)
      have HL3 := hide (HL3.out.past hc1)
      have HL4 := hide (HL4.out.past hc1)
      have HL5 := hide (HL5.out.past hc1)
      have HBd := hide (chain HBd.out hc1)
      clear hc1
      dsimp only
      refine hK.out _ _ (fun _ => ⟨HL1.out, HL2.out, HL3.out, HL4.out, HL5.out⟩) ?_
      clear hK K
      try simp only [Act.put, List.setIfInBounds_toArray, List.set_cons_zero, List.set_cons_succ]
      refine oneK (i := 3) (by kernel_rfl) rfl (fun K hK => ?_)
      go_simp
      refine (c_s_SketchRight HL1.out.sk.lp HL1.out.sk.ln (HL1.out.sk.p20) (HL1.out.sk.n20) HL1.out.sk.hP HL1.out.sk.hN HL1.out.sk.kP HL1.out.sk.kN).mono ?_
      rintro e u2 ⟨rfl, hc2⟩
      have HL1 := hide (HL1.out.past hc2)
      have HL2 := hide (HL2.out.past hc2)
      have HL3 := hide (HL3.out.past hc2)
      have HL4 := hide (HL4.out.past hc2)
      have HL5 := hide (HL5.out.past hc2)
      have HBd := hide (chain HBd.out hc2)
      clear hc2
      dsimp only
      refine hK.out _ _ (fun _ => ⟨HL1.out, HL2.out, HL3.out, HL4.out, HL5.out⟩) ?_
      clear hK K
      try simp only [Act.put, List.setIfInBounds_toArray, List.set_cons_zero, List.set_cons_succ]
      refine takeK (i := 4) (d := 53) (v := .bool true) rfl rfl (by kernel_rfl) (by kernel_rfl) (by kernel_rfl) (by decide) (by kernel_rfl) (fun _ _ _ h => h) (Or.inl ⟨by rfl, fun W hW => ?_⟩) ⟨HL1.out, HL2.out, HL3.out, HL4.out, HL5.out⟩ ?_
      · clear hW
        go_simp
      simp only [List.setIfInBounds_toArray, List.set_cons_zero, List.set_cons_succ]
      refine takeK (i := 5) (d := 54) (v := .bool true) rfl rfl (by kernel_rfl) (by kernel_rfl) (by kernel_rfl) (by decide) (by kernel_rfl) (fun _ _ _ h => h) (Or.inl ⟨by rfl, fun W hW => ?_⟩) ⟨HL1.out, HL2.out, HL3.out, HL4.out, HL5.out⟩ ?_
      · clear hW
        go_simp
      simp only [List.setIfInBounds_toArray, List.set_cons_zero, List.set_cons_succ]
      refine takeK (i := 6) (d := 55) (v := .agg #[.int .u64 z', .slice pa' pn' pc', .slice na' nn' nc', .int .i64 h', .int .u64 l']) rfl rfl (by kernel_rfl) (by kernel_rfl) (by kernel_rfl) (by decide) (by kernel_rfl) (fun _ _ _ h => h) (Or.inl ⟨by rfl, fun W hW => ?_⟩) ⟨HL1.out, HL2.out, HL3.out, HL4.out, HL5.out⟩ ?_
      · obtain ⟨x0, x1, x2, x3, x4⟩ := hW.2.1.cells
        go_simp
      simp only [List.setIfInBounds_toArray, List.set_cons_zero, List.set_cons_succ]
      refine takeK (i := 8) (d := 57) (v := .agg #[.int .u64 z', .slice pa' pn' pc', .slice na' nn' nc', .int .i64 h', .int .u64 l']) rfl rfl (by kernel_rfl) (by kernel_rfl) (by kernel_rfl) (by decide) (by kernel_rfl) (fun _ _ _ h => h) (Or.inl ⟨by rfl, fun W hW => ?_⟩) ⟨HL1.out, HL2.out, HL3.out, HL4.out, HL5.out⟩ ?_
      · obtain ⟨x0, x1, x2, x3, x4⟩ := hW.2.1.cells
        go_simp
      simp only [List.setIfInBounds_toArray, List.set_cons_zero, List.set_cons_succ]
      refine oneK (i := 7) (by kernel_rfl) rfl (fun K hK => ?_)
      rw [if_pos (by rfl)]
      go_simp
      refine (c_i_SketchRight HL2.out.sk.lp HL2.out.sk.ln (HL2.out.sk.p20) (HL2.out.sk.n20) HL2.out.sk.hP HL2.out.sk.hN HL2.out.sk.kP HL2.out.sk.kN).mono ?_
      rintro e u3 ⟨rfl, hc3⟩
      have HL1 := hide (HL1.out.past hc3)
      have HL2 := hide (HL2.out.past hc3)
      have HL3 := hide (HL3.out.past hc3)
      have HL4 := hide (HL4.out.past hc3)
      have HL5 := hide (HL5.out.past hc3)
      have HBd := hide (chain HBd.out hc3)
      clear hc3
      dsimp only
      refine hK.out _ _ (fun _ => ⟨HL1.out, HL2.out, HL3.out, HL4.out, HL5.out⟩) ?_
      clear hK K
      try simp only [Act.put, List.setIfInBounds_toArray, List.set_cons_zero, List.set_cons_succ]
      refine oneK (i := 9) (by kernel_rfl) rfl (fun K hK => ?_)
      rw [if_pos (by rfl)]
      go_simp
      refine (c_s_SketchRight HL2.out.sk.lp HL2.out.sk.ln (HL2.out.sk.p20) (HL2.out.sk.n20) HL2.out.sk.hP HL2.out.sk.hN HL2.out.sk.kP HL2.out.sk.kN).mono ?_
      rintro e u4 ⟨rfl, hc4⟩
      have HL1 := hide (HL1.out.past hc4)
      have HL2 := hide (HL2.out.past hc4)
      have HL3 := hide (HL3.out.past hc4)
      have HL4 := hide (HL4.out.past hc4)
      have HL5 := hide (HL5.out.past hc4)
      have HBd := hide (chain HBd.out hc4)
      clear hc4
      dsimp only
      refine hK.out _ _ (fun _ => ⟨HL1.out, HL2.out, HL3.out, HL4.out, HL5.out⟩) ?_
      clear hK K
      try simp only [Act.put, List.setIfInBounds_toArray, List.set_cons_zero, List.set_cons_succ]
      refine takeK (i := 10) (d := 59) (v := .bool true) rfl rfl (by kernel_rfl) (by kernel_rfl) (by kernel_rfl) (by decide) (by kernel_rfl) (fun _ _ _ h => h) (Or.inl ⟨by rfl, fun W hW => ?_⟩) ⟨HL1.out, HL2.out, HL3.out, HL4.out, HL5.out⟩ ?_
      · clear hW
        go_simp
      simp only [List.setIfInBounds_toArray, List.set_cons_zero, List.set_cons_succ]
      refine takeK (i := 11) (d := 60) (v := .bool true) rfl rfl (by kernel_rfl) (by kernel_rfl) (by kernel_rfl) (by decide) (by kernel_rfl) (fun _ _ _ h => h) (Or.inl ⟨by rfl, fun W hW => ?_⟩) ⟨HL1.out, HL2.out, HL3.out, HL4.out, HL5.out⟩ ?_
      · clear hW
        go_simp
      simp only [List.setIfInBounds_toArray, List.set_cons_zero, List.set_cons_succ]
      refine oneK (i := 12) (by kernel_rfl) rfl (fun K hK => ?_)
      go_simp
      refine hK.out _ _ (fun h => absurd rfl h) ?_
      clear hK K
      try simp only [Act.put, List.setIfInBounds_toArray, List.set_cons_zero, List.set_cons_succ]
      refine doneK (by kernel_rfl) ?_ _
      go_wp2
      go_ret
      exact ⟨rfl, HBd.out⟩
    | true =>
      obtain ⟨a0, a1, a2, a3, a4⟩ := HL3.out.cells
      go_wp2_with fail
      clear a0 a1 a2 a3 a4
      refine (c_s_SketchRight HL3.out.sk.lp HL3.out.sk.ln (HL3.out.sk.p20) (HL3.out.sk.n20) HL3.out.sk.hP HL3.out.sk.hN HL3.out.sk.kP HL3.out.sk.kN).mono ?_
      rintro e w9 ⟨rfl, hb9⟩
      have HL1 := hide (HL1.out.past hb9)
      have HL2 := hide (HL2.out.past hb9)
      have HL3 := hide (HL3.out.past hb9)
      have HL4 := hide (HL4.out.past hb9)
      have HL5 := hide (HL5.out.past hb9)
      have HBd := hide (chain HBd.out hb9)
      clear hb9
      cases hs3 : skB P3 N3 with
      | false =>
        go_wp2_with fail
        refine regionK (fun W' => (SkL W' r1 z h l pa pn pc na nn nc P N ∧ SkL W' r2 z' h' l' pa' pn' pc' na' nn' nc' P' N' ∧ SkL W' r3 z3 h3 l3 pa3 pn3 pc3 na3 nn3 nc3 P3 N3 ∧ SkL W' r4 z4 h4 l4 pa4 pn4 pc4 na4 nn4 nc4 P4 N4 ∧ SkL W' r5 z5 h5 l5 pa5 pn5 pc5 na5 nn5 nc5 P5 N5)) 12 (by rfl) ?_
        have HL1 := hide HL1.out.drew
        have HL2 := hide HL2.out.drew
        have HL3 := hide HL3.out.drew
        have HL4 := hide HL4.out.drew
        have HL5 := hide HL5.out.drew
        have HBd := hide HBd.out.drew
        refine takeK (i := 0) (d := 49) (v := .agg #[.int .u64 z, .slice pa pn pc, .slice na nn nc, .int .i64 h, .int .u64 l]) rfl rfl (by kernel_rfl) (by kernel_rfl) (by kernel_rfl) (by decide) (by kernel_rfl) (fun _ _ _ h => h) (Or.inl ⟨by rfl, fun W hW => ?_⟩) ⟨HL1.out, HL2.out, HL3.out, HL4.out, HL5.out⟩ ?_
        · obtain ⟨x0, x1, x2, x3, x4⟩ := hW.1.cells
          go_simp
        simp only [List.setIfInBounds_toArray, List.set_cons_zero, List.set_cons_succ]
        refine takeK (i := 2) (d := 51) (v := .agg #[.int .u64 z, .slice pa pn pc, .slice na nn nc, .int .i64 h, .int .u64 l]) rfl rfl (by kernel_rfl) (by kernel_rfl) (by kernel_rfl) (by decide) (by kernel_rfl) (fun _ _ _ h => h) (Or.inl ⟨by rfl, fun W hW => ?_⟩) ⟨HL1.out, HL2.out, HL3.out, HL4.out, HL5.out⟩ ?_
        · obtain ⟨x0, x1, x2, x3, x4⟩ := hW.1.cells
          go_simp
        simp only [List.setIfInBounds_toArray, List.set_cons_zero, List.set_cons_succ]
        refine oneK (i := 1) (by kernel_rfl) rfl (fun K hK => ?_)
        go_simp
        refine (c_i_SketchRight HL1.out.sk.lp HL1.out.sk.ln (HL1.out.sk.p20) (HL1.out.sk.n20) HL1.out.sk.hP HL1.out.sk.hN HL1.out.sk.kP HL1.out.sk.kN).mono ?_
        rintro e u1 ⟨rfl, hc1⟩
        have HL1 := hide (HL1.out.past hc1)
        have HL2 := hide (HL2.out.past hc1)
        have HL3 := hide (HL3.out.past hc1)
        have HL4 := hide (HL4.out.past hc1)
        have HL5 := hide (HL5.out.past hc1)
        have HBd := hide (chain HBd.out hc1)
        clear hc1
        dsimp only
        refine hK.out _ _ (fun _ => ⟨HL1.out, HL2.out, HL3.out, HL4.out, HL5.out⟩) ?_
        clear hK K
        try simp only [Act.put, List.setIfInBounds_toArray, List.set_cons_zero, List.set_cons_succ]
        refine oneK (i := 3) (by kernel_rfl) rfl (fun K hK => ?_)
        go_simp
        refine (c_s_SketchRight HL1.out.sk.lp HL1.out.sk.ln (HL1.out.sk.p20) (HL1.out.sk.n20) HL1.out.sk.hP HL1.out.sk.hN HL1.out.sk.kP HL1.out.sk.kN).mono ?_
        rintro e u2 ⟨rfl, hc2⟩
        have HL1 := hide (HL1.out.past hc2)
        have HL2 := hide (HL2.out.past hc2)
        have HL3 := hide (HL3.out.past hc2)
        have HL4 := hide (HL4.out.past hc2)
        have HL5 := hide (HL5.out.past hc2)
        have HBd := hide (chain HBd.out hc2)
        clear hc2
        dsimp only
        refine hK.out _ _ (fun _ => ⟨HL1.out, HL2.out, HL3.out, HL4.out, HL5.out⟩) ?_
        clear hK K
        try simp only [Act.put, List.setIfInBounds_toArray, List.set_cons_zero, List.set_cons_succ]
        refine takeK (i := 4) (d := 53) (v := .bool true) rfl rfl (by kernel_rfl) (by kernel_rfl) (by kernel_rfl) (by decide) (by kernel_rfl) (fun _ _ _ h => h) (Or.inl ⟨by rfl, fun W hW => ?_⟩) ⟨HL1.out, HL2.out, HL3.out, HL4.out, HL5.out⟩ ?_
        · clear hW
          go_simp
        simp only [List.setIfInBounds_toArray, List.set_cons_zero, List.set_cons_succ]
        refine takeK (i := 5) (d := 54) (v := .bool true) rfl rfl (by kernel_rfl) (by kernel_rfl) (by kernel_rfl) (by decide) (by kernel_rfl) (fun _ _ _ h => h) (Or.inl ⟨by rfl, fun W hW => ?_⟩) ⟨HL1.out, HL2.out, HL3.out, HL4.out, HL5.out⟩ ?_
        · clear hW
          go_simp
        simp only [List.setIfInBounds_toArray, List.set_cons_zero, List.set_cons_succ]
        refine takeK (i := 6) (d := 55) (v := .agg #[.int .u64 z', .slice pa' pn' pc', .slice na' nn' nc', .int .i64 h', .int .u64 l']) rfl rfl (by kernel_rfl) (by kernel_rfl) (by kernel_rfl) (by decide) (by kernel_rfl) (fun _ _ _ h => h) (Or.inl ⟨by rfl, fun W hW => ?_⟩) ⟨HL1.out, HL2.out, HL3.out, HL4.out, HL5.out⟩ ?_
        · obtain ⟨x0, x1, x2, x3, x4⟩ := hW.2.1.cells
          go_simp
        simp only [List.setIfInBounds_toArray, List.set_cons_zero, List.set_cons_succ]
        refine takeK (i := 8) (d := 57) (v := .agg #[.int .u64 z', .slice pa' pn' pc', .slice na' nn' nc', .int .i64 h', .int .u64 l']) rfl rfl (by kernel_rfl) (by kernel_rfl) (by kernel_rfl) (by decide) (by kernel_rfl) (fun _ _ _ h => h) (Or.inl ⟨by rfl, fun W hW => ?_⟩) ⟨HL1.out, HL2.out, HL3.out, HL4.out, HL5.out⟩ ?_
        · obtain ⟨x0, x1, x2, x3, x4⟩ := hW.2.1.cells
          go_simp
        simp only [List.setIfInBounds_toArray, List.set_cons_zero, List.set_cons_succ]
        refine oneK (i := 7) (by kernel_rfl) rfl (fun K hK => ?_)
        rw [if_pos (by rfl)]
        go_simp
        refine (c_i_SketchRight HL2.out.sk.lp HL2.out.sk.ln (HL2.out.sk.p20) (HL2.out.sk.n20) HL2.out.sk.hP HL2.out.sk.hN HL2.out.sk.kP HL2.out.sk.kN).mono ?_
        rintro e u3 ⟨rfl, hc3⟩
        have HL1 := hide (HL1.out.past hc3)
        have HL2 := hide (HL2.out.past hc3)
        have HL3 := hide (HL3.out.past hc3)
        have HL4 := hide (HL4.out.past hc3)
        have HL5 := hide (HL5.out.past hc3)
        have HBd := hide (chain HBd.out hc3)
        clear hc3
        dsimp only
        refine hK.out _ _ (fun _ => ⟨HL1.out, HL2.out, HL3.out, HL4.out, HL5.out⟩) ?_
        clear hK K
        try simp only [Act.put, List.setIfInBounds_toArray, List.set_cons_zero, List.set_cons_succ]
        refine oneK (i := 9) (by kernel_rfl) rfl (fun K hK => ?_)
        rw [if_pos (by rfl)]
        go_simp
        refine (c_s_SketchRight HL2.out.sk.lp HL2.out.sk.ln (HL2.out.sk.p20) (HL2.out.sk.n20) HL2.out.sk.hP HL2.out.sk.hN HL2.out.sk.kP HL2.out.sk.kN).mono ?_
        rintro e u4 ⟨rfl, hc4⟩
        have HL1 := hide (HL1.out.past hc4)
        have HL2 := hide (HL2.out.past hc4)
        have HL3 := hide (HL3.out.past hc4)
        have HL4 := hide (HL4.out.past hc4)
        have HL5 := hide (HL5.out.past hc4)
        have HBd := hide (chain HBd.out hc4)
        clear hc4
        dsimp only
        refine hK.out _ _ (fun _ => ⟨HL1.out, HL2.out, HL3.out, HL4.out, HL5.out⟩) ?_
        clear hK K
        try simp only [Act.put, List.setIfInBounds_toArray, List.set_cons_zero, List.set_cons_succ]
        refine takeK (i := 10) (d := 59) (v := .bool true) rfl rfl (by kernel_rfl) (by kernel_rfl) (by kernel_rfl) (by decide) (by kernel_rfl) (fun _ _ _ h => h) (Or.inl ⟨by rfl, fun W hW => ?_⟩) ⟨HL1.out, HL2.out, HL3.out, HL4.out, HL5.out⟩ ?_
        · clear hW
          go_simp
        simp only [List.setIfInBounds_toArray, List.set_cons_zero, List.set_cons_succ]
        refine takeK (i := 11) (d := 60) (v := .bool true) rfl rfl (by kernel_rfl) (by kernel_rfl) (by kernel_rfl) (by decide) (by kernel_rfl) (fun _ _ _ h => h) (Or.inl ⟨by rfl, fun W hW => ?_⟩) ⟨HL1.out, HL2.out, HL3.out, HL4.out, HL5.out⟩ ?_
        · clear hW
          go_simp
        simp only [List.setIfInBounds_toArray, List.set_cons_zero, List.set_cons_succ]
        refine oneK (i := 12) (by kernel_rfl) rfl (fun K hK => ?_)
        go_simp
        refine hK.out _ _ (fun h => absurd rfl h) ?_
        clear hK K
        try simp only [Act.put, List.setIfInBounds_toArray, List.set_cons_zero, List.set_cons_succ]
        refine doneK (by kernel_rfl) ?_ _
        go_wp2
        go_ret
        exact ⟨rfl, HBd.out⟩
      | true =>
        go_wp2_with fail
        refine regionK (fun W' => (SkL W' r1 z h l pa pn pc na nn nc P N ∧ SkL W' r2 z' h' l' pa' pn' pc' na' nn' nc' P' N' ∧ SkL W' r3 z3 h3 l3 pa3 pn3 pc3 na3 nn3 nc3 P3 N3 ∧ SkL W' r4 z4 h4 l4 pa4 pn4 pc4 na4 nn4 nc4 P4 N4 ∧ SkL W' r5 z5 h5 l5 pa5 pn5 pc5 na5 nn5 nc5 P5 N5)) 17 (by rfl) ?_
        have HL1 := hide HL1.out.drew
        have HL2 := hide HL2.out.drew
        have HL3 := hide HL3.out.drew
        have HL4 := hide HL4.out.drew
        have HL5 := hide HL5.out.drew
        have HBd := hide HBd.out.drew
        refine takeK (i := 0) (d := 61) (v := .agg #[.int .u64 z4, .slice pa4 pn4 pc4, .slice na4 nn4 nc4, .int .i64 h4, .int .u64 l4]) rfl rfl (by kernel_rfl) (by kernel_rfl) (by kernel_rfl) (by decide) (by kernel_rfl) (fun _ _ _ h => h) (Or.inl ⟨by rfl, fun W hW => ?_⟩) ⟨HL1.out, HL2.out, HL3.out, HL4.out, HL5.out⟩ ?_
        · obtain ⟨x0, x1, x2, x3, x4⟩ := hW.2.2.2.1.cells
          go_simp
        simp only [List.setIfInBounds_toArray, List.set_cons_zero, List.set_cons_succ]
        refine takeK (i := 1) (d := 62) (v := .agg #[.int .u64 z3, .slice pa3 pn3 pc3, .slice na3 nn3 nc3, .int .i64 h3, .int .u64 l3]) rfl rfl (by kernel_rfl) (by kernel_rfl) (by kernel_rfl) (by decide) (by kernel_rfl) (fun _ _ _ h => h) (Or.inl ⟨by rfl, fun W hW => ?_⟩) ⟨HL1.out, HL2.out, HL3.out, HL4.out, HL5.out⟩ ?_
        · obtain ⟨x0, x1, x2, x3, x4⟩ := hW.2.2.1.cells
          go_simp
        simp only [List.setIfInBounds_toArray, List.set_cons_zero, List.set_cons_succ]
        refine takeK (i := 3) (d := 64) (v := .agg #[.int .u64 z, .slice pa pn pc, .slice na nn nc, .int .i64 h, .int .u64 l]) rfl rfl (by kernel_rfl) (by kernel_rfl) (by kernel_rfl) (by decide) (by kernel_rfl) (fun _ _ _ h => h) (Or.inl ⟨by rfl, fun W hW => ?_⟩) ⟨HL1.out, HL2.out, HL3.out, HL4.out, HL5.out⟩ ?_
        · obtain ⟨x0, x1, x2, x3, x4⟩ := hW.1.cells
          go_simp
        simp only [List.setIfInBounds_toArray, List.set_cons_zero, List.set_cons_succ]
        refine takeK (i := 4) (d := 65) (v := .agg #[.int .u64 z5, .slice pa5 pn5 pc5, .slice na5 nn5 nc5, .int .i64 h5, .int .u64 l5]) rfl rfl (by kernel_rfl) (by kernel_rfl) (by kernel_rfl) (by decide) (by kernel_rfl) (fun _ _ _ h => h) (Or.inl ⟨by rfl, fun W hW => ?_⟩) ⟨HL1.out, HL2.out, HL3.out, HL4.out, HL5.out⟩ ?_
        · obtain ⟨x0, x1, x2, x3, x4⟩ := hW.2.2.2.2.cells
          go_simp
        simp only [List.setIfInBounds_toArray, List.set_cons_zero, List.set_cons_succ]
        refine oneK (i := 2) (by kernel_rfl) rfl (fun K hK => ?_)
        go_simp
        refine (c_i_SketchMerge HL4.out.sk.hz HL4.out.sk.hl HL3.out.sk.hz HL3.out.sk.hl HL4.out.sk.lp HL4.out.sk.ln HL3.out.sk.lp HL3.out.sk.ln HL4.out.sk.p20 HL4.out.sk.n20 HL3.out.sk.p20 HL3.out.sk.n20 HL4.out.sk.hP HL4.out.sk.hN HL3.out.sk.hP HL3.out.sk.hN HL4.out.sk.kP HL4.out.sk.kN HL3.out.sk.kP HL3.out.sk.kN).mono ?_
        rintro e u1 ⟨v1, rfl, hc1, hq1⟩
        obtain ⟨z6, h6, l6, pa6, pn6, pc6, na6, nn6, nc6, P6, N6, rfl, I6, M6⟩ := mrg_sk HL4.out.sk HL3.out.sk hq1
        have HL1 := hide (HL1.out.past hc1)
        have HL2 := hide (HL2.out.past hc1)
        have HL3 := hide (HL3.out.past hc1)
        have HL4 := hide (HL4.out.past hc1)
        have HL5 := hide (HL5.out.past hc1)
        have HBd := hide (chain HBd.out hc1)
        have HI6 := hide I6
        have HM6 := hide M6
        clear hc1 hq1 I6 M6
        dsimp only
        refine hK.out _ _ (fun _ => ⟨HL1.out, HL2.out, HL3.out, HL4.out, HL5.out⟩) ?_
        clear hK K
        try simp only [Act.put, List.setIfInBounds_toArray, List.set_cons_zero, List.set_cons_succ]
        refine oneK (i := 5) (by kernel_rfl) rfl (fun K hK => ?_)
        go_simp
        refine (c_i_SketchMerge HL1.out.sk.hz HL1.out.sk.hl HL5.out.sk.hz HL5.out.sk.hl HL1.out.sk.lp HL1.out.sk.ln HL5.out.sk.lp HL5.out.sk.ln HL1.out.sk.p20 HL1.out.sk.n20 HL5.out.sk.p20 HL5.out.sk.n20 HL1.out.sk.hP HL1.out.sk.hN HL5.out.sk.hP HL5.out.sk.hN HL1.out.sk.kP HL1.out.sk.kN HL5.out.sk.kP HL5.out.sk.kN).mono ?_
        rintro e u2 ⟨v2, rfl, hc2, hq2⟩
        obtain ⟨z7, h7, l7, pa7, pn7, pc7, na7, nn7, nc7, P7, N7, rfl, I7, M7⟩ := mrg_sk HL1.out.sk HL5.out.sk hq2
        have HL1 := hide (HL1.out.past hc2)
        have HL2 := hide (HL2.out.past hc2)
        have HL3 := hide (HL3.out.past hc2)
        have HL4 := hide (HL4.out.past hc2)
        have HL5 := hide (HL5.out.past hc2)
        have HBd := hide (chain HBd.out hc2)
        have HI6 := hide (HI6.out.past hc2)
        have HI7 := hide I7
        have HM7 := hide M7
        clear hc2 hq2 I7 M7
        dsimp only
        refine hK.out _ _ (fun _ => ⟨HL1.out, HL2.out, HL3.out, HL4.out, HL5.out⟩) ?_
        clear hK K
        try simp only [Act.put, List.setIfInBounds_toArray, List.set_cons_zero, List.set_cons_succ]
        obtain ⟨same, wsame⟩ := three_same HL1.out.sk.hz HL2.out.sk.hz HL3.out.sk.hz HL1.out.sk.hl HL2.out.sk.hl HL3.out.sk.hl HL1.out.sk.kP HL1.out.sk.kN HL2.out.sk.kP HL2.out.sk.kN HL3.out.sk.kP HL3.out.sk.kN hs1 hs2 hs3 (HM4.out.1 ⟨hs1, hs2⟩) (HM5.out.1 ⟨hs2, hs3⟩) HM6.out.1 HM7.out.1
        have HSame := hide same
        have HWs := hide wsame
        clear same wsame
        refine oneK (i := 6) (by kernel_rfl) rfl (fun K hK => ?_)
        go_simp
        refine (c_s_SketchSame HI6.out.lp HI6.out.ln HI7.out.lp HI7.out.ln HI6.out.p20 HI6.out.n20 HI7.out.p20 HI7.out.n20 HI6.out.hP HI6.out.hN HI7.out.hP HI7.out.hN).mono ?_
        rintro e u3 ⟨rfl, hc3⟩
        rw [HSame.out]
        have HL1 := hide (HL1.out.past hc3)
        have HL2 := hide (HL2.out.past hc3)
        have HL3 := hide (HL3.out.past hc3)
        have HL4 := hide (HL4.out.past hc3)
        have HL5 := hide (HL5.out.past hc3)
        have HBd := hide (chain HBd.out hc3)
        clear hc3
        dsimp only
        refine hK.out _ _ (fun _ => ⟨HL1.out, HL2.out, HL3.out, HL4.out, HL5.out⟩) ?_
        clear hK K
        try simp only [Act.put, List.setIfInBounds_toArray, List.set_cons_zero, List.set_cons_succ]
        refine takeK (i := 7) (d := 68) (v := .bool true) rfl rfl (by kernel_rfl) (by kernel_rfl) (by kernel_rfl) (by decide) (by kernel_rfl) (fun _ _ _ h => h) (Or.inl ⟨by rfl, fun W hW => ?_⟩) ⟨HL1.out, HL2.out, HL3.out, HL4.out, HL5.out⟩ ?_
        · clear hW
          go_simp
        simp only [List.setIfInBounds_toArray, List.set_cons_zero, List.set_cons_succ]
        refine takeK (i := 8) (d := 69) (v := .agg #[.int .u64 z4, .slice pa4 pn4 pc4, .slice na4 nn4 nc4, .int .i64 h4, .int .u64 l4]) rfl rfl (by kernel_rfl) (by kernel_rfl) (by kernel_rfl) (by decide) (by kernel_rfl) (fun _ _ _ h => h) (Or.inl ⟨by rfl, fun W hW => ?_⟩) ⟨HL1.out, HL2.out, HL3.out, HL4.out, HL5.out⟩ ?_
        · obtain ⟨x0, x1, x2, x3, x4⟩ := hW.2.2.2.1.cells
          go_simp
        simp only [List.setIfInBounds_toArray, List.set_cons_zero, List.set_cons_succ]
        refine takeK (i := 10) (d := 71) (v := .agg #[.int .u64 z, .slice pa pn pc, .slice na nn nc, .int .i64 h, .int .u64 l]) rfl rfl (by kernel_rfl) (by kernel_rfl) (by kernel_rfl) (by decide) (by kernel_rfl) (fun _ _ _ h => h) (Or.inl ⟨by rfl, fun W hW => ?_⟩) ⟨HL1.out, HL2.out, HL3.out, HL4.out, HL5.out⟩ ?_
        · obtain ⟨x0, x1, x2, x3, x4⟩ := hW.1.cells
          go_simp
        simp only [List.setIfInBounds_toArray, List.set_cons_zero, List.set_cons_succ]
        refine takeK (i := 12) (d := 73) (v := .agg #[.int .u64 z', .slice pa' pn' pc', .slice na' nn' nc', .int .i64 h', .int .u64 l']) rfl rfl (by kernel_rfl) (by kernel_rfl) (by kernel_rfl) (by decide) (by kernel_rfl) (fun _ _ _ h => h) (Or.inl ⟨by rfl, fun W hW => ?_⟩) ⟨HL1.out, HL2.out, HL3.out, HL4.out, HL5.out⟩ ?_
        · obtain ⟨x0, x1, x2, x3, x4⟩ := hW.2.1.cells
          go_simp
        simp only [List.setIfInBounds_toArray, List.set_cons_zero, List.set_cons_succ]
        refine oneK (i := 9) (by kernel_rfl) rfl (fun K hK => ?_)
        rw [if_pos (by rfl)]
        go_simp
        refine (c_i_SketchWeight HL4.out.sk.hz HL4.out.sk.lp HL4.out.sk.ln (HL4.out.sk.p20) (HL4.out.sk.n20) HL4.out.sk.hP HL4.out.sk.hN HL4.out.sk.kP HL4.out.sk.kN).mono ?_
        rintro e u4 ⟨rfl, hc4⟩
        have HL1 := hide (HL1.out.past hc4)
        have HL2 := hide (HL2.out.past hc4)
        have HL3 := hide (HL3.out.past hc4)
        have HL4 := hide (HL4.out.past hc4)
        have HL5 := hide (HL5.out.past hc4)
        have HBd := hide (chain HBd.out hc4)
        clear hc4
        rw [HWs.out]
        dsimp only
        refine hK.out _ _ (fun _ => ⟨HL1.out, HL2.out, HL3.out, HL4.out, HL5.out⟩) ?_
        clear hK K
        try simp only [Act.put, List.setIfInBounds_toArray, List.set_cons_zero, List.set_cons_succ]
        refine oneK (i := 11) (by kernel_rfl) rfl (fun K hK => ?_)
        rw [if_pos (by rfl)]
        go_simp
        refine (c_i_SketchWeight HL1.out.sk.hz HL1.out.sk.lp HL1.out.sk.ln (HL1.out.sk.p20) (HL1.out.sk.n20) HL1.out.sk.hP HL1.out.sk.hN HL1.out.sk.kP HL1.out.sk.kN).mono ?_
        rintro e u5 ⟨rfl, hc5⟩
        have HL1 := hide (HL1.out.past hc5)
        have HL2 := hide (HL2.out.past hc5)
        have HL3 := hide (HL3.out.past hc5)
        have HL4 := hide (HL4.out.past hc5)
        have HL5 := hide (HL5.out.past hc5)
        have HBd := hide (chain HBd.out hc5)
        clear hc5
        dsimp only
        refine hK.out _ _ (fun _ => ⟨HL1.out, HL2.out, HL3.out, HL4.out, HL5.out⟩) ?_
        clear hK K
        try simp only [Act.put, List.setIfInBounds_toArray, List.set_cons_zero, List.set_cons_succ]
        refine oneK (i := 13) (by kernel_rfl) rfl (fun K hK => ?_)
        rw [if_pos (by rfl)]
        go_simp
        refine (c_i_SketchWeight HL2.out.sk.hz HL2.out.sk.lp HL2.out.sk.ln (HL2.out.sk.p20) (HL2.out.sk.n20) HL2.out.sk.hP HL2.out.sk.hN HL2.out.sk.kP HL2.out.sk.kN).mono ?_
        rintro e u6 ⟨rfl, hc6⟩
        have HL1 := hide (HL1.out.past hc6)
        have HL2 := hide (HL2.out.past hc6)
        have HL3 := hide (HL3.out.past hc6)
        have HL4 := hide (HL4.out.past hc6)
        have HL5 := hide (HL5.out.past hc6)
        have HBd := hide (chain HBd.out hc6)
        clear hc6
        dsimp only
        refine hK.out _ _ (fun _ => ⟨HL1.out, HL2.out, HL3.out, HL4.out, HL5.out⟩) ?_
        clear hK K
        try simp only [Act.put, List.setIfInBounds_toArray, List.set_cons_zero, List.set_cons_succ]
        refine oneK (i := 14) (by kernel_rfl) rfl (fun K hK => ?_)
        rw [if_pos (by rfl)]
        go_simp
        refine (c_i_WeightAdd _ _ (skW_inU HL1.out.sk.hz HL1.out.sk.kP HL1.out.sk.kN) (skW_inU HL2.out.sk.hz HL2.out.sk.kP HL2.out.sk.kN) _).mono ?_
        rintro e u7 ⟨rfl, hw7⟩
        subst hw7
        dsimp only
        refine hK.out _ _ (fun _ => ⟨HL1.out, HL2.out, HL3.out, HL4.out, HL5.out⟩) ?_
        clear hK K
        try simp only [Act.put, List.setIfInBounds_toArray, List.set_cons_zero, List.set_cons_succ]
        refine takeK (i := 15) (d := 76) (v := .bool true) rfl rfl (by kernel_rfl) (by kernel_rfl) (by kernel_rfl) (by decide) (by kernel_rfl) (fun _ _ _ h => h) (Or.inl ⟨by rfl, fun W hW => ?_⟩) ⟨HL1.out, HL2.out, HL3.out, HL4.out, HL5.out⟩ ?_
        · clear hW
          go_simp
        simp only [List.setIfInBounds_toArray, List.set_cons_zero, List.set_cons_succ]
        refine takeK (i := 16) (d := 77) (v := .bool true) rfl rfl (by kernel_rfl) (by kernel_rfl) (by kernel_rfl) (by decide) (by kernel_rfl) (fun _ _ _ h => h) (Or.inl ⟨by rfl, fun W hW => ?_⟩) ⟨HL1.out, HL2.out, HL3.out, HL4.out, HL5.out⟩ ?_
        · clear hW
          go_simp
        simp only [List.setIfInBounds_toArray, List.set_cons_zero, List.set_cons_succ]
        refine oneK (i := 17) (by kernel_rfl) rfl (fun K hK => ?_)
        go_simp
        refine hK.out _ _ (fun h => absurd rfl h) ?_
        clear hK K
        try simp only [Act.put, List.setIfInBounds_toArray, List.set_cons_zero, List.set_cons_succ]
        refine doneK (by kernel_rfl) ?_ _
        go_wp2
        go_ret
        exact ⟨rfl, HBd.out⟩
theorem own : ownKnob Try.prog.godebug = none := by kernel_rfl
theorem laidOut : laidOutB Try.prog = true := by kernel_rfl

set_option maxRecDepth 100000 in
theorem liftedThree (os : Os) (started : os.Started) (H : Type) (enc : TypeId × Value → H) :
    ReturnsInHanded {} Try.checked os 4 .any (Rows.fnThreeSpec.pre6 enc Try.prog Try.f4 Rows.fnThreeRow.domain false) (Rows.fnThreeSpec.post enc Try.prog Try.f4 false true false false) := by
  refine returnsInHanded_of_change (C := Try.checked) own started (by kernel_rfl) Try.func4
    (ChangeSpec.witness6 (enc := enc) (C := Try.checked) false ⟨#[], #[.slice none 0 0, .slice none 0 0], []⟩ 8 (by kernel_rfl) (by kernel_rfl) (by kernel_rfl) (by kernel_rfl)) ?_
  intro W base args ds gs before hval0 hW hcnd _
  have hval : ∀ (j : Nat) t v, Try.f4.params[j]? = some t → args[j]? = some v → Value.okWide Try.prog W .any base t v := hval0
  have hW' := hW
  obtain ⟨p, q, hA0, hV, rfl, hfz, hnd⟩ := hW
  have hA : DataW.TrodAll enc Try.prog W 0 (fun _ => true) true Try.f4.params.toList args.toList ds p := hA0
  rw [Try.params4] at hA hval
  obtain ⟨v0, vs0, d0, ds0, p0, q0, hargs, rfl, rfl, h0, r0⟩ := trodAll_cons hA
  obtain ⟨v1, vs1, d1, ds1, p1, q1, rfl, rfl, rfl, h1, r1⟩ := trodAll_cons r0
  obtain ⟨rfl, rfl, rfl⟩ := trodAll_nil r1
  obtain rfl : args = #[v0, v1] := by cases args; simp_all
  obtain ⟨rfl, rfl⟩ := trodVars_none hV
  have k0 := h0
  have lt0 : ∀ x ∈ p0, x.block < W.heap.size := by obtain ⟨m, hm⟩ := k0; exact DataW.trod_lt m _ _ _ hm
  obtain ⟨a0, n0, c0, rfl, m0, s0⟩ := open_code (hval 0 22 v0 rfl rfl) h0
  have k1 := h1
  have lt1 : ∀ x ∈ p1, x.block < W.heap.size := by obtain ⟨m, hm⟩ := k1; exact DataW.trod_lt m _ _ _ hm
  obtain ⟨a1, n1, c1, rfl, m1, s1⟩ := open_code (hval 1 22 v1 rfl rfl) h1
  clear hA0 hval0
  refine (walkThree a0 n0 c0 a1 n1 c1 W m0 s0 m1 s1).mono fun e W' ⟨he, bel⟩ => ?_
  subst he
  exact ⟨_, rfl, _, _, _, [], _, [], hW', trodAll_mk1 (shut_bool Try.underlying4 _), (trodAll_cons_mk (Below.trod laidOut (by kernel_rfl) (of_decide_eq_true (by kernel_rfl)) k0 bel lt0) (trodAll_cons_mk (Below.trod laidOut (by kernel_rfl) (of_decide_eq_true (by kernel_rfl)) k1 bel lt1) trodAll_mk0)), rfl, bel.frame _, fun h => by cases h⟩

theorem overThree : Rows.fnThreeRow.holds Try.pinned (OpenSpec.ofChange Rows.fnThreeSpec) :=
  OpenClaim.holds_of_wide 4 Try.f4 rfl rfl rfl rfl rfl rfl rfl ⟨rfl, rfl, rfl, rfl, rfl⟩ rfl rfl rfl rfl rfl (by kernel_rfl) Try.func4 (by kernel_rfl)
    (of_decide_eq_true (by kernel_rfl)) (by unfold Func.isWrapper; first | (rw [if_pos (by decide +kernel)]; kernel_rfl) | (rw [if_neg (by decide +kernel)]; exact ⟨rfl, rfl⟩))
    (fun os started H enc _ => liftedThree os started H enc)

theorem fnThree_holds : Rows.FnThreeSaid := overThree
#print axioms fnThree_holds

end Go.Proofs.Ytimocbbaplghoaa
