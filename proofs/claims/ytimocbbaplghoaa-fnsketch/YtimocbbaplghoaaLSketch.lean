/-
  FnSketch: values are put in any order, and ahead of bringing together or behind; either way round; they stay right.
-/
import Derived.Test.YtimocbbaplghoaaPutQ
import Derived.Test.YtimocbbaplghoaaOpenC
namespace Go.Proofs.Ytimocbbaplghoaa
set_option linter.unusedVariables false
set_option linter.unusedSimpArgs false
open Go.ChangeShapes Go.WideShapes Go.ChangeAt Go.RowKit Go.PlainAid Go.Lib
set_option maxRecDepth 10000

theorem sk_outO {w : World} {B : Nat} {v : Value} {z h l : Int} {P N : List Bn} (ho : SkOut w B v z P N h l) (hz : U64 z) (hl : U64 l) (kP : ∀ x ∈ P, BnOk x) (kN : ∀ x ∈ N, BnOk x) (lP : P.length ≤ 60) (lN : N.length ≤ 60) :
    ∃ pa pn pc na nn nc, v = .agg #[.int .u64 z, .slice pa pn pc, .slice na nn nc, .int .i64 h, .int .u64 l] ∧ SkI w z h l pa pn pc na nn nc P N ∧ OwnB w B (.slice pa pn pc) pn P ∧ OwnB w B (.slice na nn nc) nn N := by
  obtain ⟨p, n, a, b, rfl, o1, o2, _⟩ := ho
  obtain ⟨pa, pc, rfl⟩ := o1.any
  obtain ⟨na, nc, rfl⟩ := o2.any
  exact ⟨pa, a, pc, na, b, nc, rfl, ⟨o1.1.symm, o2.1.symm, o1.at, o2.at, kP, kN, hz, hl, o1.nil0, o2.nil0, by rw [o1.1]; exact lP, by rw [o2.1]; exact lN⟩, o1, o2⟩
theorem mrg_skO {w w1 w2 : World} {B : Nat} {v : Value} {z h l z' h' l' : Int} {pa na pb nb : Option Addr} {pn pc nn nc pm pd nm nd : Nat} {P N P' N' : List Bn} (k : SkI w1 z h l pa pn pc na nn nc P N) (k' : SkI w2 z' h' l' pb pm pd nb nm nd P' N')
    (hq : (mrgOk P N P' N' ∧ SkOut w B v (wAdd z z') (gatL P P') (gatL N N') (addH h l h' l') (addL l l')) ∨ (¬ mrgOk P N P' N' ∧ SkOut w B v 0 [] [] 0 0)) :
    ∃ z4 h4 l4 pa4 pn4 pc4 na4 nn4 nc4 P4 N4, v = .agg #[.int .u64 z4, .slice pa4 pn4 pc4, .slice na4 nn4 nc4, .int .i64 h4, .int .u64 l4] ∧ SkI w z4 h4 l4 pa4 pn4 pc4 na4 nn4 nc4 P4 N4 ∧ MrgIs ⟨z, P, N, h, l⟩ ⟨z', P', N', h', l'⟩ ⟨z4, P4, N4, h4, l4⟩ ∧ OwnB w B (.slice pa4 pn4 pc4) pn4 P4 ∧ OwnB w B (.slice na4 nn4 nc4) nn4 N4 := by
  rcases hq with ⟨ok, ho⟩ | ⟨ok, ho⟩
  · have r1 := sk_rise ok.1
    have r2 := sk_rise ok.2
    rw [gat_mrg r1.1.1 r2.1.1, gat_mrg r1.2.1 r2.2.1] at ho
    have g1 := bins_mrg (skB_and.1 ok.1).1 (skB_and.1 ok.2).1 k.kP k'.kP
    have g2 := bins_mrg (skB_and.1 ok.1).2 (skB_and.1 ok.2).2 k.kN k'.kN
    obtain ⟨pa4, pn4, pc4, na4, nn4, nc4, e, I, o1, o2⟩ := sk_outO ho (wAdd_ok k.hz k'.hz) (uw_in _) g1.2 g2.2 (Nat.le_trans (keep_len30 _) (by omega)) (Nat.le_trans (keep_len30 _) (by omega))
    exact ⟨_, _, _, pa4, pn4, pc4, na4, nn4, nc4, _, _, e, I, ⟨fun _ => rfl, fun h => absurd ok h⟩, o1, o2⟩
  · obtain ⟨pa4, pn4, pc4, na4, nn4, nc4, e, I, o1, o2⟩ := sk_outO ho (by unfold U64; omega) (by unfold U64; omega) (fun x hx => by simp at hx) (fun x hx => by simp at hx) (by simp) (by simp)
    exact ⟨_, _, _, pa4, pn4, pc4, na4, nn4, nc4, _, _, e, I, ⟨fun h => absurd h ok, fun _ => rfl⟩, o1, o2⟩
theorem SkI.store {w : World} {B r : Nat} {z h l : Int} {pa na : Option Addr} {pn pc nn nc : Nat} {P N : List Bn} (k : SkI w z h l pa pn pc na nn nc P N) (o1 : OwnB w B (.slice pa pn pc) pn P) (o2 : OwnB w B (.slice na nn nc) nn N) (hr : w.heap[r]? = some (.cells zeroSk 28 (0, 0))) :
    SkL (sk5 w r z (.slice pa pn pc) (.slice na nn nc) h l) r z h l pa pn pc na nn nc P N :=
  ⟨row5 hr, ⟨k.lp, k.ln, (own5 o1 hr).at, (own5 o2 hr).at, k.kP, k.kN, k.hz, k.hl, k.cA, k.cA', k.lP, k.lN⟩⟩

set_option maxHeartbeats 4000000 in
theorem walkSketch (ao : Option Addr) (ln cap : Nat) (bo : Option Addr) (lm cbp : Nat) (w : World) (hl : ln ≤ maxLen) (ha : ln ≤ 1048576 → CodeAt w w.heap.size ao ln) (hm : lm ≤ maxLen) (hb : lm ≤ 1048576 → CodeAt w w.heap.size bo lm) :
    Calls Try.prog 3 #[.slice ao ln cap, .slice bo lm cbp] w fun e w' => e = .returned (.bool true) ∧ Below w.heap.size w w' := by
  have hlz : ln ≤ 9223372036854775807 := hl
  have hmz : lm ≤ 9223372036854775807 := hm
  by_cases hl1 : 1048576 < ln
  · have hl1i : (1048576 : Int) < (ln : Int) := by omega
    clear ha hb
    go_enter Try.func3, Try.ntmps3
    go_wp2
    go_ret
    exact ⟨rfl, Below.refl _ _⟩
  have hl1i : ¬ (1048576 : Int) < (ln : Int) := by omega
  by_cases hm1 : 1048576 < lm
  · have hm1i : (1048576 : Int) < (lm : Int) := by omega
    clear ha hb
    go_enter Try.func3, Try.ntmps3
    go_wp2
    go_ret
    exact ⟨rfl, Below.refl _ _⟩
  have hm1i : ¬ (1048576 : Int) < (lm : Int) := by omega
  have HA := hide (ha (by omega))
  have HB := hide (hb (by omega))
  clear ha hb
  have HBd := hide (Below.refl w.heap.size w)
  go_enter Try.func3, Try.ntmps3
  go_wp2_with fail
  refine (c_DrawSketchPut HA.out).mono ?_
  rintro e w1 ⟨z1, h1, l1, pa1, pn1, pc1, na1, nn1, nc1, P1, N1, v1, x1, rfl, hv1, hu1, I1, hb1⟩
  have HI1 := hide I1
  clear I1
  replace HBd := hide (chain HBd.out hb1)
  clear hb1
  have hal : Below w1.heap.size w1 (w1.alloc (.cells #[.int .u64 z1, .slice pa1 pn1 pc1, .slice na1 nn1 nc1, .int .i64 h1, .int .u64 l1] 28)) := (Below.refl _ _).alloc (Nat.le_refl _) _
  have HL1 := hide (SkL.made HI1.out)
  replace HBd := hide (chain HBd.out hal)
  clear hal
  go_wp2_with fail
  generalize w1.alloc (.cells #[.int .u64 z1, .slice pa1 pn1 pc1, .slice na1 nn1 nc1, .int .i64 h1, .int .u64 l1] 28) = W1 at HL1  HBd ⊢
  generalize w1.heap.size = r1 at HL1 ⊢
  refine (c_DrawSketchPut (codeAt_in HB.out HBd.out (Nat.le_refl _) HBd.out.size)).mono ?_
  rintro e w2 ⟨z2, h2, l2, pa2, pn2, pc2, na2, nn2, nc2, P2, N2, v2, x2, rfl, hv2, hu2, I2, hb2⟩
  have HI2 := hide I2
  clear I2 HI1
  replace HL1 := hide (HL1.out.past hb2)
  replace HBd := hide (chain HBd.out hb2)
  clear hb2
  have hal : Below w2.heap.size w2 (w2.alloc (.cells #[.int .u64 z2, .slice pa2 pn2 pc2, .slice na2 nn2 nc2, .int .i64 h2, .int .u64 l2] 28)) := (Below.refl _ _).alloc (Nat.le_refl _) _
  have HL2 := hide (SkL.made HI2.out)
  replace HL1 := hide (HL1.out.past hal)
  replace HBd := hide (chain HBd.out hal)
  clear hal
  obtain ⟨a0, a1, a2, a3, a4⟩ := HL1.out.cells
  go_wp2_with fail
  clear a0 a1 a2 a3 a4
  generalize w2.alloc (.cells #[.int .u64 z2, .slice pa2 pn2 pc2, .slice na2 nn2 nc2, .int .i64 h2, .int .u64 l2] 28) = W2 at HL1 HL2  HBd ⊢
  generalize w2.heap.size = r2 at HL2 ⊢
  clear HI2
  refine (c_i_SketchPut HL1.out.sk.hz HL1.out.sk.hl hv1 hu1 HL1.out.sk.lp HL1.out.sk.ln HL1.out.sk.p20 HL1.out.sk.n20 HL1.out.sk.hP HL1.out.sk.hN HL1.out.sk.kP HL1.out.sk.kN).mono ?_
  rintro e w3 ⟨v3, rfl, hb3, hq3⟩
  obtain ⟨z3, h3, l3, pa3, pn3, pc3, na3, nn3, nc3, P3, N3, rfl, I3, M3⟩ := put_ski HL1.out.sk hu1 hq3
  have HI3 := hide I3
  have HM3 := hide M3
  clear I3 M3 hq3
  replace HL1 := hide (HL1.out.past hb3)
  replace HL2 := hide (HL2.out.past hb3)
  replace HBd := hide (chain HBd.out hb3)
  clear hb3
  go_wp2_with fail
  refine (c_i_SketchPut HI3.out.hz HI3.out.hl hv2 hu2 HI3.out.lp HI3.out.ln HI3.out.p20 HI3.out.n20 HI3.out.hP HI3.out.hN HI3.out.kP HI3.out.kN).mono ?_
  rintro e w4 ⟨v4, rfl, hb4, hq4⟩
  obtain ⟨z4, h4, l4, pa4, pn4, pc4, na4, nn4, nc4, P4, N4, rfl, I4, M4⟩ := put_ski HI3.out hu2 hq4
  have HI4 := hide I4
  have HM4 := hide M4
  clear I4 M4 hq4
  replace HL1 := hide (HL1.out.past hb4)
  replace HL2 := hide (HL2.out.past hb4)
  replace HBd := hide (chain HBd.out hb4)
  clear hb4
  have hal : Below w4.heap.size w4 (w4.alloc (.cells #[.int .u64 z4, .slice pa4 pn4 pc4, .slice na4 nn4 nc4, .int .i64 h4, .int .u64 l4] 28)) := (Below.refl _ _).alloc (Nat.le_refl _) _
  have HL4 := hide (SkL.made HI4.out)
  replace HL1 := hide (HL1.out.past hal)
  replace HL2 := hide (HL2.out.past hal)
  replace HBd := hide (chain HBd.out hal)
  clear hal
  obtain ⟨a0, a1, a2, a3, a4⟩ := HL1.out.cells
  go_wp2_with fail
  clear a0 a1 a2 a3 a4
  generalize w4.alloc (.cells #[.int .u64 z4, .slice pa4 pn4 pc4, .slice na4 nn4 nc4, .int .i64 h4, .int .u64 l4] 28) = W4 at HL1 HL2 HL4  HBd ⊢
  generalize w4.heap.size = r4 at HL4 ⊢
  clear HI4 HI3
  refine (c_i_SketchPut HL1.out.sk.hz HL1.out.sk.hl hv2 hu2 HL1.out.sk.lp HL1.out.sk.ln HL1.out.sk.p20 HL1.out.sk.n20 HL1.out.sk.hP HL1.out.sk.hN HL1.out.sk.kP HL1.out.sk.kN).mono ?_
  rintro e w5 ⟨v5, rfl, hb5, hq5⟩
  obtain ⟨z5, h5, l5, pa5, pn5, pc5, na5, nn5, nc5, P5, N5, rfl, I5, M5⟩ := put_ski HL1.out.sk hu2 hq5
  have HI5 := hide I5
  have HM5 := hide M5
  clear I5 M5 hq5
  replace HL1 := hide (HL1.out.past hb5)
  replace HL2 := hide (HL2.out.past hb5)
  replace HL4 := hide (HL4.out.past hb5)
  replace HBd := hide (chain HBd.out hb5)
  clear hb5
  go_wp2_with fail
  refine (c_i_SketchPut HI5.out.hz HI5.out.hl hv1 hu1 HI5.out.lp HI5.out.ln HI5.out.p20 HI5.out.n20 HI5.out.hP HI5.out.hN HI5.out.kP HI5.out.kN).mono ?_
  rintro e w6 ⟨v6, rfl, hb6, hq6⟩
  obtain ⟨z6, h6, l6, pa6, pn6, pc6, na6, nn6, nc6, P6, N6, rfl, I6, M6⟩ := put_ski HI5.out hu1 hq6
  have HI6 := hide I6
  have HM6 := hide M6
  clear I6 M6 hq6
  replace HL1 := hide (HL1.out.past hb6)
  replace HL2 := hide (HL2.out.past hb6)
  replace HL4 := hide (HL4.out.past hb6)
  replace HBd := hide (chain HBd.out hb6)
  clear hb6
  have hal : Below w6.heap.size w6 (w6.alloc (.cells #[.int .u64 z6, .slice pa6 pn6 pc6, .slice na6 nn6 nc6, .int .i64 h6, .int .u64 l6] 28)) := (Below.refl _ _).alloc (Nat.le_refl _) _
  have HL6 := hide (SkL.made HI6.out)
  replace HL1 := hide (HL1.out.past hal)
  replace HL2 := hide (HL2.out.past hal)
  replace HL4 := hide (HL4.out.past hal)
  replace HBd := hide (chain HBd.out hal)
  clear hal
  go_wp2_with fail
  generalize w6.alloc (.cells #[.int .u64 z6, .slice pa6 pn6 pc6, .slice na6 nn6 nc6, .int .i64 h6, .int .u64 l6] 28) = W6 at HL1 HL2 HL4 HL6  HBd ⊢
  generalize w6.heap.size = r6 at HL6 ⊢
  clear HI5 HI6
  refine regionK (fun W' => (SkL W' r1 z1 h1 l1 pa1 pn1 pc1 na1 nn1 nc1 P1 N1 ∧ SkL W' r2 z2 h2 l2 pa2 pn2 pc2 na2 nn2 nc2 P2 N2 ∧ SkL W' r4 z4 h4 l4 pa4 pn4 pc4 na4 nn4 nc4 P4 N4 ∧ SkL W' r6 z6 h6 l6 pa6 pn6 pc6 na6 nn6 nc6 P6 N6)) 16 (by rfl) ?_
  replace HL1 := hide HL1.out.drew
  replace HL2 := hide HL2.out.drew
  replace HL4 := hide HL4.out.drew
  replace HL6 := hide HL6.out.drew
  replace HBd := hide HBd.out.drew
  refine takeK (i := 0) (d := 49) (v := .agg #[.int .u64 z1, .slice pa1 pn1 pc1, .slice na1 nn1 nc1, .int .i64 h1, .int .u64 l1]) rfl rfl (by kernel_rfl) (by kernel_rfl) (by kernel_rfl) (by decide) (by kernel_rfl) (fun _ _ _ h => h) (Or.inl ⟨by rfl, fun W hW => ?_⟩) ⟨HL1.out, HL2.out, HL4.out, HL6.out⟩ ?_
  · obtain ⟨x0, x1, x2, x3, x4⟩ := hW.1.cells
    go_simp
  simp only [List.setIfInBounds_toArray, List.set_cons_zero, List.set_cons_succ]
  refine takeK (i := 1) (d := 50) (v := .int .i64 v1) rfl rfl (by kernel_rfl) (by kernel_rfl) (by kernel_rfl) (by decide) (by kernel_rfl) (fun _ _ _ h => h) (Or.inl ⟨by rfl, fun W hW => ?_⟩) ⟨HL1.out, HL2.out, HL4.out, HL6.out⟩ ?_
  · clear hW
    go_simp
  simp only [List.setIfInBounds_toArray, List.set_cons_zero, List.set_cons_succ]
  refine takeK (i := 2) (d := 51) (v := .int .u64 x1) rfl rfl (by kernel_rfl) (by kernel_rfl) (by kernel_rfl) (by decide) (by kernel_rfl) (fun _ _ _ h => h) (Or.inl ⟨by rfl, fun W hW => ?_⟩) ⟨HL1.out, HL2.out, HL4.out, HL6.out⟩ ?_
  · clear hW
    go_simp
  simp only [List.setIfInBounds_toArray, List.set_cons_zero, List.set_cons_succ]
  refine takeK (i := 4) (d := 53) (v := .agg #[.int .u64 z1, .slice pa1 pn1 pc1, .slice na1 nn1 nc1, .int .i64 h1, .int .u64 l1]) rfl rfl (by kernel_rfl) (by kernel_rfl) (by kernel_rfl) (by decide) (by kernel_rfl) (fun _ _ _ h => h) (Or.inl ⟨by rfl, fun W hW => ?_⟩) ⟨HL1.out, HL2.out, HL4.out, HL6.out⟩ ?_
  · obtain ⟨x0, x1, x2, x3, x4⟩ := hW.1.cells
    go_simp
  simp only [List.setIfInBounds_toArray, List.set_cons_zero, List.set_cons_succ]
  refine takeK (i := 5) (d := 54) (v := .int .i64 v1) rfl rfl (by kernel_rfl) (by kernel_rfl) (by kernel_rfl) (by decide) (by kernel_rfl) (fun _ _ _ h => h) (Or.inl ⟨by rfl, fun W hW => ?_⟩) ⟨HL1.out, HL2.out, HL4.out, HL6.out⟩ ?_
  · clear hW
    go_simp
  simp only [List.setIfInBounds_toArray, List.set_cons_zero, List.set_cons_succ]
  refine takeK (i := 6) (d := 55) (v := .int .u64 x1) rfl rfl (by kernel_rfl) (by kernel_rfl) (by kernel_rfl) (by decide) (by kernel_rfl) (fun _ _ _ h => h) (Or.inl ⟨by rfl, fun W hW => ?_⟩) ⟨HL1.out, HL2.out, HL4.out, HL6.out⟩ ?_
  · clear hW
    go_simp
  simp only [List.setIfInBounds_toArray, List.set_cons_zero, List.set_cons_succ]
  refine oneK (i := 3) (by kernel_rfl) rfl (fun K hK => ?_)
  go_simp
  refine (c_i_SketchPut HL1.out.sk.hz HL1.out.sk.hl hv1 hu1 HL1.out.sk.lp HL1.out.sk.ln HL1.out.sk.p20 HL1.out.sk.n20 HL1.out.sk.hP HL1.out.sk.hN HL1.out.sk.kP HL1.out.sk.kN).mono ?_
  rintro e w7 ⟨v7, rfl, hb7, hq7⟩
  obtain ⟨z7, h7, l7, pa7, pn7, pc7, na7, nn7, nc7, P7, N7, rfl, I7, M7⟩ := put_ski HL1.out.sk hu1 hq7
  have HI7 := hide I7
  have HM7 := hide M7
  clear I7 M7 hq7
  replace HL1 := hide (HL1.out.past hb7)
  replace HL2 := hide (HL2.out.past hb7)
  replace HL4 := hide (HL4.out.past hb7)
  replace HL6 := hide (HL6.out.past hb7)
  replace HBd := hide (chain HBd.out hb7)
  clear hb7
  dsimp only
  refine hK.out _ _ (fun _ => ⟨HL1.out, HL2.out, HL4.out, HL6.out⟩) ?_
  clear hK K
  try simp only [Act.put, List.setIfInBounds_toArray, List.set_cons_zero, List.set_cons_succ]
  refine oneK (i := 7) (by kernel_rfl) rfl (fun K hK => ?_)
  go_simp
  refine (c_s_SketchPut HL1.out.sk.hz HL1.out.sk.hl hv1 hu1 HL1.out.sk.lp HL1.out.sk.ln HL1.out.sk.p20 HL1.out.sk.n20 HL1.out.sk.hP HL1.out.sk.hN HL1.out.sk.kP HL1.out.sk.kN HL1.out.sk.cA HL1.out.sk.cA').mono ?_
  rintro e w8 ⟨v8, rfl, hb8, hq8⟩
  obtain ⟨z8, h8, l8, pa8, pn8, pc8, na8, nn8, nc8, P8, N8, rfl, I8, M8⟩ := put_sk HL1.out.sk hu1 hq8
  have HI8 := hide I8
  have HM8 := hide M8
  clear I8 M8 hq8
  replace HL1 := hide (HL1.out.past hb8)
  replace HL2 := hide (HL2.out.past hb8)
  replace HL4 := hide (HL4.out.past hb8)
  replace HL6 := hide (HL6.out.past hb8)
  replace HI7 := hide (HI7.out.past hb8)
  replace HBd := hide (chain HBd.out hb8)
  clear hb8
  dsimp only
  refine hK.out _ _ (fun _ => ⟨HL1.out, HL2.out, HL4.out, HL6.out⟩) ?_
  clear hK K
  try simp only [Act.put, List.setIfInBounds_toArray, List.set_cons_zero, List.set_cons_succ]
  refine oneK (i := 8) (by kernel_rfl) rfl (fun K hK => ?_)
  go_simp
  refine (c_s_SketchSame HI7.out.lp HI7.out.ln HI8.out.lp HI8.out.ln HI7.out.p20 HI7.out.n20 HI8.out.p20 HI8.out.n20 HI7.out.hP HI7.out.hN HI8.out.hP HI8.out.hN).mono ?_
  rintro e w9 ⟨rfl, hb9⟩
  rw [show sameS z7 h7 l7 P7 N7 z8 h8 l8 P8 N8 = true from same_of (HM7.out.fn HM8.out)]
  replace HL1 := hide (HL1.out.past hb9)
  replace HL2 := hide (HL2.out.past hb9)
  replace HL4 := hide (HL4.out.past hb9)
  replace HL6 := hide (HL6.out.past hb9)
  replace HBd := hide (chain HBd.out hb9)
  clear hb9
  clear HI7 HI8
  dsimp only
  refine hK.out _ _ (fun _ => ⟨HL1.out, HL2.out, HL4.out, HL6.out⟩) ?_
  clear hK K
  try simp only [Act.put, List.setIfInBounds_toArray, List.set_cons_zero, List.set_cons_succ]
  refine takeK (i := 9) (d := 58) (v := .bool false) rfl rfl (by kernel_rfl) (by kernel_rfl) (by kernel_rfl) (by decide) (by kernel_rfl) (fun _ _ _ h => h) (Or.inl ⟨by rfl, fun W hW => ?_⟩) ⟨HL1.out, HL2.out, HL4.out, HL6.out⟩ ?_
  · clear hW
    go_simp
  simp only [List.setIfInBounds_toArray, List.set_cons_zero, List.set_cons_succ]
  refine takeK (i := 10) (d := 59) (v := .bool false) rfl rfl (by kernel_rfl) (by kernel_rfl) (by kernel_rfl) (by decide) (by kernel_rfl) (fun _ _ _ h => h) (Or.inl ⟨by rfl, fun W hW => ?_⟩) ⟨HL1.out, HL2.out, HL4.out, HL6.out⟩ ?_
  · clear hW
    go_simp
  simp only [List.setIfInBounds_toArray, List.set_cons_zero, List.set_cons_succ]
  refine takeK (i := 11) (d := 60) (v := .agg #[.int .u64 z4, .slice pa4 pn4 pc4, .slice na4 nn4 nc4, .int .i64 h4, .int .u64 l4]) rfl rfl (by kernel_rfl) (by kernel_rfl) (by kernel_rfl) (by decide) (by kernel_rfl) (fun _ _ _ h => h) (Or.inl ⟨by rfl, fun W hW => ?_⟩) ⟨HL1.out, HL2.out, HL4.out, HL6.out⟩ ?_
  · obtain ⟨x0, x1, x2, x3, x4⟩ := hW.2.2.1.cells
    go_simp
  simp only [List.setIfInBounds_toArray, List.set_cons_zero, List.set_cons_succ]
  refine takeK (i := 12) (d := 61) (v := .agg #[.int .u64 z6, .slice pa6 pn6 pc6, .slice na6 nn6 nc6, .int .i64 h6, .int .u64 l6]) rfl rfl (by kernel_rfl) (by kernel_rfl) (by kernel_rfl) (by decide) (by kernel_rfl) (fun _ _ _ h => h) (Or.inl ⟨by rfl, fun W hW => ?_⟩) ⟨HL1.out, HL2.out, HL4.out, HL6.out⟩ ?_
  · obtain ⟨x0, x1, x2, x3, x4⟩ := hW.2.2.2.cells
    go_simp
  simp only [List.setIfInBounds_toArray, List.set_cons_zero, List.set_cons_succ]
  refine oneK (i := 13) (by kernel_rfl) rfl (fun K hK => ?_)
  rw [if_pos (by rfl)]
  go_simp
  refine (c_s_SketchSame HL4.out.sk.lp HL4.out.sk.ln HL6.out.sk.lp HL6.out.sk.ln HL4.out.sk.p20 HL4.out.sk.n20 HL6.out.sk.p20 HL6.out.sk.n20 HL4.out.sk.hP HL4.out.sk.hN HL6.out.sk.hP HL6.out.sk.hN).mono ?_
  rintro e w10 ⟨rfl, hb10⟩
  rw [show sameS z4 h4 l4 P4 N4 z6 h6 l6 P6 N6 = true from same_of (put_comm HL1.out.sk.ok hu1 hu2 HM3.out HM4.out HM5.out HM6.out)]
  replace HL1 := hide (HL1.out.past hb10)
  replace HL2 := hide (HL2.out.past hb10)
  replace HL4 := hide (HL4.out.past hb10)
  replace HL6 := hide (HL6.out.past hb10)
  replace HBd := hide (chain HBd.out hb10)
  clear hb10
  dsimp only
  refine hK.out _ _ (fun _ => ⟨HL1.out, HL2.out, HL4.out, HL6.out⟩) ?_
  clear hK K
  try simp only [Act.put, List.setIfInBounds_toArray, List.set_cons_zero, List.set_cons_succ]
  refine takeK (i := 14) (d := 63) (v := .bool false) rfl rfl (by kernel_rfl) (by kernel_rfl) (by kernel_rfl) (by decide) (by kernel_rfl) (fun _ _ _ h => h) (Or.inl ⟨by rfl, fun W hW => ?_⟩) ⟨HL1.out, HL2.out, HL4.out, HL6.out⟩ ?_
  · clear hW
    go_simp
  simp only [List.setIfInBounds_toArray, List.set_cons_zero, List.set_cons_succ]
  refine takeK (i := 15) (d := 64) (v := .bool false) rfl rfl (by kernel_rfl) (by kernel_rfl) (by kernel_rfl) (by decide) (by kernel_rfl) (fun _ _ _ h => h) (Or.inl ⟨by rfl, fun W hW => ?_⟩) ⟨HL1.out, HL2.out, HL4.out, HL6.out⟩ ?_
  · clear hW
    go_simp
  simp only [List.setIfInBounds_toArray, List.set_cons_zero, List.set_cons_succ]
  refine doneK (by kernel_rfl) ?_ _
  obtain ⟨a0, a1, a2, a3, a4⟩ := HL1.out.cells
  obtain ⟨c0, c1, c2, c3, c4⟩ := HL2.out.cells
  go_wp2_with fail
  clear a0 a1 a2 a3 a4 c0 c1 c2 c3 c4
  refine (c_i_SketchMerge HL1.out.sk.hz HL1.out.sk.hl HL2.out.sk.hz HL2.out.sk.hl HL1.out.sk.lp HL1.out.sk.ln HL2.out.sk.lp HL2.out.sk.ln HL1.out.sk.p20 HL1.out.sk.n20 HL2.out.sk.p20 HL2.out.sk.n20 HL1.out.sk.hP HL1.out.sk.hN HL2.out.sk.hP HL2.out.sk.hN HL1.out.sk.kP HL1.out.sk.kN HL2.out.sk.kP HL2.out.sk.kN).mono ?_
  rintro e w11 ⟨v9, rfl, hb9, hq9⟩
  obtain ⟨z9, h9, l9, pa9, pn9, pc9, na9, nn9, nc9, P9, N9, rfl, I9, M9⟩ := mrg_skT HL1.out.sk HL2.out.sk hq9
  have HI9 := hide I9
  have HM9 := hide M9
  clear I9 M9 hq9
  replace HL1 := hide (HL1.out.past hb9)
  replace HL2 := hide (HL2.out.past hb9)
  replace HL4 := hide (HL4.out.past hb9)
  replace HL6 := hide (HL6.out.past hb9)
  replace HBd := hide (chain HBd.out hb9)
  clear hb9
  have hal : Below w11.heap.size w11 (w11.alloc (.cells #[.int .u64 z9, .slice pa9 pn9 pc9, .slice na9 nn9 nc9, .int .i64 h9, .int .u64 l9] 28)) := (Below.refl _ _).alloc (Nat.le_refl _) _
  have HL9 := hide (SkL.made HI9.out)
  replace HL1 := hide (HL1.out.past hal)
  replace HL2 := hide (HL2.out.past hal)
  replace HL4 := hide (HL4.out.past hal)
  replace HL6 := hide (HL6.out.past hal)
  replace HBd := hide (chain HBd.out hal)
  clear hal
  go_wp2_with fail
  generalize w11.alloc (.cells #[.int .u64 z9, .slice pa9 pn9 pc9, .slice na9 nn9 nc9, .int .i64 h9, .int .u64 l9] 28) = W9 at HL1 HL2 HL4 HL6 HL9  HBd ⊢
  generalize w11.heap.size = r9 at HL9 ⊢
  clear HI9
  refine regionK (fun W' => (SkL W' r1 z1 h1 l1 pa1 pn1 pc1 na1 nn1 nc1 P1 N1 ∧ SkL W' r2 z2 h2 l2 pa2 pn2 pc2 na2 nn2 nc2 P2 N2 ∧ SkL W' r4 z4 h4 l4 pa4 pn4 pc4 na4 nn4 nc4 P4 N4 ∧ SkL W' r6 z6 h6 l6 pa6 pn6 pc6 na6 nn6 nc6 P6 N6 ∧ SkL W' r9 z9 h9 l9 pa9 pn9 pc9 na9 nn9 nc9 P9 N9)) 14 (by rfl) ?_
  replace HL1 := hide HL1.out.drew
  replace HL2 := hide HL2.out.drew
  replace HL4 := hide HL4.out.drew
  replace HL6 := hide HL6.out.drew
  replace HL9 := hide HL9.out.drew
  replace HBd := hide HBd.out.drew
  refine takeK (i := 0) (d := 68) (v := .agg #[.int .u64 z9, .slice pa9 pn9 pc9, .slice na9 nn9 nc9, .int .i64 h9, .int .u64 l9]) rfl rfl (by kernel_rfl) (by kernel_rfl) (by kernel_rfl) (by decide) (by kernel_rfl) (fun _ _ _ h => h) (Or.inl ⟨by rfl, fun W hW => ?_⟩) ⟨HL1.out, HL2.out, HL4.out, HL6.out, HL9.out⟩ ?_
  · obtain ⟨x0, x1, x2, x3, x4⟩ := hW.2.2.2.2.cells
    go_simp
  simp only [List.setIfInBounds_toArray, List.set_cons_zero, List.set_cons_succ]
  refine takeK (i := 1) (d := 69) (v := .agg #[.int .u64 z1, .slice pa1 pn1 pc1, .slice na1 nn1 nc1, .int .i64 h1, .int .u64 l1]) rfl rfl (by kernel_rfl) (by kernel_rfl) (by kernel_rfl) (by decide) (by kernel_rfl) (fun _ _ _ h => h) (Or.inl ⟨by rfl, fun W hW => ?_⟩) ⟨HL1.out, HL2.out, HL4.out, HL6.out, HL9.out⟩ ?_
  · obtain ⟨x0, x1, x2, x3, x4⟩ := hW.1.cells
    go_simp
  simp only [List.setIfInBounds_toArray, List.set_cons_zero, List.set_cons_succ]
  refine takeK (i := 2) (d := 70) (v := .agg #[.int .u64 z2, .slice pa2 pn2 pc2, .slice na2 nn2 nc2, .int .i64 h2, .int .u64 l2]) rfl rfl (by kernel_rfl) (by kernel_rfl) (by kernel_rfl) (by decide) (by kernel_rfl) (fun _ _ _ h => h) (Or.inl ⟨by rfl, fun W hW => ?_⟩) ⟨HL1.out, HL2.out, HL4.out, HL6.out, HL9.out⟩ ?_
  · obtain ⟨x0, x1, x2, x3, x4⟩ := hW.2.1.cells
    go_simp
  simp only [List.setIfInBounds_toArray, List.set_cons_zero, List.set_cons_succ]
  refine oneK (i := 3) (by kernel_rfl) rfl (fun K hK => ?_)
  go_simp
  refine (c_s_SketchMerge HL1.out.sk.hz HL1.out.sk.hl HL2.out.sk.hz HL2.out.sk.hl HL1.out.sk.lp HL1.out.sk.ln HL2.out.sk.lp HL2.out.sk.ln HL1.out.sk.p20 HL1.out.sk.n20 HL2.out.sk.p20 HL2.out.sk.n20 HL1.out.sk.hP HL1.out.sk.hN HL2.out.sk.hP HL2.out.sk.hN HL1.out.sk.kP HL1.out.sk.kN HL2.out.sk.kP HL2.out.sk.kN).mono ?_
  rintro e w12 ⟨v10, rfl, hb10, hq10⟩
  obtain ⟨z10, h10, l10, pa10, pn10, pc10, na10, nn10, nc10, P10, N10, rfl, I10, M10⟩ := mrg_sks HL1.out.sk HL2.out.sk hq10
  have HI10 := hide I10
  have HM10 := hide M10
  clear I10 M10 hq10
  replace HL1 := hide (HL1.out.past hb10)
  replace HL2 := hide (HL2.out.past hb10)
  replace HL4 := hide (HL4.out.past hb10)
  replace HL6 := hide (HL6.out.past hb10)
  replace HL9 := hide (HL9.out.past hb10)
  replace HBd := hide (chain HBd.out hb10)
  clear hb10
  dsimp only
  refine hK.out _ _ (fun _ => ⟨HL1.out, HL2.out, HL4.out, HL6.out, HL9.out⟩) ?_
  clear hK K
  try simp only [Act.put, List.setIfInBounds_toArray, List.set_cons_zero, List.set_cons_succ]
  refine oneK (i := 4) (by kernel_rfl) rfl (fun K hK => ?_)
  go_simp
  refine (c_s_SketchSame HL9.out.sk.lp HL9.out.sk.ln HI10.out.lp HI10.out.ln HL9.out.sk.p20 HL9.out.sk.n20 HI10.out.p20 HI10.out.n20 HL9.out.sk.hP HL9.out.sk.hN HI10.out.hP HI10.out.hN).mono ?_
  rintro e w13 ⟨rfl, hb13⟩
  rw [show sameS z9 h9 l9 P9 N9 z10 h10 l10 P10 N10 = true from same_of (HM9.out.fn HM10.out)]
  replace HL1 := hide (HL1.out.past hb13)
  replace HL2 := hide (HL2.out.past hb13)
  replace HL4 := hide (HL4.out.past hb13)
  replace HL6 := hide (HL6.out.past hb13)
  replace HL9 := hide (HL9.out.past hb13)
  replace HBd := hide (chain HBd.out hb13)
  clear hb13
  clear HI10
  dsimp only
  refine hK.out _ _ (fun _ => ⟨HL1.out, HL2.out, HL4.out, HL6.out, HL9.out⟩) ?_
  clear hK K
  try simp only [Act.put, List.setIfInBounds_toArray, List.set_cons_zero, List.set_cons_succ]
  refine takeK (i := 5) (d := 73) (v := .bool false) rfl rfl (by kernel_rfl) (by kernel_rfl) (by kernel_rfl) (by decide) (by kernel_rfl) (fun _ _ _ h => h) (Or.inl ⟨by rfl, fun W hW => ?_⟩) ⟨HL1.out, HL2.out, HL4.out, HL6.out, HL9.out⟩ ?_
  · clear hW
    go_simp
  simp only [List.setIfInBounds_toArray, List.set_cons_zero, List.set_cons_succ]
  refine takeK (i := 6) (d := 74) (v := .bool false) rfl rfl (by kernel_rfl) (by kernel_rfl) (by kernel_rfl) (by decide) (by kernel_rfl) (fun _ _ _ h => h) (Or.inl ⟨by rfl, fun W hW => ?_⟩) ⟨HL1.out, HL2.out, HL4.out, HL6.out, HL9.out⟩ ?_
  · clear hW
    go_simp
  simp only [List.setIfInBounds_toArray, List.set_cons_zero, List.set_cons_succ]
  refine takeK (i := 7) (d := 75) (v := .agg #[.int .u64 z9, .slice pa9 pn9 pc9, .slice na9 nn9 nc9, .int .i64 h9, .int .u64 l9]) rfl rfl (by kernel_rfl) (by kernel_rfl) (by kernel_rfl) (by decide) (by kernel_rfl) (fun _ _ _ h => h) (Or.inl ⟨by rfl, fun W hW => ?_⟩) ⟨HL1.out, HL2.out, HL4.out, HL6.out, HL9.out⟩ ?_
  · obtain ⟨x0, x1, x2, x3, x4⟩ := hW.2.2.2.2.cells
    go_simp
  simp only [List.setIfInBounds_toArray, List.set_cons_zero, List.set_cons_succ]
  refine takeK (i := 8) (d := 76) (v := .agg #[.int .u64 z2, .slice pa2 pn2 pc2, .slice na2 nn2 nc2, .int .i64 h2, .int .u64 l2]) rfl rfl (by kernel_rfl) (by kernel_rfl) (by kernel_rfl) (by decide) (by kernel_rfl) (fun _ _ _ h => h) (Or.inl ⟨by rfl, fun W hW => ?_⟩) ⟨HL1.out, HL2.out, HL4.out, HL6.out, HL9.out⟩ ?_
  · obtain ⟨x0, x1, x2, x3, x4⟩ := hW.2.1.cells
    go_simp
  simp only [List.setIfInBounds_toArray, List.set_cons_zero, List.set_cons_succ]
  refine takeK (i := 9) (d := 77) (v := .agg #[.int .u64 z1, .slice pa1 pn1 pc1, .slice na1 nn1 nc1, .int .i64 h1, .int .u64 l1]) rfl rfl (by kernel_rfl) (by kernel_rfl) (by kernel_rfl) (by decide) (by kernel_rfl) (fun _ _ _ h => h) (Or.inl ⟨by rfl, fun W hW => ?_⟩) ⟨HL1.out, HL2.out, HL4.out, HL6.out, HL9.out⟩ ?_
  · obtain ⟨x0, x1, x2, x3, x4⟩ := hW.1.cells
    go_simp
  simp only [List.setIfInBounds_toArray, List.set_cons_zero, List.set_cons_succ]
  refine oneK (i := 10) (by kernel_rfl) rfl (fun K hK => ?_)
  rw [if_pos (by rfl)]
  go_simp
  refine (c_i_SketchMerge HL2.out.sk.hz HL2.out.sk.hl HL1.out.sk.hz HL1.out.sk.hl HL2.out.sk.lp HL2.out.sk.ln HL1.out.sk.lp HL1.out.sk.ln HL2.out.sk.p20 HL2.out.sk.n20 HL1.out.sk.p20 HL1.out.sk.n20 HL2.out.sk.hP HL2.out.sk.hN HL1.out.sk.hP HL1.out.sk.hN HL2.out.sk.kP HL2.out.sk.kN HL1.out.sk.kP HL1.out.sk.kN).mono ?_
  rintro e w14 ⟨v11, rfl, hb11, hq11⟩
  obtain ⟨z11, h11, l11, pa11, pn11, pc11, na11, nn11, nc11, P11, N11, rfl, I11, M11⟩ := mrg_skT HL2.out.sk HL1.out.sk hq11
  have HI11 := hide I11
  have HM11 := hide M11
  clear I11 M11 hq11
  replace HL1 := hide (HL1.out.past hb11)
  replace HL2 := hide (HL2.out.past hb11)
  replace HL4 := hide (HL4.out.past hb11)
  replace HL6 := hide (HL6.out.past hb11)
  replace HL9 := hide (HL9.out.past hb11)
  replace HBd := hide (chain HBd.out hb11)
  clear hb11
  dsimp only
  refine hK.out _ _ (fun _ => ⟨HL1.out, HL2.out, HL4.out, HL6.out, HL9.out⟩) ?_
  clear hK K
  try simp only [Act.put, List.setIfInBounds_toArray, List.set_cons_zero, List.set_cons_succ]
  refine oneK (i := 11) (by kernel_rfl) rfl (fun K hK => ?_)
  rw [if_pos (by rfl)]
  go_simp
  refine (c_i_SketchSame HL9.out.sk.lp HL9.out.sk.ln HI11.out.lp HI11.out.ln HL9.out.sk.p20 HL9.out.sk.n20 HI11.out.p20 HI11.out.n20 HL9.out.sk.hP HL9.out.sk.hN HI11.out.hP HI11.out.hN).mono ?_
  rintro e w15 ⟨rfl, hb15⟩
  rw [show sameS z9 h9 l9 P9 N9 z11 h11 l11 P11 N11 = true from same_of (HM9.out.comm HM11.out)]
  replace HL1 := hide (HL1.out.past hb15)
  replace HL2 := hide (HL2.out.past hb15)
  replace HL4 := hide (HL4.out.past hb15)
  replace HL6 := hide (HL6.out.past hb15)
  replace HL9 := hide (HL9.out.past hb15)
  replace HBd := hide (chain HBd.out hb15)
  clear hb15
  clear HI11
  dsimp only
  refine hK.out _ _ (fun _ => ⟨HL1.out, HL2.out, HL4.out, HL6.out, HL9.out⟩) ?_
  clear hK K
  try simp only [Act.put, List.setIfInBounds_toArray, List.set_cons_zero, List.set_cons_succ]
  refine takeK (i := 12) (d := 80) (v := .bool false) rfl rfl (by kernel_rfl) (by kernel_rfl) (by kernel_rfl) (by decide) (by kernel_rfl) (fun _ _ _ h => h) (Or.inl ⟨by rfl, fun W hW => ?_⟩) ⟨HL1.out, HL2.out, HL4.out, HL6.out, HL9.out⟩ ?_
  · clear hW
    go_simp
  simp only [List.setIfInBounds_toArray, List.set_cons_zero, List.set_cons_succ]
  refine takeK (i := 13) (d := 81) (v := .bool false) rfl rfl (by kernel_rfl) (by kernel_rfl) (by kernel_rfl) (by decide) (by kernel_rfl) (fun _ _ _ h => h) (Or.inl ⟨by rfl, fun W hW => ?_⟩) ⟨HL1.out, HL2.out, HL4.out, HL6.out, HL9.out⟩ ?_
  · clear hW
    go_simp
  simp only [List.setIfInBounds_toArray, List.set_cons_zero, List.set_cons_succ]
  refine doneK (by kernel_rfl) ?_ _
  obtain ⟨a0, a1, a2, a3, a4⟩ := HL1.out.cells
  obtain ⟨c0, c1, c2, c3, c4⟩ := HL2.out.cells
  go_wp2_with fail
  clear a0 a1 a2 a3 a4 c0 c1 c2 c3 c4
  refine (c_s_SketchRight HL1.out.sk.lp HL1.out.sk.ln HL1.out.sk.p20 HL1.out.sk.n20 HL1.out.sk.hP HL1.out.sk.hN HL1.out.sk.kP HL1.out.sk.kN).mono ?_
  rintro e w16 ⟨rfl, hb16⟩
  replace HL1 := hide (HL1.out.past hb16)
  replace HL2 := hide (HL2.out.past hb16)
  replace HL4 := hide (HL4.out.past hb16)
  replace HL6 := hide (HL6.out.past hb16)
  replace HL9 := hide (HL9.out.past hb16)
  replace HBd := hide (chain HBd.out hb16)
  clear hb16
  cases hs1 : skB P1 N1 with
  | false =>
    go_wp2
    go_ret
    exact ⟨rfl, HBd.out⟩
  | true =>
    obtain ⟨a0, a1, a2, a3, a4⟩ := HL2.out.cells
    go_wp2_with fail
    clear a0 a1 a2 a3 a4
    refine (c_s_SketchRight HL2.out.sk.lp HL2.out.sk.ln HL2.out.sk.p20 HL2.out.sk.n20 HL2.out.sk.hP HL2.out.sk.hN HL2.out.sk.kP HL2.out.sk.kN).mono ?_
    rintro e w17 ⟨rfl, hb17⟩
    replace HL1 := hide (HL1.out.past hb17)
    replace HL2 := hide (HL2.out.past hb17)
    replace HL4 := hide (HL4.out.past hb17)
    replace HL6 := hide (HL6.out.past hb17)
    replace HL9 := hide (HL9.out.past hb17)
    replace HBd := hide (chain HBd.out hb17)
    clear hb17
    cases hs2 : skB P2 N2 with
    | false =>
      go_wp2
      go_ret
      exact ⟨rfl, HBd.out⟩
    | true =>
      obtain ⟨a0, a1, a2, a3, a4⟩ := HL1.out.cells
      obtain ⟨c0, c1, c2, c3, c4⟩ := HL2.out.cells
      go_wp2_with fail
      clear a0 a1 a2 a3 a4 c0 c1 c2 c3 c4
      have g1 : T5.Good ⟨z1, P1, N1, h1, l1⟩ := ⟨HL1.out.sk.ok, hs1⟩
      have g2 : T5.Good ⟨z2, P2, N2, h2, l2⟩ := ⟨HL2.out.sk.ok, hs2⟩
      have s4 : skB P4 N4 = true := (HM4.out.good (HM3.out.good g1 hu1) hu2).sk
      have s9 : skB P9 N9 = true := (HM9.out.good g1 g2).sk
      have G12 := hide (And.intro g1 g2)
      have HS4 := hide s4
      have HS9 := hide s9
      clear g1 g2 s4 s9
      rename_i Q1 K1 A1
      have REST : ∀ (X : World) (r13 : Nat) (z13 h13 l13 : Int) (pa13 : Option Addr) (pn13 pc13 : Nat) (na13 : Option Addr) (nn13 nc13 : Nat) (P13 N13 : List Bn) (y93 y95 : Value), Hid (SkL X r1 z1 h1 l1 pa1 pn1 pc1 na1 nn1 nc1 P1 N1) → Hid (SkL X r2 z2 h2 l2 pa2 pn2 pc2 na2 nn2 nc2 P2 N2) → Hid (SkL X r4 z4 h4 l4 pa4 pn4 pc4 na4 nn4 nc4 P4 N4) → Hid (SkL X r6 z6 h6 l6 pa6 pn6 pc6 na6 nn6 nc6 P6 N6) → Hid (SkL X r9 z9 h9 l9 pa9 pn9 pc9 na9 nn9 nc9 P9 N9) → Hid (SkL X r13 z13 h13 l13 pa13 pn13 pc13 na13 nn13 nc13 P13 N13) → Hid (Below w.heap.size w X) → Hid (∀ d : T5, PutIs ⟨z9, P9, N9, h9, l9⟩ d v1 x1 → ⟨z13, P13, N13, h13, l13⟩ = d) → Exit.then K1 Q1 .normal ⟨#[Value.slice ao ln cap, Value.slice bo lm cbp, undef, undef, Value.bool false, Value.pointer (some { block := r1, off := 0 }), Value.int IntKind.i64 v1, Value.int IntKind.u64 x1, Value.pointer (some { block := r2, off := 0 }), Value.int IntKind.i64 v2, Value.int IntKind.u64 x2, Value.pointer (some { block := r4, off := 0 }), Value.pointer (some { block := r6, off := 0 }), Value.pointer (some { block := r9, off := 0 }), .pointer (some ⟨r13, 0, none⟩), Value.slice ao ln cap, Value.int IntKind.i64 ↑ln, Value.bool false, Value.bool false, Value.slice bo lm cbp, Value.int IntKind.i64 ↑lm, Value.bool false, Value.bool false, Value.tuple #[Value.agg #[Value.int IntKind.u64 z1, Value.slice pa1 pn1 pc1, Value.slice na1 nn1 nc1, Value.int IntKind.i64 h1, Value.int IntKind.u64 l1], Value.int IntKind.i64 v1, Value.int IntKind.u64 x1], Value.slice ao ln cap, Value.tuple #[Value.agg #[Value.int IntKind.u64 z1, Value.slice pa1 pn1 pc1, Value.slice na1 nn1 nc1, Value.int IntKind.i64 h1, Value.int IntKind.u64 l1], Value.int IntKind.i64 v1, Value.int IntKind.u64 x1], Value.agg #[Value.int IntKind.u64 z1, Value.slice pa1 pn1 pc1, Value.slice na1 nn1 nc1, Value.int IntKind.i64 h1, Value.int IntKind.u64 l1], Value.int IntKind.i64 v1, Value.int IntKind.u64 x1, Value.tuple #[Value.agg #[Value.int IntKind.u64 z2, Value.slice pa2 pn2 pc2, Value.slice na2 nn2 nc2, Value.int IntKind.i64 h2, Value.int IntKind.u64 l2], Value.int IntKind.i64 v2, Value.int IntKind.u64 x2], Value.slice bo lm cbp, Value.tuple #[Value.agg #[Value.int IntKind.u64 z2, Value.slice pa2 pn2 pc2, Value.slice na2 nn2 nc2, Value.int IntKind.i64 h2, Value.int IntKind.u64 l2], Value.int IntKind.i64 v2, Value.int IntKind.u64 x2], Value.agg #[Value.int IntKind.u64 z2, Value.slice pa2 pn2 pc2, Value.slice na2 nn2 nc2, Value.int IntKind.i64 h2, Value.int IntKind.u64 l2], Value.int IntKind.i64 v2, Value.int IntKind.u64 x2, Value.agg #[Value.int IntKind.u64 z1, Value.slice pa1 pn1 pc1, Value.slice na1 nn1 nc1, Value.int IntKind.i64 h1, Value.int IntKind.u64 l1], Value.int IntKind.i64 v1, Value.int IntKind.u64 x1, Value.agg #[Value.int IntKind.u64 z3, Value.slice pa3 pn3 pc3, Value.slice na3 nn3 nc3, Value.int IntKind.i64 h3, Value.int IntKind.u64 l3], Value.int IntKind.i64 v2, Value.int IntKind.u64 x2, Value.agg #[Value.int IntKind.u64 z4, Value.slice pa4 pn4 pc4, Value.slice na4 nn4 nc4, Value.int IntKind.i64 h4, Value.int IntKind.u64 l4], Value.agg #[Value.int IntKind.u64 z1, Value.slice pa1 pn1 pc1, Value.slice na1 nn1 nc1, Value.int IntKind.i64 h1, Value.int IntKind.u64 l1], Value.int IntKind.i64 v2, Value.int IntKind.u64 x2, Value.agg #[Value.int IntKind.u64 z5, Value.slice pa5 pn5 pc5, Value.slice na5 nn5 nc5, Value.int IntKind.i64 h5, Value.int IntKind.u64 l5], Value.int IntKind.i64 v1, Value.int IntKind.u64 x1, Value.agg #[Value.int IntKind.u64 z6, Value.slice pa6 pn6 pc6, Value.slice na6 nn6 nc6, Value.int IntKind.i64 h6, Value.int IntKind.u64 l6], Value.agg #[Value.int IntKind.u64 z1, Value.slice pa1 pn1 pc1, Value.slice na1 nn1 nc1, Value.int IntKind.i64 h1, Value.int IntKind.u64 l1], Value.int IntKind.i64 v1, Value.int IntKind.u64 x1, Value.agg #[Value.int IntKind.u64 z7, Value.slice pa7 pn7 pc7, Value.slice na7 nn7 nc7, Value.int IntKind.i64 h7, Value.int IntKind.u64 l7], Value.agg #[Value.int IntKind.u64 z1, Value.slice pa1 pn1 pc1, Value.slice na1 nn1 nc1, Value.int IntKind.i64 h1, Value.int IntKind.u64 l1], Value.int IntKind.i64 v1, Value.int IntKind.u64 x1, Value.agg #[Value.int IntKind.u64 z8, Value.slice pa8 pn8 pc8, Value.slice na8 nn8 nc8, Value.int IntKind.i64 h8, Value.int IntKind.u64 l8], Value.bool true, Value.bool false, Value.bool false, Value.agg #[Value.int IntKind.u64 z4, Value.slice pa4 pn4 pc4, Value.slice na4 nn4 nc4, Value.int IntKind.i64 h4, Value.int IntKind.u64 l4], Value.agg #[Value.int IntKind.u64 z6, Value.slice pa6 pn6 pc6, Value.slice na6 nn6 nc6, Value.int IntKind.i64 h6, Value.int IntKind.u64 l6], Value.bool true, Value.bool false, Value.bool false, Value.agg #[Value.int IntKind.u64 z1, Value.slice pa1 pn1 pc1, Value.slice na1 nn1 nc1, Value.int IntKind.i64 h1, Value.int IntKind.u64 l1], Value.agg #[Value.int IntKind.u64 z2, Value.slice pa2 pn2 pc2, Value.slice na2 nn2 nc2, Value.int IntKind.i64 h2, Value.int IntKind.u64 l2], Value.agg #[Value.int IntKind.u64 z9, Value.slice pa9 pn9 pc9, Value.slice na9 nn9 nc9, Value.int IntKind.i64 h9, Value.int IntKind.u64 l9], Value.agg #[Value.int IntKind.u64 z9, Value.slice pa9 pn9 pc9, Value.slice na9 nn9 nc9, Value.int IntKind.i64 h9, Value.int IntKind.u64 l9], Value.agg #[Value.int IntKind.u64 z1, Value.slice pa1 pn1 pc1, Value.slice na1 nn1 nc1, Value.int IntKind.i64 h1, Value.int IntKind.u64 l1], Value.agg #[Value.int IntKind.u64 z2, Value.slice pa2 pn2 pc2, Value.slice na2 nn2 nc2, Value.int IntKind.i64 h2, Value.int IntKind.u64 l2], Value.agg #[Value.int IntKind.u64 z10, Value.slice pa10 pn10 pc10, Value.slice na10 nn10 nc10, Value.int IntKind.i64 h10, Value.int IntKind.u64 l10], Value.bool true, Value.bool false, Value.bool false, Value.agg #[Value.int IntKind.u64 z9, Value.slice pa9 pn9 pc9, Value.slice na9 nn9 nc9, Value.int IntKind.i64 h9, Value.int IntKind.u64 l9], Value.agg #[Value.int IntKind.u64 z2, Value.slice pa2 pn2 pc2, Value.slice na2 nn2 nc2, Value.int IntKind.i64 h2, Value.int IntKind.u64 l2], Value.agg #[Value.int IntKind.u64 z1, Value.slice pa1 pn1 pc1, Value.slice na1 nn1 nc1, Value.int IntKind.i64 h1, Value.int IntKind.u64 l1], Value.agg #[Value.int IntKind.u64 z11, Value.slice pa11 pn11 pc11, Value.slice na11 nn11 nc11, Value.int IntKind.i64 h11, Value.int IntKind.u64 l11], Value.bool true, Value.bool false, Value.bool false, Value.agg #[Value.int IntKind.u64 z1, Value.slice pa1 pn1 pc1, Value.slice na1 nn1 nc1, Value.int IntKind.i64 h1, Value.int IntKind.u64 l1], Value.bool true, Value.bool false, Value.bool false, Value.agg #[Value.int IntKind.u64 z2, Value.slice pa2 pn2 pc2, Value.slice na2 nn2 nc2, Value.int IntKind.i64 h2, Value.int IntKind.u64 l2], Value.bool true, Value.bool false, Value.bool false, .agg #[.int .u64 z1, .slice pa1 pn1 pc1, .slice na1 nn1 nc1, .int .i64 h1, .int .u64 l1], .int .i64 v1, .int .u64 x1, y93, .agg #[.int .u64 z2, .slice pa2 pn2 pc2, .slice na2 nn2 nc2, .int .i64 h2, .int .u64 l2], y95, undef, undef, undef, undef, undef, undef, undef, undef, undef, undef, undef, undef, undef, undef], []⟩ X := by
        intro X r13 z13 h13 l13 pa13 pn13 pc13 na13 nn13 nc13 P13 N13 y93 y95 HL1 HL2 HL4 HL6 HL9 HL13 HBd HD
        obtain ⟨a0, a1, a2, a3, a4⟩ := HL4.out.cells
        go_wp2_with fail
        clear a0 a1 a2 a3 a4
        refine regionK (fun W' => (SkL W' r4 z4 h4 l4 pa4 pn4 pc4 na4 nn4 nc4 P4 N4 ∧ SkL W' r9 z9 h9 l9 pa9 pn9 pc9 na9 nn9 nc9 P9 N9 ∧ SkL W' r13 z13 h13 l13 pa13 pn13 pc13 na13 nn13 nc13 P13 N13)) 14 (by rfl) ?_
        replace HL4 := hide HL4.out.drew
        replace HL9 := hide HL9.out.drew
        replace HL13 := hide HL13.out.drew
        replace HBd := hide HBd.out.drew
        refine takeK (i := 0) (d := 96) (v := .agg #[.int .u64 z4, .slice pa4 pn4 pc4, .slice na4 nn4 nc4, .int .i64 h4, .int .u64 l4]) rfl rfl (by kernel_rfl) (by kernel_rfl) (by kernel_rfl) (by decide) (by kernel_rfl) (fun _ _ _ h => h) (Or.inl ⟨by rfl, fun W hW => ?_⟩) ⟨HL4.out, HL9.out, HL13.out⟩ ?_
        · obtain ⟨x0, x1, x2, x3, x4⟩ := hW.1.cells
          go_simp
        simp only [List.setIfInBounds_toArray, List.set_cons_zero, List.set_cons_succ]
        refine oneK (i := 1) (by kernel_rfl) rfl (fun K hK => ?_)
        go_simp
        refine (c_s_SketchRight HL4.out.sk.lp HL4.out.sk.ln HL4.out.sk.p20 HL4.out.sk.n20 HL4.out.sk.hP HL4.out.sk.hN HL4.out.sk.kP HL4.out.sk.kN).mono ?_
        rintro e u1 ⟨rfl, hc1⟩
        rw [HS4.out]
        replace HL4 := hide (HL4.out.past hc1)
        replace HL9 := hide (HL9.out.past hc1)
        replace HL13 := hide (HL13.out.past hc1)
        replace HBd := hide (chain HBd.out hc1)
        clear hc1
        dsimp only
        refine hK.out _ _ (fun _ => ⟨HL4.out, HL9.out, HL13.out⟩) ?_
        clear hK K
        try simp only [Act.put, List.setIfInBounds_toArray, List.set_cons_zero, List.set_cons_succ]
        refine takeK (i := 2) (d := 98) (v := .bool true) rfl rfl (by kernel_rfl) (by kernel_rfl) (by kernel_rfl) (by decide) (by kernel_rfl) (fun _ _ _ h => h) (Or.inl ⟨by rfl, fun W hW => ?_⟩) ⟨HL4.out, HL9.out, HL13.out⟩ ?_
        · clear hW
          go_simp
        simp only [List.setIfInBounds_toArray, List.set_cons_zero, List.set_cons_succ]
        refine takeK (i := 3) (d := 99) (v := .agg #[.int .u64 z9, .slice pa9 pn9 pc9, .slice na9 nn9 nc9, .int .i64 h9, .int .u64 l9]) rfl rfl (by kernel_rfl) (by kernel_rfl) (by kernel_rfl) (by decide) (by kernel_rfl) (fun _ _ _ h => h) (Or.inl ⟨by rfl, fun W hW => ?_⟩) ⟨HL4.out, HL9.out, HL13.out⟩ ?_
        · obtain ⟨x0, x1, x2, x3, x4⟩ := hW.2.1.cells
          go_simp
        simp only [List.setIfInBounds_toArray, List.set_cons_zero, List.set_cons_succ]
        refine oneK (i := 4) (by kernel_rfl) rfl (fun K hK => ?_)
        rw [if_pos (by rfl)]
        go_simp
        refine (c_s_SketchRight HL9.out.sk.lp HL9.out.sk.ln HL9.out.sk.p20 HL9.out.sk.n20 HL9.out.sk.hP HL9.out.sk.hN HL9.out.sk.kP HL9.out.sk.kN).mono ?_
        rintro e u2 ⟨rfl, hc2⟩
        rw [HS9.out]
        replace HL4 := hide (HL4.out.past hc2)
        replace HL9 := hide (HL9.out.past hc2)
        replace HL13 := hide (HL13.out.past hc2)
        replace HBd := hide (chain HBd.out hc2)
        clear hc2
        dsimp only
        refine hK.out _ _ (fun _ => ⟨HL4.out, HL9.out, HL13.out⟩) ?_
        clear hK K
        try simp only [Act.put, List.setIfInBounds_toArray, List.set_cons_zero, List.set_cons_succ]
        refine takeK (i := 5) (d := 101) (v := .bool true) rfl rfl (by kernel_rfl) (by kernel_rfl) (by kernel_rfl) (by decide) (by kernel_rfl) (fun _ _ _ h => h) (Or.inl ⟨by rfl, fun W hW => ?_⟩) ⟨HL4.out, HL9.out, HL13.out⟩ ?_
        · clear hW
          go_simp
        simp only [List.setIfInBounds_toArray, List.set_cons_zero, List.set_cons_succ]
        refine takeK (i := 6) (d := 102) (v := .bool true) rfl rfl (by kernel_rfl) (by kernel_rfl) (by kernel_rfl) (by decide) (by kernel_rfl) (fun _ _ _ h => h) (Or.inl ⟨by rfl, fun W hW => ?_⟩) ⟨HL4.out, HL9.out, HL13.out⟩ ?_
        · clear hW
          go_simp
        simp only [List.setIfInBounds_toArray, List.set_cons_zero, List.set_cons_succ]
        refine takeK (i := 7) (d := 103) (v := .agg #[.int .u64 z13, .slice pa13 pn13 pc13, .slice na13 nn13 nc13, .int .i64 h13, .int .u64 l13]) rfl rfl (by kernel_rfl) (by kernel_rfl) (by kernel_rfl) (by decide) (by kernel_rfl) (fun _ _ _ h => h) (Or.inl ⟨by rfl, fun W hW => ?_⟩) ⟨HL4.out, HL9.out, HL13.out⟩ ?_
        · obtain ⟨x0, x1, x2, x3, x4⟩ := hW.2.2.cells
          go_simp
        simp only [List.setIfInBounds_toArray, List.set_cons_zero, List.set_cons_succ]
        refine takeK (i := 8) (d := 104) (v := .agg #[.int .u64 z9, .slice pa9 pn9 pc9, .slice na9 nn9 nc9, .int .i64 h9, .int .u64 l9]) rfl rfl (by kernel_rfl) (by kernel_rfl) (by kernel_rfl) (by decide) (by kernel_rfl) (fun _ _ _ h => h) (Or.inl ⟨by rfl, fun W hW => ?_⟩) ⟨HL4.out, HL9.out, HL13.out⟩ ?_
        · obtain ⟨x0, x1, x2, x3, x4⟩ := hW.2.1.cells
          go_simp
        simp only [List.setIfInBounds_toArray, List.set_cons_zero, List.set_cons_succ]
        refine takeK (i := 9) (d := 105) (v := .int .i64 v1) rfl rfl (by kernel_rfl) (by kernel_rfl) (by kernel_rfl) (by decide) (by kernel_rfl) (fun _ _ _ h => h) (Or.inl ⟨by rfl, fun W hW => ?_⟩) ⟨HL4.out, HL9.out, HL13.out⟩ ?_
        · clear hW
          go_simp
        simp only [List.setIfInBounds_toArray, List.set_cons_zero, List.set_cons_succ]
        refine takeK (i := 10) (d := 106) (v := .int .u64 x1) rfl rfl (by kernel_rfl) (by kernel_rfl) (by kernel_rfl) (by decide) (by kernel_rfl) (fun _ _ _ h => h) (Or.inl ⟨by rfl, fun W hW => ?_⟩) ⟨HL4.out, HL9.out, HL13.out⟩ ?_
        · clear hW
          go_simp
        simp only [List.setIfInBounds_toArray, List.set_cons_zero, List.set_cons_succ]
        refine oneK (i := 11) (by kernel_rfl) rfl (fun K hK => ?_)
        rw [if_pos (by rfl)]
        go_simp
        refine (c_i_SketchPut HL9.out.sk.hz HL9.out.sk.hl hv1 hu1 HL9.out.sk.lp HL9.out.sk.ln HL9.out.sk.p20 HL9.out.sk.n20 HL9.out.sk.hP HL9.out.sk.hN HL9.out.sk.kP HL9.out.sk.kN).mono ?_
        rintro e u3 ⟨v14, rfl, hb14, hq14⟩
        obtain ⟨z14, h14, l14, pa14, pn14, pc14, na14, nn14, nc14, P14, N14, rfl, I14, M14⟩ := put_ski HL9.out.sk hu1 hq14
        have HI14 := hide I14
        have HM14 := hide M14
        clear I14 M14 hq14
        replace HL4 := hide (HL4.out.past hb14)
        replace HL9 := hide (HL9.out.past hb14)
        replace HL13 := hide (HL13.out.past hb14)
        replace HBd := hide (chain HBd.out hb14)
        clear hb14
        dsimp only
        refine hK.out _ _ (fun _ => ⟨HL4.out, HL9.out, HL13.out⟩) ?_
        clear hK K
        try simp only [Act.put, List.setIfInBounds_toArray, List.set_cons_zero, List.set_cons_succ]
        refine oneK (i := 12) (by kernel_rfl) rfl (fun K hK => ?_)
        rw [if_pos (by rfl)]
        go_simp
        refine (c_s_SketchSame HL13.out.sk.lp HL13.out.sk.ln HI14.out.lp HI14.out.ln HL13.out.sk.p20 HL13.out.sk.n20 HI14.out.p20 HI14.out.n20 HL13.out.sk.hP HL13.out.sk.hN HI14.out.hP HI14.out.hN).mono ?_
        rintro e u4 ⟨rfl, hc4⟩
        rw [show sameS z13 h13 l13 P13 N13 z14 h14 l14 P14 N14 = true from same_of (HD.out _ HM14.out)]
        replace HL4 := hide (HL4.out.past hc4)
        replace HL9 := hide (HL9.out.past hc4)
        replace HL13 := hide (HL13.out.past hc4)
        replace HBd := hide (chain HBd.out hc4)
        clear hc4
        dsimp only
        refine hK.out _ _ (fun _ => ⟨HL4.out, HL9.out, HL13.out⟩) ?_
        clear hK K
        try simp only [Act.put, List.setIfInBounds_toArray, List.set_cons_zero, List.set_cons_succ]
        refine takeK (i := 13) (d := 109) (v := .bool true) rfl rfl (by kernel_rfl) (by kernel_rfl) (by kernel_rfl) (by decide) (by kernel_rfl) (fun _ _ _ h => h) (Or.inl ⟨by rfl, fun W hW => ?_⟩) ⟨HL4.out, HL9.out, HL13.out⟩ ?_
        · clear hW
          go_simp
        simp only [List.setIfInBounds_toArray, List.set_cons_zero, List.set_cons_succ]
        refine oneK (i := 14) (by kernel_rfl) rfl (fun K hK => ?_)
        go_simp
        refine hK.out _ _ (fun h => absurd rfl h) ?_
        clear hK K
        try simp only [Act.put, List.setIfInBounds_toArray, List.set_cons_zero, List.set_cons_succ]
        refine doneK (by kernel_rfl) ?_ _
        go_wp2
        go_ret
        exact ⟨rfl, HBd.out⟩
      have HREST := hide REST
      clear REST
      refine regionK (fun W' => (SkL W' r1 z1 h1 l1 pa1 pn1 pc1 na1 nn1 nc1 P1 N1 ∧ SkL W' r2 z2 h2 l2 pa2 pn2 pc2 na2 nn2 nc2 P2 N2 ∧ SkL W' r4 z4 h4 l4 pa4 pn4 pc4 na4 nn4 nc4 P4 N4 ∧ SkL W' r6 z6 h6 l6 pa6 pn6 pc6 na6 nn6 nc6 P6 N6 ∧ SkL W' r9 z9 h9 l9 pa9 pn9 pc9 na9 nn9 nc9 P9 N9)) 7 (by rfl) ?_
      replace HL1 := hide HL1.out.drew
      replace HL2 := hide HL2.out.drew
      replace HL4 := hide HL4.out.drew
      replace HL6 := hide HL6.out.drew
      replace HL9 := hide HL9.out.drew
      replace HBd := hide HBd.out.drew
      refine takeK (i := 0) (d := 90) (v := .agg #[.int .u64 z1, .slice pa1 pn1 pc1, .slice na1 nn1 nc1, .int .i64 h1, .int .u64 l1]) rfl rfl (by kernel_rfl) (by kernel_rfl) (by kernel_rfl) (by decide) (by kernel_rfl) (fun _ _ _ h => h) (Or.inl ⟨by rfl, fun W hW => ?_⟩) ⟨HL1.out, HL2.out, HL4.out, HL6.out, HL9.out⟩ ?_
      · obtain ⟨x0, x1, x2, x3, x4⟩ := hW.1.cells
        go_simp
      simp only [List.setIfInBounds_toArray, List.set_cons_zero, List.set_cons_succ]
      refine takeK (i := 1) (d := 91) (v := .int .i64 v1) rfl rfl (by kernel_rfl) (by kernel_rfl) (by kernel_rfl) (by decide) (by kernel_rfl) (fun _ _ _ h => h) (Or.inl ⟨by rfl, fun W hW => ?_⟩) ⟨HL1.out, HL2.out, HL4.out, HL6.out, HL9.out⟩ ?_
      · clear hW
        go_simp
      simp only [List.setIfInBounds_toArray, List.set_cons_zero, List.set_cons_succ]
      refine takeK (i := 2) (d := 92) (v := .int .u64 x1) rfl rfl (by kernel_rfl) (by kernel_rfl) (by kernel_rfl) (by decide) (by kernel_rfl) (fun _ _ _ h => h) (Or.inl ⟨by rfl, fun W hW => ?_⟩) ⟨HL1.out, HL2.out, HL4.out, HL6.out, HL9.out⟩ ?_
      · clear hW
        go_simp
      simp only [List.setIfInBounds_toArray, List.set_cons_zero, List.set_cons_succ]
      refine takeK (i := 4) (d := 94) (v := .agg #[.int .u64 z2, .slice pa2 pn2 pc2, .slice na2 nn2 nc2, .int .i64 h2, .int .u64 l2]) rfl rfl (by kernel_rfl) (by kernel_rfl) (by kernel_rfl) (by decide) (by kernel_rfl) (fun _ _ _ h => h) (Or.inl ⟨by rfl, fun W hW => ?_⟩) ⟨HL1.out, HL2.out, HL4.out, HL6.out, HL9.out⟩ ?_
      · obtain ⟨x0, x1, x2, x3, x4⟩ := hW.2.1.cells
        go_simp
      simp only [List.setIfInBounds_toArray, List.set_cons_zero, List.set_cons_succ]
      refine twoK (i := 3) (j := 6) (by kernel_rfl) rfl rfl (fun K hK => ?_) (fun K hK => ?_)
      · go_simp
        refine (c_i_SketchPut HL1.out.sk.hz HL1.out.sk.hl hv1 hu1 HL1.out.sk.lp HL1.out.sk.ln HL1.out.sk.p20 HL1.out.sk.n20 HL1.out.sk.hP HL1.out.sk.hN HL1.out.sk.kP HL1.out.sk.kN).mono ?_
        rintro e w18 ⟨v12, rfl, hb12, hq12⟩
        obtain ⟨z12, h12, l12, pa12, pn12, pc12, na12, nn12, nc12, P12, N12, rfl, I12, M12⟩ := put_ski HL1.out.sk hu1 hq12
        have HI12 := hide I12
        have HM12 := hide M12
        clear I12 M12 hq12
        replace HL1 := hide (HL1.out.past hb12)
        replace HL2 := hide (HL2.out.past hb12)
        replace HL4 := hide (HL4.out.past hb12)
        replace HL6 := hide (HL6.out.past hb12)
        replace HL9 := hide (HL9.out.past hb12)
        replace HBd := hide (chain HBd.out hb12)
        clear hb12
        dsimp only
        refine hK.out _ _ (fun _ => ⟨HL1.out, HL2.out, HL4.out, HL6.out, HL9.out⟩) ?_
        clear hK K
        try simp only [Act.put, List.setIfInBounds_toArray, List.set_cons_zero, List.set_cons_succ]
        refine twoK (i := 5) (j := 6) (by kernel_rfl) rfl rfl (fun K hK => ?_) (fun K hK => ?_)
        · go_simp
          refine (c_i_SketchMerge HI12.out.hz HI12.out.hl HL2.out.sk.hz HL2.out.sk.hl HI12.out.lp HI12.out.ln HL2.out.sk.lp HL2.out.sk.ln HI12.out.p20 HI12.out.n20 HL2.out.sk.p20 HL2.out.sk.n20 HI12.out.hP HI12.out.hN HL2.out.sk.hP HL2.out.sk.hN HI12.out.kP HI12.out.kN HL2.out.sk.kP HL2.out.sk.kN).mono ?_
          rintro e w19 ⟨v13, rfl, hb13, hq13⟩
          obtain ⟨z13, h13, l13, pa13, pn13, pc13, na13, nn13, nc13, P13, N13, rfl, I13, M13, o13, o13'⟩ := mrg_skO HI12.out HL2.out.sk hq13
          have HD13 : Hid (∀ d : T5, PutIs ⟨z9, P9, N9, h9, l9⟩ d v1 x1 → ⟨z13, P13, N13, h13, l13⟩ = d) := fun d hd => put_mrg G12.out.1 G12.out.2 hu1 HM12.out M13 HM9.out hd
          have HI13 := hide I13
          have HO13 := hide o13
          have HP13 := hide o13'
          clear I13 o13 o13' M13 hq13
          replace HL1 := hide (HL1.out.past hb13)
          replace HL2 := hide (HL2.out.past hb13)
          replace HL4 := hide (HL4.out.past hb13)
          replace HL6 := hide (HL6.out.past hb13)
          replace HL9 := hide (HL9.out.past hb13)
          replace HBd := hide (chain HBd.out hb13)
          clear hb13
          dsimp only
          refine hK.out _ _ (fun _ => ⟨HL1.out, HL2.out, HL4.out, HL6.out, HL9.out⟩) ?_
          clear hK K
          try simp only [Act.put, List.setIfInBounds_toArray, List.set_cons_zero, List.set_cons_succ]
          have hal : Below w19.heap.size w19 (w19.alloc (.cells zeroSk 28)) := (Below.refl _ _).alloc (Nat.le_refl _) _
          have rowz : (w19.alloc (.cells zeroSk 28)).heap[w19.heap.size]? = some (.cells zeroSk 28 (0, 0)) := heap_alloc_new w19 _
          refine oneK (i := 6) (by kernel_rfl) rfl (fun K hK => ?_)
          go_simp
          refine hK.out _ _ (fun _ => ⟨HL1.out.past hal, HL2.out.past hal, HL4.out.past hal, HL6.out.past hal, HL9.out.past hal⟩) ?_
          clear hK K
          try simp only [Act.put, List.setIfInBounds_toArray, List.set_cons_zero, List.set_cons_succ]
          have I13' := HI13.out.past hal
          have o1' := HO13.out.past hal
          have o2' := HP13.out.past hal
          obtain ⟨q0, q1, q2, q3, q4⟩ := cell5 rowz
          have e0 := frozen_of_row (w19.alloc (.cells zeroSk 28)) w19.heap.size 0 _ _ rowz
          have e1 := frozen_of_row (w19.alloc (.cells zeroSk 28)) w19.heap.size 1 _ _ rowz
          have e2 := frozen_of_row (w19.alloc (.cells zeroSk 28)) w19.heap.size 2 _ _ rowz
          have e3 := frozen_of_row (w19.alloc (.cells zeroSk 28)) w19.heap.size 3 _ _ rowz
          have e4 := frozen_of_row (w19.alloc (.cells zeroSk 28)) w19.heap.size 4 _ _ rowz
          clear I13' o1' o2'
          have HF := hide (SkL.made HI13.out)
          have HX : Hid (Below w19.heap.size w19 (w19.alloc (.cells #[.int .u64 z13, .slice pa13 pn13 pc13, .slice na13 nn13 nc13, .int .i64 h13, .int .u64 l13] 28))) := ((Below.refl _ _).alloc (Nat.le_refl _) _ : Below w19.heap.size w19 (w19.alloc (.cells #[.int .u64 z13, .slice pa13 pn13 pc13, .slice na13 nn13 nc13, .int .i64 h13, .int .u64 l13] 28)))
          refine oneK (i := 7) (by kernel_rfl) rfl (fun K hK => ?_)
          go_simp
          refine hK.out _ _ (fun h => absurd rfl h) ?_
          clear hK K
          try simp only [Act.put, List.setIfInBounds_toArray, List.set_cons_zero, List.set_cons_succ]
          refine doneK (by kernel_rfl) ?_ _
          exact HREST.out _ _ z13 h13 l13 pa13 pn13 pc13 na13 nn13 nc13 P13 N13 _ _ (hide (HL1.out.past HX.out)) (hide (HL2.out.past HX.out)) (hide (HL4.out.past HX.out)) (hide (HL6.out.past HX.out)) (hide (HL9.out.past HX.out)) HF (hide (chain HBd.out HX.out)) HD13
        · go_simp
          have hal : Below w18.heap.size w18 (w18.alloc (.cells zeroSk 28)) := (Below.refl _ _).alloc (Nat.le_refl _) _
          have rowz : (w18.alloc (.cells zeroSk 28)).heap[w18.heap.size]? = some (.cells zeroSk 28 (0, 0)) := heap_alloc_new w18 _
          refine hK.out _ _ (fun _ => ⟨HL1.out.past hal, HL2.out.past hal, HL4.out.past hal, HL6.out.past hal, HL9.out.past hal⟩) ?_
          clear hK K
          try simp only [Act.put, List.setIfInBounds_toArray, List.set_cons_zero, List.set_cons_succ]
          refine oneK (i := 5) (by kernel_rfl) rfl (fun K hK => ?_)
          go_simp
          have J2 := (HL2.out.past hal).sk
          have J12 := HI12.out.past hal
          refine (c_i_SketchMerge J12.hz J12.hl J2.hz J2.hl J12.lp J12.ln J2.lp J2.ln J12.p20 J12.n20 J2.p20 J2.n20 J12.hP J12.hN J2.hP J2.hN J12.kP J12.kN J2.kP J2.kN).mono ?_
          rintro e w19 ⟨v13, rfl, hb13, hq13⟩
          obtain ⟨z13, h13, l13, pa13, pn13, pc13, na13, nn13, nc13, P13, N13, rfl, I13, M13, o13, o13'⟩ := mrg_skO J12 J2 hq13
          have HD13 : Hid (∀ d : T5, PutIs ⟨z9, P9, N9, h9, l9⟩ d v1 x1 → ⟨z13, P13, N13, h13, l13⟩ = d) := fun d hd => put_mrg G12.out.1 G12.out.2 hu1 HM12.out M13 HM9.out hd
          have HI13 := hide I13
          have HO13 := hide o13
          have HP13 := hide o13'
          clear I13 o13 o13' M13 hq13
          have rowy : w19.heap[w18.heap.size]? = some (.cells zeroSk 28 (0, 0)) := by rw [hb13.block _ (Array.getElem?_eq_some_iff.1 rowz).1]; exact rowz
          have hal2 := chain hal hb13
          dsimp only
          refine hK.out _ _ (fun _ => ⟨HL1.out.past hal2, HL2.out.past hal2, HL4.out.past hal2, HL6.out.past hal2, HL9.out.past hal2⟩) ?_
          clear hK K
          try simp only [Act.put, List.setIfInBounds_toArray, List.set_cons_zero, List.set_cons_succ]
          have I13' := HI13.out
          have o1' := HO13.out
          have o2' := HP13.out
          obtain ⟨q0, q1, q2, q3, q4⟩ := cell5 rowy
          have e0 := frozen_of_row w19 w18.heap.size 0 _ _ rowy
          have e1 := frozen_of_row w19 w18.heap.size 1 _ _ rowy
          have e2 := frozen_of_row w19 w18.heap.size 2 _ _ rowy
          have e3 := frozen_of_row w19 w18.heap.size 3 _ _ rowy
          have e4 := frozen_of_row w19 w18.heap.size 4 _ _ rowy
          have HF := hide (SkI.store I13' o1' o2' rowy)
          clear I13' o1' o2'
          have HX : Hid (Below w18.heap.size w18 (sk5 w19 w18.heap.size z13 (.slice pa13 pn13 pc13) (.slice na13 nn13 nc13) h13 l13)) := (bel5 hal2 (Nat.le_refl _) : Below w18.heap.size w18 (sk5 w19 w18.heap.size z13 (.slice pa13 pn13 pc13) (.slice na13 nn13 nc13) h13 l13))
          refine oneK (i := 7) (by kernel_rfl) rfl (fun K hK => ?_)
          go_simp
          refine hK.out _ _ (fun h => absurd rfl h) ?_
          clear hK K
          try simp only [Act.put, List.setIfInBounds_toArray, List.set_cons_zero, List.set_cons_succ]
          refine doneK (by kernel_rfl) ?_ _
          exact HREST.out _ _ z13 h13 l13 pa13 pn13 pc13 na13 nn13 nc13 P13 N13 _ _ (hide (HL1.out.past HX.out)) (hide (HL2.out.past HX.out)) (hide (HL4.out.past HX.out)) (hide (HL6.out.past HX.out)) (hide (HL9.out.past HX.out)) HF (hide (chain HBd.out HX.out)) HD13
      · go_simp
        have hal : Below w17.drew.heap.size w17.drew (w17.drew.alloc (.cells zeroSk 28)) := (Below.refl _ _).alloc (Nat.le_refl _) _
        have rowz : (w17.drew.alloc (.cells zeroSk 28)).heap[w17.heap.size]? = some (.cells zeroSk 28 (0, 0)) := heap_alloc_new w17.drew _
        refine hK.out _ _ (fun _ => ⟨HL1.out.past hal, HL2.out.past hal, HL4.out.past hal, HL6.out.past hal, HL9.out.past hal⟩) ?_
        clear hK K
        try simp only [Act.put, List.setIfInBounds_toArray, List.set_cons_zero, List.set_cons_succ]
        refine oneK (i := 3) (by kernel_rfl) rfl (fun K hK => ?_)
        go_simp
        have J1 := (HL1.out.past hal).sk
        refine (c_i_SketchPut J1.hz J1.hl hv1 hu1 J1.lp J1.ln J1.p20 J1.n20 J1.hP J1.hN J1.kP J1.kN).mono ?_
        rintro e w18 ⟨v12, rfl, hb12, hq12⟩
        obtain ⟨z12, h12, l12, pa12, pn12, pc12, na12, nn12, nc12, P12, N12, rfl, I12, M12⟩ := put_ski J1 hu1 hq12
        have HI12 := hide I12
        have HM12 := hide M12
        clear I12 M12 hq12
        have rowx : w18.heap[w17.heap.size]? = some (.cells zeroSk 28 (0, 0)) := by rw [hb12.block _ (Array.getElem?_eq_some_iff.1 rowz).1]; exact rowz
        have hal2 := chain hal hb12
        dsimp only
        refine hK.out _ _ (fun _ => ⟨HL1.out.past hal2, HL2.out.past hal2, HL4.out.past hal2, HL6.out.past hal2, HL9.out.past hal2⟩) ?_
        clear hK K
        try simp only [Act.put, List.setIfInBounds_toArray, List.set_cons_zero, List.set_cons_succ]
        refine oneK (i := 5) (by kernel_rfl) rfl (fun K hK => ?_)
        go_simp
        have J2 := (HL2.out.past hal2).sk
        refine (c_i_SketchMerge HI12.out.hz HI12.out.hl J2.hz J2.hl HI12.out.lp HI12.out.ln J2.lp J2.ln HI12.out.p20 HI12.out.n20 J2.p20 J2.n20 HI12.out.hP HI12.out.hN J2.hP J2.hN HI12.out.kP HI12.out.kN J2.kP J2.kN).mono ?_
        rintro e w19 ⟨v13, rfl, hb13, hq13⟩
        obtain ⟨z13, h13, l13, pa13, pn13, pc13, na13, nn13, nc13, P13, N13, rfl, I13, M13, o13, o13'⟩ := mrg_skO HI12.out J2 hq13
        have HD13 : Hid (∀ d : T5, PutIs ⟨z9, P9, N9, h9, l9⟩ d v1 x1 → ⟨z13, P13, N13, h13, l13⟩ = d) := fun d hd => put_mrg G12.out.1 G12.out.2 hu1 HM12.out M13 HM9.out hd
        have HI13 := hide I13
        have HO13 := hide o13
        have HP13 := hide o13'
        clear I13 o13 o13' M13 hq13
        have rowy : w19.heap[w17.heap.size]? = some (.cells zeroSk 28 (0, 0)) := by rw [hb13.block _ (Array.getElem?_eq_some_iff.1 rowx).1]; exact rowx
        have hal3 := chain hal2 hb13
        dsimp only
        refine hK.out _ _ (fun _ => ⟨HL1.out.past hal3, HL2.out.past hal3, HL4.out.past hal3, HL6.out.past hal3, HL9.out.past hal3⟩) ?_
        clear hK K
        try simp only [Act.put, List.setIfInBounds_toArray, List.set_cons_zero, List.set_cons_succ]
        have I13' := HI13.out
        have o1' := HO13.out
        have o2' := HP13.out
        obtain ⟨q0, q1, q2, q3, q4⟩ := cell5 rowy
        have e0 := frozen_of_row w19 w17.heap.size 0 _ _ rowy
        have e1 := frozen_of_row w19 w17.heap.size 1 _ _ rowy
        have e2 := frozen_of_row w19 w17.heap.size 2 _ _ rowy
        have e3 := frozen_of_row w19 w17.heap.size 3 _ _ rowy
        have e4 := frozen_of_row w19 w17.heap.size 4 _ _ rowy
        have HF := hide (SkI.store I13' o1' o2' rowy)
        clear I13' o1' o2'
        have HX : Hid (Below w17.drew.heap.size w17.drew (sk5 w19 w17.heap.size z13 (.slice pa13 pn13 pc13) (.slice na13 nn13 nc13) h13 l13)) := (bel5 hal3 (Nat.le_refl _) : Below w17.drew.heap.size w17.drew (sk5 w19 w17.heap.size z13 (.slice pa13 pn13 pc13) (.slice na13 nn13 nc13) h13 l13))
        refine oneK (i := 7) (by kernel_rfl) rfl (fun K hK => ?_)
        go_simp
        refine hK.out _ _ (fun h => absurd rfl h) ?_
        clear hK K
        try simp only [Act.put, List.setIfInBounds_toArray, List.set_cons_zero, List.set_cons_succ]
        refine doneK (by kernel_rfl) ?_ _
        exact HREST.out _ _ z13 h13 l13 pa13 pn13 pc13 na13 nn13 nc13 P13 N13 _ _ (hide (HL1.out.past HX.out)) (hide (HL2.out.past HX.out)) (hide (HL4.out.past HX.out)) (hide (HL6.out.past HX.out)) (hide (HL9.out.past HX.out)) HF (hide (chain HBd.out HX.out)) HD13
theorem own : ownKnob Try.prog.godebug = none := by kernel_rfl
theorem laidOut : laidOutB Try.prog = true := by kernel_rfl

set_option maxRecDepth 100000 in
theorem liftedSketch (os : Os) (started : os.Started) (H : Type) (enc : TypeId × Value → H) :
    ReturnsInHanded {} Try.checked os 3 .any (Rows.fnSketchSpec.pre6 enc Try.prog Try.f3 Rows.fnSketchRow.domain false) (Rows.fnSketchSpec.post enc Try.prog Try.f3 false true false false) := by
  refine returnsInHanded_of_change (C := Try.checked) own started (by kernel_rfl) Try.func3
    (ChangeSpec.witness6 (enc := enc) (C := Try.checked) false ⟨#[], #[.slice none 0 0, .slice none 0 0], []⟩ 8 (by kernel_rfl) (by kernel_rfl) (by kernel_rfl) (by kernel_rfl)) ?_
  intro W base args ds gs before hval0 hW hcnd _
  have hval : ∀ (j : Nat) t v, Try.f3.params[j]? = some t → args[j]? = some v → Value.okWide Try.prog W .any base t v := hval0
  have hW' := hW
  obtain ⟨p, q, hA0, hV, rfl, hfz, hnd⟩ := hW
  have hA : DataW.TrodAll enc Try.prog W 0 (fun _ => true) true Try.f3.params.toList args.toList ds p := hA0
  rw [Try.params3] at hA hval
  obtain ⟨v0, vs0, d0, ds0, p0, q0, hargs, rfl, rfl, h0, r0⟩ := trodAll_cons hA
  obtain ⟨v1, vs1, d1, ds1, p1, q1, rfl, rfl, rfl, h1, r1⟩ := trodAll_cons r0
  obtain ⟨rfl, rfl, rfl⟩ := trodAll_nil r1
  obtain rfl : args = #[v0, v1] := by cases args; simp_all
  obtain ⟨rfl, rfl⟩ := trodVars_none hV
  have k0 := h0
  have lt0 : ∀ x ∈ p0, x.block < W.heap.size := by obtain ⟨m, hm⟩ := k0; exact DataW.trod_lt m _ _ _ hm
  obtain ⟨a0, n0, c0, rfl, m0, s0⟩ := open_code (hval 0 22 v0 rfl rfl) h0
  have k1 := h1
  have lt1 : ∀ x ∈ p1, x.block < W.heap.size := by obtain ⟨m, hm⟩ := k1; exact DataW.trod_lt m _ _ _ hm
  obtain ⟨a1, n1, c1, rfl, m1, s1⟩ := open_code (hval 1 22 v1 rfl rfl) h1
  clear hA0 hval0
  refine (walkSketch a0 n0 c0 a1 n1 c1 W m0 s0 m1 s1).mono fun e W' ⟨he, bel⟩ => ?_
  subst he
  exact ⟨_, rfl, _, _, _, [], _, [], hW', trodAll_mk1 (shut_bool Try.underlying4 _), (trodAll_cons_mk (Below.trod laidOut (by kernel_rfl) (of_decide_eq_true (by kernel_rfl)) k0 bel lt0) (trodAll_cons_mk (Below.trod laidOut (by kernel_rfl) (of_decide_eq_true (by kernel_rfl)) k1 bel lt1) trodAll_mk0)), rfl, bel.frame _, fun h => by cases h⟩

theorem overSketch : Rows.fnSketchRow.holds Try.pinned (OpenSpec.ofChange Rows.fnSketchSpec) :=
  OpenClaim.holds_of_wide 3 Try.f3 rfl rfl rfl rfl rfl rfl rfl ⟨rfl, rfl, rfl, rfl, rfl⟩ rfl rfl rfl rfl rfl (by kernel_rfl) Try.func3 (by kernel_rfl)
    (of_decide_eq_true (by kernel_rfl)) (by unfold Func.isWrapper; first | (rw [if_pos (by decide +kernel)]; kernel_rfl) | (rw [if_neg (by decide +kernel)]; exact ⟨rfl, rfl⟩))
    (fun os started H enc _ => liftedSketch os started H enc)

theorem fnSketch_holds : Rows.FnSketchSaid := overSketch
#print axioms fnSketch_holds

end Go.Proofs.Ytimocbbaplghoaa
