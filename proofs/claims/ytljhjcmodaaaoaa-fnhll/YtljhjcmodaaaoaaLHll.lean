/-
  The law FnHll: hashes are put in any order, once or twice, and ahead of bringing together or behind; either way round, and with themselves; they stay right, and are counted as the model counts. No condition.
-/
import Derived.Test.YtljhjcmodaaaoaaDrawI
import Derived.Test.YtljhjcmodaaaoaaOpenC
namespace Go.Proofs.Ytljhjcmodaaaoaa
set_option linter.unusedVariables false
set_option linter.unusedSimpArgs false
open Go.ChangeShapes Go.WideShapes Go.ChangeAt Go.RowKit Go.PlainAid
set_option maxRecDepth 10000

theorem PutH.one {E R E1 R1 E2 R2 : List Int} {x : Int} (h : PutH E R x E1 R1) (g : PutH E R x E2 R2) : E1 = E2 ∧ R1 = R2 := by
  unfold PutH at h g
  split at h
  · rw [if_pos (by assumption)] at g; exact h.one g
  · rw [if_neg (by assumption)] at g; exact ⟨h.1.trans g.1.symm, h.2.trans g.2.symm⟩
set_option maxHeartbeats 4000000 in
theorem walkHll (ao : Option Addr) (ln cap : Nat) (bo : Option Addr) (lm cbp : Nat) (w : World) (hl : ln ≤ maxLen) (ha : ln ≤ 1048576 → CodeAt w w.heap.size ao ln) (hm : lm ≤ maxLen) (hb : lm ≤ 1048576 → CodeAt w w.heap.size bo lm) :
    Calls Try.prog 4 #[.slice ao ln cap, .slice bo lm cbp] w fun e w' => e = .returned (.bool true) ∧ Below w.heap.size w w' := by
  have hlz : ln ≤ 9223372036854775807 := hl
  have hmz : lm ≤ 9223372036854775807 := hm
  by_cases hl1 : 1048576 < ln
  · have hl1i : (1048576 : Int) < (ln : Int) := by omega
    clear ha hb
    go_enter Try.func4, Try.ntmps4
    go_wp2
    go_ret
    exact ⟨rfl, Below.refl _ _⟩
  have hl1i : ¬ (1048576 : Int) < (ln : Int) := by omega
  by_cases hm1 : 1048576 < lm
  · have hm1i : (1048576 : Int) < (lm : Int) := by omega
    clear ha hb
    go_enter Try.func4, Try.ntmps4
    go_wp2
    go_ret
    exact ⟨rfl, Below.refl _ _⟩
  have hm1i : ¬ (1048576 : Int) < (lm : Int) := by omega
  have HA := hide (ha (by omega))
  have HB := hide (hb (by omega))
  clear ha hb
  have HBd := hide (Below.refl w.heap.size w)
  go_enter Try.func4, Try.ntmps4
  go_wp2_with fail
  refine (c_DrawHllPut HA.out).mono ?_
  rintro e w1 ⟨ea1, en1, ec1, ra1, rn1, rc1, E1, R1, x1, rfl, hx1, I1, hb1⟩
  have HI1 := hide I1
  clear I1
  replace HBd := hide (chain HBd.out hb1)
  clear hb1
  have hal : Below w1.heap.size w1 (w1.alloc (.cells #[.slice ea1 en1 ec1, .slice ra1 rn1 rc1] 27)) := (Below.refl _ _).alloc (Nat.le_refl _) _
  have HL1 := hide (HlL.made HI1.out)
  replace HBd := hide (chain HBd.out hal)
  clear hal
  go_wp2_with fail
  generalize w1.alloc (.cells #[.slice ea1 en1 ec1, .slice ra1 rn1 rc1] 27) = W1 at HL1  HBd ⊢
  generalize w1.heap.size = r1 at HL1 ⊢
  refine (c_DrawHllPut (codeAt_in HB.out HBd.out (Nat.le_refl _) HBd.out.size)).mono ?_
  rintro e w2 ⟨ea2, en2, ec2, ra2, rn2, rc2, E2, R2, x2, rfl, hx2, I2, hb2⟩
  have HI2 := hide I2
  clear I2 HI1
  replace HL1 := hide (HL1.out.past hb2)
  replace HBd := hide (chain HBd.out hb2)
  clear hb2
  have hal : Below w2.heap.size w2 (w2.alloc (.cells #[.slice ea2 en2 ec2, .slice ra2 rn2 rc2] 27)) := (Below.refl _ _).alloc (Nat.le_refl _) _
  have HL2 := hide (HlL.made HI2.out)
  replace HL1 := hide (HL1.out.past hal)
  replace HBd := hide (chain HBd.out hal)
  clear hal
  obtain ⟨a0, a1⟩ := HL1.out.cells
  go_wp2_with fail
  clear a0 a1
  generalize w2.alloc (.cells #[.slice ea2 en2 ec2, .slice ra2 rn2 rc2] 27) = W2 at HL1 HL2  HBd ⊢
  generalize w2.heap.size = r2 at HL2 ⊢
  clear HI2
  refine (c_i_HllPut _ HL1.out.hl.le HL1.out.hl.lr HL1.out.hl.n9 HL1.out.hl.m9 HL1.out.hl.fe HL1.out.hl.fr HL1.out.hl.hE HL1.out.hl.hR HL1.out.hl.u hx1).mono ?_
  rintro e w3 ⟨v3, E3, R3, rfl, hp3, ho3, hb3⟩
  obtain ⟨ea3, en3, ec3, ra3, rn3, rc3, rfl, I3⟩ := put_hl HL1.out.hl hx1 ho3 hp3
  have HI3 := hide I3
  have HM3 := hide hp3
  clear I3 hp3 ho3
  replace HL1 := hide (HL1.out.past hb3)
  replace HL2 := hide (HL2.out.past hb3)
  replace HBd := hide (chain HBd.out hb3)
  clear hb3
  go_wp2_with fail
  refine (c_i_HllPut _ HI3.out.le HI3.out.lr HI3.out.n9 HI3.out.m9 HI3.out.fe HI3.out.fr HI3.out.hE HI3.out.hR HI3.out.u hx2).mono ?_
  rintro e w4 ⟨v4, E4, R4, rfl, hp4, ho4, hb4⟩
  obtain ⟨ea4, en4, ec4, ra4, rn4, rc4, rfl, I4⟩ := put_hl HI3.out hx2 ho4 hp4
  have HI4 := hide I4
  have HM4 := hide hp4
  clear I4 hp4 ho4
  replace HL1 := hide (HL1.out.past hb4)
  replace HL2 := hide (HL2.out.past hb4)
  replace HBd := hide (chain HBd.out hb4)
  clear hb4
  have hal : Below w4.heap.size w4 (w4.alloc (.cells #[.slice ea4 en4 ec4, .slice ra4 rn4 rc4] 27)) := (Below.refl _ _).alloc (Nat.le_refl _) _
  have HL4 := hide (HlL.made HI4.out)
  replace HL1 := hide (HL1.out.past hal)
  replace HL2 := hide (HL2.out.past hal)
  replace HBd := hide (chain HBd.out hal)
  clear hal
  obtain ⟨a0, a1⟩ := HL1.out.cells
  go_wp2_with fail
  clear a0 a1
  generalize w4.alloc (.cells #[.slice ea4 en4 ec4, .slice ra4 rn4 rc4] 27) = W4 at HL1 HL2 HL4  HBd ⊢
  generalize w4.heap.size = r4 at HL4 ⊢
  clear HI4 HI3
  refine (c_i_HllPut _ HL1.out.hl.le HL1.out.hl.lr HL1.out.hl.n9 HL1.out.hl.m9 HL1.out.hl.fe HL1.out.hl.fr HL1.out.hl.hE HL1.out.hl.hR HL1.out.hl.u hx2).mono ?_
  rintro e w5 ⟨v5, E5, R5, rfl, hp5, ho5, hb5⟩
  obtain ⟨ea5, en5, ec5, ra5, rn5, rc5, rfl, I5⟩ := put_hl HL1.out.hl hx2 ho5 hp5
  have HI5 := hide I5
  have HM5 := hide hp5
  clear I5 hp5 ho5
  replace HL1 := hide (HL1.out.past hb5)
  replace HL2 := hide (HL2.out.past hb5)
  replace HL4 := hide (HL4.out.past hb5)
  replace HBd := hide (chain HBd.out hb5)
  clear hb5
  go_wp2_with fail
  refine (c_i_HllPut _ HI5.out.le HI5.out.lr HI5.out.n9 HI5.out.m9 HI5.out.fe HI5.out.fr HI5.out.hE HI5.out.hR HI5.out.u hx1).mono ?_
  rintro e w6 ⟨v6, E6, R6, rfl, hp6, ho6, hb6⟩
  obtain ⟨ea6, en6, ec6, ra6, rn6, rc6, rfl, I6⟩ := put_hl HI5.out hx1 ho6 hp6
  have HI6 := hide I6
  have HM6 := hide hp6
  clear I6 hp6 ho6
  replace HL1 := hide (HL1.out.past hb6)
  replace HL2 := hide (HL2.out.past hb6)
  replace HL4 := hide (HL4.out.past hb6)
  replace HBd := hide (chain HBd.out hb6)
  clear hb6
  go_wp2_with fail
  refine (c_i_HllPut _ HI6.out.le HI6.out.lr HI6.out.n9 HI6.out.m9 HI6.out.fe HI6.out.fr HI6.out.hE HI6.out.hR HI6.out.u hx2).mono ?_
  rintro e w7 ⟨v7, E7, R7, rfl, hp7, ho7, hb7⟩
  obtain ⟨ea7, en7, ec7, ra7, rn7, rc7, rfl, I7⟩ := put_hl HI6.out hx2 ho7 hp7
  have HI7 := hide I7
  have HM7 := hide hp7
  clear I7 hp7 ho7
  replace HL1 := hide (HL1.out.past hb7)
  replace HL2 := hide (HL2.out.past hb7)
  replace HL4 := hide (HL4.out.past hb7)
  replace HBd := hide (chain HBd.out hb7)
  clear hb7
  have hal : Below w7.heap.size w7 (w7.alloc (.cells #[.slice ea7 en7 ec7, .slice ra7 rn7 rc7] 27)) := (Below.refl _ _).alloc (Nat.le_refl _) _
  have HL7 := hide (HlL.made HI7.out)
  replace HL1 := hide (HL1.out.past hal)
  replace HL2 := hide (HL2.out.past hal)
  replace HL4 := hide (HL4.out.past hal)
  replace HBd := hide (chain HBd.out hal)
  clear hal
  go_wp2_with fail
  generalize w7.alloc (.cells #[.slice ea7 en7 ec7, .slice ra7 rn7 rc7] 27) = W7 at HL1 HL2 HL4 HL7  HBd ⊢
  generalize w7.heap.size = r7 at HL7 ⊢
  clear HI5 HI6 HI7
  refine regionK (fun W' => (HlL W' r1 ea1 en1 ec1 ra1 rn1 rc1 E1 R1 ∧ HlL W' r2 ea2 en2 ec2 ra2 rn2 rc2 E2 R2 ∧ HlL W' r4 ea4 en4 ec4 ra4 rn4 rc4 E4 R4 ∧ HlL W' r7 ea7 en7 ec7 ra7 rn7 rc7 E7 R7)) 21 (by rfl) ?_
  replace HL1 := hide HL1.out.drew
  replace HL2 := hide HL2.out.drew
  replace HL4 := hide HL4.out.drew
  replace HL7 := hide HL7.out.drew
  replace HBd := hide HBd.out.drew
  refine takeK (i := 0) (d := 42) (v := .agg #[.slice ea1 en1 ec1, .slice ra1 rn1 rc1]) rfl rfl (by kernel_rfl) (by kernel_rfl) (by kernel_rfl) (by decide) (by kernel_rfl) (fun _ _ _ h => h) (Or.inl ⟨by rfl, fun W hW => ?_⟩) ⟨HL1.out, HL2.out, HL4.out, HL7.out⟩ ?_
  · obtain ⟨x0, x1⟩ := hW.1.cells
    go_simp
  simp only [List.setIfInBounds_toArray, List.set_cons_zero, List.set_cons_succ]
  refine takeK (i := 1) (d := 43) (v := .int .u64 x1) rfl rfl (by kernel_rfl) (by kernel_rfl) (by kernel_rfl) (by decide) (by kernel_rfl) (fun _ _ _ h => h) (Or.inl ⟨by rfl, fun W hW => ?_⟩) ⟨HL1.out, HL2.out, HL4.out, HL7.out⟩ ?_
  · clear hW
    go_simp
  simp only [List.setIfInBounds_toArray, List.set_cons_zero, List.set_cons_succ]
  refine takeK (i := 3) (d := 45) (v := .agg #[.slice ea1 en1 ec1, .slice ra1 rn1 rc1]) rfl rfl (by kernel_rfl) (by kernel_rfl) (by kernel_rfl) (by decide) (by kernel_rfl) (fun _ _ _ h => h) (Or.inl ⟨by rfl, fun W hW => ?_⟩) ⟨HL1.out, HL2.out, HL4.out, HL7.out⟩ ?_
  · obtain ⟨x0, x1⟩ := hW.1.cells
    go_simp
  simp only [List.setIfInBounds_toArray, List.set_cons_zero, List.set_cons_succ]
  refine takeK (i := 4) (d := 46) (v := .int .u64 x1) rfl rfl (by kernel_rfl) (by kernel_rfl) (by kernel_rfl) (by decide) (by kernel_rfl) (fun _ _ _ h => h) (Or.inl ⟨by rfl, fun W hW => ?_⟩) ⟨HL1.out, HL2.out, HL4.out, HL7.out⟩ ?_
  · clear hW
    go_simp
  simp only [List.setIfInBounds_toArray, List.set_cons_zero, List.set_cons_succ]
  refine oneK (i := 2) (by kernel_rfl) rfl (fun K hK => ?_)
  go_simp
  refine (c_i_HllPut _ HL1.out.hl.le HL1.out.hl.lr HL1.out.hl.n9 HL1.out.hl.m9 HL1.out.hl.fe HL1.out.hl.fr HL1.out.hl.hE HL1.out.hl.hR HL1.out.hl.u hx1).mono ?_
  rintro e w8 ⟨v8, E8, R8, rfl, hp8, ho8, hb8⟩
  obtain ⟨ea8, en8, ec8, ra8, rn8, rc8, rfl, I8⟩ := put_hl HL1.out.hl hx1 ho8 hp8
  have HI8 := hide I8
  have HM8 := hide hp8
  clear I8 hp8 ho8
  replace HL1 := hide (HL1.out.past hb8)
  replace HL2 := hide (HL2.out.past hb8)
  replace HL4 := hide (HL4.out.past hb8)
  replace HL7 := hide (HL7.out.past hb8)
  replace HBd := hide (chain HBd.out hb8)
  clear hb8
  dsimp only
  refine hK.out _ _ (fun _ => ⟨HL1.out, HL2.out, HL4.out, HL7.out⟩) ?_
  clear hK K
  try simp only [Act.put, List.setIfInBounds_toArray, List.set_cons_zero, List.set_cons_succ]
  refine oneK (i := 5) (by kernel_rfl) rfl (fun K hK => ?_)
  go_simp
  refine (c_s_HllPut _ HL1.out.hl.le HL1.out.hl.lr HL1.out.hl.n9 HL1.out.hl.m9 HL1.out.hl.nc HL1.out.hl.cm HL1.out.hl.fe HL1.out.hl.ce HL1.out.hl.cr HL1.out.hl.hE HL1.out.hl.hR HL1.out.hl.k HL1.out.hl.u hx1).mono ?_
  rintro e w9 ⟨v9, E9, R9, rfl, hp9, ho9, hb9⟩
  obtain ⟨ea9, en9, ec9, ra9, rn9, rc9, rfl, I9⟩ := put_hl HL1.out.hl hx1 ho9 hp9
  have HI9 := hide I9
  have HM9 := hide hp9
  clear I9 hp9 ho9
  replace HL1 := hide (HL1.out.past hb9)
  replace HL2 := hide (HL2.out.past hb9)
  replace HL4 := hide (HL4.out.past hb9)
  replace HL7 := hide (HL7.out.past hb9)
  replace HI8 := hide (HI8.out.past hb9)
  replace HBd := hide (chain HBd.out hb9)
  clear hb9
  dsimp only
  refine hK.out _ _ (fun _ => ⟨HL1.out, HL2.out, HL4.out, HL7.out⟩) ?_
  clear hK K
  try simp only [Act.put, List.setIfInBounds_toArray, List.set_cons_zero, List.set_cons_succ]
  refine oneK (i := 6) (by kernel_rfl) rfl (fun K hK => ?_)
  go_simp
  refine (c_s_HllSame HI8.out.le HI8.out.lr HI9.out.le HI9.out.lr HI8.out.n9 HI8.out.m9 HI9.out.n9 HI9.out.m9 HI8.out.hE HI8.out.hR HI9.out.hE HI9.out.hR).mono ?_
  rintro e w10 ⟨rfl, hb10⟩
  rw [show sameH E8 R8 E9 R9 = true from same_hl (PutH.one HM8.out HM9.out)]
  replace HL1 := hide (HL1.out.past hb10)
  replace HL2 := hide (HL2.out.past hb10)
  replace HL4 := hide (HL4.out.past hb10)
  replace HL7 := hide (HL7.out.past hb10)
  replace HBd := hide (chain HBd.out hb10)
  clear hb10
  clear HI8 HI9
  dsimp only
  refine hK.out _ _ (fun _ => ⟨HL1.out, HL2.out, HL4.out, HL7.out⟩) ?_
  clear hK K
  try simp only [Act.put, List.setIfInBounds_toArray, List.set_cons_zero, List.set_cons_succ]
  refine takeK (i := 7) (d := 49) (v := .bool false) rfl rfl (by kernel_rfl) (by kernel_rfl) (by kernel_rfl) (by decide) (by kernel_rfl) (fun _ _ _ h => h) (Or.inl ⟨by rfl, fun W hW => ?_⟩) ⟨HL1.out, HL2.out, HL4.out, HL7.out⟩ ?_
  · clear hW
    go_simp
  simp only [List.setIfInBounds_toArray, List.set_cons_zero, List.set_cons_succ]
  refine takeK (i := 8) (d := 50) (v := .bool false) rfl rfl (by kernel_rfl) (by kernel_rfl) (by kernel_rfl) (by decide) (by kernel_rfl) (fun _ _ _ h => h) (Or.inl ⟨by rfl, fun W hW => ?_⟩) ⟨HL1.out, HL2.out, HL4.out, HL7.out⟩ ?_
  · clear hW
    go_simp
  simp only [List.setIfInBounds_toArray, List.set_cons_zero, List.set_cons_succ]
  refine takeK (i := 9) (d := 51) (v := .agg #[.slice ea4 en4 ec4, .slice ra4 rn4 rc4]) rfl rfl (by kernel_rfl) (by kernel_rfl) (by kernel_rfl) (by decide) (by kernel_rfl) (fun _ _ _ h => h) (Or.inl ⟨by rfl, fun W hW => ?_⟩) ⟨HL1.out, HL2.out, HL4.out, HL7.out⟩ ?_
  · obtain ⟨x0, x1⟩ := hW.2.2.1.cells
    go_simp
  simp only [List.setIfInBounds_toArray, List.set_cons_zero, List.set_cons_succ]
  refine takeK (i := 10) (d := 52) (v := .agg #[.slice ea7 en7 ec7, .slice ra7 rn7 rc7]) rfl rfl (by kernel_rfl) (by kernel_rfl) (by kernel_rfl) (by decide) (by kernel_rfl) (fun _ _ _ h => h) (Or.inl ⟨by rfl, fun W hW => ?_⟩) ⟨HL1.out, HL2.out, HL4.out, HL7.out⟩ ?_
  · obtain ⟨x0, x1⟩ := hW.2.2.2.cells
    go_simp
  simp only [List.setIfInBounds_toArray, List.set_cons_zero, List.set_cons_succ]
  refine oneK (i := 11) (by kernel_rfl) rfl (fun K hK => ?_)
  rw [if_pos (by rfl)]
  go_simp
  refine (c_s_HllSame HL4.out.hl.le HL4.out.hl.lr HL7.out.hl.le HL7.out.hl.lr HL4.out.hl.n9 HL4.out.hl.m9 HL7.out.hl.n9 HL7.out.hl.m9 HL4.out.hl.hE HL4.out.hl.hR HL7.out.hl.hE HL7.out.hl.hR).mono ?_
  rintro e w11 ⟨rfl, hb11⟩
  rw [show sameH E4 R4 E7 R7 = true from same_hl (puts_same HM3.out HM4.out HM5.out HM6.out HM7.out)]
  replace HL1 := hide (HL1.out.past hb11)
  replace HL2 := hide (HL2.out.past hb11)
  replace HL4 := hide (HL4.out.past hb11)
  replace HL7 := hide (HL7.out.past hb11)
  replace HBd := hide (chain HBd.out hb11)
  clear hb11
  dsimp only
  refine hK.out _ _ (fun _ => ⟨HL1.out, HL2.out, HL4.out, HL7.out⟩) ?_
  clear hK K
  try simp only [Act.put, List.setIfInBounds_toArray, List.set_cons_zero, List.set_cons_succ]
  refine takeK (i := 12) (d := 54) (v := .bool false) rfl rfl (by kernel_rfl) (by kernel_rfl) (by kernel_rfl) (by decide) (by kernel_rfl) (fun _ _ _ h => h) (Or.inl ⟨by rfl, fun W hW => ?_⟩) ⟨HL1.out, HL2.out, HL4.out, HL7.out⟩ ?_
  · clear hW
    go_simp
  simp only [List.setIfInBounds_toArray, List.set_cons_zero, List.set_cons_succ]
  refine takeK (i := 13) (d := 55) (v := .bool false) rfl rfl (by kernel_rfl) (by kernel_rfl) (by kernel_rfl) (by decide) (by kernel_rfl) (fun _ _ _ h => h) (Or.inl ⟨by rfl, fun W hW => ?_⟩) ⟨HL1.out, HL2.out, HL4.out, HL7.out⟩ ?_
  · clear hW
    go_simp
  simp only [List.setIfInBounds_toArray, List.set_cons_zero, List.set_cons_succ]
  refine takeK (i := 14) (d := 56) (v := .bool false) rfl rfl (by kernel_rfl) (by kernel_rfl) (by kernel_rfl) (by decide) (by kernel_rfl) (fun _ _ _ h => h) (Or.inl ⟨by rfl, fun W hW => ?_⟩) ⟨HL1.out, HL2.out, HL4.out, HL7.out⟩ ?_
  · clear hW
    go_simp
  simp only [List.setIfInBounds_toArray, List.set_cons_zero, List.set_cons_succ]
  refine takeK (i := 15) (d := 57) (v := .agg #[.slice ea4 en4 ec4, .slice ra4 rn4 rc4]) rfl rfl (by kernel_rfl) (by kernel_rfl) (by kernel_rfl) (by decide) (by kernel_rfl) (fun _ _ _ h => h) (Or.inl ⟨by rfl, fun W hW => ?_⟩) ⟨HL1.out, HL2.out, HL4.out, HL7.out⟩ ?_
  · obtain ⟨x0, x1⟩ := hW.2.2.1.cells
    go_simp
  simp only [List.setIfInBounds_toArray, List.set_cons_zero, List.set_cons_succ]
  refine takeK (i := 17) (d := 59) (v := .agg #[.slice ea4 en4 ec4, .slice ra4 rn4 rc4]) rfl rfl (by kernel_rfl) (by kernel_rfl) (by kernel_rfl) (by decide) (by kernel_rfl) (fun _ _ _ h => h) (Or.inl ⟨by rfl, fun W hW => ?_⟩) ⟨HL1.out, HL2.out, HL4.out, HL7.out⟩ ?_
  · obtain ⟨x0, x1⟩ := hW.2.2.1.cells
    go_simp
  simp only [List.setIfInBounds_toArray, List.set_cons_zero, List.set_cons_succ]
  refine oneK (i := 16) (by kernel_rfl) rfl (fun K hK => ?_)
  rw [if_pos (by rfl)]
  go_simp
  refine (c_i_HllCount HL4.out.hl.le HL4.out.hl.lr HL4.out.hl.n9 HL4.out.hl.m9 HL4.out.hl.hE HL4.out.hl.hR).mono ?_
  rintro e w12 ⟨rfl, hb12⟩
  replace HL1 := hide (HL1.out.past hb12)
  replace HL2 := hide (HL2.out.past hb12)
  replace HL4 := hide (HL4.out.past hb12)
  replace HL7 := hide (HL7.out.past hb12)
  replace HBd := hide (chain HBd.out hb12)
  clear hb12
  dsimp only
  refine hK.out _ _ (fun _ => ⟨HL1.out, HL2.out, HL4.out, HL7.out⟩) ?_
  clear hK K
  try simp only [Act.put, List.setIfInBounds_toArray, List.set_cons_zero, List.set_cons_succ]
  refine oneK (i := 18) (by kernel_rfl) rfl (fun K hK => ?_)
  rw [if_pos (by rfl)]
  go_simp
  refine (c_s_HllCount HL4.out.hl.le HL4.out.hl.lr HL4.out.hl.n9 HL4.out.hl.m9 HL4.out.hl.hE HL4.out.hl.hR HL4.out.hl.k).mono ?_
  rintro e w13 ⟨rfl, hb13⟩
  replace HL1 := hide (HL1.out.past hb13)
  replace HL2 := hide (HL2.out.past hb13)
  replace HL4 := hide (HL4.out.past hb13)
  replace HL7 := hide (HL7.out.past hb13)
  replace HBd := hide (chain HBd.out hb13)
  clear hb13
  dsimp only
  refine hK.out _ _ (fun _ => ⟨HL1.out, HL2.out, HL4.out, HL7.out⟩) ?_
  clear hK K
  try simp only [Act.put, List.setIfInBounds_toArray, List.set_cons_zero, List.set_cons_succ]
  generalize cntH E4 R4 = cn
  refine takeK (i := 19) (d := 61) (v := .bool false) rfl rfl (by kernel_rfl) (by kernel_rfl) (by kernel_rfl) (by decide) (by kernel_rfl) (fun _ _ _ h => h) (Or.inl ⟨by rfl, fun W hW => ?_⟩) ⟨HL1.out, HL2.out, HL4.out, HL7.out⟩ ?_
  · clear hW
    go_simp
  simp only [List.setIfInBounds_toArray, List.set_cons_zero, List.set_cons_succ]
  refine takeK (i := 20) (d := 62) (v := .bool false) rfl rfl (by kernel_rfl) (by kernel_rfl) (by kernel_rfl) (by decide) (by kernel_rfl) (fun _ _ _ h => h) (Or.inl ⟨by rfl, fun W hW => ?_⟩) ⟨HL1.out, HL2.out, HL4.out, HL7.out⟩ ?_
  · clear hW
    go_simp
  simp only [List.setIfInBounds_toArray, List.set_cons_zero, List.set_cons_succ]
  refine doneK (by kernel_rfl) ?_ _
  obtain ⟨a0, a1⟩ := HL1.out.cells
  obtain ⟨c0, c1⟩ := HL2.out.cells
  go_wp2_with fail
  clear a0 a1 c0 c1
  refine (c_i_HllMerge HL1.out.hl.le HL1.out.hl.lr HL2.out.hl.le HL2.out.hl.lr HL1.out.hl.n9 HL1.out.hl.m9 HL2.out.hl.n9 HL2.out.hl.m9 HL1.out.hl.hE HL1.out.hl.hR HL2.out.hl.hE HL2.out.hl.hR HL1.out.hl.u HL2.out.hl.u).mono ?_
  rintro e w14 ⟨v10, E10, R10, rfl, hp10, ho10, hb10⟩
  obtain ⟨ea10, en10, ec10, ra10, rn10, rc10, rfl, I10⟩ := mrg_hl HL1.out.hl HL2.out.hl ho10 hp10
  have HI10 := hide I10
  have HM10 := hide hp10
  clear I10 hp10 ho10
  replace HL1 := hide (HL1.out.past hb10)
  replace HL2 := hide (HL2.out.past hb10)
  replace HL4 := hide (HL4.out.past hb10)
  replace HL7 := hide (HL7.out.past hb10)
  replace HBd := hide (chain HBd.out hb10)
  clear hb10
  have hal : Below w14.heap.size w14 (w14.alloc (.cells #[.slice ea10 en10 ec10, .slice ra10 rn10 rc10] 27)) := (Below.refl _ _).alloc (Nat.le_refl _) _
  have HL10 := hide (HlL.made HI10.out)
  replace HL1 := hide (HL1.out.past hal)
  replace HL2 := hide (HL2.out.past hal)
  replace HL4 := hide (HL4.out.past hal)
  replace HL7 := hide (HL7.out.past hal)
  replace HBd := hide (chain HBd.out hal)
  clear hal
  go_wp2_with fail
  generalize w14.alloc (.cells #[.slice ea10 en10 ec10, .slice ra10 rn10 rc10] 27) = W10 at HL1 HL2 HL4 HL7 HL10  HBd ⊢
  generalize w14.heap.size = r10 at HL10 ⊢
  clear HI10
  refine regionK (fun W' => (HlL W' r1 ea1 en1 ec1 ra1 rn1 rc1 E1 R1 ∧ HlL W' r2 ea2 en2 ec2 ra2 rn2 rc2 E2 R2 ∧ HlL W' r4 ea4 en4 ec4 ra4 rn4 rc4 E4 R4 ∧ HlL W' r7 ea7 en7 ec7 ra7 rn7 rc7 E7 R7 ∧ HlL W' r10 ea10 en10 ec10 ra10 rn10 rc10 E10 R10)) 14 (by rfl) ?_
  replace HL1 := hide HL1.out.drew
  replace HL2 := hide HL2.out.drew
  replace HL4 := hide HL4.out.drew
  replace HL7 := hide HL7.out.drew
  replace HL10 := hide HL10.out.drew
  replace HBd := hide HBd.out.drew
  refine takeK (i := 0) (d := 66) (v := .agg #[.slice ea10 en10 ec10, .slice ra10 rn10 rc10]) rfl rfl (by kernel_rfl) (by kernel_rfl) (by kernel_rfl) (by decide) (by kernel_rfl) (fun _ _ _ h => h) (Or.inl ⟨by rfl, fun W hW => ?_⟩) ⟨HL1.out, HL2.out, HL4.out, HL7.out, HL10.out⟩ ?_
  · obtain ⟨x0, x1⟩ := hW.2.2.2.2.cells
    go_simp
  simp only [List.setIfInBounds_toArray, List.set_cons_zero, List.set_cons_succ]
  refine takeK (i := 1) (d := 67) (v := .agg #[.slice ea1 en1 ec1, .slice ra1 rn1 rc1]) rfl rfl (by kernel_rfl) (by kernel_rfl) (by kernel_rfl) (by decide) (by kernel_rfl) (fun _ _ _ h => h) (Or.inl ⟨by rfl, fun W hW => ?_⟩) ⟨HL1.out, HL2.out, HL4.out, HL7.out, HL10.out⟩ ?_
  · obtain ⟨x0, x1⟩ := hW.1.cells
    go_simp
  simp only [List.setIfInBounds_toArray, List.set_cons_zero, List.set_cons_succ]
  refine takeK (i := 2) (d := 68) (v := .agg #[.slice ea2 en2 ec2, .slice ra2 rn2 rc2]) rfl rfl (by kernel_rfl) (by kernel_rfl) (by kernel_rfl) (by decide) (by kernel_rfl) (fun _ _ _ h => h) (Or.inl ⟨by rfl, fun W hW => ?_⟩) ⟨HL1.out, HL2.out, HL4.out, HL7.out, HL10.out⟩ ?_
  · obtain ⟨x0, x1⟩ := hW.2.1.cells
    go_simp
  simp only [List.setIfInBounds_toArray, List.set_cons_zero, List.set_cons_succ]
  refine oneK (i := 3) (by kernel_rfl) rfl (fun K hK => ?_)
  go_simp
  refine (c_s_HllMerge HL1.out.hl.le HL1.out.hl.lr HL2.out.hl.le HL2.out.hl.lr HL1.out.hl.n9 HL1.out.hl.m9 HL2.out.hl.n9 HL2.out.hl.m9 HL1.out.hl.hE HL1.out.hl.hR HL2.out.hl.hE HL2.out.hl.hR HL1.out.hl.u HL2.out.hl.u HL1.out.hl.k HL2.out.hl.k HL1.out.hl.ce).mono ?_
  rintro e w15 ⟨v11, E11, R11, rfl, hp11, ho11, hb11⟩
  obtain ⟨ea11, en11, ec11, ra11, rn11, rc11, rfl, I11⟩ := mrg_hl HL1.out.hl HL2.out.hl ho11 hp11
  have HI11 := hide I11
  have HM11 := hide hp11
  clear I11 hp11 ho11
  replace HL1 := hide (HL1.out.past hb11)
  replace HL2 := hide (HL2.out.past hb11)
  replace HL4 := hide (HL4.out.past hb11)
  replace HL7 := hide (HL7.out.past hb11)
  replace HL10 := hide (HL10.out.past hb11)
  replace HBd := hide (chain HBd.out hb11)
  clear hb11
  dsimp only
  refine hK.out _ _ (fun _ => ⟨HL1.out, HL2.out, HL4.out, HL7.out, HL10.out⟩) ?_
  clear hK K
  try simp only [Act.put, List.setIfInBounds_toArray, List.set_cons_zero, List.set_cons_succ]
  refine oneK (i := 4) (by kernel_rfl) rfl (fun K hK => ?_)
  go_simp
  refine (c_s_HllSame HL10.out.hl.le HL10.out.hl.lr HI11.out.le HI11.out.lr HL10.out.hl.n9 HL10.out.hl.m9 HI11.out.n9 HI11.out.m9 HL10.out.hl.hE HL10.out.hl.hR HI11.out.hE HI11.out.hR).mono ?_
  rintro e w16 ⟨rfl, hb16⟩
  rw [show sameH E10 R10 E11 R11 = true from same_hl (MrgH.one HM10.out HM11.out)]
  replace HL1 := hide (HL1.out.past hb16)
  replace HL2 := hide (HL2.out.past hb16)
  replace HL4 := hide (HL4.out.past hb16)
  replace HL7 := hide (HL7.out.past hb16)
  replace HL10 := hide (HL10.out.past hb16)
  replace HBd := hide (chain HBd.out hb16)
  clear hb16
  clear HI11
  dsimp only
  refine hK.out _ _ (fun _ => ⟨HL1.out, HL2.out, HL4.out, HL7.out, HL10.out⟩) ?_
  clear hK K
  try simp only [Act.put, List.setIfInBounds_toArray, List.set_cons_zero, List.set_cons_succ]
  refine takeK (i := 5) (d := 71) (v := .bool false) rfl rfl (by kernel_rfl) (by kernel_rfl) (by kernel_rfl) (by decide) (by kernel_rfl) (fun _ _ _ h => h) (Or.inl ⟨by rfl, fun W hW => ?_⟩) ⟨HL1.out, HL2.out, HL4.out, HL7.out, HL10.out⟩ ?_
  · clear hW
    go_simp
  simp only [List.setIfInBounds_toArray, List.set_cons_zero, List.set_cons_succ]
  refine takeK (i := 6) (d := 72) (v := .bool false) rfl rfl (by kernel_rfl) (by kernel_rfl) (by kernel_rfl) (by decide) (by kernel_rfl) (fun _ _ _ h => h) (Or.inl ⟨by rfl, fun W hW => ?_⟩) ⟨HL1.out, HL2.out, HL4.out, HL7.out, HL10.out⟩ ?_
  · clear hW
    go_simp
  simp only [List.setIfInBounds_toArray, List.set_cons_zero, List.set_cons_succ]
  refine takeK (i := 7) (d := 73) (v := .agg #[.slice ea10 en10 ec10, .slice ra10 rn10 rc10]) rfl rfl (by kernel_rfl) (by kernel_rfl) (by kernel_rfl) (by decide) (by kernel_rfl) (fun _ _ _ h => h) (Or.inl ⟨by rfl, fun W hW => ?_⟩) ⟨HL1.out, HL2.out, HL4.out, HL7.out, HL10.out⟩ ?_
  · obtain ⟨x0, x1⟩ := hW.2.2.2.2.cells
    go_simp
  simp only [List.setIfInBounds_toArray, List.set_cons_zero, List.set_cons_succ]
  refine takeK (i := 8) (d := 74) (v := .agg #[.slice ea2 en2 ec2, .slice ra2 rn2 rc2]) rfl rfl (by kernel_rfl) (by kernel_rfl) (by kernel_rfl) (by decide) (by kernel_rfl) (fun _ _ _ h => h) (Or.inl ⟨by rfl, fun W hW => ?_⟩) ⟨HL1.out, HL2.out, HL4.out, HL7.out, HL10.out⟩ ?_
  · obtain ⟨x0, x1⟩ := hW.2.1.cells
    go_simp
  simp only [List.setIfInBounds_toArray, List.set_cons_zero, List.set_cons_succ]
  refine takeK (i := 9) (d := 75) (v := .agg #[.slice ea1 en1 ec1, .slice ra1 rn1 rc1]) rfl rfl (by kernel_rfl) (by kernel_rfl) (by kernel_rfl) (by decide) (by kernel_rfl) (fun _ _ _ h => h) (Or.inl ⟨by rfl, fun W hW => ?_⟩) ⟨HL1.out, HL2.out, HL4.out, HL7.out, HL10.out⟩ ?_
  · obtain ⟨x0, x1⟩ := hW.1.cells
    go_simp
  simp only [List.setIfInBounds_toArray, List.set_cons_zero, List.set_cons_succ]
  refine oneK (i := 10) (by kernel_rfl) rfl (fun K hK => ?_)
  rw [if_pos (by rfl)]
  go_simp
  refine (c_i_HllMerge HL2.out.hl.le HL2.out.hl.lr HL1.out.hl.le HL1.out.hl.lr HL2.out.hl.n9 HL2.out.hl.m9 HL1.out.hl.n9 HL1.out.hl.m9 HL2.out.hl.hE HL2.out.hl.hR HL1.out.hl.hE HL1.out.hl.hR HL2.out.hl.u HL1.out.hl.u).mono ?_
  rintro e w17 ⟨v12, E12, R12, rfl, hp12, ho12, hb12⟩
  obtain ⟨ea12, en12, ec12, ra12, rn12, rc12, rfl, I12⟩ := mrg_hl HL2.out.hl HL1.out.hl ho12 hp12
  have HI12 := hide I12
  have HM12 := hide hp12
  clear I12 hp12 ho12
  replace HL1 := hide (HL1.out.past hb12)
  replace HL2 := hide (HL2.out.past hb12)
  replace HL4 := hide (HL4.out.past hb12)
  replace HL7 := hide (HL7.out.past hb12)
  replace HL10 := hide (HL10.out.past hb12)
  replace HBd := hide (chain HBd.out hb12)
  clear hb12
  dsimp only
  refine hK.out _ _ (fun _ => ⟨HL1.out, HL2.out, HL4.out, HL7.out, HL10.out⟩) ?_
  clear hK K
  try simp only [Act.put, List.setIfInBounds_toArray, List.set_cons_zero, List.set_cons_succ]
  refine oneK (i := 11) (by kernel_rfl) rfl (fun K hK => ?_)
  rw [if_pos (by rfl)]
  go_simp
  refine (c_i_HllSame HL10.out.hl.le HL10.out.hl.lr HI12.out.le HI12.out.lr HL10.out.hl.n9 HL10.out.hl.m9 HI12.out.n9 HI12.out.m9 HL10.out.hl.hE HL10.out.hl.hR HI12.out.hE HI12.out.hR).mono ?_
  rintro e w18 ⟨rfl, hb18⟩
  rw [show sameH E10 R10 E12 R12 = true from same_hl (mrg_same HM10.out HM12.out)]
  replace HL1 := hide (HL1.out.past hb18)
  replace HL2 := hide (HL2.out.past hb18)
  replace HL4 := hide (HL4.out.past hb18)
  replace HL7 := hide (HL7.out.past hb18)
  replace HL10 := hide (HL10.out.past hb18)
  replace HBd := hide (chain HBd.out hb18)
  clear hb18
  clear HI12
  dsimp only
  refine hK.out _ _ (fun _ => ⟨HL1.out, HL2.out, HL4.out, HL7.out, HL10.out⟩) ?_
  clear hK K
  try simp only [Act.put, List.setIfInBounds_toArray, List.set_cons_zero, List.set_cons_succ]
  refine takeK (i := 12) (d := 78) (v := .bool false) rfl rfl (by kernel_rfl) (by kernel_rfl) (by kernel_rfl) (by decide) (by kernel_rfl) (fun _ _ _ h => h) (Or.inl ⟨by rfl, fun W hW => ?_⟩) ⟨HL1.out, HL2.out, HL4.out, HL7.out, HL10.out⟩ ?_
  · clear hW
    go_simp
  simp only [List.setIfInBounds_toArray, List.set_cons_zero, List.set_cons_succ]
  refine takeK (i := 13) (d := 79) (v := .bool false) rfl rfl (by kernel_rfl) (by kernel_rfl) (by kernel_rfl) (by decide) (by kernel_rfl) (fun _ _ _ h => h) (Or.inl ⟨by rfl, fun W hW => ?_⟩) ⟨HL1.out, HL2.out, HL4.out, HL7.out, HL10.out⟩ ?_
  · clear hW
    go_simp
  simp only [List.setIfInBounds_toArray, List.set_cons_zero, List.set_cons_succ]
  refine doneK (by kernel_rfl) ?_ _
  obtain ⟨a0, a1⟩ := HL1.out.cells
  go_wp2_with fail
  clear a0 a1
  refine (c_s_HllRight HL1.out.hl.le HL1.out.hl.lr HL1.out.hl.n9 HL1.out.hl.m9 HL1.out.hl.hE HL1.out.hl.hR HL1.out.hl.k).mono ?_
  rintro e w19 ⟨rfl, hb19⟩
  replace HL1 := hide (HL1.out.past hb19)
  replace HL2 := hide (HL2.out.past hb19)
  replace HL4 := hide (HL4.out.past hb19)
  replace HL7 := hide (HL7.out.past hb19)
  replace HL10 := hide (HL10.out.past hb19)
  replace HBd := hide (chain HBd.out hb19)
  clear hb19
  cases hs1 : hlB E1 R1 with
  | false =>
    go_wp2
    go_ret
    exact ⟨rfl, HBd.out⟩
  | true =>
    obtain ⟨a0, a1⟩ := HL2.out.cells
    go_wp2_with fail
    clear a0 a1
    refine (c_s_HllRight HL2.out.hl.le HL2.out.hl.lr HL2.out.hl.n9 HL2.out.hl.m9 HL2.out.hl.hE HL2.out.hl.hR HL2.out.hl.k).mono ?_
    rintro e w20 ⟨rfl, hb20⟩
    replace HL1 := hide (HL1.out.past hb20)
    replace HL2 := hide (HL2.out.past hb20)
    replace HL4 := hide (HL4.out.past hb20)
    replace HL7 := hide (HL7.out.past hb20)
    replace HL10 := hide (HL10.out.past hb20)
    replace HBd := hide (chain HBd.out hb20)
    clear hb20
    cases hs2 : hlB E2 R2 with
    | false =>
      go_wp2
      go_ret
      exact ⟨rfl, HBd.out⟩
    | true =>
      have HR1 := hide hs1
      have HR2 := hide hs2
      have HS4 : Hid (hlB E4 R4 = true) := put_right (put_right hs1 HM3.out) HM4.out
      have HS10 : Hid (hlB E10 R10 = true) := mrg_right hs1 hs2 HM10.out
      clear hs1 hs2
      obtain ⟨a0, a1⟩ := HL4.out.cells
      go_wp2_with fail
      clear a0 a1
      refine regionK (fun W' => (HlL W' r1 ea1 en1 ec1 ra1 rn1 rc1 E1 R1 ∧ HlL W' r2 ea2 en2 ec2 ra2 rn2 rc2 E2 R2 ∧ HlL W' r4 ea4 en4 ec4 ra4 rn4 rc4 E4 R4 ∧ HlL W' r7 ea7 en7 ec7 ra7 rn7 rc7 E7 R7 ∧ HlL W' r10 ea10 en10 ec10 ra10 rn10 rc10 E10 R10)) 25 (by rfl) ?_
      replace HL1 := hide HL1.out.drew
      replace HL2 := hide HL2.out.drew
      replace HL4 := hide HL4.out.drew
      replace HL7 := hide HL7.out.drew
      replace HL10 := hide HL10.out.drew
      replace HBd := hide HBd.out.drew
      refine takeK (i := 0) (d := 88) (v := .agg #[.slice ea4 en4 ec4, .slice ra4 rn4 rc4]) rfl rfl (by kernel_rfl) (by kernel_rfl) (by kernel_rfl) (by decide) (by kernel_rfl) (fun _ _ _ h => h) (Or.inl ⟨by rfl, fun W hW => ?_⟩) ⟨HL1.out, HL2.out, HL4.out, HL7.out, HL10.out⟩ ?_
      · obtain ⟨x0, x1⟩ := hW.2.2.1.cells
        go_simp
      simp only [List.setIfInBounds_toArray, List.set_cons_zero, List.set_cons_succ]
      refine oneK (i := 1) (by kernel_rfl) rfl (fun K hK => ?_)
      go_simp
      refine (c_s_HllRight HL4.out.hl.le HL4.out.hl.lr HL4.out.hl.n9 HL4.out.hl.m9 HL4.out.hl.hE HL4.out.hl.hR HL4.out.hl.k).mono ?_
      rintro e u1 ⟨rfl, hc1⟩
      rw [HS4.out]
      replace HL1 := hide (HL1.out.past hc1)
      replace HL2 := hide (HL2.out.past hc1)
      replace HL4 := hide (HL4.out.past hc1)
      replace HL7 := hide (HL7.out.past hc1)
      replace HL10 := hide (HL10.out.past hc1)
      replace HBd := hide (chain HBd.out hc1)
      clear hc1
      dsimp only
      refine hK.out _ _ (fun _ => ⟨HL1.out, HL2.out, HL4.out, HL7.out, HL10.out⟩) ?_
      clear hK K
      try simp only [Act.put, List.setIfInBounds_toArray, List.set_cons_zero, List.set_cons_succ]
      refine takeK (i := 2) (d := 90) (v := .bool true) rfl rfl (by kernel_rfl) (by kernel_rfl) (by kernel_rfl) (by decide) (by kernel_rfl) (fun _ _ _ h => h) (Or.inl ⟨by rfl, fun W hW => ?_⟩) ⟨HL1.out, HL2.out, HL4.out, HL7.out, HL10.out⟩ ?_
      · clear hW
        go_simp
      simp only [List.setIfInBounds_toArray, List.set_cons_zero, List.set_cons_succ]
      refine takeK (i := 3) (d := 91) (v := .agg #[.slice ea10 en10 ec10, .slice ra10 rn10 rc10]) rfl rfl (by kernel_rfl) (by kernel_rfl) (by kernel_rfl) (by decide) (by kernel_rfl) (fun _ _ _ h => h) (Or.inl ⟨by rfl, fun W hW => ?_⟩) ⟨HL1.out, HL2.out, HL4.out, HL7.out, HL10.out⟩ ?_
      · obtain ⟨x0, x1⟩ := hW.2.2.2.2.cells
        go_simp
      simp only [List.setIfInBounds_toArray, List.set_cons_zero, List.set_cons_succ]
      refine oneK (i := 4) (by kernel_rfl) rfl (fun K hK => ?_)
      rw [if_pos (by rfl)]
      go_simp
      refine (c_s_HllRight HL10.out.hl.le HL10.out.hl.lr HL10.out.hl.n9 HL10.out.hl.m9 HL10.out.hl.hE HL10.out.hl.hR HL10.out.hl.k).mono ?_
      rintro e u2 ⟨rfl, hc2⟩
      rw [HS10.out]
      replace HL1 := hide (HL1.out.past hc2)
      replace HL2 := hide (HL2.out.past hc2)
      replace HL4 := hide (HL4.out.past hc2)
      replace HL7 := hide (HL7.out.past hc2)
      replace HL10 := hide (HL10.out.past hc2)
      replace HBd := hide (chain HBd.out hc2)
      clear hc2
      dsimp only
      refine hK.out _ _ (fun _ => ⟨HL1.out, HL2.out, HL4.out, HL7.out, HL10.out⟩) ?_
      clear hK K
      try simp only [Act.put, List.setIfInBounds_toArray, List.set_cons_zero, List.set_cons_succ]
      refine takeK (i := 5) (d := 93) (v := .bool true) rfl rfl (by kernel_rfl) (by kernel_rfl) (by kernel_rfl) (by decide) (by kernel_rfl) (fun _ _ _ h => h) (Or.inl ⟨by rfl, fun W hW => ?_⟩) ⟨HL1.out, HL2.out, HL4.out, HL7.out, HL10.out⟩ ?_
      · clear hW
        go_simp
      simp only [List.setIfInBounds_toArray, List.set_cons_zero, List.set_cons_succ]
      refine takeK (i := 6) (d := 94) (v := .bool true) rfl rfl (by kernel_rfl) (by kernel_rfl) (by kernel_rfl) (by decide) (by kernel_rfl) (fun _ _ _ h => h) (Or.inl ⟨by rfl, fun W hW => ?_⟩) ⟨HL1.out, HL2.out, HL4.out, HL7.out, HL10.out⟩ ?_
      · clear hW
        go_simp
      simp only [List.setIfInBounds_toArray, List.set_cons_zero, List.set_cons_succ]
      refine takeK (i := 7) (d := 95) (v := .agg #[.slice ea1 en1 ec1, .slice ra1 rn1 rc1]) rfl rfl (by kernel_rfl) (by kernel_rfl) (by kernel_rfl) (by decide) (by kernel_rfl) (fun _ _ _ h => h) (Or.inl ⟨by rfl, fun W hW => ?_⟩) ⟨HL1.out, HL2.out, HL4.out, HL7.out, HL10.out⟩ ?_
      · obtain ⟨x0, x1⟩ := hW.1.cells
        go_simp
      simp only [List.setIfInBounds_toArray, List.set_cons_zero, List.set_cons_succ]
      refine takeK (i := 8) (d := 96) (v := .agg #[.slice ea1 en1 ec1, .slice ra1 rn1 rc1]) rfl rfl (by kernel_rfl) (by kernel_rfl) (by kernel_rfl) (by decide) (by kernel_rfl) (fun _ _ _ h => h) (Or.inl ⟨by rfl, fun W hW => ?_⟩) ⟨HL1.out, HL2.out, HL4.out, HL7.out, HL10.out⟩ ?_
      · obtain ⟨x0, x1⟩ := hW.1.cells
        go_simp
      simp only [List.setIfInBounds_toArray, List.set_cons_zero, List.set_cons_succ]
      refine takeK (i := 10) (d := 98) (v := .agg #[.slice ea1 en1 ec1, .slice ra1 rn1 rc1]) rfl rfl (by kernel_rfl) (by kernel_rfl) (by kernel_rfl) (by decide) (by kernel_rfl) (fun _ _ _ h => h) (Or.inl ⟨by rfl, fun W hW => ?_⟩) ⟨HL1.out, HL2.out, HL4.out, HL7.out, HL10.out⟩ ?_
      · obtain ⟨x0, x1⟩ := hW.1.cells
        go_simp
      simp only [List.setIfInBounds_toArray, List.set_cons_zero, List.set_cons_succ]
      refine oneK (i := 9) (by kernel_rfl) rfl (fun K hK => ?_)
      rw [if_pos (by rfl)]
      go_simp
      refine (c_i_HllMerge HL1.out.hl.le HL1.out.hl.lr HL1.out.hl.le HL1.out.hl.lr HL1.out.hl.n9 HL1.out.hl.m9 HL1.out.hl.n9 HL1.out.hl.m9 HL1.out.hl.hE HL1.out.hl.hR HL1.out.hl.hE HL1.out.hl.hR HL1.out.hl.u HL1.out.hl.u).mono ?_
      rintro e u3 ⟨v13, E13, R13, rfl, hp13, ho13, hb13⟩
      obtain ⟨ea13, en13, ec13, ra13, rn13, rc13, rfl, I13⟩ := mrg_hl HL1.out.hl HL1.out.hl ho13 hp13
      have HI13 := hide I13
      have HM13 := hide hp13
      clear I13 hp13 ho13
      replace HL1 := hide (HL1.out.past hb13)
      replace HL2 := hide (HL2.out.past hb13)
      replace HL4 := hide (HL4.out.past hb13)
      replace HL7 := hide (HL7.out.past hb13)
      replace HL10 := hide (HL10.out.past hb13)
      replace HBd := hide (chain HBd.out hb13)
      clear hb13
      dsimp only
      refine hK.out _ _ (fun _ => ⟨HL1.out, HL2.out, HL4.out, HL7.out, HL10.out⟩) ?_
      clear hK K
      try simp only [Act.put, List.setIfInBounds_toArray, List.set_cons_zero, List.set_cons_succ]
      refine oneK (i := 11) (by kernel_rfl) rfl (fun K hK => ?_)
      rw [if_pos (by rfl)]
      go_simp
      refine (c_s_HllSame HI13.out.le HI13.out.lr HL1.out.hl.le HL1.out.hl.lr HI13.out.n9 HI13.out.m9 HL1.out.hl.n9 HL1.out.hl.m9 HI13.out.hE HI13.out.hR HL1.out.hl.hE HL1.out.hl.hR).mono ?_
      rintro e u4 ⟨rfl, hc4⟩
      rw [show sameH E13 R13 E1 R1 = true from same_hl (mrg_self HR1.out HM13.out)]
      replace HL1 := hide (HL1.out.past hc4)
      replace HL2 := hide (HL2.out.past hc4)
      replace HL4 := hide (HL4.out.past hc4)
      replace HL7 := hide (HL7.out.past hc4)
      replace HL10 := hide (HL10.out.past hc4)
      replace HBd := hide (chain HBd.out hc4)
      clear hc4
      clear HI13
      dsimp only
      refine hK.out _ _ (fun _ => ⟨HL1.out, HL2.out, HL4.out, HL7.out, HL10.out⟩) ?_
      clear hK K
      try simp only [Act.put, List.setIfInBounds_toArray, List.set_cons_zero, List.set_cons_succ]
      refine takeK (i := 12) (d := 100) (v := .bool true) rfl rfl (by kernel_rfl) (by kernel_rfl) (by kernel_rfl) (by decide) (by kernel_rfl) (fun _ _ _ h => h) (Or.inl ⟨by rfl, fun W hW => ?_⟩) ⟨HL1.out, HL2.out, HL4.out, HL7.out, HL10.out⟩ ?_
      · clear hW
        go_simp
      simp only [List.setIfInBounds_toArray, List.set_cons_zero, List.set_cons_succ]
      refine takeK (i := 13) (d := 101) (v := .bool true) rfl rfl (by kernel_rfl) (by kernel_rfl) (by kernel_rfl) (by decide) (by kernel_rfl) (fun _ _ _ h => h) (Or.inl ⟨by rfl, fun W hW => ?_⟩) ⟨HL1.out, HL2.out, HL4.out, HL7.out, HL10.out⟩ ?_
      · clear hW
        go_simp
      simp only [List.setIfInBounds_toArray, List.set_cons_zero, List.set_cons_succ]
      refine takeK (i := 14) (d := 102) (v := .agg #[.slice ea1 en1 ec1, .slice ra1 rn1 rc1]) rfl rfl (by kernel_rfl) (by kernel_rfl) (by kernel_rfl) (by decide) (by kernel_rfl) (fun _ _ _ h => h) (Or.inl ⟨by rfl, fun W hW => ?_⟩) ⟨HL1.out, HL2.out, HL4.out, HL7.out, HL10.out⟩ ?_
      · obtain ⟨x0, x1⟩ := hW.1.cells
        go_simp
      simp only [List.setIfInBounds_toArray, List.set_cons_zero, List.set_cons_succ]
      refine takeK (i := 15) (d := 103) (v := .int .u64 x1) rfl rfl (by kernel_rfl) (by kernel_rfl) (by kernel_rfl) (by decide) (by kernel_rfl) (fun _ _ _ h => h) (Or.inl ⟨by rfl, fun W hW => ?_⟩) ⟨HL1.out, HL2.out, HL4.out, HL7.out, HL10.out⟩ ?_
      · clear hW
        go_simp
      simp only [List.setIfInBounds_toArray, List.set_cons_zero, List.set_cons_succ]
      refine takeK (i := 17) (d := 105) (v := .agg #[.slice ea2 en2 ec2, .slice ra2 rn2 rc2]) rfl rfl (by kernel_rfl) (by kernel_rfl) (by kernel_rfl) (by decide) (by kernel_rfl) (fun _ _ _ h => h) (Or.inl ⟨by rfl, fun W hW => ?_⟩) ⟨HL1.out, HL2.out, HL4.out, HL7.out, HL10.out⟩ ?_
      · obtain ⟨x0, x1⟩ := hW.2.1.cells
        go_simp
      simp only [List.setIfInBounds_toArray, List.set_cons_zero, List.set_cons_succ]
      refine takeK (i := 19) (d := 107) (v := .agg #[.slice ea10 en10 ec10, .slice ra10 rn10 rc10]) rfl rfl (by kernel_rfl) (by kernel_rfl) (by kernel_rfl) (by decide) (by kernel_rfl) (fun _ _ _ h => h) (Or.inl ⟨by rfl, fun W hW => ?_⟩) ⟨HL1.out, HL2.out, HL4.out, HL7.out, HL10.out⟩ ?_
      · obtain ⟨x0, x1⟩ := hW.2.2.2.2.cells
        go_simp
      simp only [List.setIfInBounds_toArray, List.set_cons_zero, List.set_cons_succ]
      refine takeK (i := 20) (d := 108) (v := .int .u64 x1) rfl rfl (by kernel_rfl) (by kernel_rfl) (by kernel_rfl) (by decide) (by kernel_rfl) (fun _ _ _ h => h) (Or.inl ⟨by rfl, fun W hW => ?_⟩) ⟨HL1.out, HL2.out, HL4.out, HL7.out, HL10.out⟩ ?_
      · clear hW
        go_simp
      simp only [List.setIfInBounds_toArray, List.set_cons_zero, List.set_cons_succ]
      refine oneK (i := 16) (by kernel_rfl) rfl (fun K hK => ?_)
      rw [if_pos (by rfl)]
      go_simp
      refine (c_i_HllPut _ HL1.out.hl.le HL1.out.hl.lr HL1.out.hl.n9 HL1.out.hl.m9 HL1.out.hl.fe HL1.out.hl.fr HL1.out.hl.hE HL1.out.hl.hR HL1.out.hl.u hx1).mono ?_
      rintro e u5 ⟨v14, E14, R14, rfl, hp14, ho14, hb14⟩
      obtain ⟨ea14, en14, ec14, ra14, rn14, rc14, rfl, I14⟩ := put_hl HL1.out.hl hx1 ho14 hp14
      have HI14 := hide I14
      have HM14 := hide hp14
      clear I14 hp14 ho14
      replace HL1 := hide (HL1.out.past hb14)
      replace HL2 := hide (HL2.out.past hb14)
      replace HL4 := hide (HL4.out.past hb14)
      replace HL7 := hide (HL7.out.past hb14)
      replace HL10 := hide (HL10.out.past hb14)
      replace HBd := hide (chain HBd.out hb14)
      clear hb14
      dsimp only
      refine hK.out _ _ (fun _ => ⟨HL1.out, HL2.out, HL4.out, HL7.out, HL10.out⟩) ?_
      clear hK K
      try simp only [Act.put, List.setIfInBounds_toArray, List.set_cons_zero, List.set_cons_succ]
      refine oneK (i := 18) (by kernel_rfl) rfl (fun K hK => ?_)
      rw [if_pos (by rfl)]
      go_simp
      refine (c_i_HllMerge HI14.out.le HI14.out.lr HL2.out.hl.le HL2.out.hl.lr HI14.out.n9 HI14.out.m9 HL2.out.hl.n9 HL2.out.hl.m9 HI14.out.hE HI14.out.hR HL2.out.hl.hE HL2.out.hl.hR HI14.out.u HL2.out.hl.u).mono ?_
      rintro e u6 ⟨v15, E15, R15, rfl, hp15, ho15, hb15⟩
      obtain ⟨ea15, en15, ec15, ra15, rn15, rc15, rfl, I15⟩ := mrg_hl HI14.out HL2.out.hl ho15 hp15
      have HI15 := hide I15
      have HM15 := hide hp15
      clear I15 hp15 ho15
      replace HL1 := hide (HL1.out.past hb15)
      replace HL2 := hide (HL2.out.past hb15)
      replace HL4 := hide (HL4.out.past hb15)
      replace HL7 := hide (HL7.out.past hb15)
      replace HL10 := hide (HL10.out.past hb15)
      replace HBd := hide (chain HBd.out hb15)
      clear hb15
      clear HI14
      dsimp only
      refine hK.out _ _ (fun _ => ⟨HL1.out, HL2.out, HL4.out, HL7.out, HL10.out⟩) ?_
      clear hK K
      try simp only [Act.put, List.setIfInBounds_toArray, List.set_cons_zero, List.set_cons_succ]
      refine oneK (i := 21) (by kernel_rfl) rfl (fun K hK => ?_)
      rw [if_pos (by rfl)]
      go_simp
      refine (c_i_HllPut _ HL10.out.hl.le HL10.out.hl.lr HL10.out.hl.n9 HL10.out.hl.m9 HL10.out.hl.fe HL10.out.hl.fr HL10.out.hl.hE HL10.out.hl.hR HL10.out.hl.u hx1).mono ?_
      rintro e u7 ⟨v16, E16, R16, rfl, hp16, ho16, hb16⟩
      obtain ⟨ea16, en16, ec16, ra16, rn16, rc16, rfl, I16⟩ := put_hl HL10.out.hl hx1 ho16 hp16
      have HI16 := hide I16
      have HM16 := hide hp16
      clear I16 hp16 ho16
      replace HL1 := hide (HL1.out.past hb16)
      replace HL2 := hide (HL2.out.past hb16)
      replace HL4 := hide (HL4.out.past hb16)
      replace HL7 := hide (HL7.out.past hb16)
      replace HL10 := hide (HL10.out.past hb16)
      replace HI15 := hide (HI15.out.past hb16)
      replace HBd := hide (chain HBd.out hb16)
      clear hb16
      dsimp only
      refine hK.out _ _ (fun _ => ⟨HL1.out, HL2.out, HL4.out, HL7.out, HL10.out⟩) ?_
      clear hK K
      try simp only [Act.put, List.setIfInBounds_toArray, List.set_cons_zero, List.set_cons_succ]
      refine oneK (i := 22) (by kernel_rfl) rfl (fun K hK => ?_)
      rw [if_pos (by rfl)]
      go_simp
      refine (c_s_HllSame HI15.out.le HI15.out.lr HI16.out.le HI16.out.lr HI15.out.n9 HI15.out.m9 HI16.out.n9 HI16.out.m9 HI15.out.hE HI15.out.hR HI16.out.hE HI16.out.hR).mono ?_
      rintro e u8 ⟨rfl, hc8⟩
      rw [show sameH E15 R15 E16 R16 = true from same_hl (mrg_put HR1.out HR2.out HM14.out HM15.out HM10.out HM16.out)]
      replace HL1 := hide (HL1.out.past hc8)
      replace HL2 := hide (HL2.out.past hc8)
      replace HL4 := hide (HL4.out.past hc8)
      replace HL7 := hide (HL7.out.past hc8)
      replace HL10 := hide (HL10.out.past hc8)
      replace HBd := hide (chain HBd.out hc8)
      clear hc8
      clear HI15 HI16
      dsimp only
      refine hK.out _ _ (fun _ => ⟨HL1.out, HL2.out, HL4.out, HL7.out, HL10.out⟩) ?_
      clear hK K
      try simp only [Act.put, List.setIfInBounds_toArray, List.set_cons_zero, List.set_cons_succ]
      refine takeK (i := 23) (d := 111) (v := .bool true) rfl rfl (by kernel_rfl) (by kernel_rfl) (by kernel_rfl) (by decide) (by kernel_rfl) (fun _ _ _ h => h) (Or.inl ⟨by rfl, fun W hW => ?_⟩) ⟨HL1.out, HL2.out, HL4.out, HL7.out, HL10.out⟩ ?_
      · clear hW
        go_simp
      simp only [List.setIfInBounds_toArray, List.set_cons_zero, List.set_cons_succ]
      refine oneK (i := 24) (by kernel_rfl) rfl (fun K hK => ?_)
      go_simp
      refine hK.out _ _ (fun _ => ⟨HL1.out, HL2.out, HL4.out, HL7.out, HL10.out⟩) ?_
      clear hK K
      try simp only [Act.put, List.setIfInBounds_toArray, List.set_cons_zero, List.set_cons_succ]
      refine doneK (by kernel_rfl) ?_ _
      go_wp2
      go_ret
      exact ⟨rfl, HBd.out⟩
theorem own : ownKnob Try.prog.godebug = none := by kernel_rfl
theorem laidOut : laidOutB Try.prog = true := by kernel_rfl

set_option maxRecDepth 100000 in
theorem liftedHll (os : Os) (started : os.Started) (H : Type) (enc : TypeId × Value → H) :
    ReturnsInHanded {} Try.checked os 4 .any (Rows.fnHllSpec.pre6 enc Try.prog Try.f4 Rows.fnHllRow.domain false) (Rows.fnHllSpec.post enc Try.prog Try.f4 false true false false) := by
  refine returnsInHanded_of_change (C := Try.checked) own started (by kernel_rfl) Try.func4
    (ChangeSpec.witness6 (enc := enc) (C := Try.checked) false ⟨#[], #[.slice none 0 0, .slice none 0 0], []⟩ 8 (by kernel_rfl) (by kernel_rfl) (by kernel_rfl) (by kernel_rfl)) ?_
  intro W base args ds gs before hval0 hW hcnd _
  have hval : ∀ (j : Nat) t v, Try.f4.params[j]? = some t → args[j]? = some v → Value.okWide Try.prog W .any base t v := hval0
  have hW' := hW
  obtain ⟨p, q, hA0, hV, rfl, hfz, hnd⟩ := hW
  have hA : DataW.TrodAll enc Try.prog W 0 (fun _ => true) true Try.f4.params.toList args.toList ds p := hA0
  rw [Try.params4] at hA hval
  obtain ⟨v0, vs0, d0, ds0, p0, q0, hargs, rfl, rfl, h0, r0⟩ := trodAll_cons hA
  obtain ⟨v1, vs1, d1, ds1, p1, q1, rfl, rfl, rfl, h1, r1⟩ := trodAll_cons r0
  obtain ⟨rfl, rfl, rfl⟩ := trodAll_nil r1
  obtain rfl : args = #[v0, v1] := by cases args; simp_all
  obtain ⟨rfl, rfl⟩ := trodVars_none hV
  have k0 := h0
  have lt0 : ∀ x ∈ p0, x.block < W.heap.size := by obtain ⟨m, hm⟩ := k0; exact DataW.trod_lt m _ _ _ hm
  obtain ⟨a0, n0, c0, rfl, m0, s0⟩ := open_code (hval 0 33 v0 rfl rfl) h0
  have k1 := h1
  have lt1 : ∀ x ∈ p1, x.block < W.heap.size := by obtain ⟨m, hm⟩ := k1; exact DataW.trod_lt m _ _ _ hm
  obtain ⟨a1, n1, c1, rfl, m1, s1⟩ := open_code (hval 1 33 v1 rfl rfl) h1
  clear hA0 hval0
  refine (walkHll a0 n0 c0 a1 n1 c1 W m0 s0 m1 s1).mono fun e W' ⟨he, bel⟩ => ?_
  subst he
  exact ⟨_, rfl, _, _, _, [], _, [], hW', trodAll_mk1 (shut_bool Try.underlying4 _), (trodAll_cons_mk (Below.trod laidOut (by kernel_rfl) (of_decide_eq_true (by kernel_rfl)) k0 bel lt0) (trodAll_cons_mk (Below.trod laidOut (by kernel_rfl) (of_decide_eq_true (by kernel_rfl)) k1 bel lt1) trodAll_mk0)), rfl, bel.frame _, fun h => by cases h⟩

theorem overHll : Rows.fnHllRow.holds Try.pinned (OpenSpec.ofChange Rows.fnHllSpec) :=
  OpenClaim.holds_of_wide 4 Try.f4 rfl rfl rfl rfl rfl rfl rfl ⟨rfl, rfl, rfl, rfl, rfl⟩ rfl rfl rfl rfl rfl (by kernel_rfl) Try.func4 (by kernel_rfl)
    (of_decide_eq_true (by kernel_rfl)) (by unfold Func.isWrapper; first | (rw [if_pos (by decide +kernel)]; kernel_rfl) | (rw [if_neg (by decide +kernel)]; exact ⟨rfl, rfl⟩))
    (fun os started H enc _ => liftedHll os started H enc)

theorem fnHll_holds : Rows.FnHllSaid := overHll
#print axioms fnHll_holds
end Go.Proofs.Ytljhjcmodaaaoaa
