/-
  Contracts of the model's SketchPut.
-/
import Derived.Test.YtimocbbaplghoaaSkS
import Derived.Test.YtimocbbaplghoaaSkR
namespace Go.Proofs.Ytimocbbaplghoaa
set_option linter.unusedVariables false
set_option linter.unusedSimpArgs false
open Go.ChangeShapes Go.WideShapes Go.ChangeAt Go.RowKit Go.PlainAid Go.Lib
set_option maxRecDepth 10000

/-- What is put where, as the model does. -/
def putPS (P : List Bn) (v wt : Int) : List Bn := if 0 < v then keepL (mrg P [(binI v, wt)]) else P
def putNS (N : List Bn) (v wt : Int) : List Bn := if v < 0 then keepL (mrg N [(binI (-v), wt)]) else N
theorem one_bins (w : World) (t : TypeId) (a u : Int) : BinsAt (w.alloc (.cells #[.int .i64 a, .int .u64 u] t)) (some ⟨w.heap.size, 0, none⟩) [(a, u)] := fun _ => ⟨w.heap.size, 0, rfl, fun i x hx => by
  obtain ⟨rfl, rfl⟩ : i = 0 ∧ x = (a, u) := by
    cases i with
    | zero => exact ⟨rfl, by simpa using hx.symm⟩
    | succ j => simp at hx
  exact bc_new w t a u⟩

set_option maxHeartbeats 4000000 in
theorem c_s_l03Put {w : World} {z h l vv wt : Int} {pa na : Option Addr} {pn pc nn nc : Nat} {P N : List Bn} (hz : U64 z) (hl0 : U64 l) (hvv : I64 vv) (hwt : U64 wt) (hp : P.length = pn) (hn : N.length = nn) (lp : pn ≤ 30) (ln : nn ≤ 30) (hP : BinsAt w pa P) (hN : BinsAt w na N) (kP : ∀ x ∈ P, BnOk x) (kN : ∀ x ∈ N, BnOk x) (hv9 : -999999999999999999 ≤ vv ∧ vv ≤ 999999999999999999) (cA : pa = none → pc = 0) (cA' : na = none → nc = 0) :
    Calls Try.prog 33 #[.agg #[.int .u64 z, .slice pa pn pc, .slice na nn nc, .int .i64 h, .int .u64 l], .int .i64 vv, .int .u64 wt] w fun e w' => ∃ v, e = .returned v ∧ SkOut w' w.heap.size v (putZ z vv wt) (putPS P vv wt) (putNS N vv wt) (addH h l (thH vv wt) (thL vv wt)) (addL l (thL vv wt)) ∧ Below w.heap.size w w' := by
  have HP := hide hP
  have HN := hide hN
  have KP := hide kP
  have KN := hide kN
  have CA := hide cA
  have CA' := hide cA'
  clear hP hN kP kN cA cA'
  go_enter Try.func33, Try.ntmps33
  go_wp2_with fail
  generalize hW0 : (w.alloc (Obj.cells #[.int .u64 z, .slice pa pn pc, .slice na nn nc, .int .i64 h, .int .u64 l] 28)).alloc (Obj.cells zeroSk 28) = W0
  have T0 : Below w.heap.size w W0 := by rw [← hW0]; exact ((Below.refl _ _).alloc (Nat.le_refl _) _).alloc (by simp) _
  have K0 : SkCell W0 w.heap.size z (.slice pa pn pc) (.slice na nn nc) h l := by rw [← hW0]; exact sk_past (sk_new w _ _ _ _ _ _) ((Below.refl _ _).alloc (Nat.le_refl _) _)
  have R0 : W0.heap[w.heap.size + 1]? = some (.cells zeroSk 28 (0, 0)) := by rw [← hW0]; simpa using heap_alloc_new (w.alloc (Obj.cells #[.int .u64 z, .slice pa pn pc, .slice na nn nc, .int .i64 h, .int .u64 l] 28)) (Obj.cells zeroSk 28)
  have hsz0 : W0.heap.size = w.heap.size + 2 := by rw [← hW0]; simp
  clear hW0
  have HT0 := hide T0
  clear T0
  refine (c_s_l03Copy hp hn (by omega) (by omega) (bins_past HP.out HT0.out) (bins_past HN.out HT0.out) CA.out CA'.out).mono ?_
  rintro e w1 ⟨v1, rfl, ⟨p1, n1, m1, m2, rfl, ho1, ho2, hap⟩, hb1⟩
  obtain ⟨ao1, c1, rfl⟩ := ho1.any
  obtain ⟨ao2, c2, rfl⟩ := ho2.any
  have HT1 := hide (chain HT0.out hb1)
  have K1 := sk_past K0 hb1
  have R1 : w1.heap[w.heap.size + 1]? = some (.cells zeroSk 28 (0, 0)) := by rw [hb1.block _ (by omega)]; exact R0
  have hs1 : w.heap.size + 2 ≤ w1.heap.size := by have := hb1.size; omega
  have HO1 := hide (ho1.le (B' := w.heap.size) (by omega))
  have HO2 := hide (ho2.le (B' := w.heap.size) (by omega))
  have HAp := hide hap
  clear hb1 ho1 ho2 hap K0 R0
  go_wp2_with fail
  generalize hW4 : w1.alloc (Obj.cells #[.int .u64 z, .slice ao1 m1 c1, .slice ao2 m2 c2, .int .i64 h, .int .u64 l] 28) = w4
  have hB4 : Below w1.heap.size w1 w4 := by rw [← hW4]; exact (Below.refl _ _).alloc (Nat.le_refl _) _
  have S4 : w4.heap[w1.heap.size]? = some (.cells #[.int .u64 z, .slice ao1 m1 c1, .slice ao2 m2 c2, .int .i64 h, .int .u64 l] 28 (0, 0)) := by rw [← hW4]; exact heap_alloc_new w1 _
  clear hW4
  obtain ⟨sg, hsg⟩ : ∃ sg, sg = w1.heap.size := ⟨_, rfl⟩
  rw [← hsg] at S4 ⊢
  have hs4 : w.heap.size + 2 ≤ sg := by omega
  have hlt4 : sg < w4.heap.size := (Array.getElem?_eq_some_iff.1 S4).1
  have HT4 := hide (chain HT1.out hB4)
  have K4 := sk_past K1 hB4
  have R4 : w4.heap[w.heap.size + 1]? = some (.cells zeroSk 28 (0, 0)) := by rw [hB4.block _ (by omega)]; exact R1
  have HO14 := hide (HO1.out.past hB4)
  have HO24 := hide (HO2.out.past hB4)
  have hC4 : ∀ W, Below w4.heap.size w4 W → SkCell W w.heap.size z (.slice pa pn pc) (.slice na nn nc) h l ∧ W.heap[w.heap.size + 1]? = some (.cells zeroSk 28 (0, 0)) ∧ W.heap[sg]? = some (.cells #[.int .u64 z, .slice ao1 m1 c1, .slice ao2 m2 c2, .int .i64 h, .int .u64 l] 28 (0, 0)) := fun W hW => ⟨sk_past K4 hW, by rw [hW.block _ (by omega)]; exact R4, by rw [hW.block _ hlt4]; exact S4⟩
  have HC4 := hide hC4
  clear hC4 HO1 HO2 hB4 S4 R4 K4 K1 R1 hsg hs1 HT1
  have HS0 : (fun W => Below w4.heap.size w4 W) w4.drew := (Below.refl _ _).drew
  refine regionK (fun W => Below w4.heap.size w4 W) 7 (by kernel_rfl) ?_
  refine takeK (i := 0) (d := 10) (v := .pointer (some ⟨w.heap.size, 3, none⟩)) rfl rfl (by kernel_rfl) (by kernel_rfl) (by kernel_rfl) (by decide) (by kernel_rfl) (fun _ _ _ h => h) (Or.inl ⟨by rfl, fun W hW => ?_⟩) HS0 ?_
  · obtain ⟨⟨x0, x1, x2, x3, x4⟩, x5, x6⟩ := HC4.out W hW
    go_simp
  simp only [List.setIfInBounds_toArray, List.set_cons_zero, List.set_cons_succ]
  refine takeK (i := 1) (d := 11) (v := .agg #[.int .i64 h, .int .u64 l]) rfl rfl (by kernel_rfl) (by kernel_rfl) (by kernel_rfl) (by decide) (by kernel_rfl) (fun _ _ _ h => h) (Or.inl ⟨by rfl, fun W hW => ?_⟩) HS0 ?_
  · obtain ⟨⟨x0, x1, x2, x3, x4⟩, x5, x6⟩ := HC4.out W hW
    go_simp
  simp only [List.setIfInBounds_toArray, List.set_cons_zero, List.set_cons_succ]
  refine takeK (i := 2) (d := 12) (v := .int .i64 vv) rfl rfl (by kernel_rfl) (by kernel_rfl) (by kernel_rfl) (by decide) (by kernel_rfl) (fun _ _ _ h => h) (Or.inl ⟨by rfl, fun W hW => ?_⟩) HS0 ?_
  · obtain ⟨⟨x0, x1, x2, x3, x4⟩, x5, x6⟩ := HC4.out W hW
    go_simp
  simp only [List.setIfInBounds_toArray, List.set_cons_zero, List.set_cons_succ]
  refine takeK (i := 3) (d := 13) (v := .int .u64 wt) rfl rfl (by kernel_rfl) (by kernel_rfl) (by kernel_rfl) (by decide) (by kernel_rfl) (fun _ _ _ h => h) (Or.inl ⟨by rfl, fun W hW => ?_⟩) HS0 ?_
  · obtain ⟨⟨x0, x1, x2, x3, x4⟩, x5, x6⟩ := HC4.out W hW
    go_simp
  simp only [List.setIfInBounds_toArray, List.set_cons_zero, List.set_cons_succ]
  refine oneK (i := 4) (by kernel_rfl) rfl (fun K hK => ?_)
  go_simp
  refine (c_s_WideTimes _ _ hvv hwt _).mono ?_
  rintro e w5 ⟨rfl, hb5⟩
  dsimp only
  have HB5 := hide ((HS0 : Below w4.heap.size w4 w4.drew).trans hb5)
  clear hb5
  refine hK.out _ _ (fun _ => HB5.out) ?_
  clear hK K
  try simp only [Act.put, List.setIfInBounds_toArray, List.set_cons_zero, List.set_cons_succ]
  refine oneK (i := 5) (by kernel_rfl) rfl (fun K hK => ?_)
  go_simp
  refine (c_s_WideAdd _ _ _ _ _ hl0 (show U64 (thL vv wt) from uw_in _)).mono ?_
  rintro e w6 ⟨rfl, hb6⟩
  dsimp only
  have HB6 := hide (chain HB5.out hb6)
  clear hb6
  refine hK.out _ _ (fun _ => HB6.out) ?_
  clear hK K
  try simp only [Act.put, List.setIfInBounds_toArray, List.set_cons_zero, List.set_cons_succ]
  refine oneK (i := 6) (by kernel_rfl) rfl (fun K hK => ?_)
  go_simp
  refine hK.out _ _ (fun _ => HB6.out) ?_
  clear hK K
  try simp only [Act.put, List.setIfInBounds_toArray, List.set_cons_zero, List.set_cons_succ]
  have R6 := (HC4.out _ HB6.out).2.2
  obtain ⟨y0, y1, y2, y3, y4⟩ := cell5 R6
  have fy3 := frozen_of_row w6 sg 3 _ _ R6
  have fy4 := frozen_of_row w6 sg 4 _ _ R6
  refine oneK (i := 7) (by kernel_rfl) rfl (fun K hK => ?_)
  go_simp
  refine hK.out _ _ (fun h => absurd rfl h) ?_
  clear hK K
  try simp only [Act.put, List.setIfInBounds_toArray, List.set_cons_zero, List.set_cons_succ]
  refine doneK (by kernel_rfl) ?_ _
  obtain ⟨H7, hH7⟩ : ∃ H, addH h l (thH vv wt) (thL vv wt) = H := ⟨_, rfl⟩
  obtain ⟨L7, hL7⟩ : ∃ H, addL l (thL vv wt) = H := ⟨_, rfl⟩
  have HH7 := hide hH7
  have HL7 := hide hL7
  rw [hH7, hL7]
  clear hH7 hL7
  generalize hw3 : (w6.setCell ⟨sg, 3, none⟩ (.int .i64 H7)).setCell ⟨sg, 4, none⟩ (.int .u64 L7) = w3
  have S3 : w3.heap[sg]? = some (.cells #[.int .u64 z, .slice ao1 m1 c1, .slice ao2 m2 c2, .int .i64 H7, .int .u64 L7] 28 (0, 0)) := by
    rw [← hw3]; exact heap_setCell_same _ sg 4 _ _ _ (heap_setCell_same w6 sg 3 _ _ _ R6)
  have hg3 : w6.grownBy w3 (some sg) := by rw [← hw3]; exact (grown_one _ _ _ _).trans (grown_one _ _ _ _)
  have hk3 : ∀ j, j < w6.heap.size → j ≠ sg → w3.heap[j]? = w6.heap[j]? := fun j hj hne => hg3.block j hj (fun e => hne (Option.some.inj e))
  obtain ⟨K6, Q6, _⟩ := HC4.out _ HB6.out
  have hb6z := HB6.out.size
  have R3 : w3.heap[w.heap.size + 1]? = some (.cells zeroSk 28 (0, 0)) := by rw [hk3 _ (by omega) (by omega)]; exact Q6
  have K3 : SkCell w3 w.heap.size z (.slice pa pn pc) (.slice na nn nc) h l := by
    have hb0 : ∀ j, w3.cell? ⟨w.heap.size, j, none⟩ = w6.cell? ⟨w.heap.size, j, none⟩ := fun j => World.cell?_of_block (w := w6) (hk3 w.heap.size (by omega) (by omega))
    exact ⟨by rw [hb0]; exact K6.1, by rw [hb0]; exact K6.2.1, by rw [hb0]; exact K6.2.2.1, by rw [hb0]; exact K6.2.2.2.1, by rw [hb0]; exact K6.2.2.2.2⟩
  have HT3 := hide ((chain HT4.out HB6.out).grown hg3 (chain HT4.out HB6.out).size (fun k e => by cases e; omega))
  have hs3 : sg < w3.heap.size := (Array.getElem?_eq_some_iff.1 S3).1
  have o1 := HO14.out.past HB6.out
  have o2 := HO24.out.past HB6.out
  have HO1 := hide (o1.kept hg3 (.inr (o1.ne R6 (by decide))))
  have HO2 := hide (o2.kept hg3 (.inr (o2.ne R6 (by decide))))
  have hC : ∀ W, Below w3.heap.size w3 W → SkCell W w.heap.size z (.slice pa pn pc) (.slice na nn nc) h l ∧ W.heap[w.heap.size + 1]? = some (.cells zeroSk 28 (0, 0)) ∧ W.heap[sg]? = some (.cells #[.int .u64 z, .slice ao1 m1 c1, .slice ao2 m2 c2, .int .i64 H7, .int .u64 L7] 28 (0, 0)) := fun W hW => ⟨sk_past K3 hW, by rw [hW.block _ (by omega)]; exact R3, by rw [hW.block _ hs3]; exact S3⟩
  have HC := hide hC
  have HS3 := hide S3
  have fs0 := frozen_of_row w3 sg 0 _ _ S3
  obtain ⟨g0, g1, g2, g3, g4⟩ := cell5 S3
  have hfin : ∀ (w9 : World) (Z : Int) (p n : Value) (a b : Nat) (P9 N9 : List Bn), w3.grownBy w9 (some sg) → w9.heap[sg]? = some (.cells #[.int .u64 Z, p, n, .int .i64 H7, .int .u64 L7] 28 (0, 0)) → OwnB w9 w.heap.size p a P9 → OwnB w9 w.heap.size n b N9 → Apart p n →
      SkOut (((((w9.setCell ⟨w.heap.size + 1, 0, none⟩ (.int .u64 Z)).setCell ⟨w.heap.size + 1, 1, none⟩ p).setCell ⟨w.heap.size + 1, 2, none⟩ n).setCell ⟨w.heap.size + 1, 3, none⟩ (.int .i64 H7)).setCell ⟨w.heap.size + 1, 4, none⟩ (.int .u64 L7)) w.heap.size (.agg #[.int .u64 Z, p, n, .int .i64 H7, .int .u64 L7]) Z P9 N9 H7 L7 ∧
      Below w.heap.size w (((((w9.setCell ⟨w.heap.size + 1, 0, none⟩ (.int .u64 Z)).setCell ⟨w.heap.size + 1, 1, none⟩ p).setCell ⟨w.heap.size + 1, 2, none⟩ n).setCell ⟨w.heap.size + 1, 3, none⟩ (.int .i64 H7)).setCell ⟨w.heap.size + 1, 4, none⟩ (.int .u64 L7)) ∧ w9.heap[w.heap.size + 1]? = some (.cells zeroSk 28 (0, 0)) := fun w9 Z p n a b P9 N9 hg hr hp9 hn9 hap9 => by
    have hR : w9.heap[w.heap.size + 1]? = some (.cells zeroSk 28 (0, 0)) := by rw [hg.block _ (by omega) (fun e => by have := Option.some.inj e; omega)]; exact R3
    have q1 := hp9.ne hR (by decide)
    have q2 := hn9.ne hR (by decide)
    refine ⟨⟨p, n, a, b, rfl, ((((hp9.set q1 _).set q1 _).set q1 _).set q1 _).set q1 _, ((((hn9.set q2 _).set q2 _).set q2 _).set q2 _).set q2 _, hap9⟩, ?_, hR⟩
    repeat (refine Below.setCell ?_ (by simp <;> omega) _)
    exact HT3.out.grown hg HT3.out.size (fun k e => by cases e; omega)
  have HFin := hide hfin
  clear hfin hC o1 o2 hw3 hg3 hk3 K6 Q6 hb6z S3 R6 y0 y1 y2 y3 y4 fy3 fy4 HC4 HO14 HO24
  have c3 : vv = 0 ∨ 0 < vv ∨ vv < 0 := by omega
  rcases c3 with hv0 | hP0 | hN0
  · have hz4 : Hid (putZ z vv wt = wAdd z wt) := if_pos hv0
    have hP4 : Hid (putPS P vv wt = P) := if_neg (by omega)
    have hN4 : Hid (putNS N vv wt = N) := if_neg (by omega)
    have d0 : (vv == 0) = true := beq_iff_eq.2 hv0
    have d1 : decide (0 < vv) = false := decide_eq_false (by omega)
    have d2 : decide (vv < 0) = false := decide_eq_false (by omega)
    clear hv0
    obtain ⟨w9, hw9⟩ : ∃ W, w3.setCell ⟨sg, 0, none⟩ (.int .u64 (wAdd z wt)) = W := ⟨_, rfl⟩
    have hg9 : w3.grownBy w9 (some sg) := by rw [← hw9]; exact grown_one _ _ _ _
    have hr9 : w9.heap[sg]? = some (.cells #[.int .u64 (wAdd z wt), .slice ao1 m1 c1, .slice ao2 m2 c2, .int .i64 H7, .int .u64 L7] 28 (0, 0)) := by rw [← hw9]; exact heap_setCell_same w3 sg 0 _ _ _ HS3.out
    have hoP : OwnB w9 w.heap.size (.slice ao1 m1 c1) m1 P := by rw [← hw9]; exact HO1.out.set (HO1.out.ne HS3.out (by decide)) _
    have hoN : OwnB w9 w.heap.size (.slice ao2 m2 c2) m2 N := by rw [← hw9]; exact HO2.out.set (HO2.out.ne HS3.out (by decide)) _
    have hap9 := HAp.out
    obtain ⟨k0, k1, k2, k3, k4⟩ := K3
    obtain ⟨F1, F2, R9⟩ := HFin.out w9 (wAdd z wt) (.slice ao1 m1 c1) (.slice ao2 m2 c2) m1 m2 _ _ hg9 hr9 hoP hoN hap9
    obtain ⟨u0, u1, u2, u3, u4⟩ := cell5 hr9
    obtain ⟨q0, q1, q2, q3, q4⟩ := cell5 R9
    have fr0 := frozen_of_row w9 (w.heap.size + 1) 0 _ _ R9
    have fr1 := frozen_of_row w9 (w.heap.size + 1) 1 _ _ R9
    have fr2 := frozen_of_row w9 (w.heap.size + 1) 2 _ _ R9
    have fr3 := frozen_of_row w9 (w.heap.size + 1) 3 _ _ R9
    have fr4 := frozen_of_row w9 (w.heap.size + 1) 4 _ _ R9
    have HF1 := hide F1
    have HF2 := hide F2
    clear F1 F2 R9 hr9 hg9 hoP hoN hap9
    go_wp2_with (go_at_call 55; refine (c_s_WeightAdd _ _ hz hwt _).mono ?_; rintro e w8 ⟨rfl, hw⟩; obtain rfl := hw.symm)
    refine bodyPost_ret (v := .agg #[.int .u64 (wAdd z wt), .slice ao1 m1 c1, .slice ao2 m2 c2, .int .i64 H7, .int .u64 L7]) (by simp [results, Try.results33, go_sem, q0, q1, q2, q3, q4]) rfl ⟨_, rfl, ?_, HF2.out⟩
    rw [HH7.out, HL7.out, hz4.out, hP4.out, hN4.out]
    exact HF1.out
  · have hz4 : Hid (putZ z vv wt = z) := if_neg (by omega)
    have hN4 : Hid (putNS N vv wt = N) := if_neg (by omega)
    have HV0 := hide hP0
    have d0 : (vv == 0) = false := beq_eq_false_iff_ne.2 (by omega)
    go_wp2_with fail
    have HS0 : (fun W => Below w3.heap.size w3 W) w3.drew := (Below.refl _ _).drew
    refine regionK (fun W => Below w3.heap.size w3 W) 9 (by kernel_rfl) ?_
    refine takeK (i := 0) (d := 25) (v := .pointer (some ⟨w.heap.size, 1, none⟩)) rfl rfl (by kernel_rfl) (by kernel_rfl) (by kernel_rfl) (by decide) (by kernel_rfl) (fun _ _ _ h => h) (Or.inl ⟨by rfl, fun W hW => ?_⟩) HS0 ?_
    · obtain ⟨⟨x0, x1, x2, x3, x4⟩, x5, x6⟩ := HC.out W hW
      go_simp
    simp only [List.setIfInBounds_toArray, List.set_cons_zero, List.set_cons_succ]
    refine takeK (i := 1) (d := 26) (v := .slice pa pn pc) rfl rfl (by kernel_rfl) (by kernel_rfl) (by kernel_rfl) (by decide) (by kernel_rfl) (fun _ _ _ h => h) (Or.inl ⟨by rfl, fun W hW => ?_⟩) HS0 ?_
    · obtain ⟨⟨x0, x1, x2, x3, x4⟩, x5, x6⟩ := HC.out W hW
      go_simp
    simp only [List.setIfInBounds_toArray, List.set_cons_zero, List.set_cons_succ]
    refine takeK (i := 2) (d := 27) (v := .int .i64 vv) rfl rfl (by kernel_rfl) (by kernel_rfl) (by kernel_rfl) (by decide) (by kernel_rfl) (fun _ _ _ h => h) (Or.inl ⟨by rfl, fun W hW => ?_⟩) HS0 ?_
    · obtain ⟨⟨x0, x1, x2, x3, x4⟩, x5, x6⟩ := HC.out W hW
      go_simp
    simp only [List.setIfInBounds_toArray, List.set_cons_zero, List.set_cons_succ]
    refine takeK (i := 4) (d := 29) (v := .int .u64 wt) rfl rfl (by kernel_rfl) (by kernel_rfl) (by kernel_rfl) (by decide) (by kernel_rfl) (fun _ _ _ h => h) (Or.inl ⟨by rfl, fun W hW => ?_⟩) HS0 ?_
    · obtain ⟨⟨x0, x1, x2, x3, x4⟩, x5, x6⟩ := HC.out W hW
      go_simp
    simp only [List.setIfInBounds_toArray, List.set_cons_zero, List.set_cons_succ]
    refine oneK (i := 3) (by kernel_rfl) rfl (fun K hK => ?_)
    go_simp
    refine (c_s_BinOf _ _ (by unfold I64; omega)).mono ?_
    rintro e w4 ⟨rfl, rfl⟩
    dsimp only
    refine hK.out _ _ (fun _ => HS0) ?_
    clear hK K
    try simp only [Act.put, List.setIfInBounds_toArray, List.set_cons_zero, List.set_cons_succ]
    refine takeK (i := 5) (d := 30) (v := .agg #[.int .i64 (binI vv), .int .u64 wt]) rfl rfl (by kernel_rfl) (by kernel_rfl) (by kernel_rfl) (by decide) (by kernel_rfl) (fun _ _ _ h => h) (Or.inl ⟨by rfl, fun W hW => ?_⟩) HS0 ?_
    · clear hW
      go_simp
    simp only [List.setIfInBounds_toArray, List.set_cons_zero, List.set_cons_succ]
    refine oneK (i := 6) (by kernel_rfl) rfl (fun K hK => ?_)
    go_simp
    have hba : Below w3.heap.size w3 (w3.drew.alloc (.cells #[.int .i64 (binI vv), .int .u64 wt] 50)) := HS0.alloc (Nat.le_refl _) _
    have HBA := hide hba
    clear hba
    refine hK.out _ _ (fun _ => HBA.out) ?_
    clear hK K
    try simp only [Act.put, List.setIfInBounds_toArray, List.set_cons_zero, List.set_cons_succ]
    refine oneK (i := 7) (by kernel_rfl) rfl (fun K hK => ?_)
    go_simp
    refine (c_s_l03Gather _ _ _ _ hp (by rfl) lp (by omega) (bins_past HP.out (chain HT3.out HBA.out)) (one_bins _ _ _ _) KP.out (fun x hx => by obtain rfl : x = (binI vv, wt) := (by simpa using hx); exact ⟨by have := binI_in vv; unfold I64; omega, hwt⟩)).mono ?_
    rintro e w5 ⟨v5, n5, rfl, hr5, hn5, hb5⟩
    have ho5 := OwnB.of hr5 hn5
    clear hr5 hn5
    dsimp only
    have HB5 := hide (chain HBA.out hb5)
    have HO5 := hide (ho5.le (B' := w.heap.size) (by have := HT3.out.size; have := HBA.out.size; omega))
    have HF5 := hide (fun q (h : Value.ownBlock v5 = some q) => (show w3.heap.size ≤ q from Nat.le_trans HBA.out.size (ho5.lt q h).1))
    obtain ⟨ao5, c5, rfl⟩ := ho5.any
    clear ho5 hb5
    refine hK.out _ _ (fun _ => HB5.out) ?_
    clear hK K
    try simp only [Act.put, List.setIfInBounds_toArray, List.set_cons_zero, List.set_cons_succ]
    refine oneK (i := 8) (by kernel_rfl) rfl (fun K hK => ?_)
    go_simp
    refine hK.out _ _ (fun _ => HB5.out) ?_
    clear hK K
    try simp only [Act.put, List.setIfInBounds_toArray, List.set_cons_zero, List.set_cons_succ]
    have R5 := (HC.out _ HB5.out).2.2
    obtain ⟨q0, q1, q2, q3, q4⟩ := cell5 R5
    have f1 := frozen_of_row w5 sg 1 _ _ R5
    refine oneK (i := 9) (by kernel_rfl) rfl (fun K hK => ?_)
    go_simp
    refine hK.out _ _ (fun h => absurd rfl h) ?_
    clear hK K
    try simp only [Act.put, List.setIfInBounds_toArray, List.set_cons_zero, List.set_cons_succ]
    refine doneK (by kernel_rfl) ?_ _
    generalize hw9 : w5.setCell ⟨sg, 1, none⟩ (.slice ao5 n5 c5) = w9
    have hg9 : w3.grownBy w9 (some sg) := by rw [← hw9]; exact World.grownBy.trans ⟨HB5.out.os, HB5.out.tape, HB5.out.output, HB5.out.size, fun k hk _ => HB5.out.block k hk⟩ (grown_one _ _ _ _)
    have hr9 : w9.heap[sg]? = some (.cells #[.int .u64 z, .slice ao5 n5 c5, .slice ao2 m2 c2, .int .i64 H7, .int .u64 L7] 28 (0, 0)) := by rw [← hw9]; exact heap_setCell_same w5 sg 1 _ _ _ R5
    have hne5 : Value.ownBlock (.slice ao5 n5 c5) ≠ some sg := HO5.out.ne R5 (by decide)
    have hoP : OwnB w9 w.heap.size (.slice ao5 n5 c5) n5 (putPS P vv wt) := by
      rw [← hw9, putPS, if_pos HV0.out]; exact HO5.out.set hne5 _
    have hoN : OwnB w9 w.heap.size (.slice ao2 m2 c2) m2 N := by
      rw [← hw9]
      have h5 := HO2.out.past HB5.out
      exact h5.set (h5.ne R5 (by decide)) _
    have hap9 : Apart (.slice ao5 n5 c5) (.slice ao2 m2 c2) := fun k e1 e2 => by
      have h1 := HF5.out k e1
      have h2 := (HO2.out.lt k e2).2
      omega
    have d2 : decide (vv < 0) = false := decide_eq_false (by have := HV0.out; omega)
    clear hw9 hne5 R5 q0 q1 q2 q3 q4 f1
    obtain ⟨F1, F2, R9⟩ := HFin.out w9 z (.slice ao5 n5 c5) (.slice ao2 m2 c2) n5 m2 _ _ hg9 hr9 hoP hoN hap9
    obtain ⟨u0, u1, u2, u3, u4⟩ := cell5 hr9
    obtain ⟨q0, q1, q2, q3, q4⟩ := cell5 R9
    have fr0 := frozen_of_row w9 (w.heap.size + 1) 0 _ _ R9
    have fr1 := frozen_of_row w9 (w.heap.size + 1) 1 _ _ R9
    have fr2 := frozen_of_row w9 (w.heap.size + 1) 2 _ _ R9
    have fr3 := frozen_of_row w9 (w.heap.size + 1) 3 _ _ R9
    have fr4 := frozen_of_row w9 (w.heap.size + 1) 4 _ _ R9
    have HF1 := hide F1
    have HF2 := hide F2
    clear F1 F2 R9 hr9 hg9 hoP hoN hap9
    go_wp2
    refine bodyPost_ret (v := .agg #[.int .u64 z, .slice ao5 n5 c5, .slice ao2 m2 c2, .int .i64 H7, .int .u64 L7]) (by simp [results, Try.results33, go_sem, q0, q1, q2, q3, q4]) rfl ⟨_, rfl, ?_, HF2.out⟩
    rw [HH7.out, HL7.out, hz4.out, hN4.out]
    exact HF1.out
  · have hz4 : Hid (putZ z vv wt = z) := if_neg (by omega)
    have hP4 : Hid (putPS P vv wt = P) := if_neg (by omega)
    have HV0 := hide hN0
    have d0 : (vv == 0) = false := beq_eq_false_iff_ne.2 (by omega)
    have d1 : decide (0 < vv) = false := decide_eq_false (by omega)
    have dm : IntKind.i64.wrap (-vv) = -vv := by rw [IntKind.wrap_i64]; omega
    go_wp2_with fail
    have HS0 : (fun W => Below w3.heap.size w3 W) w3.drew := (Below.refl _ _).drew
    refine regionK (fun W => Below w3.heap.size w3 W) 10 (by kernel_rfl) ?_
    refine takeK (i := 0) (d := 37) (v := .pointer (some ⟨w.heap.size, 2, none⟩)) rfl rfl (by kernel_rfl) (by kernel_rfl) (by kernel_rfl) (by decide) (by kernel_rfl) (fun _ _ _ h => h) (Or.inl ⟨by rfl, fun W hW => ?_⟩) HS0 ?_
    · obtain ⟨⟨x0, x1, x2, x3, x4⟩, x5, x6⟩ := HC.out W hW
      go_simp
    simp only [List.setIfInBounds_toArray, List.set_cons_zero, List.set_cons_succ]
    refine takeK (i := 1) (d := 38) (v := .slice na nn nc) rfl rfl (by kernel_rfl) (by kernel_rfl) (by kernel_rfl) (by decide) (by kernel_rfl) (fun _ _ _ h => h) (Or.inl ⟨by rfl, fun W hW => ?_⟩) HS0 ?_
    · obtain ⟨⟨x0, x1, x2, x3, x4⟩, x5, x6⟩ := HC.out W hW
      go_simp
    simp only [List.setIfInBounds_toArray, List.set_cons_zero, List.set_cons_succ]
    refine takeK (i := 2) (d := 39) (v := .int .i64 vv) rfl rfl (by kernel_rfl) (by kernel_rfl) (by kernel_rfl) (by decide) (by kernel_rfl) (fun _ _ _ h => h) (Or.inl ⟨by rfl, fun W hW => ?_⟩) HS0 ?_
    · obtain ⟨⟨x0, x1, x2, x3, x4⟩, x5, x6⟩ := HC.out W hW
      go_simp
    simp only [List.setIfInBounds_toArray, List.set_cons_zero, List.set_cons_succ]
    refine takeK (i := 3) (d := 40) (v := .int .i64 (-vv)) rfl rfl (by kernel_rfl) (by kernel_rfl) (by kernel_rfl) (by decide) (by kernel_rfl) (fun _ _ _ h => h) (Or.inl ⟨by rfl, fun W hW => ?_⟩) HS0 ?_
    · obtain ⟨⟨x0, x1, x2, x3, x4⟩, x5, x6⟩ := HC.out W hW
      go_simp
    simp only [List.setIfInBounds_toArray, List.set_cons_zero, List.set_cons_succ]
    refine takeK (i := 5) (d := 42) (v := .int .u64 wt) rfl rfl (by kernel_rfl) (by kernel_rfl) (by kernel_rfl) (by decide) (by kernel_rfl) (fun _ _ _ h => h) (Or.inl ⟨by rfl, fun W hW => ?_⟩) HS0 ?_
    · obtain ⟨⟨x0, x1, x2, x3, x4⟩, x5, x6⟩ := HC.out W hW
      go_simp
    simp only [List.setIfInBounds_toArray, List.set_cons_zero, List.set_cons_succ]
    refine oneK (i := 4) (by kernel_rfl) rfl (fun K hK => ?_)
    go_simp
    refine (c_s_BinOf _ _ (by unfold I64; omega)).mono ?_
    rintro e w4 ⟨rfl, rfl⟩
    dsimp only
    refine hK.out _ _ (fun _ => HS0) ?_
    clear hK K
    try simp only [Act.put, List.setIfInBounds_toArray, List.set_cons_zero, List.set_cons_succ]
    refine takeK (i := 6) (d := 43) (v := .agg #[.int .i64 (binI (-vv)), .int .u64 wt]) rfl rfl (by kernel_rfl) (by kernel_rfl) (by kernel_rfl) (by decide) (by kernel_rfl) (fun _ _ _ h => h) (Or.inl ⟨by rfl, fun W hW => ?_⟩) HS0 ?_
    · clear hW
      go_simp
    simp only [List.setIfInBounds_toArray, List.set_cons_zero, List.set_cons_succ]
    refine oneK (i := 7) (by kernel_rfl) rfl (fun K hK => ?_)
    go_simp
    have hba : Below w3.heap.size w3 (w3.drew.alloc (.cells #[.int .i64 (binI (-vv)), .int .u64 wt] 50)) := HS0.alloc (Nat.le_refl _) _
    have HBA := hide hba
    clear hba
    refine hK.out _ _ (fun _ => HBA.out) ?_
    clear hK K
    try simp only [Act.put, List.setIfInBounds_toArray, List.set_cons_zero, List.set_cons_succ]
    refine oneK (i := 8) (by kernel_rfl) rfl (fun K hK => ?_)
    go_simp
    refine (c_s_l03Gather _ _ _ _ hn (by rfl) ln (by omega) (bins_past HN.out (chain HT3.out HBA.out)) (one_bins _ _ _ _) KN.out (fun x hx => by obtain rfl : x = (binI (-vv), wt) := (by simpa using hx); exact ⟨by have := binI_in (-vv); unfold I64; omega, hwt⟩)).mono ?_
    rintro e w5 ⟨v5, n5, rfl, hr5, hn5, hb5⟩
    have ho5 := OwnB.of hr5 hn5
    clear hr5 hn5
    dsimp only
    have HB5 := hide (chain HBA.out hb5)
    have HO5 := hide (ho5.le (B' := w.heap.size) (by have := HT3.out.size; have := HBA.out.size; omega))
    have HF5 := hide (fun q (h : Value.ownBlock v5 = some q) => (show w3.heap.size ≤ q from Nat.le_trans HBA.out.size (ho5.lt q h).1))
    obtain ⟨ao5, c5, rfl⟩ := ho5.any
    clear ho5 hb5
    refine hK.out _ _ (fun _ => HB5.out) ?_
    clear hK K
    try simp only [Act.put, List.setIfInBounds_toArray, List.set_cons_zero, List.set_cons_succ]
    refine oneK (i := 9) (by kernel_rfl) rfl (fun K hK => ?_)
    go_simp
    refine hK.out _ _ (fun _ => HB5.out) ?_
    clear hK K
    try simp only [Act.put, List.setIfInBounds_toArray, List.set_cons_zero, List.set_cons_succ]
    have R5 := (HC.out _ HB5.out).2.2
    obtain ⟨q0, q1, q2, q3, q4⟩ := cell5 R5
    have f1 := frozen_of_row w5 sg 2 _ _ R5
    refine oneK (i := 10) (by kernel_rfl) rfl (fun K hK => ?_)
    go_simp
    refine hK.out _ _ (fun h => absurd rfl h) ?_
    clear hK K
    try simp only [Act.put, List.setIfInBounds_toArray, List.set_cons_zero, List.set_cons_succ]
    refine doneK (by kernel_rfl) ?_ _
    generalize hw9 : w5.setCell ⟨sg, 2, none⟩ (.slice ao5 n5 c5) = w9
    have hg9 : w3.grownBy w9 (some sg) := by rw [← hw9]; exact World.grownBy.trans ⟨HB5.out.os, HB5.out.tape, HB5.out.output, HB5.out.size, fun k hk _ => HB5.out.block k hk⟩ (grown_one _ _ _ _)
    have hr9 : w9.heap[sg]? = some (.cells #[.int .u64 z, .slice ao1 m1 c1, .slice ao5 n5 c5, .int .i64 H7, .int .u64 L7] 28 (0, 0)) := by rw [← hw9]; exact heap_setCell_same w5 sg 2 _ _ _ R5
    have hne5 : Value.ownBlock (.slice ao5 n5 c5) ≠ some sg := HO5.out.ne R5 (by decide)
    have hoN : OwnB w9 w.heap.size (.slice ao5 n5 c5) n5 (putNS N vv wt) := by
      rw [← hw9, putNS, if_pos HV0.out]; exact HO5.out.set hne5 _
    have hoP : OwnB w9 w.heap.size (.slice ao1 m1 c1) m1 P := by
      rw [← hw9]
      have h5 := HO1.out.past HB5.out
      exact h5.set (h5.ne R5 (by decide)) _
    have hap9 : Apart (.slice ao1 m1 c1) (.slice ao5 n5 c5) := fun k e1 e2 => by
      have h1 := HF5.out k e2
      have h2 := (HO1.out.lt k e1).2
      omega
    clear hw9 hne5 R5 q0 q1 q2 q3 q4 f1
    obtain ⟨F1, F2, R9⟩ := HFin.out w9 z (.slice ao1 m1 c1) (.slice ao5 n5 c5) m1 n5 _ _ hg9 hr9 hoP hoN hap9
    obtain ⟨u0, u1, u2, u3, u4⟩ := cell5 hr9
    obtain ⟨q0, q1, q2, q3, q4⟩ := cell5 R9
    have fr0 := frozen_of_row w9 (w.heap.size + 1) 0 _ _ R9
    have fr1 := frozen_of_row w9 (w.heap.size + 1) 1 _ _ R9
    have fr2 := frozen_of_row w9 (w.heap.size + 1) 2 _ _ R9
    have fr3 := frozen_of_row w9 (w.heap.size + 1) 3 _ _ R9
    have fr4 := frozen_of_row w9 (w.heap.size + 1) 4 _ _ R9
    have HF1 := hide F1
    have HF2 := hide F2
    clear F1 F2 R9 hr9 hg9 hoP hoN hap9
    go_wp2
    refine bodyPost_ret (v := .agg #[.int .u64 z, .slice ao1 m1 c1, .slice ao5 n5 c5, .int .i64 H7, .int .u64 L7]) (by simp [results, Try.results33, go_sem, q0, q1, q2, q3, q4]) rfl ⟨_, rfl, ?_, HF2.out⟩
    rw [HH7.out, HL7.out, hz4.out, hP4.out]
    exact HF1.out
end Go.Proofs.Ytimocbbaplghoaa
