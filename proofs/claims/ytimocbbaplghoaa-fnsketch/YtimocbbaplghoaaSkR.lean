/-
  Contract of the program's SketchPut.
-/
import Derived.Test.YtimocbbaplghoaaSkP
import Derived.Test.YtimocbbaplghoaaTimes
namespace Go.Proofs.Ytimocbbaplghoaa
set_option linter.unusedVariables false
set_option linter.unusedSimpArgs false
open Go.ChangeShapes Go.WideShapes Go.ChangeAt Go.RowKit Go.PlainAid Go.Lib
set_option maxRecDepth 10000

/-- What is put where. -/
def putZ (z v wt : Int) : Int := if v = 0 then wAdd z wt else z
def putP (P : List Bn) (v wt : Int) : List Bn := if 0 < v then gatL P [(binI v, wt)] else P
def putN (N : List Bn) (v wt : Int) : List Bn := if v < 0 then gatL N [(binI (-v), wt)] else N
def putOk (P N : List Bn) (v wt : Int) : Prop := skB P N = true ∧ (-999999999999999999 ≤ v ∧ v ≤ 999999999999999999) ∧ wt ≠ 0
/-- A number of 64 bits in a block of its own. -/
abbrev NumAt' (w : World) (g : Nat) (x : Int) : Prop := w.cell? ⟨g, 0, none⟩ = some (.int .u64 x)

theorem c_valueRight (v : Int) (w : World) (hv : I64 v) :
    Calls Try.prog 24 #[.int .i64 v] w fun e w' => e = .returned (.bool (decide (-999999999999999999 ≤ v ∧ v ≤ 999999999999999999))) ∧ w' = w := by
  unfold I64 at hv
  by_cases h1 : -999999999999999999 ≤ v
  · by_cases h2 : v ≤ 999999999999999999
    · rw [decide_eq_true ⟨h1, h2⟩]
      go_enter Try.func24, Try.ntmps24
      go_wp2
      go_ret
      exact ⟨rfl, rfl⟩
    · rw [decide_eq_false (fun h => h2 h.2)]
      go_enter Try.func24, Try.ntmps24
      go_wp2
      go_ret
      exact ⟨rfl, rfl⟩
  · rw [decide_eq_false (fun h => h1 h.1)]
    go_enter Try.func24, Try.ntmps24
    go_wp2
    go_ret
    exact ⟨rfl, rfl⟩

theorem c_putInto {w : World} {ao : Option Addr} {Q : List Bn} (c n om : Nat) {at_ wt : Int} (hn : Q.length = n) (hl : n ≤ 30) (hA : BinsAt w ao Q) (kA : ∀ x ∈ Q, BnOk x) (ha : I64 at_) (hw : U64 wt) (hO : NumAt' w om wt) :
    Calls Try.prog 25 #[.slice ao n c, .int .i64 at_, .pointer (some ⟨om, 0, none⟩)] w fun e w' => ∃ v' n', e = .returned v' ∧ OwnB w' w.heap.size v' n' (gatL Q [(at_, wt)]) ∧ Below w.heap.size w w' := by
  have HA := hide hA
  have hb : ∀ o, Below w.heap.size w (w.alloc o) := fun o => (Below.refl _ _).alloc (Nat.le_refl _) o
  have HB := hide hb
  have hbi : ∀ t, BinsAt (w.alloc (.cells #[.int .i64 at_, .int .u64 wt] t)) (some ⟨w.heap.size, 0, none⟩) [(at_, wt)] := fun t _ => ⟨w.heap.size, 0, rfl, fun i x hx => by
    obtain ⟨rfl, rfl⟩ : i = 0 ∧ x = (at_, wt) := by
      cases i with
      | zero => exact ⟨rfl, by simpa using hx.symm⟩
      | succ j => simp at hx
    exact bc_new w t at_ wt⟩
  have HBi := hide hbi
  clear hA hb hbi
  go_enter Try.func25, Try.ntmps25
  go_wp2_with (go_at_call 26; refine (c_gatherBins _ _ _ _ hn (by rfl) hl (by omega) (bins_past HA.out (HB.out _)) (HBi.out _) kA (fun x hx => by obtain rfl : x = (at_, wt) := (by simpa using hx); exact ⟨ha, hw⟩)).mono ?_; rintro e w1 ⟨v', n', rfl, ho, hb1⟩; have HO := hide (ho.le (B' := w.heap.size) (by simp)); have HB1 := hide ((HB.out _).trans (hb1.mono (by simp))); obtain ⟨ao1, c1, rfl⟩ := ho.any; clear ho hb1)
  go_ret
  exact ⟨_, _, rfl, HO.out, HB1.out⟩

set_option maxHeartbeats 4000000 in
theorem c_i_SketchPut {w : World} {z h l vv wt : Int} {pa na : Option Addr} {pn pc nn nc : Nat} {P N : List Bn} (hz : U64 z) (hl0 : U64 l) (hvv : I64 vv) (hwt : U64 wt) (hp : P.length = pn) (hn : N.length = nn) (lp : pn ≤ 1048576) (ln : nn ≤ 1048576) (hP : BinsAt w pa P) (hN : BinsAt w na N) (kP : ∀ x ∈ P, BnOk x) (kN : ∀ x ∈ N, BnOk x) :
    Calls Try.prog 6 #[.agg #[.int .u64 z, .slice pa pn pc, .slice na nn nc, .int .i64 h, .int .u64 l], .int .i64 vv, .int .u64 wt] w fun e w' => ∃ v, e = .returned v ∧ Below w.heap.size w w' ∧ ((putOk P N vv wt ∧ SkOut w' w.heap.size v (putZ z vv wt) (putP P vv wt) (putN N vv wt) (addH h l (thH vv wt) (thL vv wt)) (addL l (thL vv wt))) ∨ (¬ putOk P N vv wt ∧ SkOut w' w.heap.size v z P N h l)) := by
  have HP := hide hP
  have HN := hide hN
  have KP := hide kP
  have KN := hide kN
  clear hP hN kP kN
  go_enter Try.func6, Try.ntmps6
  go_wp2_with fail
  generalize hW0 : ((w.alloc (Obj.cells #[.int .u64 z, .slice pa pn pc, .slice na nn nc, .int .i64 h, .int .u64 l] 28)).alloc (Obj.cells #[.int .u64 wt] 23)).alloc (Obj.cells zeroSk 28) = W0
  have T0 : Below w.heap.size w W0 := by rw [← hW0]; exact (((Below.refl _ _).alloc (Nat.le_refl _) _).alloc (by simp) _).alloc (by simp; omega) _
  have K0 : SkCell W0 w.heap.size z (.slice pa pn pc) (.slice na nn nc) h l := by rw [← hW0]; exact sk_past (sk_new w _ _ _ _ _ _) (((Below.refl _ _).alloc (Nat.le_refl _) _).alloc (by simp) _)
  have N0 : NumAt' W0 (w.heap.size + 1) wt := by
    rw [← hW0]
    exact cell_on (by simp) _
  have R0 : W0.heap[w.heap.size + 1 + 1]? = some (.cells zeroSk 28 (0, 0)) := by rw [← hW0]; simpa using heap_alloc_new ((w.alloc (Obj.cells #[.int .u64 z, .slice pa pn pc, .slice na nn nc, .int .i64 h, .int .u64 l] 28)).alloc (Obj.cells #[.int .u64 wt] 23)) (Obj.cells zeroSk 28)
  have hsz0 : W0.heap.size = w.heap.size + 3 := by rw [← hW0]; simp
  clear hW0
  have HT0 := hide T0
  clear T0
  refine (c_copySketch hp hn lp ln (bins_past HP.out HT0.out) (bins_past HN.out HT0.out)).mono ?_
  rintro e w1 ⟨v1, rfl, ⟨p1, n1, m1, m2, rfl, ho1, ho2, hap⟩, hb1⟩
  obtain ⟨ao1, c1, rfl⟩ := ho1.any
  obtain ⟨ao2, c2, rfl⟩ := ho2.any
  have HT1 := hide (chain HT0.out hb1)
  have K1 := sk_past K0 hb1
  have N1 : NumAt' w1 (w.heap.size + 1) wt := cell_past hb1 N0
  have R1 : w1.heap[w.heap.size + 1 + 1]? = some (.cells zeroSk 28 (0, 0)) := by rw [hb1.block _ (by omega)]; exact R0
  obtain ⟨sg, hsg⟩ : ∃ sg, sg = w1.heap.size := ⟨_, rfl⟩
  have hs1 : w.heap.size + 3 ≤ w1.heap.size := by have := hb1.size; omega
  have hbA : ∀ o, Below w1.heap.size w1 (w1.alloc o) := fun o => (Below.refl _ _).alloc (Nat.le_refl _) o
  have KA : ∀ o, SkCell (w1.alloc o) w.heap.size z (.slice pa pn pc) (.slice na nn nc) h l := fun o => sk_past K1 (hbA o)
  have HO1 := hide (ho1.le (B' := w.heap.size) (by omega))
  have HO2 := hide (ho2.le (B' := w.heap.size) (by omega))
  have HbA := hide hbA
  have HAp := hide hap
  clear hb1 ho1 ho2 hap K0 N0 R0 hbA
  go_wp2_with fail
  refine (c_i_SketchRight hp hn lp ln (bins_past HP.out (chain HT1.out (HbA.out _))) (bins_past HN.out (chain HT1.out (HbA.out _))) KP.out KN.out).mono ?_
  rintro e w3 ⟨rfl, hb3⟩
  have HB3 := hide (chain (HbA.out _) hb3)
  have HT3 := hide (chain HT1.out HB3.out)
  have K3 := sk_past K1 HB3.out
  have N3 : NumAt' w3 (w.heap.size + 1) wt := cell_past HB3.out N1
  have R3 : w3.heap[w.heap.size + 1 + 1]? = some (.cells zeroSk 28 (0, 0)) := by rw [HB3.out.block _ (by omega)]; exact R1
  have S3 : w3.heap[sg]? = some (.cells #[.int .u64 z, .slice ao1 m1 c1, .slice ao2 m2 c2, .int .i64 h, .int .u64 l] 28 (0, 0)) := by
    rw [hsg, hb3.block _ (by simp)]; exact heap_alloc_new w1 _
  have hs3 : sg < w3.heap.size := (Array.getElem?_eq_some_iff.1 S3).1
  rw [← hsg]
  have hs4 : w.heap.size + 3 ≤ sg := by omega
  clear hsg hs1
  have hC : ∀ W, Below w3.heap.size w3 W → SkCell W w.heap.size z (.slice pa pn pc) (.slice na nn nc) h l ∧ NumAt' W (w.heap.size + 1) wt ∧ W.heap[w.heap.size + 1 + 1]? = some (.cells zeroSk 28 (0, 0)) ∧ W.heap[sg]? = some (.cells #[.int .u64 z, .slice ao1 m1 c1, .slice ao2 m2 c2, .int .i64 h, .int .u64 l] 28 (0, 0)) := fun W hW => ⟨sk_past K3 hW, cell_past hW N3, by rw [hW.block _ (by omega)]; exact R3, by rw [hW.block _ hs3]; exact S3⟩
  have HC := hide hC
  have HO1 := hide (HO1.out.past HB3.out)
  have HO2 := hide (HO2.out.past HB3.out)
  obtain ⟨g0, g1, g2, g3, g4⟩ := cell5 S3
  have fs0 := frozen_of_row w3 sg 0 _ _ S3
  obtain ⟨q0, q1, q2, q3, q4⟩ := cell5 R3
  have fr0 := frozen_of_row w3 (w.heap.size + 1 + 1) 0 _ _ R3
  have fr1 := frozen_of_row w3 (w.heap.size + 1 + 1) 1 _ _ R3
  have fr2 := frozen_of_row w3 (w.heap.size + 1 + 1) 2 _ _ R3
  have fr3 := frozen_of_row w3 (w.heap.size + 1 + 1) 3 _ _ R3
  have fr4 := frozen_of_row w3 (w.heap.size + 1 + 1) 4 _ _ R3
  clear hb3 hC KA K1 N1 R1 HbA
  have hbad : ¬ putOk P N vv wt ∨ putOk P N vv wt := (Classical.em _).symm
  rcases hbad with hb | hb
  · have HBad := hide hb
    have hcs : (skB P N = false) ∨ (skB P N = true ∧ decide (-999999999999999999 ≤ vv ∧ vv ≤ 999999999999999999) = false) ∨ (skB P N = true ∧ decide (-999999999999999999 ≤ vv ∧ vv ≤ 999999999999999999) = true ∧ wt = 0) := by
      cases h1 : skB P N with
      | false => exact .inl rfl
      | true =>
        by_cases h2 : -999999999999999999 ≤ vv ∧ vv ≤ 999999999999999999
        · by_cases h3 : wt = 0
          · exact .inr (.inr ⟨rfl, decide_eq_true h2, h3⟩)
          · exact absurd ⟨h1, h2, h3⟩ hb
        · exact .inr (.inl ⟨rfl, decide_eq_false h2⟩)
    clear hb S3 R3
    rcases hcs with e1 | ⟨e1, e2⟩ | ⟨e1, e2, e3⟩
    all_goals
      rw [e1]
      go_wp2_with (first | (go_at_call 24; refine (c_valueRight _ _ hvv).mono ?_; rintro e w4 ⟨rfl, rfl⟩; rw [e2]))
      refine bodyPost_ret (v := .agg #[.int .u64 z, .slice ao1 m1 c1, .slice ao2 m2 c2, .int .i64 h, .int .u64 l]) (by simp [results, Try.results6, go_sem, q0, q1, q2, q3, q4]) rfl ⟨_, rfl, ?_, .inr ⟨HBad.out, _, _, m1, m2, rfl, ?_, ?_, HAp.out⟩⟩
      · repeat (refine Below.setCell ?_ (by simp <;> omega) _)
        exact HT3.out
      · have hne := HO1.out.ne (HC.out _ (Below.refl _ _)).2.2.1 (by decide)
        repeat (refine OwnB.set ?_ hne _)
        exact HO1.out
      · have hne := HO2.out.ne (HC.out _ (Below.refl _ _)).2.2.1 (by decide)
        repeat (refine OwnB.set ?_ hne _)
        exact HO2.out
  · obtain ⟨e1, ⟨e2, e2'⟩, e3⟩ := id hb
    have HOk := hide hb
    have d2 : decide (-999999999999999999 ≤ vv ∧ vv ≤ 999999999999999999) = true := decide_eq_true ⟨e2, e2'⟩
    have d3 : (wt == 0) = false := beq_eq_false_iff_ne.2 e3
    obtain ⟨l30P, l30N⟩ : pn ≤ 30 ∧ nn ≤ 30 := by
      have := Bool.and_eq_true_iff.1 e1
      have h1 := (Bool.and_eq_true_iff.1 this.1).1
      have h2 := (Bool.and_eq_true_iff.1 this.2).1
      have := of_decide_eq_true h1
      have := of_decide_eq_true h2
      omega
    clear hb
    rw [e1]
    have hsW : ∀ W, w3.grownBy W (some sg) → SkCell W w.heap.size z (.slice pa pn pc) (.slice na nn nc) h l ∧ NumAt' W (w.heap.size + 1) wt ∧ W.heap[w.heap.size + 1 + 1]? = some (.cells zeroSk 28 (0, 0)) := fun W hW => by
      have hk : ∀ j, j < w3.heap.size → j ≠ sg → W.heap[j]? = w3.heap[j]? := fun j hj hne => hW.block j hj (fun e => hne (Option.some.inj e))
      have hb0 : ∀ j, W.cell? ⟨w.heap.size, j, none⟩ = w3.cell? ⟨w.heap.size, j, none⟩ := fun j => World.cell?_of_block (w := w3) (hk w.heap.size (by omega) (by omega))
      refine ⟨⟨by rw [hb0]; exact K3.1, by rw [hb0]; exact K3.2.1, by rw [hb0]; exact K3.2.2.1, by rw [hb0]; exact K3.2.2.2.1, by rw [hb0]; exact K3.2.2.2.2⟩, ?_, by rw [hk (w.heap.size + 1 + 1) (by omega) (by omega)]; exact R3⟩
      have : W.cell? ⟨w.heap.size + 1, 0, none⟩ = w3.cell? ⟨w.heap.size + 1, 0, none⟩ := World.cell?_of_block (w := w3) (hk (w.heap.size + 1) (by omega) (by omega))
      rw [NumAt', this]; exact N3
    have HsW := hide hsW
    have HS3 := hide S3
    clear S3 R3 hsW
    have c3 : vv = 0 ∨ 0 < vv ∨ vv < 0 := by omega
    rcases c3 with hv0 | hP0 | hN0
    · have hz4 : Hid (putZ z vv wt = wAdd z wt) := if_pos hv0
      have hP4 : Hid (putP P vv wt = P) := if_neg (by omega)
      have hN4 : Hid (putN N vv wt = N) := if_neg (by omega)
      have d0 : (vv == 0) = true := by simp [hv0]
      clear hv0
      go_wp2_with (first
        | (go_at_call 24; refine (c_valueRight _ _ hvv).mono ?_; rintro e w4 ⟨rfl, hw⟩; obtain rfl := hw.symm; rw [d2])
        | (go_at_call 18; refine (c_i_WeightAdd _ _ hz hwt _).mono ?_; rintro e w4 ⟨rfl, hw⟩; obtain rfl := hw.symm))
      generalize hw4 : World.setCell _ ⟨sg, 0, none⟩ (.int .u64 (wAdd z wt)) = w4
      have hg4 : w3.grownBy w4 (some sg) := by rw [← hw4]; exact grown_one _ _ _ _
      have hr4 : w4.heap[sg]? = some (.cells #[.int .u64 (putZ z vv wt), .slice ao1 m1 c1, .slice ao2 m2 c2, .int .i64 h, .int .u64 l] 28 (0, 0)) := by
        rw [← hw4, hz4.out]; exact heap_setCell_same _ sg 0 _ _ _ HS3.out
      have hoP : OwnB w4 w.heap.size (.slice ao1 m1 c1) m1 (putP P vv wt) := by
        rw [← hw4, hP4.out]; exact HO1.out.set (HO1.out.ne HS3.out (by decide)) _
      have hoN : OwnB w4 w.heap.size (.slice ao2 m2 c2) m2 (putN N vv wt) := by
        rw [← hw4, hN4.out]; exact HO2.out.set (HO2.out.ne HS3.out (by decide)) _
      have hap := HAp.out
      clear hz4 hP4 hN4 HO1 HO2 hw4 g0 g1 g2 g3 g4 fs0
      obtain ⟨K4, N4, R4⟩ := HsW.out _ hg4
      have hT4 : Below w.heap.size w w4 := HT3.out.grown hg4 HT3.out.size (fun k e => by cases e; omega)
      have hlt4 : sg < w4.heap.size := (Array.getElem?_eq_some_iff.1 hr4).1
      have hC4 : ∀ W, Below w4.heap.size w4 W → SkCell W w.heap.size z (.slice pa pn pc) (.slice na nn nc) h l ∧ NumAt' W (w.heap.size + 1) wt ∧ W.heap[w.heap.size + 1 + 1]? = some (.cells zeroSk 28 (0, 0)) ∧ W.heap[sg]? = some (.cells #[.int .u64 (putZ z vv wt), .slice ao1 m1 c1, .slice ao2 m2 c2, .int .i64 h, .int .u64 l] 28 (0, 0)) := fun W hW => ⟨sk_past K4 hW, cell_past hW N4, by rw [hW.block _ (by omega)]; exact R4, by rw [hW.block _ hlt4]; exact hr4⟩
      have HC4 := hide hC4
      have HT4 := hide hT4
      have HoP := hide hoP
      have HoN := hide hoN
      have Hap := hide hap
      obtain ⟨Z4, hZ4⟩ : ∃ Z, putZ z vv wt = Z := ⟨_, rfl⟩
      rw [hZ4] at HC4
      have HZ4 := hide hZ4
      clear hC4 hT4 hoP hoN hap hr4 hg4 K4 N4 R4 hZ4 HC
      have HS0 : (fun W => Below w4.heap.size w4 W) w4.drew := (Below.refl _ _).drew
      refine regionK (fun W => Below w4.heap.size w4 W) 7 (by kernel_rfl) ?_
      refine takeK (i := 0) (d := 49) (v := .pointer (some ⟨w.heap.size, 3, none⟩)) rfl rfl (by kernel_rfl) (by kernel_rfl) (by kernel_rfl) (by decide) (by kernel_rfl) (fun _ _ _ h => h) (Or.inl ⟨by rfl, fun W hW => ?_⟩) HS0 ?_
      · obtain ⟨⟨x0, x1, x2, x3, x4⟩, x5, x6, x7⟩ := HC4.out W hW
        go_simp
      simp only [List.setIfInBounds_toArray, List.set_cons_zero, List.set_cons_succ]
      refine takeK (i := 1) (d := 50) (v := .agg #[.int .i64 h, .int .u64 l]) rfl rfl (by kernel_rfl) (by kernel_rfl) (by kernel_rfl) (by decide) (by kernel_rfl) (fun _ _ _ h => h) (Or.inl ⟨by rfl, fun W hW => ?_⟩) HS0 ?_
      · obtain ⟨⟨x0, x1, x2, x3, x4⟩, x5, x6, x7⟩ := HC4.out W hW
        go_simp
      simp only [List.setIfInBounds_toArray, List.set_cons_zero, List.set_cons_succ]
      refine takeK (i := 2) (d := 51) (v := .int .i64 vv) rfl rfl (by kernel_rfl) (by kernel_rfl) (by kernel_rfl) (by decide) (by kernel_rfl) (fun _ _ _ h => h) (Or.inl ⟨by rfl, fun W hW => ?_⟩) HS0 ?_
      · obtain ⟨⟨x0, x1, x2, x3, x4⟩, x5, x6, x7⟩ := HC4.out W hW
        go_simp
      simp only [List.setIfInBounds_toArray, List.set_cons_zero, List.set_cons_succ]
      refine takeK (i := 3) (d := 52) (v := .int .u64 wt) rfl rfl (by kernel_rfl) (by kernel_rfl) (by kernel_rfl) (by decide) (by kernel_rfl) (fun _ _ _ h => h) (Or.inl ⟨by rfl, fun W hW => ?_⟩) HS0 ?_
      · obtain ⟨⟨x0, x1, x2, x3, x4⟩, x5, x6, x7⟩ := HC4.out W hW
        go_simp
      simp only [List.setIfInBounds_toArray, List.set_cons_zero, List.set_cons_succ]
      refine oneK (i := 4) (by kernel_rfl) rfl (fun K hK => ?_)
      go_simp
      refine (c_i_WideTimes _ _ hvv hwt _).mono ?_
      rintro e w5 ⟨rfl, hb5⟩
      dsimp only
      have HB5 := hide ((HS0 : Below w4.heap.size w4 w4.drew).trans hb5)
      clear hb5
      refine hK.out _ _ (fun _ => HB5.out) ?_
      clear hK K
      try simp only [Act.put, List.setIfInBounds_toArray, List.set_cons_zero, List.set_cons_succ]
      refine oneK (i := 5) (by kernel_rfl) rfl (fun K hK => ?_)
      go_simp
      refine (c_i_WideAdd _ _ _ _ _ hl0 (show U64 (thL vv wt) from uw_in _)).mono ?_
      rintro e w6 ⟨rfl, hb6⟩
      dsimp only
      have HB6 := hide (chain HB5.out hb6)
      clear hb6
      refine hK.out _ _ (fun _ => HB6.out) ?_
      clear hK K
      try simp only [Act.put, List.setIfInBounds_toArray, List.set_cons_zero, List.set_cons_succ]
      refine oneK (i := 6) (by kernel_rfl) rfl (fun K hK => ?_)
      go_simp
      refine hK.out _ _ (fun _ => HB6.out) ?_
      clear hK K
      try simp only [Act.put, List.setIfInBounds_toArray, List.set_cons_zero, List.set_cons_succ]
      have R6 := (HC4.out _ HB6.out).2.2.2
      obtain ⟨y0, y1, y2, y3, y4⟩ := cell5 R6
      have fy3 := frozen_of_row w6 sg 3 _ _ R6
      have fy4 := frozen_of_row w6 sg 4 _ _ R6
      refine oneK (i := 7) (by kernel_rfl) rfl (fun K hK => ?_)
      go_simp
      refine hK.out _ _ (fun h => absurd rfl h) ?_
      clear hK K
      try simp only [Act.put, List.setIfInBounds_toArray, List.set_cons_zero, List.set_cons_succ]
      refine doneK (by kernel_rfl) ?_ _
      obtain ⟨H7, hH7⟩ : ∃ H, addH h l (thH vv wt) (thL vv wt) = H := ⟨_, rfl⟩
      obtain ⟨L7, hL7⟩ : ∃ H, addL l (thL vv wt) = H := ⟨_, rfl⟩
      have HH7 := hide hH7
      have HL7 := hide hL7
      rw [hH7, hL7]
      clear hH7 hL7
      generalize hw7 : (w6.setCell ⟨sg, 3, none⟩ (.int .i64 H7)).setCell ⟨sg, 4, none⟩ (.int .u64 L7) = w7
      have S7 : w7.heap[sg]? = some (.cells #[.int .u64 Z4, .slice ao1 m1 c1, .slice ao2 m2 c2, .int .i64 H7, .int .u64 L7] 28 (0, 0)) := by
        rw [← hw7]; exact heap_setCell_same _ sg 4 _ _ _ (heap_setCell_same w6 sg 3 _ _ _ R6)
      have hg7 : w6.grownBy w7 (some sg) := by rw [← hw7]; exact (grown_one _ _ _ _).trans (grown_one _ _ _ _)
      have R7 : w7.heap[w.heap.size + 1 + 1]? = some (.cells zeroSk 28 (0, 0)) := by
        have hR := (HC4.out _ HB6.out).2.2.1
        rw [hg7.block _ (Array.getElem?_eq_some_iff.1 hR).1 (fun e => by have := Option.some.inj e; omega)]; exact hR
      have T7 : Below w.heap.size w w7 := (chain HT4.out HB6.out).grown hg7 (chain HT4.out HB6.out).size (fun k e => by cases e; omega)
      have hoP := HoP.out.past HB6.out
      have hoN := HoN.out.past HB6.out
      have hP7 := hoP.kept hg7 (.inr (hoP.ne R6 (by decide)))
      have hN7 := hoN.kept hg7 (.inr (hoN.ne R6 (by decide)))
      have HP7 := hide hP7
      have HN7 := hide hN7
      have HT7 := hide T7
      have HR7 := hide R7
      obtain ⟨g0, g1, g2, g3, g4⟩ := cell5 S7
      obtain ⟨q0, q1, q2, q3, q4⟩ := cell5 R7
      have fr0 := frozen_of_row w7 (w.heap.size + 1 + 1) 0 _ _ R7
      have fr1 := frozen_of_row w7 (w.heap.size + 1 + 1) 1 _ _ R7
      have fr2 := frozen_of_row w7 (w.heap.size + 1 + 1) 2 _ _ R7
      have fr3 := frozen_of_row w7 (w.heap.size + 1 + 1) 3 _ _ R7
      have fr4 := frozen_of_row w7 (w.heap.size + 1 + 1) 4 _ _ R7
      clear S7 hg7 R7 T7 hoP hoN hP7 hN7 hw7 y0 y1 y2 y3 y4 fy3 fy4 R6
      go_wp2
      refine bodyPost_ret (v := .agg #[.int .u64 Z4, .slice ao1 m1 c1, .slice ao2 m2 c2, .int .i64 H7, .int .u64 L7]) (by simp [results, Try.results6, go_sem, q0, q1, q2, q3, q4]) rfl ⟨_, rfl, ?_, .inl ⟨HOk.out, ?_⟩⟩
      · repeat (refine Below.setCell ?_ (by simp <;> omega) _)
        exact HT7.out
      · rw [HH7.out, HL7.out, HZ4.out]
        refine ⟨_, _, m1, m2, rfl, ?_, ?_, Hap.out⟩
        · have hne := HP7.out.ne HR7.out (by decide)
          repeat (refine OwnB.set ?_ hne _)
          exact HP7.out
        · have hne := HN7.out.ne HR7.out (by decide)
          repeat (refine OwnB.set ?_ hne _)
          exact HN7.out
    · have hz4 : Hid (putZ z vv wt = z) := if_neg (by omega)
      have hN4 : Hid (putN N vv wt = N) := if_neg (by omega)
      have HP0 := hide hP0
      have d0 : (vv == 0) = false := beq_eq_false_iff_ne.2 (by omega)
      have d1 : decide (0 < vv) = true := decide_eq_true hP0
      go_wp2_with (first
        | (go_at_call 24; refine (c_valueRight _ _ hvv).mono ?_; rintro e w4 ⟨rfl, hw⟩; obtain rfl := hw.symm; rw [d2]))
      have HS0 : (fun W => Below w3.heap.size w3 W) w3.drew := (Below.refl _ _).drew
      refine regionK (fun W => Below w3.heap.size w3 W) 7 (by kernel_rfl) ?_
      refine takeK (i := 0) (d := 34) (v := .func (.func 25) #[] #[.pointer (some ⟨w.heap.size + 1, 0, none⟩)]) rfl rfl (by kernel_rfl) (by kernel_rfl) (by kernel_rfl) (by decide) (by kernel_rfl) (fun _ _ _ h => h) (Or.inl ⟨by rfl, fun W hW => ?_⟩) HS0 ?_
      · obtain ⟨⟨x0, x1, x2, x3, x4⟩, x5, x6, x7⟩ := HC.out W hW
        go_simp
      simp only [List.setIfInBounds_toArray, List.set_cons_zero, List.set_cons_succ]
      refine takeK (i := 1) (d := 35) (v := .pointer (some ⟨w.heap.size, 1, none⟩)) rfl rfl (by kernel_rfl) (by kernel_rfl) (by kernel_rfl) (by decide) (by kernel_rfl) (fun _ _ _ h => h) (Or.inl ⟨by rfl, fun W hW => ?_⟩) HS0 ?_
      · obtain ⟨⟨x0, x1, x2, x3, x4⟩, x5, x6, x7⟩ := HC.out W hW
        go_simp
      simp only [List.setIfInBounds_toArray, List.set_cons_zero, List.set_cons_succ]
      refine takeK (i := 2) (d := 36) (v := .slice pa pn pc) rfl rfl (by kernel_rfl) (by kernel_rfl) (by kernel_rfl) (by decide) (by kernel_rfl) (fun _ _ _ h => h) (Or.inl ⟨by rfl, fun W hW => ?_⟩) HS0 ?_
      · obtain ⟨⟨x0, x1, x2, x3, x4⟩, x5, x6, x7⟩ := HC.out W hW
        go_simp
      simp only [List.setIfInBounds_toArray, List.set_cons_zero, List.set_cons_succ]
      refine takeK (i := 3) (d := 37) (v := .int .i64 vv) rfl rfl (by kernel_rfl) (by kernel_rfl) (by kernel_rfl) (by decide) (by kernel_rfl) (fun _ _ _ h => h) (Or.inl ⟨by rfl, fun W hW => ?_⟩) HS0 ?_
      · obtain ⟨⟨x0, x1, x2, x3, x4⟩, x5, x6, x7⟩ := HC.out W hW
        go_simp
      simp only [List.setIfInBounds_toArray, List.set_cons_zero, List.set_cons_succ]
      refine oneK (i := 4) (by kernel_rfl) rfl (fun K hK => ?_)
      go_simp
      refine (c_i_BinOf _ _ (by unfold I64; omega)).mono ?_
      rintro e w4 ⟨rfl, rfl⟩
      dsimp only
      refine hK.out _ _ (fun _ => HS0) ?_
      clear hK K
      try simp only [Act.put, List.setIfInBounds_toArray, List.set_cons_zero, List.set_cons_succ]
      refine oneK (i := 5) (by kernel_rfl) rfl (fun K hK => ?_)
      go_simp
      refine (c_putInto (Q := P) _ _ _ hp l30P (bins_past HP.out (chain HT3.out HS0)) KP.out (by have := binI_in vv; unfold I64; omega) hwt (HC.out _ HS0).2.1).mono ?_
      rintro e w5 ⟨v5, n5, rfl, ho5, hb5⟩
      dsimp only
      have HB5 := hide ((HS0 : Below w3.heap.size w3 w3.drew).trans hb5)
      have HO5 := hide (ho5.le (B' := w.heap.size) (by show w.heap.size ≤ w3.heap.size; have := HT3.out.size; omega))
      have HF5 := hide (fun q (h : Value.ownBlock v5 = some q) => (show w3.heap.size ≤ q from (ho5.lt q h).1))
      obtain ⟨ao5, c5, rfl⟩ := ho5.any
      clear ho5 hb5
      refine hK.out _ _ (fun _ => HB5.out) ?_
      clear hK K
      try simp only [Act.put, List.setIfInBounds_toArray, List.set_cons_zero, List.set_cons_succ]
      refine oneK (i := 6) (by kernel_rfl) rfl (fun K hK => ?_)
      go_simp
      refine hK.out _ _ (fun _ => HB5.out) ?_
      clear hK K
      try simp only [Act.put, List.setIfInBounds_toArray, List.set_cons_zero, List.set_cons_succ]
      have R5 := (HC.out _ HB5.out).2.2.2
      obtain ⟨q0, q1, q2, q3, q4⟩ := cell5 R5
      have f1 := frozen_of_row w5 sg 1 _ _ R5
      refine oneK (i := 7) (by kernel_rfl) rfl (fun K hK => ?_)
      go_simp
      refine hK.out _ _ (fun h => absurd rfl h) ?_
      clear hK K
      try simp only [Act.put, List.setIfInBounds_toArray, List.set_cons_zero, List.set_cons_succ]
      refine doneK (by kernel_rfl) ?_ _
      generalize hw4 : w5.setCell ⟨sg, 1, none⟩ (.slice ao5 n5 c5) = w4
      have hg4 : w3.grownBy w4 (some sg) := by rw [← hw4]; exact World.grownBy.trans ⟨HB5.out.os, HB5.out.tape, HB5.out.output, HB5.out.size, fun k hk _ => HB5.out.block k hk⟩ (grown_one _ _ _ _)
      have hr4 : w4.heap[sg]? = some (.cells #[.int .u64 (putZ z vv wt), .slice ao5 n5 c5, .slice ao2 m2 c2, .int .i64 h, .int .u64 l] 28 (0, 0)) := by
        rw [← hw4, hz4.out]; exact heap_setCell_same w5 sg 1 _ _ _ R5
      have hne5 : Value.ownBlock (.slice ao5 n5 c5) ≠ some sg := HO5.out.ne R5 (by decide)
      have hoP : OwnB w4 w.heap.size (.slice ao5 n5 c5) n5 (putP P vv wt) := by
        rw [← hw4, putP, if_pos HP0.out]; exact HO5.out.set hne5 _
      have hoN : OwnB w4 w.heap.size (.slice ao2 m2 c2) m2 (putN N vv wt) := by
        rw [← hw4, hN4.out]
        have h5 := HO2.out.past HB5.out
        exact h5.set (h5.ne R5 (by decide)) _
      have hap : Apart (.slice ao5 n5 c5) (.slice ao2 m2 c2) := fun k e1 e2 => by
        have h1 := HF5.out k e1
        have h2 := (HO2.out.lt k e2).2
        omega
      clear HO1 HO2 hw4 HO5 HF5 R5 q0 q1 q2 q3 q4 f1 hne5 HB5 hz4 hN4 g0 g1 g2 g3 g4 fs0 HS0
      obtain ⟨K4, N4, R4⟩ := HsW.out _ hg4
      have hT4 : Below w.heap.size w w4 := HT3.out.grown hg4 HT3.out.size (fun k e => by cases e; omega)
      have hlt4 : sg < w4.heap.size := (Array.getElem?_eq_some_iff.1 hr4).1
      have hC4 : ∀ W, Below w4.heap.size w4 W → SkCell W w.heap.size z (.slice pa pn pc) (.slice na nn nc) h l ∧ NumAt' W (w.heap.size + 1) wt ∧ W.heap[w.heap.size + 1 + 1]? = some (.cells zeroSk 28 (0, 0)) ∧ W.heap[sg]? = some (.cells #[.int .u64 (putZ z vv wt), .slice ao5 n5 c5, .slice ao2 m2 c2, .int .i64 h, .int .u64 l] 28 (0, 0)) := fun W hW => ⟨sk_past K4 hW, cell_past hW N4, by rw [hW.block _ (by omega)]; exact R4, by rw [hW.block _ hlt4]; exact hr4⟩
      have HC4 := hide hC4
      have HT4 := hide hT4
      have HoP := hide hoP
      have HoN := hide hoN
      have Hap := hide hap
      obtain ⟨Z4, hZ4⟩ : ∃ Z, putZ z vv wt = Z := ⟨_, rfl⟩
      rw [hZ4] at HC4
      have HZ4 := hide hZ4
      clear hC4 hT4 hoP hoN hap hr4 hg4 K4 N4 R4 hZ4 HC
      have HS0 : (fun W => Below w4.heap.size w4 W) w4.drew := (Below.refl _ _).drew
      go_wp2_with fail
      refine regionK (fun W => Below w4.heap.size w4 W) 7 (by kernel_rfl) ?_
      refine takeK (i := 0) (d := 49) (v := .pointer (some ⟨w.heap.size, 3, none⟩)) rfl rfl (by kernel_rfl) (by kernel_rfl) (by kernel_rfl) (by decide) (by kernel_rfl) (fun _ _ _ h => h) (Or.inl ⟨by rfl, fun W hW => ?_⟩) HS0 ?_
      · obtain ⟨⟨x0, x1, x2, x3, x4⟩, x5, x6, x7⟩ := HC4.out W hW
        go_simp
      simp only [List.setIfInBounds_toArray, List.set_cons_zero, List.set_cons_succ]
      refine takeK (i := 1) (d := 50) (v := .agg #[.int .i64 h, .int .u64 l]) rfl rfl (by kernel_rfl) (by kernel_rfl) (by kernel_rfl) (by decide) (by kernel_rfl) (fun _ _ _ h => h) (Or.inl ⟨by rfl, fun W hW => ?_⟩) HS0 ?_
      · obtain ⟨⟨x0, x1, x2, x3, x4⟩, x5, x6, x7⟩ := HC4.out W hW
        go_simp
      simp only [List.setIfInBounds_toArray, List.set_cons_zero, List.set_cons_succ]
      refine takeK (i := 2) (d := 51) (v := .int .i64 vv) rfl rfl (by kernel_rfl) (by kernel_rfl) (by kernel_rfl) (by decide) (by kernel_rfl) (fun _ _ _ h => h) (Or.inl ⟨by rfl, fun W hW => ?_⟩) HS0 ?_
      · obtain ⟨⟨x0, x1, x2, x3, x4⟩, x5, x6, x7⟩ := HC4.out W hW
        go_simp
      simp only [List.setIfInBounds_toArray, List.set_cons_zero, List.set_cons_succ]
      refine takeK (i := 3) (d := 52) (v := .int .u64 wt) rfl rfl (by kernel_rfl) (by kernel_rfl) (by kernel_rfl) (by decide) (by kernel_rfl) (fun _ _ _ h => h) (Or.inl ⟨by rfl, fun W hW => ?_⟩) HS0 ?_
      · obtain ⟨⟨x0, x1, x2, x3, x4⟩, x5, x6, x7⟩ := HC4.out W hW
        go_simp
      simp only [List.setIfInBounds_toArray, List.set_cons_zero, List.set_cons_succ]
      refine oneK (i := 4) (by kernel_rfl) rfl (fun K hK => ?_)
      go_simp
      refine (c_i_WideTimes _ _ hvv hwt _).mono ?_
      rintro e w5 ⟨rfl, hb5⟩
      dsimp only
      have HB5 := hide ((HS0 : Below w4.heap.size w4 w4.drew).trans hb5)
      clear hb5
      refine hK.out _ _ (fun _ => HB5.out) ?_
      clear hK K
      try simp only [Act.put, List.setIfInBounds_toArray, List.set_cons_zero, List.set_cons_succ]
      refine oneK (i := 5) (by kernel_rfl) rfl (fun K hK => ?_)
      go_simp
      refine (c_i_WideAdd _ _ _ _ _ hl0 (show U64 (thL vv wt) from uw_in _)).mono ?_
      rintro e w6 ⟨rfl, hb6⟩
      dsimp only
      have HB6 := hide (chain HB5.out hb6)
      clear hb6
      refine hK.out _ _ (fun _ => HB6.out) ?_
      clear hK K
      try simp only [Act.put, List.setIfInBounds_toArray, List.set_cons_zero, List.set_cons_succ]
      refine oneK (i := 6) (by kernel_rfl) rfl (fun K hK => ?_)
      go_simp
      refine hK.out _ _ (fun _ => HB6.out) ?_
      clear hK K
      try simp only [Act.put, List.setIfInBounds_toArray, List.set_cons_zero, List.set_cons_succ]
      have R6 := (HC4.out _ HB6.out).2.2.2
      obtain ⟨y0, y1, y2, y3, y4⟩ := cell5 R6
      have fy3 := frozen_of_row w6 sg 3 _ _ R6
      have fy4 := frozen_of_row w6 sg 4 _ _ R6
      refine oneK (i := 7) (by kernel_rfl) rfl (fun K hK => ?_)
      go_simp
      refine hK.out _ _ (fun h => absurd rfl h) ?_
      clear hK K
      try simp only [Act.put, List.setIfInBounds_toArray, List.set_cons_zero, List.set_cons_succ]
      refine doneK (by kernel_rfl) ?_ _
      obtain ⟨H7, hH7⟩ : ∃ H, addH h l (thH vv wt) (thL vv wt) = H := ⟨_, rfl⟩
      obtain ⟨L7, hL7⟩ : ∃ H, addL l (thL vv wt) = H := ⟨_, rfl⟩
      have HH7 := hide hH7
      have HL7 := hide hL7
      rw [hH7, hL7]
      clear hH7 hL7
      generalize hw7 : (w6.setCell ⟨sg, 3, none⟩ (.int .i64 H7)).setCell ⟨sg, 4, none⟩ (.int .u64 L7) = w7
      have S7 : w7.heap[sg]? = some (.cells #[.int .u64 Z4, .slice ao5 n5 c5, .slice ao2 m2 c2, .int .i64 H7, .int .u64 L7] 28 (0, 0)) := by
        rw [← hw7]; exact heap_setCell_same _ sg 4 _ _ _ (heap_setCell_same w6 sg 3 _ _ _ R6)
      have hg7 : w6.grownBy w7 (some sg) := by rw [← hw7]; exact (grown_one _ _ _ _).trans (grown_one _ _ _ _)
      have R7 : w7.heap[w.heap.size + 1 + 1]? = some (.cells zeroSk 28 (0, 0)) := by
        have hR := (HC4.out _ HB6.out).2.2.1
        rw [hg7.block _ (Array.getElem?_eq_some_iff.1 hR).1 (fun e => by have := Option.some.inj e; omega)]; exact hR
      have T7 : Below w.heap.size w w7 := (chain HT4.out HB6.out).grown hg7 (chain HT4.out HB6.out).size (fun k e => by cases e; omega)
      have hoP := HoP.out.past HB6.out
      have hoN := HoN.out.past HB6.out
      have hP7 := hoP.kept hg7 (.inr (hoP.ne R6 (by decide)))
      have hN7 := hoN.kept hg7 (.inr (hoN.ne R6 (by decide)))
      have HP7 := hide hP7
      have HN7 := hide hN7
      have HT7 := hide T7
      have HR7 := hide R7
      obtain ⟨g0, g1, g2, g3, g4⟩ := cell5 S7
      obtain ⟨q0, q1, q2, q3, q4⟩ := cell5 R7
      have fr0 := frozen_of_row w7 (w.heap.size + 1 + 1) 0 _ _ R7
      have fr1 := frozen_of_row w7 (w.heap.size + 1 + 1) 1 _ _ R7
      have fr2 := frozen_of_row w7 (w.heap.size + 1 + 1) 2 _ _ R7
      have fr3 := frozen_of_row w7 (w.heap.size + 1 + 1) 3 _ _ R7
      have fr4 := frozen_of_row w7 (w.heap.size + 1 + 1) 4 _ _ R7
      clear S7 hg7 R7 T7 hoP hoN hP7 hN7 hw7 y0 y1 y2 y3 y4 fy3 fy4 R6
      go_wp2
      refine bodyPost_ret (v := .agg #[.int .u64 Z4, .slice ao5 n5 c5, .slice ao2 m2 c2, .int .i64 H7, .int .u64 L7]) (by simp [results, Try.results6, go_sem, q0, q1, q2, q3, q4]) rfl ⟨_, rfl, ?_, .inl ⟨HOk.out, ?_⟩⟩
      · repeat (refine Below.setCell ?_ (by simp <;> omega) _)
        exact HT7.out
      · rw [HH7.out, HL7.out, HZ4.out]
        refine ⟨_, _, n5, m2, rfl, ?_, ?_, Hap.out⟩
        · have hne := HP7.out.ne HR7.out (by decide)
          repeat (refine OwnB.set ?_ hne _)
          exact HP7.out
        · have hne := HN7.out.ne HR7.out (by decide)
          repeat (refine OwnB.set ?_ hne _)
          exact HN7.out
    · have hz4 : Hid (putZ z vv wt = z) := if_neg (by omega)
      have hP4 : Hid (putP P vv wt = P) := if_neg (by omega)
      have HN0 := hide hN0
      have d0 : (vv == 0) = false := beq_eq_false_iff_ne.2 (by omega)
      have d1 : decide (0 < vv) = false := decide_eq_false (by omega)
      have dm : IntKind.i64.wrap (-vv) = -vv := by rw [IntKind.wrap_i64]; omega
      go_wp2_with (first
        | (go_at_call 24; refine (c_valueRight _ _ hvv).mono ?_; rintro e w4 ⟨rfl, hw⟩; obtain rfl := hw.symm; rw [d2]))
      have HS0 : (fun W => Below w3.heap.size w3 W) w3.drew := (Below.refl _ _).drew
      refine regionK (fun W => Below w3.heap.size w3 W) 8 (by kernel_rfl) ?_
      refine takeK (i := 0) (d := 41) (v := .func (.func 25) #[] #[.pointer (some ⟨w.heap.size + 1, 0, none⟩)]) rfl rfl (by kernel_rfl) (by kernel_rfl) (by kernel_rfl) (by decide) (by kernel_rfl) (fun _ _ _ h => h) (Or.inl ⟨by rfl, fun W hW => ?_⟩) HS0 ?_
      · obtain ⟨⟨x0, x1, x2, x3, x4⟩, x5, x6, x7⟩ := HC.out W hW
        go_simp
      simp only [List.setIfInBounds_toArray, List.set_cons_zero, List.set_cons_succ]
      refine takeK (i := 1) (d := 42) (v := .pointer (some ⟨w.heap.size, 2, none⟩)) rfl rfl (by kernel_rfl) (by kernel_rfl) (by kernel_rfl) (by decide) (by kernel_rfl) (fun _ _ _ h => h) (Or.inl ⟨by rfl, fun W hW => ?_⟩) HS0 ?_
      · obtain ⟨⟨x0, x1, x2, x3, x4⟩, x5, x6, x7⟩ := HC.out W hW
        go_simp
      simp only [List.setIfInBounds_toArray, List.set_cons_zero, List.set_cons_succ]
      refine takeK (i := 2) (d := 43) (v := .slice na nn nc) rfl rfl (by kernel_rfl) (by kernel_rfl) (by kernel_rfl) (by decide) (by kernel_rfl) (fun _ _ _ h => h) (Or.inl ⟨by rfl, fun W hW => ?_⟩) HS0 ?_
      · obtain ⟨⟨x0, x1, x2, x3, x4⟩, x5, x6, x7⟩ := HC.out W hW
        go_simp
      simp only [List.setIfInBounds_toArray, List.set_cons_zero, List.set_cons_succ]
      refine takeK (i := 3) (d := 44) (v := .int .i64 vv) rfl rfl (by kernel_rfl) (by kernel_rfl) (by kernel_rfl) (by decide) (by kernel_rfl) (fun _ _ _ h => h) (Or.inl ⟨by rfl, fun W hW => ?_⟩) HS0 ?_
      · obtain ⟨⟨x0, x1, x2, x3, x4⟩, x5, x6, x7⟩ := HC.out W hW
        go_simp
      simp only [List.setIfInBounds_toArray, List.set_cons_zero, List.set_cons_succ]
      refine takeK (i := 4) (d := 45) (v := .int .i64 (-vv)) rfl rfl (by kernel_rfl) (by kernel_rfl) (by kernel_rfl) (by decide) (by kernel_rfl) (fun _ _ _ h => h) (Or.inl ⟨by rfl, fun W hW => ?_⟩) HS0 ?_
      · obtain ⟨⟨x0, x1, x2, x3, x4⟩, x5, x6, x7⟩ := HC.out W hW
        go_simp
      simp only [List.setIfInBounds_toArray, List.set_cons_zero, List.set_cons_succ]
      refine oneK (i := 5) (by kernel_rfl) rfl (fun K hK => ?_)
      go_simp
      refine (c_i_BinOf _ _ (by unfold I64; omega)).mono ?_
      rintro e w4 ⟨rfl, rfl⟩
      dsimp only
      refine hK.out _ _ (fun _ => HS0) ?_
      clear hK K
      try simp only [Act.put, List.setIfInBounds_toArray, List.set_cons_zero, List.set_cons_succ]
      refine oneK (i := 6) (by kernel_rfl) rfl (fun K hK => ?_)
      go_simp
      refine (c_putInto (Q := N) _ _ _ hn l30N (bins_past HN.out (chain HT3.out HS0)) KN.out (by have := binI_in (-vv); unfold I64; omega) hwt (HC.out _ HS0).2.1).mono ?_
      rintro e w5 ⟨v5, n5, rfl, ho5, hb5⟩
      dsimp only
      have HB5 := hide ((HS0 : Below w3.heap.size w3 w3.drew).trans hb5)
      have HO5 := hide (ho5.le (B' := w.heap.size) (by show w.heap.size ≤ w3.heap.size; have := HT3.out.size; omega))
      have HF5 := hide (fun q (h : Value.ownBlock v5 = some q) => (show w3.heap.size ≤ q from (ho5.lt q h).1))
      obtain ⟨ao5, c5, rfl⟩ := ho5.any
      clear ho5 hb5
      refine hK.out _ _ (fun _ => HB5.out) ?_
      clear hK K
      try simp only [Act.put, List.setIfInBounds_toArray, List.set_cons_zero, List.set_cons_succ]
      refine oneK (i := 7) (by kernel_rfl) rfl (fun K hK => ?_)
      go_simp
      refine hK.out _ _ (fun _ => HB5.out) ?_
      clear hK K
      try simp only [Act.put, List.setIfInBounds_toArray, List.set_cons_zero, List.set_cons_succ]
      have R5 := (HC.out _ HB5.out).2.2.2
      obtain ⟨q0, q1, q2, q3, q4⟩ := cell5 R5
      have f1 := frozen_of_row w5 sg 2 _ _ R5
      refine oneK (i := 8) (by kernel_rfl) rfl (fun K hK => ?_)
      go_simp
      refine hK.out _ _ (fun h => absurd rfl h) ?_
      clear hK K
      try simp only [Act.put, List.setIfInBounds_toArray, List.set_cons_zero, List.set_cons_succ]
      refine doneK (by kernel_rfl) ?_ _
      generalize hw4 : w5.setCell ⟨sg, 2, none⟩ (.slice ao5 n5 c5) = w4
      have hg4 : w3.grownBy w4 (some sg) := by rw [← hw4]; exact World.grownBy.trans ⟨HB5.out.os, HB5.out.tape, HB5.out.output, HB5.out.size, fun k hk _ => HB5.out.block k hk⟩ (grown_one _ _ _ _)
      have hr4 : w4.heap[sg]? = some (.cells #[.int .u64 (putZ z vv wt), .slice ao1 m1 c1, .slice ao5 n5 c5, .int .i64 h, .int .u64 l] 28 (0, 0)) := by
        rw [← hw4, hz4.out]; exact heap_setCell_same w5 sg 2 _ _ _ R5
      have hne5 : Value.ownBlock (.slice ao5 n5 c5) ≠ some sg := HO5.out.ne R5 (by decide)
      have hoN : OwnB w4 w.heap.size (.slice ao5 n5 c5) n5 (putN N vv wt) := by
        rw [← hw4, putN, if_pos HN0.out]; exact HO5.out.set hne5 _
      have hoP : OwnB w4 w.heap.size (.slice ao1 m1 c1) m1 (putP P vv wt) := by
        rw [← hw4, hP4.out]
        have h5 := HO1.out.past HB5.out
        exact h5.set (h5.ne R5 (by decide)) _
      have hap : Apart (.slice ao1 m1 c1) (.slice ao5 n5 c5) := fun k e1 e2 => by
        have h1 := HF5.out k e2
        have h2 := (HO1.out.lt k e1).2
        omega
      clear HO1 HO2 hw4 HO5 HF5 R5 q0 q1 q2 q3 q4 f1 hne5 HB5 hz4 hP4 g0 g1 g2 g3 g4 fs0 HS0
      obtain ⟨K4, N4, R4⟩ := HsW.out _ hg4
      have hT4 : Below w.heap.size w w4 := HT3.out.grown hg4 HT3.out.size (fun k e => by cases e; omega)
      have hlt4 : sg < w4.heap.size := (Array.getElem?_eq_some_iff.1 hr4).1
      have hC4 : ∀ W, Below w4.heap.size w4 W → SkCell W w.heap.size z (.slice pa pn pc) (.slice na nn nc) h l ∧ NumAt' W (w.heap.size + 1) wt ∧ W.heap[w.heap.size + 1 + 1]? = some (.cells zeroSk 28 (0, 0)) ∧ W.heap[sg]? = some (.cells #[.int .u64 (putZ z vv wt), .slice ao1 m1 c1, .slice ao5 n5 c5, .int .i64 h, .int .u64 l] 28 (0, 0)) := fun W hW => ⟨sk_past K4 hW, cell_past hW N4, by rw [hW.block _ (by omega)]; exact R4, by rw [hW.block _ hlt4]; exact hr4⟩
      have HC4 := hide hC4
      have HT4 := hide hT4
      have HoP := hide hoP
      have HoN := hide hoN
      have Hap := hide hap
      obtain ⟨Z4, hZ4⟩ : ∃ Z, putZ z vv wt = Z := ⟨_, rfl⟩
      rw [hZ4] at HC4
      have HZ4 := hide hZ4
      clear hC4 hT4 hoP hoN hap hr4 hg4 K4 N4 R4 hZ4 HC
      have HS0 : (fun W => Below w4.heap.size w4 W) w4.drew := (Below.refl _ _).drew
      go_wp2_with fail
      refine regionK (fun W => Below w4.heap.size w4 W) 7 (by kernel_rfl) ?_
      refine takeK (i := 0) (d := 49) (v := .pointer (some ⟨w.heap.size, 3, none⟩)) rfl rfl (by kernel_rfl) (by kernel_rfl) (by kernel_rfl) (by decide) (by kernel_rfl) (fun _ _ _ h => h) (Or.inl ⟨by rfl, fun W hW => ?_⟩) HS0 ?_
      · obtain ⟨⟨x0, x1, x2, x3, x4⟩, x5, x6, x7⟩ := HC4.out W hW
        go_simp
      simp only [List.setIfInBounds_toArray, List.set_cons_zero, List.set_cons_succ]
      refine takeK (i := 1) (d := 50) (v := .agg #[.int .i64 h, .int .u64 l]) rfl rfl (by kernel_rfl) (by kernel_rfl) (by kernel_rfl) (by decide) (by kernel_rfl) (fun _ _ _ h => h) (Or.inl ⟨by rfl, fun W hW => ?_⟩) HS0 ?_
      · obtain ⟨⟨x0, x1, x2, x3, x4⟩, x5, x6, x7⟩ := HC4.out W hW
        go_simp
      simp only [List.setIfInBounds_toArray, List.set_cons_zero, List.set_cons_succ]
      refine takeK (i := 2) (d := 51) (v := .int .i64 vv) rfl rfl (by kernel_rfl) (by kernel_rfl) (by kernel_rfl) (by decide) (by kernel_rfl) (fun _ _ _ h => h) (Or.inl ⟨by rfl, fun W hW => ?_⟩) HS0 ?_
      · obtain ⟨⟨x0, x1, x2, x3, x4⟩, x5, x6, x7⟩ := HC4.out W hW
        go_simp
      simp only [List.setIfInBounds_toArray, List.set_cons_zero, List.set_cons_succ]
      refine takeK (i := 3) (d := 52) (v := .int .u64 wt) rfl rfl (by kernel_rfl) (by kernel_rfl) (by kernel_rfl) (by decide) (by kernel_rfl) (fun _ _ _ h => h) (Or.inl ⟨by rfl, fun W hW => ?_⟩) HS0 ?_
      · obtain ⟨⟨x0, x1, x2, x3, x4⟩, x5, x6, x7⟩ := HC4.out W hW
        go_simp
      simp only [List.setIfInBounds_toArray, List.set_cons_zero, List.set_cons_succ]
      refine oneK (i := 4) (by kernel_rfl) rfl (fun K hK => ?_)
      go_simp
      refine (c_i_WideTimes _ _ hvv hwt _).mono ?_
      rintro e w5 ⟨rfl, hb5⟩
      dsimp only
      have HB5 := hide ((HS0 : Below w4.heap.size w4 w4.drew).trans hb5)
      clear hb5
      refine hK.out _ _ (fun _ => HB5.out) ?_
      clear hK K
      try simp only [Act.put, List.setIfInBounds_toArray, List.set_cons_zero, List.set_cons_succ]
      refine oneK (i := 5) (by kernel_rfl) rfl (fun K hK => ?_)
      go_simp
      refine (c_i_WideAdd _ _ _ _ _ hl0 (show U64 (thL vv wt) from uw_in _)).mono ?_
      rintro e w6 ⟨rfl, hb6⟩
      dsimp only
      have HB6 := hide (chain HB5.out hb6)
      clear hb6
      refine hK.out _ _ (fun _ => HB6.out) ?_
      clear hK K
      try simp only [Act.put, List.setIfInBounds_toArray, List.set_cons_zero, List.set_cons_succ]
      refine oneK (i := 6) (by kernel_rfl) rfl (fun K hK => ?_)
      go_simp
      refine hK.out _ _ (fun _ => HB6.out) ?_
      clear hK K
      try simp only [Act.put, List.setIfInBounds_toArray, List.set_cons_zero, List.set_cons_succ]
      have R6 := (HC4.out _ HB6.out).2.2.2
      obtain ⟨y0, y1, y2, y3, y4⟩ := cell5 R6
      have fy3 := frozen_of_row w6 sg 3 _ _ R6
      have fy4 := frozen_of_row w6 sg 4 _ _ R6
      refine oneK (i := 7) (by kernel_rfl) rfl (fun K hK => ?_)
      go_simp
      refine hK.out _ _ (fun h => absurd rfl h) ?_
      clear hK K
      try simp only [Act.put, List.setIfInBounds_toArray, List.set_cons_zero, List.set_cons_succ]
      refine doneK (by kernel_rfl) ?_ _
      obtain ⟨H7, hH7⟩ : ∃ H, addH h l (thH vv wt) (thL vv wt) = H := ⟨_, rfl⟩
      obtain ⟨L7, hL7⟩ : ∃ H, addL l (thL vv wt) = H := ⟨_, rfl⟩
      have HH7 := hide hH7
      have HL7 := hide hL7
      rw [hH7, hL7]
      clear hH7 hL7
      generalize hw7 : (w6.setCell ⟨sg, 3, none⟩ (.int .i64 H7)).setCell ⟨sg, 4, none⟩ (.int .u64 L7) = w7
      have S7 : w7.heap[sg]? = some (.cells #[.int .u64 Z4, .slice ao1 m1 c1, .slice ao5 n5 c5, .int .i64 H7, .int .u64 L7] 28 (0, 0)) := by
        rw [← hw7]; exact heap_setCell_same _ sg 4 _ _ _ (heap_setCell_same w6 sg 3 _ _ _ R6)
      have hg7 : w6.grownBy w7 (some sg) := by rw [← hw7]; exact (grown_one _ _ _ _).trans (grown_one _ _ _ _)
      have R7 : w7.heap[w.heap.size + 1 + 1]? = some (.cells zeroSk 28 (0, 0)) := by
        have hR := (HC4.out _ HB6.out).2.2.1
        rw [hg7.block _ (Array.getElem?_eq_some_iff.1 hR).1 (fun e => by have := Option.some.inj e; omega)]; exact hR
      have T7 : Below w.heap.size w w7 := (chain HT4.out HB6.out).grown hg7 (chain HT4.out HB6.out).size (fun k e => by cases e; omega)
      have hoP := HoP.out.past HB6.out
      have hoN := HoN.out.past HB6.out
      have hP7 := hoP.kept hg7 (.inr (hoP.ne R6 (by decide)))
      have hN7 := hoN.kept hg7 (.inr (hoN.ne R6 (by decide)))
      have HP7 := hide hP7
      have HN7 := hide hN7
      have HT7 := hide T7
      have HR7 := hide R7
      obtain ⟨g0, g1, g2, g3, g4⟩ := cell5 S7
      obtain ⟨q0, q1, q2, q3, q4⟩ := cell5 R7
      have fr0 := frozen_of_row w7 (w.heap.size + 1 + 1) 0 _ _ R7
      have fr1 := frozen_of_row w7 (w.heap.size + 1 + 1) 1 _ _ R7
      have fr2 := frozen_of_row w7 (w.heap.size + 1 + 1) 2 _ _ R7
      have fr3 := frozen_of_row w7 (w.heap.size + 1 + 1) 3 _ _ R7
      have fr4 := frozen_of_row w7 (w.heap.size + 1 + 1) 4 _ _ R7
      clear S7 hg7 R7 T7 hoP hoN hP7 hN7 hw7 y0 y1 y2 y3 y4 fy3 fy4 R6
      go_wp2
      refine bodyPost_ret (v := .agg #[.int .u64 Z4, .slice ao1 m1 c1, .slice ao5 n5 c5, .int .i64 H7, .int .u64 L7]) (by simp [results, Try.results6, go_sem, q0, q1, q2, q3, q4]) rfl ⟨_, rfl, ?_, .inl ⟨HOk.out, ?_⟩⟩
      · repeat (refine Below.setCell ?_ (by simp <;> omega) _)
        exact HT7.out
      · rw [HH7.out, HL7.out, HZ4.out]
        refine ⟨_, _, m1, n5, rfl, ?_, ?_, Hap.out⟩
        · have hne := HP7.out.ne HR7.out (by decide)
          repeat (refine OwnB.set ?_ hne _)
          exact HP7.out
        · have hne := HN7.out.ne HR7.out (by decide)
          repeat (refine OwnB.set ?_ hne _)
          exact HN7.out
end Go.Proofs.Ytimocbbaplghoaa
