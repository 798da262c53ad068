/-
  Sketches that are brought together: they stay right, in whatever order; the weight is that of both.
-/
import Derived.Test.YtimocbbaplghoaaMrgP
import Derived.Test.YtimocbbaplghoaaSumC
import Derived.Test.YtimocbbaplghoaaSkU
namespace Go.Proofs.Ytimocbbaplghoaa
set_option linter.unusedVariables false
set_option linter.unusedSimpArgs false
open Go.ChangeShapes Go.WideShapes Go.ChangeAt Go.RowKit Go.PlainAid Go.Lib

def BnR (x : Bn) : Prop := 0 < x.1 ∧ x.1 ≤ 6878 ∧ x.2 ≠ 0
theorem riseB_iff : ∀ {L : List Bn} {q : Int}, riseB q L = true ↔ Rise L ∧ ∀ x ∈ L, q < x.1 ∧ x.1 ≤ 6878 ∧ x.2 ≠ 0
  | [], q => ⟨fun _ => ⟨rise_nil, fun x hx => by simp at hx⟩, fun _ => rfl⟩
  | y :: r, q => by
    simp only [riseB, Bool.and_eq_true, decide_eq_true_eq, riseB_iff (L := r)]
    constructor
    · rintro ⟨⟨⟨h1, h2⟩, h3⟩, h4, h5⟩
      refine ⟨rise_cons.2 ⟨fun x hx => (h5 x hx).1, h4⟩, fun x hx => ?_⟩
      rcases List.mem_cons.1 hx with rfl | hx
      · exact ⟨h1, h2, h3⟩
      · have := h5 x hx; exact ⟨by omega, this.2⟩
    · rintro ⟨h1, h2⟩
      have h0 := h2 y List.mem_cons_self
      exact ⟨⟨⟨h0.1, h0.2.1⟩, h0.2.2⟩, (rise_cons.1 h1).2, fun x hx => ⟨(rise_cons.1 h1).1 x hx, (h2 x (List.mem_cons_of_mem _ hx)).2⟩⟩
theorem binsB_iff {L : List Bn} : binsB L = true ↔ L.length ≤ 30 ∧ Rise L ∧ ∀ x ∈ L, BnR x := by
  unfold binsB BnR
  simp only [Bool.and_eq_true, decide_eq_true_eq, riseB_iff]
theorem wAdd_ne {a b : Int} (ha : U64 a) (hb : U64 b) (h : a ≠ 0) : wAdd a b ≠ 0 := by unfold wAdd; unfold U64 at *; split <;> omega
theorem mrg_R {a b : List Bn} (ka : ∀ x ∈ a, BnOk x) (kb : ∀ x ∈ b, BnOk x) (ha : ∀ x ∈ a, BnR x) (hb : ∀ x ∈ b, BnR x) : ∀ z ∈ mrg a b, BnR z := by
  induction a, b using mrg.induct with
  | case1 b => rw [mrg_nil]; exact hb
  | case2 x a => rw [mrg_nil']; exact ha
  | case3 x a y b h ih =>
    rw [mrg_lt h]; intro z hz
    rcases List.mem_cons.1 hz with rfl | hz
    · exact ha _ List.mem_cons_self
    · exact ih (fun u hu => ka u (List.mem_cons_of_mem _ hu)) kb (fun u hu => ha u (List.mem_cons_of_mem _ hu)) hb z hz
  | case4 x a y b h h' ih =>
    rw [mrg_gt h']; intro z hz
    rcases List.mem_cons.1 hz with rfl | hz
    · exact hb _ List.mem_cons_self
    · exact ih ka (fun u hu => kb u (List.mem_cons_of_mem _ hu)) ha (fun u hu => hb u (List.mem_cons_of_mem _ hu)) z hz
  | case5 x a y b h h' ih =>
    rw [mrg_eq (by omega)]; intro z hz
    rcases List.mem_cons.1 hz with rfl | hz
    · have h1 := ha x List.mem_cons_self
      exact ⟨h1.1, h1.2.1, wAdd_ne (ka x List.mem_cons_self).2 (kb y List.mem_cons_self).2 h1.2.2⟩
    · exact ih (fun u hu => ka u (List.mem_cons_of_mem _ hu)) (fun u hu => kb u (List.mem_cons_of_mem _ hu)) (fun u hu => ha u (List.mem_cons_of_mem _ hu)) (fun u hu => hb u (List.mem_cons_of_mem _ hu)) z hz
theorem sumW_ge {L : List Bn} (hk : ∀ x ∈ L, BnOk x) {y : Bn} (hy : y ∈ L) : y.2 ≤ sumW L := by
  induction L with
  | nil => simp at hy
  | cons x r ih =>
    have h0 := sumW_pos (fun z hz => hk z (List.mem_cons_of_mem _ hz))
    have h1 := (hk x List.mem_cons_self).2.1
    rw [sumW_cons]
    rcases List.mem_cons.1 hy with rfl | hy
    · omega
    · have := ih (fun z hz => hk z (List.mem_cons_of_mem _ hz)) hy; omega
theorem keep_R {L : List Bn} (hr : Rise L) (hk : ∀ x ∈ L, BnOk x) (hR : ∀ x ∈ L, BnR x) : ∀ x ∈ keepL L, BnR x := by
  by_cases h : 30 < L.length
  · obtain ⟨m, ⟨y, hy, rfl⟩, e, _⟩ := keep_col hr hk h
    rw [e]
    intro x hx
    have h1 := hR y hy
    rcases List.mem_cons.1 hx with rfl | hx
    · have hy2 : y ∈ lowL y.1 L := List.mem_filter.2 ⟨hy, decide_eq_true (Int.le_refl _)⟩
      have h2 := sumW_ge (low_ok (m := y.1) hk) hy2
      have h3 := (hk y hy).2.1
      have h4 := h1.2.2
      exact ⟨h1.1, h1.2.1, by show capW _ ≠ 0; unfold capW; split <;> omega⟩
    · exact hR x (List.mem_filter.1 hx).1
  · have : keepL L = L := by unfold keepL; rw [if_pos (by omega)]
    rw [this]; exact hR
theorem keep_len30 (L : List Bn) : (keepL L).length ≤ 30 := by
  unfold keepL
  split
  · assumption
  · have hd : (L.drop (L.length - 30)).length = 30 := by rw [List.length_drop]; omega
    split
    · rename_i h; rw [h] at hd; simp at hd
    · rename_i h; rw [h] at hd; simp at hd ⊢; omega
theorem bins_mrg {A B : List Bn} (hA : binsB A = true) (hB : binsB B = true) (kA : ∀ x ∈ A, BnOk x) (kB : ∀ x ∈ B, BnOk x) : binsB (keepL (mrg A B)) = true ∧ ∀ x ∈ keepL (mrg A B), BnOk x := by
  obtain ⟨_, a2, a3⟩ := binsB_iff.1 hA
  obtain ⟨_, b2, b3⟩ := binsB_iff.1 hB
  have kM := mrg_bn _ A B (Nat.le_refl _) kA kB
  have g := keep_good (mrg_rise a2 b2) kM
  exact ⟨binsB_iff.2 ⟨keep_len30 _, g.1, keep_R (mrg_rise a2 b2) kM (mrg_R kA kB a3 b3)⟩, g.2⟩
theorem skB_and {P N : List Bn} : skB P N = true ↔ binsB P = true ∧ binsB N = true := by unfold skB; simp
theorem sk_mrg {P N P' N' : List Bn} (h : skB P N = true) (h' : skB P' N' = true) (kP : ∀ x ∈ P, BnOk x) (kN : ∀ x ∈ N, BnOk x) (kP' : ∀ x ∈ P', BnOk x) (kN' : ∀ x ∈ N', BnOk x) :
    skB (keepL (mrg P P')) (keepL (mrg N N')) = true :=
  skB_and.2 ⟨(bins_mrg (skB_and.1 h).1 (skB_and.1 h').1 kP kP').1, (bins_mrg (skB_and.1 h).2 (skB_and.1 h').2 kN kN').1⟩
theorem keep_three {A B C : List Bn} (hA : binsB A = true) (hB : binsB B = true) (hC : binsB C = true) (kA : ∀ x ∈ A, BnOk x) (kB : ∀ x ∈ B, BnOk x) (kC : ∀ x ∈ C, BnOk x) :
    keepL (mrg (keepL (mrg A B)) C) = keepL (mrg A (keepL (mrg B C))) := by
  have a := (binsB_iff.1 hA).2.1
  have b := (binsB_iff.1 hB).2.1
  have c := (binsB_iff.1 hC).2.1
  rw [keep_mrg (mrg_rise a b) c (mrg_bn _ A B (Nat.le_refl _) kA kB) kC, keep_mrg' a (mrg_rise b c) kA (mrg_bn _ B C (Nat.le_refl _) kB kC), mrg_assoc _ A B C (Nat.le_refl _) kA kB kC]
theorem keep_comm (A B : List Bn) : keepL (mrg A B) = keepL (mrg B A) := by rw [mrg_comm _ A B (Nat.le_refl _)]
theorem wsum_is (L : List Bn) : wsum L = sumW L := by
  induction L with
  | nil => rfl
  | cons x r ih => rw [sumW_cons, ← ih]; rfl
theorem sum_split (m : Int) (L : List Bn) : sumW L = sumW (lowL m L) + sumW (highL m L) := by
  induction L with
  | nil => rfl
  | cons x r ih =>
    rw [sumW_cons, ih]
    by_cases h : x.1 ≤ m
    · rw [low_yes h, high_no h, sumW_cons]; omega
    · rw [low_no (by omega), high_yes (by omega), sumW_cons]; omega
theorem sum_keep {L : List Bn} (hr : Rise L) (hk : ∀ x ∈ L, BnOk x) {t : Int} (ht : 0 ≤ t) : capW (t + sumW (keepL L)) = capW (t + sumW L) := by
  by_cases h : 30 < L.length
  · obtain ⟨m, _, e, _⟩ := keep_col hr hk h
    rw [e, sumW_cons, sum_split m L]
    have h1 := sumW_pos (low_ok (m := m) hk)
    have h2 := sumW_pos (high_ok (m := m) hk)
    show capW (t + (capW (sumW (lowL m L)) + sumW (highL m L))) = _
    unfold capW
    repeat' split
    all_goals omega
  · have : keepL L = L := by unfold keepL; rw [if_pos (by omega)]
    rw [this]
theorem low_allR {L : List Bn} (h : ∀ x ∈ L, BnR x) : lowL 6878 L = L := List.filter_eq_self.2 (fun x hx => decide_eq_true (h x hx).2.1)
theorem sum_mrg {A B : List Bn} (kA : ∀ x ∈ A, BnOk x) (kB : ∀ x ∈ B, BnOk x) (hA : ∀ x ∈ A, BnR x) (hB : ∀ x ∈ B, BnR x) {t : Int} (ht : 0 ≤ t) : capW (t + sumW (mrg A B)) = capW (t + sumW A + sumW B) := by
  have := low_mrg (m := 6878) _ A B t (Nat.le_refl _) ht kA kB
  rw [low_allR (mrg_R kA kB hA hB), low_allR hA, low_allR hB] at this
  exact this
theorem sum_bins {A B : List Bn} (hA : binsB A = true) (hB : binsB B = true) (kA : ∀ x ∈ A, BnOk x) (kB : ∀ x ∈ B, BnOk x) {t : Int} (ht : 0 ≤ t) : capW (t + sumW (keepL (mrg A B))) = capW (t + sumW A + sumW B) := by
  obtain ⟨_, a2, a3⟩ := binsB_iff.1 hA
  obtain ⟨_, b2, b3⟩ := binsB_iff.1 hB
  rw [sum_keep (mrg_rise a2 b2) (mrg_bn _ A B (Nat.le_refl _) kA kB) ht, sum_mrg kA kB a3 b3 ht]
theorem cap2 {a b : Int} (ha : 0 ≤ a) (hb : 0 ≤ b) : capW (capW a + capW b) = capW (a + b) := by unfold capW; split <;> split <;> split <;> omega
theorem weight_mrg {z z' : Int} {P N P' N' : List Bn} (hz : U64 z) (hz' : U64 z') (h : skB P N = true) (h' : skB P' N' = true) (kP : ∀ x ∈ P, BnOk x) (kN : ∀ x ∈ N, BnOk x) (kP' : ∀ x ∈ P', BnOk x) (kN' : ∀ x ∈ N', BnOk x) :
    skW (wAdd z z') (keepL (mrg P P')) (keepL (mrg N N')) = wAdd (skW z P N) (skW z' P' N') := by
  have b1 := skB_and.1 h
  have b2 := skB_and.1 h'
  have p1 := sumW_pos kP
  have p2 := sumW_pos kN
  have p3 := sumW_pos kP'
  have p4 := sumW_pos kN'
  have z1 := hz.1
  have z2 := hz'.1
  have g1 := bins_mrg b1.1 b2.1 kP kP'
  have g2 := bins_mrg b1.2 b2.2 kN kN'
  have q1 := sumW_pos g1.2
  have q2 := sumW_pos g2.2
  unfold skW
  rw [if_pos h, if_pos h', if_pos (sk_mrg h h' kP kN kP' kN')]
  simp only [wsum_is]
  show capW (capW (z + z') + sumW (keepL (mrg P P')) + sumW (keepL (mrg N N'))) = capW (capW (z + sumW P + sumW N) + capW (z' + sumW P' + sumW N'))
  rw [cap2 (by omega) (by omega)]
  have e1 : capW (capW (z + z') + sumW (keepL (mrg P P')) + sumW (keepL (mrg N N'))) = capW ((z + z') + (sumW (keepL (mrg P P')) + sumW (keepL (mrg N N')))) := by rw [Int.add_assoc (capW (z + z')), cap_cap (by omega) (by omega)]
  have e2 := sum_bins b1.2 b2.2 kN kN' (t := z + z' + sumW (keepL (mrg P P'))) (by omega)
  have e3 := sum_bins b1.1 b2.1 kP kP' (t := z + z' + sumW N + sumW N') (by omega)
  rw [e1, show (z + z') + (sumW (keepL (mrg P P')) + sumW (keepL (mrg N N'))) = z + z' + sumW (keepL (mrg P P')) + sumW (keepL (mrg N N')) by omega, e2,
    show z + z' + sumW (keepL (mrg P P')) + sumW N + sumW N' = z + z' + sumW N + sumW N' + sumW (keepL (mrg P P')) by omega, e3]
  congr 1; omega
theorem sum_assoc (a c e : Int) {b d f : Int} (hb : U64 b) (hd : U64 d) (hf : U64 f) :
    addH (addH a b c d) (addL b d) e f = addH a b (addH c d e f) (addL d f) ∧ addL (addL b d) f = addL b (addL d f) := by
  unfold U64 at *; unfold addH addL addC uw wrap64; omega
theorem sum_comm (a b c d : Int) : addH a b c d = addH c d a b ∧ addL b d = addL d b := by
  unfold addH addL addC
  rw [Int.add_comm a c, Int.add_comm b d]; exact ⟨rfl, rfl⟩
end Go.Proofs.Ytimocbbaplghoaa
