/-
  The model's sketch of how many: HllMerge.
-/
import Derived.Test.YtljhjcmodaaaoaaHmH
namespace Go.Proofs.Ytljhjcmodaaaoaa
set_option linter.unusedVariables false
set_option linter.unusedSimpArgs false
open Go.ChangeShapes Go.WideShapes Go.ChangeAt Go.RowKit Go.PlainAid Go.Maps
set_option maxRecDepth 10000

theorem c_s_MergeB {w : World} {ea ra eb rb : Option Addr} {n1 c1 m1 d1 n2 c2 m2 d2 : Nat} {E1 R1 E2 R2 : List Int} (q1 : hlB E1 R1 = true) (q2 : hlB E2 R2 = true) (h1 : E1.length = n1) (h2 : R1.length = m1) (h3 : E2.length = n2) (h4 : R2.length = m2) (c1e : ea = none → c1 = 0)
    (hE1 : NumsAt .u64 w ea E1) (hR1 : NumsAt .i64 w ra R1) (hE2 : NumsAt .u64 w eb E2) (hR2 : NumsAt .i64 w rb R2) (u1 : ∀ x ∈ E1, U64 x) (u2 : ∀ x ∈ E2, U64 x) :
    Calls Try.prog 25 #[.agg #[.slice ea n1 c1, .slice ra m1 d1], .agg #[.slice eb n2 c2, .slice rb m2 d2]] w fun e w' => MgOut w E1 R1 E2 R2 e w' := by
  obtain ⟨a1, a2⟩ := hlB_len q1
  obtain ⟨b1, b2⟩ := hlB_len q2
  rw [h1] at a1; rw [h2] at a2; rw [h3] at b1; rw [h4] at b2
  by_cases h : m1 = 0 ∧ m2 = 0
  · obtain ⟨rfl, rfl⟩ := h
    obtain rfl := List.eq_nil_of_length_eq_zero h2
    obtain rfl := List.eq_nil_of_length_eq_zero h4
    have hu : upN E1 = true := by
      rcases hlB_parts q1 with ⟨_, k⟩ | ⟨k, _⟩
      · exact k
      · simp at k
    exact c_s_MergeE h1 h3 a1 b1 hu c1e hE1 hE2 u1 u2
  · exact c_s_MergeR h1 h2 h3 h4 a1 a2 b1 b2 h hE1 hR1 hE2 hR2 u1 u2
set_option maxHeartbeats 4000000 in
theorem c_s_HllMerge {w : World} {ea ra eb rb : Option Addr} {n1 c1 m1 d1 n2 c2 m2 d2 : Nat} {E1 R1 E2 R2 : List Int} (h1 : E1.length = n1) (h2 : R1.length = m1) (h3 : E2.length = n2) (h4 : R2.length = m2) (l1 : n1 ≤ 1048576) (l2 : m1 ≤ 1048576) (l3 : n2 ≤ 1048576) (l4 : m2 ≤ 1048576)
    (hE1 : NumsAt .u64 w ea E1) (hR1 : NumsAt .i64 w ra R1) (hE2 : NumsAt .u64 w eb E2) (hR2 : NumsAt .i64 w rb R2) (u1 : ∀ x ∈ E1, U64 x) (u2 : ∀ x ∈ E2, U64 x) (k1 : ∀ x ∈ R1, I64 x) (k2 : ∀ x ∈ R2, I64 x) (c1e : ea = none → c1 = 0) :
    Calls Try.prog 7 #[.agg #[.slice ea n1 c1, .slice ra m1 d1], .agg #[.slice eb n2 c2, .slice rb m2 d2]] w fun e w' => ∃ v E R, e = .returned v ∧ MrgH E1 R1 E2 R2 E R ∧ HlOut w' w.heap.size v E R ∧ Below w.heap.size w w' := by
  have HE1 := hide hE1
  have HR1 := hide hR1
  have HE2 := hide hE2
  have HR2 := hide hR2
  have H1 := hide h1
  have H2 := hide h2
  have H3 := hide h3
  have H4 := hide h4
  have U1 := hide u1
  have U2 := hide u2
  have KR1 := hide k1
  have KR2 := hide k2
  have C1 := hide c1e
  have HBa : Hid (∀ o1 o2 o3, Below w.heap.size w (((w.alloc o1).alloc o2).alloc o3)) := fun o1 o2 o3 => (((Below.refl _ _).alloc (Nat.le_refl _) _).alloc (by simp) _).alloc (by simp; omega) _
  clear hE1 hR1 hE2 hR2 h1 h2 h3 h4 u1 u2 k1 k2 c1e
  go_enter Try.func7, Try.ntmps7
  go_wp2_with fail
  refine (c_s_HllRight H1.out H2.out l1 l2 (nums_past HE1.out (HBa.out _ _ _)) (nums_past HR1.out (HBa.out _ _ _)) KR1.out).mono ?_
  rintro e w1 ⟨rfl, hb1⟩
  obtain ⟨K1, K2, hres⟩ := mid_cell w _ _ _ _ _ _ _ _ _ w1 hb1
  have hz1 := hb1.size
  have hT1 : Below w.heap.size w w1 := (HBa.out _ _ _).trans (hb1.mono (by simp; omega))
  simp only [World.size_alloc] at hz1
  have HT1 := hide hT1
  have HRs := hide hres
  have HK1 := hide K1
  have HK2 := hide K2
  obtain ⟨x0, x1⟩ := K1
  obtain ⟨y0, y1⟩ := K2
  clear hb1 hT1 hres
  cases hq : hlB E1 R1 with
  | false =>
    have HQ : Hid (MrgH E1 R1 E2 R2 [] []) := (by unfold MrgH; rw [if_neg (by rw [hq]; simp)]; exact ⟨rfl, rfl⟩ : MrgH E1 R1 E2 R2 [] [])
    have q0 : w1.cell? ⟨w.heap.size + 1 + 1, 0, none⟩ = some (.slice none 0 0) := by rw [cell_of_row _ _ 0 _ _ (0, 0) HRs.out]; rfl
    have q1 : w1.cell? ⟨w.heap.size + 1 + 1, 1, none⟩ = some (.slice none 0 0) := by rw [cell_of_row _ _ 1 _ _ (0, 0) HRs.out]; rfl
    have f0 := frozen_of_row w1 (w.heap.size + 1 + 1) 0 _ _ HRs.out
    have f1 := frozen_of_row w1 (w.heap.size + 1 + 1) 1 _ _ HRs.out
    go_wp2
    refine bodyPost_ret (v := .agg #[.slice none 0 0, .slice none 0 0]) (by simp [results, Try.results7, go_sem, q0, q1]) rfl ⟨_, [], [], rfl, HQ.out, ⟨_, _, rfl, World.ownsRow_nil _ _ _ _, World.ownsRow_nil _ _ _ _⟩, ?_⟩
    exact (HT1.out.setCell (by simp <;> omega) _).setCell (by simp <;> omega) _
  | true =>
    go_wp2_with fail
    refine (c_s_HllRight H3.out H4.out l3 l4 (nums_past HE2.out HT1.out) (nums_past HR2.out HT1.out) KR2.out).mono ?_
    rintro e w2 ⟨rfl, hb2⟩
    clear x0 x1 y0 y1
    obtain ⟨x0, x1⟩ := hl_past HK1.out hb2
    obtain ⟨y0, y1⟩ := hl_past HK2.out hb2
    have HT2 := hide (chain HT1.out hb2)
    have HRs2 := hide ((hb2.block _ (by omega)).trans HRs.out)
    have hz2 := hb2.size
    clear hb2
    cases hq2 : hlB E2 R2 with
    | false =>
      have HQ : Hid (MrgH E1 R1 E2 R2 [] []) := (by unfold MrgH; rw [if_neg (by rw [hq2]; simp)]; exact ⟨rfl, rfl⟩ : MrgH E1 R1 E2 R2 [] [])
      have q0 : w2.cell? ⟨w.heap.size + 1 + 1, 0, none⟩ = some (.slice none 0 0) := by rw [cell_of_row _ _ 0 _ _ (0, 0) HRs2.out]; rfl
      have q1 : w2.cell? ⟨w.heap.size + 1 + 1, 1, none⟩ = some (.slice none 0 0) := by rw [cell_of_row _ _ 1 _ _ (0, 0) HRs2.out]; rfl
      have f0 := frozen_of_row w2 (w.heap.size + 1 + 1) 0 _ _ HRs2.out
      have f1 := frozen_of_row w2 (w.heap.size + 1 + 1) 1 _ _ HRs2.out
      go_wp2
      refine bodyPost_ret (v := .agg #[.slice none 0 0, .slice none 0 0]) (by simp [results, Try.results7, go_sem, q0, q1]) rfl ⟨_, [], [], rfl, HQ.out, ⟨_, _, rfl, World.ownsRow_nil _ _ _ _, World.ownsRow_nil _ _ _ _⟩, ?_⟩
      exact (HT2.out.setCell (by simp <;> omega) _).setCell (by simp <;> omega) _
    | true =>
      obtain ⟨k1, k2⟩ := hlB_len hq
      obtain ⟨k3, k4⟩ := hlB_len hq2
      rw [H1.out] at k1; rw [H2.out] at k2; rw [H3.out] at k3; rw [H4.out] at k4
      have HQ : Hid (∀ E' R', Mg E1 R1 E2 R2 E' R' → MrgH E1 R1 E2 R2 E' R') := (fun E' R' h => by unfold MrgH; rw [if_pos ⟨hq, hq2⟩]; exact h)
      have HQ1 := hide hq
      have HQ2 := hide hq2
      have K2' := hide k2
      have K4' := hide k4
      clear k2 k4
      go_wp2_with fail
      refine (c_s_MergeB HQ1.out HQ2.out H1.out H2.out H3.out H4.out C1.out (nums_past HE1.out HT2.out) (nums_past HR1.out HT2.out) (nums_past HE2.out HT2.out) (nums_past HR2.out HT2.out) U1.out U2.out).mono ?_
      rintro e w3 ⟨v3, E', R', rfl, hM, ⟨p, q, rfl, o1, o2⟩, hb3⟩
      have R3 := (hb3.block _ (by omega)).trans HRs2.out
      have HT3 := hide (HT2.out.trans (hb3.mono HT2.out.size))
      have HO1 := hide o1
      have HO2 := hide o2
      have HF := hide (HQ.out _ _ hM)
      obtain ⟨a1, k1, rfl⟩ := own_anyH o1
      obtain ⟨a2, k2, rfl⟩ := own_anyH o2
      have q0 : w3.cell? ⟨w.heap.size + 1 + 1, 0, none⟩ = some (.slice none 0 0) := by rw [cell_of_row _ _ 0 _ _ (0, 0) R3]; rfl
      have q1 : w3.cell? ⟨w.heap.size + 1 + 1, 1, none⟩ = some (.slice none 0 0) := by rw [cell_of_row _ _ 1 _ _ (0, 0) R3]; rfl
      have f0 := frozen_of_row w3 (w.heap.size + 1 + 1) 0 _ _ R3
      have f1 := frozen_of_row w3 (w.heap.size + 1 + 1) 1 _ _ R3
      clear hb3 o1 o2 R3 hM
      go_wp2
      refine bodyPost_ret (v := .agg #[.slice a1 E'.length k1, .slice a2 R'.length k2]) (by simp [results, Try.results7, go_sem, q0, q1]) rfl ⟨_, E', R', rfl, HF.out, ⟨_, _, rfl, ?_, ?_⟩, ?_⟩
      · refine own_le (B := w2.heap.size) ?_ (by omega)
        repeat (refine ownsRow_setCell_below ?_ (by simp; omega) _)
        exact HO1.out
      · refine own_le (B := w2.heap.size) ?_ (by omega)
        repeat (refine ownsRow_setCell_below ?_ (by simp; omega) _)
        exact HO2.out
      · exact (HT3.out.setCell (by simp <;> omega) _).setCell (by simp <;> omega) _
end Go.Proofs.Ytljhjcmodaaaoaa
