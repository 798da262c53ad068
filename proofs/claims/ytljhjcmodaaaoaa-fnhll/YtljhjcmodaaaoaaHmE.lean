/-
  The model's sketch of how many: l04Put.
-/
import Derived.Test.YtljhjcmodaaaoaaHmC
namespace Go.Proofs.Ytljhjcmodaaaoaa
set_option linter.unusedVariables false
set_option linter.unusedSimpArgs false
open Go.ChangeShapes Go.WideShapes Go.ChangeAt Go.RowKit Go.PlainAid Go.Maps
set_option maxRecDepth 10000

theorem uni_rise : ∀ {m l : List Int}, (l ++ m).Pairwise (· < ·) → uniU l m = l ++ m
  | [], l, _ => by simp [uniU]
  | x :: m, l, h => by
    have hi : insU l x = l ++ [x] := by
      have hl : ∀ y ∈ l, y < x := fun y hy => (List.pairwise_append.1 h).2.2 y hy x (by simp)
      clear h
      induction l with
      | nil => rfl
      | cons y r ih => rw [insU, if_pos (hl y (by simp)), ih (fun z hz => hl z (by simp [hz]))]; rfl
    show uniU (insU l x) m = _
    rw [hi, uni_rise (by simpa using h)]; simp
theorem upN_pair : ∀ {L : List Int}, upN L = true → L.Pairwise (· < ·)
  | [], _ => List.Pairwise.nil
  | [x], _ => by simp
  | x :: y :: r, h => by
    simp only [upN, Bool.and_eq_true, decide_eq_true_eq] at h
    have ih := upN_pair h.2
    refine List.pairwise_cons.2 ⟨fun z hz => ?_, ih⟩
    rcases List.mem_cons.1 hz with rfl | hz
    · exact h.1
    · have := (List.pairwise_cons.1 ih).1 z hz; omega
theorem all_one {E : List Int} (h : upN E = true) (x : Int) : allU E [x] = insU E x := by
  unfold allU
  rw [uni_rise (l := []) (by simpa using upN_pair h)]; rfl
/-- What is put, as the model sees it. -/
theorem put_reg {E R R' : List Int} {x : Int} (hE : E = []) (h64 : R.length = 64) (h : Laid (padR R) (· ∈ [x]) R') : Mg E R [x] [] [] R' := by
  subst hE
  refine .inr ⟨fun k => by omega, rfl, ?_⟩
  rw [List.length_nil, mxL_zero]
  exact h.iff (fun y => by simp [allU, uniU, insU])
theorem put_many {E R' : List Int} {x : Int} (hu : upN E = true) (h40 : ¬ (insU E x).length ≤ 40) (h : Laid (padR []) (· ∈ insU E x) R') : Mg E [] [x] [] [] R' := by
  refine .inr ⟨fun k => h40 (by rw [← all_one hu]; exact k.2.2), rfl, ?_⟩
  rw [List.length_nil, mxL_zero, all_one hu]; exact h
theorem put_few {E : List Int} {x : Int} (hu : upN E = true) (h40 : (insU E x).length ≤ 40) : Mg E [] [x] [] (insU E x) [] :=
  .inl ⟨rfl, rfl, by rw [all_one hu]; exact h40, (all_one hu x).symm, rfl⟩
theorem nums_own {kd : IntKind} {w : World} {B n c : Nat} {ao : Option Addr} {T : TypeId} {L : List Int} (h : w.ownsRow B T 1 (.slice ao n c) L.length (L.map (Value.int kd))) : NumsAt kd w ao L ∧ Flat ao ∧ n = L.length ∧ n ≤ c ∧ c ≤ maxLen ∧ (ao = none → c = 0) := by
  rcases h.2 with ⟨e, h0⟩ | ⟨g, cap, cur, e, h1, h2, h3, h4, h5, h6⟩
  · cases e
    exact ⟨fun h => by omega, .inl rfl, h0.symm, Nat.le_refl _, Nat.zero_le _, fun _ => rfl⟩
  · cases e
    refine ⟨fun _ => ⟨g, 0, rfl, fun i x hx => ?_⟩, .inr ⟨g, 0, rfl⟩, rfl, h3, h4, fun e => by cases e⟩
    have hi := (List.getElem?_eq_some_iff.1 hx).1
    rw [Nat.zero_add, h.cellAt i (by omega), List.getElem?_map, hx]; rfl
theorem hlB_parts {E R : List Int} (h : hlB E R = true) : (R = [] ∧ upN E = true) ∨ (R.length = 64 ∧ E = []) := by
  unfold hlB at h
  split at h
  · rename_i h0
    unfold exB at h
    simp only [Bool.and_eq_true, decide_eq_true_eq] at h
    exact .inl ⟨List.eq_nil_of_length_eq_zero h0, h.2⟩
  · unfold regB at h
    simp only [Bool.and_eq_true, decide_eq_true_eq] at h
    exact .inr ⟨h.2.1, List.eq_nil_of_length_eq_zero h.1⟩
set_option maxHeartbeats 4000000 in
theorem c_s_PutH {w : World} {ea ra : Option Addr} {n c m d : Nat} {E R : List Int} (x : Int) (hb : hlB E R = true) (h1 : E.length = n) (h2 : R.length = m) (hcap : n ≤ c) (hcm : c ≤ maxLen) (f1 : Flat ea) (c1 : ea = none → c = 0) (hE : NumsAt .u64 w ea E) (hR : NumsAt .i64 w ra R) (u1 : ∀ y ∈ E, U64 y) (ux : U64 x) :
    Calls Try.prog 41 #[.agg #[.slice ea n c, .slice ra m d], .int .u64 x] w fun e w' => ∃ v E' R', e = .returned v ∧ Mg E R [x] [] E' R' ∧ HlOut w' w.heap.size v E' R' ∧ Below w.heap.size w w' := by
  have HE := hide hE
  have HR := hide hR
  have F1 := hide f1
  have C1 := hide c1
  have H1 := hide h1
  have H2 := hide h2
  have U1 := hide u1
  have UX := hide ux
  have HBa : Hid (∀ o1 o2, Below w.heap.size w ((w.alloc o1).alloc o2)) := fun o1 o2 => ((Below.refl _ _).alloc (Nat.le_refl _) _).alloc (by simp) _
  have HL := hide (hlB_len hb)
  have HP := hide (hlB_parts hb)
  have HC : Hid (∀ W, Below (w.heap.size + 1 + 1) ((w.alloc (.cells #[.slice ea n c, .slice ra m d] 27)).alloc (.cells #[.slice none 0 0, .slice none 0 0] 27)) W → HlCell W w.heap.size (.slice ea n c) (.slice ra m d) ∧ W.heap[w.heap.size + 1]? = some (.cells #[.slice none 0 0, .slice none 0 0] 27 (0, 0)) ∧ Below w.heap.size w W) := fun W h => by
    obtain ⟨q1, q2⟩ := two_cell w _ _ _ _ _ _ W (by simpa using h)
    exact ⟨q1, q2, (HBa.out _ _).trans (h.mono (by omega))⟩
  have hn40 : n ≤ 40 := by have := HL.out.1; have := H1.out; omega
  clear hE hR f1 c1 h1 h2 u1 ux hb
  rcases HP.out with ⟨hR0, hup⟩ | ⟨h64, hE0⟩
  · have hm0 : m = 0 := by rw [← H2.out, hR0]; rfl
    subst hm0
    subst hR0
    have HUp := hide hup
    clear hup HP
    go_enter Try.func41, Try.ntmps41
    go_wp2_with fail
    refine (c_s_Exact x H1.out (by omega) hcap hcm F1.out C1.out (nums_past HE.out (HBa.out _ _))).mono ?_
    rintro e w1 ⟨v1, rfl, o1, hb1⟩
    obtain ⟨⟨x0, x1⟩, r1, t1⟩ := HC.out w1 (by simpa using hb1)
    have hz1 := hb1.size
    simp only [World.size_alloc] at o1 hz1
    obtain ⟨k, hk⟩ : ∃ k, (insU E x).length = k := ⟨_, rfl⟩
    obtain ⟨ao1, q1, rfl⟩ := own_any o1
    obtain ⟨na1, fl1, _, ca1, cb1, _⟩ := nums_own o1
    have HO1 := hide o1
    have HT1 := hide t1
    have HR1 := hide r1
    have HNa := hide na1
    have hk41 : k ≤ 41 := by have := len_insU1 E x; have := H1.out; omega
    have HK := hide hk
    rw [hk]
    clear o1 t1 r1 hb1 na1 fl1 ca1 cb1 hk
    have q0 : w1.cell? ⟨w.heap.size + 1, 0, none⟩ = some (.slice none 0 0) := by rw [cell_of_row _ _ 0 _ _ (0, 0) HR1.out]; rfl
    have q1' : w1.cell? ⟨w.heap.size + 1, 1, none⟩ = some (.slice none 0 0) := by rw [cell_of_row _ _ 1 _ _ (0, 0) HR1.out]; rfl
    have f0 := frozen_of_row w1 (w.heap.size + 1) 0 _ _ HR1.out
    have f1 := frozen_of_row w1 (w.heap.size + 1) 1 _ _ HR1.out
    by_cases h40 : k ≤ 40
    · have h40i : ¬ (40 : Int) < (k : Int) := by omega
      have HM : Hid (Mg E [] [x] [] (insU E x) []) := put_few HUp.out (by rw [HK.out]; exact h40)
      go_wp2
      refine bodyPost_ret (v := .agg #[.slice ao1 k q1, .slice none 0 0]) (by simp [results, Try.results41, go_sem, q0, q1']) rfl ⟨_, _, [], rfl, HM.out, ⟨_, _, rfl, ?_, World.ownsRow_nil _ _ _ _⟩, ?_⟩
      · refine own_le (B := w.heap.size + 1 + 1) ?_ (by omega)
        repeat (refine ownsRow_setCell_below ?_ (by simp) _)
        rw [← HK.out]; exact HO1.out
      · exact (HT1.out.setCell (by simp) _).setCell (by simp) _
    · have h40i : (40 : Int) < (k : Int) := by omega
      have HMs : Hid (∀ R', Laid (padR []) (· ∈ insU E x) R' → Mg E [] [x] [] [] R') := fun R' h => put_many HUp.out (by rw [HK.out]; exact h40) h
      have HUi : Hid (∀ y ∈ insU E x, U64 y) := fun y hy => by
        rcases (mem_insU y E x).1 hy with rfl | h
        · exact UX.out
        · exact U1.out y h
      clear q0 q1' f0 f1
      go_wp2_with fail
      refine (c_s_Dense (R := []) rfl HK.out (.inl rfl) (by omega) (fun h => by simp at h) HNa.out HUi.out).mono ?_
      rintro e w2 ⟨g, R', rfl, hL, hRow, hb2⟩
      have r2 := (hb2.block (w.heap.size + 1) (by omega)).trans HR1.out
      have q0 : w2.cell? ⟨w.heap.size + 1, 0, none⟩ = some (.slice none 0 0) := by rw [cell_of_row _ _ 0 _ _ (0, 0) r2]; rfl
      have q1' : w2.cell? ⟨w.heap.size + 1, 1, none⟩ = some (.slice none 0 0) := by rw [cell_of_row _ _ 1 _ _ (0, 0) r2]; rfl
      have f0 := frozen_of_row w2 (w.heap.size + 1) 0 _ _ r2
      have f1 := frozen_of_row w2 (w.heap.size + 1) 1 _ _ r2
      have HM := hide (HMs.out R' hL)
      have HT2 := hide (chain HT1.out hb2)
      have HRow := hide hRow
      clear hL hRow hb2 r2
      go_wp2
      refine bodyPost_ret (v := .agg #[.slice none 0 0, .slice (some ⟨g, 0, none⟩) 64 64]) (by simp [results, Try.results41, go_sem, q0, q1']) rfl ⟨_, [], R', rfl, HM.out, ⟨_, _, rfl, World.ownsRow_nil _ _ _ _, ?_⟩, ?_⟩
      · refine own_le (B := w1.heap.size) ?_ (by omega)
        repeat (refine ownsRow_setCell_below ?_ (by simp; omega) _)
        rw [HRow.out.1]; exact HRow.out.2
      · exact (HT2.out.setCell (by simp) _).setCell (by simp) _
  · have hm0 : m = 64 := by rw [← H2.out, h64]
    subst hm0
    have H64 := hide h64
    have HE0 := hide hE0
    clear h64 hE0 HP
    have HN1 : Hid (∀ (W : World) (g : Nat), W.heap.size = g → NumsAt .u64 (W.alloc (.cells #[.int .u64 x] 34)) (some ⟨g, 0, none⟩) [x]) := (fun W g e _ => ⟨g, 0, rfl, fun i y hy => by
      subst e
      cases i with
      | zero => simp at hy; subst hy; exact cell_new1 _ _ _
      | succ i => simp at hy⟩)
    go_enter Try.func41, Try.ntmps41
    go_wp2_with fail
    refine (c_s_Dense (E := [x]) H2.out rfl (.inr rfl) (by simp) (nums_past HR.out ((HBa.out _ _).alloc (by simp; omega) _)) (HN1.out _ _ (by simp)) (by intro y hy; simp at hy; subst hy; exact UX.out)).mono ?_
    rintro e w2 ⟨g, R', rfl, hL, hRow, hb2⟩
    obtain ⟨_, r2, t2⟩ := HC.out w2 (((Below.refl _ _).alloc (by simp) _).trans (hb2.mono (by simp)))
    have q0 : w2.cell? ⟨w.heap.size + 1, 0, none⟩ = some (.slice none 0 0) := by rw [cell_of_row _ _ 0 _ _ (0, 0) r2]; rfl
    have q1' : w2.cell? ⟨w.heap.size + 1, 1, none⟩ = some (.slice none 0 0) := by rw [cell_of_row _ _ 1 _ _ (0, 0) r2]; rfl
    have f0 := frozen_of_row w2 (w.heap.size + 1) 0 _ _ r2
    have f1 := frozen_of_row w2 (w.heap.size + 1) 1 _ _ r2
    have HM := hide (put_reg HE0.out H64.out hL)
    have HT2 := hide t2
    simp only [World.size_alloc] at hRow
    have HRow := hide hRow
    clear hL hRow hb2 r2 t2
    go_wp2
    refine bodyPost_ret (v := .agg #[.slice none 0 0, .slice (some ⟨g, 0, none⟩) 64 64]) (by simp [results, Try.results41, go_sem, q0, q1']) rfl ⟨_, [], R', rfl, HM.out, ⟨_, _, rfl, World.ownsRow_nil _ _ _ _, ?_⟩, ?_⟩
    · refine own_le (B := w.heap.size + 1 + 1) ?_ (by omega)
      repeat (refine ownsRow_setCell_below ?_ (by simp) _)
      rw [HRow.out.1]; exact own_le HRow.out.2 (by omega)
    · exact (HT2.out.setCell (by simp) _).setCell (by simp) _
end Go.Proofs.Ytljhjcmodaaaoaa
