/-
  HllPut and HllMerge of the program.
-/
import Derived.Test.YtljhjcmodaaaoaaHlY
namespace Go.Proofs.Ytljhjcmodaaaoaa
set_option linter.unusedVariables false
set_option linter.unusedSimpArgs false
open Go.ChangeShapes Go.WideShapes Go.ChangeAt Go.RowKit Go.PlainAid Go.Maps
set_option maxRecDepth 10000

/-- Where a row that is handed in lies. -/
def Flat (ao : Option Addr) : Prop := ao = none ∨ ∃ b off, ao = some ⟨b, off, none⟩
theorem nums_nil {kd : IntKind} {w : World} {L : List Int} (h : NumsAt kd w none L) : L = [] := by
  cases L with
  | nil => rfl
  | cons x r => obtain ⟨b, off, e, _⟩ := h (by simp); cases e
theorem nums_news {kd : IntKind} {w : World} {b off : Nat} {L : List Int} (h : NumsAt kd w (some ⟨b, off, none⟩) L) : ∀ j u, (L.map (Value.int kd))[j]? = some u → w.cell? ⟨b, off + j, none⟩ = some u := fun j u hu => by
  rw [List.getElem?_map] at hu
  obtain ⟨x, hx, rfl⟩ := Option.map_eq_some_iff.1 hu
  obtain ⟨b', off', e, hc⟩ := h (by have := (List.getElem?_eq_some_iff.1 hx).1; omega)
  cases e
  exact hc j x hx
theorem sizeU (w : World) : (Go.sizeOf 34).run Try.prog w = .ok 1 w := Try.sizeOf34 w
theorem sizeI (w : World) : (Go.sizeOf 2).run Try.prog w = .ok 1 w := Try.sizeOf2 w
theorem c_cloneU {w : World} {ao : Option Addr} {n c : Nat} {L : List Int} (hn : L.length = n) (hl : n ≤ 1048576) (hf : Flat ao) (hA : NumsAt .u64 w ao L) :
    Calls Try.prog 58 #[.slice ao n c] w fun e w' => ∃ v, e = .returned v ∧ w'.ownsRow w.heap.size 34 1 v L.length (L.map (Value.int .u64)) ∧ Below w.heap.size w w' := by
  obtain ⟨i0, hi, hz0, hz1, hz2⟩ := info_parts infoUint64S
  rcases hf with rfl | ⟨b, off, rfl⟩
  · obtain rfl := nums_nil hA
    refine (Try.slices_Clone_nil_f58 _ _ _).mono ?_
    rintro e w' ⟨rfl, rfl⟩
    exact ⟨_, rfl, World.ownsRow_nil _ _ _ _, Below.refl _ _⟩
  · refine (Try.slices_Clone_f58 i0 _ 1 8 hi hz0 hz1 hz2 rfl (by omega) sizeU b off n c (L.map (Value.int .u64)) w (by simp [hn]) (by unfold maxLen; omega) (by omega) (nums_news hA) (by intro v hv; simp at hv; obtain ⟨x, _, rfl⟩ := hv; rfl)).mono ?_
    rintro e w' ⟨v, rfl, ho, _, hb⟩
    exact ⟨v, rfl, by rw [hn]; exact ho, hb⟩
theorem c_cloneI {w : World} {ao : Option Addr} {n c : Nat} {L : List Int} (hn : L.length = n) (hl : n ≤ 1048576) (hf : Flat ao) (hA : NumsAt .i64 w ao L) :
    Calls Try.prog 59 #[.slice ao n c] w fun e w' => ∃ v, e = .returned v ∧ w'.ownsRow w.heap.size 2 1 v L.length (L.map (Value.int .i64)) ∧ Below w.heap.size w w' := by
  obtain ⟨i0, hi, hz0, hz1, hz2⟩ := info_parts infoInt64S
  rcases hf with rfl | ⟨b, off, rfl⟩
  · obtain rfl := nums_nil hA
    refine (Try.slices_Clone_nil_f59 _ _ _).mono ?_
    rintro e w' ⟨rfl, rfl⟩
    exact ⟨_, rfl, World.ownsRow_nil _ _ _ _, Below.refl _ _⟩
  · refine (Try.slices_Clone_f59 i0 _ 1 8 hi hz0 hz1 hz2 rfl (by omega) sizeI b off n c (L.map (Value.int .i64)) w (by simp [hn]) (by unfold maxLen; omega) (by omega) (nums_news hA) (by intro v hv; simp at hv; obtain ⟨x, _, rfl⟩ := hv; rfl)).mono ?_
    rintro e w' ⟨v, rfl, ho, _, hb⟩
    exact ⟨v, rfl, by rw [hn]; exact ho, hb⟩
theorem two_cell (w : World) (T1 T3 : TypeId) (p n x y : Value) (w1 : World) (hb : Below ((w.alloc (.cells #[p, n] T1)).alloc (.cells #[x, y] T3)).heap.size ((w.alloc (.cells #[p, n] T1)).alloc (.cells #[x, y] T3)) w1) : HlCell w1 w.heap.size p n ∧ w1.heap[w.heap.size + 1]? = some (.cells #[x, y] T3 (0, 0)) := by
  have k0 := hl_new w T1 p n
  have a1 : ∀ (W : World) o, Below W.heap.size W (W.alloc o) := fun W o => (Below.refl _ _).alloc (Nat.le_refl _) _
  have h2 := heap_alloc_new (w.alloc (.cells #[p, n] T1)) (.cells #[x, y] T3)
  simp only [World.size_alloc] at h2
  exact ⟨hl_past (hl_past k0 (a1 _ _)) hb, (hb.block _ (by simp)).trans h2⟩
theorem own_past1 {w w' : World} {B K n : Nat} {e : TypeId} {v : Value} {xs : List Value} (h : w.ownsRow B e 1 v n xs) (hb : Below w.heap.size w w') : w'.ownsRow B e 1 v n xs := own_past h hb
set_option maxHeartbeats 2000000 in
theorem c_copyHll {w : World} {ea ra : Option Addr} {n c m d : Nat} {E R : List Int} (h1 : E.length = n) (h2 : R.length = m) (l1 : n ≤ 1048576) (l2 : m ≤ 1048576) (f1 : Flat ea) (f2 : Flat ra) (hE : NumsAt .u64 w ea E) (hR : NumsAt .i64 w ra R) :
    Calls Try.prog 39 #[.agg #[.slice ea n c, .slice ra m d]] w fun e w' => ∃ v, e = .returned v ∧ HlOut w' w.heap.size v E R ∧ Below w.heap.size w w' := by
  have HE := hide hE
  have HR := hide hR
  have F1 := hide f1
  have F2 := hide f2
  have H1 := hide h1
  have H2 := hide h2
  have HBa : Hid (∀ o1 o2, Below w.heap.size w ((w.alloc o1).alloc o2)) := fun o1 o2 => ((Below.refl _ _).alloc (Nat.le_refl _) _).alloc (by simp) _
  clear hE hR f1 f2 h1 h2
  go_enter Try.func39, Try.ntmps39
  go_wp2_with fail
  generalize hW0 : (w.alloc (Obj.cells #[.slice ea n c, .slice ra m d] 27)).alloc (Obj.cells #[.slice none 0 0, .slice none 0 0] 27) = W0
  have T0 : Below w.heap.size w W0 := by rw [← hW0]; exact HBa.out _ _
  have KR := two_cell w 27 27 (.slice ea n c) (.slice ra m d) (.slice none 0 0) (.slice none 0 0) W0 (by rw [hW0]; exact Below.refl _ _)
  have hsz0 : W0.heap.size = w.heap.size + 2 := by rw [← hW0]; simp
  clear hW0
  have HT0 := hide T0
  have hC : ∀ W, Below W0.heap.size W0 W → HlCell W w.heap.size (.slice ea n c) (.slice ra m d) ∧ W.heap[w.heap.size + 1]? = some (.cells #[.slice none 0 0, .slice none 0 0] 27 (0, 0)) := fun W hW => ⟨hl_past KR.1 hW, by rw [hW.block _ (by omega)]; exact KR.2⟩
  have HC := hide hC
  clear T0 hC KR
  have HS0 : (fun W => Below W0.heap.size W0 W) W0.drew := (Below.refl _ _).drew
  refine regionK (fun W => Below W0.heap.size W0 W) 7 (by kernel_rfl) ?_
  refine takeK (i := 0) (d := 3) (v := .pointer (some ⟨w.heap.size, 0, none⟩)) rfl rfl (by kernel_rfl) (by kernel_rfl) (by kernel_rfl) (by decide) (by kernel_rfl) (fun _ _ _ h => h) (Or.inl ⟨by rfl, fun W hW => ?_⟩) HS0 ?_
  · obtain ⟨⟨x0, x1⟩, _⟩ := HC.out W hW
    go_simp
  simp only [List.setIfInBounds_toArray, List.set_cons_zero, List.set_cons_succ]
  refine takeK (i := 1) (d := 4) (v := .slice ea n c) rfl rfl (by kernel_rfl) (by kernel_rfl) (by kernel_rfl) (by decide) (by kernel_rfl) (fun _ _ _ h => h) (Or.inl ⟨by rfl, fun W hW => ?_⟩) HS0 ?_
  · obtain ⟨⟨x0, x1⟩, _⟩ := HC.out W hW
    go_simp
  simp only [List.setIfInBounds_toArray, List.set_cons_zero, List.set_cons_succ]
  refine takeK (i := 3) (d := 6) (v := .pointer (some ⟨w.heap.size, 1, none⟩)) rfl rfl (by kernel_rfl) (by kernel_rfl) (by kernel_rfl) (by decide) (by kernel_rfl) (fun _ _ _ h => h) (Or.inl ⟨by rfl, fun W hW => ?_⟩) HS0 ?_
  · obtain ⟨⟨x0, x1⟩, _⟩ := HC.out W hW
    go_simp
  simp only [List.setIfInBounds_toArray, List.set_cons_zero, List.set_cons_succ]
  refine takeK (i := 4) (d := 7) (v := .slice ra m d) rfl rfl (by kernel_rfl) (by kernel_rfl) (by kernel_rfl) (by decide) (by kernel_rfl) (fun _ _ _ h => h) (Or.inl ⟨by rfl, fun W hW => ?_⟩) HS0 ?_
  · obtain ⟨⟨x0, x1⟩, _⟩ := HC.out W hW
    go_simp
  simp only [List.setIfInBounds_toArray, List.set_cons_zero, List.set_cons_succ]
  refine oneK (i := 2) (by kernel_rfl) rfl (fun K hK => ?_)
  go_simp
  refine (c_cloneU H1.out l1 F1.out (nums_past HE.out (HT0.out.trans ((Below.refl _ _).drew.mono HT0.out.size)))).mono ?_
  rintro e w1 ⟨v1, rfl, ho1, hb1⟩
  dsimp only
  have HB1 := hide ((HS0 : Below W0.heap.size W0 W0.drew).trans hb1)
  have HO1 := hide (own_le (B' := W0.heap.size) ho1 (by show W0.heap.size ≤ W0.heap.size; omega))
  obtain ⟨ao1, c1, rfl⟩ := own_anyH ho1
  clear ho1 hb1
  refine hK.out _ _ (fun _ => HB1.out) ?_
  clear hK K
  try simp only [Act.put, List.setIfInBounds_toArray, List.set_cons_zero, List.set_cons_succ]
  refine oneK (i := 5) (by kernel_rfl) rfl (fun K hK => ?_)
  go_simp
  refine (c_cloneI H2.out l2 F2.out (nums_past HR.out (chain HT0.out HB1.out))).mono ?_
  rintro e w2 ⟨v2, rfl, ho2, hb2⟩
  dsimp only
  have HB2 := hide (chain HB1.out hb2)
  have HO2 := hide (own_le (B' := W0.heap.size) ho2 HB1.out.size)
  have HO12 := hide (own_past HO1.out hb2)
  obtain ⟨ao2, c2, rfl⟩ := own_anyH ho2
  clear ho2 hb2
  refine hK.out _ _ (fun _ => HB2.out) ?_
  clear hK K
  try simp only [Act.put, List.setIfInBounds_toArray, List.set_cons_zero, List.set_cons_succ]
  refine takeK (i := 6) (d := 9) (v := .agg #[.slice ao1 E.length c1, .slice ao2 R.length c2]) rfl rfl (by kernel_rfl) (by kernel_rfl) (by kernel_rfl) (by decide) (by kernel_rfl) (fun _ _ _ h => h) (Or.inl ⟨by rfl, fun W hW => ?_⟩) HB2.out ?_
  · clear hW
    go_simp
  simp only [List.setIfInBounds_toArray, List.set_cons_zero, List.set_cons_succ]
  have R2 := (HC.out _ HB2.out).2
  have q0 : w2.cell? ⟨w.heap.size + 1, 0, none⟩ = some (.slice none 0 0) := by rw [cell_of_row _ _ 0 _ _ (0, 0) R2]; rfl
  have q1 : w2.cell? ⟨w.heap.size + 1, 1, none⟩ = some (.slice none 0 0) := by rw [cell_of_row _ _ 1 _ _ (0, 0) R2]; rfl
  have f0 := frozen_of_row w2 (w.heap.size + 1) 0 _ _ R2
  have f1 := frozen_of_row w2 (w.heap.size + 1) 1 _ _ R2
  refine oneK (i := 7) (by kernel_rfl) rfl (fun K hK => ?_)
  go_simp
  refine hK.out _ _ (fun h => absurd rfl h) ?_
  clear hK K
  try simp only [Act.put, List.setIfInBounds_toArray, List.set_cons_zero, List.set_cons_succ]
  refine doneK (by kernel_rfl) ?_ _
  go_wp2
  refine bodyPost_ret (v := .agg #[.slice ao1 E.length c1, .slice ao2 R.length c2]) (by simp [results, Try.results39, go_sem, q0, q1]) rfl ⟨_, rfl, ⟨_, _, rfl, ?_, ?_⟩, ?_⟩
  · refine own_le (B := W0.heap.size) ?_ (by omega)
    repeat (refine ownsRow_setCell_below ?_ (by simp; omega) _)
    exact HO12.out
  · refine own_le (B := W0.heap.size) ?_ (by omega)
    repeat (refine ownsRow_setCell_below ?_ (by simp; omega) _)
    exact HO2.out
  · repeat (refine Below.setCell ?_ (by simp <;> omega) _)
    exact chain HT0.out HB2.out
/-- What is answered when a hash is put. -/
def PutH (E R : List Int) (x : Int) (E' R' : List Int) : Prop := if hlB E R = true then Mg E R [x] [] E' R' else E' = E ∧ R' = R
theorem hlB_len {E R : List Int} (h : hlB E R = true) : E.length ≤ 40 ∧ (R.length = 0 ∨ R.length = 64) := by
  unfold hlB at h
  split at h
  · rename_i h0
    unfold exB at h
    simp only [Bool.and_eq_true, decide_eq_true_eq] at h
    exact ⟨h.1, .inl h0⟩
  · unfold regB at h
    simp only [Bool.and_eq_true, decide_eq_true_eq] at h
    exact ⟨by omega, .inr h.2.1⟩
set_option maxHeartbeats 2000000 in
theorem c_i_HllPut {w : World} {ea ra : Option Addr} {n c m d : Nat} {E R : List Int} (x : Int) (h1 : E.length = n) (h2 : R.length = m) (l1 : n ≤ 1048576) (l2 : m ≤ 1048576) (f1 : Flat ea) (f2 : Flat ra) (hE : NumsAt .u64 w ea E) (hR : NumsAt .i64 w ra R) (u1 : ∀ y ∈ E, U64 y) (ux : U64 x) :
    Calls Try.prog 14 #[.agg #[.slice ea n c, .slice ra m d], .int .u64 x] w fun e w' => ∃ v E' R', e = .returned v ∧ PutH E R x E' R' ∧ HlOut w' w.heap.size v E' R' ∧ Below w.heap.size w w' := by
  have HE := hide hE
  have HR := hide hR
  have F1 := hide f1
  have F2 := hide f2
  have H1 := hide h1
  have H2 := hide h2
  have U1 := hide u1
  have UX := hide ux
  have HBa : Hid (∀ o1 o2, Below w.heap.size w ((w.alloc o1).alloc o2)) := fun o1 o2 => ((Below.refl _ _).alloc (Nat.le_refl _) _).alloc (by simp) _
  clear hE hR f1 f2 h1 h2 u1 ux
  go_enter Try.func14, Try.ntmps14
  go_wp2_with fail
  refine (c_i_HllRight H1.out H2.out l1 l2 (nums_past HE.out (HBa.out _ _)) (nums_past HR.out (HBa.out _ _))).mono ?_
  rintro e w1 ⟨rfl, hb1⟩
  obtain ⟨⟨x0, x1⟩, hres⟩ := two_cell w _ _ _ _ _ _ w1 hb1
  have hz1 := hb1.size
  have hT1 : Below w.heap.size w w1 := (HBa.out _ _).trans (hb1.mono (by simp; omega))
  simp only [World.size_alloc] at hz1
  have HT1 := hide hT1
  have HRs := hide hres
  clear hb1 hT1 hres
  cases hq : hlB E R with
  | false =>
    have HQ : Hid (PutH E R x E R) := (by unfold PutH; rw [if_neg (by rw [hq]; simp)]; exact ⟨rfl, rfl⟩ : PutH E R x E R)
    go_wp2_with fail
    refine (c_copyHll H1.out H2.out l1 l2 F1.out F2.out (nums_past HE.out HT1.out) (nums_past HR.out HT1.out)).mono ?_
    rintro e w2 ⟨v2, rfl, ⟨p, q, rfl, o1, o2⟩, hb2⟩
    have R2 := (hb2.block _ (by omega)).trans HRs.out
    have HT2 := hide (chain HT1.out hb2)
    have HO1 := hide o1
    have HO2 := hide o2
    obtain ⟨a1, c1, rfl⟩ := own_anyH o1
    obtain ⟨a2, c2, rfl⟩ := own_anyH o2
    have q0 : w2.cell? ⟨w.heap.size + 1, 0, none⟩ = some (.slice none 0 0) := by rw [cell_of_row _ _ 0 _ _ (0, 0) R2]; rfl
    have q1 : w2.cell? ⟨w.heap.size + 1, 1, none⟩ = some (.slice none 0 0) := by rw [cell_of_row _ _ 1 _ _ (0, 0) R2]; rfl
    have f0 := frozen_of_row w2 (w.heap.size + 1) 0 _ _ R2
    have f1 := frozen_of_row w2 (w.heap.size + 1) 1 _ _ R2
    clear hb2 o1 o2 R2
    go_wp2
    refine bodyPost_ret (v := .agg #[.slice a1 E.length c1, .slice a2 R.length c2]) (by simp [results, Try.results14, go_sem, q0, q1]) rfl ⟨_, E, R, rfl, HQ.out, ⟨_, _, rfl, ?_, ?_⟩, ?_⟩
    · refine own_le (B := w1.heap.size) ?_ (by omega)
      repeat (refine ownsRow_setCell_below ?_ (by simp; omega) _)
      exact HO1.out
    · refine own_le (B := w1.heap.size) ?_ (by omega)
      repeat (refine ownsRow_setCell_below ?_ (by simp; omega) _)
      exact HO2.out
    · exact (HT2.out.setCell (by simp) _).setCell (by simp) _
  | true =>
    obtain ⟨k1, k2⟩ := hlB_len hq
    rw [H1.out] at k1; rw [H2.out] at k2
    have HQ : Hid (∀ E' R', Mg E R [x] [] E' R' → PutH E R x E' R') := (fun E' R' h => by unfold PutH; rw [if_pos hq]; exact h)
    have hA1 : Below w1.heap.size w1 (w1.alloc (.cells #[.int .u64 x] 34)) := (Below.refl _ _).alloc (Nat.le_refl _) _
    have HA1 := hide hA1
    have HN1 : Hid (NumsAt .u64 (w1.alloc (.cells #[.int .u64 x] 34)) (some ⟨w1.heap.size, 0, none⟩) [x]) := (fun _ => ⟨w1.heap.size, 0, rfl, fun i y hy => by
      cases i with
      | zero => simp at hy; subst hy; exact cell_new1 _ _ _
      | succ i => simp at hy⟩)
    clear hA1
    go_wp2_with fail
    refine (c_mergeRight (R2 := []) H1.out H2.out (E2 := [x]) rfl rfl k1 k2 (by simp) (.inl rfl) (nums_past HE.out (HT1.out.trans (HA1.out.mono HT1.out.size))) (nums_past HR.out (HT1.out.trans (HA1.out.mono HT1.out.size))) HN1.out (fun h => by simp at h) U1.out (by intro y hy; simp at hy; subst hy; exact UX.out)).mono ?_
    rintro e w2 ⟨v2, E', R', rfl, hM, ⟨p, q, rfl, o1, o2⟩, hb2⟩
    have R2 := ((HA1.out.trans (hb2.mono (by simp))).block _ (by omega)).trans HRs.out
    have HT2 := hide (HT1.out.trans ((HA1.out.trans (hb2.mono (by simp))).mono HT1.out.size))
    have HO1 := hide o1
    have HO2 := hide o2
    have HF := hide (HQ.out _ _ hM)
    obtain ⟨a1, c1, rfl⟩ := own_anyH o1
    obtain ⟨a2, c2, rfl⟩ := own_anyH o2
    have q0 : w2.cell? ⟨w.heap.size + 1, 0, none⟩ = some (.slice none 0 0) := by rw [cell_of_row _ _ 0 _ _ (0, 0) R2]; rfl
    have q1 : w2.cell? ⟨w.heap.size + 1, 1, none⟩ = some (.slice none 0 0) := by rw [cell_of_row _ _ 1 _ _ (0, 0) R2]; rfl
    have f0 := frozen_of_row w2 (w.heap.size + 1) 0 _ _ R2
    have f1 := frozen_of_row w2 (w.heap.size + 1) 1 _ _ R2
    clear hb2 o1 o2 R2 hM
    go_wp2
    refine bodyPost_ret (v := .agg #[.slice a1 E'.length c1, .slice a2 R'.length c2]) (by simp [results, Try.results14, go_sem, q0, q1]) rfl ⟨_, E', R', rfl, HF.out, ⟨_, _, rfl, ?_, ?_⟩, ?_⟩
    · refine own_le (B := w1.heap.size) ?_ (by omega)
      repeat (refine ownsRow_setCell_below ?_ (by simp; omega) _)
      exact own_le HO1.out (by simp)
    · refine own_le (B := w1.heap.size) ?_ (by omega)
      repeat (refine ownsRow_setCell_below ?_ (by simp; omega) _)
      exact own_le HO2.out (by simp)
    · exact (HT2.out.setCell (by simp <;> omega) _).setCell (by simp <;> omega) _
/-- What two come to. -/
def MrgH (E1 R1 E2 R2 E R : List Int) : Prop := if hlB E1 R1 = true ∧ hlB E2 R2 = true then Mg E1 R1 E2 R2 E R else E = [] ∧ R = []
set_option maxHeartbeats 4000000 in
theorem c_i_HllMerge {w : World} {ea ra eb rb : Option Addr} {n1 c1 m1 d1 n2 c2 m2 d2 : Nat} {E1 R1 E2 R2 : List Int} (h1 : E1.length = n1) (h2 : R1.length = m1) (h3 : E2.length = n2) (h4 : R2.length = m2) (l1 : n1 ≤ 1048576) (l2 : m1 ≤ 1048576) (l3 : n2 ≤ 1048576) (l4 : m2 ≤ 1048576)
    (hE1 : NumsAt .u64 w ea E1) (hR1 : NumsAt .i64 w ra R1) (hE2 : NumsAt .u64 w eb E2) (hR2 : NumsAt .i64 w rb R2) (u1 : ∀ x ∈ E1, U64 x) (u2 : ∀ x ∈ E2, U64 x) :
    Calls Try.prog 9 #[.agg #[.slice ea n1 c1, .slice ra m1 d1], .agg #[.slice eb n2 c2, .slice rb m2 d2]] w fun e w' => ∃ v E R, e = .returned v ∧ MrgH E1 R1 E2 R2 E R ∧ HlOut w' w.heap.size v E R ∧ Below w.heap.size w w' := by
  have HE1 := hide hE1
  have HR1 := hide hR1
  have HE2 := hide hE2
  have HR2 := hide hR2
  have H1 := hide h1
  have H2 := hide h2
  have H3 := hide h3
  have H4 := hide h4
  have U1 := hide u1
  have U2 := hide u2
  have HBa : Hid (∀ o1 o2 o3, Below w.heap.size w (((w.alloc o1).alloc o2).alloc o3)) := fun o1 o2 o3 => (((Below.refl _ _).alloc (Nat.le_refl _) _).alloc (by simp) _).alloc (by simp; omega) _
  clear hE1 hR1 hE2 hR2 h1 h2 h3 h4 u1 u2
  go_enter Try.func9, Try.ntmps9
  go_wp2_with fail
  refine (c_i_HllRight H1.out H2.out l1 l2 (nums_past HE1.out (HBa.out _ _ _)) (nums_past HR1.out (HBa.out _ _ _))).mono ?_
  rintro e w1 ⟨rfl, hb1⟩
  obtain ⟨K1, K2, hres⟩ := mid_cell w _ _ _ _ _ _ _ _ _ w1 hb1
  have hz1 := hb1.size
  have hT1 : Below w.heap.size w w1 := (HBa.out _ _ _).trans (hb1.mono (by simp; omega))
  simp only [World.size_alloc] at hz1
  have HT1 := hide hT1
  have HRs := hide hres
  have HK1 := hide K1
  have HK2 := hide K2
  obtain ⟨x0, x1⟩ := K1
  obtain ⟨y0, y1⟩ := K2
  clear hb1 hT1 hres
  cases hq : hlB E1 R1 with
  | false =>
    have HQ : Hid (MrgH E1 R1 E2 R2 [] []) := (by unfold MrgH; rw [if_neg (by rw [hq]; simp)]; exact ⟨rfl, rfl⟩ : MrgH E1 R1 E2 R2 [] [])
    have q0 : w1.cell? ⟨w.heap.size + 1 + 1, 0, none⟩ = some (.slice none 0 0) := by rw [cell_of_row _ _ 0 _ _ (0, 0) HRs.out]; rfl
    have q1 : w1.cell? ⟨w.heap.size + 1 + 1, 1, none⟩ = some (.slice none 0 0) := by rw [cell_of_row _ _ 1 _ _ (0, 0) HRs.out]; rfl
    have f0 := frozen_of_row w1 (w.heap.size + 1 + 1) 0 _ _ HRs.out
    have f1 := frozen_of_row w1 (w.heap.size + 1 + 1) 1 _ _ HRs.out
    go_wp2
    refine bodyPost_ret (v := .agg #[.slice none 0 0, .slice none 0 0]) (by simp [results, Try.results9, go_sem, q0, q1]) rfl ⟨_, [], [], rfl, HQ.out, ⟨_, _, rfl, World.ownsRow_nil _ _ _ _, World.ownsRow_nil _ _ _ _⟩, ?_⟩
    exact (HT1.out.setCell (by simp <;> omega) _).setCell (by simp <;> omega) _
  | true =>
    go_wp2_with fail
    refine (c_i_HllRight H3.out H4.out l3 l4 (nums_past HE2.out HT1.out) (nums_past HR2.out HT1.out)).mono ?_
    rintro e w2 ⟨rfl, hb2⟩
    clear x0 x1 y0 y1
    obtain ⟨x0, x1⟩ := hl_past HK1.out hb2
    obtain ⟨y0, y1⟩ := hl_past HK2.out hb2
    have HT2 := hide (chain HT1.out hb2)
    have HRs2 := hide ((hb2.block _ (by omega)).trans HRs.out)
    have hz2 := hb2.size
    clear hb2
    cases hq2 : hlB E2 R2 with
    | false =>
      have HQ : Hid (MrgH E1 R1 E2 R2 [] []) := (by unfold MrgH; rw [if_neg (by rw [hq2]; simp)]; exact ⟨rfl, rfl⟩ : MrgH E1 R1 E2 R2 [] [])
      have q0 : w2.cell? ⟨w.heap.size + 1 + 1, 0, none⟩ = some (.slice none 0 0) := by rw [cell_of_row _ _ 0 _ _ (0, 0) HRs2.out]; rfl
      have q1 : w2.cell? ⟨w.heap.size + 1 + 1, 1, none⟩ = some (.slice none 0 0) := by rw [cell_of_row _ _ 1 _ _ (0, 0) HRs2.out]; rfl
      have f0 := frozen_of_row w2 (w.heap.size + 1 + 1) 0 _ _ HRs2.out
      have f1 := frozen_of_row w2 (w.heap.size + 1 + 1) 1 _ _ HRs2.out
      go_wp2
      refine bodyPost_ret (v := .agg #[.slice none 0 0, .slice none 0 0]) (by simp [results, Try.results9, go_sem, q0, q1]) rfl ⟨_, [], [], rfl, HQ.out, ⟨_, _, rfl, World.ownsRow_nil _ _ _ _, World.ownsRow_nil _ _ _ _⟩, ?_⟩
      exact (HT2.out.setCell (by simp <;> omega) _).setCell (by simp <;> omega) _
    | true =>
      obtain ⟨k1, k2⟩ := hlB_len hq
      obtain ⟨k3, k4⟩ := hlB_len hq2
      rw [H1.out] at k1; rw [H2.out] at k2; rw [H3.out] at k3; rw [H4.out] at k4
      have HQ : Hid (∀ E' R', Mg E1 R1 E2 R2 E' R' → MrgH E1 R1 E2 R2 E' R') := (fun E' R' h => by unfold MrgH; rw [if_pos ⟨hq, hq2⟩]; exact h)
      have K2' := hide k2
      have K4' := hide k4
      clear k2 k4
      go_wp2_with fail
      refine (c_mergeRight H1.out H2.out H3.out H4.out k1 K2'.out k3 K4'.out (nums_past HE1.out HT2.out) (nums_past HR1.out HT2.out) (nums_past HE2.out HT2.out) (nums_past HR2.out HT2.out) U1.out U2.out).mono ?_
      rintro e w3 ⟨v3, E', R', rfl, hM, ⟨p, q, rfl, o1, o2⟩, hb3⟩
      have R3 := (hb3.block _ (by omega)).trans HRs2.out
      have HT3 := hide (HT2.out.trans (hb3.mono HT2.out.size))
      have HO1 := hide o1
      have HO2 := hide o2
      have HF := hide (HQ.out _ _ hM)
      obtain ⟨a1, k1, rfl⟩ := own_anyH o1
      obtain ⟨a2, k2, rfl⟩ := own_anyH o2
      have q0 : w3.cell? ⟨w.heap.size + 1 + 1, 0, none⟩ = some (.slice none 0 0) := by rw [cell_of_row _ _ 0 _ _ (0, 0) R3]; rfl
      have q1 : w3.cell? ⟨w.heap.size + 1 + 1, 1, none⟩ = some (.slice none 0 0) := by rw [cell_of_row _ _ 1 _ _ (0, 0) R3]; rfl
      have f0 := frozen_of_row w3 (w.heap.size + 1 + 1) 0 _ _ R3
      have f1 := frozen_of_row w3 (w.heap.size + 1 + 1) 1 _ _ R3
      clear hb3 o1 o2 R3 hM
      go_wp2
      refine bodyPost_ret (v := .agg #[.slice a1 E'.length k1, .slice a2 R'.length k2]) (by simp [results, Try.results9, go_sem, q0, q1]) rfl ⟨_, E', R', rfl, HF.out, ⟨_, _, rfl, ?_, ?_⟩, ?_⟩
      · refine own_le (B := w2.heap.size) ?_ (by omega)
        repeat (refine ownsRow_setCell_below ?_ (by simp; omega) _)
        exact HO1.out
      · refine own_le (B := w2.heap.size) ?_ (by omega)
        repeat (refine ownsRow_setCell_below ?_ (by simp; omega) _)
        exact HO2.out
      · exact (HT3.out.setCell (by simp <;> omega) _).setCell (by simp <;> omega) _
end Go.Proofs.Ytljhjcmodaaaoaa
