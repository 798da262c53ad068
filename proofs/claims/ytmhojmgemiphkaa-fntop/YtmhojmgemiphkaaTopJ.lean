/-
  Contract of the program's TopPut.
-/
import Derived.Test.YtmhojmgemiphkaaTopI
namespace Go.Proofs.Ytmhojmgemiphkaa
set_option linter.unusedVariables false
set_option linter.unusedSimpArgs false
open Go.ChangeShapes Go.WideShapes Go.ChangeAt Go.RowKit Go.PlainAid
set_option maxRecDepth 10000

def tpOk (P : List Hv) (d t : Int) (key : ByteArray) (wt : Int) : Prop := topB P d t = true ∧ keyB key = true ∧ 1 ≤ wt ∧ wt ≤ 1000000 ∧ t + wt ≤ 1000000000000000

set_option maxHeartbeats 4000000 in
theorem c_i_TopPut {w : World} {da ta wt : Int} {pa : Option Addr} {pn pc : Nat} {P : List Hv} {key : ByteArray} (hkz : key.size ≤ 1048576) (hp : P.length = pn) (lp : pn ≤ 1048576) (hP : HvsAt w pa P) (kP : ∀ x ∈ P, HvOk x) (ha : I64 da) (hta : I64 ta) (hwt : I64 wt) :
    Calls Try.prog 9 #[.agg #[.slice pa pn pc, .int .i64 da, .int .i64 ta], .string key, .int .i64 wt] w fun e w' => ∃ v, e = .returned v ∧ Below w.heap.size w w' ∧ ((tpOk P da ta key wt ∧ ∃ d, DebtV (hvAdd P (key, wt)) d ∧ TopOut w' w.heap.size v (lessH (hvAdd P (key, wt)) d) (da + d) (ta + wt)) ∨ (¬ tpOk P da ta key wt ∧ TopOut w' w.heap.size v P da ta)) := by
  have HP := hide hP
  have EP := hide hp
  have KP := hide kP
  have HA := hide ha
  have HTA := hide hta
  unfold I64 at hwt
  clear hP hp kP ha hta
  go_enter Try.func9, Try.ntmps9
  go_wp2_with fail
  generalize hW0 : (w.alloc (Obj.cells #[.slice pa pn pc, .int .i64 da, .int .i64 ta] 28)).alloc (Obj.cells zeroTp 28) = W0
  have T0 : Below w.heap.size w W0 := by rw [← hW0]; exact ((Below.refl _ _).alloc (Nat.le_refl _) _).alloc (by simp) _
  have K0 : TpCell W0 w.heap.size (.slice pa pn pc) da ta := by rw [← hW0]; exact tp_past (tp_new w _ _ _ _) ((Below.refl _ _).alloc (Nat.le_refl _) _)
  have R0 : W0.heap[w.heap.size + 1]? = some (.cells zeroTp 28 (0, 0)) := by rw [← hW0]; simpa using heap_alloc_new (w.alloc (Obj.cells #[.slice pa pn pc, .int .i64 da, .int .i64 ta] 28)) (Obj.cells zeroTp 28)
  have hsz0 : W0.heap.size = w.heap.size + 2 := by rw [← hW0]; simp
  clear hW0
  have HT0 := hide T0
  clear T0
  refine (c_i_TopRight _ _ EP.out lp (hvs_past HP.out HT0.out) KP.out HA.out HTA.out).mono ?_
  rintro e w1 ⟨rfl, hb1⟩
  have HT1 := hide (chain HT0.out hb1)
  have hC : ∀ W, Below w1.heap.size w1 W → TpCell W w.heap.size (.slice pa pn pc) da ta ∧ W.heap[w.heap.size + 1]? = some (.cells zeroTp 28 (0, 0)) := fun W hW => ⟨tp_past (tp_past K0 hb1) hW, by rw [hW.block _ (by have := hb1.size; omega), hb1.block _ (by omega)]; exact R0⟩
  have HC := hide hC
  have hs1 := hb1.size
  clear hb1 K0 R0 hC
  obtain ⟨x0, x1, x2⟩ := (HC.out _ (Below.refl _ _)).1
  cases hs : topB P da ta with
  | false =>
    have HNo : Hid (¬ tpOk P da ta key wt) := fun h => by rw [h.1] at hs; cases hs
    clear hs
    go_wp2_with fail
    clear x0 x1 x2
    have HS0 : (fun W => Below w1.heap.size w1 W) w1.drew := (Below.refl _ _).drew
    refine regionK (fun W => Below w1.heap.size w1 W) 8 (by kernel_rfl) ?_
    refine takeK (i := 0) (d := 30) (v := .pointer (some ⟨w.heap.size, 0, none⟩)) rfl rfl (by kernel_rfl) (by kernel_rfl) (by kernel_rfl) (by decide) (by kernel_rfl) (fun _ _ _ h => h) (Or.inl ⟨by rfl, fun W hW => ?_⟩) HS0 ?_
    · obtain ⟨⟨x0, x1, x2⟩, _⟩ := HC.out W hW
      go_simp
    simp only [List.setIfInBounds_toArray, List.set_cons_zero, List.set_cons_succ]
    refine takeK (i := 1) (d := 31) (v := .slice pa pn pc) rfl rfl (by kernel_rfl) (by kernel_rfl) (by kernel_rfl) (by decide) (by kernel_rfl) (fun _ _ _ h => h) (Or.inl ⟨by rfl, fun W hW => ?_⟩) HS0 ?_
    · obtain ⟨⟨x0, x1, x2⟩, _⟩ := HC.out W hW
      go_simp
    simp only [List.setIfInBounds_toArray, List.set_cons_zero, List.set_cons_succ]
    refine takeK (i := 3) (d := 33) (v := .pointer (some ⟨w.heap.size, 1, none⟩)) rfl rfl (by kernel_rfl) (by kernel_rfl) (by kernel_rfl) (by decide) (by kernel_rfl) (fun _ _ _ h => h) (Or.inl ⟨by rfl, fun W hW => ?_⟩) HS0 ?_
    · obtain ⟨⟨x0, x1, x2⟩, _⟩ := HC.out W hW
      go_simp
    simp only [List.setIfInBounds_toArray, List.set_cons_zero, List.set_cons_succ]
    refine takeK (i := 4) (d := 34) (v := .int .i64 da) rfl rfl (by kernel_rfl) (by kernel_rfl) (by kernel_rfl) (by decide) (by kernel_rfl) (fun _ _ _ h => h) (Or.inl ⟨by rfl, fun W hW => ?_⟩) HS0 ?_
    · obtain ⟨⟨x0, x1, x2⟩, _⟩ := HC.out W hW
      go_simp
    simp only [List.setIfInBounds_toArray, List.set_cons_zero, List.set_cons_succ]
    refine takeK (i := 5) (d := 35) (v := .pointer (some ⟨w.heap.size, 2, none⟩)) rfl rfl (by kernel_rfl) (by kernel_rfl) (by kernel_rfl) (by decide) (by kernel_rfl) (fun _ _ _ h => h) (Or.inl ⟨by rfl, fun W hW => ?_⟩) HS0 ?_
    · obtain ⟨⟨x0, x1, x2⟩, _⟩ := HC.out W hW
      go_simp
    simp only [List.setIfInBounds_toArray, List.set_cons_zero, List.set_cons_succ]
    refine takeK (i := 6) (d := 36) (v := .int .i64 ta) rfl rfl (by kernel_rfl) (by kernel_rfl) (by kernel_rfl) (by decide) (by kernel_rfl) (fun _ _ _ h => h) (Or.inl ⟨by rfl, fun W hW => ?_⟩) HS0 ?_
    · obtain ⟨⟨x0, x1, x2⟩, _⟩ := HC.out W hW
      go_simp
    simp only [List.setIfInBounds_toArray, List.set_cons_zero, List.set_cons_succ]
    refine oneK (i := 2) (by kernel_rfl) rfl (fun K hK => ?_)
    go_simp
    refine (c_CloneH _ _ EP.out lp (hvs_past HP.out (HT1.out.trans ((Below.refl _ _).drew.mono HT1.out.size)))).mono ?_
    rintro e w3 ⟨v3, rfl, ho3, hb3⟩
    dsimp only
    have HB3 := hide ((HS0 : Below w1.heap.size w1 w1.drew).trans hb3)
    have HO3 := hide (ho3.le (B' := w.heap.size) (by show w.heap.size ≤ w1.heap.size; omega))
    obtain ⟨ao3, c3, rfl⟩ := ho3.any
    clear ho3 hb3
    refine hK.out _ _ (fun _ => HB3.out) ?_
    clear hK K
    try simp only [Act.put, List.setIfInBounds_toArray, List.set_cons_zero, List.set_cons_succ]
    obtain ⟨n3, hn3⟩ : ∃ n3, P.length = n3 := ⟨_, rfl⟩
    rw [hn3] at HO3
    rw [hn3]
    clear hn3
    refine takeK (i := 7) (d := 37) (v := .agg #[.slice ao3 n3 c3, .int .i64 da, .int .i64 ta]) rfl rfl (by kernel_rfl) (by kernel_rfl) (by kernel_rfl) (by decide) (by kernel_rfl) (fun _ _ _ h => h) (Or.inl ⟨by rfl, fun W hW => ?_⟩) HB3.out ?_
    · clear hW
      go_simp
    simp only [List.setIfInBounds_toArray, List.set_cons_zero, List.set_cons_succ]
    have R3 := (HC.out _ HB3.out).2
    obtain ⟨q0, q1, q2⟩ := cell3 R3
    have f0 := frozen_of_row w3 (w.heap.size + 1) 0 _ _ R3
    have f1 := frozen_of_row w3 (w.heap.size + 1) 1 _ _ R3
    have f2 := frozen_of_row w3 (w.heap.size + 1) 2 _ _ R3
    have HF := hide (tp_store (D := da) (T := ta) (chain HT1.out HB3.out) R3 (by omega) HO3.out)
    refine oneK (i := 8) (by kernel_rfl) rfl (fun K hK => ?_)
    go_simp
    refine hK.out _ _ (fun h => absurd rfl h) ?_
    clear hK K
    try simp only [Act.put, List.setIfInBounds_toArray, List.set_cons_zero, List.set_cons_succ]
    refine doneK (by kernel_rfl) ?_ _
    clear R3 HC
    go_wp2
    refine bodyPost_ret (v := .agg #[.slice ao3 n3 c3, .int .i64 da, .int .i64 ta]) (by simp [results, Try.results9, go_sem, q0, q1, q2]) rfl ⟨_, rfl, HF.out.2, .inr ⟨HNo.out, HF.out.1⟩⟩
  | true =>
    have HSa := hide hs
    have na := top_nums hs
    clear hs
    have hcs : keyB key = false ∨ (keyB key = true ∧ wt < 1) ∨ (keyB key = true ∧ ¬ wt < 1 ∧ 1000000 < wt) ∨ (keyB key = true ∧ ¬ wt < 1 ∧ ¬ 1000000 < wt ∧ 1000000000000000 < ta + wt) ∨ (keyB key = true ∧ ¬ wt < 1 ∧ ¬ 1000000 < wt ∧ ¬ 1000000000000000 < ta + wt) := by
      cases keyB key <;> simp <;> omega
    rcases hcs with q1 | ⟨q1, q2⟩ | ⟨q1, q2, q3⟩ | ⟨q1, q2, q3, q4⟩ | ⟨q1, q2, q3, q4⟩
    · have HNo : Hid (¬ tpOk P da ta key wt) := fun h => by rw [h.2.1] at q1; cases q1
      go_wp2_with (go_at_call 29; refine (c_i_keyRight _ _ hkz).mono ?_; rintro e w2 ⟨rfl, hw⟩; obtain rfl := hw.symm; rw [q1])
      clear x0 x1 x2
      have HS0 : (fun W => Below w1.heap.size w1 W) w1.drew := (Below.refl _ _).drew
      refine regionK (fun W => Below w1.heap.size w1 W) 8 (by kernel_rfl) ?_
      refine takeK (i := 0) (d := 30) (v := .pointer (some ⟨w.heap.size, 0, none⟩)) rfl rfl (by kernel_rfl) (by kernel_rfl) (by kernel_rfl) (by decide) (by kernel_rfl) (fun _ _ _ h => h) (Or.inl ⟨by rfl, fun W hW => ?_⟩) HS0 ?_
      · obtain ⟨⟨x0, x1, x2⟩, _⟩ := HC.out W hW
        go_simp
      simp only [List.setIfInBounds_toArray, List.set_cons_zero, List.set_cons_succ]
      refine takeK (i := 1) (d := 31) (v := .slice pa pn pc) rfl rfl (by kernel_rfl) (by kernel_rfl) (by kernel_rfl) (by decide) (by kernel_rfl) (fun _ _ _ h => h) (Or.inl ⟨by rfl, fun W hW => ?_⟩) HS0 ?_
      · obtain ⟨⟨x0, x1, x2⟩, _⟩ := HC.out W hW
        go_simp
      simp only [List.setIfInBounds_toArray, List.set_cons_zero, List.set_cons_succ]
      refine takeK (i := 3) (d := 33) (v := .pointer (some ⟨w.heap.size, 1, none⟩)) rfl rfl (by kernel_rfl) (by kernel_rfl) (by kernel_rfl) (by decide) (by kernel_rfl) (fun _ _ _ h => h) (Or.inl ⟨by rfl, fun W hW => ?_⟩) HS0 ?_
      · obtain ⟨⟨x0, x1, x2⟩, _⟩ := HC.out W hW
        go_simp
      simp only [List.setIfInBounds_toArray, List.set_cons_zero, List.set_cons_succ]
      refine takeK (i := 4) (d := 34) (v := .int .i64 da) rfl rfl (by kernel_rfl) (by kernel_rfl) (by kernel_rfl) (by decide) (by kernel_rfl) (fun _ _ _ h => h) (Or.inl ⟨by rfl, fun W hW => ?_⟩) HS0 ?_
      · obtain ⟨⟨x0, x1, x2⟩, _⟩ := HC.out W hW
        go_simp
      simp only [List.setIfInBounds_toArray, List.set_cons_zero, List.set_cons_succ]
      refine takeK (i := 5) (d := 35) (v := .pointer (some ⟨w.heap.size, 2, none⟩)) rfl rfl (by kernel_rfl) (by kernel_rfl) (by kernel_rfl) (by decide) (by kernel_rfl) (fun _ _ _ h => h) (Or.inl ⟨by rfl, fun W hW => ?_⟩) HS0 ?_
      · obtain ⟨⟨x0, x1, x2⟩, _⟩ := HC.out W hW
        go_simp
      simp only [List.setIfInBounds_toArray, List.set_cons_zero, List.set_cons_succ]
      refine takeK (i := 6) (d := 36) (v := .int .i64 ta) rfl rfl (by kernel_rfl) (by kernel_rfl) (by kernel_rfl) (by decide) (by kernel_rfl) (fun _ _ _ h => h) (Or.inl ⟨by rfl, fun W hW => ?_⟩) HS0 ?_
      · obtain ⟨⟨x0, x1, x2⟩, _⟩ := HC.out W hW
        go_simp
      simp only [List.setIfInBounds_toArray, List.set_cons_zero, List.set_cons_succ]
      refine oneK (i := 2) (by kernel_rfl) rfl (fun K hK => ?_)
      go_simp
      refine (c_CloneH _ _ EP.out lp (hvs_past HP.out (HT1.out.trans ((Below.refl _ _).drew.mono HT1.out.size)))).mono ?_
      rintro e w3 ⟨v3, rfl, ho3, hb3⟩
      dsimp only
      have HB3 := hide ((HS0 : Below w1.heap.size w1 w1.drew).trans hb3)
      have HO3 := hide (ho3.le (B' := w.heap.size) (by show w.heap.size ≤ w1.heap.size; omega))
      obtain ⟨ao3, c3, rfl⟩ := ho3.any
      clear ho3 hb3
      refine hK.out _ _ (fun _ => HB3.out) ?_
      clear hK K
      try simp only [Act.put, List.setIfInBounds_toArray, List.set_cons_zero, List.set_cons_succ]
      obtain ⟨n3, hn3⟩ : ∃ n3, P.length = n3 := ⟨_, rfl⟩
      rw [hn3] at HO3
      rw [hn3]
      clear hn3
      refine takeK (i := 7) (d := 37) (v := .agg #[.slice ao3 n3 c3, .int .i64 da, .int .i64 ta]) rfl rfl (by kernel_rfl) (by kernel_rfl) (by kernel_rfl) (by decide) (by kernel_rfl) (fun _ _ _ h => h) (Or.inl ⟨by rfl, fun W hW => ?_⟩) HB3.out ?_
      · clear hW
        go_simp
      simp only [List.setIfInBounds_toArray, List.set_cons_zero, List.set_cons_succ]
      have R3 := (HC.out _ HB3.out).2
      obtain ⟨q0, q1, q2⟩ := cell3 R3
      have f0 := frozen_of_row w3 (w.heap.size + 1) 0 _ _ R3
      have f1 := frozen_of_row w3 (w.heap.size + 1) 1 _ _ R3
      have f2 := frozen_of_row w3 (w.heap.size + 1) 2 _ _ R3
      have HF := hide (tp_store (D := da) (T := ta) (chain HT1.out HB3.out) R3 (by omega) HO3.out)
      refine oneK (i := 8) (by kernel_rfl) rfl (fun K hK => ?_)
      go_simp
      refine hK.out _ _ (fun h => absurd rfl h) ?_
      clear hK K
      try simp only [Act.put, List.setIfInBounds_toArray, List.set_cons_zero, List.set_cons_succ]
      refine doneK (by kernel_rfl) ?_ _
      clear R3 HC
      go_wp2
      refine bodyPost_ret (v := .agg #[.slice ao3 n3 c3, .int .i64 da, .int .i64 ta]) (by simp [results, Try.results9, go_sem, q0, q1, q2]) rfl ⟨_, rfl, HF.out.2, .inr ⟨HNo.out, HF.out.1⟩⟩
    · have HNo : Hid (¬ tpOk P da ta key wt) := fun h => absurd h.2.2.1 (by omega)
      have d2 : decide (wt < 1) = true := decide_eq_true q2
      go_wp2_with (go_at_call 29; refine (c_i_keyRight _ _ hkz).mono ?_; rintro e w2 ⟨rfl, hw⟩; obtain rfl := hw.symm; rw [q1])
      clear x0 x1 x2
      have HS0 : (fun W => Below w1.heap.size w1 W) w1.drew := (Below.refl _ _).drew
      refine regionK (fun W => Below w1.heap.size w1 W) 8 (by kernel_rfl) ?_
      refine takeK (i := 0) (d := 30) (v := .pointer (some ⟨w.heap.size, 0, none⟩)) rfl rfl (by kernel_rfl) (by kernel_rfl) (by kernel_rfl) (by decide) (by kernel_rfl) (fun _ _ _ h => h) (Or.inl ⟨by rfl, fun W hW => ?_⟩) HS0 ?_
      · obtain ⟨⟨x0, x1, x2⟩, _⟩ := HC.out W hW
        go_simp
      simp only [List.setIfInBounds_toArray, List.set_cons_zero, List.set_cons_succ]
      refine takeK (i := 1) (d := 31) (v := .slice pa pn pc) rfl rfl (by kernel_rfl) (by kernel_rfl) (by kernel_rfl) (by decide) (by kernel_rfl) (fun _ _ _ h => h) (Or.inl ⟨by rfl, fun W hW => ?_⟩) HS0 ?_
      · obtain ⟨⟨x0, x1, x2⟩, _⟩ := HC.out W hW
        go_simp
      simp only [List.setIfInBounds_toArray, List.set_cons_zero, List.set_cons_succ]
      refine takeK (i := 3) (d := 33) (v := .pointer (some ⟨w.heap.size, 1, none⟩)) rfl rfl (by kernel_rfl) (by kernel_rfl) (by kernel_rfl) (by decide) (by kernel_rfl) (fun _ _ _ h => h) (Or.inl ⟨by rfl, fun W hW => ?_⟩) HS0 ?_
      · obtain ⟨⟨x0, x1, x2⟩, _⟩ := HC.out W hW
        go_simp
      simp only [List.setIfInBounds_toArray, List.set_cons_zero, List.set_cons_succ]
      refine takeK (i := 4) (d := 34) (v := .int .i64 da) rfl rfl (by kernel_rfl) (by kernel_rfl) (by kernel_rfl) (by decide) (by kernel_rfl) (fun _ _ _ h => h) (Or.inl ⟨by rfl, fun W hW => ?_⟩) HS0 ?_
      · obtain ⟨⟨x0, x1, x2⟩, _⟩ := HC.out W hW
        go_simp
      simp only [List.setIfInBounds_toArray, List.set_cons_zero, List.set_cons_succ]
      refine takeK (i := 5) (d := 35) (v := .pointer (some ⟨w.heap.size, 2, none⟩)) rfl rfl (by kernel_rfl) (by kernel_rfl) (by kernel_rfl) (by decide) (by kernel_rfl) (fun _ _ _ h => h) (Or.inl ⟨by rfl, fun W hW => ?_⟩) HS0 ?_
      · obtain ⟨⟨x0, x1, x2⟩, _⟩ := HC.out W hW
        go_simp
      simp only [List.setIfInBounds_toArray, List.set_cons_zero, List.set_cons_succ]
      refine takeK (i := 6) (d := 36) (v := .int .i64 ta) rfl rfl (by kernel_rfl) (by kernel_rfl) (by kernel_rfl) (by decide) (by kernel_rfl) (fun _ _ _ h => h) (Or.inl ⟨by rfl, fun W hW => ?_⟩) HS0 ?_
      · obtain ⟨⟨x0, x1, x2⟩, _⟩ := HC.out W hW
        go_simp
      simp only [List.setIfInBounds_toArray, List.set_cons_zero, List.set_cons_succ]
      refine oneK (i := 2) (by kernel_rfl) rfl (fun K hK => ?_)
      go_simp
      refine (c_CloneH _ _ EP.out lp (hvs_past HP.out (HT1.out.trans ((Below.refl _ _).drew.mono HT1.out.size)))).mono ?_
      rintro e w3 ⟨v3, rfl, ho3, hb3⟩
      dsimp only
      have HB3 := hide ((HS0 : Below w1.heap.size w1 w1.drew).trans hb3)
      have HO3 := hide (ho3.le (B' := w.heap.size) (by show w.heap.size ≤ w1.heap.size; omega))
      obtain ⟨ao3, c3, rfl⟩ := ho3.any
      clear ho3 hb3
      refine hK.out _ _ (fun _ => HB3.out) ?_
      clear hK K
      try simp only [Act.put, List.setIfInBounds_toArray, List.set_cons_zero, List.set_cons_succ]
      obtain ⟨n3, hn3⟩ : ∃ n3, P.length = n3 := ⟨_, rfl⟩
      rw [hn3] at HO3
      rw [hn3]
      clear hn3
      refine takeK (i := 7) (d := 37) (v := .agg #[.slice ao3 n3 c3, .int .i64 da, .int .i64 ta]) rfl rfl (by kernel_rfl) (by kernel_rfl) (by kernel_rfl) (by decide) (by kernel_rfl) (fun _ _ _ h => h) (Or.inl ⟨by rfl, fun W hW => ?_⟩) HB3.out ?_
      · clear hW
        go_simp
      simp only [List.setIfInBounds_toArray, List.set_cons_zero, List.set_cons_succ]
      have R3 := (HC.out _ HB3.out).2
      obtain ⟨q0, q1, q2⟩ := cell3 R3
      have f0 := frozen_of_row w3 (w.heap.size + 1) 0 _ _ R3
      have f1 := frozen_of_row w3 (w.heap.size + 1) 1 _ _ R3
      have f2 := frozen_of_row w3 (w.heap.size + 1) 2 _ _ R3
      have HF := hide (tp_store (D := da) (T := ta) (chain HT1.out HB3.out) R3 (by omega) HO3.out)
      refine oneK (i := 8) (by kernel_rfl) rfl (fun K hK => ?_)
      go_simp
      refine hK.out _ _ (fun h => absurd rfl h) ?_
      clear hK K
      try simp only [Act.put, List.setIfInBounds_toArray, List.set_cons_zero, List.set_cons_succ]
      refine doneK (by kernel_rfl) ?_ _
      clear R3 HC
      go_wp2
      refine bodyPost_ret (v := .agg #[.slice ao3 n3 c3, .int .i64 da, .int .i64 ta]) (by simp [results, Try.results9, go_sem, q0, q1, q2]) rfl ⟨_, rfl, HF.out.2, .inr ⟨HNo.out, HF.out.1⟩⟩
    · have HNo : Hid (¬ tpOk P da ta key wt) := fun h => absurd h.2.2.2.1 (by omega)
      have d2 : decide (wt < 1) = false := decide_eq_false q2
      have d3 : decide (1000000 < wt) = true := decide_eq_true q3
      go_wp2_with (go_at_call 29; refine (c_i_keyRight _ _ hkz).mono ?_; rintro e w2 ⟨rfl, hw⟩; obtain rfl := hw.symm; rw [q1])
      clear x0 x1 x2
      have HS0 : (fun W => Below w1.heap.size w1 W) w1.drew := (Below.refl _ _).drew
      refine regionK (fun W => Below w1.heap.size w1 W) 8 (by kernel_rfl) ?_
      refine takeK (i := 0) (d := 30) (v := .pointer (some ⟨w.heap.size, 0, none⟩)) rfl rfl (by kernel_rfl) (by kernel_rfl) (by kernel_rfl) (by decide) (by kernel_rfl) (fun _ _ _ h => h) (Or.inl ⟨by rfl, fun W hW => ?_⟩) HS0 ?_
      · obtain ⟨⟨x0, x1, x2⟩, _⟩ := HC.out W hW
        go_simp
      simp only [List.setIfInBounds_toArray, List.set_cons_zero, List.set_cons_succ]
      refine takeK (i := 1) (d := 31) (v := .slice pa pn pc) rfl rfl (by kernel_rfl) (by kernel_rfl) (by kernel_rfl) (by decide) (by kernel_rfl) (fun _ _ _ h => h) (Or.inl ⟨by rfl, fun W hW => ?_⟩) HS0 ?_
      · obtain ⟨⟨x0, x1, x2⟩, _⟩ := HC.out W hW
        go_simp
      simp only [List.setIfInBounds_toArray, List.set_cons_zero, List.set_cons_succ]
      refine takeK (i := 3) (d := 33) (v := .pointer (some ⟨w.heap.size, 1, none⟩)) rfl rfl (by kernel_rfl) (by kernel_rfl) (by kernel_rfl) (by decide) (by kernel_rfl) (fun _ _ _ h => h) (Or.inl ⟨by rfl, fun W hW => ?_⟩) HS0 ?_
      · obtain ⟨⟨x0, x1, x2⟩, _⟩ := HC.out W hW
        go_simp
      simp only [List.setIfInBounds_toArray, List.set_cons_zero, List.set_cons_succ]
      refine takeK (i := 4) (d := 34) (v := .int .i64 da) rfl rfl (by kernel_rfl) (by kernel_rfl) (by kernel_rfl) (by decide) (by kernel_rfl) (fun _ _ _ h => h) (Or.inl ⟨by rfl, fun W hW => ?_⟩) HS0 ?_
      · obtain ⟨⟨x0, x1, x2⟩, _⟩ := HC.out W hW
        go_simp
      simp only [List.setIfInBounds_toArray, List.set_cons_zero, List.set_cons_succ]
      refine takeK (i := 5) (d := 35) (v := .pointer (some ⟨w.heap.size, 2, none⟩)) rfl rfl (by kernel_rfl) (by kernel_rfl) (by kernel_rfl) (by decide) (by kernel_rfl) (fun _ _ _ h => h) (Or.inl ⟨by rfl, fun W hW => ?_⟩) HS0 ?_
      · obtain ⟨⟨x0, x1, x2⟩, _⟩ := HC.out W hW
        go_simp
      simp only [List.setIfInBounds_toArray, List.set_cons_zero, List.set_cons_succ]
      refine takeK (i := 6) (d := 36) (v := .int .i64 ta) rfl rfl (by kernel_rfl) (by kernel_rfl) (by kernel_rfl) (by decide) (by kernel_rfl) (fun _ _ _ h => h) (Or.inl ⟨by rfl, fun W hW => ?_⟩) HS0 ?_
      · obtain ⟨⟨x0, x1, x2⟩, _⟩ := HC.out W hW
        go_simp
      simp only [List.setIfInBounds_toArray, List.set_cons_zero, List.set_cons_succ]
      refine oneK (i := 2) (by kernel_rfl) rfl (fun K hK => ?_)
      go_simp
      refine (c_CloneH _ _ EP.out lp (hvs_past HP.out (HT1.out.trans ((Below.refl _ _).drew.mono HT1.out.size)))).mono ?_
      rintro e w3 ⟨v3, rfl, ho3, hb3⟩
      dsimp only
      have HB3 := hide ((HS0 : Below w1.heap.size w1 w1.drew).trans hb3)
      have HO3 := hide (ho3.le (B' := w.heap.size) (by show w.heap.size ≤ w1.heap.size; omega))
      obtain ⟨ao3, c3, rfl⟩ := ho3.any
      clear ho3 hb3
      refine hK.out _ _ (fun _ => HB3.out) ?_
      clear hK K
      try simp only [Act.put, List.setIfInBounds_toArray, List.set_cons_zero, List.set_cons_succ]
      obtain ⟨n3, hn3⟩ : ∃ n3, P.length = n3 := ⟨_, rfl⟩
      rw [hn3] at HO3
      rw [hn3]
      clear hn3
      refine takeK (i := 7) (d := 37) (v := .agg #[.slice ao3 n3 c3, .int .i64 da, .int .i64 ta]) rfl rfl (by kernel_rfl) (by kernel_rfl) (by kernel_rfl) (by decide) (by kernel_rfl) (fun _ _ _ h => h) (Or.inl ⟨by rfl, fun W hW => ?_⟩) HB3.out ?_
      · clear hW
        go_simp
      simp only [List.setIfInBounds_toArray, List.set_cons_zero, List.set_cons_succ]
      have R3 := (HC.out _ HB3.out).2
      obtain ⟨q0, q1, q2⟩ := cell3 R3
      have f0 := frozen_of_row w3 (w.heap.size + 1) 0 _ _ R3
      have f1 := frozen_of_row w3 (w.heap.size + 1) 1 _ _ R3
      have f2 := frozen_of_row w3 (w.heap.size + 1) 2 _ _ R3
      have HF := hide (tp_store (D := da) (T := ta) (chain HT1.out HB3.out) R3 (by omega) HO3.out)
      refine oneK (i := 8) (by kernel_rfl) rfl (fun K hK => ?_)
      go_simp
      refine hK.out _ _ (fun h => absurd rfl h) ?_
      clear hK K
      try simp only [Act.put, List.setIfInBounds_toArray, List.set_cons_zero, List.set_cons_succ]
      refine doneK (by kernel_rfl) ?_ _
      clear R3 HC
      go_wp2
      refine bodyPost_ret (v := .agg #[.slice ao3 n3 c3, .int .i64 da, .int .i64 ta]) (by simp [results, Try.results9, go_sem, q0, q1, q2]) rfl ⟨_, rfl, HF.out.2, .inr ⟨HNo.out, HF.out.1⟩⟩
    · have HNo : Hid (¬ tpOk P da ta key wt) := fun h => absurd h.2.2.2.2 (by omega)
      have d2 : decide (wt < 1) = false := decide_eq_false q2
      have d3 : decide (1000000 < wt) = false := decide_eq_false q3
      have d4 : decide (1000000000000000 < ta + wt) = true := decide_eq_true q4
      have hw1 : IntKind.i64.wrap (ta + wt) = ta + wt := IntWalk.i64_in _ ⟨by omega, by omega⟩
      go_wp2_with (go_at_call 29; refine (c_i_keyRight _ _ hkz).mono ?_; rintro e w2 ⟨rfl, hw⟩; obtain rfl := hw.symm; rw [q1])
      clear x0 x1 x2
      have HS0 : (fun W => Below w1.heap.size w1 W) w1.drew := (Below.refl _ _).drew
      refine regionK (fun W => Below w1.heap.size w1 W) 8 (by kernel_rfl) ?_
      refine takeK (i := 0) (d := 30) (v := .pointer (some ⟨w.heap.size, 0, none⟩)) rfl rfl (by kernel_rfl) (by kernel_rfl) (by kernel_rfl) (by decide) (by kernel_rfl) (fun _ _ _ h => h) (Or.inl ⟨by rfl, fun W hW => ?_⟩) HS0 ?_
      · obtain ⟨⟨x0, x1, x2⟩, _⟩ := HC.out W hW
        go_simp
      simp only [List.setIfInBounds_toArray, List.set_cons_zero, List.set_cons_succ]
      refine takeK (i := 1) (d := 31) (v := .slice pa pn pc) rfl rfl (by kernel_rfl) (by kernel_rfl) (by kernel_rfl) (by decide) (by kernel_rfl) (fun _ _ _ h => h) (Or.inl ⟨by rfl, fun W hW => ?_⟩) HS0 ?_
      · obtain ⟨⟨x0, x1, x2⟩, _⟩ := HC.out W hW
        go_simp
      simp only [List.setIfInBounds_toArray, List.set_cons_zero, List.set_cons_succ]
      refine takeK (i := 3) (d := 33) (v := .pointer (some ⟨w.heap.size, 1, none⟩)) rfl rfl (by kernel_rfl) (by kernel_rfl) (by kernel_rfl) (by decide) (by kernel_rfl) (fun _ _ _ h => h) (Or.inl ⟨by rfl, fun W hW => ?_⟩) HS0 ?_
      · obtain ⟨⟨x0, x1, x2⟩, _⟩ := HC.out W hW
        go_simp
      simp only [List.setIfInBounds_toArray, List.set_cons_zero, List.set_cons_succ]
      refine takeK (i := 4) (d := 34) (v := .int .i64 da) rfl rfl (by kernel_rfl) (by kernel_rfl) (by kernel_rfl) (by decide) (by kernel_rfl) (fun _ _ _ h => h) (Or.inl ⟨by rfl, fun W hW => ?_⟩) HS0 ?_
      · obtain ⟨⟨x0, x1, x2⟩, _⟩ := HC.out W hW
        go_simp
      simp only [List.setIfInBounds_toArray, List.set_cons_zero, List.set_cons_succ]
      refine takeK (i := 5) (d := 35) (v := .pointer (some ⟨w.heap.size, 2, none⟩)) rfl rfl (by kernel_rfl) (by kernel_rfl) (by kernel_rfl) (by decide) (by kernel_rfl) (fun _ _ _ h => h) (Or.inl ⟨by rfl, fun W hW => ?_⟩) HS0 ?_
      · obtain ⟨⟨x0, x1, x2⟩, _⟩ := HC.out W hW
        go_simp
      simp only [List.setIfInBounds_toArray, List.set_cons_zero, List.set_cons_succ]
      refine takeK (i := 6) (d := 36) (v := .int .i64 ta) rfl rfl (by kernel_rfl) (by kernel_rfl) (by kernel_rfl) (by decide) (by kernel_rfl) (fun _ _ _ h => h) (Or.inl ⟨by rfl, fun W hW => ?_⟩) HS0 ?_
      · obtain ⟨⟨x0, x1, x2⟩, _⟩ := HC.out W hW
        go_simp
      simp only [List.setIfInBounds_toArray, List.set_cons_zero, List.set_cons_succ]
      refine oneK (i := 2) (by kernel_rfl) rfl (fun K hK => ?_)
      go_simp
      refine (c_CloneH _ _ EP.out lp (hvs_past HP.out (HT1.out.trans ((Below.refl _ _).drew.mono HT1.out.size)))).mono ?_
      rintro e w3 ⟨v3, rfl, ho3, hb3⟩
      dsimp only
      have HB3 := hide ((HS0 : Below w1.heap.size w1 w1.drew).trans hb3)
      have HO3 := hide (ho3.le (B' := w.heap.size) (by show w.heap.size ≤ w1.heap.size; omega))
      obtain ⟨ao3, c3, rfl⟩ := ho3.any
      clear ho3 hb3
      refine hK.out _ _ (fun _ => HB3.out) ?_
      clear hK K
      try simp only [Act.put, List.setIfInBounds_toArray, List.set_cons_zero, List.set_cons_succ]
      obtain ⟨n3, hn3⟩ : ∃ n3, P.length = n3 := ⟨_, rfl⟩
      rw [hn3] at HO3
      rw [hn3]
      clear hn3
      refine takeK (i := 7) (d := 37) (v := .agg #[.slice ao3 n3 c3, .int .i64 da, .int .i64 ta]) rfl rfl (by kernel_rfl) (by kernel_rfl) (by kernel_rfl) (by decide) (by kernel_rfl) (fun _ _ _ h => h) (Or.inl ⟨by rfl, fun W hW => ?_⟩) HB3.out ?_
      · clear hW
        go_simp
      simp only [List.setIfInBounds_toArray, List.set_cons_zero, List.set_cons_succ]
      have R3 := (HC.out _ HB3.out).2
      obtain ⟨q0, q1, q2⟩ := cell3 R3
      have f0 := frozen_of_row w3 (w.heap.size + 1) 0 _ _ R3
      have f1 := frozen_of_row w3 (w.heap.size + 1) 1 _ _ R3
      have f2 := frozen_of_row w3 (w.heap.size + 1) 2 _ _ R3
      have HF := hide (tp_store (D := da) (T := ta) (chain HT1.out HB3.out) R3 (by omega) HO3.out)
      refine oneK (i := 8) (by kernel_rfl) rfl (fun K hK => ?_)
      go_simp
      refine hK.out _ _ (fun h => absurd rfl h) ?_
      clear hK K
      try simp only [Act.put, List.setIfInBounds_toArray, List.set_cons_zero, List.set_cons_succ]
      refine doneK (by kernel_rfl) ?_ _
      clear R3 HC
      go_wp2
      refine bodyPost_ret (v := .agg #[.slice ao3 n3 c3, .int .i64 da, .int .i64 ta]) (by simp [results, Try.results9, go_sem, q0, q1, q2]) rfl ⟨_, rfl, HF.out.2, .inr ⟨HNo.out, HF.out.1⟩⟩
    · have HYes : Hid (tpOk P da ta key wt) := (⟨HSa.out, q1, by omega, by omega, by omega⟩ : tpOk P da ta key wt)
      have d2 : decide (wt < 1) = false := decide_eq_false q2
      have d3 : decide (1000000 < wt) = false := decide_eq_false q3
      have d4 : decide (1000000000000000 < ta + wt) = false := decide_eq_false q4
      have hw1 : IntKind.i64.wrap (ta + wt) = ta + wt := IntWalk.i64_in _ ⟨by omega, by omega⟩
      go_wp2_with (go_at_call 29; refine (c_i_keyRight _ _ hkz).mono ?_; rintro e w2 ⟨rfl, hw⟩; obtain rfl := hw.symm; rw [q1])
      clear x0 x1 x2
      have hBA : ∀ o, Below w1.heap.size w1 (w1.alloc o) := fun o => (Below.refl _ _).alloc (Nat.le_refl _) o
      have HBA := hide hBA
      clear hBA
      have hM1 : HvsAt (w1.alloc (Obj.cells #[.string key, .int .i64 wt] 52)) (some ⟨w1.heap.size, 0, none⟩) [(key, wt)] := fun _ => ⟨w1.heap.size, 0, rfl, fun i x hx => by
        have hi : i = 0 := by have := (List.getElem?_eq_some_iff.1 hx).1; simp at this; omega
        subst hi
        obtain rfl : (key, wt) = x := by simpa using hx
        exact hc_new w1 52 key wt⟩
      have hpn : pn ≤ 5 := by have := (top_rise HSa.out).2; have := EP.out; omega
      refine (c_merge (M := [(key, wt)]) EP.out rfl hpn (by simp) (hvs_past HP.out (chain HT1.out (HBA.out _))) hM1 (top_rise HSa.out).1 (top_cnt HSa.out) (fun x hx => by
        obtain rfl : x = (key, wt) := by simpa using hx
        show 1 ≤ wt ∧ wt ≤ _; omega) na.1 (by omega) na.2 (by omega)).mono ?_
      rintro e w3 ⟨v, d, rfl, hd, hq, hb3⟩
      obtain ⟨p3, rfl, ho3⟩ := hq
      obtain ⟨ao3, c3, rfl⟩ := ho3.any
      have HB3 := hide (chain (HBA.out _) hb3)
      have R3 := (HC.out _ HB3.out).2
      obtain ⟨q0, q1', q2'⟩ := cell3 R3
      have f0 := frozen_of_row w3 (w.heap.size + 1) 0 _ _ R3
      have f1 := frozen_of_row w3 (w.heap.size + 1) 1 _ _ R3
      have f2 := frozen_of_row w3 (w.heap.size + 1) 2 _ _ R3
      have e0 : da + 0 + d = da + d := by omega
      rw [e0]
      have HF := hide (tp_store (D := da + d) (T := ta + wt) (chain HT1.out HB3.out) R3 (by omega) (ho3.le (B' := w.heap.size) (by simp; omega)))
      have HD := hide hd
      obtain ⟨n3, hn3⟩ : ∃ n3, (lessH (addAll P [(key, wt)]) d).length = n3 := ⟨_, rfl⟩
      rw [hn3] at HF
      rw [hn3]
      clear hn3 R3 ho3 hb3 hd e0 hM1
      go_wp2
      refine bodyPost_ret (v := .agg #[.slice ao3 n3 c3, .int .i64 (da + d), .int .i64 (ta + wt)]) (by simp [results, Try.results9, go_sem, q0, q1', q2']) rfl ⟨_, rfl, HF.out.2, .inl ⟨HYes.out, d, HD.out, HF.out.1⟩⟩
end Go.Proofs.Ytmhojmgemiphkaa
