/-
  A heavy put among heavies, as the program does.
-/
import Derived.Test.YtmhojmgemiphkaaInsH
import Derived.Test.YtmhojmgemiphkaaAddM
import Derived.Test.YtmhojmgemiphkaaKeepK
namespace Go.Proofs.Ytmhojmgemiphkaa
set_option linter.unusedVariables false
set_option linter.unusedSimpArgs false
open Go.ChangeShapes Go.WideShapes Go.ChangeAt Go.RowKit Go.PlainAid
set_option maxRecDepth 10000

theorem set_self {α : Type} {l : List α} {i : Nat} {v : α} (h : l[i]? = some v) : l.set i v = l := by
  refine List.ext_getElem? fun j => ?_
  by_cases e : i = j
  · subst e
    rw [List.getElem?_set_self (List.getElem?_eq_some_iff.1 h).1, h]
  · rw [List.getElem?_set_ne e]
abbrev HvCell (w : World) (g : Nat) (a : ByteArray) (u : Int) : Prop := w.cell? ⟨g, 0, none⟩ = some (.string a) ∧ w.cell? ⟨g, 1, none⟩ = some (.int .i64 u)
theorem hc_past {w w' : World} {g : Nat} {a : ByteArray} {u : Int} (h : HvCell w g a u) (hb : Below w.heap.size w w') : HvCell w' g a u := ⟨cell_past hb h.1, cell_past hb h.2⟩
theorem hc_new (w : World) (t : TypeId) (a : ByteArray) (u : Int) : HvCell (w.alloc (.cells #[.string a, .int .i64 u] t)) w.heap.size a u := by
  have hb := heap_alloc_new w (.cells #[.string a, .int .i64 u] t)
  exact ⟨by rw [cell_of_row _ w.heap.size 0 _ _ (0, 0) hb]; rfl, by rw [cell_of_row _ w.heap.size 1 _ _ (0, 0) hb]; rfl⟩

set_option maxHeartbeats 2000000 in
theorem c_add {w : World} {B n : Nat} {v : Value} {L : List Hv} (a : ByteArray) (u : Int) (hL : RiseH L) (hs : ∀ x ∈ L, I64 (x.2 + u)) (hl : n ≤ 500) (hn : n = L.length) (hO : w.ownsRow B 52 2 v n (fl encH L)) (hB : B ≤ w.heap.size) :
    Calls Try.prog 45 #[v, .agg #[.string a, .int .i64 u]] w fun e w' => ∃ v', e = .returned v' ∧ w'.ownsRow B 52 2 v' (hvAdd L (a, u)).length (fl encH (hvAdd L (a, u))) ∧ Below B w w' := by
  have HO := hide hO
  have HL := hide hL
  have HS := hide hs
  have HN := hide hn
  obtain ⟨ao, c, rfl⟩ := own_any hO
  clear hO hL hs hn
  go_enter Try.func45, Try.ntmps45
  go_wp2_with fail
  generalize hW0 : w.alloc (Obj.cells #[.string a, .int .i64 u] 52) = W0
  have T0 : Below w.heap.size w W0 := by rw [← hW0]; exact (Below.refl _ _).alloc (Nat.le_refl _) _
  have A0 : HvCell W0 w.heap.size a u := by rw [← hW0]; exact hc_new w _ _ _
  have hs0 : W0.heap.size = w.heap.size + 1 := by rw [← hW0]; simp
  clear hW0
  have HT0 := hide T0
  clear T0
  refine (c_find a HN.out (by omega) HL.out (hvs_past (hvs_owned HO.out HN.out rfl) HT0.out)).mono ?_
  rintro e w1 ⟨i, f, rfl, hpos, hf, hb1⟩
  have HT1 := hide (chain HT0.out hb1)
  obtain ⟨y0, y1⟩ := hc_past A0 hb1
  have HP := hide hpos
  have HO1 := hide (own_past HO.out HT1.out)
  clear hb1 A0 hpos
  cases f with
  | true =>
    obtain ⟨⟨a', u'⟩, hRk, hap⟩ := hf.1 rfl
    have hap : a' = a := hap
    subst hap
    obtain ⟨go, cc, e, hc0, hc1, hf0, hf1, _⟩ := own_hv HO1.out HN.out hRk
    cases e
    have hsum : I64 (u' + u) := HS.out _ (List.mem_of_getElem? hRk)
    have hin : i < n := by have := (List.getElem?_eq_some_iff.1 hRk).1; have := HN.out; omega
    have HRk := hide hRk
    unfold I64 at hsum
    have hwr : IntKind.i64.wrap (u' + u) = u' + u := IntWalk.i64_in _ ⟨by omega, by omega⟩
    clear hf hRk
    go_wp2_with fail
    have HS0 : (fun W => HvCell W w.heap.size a' u ∧ W.cell? ⟨go, i * 2 + 1, none⟩ = some (.int .i64 u') ∧ W.frozen? ⟨go, i * 2 + 1, none⟩ = false) w1.drew := ⟨⟨y0, y1⟩, hc1, hf1⟩
    refine regionK (fun W => HvCell W w.heap.size a' u ∧ W.cell? ⟨go, i * 2 + 1, none⟩ = some (.int .i64 u') ∧ W.frozen? ⟨go, i * 2 + 1, none⟩ = false) 10 (by kernel_rfl) ?_
    refine takeK (i := 0) (d := 21) (v := .slice (some ⟨go, 0, none⟩) n c) rfl rfl (by kernel_rfl) (by kernel_rfl) (by kernel_rfl) (by decide) (by kernel_rfl) (fun _ _ _ h => h) (Or.inl ⟨by rfl, fun W hW => ?_⟩) HS0 ?_
    · obtain ⟨⟨x0, x1⟩, x2, x3⟩ := hW
      go_simp
    simp only [List.setIfInBounds_toArray, List.set_cons_zero, List.set_cons_succ]
    refine takeK (i := 1) (d := 22) (v := .int .i64 i) rfl rfl (by kernel_rfl) (by kernel_rfl) (by kernel_rfl) (by decide) (by kernel_rfl) (fun _ _ _ h => h) (Or.inl ⟨by rfl, fun W hW => ?_⟩) HS0 ?_
    · obtain ⟨⟨x0, x1⟩, x2, x3⟩ := hW
      go_simp
    simp only [List.setIfInBounds_toArray, List.set_cons_zero, List.set_cons_succ]
    refine takeK (i := 2) (d := 23) (v := .pointer (some ⟨go, i * 2, none⟩)) rfl rfl (by kernel_rfl) (by kernel_rfl) (by kernel_rfl) (by decide) (by kernel_rfl) (fun _ _ _ h => h) (Or.inl ⟨by rfl, fun W hW => ?_⟩) HS0 ?_
    · obtain ⟨⟨x0, x1⟩, x2, x3⟩ := hW
      go_simp
    simp only [List.setIfInBounds_toArray, List.set_cons_zero, List.set_cons_succ]
    refine takeK (i := 3) (d := 24) (v := .pointer (some ⟨go, i * 2 + 1, none⟩)) rfl rfl (by kernel_rfl) (by kernel_rfl) (by kernel_rfl) (by decide) (by kernel_rfl) (fun _ _ _ h => h) (Or.inl ⟨by rfl, fun W hW => ?_⟩) HS0 ?_
    · obtain ⟨⟨x0, x1⟩, x2, x3⟩ := hW
      go_simp
    simp only [List.setIfInBounds_toArray, List.set_cons_zero, List.set_cons_succ]
    refine takeK (i := 4) (d := 25) (v := .int .i64 u') rfl rfl (by kernel_rfl) (by kernel_rfl) (by kernel_rfl) (by decide) (by kernel_rfl) (fun _ _ _ h => h) (Or.inl ⟨by rfl, fun W hW => ?_⟩) HS0 ?_
    · obtain ⟨⟨x0, x1⟩, x2, x3⟩ := hW
      go_simp
    simp only [List.setIfInBounds_toArray, List.set_cons_zero, List.set_cons_succ]
    refine takeK (i := 5) (d := 26) (v := .pointer (some ⟨w.heap.size, 1, none⟩)) rfl rfl (by kernel_rfl) (by kernel_rfl) (by kernel_rfl) (by decide) (by kernel_rfl) (fun _ _ _ h => h) (Or.inl ⟨by rfl, fun W hW => ?_⟩) HS0 ?_
    · obtain ⟨⟨x0, x1⟩, x2, x3⟩ := hW
      go_simp
    simp only [List.setIfInBounds_toArray, List.set_cons_zero, List.set_cons_succ]
    refine takeK (i := 6) (d := 27) (v := .int .i64 u) rfl rfl (by kernel_rfl) (by kernel_rfl) (by kernel_rfl) (by decide) (by kernel_rfl) (fun _ _ _ h => h) (Or.inl ⟨by rfl, fun W hW => ?_⟩) HS0 ?_
    · obtain ⟨⟨x0, x1⟩, x2, x3⟩ := hW
      go_simp
    simp only [List.setIfInBounds_toArray, List.set_cons_zero, List.set_cons_succ]
    refine takeK (i := 7) (d := 28) (v := .int .i64 (u' + u)) rfl rfl (by kernel_rfl) (by kernel_rfl) (by kernel_rfl) (by decide) (by kernel_rfl) (fun _ _ _ h => h) (Or.inl ⟨by rfl, fun W hW => ?_⟩) HS0 ?_
    · obtain ⟨⟨x0, x1⟩, x2, x3⟩ := hW
      go_simp
    simp only [List.setIfInBounds_toArray, List.set_cons_zero, List.set_cons_succ]
    refine oneK (i := 8) (by kernel_rfl) rfl (fun K hK => ?_)
    go_simp
    refine hK.out _ _ (fun _ => HS0) ?_
    clear hK K
    try simp only [Act.put, List.setIfInBounds_toArray, List.set_cons_zero, List.set_cons_succ]
    refine takeK (i := 9) (d := 30) (v := .pointer (some ⟨go, i * 2 + 1, none⟩)) rfl rfl (by kernel_rfl) (by kernel_rfl) (by kernel_rfl) (by decide) (by kernel_rfl) (fun _ _ _ h => h) (Or.inl ⟨by rfl, fun W hW => ?_⟩) HS0 ?_
    · obtain ⟨⟨x0, x1⟩, x2, x3⟩ := hW
      go_simp
    simp only [List.setIfInBounds_toArray, List.set_cons_zero, List.set_cons_succ]
    have fin : (w1.setCell ⟨go, i * 2 + 1, none⟩ (.int .i64 (u' + u))).ownsRow B 52 2 (.slice (some ⟨go, 0, none⟩) n c) n (fl encH (hvAdd L (a', u))) ∧ n = (hvAdd L (a', u)).length ∧ Below B w (w1.setCell ⟨go, i * 2 + 1, none⟩ (.int .i64 (u' + u))) := by
      have hlt := (List.getElem?_eq_some_iff.1 HRk.out).1
      rw [add_found L i HP.out HRk.out]
      refine ⟨?_, by rw [List.length_set]; exact HN.out, ?_⟩
      · have h2 := (HO1.out.stored (i * 2 + 1) (.int .i64 (u' + u))).1
        have e : (fl encH L).set (i * 2 + 1) (.int .i64 (u' + u)) = fl encH (L.set i (a', u' + u)) := by
          rw [← fl_set encH2 L i (a', u' + u) hlt rfl]
          congr 1
          have h0 := fl_at encH2 L i _ 0 (by omega) HRk.out
          rw [Nat.add_zero] at h0
          refine (set_self ?_).symm
          rw [h0]; rfl
        rw [e] at h2
        exact h2
      · exact (HT1.out.mono hB).setCell (own_lt HO1.out).1 _
    have FIN := hide fin
    clear fin
    refine oneK (i := 10) (by kernel_rfl) rfl (fun K hK => ?_)
    go_simp
    refine hK.out _ _ (fun h => absurd rfl h) ?_
    clear hK K
    try simp only [Act.put, List.setIfInBounds_toArray, List.set_cons_zero, List.set_cons_succ]
    refine doneK (by kernel_rfl) ?_ _
    go_wp2
    go_ret
    exact ⟨_, rfl, by rw [← FIN.out.2.1]; exact FIN.out.1, ⟨FIN.out.2.2.os, FIN.out.2.2.tape, FIN.out.2.2.output, FIN.out.2.2.size, FIN.out.2.2.block⟩⟩
  | false =>
    have HF := hide (fun h => by cases hf.2 h : ¬ ∃ x, L[i]? = some x ∧ x.1 = a)
    clear hf
    go_wp2_with fail
    have hBA : Below w1.heap.size w1 (w1.alloc (.cells #[.string a, .int .i64 u] 52)) := (Below.refl _ _).alloc (Nat.le_refl _) _
    have hne : (Value.slice ao n c).ownBlock ≠ some w1.heap.size := fun e => by have := (HO1.out.lt _ e).2; omega
    have HO2 := hide (own_past HO1.out hBA)
    refine (c_InsertH HN.out (by omega) (by have := HP.out.1; have := HN.out; omega) HO2.out (by simp; have := HT1.out.size; omega) hne (heap_alloc_new w1 _)).mono ?_
    rintro e w2 ⟨v', rfl, ho2, hg2⟩
    have FIN : Hid (w2.ownsRow B 52 2 v' (n + 1) (fl encH (hvAdd L (a, u))) ∧ n + 1 = (hvAdd L (a, u)).length ∧ Below B w w2) := by
      refine (⟨?_, ?_, ?_⟩ : w2.ownsRow B 52 2 v' (n + 1) (fl encH (hvAdd L (a, u))) ∧ n + 1 = (hvAdd L (a, u)).length ∧ Below B w w2)
      · rw [add_new L i HP.out HF.out]; exact ho2
      · rw [add_new L i HP.out HF.out]
        have := HP.out.1; have := HN.out
        simp; omega
      · have h1 : Below B w (w1.alloc (.cells #[.string a, .int .i64 u] 52)) := (HT1.out.mono hB).trans (hBA.mono (by have := HT1.out.size; omega))
        exact h1.grown hg2 (by have := h1.size; omega) (fun k e => (HO1.out.lt k e).1)
    clear ho2 hg2 hBA
    go_wp2
    go_ret
    exact ⟨_, rfl, by rw [← FIN.out.2.1]; exact FIN.out.1, FIN.out.2.2⟩
end Go.Proofs.Ytmhojmgemiphkaa
