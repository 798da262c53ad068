/-
  The model's sketch of how many: registers of hashes (l04Dense).
-/
import Derived.Test.YtljhjcmodaaaoaaHmA
namespace Go.Proofs.Ytljhjcmodaaaoaa
set_option linter.unusedVariables false
set_option linter.unusedSimpArgs false
open Go.ChangeShapes Go.WideShapes Go.ChangeAt Go.RowKit Go.PlainAid Go.Maps
set_option maxRecDepth 10000

theorem mem_take_step {L : List Int} {k : Nat} {y : Int} (h : L[k]? = some y) (x : Int) : x ∈ L.take (k + 1) ↔ x ∈ L.take k ∨ x = y := by
  rw [List.take_add_one, h]; simp
set_option maxHeartbeats 4000000 in
theorem c_s_Dense {w : World} {ra eb : Option Addr} {m d n c : Nat} {R E : List Int} (h1 : R.length = m) (h2 : E.length = n) (l1 : m = 0 ∨ m = 64) (l2 : n ≤ 1000) (hR : NumsAt .i64 w ra R) (hE : NumsAt .u64 w eb E) (u1 : ∀ x ∈ E, U64 x) :
    Calls Try.prog 48 #[.slice ra m d, .slice eb n c] w fun e w' => ∃ g R', e = .returned (.agg #[.slice none 0 0, .slice (some ⟨g, 0, none⟩) 64 64]) ∧ Laid (padR R) (· ∈ E) R' ∧ RowI w' w.heap.size g R' ∧ Below w.heap.size w w' := by
  have HR := hide hR
  have HE := hide hE
  have H1 := hide h1
  have H2 := hide h2
  have L1 := hide l1
  have U1 := hide u1
  have HPl : Hid ((padR R).length = 64) := padR_len (by rw [h1]; exact l1)
  obtain ⟨i0, hi, hi0, hi1, hi2⟩ := info_parts infoInt64S
  have HA0 : Hid (∀ o, Below w.heap.size w (w.alloc o)) := fun o => (Below.refl _ _).alloc (Nat.le_refl _) _
  have HN0 := hide (heap_alloc_new w (.cells #[.slice none 0 0, .slice none 0 0] 27))
  clear hR hE h1 h2 l1 u1
  go_enter Try.func48, Try.ntmps48
  go_wp2_with (first
    | (at_make; refine wpList_make_full _ rfl _ _ 23 rfl (w.heap.size + 1) 2 i0 (.int .i64 0) 1 Try.underlying23 hi hi0 hi1 .i64 .i64 _ _ 64 rfl rfl rfl rfl (by rw [hi2]; omega) (by unfold maxLen; omega) (by simp) ?_; intro w2 hown2 hgrow2; simp only [World.size_alloc] at hown2 ⊢; have HRw : Hid (w2.heap[w.heap.size + 1]? = some (.cells zer64.toArray 2 (0, 0))) := RowI.full (R := List.replicate 64 0) ⟨by simp, by rw [← made_nums]; exact hown2⟩; have HB2 : Hid (Below (w.heap.size + 1) (w.alloc (.cells #[.slice none 0 0, .slice none 0 0] 27)) w2) := (Below.refl _ _).grown hgrow2 (by simp) (fun k e => by cases e); clear hown2 hgrow2)
    | (refine wpList_copy_splice rfl _ _ 23 23 rfl 2 Try.underlying23 info1I _ _ _ _ _ _ rfl rfl (w.heap.size + 1) 0 _ 2 HRw.out (R.map (Value.int .i64)) (by rw [List.length_map, H1.out]; rcases L1.out with q | q <;> rw [q] <;> rfl) (fun h0 => ⟨rfl, nums_src (K := 0) HR.out ((HA0.out _).trans (HB2.out.mono (by omega))) h0⟩) (by rw [List.length_map, H1.out, zer_len]; have := L1.out; omega) (by intro v hv; simp at hv; obtain ⟨x, _, rfl⟩ := hv; rfl) (w.heap.size + 1) (w.alloc (.cells #[.slice none 0 0, .slice none 0 0] 27)) HB2.out (Nat.le_refl _) ?_; intro w3 hrow3 hb3; have HB3 := hide hb3; have HR3 : Hid (RowI w3 (w.heap.size + 1) (w.heap.size + 1) (padR R)) := RowI.of HPl.out (Nat.le_refl _) (by rw [← pad_splice (by rw [H1.out]; exact L1.out)]; exact hrow3.out); clear hrow3 hb3 HRw HB2))
  go_loopw [6] (fun i wr => ∃ (k : Nat) (R' : List Int), k ≤ n ∧ i = .int .i64 k ∧ Hid (RowI wr (w.heap.size + 1) (w.heap.size + 1) R') ∧ Hid (Laid (padR R) (· ∈ E.take k) R') ∧ Hid (Below (w.heap.size + 1) (w.alloc (.cells #[.slice none 0 0, .slice none 0 0] 27)) wr)) (fun i wr => n - (intOf i).toNat)
  case atStart => exact ⟨0, padR R, Nat.zero_le _, rfl, HR3, Laid.start _ (fun x hx => by simp at hx), HB3⟩
  case round =>
    clear HR3 HB3
    obtain ⟨k, R', hk, rfl, HO, HL, HBl⟩ := hrel
    have HTr := hide ((HA0.out (.cells #[.slice none 0 0, .slice none 0 0] 27)).trans (HBl.out.mono (by omega)))
    by_cases hkn : k < n
    · obtain ⟨b, off, e, hcell⟩ := HE.out (by have := H2.out; omega)
      obtain ⟨y, hy⟩ : ∃ y, E[k]? = some y := ⟨E[k]'(by have := H2.out; omega), List.getElem?_eq_getElem _⟩
      subst e
      have hc0 := cell_past HTr.out (hcell k y hy)
      have HY := hide hy
      have HZ := hide (U1.out y (List.mem_of_getElem? hy))
      clear hcell hy
      go_wp2_with (go_at_call 60; refine (c_s_Lay _ HZ.out HO.out).mono ?_; rintro e w4 ⟨⟨r4, rfl⟩, hR4, hb4⟩; have HR4 := hide hR4; have HB4 := hide (HBl.out.trans hb4); clear hR4 hb4)
      go_roundw
      case rel => exact ⟨k + 1, _, by omega, by go_num, HR4, HL.out.step (mem_take_step HY.out), HB4⟩
      case measure => simp [intOf]; omega
    · have HF : Hid (Laid (padR R) (· ∈ E) R') := by
        have := HL.out
        rw [List.take_of_length_le (by have := H2.out; omega)] at this; exact this
      have R2 := (HBl.out.block _ (by omega)).trans HN0.out
      have q0 : wr.cell? ⟨w.heap.size, 0, none⟩ = some (.slice none 0 0) := by rw [cell_of_row _ _ 0 _ _ (0, 0) R2]; rfl
      have q1 : wr.cell? ⟨w.heap.size, 1, none⟩ = some (.slice none 0 0) := by rw [cell_of_row _ _ 1 _ _ (0, 0) R2]; rfl
      have f0 := frozen_of_row wr w.heap.size 0 _ _ R2
      have f1 := frozen_of_row wr w.heap.size 1 _ _ R2
      clear R2
      go_wp2
      refine bodyPost_ret (v := .agg #[.slice none 0 0, .slice (some ⟨w.heap.size + 1, 0, none⟩) 64 64]) (by simp [results, Try.results48, go_sem, q0, q1]) rfl ⟨_, R', rfl, HF.out, ?_, ?_⟩
      · refine RowI.le (B := w.heap.size + 1) ?_ (by omega)
        refine ⟨HO.out.1, ?_⟩
        repeat (refine ownsRow_setCell_below ?_ (by simp) _)
        exact HO.out.2
      · exact (HTr.out.setCell (by simp) _).setCell (by simp) _
end Go.Proofs.Ytljhjcmodaaaoaa
