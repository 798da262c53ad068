/-
  l06What and LineRead of the model.
-/
import Derived.Test.YtljngkjhhkccgaaGreatDoorLnS
namespace Go.Proofs.YtljngkjhhkccgaaGreatDoor
set_option linter.unusedVariables false
set_option linter.unusedSimpArgs false
open Go.ChangeShapes Go.WideShapes Go.ChangeAt Go.RowKit Go.PlainAid
set_option maxRecDepth 10000

/-- A sample in its box. -/
def SmB (w : World) (b : Nat) (k : Int) (se : ByteArray) (va : Int) (wd : ByteArray) (wt : Int) (td : Bool) (ti : Int) : Prop := w.heap[b]? = some (.cells #[.int .i64 k, .string se, .int .i64 va, .string wd, .int .u64 wt, .bool td, .int .i64 ti] 24 (0, 0))
set_option maxHeartbeats 1000000 in
theorem c_l06What {w : World} (b : Nat) {k : Int} {se : ByteArray} {wt : Int} {td : Bool} {ti : Int} (t : ByteArray) (hz : t.size ≤ 100000) (hB : SmB w b k se 0 ByteArray.empty wt td ti) :
    Calls Tryz.prog 13 #[.pointer (some ⟨b, 0, none⟩), .string t] w fun e w' => ∃ c, e = .returned (.int .i64 c) ∧ (c = 0 ↔ whB k t = true) ∧ (whB k t = true → SmB w' b k se (whV k t) (whW k t) wt td ti) ∧ (∀ x, x ≠ b → x < w.heap.size → w'.heap[x]? = w.heap[x]?) ∧ Below b w w' := by
  have hm : t.size ≤ maxLen := by unfold maxLen; omega
  have hb : b < w.heap.size := by
    rcases Nat.lt_or_ge b w.heap.size with h' | h'
    · exact h'
    · unfold SmB at hB; rw [Array.getElem?_eq_none h'] at hB; cases hB
  have HB := hide hB
  unfold SmB at hB
  obtain ⟨q0, q1, q2, q3, q4, q5, q6⟩ := cell7 hB
  obtain ⟨g0, g1, g2, g3, g4, g5, g6⟩ := froz7 hB
  by_cases h : k = 4
  · have H1 : Hid (whV k t = 0 ∧ whW k t = t ∧ whB k t = tagB t) := (by unfold whV whW whB; rw [if_pos h, if_pos h, if_pos h]; exact ⟨rfl, rfl, rfl⟩ : whV k t = 0 ∧ whW k t = t ∧ whB k t = tagB t)
    have H2 := hide (heap_setCell_same w b 3 _ _ (.string t) hB)
    clear hB
    cases ht : tagB t with
    | false =>
      go_enter Tryz.func13, Tryz.ntmps13
      go_wp2_with (go_at_call 21; refine (c_s_TagRight _ _ hm).mono ?_; rw [ht]; rintro e w1 ⟨rfl, hw⟩; obtain rfl := hw.symm)
      go_ret
      refine ⟨3, rfl, ?_, ?_, (fun x hx _ => Below.heap_setCell w ⟨b, 3, none⟩ _ x hx), (Below.refl b w).setCell (p := ⟨b, 3, none⟩) (Nat.le_refl _) _⟩
      · rw [H1.out.2.2, ht]; simp
      · rw [H1.out.2.2, ht]; simp
    | true =>
      go_enter Tryz.func13, Tryz.ntmps13
      go_wp2_with (go_at_call 21; refine (c_s_TagRight _ _ hm).mono ?_; rw [ht]; rintro e w1 ⟨rfl, hw⟩; obtain rfl := hw.symm)
      go_ret
      refine ⟨0, rfl, ?_, ?_, (fun x hx _ => Below.heap_setCell w ⟨b, 3, none⟩ _ x hx), (Below.refl b w).setCell (p := ⟨b, 3, none⟩) (Nat.le_refl _) _⟩
      · rw [H1.out.2.2, ht]; simp
      · intro _; rw [H1.out.1, H1.out.2.1]; exact H2.out
  · have H1 : Hid (whV k t = rvV t ∧ whW k t = ByteArray.empty ∧ whB k t = decide (rvC t = 0)) := (by unfold whV whW whB; rw [if_neg h, if_neg h, if_neg h]; exact ⟨rfl, rfl, rfl⟩ : whV k t = rvV t ∧ whW k t = ByteArray.empty ∧ whB k t = decide (rvC t = 0))
    clear hB
    go_enter Tryz.func13, Tryz.ntmps13
    go_wp2_with fail
    refine (c_s_ValueRead t hm w).mono ?_
    rintro e w1 ⟨rfl, hb1⟩
    have hB1 : SmB w1 b k se 0 ByteArray.empty wt td ti := by unfold SmB; rw [hb1.block _ hb]; exact HB.out
    have HB1 := hide hb1
    clear q0 q1 q2 q3 q4 q5 q6 g0 g1 g2 g3 g4 g5 g6 hb1
    unfold SmB at hB1
    obtain ⟨q0, q1, q2, q3, q4, q5, q6⟩ := cell7 hB1
    obtain ⟨g0, g1, g2, g3, g4, g5, g6⟩ := froz7 hB1
    have H2 := hide (heap_setCell_same w1 b 2 _ _ (.int .i64 (rvV t)) hB1)
    have hblt : b < w1.heap.size := Nat.lt_of_lt_of_le hb HB1.out.size
    have hne1 : ¬ b = w1.heap.size := by omega
    have hne2 : ¬ w1.heap.size = b := by omega
    have hfa : ∀ o, (w1.alloc o).frozen? ⟨b, 2, none⟩ = false := fun o => frozen_of_row _ b 2 _ _ (by rw [Below.heap_alloc _ _ _ hblt]; exact hB1)
    have hld : ∀ o x, ((w1.alloc o).setCell ⟨b, 2, none⟩ x).cell? ⟨w1.heap.size, 1, none⟩ = (w1.alloc o).cell? ⟨w1.heap.size, 1, none⟩ := fun o x => World.cell?_setCell_far _ _ _ _ hne1
    clear hB1
    go_wp2
    go_ret
    have hsz := ((Below.refl b w1).setCell (p := ⟨b, 2, none⟩) (Nat.le_refl _) (.int .i64 (rvV t))).size
    refine ⟨rvC t, rfl, ?_, fun _ => ?_, fun x hx hxl => ?_, ((HB1.out.mono (Nat.le_of_lt hb)).setCell (p := ⟨b, 2, none⟩) (Nat.le_refl _) _).alloc (Nat.le_trans (Nat.le_of_lt hblt) hsz) _⟩
    · rw [H1.out.2.2]; simp
    · unfold SmB
      rw [Below.heap_alloc _ _ _ (by omega), H1.out.1, H1.out.2.1]
      exact H2.out
    · rw [Below.heap_alloc _ _ _ (by have := HB1.out.size; omega), Below.heap_setCell _ _ _ _ (by show x ≠ b; exact hx), HB1.out.block _ hxl]
theorem serW_no1 {nm : ByteArray} {L : List ByteArray} (h : nameB nm = false) : serW nm L = ByteArray.empty := by unfold serW; rw [if_neg (by rw [h]; simp)]
theorem serW_no2 {nm : ByteArray} {L : List ByteArray} (h : ¬ L.all tagB = true) : serW nm L = ByteArray.empty := by unfold serW; rw [if_neg (fun k => h k.2)]
theorem serW_ok {nm : ByteArray} {L : List ByteArray} (h : nameB nm = true) (k : L.all tagB = true) : serW nm L = serF nm L := by unfold serW; rw [if_pos ⟨h, k⟩]
/-- What the model's tests tell. -/
theorem LnR.bad {t : ByteArray} (hf : fitB t = true) (h : ∀ nm wh kd ps r, LP t nm wh kd ps → more 0 pt0 ps = some r → serW nm r.tg = ByteArray.empty) : LnR t (illS 3) := Or.inr ⟨hf, Or.inr ⟨h, rfl⟩⟩
theorem LnR.good {t nm wh kd : ByteArray} {ps : List ByteArray} {r : Pt} (hf : fitB t = true) (h : LP t nm wh kd ps) (hm : moreS 0 pt0 ps = some r) (hn : nameB nm = true) (hs : serF nm r.tg ≠ ByteArray.empty) : LnR t (ansS nm wh kd r) ∧ serW nm r.tg = serF nm r.tg := by
  rw [moreS_eq ps 0 pt0 rfl] at hm
  cases hq : more 0 pt0 ps with
  | none => rw [hq] at hm; cases hm
  | some r1 =>
    rw [hq] at hm
    have hf1 : finT r1 = some r := hm
    unfold finT at hf1
    split at hf1
    · cases hf1
      rename_i ht
      have e := serW_ok hn ht
      exact ⟨Or.inr ⟨hf, Or.inl ⟨nm, wh, kd, ps, r, h, hq, by rw [e]; exact hs, rfl⟩⟩, e⟩
    · cases hf1
theorem moreS_all {ps : List ByteArray} {r : Pt} (hm : moreS 0 pt0 ps = some r) : more 0 pt0 ps = some r ∧ r.tg.all tagB = true := by
  rw [moreS_eq ps 0 pt0 rfl] at hm
  cases hq : more 0 pt0 ps with
  | none => rw [hq] at hm; cases hm
  | some r1 =>
    rw [hq] at hm
    have hf1 : finT r1 = some r := hm
    unfold finT at hf1
    split at hf1
    · cases hf1; rename_i ht; exact ⟨rfl, ht⟩
    · cases hf1
theorem LnR.bad1 {t nm wh kd : ByteArray} {ps : List ByteArray} (hf : fitB t = true) (h : LP t nm wh kd ps) (hn : nameB nm = false) : LnR t (illS 3) := LnR.bad hf (fun nm' wh' kd' ps' r' k _ => by
  obtain ⟨rfl, _, _, _⟩ := h.one k; exact serW_no1 hn)
theorem LnR.bad2 {t nm wh kd : ByteArray} {ps : List ByteArray} (hf : fitB t = true) (h : LP t nm wh kd ps) (hm : moreS 0 pt0 ps = none) : LnR t (illS 3) := LnR.bad hf (fun nm' wh' kd' ps' r' k1 k2 => by
  obtain ⟨rfl, rfl, rfl, rfl⟩ := h.one k1
  refine serW_no2 (fun hall => ?_)
  rw [moreS_eq ps 0 pt0 rfl, k2] at hm
  have hf1 : finT r' = none := hm
  unfold finT at hf1
  rw [if_pos hall] at hf1; cases hf1)
theorem LnR.bad3 {t nm wh kd : ByteArray} {ps : List ByteArray} {r : Pt} (hf : fitB t = true) (h : LP t nm wh kd ps) (hm : moreS 0 pt0 ps = some r) (hn : nameB nm = true) (hs : serF nm r.tg = ByteArray.empty) : LnR t (illS 3) := LnR.bad hf (fun nm' wh' kd' ps' r' k1 k2 => by
  obtain ⟨rfl, rfl, rfl, rfl⟩ := h.one k1
  obtain ⟨m1, m2⟩ := moreS_all hm
  rw [m1] at k2; cases k2
  rw [serW_ok hn m2]; exact hs)
end Go.Proofs.YtljngkjhhkccgaaGreatDoor
