/-
  SampleRight, of the program and of its model.
-/
import Derived.Test.YtiafgcppidmoiaaDoorSmpI
namespace Go.Proofs.YtiafgcppidmoiaaDoor
set_option linter.unusedVariables false
set_option linter.unusedSimpArgs false
open Go.ChangeShapes Go.WideShapes Go.ChangeAt Go.RowKit Go.PlainAid
set_option maxRecDepth 10000

noncomputable def smpB (k : Int) (se : ByteArray) (v : Int) (wd : ByteArray) (wt : Int) (tm : Bool) (ti : Int) : Bool := kindB k && serRB se && whatB k v wd && weightB k wt && timeB tm ti
theorem cell7 {w : World} {g : Nat} {c0 c1 c2 c3 c4 c5 c6 : Value} {T : TypeId} {fz : Nat × Nat} (h : w.heap[g]? = some (.cells #[c0, c1, c2, c3, c4, c5, c6] T fz)) :
    w.cell? ⟨g, 0, none⟩ = some c0 ∧ w.cell? ⟨g, 1, none⟩ = some c1 ∧ w.cell? ⟨g, 2, none⟩ = some c2 ∧ w.cell? ⟨g, 3, none⟩ = some c3 ∧ w.cell? ⟨g, 4, none⟩ = some c4 ∧ w.cell? ⟨g, 5, none⟩ = some c5 ∧ w.cell? ⟨g, 6, none⟩ = some c6 :=
  ⟨by rw [cell_of_row w g 0 _ _ _ h]; rfl, by rw [cell_of_row w g 1 _ _ _ h]; rfl, by rw [cell_of_row w g 2 _ _ _ h]; rfl, by rw [cell_of_row w g 3 _ _ _ h]; rfl, by rw [cell_of_row w g 4 _ _ _ h]; rfl, by rw [cell_of_row w g 5 _ _ _ h]; rfl, by rw [cell_of_row w g 6 _ _ _ h]; rfl⟩
theorem row_past {w w' : World} {g : Nat} {o : Obj} (h : w.heap[g]? = some o) (hb : Below w.heap.size w w') : w'.heap[g]? = some o := by
  rw [hb.block _ (Array.getElem?_eq_some_iff.1 h).1]; exact h
/-- A box that holds a sample, behind a call's beginning. -/
structure SBox (w0 w : World) (g : Nat) (k : Int) (se : ByteArray) (v : Int) (wd : ByteArray) (wt : Int) (tm : Bool) (ti : Int) (T : TypeId) : Prop where
  row : w.heap[g]? = some (.cells #[.int .i64 k, .string se, .int .i64 v, .string wd, .int .u64 wt, .bool tm, .int .i64 ti] T (0, 0))
  bel : Below w0.heap.size w0 w
section
variable {w0 w : World} {g : Nat} {k : Int} {se : ByteArray} {v : Int} {wd : ByteArray} {wt : Int} {tm : Bool} {ti : Int} {T : TypeId}
theorem SBox.made (w : World) : SBox w (w.alloc (.cells #[.int .i64 k, .string se, .int .i64 v, .string wd, .int .u64 wt, .bool tm, .int .i64 ti] T)) w.heap.size k se v wd wt tm ti T :=
  ⟨heap_alloc_new w _, (Below.refl _ _).alloc (Nat.le_refl _) _⟩
theorem SBox.past (h : SBox w0 w g k se v wd wt tm ti T) {w' : World} (hb : Below w.heap.size w w') : SBox w0 w' g k se v wd wt tm ti T := ⟨row_past h.row hb, h.bel.trans (hb.mono h.bel.size)⟩
end

set_option maxHeartbeats 2000000 in
theorem c_i_SampleRight {w : World} (k : Int) (se : ByteArray) (v : Int) (wd : ByteArray) (wt : Int) (tm : Bool) (ti : Int) (hm : MX w) (hse : se.size ≤ maxLen) (hwd : wd.size ≤ maxLen) :
    Calls Tryd.prog 11 #[smpV k se v wd wt tm ti] w fun e w' => e = .returned (.bool (smpB k se v wd wt tm ti)) ∧ Below w.heap.size w w' := by
  have HM := hide (hm.past ((Below.refl _ _).alloc (Nat.le_refl _) (.cells #[.int .i64 k, .string se, .int .i64 v, .string wd, .int .u64 wt, .bool tm, .int .i64 ti] 28)))
  have HB := hide (SBox.made (k := k) (se := se) (v := v) (wd := wd) (wt := wt) (tm := tm) (ti := ti) (T := 28) w)
  clear hm
  have HU : Hid (∀ b, smpB k se v wd wt tm ti = b → Ending.returned (.bool b) = .returned (.bool (smpB k se v wd wt tm ti))) := (fun b h => by rw [h] : ∀ b, smpB k se v wd wt tm ti = b → Ending.returned (.bool b) = .returned (.bool (smpB k se v wd wt tm ti)))
  unfold smpV
  cases h1 : kindB k with
  | false =>
    have HE : Hid (smpB k se v wd wt tm ti = false) := (by simp [smpB, h1] : smpB k se v wd wt tm ti = false)
    go_enter Tryd.func11, Tryd.ntmps11
    go_wp2_with (go_at_call 22; refine (c_kindRight _ _).mono ?_; rintro e w1 ⟨rfl, hw1⟩; obtain rfl := hw1; rw [h1])
    go_ret
    exact ⟨by rw [HE.out]; rfl, HB.out.bel⟩
  | true =>
    go_enter Tryd.func11, Tryd.ntmps11
    go_wp2_with fail
    refine (c_kindRight _ _).mono ?_
    rintro e w1 ⟨rfl, hw1⟩
    obtain rfl := hw1
    rw [h1]
    go_wp2_with fail
    refine (c_i_SeriesRight se HM.out hse).mono ?_
    rintro e w2 ⟨rfl, hb2⟩
    replace HB := hide (HB.out.past hb2)
    clear hb2 HM
    obtain ⟨c0, c1, c2, c3, c4, c5, c6⟩ := cell7 HB.out.row
    cases h2 : serRB se with
    | false =>
      have HE : Hid (smpB k se v wd wt tm ti = false) := (by simp [smpB, h2] : smpB k se v wd wt tm ti = false)
      go_wp2
      go_ret
      exact ⟨by rw [HE.out]; rfl, HB.out.bel⟩
    | true =>
      go_wp2_with fail
      clear c0 c1 c2 c3 c4 c5 c6
      refine (c_whatRight k se v wd wt tm ti hwd _).mono ?_
      rintro e w3 ⟨rfl, hb3⟩
      replace HB := hide (HB.out.past hb3)
      clear hb3
      obtain ⟨c0, c1, c2, c3, c4, c5, c6⟩ := cell7 HB.out.row
      cases h3 : whatB k v wd with
      | false =>
        have HE : Hid (smpB k se v wd wt tm ti = false) := (by simp [smpB, h3] : smpB k se v wd wt tm ti = false)
        go_wp2
        go_ret
        exact ⟨by rw [HE.out]; rfl, HB.out.bel⟩
      | true =>
        go_wp2_with fail
        clear c0 c1 c2 c3 c4 c5 c6
        refine (c_weightRight k se v wd wt tm ti _).mono ?_
        rintro e w4 ⟨rfl, hb4⟩
        replace HB := hide (HB.out.past hb4)
        clear hb4
        obtain ⟨c0, c1, c2, c3, c4, c5, c6⟩ := cell7 HB.out.row
        cases h4 : weightB k wt with
        | false =>
          have HE : Hid (smpB k se v wd wt tm ti = false) := (by simp [smpB, h4] : smpB k se v wd wt tm ti = false)
          go_wp2
          go_ret
          exact ⟨by rw [HE.out]; rfl, HB.out.bel⟩
        | true =>
          have HE : Hid (smpB k se v wd wt tm ti = timeB tm ti) := (by simp [smpB, h1, h2, h3, h4] : smpB k se v wd wt tm ti = timeB tm ti)
          go_wp2_with fail
          clear c0 c1 c2 c3 c4 c5 c6
          refine (c_timeRight k se v wd wt tm ti _).mono ?_
          rintro e w5 ⟨rfl, hb5⟩
          replace HB := hide (HB.out.past hb5)
          clear hb5
          cases h5 : timeB tm ti <;> (go_wp2; go_ret; exact ⟨by rw [HE.out, h5]; rfl, HB.out.bel⟩)
theorem c_l01Is (n lo hi : Int) (w : World) : Calls Tryd.prog 19 #[.int .i64 n, .int .i64 lo, .int .i64 hi] w fun e w' => e = .returned (.bool (decide (lo ≤ n) && decide (n ≤ hi))) ∧ w' = w := by
  by_cases h1 : lo ≤ n <;> by_cases h2 : n ≤ hi <;> (go_enter Tryd.func19, Tryd.ntmps19; go_wp2; go_ret; exact ⟨by simp [h1, h2], rfl⟩)
theorem c_s_l01ValueB (v : Int) (w : World) : Calls Tryd.prog 20 #[.int .i64 v] w fun e w' => e = .returned (.bool (valB v)) ∧ w' = w := by
  go_enter Tryd.func20, Tryd.ntmps20
  go_wp2_with (go_at_call 19; refine (c_l01Is _ _ _ _).mono ?_; rintro e w1 ⟨rfl, hw1⟩; obtain rfl := hw1)
  go_ret
  exact ⟨rfl, rfl⟩
theorem kind_cases {k : Int} (h : kindB k = true) : k = 1 ∨ k = 2 ∨ k = 3 ∨ k = 4 := by
  unfold kindB at h
  simp only [Bool.and_eq_true, decide_eq_true_eq] at h
  omega
theorem smp_what {k : Int} {se : ByteArray} {v : Int} {wd : ByteArray} {wt : Int} {tm : Bool} {ti : Int} (h : valB v = false) : smpB k se v wd wt tm ti = false := by
  have hw : whatB k v wd = false := by
    unfold whatB
    split
    · have : v ≠ 0 := fun e => by subst e; revert h; decide
      simp [this]
    · simp [h]
  simp [smpB, hw]
theorem smp_weight {k : Int} {se : ByteArray} {v : Int} {wd : ByteArray} {wt : Int} {tm : Bool} {ti : Int} (h : wt < 1 ∨ 1000000 < wt) : smpB k se v wd wt tm ti = false := by
  have hw : weightB k wt = false := by
    unfold weightB
    rw [decide_eq_false (show ¬ wt = 1 by omega)]
    rcases h with h | h
    · rw [decide_eq_false (show ¬ 0 < wt by omega)]; simp
    · rw [decide_eq_false (show ¬ wt ≤ 1000000 by omega)]; simp
  simp [smpB, hw]
theorem smp_time {k : Int} {se : ByteArray} {v : Int} {wd : ByteArray} {wt : Int} {tm : Bool} {ti : Int} (h : (decide (0 ≤ ti) && decide (ti ≤ 1000000000)) = false ∨ tm = false ∧ ti ≠ 0) : smpB k se v wd wt tm ti = false := by
  have hw : timeB tm ti = false := by
    unfold timeB
    rcases h with h | ⟨h1, h2⟩
    · split
      · exact h
      · exact decide_eq_false (fun e => by subst e; revert h; decide)
    · rw [h1]; simp [h2]
  simp [smpB, hw]
theorem smp_rest {k : Int} {se : ByteArray} {v : Int} {wd : ByteArray} {wt : Int} {tm : Bool} {ti : Int} (h1 : kindB k = true) (h2 : serRB se = true) (h3 : valB v = true) (h4 : 1 ≤ wt) (h5 : wt ≤ 1000000) (h6 : (decide (0 ≤ ti) && decide (ti ≤ 1000000000)) = true) (h7 : tm = true ∨ ti = 0) :
    smpB k se v wd wt tm ti = if k = 4 then decide (v = 0) && tagB wd && decide (wt = 1) else decide (wd.size = 0) && (decide (k ≠ 2) || decide (wt = 1)) := by
  have ht : timeB tm ti = true := by
    unfold timeB
    split
    · exact h6
    · rename_i hn
      rcases h7 with h | h
      · exact absurd h hn
      · exact decide_eq_true h
  unfold smpB
  rw [h1, h2, ht]
  have e0 : decide (0 < wt) = true := decide_eq_true (by omega)
  have e1 : decide (wt ≤ 1000000) = true := decide_eq_true h5
  rcases kind_cases h1 with rfl | rfl | rfl | rfl <;> simp [whatB, weightB, h3, e0, e1]

set_option maxHeartbeats 4000000 in
theorem c_s_SampleRight {w : World} (k : Int) (se : ByteArray) (v : Int) (wd : ByteArray) (wt : Int) (tm : Bool) (ti : Int) (hse : se.size ≤ maxLen) (hwd : wd.size ≤ maxLen) :
    Calls Tryd.prog 9 #[smpV k se v wd wt tm ti] w fun e w' => e = .returned (.bool (smpB k se v wd wt tm ti)) ∧ Below w.heap.size w w' := by
  have HB := hide (SBox.made (k := k) (se := se) (v := v) (wd := wd) (wt := wt) (tm := tm) (ti := ti) (T := 28) w)
  unfold smpV
  go_enter Tryd.func9, Tryd.ntmps9
  go_wp2_with fail
  refine (c_l01Is _ _ _ _).mono ?_
  rintro e w1 ⟨rfl, hw1⟩
  obtain rfl := hw1
  have e1 : (decide ((1 : Int) ≤ k) && decide (k ≤ 4)) = kindB k := rfl
  rw [e1]
  clear e1
  cases h1 : kindB k with
  | false =>
    have HE : Hid (smpB k se v wd wt tm ti = false) := (by simp [smpB, h1] : smpB k se v wd wt tm ti = false)
    go_wp2
    go_ret
    exact ⟨by rw [HE.out]; rfl, HB.out.bel⟩
  | true =>
    go_wp2_with fail
    refine (c_s_SeriesRight se hse).mono ?_
    rintro e w2 ⟨rfl, hb2⟩
    replace HB := hide (HB.out.past hb2)
    clear hb2
    obtain ⟨c0, c1, c2, c3, c4, c5, c6⟩ := cell7 HB.out.row
    cases h2 : serRB se with
    | false =>
      have HE : Hid (smpB k se v wd wt tm ti = false) := (by simp [smpB, h2] : smpB k se v wd wt tm ti = false)
      go_wp2
      go_ret
      exact ⟨by rw [HE.out]; rfl, HB.out.bel⟩
    | true =>
      go_wp2_with fail
      refine (c_s_l01ValueB _ _).mono ?_
      rintro e w3 ⟨rfl, hw3⟩
      obtain rfl := hw3
      cases h3 : valB v with
      | false =>
        have HE : Hid (smpB k se v wd wt tm ti = false) := smp_what h3
        go_wp2
        go_ret
        exact ⟨by rw [HE.out]; rfl, HB.out.bel⟩
      | true =>
        by_cases h4 : wt < 1
        · have HE : Hid (smpB k se v wd wt tm ti = false) := smp_weight (.inl h4)
          go_wp2
          go_ret
          exact ⟨by rw [HE.out]; rfl, HB.out.bel⟩
        by_cases h5 : 1000000 < wt
        · have HE : Hid (smpB k se v wd wt tm ti = false) := smp_weight (.inr h5)
          go_wp2
          go_ret
          exact ⟨by rw [HE.out]; rfl, HB.out.bel⟩
        go_wp2_with fail
        refine (c_l01Is _ _ _ _).mono ?_
        rintro e w4 ⟨rfl, hw4⟩
        obtain rfl := hw4
        cases h6 : (decide ((0 : Int) ≤ ti) && decide (ti ≤ 1000000000)) with
        | false =>
          have HE : Hid (smpB k se v wd wt tm ti = false) := smp_time (.inl h6)
          clear h6
          go_wp2
          go_ret
          exact ⟨by rw [HE.out]; rfl, HB.out.bel⟩
        | true =>
          have H6 := hide h6
          clear h6
          have hend : (tm = true ∨ ti = 0) ∨ (tm = false ∧ ti ≠ 0) := by
            cases tm with
            | true => exact .inl (.inl rfl)
            | false => by_cases h : ti = 0
                       · exact .inl (.inr h)
                       · exact .inr ⟨rfl, h⟩
          rcases hend with hok | ⟨rfl, hti⟩
          · have hk1 : 1 ≤ wt := by omega
            have hk2 : wt ≤ 1000000 := by omega
            by_cases hk4 : k = 4
            · have HE : Hid (smpB k se v wd wt tm ti = (decide (v = 0) && tagB wd && decide (wt = 1))) := (by rw [smp_rest h1 h2 h3 hk1 hk2 H6.out hok, if_pos hk4] : smpB k se v wd wt tm ti = (decide (v = 0) && tagB wd && decide (wt = 1)))
              have hb4 : (k == 4) = true := by simpa using hk4
              by_cases hv0 : v = 0
              · have hbv : (v == 0) = true := by simpa using hv0
                cases htg : tagB wd with
                | false =>
                  have HF : Hid (smpB k se v wd wt tm ti = false) := (by rw [HE.out, htg]; simp : smpB k se v wd wt tm ti = false)
                  have hok2 : (tm = true ∧ True) ∨ (tm = false ∧ ti = 0) := by cases tm <;> simp_all
                  rcases hok2 with ⟨rfl, _⟩ | ⟨rfl, rfl⟩
                  all_goals
                    go_wp2_with (go_at_call 21; refine (c_s_TagRight _ _ hwd).mono ?_; rintro e w9 ⟨rfl, hw9⟩; obtain rfl := hw9; rw [htg])
                    go_ret
                    exact ⟨by rw [HF.out]; rfl, HB.out.bel⟩
                | true =>
                  have HF : Hid (smpB k se v wd wt tm ti = decide (wt = 1)) := (by rw [HE.out, htg, decide_eq_true hv0]; simp : smpB k se v wd wt tm ti = decide (wt = 1))
                  have hok2 : (tm = true ∧ True) ∨ (tm = false ∧ ti = 0) := by cases tm <;> simp_all
                  by_cases hw1 : wt = 1
                  · have HF2 : Hid (smpB k se v wd wt tm ti = true) := (by rw [HF.out]; exact decide_eq_true hw1 : smpB k se v wd wt tm ti = true)
                    have hbw : (wt == 1) = true := by simpa using hw1
                    rcases hok2 with ⟨rfl, _⟩ | ⟨rfl, rfl⟩
                    all_goals
                      go_wp2_with (go_at_call 21; refine (c_s_TagRight _ _ hwd).mono ?_; rintro e w9 ⟨rfl, hw9⟩; obtain rfl := hw9; rw [htg])
                      go_ret
                      exact ⟨by rw [HF2.out]; first | rfl | simp [hw1], HB.out.bel⟩
                  · have HF2 : Hid (smpB k se v wd wt tm ti = false) := (by rw [HF.out]; exact decide_eq_false hw1 : smpB k se v wd wt tm ti = false)
                    have hbw : (wt == 1) = false := by simpa using hw1
                    rcases hok2 with ⟨rfl, _⟩ | ⟨rfl, rfl⟩
                    all_goals
                      go_wp2_with (go_at_call 21; refine (c_s_TagRight _ _ hwd).mono ?_; rintro e w9 ⟨rfl, hw9⟩; obtain rfl := hw9; rw [htg])
                      go_ret
                      exact ⟨by rw [HF2.out]; first | rfl | simp [hw1], HB.out.bel⟩
              · have hbv : (v == 0) = false := by simpa using hv0
                have HF : Hid (smpB k se v wd wt tm ti = false) := (by rw [HE.out, decide_eq_false hv0]; rfl : smpB k se v wd wt tm ti = false)
                have hok2 : (tm = true ∧ True) ∨ (tm = false ∧ ti = 0) := by cases tm <;> simp_all
                rcases hok2 with ⟨rfl, _⟩ | ⟨rfl, rfl⟩
                all_goals
                  go_wp2
                  go_ret
                  exact ⟨by rw [HF.out]; rfl, HB.out.bel⟩
            · have HE : Hid (smpB k se v wd wt tm ti = (decide (wd.size = 0) && (decide (k ≠ 2) || decide (wt = 1)))) := (by rw [smp_rest h1 h2 h3 hk1 hk2 H6.out hok, if_neg hk4] : smpB k se v wd wt tm ti = (decide (wd.size = 0) && (decide (k ≠ 2) || decide (wt = 1))))
              have hb4 : (k == 4) = false := by simpa using hk4
              have hok2 : (tm = true ∧ True) ∨ (tm = false ∧ ti = 0) := by cases tm <;> simp_all
              by_cases h0 : wd.size = 0
              · have he := isE0 h0
                by_cases hk2' : k = 2
                · have hb2 : (k != 2) = false := by simpa using hk2'
                  by_cases hw1 : wt = 1
                  · have hbw : (wt == 1) = true := by simpa using hw1
                    have HF : Hid (smpB k se v wd wt tm ti = true) := (by rw [HE.out]; simp [h0, hw1] : smpB k se v wd wt tm ti = true)
                    rcases hok2 with ⟨rfl, _⟩ | ⟨rfl, rfl⟩
                    all_goals
                      go_wp2
                      go_ret
                      exact ⟨by rw [HF.out]; first | rfl | simp [hw1, he], HB.out.bel⟩
                  · have hbw : (wt == 1) = false := by simpa using hw1
                    have HF : Hid (smpB k se v wd wt tm ti = false) := (by rw [HE.out]; simp [h0, hw1, hk2'] : smpB k se v wd wt tm ti = false)
                    rcases hok2 with ⟨rfl, _⟩ | ⟨rfl, rfl⟩
                    all_goals
                      go_wp2
                      go_ret
                      exact ⟨by rw [HF.out]; first | rfl | simp [hw1, he], HB.out.bel⟩
                · have hb2 : (k != 2) = true := by simpa using hk2'
                  have HF : Hid (smpB k se v wd wt tm ti = true) := (by rw [HE.out]; simp [h0, hk2'] : smpB k se v wd wt tm ti = true)
                  rcases hok2 with ⟨rfl, _⟩ | ⟨rfl, rfl⟩
                  all_goals
                    go_wp2
                    go_ret
                    exact ⟨by rw [HF.out]; first | rfl | simp [he], HB.out.bel⟩
              · have he := isE h0
                have HF : Hid (smpB k se v wd wt tm ti = false) := (by rw [HE.out]; simp [h0] : smpB k se v wd wt tm ti = false)
                rcases hok2 with ⟨rfl, _⟩ | ⟨rfl, rfl⟩
                all_goals
                  go_wp2
                  go_ret
                  exact ⟨by rw [HF.out]; first | rfl | simp [he], HB.out.bel⟩
          · have hbt : (ti == 0) = false := by simpa using hti
            have hbt2 : (ti != 0) = true := by simpa using hti
            have HE : Hid (smpB k se v wd wt false ti = false) := smp_time (.inr ⟨rfl, hti⟩)
            go_wp2
            go_ret
            exact ⟨by rw [HE.out]; rfl, HB.out.bel⟩
end Go.Proofs.YtiafgcppidmoiaaDoor
