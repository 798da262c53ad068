/-
  The model's sketch of how many: l04Merge.
-/
import Derived.Test.YtljhjcmodaaaoaaHmF
namespace Go.Proofs.Ytljhjcmodaaaoaa
set_option linter.unusedVariables false
set_option linter.unusedSimpArgs false
open Go.ChangeShapes Go.WideShapes Go.ChangeAt Go.RowKit Go.PlainAid Go.Maps
set_option maxRecDepth 10000

theorem all_rise {E1 : List Int} (h : upN E1 = true) (E2 : List Int) : allU E1 E2 = uniU E1 E2 := by
  unfold allU
  rw [uni_rise (l := []) (by simpa using upN_pair h)]; rfl
theorem mem_allU (x : Int) (E1 E2 : List Int) : x ∈ allU E1 E2 ↔ x ∈ E1 ∨ x ∈ E2 := by
  unfold allU; rw [mem_uniU, mem_uniU]; simp
theorem pad_full {R : List Int} (h : R.length = 64) : padR R = R := by unfold padR; rw [if_neg (by omega)]
theorem mrg_reg {E1 R1 E2 R2 A B : List Int} {m2 : Nat} (hm : R2.length = m2) (hno : ¬ (R1.length = 0 ∧ R2.length = 0)) (h64 : (padR R1).length = 64) (hA : Laid (padR R1) (· ∈ E1) A) (hB : Laid (padR A) (· ∈ E2) B) : Mg E1 R1 E2 R2 [] (mxL B R2 m2) := by
  refine .inr ⟨fun k => hno ⟨k.1, k.2.1⟩, rfl, ?_⟩
  rw [pad_full (hA.1.trans h64)] at hB
  rw [hm]
  exact (hA.trans hB (fun x => mem_allU x E1 E2)).mx m2
theorem mrg_many {E1 E2 A : List Int} (hu : upN E1 = true) (h40 : ¬ (uniU E1 E2).length ≤ 40) (h : Laid (padR []) (· ∈ uniU E1 E2) A) : Mg E1 [] E2 [] [] A := by
  refine .inr ⟨fun k => h40 (by rw [← all_rise hu]; exact k.2.2), rfl, ?_⟩
  rw [List.length_nil, mxL_zero, all_rise hu]; exact h
theorem mrg_few {E1 E2 : List Int} (hu : upN E1 = true) (h40 : (uniU E1 E2).length ≤ 40) : Mg E1 [] E2 [] (uniU E1 E2) [] :=
  .inl ⟨rfl, rfl, by rw [all_rise hu]; exact h40, (all_rise hu E2).symm, rfl⟩
/-- What a bringing together hands back. -/
def MgOut (w : World) (E1 R1 E2 R2 : List Int) (e : Ending) (w' : World) : Prop := ∃ v E R, e = .returned v ∧ Mg E1 R1 E2 R2 E R ∧ HlOut w' w.heap.size v E R ∧ Below w.heap.size w w'
theorem MgOut.mk {w w' : World} {E1 R1 E2 R2 E R : List Int} {v : Value} (h : Mg E1 R1 E2 R2 E R) (o : HlOut w' w.heap.size v E R) (b : Below w.heap.size w w') : MgOut w E1 R1 E2 R2 (.returned v) w' := ⟨v, E, R, rfl, h, o, b⟩
set_option maxHeartbeats 4000000 in
theorem c_s_MergeE {w : World} {ea ra eb rb : Option Addr} {n1 c1 d1 n2 c2 d2 : Nat} {E1 E2 : List Int} (h1 : E1.length = n1) (h3 : E2.length = n2) (l1 : n1 ≤ 40) (l3 : n2 ≤ 40) (hup : upN E1 = true) (c1e : ea = none → c1 = 0)
    (hE1 : NumsAt .u64 w ea E1) (hE2 : NumsAt .u64 w eb E2) (u1 : ∀ x ∈ E1, U64 x) (u2 : ∀ x ∈ E2, U64 x) :
    Calls Try.prog 25 #[.agg #[.slice ea n1 c1, .slice ra 0 d1], .agg #[.slice eb n2 c2, .slice rb 0 d2]] w fun e w' => MgOut w E1 [] E2 [] e w' := by
  obtain ⟨i0, hi, hz0, hz1, hz2⟩ := info_parts infoUint64S
  have HE1 := hide hE1
  have HE2 := hide hE2
  have H1 := hide h1
  have H3 := hide h3
  have U1 := hide u1
  have U2 := hide u2
  have C1 := hide c1e
  have HUp := hide hup
  have HBa : Hid (∀ o1 o2 o3, Below w.heap.size w (((w.alloc o1).alloc o2).alloc o3)) := fun o1 o2 o3 => (((Below.refl _ _).alloc (Nat.le_refl _) _).alloc (by simp) _).alloc (by simp; omega) _
  have HM : Hid (∀ o1 o2 o3, ((((w.alloc o1).alloc o2).alloc o3).alloc (.cells #[] 34)).ownsRow (w.heap.size + 1 + 1 + 1) 34 1 (.slice (some ⟨w.heap.size + 1 + 1 + 1, 0, none⟩) 0 0) 0 []) := fun o1 o2 o3 => by
    have := World.ownsRow_made (base := w.heap.size + 1 + 1 + 1) (e := 34) (size := 1) (((w.alloc o1).alloc o2).alloc o3) #[] 0 (by simp) (Nat.zero_le _) rfl
    simpa using this
  have HC : Hid (∀ W, Below (w.heap.size + 1 + 1 + 1) (((w.alloc (.cells #[.slice ea n1 c1, .slice ra 0 d1] 27)).alloc (.cells #[.slice eb n2 c2, .slice rb 0 d2] 27)).alloc (.cells #[.slice none 0 0, .slice none 0 0] 27)) W → HlCell W w.heap.size (.slice ea n1 c1) (.slice ra 0 d1) ∧ HlCell W (w.heap.size + 1) (.slice eb n2 c2) (.slice rb 0 d2) ∧ W.heap[w.heap.size + 1 + 1]? = some (.cells #[.slice none 0 0, .slice none 0 0] 27 (0, 0)) ∧ Below w.heap.size w W) := fun W h => by
    obtain ⟨q1, q2, q3⟩ := mid_cell w _ _ _ _ _ _ _ _ _ W (by simpa using h)
    exact ⟨q1, q2, q3, (HBa.out _ _ _).trans (h.mono (by omega))⟩
  clear hE1 hE2 h1 h3 u1 u2 c1e hup
  go_enter Try.func25, Try.ntmps25
  go_wp2_with (at_builtin; refine wpList_append_nilH _ rfl (.tmp 19) (.tmp 21) 22 rfl (w.heap.size + 1 + 1 + 1) 34 i0 (.int .u64 0) 1 8 Try.underlying22 hi hz0 hz1 hz2 rfl (by decide) _ _ _ rfl (HM.out _ _ _) ea n1 c1 (E1.map (Value.int .u64)) rfl (by simp [H1.out]) (fun e => ⟨nil_len HE1.out H1.out e, C1.out e⟩) (nums_nw (nums_past HE1.out ((HBa.out _ _ _).alloc (by simp; omega) _))) (one_map _ _) (by unfold maxLen; omega) (by omega) (by simp) ?_; intro v1 w1 hown1 hgrow1 hnil1; simp only [Nat.zero_add, List.nil_append] at hown1; obtain ⟨ao1, k1, rfl⟩ := own_any hown1; have O1 := hide hown1; have hb1 : Below (w.heap.size + 1 + 1 + 1) (((w.alloc (.cells #[.slice ea n1 c1, .slice ra 0 d1] 27)).alloc (.cells #[.slice eb n2 c2, .slice rb 0 d2] 27)).alloc (.cells #[.slice none 0 0, .slice none 0 0] 27)) w1 := ((Below.refl _ _).alloc (by simp) _).grown hgrow1 (by simp) (fun j hj => by cases hj; exact Nat.le_refl _); have B1 := hide hb1; clear hown1 hgrow1 hnil1 hb1)
  go_loopw [5, 6] (fun lv i wr => ∃ (k : Nat) (ao : Option Addr) (n c : Nat), k ≤ n2 ∧ i = .int .i64 k ∧ lv = .slice ao n c ∧ n ≤ 80 ∧ Hid ((uniU E1 (E2.take k)).length = n) ∧ Hid (wr.ownsRow (w.heap.size + 1 + 1 + 1) 34 1 (.slice ao n c) n ((uniU E1 (E2.take k)).map (Value.int .u64))) ∧ Hid (Below (w.heap.size + 1 + 1 + 1) (((w.alloc (.cells #[.slice ea n1 c1, .slice ra 0 d1] 27)).alloc (.cells #[.slice eb n2 c2, .slice rb 0 d2] 27)).alloc (.cells #[.slice none 0 0, .slice none 0 0] 27)) wr)) (fun lv i wr => n2 - (intOf i).toNat)
  case atStart => exact ⟨0, ao1, n1, k1, Nat.zero_le _, rfl, rfl, by omega, H1, O1, B1⟩
  case round =>
    clear O1 B1
    obtain ⟨k, ao, n, c, hk, rfl, rfl, hn80, HL, HO, HBl⟩ := hrel
    obtain ⟨⟨x0, x1⟩, ⟨y0, y1⟩, r1, t1⟩ := HC.out wr HBl.out
    have HT := hide t1
    have HRs := hide r1
    have hz : w.heap.size + 1 + 1 + 1 ≤ wr.heap.size := by have := HBl.out.size; simpa using this
    clear t1 r1
    by_cases hkn : k < n2
    · obtain ⟨b, off, e, hcell⟩ := HE2.out (by have := H3.out; omega)
      subst e
      obtain ⟨y, hy⟩ : ∃ y, E2[k]? = some y := ⟨E2[k]'(by have := H3.out; omega), List.getElem?_eq_getElem _⟩
      have hc0 := cell_past HT.out (hcell k y hy)
      have HS : Hid (uniU E1 (E2.take (k + 1)) = insU (uniU E1 (E2.take k)) y) := uni_take hy
      have HOw := hide (nums_own (L := uniU E1 (E2.take k)) (by rw [HL.out]; exact HO.out))
      have HLl : Hid ((uniU E1 (E2.take (k + 1))).length ≤ 80) := by
        have := len_uni (E2.take (k + 1)) E1
        have := H1.out
        have : (E2.take (k + 1)).length ≤ 40 := by rw [List.length_take]; omega
        show (uniU E1 (E2.take (k + 1))).length ≤ 80
        omega
      clear hcell hy
      go_wp2_with (go_at_call 47; refine (c_s_Exact y HL.out (by omega) HOw.out.2.2.2.1 HOw.out.2.2.2.2.1 HOw.out.2.1 HOw.out.2.2.2.2.2 HOw.out.1).mono ?_; rintro e w4 ⟨v4, rfl, o4, hb4⟩; rw [← HS.out] at o4; obtain ⟨a4, c4, rfl⟩ := own_any o4; have O4 := hide (own_le o4 hz); have B4 := hide (HBl.out.trans (hb4.mono hz)); clear o4 hb4)
      go_roundw
      case rel => exact ⟨k + 1, a4, _, c4, by omega, by go_num, rfl, HLl.out, hide rfl, O4, B4⟩
      case measure => simp [intOf]; omega
    · have eL : E2.take k = E2 := List.take_of_length_le (by have := H3.out; omega)
      rw [eL] at HL HO
      obtain rfl : k = n2 := by omega
      clear eL hkn hk
      have q0 : wr.cell? ⟨w.heap.size + 1 + 1, 0, none⟩ = some (.slice none 0 0) := by rw [cell_of_row _ _ 0 _ _ (0, 0) HRs.out]; rfl
      have q1' : wr.cell? ⟨w.heap.size + 1 + 1, 1, none⟩ = some (.slice none 0 0) := by rw [cell_of_row _ _ 1 _ _ (0, 0) HRs.out]; rfl
      have f0 := frozen_of_row wr (w.heap.size + 1 + 1) 0 _ _ HRs.out
      have f1 := frozen_of_row wr (w.heap.size + 1 + 1) 1 _ _ HRs.out
      by_cases h40 : n ≤ 40
      · have h40i : ¬ (40 : Int) < (n : Int) := by omega
        have HMg : Hid (Mg E1 [] E2 [] (uniU E1 E2) []) := mrg_few HUp.out (by rw [HL.out]; exact h40)
        go_wp2
        refine bodyPost_ret (v := .agg #[.slice ao n c, .slice none 0 0]) (by simp [results, Try.results25, go_sem, q0, q1']) rfl (MgOut.mk HMg.out ⟨_, _, rfl, ?_, World.ownsRow_nil _ _ _ _⟩ ?_)
        · refine own_le (B := w.heap.size + 1 + 1 + 1) ?_ (by omega)
          repeat (refine ownsRow_setCell_below ?_ (by simp) _)
          rw [HL.out]; exact HO.out
        · exact (HT.out.setCell (by simp; omega) _).setCell (by simp; omega) _
      · have h40i : (40 : Int) < (n : Int) := by omega
        have HMs : Hid (∀ A, Laid (padR []) (· ∈ uniU E1 E2) A → Mg E1 [] E2 [] [] A) := fun A h => mrg_many HUp.out (by rw [HL.out]; exact h40) h
        have HUi : Hid (∀ y ∈ uniU E1 E2, U64 y) := fun y hy => by
          rcases (mem_uniU y E2 E1).1 hy with h | h
          · exact U1.out y h
          · exact U2.out y h
        have HNa := (nums_own (L := uniU E1 E2) (T := 34) (kd := .u64) (w := wr) (ao := ao) (n := n) (c := c) (B := w.heap.size + 1 + 1 + 1) (by rw [HL.out]; exact HO.out)).1
        have HNa := hide HNa
        clear q0 q1' f0 f1
        go_wp2_with fail
        refine (c_s_Dense (R := []) rfl HL.out (.inl rfl) (by omega) (fun h => by simp at h) HNa.out HUi.out).mono ?_
        rintro e w2 ⟨g, A, rfl, hLd, hRow, hb2⟩
        have r2 := (hb2.block (w.heap.size + 1 + 1) (by omega)).trans HRs.out
        have q0 : w2.cell? ⟨w.heap.size + 1 + 1, 0, none⟩ = some (.slice none 0 0) := by rw [cell_of_row _ _ 0 _ _ (0, 0) r2]; rfl
        have q1' : w2.cell? ⟨w.heap.size + 1 + 1, 1, none⟩ = some (.slice none 0 0) := by rw [cell_of_row _ _ 1 _ _ (0, 0) r2]; rfl
        have f0 := frozen_of_row w2 (w.heap.size + 1 + 1) 0 _ _ r2
        have f1 := frozen_of_row w2 (w.heap.size + 1 + 1) 1 _ _ r2
        have HMg := hide (HMs.out A hLd)
        have HT2 := hide (chain HT.out hb2)
        have HRow := hide hRow
        clear hLd hRow hb2 r2
        go_wp2
        refine bodyPost_ret (v := .agg #[.slice none 0 0, .slice (some ⟨g, 0, none⟩) 64 64]) (by simp [results, Try.results25, go_sem, q0, q1']) rfl (MgOut.mk HMg.out ⟨_, _, rfl, World.ownsRow_nil _ _ _ _, ?_⟩ ?_)
        · refine own_le (B := wr.heap.size) ?_ (by omega)
          repeat (refine ownsRow_setCell_below ?_ (by simp; omega) _)
          rw [HRow.out.1]; exact HRow.out.2
        · exact (HT2.out.setCell (by simp; omega) _).setCell (by simp; omega) _
end Go.Proofs.Ytljhjcmodaaaoaa
