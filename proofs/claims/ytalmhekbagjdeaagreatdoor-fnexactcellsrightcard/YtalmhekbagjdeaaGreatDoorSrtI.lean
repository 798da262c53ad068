/-
  The program's SeriesRight.
-/
import Derived.Test.YtalmhekbagjdeaaGreatDoorSrtN
namespace Go.Proofs.YtalmhekbagjdeaaGreatDoor
set_option linter.unusedVariables false
set_option linter.unusedSimpArgs false
open Go.ChangeShapes Go.WideShapes Go.ChangeAt Go.RowKit Go.PlainAid
set_option maxRecDepth 10000

/-- The library's bound holds some number. -/
def MX (w : World) : Prop := ∃ m, w.cell? ⟨0, 0, none⟩ = some (.int .i64 m)
theorem MX.past {w w' : World} (h : MX w) (hb : Below w.heap.size w w') : MX w' := by
  obtain ⟨m, hm⟩ := h; exact ⟨m, cell_past hb hm⟩
theorem MX.drews {w : World} (h : MX w) (n : Nat) : MX (w.drewN n) := h.past ⟨rfl, rfl, rfl, Nat.le_refl _, fun _ _ => rfl⟩
theorem mx_of {w : World} (h : w.ShapedOpen Tryz.prog) : MX w := Tryz.laysM145.s1_3 w h

/-- The pieces between commas; of no text none. -/
def tagsOf (t : ByteArray) : List ByteArray := if t.size = 0 then [] else Lib.splitB ⟨#[44]⟩ 0 (Lib.countB t ⟨#[44]⟩) t
theorem splitB_size (sep : ByteArray) : ∀ (k : Nat) (s : ByteArray), ∀ u ∈ Lib.splitB sep 0 k s, u.size ≤ s.size
  | 0, s, u, h => by
    rw [Lib.splitB_zero] at h
    obtain rfl := List.mem_singleton.1 h; exact Nat.le_refl _
  | k + 1, s, u, h => by
    unfold Lib.splitB at h
    split at h
    · obtain rfl := List.mem_singleton.1 h; exact Nat.le_refl _
    · rcases List.mem_cons.1 h with rfl | h
      · rw [size_extract]; omega
      · have := splitB_size sep k _ u h
        rw [size_extract] at this; omega
theorem tagsOf_size (t : ByteArray) : ∀ u ∈ tagsOf t, u.size ≤ t.size := fun u h => by
  unfold tagsOf at h
  split at h
  · cases h
  · exact splitB_size _ _ _ u h
theorem tagsOf_len {t : ByteArray} (h : ¬ t.size = 0) : (tagsOf t).length = Lib.countB t ⟨#[44]⟩ + 1 := by
  unfold tagsOf; rw [if_neg h]; exact Lib.splitB_all ⟨#[44]⟩ (by decide) 0 _ t rfl
theorem tagsOf_le (t : ByteArray) : (tagsOf t).length ≤ t.size + 1 := by
  by_cases h : t.size = 0
  · unfold tagsOf; rw [if_pos h]; simp
  · rw [tagsOf_len h]
    have := Lib.countB_le ⟨#[44]⟩ (by decide) t.size t (Nat.le_refl _)
    omega
def partsN (t : ByteArray) : ByteArray := ⟨(Lib.cut (toL t) [123]).1.toArray⟩
def partsR (t : ByteArray) : ByteArray := ⟨(Lib.cut (toL t) [123]).2.1.toArray⟩
def partsI (t : ByteArray) : ByteArray := ⟨(Lib.trimSuffix (toL (partsR t)) [125]).toArray⟩
theorem mk_size (l : List UInt8) : (⟨l.toArray⟩ : ByteArray).size = l.length := by rw [← toL_len, toL_mk]
theorem cut_size (t : ByteArray) : (partsN t).size ≤ t.size ∧ (partsR t).size ≤ t.size := by
  unfold partsN partsR
  rw [mk_size, mk_size]
  have hl := toL_len t
  have hl2 : t.data.toList.length = t.size := hl
  by_cases h : 0 ≤ Lib.index (toL t) [123]
  · have e : Lib.cut (toL t) [123] = ((toL t).take (Lib.index (toL t) [123]).toNat, (toL t).drop ((Lib.index (toL t) [123]).toNat + [(123 : UInt8)].length), true) := by unfold Lib.cut; rw [if_pos h]
    rw [e]
    refine ⟨?_, ?_⟩
    · show ((toL t).take _).length ≤ _
      rw [List.length_take]; exact Nat.le_trans (Nat.min_le_right _ _) (Nat.le_of_eq hl)
    · show ((toL t).drop _).length ≤ _
      rw [List.length_drop]; exact Nat.le_trans (Nat.sub_le _ _) (Nat.le_of_eq hl)
  · have e : Lib.cut (toL t) [123] = (toL t, [], false) := by unfold Lib.cut; rw [if_neg h]
    rw [e]
    exact ⟨Nat.le_of_eq hl, Nat.zero_le _⟩
theorem trim_size (t : ByteArray) : (partsI t).size ≤ (partsR t).size := by
  unfold partsI
  rw [mk_size]
  have := toL_len (partsR t)
  unfold Lib.trimSuffix
  split
  · rw [List.length_take]; omega
  · omega
theorem trim_at (l : List UInt8) : Lib.trimSuffix (l ++ [125]) [125] = l := by
  unfold Lib.trimSuffix Lib.hasSuffix
  rw [if_pos (by simp)]
  simp
theorem parts_of {t name : ByteArray} {K : List ByteArray} (h : SerIs t name K) : partsN t = name ∧ tagsOf (partsI t) = K := by
  obtain ⟨h1, h2, h3, h4, h5, h6⟩ := h
  have ht : toL t = toL name ++ 123 :: (joinT K ++ [125]) := by rw [h6]; exact serT_toL name K
  have hc := cut_at (r := joinT K ++ [125]) (name_no h1)
  rw [← ht] at hc
  refine ⟨?_, ?_⟩
  · unfold partsN; rw [hc]; exact mk_toL name
  · have e : partsI t = ⟨(joinT K).toArray⟩ := by
      unfold partsI partsR; rw [hc, toL_mk]; show (⟨(Lib.trimSuffix (joinT K ++ [125]) [125]).toArray⟩ : ByteArray) = _; rw [trim_at]
    rw [e]
    unfold tagsOf
    rw [mk_size]
    by_cases hK : K = []
    · subst hK; rfl
    · rw [if_neg (fun h0 => joinT_pos h2 hK (List.eq_nil_of_length_eq_zero h0))]
      exact splitB_join h2 hK
theorem str_eqB (a b : ByteArray) : (a.toList == b.toList) = decide (a = b) := by
  by_cases h : a = b
  · subst h; simp
  · rw [decide_eq_false h]
    cases e : (a.toList == b.toList) with
    | false => rfl
    | true => exact absurd (str_ext e) h
theorem right_eq {t : ByteArray} (h1 : 1 ≤ t.size) : decide (serW (partsN t) (tagsOf (partsI t)) = t) = serRB t := by
  by_cases h : serRP t
  · rw [serRB_t h]
    obtain ⟨name, K, hs⟩ := h
    obtain ⟨e1, e2⟩ := parts_of hs
    rw [e1, e2]
    exact decide_eq_true (serW_of hs)
  · rw [serRB_f h]
    exact decide_eq_false (fun e => h (of_serW e (by omega)))

set_option maxHeartbeats 1000000 in
theorem c_splitTags {w : World} (t : ByteArray) (hm : MX w) (hs : t.size ≤ 1000000) :
    Calls Tryz.prog 105 #[.string t] w fun e w' => ∃ ao n c, e = .returned (.slice ao n c) ∧ (tagsOf t).length = n ∧ StrsAt w' ao (tagsOf t) ∧ Below w.heap.size w w' := by
  by_cases h0 : t.size = 0
  · have e : t = ByteArray.empty := toL_inj (List.eq_nil_of_length_eq_zero (by rw [toL_len]; exact h0))
    subst e
    go_enter Tryz.func105, Tryz.ntmps105
    go_wp2
    go_ret
    exact ⟨none, 0, 0, rfl, rfl, fun h => absurd h (Nat.lt_irrefl 0), Below.refl _ _⟩
  · have hne : t.toList.isEmpty = false := by
      rw [ByteArray.toList_eq]
      cases e : t.data.toList with
      | nil => exact absurd (by rw [← toL_len]; show t.data.toList.length = 0; rw [e]; rfl) h0
      | cons x r => rfl
    have HN := hide (tagsOf_len h0)
    have HT : Hid (tagsOf t = Lib.splitB ⟨#[44]⟩ 0 (Lib.countB t ⟨#[44]⟩) t) := (by unfold tagsOf; rw [if_neg h0] : tagsOf t = Lib.splitB ⟨#[44]⟩ 0 (Lib.countB t ⟨#[44]⟩) t)
    obtain ⟨m, hm⟩ := hm
    go_enter Tryz.func105, Tryz.ntmps105
    go_wp2_with (go_at_call 135; refine (Tryz.strings_Split _ _ m _ (by omega) hm (by decide)).mono ?_; rintro e w1 ⟨rfl, rfl⟩)
    go_ret
    refine ⟨some ⟨w.heap.size, 0, none⟩, _, _, rfl, HN.out, fun _ => ⟨w.heap.size, 0, rfl, fun i u hu => ?_⟩, (Below.refl _ _).alloc (Nat.le_refl _) _⟩
    rw [cell_of_row _ w.heap.size _ _ _ (0, 0) (heap_alloc_new w _), Nat.zero_add]
    rw [HT.out] at hu
    simp [hu]
set_option maxHeartbeats 1000000 in
theorem c_seriesParts {w : World} (t : ByteArray) (hm : MX w) (hs : t.size ≤ 1000000) :
    Calls Tryz.prog 78 #[.string t] w fun e w' => ∃ ao n c, e = .returned (.tuple #[.string (partsN t), .slice ao n c]) ∧ (tagsOf (partsI t)).length = n ∧ StrsAt w' ao (tagsOf (partsI t)) ∧ Below w.heap.size w w' := by
  obtain ⟨z1, z2⟩ := cut_size t
  have z3 := trim_size t
  have HM := hide hm
  obtain ⟨m, hm⟩ := hm
  go_enter Tryz.func78, Tryz.ntmps78
  go_wp2_with fail
  refine (Tryz.strings_Cut t ⟨#[123]⟩ m _ (by omega) hm).mono ?_
  rintro e w1 ⟨rfl, k, rfl⟩
  have e1 : (⟨(Lib.cut t.data.toList (⟨#[123]⟩ : ByteArray).data.toList).1.toArray⟩ : ByteArray) = partsN t := rfl
  have e2 : (⟨(Lib.cut t.data.toList (⟨#[123]⟩ : ByteArray).data.toList).2.1.toArray⟩ : ByteArray) = partsR t := rfl
  rw [e1, e2]
  clear e1 e2
  go_wp2_with fail
  refine (Tryz.strings_TrimSuffix (partsR t) ⟨#[125]⟩ _ (by omega)).mono ?_
  rintro e w1 ⟨rfl, rfl⟩
  have e3 : (⟨(Lib.trimSuffix (partsR t).data.toList (⟨#[125]⟩ : ByteArray).data.toList).toArray⟩ : ByteArray) = partsI t := rfl
  rw [e3]
  clear e3
  go_wp2_with fail
  refine (c_splitTags (partsI t) (HM.out.drews k) (by omega)).mono ?_
  rintro e w2 ⟨ao, n, c, rfl, hn, hS, hb⟩
  go_wp2
  go_ret2
  exact ⟨ao, n, c, rfl, hn, hS, (bel_drews (Below.refl _ _) k).trans (hb.mono (Nat.le_refl _))⟩
set_option maxHeartbeats 1000000 in
theorem c_i_SeriesRight {w : World} (t : ByteArray) (hm : MX w) (hs : t.size ≤ maxLen) :
    Calls Tryz.prog 52 #[.string t] w fun e w' => e = .returned (.bool (serRB t)) ∧ Below w.heap.size w w' := by
  unfold maxLen at hs
  by_cases h0 : t.size < 1
  · have h0i : (t.size : Int) < 1 := by omega
    have HE : Hid (serRB t = false) := serRB_f (fun ⟨name, K, h⟩ => by
      have := h.2.2.2.2.2
      have e := congrArg ByteArray.size this
      rw [serT_size] at e; omega)
    go_enter Tryz.func52, Tryz.ntmps52
    go_wp2
    go_ret
    exact ⟨ret_bool HE.out.symm, Below.refl _ _⟩
  have h0i : ¬ (t.size : Int) < 1 := by omega
  by_cases h1 : 100 < t.size
  · have h1i : (100 : Int) < (t.size : Int) := by omega
    have HE : Hid (serRB t = false) := serRB_f (fun ⟨name, K, h⟩ => by have := h.2.2.2.2.1; omega)
    go_enter Tryz.func52, Tryz.ntmps52
    go_wp2
    go_ret
    exact ⟨ret_bool HE.out.symm, Below.refl _ _⟩
  have h1i : ¬ (100 : Int) < (t.size : Int) := by omega
  have HE := hide (right_eq (t := t) (by omega))
  obtain ⟨z1, z2⟩ := cut_size t
  have z3 := trim_size t
  have z4 := tagsOf_le (partsI t)
  have z5 := tagsOf_size (partsI t)
  have HZ := hide z5
  clear z5
  go_enter Tryz.func52, Tryz.ntmps52
  go_wp2_with fail
  refine (c_seriesParts t hm (by omega)).mono ?_
  rintro e w2 ⟨ao, n, c, rfl, hn, hS, hb⟩
  have HN := hide hn
  have HS := hide hS
  clear hn hS
  go_wp2_with fail
  refine (c_i_seriesWith (partsN t) c n (by unfold maxLen; omega) HN.out (by have := HN.out; omega) (fun u hu => by have := HZ.out u hu; unfold maxLen; omega) HS.out).mono ?_
  rintro e w3 ⟨rfl, hb3⟩
  have HB := hide (hb.trans (hb3.mono hb.size))
  have hq := str_eqB (serW (partsN t) (tagsOf (partsI t))) t
  rw [HE.out] at hq
  clear hb hb3 HE
  generalize serW (partsN t) (tagsOf (partsI t)) = u at hq ⊢
  go_wp2
  go_ret
  exact ⟨rfl, HB.out⟩
end Go.Proofs.YtalmhekbagjdeaaGreatDoor
