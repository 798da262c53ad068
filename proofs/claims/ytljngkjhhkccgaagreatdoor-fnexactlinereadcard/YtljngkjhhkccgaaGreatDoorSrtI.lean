/-
  The program's SeriesRight.
-/
import Derived.Test.YtljngkjhhkccgaaGreatDoorSrtN
namespace Go.Proofs.YtljngkjhhkccgaaGreatDoor
set_option linter.unusedVariables false
set_option linter.unusedSimpArgs false
open Go.ChangeShapes Go.WideShapes Go.ChangeAt Go.RowKit Go.PlainAid
set_option maxRecDepth 10000

/-- The library's bound holds some number. -/
def MX (w : World) : Prop := ∃ m, w.cell? ⟨1, 0, none⟩ = some (.int .i64 m)
theorem MX.past {w w' : World} (h : MX w) (hb : Below w.heap.size w w') : MX w' := by
  obtain ⟨m, hm⟩ := h; exact ⟨m, cell_past hb hm⟩
theorem MX.drews {w : World} (h : MX w) (n : Nat) : MX (w.drewN n) := h.past ⟨rfl, rfl, rfl, Nat.le_refl _, fun _ _ => rfl⟩
theorem mx_of {w : World} (h : w.ShapedOpen Tryz.prog) : MX w := Tryz.laysM145.s1_3 w h

/-- The pieces between commas; of no text none. -/
def tagsOf (t : ByteArray) : List ByteArray := if t.size = 0 then [] else Lib.splitB ⟨#[44]⟩ 0 (Lib.countB t ⟨#[44]⟩) t
theorem splitB_size (sep : ByteArray) : ∀ (k : Nat) (s : ByteArray), ∀ u ∈ Lib.splitB sep 0 k s, u.size ≤ s.size
  | 0, s, u, h => by
    rw [Lib.splitB_zero] at h
    obtain rfl := List.mem_singleton.1 h; exact Nat.le_refl _
  | k + 1, s, u, h => by
    unfold Lib.splitB at h
    split at h
    · obtain rfl := List.mem_singleton.1 h; exact Nat.le_refl _
    · rcases List.mem_cons.1 h with rfl | h
      · rw [size_extract]; omega
      · have := splitB_size sep k _ u h
        rw [size_extract] at this; omega
theorem tagsOf_size (t : ByteArray) : ∀ u ∈ tagsOf t, u.size ≤ t.size := fun u h => by
  unfold tagsOf at h
  split at h
  · cases h
  · exact splitB_size _ _ _ u h
theorem tagsOf_len {t : ByteArray} (h : ¬ t.size = 0) : (tagsOf t).length = Lib.countB t ⟨#[44]⟩ + 1 := by
  unfold tagsOf; rw [if_neg h]; exact Lib.splitB_all ⟨#[44]⟩ (by decide) 0 _ t rfl
theorem tagsOf_le (t : ByteArray) : (tagsOf t).length ≤ t.size + 1 := by
  by_cases h : t.size = 0
  · unfold tagsOf; rw [if_pos h]; simp
  · rw [tagsOf_len h]
    have := Lib.countB_le ⟨#[44]⟩ (by decide) t.size t (Nat.le_refl _)
    omega
def partsN (t : ByteArray) : ByteArray := ⟨(Lib.cut (toL t) [123]).1.toArray⟩
def partsR (t : ByteArray) : ByteArray := ⟨(Lib.cut (toL t) [123]).2.1.toArray⟩
def partsI (t : ByteArray) : ByteArray := ⟨(Lib.trimSuffix (toL (partsR t)) [125]).toArray⟩
theorem mk_size (l : List UInt8) : (⟨l.toArray⟩ : ByteArray).size = l.length := by rw [← toL_len, toL_mk]
theorem cut_size (t : ByteArray) : (partsN t).size ≤ t.size ∧ (partsR t).size ≤ t.size := by
  unfold partsN partsR
  rw [mk_size, mk_size]
  have hl := toL_len t
  have hl2 : t.data.toList.length = t.size := hl
  by_cases h : 0 ≤ Lib.index (toL t) [123]
  · have e : Lib.cut (toL t) [123] = ((toL t).take (Lib.index (toL t) [123]).toNat, (toL t).drop ((Lib.index (toL t) [123]).toNat + [(123 : UInt8)].length), true) := by unfold Lib.cut; rw [if_pos h]
    rw [e]
    refine ⟨?_, ?_⟩
    · show ((toL t).take _).length ≤ _
      rw [List.length_take]; exact Nat.le_trans (Nat.min_le_right _ _) (Nat.le_of_eq hl)
    · show ((toL t).drop _).length ≤ _
      rw [List.length_drop]; exact Nat.le_trans (Nat.sub_le _ _) (Nat.le_of_eq hl)
  · have e : Lib.cut (toL t) [123] = (toL t, [], false) := by unfold Lib.cut; rw [if_neg h]
    rw [e]
    exact ⟨Nat.le_of_eq hl, Nat.zero_le _⟩
theorem trim_size (t : ByteArray) : (partsI t).size ≤ (partsR t).size := by
  unfold partsI
  rw [mk_size]
  have := toL_len (partsR t)
  unfold Lib.trimSuffix
  split
  · rw [List.length_take]; omega
  · omega
theorem trim_at (l : List UInt8) : Lib.trimSuffix (l ++ [125]) [125] = l := by
  unfold Lib.trimSuffix Lib.hasSuffix
  rw [if_pos (by simp)]
  simp
theorem parts_of {t name : ByteArray} {K : List ByteArray} (h : SerIs t name K) : partsN t = name ∧ tagsOf (partsI t) = K := by
  obtain ⟨h1, h2, h3, h4, h5, h6⟩ := h
  have ht : toL t = toL name ++ 123 :: (joinT K ++ [125]) := by rw [h6]; exact serT_toL name K
  have hc := cut_at (r := joinT K ++ [125]) (name_no h1)
  rw [← ht] at hc
  refine ⟨?_, ?_⟩
  · unfold partsN; rw [hc]; exact mk_toL name
  · have e : partsI t = ⟨(joinT K).toArray⟩ := by
      unfold partsI partsR; rw [hc, toL_mk]; show (⟨(Lib.trimSuffix (joinT K ++ [125]) [125]).toArray⟩ : ByteArray) = _; rw [trim_at]
    rw [e]
    unfold tagsOf
    rw [mk_size]
    by_cases hK : K = []
    · subst hK; rfl
    · rw [if_neg (fun h0 => joinT_pos h2 hK (List.eq_nil_of_length_eq_zero h0))]
      exact splitB_join h2 hK
theorem str_eqB (a b : ByteArray) : (a.toList == b.toList) = decide (a = b) := by
  by_cases h : a = b
  · subst h; simp
  · rw [decide_eq_false h]
    cases e : (a.toList == b.toList) with
    | false => rfl
    | true => exact absurd (str_ext e) h
theorem right_eq {t : ByteArray} (h1 : 1 ≤ t.size) : decide (serW (partsN t) (tagsOf (partsI t)) = t) = serRB t := by
  by_cases h : serRP t
  · rw [serRB_t h]
    obtain ⟨name, K, hs⟩ := h
    obtain ⟨e1, e2⟩ := parts_of hs
    rw [e1, e2]
    exact decide_eq_true (serW_of hs)
  · rw [serRB_f h]
    exact decide_eq_false (fun e => h (of_serW e (by omega)))

end Go.Proofs.YtljngkjhhkccgaaGreatDoor
