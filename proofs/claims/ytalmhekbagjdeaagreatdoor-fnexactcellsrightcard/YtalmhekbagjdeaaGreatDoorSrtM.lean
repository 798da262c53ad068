/-
  What a series' text is; its parts. Of no program's walk.
-/
import Derived.Test.YtalmhekbagjdeaaGreatDoorSerO
import Derived.Lib.Split
import Derived.Lib.CountLaws
import Derived.Lib.SplitLaws
import Derived.Lib.Strings
namespace Go.Proofs.YtalmhekbagjdeaaGreatDoor
set_option linter.unusedVariables false
set_option linter.unusedSimpArgs false
open Go.ChangeShapes Go.WideShapes Go.ChangeAt Go.RowKit Go.PlainAid

theorem mem_toL {s : ByteArray} {x : UInt8} (h : x ∈ toL s) : ∃ k, k < s.size ∧ bt s k = (x.toNat : Int) := by
  obtain ⟨k, hk, e⟩ := List.mem_iff_getElem.1 h
  have hk2 : k < s.size := by rw [← toL_len]; exact hk
  refine ⟨k, hk2, ?_⟩
  unfold bt
  rw [dif_pos hk2, ← e]
  simp [toL]
  rfl
theorem allB_at {s : ByteArray} : ∀ {n k : Nat}, allB s n = true → k < n → nmB (bt s k) = true
  | n + 1, k, h, hk => by
    unfold allB at h
    obtain ⟨h1, h2⟩ := Bool.and_eq_true_iff.1 h
    by_cases e : k = n
    · subst e; exact h2
    · exact allB_at h1 (by omega)
theorem allT_at {s : ByteArray} : ∀ {n k : Nat}, allT s n = true → k < n → tgB (bt s k) = true
  | n + 1, k, h, hk => by
    unfold allT at h
    obtain ⟨h1, h2⟩ := Bool.and_eq_true_iff.1 h
    by_cases e : k = n
    · subst e; exact h2
    · exact allT_at h1 (by omega)
theorem name_no {s : ByteArray} (h : nameB s = true) : (123 : UInt8) ∉ toL s := fun hm => by
  obtain ⟨k, hk, e⟩ := mem_toL hm
  unfold nameB at h
  have ha := (Bool.and_eq_true_iff.1 h).2
  have := allB_at ha hk
  rw [e] at this
  revert this; decide
theorem tag_no {s : ByteArray} (h : tagB s = true) : (123 : UInt8) ∉ toL s ∧ (44 : UInt8) ∉ toL s := by
  unfold tagB at h
  have ha := (Bool.and_eq_true_iff.1 h).2
  refine ⟨fun hm => ?_, fun hm => ?_⟩ <;>
  · obtain ⟨k, hk, e⟩ := mem_toL hm
    have := allT_at ha hk
    rw [e] at this
    revert this; decide
theorem tag_pos {s : ByteArray} (h : tagB s = true) : 1 ≤ s.size := by
  unfold tagB at h
  simp only [Bool.and_eq_true, decide_eq_true_eq] at h
  exact h.1.1

/-- A text that is a series. -/
def SerIs (t name : ByteArray) (K : List ByteArray) : Prop := nameB name = true ∧ K.all tagB = true ∧ RiseT K ∧ K.length ≤ 8 ∧ t.size ≤ 100 ∧ t = serT name K
def serRP (t : ByteArray) : Prop := ∃ name K, SerIs t name K
noncomputable def serRB (t : ByteArray) : Bool := @decide (serRP t) (Classical.propDecidable _)
theorem serRB_f {t : ByteArray} (h : ¬ serRP t) : serRB t = false := @decide_eq_false _ (Classical.propDecidable _) h
theorem serRB_t {t : ByteArray} (h : serRP t) : serRB t = true := @decide_eq_true _ (Classical.propDecidable _) h
theorem serK_id {K : List ByteArray} (h : RiseT K) : serK K = K := riseT_one (serK_rise K) h (fun x => mem_serK)
theorem serW_of {t name : ByteArray} {K : List ByteArray} (h : SerIs t name K) : serW name K = t := by
  obtain ⟨h1, h2, h3, h4, h5, h6⟩ := h
  unfold serW serF
  rw [if_pos ⟨h1, h2⟩, serK_id h3, ← h6, if_neg (by omega)]
theorem of_serW {t name : ByteArray} {L : List ByteArray} (h : serW name L = t) (h0 : 0 < t.size) : serRP t := by
  unfold serW at h
  split at h
  · rename_i hc
    unfold serF at h
    split at h
    · subst h; exact absurd h0 (by decide)
    · rename_i hc2
      refine ⟨name, serK L, hc.1, List.all_eq_true.2 (fun x hx => List.all_eq_true.1 hc.2 x (mem_serK.1 hx)), serK_rise L, by omega, by rw [← h]; omega, h.symm⟩
  · subst h; exact absurd h0 (by decide)
theorem serT_toL (name : ByteArray) (K : List ByteArray) : toL (serT name K) = toL name ++ 123 :: (joinT K ++ [125]) := by
  unfold serT; rw [toL_mk]; simp [headT]

theorem index_no {c : UInt8} : ∀ {l : List UInt8}, c ∉ l → Lib.index l [c] = -1
  | [], _ => by simp [Lib.index]
  | x :: l, h => by
    have h1 : ¬ c = x := fun e => h (by rw [e]; exact List.mem_cons_self)
    have h2 := index_no (l := l) (fun m => h (List.mem_cons_of_mem _ m))
    unfold Lib.index
    rw [h2]
    simp [h1]
theorem index_at {c : UInt8} : ∀ {p : List UInt8} {r : List UInt8}, c ∉ p → Lib.index (p ++ c :: r) [c] = p.length
  | [], r, _ => by simp [Lib.index]
  | x :: p, r, h => by
    have h1 : ¬ c = x := fun e => h (by rw [e]; exact List.mem_cons_self)
    have h2 := index_at (p := p) (r := r) (fun m => h (List.mem_cons_of_mem _ m))
    rw [List.cons_append]
    unfold Lib.index
    rw [h2]
    simp [h1]
theorem cut_at {c : UInt8} {p r : List UInt8} (h : c ∉ p) : Lib.cut (p ++ c :: r) [c] = (p, r, true) := by
  unfold Lib.cut
  rw [index_at h, if_pos (by omega)]
  simp
theorem joinT_no {K : List ByteArray} (h : K.all tagB = true) : (123 : UInt8) ∉ joinT K := by
  cases K with
  | nil => simp [joinT, Lib.join]
  | cons y r =>
    have hall := List.all_eq_true.1 h
    unfold joinT
    rw [List.map_cons, Lib.join_cons]
    intro hm
    rcases List.mem_append.1 hm with hm | hm
    · exact (tag_no (hall y List.mem_cons_self)).1 hm
    · unfold Lib.joinTail at hm
      obtain ⟨l, hl, hx⟩ := List.mem_flatten.1 hm
      obtain ⟨l2, hl2, rfl⟩ := List.mem_map.1 hl
      obtain ⟨x, hxr, rfl⟩ := List.mem_map.1 hl2
      rcases List.mem_append.1 hx with hx | hx
      · revert hx; decide
      · exact (tag_no (hall x (List.mem_cons_of_mem _ hxr))).1 hx
theorem joinT_pos {K : List ByteArray} (h : K.all tagB = true) (hne : K ≠ []) : joinT K ≠ [] := by
  cases K with
  | nil => exact absurd rfl hne
  | cons y r =>
    have h1 := tag_pos (List.all_eq_true.1 h y List.mem_cons_self)
    unfold joinT
    rw [List.map_cons, Lib.join_cons]
    intro e
    have := congrArg List.length e
    rw [List.length_append, toL_len, List.length_nil] at this
    omega
theorem joinT_cons (y z : ByteArray) (r : List ByteArray) : joinT (y :: z :: r) = toL y ++ 44 :: joinT (z :: r) := by
  unfold joinT
  rw [List.map_cons, List.map_cons, Lib.join_cons, Lib.join_cons]
  simp [Lib.joinTail]
/-- The pieces of tags with commas between are the tags. -/
theorem splitK_join : ∀ {K : List ByteArray} {n : Nat}, K ≠ [] → (∀ x ∈ K, (44 : UInt8) ∉ toL x) → K.length ≤ n + 1 → Lib.splitK [44] 0 n (joinT K) = K.map toL
  | [], n, h, _, _ => absurd rfl h
  | [y], n, _, hn, _ => by
    have hi := index_no (hn y List.mem_cons_self)
    rw [joinT_one]
    cases n with
    | zero => rfl
    | succ n => unfold Lib.splitK; rw [hi]; rfl
  | y :: z :: r, n, _, hn, hl => by
    cases n with
    | zero => simp at hl
    | succ n =>
      have hi := index_at (r := joinT (z :: r)) (hn y List.mem_cons_self)
      have ih := splitK_join (K := z :: r) (n := n) (by simp) (fun x hx => hn x (List.mem_cons_of_mem _ hx)) (by simp at hl ⊢; omega)
      rw [joinT_cons]
      unfold Lib.splitK
      rw [hi, if_neg (by simp)]
      simp only [Int.toNat_natCast, Nat.add_zero, List.length_cons, List.length_nil]
      rw [List.take_left, show (toL y ++ 44 :: joinT (z :: r)).drop ((toL y).length + (0 + 1)) = joinT (z :: r) by rw [← List.drop_drop, List.drop_left]; rfl, ih]
      rfl
theorem count_join : ∀ {K : List ByteArray} {f : Nat}, K ≠ [] → (∀ x ∈ K, (44 : UInt8) ∉ toL x) → K.length ≤ f → Lib.countFrom [44] f (joinT K) + 1 = K.length
  | [], f, h, _, _ => absurd rfl h
  | [y], f, _, hn, hl => by
    have hi := index_no (hn y List.mem_cons_self)
    rw [joinT_one]
    cases f with
    | zero => simp at hl
    | succ f => unfold Lib.countFrom; rw [hi]; rfl
  | y :: z :: r, f, _, hn, hl => by
    cases f with
    | zero => simp at hl
    | succ f =>
      have hi := index_at (r := joinT (z :: r)) (hn y List.mem_cons_self)
      have ih := count_join (K := z :: r) (f := f) (by simp) (fun x hx => hn x (List.mem_cons_of_mem _ hx)) (by simp at hl ⊢; omega)
      rw [joinT_cons]
      unfold Lib.countFrom
      rw [hi, if_neg (by simp)]
      simp only [Int.toNat_natCast, List.length_cons, List.length_nil]
      rw [show (toL y ++ 44 :: joinT (z :: r)).drop ((toL y).length + (0 + 1)) = joinT (z :: r) by rw [← List.drop_drop, List.drop_left]; rfl]
      simp only [List.length_cons] at ih
      omega
theorem joinT_long : ∀ (K : List ByteArray), K.all tagB = true → K.length ≤ (joinT K).length + 1
  | [], _ => by simp
  | [y], _ => by simp
  | y :: z :: r, h => by
    have ih := joinT_long (z :: r) (by simp at h ⊢; exact ⟨h.2.1, h.2.2⟩)
    rw [joinT_cons]
    simp only [List.length_append, List.length_cons] at ih ⊢
    omega
/-- What strings.Split tells of tags with commas between. -/
theorem splitB_join {K : List ByteArray} (h : K.all tagB = true) (hne : K ≠ []) : Lib.splitB ⟨#[44]⟩ 0 (Lib.countB ⟨(joinT K).toArray⟩ ⟨#[44]⟩) ⟨(joinT K).toArray⟩ = K := by
  have hn : ∀ x ∈ K, (44 : UInt8) ∉ toL x := fun x hx => (tag_no (List.all_eq_true.1 h x hx)).2
  have hc : Lib.countB ⟨(joinT K).toArray⟩ ⟨#[44]⟩ + 1 = K.length := by
    have e : Lib.countB ⟨(joinT K).toArray⟩ ⟨#[44]⟩ = Lib.countFrom [44] ((joinT K).length + 1) (joinT K) := by
      show Lib.count _ _ = _
      unfold Lib.count
      simp
    rw [e]
    exact count_join hne hn (joinT_long K h)
  have hd := Lib.splitB_data ⟨#[44]⟩ 0 (Lib.countB ⟨(joinT K).toArray⟩ ⟨#[44]⟩) ⟨(joinT K).toArray⟩
  have hs := splitK_join (K := K) (n := Lib.countB ⟨(joinT K).toArray⟩ ⟨#[44]⟩) hne hn (by omega)
  have hd2 : (Lib.splitB ⟨#[44]⟩ 0 (Lib.countB ⟨(joinT K).toArray⟩ ⟨#[44]⟩) ⟨(joinT K).toArray⟩).map toL = K.map toL := hd.trans (by simpa using hs)
  exact (List.map_inj_right (fun a b e => toL_inj e)).1 hd2
end Go.Proofs.YtalmhekbagjdeaaGreatDoor
