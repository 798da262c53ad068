/-
  Pieces of a text between a byte: the library's and the model's are the same. Of no program's walk.
-/
import Derived.Test.YtljngkjhhkccgaaGreatDoorSrtN
namespace Go.Proofs.YtljngkjhhkccgaaGreatDoor
set_option linter.unusedVariables false
set_option linter.unusedSimpArgs false
open Go.ChangeShapes Go.WideShapes Go.ChangeAt Go.RowKit Go.PlainAid

def joinC (c : UInt8) (K : List ByteArray) : List UInt8 := Lib.join (K.map toL) [c]
theorem joinC_one (c : UInt8) (x : ByteArray) : joinC c [x] = toL x := Lib.join_one _ _
theorem joinC_cons (c : UInt8) (y z : ByteArray) (r : List ByteArray) : joinC c (y :: z :: r) = toL y ++ c :: joinC c (z :: r) := by
  unfold joinC
  rw [List.map_cons, List.map_cons, Lib.join_cons, Lib.join_cons]
  simp [Lib.joinTail]
theorem joinC_snoc {c : UInt8} {K : List ByteArray} (h : K ≠ []) (x : ByteArray) : joinC c (K ++ [x]) = joinC c K ++ c :: toL x := by
  cases K with
  | nil => exact absurd rfl h
  | cons y r =>
    unfold joinC
    rw [List.cons_append, List.map_cons, List.map_cons, Lib.join_cons, Lib.join_cons, List.map_append, List.map_cons, List.map_nil, tail_snoc]
    simp
theorem splitK_joinC {c : UInt8} : ∀ {K : List ByteArray} {n : Nat}, K ≠ [] → (∀ x ∈ K, c ∉ toL x) → K.length ≤ n + 1 → Lib.splitK [c] 0 n (joinC c K) = K.map toL
  | [], n, h, _, _ => absurd rfl h
  | [y], n, _, hn, _ => by
    have hi := index_no (hn y List.mem_cons_self)
    rw [joinC_one]
    cases n with
    | zero => rfl
    | succ n => unfold Lib.splitK; rw [hi]; rfl
  | y :: z :: r, n, _, hn, hl => by
    cases n with
    | zero => simp at hl
    | succ n =>
      have hi := index_at (r := joinC c (z :: r)) (hn y List.mem_cons_self)
      have ih := splitK_joinC (c := c) (K := z :: r) (n := n) (by simp) (fun x hx => hn x (List.mem_cons_of_mem _ hx)) (by simp at hl ⊢; omega)
      rw [joinC_cons]
      unfold Lib.splitK
      rw [hi, if_neg (by simp)]
      simp only [Int.toNat_natCast, Nat.add_zero, List.length_cons, List.length_nil]
      rw [List.take_left, show (toL y ++ c :: joinC c (z :: r)).drop ((toL y).length + (0 + 1)) = joinC c (z :: r) by rw [← List.drop_drop, List.drop_left]; rfl, ih]
      rfl
theorem count_joinC {c : UInt8} : ∀ {K : List ByteArray} {f : Nat}, K ≠ [] → (∀ x ∈ K, c ∉ toL x) → K.length ≤ f → Lib.countFrom [c] f (joinC c K) + 1 = K.length
  | [], f, h, _, _ => absurd rfl h
  | [y], f, _, hn, hl => by
    have hi := index_no (hn y List.mem_cons_self)
    rw [joinC_one]
    cases f with
    | zero => simp at hl
    | succ f => unfold Lib.countFrom; rw [hi]; rfl
  | y :: z :: r, f, _, hn, hl => by
    cases f with
    | zero => simp at hl
    | succ f =>
      have hi := index_at (r := joinC c (z :: r)) (hn y List.mem_cons_self)
      have ih := count_joinC (c := c) (K := z :: r) (f := f) (by simp) (fun x hx => hn x (List.mem_cons_of_mem _ hx)) (by simp at hl ⊢; omega)
      rw [joinC_cons]
      unfold Lib.countFrom
      rw [hi, if_neg (by simp)]
      simp only [Int.toNat_natCast, List.length_cons, List.length_nil]
      rw [show (toL y ++ c :: joinC c (z :: r)).drop ((toL y).length + (0 + 1)) = joinC c (z :: r) by rw [← List.drop_drop, List.drop_left]; rfl]
      simp only [List.length_cons] at ih
      omega
theorem joinC_long (c : UInt8) : ∀ (K : List ByteArray), K.length ≤ (joinC c K).length + 1
  | [] => by simp
  | [y] => by simp
  | y :: z :: r => by
    have ih := joinC_long c (z :: r)
    rw [joinC_cons]
    simp only [List.length_append, List.length_cons] at ih ⊢
    omega
theorem last_at {c : UInt8} : ∀ {l : List UInt8}, c ∈ l → ∃ u x, l = u ++ c :: x ∧ c ∉ x
  | y :: l, h => by
    by_cases hl : c ∈ l
    · obtain ⟨u, x, e, hx⟩ := last_at hl
      exact ⟨y :: u, x, by rw [e]; rfl, hx⟩
    · rcases List.mem_cons.1 h with rfl | h
      · exact ⟨[], l, rfl, hl⟩
      · exact absurd h hl
/-- The model's pieces, joined, are the text; none has the byte. -/
theorem splL_joins {c : UInt8} : ∀ (n : Nat) (t : ByteArray), t.size ≤ n → splL t (c.toNat : Int) ≠ [] ∧ (∀ x ∈ splL t (c.toNat : Int), c ∉ toL x) ∧ joinC c (splL t (c.toNat : Int)) = toL t
  | n, t, hn => by
    by_cases h : c ∈ toL t
    · obtain ⟨u, x, e, hx⟩ := last_at h
      have hs := splL_snoc (t := t) (u := ⟨u.toArray⟩) (x := ⟨x.toArray⟩) (c := c) (by rw [toL_mk, toL_mk]; exact e) (by rw [toL_mk]; exact hx)
      have hl : u.length < t.size := by rw [← toL_len, e]; simp
      match n, hn with
      | 0, hn => omega
      | n + 1, hn =>
        have hmk : (⟨u.toArray⟩ : ByteArray).size = u.length := by rw [← toL_len, toL_mk]
        obtain ⟨i1, i2, i3⟩ := splL_joins n ⟨u.toArray⟩ (by rw [hmk]; omega)
        rw [hs]
        refine ⟨by simp, fun y hy => ?_, ?_⟩
        · rcases List.mem_append.1 hy with hy | hy
          · exact i2 y hy
          · obtain rfl := List.mem_singleton.1 hy
            rw [toL_mk]; exact hx
        · rw [joinC_snoc i1, i3, toL_mk, toL_mk, e]
    · rw [splL_none h]
      exact ⟨by simp, fun x hx => by obtain rfl := List.mem_singleton.1 hx; exact h, joinC_one c t⟩
/-- The library's pieces are the model's. -/
theorem splitB_splL (c : UInt8) (t : ByteArray) : Lib.splitB ⟨#[c]⟩ 0 (Lib.countB t ⟨#[c]⟩) t = splL t (c.toNat : Int) := by
  obtain ⟨h1, h2, h3⟩ := splL_joins (c := c) t.size t (Nat.le_refl _)
  have hc : Lib.countB t ⟨#[c]⟩ + 1 = (splL t (c.toNat : Int)).length := by
    have e : Lib.countB t ⟨#[c]⟩ = Lib.countFrom [c] ((toL t).length + 1) (toL t) := by
      show Lib.count _ _ = _
      unfold Lib.count toL
      simp
    rw [e, ← h3]
    exact count_joinC h1 h2 (by have := joinC_long c (splL t (c.toNat : Int)); omega)
  have hd := Lib.splitB_data ⟨#[c]⟩ 0 (Lib.countB t ⟨#[c]⟩) t
  have hs := splitK_joinC (n := Lib.countB t ⟨#[c]⟩) h1 h2 (by omega)
  rw [h3] at hs
  have hd2 : (Lib.splitB ⟨#[c]⟩ 0 (Lib.countB t ⟨#[c]⟩) t).map toL = (splL t (c.toNat : Int)).map toL := hd.trans (by simpa [toL] using hs)
  exact (List.map_inj_right (fun a b e => toL_inj e)).1 hd2
/-- The first piece, and those behind it. -/
theorem splL_cons {c : UInt8} {t p : ByteArray} {r : List UInt8} (ht : toL t = toL p ++ c :: r) (hp : c ∉ toL p) : splL t (c.toNat : Int) = p :: splL ⟨r.toArray⟩ (c.toNat : Int) := by
  have hi : Lib.indexB t ⟨#[c]⟩ = ((toL p).length : Nat) := by
    show Lib.index (toL t) [c] = _
    rw [ht]; exact index_at hp
  rw [← splitB_splL, ← splitB_splL, Lib.countB_hit t ⟨#[c]⟩ _ (show 1 ≤ (⟨#[c]⟩ : ByteArray).size from Nat.le_refl 1) hi, Nat.add_comm, Lib.splitB_hit _ _ _ _ _ hi]
  have e1 : t.extract 0 ((toL p).length + 0) = p := toL_inj (by rw [toL_extract, ht, Nat.add_zero, List.take_left, List.drop_zero])
  have e2 : t.extract ((toL p).length + (⟨#[c]⟩ : ByteArray).size) t.size = ⟨r.toArray⟩ := toL_inj (by
    rw [toL_extract, List.take_of_length_le (by rw [toL_len]; exact Nat.le_refl _), toL_mk, ht]
    show (toL p ++ c :: r).drop ((toL p).length + 1) = r
    rw [← List.drop_drop, List.drop_left]; rfl)
  rw [e1, e2]
end Go.Proofs.YtljngkjhhkccgaaGreatDoor
