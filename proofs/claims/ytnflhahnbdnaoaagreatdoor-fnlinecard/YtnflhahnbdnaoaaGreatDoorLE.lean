/-
  Pieces of a text between a byte: the library's and the model's are the same. Of no program's walk.
-/
import Derived.Test.YtnflhahnbdnaoaaGreatDoorLD
import Derived.Test.YtnflhahnbdnaoaaGreatDoorRows
import Derived.Test.YtnflhahnbdnaoaaGreatDoorLA
import Derived.Outline
import Derived.WalkKit
import Derived.PlainAid
import Derived.Lib.ItoaNum
import Derived.Lib.ItoaLen
import Derived.Lib.ParseIntB
namespace Go.Proofs.YtnflhahnbdnaoaaGreatDoor
set_option linter.unusedVariables false
set_option linter.unusedSimpArgs false
open Go.ChangeShapes Go.WideShapes Go.ChangeAt Go.RowKit Go.PlainAid

def joinC (c : UInt8) (K : List ByteArray) : List UInt8 := Lib.join (K.map toL) [c]
theorem joinC_one (c : UInt8) (x : ByteArray) : joinC c [x] = toL x := Lib.join_one _ _
theorem joinC_cons (c : UInt8) (y z : ByteArray) (r : List ByteArray) : joinC c (y :: z :: r) = toL y ++ c :: joinC c (z :: r) := by
  unfold joinC
  rw [List.map_cons, List.map_cons, Lib.join_cons, Lib.join_cons]
  simp [Lib.joinTail]
theorem joinC_snoc {c : UInt8} {K : List ByteArray} (h : K ≠ []) (x : ByteArray) : joinC c (K ++ [x]) = joinC c K ++ c :: toL x := by
  cases K with
  | nil => exact absurd rfl h
  | cons y r =>
    unfold joinC
    rw [List.cons_append, List.map_cons, List.map_cons, Lib.join_cons, Lib.join_cons, List.map_append, List.map_cons, List.map_nil, tail_snoc]
    simp
theorem splitK_joinC {c : UInt8} : ∀ {K : List ByteArray} {n : Nat}, K ≠ [] → (∀ x ∈ K, c ∉ toL x) → K.length ≤ n + 1 → Lib.splitK [c] 0 n (joinC c K) = K.map toL
  | [], n, h, _, _ => absurd rfl h
  | [y], n, _, hn, _ => by
    have hi := index_no (hn y List.mem_cons_self)
    rw [joinC_one]
    cases n with
    | zero => rfl
    | succ n => unfold Lib.splitK; rw [hi]; rfl
  | y :: z :: r, n, _, hn, hl => by
    cases n with
    | zero => simp at hl
    | succ n =>
      have hi := index_at (r := joinC c (z :: r)) (hn y List.mem_cons_self)
      have ih := splitK_joinC (c := c) (K := z :: r) (n := n) (by simp) (fun x hx => hn x (List.mem_cons_of_mem _ hx)) (by simp at hl ⊢; omega)
      rw [joinC_cons]
      unfold Lib.splitK
      rw [hi, if_neg (by simp)]
      simp only [Int.toNat_natCast, Nat.add_zero, List.length_cons, List.length_nil]
      rw [List.take_left, show (toL y ++ c :: joinC c (z :: r)).drop ((toL y).length + (0 + 1)) = joinC c (z :: r) by rw [← List.drop_drop, List.drop_left]; rfl, ih]
      rfl
theorem count_joinC {c : UInt8} : ∀ {K : List ByteArray} {f : Nat}, K ≠ [] → (∀ x ∈ K, c ∉ toL x) → K.length ≤ f → Lib.countFrom [c] f (joinC c K) + 1 = K.length
  | [], f, h, _, _ => absurd rfl h
  | [y], f, _, hn, hl => by
    have hi := index_no (hn y List.mem_cons_self)
    rw [joinC_one]
    cases f with
    | zero => simp at hl
    | succ f => unfold Lib.countFrom; rw [hi]; rfl
  | y :: z :: r, f, _, hn, hl => by
    cases f with
    | zero => simp at hl
    | succ f =>
      have hi := index_at (r := joinC c (z :: r)) (hn y List.mem_cons_self)
      have ih := count_joinC (c := c) (K := z :: r) (f := f) (by simp) (fun x hx => hn x (List.mem_cons_of_mem _ hx)) (by simp at hl ⊢; omega)
      rw [joinC_cons]
      unfold Lib.countFrom
      rw [hi, if_neg (by simp)]
      simp only [Int.toNat_natCast, List.length_cons, List.length_nil]
      rw [show (toL y ++ c :: joinC c (z :: r)).drop ((toL y).length + (0 + 1)) = joinC c (z :: r) by rw [← List.drop_drop, List.drop_left]; rfl]
      simp only [List.length_cons] at ih
      omega
theorem joinC_long (c : UInt8) : ∀ (K : List ByteArray), K.length ≤ (joinC c K).length + 1
  | [] => by simp
  | [y] => by simp
  | y :: z :: r => by
    have ih := joinC_long c (z :: r)
    rw [joinC_cons]
    simp only [List.length_append, List.length_cons] at ih ⊢
    omega
theorem last_at {c : UInt8} : ∀ {l : List UInt8}, c ∈ l → ∃ u x, l = u ++ c :: x ∧ c ∉ x
  | y :: l, h => by
    by_cases hl : c ∈ l
    · obtain ⟨u, x, e, hx⟩ := last_at hl
      exact ⟨y :: u, x, by rw [e]; rfl, hx⟩
    · rcases List.mem_cons.1 h with rfl | h
      · exact ⟨[], l, rfl, hl⟩
      · exact absurd h hl
/-- The model's pieces, joined, are the text; none has the byte. -/
theorem splL_joins {c : UInt8} : ∀ (n : Nat) (t : ByteArray), t.size ≤ n → splL t (c.toNat : Int) ≠ [] ∧ (∀ x ∈ splL t (c.toNat : Int), c ∉ toL x) ∧ joinC c (splL t (c.toNat : Int)) = toL t
  | n, t, hn => by
    by_cases h : c ∈ toL t
    · obtain ⟨u, x, e, hx⟩ := last_at h
      have hs := splL_snoc (t := t) (u := ⟨u.toArray⟩) (x := ⟨x.toArray⟩) (c := c) (by rw [toL_mk, toL_mk]; exact e) (by rw [toL_mk]; exact hx)
      have hl : u.length < t.size := by rw [← toL_len, e]; simp
      match n, hn with
      | 0, hn => omega
      | n + 1, hn =>
        have hmk : (⟨u.toArray⟩ : ByteArray).size = u.length := by rw [← toL_len, toL_mk]
        obtain ⟨i1, i2, i3⟩ := splL_joins n ⟨u.toArray⟩ (by rw [hmk]; omega)
        rw [hs]
        refine ⟨by simp, fun y hy => ?_, ?_⟩
        · rcases List.mem_append.1 hy with hy | hy
          · exact i2 y hy
          · obtain rfl := List.mem_singleton.1 hy
            rw [toL_mk]; exact hx
        · rw [joinC_snoc i1, i3, toL_mk, toL_mk, e]
    · rw [splL_none h]
      exact ⟨by simp, fun x hx => by obtain rfl := List.mem_singleton.1 hx; exact h, joinC_one c t⟩
/-- The library's pieces are the model's. -/
theorem splitB_splL (c : UInt8) (t : ByteArray) : Lib.splitB ⟨#[c]⟩ 0 (Lib.countB t ⟨#[c]⟩) t = splL t (c.toNat : Int) := by
  obtain ⟨h1, h2, h3⟩ := splL_joins (c := c) t.size t (Nat.le_refl _)
  have hc : Lib.countB t ⟨#[c]⟩ + 1 = (splL t (c.toNat : Int)).length := by
    have e : Lib.countB t ⟨#[c]⟩ = Lib.countFrom [c] ((toL t).length + 1) (toL t) := by
      show Lib.count _ _ = _
      unfold Lib.count toL
      simp
    rw [e, ← h3]
    exact count_joinC h1 h2 (by have := joinC_long c (splL t (c.toNat : Int)); omega)
  have hd := Lib.splitB_data ⟨#[c]⟩ 0 (Lib.countB t ⟨#[c]⟩) t
  have hs := splitK_joinC (n := Lib.countB t ⟨#[c]⟩) h1 h2 (by omega)
  rw [h3] at hs
  have hd2 : (Lib.splitB ⟨#[c]⟩ 0 (Lib.countB t ⟨#[c]⟩) t).map toL = (splL t (c.toNat : Int)).map toL := hd.trans (by simpa [toL] using hs)
  exact (List.map_inj_right (fun a b e => toL_inj e)).1 hd2
/-- The first piece, and those behind it. -/
theorem splL_cons {c : UInt8} {t p : ByteArray} {r : List UInt8} (ht : toL t = toL p ++ c :: r) (hp : c ∉ toL p) : splL t (c.toNat : Int) = p :: splL ⟨r.toArray⟩ (c.toNat : Int) := by
  have hi : Lib.indexB t ⟨#[c]⟩ = ((toL p).length : Nat) := by
    show Lib.index (toL t) [c] = _
    rw [ht]; exact index_at hp
  rw [← splitB_splL, ← splitB_splL, Lib.countB_hit t ⟨#[c]⟩ _ (show 1 ≤ (⟨#[c]⟩ : ByteArray).size from Nat.le_refl 1) hi, Nat.add_comm, Lib.splitB_hit _ _ _ _ _ hi]
  have e1 : t.extract 0 ((toL p).length + 0) = p := toL_inj (by rw [toL_extract, ht, Nat.add_zero, List.take_left, List.drop_zero])
  have e2 : t.extract ((toL p).length + (⟨#[c]⟩ : ByteArray).size) t.size = ⟨r.toArray⟩ := toL_inj (by
    rw [toL_extract, List.take_of_length_le (by rw [toL_len]; exact Nat.le_refl _), toL_mk, ht]
    show (toL p ++ c :: r).drop ((toL p).length + 1) = r
    rw [← List.drop_drop, List.drop_left]; rfl)
  rw [e1, e2]
end Go.Proofs.YtnflhahnbdnaoaaGreatDoor

/-
  Numbers in digits. Of no program's walk.
-/
namespace Go.Proofs.YtnflhahnbdnaoaaGreatDoor
set_option linter.unusedVariables false
set_option linter.unusedSimpArgs false
open Go.ChangeShapes Go.WideShapes Go.ChangeAt Go.RowKit Go.PlainAid

theorem dec_ten {n : Nat} (h : ¬ n < 10) : Lib.decDigits n = Lib.decDigits (n / 10) ++ [UInt8.ofNat (48 + n % 10)] := by
  rw [Lib.decDigits, dif_neg h]
/-- What is still to be written is n, D stands behind it. -/
def DecR (N m : Nat) (D : List UInt8) : Prop := (m = 0 → D = Lib.decDigits N) ∧ (m ≠ 0 → Lib.decDigits m ++ D = Lib.decDigits N)
theorem decR_step {N m : Nat} {D : List UInt8} (h : DecR N m D) (hm : m ≠ 0) : DecR N (m / 10) (UInt8.ofNat (48 + m % 10) :: D) := by
  have h2 := h.2 hm
  by_cases k : m < 10
  · rw [Lib.decDigits_one k] at h2
    refine ⟨fun _ => by rw [Nat.mod_eq_of_lt k]; exact h2, fun h0 => absurd (Nat.div_eq_of_lt k) h0⟩
  · rw [dec_ten k, List.append_assoc] at h2
    exact ⟨fun h0 => by omega, fun _ => h2⟩
theorem decR_len {N m : Nat} {D : List UInt8} (h : DecR N m D) (hN : (Lib.decDigits N).length ≤ 21) : D.length ≤ 21 := by
  by_cases k : m = 0
  · rw [h.1 k]; exact hN
  · have := congrArg List.length (h.2 k); simp at this; omega
theorem dec_len (N : Nat) (h : N ≤ 9223372036854775807) : (Lib.decDigits N).length ≤ 21 := by
  have := Lib.itoa_length_le (N : Int) (by omega) (by omega)
  have e : Lib.itoa (N : Int) = Lib.decDigits N := by unfold Lib.itoa; rw [if_neg (by omega)]; simp
  rw [e] at this; exact this

theorem ret_str {a b : ByteArray} (h : a = b) : Ending.returned (.string a) = .returned (.string b) := by rw [h]
theorem str_cat (b : UInt8) (D : List UInt8) : (⟨#[b]⟩ : ByteArray) ++ ⟨D.toArray⟩ = ⟨(b :: D).toArray⟩ := by
  apply ByteArray.ext; rw [ByteArray.data_append]; simp

end Go.Proofs.YtnflhahnbdnaoaaGreatDoor

/-
  A time's digits without needless noughts. Of no program's walk.
-/
namespace Go.Proofs.YtnflhahnbdnaoaaGreatDoor
set_option linter.unusedVariables false
set_option linter.unusedSimpArgs false
open Go.ChangeShapes Go.WideShapes Go.ChangeAt Go.RowKit Go.PlainAid

def tlF (a : Nat) (l : List UInt8) : Nat := l.foldl (fun a x => a * 10 + (x.toNat - 48)) a
def tlD (l : List UInt8) : Prop := ∀ x ∈ l, 48 ≤ x.toNat ∧ x.toNat ≤ 57
theorem tlF_snoc (a : Nat) (l : List UInt8) (x : UInt8) : tlF a (l ++ [x]) = tlF a l * 10 + (x.toNat - 48) := by unfold tlF; rw [List.foldl_append]; rfl
theorem tlF_cons (a : Nat) (l : List UInt8) (x : UInt8) : tlF a (x :: l) = tlF (a * 10 + (x.toNat - 48)) l := by unfold tlF; rw [List.foldl_cons]
theorem tlF_le : ∀ (l : List UInt8) (a : Nat), a ≤ tlF a l
  | [], a => Nat.le_refl _
  | x :: l, a => by rw [tlF_cons]; have := tlF_le l (a * 10 + (x.toNat - 48)); omega
theorem ofNat_digit {d : Nat} (h : d < 10) : (UInt8.ofNat (48 + d)).toNat = 48 + d := by
  rw [UInt8.toNat_ofNat']; exact Nat.mod_eq_of_lt (by omega)
theorem digit_ofNat {x : UInt8} (h : 48 ≤ x.toNat ∧ x.toNat ≤ 57) : UInt8.ofNat (48 + (x.toNat - 48)) = x := by
  apply UInt8.toNat_inj.1
  rw [ofNat_digit (by omega)]; omega
/-- Digits without needless noughts are those of their number. -/
theorem dec_of : ∀ (n : Nat) (l : List UInt8), l.length = n + 1 → tlD l → (1 < l.length → l[0]? ≠ some 48) → Lib.decDigits (tlF 0 l) = l
  | 0, l, hl, hd, _ => by
    obtain ⟨x, rfl⟩ := List.length_eq_one_iff.1 hl
    have hx := hd x (by simp)
    have e : tlF 0 [x] = x.toNat - 48 := by simp [tlF]
    rw [e, Lib.decDigits_one (by omega), digit_ofNat hx]
  | n + 1, l, hl, hd, h0 => by
    rcases List.eq_nil_or_concat l with rfl | ⟨l', x, rfl⟩
    · simp at hl
    · rw [List.concat_eq_append] at hl hd h0 ⊢
      have hl' : l'.length = n + 1 := by simpa using hl
      have hx := hd x (by simp)
      have hd' : tlD l' := fun y hy => hd y (List.mem_append_left _ hy)
      have h00 : l'[0]? ≠ some 48 := by
        have := h0 (by simp; omega)
        rwa [List.getElem?_append_left (by omega)] at this
      have ih := dec_of n l' hl' hd' (fun _ => h00)
      have hpos : 1 ≤ tlF 0 l' := by
        cases l' with
        | nil => simp at hl'
        | cons y r =>
          rw [tlF_cons]
          have hy := hd' y (by simp)
          have hne : y ≠ 48 := fun e => h00 (by rw [e]; rfl)
          have hyn : y.toNat ≠ 48 := fun e => hne (UInt8.toNat_inj.1 e)
          have := tlF_le r (0 * 10 + (y.toNat - 48))
          omega
      rw [tlF_snoc, dec_ten (by omega), show (tlF 0 l' * 10 + (x.toNat - 48)) / 10 = tlF 0 l' by omega, show (tlF 0 l' * 10 + (x.toNat - 48)) % 10 = x.toNat - 48 by omega, ih, digit_ofNat hx]
theorem dec_digs (n : Nat) : tlD (Lib.decDigits n) ∧ tlF 0 (Lib.decDigits n) = n ∧ 1 ≤ (Lib.decDigits n).length := by
  induction n using Nat.strongRecOn with
  | _ n ih =>
    by_cases h : n < 10
    · rw [Lib.decDigits_one h]
      refine ⟨fun x hx => ?_, ?_, by simp⟩
      · rw [List.mem_singleton.1 hx, ofNat_digit h]; omega
      · show 0 * 10 + ((UInt8.ofNat (48 + n)).toNat - 48) = n
        rw [ofNat_digit h]; omega
    · obtain ⟨i1, i2, i3⟩ := ih (n / 10) (by omega)
      rw [dec_ten h]
      refine ⟨fun x hx => ?_, ?_, by simp⟩
      · rcases List.mem_append.1 hx with hx | hx
        · exact i1 x hx
        · rw [List.mem_singleton.1 hx, ofNat_digit (Nat.mod_lt n (by omega))]; have := Nat.mod_lt n (show 10 > 0 by omega); omega
      · rw [tlF_snoc, i2, ofNat_digit (Nat.mod_lt n (by omega))]; omega
theorem parse_digs : ∀ (l : List UInt8) (a : Nat), tlD l → tlF a l ≤ 1000000000000 → Lib.parseUintM (2 ^ 64 - 1) a l = .ok (tlF a l)
  | [], a, _, _ => rfl
  | x :: l, a, hd, hm => by
    have hx := hd x (by simp)
    rw [tlF_cons] at hm ⊢
    have h1 := tlF_le l (a * 10 + (x.toNat - 48))
    unfold Lib.parseUintM
    rw [if_pos hx, if_neg (by omega), if_neg (by omega)]
    exact parse_digs l _ (fun y hy => hd y (List.mem_cons_of_mem _ hy)) hm
/-- What a time's text tells. -/
def TimP (t : ByteArray) (n : Nat) : Prop := toL t = Lib.decDigits n ∧ n ≤ 1000000000
theorem TimP.one {t : ByteArray} {n m : Nat} (h : TimP t n) (k : TimP t m) : n = m := by
  have := h.1.symm.trans k.1
  have e := congrArg (tlF 0) this
  rwa [(dec_digs n).2.1, (dec_digs m).2.1] at e
theorem TimP.parse {t : ByteArray} {n : Nat} (h : TimP t n) : Lib.parseUintB 64 (toL t) = .ok n := by
  obtain ⟨h1, h2, h3⟩ := dec_digs n
  unfold Lib.parseUintB
  rw [h.1, if_neg (fun e => by rw [e] at h3; simp at h3)]
  have := parse_digs (Lib.decDigits n) 0 h1 (by rw [h2]; have := h.2; omega)
  rw [this, h2]
theorem dec_lenL : ∀ (k n : Nat), n < 10 ^ (k + 1) → (Lib.decDigits n).length ≤ k + 1
  | 0, n, h => by rw [Lib.decDigits_one (by simpa using h)]; simp
  | k + 1, n, h => by
    by_cases hn : n < 10
    · rw [Lib.decDigits_one hn]; simp
    · rw [dec_ten hn, List.length_append]
      have := dec_lenL k (n / 10) (by rw [Nat.pow_succ] at h; omega)
      simp only [List.length_cons, List.length_nil]; omega
theorem dec_head (n : Nat) : 1 < (Lib.decDigits n).length → (Lib.decDigits n)[0]? ≠ some 48 := by
  induction n using Nat.strongRecOn with
  | _ n ih =>
    by_cases h : n < 10
    · rw [Lib.decDigits_one h]; intro hl; simp at hl
    · intro _
      have h3 := (dec_digs (n / 10)).2.2
      rw [dec_ten h, List.getElem?_append_left (by omega)]
      by_cases h2 : n / 10 < 10
      · rw [Lib.decDigits_one h2]
        intro e
        have e2 : UInt8.ofNat (48 + n / 10) = 48 := by simpa using e
        have e3 := congrArg UInt8.toNat e2
        rw [ofNat_digit h2] at e3
        have : (48 : UInt8).toNat = 48 := rfl
        omega
      · refine ih (n / 10) (by omega) ?_
        have h4 := (dec_digs (n / 10 / 10)).2.2
        rw [dec_ten h2, List.length_append]; simp only [List.length_cons, List.length_nil]; omega
/-- Of the model's tests. -/
theorem TimP.spec {t : ByteArray} : (∃ n, TimP t n) ↔ 1 ≤ t.size ∧ t.size ≤ 10 ∧ (1 < t.size → bt t 0 ≠ 48) ∧ tlD (toL t) ∧ tlF 0 (toL t) ≤ 1000000000 := by
  constructor
  · rintro ⟨n, h, hn⟩
    obtain ⟨h1, h2, h3⟩ := dec_digs n
    have hl : t.size = (Lib.decDigits n).length := by rw [← h, toL_len]
    refine ⟨by omega, ?_, fun hs e => ?_, by rw [h]; exact h1, by rw [h, h2]; exact hn⟩
    · rw [hl]; exact dec_lenL 9 n (Nat.lt_of_le_of_lt hn (by decide))
    · refine dec_head n (by omega) ?_
      rw [← h]
      rw [bt_toL] at e
      have h4 : 0 < (toL t).length := by rw [toL_len]; omega
      rw [List.getElem?_eq_getElem h4] at e ⊢
      have e1 : (toL t)[0].toNat = 48 := by
        simp only [Option.map_some, Option.getD_some] at e
        omega
      exact congrArg some (UInt8.toNat_inj.1 e1)
  · rintro ⟨h1, h2, h3, h4, h5⟩
    refine ⟨tlF 0 (toL t), (dec_of (t.size - 1) (toL t) (by rw [toL_len]; omega) h4 (fun hl e => ?_)).symm, h5⟩
    rw [toL_len] at hl
    refine h3 hl ?_
    rw [bt_toL, e]; rfl
end Go.Proofs.YtnflhahnbdnaoaaGreatDoor
