/-
  A time's digits without needless noughts. Of no program's walk.
-/
import Derived.Test.YtljngkjhhkccgaaGreatDoorLnM
import Derived.Test.YtljngkjhhkccgaaGreatDoorDecM
import Derived.Lib.ParseIntB
import Derived.Lib.ItoaNum
namespace Go.Proofs.YtljngkjhhkccgaaGreatDoor
set_option linter.unusedVariables false
set_option linter.unusedSimpArgs false
open Go.ChangeShapes Go.WideShapes Go.ChangeAt Go.RowKit Go.PlainAid

def tlF (a : Nat) (l : List UInt8) : Nat := l.foldl (fun a x => a * 10 + (x.toNat - 48)) a
def tlD (l : List UInt8) : Prop := ∀ x ∈ l, 48 ≤ x.toNat ∧ x.toNat ≤ 57
theorem tlF_snoc (a : Nat) (l : List UInt8) (x : UInt8) : tlF a (l ++ [x]) = tlF a l * 10 + (x.toNat - 48) := by unfold tlF; rw [List.foldl_append]; rfl
theorem tlF_cons (a : Nat) (l : List UInt8) (x : UInt8) : tlF a (x :: l) = tlF (a * 10 + (x.toNat - 48)) l := by unfold tlF; rw [List.foldl_cons]
theorem tlF_le : ∀ (l : List UInt8) (a : Nat), a ≤ tlF a l
  | [], a => Nat.le_refl _
  | x :: l, a => by rw [tlF_cons]; have := tlF_le l (a * 10 + (x.toNat - 48)); omega
theorem ofNat_digit {d : Nat} (h : d < 10) : (UInt8.ofNat (48 + d)).toNat = 48 + d := by
  rw [UInt8.toNat_ofNat']; exact Nat.mod_eq_of_lt (by omega)
theorem digit_ofNat {x : UInt8} (h : 48 ≤ x.toNat ∧ x.toNat ≤ 57) : UInt8.ofNat (48 + (x.toNat - 48)) = x := by
  apply UInt8.toNat_inj.1
  rw [ofNat_digit (by omega)]; omega
/-- Digits without needless noughts are those of their number. -/
theorem dec_of : ∀ (n : Nat) (l : List UInt8), l.length = n + 1 → tlD l → (1 < l.length → l[0]? ≠ some 48) → Lib.decDigits (tlF 0 l) = l
  | 0, l, hl, hd, _ => by
    obtain ⟨x, rfl⟩ := List.length_eq_one_iff.1 hl
    have hx := hd x (by simp)
    have e : tlF 0 [x] = x.toNat - 48 := by simp [tlF]
    rw [e, Lib.decDigits_one (by omega), digit_ofNat hx]
  | n + 1, l, hl, hd, h0 => by
    rcases List.eq_nil_or_concat l with rfl | ⟨l', x, rfl⟩
    · simp at hl
    · rw [List.concat_eq_append] at hl hd h0 ⊢
      have hl' : l'.length = n + 1 := by simpa using hl
      have hx := hd x (by simp)
      have hd' : tlD l' := fun y hy => hd y (List.mem_append_left _ hy)
      have h00 : l'[0]? ≠ some 48 := by
        have := h0 (by simp; omega)
        rwa [List.getElem?_append_left (by omega)] at this
      have ih := dec_of n l' hl' hd' (fun _ => h00)
      have hpos : 1 ≤ tlF 0 l' := by
        cases l' with
        | nil => simp at hl'
        | cons y r =>
          rw [tlF_cons]
          have hy := hd' y (by simp)
          have hne : y ≠ 48 := fun e => h00 (by rw [e]; rfl)
          have hyn : y.toNat ≠ 48 := fun e => hne (UInt8.toNat_inj.1 e)
          have := tlF_le r (0 * 10 + (y.toNat - 48))
          omega
      rw [tlF_snoc, dec_ten (by omega), show (tlF 0 l' * 10 + (x.toNat - 48)) / 10 = tlF 0 l' by omega, show (tlF 0 l' * 10 + (x.toNat - 48)) % 10 = x.toNat - 48 by omega, ih, digit_ofNat hx]
theorem dec_digs (n : Nat) : tlD (Lib.decDigits n) ∧ tlF 0 (Lib.decDigits n) = n ∧ 1 ≤ (Lib.decDigits n).length := by
  induction n using Nat.strongRecOn with
  | _ n ih =>
    by_cases h : n < 10
    · rw [Lib.decDigits_one h]
      refine ⟨fun x hx => ?_, ?_, by simp⟩
      · rw [List.mem_singleton.1 hx, ofNat_digit h]; omega
      · show 0 * 10 + ((UInt8.ofNat (48 + n)).toNat - 48) = n
        rw [ofNat_digit h]; omega
    · obtain ⟨i1, i2, i3⟩ := ih (n / 10) (by omega)
      rw [dec_ten h]
      refine ⟨fun x hx => ?_, ?_, by simp⟩
      · rcases List.mem_append.1 hx with hx | hx
        · exact i1 x hx
        · rw [List.mem_singleton.1 hx, ofNat_digit (Nat.mod_lt n (by omega))]; have := Nat.mod_lt n (show 10 > 0 by omega); omega
      · rw [tlF_snoc, i2, ofNat_digit (Nat.mod_lt n (by omega))]; omega
theorem parse_digs : ∀ (l : List UInt8) (a : Nat), tlD l → tlF a l ≤ 1000000000000 → Lib.parseUintM (2 ^ 64 - 1) a l = .ok (tlF a l)
  | [], a, _, _ => rfl
  | x :: l, a, hd, hm => by
    have hx := hd x (by simp)
    rw [tlF_cons] at hm ⊢
    have h1 := tlF_le l (a * 10 + (x.toNat - 48))
    unfold Lib.parseUintM
    rw [if_pos hx, if_neg (by omega), if_neg (by omega)]
    exact parse_digs l _ (fun y hy => hd y (List.mem_cons_of_mem _ hy)) hm
/-- What a time's text tells. -/
def TimP (t : ByteArray) (n : Nat) : Prop := toL t = Lib.decDigits n ∧ n ≤ 1000000000
theorem TimP.one {t : ByteArray} {n m : Nat} (h : TimP t n) (k : TimP t m) : n = m := by
  have := h.1.symm.trans k.1
  have e := congrArg (tlF 0) this
  rwa [(dec_digs n).2.1, (dec_digs m).2.1] at e
theorem TimP.parse {t : ByteArray} {n : Nat} (h : TimP t n) : Lib.parseUintB 64 (toL t) = .ok n := by
  obtain ⟨h1, h2, h3⟩ := dec_digs n
  unfold Lib.parseUintB
  rw [h.1, if_neg (fun e => by rw [e] at h3; simp at h3)]
  have := parse_digs (Lib.decDigits n) 0 h1 (by rw [h2]; have := h.2; omega)
  rw [this, h2]
theorem dec_lenL : ∀ (k n : Nat), n < 10 ^ (k + 1) → (Lib.decDigits n).length ≤ k + 1
  | 0, n, h => by rw [Lib.decDigits_one (by simpa using h)]; simp
  | k + 1, n, h => by
    by_cases hn : n < 10
    · rw [Lib.decDigits_one hn]; simp
    · rw [dec_ten hn, List.length_append]
      have := dec_lenL k (n / 10) (by rw [Nat.pow_succ] at h; omega)
      simp only [List.length_cons, List.length_nil]; omega
theorem dec_head (n : Nat) : 1 < (Lib.decDigits n).length → (Lib.decDigits n)[0]? ≠ some 48 := by
  induction n using Nat.strongRecOn with
  | _ n ih =>
    by_cases h : n < 10
    · rw [Lib.decDigits_one h]; intro hl; simp at hl
    · intro _
      have h3 := (dec_digs (n / 10)).2.2
      rw [dec_ten h, List.getElem?_append_left (by omega)]
      by_cases h2 : n / 10 < 10
      · rw [Lib.decDigits_one h2]
        intro e
        have e2 : UInt8.ofNat (48 + n / 10) = 48 := by simpa using e
        have e3 := congrArg UInt8.toNat e2
        rw [ofNat_digit h2] at e3
        have : (48 : UInt8).toNat = 48 := rfl
        omega
      · refine ih (n / 10) (by omega) ?_
        have h4 := (dec_digs (n / 10 / 10)).2.2
        rw [dec_ten h2, List.length_append]; simp only [List.length_cons, List.length_nil]; omega
/-- Of the model's tests. -/
theorem TimP.spec {t : ByteArray} : (∃ n, TimP t n) ↔ 1 ≤ t.size ∧ t.size ≤ 10 ∧ (1 < t.size → bt t 0 ≠ 48) ∧ tlD (toL t) ∧ tlF 0 (toL t) ≤ 1000000000 := by
  constructor
  · rintro ⟨n, h, hn⟩
    obtain ⟨h1, h2, h3⟩ := dec_digs n
    have hl : t.size = (Lib.decDigits n).length := by rw [← h, toL_len]
    refine ⟨by omega, ?_, fun hs e => ?_, by rw [h]; exact h1, by rw [h, h2]; exact hn⟩
    · rw [hl]; exact dec_lenL 9 n (Nat.lt_of_le_of_lt hn (by decide))
    · refine dec_head n (by omega) ?_
      rw [← h]
      rw [bt_toL] at e
      have h4 : 0 < (toL t).length := by rw [toL_len]; omega
      rw [List.getElem?_eq_getElem h4] at e ⊢
      have e1 : (toL t)[0].toNat = 48 := by
        simp only [Option.map_some, Option.getD_some] at e
        omega
      exact congrArg some (UInt8.toNat_inj.1 e1)
  · rintro ⟨h1, h2, h3, h4, h5⟩
    refine ⟨tlF 0 (toL t), (dec_of (t.size - 1) (toL t) (by rw [toL_len]; omega) h4 (fun hl e => ?_)).symm, h5⟩
    rw [toL_len] at hl
    refine h3 hl ?_
    rw [bt_toL, e]; rfl
end Go.Proofs.YtljngkjhhkccgaaGreatDoor
