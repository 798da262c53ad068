/-
  Plain facts: a value is read back from its text; the text of what is read is no longer. Of no program.
-/
import Derived.Test.YtohjpaokjhifoaaDoorMathP
import Derived.Test.YtohjpaokjhifoaaDoorVTextS
namespace Go.Proofs.YtohjpaokjhifoaaDoor
set_option linter.unusedVariables false
set_option linter.unusedSimpArgs false
open Go.RowKit Go.PlainAid

def nm (x : UInt8) : Int := (x.toNat : Int) - 48
def valL (l : List UInt8) : Int := l.foldl (fun a x => a * 10 + nm x) 0
theorem valL_snoc (l : List UInt8) (x : UInt8) : valL (l ++ [x]) = valL l * 10 + nm x := by unfold valL; rw [List.foldl_append]; rfl
theorem bt_at (l : List UInt8) (j : Nat) (h : j < l.length) : bt ⟨l.toArray⟩ j = (l[j].toNat : Int) := by
  unfold bt
  rw [dif_pos (show j < ByteArray.size ⟨l.toArray⟩ from h)]
  rfl
theorem bt_in (a l b : List UInt8) (j : Nat) (h : j < l.length) : bt ⟨(a ++ l ++ b).toArray⟩ (a.length + j) = (l[j].toNat : Int) := by
  rw [bt_at _ _ (by simp; omega)]
  congr 2
  rw [List.getElem_append_left (by simp; omega), List.getElem_append_right (by omega)]
  congr 1; omega
theorem valD_in (a l b : List UInt8) : ∀ n, n ≤ l.length → valD ⟨(a ++ l ++ b).toArray⟩ a.length n = valL (l.take n)
  | 0, _ => rfl
  | n + 1, h => by
    show valD _ _ n * 10 + (bt _ (a.length + n) - 48) = _
    rw [valD_in a l b n (by omega), bt_in a l b n (by omega), List.take_succ_eq_append_getElem (by omega), valL_snoc]; rfl
def digL (l : List UInt8) : Prop := ∀ x ∈ l, 48 ≤ x.toNat ∧ x.toNat ≤ 57
theorem dig_in (a l b : List UInt8) (h : digL l) : dig ⟨(a ++ l ++ b).toArray⟩ a.length l.length := fun j hj => by
  rw [bt_in a l b j hj]; have := h l[j] (List.getElem_mem hj); omega
theorem dgt_nat : ∀ {x : Nat}, x < 10 → (dgt x).toNat = 48 + x := by decide

theorem dec_dig : ∀ n, digL (Lib.decDigits n) := by
  intro n
  induction n using Nat.strongRecOn with
  | _ n ih =>
    by_cases h : n < 10
    · rw [Lib.decDigits_one h]; intro x hx; rw [List.mem_singleton.1 hx]; have := dgt_nat h; unfold dgt at this; omega
    · rw [dec_ten h]
      intro x hx
      rcases List.mem_append.1 hx with k | k
      · exact ih (n / 10) (by omega) x k
      · rw [List.mem_singleton.1 k]; have := dgt_nat (Nat.mod_lt n (show 10 > 0 by omega)); unfold dgt at this; omega
theorem dec_val : ∀ n : Nat, valL (Lib.decDigits n) = (n : Int) := by
  intro n
  induction n using Nat.strongRecOn with
  | _ n ih =>
    by_cases h : n < 10
    · rw [Lib.decDigits_one h]; have := dgt_nat h; unfold dgt at this
      show (0 : Int) * 10 + nm _ = _
      unfold nm; omega
    · rw [dec_ten h, valL_snoc, ih (n / 10) (by omega)]
      have := dgt_nat (Nat.mod_lt n (show 10 > 0 by omega)); unfold dgt at this
      unfold nm; omega
theorem dec_len_le : ∀ (k n : Nat), 1 ≤ k → n < 10 ^ k → (Lib.decDigits n).length ≤ k
  | 0, _, h, _ => by omega
  | k + 1, n, _, h => by
    by_cases h10 : n < 10
    · rw [Lib.decDigits_one h10]; simp
    · have hk : 1 ≤ k := by
        rcases Nat.eq_zero_or_pos k with e | e
        · subst e; simp at h; omega
        · exact e
      rw [dec_ten h10, List.length_append]
      have := dec_len_le k (n / 10) hk (by rw [Nat.pow_succ] at h; omega)
      simp; omega
theorem dec_pos (n : Nat) : 1 ≤ (Lib.decDigits n).length := by
  by_cases h : n < 10
  · rw [Lib.decDigits_one h]; simp
  · rw [dec_ten h]; simp
theorem dec_lead : ∀ n : Nat, 0 < n → ∀ h : 0 < (Lib.decDigits n).length, (Lib.decDigits n)[0] ≠ 48 := by
  intro n
  induction n using Nat.strongRecOn with
  | _ n ih =>
    intro hn h
    by_cases h10 : n < 10
    · simp only [Lib.decDigits_one h10, List.getElem_singleton]
      intro e
      have := dgt_zero h10 e; omega
    · simp only [dec_ten h10]
      rw [List.getElem_append_left (dec_pos (n / 10))]
      exact ih (n / 10) (by omega) (by omega) _
theorem valL_zeros (l : List UInt8) : ∀ z, valL (l ++ List.replicate z 48) = valL l * 10 ^ z
  | 0 => by simp
  | z + 1 => by
    rw [List.replicate_succ', ← List.append_assoc, valL_snoc, valL_zeros l z, Int.pow_succ]
    show valL l * 10 ^ z * 10 + nm 48 = _
    have : nm 48 = 0 := rfl
    rw [this, Int.add_zero, Int.mul_assoc]
theorem tw_all (p : UInt8 → Bool) : ∀ (l : List UInt8) (x : UInt8), x ∈ l.takeWhile p → p x = true
  | [], x, h => by cases h
  | y :: l, x, h => by
    rw [List.takeWhile_cons] at h
    split at h
    · rename_i hy
      rcases List.mem_cons.1 h with e | e
      · rw [e]; exact hy
      · exact tw_all p l x e
    · cases h
theorem trim_split (l : List UInt8) (c : UInt8) : ∃ z, l = Lib.trimRightB l c ++ List.replicate z c := by
  have h := List.takeWhile_append_dropWhile (p := (· == c)) (l := l.reverse)
  have h2 : l.reverse.takeWhile (· == c) = List.replicate (l.reverse.takeWhile (· == c)).length c := by
    rw [List.eq_replicate_iff]
    refine ⟨rfl, fun b hb => ?_⟩
    have := tw_all _ _ _ hb
    simpa using this
  refine ⟨(l.reverse.takeWhile (· == c)).length, ?_⟩
  unfold Lib.trimRightB
  have h3 := congrArg List.reverse h
  rw [List.reverse_append, List.reverse_reverse, h2, List.reverse_replicate] at h3
  exact h3.symm
theorem six_val {r : Nat} (h : r < 1000000) : valL (six r) = (r : Int) := by
  have a1 := dgt_nat (Nat.mod_lt (r / 100000) (show 10 > 0 by omega))
  have a2 := dgt_nat (Nat.mod_lt (r / 10000) (show 10 > 0 by omega))
  have a3 := dgt_nat (Nat.mod_lt (r / 1000) (show 10 > 0 by omega))
  have a4 := dgt_nat (Nat.mod_lt (r / 100) (show 10 > 0 by omega))
  have a5 := dgt_nat (Nat.mod_lt (r / 10) (show 10 > 0 by omega))
  have a6 := dgt_nat (Nat.mod_lt r (show 10 > 0 by omega))
  show (((((((0 : Int) * 10 + nm _) * 10 + nm _) * 10 + nm _) * 10 + nm _) * 10 + nm _) * 10 + nm _) = _
  unfold nm
  omega
theorem six_dig (r : Nat) : digL (six r) := by
  have hd : ∀ y : Nat, 48 ≤ (dgt (y % 10)).toNat ∧ (dgt (y % 10)).toNat ≤ 57 := fun y => by have := dgt_nat (Nat.mod_lt y (show 10 > 0 by omega)); omega
  intro x hx
  simp only [six, List.mem_cons, List.not_mem_nil, or_false] at hx
  rcases hx with rfl | rfl | rfl | rfl | rfl | rfl
  · exact hd _
  · exact hd _
  · exact hd _
  · exact hd _
  · exact hd _
  · exact hd _
/-- The part's digits: how many, and their number. -/
theorem part_val {r : Nat} (h : r < 1000000) (h0 : r ≠ 0) : ∃ p, (Lib.trimRightB (six r) 48).length = p ∧ 1 ≤ p ∧ p ≤ 6 ∧ digL (Lib.trimRightB (six r) 48) ∧ valL (Lib.trimRightB (six r) 48) * 10 ^ (6 - p) = (r : Int) := by
  obtain ⟨z, hz⟩ := trim_split (six r) 48
  have hl : (six r).length = 6 := rfl
  have hlen : (Lib.trimRightB (six r) 48).length + z = 6 := by
    have := congrArg List.length hz
    rw [List.length_append, List.length_replicate, hl] at this; omega
  refine ⟨_, rfl, ?_, by omega, fun x hx => six_dig r x (by rw [hz]; exact List.mem_append_left _ hx), ?_⟩
  · rcases Nat.eq_zero_or_pos (Lib.trimRightB (six r) 48).length with e | e
    · have e' := List.eq_nil_of_length_eq_zero e
      have hv := six_val h
      rw [hz, e', valL_zeros] at hv
      have : valL [] = 0 := rfl
      rw [this] at hv; omega
    · exact e
  · rw [show 6 - (Lib.trimRightB (six r) 48).length = z by omega, ← valL_zeros, ← hz]; exact six_val h

/-- What stands behind the sign. -/
def bodyL (n : Nat) : List UInt8 := if n % 1000000 = 0 then Lib.decDigits (n / 1000000) else Lib.decDigits (n / 1000000) ++ 46 :: Lib.trimRightB (six (n % 1000000)) 48
theorem body_parse {n : Nat} (hn : n ≤ 999999999999999999) : Parse ⟨(bodyL n).toArray⟩ 0 (n : Int) := by
  have hq : n / 1000000 < 10 ^ 12 := by omega
  have hl := dec_len_le 12 (n / 1000000) (by omega) hq
  have hp := dec_pos (n / 1000000)
  have key : ∀ b : List UInt8, Whole ⟨(Lib.decDigits (n / 1000000) ++ b).toArray⟩ 0 (Lib.decDigits (n / 1000000)).length ∧ valD ⟨(Lib.decDigits (n / 1000000) ++ b).toArray⟩ 0 (Lib.decDigits (n / 1000000)).length = ((n / 1000000 : Nat) : Int) := fun b => by
    have hd := dig_in [] (Lib.decDigits (n / 1000000)) b (dec_dig _)
    have hv := valD_in [] (Lib.decDigits (n / 1000000)) b _ (Nat.le_refl _)
    rw [List.take_length, dec_val] at hv
    refine ⟨⟨hp, hl, hd, fun ⟨h1, h48⟩ => ?_⟩, hv⟩
    have hb := bt_in [] (Lib.decDigits (n / 1000000)) b 0 hp
    rcases Nat.eq_zero_or_pos (n / 1000000) with e | e
    · rw [e, Lib.decDigits_one (by omega)] at h1; simp at h1
    · apply dec_lead _ e hp
      apply UInt8.toNat_inj.1
      have e48 : (48 : UInt8).toNat = 48 := rfl
      have hb' : bt ⟨(Lib.decDigits (n / 1000000) ++ b).toArray⟩ 0 = ((Lib.decDigits (n / 1000000))[0].toNat : Int) := hb
      rw [h48] at hb'; omega
  unfold bodyL
  split
  · rename_i h0
    obtain ⟨hw, hv⟩ := key []
    rw [List.append_nil] at hw hv
    refine ⟨_, hw, .inl ⟨by rw [Nat.zero_add]; rfl, ?_⟩⟩
    rw [hv]; omega
  · rename_i h0
    obtain ⟨p, hlen, h1, h6, hdg, hval⟩ := part_val (Nat.mod_lt n (show 1000000 > 0 by omega)) h0
    obtain ⟨hw, hv⟩ := key (46 :: Lib.trimRightB (six (n % 1000000)) 48)
    have ea : Lib.decDigits (n / 1000000) ++ 46 :: Lib.trimRightB (six (n % 1000000)) 48 = (Lib.decDigits (n / 1000000) ++ [46]) ++ Lib.trimRightB (six (n % 1000000)) 48 ++ [] := by simp
    have hd2 := dig_in (Lib.decDigits (n / 1000000) ++ [46]) (Lib.trimRightB (six (n % 1000000)) 48) [] hdg
    have hv2 := valD_in (Lib.decDigits (n / 1000000) ++ [46]) (Lib.trimRightB (six (n % 1000000)) 48) [] _ (Nat.le_refl _)
    rw [List.take_length, ← ea, List.length_append, hlen] at hv2
    rw [← ea, List.length_append, hlen] at hd2
    have h46 := bt_in (Lib.decDigits (n / 1000000)) [46] (Lib.trimRightB (six (n % 1000000)) 48) 0 (by simp)
    rw [List.append_assoc] at h46
    refine ⟨_, hw, .inr ⟨p, h1, h6, ?_, ?_, ?_, ?_⟩⟩
    · show 0 + (Lib.decDigits (n / 1000000)).length + 1 + p = (Lib.decDigits (n / 1000000) ++ 46 :: Lib.trimRightB (six (n % 1000000)) 48).length
      rw [List.length_append, List.length_cons, hlen]; omega
    · rw [Nat.zero_add]; exact h46
    · rw [Nat.zero_add]; exact hd2
    · rw [pow_num p h1 h6, hv, Nat.zero_add]
      have e1 : valD ⟨(Lib.decDigits (n / 1000000) ++ 46 :: Lib.trimRightB (six (n % 1000000)) 48).toArray⟩ ((Lib.decDigits (n / 1000000)).length + 1) p = valL (Lib.trimRightB (six (n % 1000000)) 48) := hv2
      rw [e1, hval]; omega
end Go.Proofs.YtohjpaokjhifoaaDoor
