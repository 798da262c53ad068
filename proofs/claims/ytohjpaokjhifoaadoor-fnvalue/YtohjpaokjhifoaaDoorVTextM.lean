/-
  Plain facts: a value's text in digits. Of no program.
-/
import Derived.Test.YtohjpaokjhifoaaDoorDecC
import Derived.Lib.TrimByte
import Derived.Lib.PathFns
namespace Go.Proofs.YtohjpaokjhifoaaDoor
set_option linter.unusedVariables false
set_option linter.unusedSimpArgs false
open Go.RowKit Go.PlainAid

def dgt (x : Nat) : UInt8 := UInt8.ofNat (48 + x)
theorem dgt_zero : ∀ {x : Nat}, x < 10 → dgt x = 48 → x = 0 := by decide
/-- The six digits of a part. -/
def six (r : Nat) : List UInt8 := [dgt (r / 100000 % 10), dgt (r / 10000 % 10), dgt (r / 1000 % 10), dgt (r / 100 % 10), dgt (r / 10 % 10), dgt (r % 10)]
theorem dec7 {r : Nat} (h : r < 1000000) : Lib.decDigits (1000000 + r) = 49 :: six r := by
  have st : ∀ a b : Nat, 1 ≤ a → Lib.decDigits (10 * a + b) = Lib.decDigits (a + b / 10) ++ [dgt (b % 10)] := fun a b ha => by
    rw [dec_ten (by omega), show (10 * a + b) / 10 = a + b / 10 by omega, show (10 * a + b) % 10 = b % 10 by omega]; rfl
  rw [show 1000000 + r = 10 * 100000 + r by omega, st _ _ (by omega), show 100000 + r / 10 = 10 * 10000 + r / 10 by omega, st _ _ (by omega), Nat.div_div_eq_div_mul,
    show 10000 + r / (10 * 10) = 10 * 1000 + r / 100 by omega, st _ _ (by omega), Nat.div_div_eq_div_mul,
    show 1000 + r / (100 * 10) = 10 * 100 + r / 1000 by omega, st _ _ (by omega), Nat.div_div_eq_div_mul,
    show 100 + r / (1000 * 10) = 10 * 10 + r / 10000 by omega, st _ _ (by omega), Nat.div_div_eq_div_mul,
    show 10 + r / (10000 * 10) = 10 * 1 + r / 100000 by omega, st _ _ (by omega), Nat.div_div_eq_div_mul,
    show 1 + r / (100000 * 10) = 1 by omega, Lib.decDigits_one (by omega)]
  rfl
theorem six_some {r : Nat} (h : r < 1000000) (h0 : r ≠ 0) : ∃ x ∈ six r, x ≠ 48 := by
  refine Classical.byContradiction fun hn => h0 ?_
  have hall : ∀ x ∈ six r, x = 48 := fun x hx => Classical.byContradiction fun hne => hn ⟨x, hx, hne⟩
  have a1 := dgt_zero (Nat.mod_lt _ (by omega)) (hall (dgt (r / 100000 % 10)) (by simp [six]))
  have a2 := dgt_zero (Nat.mod_lt _ (by omega)) (hall (dgt (r / 10000 % 10)) (by simp [six]))
  have a3 := dgt_zero (Nat.mod_lt _ (by omega)) (hall (dgt (r / 1000 % 10)) (by simp [six]))
  have a4 := dgt_zero (Nat.mod_lt _ (by omega)) (hall (dgt (r / 100 % 10)) (by simp [six]))
  have a5 := dgt_zero (Nat.mod_lt _ (by omega)) (hall (dgt (r / 10 % 10)) (by simp [six]))
  have a6 := dgt_zero (Nat.mod_lt _ (by omega)) (hall (dgt (r % 10)) (by simp [six]))
  omega
theorem trim_snoc_hit (L : List UInt8) (c : UInt8) : Lib.trimRightB (L ++ [c]) c = Lib.trimRightB L c := by
  unfold Lib.trimRightB; rw [List.reverse_append]; simp
theorem trim_snoc_miss (L : List UInt8) (x c : UInt8) (h : x ≠ c) : Lib.trimRightB (L ++ [x]) c = L ++ [x] := by
  unfold Lib.trimRightB; rw [List.reverse_append]; simp [h]
/-- What is left of the part as noughts are taken off its end. -/
def TrR (r : Nat) (L : List UInt8) : Prop := Lib.trimRightB L 48 = Lib.trimRightB (six r) 48 ∧ (∃ x ∈ L, x ≠ 48) ∧ L.length ≤ 6
theorem trR_last {r : Nat} {L : List UInt8} (h : TrR r L) : ∃ L' x, L = L' ++ [x] := by
  rcases List.eq_nil_or_concat L with e | ⟨L', x, e⟩
  · obtain ⟨x, hx, _⟩ := h.2.1; rw [e] at hx; cases hx
  · exact ⟨L', x, by rw [e, List.concat_eq_append]⟩
theorem trR_step {r : Nat} {L' : List UInt8} (h : TrR r (L' ++ [48])) : TrR r L' := by
  refine ⟨by rw [← h.1, trim_snoc_hit], ?_, by have := h.2.2; simp at this; omega⟩
  obtain ⟨x, hx, hne⟩ := h.2.1
  rcases List.mem_append.1 hx with k | k
  · exact ⟨x, k, hne⟩
  · exact absurd (List.mem_singleton.1 k) hne
theorem trR_end {r : Nat} {L' : List UInt8} {x : UInt8} (h : TrR r (L' ++ [x])) (hx : x ≠ 48) : Lib.trimRightB (six r) 48 = L' ++ [x] := by
  rw [← h.1, trim_snoc_miss _ _ _ hx]
theorem trR_start {r : Nat} (h : r < 1000000) (h0 : r ≠ 0) : TrR r (six r) := ⟨rfl, six_some h h0, Nat.le_refl _⟩

/-- The part's digits. -/
def ptx (r : Nat) : ByteArray := ⟨(Lib.trimRightB (six r) 48).toArray⟩
/-- A number's digits. -/
def dtx (n : Nat) : ByteArray := ⟨(Lib.decDigits n).toArray⟩
theorem ptx_size (r : Nat) : (ptx r).size ≤ 6 := by
  show (Lib.trimRightB (six r) 48).length ≤ 6
  unfold Lib.trimRightB
  rw [List.length_reverse]
  have h := (List.dropWhile_sublist (fun x : UInt8 => x == 48) (l := (six r).reverse)).length_le
  rw [List.length_reverse] at h
  exact h
theorem dtx_size (n : Nat) (h : n ≤ 9223372036854775807) : (dtx n).size ≤ 21 := dec_len n h
/-- The sign's text. -/
def sgx (v : Int) : ByteArray := if v < 0 then ⟨#[45]⟩ else ⟨#[]⟩
/-- A value's text. -/
def vtx (v : Int) : ByteArray :=
  if -999999999999999999 ≤ v ∧ v ≤ 999999999999999999 then (if v.natAbs % 1000000 = 0 then sgx v ++ dtx (v.natAbs / 1000000) else sgx v ++ dtx (v.natAbs / 1000000) ++ ⟨#[46]⟩ ++ ptx (v.natAbs % 1000000)) else ⟨#[]⟩
theorem tail7 {r : Nat} (h : r < 1000000) : (dtx (1000000 + r)).extract 1 (dtx (1000000 + r)).size = ⟨(six r).toArray⟩ := by
  rw [Lib.extract_from]; unfold dtx; rw [dec7 h]; rfl
end Go.Proofs.YtohjpaokjhifoaaDoor
