/-
  Plain facts: what ValueRead tells of a value's text, and how long the text of what it tells is. Of no program.
-/
import Derived.Test.YtohjpaokjhifoaaDoorMathF
import Derived.Test.YtohjpaokjhifoaaDoorDrawV
namespace Go.Proofs.YtohjpaokjhifoaaDoor
set_option linter.unusedVariables false
set_option linter.unusedSimpArgs false
open Go.RowKit Go.PlainAid

def sgL (v : Int) : List UInt8 := if v < 0 then [45] else []
def right (v : Int) : Prop := -999999999999999999 ≤ v ∧ v ≤ 999999999999999999
theorem vtx_list {v : Int} (h : right v) : vtx v = ⟨(sgL v ++ bodyL v.natAbs).toArray⟩ := by
  unfold vtx right at *
  rw [if_pos h]
  have es : sgx v = ⟨(sgL v).toArray⟩ := by unfold sgx sgL; split <;> rfl
  unfold bodyL
  split
  · rw [es]; apply ByteArray.ext; rw [ByteArray.data_append]; unfold dtx; simp
  · rw [es]; apply ByteArray.ext; simp only [ByteArray.data_append]; unfold dtx ptx; simp
theorem body_head (n : Nat) : ∃ x t, bodyL n = x :: t ∧ 48 ≤ x.toNat := by
  have hp := dec_pos (n / 1000000)
  have hd := dec_dig (n / 1000000)
  cases e : Lib.decDigits (n / 1000000) with
  | nil => rw [e] at hp; simp at hp
  | cons x t =>
    rw [e] at hd
    have := hd x (List.mem_cons_self ..)
    unfold bodyL
    split
    · exact ⟨x, t, e, this.1⟩
    · exact ⟨x, _, by rw [e]; rfl, this.1⟩
theorem vtx_neg {v : Int} (h : right v) : negB (vtx v) = decide (v < 0) ∧ tailS (vtx v) = ⟨(bodyL v.natAbs).toArray⟩ := by
  have hl := vtx_list h
  by_cases hv : v < 0
  · have e : vtx v = ⟨(45 :: bodyL v.natAbs).toArray⟩ := by rw [hl]; unfold sgL; rw [if_pos hv]; rfl
    have hn : negB (vtx v) = true := by
      unfold negB
      rw [e, bt_at _ 0 (by simp)]
      simp only [List.getElem_cons_zero]
      have h0 : 0 < ByteArray.size ⟨(45 :: bodyL v.natAbs).toArray⟩ := by show 0 < (45 :: bodyL v.natAbs).length; simp
      rw [decide_eq_true h0]; rfl
    refine ⟨by rw [hn, decide_eq_true hv], ?_⟩
    unfold tailS
    rw [if_pos hn, e, Lib.extract_from]; rfl
  · have e : vtx v = ⟨(bodyL v.natAbs).toArray⟩ := by rw [hl]; unfold sgL; rw [if_neg hv]; rfl
    obtain ⟨x, t, ex, hx⟩ := body_head v.natAbs
    have hn : negB (vtx v) = false := by
      unfold negB
      rw [e, ex, bt_at _ 0 (by simp)]
      simp only [List.getElem_cons_zero]
      have : ((x.toNat : Int) == 45) = false := beq_eq_false_iff_ne.2 (by omega)
      rw [this, Bool.and_false]
    refine ⟨by rw [hn, decide_eq_false hv], ?_⟩
    unfold tailS
    rw [if_neg (by rw [hn]; simp), e]
/-- A value is read back from its text. -/
theorem read_back {v : Int} (h : right v) : rvV (vtx v) = v ∧ rvC (vtx v) = 0 := by
  have hf : fitB (vtx v) = true := decide_eq_true (by have := vtx_size v; omega)
  obtain ⟨hn, ht⟩ := vtx_neg h
  have hP : Parse (tailS (vtx v)) 0 (v.natAbs : Int) := by rw [ht]; exact body_parse (by unfold right at h; omega)
  have hy := rv_yes hf hP
  refine ⟨?_, hy.2.symm⟩
  rw [← hy.1, hn]
  by_cases hv : v < 0
  · rw [decide_eq_true hv, if_pos rfl]; omega
  · rw [decide_eq_false hv, if_neg (by simp)]; omega

theorem vtx_size_eq {v : Int} (h : right v) : (vtx v).size = (sgL v).length + (bodyL v.natAbs).length := by
  rw [vtx_list h]; show (sgL v ++ bodyL v.natAbs).length = _; rw [List.length_append]
theorem trim_zeros (l : List UInt8) (c : UInt8) : ∀ z, Lib.trimRightB (l ++ List.replicate z c) c = Lib.trimRightB l c
  | 0 => by simp
  | z + 1 => by rw [List.replicate_succ', ← List.append_assoc, trim_snoc_hit, trim_zeros l c z]
theorem trim_len (l : List UInt8) (c : UInt8) : (Lib.trimRightB l c).length ≤ l.length := by
  unfold Lib.trimRightB
  have h := (List.dropWhile_sublist (fun x : UInt8 => x == c) (l := l.reverse)).length_le
  rw [List.length_reverse] at h ⊢
  exact h
theorem part_len (f p : Nat) (h1 : 1 ≤ p) (h6 : p ≤ 6) (hf : f < 10 ^ p) : (Lib.trimRightB (six (f * 10 ^ (6 - p))) 48).length ≤ p := by
  have key : ∀ (l m : List UInt8) (r : Nat), six r = l ++ m → (∃ z, m = List.replicate z 48) → (Lib.trimRightB (six r) 48).length ≤ l.length := by
    rintro l m r e ⟨z, rfl⟩
    rw [e, trim_zeros]; exact trim_len _ _
  have d0 : dgt 0 = 48 := rfl
  have hc : p = 1 ∨ p = 2 ∨ p = 3 ∨ p = 4 ∨ p = 5 ∨ p = 6 := by omega
  rcases hc with rfl | rfl | rfl | rfl | rfl | rfl
  · refine key [_] _ _ rfl ⟨5, ?_⟩
    rw [show f * 10 ^ (6 - 1) / 10000 % 10 = 0 by omega, show f * 10 ^ (6 - 1) / 1000 % 10 = 0 by omega, show f * 10 ^ (6 - 1) / 100 % 10 = 0 by omega, show f * 10 ^ (6 - 1) / 10 % 10 = 0 by omega, show f * 10 ^ (6 - 1) % 10 = 0 by omega]; rfl
  · refine key [_, _] _ _ rfl ⟨4, ?_⟩
    rw [show f * 10 ^ (6 - 2) / 1000 % 10 = 0 by omega, show f * 10 ^ (6 - 2) / 100 % 10 = 0 by omega, show f * 10 ^ (6 - 2) / 10 % 10 = 0 by omega, show f * 10 ^ (6 - 2) % 10 = 0 by omega]; rfl
  · refine key [_, _, _] _ _ rfl ⟨3, ?_⟩
    rw [show f * 10 ^ (6 - 3) / 100 % 10 = 0 by omega, show f * 10 ^ (6 - 3) / 10 % 10 = 0 by omega, show f * 10 ^ (6 - 3) % 10 = 0 by omega]; rfl
  · refine key [_, _, _, _] _ _ rfl ⟨2, ?_⟩
    rw [show f * 10 ^ (6 - 4) / 10 % 10 = 0 by omega, show f * 10 ^ (6 - 4) % 10 = 0 by omega]; rfl
  · refine key [_, _, _, _, _] _ _ rfl ⟨1, ?_⟩
    rw [show f * 10 ^ (6 - 5) % 10 = 0 by omega]; rfl
  · exact key [_, _, _, _, _, _] [] _ rfl ⟨0, rfl⟩

theorem body_len {Q R k p : Nat} (hk : 1 ≤ k) (hQ : Q < 10 ^ k) (hR : R < 1000000) (hp : R ≠ 0 → (Lib.trimRightB (six R) 48).length + 1 ≤ p) : (bodyL (Q * 1000000 + R)).length ≤ k + p := by
  have e1 : (Q * 1000000 + R) / 1000000 = Q := by omega
  have e2 : (Q * 1000000 + R) % 1000000 = R := by omega
  have hl := dec_len_le k Q hk hQ
  unfold bodyL
  rw [e1, e2]
  split
  · omega
  · rename_i h0
    have := hp h0
    rw [List.length_append, List.length_cons]; omega
theorem parse_len {u : ByteArray} {F : Nat} {V : Int} (h : Parse u F V) : (bodyL V.toNat).length + F ≤ u.size := by
  obtain ⟨k, hw, hr⟩ := h
  have hb := valD_bd k hw.2.2.1
  obtain ⟨Q, hQ⟩ := Int.eq_ofNat_of_zero_le hb.1
  have hQ10 : Q < 10 ^ k := by have := hb.2; rw [hQ] at this; exact_mod_cast this
  rcases hr with ⟨e, hv⟩ | ⟨p, h1, h6, e, h46, hd, hv⟩
  · have : V.toNat = Q * 1000000 + 0 := by rw [hv, hQ]; omega
    rw [this]
    have := body_len (p := 0) hw.1 hQ10 (show 0 < 1000000 by omega) (fun h => absurd rfl h)
    omega
  · have hbp := valD_bd p hd
    obtain ⟨f, hf⟩ := Int.eq_ofNat_of_zero_le hbp.1
    have hf10 : f < 10 ^ p := by have := hbp.2; rw [hf] at this; exact_mod_cast this
    have hR : f * 10 ^ (6 - p) < 1000000 := by
      have hc : p = 1 ∨ p = 2 ∨ p = 3 ∨ p = 4 ∨ p = 5 ∨ p = 6 := by omega
      rcases hc with rfl | rfl | rfl | rfl | rfl | rfl <;> omega
    have : V.toNat = Q * 1000000 + f * 10 ^ (6 - p) := by
      rw [hv, pow_num p h1 h6, hQ, hf]
      have e2 : (f : Int) * 10 ^ (6 - p) = ((f * 10 ^ (6 - p) : Nat) : Int) := by simp
      rw [e2]; omega
    rw [this]
    have := body_len (p := p + 1) hw.1 hQ10 hR (fun _ => by have := part_len f p h1 h6 hf10; omega)
    omega
/-- The text of what is read is no longer. -/
theorem read_len {u : ByteArray} (hc : rvC u = 0) : right (rvV u) ∧ (vtx (rvV u)).size ≤ u.size := by
  cases hf : fitB u
  · rw [(rv_size hf).2] at hc; cases hc
  · by_cases hP : ∃ V, Parse u (fst1 u) V
    · obtain ⟨V, hP⟩ := hP
      have hb := parse_bd hP
      have hl := parse_len hP
      have hv := (rv_ok hf hP).1
      have hr : right (rvV u) := by rw [hv]; unfold right; split <;> omega
      refine ⟨hr, ?_⟩
      rw [vtx_size_eq hr]
      have hn : (rvV u).natAbs = V.toNat := by rw [hv]; split <;> omega
      rw [hn]
      have hs : (sgL (rvV u)).length ≤ fst1 u := by
        unfold sgL fst1
        split
        · rename_i h0
          rw [hv] at h0
          split at h0
          · rename_i hneg; rw [if_pos hneg]; simp
          · omega
        · simp
      omega
    · rw [(rv_bad hf (fun V hV => hP ⟨V, hV⟩)).2] at hc; cases hc
theorem vtx_out {v : Int} (h : ¬ right v) : vtx v = ⟨#[]⟩ := by unfold vtx; exact if_neg h
end Go.Proofs.YtohjpaokjhifoaaDoor
