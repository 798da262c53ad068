/-
  Plain facts: a text that is a wide number's holds digits alone behind its sign. Of no program.
-/
import Derived.Test.YtohjpaokjhifoaaDoorReadJ
namespace Go.Proofs.YtohjpaokjhifoaaDoor
set_option linter.unusedVariables false
set_option linter.unusedSimpArgs false
open Go.RowKit Go.PlainAid

theorem digs_mem : ∀ (f M : Nat) (x : Int), x ∈ digs f M → 48 ≤ x ∧ x ≤ 57
  | 0, _, _, h => by simp [digs] at h
  | f + 1, M, x, h => by
    unfold digs at h
    by_cases e : M = 0
    · rw [if_pos e] at h; simp at h
    · rw [if_neg e] at h
      rcases List.mem_cons.1 h with rfl | h
      · have := dgN_in M; omega
      · exact digs_mem f (M / 10) x h
theorem decR_mem (M : Nat) (x : Int) (h : x ∈ decR M) : 48 ≤ x ∧ x ≤ 57 := by
  unfold decR at h
  by_cases e : M = 0
  · rw [if_pos e] at h; simp at h; omega
  · rw [if_neg e] at h; exact digs_mem _ _ _ h

theorem bt_list (s : ByteArray) (k : Nat) : bt s k = ((s.data.toList[k]?).map fun b => (b.toNat : Int)).getD 0 := by
  unfold bt
  by_cases h : k < s.size
  · rw [dif_pos h, Lib.data_getElem? s k h]; rfl
  · rw [dif_neg h, List.getElem?_eq_none (by rw [← Lib.size_eq]; omega)]; rfl

/-- The bytes of a list of digits. -/
theorem num_bytes (L : List Int) (hL : ∀ x ∈ L, 0 ≤ x ∧ x ≤ 255) (s : ByteArray) (hs : s.data.toList = L.map fun n => UInt8.ofNat n.toNat) : s.size = L.length ∧ ∀ k, k < L.length → bt s k = L.getD k 0 := by
  refine ⟨by rw [Lib.size_eq, hs]; simp, fun k hk => ?_⟩
  rw [bt_list, hs, List.getElem?_map, List.getElem?_eq_getElem hk, List.getD_eq_getElem?_getD, List.getElem?_eq_getElem hk]
  have := hL _ (List.getElem_mem hk)
  simp only [Option.map_some, Option.getD_some]
  rw [UInt8.toNat_ofNat']
  omega

theorem rd_true (s : ByteArray) (h : rdB s = true) : (tailS s).size ≤ 39 ∧ ∀ k, k < (tailS s).size → 48 ≤ bt (tailS s) k ∧ bt (tailS s) k ≤ 57 := by
  unfold rdB at h
  have e : (strOfNums (wtxt (hiW (rdV s)) (loW (rdV s)))).toList = s.toList := by simpa using h
  rw [ByteArray.toList_eq, ByteArray.toList_eq, strOfNums_data] at e
  have hM := mag_lt (hiW (rdV s)) (loW (rdV s)) (hiW_in _) (loW_in _)
  have hlen := (decR_len _ hM).2
  have hmem : ∀ x ∈ (decR (mag (hiW (rdV s)) (loW (rdV s)))).reverse, 48 ≤ x ∧ x ≤ 57 := fun x hx => decR_mem _ x (List.mem_reverse.1 hx)
  have hlen' : (decR (mag (hiW (rdV s)) (loW (rdV s)))).reverse.length ≤ 39 := by simpa using hlen
  have hne : (decR (mag (hiW (rdV s)) (loW (rdV s)))).reverse ≠ [] := by
    intro h0
    have := (decR_len _ hM).1
    have h1 : (decR (mag (hiW (rdV s)) (loW (rdV s)))).reverse.length = 0 := by rw [h0]; rfl
    rw [List.length_reverse] at h1; omega
  have key : ∃ L : List Int, (∀ x ∈ L, 48 ≤ x ∧ x ≤ 57) ∧ L.length ≤ 39 ∧ (tailS s).data.toList = L.map fun n => UInt8.ofNat n.toNat := by
    unfold wtxt at e
    generalize (decR (mag (hiW (rdV s)) (loW (rdV s)))).reverse = L at *
    by_cases hneg : hiW (rdV s) < 0
    · rw [if_pos hneg] at e
      have hd : s.data.toList = 45 :: L.map fun n => UInt8.ofNat n.toNat := e.symm
      have hb : bt s 0 = 45 := by rw [bt_list, hd]; rfl
      have hz : 0 < s.size := by rw [Lib.size_eq, hd]; simp
      have hn : negB s = true := by unfold negB; rw [hb, decide_eq_true hz]; rfl
      refine ⟨L, hmem, hlen', ?_⟩
      unfold tailS; rw [if_pos hn, Lib.extract_to_end, hd]; rfl
    · rw [if_neg hneg] at e
      refine ⟨L, hmem, hlen', ?_⟩
      have hn : negB s = false := by
        cases L with
        | nil => exact absurd rfl hne
        | cons x tl =>
          have hx := hmem x (List.mem_cons_self)
          have hb : bt s 0 = x := by
            rw [bt_list, ← e]
            simp only [List.map_cons, List.getElem?_cons_zero, Option.map_some, Option.getD_some]
            rw [UInt8.toNat_ofNat']; omega
          unfold negB; rw [hb]
          have : (x == 45) = false := by simp; omega
          rw [this]; simp
      unfold tailS; rw [hn, if_neg (by simp)]; exact e.symm
  obtain ⟨L, h1, h2, h3⟩ := key
  obtain ⟨k1, k2⟩ := num_bytes L (fun x hx => by have := h1 x hx; omega) _ h3
  refine ⟨by omega, fun k hk => ?_⟩
  rw [k2 k (by omega)]
  have hk' : k < L.length := by omega
  rw [List.getD_eq_getElem?_getD, List.getElem?_eq_getElem hk']
  exact h1 _ (List.getElem_mem hk')
end Go.Proofs.YtohjpaokjhifoaaDoor
