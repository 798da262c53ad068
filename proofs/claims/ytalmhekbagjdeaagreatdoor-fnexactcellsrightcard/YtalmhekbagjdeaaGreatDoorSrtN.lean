/-
  The pieces of a series' text, as the model takes them. Of no program's walk.
-/
import Derived.Test.YtalmhekbagjdeaaGreatDoorSrtM
import Derived.Test.YtalmhekbagjdeaaGreatDoorSplM
namespace Go.Proofs.YtalmhekbagjdeaaGreatDoor
set_option linter.unusedVariables false
set_option linter.unusedSimpArgs false
open Go.ChangeShapes Go.WideShapes Go.ChangeAt Go.RowKit Go.PlainAid

theorem toL_extract (t : ByteArray) (a b : Nat) : toL (t.extract a b) = ((toL t).take b).drop a := by
  unfold toL
  rw [ByteArray.data_extract, Array.toList_extract]
  rw [List.extract_eq_take_drop]
  try rw [List.drop_take]
theorem bt_toL (t : ByteArray) (k : Nat) : bt t k = (((toL t)[k]?.map UInt8.toNat).getD 0 : Nat) := by
  unfold bt
  split
  · rename_i h
    have h2 : k < (toL t).length := by rw [toL_len]; exact h
    rw [List.getElem?_eq_getElem h2]
    simp [toL]
    rfl
  · rename_i h
    rw [List.getElem?_eq_none (by rw [toL_len]; omega)]; rfl
theorem bt_agree {t u : ByteArray} {k : Nat} (h : (toL t).take (k + 1) = (toL u).take (k + 1)) : bt t k = bt u k := by
  have e : ∀ v : ByteArray, (toL v)[k]? = ((toL v).take (k + 1))[k]? := fun v => by rw [List.getElem?_take, if_pos (by omega)]
  rw [bt_toL, bt_toL, e t, e u, h]
theorem spl_agree {t u : ByteArray} {b : Int} : ∀ k, (toL t).take k = (toL u).take k → spl t b k = spl u b k
  | 0, _ => rfl
  | k + 1, h => by
    have h1 : (toL t).take k = (toL u).take k := by
      have := congrArg (List.take k) h
      rwa [List.take_take, List.take_take, Nat.min_eq_left (by omega)] at this
    have ih := spl_agree (b := b) k h1
    have hb := bt_agree h
    by_cases hh : bt t k = b
    · rw [spl_hit hh, spl_hit (by rw [← hb]; exact hh), ih]
      have e : t.extract (spl u b k).2 k = u.extract (spl u b k).2 k := toL_inj (by rw [toL_extract, toL_extract, h1])
      rw [e]
    · rw [spl_miss hh, spl_miss (by rw [← hb]; exact hh), ih]
/-- Bytes that are not b leave the pieces as they are. -/
theorem spl_rest {t : ByteArray} {b : Int} {k : Nat} : ∀ n, (∀ j, k ≤ j → j < k + n → ¬ bt t j = b) → spl t b (k + n) = spl t b k
  | 0, _ => rfl
  | n + 1, h => by
    rw [← Nat.add_assoc, spl_miss (h (k + n) (by omega) (by omega)), spl_rest n (fun j h1 h2 => h j h1 (by omega))]
theorem no_bt {t : ByteArray} {c : UInt8} {x : List UInt8} {k : Nat} (hx : c ∉ x) (h : (toL t).drop k = x) : ∀ j, k ≤ j → j < k + x.length → ¬ bt t j = (c.toNat : Int) := fun j h1 h2 e => by
  have hg : (toL t)[j]? = x[j - k]? := by rw [← h, List.getElem?_drop]; congr 1; omega
  rw [bt_toL, hg, List.getElem?_eq_getElem (by omega)] at e
  simp at e
  have : x[j - k]'(by omega) = c := UInt8.toNat_inj.1 (by exact_mod_cast e)
  exact hx (by rw [← this]; exact List.getElem_mem _)
theorem splL_none {t : ByteArray} {c : UInt8} (h : c ∉ toL t) : splL t (c.toNat : Int) = [t] := by
  have h1 := spl_rest (t := t) (b := (c.toNat : Int)) (k := 0) t.size (fun j h1 h2 => no_bt (k := 0) h (by simp) j h1 (by rw [toL_len]; exact h2))
  rw [Nat.zero_add] at h1
  unfold splL
  rw [h1]
  have e : t.extract 0 t.size = t := toL_inj (by rw [toL_extract, List.drop_zero, List.take_of_length_le (by rw [toL_len]; exact Nat.le_refl _)])
  show [] ++ [t.extract 0 t.size] = [t]
  rw [e]; rfl
theorem splL_snoc {t u x : ByteArray} {c : UInt8} (ht : toL t = toL u ++ c :: toL x) (hx : c ∉ toL x) : splL t (c.toNat : Int) = splL u (c.toNat : Int) ++ [x] := by
  have hsz : t.size = u.size + 1 + x.size := by rw [← toL_len, ht, List.length_append, List.length_cons, toL_len, toL_len]; omega
  have hul : (toL u).length = u.size := toL_len u
  have hag : (toL t).take u.size = (toL u).take u.size := by rw [ht, List.take_append_of_le_length (by omega)]
  have h1 := spl_agree (b := (c.toNat : Int)) u.size hag
  have hhit : bt t u.size = (c.toNat : Int) := by
    rw [bt_toL, ht, List.getElem?_append_right (by omega), hul, Nat.sub_self]; rfl
  have h2 := spl_hit hhit
  rw [h1] at h2
  have e1 : t.extract (spl u (c.toNat : Int) u.size).2 u.size = u.extract (spl u (c.toNat : Int) u.size).2 u.size := toL_inj (by rw [toL_extract, toL_extract, hag])
  rw [e1] at h2
  have hdr : (toL t).drop (u.size + 1) = toL x := by
    rw [ht, ← hul, ← List.drop_drop, List.drop_left]; rfl
  have h3 := spl_rest (t := t) (b := (c.toNat : Int)) (k := u.size + 1) x.size (fun j a1 a2 => no_bt hx hdr j a1 (by rw [toL_len]; exact a2))
  rw [← hsz, h2] at h3
  have e2 : t.extract (u.size + 1) t.size = x := toL_inj (by rw [toL_extract, List.take_of_length_le (by rw [toL_len]; exact Nat.le_refl _), hdr])
  unfold splL
  rw [h3]
  show (spl u (c.toNat : Int) u.size).1 ++ [u.extract (spl u (c.toNat : Int) u.size).2 u.size] ++ [t.extract (u.size + 1) t.size] = _
  rw [e2]
theorem splL_join : ∀ (n : Nat) {K : List ByteArray}, K.length = n + 1 → (∀ x ∈ K, (44 : UInt8) ∉ toL x) → splL ⟨(joinT K).toArray⟩ 44 = K
  | 0, K, hl, hn => by
    obtain ⟨y, rfl⟩ := List.length_eq_one_iff.1 hl
    rw [joinT_one, mk_toL]
    exact splL_none (c := 44) (hn y List.mem_cons_self)
  | n + 1, K, hl, hn => by
    rcases List.eq_nil_or_concat K with rfl | ⟨K', x, rfl⟩
    · simp at hl
    · rw [List.concat_eq_append] at hl hn ⊢
      have hl2 : K'.length = n + 1 := by simpa using hl
      have ih := splL_join n hl2 (fun y hy => hn y (List.mem_append_left _ hy))
      have hne : K' ≠ [] := fun e => by rw [e] at hl2; simp at hl2
      have := splL_snoc (t := ⟨(joinT (K' ++ [x])).toArray⟩) (u := ⟨(joinT K').toArray⟩) (x := x) (c := 44) (by rw [toL_mk, toL_mk, joinT_snoc hne]; simp) (hn x (by simp))
      have e : splL ⟨(joinT (K' ++ [x])).toArray⟩ 44 = splL ⟨(joinT K').toArray⟩ 44 ++ [x] := this
      rw [e, ih]
theorem splL_head {t name : ByteArray} {r : List UInt8} (ht : toL t = toL name ++ 123 :: r) (h1 : (123 : UInt8) ∉ toL name) (h2 : (123 : UInt8) ∉ r) : splL t 123 = [name, ⟨r.toArray⟩] := by
  have := splL_snoc (t := t) (u := name) (x := ⟨r.toArray⟩) (c := 123) (by rw [toL_mk]; exact ht) (by rw [toL_mk]; exact h2)
  have e := splL_none (c := 123) h1
  exact this.trans (by rw [e]; rfl)
end Go.Proofs.YtalmhekbagjdeaaGreatDoor
