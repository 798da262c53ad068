/-
  The program's series: the walk.
-/
import Derived.Test.YtalmhekbagjdeaaGreatDoorSerI
namespace Go.Proofs.YtalmhekbagjdeaaGreatDoor
set_option linter.unusedVariables false
set_option linter.unusedSimpArgs false
open Go.ChangeShapes Go.WideShapes Go.ChangeAt Go.RowKit Go.PlainAid
set_option maxRecDepth 10000

theorem lawT : Go.Maps.Keyed Tryz.prog 9 := Go.Maps.string_keyed Tryz.underlying9
/-- What seriesWith hands back. -/
def serW (name : ByteArray) (L : List ByteArray) : ByteArray := if nameB name = true ∧ L.all tagB = true then serF name L else ByteArray.empty
theorem tag_size {x : ByteArray} (h : tagB x = true) : x.size ≤ 20 := by
  unfold tagB at h
  simp only [Bool.and_eq_true, decide_eq_true_eq] at h
  exact h.1.2
theorem name_size {x : ByteArray} (h : nameB x = true) : x.size ≤ 40 := by
  unfold nameB at h
  simp only [Bool.and_eq_true, decide_eq_true_eq] at h
  exact h.1.1.2
theorem all_size {L : List ByteArray} (h : L.all tagB = true) : ∀ x ∈ L, x.size ≤ 20 := fun x hx => tag_size (List.all_eq_true.1 h x hx)
theorem key_str {x : ByteArray} (h : x.size ≤ maxLen) : Go.keyOf Tryz.prog 9 (.string x) = some (litT x) := Go.WideMaps.keyOf_string_mk Tryz.underlying9 h

set_option maxHeartbeats 2000000 in
theorem c_i_seriesWith {w : World} {ao : Option Addr} {L : List ByteArray} (name : ByteArray) (c n : Nat) (hnm : name.size ≤ maxLen) (hn : L.length = n) (hl : n ≤ 20100) (hu : ∀ u ∈ L, u.size ≤ maxLen) (hA : StrsAt w ao L) :
    Calls Tryz.prog 79 #[.string name, .slice ao n c] w fun e w' => e = .returned (.string (serW name L)) ∧ Below w.heap.size w w' := by
  have HA := hide hA
  have HN := hide hn
  have HU := hide hu
  have HNm := hide hnm
  have hmm := @run_makeMap Tryz.prog
  clear hA hn hu hnm
  cases hnb : nameB name with
  | false =>
    have HE : Hid (serW name L = ByteArray.empty) := (by unfold serW; rw [if_neg (by rw [hnb]; simp)] : serW name L = ByteArray.empty)
    go_enter Tryz.func79, Tryz.ntmps79
    go_wp2_with (go_at_call 23; refine (c_i_NameRight _ _ HNm.out).mono ?_; rintro e w1 ⟨rfl, rfl⟩)
    go_ret
    exact ⟨by rw [HE.out]; rfl, Below.refl _ _⟩
  | true =>
    have hn40 := name_size hnb
    go_enter Tryz.func79, Tryz.ntmps79
    go_wp2_with (go_at_call 23; refine (c_i_NameRight _ _ HNm.out).mono ?_; rintro e w1 ⟨rfl, hw1⟩; obtain rfl := hw1.symm)
    have M0 := hide (World.ownsMap_made (H := Unit) w Tryz.prog 9 unitElem)
    go_loopw [15] (fun i wr => ∃ (k : Nat), k ≤ n ∧ i = .int .i64 k ∧ Hid (wr.ownsMap Tryz.prog 9 (unitElem (H := Unit)) w.heap.size k (setT (L.take k)) ∧ (L.take k).all tagB = true) ∧ Hid (Below w.heap.size w wr)) (fun i wr => n - (intOf i).toNat)
    case atStart => exact ⟨0, Nat.zero_le _, rfl, ⟨M0.out, by simp⟩, (Below.refl _ _).alloc (Nat.le_refl _) _⟩
    case round =>
      clear M0
      obtain ⟨k, hk, rfl, HO, HB⟩ := hrel
      by_cases hkn : k < n
      · obtain ⟨b, off, e, hcell⟩ := HA.out (by have := HN.out; omega)
        obtain ⟨y, hy⟩ : ∃ y, L[k]? = some y := ⟨L[k]'(by have := HN.out; omega), List.getElem?_eq_getElem _⟩
        subst e
        have hc0 := cell_past HB.out (hcell k y hy)
        have HY := hide hy
        have HZ := hide (HU.out y (List.mem_of_getElem? hy))
        clear hcell hy
        cases ht : tagB y with
        | false =>
          have HE : Hid (serW name L = ByteArray.empty) := (by unfold serW; rw [if_neg (by rw [all_no HY.out ht]; simp)] : serW name L = ByteArray.empty)
          go_wp2_with (go_at_call 107; refine (c_i_TagRight _ _ HZ.out).mono ?_; rintro e w1 ⟨rfl, hw1⟩; obtain rfl := hw1.symm)
          go_ret
          exact ⟨by rw [HE.out]; rfl, HB.out⟩
        | true =>
          have HE : Hid ((L.take (k + 1)).all tagB = true) := (by rw [List.take_add_one, HY.out, List.all_append, HO.out.2]; simp [ht] : (L.take (k + 1)).all tagB = true)
          have HS : Hid (setT (L.take (k + 1)) = (setT (L.take k)).put (litT y) (.agg [])) := (by rw [List.take_add_one, HY.out]; exact setT_snoc _ _ : setT (L.take (k + 1)) = (setT (L.take k)).put (litT y) (.agg []))
          go_wp2_with (first
            | (go_at_call 107; refine (c_i_TagRight _ _ HZ.out).mono ?_; rintro e w1 ⟨rfl, hw1⟩; obtain rfl := hw1.symm)
            | (at_mapUpdate; refine wpList_mapUpdate_own _ rfl _ _ _ 148 rfl 9 149 lawT Tryz.underlying148 _ w.heap.size k _ rfl HO.out.1 (by unfold maxLen; omega) _ _ _ rfl rfl (key_str HZ.out) _ [] unitElem_mk ?_; intro w1 hown1 hgrow1; rw [← HS.out] at hown1; have HO1 := hide hown1; have HB1 := hide (HB.out.grown hgrow1 HB.out.size (fun j hj => by cases hj; exact Nat.le_refl _)); clear hown1 hgrow1))
          go_roundw
          case rel => exact ⟨k + 1, by omega, by go_num, ⟨HO1.out, HE.out⟩, HB1⟩
          case measure => simp [intOf]; omega
      · have eL : L.take k = L := List.take_of_length_le (by have := HN.out; omega)
        rw [eL] at HO
        clear eL
        have HK : Hid (∀ x ∈ serK L, x.size ≤ 20) := (fun x hx => all_size HO.out.2 x (mem_serK.1 hx) : ∀ x ∈ serK L, x.size ≤ 20)
        have hkl : (serK L).length ≤ 20100 := by have := serK_len L; have := HN.out; omega
        have HKl := hide hkl
        have HEq : Hid (serW name L = serF name L) := (by unfold serW; rw [if_pos ⟨hnb, HO.out.2⟩] : serW name L = serF name L)
        clear hkl
        obtain ⟨T1, hT1⟩ : ∃ T1 : ByteArray, T1 = ⟨(toL name ++ [123]).toArray⟩ := ⟨_, rfl⟩
        have hadd1 : Op.stringOp .add name ⟨#[123]⟩ = pure (.string T1) := by
          rw [str_addL (x := toL name) (y := [123]) (mk_toL name).symm rfl (by rw [toL_len]; simp; omega), hT1]
        have hjl := joinT_len HK.out
        have hj2 : (joinT (serK L)).length ≤ 422100 := by have := HKl.out; omega
        obtain ⟨T2, hT2⟩ : ∃ T2 : ByteArray, T2 = ⟨(joinT (serK L)).toArray⟩ := ⟨_, rfl⟩
        obtain ⟨T3, hT3⟩ : ∃ T3 : ByteArray, T3 = ⟨(headT name (serK L)).toArray⟩ := ⟨_, rfl⟩
        have hadd2 : Op.stringOp .add T1 T2 = pure (.string T3) := by
          rw [str_addL hT1 hT2 (by simp [toL_len]; omega), hT3]; rfl
        obtain ⟨T4, hT4⟩ : ∃ T4 : ByteArray, T4 = serT name (serK L) := ⟨_, rfl⟩
        have hadd3 : Op.stringOp .add T3 ⟨#[125]⟩ = pure (.string T4) := by
          rw [str_addL (y := [125]) hT3 rfl (by simp [headT, toL_len]; omega), hT4]; rfl
        have hs4 : T4.size ≤ 1000000 := by rw [hT4, serT_size]; omega
        obtain ⟨m, hm⟩ : ∃ m, (serK L).length = m := ⟨_, rfl⟩
        have HF : Hid (serF name L = if 8 < m ∨ 100 < T4.size then ByteArray.empty else T4) := (by unfold serF; rw [hT4, hm] : serF name L = if 8 < m ∨ 100 < T4.size then ByteArray.empty else T4)
        have HT2 := hide hT2
        have HM := hide hm
        have hm9 : m ≤ 20100 := by have := HKl.out; omega
        clear hT1 hT2 hT3 hT4 hm hjl hj2
        go_wp2_with fail
        refine (c_keysT _ _).mono ?_
        rintro e w1 ⟨rfl, hw1⟩
        obtain rfl := hw1
        go_wp2_with fail
        refine (c_sortedT w.heap.size k wr.heap.size wr rfl HO.out.1 (by have := HN.out; omega)).mono ?_
        rintro e w2 ⟨v2, rfl, o2, hb2⟩
        obtain ⟨ao2, c2, rfl⟩ := ownT_any o2
        rw [HM.out] at o2 ⊢
        have HO2 := hide o2
        have HB2 := hide (HB.out.trans (hb2.mono HB.out.size))
        have HM2 := hide (HO.out.1.kept (row := none) ⟨hb2.os, hb2.tape, hb2.output, hb2.size, fun j hj _ => hb2.block j hj⟩ (by simp))
        clear o2 hb2
        go_wp2_with fail
        refine (c_joinT HM.out HO2.out (by omega) HK.out).mono ?_
        rintro e w3 ⟨rfl, hb3⟩
        rw [← HT2.out]
        have HB3 := hide (HB2.out.trans (hb3.mono HB2.out.size))
        have HM3 := hide (HM2.out.kept (row := none) ⟨hb3.os, hb3.tape, hb3.output, hb3.size, fun j hj _ => hb3.block j hj⟩ (by simp))
        clear hb3 HO2 HB2 HM2
        have hsz : Go.Maps.size (setT L) = m := by rw [← HM.out]; exact (keys_sorted (setT_keys HM3.out) (keys_perm L (setT_keys HM3.out))).2.2
        have hlen := HM3.out.len Tryz.underlying148 3
        rw [hsz] at hlen
        clear hsz
        by_cases h8 : 8 < m
        · have h8i : (8 : Int) < (m : Int) := by omega
          have HF2 : Hid (serF name L = ByteArray.empty) := (by rw [HF.out, if_pos (.inl h8)] : serF name L = ByteArray.empty)
          go_wp2
          go_ret
          exact ⟨by rw [HEq.out, HF2.out]; rfl, HB3.out⟩
        · have h8i : ¬ (8 : Int) < (m : Int) := by omega
          by_cases h100 : 100 < T4.size
          · have h100i : (100 : Int) < (T4.size : Int) := by omega
            have HF2 : Hid (serF name L = ByteArray.empty) := (by rw [HF.out, if_pos (.inr h100)] : serF name L = ByteArray.empty)
            go_wp2
            go_ret
            exact ⟨by rw [HEq.out, HF2.out]; rfl, HB3.out⟩
          · have h100i : ¬ (100 : Int) < (T4.size : Int) := by omega
            have HF2 : Hid (serF name L = T4) := (by rw [HF.out, if_neg (by omega)] : serF name L = T4)
            go_wp2
            go_ret
            exact ⟨by rw [HEq.out, HF2.out]; rfl, HB3.out⟩
end Go.Proofs.YtalmhekbagjdeaaGreatDoor
