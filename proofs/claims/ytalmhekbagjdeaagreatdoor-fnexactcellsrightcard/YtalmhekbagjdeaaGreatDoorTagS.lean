/-
  The model's tags and series.
-/
import Derived.Test.YtalmhekbagjdeaaGreatDoorSerM
import Derived.Test.YtalmhekbagjdeaaGreatDoorStrsC
import Derived.Test.YtalmhekbagjdeaaGreatDoorTagC
import Derived.Test.YtalmhekbagjdeaaGreatDoorAppN
namespace Go.Proofs.YtalmhekbagjdeaaGreatDoor
set_option linter.unusedVariables false
set_option linter.unusedSimpArgs false
open Go.ChangeShapes Go.WideShapes Go.ChangeAt Go.RowKit Go.PlainAid
set_option maxRecDepth 10000

def OwnT (w : World) (B : Nat) (v : Value) (L : List ByteArray) : Prop := w.ownsRow B 9 1 v L.length (L.map Value.string)
theorem OwnT.past {w w' : World} {B : Nat} {v : Value} {L : List ByteArray} (h : OwnT w B v L) (hb : Below w.heap.size w w') : OwnT w' B v L := own_past h hb
theorem OwnT.at {w : World} {B n c : Nat} {ao : Option Addr} {L : List ByteArray} (h : OwnT w B (.slice ao n c) L) : StrsAt w ao L := fun h0 => by
  rcases h.2 with ⟨e, h1⟩ | ⟨g, cap, cur, e, _⟩
  · omega
  · cases e
    exact strs_owned h h0
theorem OwnT.cap {w : World} {B n c : Nat} {ao : Option Addr} {L : List ByteArray} (h : OwnT w B (.slice ao n c) L) : n = L.length ∧ n ≤ c ∧ c ≤ maxLen ∧ (ao = none → c = 0) := by
  rcases h.2 with ⟨e, h1⟩ | ⟨g, cap, cur, e, _, _, h2, h3, _⟩
  · cases e; exact ⟨h1.symm, Nat.le_refl _, Nat.zero_le _, fun _ => rfl⟩
  · cases e; exact ⟨rfl, h2, h3, fun e => by cases e⟩
theorem strs_list {w : World} {A : Addr} {L : List ByteArray} (h : StrsAt w (some A) L) : ∀ j u, (L.map Value.string)[j]? = some u → w.cell? (A.add j) = some u := fun j u hj => by
  rw [List.getElem?_map] at hj
  cases hx : L[j]? with
  | none => rw [hx] at hj; cases hj
  | some x =>
    rw [hx] at hj
    obtain rfl := Option.some.inj hj
    obtain ⟨b, off, e, hc⟩ := h (by have := (List.getElem?_eq_some_iff.1 hx).1; omega)
    cases e
    have := hc j x hx
    rwa [show (⟨b, off, none⟩ : Addr).add j = ⟨b, off + j, none⟩ from by unfold Addr.add; split <;> simp_all]
theorem strs_take {w : World} {ao : Option Addr} {L : List ByteArray} (k : Nat) (h : StrsAt w ao L) : StrsAt w ao (L.take k) := fun h0 => by
  obtain ⟨b', off', e, hc⟩ := h (by rw [List.length_take] at h0; omega)
  exact ⟨b', off', e, fun i x hx => hc i x (by rw [List.getElem?_take] at hx; split at hx; exact hx; cases hx)⟩
theorem strs_drop {w : World} {b off : Nat} {L : List ByteArray} (k : Nat) (h : StrsAt w (some ⟨b, off, none⟩) L) : StrsAt w (some ⟨b, off + k, none⟩) (L.drop k) := fun h0 => by
  obtain ⟨b', off', e, hc⟩ := h (by rw [List.length_drop] at h0; omega)
  cases e
  exact ⟨b, off + k, rfl, fun i x hx => by
    rw [List.getElem?_drop] at hx
    have := hc (k + i) x hx
    rwa [Nat.add_assoc]⟩
theorem strs_one (L : List ByteArray) : ∀ u ∈ L.map Value.string, u.oneCell' = true := fun u hu => by
  obtain ⟨x, _, rfl⟩ := List.mem_map.1 hu; rfl
/-- The place of a tag. -/
def FirstT (L : List ByteArray) (p : ByteArray) (k : Nat) : Prop := k ≤ L.length ∧ (∀ (t : Nat) (x : ByteArray), L[t]? = some x → t < k → strLt x p = true) ∧ ∀ x, L[k]? = some x → strLt x p = false
theorem firstT_tail {y : ByteArray} {r : List ByteArray} {p : ByteArray} {k : Nat} (h : FirstT (y :: r) p (k + 1)) : FirstT r p k :=
  ⟨by have := h.1; simp at this; exact this, fun t x hx ht => h.2.1 (t + 1) x (by simpa using hx) (by omega), fun x hx => h.2.2 x (by simpa using hx)⟩
theorem ins_eqT {a : ByteArray} : ∀ (L : List ByteArray) (k : Nat), FirstT L a k → L[k]? = some a → insT L a = L.take k ++ [a] ++ L.drop (k + 1)
  | [], k, _, h => by simp at h
  | y :: r, 0, hp, h => by
    obtain rfl : y = a := by simpa using h
    have : strLt y y = false := strLt_irr y
    simp [insT, this]
  | y :: r, k + 1, hp, h => by
    have hy := hp.2.1 0 y rfl (by omega)
    rw [insT, if_pos hy, ins_eqT r k (firstT_tail hp) (by simpa using h)]; simp
theorem ins_newT {a : ByteArray} : ∀ (L : List ByteArray) (k : Nat), FirstT L a k → (∀ x, L[k]? = some x → x ≠ a) → insT L a = L.take k ++ [a] ++ L.drop k
  | [], k, hp, h => by have := hp.1; simp at this; subst this; rfl
  | y :: r, 0, hp, h => by
    have hy := hp.2.2 y rfl
    have hne : y ≠ a := h y rfl
    rw [insT, if_neg (by rw [hy]; decide), if_neg hne]; rfl
  | y :: r, k + 1, hp, h => by
    have hy := hp.2.1 0 y rfl (by omega)
    rw [insT, if_pos hy, ins_newT r k (firstT_tail hp) (fun x hx => h x (by simpa using hx))]; simp
theorem OwnT.of {w : World} {B n : Nat} {v : Value} {L : List ByteArray} {xs : List Value} (h : w.ownsRow B 9 1 v n xs) (e : xs = L.map Value.string) : OwnT w B v L := by
  have hl := h.1
  subst e
  rw [List.length_map, Nat.mul_one] at hl
  unfold OwnT; rw [hl]; exact h
theorem ownT_any {w : World} {B : Nat} {v : Value} {L : List ByteArray} (h : OwnT w B v L) : ∃ ao c, v = .slice ao L.length c := own_any h

set_option maxHeartbeats 4000000 in
theorem c_s_l06Tag {w : World} {n c : Nat} {ao : Option Addr} {L : List ByteArray} (a : ByteArray) (hn : L.length = n) (hl : n ≤ 100000) (hcap : n ≤ c) (hcm : c ≤ maxLen) (hno : ao = none → c = 0) (hA : StrsAt w ao L) :
    Calls Tryz.prog 98 #[.slice ao n c, .string a] w fun e w' => ∃ v, e = .returned v ∧ OwnT w' w.heap.size v (insT L a) ∧ Below w.heap.size w w' := by
  obtain ⟨i0, hi, hz0, hz1, hz2⟩ := info_parts infoStr
  have hls := op_lssH 9
  have HA := hide hA
  have HN := hide hn
  have HNo := hide hno
  unfold maxLen at hcm
  clear hA hn hno
  go_enter Tryz.func98, Tryz.ntmps98
  go_wp2
  go_loop [5] (fun i => ∃ k : Nat, k ≤ n ∧ i = .int .i64 k ∧ Hid (∀ (t : Nat) (x : ByteArray), L[t]? = some x → t < k → strLt x a = true)) (fun i => n - (intOf i).toNat)
  case atStart => exact ⟨0, Nat.zero_le _, rfl, (fun t x _ h => absurd h (by omega) : ∀ (t : Nat) (x : ByteArray), L[t]? = some x → t < 0 → strLt x a = true)⟩
  case round =>
    obtain ⟨k, hk, rfl, HF⟩ := hrel
    have hrest : k < n → ∃ b off y, ao = some ⟨b, off, none⟩ ∧ L[k]? = some y ∧ w.cell? ⟨b, off + k, none⟩ = some (.string y) := fun h => by
      obtain ⟨b, off, e, hcell⟩ := HA.out (by have := HN.out; omega)
      obtain ⟨y, hy⟩ : ∃ y, L[k]? = some y := ⟨L[k]'(by have := HN.out; omega), List.getElem?_eq_getElem _⟩
      exact ⟨b, off, y, e, hy, hcell k y hy⟩
    by_cases hkn : k < n
    · obtain ⟨b, off, q, rfl, hRk, hc0⟩ := hrest hkn
      cases hlt : strLt q a with
      | true =>
        have HF2 : Hid (∀ (t : Nat) (x : ByteArray), L[t]? = some x → t < k + 1 → strLt x a = true) := (fun t z hz ht => by
          by_cases e : t = k
          · subst e; rw [hRk] at hz; obtain rfl := Option.some.inj hz; exact hlt
          · exact HF.out t z hz (by omega) : ∀ (t : Nat) (x : ByteArray), L[t]? = some x → t < k + 1 → strLt x a = true)
        clear hRk hrest
        go_wp2
        go_round
        case rel => exact ⟨k + 1, by omega, by go_num, HF2⟩
        case measure => simp [intOf]; omega
      | false =>
        have HK : Hid (FirstT L a k) := (⟨by have := HN.out; omega, HF.out, fun z hz => by rw [hRk] at hz; obtain rfl := Option.some.inj hz; exact hlt⟩ : FirstT L a k)
        have HRk := hide hRk
        clear hRk hrest HF
        cases heq : (q.toList == a.toList) with
        | true =>
          have heq2 : a = q := (str_ext heq).symm
          subst heq2
          have hw1 : IntKind.i64.wrap ((k : Int) + 1) = (k : Int) + 1 := by rw [IntKind.wrap_i64]; omega
          have htn : ((k : Int) + 1).toNat = k + 1 := by omega
          have hb1 : (0 : Int) ≤ (k : Int) + 1 := by omega
          have hb3 : (k : Int) + 1 ≤ (n : Int) := by omega
          have HE : Hid (insT L a = L.take k ++ [a] ++ L.drop (k + 1)) := ins_eqT L k HK.out HRk.out
          by_cases hce : c = k + 1
          · subst hce
            have hn1 : n = k + 1 := by omega
            have hn0 : k + 1 - (k + 1) = 0 := by omega
            subst hn1
            go_wp2_with (first
              | (at_builtin; refine wpList_append_nilH _ rfl (.tmp 21) (.tmp 24) 88 rfl w.heap.size 9 i0 (.string ByteArray.empty) 1 16 Tryz.underlying88 hi hz0 hz1 hz2 rfl (by decide) _ _ _ rfl (World.ownsRow_made _ #[] 0 (Nat.le_refl _) (Nat.zero_le _) rfl) (some ⟨b, off, none⟩) k (k + 1) ((L.take k).map Value.string) rfl (by rw [List.length_map, List.length_take]; have := HN.out; omega) (fun e => by cases e) (fun A e => by cases e; exact strs_list (strs_past (strs_take _ HA.out) ((Below.refl _ _).alloc (Nat.le_refl _) _))) (strs_one _) (by unfold maxLen; omega) (by omega) (by simp) ?_; intro v1 w1 hown hgrow hnil; simp only [Nat.zero_add, List.nil_append] at hown; obtain ⟨ao1, c1, rfl⟩ := own_any hown; have O1 := hide hown; have B1 := hide (((Below.refl w.heap.size w).alloc (Nat.le_refl _) _).grown hgrow (by simp) (fun j hj => by cases hj; exact Nat.le_refl _)); have y0 := cell_past B1.out hc0; clear hown hgrow hnil)
              | (at_builtin; refine wpList_append_own _ rfl (.tmp 26) (.tmp 28) 88 rfl w.heap.size 9 i0 (.string ByteArray.empty) 1 16 Tryz.underlying88 hi hz0 hz1 hz2 rfl (by decide) _ _ _ rfl (own_past O1.out ((Below.refl _ _).alloc (Nat.le_refl _) _)) ⟨w1.heap.size, 0, none⟩ 1 1 [.string a] rfl rfl (new_cells (cs := #[.string a]) rfl) (strs_one [a]) (by unfold maxLen; omega) (by omega) (by simp; have := B1.out.size; omega) ?_; intro v2 w2 hown hgrow hnil; obtain ⟨ao2, c2, rfl⟩ := own_any hown; have O2 := hide hown; have B2 := hide ((B1.out.alloc B1.out.size _).grown hgrow (by simp; have := B1.out.size; omega) (fun j hj => (O1.out.lt j hj).1)); have y2 := cell_past B2.out hc0; clear hown hgrow hnil)
              | (at_builtin; refine wpList_append_nilH _ rfl (.tmp 44) (.tmp 47) 88 rfl w.heap.size 9 i0 (.string ByteArray.empty) 1 16 Tryz.underlying88 hi hz0 hz1 hz2 rfl (by decide) _ _ _ rfl O2.out (some ⟨b, off, none⟩) 0 0 [] rfl rfl (fun e => by cases e) (fun A _ j z hz => by simp at hz) (by first | exact strs_one _ | exact fun u hu => absurd hu List.not_mem_nil) (by unfold maxLen; omega) (by omega) (by have := B2.out.size; omega) ?_; intro v3 w3 hown hgrow hnil; obtain ⟨ao3, c3, rfl⟩ := own_any hown; have O3 := hide hown; have B3 := hide (B2.out.grown hgrow B2.out.size (fun j hj => (O2.out.lt j hj).1)); clear hown hgrow hnil))
            all_goals
              go_ret
              refine ⟨_, rfl, OwnT.of O3.out ?_, B3.out⟩
              rw [HE.out]
              try rw [List.drop_eq_nil_of_le (by have := HN.out; omega)]
              simp
          · skip
            go_wp2_with (first
              | (at_builtin; refine wpList_append_nilH _ rfl (.tmp 21) (.tmp 24) 88 rfl w.heap.size 9 i0 (.string ByteArray.empty) 1 16 Tryz.underlying88 hi hz0 hz1 hz2 rfl (by decide) _ _ _ rfl (World.ownsRow_made _ #[] 0 (Nat.le_refl _) (Nat.zero_le _) rfl) (some ⟨b, off, none⟩) k c ((L.take k).map Value.string) rfl (by rw [List.length_map, List.length_take]; have := HN.out; omega) (fun e => by cases e) (fun A e => by cases e; exact strs_list (strs_past (strs_take _ HA.out) ((Below.refl _ _).alloc (Nat.le_refl _) _))) (strs_one _) (by unfold maxLen; omega) (by omega) (by simp) ?_; intro v1 w1 hown hgrow hnil; simp only [Nat.zero_add, List.nil_append] at hown; obtain ⟨ao1, c1, rfl⟩ := own_any hown; have O1 := hide hown; have B1 := hide (((Below.refl w.heap.size w).alloc (Nat.le_refl _) _).grown hgrow (by simp) (fun j hj => by cases hj; exact Nat.le_refl _)); have y0 := cell_past B1.out hc0; clear hown hgrow hnil)
              | (at_builtin; refine wpList_append_own _ rfl (.tmp 26) (.tmp 28) 88 rfl w.heap.size 9 i0 (.string ByteArray.empty) 1 16 Tryz.underlying88 hi hz0 hz1 hz2 rfl (by decide) _ _ _ rfl (own_past O1.out ((Below.refl _ _).alloc (Nat.le_refl _) _)) ⟨w1.heap.size, 0, none⟩ 1 1 [.string a] rfl rfl (new_cells (cs := #[.string a]) rfl) (strs_one [a]) (by unfold maxLen; omega) (by omega) (by simp; have := B1.out.size; omega) ?_; intro v2 w2 hown hgrow hnil; obtain ⟨ao2, c2, rfl⟩ := own_any hown; have O2 := hide hown; have B2 := hide ((B1.out.alloc B1.out.size _).grown hgrow (by simp; have := B1.out.size; omega) (fun j hj => (O1.out.lt j hj).1)); have y2 := cell_past B2.out hc0; clear hown hgrow hnil)
              | (at_builtin; refine wpList_append_nilH _ rfl (.tmp 44) (.tmp 47) 88 rfl w.heap.size 9 i0 (.string ByteArray.empty) 1 16 Tryz.underlying88 hi hz0 hz1 hz2 rfl (by decide) _ _ _ rfl O2.out (some ⟨b, off + (k + 1), none⟩) (n - (k + 1)) (c - (k + 1)) ((L.drop (k + 1)).map Value.string) rfl (by rw [List.length_map, List.length_drop]; have := HN.out; omega) (fun e => by cases e) (fun A e => by cases e; exact strs_list (strs_past (strs_drop (k + 1) HA.out) B2.out)) (by first | exact strs_one _ | exact fun u hu => absurd hu List.not_mem_nil) (by unfold maxLen; omega) (by omega) (by have := B2.out.size; omega) ?_; intro v3 w3 hown hgrow hnil; obtain ⟨ao3, c3, rfl⟩ := own_any hown; have O3 := hide hown; have B3 := hide (B2.out.grown hgrow B2.out.size (fun j hj => (O2.out.lt j hj).1)); clear hown hgrow hnil))
            all_goals
              go_ret
              refine ⟨_, rfl, OwnT.of O3.out ?_, B3.out⟩
              rw [HE.out]
              try rw [List.drop_eq_nil_of_le (by have := HN.out; omega)]
              simp
        | false =>
          have hne : ∀ z, L[k]? = some z → z ≠ a := fun z hz e => by
            rw [HRk.out] at hz; obtain rfl := Option.some.inj hz
            subst e
            simp at heq
          have HE : Hid (insT L a = L.take k ++ [a] ++ L.drop k) := ins_newT L k HK.out hne
          clear hne
          have hck : ¬ (c = k) := by omega
          go_wp2_with (first
            | (at_builtin; refine wpList_append_nilH _ rfl (.tmp 21) (.tmp 24) 88 rfl w.heap.size 9 i0 (.string ByteArray.empty) 1 16 Tryz.underlying88 hi hz0 hz1 hz2 rfl (by decide) _ _ _ rfl (World.ownsRow_made _ #[] 0 (Nat.le_refl _) (Nat.zero_le _) rfl) (some ⟨b, off, none⟩) k c ((L.take k).map Value.string) rfl (by rw [List.length_map, List.length_take]; have := HN.out; omega) (fun e => by cases e) (fun A e => by cases e; exact strs_list (strs_past (strs_take _ HA.out) ((Below.refl _ _).alloc (Nat.le_refl _) _))) (strs_one _) (by unfold maxLen; omega) (by omega) (by simp) ?_; intro v1 w1 hown hgrow hnil; simp only [Nat.zero_add, List.nil_append] at hown; obtain ⟨ao1, c1, rfl⟩ := own_any hown; have O1 := hide hown; have B1 := hide (((Below.refl w.heap.size w).alloc (Nat.le_refl _) _).grown hgrow (by simp) (fun j hj => by cases hj; exact Nat.le_refl _)); have y0 := cell_past B1.out hc0; clear hown hgrow hnil)
            | (at_builtin; refine wpList_append_own _ rfl (.tmp 26) (.tmp 28) 88 rfl w.heap.size 9 i0 (.string ByteArray.empty) 1 16 Tryz.underlying88 hi hz0 hz1 hz2 rfl (by decide) _ _ _ rfl (own_past O1.out ((Below.refl _ _).alloc (Nat.le_refl _) _)) ⟨w1.heap.size, 0, none⟩ 1 1 [.string a] rfl rfl (new_cells (cs := #[.string a]) rfl) (strs_one [a]) (by unfold maxLen; omega) (by omega) (by simp; have := B1.out.size; omega) ?_; intro v2 w2 hown hgrow hnil; obtain ⟨ao2, c2, rfl⟩ := own_any hown; have O2 := hide hown; have B2 := hide ((B1.out.alloc B1.out.size _).grown hgrow (by simp; have := B1.out.size; omega) (fun j hj => (O1.out.lt j hj).1)); have y2 := cell_past B2.out hc0; clear hown hgrow hnil)
            | (at_builtin; refine wpList_append_nilH _ rfl (.tmp 44) (.tmp 47) 88 rfl w.heap.size 9 i0 (.string ByteArray.empty) 1 16 Tryz.underlying88 hi hz0 hz1 hz2 rfl (by decide) _ _ _ rfl O2.out (some ⟨b, off + k, none⟩) (n - k) (c - k) ((L.drop k).map Value.string) rfl (by rw [List.length_map, List.length_drop]; have := HN.out; omega) (fun e => by cases e) (fun A e => by cases e; exact strs_list (strs_past (strs_drop k HA.out) B2.out)) (by first | exact strs_one _ | exact fun u hu => absurd hu List.not_mem_nil) (by unfold maxLen; omega) (by omega) (by have := B2.out.size; omega) ?_; intro v3 w3 hown hgrow hnil; obtain ⟨ao3, c3, rfl⟩ := own_any hown; have O3 := hide hown; have B3 := hide (B2.out.grown hgrow B2.out.size (fun j hj => (O2.out.lt j hj).1)); clear hown hgrow hnil))
          all_goals
            go_ret
            refine ⟨_, rfl, OwnT.of O3.out ?_, B3.out⟩
            rw [HE.out]
            try rw [List.drop_eq_nil_of_le (by have := HN.out; omega)]
            simp
    · have hkn2 : k = n := by omega
      subst hkn2
      have HE : Hid (insT L a = L.take k ++ [a] ++ L.drop k) := ins_newT L k ⟨by have := HN.out; omega, HF.out, fun z hz => absurd (List.getElem?_eq_some_iff.1 hz).1 (by have := HN.out; omega)⟩ (fun z hz => absurd (List.getElem?_eq_some_iff.1 hz).1 (by have := HN.out; omega))
      clear hrest HF
      cases ao with
      | none =>
        have h0 : c = 0 := HNo.out rfl
        subst h0
        have hk0 : k = 0 := by omega
        subst hk0
        go_wp2_with (first
          | (at_builtin; refine wpList_append_nilH _ rfl (.tmp 21) (.tmp 24) 88 rfl w.heap.size 9 i0 (.string ByteArray.empty) 1 16 Tryz.underlying88 hi hz0 hz1 hz2 rfl (by decide) _ _ _ rfl (World.ownsRow_made _ #[] 0 (Nat.le_refl _) (Nat.zero_le _) rfl) none 0 0 ((L.take 0).map Value.string) rfl (by rw [List.length_map, List.length_take]; have := HN.out; omega) (fun e => ⟨rfl, rfl⟩) (fun A e => by cases e) (strs_one _) (by unfold maxLen; omega) (by omega) (by simp) ?_; intro v1 w1 hown hgrow hnil; simp only [Nat.zero_add, List.nil_append] at hown; obtain ⟨ao1, c1, rfl⟩ := own_any hown; have O1 := hide hown; have B1 := hide (((Below.refl w.heap.size w).alloc (Nat.le_refl _) _).grown hgrow (by simp) (fun j hj => by cases hj; exact Nat.le_refl _)); clear hown hgrow hnil)
          | (at_builtin; refine wpList_append_own _ rfl (.tmp 26) (.tmp 28) 88 rfl w.heap.size 9 i0 (.string ByteArray.empty) 1 16 Tryz.underlying88 hi hz0 hz1 hz2 rfl (by decide) _ _ _ rfl (own_past O1.out ((Below.refl _ _).alloc (Nat.le_refl _) _)) ⟨w1.heap.size, 0, none⟩ 1 1 [.string a] rfl rfl (new_cells (cs := #[.string a]) rfl) (strs_one [a]) (by unfold maxLen; omega) (by omega) (by simp; have := B1.out.size; omega) ?_; intro v2 w2 hown hgrow hnil; obtain ⟨ao2, c2, rfl⟩ := own_any hown; have O2 := hide hown; have B2 := hide ((B1.out.alloc B1.out.size _).grown hgrow (by simp; have := B1.out.size; omega) (fun j hj => (O1.out.lt j hj).1)); clear hown hgrow hnil)
          | (at_builtin; refine wpList_append_nilH _ rfl (.tmp 44) (.tmp 47) 88 rfl w.heap.size 9 i0 (.string ByteArray.empty) 1 16 Tryz.underlying88 hi hz0 hz1 hz2 rfl (by decide) _ _ _ rfl O2.out none 0 0 [] rfl rfl (fun e => ⟨rfl, rfl⟩) (fun A e => by cases e) (by first | exact strs_one _ | exact fun u hu => absurd hu List.not_mem_nil) (by unfold maxLen; omega) (by omega) (by have := B2.out.size; omega) ?_; intro v3 w3 hown hgrow hnil; obtain ⟨ao3, c3, rfl⟩ := own_any hown; have O3 := hide hown; have B3 := hide (B2.out.grown hgrow B2.out.size (fun j hj => (O2.out.lt j hj).1)); clear hown hgrow hnil))
        all_goals
          go_ret
          refine ⟨_, rfl, OwnT.of O3.out ?_, B3.out⟩
          rw [HE.out]
          try rw [List.drop_eq_nil_of_le (by have := HN.out; omega)]
          simp
      | some A =>
        by_cases hck : c = k
        · subst hck
          go_wp2_with (first
            | (at_builtin; refine wpList_append_nilH _ rfl (.tmp 21) (.tmp 24) 88 rfl w.heap.size 9 i0 (.string ByteArray.empty) 1 16 Tryz.underlying88 hi hz0 hz1 hz2 rfl (by decide) _ _ _ rfl (World.ownsRow_made _ #[] 0 (Nat.le_refl _) (Nat.zero_le _) rfl) (some A) c c ((L.take c).map Value.string) rfl (by rw [List.length_map, List.length_take]; have := HN.out; omega) (fun e => by cases e) (fun A e => by cases e; exact strs_list (strs_past (strs_take _ HA.out) ((Below.refl _ _).alloc (Nat.le_refl _) _))) (strs_one _) (by unfold maxLen; omega) (by omega) (by simp) ?_; intro v1 w1 hown hgrow hnil; simp only [Nat.zero_add, List.nil_append] at hown; obtain ⟨ao1, c1, rfl⟩ := own_any hown; have O1 := hide hown; have B1 := hide (((Below.refl w.heap.size w).alloc (Nat.le_refl _) _).grown hgrow (by simp) (fun j hj => by cases hj; exact Nat.le_refl _)); clear hown hgrow hnil)
            | (at_builtin; refine wpList_append_own _ rfl (.tmp 26) (.tmp 28) 88 rfl w.heap.size 9 i0 (.string ByteArray.empty) 1 16 Tryz.underlying88 hi hz0 hz1 hz2 rfl (by decide) _ _ _ rfl (own_past O1.out ((Below.refl _ _).alloc (Nat.le_refl _) _)) ⟨w1.heap.size, 0, none⟩ 1 1 [.string a] rfl rfl (new_cells (cs := #[.string a]) rfl) (strs_one [a]) (by unfold maxLen; omega) (by omega) (by simp; have := B1.out.size; omega) ?_; intro v2 w2 hown hgrow hnil; obtain ⟨ao2, c2, rfl⟩ := own_any hown; have O2 := hide hown; have B2 := hide ((B1.out.alloc B1.out.size _).grown hgrow (by simp; have := B1.out.size; omega) (fun j hj => (O1.out.lt j hj).1)); clear hown hgrow hnil)
            | (at_builtin; refine wpList_append_nilH _ rfl (.tmp 44) (.tmp 47) 88 rfl w.heap.size 9 i0 (.string ByteArray.empty) 1 16 Tryz.underlying88 hi hz0 hz1 hz2 rfl (by decide) _ _ _ rfl O2.out _ 0 _ [] rfl rfl (fun e => by cases e) (fun A _ j z hz => by simp at hz) (by first | exact strs_one _ | exact fun u hu => absurd hu List.not_mem_nil) (by unfold maxLen; omega) (by omega) (by have := B2.out.size; omega) ?_; intro v3 w3 hown hgrow hnil; obtain ⟨ao3, c3, rfl⟩ := own_any hown; have O3 := hide hown; have B3 := hide (B2.out.grown hgrow B2.out.size (fun j hj => (O2.out.lt j hj).1)); clear hown hgrow hnil))
          all_goals
            go_ret
            refine ⟨_, rfl, OwnT.of O3.out ?_, B3.out⟩
            rw [HE.out]
            try rw [List.drop_eq_nil_of_le (by have := HN.out; omega)]
            simp
        · skip
          go_wp2_with (first
            | (at_builtin; refine wpList_append_nilH _ rfl (.tmp 21) (.tmp 24) 88 rfl w.heap.size 9 i0 (.string ByteArray.empty) 1 16 Tryz.underlying88 hi hz0 hz1 hz2 rfl (by decide) _ _ _ rfl (World.ownsRow_made _ #[] 0 (Nat.le_refl _) (Nat.zero_le _) rfl) (some A) k c ((L.take k).map Value.string) rfl (by rw [List.length_map, List.length_take]; have := HN.out; omega) (fun e => by cases e) (fun A e => by cases e; exact strs_list (strs_past (strs_take _ HA.out) ((Below.refl _ _).alloc (Nat.le_refl _) _))) (strs_one _) (by unfold maxLen; omega) (by omega) (by simp) ?_; intro v1 w1 hown hgrow hnil; simp only [Nat.zero_add, List.nil_append] at hown; obtain ⟨ao1, c1, rfl⟩ := own_any hown; have O1 := hide hown; have B1 := hide (((Below.refl w.heap.size w).alloc (Nat.le_refl _) _).grown hgrow (by simp) (fun j hj => by cases hj; exact Nat.le_refl _)); clear hown hgrow hnil)
            | (at_builtin; refine wpList_append_own _ rfl (.tmp 26) (.tmp 28) 88 rfl w.heap.size 9 i0 (.string ByteArray.empty) 1 16 Tryz.underlying88 hi hz0 hz1 hz2 rfl (by decide) _ _ _ rfl (own_past O1.out ((Below.refl _ _).alloc (Nat.le_refl _) _)) ⟨w1.heap.size, 0, none⟩ 1 1 [.string a] rfl rfl (new_cells (cs := #[.string a]) rfl) (strs_one [a]) (by unfold maxLen; omega) (by omega) (by simp; have := B1.out.size; omega) ?_; intro v2 w2 hown hgrow hnil; obtain ⟨ao2, c2, rfl⟩ := own_any hown; have O2 := hide hown; have B2 := hide ((B1.out.alloc B1.out.size _).grown hgrow (by simp; have := B1.out.size; omega) (fun j hj => (O1.out.lt j hj).1)); clear hown hgrow hnil)
            | (at_builtin; refine wpList_append_nilH _ rfl (.tmp 44) (.tmp 47) 88 rfl w.heap.size 9 i0 (.string ByteArray.empty) 1 16 Tryz.underlying88 hi hz0 hz1 hz2 rfl (by decide) _ _ _ rfl O2.out _ 0 _ [] rfl rfl (fun e => by cases e) (fun A _ j z hz => by simp at hz) (by first | exact strs_one _ | exact fun u hu => absurd hu List.not_mem_nil) (by unfold maxLen; omega) (by omega) (by have := B2.out.size; omega) ?_; intro v3 w3 hown hgrow hnil; obtain ⟨ao3, c3, rfl⟩ := own_any hown; have O3 := hide hown; have B3 := hide (B2.out.grown hgrow B2.out.size (fun j hj => (O2.out.lt j hj).1)); clear hown hgrow hnil))
          all_goals
            go_ret
            refine ⟨_, rfl, OwnT.of O3.out ?_, B3.out⟩
            rw [HE.out]
            try rw [List.drop_eq_nil_of_le (by have := HN.out; omega)]
            simp
end Go.Proofs.YtalmhekbagjdeaaGreatDoor
