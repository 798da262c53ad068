/-
  The model's sketch of how many: a hash put among rising ones (l04Exact). (Written by tools/gen_hmc.py.)
-/
import Derived.Test.YtljhjcmodaaaoaaHmB
import Derived.Test.YtljhjcmodaaaoaaAppN
namespace Go.Proofs.Ytljhjcmodaaaoaa
set_option linter.unusedVariables false
set_option linter.unusedSimpArgs false
open Go.ChangeShapes Go.WideShapes Go.ChangeAt Go.RowKit Go.PlainAid Go.Maps
set_option maxRecDepth 10000

/-- The place of a hash among rising ones. -/
def FirstU (L : List Int) (p : Int) (k : Nat) : Prop := k ≤ L.length ∧ (∀ (t : Nat) (x : Int), L[t]? = some x → t < k → x < p) ∧ ∀ x, L[k]? = some x → ¬ x < p
theorem firstU_tail {y : Int} {r : List Int} {p : Int} {k : Nat} (h : FirstU (y :: r) p (k + 1)) : FirstU r p k :=
  ⟨by have := h.1; simp at this; exact this, fun t x hx ht => h.2.1 (t + 1) x (by simpa using hx) (by omega), fun x hx => h.2.2 x (by simpa using hx)⟩
theorem ins_eqK {a : Int} : ∀ (L : List Int) (k : Nat), FirstU L a k → L[k]? = some a → insU L a = L.take k ++ [a] ++ L.drop (k + 1)
  | [], k, _, h => by simp at h
  | y :: r, 0, hp, h => by
    obtain rfl : y = a := by simpa using h
    simp [insU]
  | y :: r, k + 1, hp, h => by
    have hy := hp.2.1 0 y rfl (by omega)
    rw [insU, if_pos hy, ins_eqK r k (firstU_tail hp) (by simpa using h)]; rfl
theorem ins_newK {a : Int} : ∀ (L : List Int) (k : Nat), FirstU L a k → (∀ x, L[k]? = some x → x ≠ a) → insU L a = L.take k ++ [a] ++ L.drop k
  | [], k, hp, h => by have := hp.1; simp at this; subst this; rfl
  | y :: r, 0, hp, h => by
    have hy := hp.2.2 y rfl
    have hne : y ≠ a := h y rfl
    rw [insU, if_neg hy, if_neg hne]; rfl
  | y :: r, k + 1, hp, h => by
    have hy := hp.2.1 0 y rfl (by omega)
    rw [insU, if_pos hy, ins_newK r k (firstU_tail hp) (fun x hx => h x (by simpa using hx))]; rfl
theorem nums_takeN {kd : IntKind} {w : World} {ao : Option Addr} {L : List Int} (h : NumsAt kd w ao L) (k : Nat) : NumsAt kd w ao (L.take k) := fun h0 => by
  obtain ⟨b, off, e, hc⟩ := h (by rw [List.length_take] at h0; omega)
  exact ⟨b, off, e, fun i x hx => hc i x (by rw [List.getElem?_take] at hx; split at hx; exact hx; cases hx)⟩
theorem nums_dropN {kd : IntKind} {w : World} {b off : Nat} {L : List Int} (h : NumsAt kd w (some ⟨b, off, none⟩) L) (k : Nat) : NumsAt kd w (some ⟨b, off + k, none⟩) (L.drop k) := fun h0 => by
  rw [List.length_drop] at h0
  obtain ⟨b', off', e, hc⟩ := h (by omega)
  cases e
  exact ⟨b, off + k, rfl, fun i x hx => by rw [List.getElem?_drop] at hx; have := hc (k + i) x hx; rw [show off + k + i = off + (k + i) by omega]; exact this⟩
theorem nums_nw {kd : IntKind} {w : World} {ao : Option Addr} {L : List Int} (h : NumsAt kd w ao L) : ∀ ad, ao = some ad → ∀ j u, (L.map (Value.int kd))[j]? = some u → w.cell? (ad.add j) = some u := fun ad e j u hu => by
  rw [List.getElem?_map] at hu
  obtain ⟨x, hx, rfl⟩ := Option.map_eq_some_iff.1 hu
  obtain ⟨b, off, e2, hc⟩ := h (by have := (List.getElem?_eq_some_iff.1 hx).1; omega)
  rw [e] at e2; cases e2
  rw [Addr.add_lit]; exact hc j x hx
theorem one_map (kd : IntKind) (L : List Int) : ∀ u ∈ L.map (Value.int kd), u.oneCell' = true := fun u hu => by
  simp at hu; obtain ⟨x, _, rfl⟩ := hu; rfl
theorem own_ltB {w : World} {B n : Nat} {e : TypeId} {s : Nat} {v : Value} {xs : List Value} (h : w.ownsRow B e s v n xs) : ∀ k, v.ownBlock = some k → B ≤ k := fun k hk => by
  rcases h.2 with ⟨rfl, _⟩ | ⟨g, c, _, rfl, h1, _⟩
  · cases hk
  · have : g = k := Option.some.inj hk
    omega
set_option maxHeartbeats 4000000 in
theorem c_s_Exact {w : World} {n c : Nat} {ao : Option Addr} {L : List Int} (a : Int) (hn : L.length = n) (hl : n ≤ 1000000) (hcap : n ≤ c) (hcm : c ≤ maxLen) (hf : Flat ao) (hno : ao = none → c = 0) (hA : NumsAt .u64 w ao L) :
    Calls Try.prog 47 #[.slice ao n c, .int .u64 a] w fun e w' => ∃ v, e = .returned v ∧ w'.ownsRow w.heap.size 34 1 v (insU L a).length ((insU L a).map (Value.int .u64)) ∧ Below w.heap.size w w' := by
  obtain ⟨i0, hi, hz0, hz1, hz2⟩ := info_parts infoUint64S
  have HA := hide hA
  have HN := hide hn
  have HNo := hide hno
  have HFl := hide hf
  unfold maxLen at hcm
  clear hA hn hno hf
  go_enter Try.func47, Try.ntmps47
  go_wp2
  go_loop [5] (fun i => ∃ k : Nat, k ≤ n ∧ i = .int .i64 k ∧ Hid (∀ (t : Nat) (x : Int), L[t]? = some x → t < k → x < a)) (fun i => n - (intOf i).toNat)
  case atStart => exact ⟨0, Nat.zero_le _, rfl, (fun t x _ h => absurd h (by omega) : ∀ (t : Nat) (x : Int), L[t]? = some x → t < 0 → x < a)⟩
  case round =>
    obtain ⟨k, hk, rfl, HF⟩ := hrel
    by_cases hkn : k < n
    · obtain ⟨b, off, e, hcell⟩ := HA.out (by have := HN.out; omega)
      subst e
      obtain ⟨y, hRk⟩ : ∃ y, L[k]? = some y := ⟨L[k]'(by have := HN.out; omega), List.getElem?_eq_getElem _⟩
      have hc0 := hcell k y hRk
      clear hcell
      by_cases hlt : y < a
      · have HF2 : Hid (∀ (t : Nat) (x : Int), L[t]? = some x → t < k + 1 → x < a) := (fun t z hz ht => by
          by_cases e : t = k
          · subst e; rw [hRk] at hz; obtain rfl := Option.some.inj hz; exact hlt
          · exact HF.out t z hz (by omega) : ∀ (t : Nat) (x : Int), L[t]? = some x → t < k + 1 → x < a)
        have d1 : decide (y < a) = true := decide_eq_true hlt
        clear hRk
        go_wp2
        go_round
        case rel => exact ⟨k + 1, by omega, by go_num, HF2⟩
        case measure => simp [intOf]; omega
      · have HK : Hid (FirstU L a k) := (⟨by have := HN.out; omega, HF.out, fun z hz => by rw [hRk] at hz; obtain rfl := Option.some.inj hz; exact hlt⟩ : FirstU L a k)
        have d1 : decide (y < a) = false := decide_eq_false hlt
        have HRk := hide hRk
        clear hRk HF
        by_cases heq : y = a
        · subst heq
          have HE : Hid (insU L y = L.take k ++ [y] ++ L.drop (k + 1)) := ins_eqK L k HK.out HRk.out
          have hw1 : IntKind.i64.wrap ((k : Int) + 1) = (k : Int) + 1 := by rw [IntKind.wrap_i64]; omega
          have htn : ((k : Int) + 1).toNat = k + 1 := by omega
          have hb1 : (0 : Int) ≤ (k : Int) + 1 := by omega
          have hb3 : (k : Int) + 1 ≤ (n : Int) := by omega
          by_cases hce : c = k + 1
          · subst hce
            have hn1 : n = k + 1 := by omega
            have hn0 : k + 1 - (k + 1) = 0 := by omega
            subst hn1
            have HEz : Hid (insU L y = L.take k ++ [y] ++ []) := (by rw [HE.out, List.drop_eq_nil_of_le (by have := HN.out; omega)]; exact hide rfl)
            go_wp2_with (first
              | (at_builtin; refine wpList_append_nilH _ rfl (.tmp 21) (.tmp 24) 22 rfl w.heap.size 34 i0 (.int .u64 0) 1 8 Try.underlying22 hi hz0 hz1 hz2 rfl (by decide) _ _ _ rfl (World.ownsRow_made _ #[] 0 (Nat.le_refl _) (Nat.zero_le _) rfl) (some ⟨b, off, none⟩) k (k + 1) ((L.take k).map (Value.int .u64)) rfl (by rw [List.length_map, List.length_take]; have := HN.out; omega) (fun e => by cases e) (nums_nw (nums_takeN (nums_past HA.out ((Below.refl _ _).alloc (Nat.le_refl _) _)) k)) (one_map _ _) (by unfold maxLen; omega) (by omega) (by simp) ?_; intro v1 w1 hown hgrow hnil; simp only [Nat.zero_add, List.nil_append] at hown; obtain ⟨ao1, c1, rfl⟩ := own_any hown; have O1 := hide hown; have B1 := hide (((Below.refl w.heap.size w).alloc (Nat.le_refl _) _).grown hgrow (by simp) (fun j hj => by cases hj; exact Nat.le_refl _)); have y0 := cell_past B1.out hc0; clear hown hgrow hnil)
              | (at_builtin; refine wpList_append_nilH _ rfl (.tmp 26) (.tmp 28) 22 rfl w.heap.size 34 i0 (.int .u64 0) 1 8 Try.underlying22 hi hz0 hz1 hz2 rfl (by decide) _ _ _ rfl (own_past O1.out ((Below.refl _ _).alloc (Nat.le_refl _) _)) (some ⟨w1.heap.size, 0, none⟩) 1 1 [.int .u64 y] rfl rfl (fun e => by cases e) (fun ad e => by cases e; exact new_cells (cs := #[.int .u64 y]) rfl) (one_map .u64 [y]) (by unfold maxLen; omega) (by omega) (by simp; have := B1.out.size; omega) ?_; intro v2 w2 hown hgrow hnil; obtain ⟨ao2, c2, rfl⟩ := own_any hown; have O2 := hide hown; have B2 := hide ((B1.out.alloc B1.out.size _).grown hgrow (by simp; have := B1.out.size; omega) (fun j hj => own_ltB O1.out j hj)); have x0 := cell_past B2.out hc0; clear hown hgrow hnil)
              | (at_builtin; refine wpList_append_nilH _ rfl (.tmp 44) (.tmp 47) 22 rfl w.heap.size 34 i0 (.int .u64 0) 1 8 Try.underlying22 hi hz0 hz1 hz2 rfl (by decide) _ _ _ rfl O2.out (some ⟨b, off, none⟩) 0 0 (([] : List Int).map (Value.int .u64)) rfl rfl (fun e => by cases e) (fun A _ j z hz => by simp at hz) (one_map _ _) (by unfold maxLen; omega) (by omega) (by have := B2.out.size; omega) ?_; intro v3 w3 hown hgrow hnil; obtain ⟨ao3, c3, rfl⟩ := own_any hown; have O3 := hide hown; have B3 := hide (B2.out.grown hgrow B2.out.size (fun j hj => own_ltB O2.out j hj)); clear hown hgrow hnil))
            all_goals
              go_ret
              refine ⟨_, rfl, ?_, B3.out⟩
              have el : (insU L y).length = k + 1 + 0 := by
                rw [HEz.out]; have := HN.out
                simp only [List.length_append, List.length_take, List.length_drop, List.length_cons, List.length_nil]; omega
              rw [el, HEz.out, List.map_append, List.map_append]
              exact O3.out
          · go_wp2_with (first
              | (at_builtin; refine wpList_append_nilH _ rfl (.tmp 21) (.tmp 24) 22 rfl w.heap.size 34 i0 (.int .u64 0) 1 8 Try.underlying22 hi hz0 hz1 hz2 rfl (by decide) _ _ _ rfl (World.ownsRow_made _ #[] 0 (Nat.le_refl _) (Nat.zero_le _) rfl) (some ⟨b, off, none⟩) k c ((L.take k).map (Value.int .u64)) rfl (by rw [List.length_map, List.length_take]; have := HN.out; omega) (fun e => by cases e) (nums_nw (nums_takeN (nums_past HA.out ((Below.refl _ _).alloc (Nat.le_refl _) _)) k)) (one_map _ _) (by unfold maxLen; omega) (by omega) (by simp) ?_; intro v1 w1 hown hgrow hnil; simp only [Nat.zero_add, List.nil_append] at hown; obtain ⟨ao1, c1, rfl⟩ := own_any hown; have O1 := hide hown; have B1 := hide (((Below.refl w.heap.size w).alloc (Nat.le_refl _) _).grown hgrow (by simp) (fun j hj => by cases hj; exact Nat.le_refl _)); have y0 := cell_past B1.out hc0; clear hown hgrow hnil)
              | (at_builtin; refine wpList_append_nilH _ rfl (.tmp 26) (.tmp 28) 22 rfl w.heap.size 34 i0 (.int .u64 0) 1 8 Try.underlying22 hi hz0 hz1 hz2 rfl (by decide) _ _ _ rfl (own_past O1.out ((Below.refl _ _).alloc (Nat.le_refl _) _)) (some ⟨w1.heap.size, 0, none⟩) 1 1 [.int .u64 y] rfl rfl (fun e => by cases e) (fun ad e => by cases e; exact new_cells (cs := #[.int .u64 y]) rfl) (one_map .u64 [y]) (by unfold maxLen; omega) (by omega) (by simp; have := B1.out.size; omega) ?_; intro v2 w2 hown hgrow hnil; obtain ⟨ao2, c2, rfl⟩ := own_any hown; have O2 := hide hown; have B2 := hide ((B1.out.alloc B1.out.size _).grown hgrow (by simp; have := B1.out.size; omega) (fun j hj => own_ltB O1.out j hj)); have x0 := cell_past B2.out hc0; clear hown hgrow hnil)
              | (at_builtin; refine wpList_append_nilH _ rfl (.tmp 44) (.tmp 47) 22 rfl w.heap.size 34 i0 (.int .u64 0) 1 8 Try.underlying22 hi hz0 hz1 hz2 rfl (by decide) _ _ _ rfl O2.out (some ⟨b, off + (k + 1), none⟩) (n - (k + 1)) (c - (k + 1)) ((L.drop (k + 1) : List Int).map (Value.int .u64)) rfl (by rw [List.length_map, List.length_drop]; have := HN.out; omega) (fun e => by cases e) (nums_nw (nums_dropN (nums_past HA.out B2.out) (k + 1))) (one_map _ _) (by unfold maxLen; omega) (by omega) (by have := B2.out.size; omega) ?_; intro v3 w3 hown hgrow hnil; obtain ⟨ao3, c3, rfl⟩ := own_any hown; have O3 := hide hown; have B3 := hide (B2.out.grown hgrow B2.out.size (fun j hj => own_ltB O2.out j hj)); clear hown hgrow hnil))
            all_goals
              go_ret
              refine ⟨_, rfl, ?_, B3.out⟩
              have el : (insU L y).length = k + 1 + (n - (k + 1)) := by
                rw [HE.out]; have := HN.out
                simp only [List.length_append, List.length_take, List.length_drop, List.length_cons, List.length_nil]; omega
              rw [el, HE.out, List.map_append, List.map_append]
              exact O3.out
        · have HE : Hid (insU L a = L.take k ++ [a] ++ L.drop k) := ins_newK L k HK.out (fun z hz => by rw [HRk.out] at hz; obtain rfl := Option.some.inj hz; exact heq)
          have hck : ¬ (c = k) := by omega
          have d2 : decide (y = a) = false := decide_eq_false heq
          go_wp2_with (first
            | (at_builtin; refine wpList_append_nilH _ rfl (.tmp 21) (.tmp 24) 22 rfl w.heap.size 34 i0 (.int .u64 0) 1 8 Try.underlying22 hi hz0 hz1 hz2 rfl (by decide) _ _ _ rfl (World.ownsRow_made _ #[] 0 (Nat.le_refl _) (Nat.zero_le _) rfl) (some ⟨b, off, none⟩) k c ((L.take k).map (Value.int .u64)) rfl (by rw [List.length_map, List.length_take]; have := HN.out; omega) (fun e => by cases e) (nums_nw (nums_takeN (nums_past HA.out ((Below.refl _ _).alloc (Nat.le_refl _) _)) k)) (one_map _ _) (by unfold maxLen; omega) (by omega) (by simp) ?_; intro v1 w1 hown hgrow hnil; simp only [Nat.zero_add, List.nil_append] at hown; obtain ⟨ao1, c1, rfl⟩ := own_any hown; have O1 := hide hown; have B1 := hide (((Below.refl w.heap.size w).alloc (Nat.le_refl _) _).grown hgrow (by simp) (fun j hj => by cases hj; exact Nat.le_refl _)); have y0 := cell_past B1.out hc0; clear hown hgrow hnil)
            | (at_builtin; refine wpList_append_nilH _ rfl (.tmp 26) (.tmp 28) 22 rfl w.heap.size 34 i0 (.int .u64 0) 1 8 Try.underlying22 hi hz0 hz1 hz2 rfl (by decide) _ _ _ rfl (own_past O1.out ((Below.refl _ _).alloc (Nat.le_refl _) _)) (some ⟨w1.heap.size, 0, none⟩) 1 1 [.int .u64 a] rfl rfl (fun e => by cases e) (fun ad e => by cases e; exact new_cells (cs := #[.int .u64 a]) rfl) (one_map .u64 [a]) (by unfold maxLen; omega) (by omega) (by simp; have := B1.out.size; omega) ?_; intro v2 w2 hown hgrow hnil; obtain ⟨ao2, c2, rfl⟩ := own_any hown; have O2 := hide hown; have B2 := hide ((B1.out.alloc B1.out.size _).grown hgrow (by simp; have := B1.out.size; omega) (fun j hj => own_ltB O1.out j hj)); have x0 := cell_past B2.out hc0; clear hown hgrow hnil)
            | (at_builtin; refine wpList_append_nilH _ rfl (.tmp 44) (.tmp 47) 22 rfl w.heap.size 34 i0 (.int .u64 0) 1 8 Try.underlying22 hi hz0 hz1 hz2 rfl (by decide) _ _ _ rfl O2.out (some ⟨b, off + k, none⟩) (n - k) (c - k) ((L.drop k : List Int).map (Value.int .u64)) rfl (by rw [List.length_map, List.length_drop]; have := HN.out; omega) (fun e => by cases e) (nums_nw (nums_dropN (nums_past HA.out B2.out) k)) (one_map _ _) (by unfold maxLen; omega) (by omega) (by have := B2.out.size; omega) ?_; intro v3 w3 hown hgrow hnil; obtain ⟨ao3, c3, rfl⟩ := own_any hown; have O3 := hide hown; have B3 := hide (B2.out.grown hgrow B2.out.size (fun j hj => own_ltB O2.out j hj)); clear hown hgrow hnil))
          all_goals
            go_ret
            refine ⟨_, rfl, ?_, B3.out⟩
            have el : (insU L a).length = k + 1 + (n - k) := by
              rw [HE.out]; have := HN.out
              simp only [List.length_append, List.length_take, List.length_drop, List.length_cons, List.length_nil]; omega
            rw [el, HE.out, List.map_append, List.map_append]
            exact O3.out
    · have hkn2 : k = n := by omega
      subst hkn2
      have HK : Hid (FirstU L a k) := (⟨by have := HN.out; omega, HF.out, fun z hz => absurd (List.getElem?_eq_some_iff.1 hz).1 (by have := HN.out; omega)⟩ : FirstU L a k)
      have HE : Hid (insU L a = L ++ [a] ++ []) := (by
        rw [ins_newK L k HK.out (fun z hz => absurd (List.getElem?_eq_some_iff.1 hz).1 (by have := HN.out; omega)), List.take_of_length_le (by have := HN.out; omega), List.drop_eq_nil_of_le (by have := HN.out; omega)]; exact hide rfl)
      clear HK HF
      rcases HFl.out with rfl | ⟨b, off, rfl⟩
      · have h0 : c = 0 := HNo.out rfl
        subst h0
        have hk0 : k = 0 := by omega
        subst hk0
        go_wp2_with (first
          | (at_builtin; refine wpList_append_nilH _ rfl (.tmp 21) (.tmp 24) 22 rfl w.heap.size 34 i0 (.int .u64 0) 1 8 Try.underlying22 hi hz0 hz1 hz2 rfl (by decide) _ _ _ rfl (World.ownsRow_made _ #[] 0 (Nat.le_refl _) (Nat.zero_le _) rfl) (none) 0 0 ((L).map (Value.int .u64)) rfl (by rw [List.length_map]; have := HN.out; omega) (fun e => ⟨rfl, rfl⟩) (nums_nw (nums_past HA.out ((Below.refl _ _).alloc (Nat.le_refl _) _))) (one_map _ _) (by unfold maxLen; omega) (by omega) (by simp) ?_; intro v1 w1 hown hgrow hnil; simp only [Nat.zero_add, List.nil_append] at hown; obtain ⟨ao1, c1, rfl⟩ := own_any hown; have O1 := hide hown; have B1 := hide (((Below.refl w.heap.size w).alloc (Nat.le_refl _) _).grown hgrow (by simp) (fun j hj => by cases hj; exact Nat.le_refl _)); clear hown hgrow hnil)
          | (at_builtin; refine wpList_append_nilH _ rfl (.tmp 26) (.tmp 28) 22 rfl w.heap.size 34 i0 (.int .u64 0) 1 8 Try.underlying22 hi hz0 hz1 hz2 rfl (by decide) _ _ _ rfl (own_past O1.out ((Below.refl _ _).alloc (Nat.le_refl _) _)) (some ⟨w1.heap.size, 0, none⟩) 1 1 [.int .u64 a] rfl rfl (fun e => by cases e) (fun ad e => by cases e; exact new_cells (cs := #[.int .u64 a]) rfl) (one_map .u64 [a]) (by unfold maxLen; omega) (by omega) (by simp; have := B1.out.size; omega) ?_; intro v2 w2 hown hgrow hnil; obtain ⟨ao2, c2, rfl⟩ := own_any hown; have O2 := hide hown; have B2 := hide ((B1.out.alloc B1.out.size _).grown hgrow (by simp; have := B1.out.size; omega) (fun j hj => own_ltB O1.out j hj)); clear hown hgrow hnil)
          | (at_builtin; refine wpList_append_nilH _ rfl (.tmp 44) (.tmp 47) 22 rfl w.heap.size 34 i0 (.int .u64 0) 1 8 Try.underlying22 hi hz0 hz1 hz2 rfl (by decide) _ _ _ rfl O2.out (none) 0 0 (([] : List Int).map (Value.int .u64)) rfl rfl (fun e => ⟨rfl, rfl⟩) (fun A _ j z hz => by simp at hz) (one_map _ _) (by unfold maxLen; omega) (by omega) (by have := B2.out.size; omega) ?_; intro v3 w3 hown hgrow hnil; obtain ⟨ao3, c3, rfl⟩ := own_any hown; have O3 := hide hown; have B3 := hide (B2.out.grown hgrow B2.out.size (fun j hj => own_ltB O2.out j hj)); clear hown hgrow hnil))
        all_goals
          go_ret
          refine ⟨_, rfl, ?_, B3.out⟩
          have el : (insU L a).length = 0 + 1 + 0 := by
            rw [HE.out]; have := HN.out
            simp only [List.length_append, List.length_take, List.length_drop, List.length_cons, List.length_nil]; omega
          rw [el, HE.out, List.map_append, List.map_append]
          exact O3.out
      · by_cases hck : c = k
        · subst hck
          go_wp2_with (first
            | (at_builtin; refine wpList_append_nilH _ rfl (.tmp 21) (.tmp 24) 22 rfl w.heap.size 34 i0 (.int .u64 0) 1 8 Try.underlying22 hi hz0 hz1 hz2 rfl (by decide) _ _ _ rfl (World.ownsRow_made _ #[] 0 (Nat.le_refl _) (Nat.zero_le _) rfl) (some ⟨b, off, none⟩) c c ((L).map (Value.int .u64)) rfl (by rw [List.length_map]; have := HN.out; omega) (fun e => by cases e) (nums_nw (nums_past HA.out ((Below.refl _ _).alloc (Nat.le_refl _) _))) (one_map _ _) (by unfold maxLen; omega) (by omega) (by simp) ?_; intro v1 w1 hown hgrow hnil; simp only [Nat.zero_add, List.nil_append] at hown; obtain ⟨ao1, c1, rfl⟩ := own_any hown; have O1 := hide hown; have B1 := hide (((Below.refl w.heap.size w).alloc (Nat.le_refl _) _).grown hgrow (by simp) (fun j hj => by cases hj; exact Nat.le_refl _)); clear hown hgrow hnil)
            | (at_builtin; refine wpList_append_nilH _ rfl (.tmp 26) (.tmp 28) 22 rfl w.heap.size 34 i0 (.int .u64 0) 1 8 Try.underlying22 hi hz0 hz1 hz2 rfl (by decide) _ _ _ rfl (own_past O1.out ((Below.refl _ _).alloc (Nat.le_refl _) _)) (some ⟨w1.heap.size, 0, none⟩) 1 1 [.int .u64 a] rfl rfl (fun e => by cases e) (fun ad e => by cases e; exact new_cells (cs := #[.int .u64 a]) rfl) (one_map .u64 [a]) (by unfold maxLen; omega) (by omega) (by simp; have := B1.out.size; omega) ?_; intro v2 w2 hown hgrow hnil; obtain ⟨ao2, c2, rfl⟩ := own_any hown; have O2 := hide hown; have B2 := hide ((B1.out.alloc B1.out.size _).grown hgrow (by simp; have := B1.out.size; omega) (fun j hj => own_ltB O1.out j hj)); clear hown hgrow hnil)
            | (at_builtin; refine wpList_append_nilH _ rfl (.tmp 44) (.tmp 47) 22 rfl w.heap.size 34 i0 (.int .u64 0) 1 8 Try.underlying22 hi hz0 hz1 hz2 rfl (by decide) _ _ _ rfl O2.out (_) 0 _ (([] : List Int).map (Value.int .u64)) rfl rfl (fun e => by cases e) (fun A _ j z hz => by simp at hz) (one_map _ _) (by unfold maxLen; omega) (by omega) (by have := B2.out.size; omega) ?_; intro v3 w3 hown hgrow hnil; obtain ⟨ao3, c3, rfl⟩ := own_any hown; have O3 := hide hown; have B3 := hide (B2.out.grown hgrow B2.out.size (fun j hj => own_ltB O2.out j hj)); clear hown hgrow hnil))
          all_goals
            go_ret
            refine ⟨_, rfl, ?_, B3.out⟩
            have el : (insU L a).length = c + 1 + 0 := by
              rw [HE.out]; have := HN.out
              simp only [List.length_append, List.length_take, List.length_drop, List.length_cons, List.length_nil]; omega
            rw [el, HE.out, List.map_append, List.map_append]
            exact O3.out
        · go_wp2_with (first
            | (at_builtin; refine wpList_append_nilH _ rfl (.tmp 21) (.tmp 24) 22 rfl w.heap.size 34 i0 (.int .u64 0) 1 8 Try.underlying22 hi hz0 hz1 hz2 rfl (by decide) _ _ _ rfl (World.ownsRow_made _ #[] 0 (Nat.le_refl _) (Nat.zero_le _) rfl) (some ⟨b, off, none⟩) k c ((L).map (Value.int .u64)) rfl (by rw [List.length_map]; have := HN.out; omega) (fun e => by cases e) (nums_nw (nums_past HA.out ((Below.refl _ _).alloc (Nat.le_refl _) _))) (one_map _ _) (by unfold maxLen; omega) (by omega) (by simp) ?_; intro v1 w1 hown hgrow hnil; simp only [Nat.zero_add, List.nil_append] at hown; obtain ⟨ao1, c1, rfl⟩ := own_any hown; have O1 := hide hown; have B1 := hide (((Below.refl w.heap.size w).alloc (Nat.le_refl _) _).grown hgrow (by simp) (fun j hj => by cases hj; exact Nat.le_refl _)); clear hown hgrow hnil)
            | (at_builtin; refine wpList_append_nilH _ rfl (.tmp 26) (.tmp 28) 22 rfl w.heap.size 34 i0 (.int .u64 0) 1 8 Try.underlying22 hi hz0 hz1 hz2 rfl (by decide) _ _ _ rfl (own_past O1.out ((Below.refl _ _).alloc (Nat.le_refl _) _)) (some ⟨w1.heap.size, 0, none⟩) 1 1 [.int .u64 a] rfl rfl (fun e => by cases e) (fun ad e => by cases e; exact new_cells (cs := #[.int .u64 a]) rfl) (one_map .u64 [a]) (by unfold maxLen; omega) (by omega) (by simp; have := B1.out.size; omega) ?_; intro v2 w2 hown hgrow hnil; obtain ⟨ao2, c2, rfl⟩ := own_any hown; have O2 := hide hown; have B2 := hide ((B1.out.alloc B1.out.size _).grown hgrow (by simp; have := B1.out.size; omega) (fun j hj => own_ltB O1.out j hj)); clear hown hgrow hnil)
            | (at_builtin; refine wpList_append_nilH _ rfl (.tmp 44) (.tmp 47) 22 rfl w.heap.size 34 i0 (.int .u64 0) 1 8 Try.underlying22 hi hz0 hz1 hz2 rfl (by decide) _ _ _ rfl O2.out (_) 0 _ (([] : List Int).map (Value.int .u64)) rfl rfl (fun e => by cases e) (fun A _ j z hz => by simp at hz) (one_map _ _) (by unfold maxLen; omega) (by omega) (by have := B2.out.size; omega) ?_; intro v3 w3 hown hgrow hnil; obtain ⟨ao3, c3, rfl⟩ := own_any hown; have O3 := hide hown; have B3 := hide (B2.out.grown hgrow B2.out.size (fun j hj => own_ltB O2.out j hj)); clear hown hgrow hnil))
          all_goals
            go_ret
            refine ⟨_, rfl, ?_, B3.out⟩
            have el : (insU L a).length = k + 1 + 0 := by
              rw [HE.out]; have := HN.out
              simp only [List.length_append, List.length_take, List.length_drop, List.length_cons, List.length_nil]; omega
            rw [el, HE.out, List.map_append, List.map_append]
            exact O3.out
end Go.Proofs.Ytljhjcmodaaaoaa
