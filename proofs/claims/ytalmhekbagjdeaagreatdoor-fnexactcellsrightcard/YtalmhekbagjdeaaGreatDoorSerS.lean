/-
  The model's series.
-/
import Derived.Test.YtalmhekbagjdeaaGreatDoorTagS
namespace Go.Proofs.YtalmhekbagjdeaaGreatDoor
set_option linter.unusedVariables false
set_option linter.unusedSimpArgs false
open Go.ChangeShapes Go.WideShapes Go.ChangeAt Go.RowKit Go.PlainAid
set_option maxRecDepth 10000

theorem str_addL {a b : ByteArray} {x y : List UInt8} (ha : a = ⟨x.toArray⟩) (hb : b = ⟨y.toArray⟩) (h : x.length + y.length ≤ 1000000) : Op.stringOp .add a b = pure (.string ⟨(x ++ y).toArray⟩) := by
  subst ha; subst hb
  unfold Op.stringOp
  have e1 : (⟨x.toArray⟩ : ByteArray).size = x.length := by rw [← toL_len, toL_mk]
  have e2 : (⟨y.toArray⟩ : ByteArray).size = y.length := by rw [← toL_len, toL_mk]
  have : ¬ ((((⟨x.toArray⟩ : ByteArray).size + (⟨y.toArray⟩ : ByteArray).size : Nat) : Int) > IntKind.i64.max) := by
    have e : IntKind.i64.max = 9223372036854775807 := by decide
    rw [e, e1, e2]; omega
  simp only [if_neg this, mk_app]
theorem own_le' {w : World} {B B' size n : Nat} {e : TypeId} {v : Value} {xs : List Value} (h : w.ownsRow B e size v n xs) (hb : B' ≤ B) : w.ownsRow B' e size v n xs := by
  refine ⟨h.1, ?_⟩
  rcases h.2 with h2 | ⟨g, cap, cur, e1, e2, e3⟩
  · exact .inl h2
  · exact .inr ⟨g, cap, cur, e1, Nat.le_trans hb e2, e3⟩
theorem serK_snoc {L : List ByteArray} {k : Nat} {x : ByteArray} (h : L[k]? = some x) : serK (L.take (k + 1)) = insT (serK (L.take k)) x := by
  rw [List.take_add_one, h]; simp [serK, List.foldl_append]
theorem all_no {L : List ByteArray} {k : Nat} {x : ByteArray} (h : L[k]? = some x) (hx : tagB x = false) : L.all tagB = false := by
  rw [List.all_eq_false]; exact ⟨x, List.mem_of_getElem? h, by rw [hx]; decide⟩

set_option maxHeartbeats 1000000 in
theorem c_s_l06Tags {w : World} {ao : Option Addr} {L : List ByteArray} (c n : Nat) (hn : L.length = n) (hl : n ≤ 1048576) (hu : ∀ u ∈ L, u.size ≤ maxLen) (hA : StrsAt w ao L) :
    Calls Tryz.prog 71 #[.slice ao n c] w fun e w' => e = .returned (.bool (L.all tagB)) ∧ w' = w := by
  have HA := hide hA
  have HN := hide hn
  have HU := hide hu
  clear hA hn hu
  go_enter Tryz.func71, Tryz.ntmps71
  go_wp2
  go_loop [3] (fun i => ∃ k : Nat, k ≤ n ∧ i = .int .i64 k ∧ Hid ((L.take k).all tagB = true)) (fun i => n - (intOf i).toNat)
  case atStart => exact ⟨0, Nat.zero_le _, rfl, (by simp : (L.take 0).all tagB = true)⟩
  case round =>
    obtain ⟨k, hk, rfl, HF⟩ := hrel
    by_cases hkn : k < n
    · obtain ⟨b, off, e, hcell⟩ := HA.out (by have := HN.out; omega)
      subst e
      obtain ⟨y, hy⟩ : ∃ y, L[k]? = some y := ⟨L[k]'(by have := HN.out; omega), List.getElem?_eq_getElem _⟩
      have hc0 := hcell k y hy
      have HZ := hide (HU.out y (List.mem_of_getElem? hy))
      have HY := hide hy
      clear hcell hy
      cases ht : tagB y with
      | false =>
        have HE : Hid (L.all tagB = false) := all_no HY.out ht
        go_wp2_with (go_at_call 97; refine (c_s_TagRight _ _ HZ.out).mono ?_; rintro e w1 ⟨rfl, rfl⟩)
        go_ret
        exact ⟨ret_bool HE.out.symm, rfl⟩
      | true =>
        have HE : Hid ((L.take (k + 1)).all tagB = true) := (by rw [List.take_add_one, HY.out, List.all_append, HF.out]; simp [ht] : (L.take (k + 1)).all tagB = true)
        go_wp2_with (go_at_call 97; refine (c_s_TagRight _ _ HZ.out).mono ?_; rintro e w1 ⟨rfl, rfl⟩)
        go_round
        case rel => exact ⟨k + 1, by omega, by go_num, HE⟩
        case measure => simp [intOf]; omega
    · have HE : Hid (L.all tagB = true) := (by have := HF.out; rwa [List.take_of_length_le (by have := HN.out; omega)] at this : L.all tagB = true)
      go_wp2
      go_ret
      exact ⟨ret_bool HE.out.symm, rfl⟩

theorem head_len {name : ByteArray} {K : List ByteArray} (h : name.size ≤ 100) (hk : ∀ x ∈ K, x.size ≤ 20) (hl : K.length ≤ 20100) : (headT name K).length ≤ 422300 := by
  have := joinT_len hk
  unfold headT
  simp only [List.length_append, toL_len, List.length_cons, List.length_nil]
  omega
theorem head_zero {K : List ByteArray} {x : ByteArray} (name : ByteArray) (h : K[0]? = some x) : headT name (K.take 0) ++ toL x = headT name (K.take 1) := by
  rw [List.take_add_one, h]; simp [headT, joinT_one, joinT_nil]
theorem head_snoc {K : List ByteArray} {x : ByteArray} {i : Nat} (name : ByteArray) (h : K[i]? = some x) (h0 : 0 < i) : headT name (K.take i) ++ [44] ++ toL x = headT name (K.take (i + 1)) := by
  have hl := (List.getElem?_eq_some_iff.1 h).1
  rw [List.take_add_one, h]
  unfold headT
  rw [show (some x).toList = [x] from rfl, joinT_snoc (fun e => by have := congrArg List.length e; rw [List.length_take, List.length_nil] at this; omega)]
  simp

set_option maxHeartbeats 2000000 in
theorem c_s_l06Series {w : World} {ao : Option Addr} {L : List ByteArray} (name : ByteArray) (c n : Nat) (hnm : name.size ≤ 100) (hn : L.length = n) (hl : n ≤ 20100) (hu : ∀ u ∈ L, u.size ≤ 20) (hA : StrsAt w ao L) :
    Calls Tryz.prog 72 #[.string name, .slice ao n c] w fun e w' => e = .returned (.string (serF name L)) ∧ Below w.heap.size w w' := by
  have HA := hide hA
  have HN := hide hn
  have HU := hide hu
  clear hA hn hu
  go_enter Tryz.func72, Tryz.ntmps72
  go_wp2
  have O0 : OwnT (w.alloc (.cells #[] 9)) w.heap.size (.slice (some ⟨w.heap.size, 0, none⟩) 0 0) [] := World.ownsRow_made w #[] 0 (Nat.le_refl _) (Nat.zero_le _) rfl
  go_loopw [5, 6] (fun lv i wr => ∃ (k : Nat) (lo : Option Addr) (m lc : Nat), k ≤ n ∧ i = .int .i64 k ∧ lv = .slice lo m lc ∧ Hid (OwnT wr w.heap.size (.slice lo m lc) (serK (L.take k)) ∧ m = (serK (L.take k)).length) ∧ Hid (Below w.heap.size w wr)) (fun lv i wr => n - (intOf i).toNat)
  case atStart => exact ⟨0, _, 0, 0, Nat.zero_le _, rfl, rfl, ⟨O0, rfl⟩, (Below.refl _ _).alloc (Nat.le_refl _) _⟩
  case round =>
    clear O0
    obtain ⟨k, lo, m, lc, hk, rfl, rfl, HO, HB⟩ := hrel
    by_cases hkn : k < n
    · obtain ⟨b, off, e, hcell⟩ := HA.out (by have := HN.out; omega)
      obtain ⟨y, hy⟩ : ∃ y, L[k]? = some y := ⟨L[k]'(by have := HN.out; omega), List.getElem?_eq_getElem _⟩
      subst e
      have hc0 := cell_past HB.out (hcell k y hy)
      have HE := hide (serK_snoc hy)
      have hml : m ≤ 20100 := by have := serK_len (L.take k); have := HO.out.2; rw [List.length_take] at *; omega
      clear hcell hy
      have G := hide HO.out.1.cap
      go_wp2_with (go_at_call 98; refine (c_s_l06Tag y HO.out.2.symm (by omega) G.out.2.1 G.out.2.2.1 G.out.2.2.2 HO.out.1.at).mono ?_; rintro e w2 ⟨v2, rfl, o2, hb2⟩; obtain ⟨ao2, c2, rfl⟩ := ownT_any o2; rw [← HE.out] at o2; have HO2 := hide o2; have HB2 := hide (HB.out.trans (hb2.mono HB.out.size)); have o2z := hb2.size; clear o2 hb2)
      go_roundw
      case rel =>
        rw [← HE.out]
        refine ⟨k + 1, ao2, _, c2, by omega, by go_num, rfl, ⟨?_, rfl⟩, HB2⟩
        have h := HO2.out
        unfold OwnT at h ⊢
        exact own_le' h HB.out.size
      case measure => simp [intOf]; omega
    · have hke : k = n := by omega
      subst hke
      have eL : L.take k = L := List.take_of_length_le (by have := HN.out; omega)
      rw [eL] at HO
      clear eL
      obtain ⟨K, hK⟩ : ∃ K, serK L = K := ⟨_, rfl⟩
      have HK := hide hK
      rw [hK] at HO
      have HKu : Hid (∀ x ∈ K, x.size ≤ 20) := (fun x hx => HU.out x (mem_serK.1 (by rw [hK]; exact hx)) : ∀ x ∈ K, x.size ≤ 20)
      have hml : m ≤ 20100 := by have := serK_len L; have := HO.out.2; have := HN.out; rw [hK] at *; omega
      clear hK
      have HKl : Hid (K.length ≤ 20100) := (by have := HO.out.2; omega : K.length ≤ 20100)
      obtain ⟨T0, hT0⟩ : ∃ T0 : ByteArray, T0 = ⟨(headT name (K.take 0)).toArray⟩ := ⟨_, rfl⟩
      have hadd0 : Op.stringOp .add name ⟨#[123]⟩ = pure (.string T0) := by
        rw [str_addL (x := toL name) (y := [123]) (mk_toL name).symm rfl (by rw [toL_len]; simp; omega), hT0]; simp [headT, joinT_nil]
      have HT0 := hide hT0
      clear hT0
      go_wp2
      go_loop [7, 8] (fun tv i => ∃ (j : Nat) (T : ByteArray), j ≤ m ∧ i = .int .i64 j ∧ tv = .string T ∧ Hid (T = ⟨(headT name (K.take j)).toArray⟩)) (fun tv i => m - (intOf i).toNat)
      case atStart => exact ⟨0, T0, Nat.zero_le _, rfl, rfl, HT0⟩
      case round =>
        clear HT0 hadd0
        obtain ⟨j, T, hj, rfl, rfl, HT⟩ := hrel
        by_cases hjm : j < m
        · obtain ⟨b, off, e, hcell⟩ := HO.out.1.at (by have := HO.out.2; omega)
          obtain ⟨y, hy⟩ : ∃ y, K[j]? = some y := ⟨K[j]'(by have := HO.out.2; omega), List.getElem?_eq_getElem _⟩
          subst e
          have hc0 := hcell j y hy
          have hys : y.size ≤ 20 := HKu.out y (List.mem_of_getElem? hy)
          have hlen := head_len (name := name) (K := K.take j) hnm (fun x hx => HKu.out x (List.mem_of_mem_take hx)) (by rw [List.length_take]; have := HKl.out; omega)
          rcases Nat.eq_zero_or_pos j with h0 | h0
          · subst h0
            rw [Nat.add_zero] at hc0
            obtain ⟨T2, hT2⟩ : ∃ T2 : ByteArray, T2 = ⟨(headT name (K.take 1)).toArray⟩ := ⟨_, rfl⟩
            have hadd : Op.stringOp .add T y = pure (.string T2) := by
              rw [str_addL HT.out (mk_toL y).symm (by rw [toL_len]; omega), head_zero name hy, hT2]
            have HT2 := hide hT2
            clear hT2 hy hcell hlen hys
            go_wp2
            go_round
            case rel => exact ⟨1, T2, by omega, by go_num, rfl, HT2⟩
            case measure => simp [intOf]; omega
          · have h0i : (0 : Int) < (j : Int) := by omega
            obtain ⟨T1, hT1⟩ : ∃ T1 : ByteArray, T1 = ⟨(headT name (K.take j) ++ [44]).toArray⟩ := ⟨_, rfl⟩
            have hadd1 : Op.stringOp .add T ⟨#[44]⟩ = pure (.string T1) := by
              rw [str_addL (y := [44]) HT.out rfl (by simp; omega), hT1]
            obtain ⟨T2, hT2⟩ : ∃ T2 : ByteArray, T2 = ⟨(headT name (K.take (j + 1))).toArray⟩ := ⟨_, rfl⟩
            have hadd2 : Op.stringOp .add T1 y = pure (.string T2) := by
              rw [str_addL hT1 (mk_toL y).symm (by rw [toL_len]; simp; omega), head_snoc name hy h0, hT2]
            have HT2 := hide hT2
            clear hT2 hT1 hy hcell hlen hys
            go_wp2
            go_round
            case rel => exact ⟨j + 1, T2, by omega, by go_num, rfl, HT2⟩
            case measure => simp [intOf]; omega
        · have hjm2 : j = m := by omega
          have eK : K.take j = K := List.take_of_length_le (by have := HO.out.2; omega)
          have hlen := head_len (name := name) (K := K) hnm HKu.out HKl.out
          obtain ⟨T2, hT2⟩ : ∃ T2 : ByteArray, T2 = serT name K := ⟨_, rfl⟩
          have hadd : Op.stringOp .add T ⟨#[125]⟩ = pure (.string T2) := by
            rw [str_addL (y := [125]) HT.out rfl (by rw [eK]; simp; omega), eK, hT2]; rfl
          have hs2 : T2.size ≤ 1000000 := by rw [hT2, ← toL_len, serT, toL_mk]; simp; omega
          have HF : Hid (serF name L = if 8 < m ∨ 100 < T2.size then ByteArray.empty else T2) := (by unfold serF; rw [HK.out, hT2, ← HO.out.2] : serF name L = if 8 < m ∨ 100 < T2.size then ByteArray.empty else T2)
          clear hT2 eK hlen HT hjm2
          by_cases h8 : 8 < m
          · have h8i : (8 : Int) < (m : Int) := by omega
            have HF2 : Hid (serF name L = ByteArray.empty) := (by rw [HF.out, if_pos (.inl h8)] : serF name L = ByteArray.empty)
            go_wp2
            go_ret
            exact ⟨by rw [HF2.out]; rfl, HB.out⟩
          · have h8i : ¬ (8 : Int) < (m : Int) := by omega
            by_cases h100 : 100 < T2.size
            · have h100i : (100 : Int) < (T2.size : Int) := by omega
              have HF2 : Hid (serF name L = ByteArray.empty) := (by rw [HF.out, if_pos (.inr h100)] : serF name L = ByteArray.empty)
              go_wp2
              go_ret
              exact ⟨by rw [HF2.out]; rfl, HB.out⟩
            · have h100i : ¬ (100 : Int) < (T2.size : Int) := by omega
              have HF2 : Hid (serF name L = T2) := (by rw [HF.out, if_neg (by omega)] : serF name L = T2)
              go_wp2
              go_ret
              exact ⟨by rw [HF2.out]; rfl, HB.out⟩
end Go.Proofs.YtalmhekbagjdeaaGreatDoor
