/-
  The contracts of spec.l02Owner, spec.OwnerOf.
-/
import Derived.Test.YtkccgjeanehaiaaDoorRingO
namespace Go.Proofs.YtkccgjeanehaiaaDoor
set_option linter.unusedVariables false
set_option linter.unusedSimpArgs false
open Go.ChangeShapes Go.WideShapes Go.ChangeAt Go.RowKit Go.PlainAid Go.Lib Go.Shelf
open Go.Sort hiding Below

set_option maxRecDepth 10000 in
set_option maxHeartbeats 2000000 in
theorem c_s_l02Owner {w : World} {ao : Option Addr} {L : List ByteArray} (cap : Nat) (key : ByteArray) (hk : key.size ≤ 20000) (hL : membersB L = true) (hA : StrsAt w ao L) :
    Calls Tryd.prog 27 #[.slice ao L.length cap, .string key] w fun e w' => ∃ s, e = .returned (.string s) ∧ OwnAns L key s ∧ Below w.heap.size w w' := by
  have hcR := c_s_l02Ring cap hL hA
  have hcH := c_s_l02Hash key (by unfold maxLen; omega)
  have HLm := hide hL
  have hL1 := (memb_len hL).1
  have hL12 := (memb_len hL).2
  obtain ⟨H, hH⟩ : ∃ H, hashT key = H := ⟨_, rfl⟩
  rw [hH] at hcH
  have HH := hide hH
  clear hA hL hH
  go_enter Tryd.func27, Tryd.ntmps27
  go_wp2_with (first
    | (go_at_call 31; refine hcR.mono ?_; rintro e w2 ⟨g, rc, R, rfl, hR, hown, hb2⟩; have HR := hide hR; have HO := hide hown; have HB := hide hb2; have HRl := hide (ring_len hR); clear hR hown hb2; obtain ⟨N, hN⟩ : ∃ N, R.length = N := ⟨_, rfl⟩; have HN := hide hN; rw [hN] at HRl HO; rw [hN]; clear hN)
    | (go_at_call 35; refine (hcH _).mono ?_; rintro e w3 ⟨rfl, rfl⟩))
  have hNp : 0 < N := by have := HRl.out; omega
  have hNm : N ≤ 96 := by have := HRl.out; omega
  have ANS : Hid (∀ s, s = ownR R H → OwnAns L key s) := fun s hs => .inl ⟨hk, HLm.out, R, HR.out, by rw [hs, HH.out]⟩
  clear hcR hcH
  go_loopw [7] (fun i wr => wr = w3 ∧ ∃ k : Nat, k ≤ N ∧ i = .int .i64 k ∧ ∀ (j : Nat) (b : Mk), j < k → R[j]? = some b → b.1 < H) (fun i wr => N - (intOf i).toNat)
  case atStart => exact ⟨rfl, 0, Nat.zero_le _, rfl, fun j b hj => absurd hj (by omega)⟩
  case round =>
    obtain ⟨rfl, k, hkN, rfl, hlow⟩ := hrel
    have HL := hide hlow
    clear hlow
    by_cases hkn : k < N
    · obtain ⟨⟨a, m⟩, hRk⟩ : ∃ a, R[k]? = some a := ⟨R[k]'(by have := HN.out; omega), List.getElem?_eq_getElem _⟩
      obtain ⟨hc0, hc1⟩ := mark_cells HO.out HN.out.symm hRk
      have HK := hide hRk
      clear hRk
      by_cases hge : H ≤ a
      · go_wp2
        go_ret
        exact ⟨m, rfl, ANS.out m (ownR_hit HK.out hge HL.out).symm, HB.out⟩
      · have hge2 : decide (H ≤ a) = false := decide_eq_false hge
        go_wp2
        go_roundw
        case rel =>
          refine ⟨trivial, k + 1, by omega, by go_num, fun j b hj hb => ?_⟩
          by_cases e : j = k
          · subst e; rw [HK.out] at hb; obtain rfl := Option.some.inj hb; show a < H; omega
          · exact HL.out j b (by omega) hb
        case measure => simp [intOf]; omega
    · obtain ⟨⟨a, m⟩, hR0⟩ : ∃ a, R[0]? = some a := ⟨R[0]'(by have := HN.out; omega), List.getElem?_eq_getElem _⟩
      obtain ⟨hc0, hc1⟩ := mark_cells HO.out HN.out.symm hR0
      rw [Nat.zero_mul] at hc0 hc1
      have HK := hide hR0
      have hNi : (0 : Int) < (N : Int) := by omega
      have hall : ∀ (j : Nat) (b : Mk), R[j]? = some b → b.1 < H := fun j b hb => HL.out j b (by have := (List.getElem?_eq_some_iff.1 hb).1; have := HN.out; omega) hb
      have HALL := hide hall
      clear hR0 hall
      go_wp2
      go_ret
      exact ⟨m, rfl, ANS.out m (ownR_none HK.out HALL.out).symm, HB.out⟩

set_option maxHeartbeats 1000000 in
theorem c_s_OwnerOf {w : World} {ao : Option Addr} {L : List ByteArray} (cap : Nat) (key : ByteArray) (hkm : key.size ≤ maxLen) (hl : L.length ≤ 1048576) (hu : ∀ u ∈ L, u.size ≤ 1048576) (hA : StrsAt w ao L) :
    Calls Tryd.prog 8 #[.slice ao L.length cap, .string key] w fun e w' => ∃ s, e = .returned (.string s) ∧ OwnAns L key s ∧ Below w.heap.size w w' := by
  have hkz : key.size ≤ 9223372036854775807 := hkm
  by_cases hk : key.size ≤ 20000
  · have hki : ¬ (20000 : Int) < (key.size : Int) := by omega
    have hkd : decide ((20000 : Int) < (key.size : Int)) = false := decide_eq_false hki
    have hcM := c_s_MembersRight cap hl hu hA
    cases hL : membersB L
    · rw [hL] at hcM
      have HL := hide hL
      have HK := hide hk
      clear hL hA hu hk
      go_enter Tryd.func8, Tryd.ntmps8
      go_wp2_with (go_at_call 9; refine hcM.mono ?_; rintro e w1 ⟨rfl, hb1⟩)
      go_ret
      exact ⟨_, rfl, .inr ⟨.inr HL.out, rfl⟩, hb1⟩
    · have hcO := fun W (h : StrsAt W ao L) => c_s_l02Owner cap key hk hL h
      rw [hL] at hcM
      clear hL hu
      go_enter Tryd.func8, Tryd.ntmps8
      go_wp2_with (first
        | (go_at_call 9; refine hcM.mono ?_; rintro e w1 ⟨rfl, hb1⟩)
        | (go_at_call 27; refine (hcO _ (strs_past hA hb1)).mono ?_; rintro e w2 ⟨s, rfl, hs, hb2⟩))
      go_ret
      exact ⟨s, rfl, hs, chain hb1 hb2⟩
  · have hki : (20000 : Int) < (key.size : Int) := by omega
    have HK := hide hk
    clear hA hu hk
    go_enter Tryd.func8, Tryd.ntmps8
    go_wp2
    go_ret
    exact ⟨_, rfl, .inr ⟨.inl HK.out, rfl⟩, Below.refl _ _⟩
end Go.Proofs.YtkccgjeanehaiaaDoor
