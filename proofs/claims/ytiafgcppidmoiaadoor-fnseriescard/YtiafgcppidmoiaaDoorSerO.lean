/-
  SeriesOf, of the program and of its model.
-/
import Derived.Test.YtiafgcppidmoiaaDoorSerW
namespace Go.Proofs.YtiafgcppidmoiaaDoor
set_option linter.unusedVariables false
set_option linter.unusedSimpArgs false
open Go.ChangeShapes Go.WideShapes Go.ChangeAt Go.RowKit Go.PlainAid
set_option maxRecDepth 10000

def serO (name : ByteArray) (L : List ByteArray) : ByteArray := if 400 < L.length then ByteArray.empty else serW name L
set_option maxHeartbeats 1000000 in
theorem c_i_SeriesOf {w : World} {ao : Option Addr} {L : List ByteArray} (name : ByteArray) (c n : Nat) (hnm : name.size ≤ maxLen) (hn : L.length = n) (hl : n ≤ 1048576) (hu : ∀ u ∈ L, u.size ≤ maxLen) (hA : StrsAt w ao L) :
    Calls Tryd.prog 13 #[.string name, .slice ao n c] w fun e w' => e = .returned (.string (serO name L)) ∧ Below w.heap.size w w' := by
  have HN := hide hn
  clear hn
  by_cases h4 : 400 < n
  · have h4i : (400 : Int) < (n : Int) := by omega
    have HE : Hid (serO name L = ByteArray.empty) := (by unfold serO; rw [if_pos (by rw [HN.out]; exact h4)] : serO name L = ByteArray.empty)
    go_enter Tryd.func13, Tryd.ntmps13
    go_wp2
    go_ret
    exact ⟨by rw [HE.out]; rfl, Below.refl _ _⟩
  · have h4i : ¬ (400 : Int) < (n : Int) := by omega
    have HE : Hid (serO name L = serW name L) := (by unfold serO; rw [if_neg (by rw [HN.out]; exact h4)] : serO name L = serW name L)
    have h20 : n ≤ 20100 := by omega
    go_enter Tryd.func13, Tryd.ntmps13
    go_wp2_with (go_at_call 18; refine (c_i_seriesWith name c n hnm HN.out h20 hu hA).mono ?_; rintro e w1 ⟨rfl, hb1⟩)
    go_ret
    exact ⟨by rw [HE.out]; rfl, hb1⟩
set_option maxHeartbeats 1000000 in
theorem c_s_SeriesOf {w : World} {ao : Option Addr} {L : List ByteArray} (name : ByteArray) (c n : Nat) (hnm : name.size ≤ maxLen) (hn : L.length = n) (hl : n ≤ 1048576) (hu : ∀ u ∈ L, u.size ≤ maxLen) (hA : StrsAt w ao L) :
    Calls Tryd.prog 14 #[.string name, .slice ao n c] w fun e w' => e = .returned (.string (serO name L)) ∧ Below w.heap.size w w' := by
  have HN := hide hn
  have hz : name.size ≤ 9223372036854775807 := hnm
  clear hn
  by_cases hb : 20000 < name.size
  · have hbi : (20000 : Int) < (name.size : Int) := by omega
    have hnb : nameB name = false := by
      cases h : nameB name with
      | false => rfl
      | true => have := name_size h; omega
    have HE : Hid (serO name L = ByteArray.empty) := (by unfold serO; split; rfl; unfold serW; rw [if_neg (by rw [hnb]; simp)] : serO name L = ByteArray.empty)
    clear hnb
    go_enter Tryd.func14, Tryd.ntmps14
    go_wp2
    go_ret
    exact ⟨by rw [HE.out]; rfl, Below.refl _ _⟩
  have hbi : ¬ (20000 : Int) < (name.size : Int) := by omega
  by_cases h4 : 400 < n
  · have h4i : (400 : Int) < (n : Int) := by omega
    have HE : Hid (serO name L = ByteArray.empty) := (by unfold serO; rw [if_pos (by rw [HN.out]; exact h4)] : serO name L = ByteArray.empty)
    go_enter Tryd.func14, Tryd.ntmps14
    go_wp2
    go_ret
    exact ⟨by rw [HE.out]; rfl, Below.refl _ _⟩
  · have h4i : ¬ (400 : Int) < (n : Int) := by omega
    have HE : Hid (serO name L = serW name L) := (by unfold serO; rw [if_neg (by rw [HN.out]; exact h4)] : serO name L = serW name L)
    have h20 : n ≤ 20100 := by omega
    cases hnb : nameB name with
    | false =>
      have HE2 : Hid (serW name L = ByteArray.empty) := (by unfold serW; rw [if_neg (by rw [hnb]; simp)] : serW name L = ByteArray.empty)
      go_enter Tryd.func14, Tryd.ntmps14
      go_wp2_with (go_at_call 32; refine (c_s_NameRight _ _ hnm).mono ?_; rintro e w1 ⟨rfl, hw1⟩; obtain rfl := hw1.symm)
      go_ret
      exact ⟨by rw [HE.out, HE2.out]; rfl, Below.refl _ _⟩
    | true =>
      cases hal : L.all tagB with
      | false =>
        have HE2 : Hid (serW name L = ByteArray.empty) := (by unfold serW; rw [if_neg (by rw [hal]; simp)] : serW name L = ByteArray.empty)
        go_enter Tryd.func14, Tryd.ntmps14
        go_wp2_with (first
          | (go_at_call 32; refine (c_s_NameRight _ _ hnm).mono ?_; rintro e w1 ⟨rfl, hw1⟩; obtain rfl := hw1.symm)
          | (go_at_call 33; refine (c_s_l06Tags c n HN.out hl hu hA).mono ?_; rintro e w1 ⟨rfl, hw1⟩; obtain rfl := hw1.symm))
        go_ret
        exact ⟨by rw [HE.out, HE2.out]; rfl, Below.refl _ _⟩
      | true =>
        have HE2 : Hid (serW name L = serF name L) := (by unfold serW; rw [if_pos ⟨hnb, hal⟩] : serW name L = serF name L)
        have h40 := name_size hnb
        have HU2 := hide (all_size hal)
        go_enter Tryd.func14, Tryd.ntmps14
        go_wp2_with (first
          | (go_at_call 32; refine (c_s_NameRight _ _ hnm).mono ?_; rintro e w1 ⟨rfl, hw1⟩; obtain rfl := hw1.symm)
          | (go_at_call 33; refine (c_s_l06Tags c n HN.out hl hu hA).mono ?_; rintro e w1 ⟨rfl, hw1⟩; obtain rfl := hw1.symm)
          | (go_at_call 34; refine (c_s_l06Series name c n (by omega) HN.out h20 HU2.out hA).mono ?_; rintro e w2 ⟨rfl, hb2⟩))
        go_ret
        exact ⟨by rw [HE.out, HE2.out]; rfl, hb2⟩
end Go.Proofs.YtiafgcppidmoiaaDoor
