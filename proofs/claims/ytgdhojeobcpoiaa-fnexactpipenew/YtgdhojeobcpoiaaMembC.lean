/-
  Contracts of MembersRight, of the program and of its model: one Bool of the list's texts.
-/
import Derived.Test.YtgdhojeobcpoiaaStrsC
import Derived.Test.YtgdhojeobcpoiaaNameC
import Derived.Test.YtgdhojeobcpoiaaStrO
namespace Go.Proofs.Ytgdhojeobcpoiaa
set_option linter.unusedVariables false
set_option linter.unusedSimpArgs false
open Go.ChangeShapes Go.WideShapes Go.ChangeAt Go.RowKit Go.PlainAid

/-- The text at place k is a name, and stands behind the one ahead of it. -/
def okB (L : List ByteArray) (k : Nat) : Bool :=
  match L[k]? with
  | none => true
  | some u => nameB u && (match k with
    | 0 => true
    | j + 1 => match L[j]? with
      | some p => strLt p u
      | none => true)
theorem okB_0 {L : List ByteArray} {u : ByteArray} (h : L[0]? = some u) : okB L 0 = nameB u := by unfold okB; rw [h]; simp
theorem okB_s {L : List ByteArray} {j : Nat} {p u : ByteArray} (hp : L[j]? = some p) (h : L[j + 1]? = some u) : okB L (j + 1) = (nameB u && strLt p u) := by unfold okB; rw [h]; simp only [hp]
theorem okB_n {L : List ByteArray} {k : Nat} {u : ByteArray} (h : L[k]? = some u) (hn : nameB u = false) : okB L k = false := by unfold okB; rw [h]; simp [hn]
def allOk (L : List ByteArray) : Nat → Bool
  | 0 => true
  | k + 1 => allOk L k && okB L k
def membersB (L : List ByteArray) : Bool := decide (1 ≤ L.length) && decide (L.length ≤ 12) && allOk L L.length
theorem allOk_f {L : List ByteArray} {k : Nat} (h : okB L k = false) : ∀ n, k < n → allOk L n = false
  | 0, hk => by omega
  | n + 1, hk => by
    unfold allOk
    by_cases e : k = n
    · subst e; rw [h]; simp
    · rw [allOk_f h n (by omega)]; simp
theorem allOk_at {L : List ByteArray} {k : Nat} : ∀ n, k < n → allOk L n = true → okB L k = true
  | n, hk, h => by
    cases e : okB L k with
    | true => rfl
    | false => rw [allOk_f e n hk] at h; cases h
theorem memb_f {L : List ByteArray} {k : Nat} (h : okB L k = false) (hk : k < L.length) : membersB L = false := by unfold membersB; rw [allOk_f h _ hk]; simp
theorem memb_t {L : List ByteArray} (h1 : ¬ L.length < 1) (h2 : ¬ 12 < L.length) (h : allOk L L.length = true) : membersB L = true := by
  unfold membersB; rw [h, decide_eq_true (show 1 ≤ L.length by omega), decide_eq_true (show L.length ≤ 12 by omega)]; rfl
theorem memb_1 {L : List ByteArray} (h1 : L.length < 1) : membersB L = false := by
  unfold membersB; rw [decide_eq_false (show ¬ 1 ≤ L.length by omega)]; rfl
theorem memb_2 {L : List ByteArray} (h1 : 12 < L.length) : membersB L = false := by
  unfold membersB; rw [decide_eq_false (show ¬ L.length ≤ 12 by omega)]; simp

set_option maxHeartbeats 2000000 in
theorem c_s_MembersRight {w : World} {ao : Option Addr} {L : List ByteArray} (cap : Nat) (hl : L.length ≤ 1048576) (hu : ∀ u ∈ L, u.size ≤ 1048576) (hA : StrsAt w ao L) :
    Calls Try.prog 13 #[.slice ao L.length cap] w fun e w' => e = .returned (.bool (membersB L)) ∧ Below w.heap.size w w' := by
  obtain ⟨N, hN⟩ : ∃ N, L.length = N := ⟨_, rfl⟩
  have HN : Hid (L.length = N) := hN
  have hge := op_geq 9
  rw [hN] at hl
  rw [hN]
  by_cases h1 : N < 1
  · have HM : Hid (membersB L = false) := memb_1 (by omega)
    have hi : ((N : Int) < 1) := by omega
    clear hN hA hu
    go_enter Try.func13, Try.ntmps13
    go_wp2
    go_ret
    exact ⟨ret_bool HM.out.symm, Below.refl _ _⟩
  · have hi : ¬ ((N : Int) < 1) := by omega
    by_cases h2 : 12 < N
    · have HM : Hid (membersB L = false) := memb_2 (by omega)
      have hj : (12 : Int) < (N : Int) := by omega
      clear hN hA hu
      go_enter Try.func13, Try.ntmps13
      go_wp2
      go_ret
      exact ⟨ret_bool HM.out.symm, Below.refl _ _⟩
    · have hj : ¬ (12 : Int) < (N : Int) := by omega
      clear hN
      go_enter Try.func13, Try.ntmps13
      go_wp2
      go_loopw [3] (fun i wr => Below w.heap.size w wr ∧ ∃ k : Nat, k ≤ N ∧ i = .int .i64 k ∧ allOk L k = true) (fun i wr => N - (intOf i).toNat)
      case atStart => exact ⟨Below.refl _ _, 0, Nat.zero_le _, rfl, rfl⟩
      case round =>
        obtain ⟨hbel, k, hk, rfl, hall⟩ := hrel
        have HA : Hid (allOk L k = true) := hall
        clear hall
        by_cases hkn : k < N
        · obtain ⟨b, off, rfl, hcell⟩ := hA (by have := HN.out; omega)
          obtain ⟨u, hku⟩ : ∃ u, L[k]? = some u := ⟨L[k]'(by have := HN.out; omega), List.getElem?_eq_getElem _⟩
          have hc := cell_past hbel (hcell k u hku)
          have hc0 : k = 0 → wr.cell? ⟨b, off, none⟩ = some (.string u) := fun e => by rw [e, Nat.add_zero] at hc; exact hc
          have hus := hu u (List.mem_of_getElem? hku)
          have hum : u.size ≤ maxLen := by unfold maxLen; omega
          have HB : Hid (Below w.heap.size w wr) := hbel
          have HU : Hid (L[k]? = some u) := hku
          cases hn : nameB u
          · have hc0z : k = 0 ∨ 0 < k := by omega
            have HM : Hid (membersB L = false) := memb_f (okB_n hku hn) (by have := HN.out; omega)
            clear hku hbel hu hcell hA hc0 hc0z
            go_wp2
            go_quiet (first | (go_at_call 22; refine Calls.quiet_of_same (c_s_NameRight _ _ hum)))
            go_wp2
            go_ret
            exact ⟨ret_bool HM.out.symm, bel_drews HB.out _⟩
          · rcases Nat.eq_zero_or_pos k with rfl | hpos
            · have hc0 := hc0 rfl
              have HO : Hid (allOk L (0 + 1) = true) := (by unfold allOk; rw [HA.out, okB_0 hku, hn]; rfl : allOk L (0 + 1) = true)
              clear hku hbel hu hcell hA
              go_wp2
              go_quiet (first | (go_at_call 22; refine Calls.quiet_of_same (c_s_NameRight _ _ hum)))
              go_wp2
              go_roundw
              case rel => exact ⟨bel_drews HB.out _, 0 + 1, by omega, by go_num, HO.out⟩
              case measure => simp [intOf]; omega
            · obtain ⟨j, hj1⟩ : ∃ j, j + 1 = k := ⟨k - 1, by omega⟩
              obtain ⟨p, hkp⟩ : ∃ p, L[j]? = some p := ⟨L[j]'(by have := HN.out; omega), List.getElem?_eq_getElem _⟩
              have hcp := cell_past hbel (hcell j p hkp)
              have ek : ((k : Int) - 1) = (j : Int) := by omega
              have ew : IntKind.i64.wrap (j : Int) = j := IntWalk.i64_in _ ⟨by omega, by omega⟩
              have hpi : (0 : Int) < (k : Int) := by omega
              have hjN : j < N := by omega
              have HK : Hid (okB L k = (nameB u && strLt p u)) := by rw [← hj1] at hku ⊢; exact okB_s hkp hku
              clear hj1 hku hbel hu hcell hkp hA hc0
              cases hlt : strLt p u
              · have HM : Hid (membersB L = false) := memb_f (by rw [HK.out, hlt]; simp) (by have := HN.out; omega)
                go_wp2
                go_quiet (first | (go_at_call 22; refine Calls.quiet_of_same (c_s_NameRight _ _ hum)))
                go_wp2
                go_ret
                exact ⟨ret_bool HM.out.symm, bel_drews HB.out _⟩
              · have HO : Hid (allOk L (k + 1) = true) := (by unfold allOk; rw [HA.out, HK.out, hn, hlt]; rfl : allOk L (k + 1) = true)
                go_wp2
                go_quiet (first | (go_at_call 22; refine Calls.quiet_of_same (c_s_NameRight _ _ hum)))
                go_wp2
                go_roundw
                case rel => exact ⟨bel_drews HB.out _, k + 1, by omega, by go_num, HO.out⟩
                case measure => simp [intOf]; omega
        · have e : k = N := by omega
          have HM : Hid (membersB L = true) := by
            have hN := HN.out
            refine memb_t (by omega) (by omega) ?_
            rw [hN, ← e]; exact HA.out
          have HB : Hid (Below w.heap.size w wr) := hbel
          clear e hbel hA hu
          go_wp2
          go_ret
          exact ⟨ret_bool HM.out.symm, HB.out⟩

set_option maxHeartbeats 2000000 in
theorem c_i_MembersRight {w : World} {ao : Option Addr} {L : List ByteArray} (cap : Nat) (hl : L.length ≤ 1048576) (hu : ∀ u ∈ L, u.size ≤ 1048576) (hA : StrsAt w ao L) :
    Calls Try.prog 15 #[.slice ao L.length cap] w fun e w' => e = .returned (.bool (membersB L)) ∧ Below w.heap.size w w' := by
  obtain ⟨N, hN⟩ : ∃ N, L.length = N := ⟨_, rfl⟩
  have HN : Hid (L.length = N) := hN
  have hge := op_geq 9
  rw [hN] at hl
  rw [hN]
  by_cases h1 : N < 1
  · have HM : Hid (membersB L = false) := memb_1 (by omega)
    have hi : ((N : Int) < 1) := by omega
    clear hN hA hu
    go_enter Try.func15, Try.ntmps15
    go_wp2
    go_ret
    exact ⟨ret_bool HM.out.symm, Below.refl _ _⟩
  · have hi : ¬ ((N : Int) < 1) := by omega
    by_cases h2 : 12 < N
    · have HM : Hid (membersB L = false) := memb_2 (by omega)
      have hj : (12 : Int) < (N : Int) := by omega
      clear hN hA hu
      go_enter Try.func15, Try.ntmps15
      go_wp2
      go_ret
      exact ⟨ret_bool HM.out.symm, Below.refl _ _⟩
    · have hj : ¬ (12 : Int) < (N : Int) := by omega
      clear hN
      go_enter Try.func15, Try.ntmps15
      go_wp2
      go_loopw [14, 3] (fun i _ wr => Below w.heap.size w wr ∧ ∃ k : Nat, k ≤ N ∧ i = .int .i64 k ∧ allOk L k = true) (fun i _ wr => N - (intOf i).toNat)
      case atStart => exact ⟨Below.refl _ _, 0, Nat.zero_le _, rfl, rfl⟩
      case round =>
        obtain ⟨hbel, k, hk, rfl, hall⟩ := hrel
        have HA : Hid (allOk L k = true) := hall
        clear hall
        by_cases hkn : k < N
        · obtain ⟨b, off, rfl, hcell⟩ := hA (by have := HN.out; omega)
          obtain ⟨u, hku⟩ : ∃ u, L[k]? = some u := ⟨L[k]'(by have := HN.out; omega), List.getElem?_eq_getElem _⟩
          have hc := cell_past hbel (hcell k u hku)
          have hc0 : k = 0 → wr.cell? ⟨b, off, none⟩ = some (.string u) := fun e => by rw [e, Nat.add_zero] at hc; exact hc
          have hus := hu u (List.mem_of_getElem? hku)
          have hum : u.size ≤ maxLen := by unfold maxLen; omega
          have HB : Hid (Below w.heap.size w wr) := hbel
          have HU : Hid (L[k]? = some u) := hku
          cases hn : nameB u
          · have hc0z : k = 0 ∨ 0 < k := by omega
            have HM : Hid (membersB L = false) := memb_f (okB_n hku hn) (by have := HN.out; omega)
            clear hku hbel hu hcell hA hc0 hc0z
            go_wp2
            go_quiet (first | (go_at_call 23; refine Calls.quiet_of_same (c_i_NameRight _ _ hum)))
            go_wp2
            go_ret
            exact ⟨ret_bool HM.out.symm, bel_drews HB.out _⟩
          · rcases Nat.eq_zero_or_pos k with rfl | hpos
            · have hc0 := hc0 rfl
              have HO : Hid (allOk L (0 + 1) = true) := (by unfold allOk; rw [HA.out, okB_0 hku, hn]; rfl : allOk L (0 + 1) = true)
              clear hku hbel hu hcell hA
              go_wp2
              go_quiet (first | (go_at_call 23; refine Calls.quiet_of_same (c_i_NameRight _ _ hum)))
              go_wp2
              go_roundw
              case rel => exact ⟨bel_drews HB.out _, 0 + 1, by omega, by go_num, HO.out⟩
              case measure => simp [intOf]; omega
            · obtain ⟨j, hj1⟩ : ∃ j, j + 1 = k := ⟨k - 1, by omega⟩
              obtain ⟨p, hkp⟩ : ∃ p, L[j]? = some p := ⟨L[j]'(by have := HN.out; omega), List.getElem?_eq_getElem _⟩
              have hcp := cell_past hbel (hcell j p hkp)
              have ek : ((k : Int) - 1) = (j : Int) := by omega
              have ew : IntKind.i64.wrap (j : Int) = j := IntWalk.i64_in _ ⟨by omega, by omega⟩
              have hpi : (0 : Int) < (k : Int) := by omega
              have hjN : j < N := by omega
              have HK : Hid (okB L k = (nameB u && strLt p u)) := by rw [← hj1] at hku ⊢; exact okB_s hkp hku
              clear hj1 hku hbel hu hcell hkp hA hc0
              cases hlt : strLt p u
              · have HM : Hid (membersB L = false) := memb_f (by rw [HK.out, hlt]; simp) (by have := HN.out; omega)
                go_wp2
                go_quiet (first | (go_at_call 23; refine Calls.quiet_of_same (c_i_NameRight _ _ hum)))
                go_wp2
                go_ret
                exact ⟨ret_bool HM.out.symm, bel_drews HB.out _⟩
              · have HO : Hid (allOk L (k + 1) = true) := (by unfold allOk; rw [HA.out, HK.out, hn, hlt]; rfl : allOk L (k + 1) = true)
                go_wp2
                go_quiet (first | (go_at_call 23; refine Calls.quiet_of_same (c_i_NameRight _ _ hum)))
                go_wp2
                go_roundw
                case rel => exact ⟨bel_drews HB.out _, k + 1, by omega, by go_num, HO.out⟩
                case measure => simp [intOf]; omega
        · have e : k = N := by omega
          have HM : Hid (membersB L = true) := by
            have hN := HN.out
            refine memb_t (by omega) (by omega) ?_
            rw [hN, ← e]; exact HA.out
          have HB : Hid (Below w.heap.size w wr) := hbel
          clear e hbel hA hu
          go_wp2
          go_ret
          exact ⟨ret_bool HM.out.symm, HB.out⟩
end Go.Proofs.Ytgdhojeobcpoiaa
