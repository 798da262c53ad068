/-
  Contracts of MembersRight, of the program and of its model: one Bool of the list's texts.
-/
import Derived.Test.YtkccgjeanehaiaaDoorStrsC
import Derived.Test.YtkccgjeanehaiaaDoorNameC
namespace Go.Proofs.YtkccgjeanehaiaaDoor
set_option linter.unusedVariables false
set_option linter.unusedSimpArgs false
open Go.ChangeShapes Go.WideShapes Go.ChangeAt Go.RowKit Go.PlainAid

/-- A text stands ahead of another one. -/
def strLt (a b : ByteArray) : Bool := Op.bytesLess a.toList b.toList
theorem op_geq (t : TypeId) (a b : ByteArray) : binOp .geq t (.string a) (.string b) = pure (.bool !(strLt a b)) := by simp [binOp, Op.stringOp, strLt]
/-- The order of texts is a total one. -/
theorem less_ant : ∀ x y : List UInt8, Op.bytesLess x y = true → Op.bytesLess y x = false
  | _, [], h => by simp [Op.bytesLess] at h
  | [], _ :: _, _ => by simp [Op.bytesLess]
  | a :: x, b :: y, h => by
    simp only [Op.bytesLess, Bool.or_eq_true, Bool.and_eq_true, decide_eq_true_eq, beq_iff_eq] at h
    simp only [Op.bytesLess, Bool.or_eq_false_iff, Bool.and_eq_false_iff, decide_eq_false_iff_not, beq_eq_false_iff_ne]
    rcases h with h | ⟨rfl, h⟩
    · exact ⟨fun k => by have := UInt8.lt_asymm h k; exact this, .inl (fun e => by subst e; exact UInt8.lt_irrefl _ h)⟩
    · exact ⟨UInt8.lt_irrefl _, .inr (less_ant x y h)⟩
theorem less_tot : ∀ x y : List UInt8, Op.bytesLess x y = false → (x == y) = false → Op.bytesLess y x = true
  | [], [], _, h => by simp at h
  | _ :: _, [], _, _ => by simp [Op.bytesLess]
  | [], _ :: _, h, _ => by simp [Op.bytesLess] at h
  | a :: x, b :: y, h, k => by
    simp only [Op.bytesLess, Bool.or_eq_false_iff, Bool.and_eq_false_iff, decide_eq_false_iff_not, beq_eq_false_iff_ne] at h
    simp only [Op.bytesLess, Bool.or_eq_true, Bool.and_eq_true, decide_eq_true_eq, beq_iff_eq]
    by_cases e : a = b
    · subst e
      refine .inr ⟨rfl, less_tot x y ?_ ?_⟩
      · rcases h.2 with h | h
        · exact absurd rfl h
        · exact h
      · simpa using k
    · left
      have h1 := h.1
      simp only [UInt8.lt_iff_toNat_lt] at h1 ⊢
      have : a.toNat ≠ b.toNat := fun q => e (UInt8.toNat_inj.1 q)
      omega
theorem less_eq {x y : List UInt8} (h : (x == y) = true) : Op.bytesLess y x = false := by
  have h := beq_iff_eq.1 h
  subst h
  cases e : Op.bytesLess x x with
  | false => rfl
  | true => have := less_ant x x e; rw [this] at e; cases e
theorem op_gtr (t : TypeId) (a b : ByteArray) : binOp .gtr t (.string a) (.string b) = pure (.bool (strLt b a)) := by
  have e : (!(Op.bytesLess a.toList b.toList || a.toList == b.toList)) = Op.bytesLess b.toList a.toList := by
    cases h1 : Op.bytesLess a.toList b.toList
    · cases h2 : (a.toList == b.toList)
      · rw [less_tot _ _ h1 h2]; rfl
      · rw [less_eq h2]; rfl
    · rw [less_ant _ _ h1]; rfl
  show Op.stringOp .gtr a b = _
  unfold Op.stringOp strLt
  rw [← e]

/-- The text at place k is a name, and stands behind the one ahead of it. -/
def okB (L : List ByteArray) (k : Nat) : Bool :=
  match L[k]? with
  | none => true
  | some u => nameB u && (match k with
    | 0 => true
    | j + 1 => match L[j]? with
      | some p => strLt p u
      | none => true)
theorem okB_0 {L : List ByteArray} {u : ByteArray} (h : L[0]? = some u) : okB L 0 = nameB u := by unfold okB; rw [h]; simp
theorem okB_s {L : List ByteArray} {j : Nat} {p u : ByteArray} (hp : L[j]? = some p) (h : L[j + 1]? = some u) : okB L (j + 1) = (nameB u && strLt p u) := by unfold okB; rw [h]; simp only [hp]
theorem okB_n {L : List ByteArray} {k : Nat} {u : ByteArray} (h : L[k]? = some u) (hn : nameB u = false) : okB L k = false := by unfold okB; rw [h]; simp [hn]
def allOk (L : List ByteArray) : Nat → Bool
  | 0 => true
  | k + 1 => allOk L k && okB L k
def membersB (L : List ByteArray) : Bool := decide (1 ≤ L.length) && decide (L.length ≤ 12) && allOk L L.length
theorem allOk_f {L : List ByteArray} {k : Nat} (h : okB L k = false) : ∀ n, k < n → allOk L n = false
  | 0, hk => by omega
  | n + 1, hk => by
    unfold allOk
    by_cases e : k = n
    · subst e; rw [h]; simp
    · rw [allOk_f h n (by omega)]; simp
theorem allOk_at {L : List ByteArray} {k : Nat} : ∀ n, k < n → allOk L n = true → okB L k = true
  | n, hk, h => by
    cases e : okB L k with
    | true => rfl
    | false => rw [allOk_f e n hk] at h; cases h
theorem memb_f {L : List ByteArray} {k : Nat} (h : okB L k = false) (hk : k < L.length) : membersB L = false := by unfold membersB; rw [allOk_f h _ hk]; simp
theorem memb_t {L : List ByteArray} (h1 : ¬ L.length < 1) (h2 : ¬ 12 < L.length) (h : allOk L L.length = true) : membersB L = true := by
  unfold membersB; rw [h, decide_eq_true (show 1 ≤ L.length by omega), decide_eq_true (show L.length ≤ 12 by omega)]; rfl
theorem memb_1 {L : List ByteArray} (h1 : L.length < 1) : membersB L = false := by
  unfold membersB; rw [decide_eq_false (show ¬ 1 ≤ L.length by omega)]; rfl
theorem memb_2 {L : List ByteArray} (h1 : 12 < L.length) : membersB L = false := by
  unfold membersB; rw [decide_eq_false (show ¬ L.length ≤ 12 by omega)]; simp

set_option maxHeartbeats 2000000 in
theorem c_s_MembersRight {w : World} {ao : Option Addr} {L : List ByteArray} (cap : Nat) (hl : L.length ≤ 1048576) (hu : ∀ u ∈ L, u.size ≤ 1048576) (hA : StrsAt w ao L) :
    Calls Tryd.prog 9 #[.slice ao L.length cap] w fun e w' => e = .returned (.bool (membersB L)) ∧ Below w.heap.size w w' := by
  obtain ⟨N, hN⟩ : ∃ N, L.length = N := ⟨_, rfl⟩
  have HN : Hid (L.length = N) := hN
  have hge := op_geq 9
  rw [hN] at hl
  rw [hN]
  by_cases h1 : N < 1
  · have HM : Hid (membersB L = false) := memb_1 (by omega)
    have hi : ((N : Int) < 1) := by omega
    clear hN hA hu
    go_enter Tryd.func9, Tryd.ntmps9
    go_wp2
    go_ret
    exact ⟨ret_bool HM.out.symm, Below.refl _ _⟩
  · have hi : ¬ ((N : Int) < 1) := by omega
    by_cases h2 : 12 < N
    · have HM : Hid (membersB L = false) := memb_2 (by omega)
      have hj : (12 : Int) < (N : Int) := by omega
      clear hN hA hu
      go_enter Tryd.func9, Tryd.ntmps9
      go_wp2
      go_ret
      exact ⟨ret_bool HM.out.symm, Below.refl _ _⟩
    · have hj : ¬ (12 : Int) < (N : Int) := by omega
      clear hN
      go_enter Tryd.func9, Tryd.ntmps9
      go_wp2
      go_loopw [3] (fun i wr => Below w.heap.size w wr ∧ ∃ k : Nat, k ≤ N ∧ i = .int .i64 k ∧ allOk L k = true) (fun i wr => N - (intOf i).toNat)
      case atStart => exact ⟨Below.refl _ _, 0, Nat.zero_le _, rfl, rfl⟩
      case round =>
        obtain ⟨hbel, k, hk, rfl, hall⟩ := hrel
        have HA : Hid (allOk L k = true) := hall
        clear hall
        by_cases hkn : k < N
        · obtain ⟨b, off, rfl, hcell⟩ := hA (by have := HN.out; omega)
          obtain ⟨u, hku⟩ : ∃ u, L[k]? = some u := ⟨L[k]'(by have := HN.out; omega), List.getElem?_eq_getElem _⟩
          have hc := cell_past hbel (hcell k u hku)
          have hc0 : k = 0 → wr.cell? ⟨b, off, none⟩ = some (.string u) := fun e => by rw [e, Nat.add_zero] at hc; exact hc
          have hus := hu u (List.mem_of_getElem? hku)
          have hum : u.size ≤ maxLen := by unfold maxLen; omega
          have HB : Hid (Below w.heap.size w wr) := hbel
          have HU : Hid (L[k]? = some u) := hku
          cases hn : nameB u
          · have hc0z : k = 0 ∨ 0 < k := by omega
            have HM : Hid (membersB L = false) := memb_f (okB_n hku hn) (by have := HN.out; omega)
            clear hku hbel hu hcell hA hc0 hc0z
            go_wp2
            go_quiet (first | (go_at_call 28; refine Calls.quiet_of_same (c_s_NameRight _ _ hum)))
            go_wp2
            go_ret
            exact ⟨ret_bool HM.out.symm, bel_drews HB.out _⟩
          · rcases Nat.eq_zero_or_pos k with rfl | hpos
            · have hc0 := hc0 rfl
              have HO : Hid (allOk L (0 + 1) = true) := (by unfold allOk; rw [HA.out, okB_0 hku, hn]; rfl : allOk L (0 + 1) = true)
              clear hku hbel hu hcell hA
              go_wp2
              go_quiet (first | (go_at_call 28; refine Calls.quiet_of_same (c_s_NameRight _ _ hum)))
              go_wp2
              go_roundw
              case rel => exact ⟨bel_drews HB.out _, 0 + 1, by omega, by go_num, HO.out⟩
              case measure => simp [intOf]; omega
            · obtain ⟨j, hj1⟩ : ∃ j, j + 1 = k := ⟨k - 1, by omega⟩
              obtain ⟨p, hkp⟩ : ∃ p, L[j]? = some p := ⟨L[j]'(by have := HN.out; omega), List.getElem?_eq_getElem _⟩
              have hcp := cell_past hbel (hcell j p hkp)
              have ek : ((k : Int) - 1) = (j : Int) := by omega
              have ew : IntKind.i64.wrap (j : Int) = j := IntWalk.i64_in _ ⟨by omega, by omega⟩
              have hpi : (0 : Int) < (k : Int) := by omega
              have hjN : j < N := by omega
              have HK : Hid (okB L k = (nameB u && strLt p u)) := by rw [← hj1] at hku ⊢; exact okB_s hkp hku
              clear hj1 hku hbel hu hcell hkp hA hc0
              cases hlt : strLt p u
              · have HM : Hid (membersB L = false) := memb_f (by rw [HK.out, hlt]; simp) (by have := HN.out; omega)
                go_wp2
                go_quiet (first | (go_at_call 28; refine Calls.quiet_of_same (c_s_NameRight _ _ hum)))
                go_wp2
                go_ret
                exact ⟨ret_bool HM.out.symm, bel_drews HB.out _⟩
              · have HO : Hid (allOk L (k + 1) = true) := (by unfold allOk; rw [HA.out, HK.out, hn, hlt]; rfl : allOk L (k + 1) = true)
                go_wp2
                go_quiet (first | (go_at_call 28; refine Calls.quiet_of_same (c_s_NameRight _ _ hum)))
                go_wp2
                go_roundw
                case rel => exact ⟨bel_drews HB.out _, k + 1, by omega, by go_num, HO.out⟩
                case measure => simp [intOf]; omega
        · have e : k = N := by omega
          have HM : Hid (membersB L = true) := by
            have hN := HN.out
            refine memb_t (by omega) (by omega) ?_
            rw [hN, ← e]; exact HA.out
          have HB : Hid (Below w.heap.size w wr) := hbel
          clear e hbel hA hu
          go_wp2
          go_ret
          exact ⟨ret_bool HM.out.symm, HB.out⟩

set_option maxHeartbeats 2000000 in
theorem c_i_MembersRight {w : World} {ao : Option Addr} {L : List ByteArray} (cap : Nat) (hl : L.length ≤ 1048576) (hu : ∀ u ∈ L, u.size ≤ 1048576) (hA : StrsAt w ao L) :
    Calls Tryd.prog 10 #[.slice ao L.length cap] w fun e w' => e = .returned (.bool (membersB L)) ∧ Below w.heap.size w w' := by
  obtain ⟨N, hN⟩ : ∃ N, L.length = N := ⟨_, rfl⟩
  have HN : Hid (L.length = N) := hN
  have hge := op_geq 9
  rw [hN] at hl
  rw [hN]
  by_cases h1 : N < 1
  · have HM : Hid (membersB L = false) := memb_1 (by omega)
    have hi : ((N : Int) < 1) := by omega
    clear hN hA hu
    go_enter Tryd.func10, Tryd.ntmps10
    go_wp2
    go_ret
    exact ⟨ret_bool HM.out.symm, Below.refl _ _⟩
  · have hi : ¬ ((N : Int) < 1) := by omega
    by_cases h2 : 12 < N
    · have HM : Hid (membersB L = false) := memb_2 (by omega)
      have hj : (12 : Int) < (N : Int) := by omega
      clear hN hA hu
      go_enter Tryd.func10, Tryd.ntmps10
      go_wp2
      go_ret
      exact ⟨ret_bool HM.out.symm, Below.refl _ _⟩
    · have hj : ¬ (12 : Int) < (N : Int) := by omega
      clear hN
      go_enter Tryd.func10, Tryd.ntmps10
      go_wp2
      go_loopw [14, 3] (fun i _ wr => Below w.heap.size w wr ∧ ∃ k : Nat, k ≤ N ∧ i = .int .i64 k ∧ allOk L k = true) (fun i _ wr => N - (intOf i).toNat)
      case atStart => exact ⟨Below.refl _ _, 0, Nat.zero_le _, rfl, rfl⟩
      case round =>
        obtain ⟨hbel, k, hk, rfl, hall⟩ := hrel
        have HA : Hid (allOk L k = true) := hall
        clear hall
        by_cases hkn : k < N
        · obtain ⟨b, off, rfl, hcell⟩ := hA (by have := HN.out; omega)
          obtain ⟨u, hku⟩ : ∃ u, L[k]? = some u := ⟨L[k]'(by have := HN.out; omega), List.getElem?_eq_getElem _⟩
          have hc := cell_past hbel (hcell k u hku)
          have hc0 : k = 0 → wr.cell? ⟨b, off, none⟩ = some (.string u) := fun e => by rw [e, Nat.add_zero] at hc; exact hc
          have hus := hu u (List.mem_of_getElem? hku)
          have hum : u.size ≤ maxLen := by unfold maxLen; omega
          have HB : Hid (Below w.heap.size w wr) := hbel
          have HU : Hid (L[k]? = some u) := hku
          cases hn : nameB u
          · have hc0z : k = 0 ∨ 0 < k := by omega
            have HM : Hid (membersB L = false) := memb_f (okB_n hku hn) (by have := HN.out; omega)
            clear hku hbel hu hcell hA hc0 hc0z
            go_wp2
            go_quiet (first | (go_at_call 29; refine Calls.quiet_of_same (c_i_NameRight _ _ hum)))
            go_wp2
            go_ret
            exact ⟨ret_bool HM.out.symm, bel_drews HB.out _⟩
          · rcases Nat.eq_zero_or_pos k with rfl | hpos
            · have hc0 := hc0 rfl
              have HO : Hid (allOk L (0 + 1) = true) := (by unfold allOk; rw [HA.out, okB_0 hku, hn]; rfl : allOk L (0 + 1) = true)
              clear hku hbel hu hcell hA
              go_wp2
              go_quiet (first | (go_at_call 29; refine Calls.quiet_of_same (c_i_NameRight _ _ hum)))
              go_wp2
              go_roundw
              case rel => exact ⟨bel_drews HB.out _, 0 + 1, by omega, by go_num, HO.out⟩
              case measure => simp [intOf]; omega
            · obtain ⟨j, hj1⟩ : ∃ j, j + 1 = k := ⟨k - 1, by omega⟩
              obtain ⟨p, hkp⟩ : ∃ p, L[j]? = some p := ⟨L[j]'(by have := HN.out; omega), List.getElem?_eq_getElem _⟩
              have hcp := cell_past hbel (hcell j p hkp)
              have ek : ((k : Int) - 1) = (j : Int) := by omega
              have ew : IntKind.i64.wrap (j : Int) = j := IntWalk.i64_in _ ⟨by omega, by omega⟩
              have hpi : (0 : Int) < (k : Int) := by omega
              have hjN : j < N := by omega
              have HK : Hid (okB L k = (nameB u && strLt p u)) := by rw [← hj1] at hku ⊢; exact okB_s hkp hku
              clear hj1 hku hbel hu hcell hkp hA hc0
              cases hlt : strLt p u
              · have HM : Hid (membersB L = false) := memb_f (by rw [HK.out, hlt]; simp) (by have := HN.out; omega)
                go_wp2
                go_quiet (first | (go_at_call 29; refine Calls.quiet_of_same (c_i_NameRight _ _ hum)))
                go_wp2
                go_ret
                exact ⟨ret_bool HM.out.symm, bel_drews HB.out _⟩
              · have HO : Hid (allOk L (k + 1) = true) := (by unfold allOk; rw [HA.out, HK.out, hn, hlt]; rfl : allOk L (k + 1) = true)
                go_wp2
                go_quiet (first | (go_at_call 29; refine Calls.quiet_of_same (c_i_NameRight _ _ hum)))
                go_wp2
                go_roundw
                case rel => exact ⟨bel_drews HB.out _, k + 1, by omega, by go_num, HO.out⟩
                case measure => simp [intOf]; omega
        · have e : k = N := by omega
          have HM : Hid (membersB L = true) := by
            have hN := HN.out
            refine memb_t (by omega) (by omega) ?_
            rw [hN, ← e]; exact HA.out
          have HB : Hid (Below w.heap.size w wr) := hbel
          clear e hbel hA hu
          go_wp2
          go_ret
          exact ⟨ret_bool HM.out.symm, HB.out⟩
end Go.Proofs.YtkccgjeanehaiaaDoor
