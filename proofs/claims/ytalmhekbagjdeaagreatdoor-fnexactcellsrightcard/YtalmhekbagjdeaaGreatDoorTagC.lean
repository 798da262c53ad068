/-
  Contracts of TagRight, of the program and of its model: one Bool of the text's bytes.
-/
import Derived.Test.YtalmhekbagjdeaaGreatDoorNameC
namespace Go.Proofs.YtalmhekbagjdeaaGreatDoor
set_option linter.unusedVariables false
open Go.ChangeShapes Go.WideShapes Go.ChangeAt Go.RowKit Go.PlainAid

def tgB (c : Int) : Bool := nmB c || c == 45 || c == 58
def allT (s : ByteArray) : Nat → Bool
  | 0 => true
  | n + 1 => allT s n && tgB (bt s n)
def tagB (s : ByteArray) : Bool := decide (1 ≤ s.size) && decide (s.size ≤ 20) && allT s s.size

theorem allT_le {s : ByteArray} {k : Nat} (h : tgB (bt s k) = false) : ∀ n, k < n → allT s n = false
  | 0, hk => by omega
  | n + 1, hk => by
    unfold allT
    by_cases e : k = n
    · subst e; rw [h]; simp
    · rw [allT_le h n (by omega)]; simp
theorem allT_succ {s : ByteArray} {k : Nat} (h : allT s k = true) (hn : tgB (bt s k) = true) : allT s (k + 1) = true := by unfold allT; rw [h, hn]; rfl
theorem tagB_f {s : ByteArray} {k : Nat} (hk : k < s.size) (h : tgB (bt s k) = false) : tagB s = false := by unfold tagB; rw [allT_le h _ hk]; simp
theorem tagB_f0 {s : ByteArray} (h : s.size < 1) : tagB s = false := by unfold tagB; rw [show decide (1 ≤ s.size) = false from decide_eq_false (by omega)]; rfl
theorem tagB_f1 {s : ByteArray} (h : 20 < s.size) : tagB s = false := by unfold tagB; rw [show decide (s.size ≤ 20) = false from decide_eq_false (by omega)]; simp
theorem tagB_t {s : ByteArray} (h1 : ¬ s.size < 1) (h2 : ¬ 20 < s.size) (ha : allT s s.size = true) : tagB s = true := by
  unfold tagB; rw [ha, show decide (1 ≤ s.size) = true from decide_eq_true (by omega), show decide (s.size ≤ 20) = true from decide_eq_true (by omega)]; rfl
theorem tgB_45 : tgB 45 = true := by decide
theorem tgB_58 : tgB 58 = true := by decide
theorem tgB_n {c : Int} (h : nmB c = true) : tgB c = true := by simp [tgB, h]
theorem tgB_f {c : Int} (h : nmB c = false) (a : c ≠ 45) (b : c ≠ 58) : tgB c = false := by simp [tgB, h, a, b]

set_option maxHeartbeats 1000000 in
theorem c_i_TagRight (s : ByteArray) (w : World) (hs : s.size ≤ maxLen) :
    Calls Tryz.prog 107 #[.string s] w fun e w' => e = .returned (.bool (tagB s)) ∧ w' = w := by
  unfold maxLen at hs
  have hbt := get_bt s
  by_cases h0 : s.size < 1
  · have HN : Hid (tagB s = false) := tagB_f0 h0
    have hi : ((s.size : Int) < 1) := by omega
    go_enter Tryz.func107, Tryz.ntmps107
    go_wp2
    go_ret
    exact ⟨ret_bool HN.out.symm, rfl⟩
  · by_cases h1 : 20 < s.size
    · have HN : Hid (tagB s = false) := tagB_f1 h1
      have hi : ¬ ((s.size : Int) < 1) := by omega
      have hj : (20 : Int) < (s.size : Int) := by omega
      go_enter Tryz.func107, Tryz.ntmps107
      go_wp2
      go_ret
      exact ⟨ret_bool HN.out.symm, rfl⟩
    · have hi : ¬ ((s.size : Int) < 1) := by omega
      have hj : ¬ (20 : Int) < (s.size : Int) := by omega
      go_enter Tryz.func107, Tryz.ntmps107
      go_wp2
      go_loop [14, 2] (fun i _ => ∃ k : Nat, k ≤ s.size ∧ i = .int .i64 k ∧ allT s k = true) (fun i _ => s.size - (intOf i).toNat)
      case atStart => exact ⟨0, Nat.zero_le _, rfl, rfl⟩
      case round =>
        obtain ⟨k, hk, rfl, ha⟩ := hrel
        have HA : Hid (allT s k = true) := ha
        clear ha
        by_cases hlt : k < s.size
        · cases hn : nmB (bt s k)
          · by_cases e1 : bt s k = 45
            · have HB : Hid (allT s (k + 1) = true) := allT_succ HA.out (by rw [e1]; exact tgB_45)
              go_wp2_with (go_at_call 42; refine (c_nameByte _ _).mono ?_; rintro e w1 ⟨rfl, rfl⟩)
              go_round
              case rel => exact ⟨k + 1, by omega, by go_num, HB.out⟩
              case measure => simp [intOf]; omega
            · by_cases e2 : bt s k = 58
              · have HB : Hid (allT s (k + 1) = true) := allT_succ HA.out (by rw [e2]; exact tgB_58)
                go_wp2_with (go_at_call 42; refine (c_nameByte _ _).mono ?_; rintro e w1 ⟨rfl, rfl⟩)
                go_round
                case rel => exact ⟨k + 1, by omega, by go_num, HB.out⟩
                case measure => simp [intOf]; omega
              · have HB : Hid (tagB s = false) := tagB_f hlt (tgB_f hn e1 e2)
                have n1 : (bt s k != 45) = true := by simpa using e1
                have n2 : (bt s k != 58) = true := by simpa using e2
                go_wp2_with (go_at_call 42; refine (c_nameByte _ _).mono ?_; rintro e w1 ⟨rfl, rfl⟩)
                go_ret
                exact ⟨ret_bool HB.out.symm, rfl⟩
          · have HB : Hid (allT s (k + 1) = true) := allT_succ HA.out (tgB_n hn)
            go_wp2_with (go_at_call 42; refine (c_nameByte _ _).mono ?_; rintro e w1 ⟨rfl, rfl⟩)
            go_round
            case rel => exact ⟨k + 1, by omega, by go_num, HB.out⟩
            case measure => simp [intOf]; omega
        · have e : k = s.size := by omega
          have HB : Hid (tagB s = true) := tagB_t h0 h1 (by rw [← e]; exact HA.out)
          clear e
          go_wp2
          go_ret
          exact ⟨ret_bool HB.out.symm, rfl⟩

theorem tg_cases (c : Int) : (97 ≤ c ∧ c ≤ 122 ∧ tgB c = true) ∨ ((c < 97 ∨ 122 < c) ∧ ((48 ≤ c ∧ c ≤ 58 ∧ tgB c = true) ∨ (c = 95 ∧ tgB c = true) ∨ (c = 46 ∧ tgB c = true) ∨ (c = 45 ∧ tgB c = true) ∨ ((c < 48 ∨ 58 < c) ∧ c ≠ 95 ∧ c ≠ 46 ∧ c ≠ 45 ∧ tgB c = false))) := by
  by_cases a : 97 ≤ c ∧ c ≤ 122
  · exact .inl ⟨a.1, a.2, tgB_n (nmB_l (letB_t a.1 a.2))⟩
  · have hl : letB c = false := letB_f (by omega)
    refine .inr ⟨by omega, ?_⟩
    by_cases b : 48 ≤ c ∧ c ≤ 58
    · refine .inl ⟨b.1, b.2, ?_⟩
      by_cases b2 : c = 58
      · rw [b2]; exact tgB_58
      · exact tgB_n (nmB_d (digB_t b.1 (by omega)))
    · by_cases d : c = 95
      · exact .inr (.inl ⟨d, by rw [d]; decide⟩)
      · by_cases e : c = 46
        · exact .inr (.inr (.inl ⟨e, by rw [e]; decide⟩))
        · by_cases f : c = 45
          · exact .inr (.inr (.inr (.inl ⟨f, by rw [f]; decide⟩)))
          · exact .inr (.inr (.inr (.inr ⟨by omega, d, e, f, tgB_f (nmB_n hl (digB_f (by omega)) (by simpa using d) (by simpa using e)) f (by omega)⟩)))

set_option maxHeartbeats 1000000 in
theorem c_s_TagRight (s : ByteArray) (w : World) (hs : s.size ≤ maxLen) :
    Calls Tryz.prog 97 #[.string s] w fun e w' => e = .returned (.bool (tagB s)) ∧ w' = w := by
  unfold maxLen at hs
  have hbt := get_bt s
  go_enter Tryz.func97, Tryz.ntmps97
  go_wp2
  go_loop [3, 4] (fun i _ => ∃ k : Nat, k ≤ s.size ∧ i = .int .i64 k ∧ allT s k = true) (fun i _ => s.size - (intOf i).toNat)
  case atStart => exact ⟨0, Nat.zero_le _, rfl, rfl⟩
  case round =>
    obtain ⟨k, hk, rfl, ha⟩ := hrel
    have HA : Hid (allT s k = true) := ha
    clear ha
    by_cases hlt : k < s.size
    · rcases tg_cases (bt s k) with ⟨c1, c2, hn⟩ | ⟨hno, hrest⟩
      · have HB : Hid (allT s (k + 1) = true) := allT_succ HA.out hn
        clear hn
        go_wp2
        go_round
        case rel => exact ⟨k + 1, by omega, by go_num, HB.out⟩
        case measure => simp [intOf]; omega
      · rcases hrest with ⟨d1, d2, hn⟩ | ⟨he, hn⟩ | ⟨he, hn⟩ | ⟨he, hn⟩ | ⟨hd, e1, e2, e3, hn⟩
        · have HB : Hid (allT s (k + 1) = true) := allT_succ HA.out hn
          clear hn hno
          go_wp2
          go_round
          case rel => exact ⟨k + 1, by omega, by go_num, HB.out⟩
          case measure => simp [intOf]; omega
        · have HB : Hid (allT s (k + 1) = true) := allT_succ HA.out hn
          clear hn hno
          go_wp2
          go_round
          case rel => exact ⟨k + 1, by omega, by go_num, HB.out⟩
          case measure => simp [intOf]; omega
        · have HB : Hid (allT s (k + 1) = true) := allT_succ HA.out hn
          clear hn hno
          go_wp2
          go_round
          case rel => exact ⟨k + 1, by omega, by go_num, HB.out⟩
          case measure => simp [intOf]; omega
        · have HB : Hid (allT s (k + 1) = true) := allT_succ HA.out hn
          clear hn hno
          go_wp2
          go_round
          case rel => exact ⟨k + 1, by omega, by go_num, HB.out⟩
          case measure => simp [intOf]; omega
        · have HD : Hid (tagB s = false) := tagB_f hlt hn
          have g1 : (bt s k < 97 ∧ bt s k < 48) ∨ (bt s k < 97 ∧ 48 ≤ bt s k ∧ decide (bt s k ≤ 58) = false) ∨ (97 ≤ bt s k ∧ decide (bt s k ≤ 122) = false ∧ 48 ≤ bt s k ∧ decide (bt s k ≤ 58) = false) := by
            simp only [decide_eq_false_iff_not]; omega
          have n3 : ¬ bt s k = 95 := e1
          have n4 : ¬ bt s k = 46 := e2
          have n5 : ¬ bt s k = 45 := e3
          have m1 : (bt s k == 95) = false := by simpa using e1
          have m2 : (bt s k == 46) = false := by simpa using e2
          have m3 : (bt s k == 45) = false := by simpa using e3
          clear hno hd hn e1 e2 e3
          rcases g1 with ⟨g1, g2⟩ | ⟨g1, g2, g3⟩ | ⟨g1, g2, g3, g4⟩
          all_goals
            go_wp2
            go_ret
            exact ⟨ret_bool HD.out.symm, rfl⟩
    · have e : k = s.size := by omega
      by_cases h0 : s.size < 1
      · have HB : Hid (tagB s = false) := tagB_f0 h0
        have hi : ¬ (1 : Int) ≤ (s.size : Int) := by omega
        clear e
        go_wp2
        go_ret
        exact ⟨ret_bool HB.out.symm, rfl⟩
      · have hi : (1 : Int) ≤ (s.size : Int) := by omega
        by_cases h1 : 20 < s.size
        · have HB : Hid (tagB s = false) := tagB_f1 h1
          have hj : ¬ (s.size : Int) ≤ 20 := by omega
          clear e
          go_wp2
          go_ret
          exact ⟨ret_bool HB.out.symm, rfl⟩
        · have HB : Hid (tagB s = true) := tagB_t h0 h1 (by rw [← e]; exact HA.out)
          have hj : (s.size : Int) ≤ 20 := by omega
          clear e
          go_wp2
          go_ret
          exact ⟨ret_bool HB.out.symm, rfl⟩
end Go.Proofs.YtalmhekbagjdeaaGreatDoor
