/-
  Contracts of NameRight, of the program and of its model: one Bool of the text's bytes.
-/
import Derived.Test.YtgdhojeobcpoiaaRows
import Derived.WalkKit
import Derived.ProofKit
import Derived.OpenShut
import Derived.Below
import Derived.WalkSpells
import Derived.PlainAid
namespace Go.Proofs.Ytgdhojeobcpoiaa
open Go.ChangeShapes Go.WideShapes Go.ChangeAt Go.RowKit Go.PlainAid

def letB (c : Int) : Bool := decide (97 ≤ c) && decide (c ≤ 122)
def digB (c : Int) : Bool := decide (48 ≤ c) && decide (c ≤ 57)
def nmB (c : Int) : Bool := letB c || digB c || c == 95 || c == 46
/-- The first n bytes are a name's. -/
def allB (s : ByteArray) : Nat → Bool
  | 0 => true
  | n + 1 => allB s n && nmB (bt s n)
def nameB (s : ByteArray) : Bool := decide (1 ≤ s.size) && decide (s.size ≤ 40) && letB (bt s 0) && allB s s.size

theorem ret_bool {a b : Bool} (h : a = b) : Ending.returned (.bool a) = .returned (.bool b) := by rw [h]

theorem allB_le {s : ByteArray} {k : Nat} (h : nmB (bt s k) = false) : ∀ n, k < n → allB s n = false
  | 0, hk => by omega
  | n + 1, hk => by
    unfold allB
    by_cases e : k = n
    · subst e; rw [h]; simp
    · rw [allB_le h n (by omega)]; simp

theorem c_isLetter (c : Int) (w : World) :
    Calls Try.prog 28 #[.int .u8 c] w fun e w' => e = .returned (.bool (letB c)) ∧ w' = w := by
  by_cases h1 : 97 ≤ c <;> by_cases h2 : c ≤ 122 <;> (go_enter Try.func28, Try.ntmps28; go_wp2; go_ret; exact ⟨by simp [letB, h1, h2], rfl⟩)

theorem c_isDigit (c : Int) (w : World) :
    Calls Try.prog 37 #[.int .u8 c] w fun e w' => e = .returned (.bool (digB c)) ∧ w' = w := by
  by_cases h1 : 48 ≤ c <;> by_cases h2 : c ≤ 57 <;> (go_enter Try.func37, Try.ntmps37; go_wp2; go_ret; exact ⟨by simp [digB, h1, h2], rfl⟩)

theorem c_nameByte (c : Int) (w : World) :
    Calls Try.prog 29 #[.int .u8 c] w fun e w' => e = .returned (.bool (nmB c)) ∧ w' = w := by
  cases h1 : letB c <;> cases h2 : digB c <;> by_cases h3 : c = 95 <;> by_cases h4 : c = 46 <;>
  · go_enter Try.func29, Try.ntmps29
    go_wp2_with (first
      | (go_at_call 28; refine (c_isLetter _ _).mono ?_; rintro e w1 ⟨rfl, rfl⟩)
      | (go_at_call 37; refine (c_isDigit _ _).mono ?_; rintro e w1 ⟨rfl, rfl⟩))
    all_goals (go_ret; exact ⟨by simp [nmB, h1, h2, h3, h4], rfl⟩)

set_option maxHeartbeats 1000000 in
theorem c_i_NameRight (s : ByteArray) (w : World) (hs : s.size ≤ maxLen) :
    Calls Try.prog 23 #[.string s] w fun e w' => e = .returned (.bool (nameB s)) ∧ w' = w := by
  unfold maxLen at hs
  have hbt := get_bt s
  by_cases h0 : s.size < 1
  · have HN : Hid (nameB s = false) := (by unfold nameB; rw [show decide (1 ≤ s.size) = false from decide_eq_false (by omega)]; rfl : nameB s = false)
    have hi : ((s.size : Int) < 1) := by omega
    go_enter Try.func23, Try.ntmps23
    go_wp2
    go_ret
    exact ⟨ret_bool HN.out.symm, rfl⟩
  · by_cases h1 : 40 < s.size
    · have HN : Hid (nameB s = false) := (by unfold nameB; rw [show decide (s.size ≤ 40) = false from decide_eq_false (by omega)]; simp : nameB s = false)
      have hi : ¬ ((s.size : Int) < 1) := by omega
      have hj : (40 : Int) < (s.size : Int) := by omega
      go_enter Try.func23, Try.ntmps23
      go_wp2
      go_ret
      exact ⟨ret_bool HN.out.symm, rfl⟩
    · have hi : ¬ ((s.size : Int) < 1) := by omega
      have hj : ¬ (40 : Int) < (s.size : Int) := by omega
      have hp : (0 : Int) < (s.size : Int) := by omega
      cases hl : letB (bt s 0)
      · have HN : Hid (nameB s = false) := (by unfold nameB; rw [hl]; simp : nameB s = false)
        go_enter Try.func23, Try.ntmps23
        go_wp2_with (go_at_call 28; refine (c_isLetter _ _).mono ?_; rintro e w1 ⟨rfl, rfl⟩)
        go_ret
        exact ⟨ret_bool HN.out.symm, rfl⟩
      · have HN : Hid (nameB s = allB s s.size) := (by unfold nameB; rw [hl, show decide (1 ≤ s.size) = true from decide_eq_true (by omega), show decide (s.size ≤ 40) = true from decide_eq_true (by omega)]; rfl : nameB s = allB s s.size)
        go_enter Try.func23, Try.ntmps23
        go_wp2_with (go_at_call 28; refine (c_isLetter _ _).mono ?_; rintro e w1 ⟨rfl, rfl⟩)
        go_loop [20, 3] (fun i _ => ∃ k : Nat, k ≤ s.size ∧ i = .int .i64 k ∧ allB s k = true) (fun i _ => s.size - (intOf i).toNat)
        case atStart => exact ⟨0, Nat.zero_le _, rfl, rfl⟩
        case round =>
          obtain ⟨k, hk, rfl, ha⟩ := hrel
          have HA : Hid (allB s k = true) := ha
          clear ha
          by_cases hlt : k < s.size
          · cases hn : nmB (bt s k)
            · have HB : Hid (allB s s.size = false) := allB_le hn _ hlt
              go_wp2_with (go_at_call 29; refine (c_nameByte _ _).mono ?_; rintro e w1 ⟨rfl, rfl⟩)
              go_ret
              exact ⟨ret_bool (HN.out.trans HB.out).symm, rfl⟩
            · have HB : Hid (allB s (k + 1) = true) := (by unfold allB; rw [HA.out, hn]; rfl : allB s (k + 1) = true)
              go_wp2_with (go_at_call 29; refine (c_nameByte _ _).mono ?_; rintro e w1 ⟨rfl, rfl⟩)
              go_round
              case rel => exact ⟨k + 1, by omega, by go_num, HB.out⟩
              case measure => simp [intOf]; omega
          · have e : k = s.size := by omega
            have HB : Hid (allB s s.size = true) := (by rw [← e]; exact HA.out : allB s s.size = true)
            clear e
            go_wp2
            go_ret
            exact ⟨ret_bool (HN.out.trans HB.out).symm, rfl⟩

theorem letB_t {c : Int} (h : 97 ≤ c) (k : c ≤ 122) : letB c = true := by simp [letB, h, k]
theorem letB_f {c : Int} (h : c < 97 ∨ 122 < c) : letB c = false := by
  unfold letB; rcases h with h | h
  · rw [show decide (97 ≤ c) = false from decide_eq_false (by omega)]; rfl
  · rw [show decide (c ≤ 122) = false from decide_eq_false (by omega)]; simp
theorem digB_t {c : Int} (h : 48 ≤ c) (k : c ≤ 57) : digB c = true := by simp [digB, h, k]
theorem digB_f {c : Int} (h : c < 48 ∨ 57 < c) : digB c = false := by
  unfold digB; rcases h with h | h
  · rw [show decide (48 ≤ c) = false from decide_eq_false (by omega)]; rfl
  · rw [show decide (c ≤ 57) = false from decide_eq_false (by omega)]; simp
theorem nmB_cases (c : Int) : (97 ≤ c ∧ c ≤ 122) ∨ ((c < 97 ∨ 122 < c) ∧ ((48 ≤ c ∧ c ≤ 57) ∨ c = 95 ∨ c = 46 ∨ ((c < 48 ∨ 57 < c) ∧ (c == 95) = false ∧ (c == 46) = false))) := by
  by_cases a : 97 ≤ c ∧ c ≤ 122
  · exact .inl a
  · refine .inr ⟨by omega, ?_⟩
    by_cases b : 48 ≤ c ∧ c ≤ 57
    · exact .inl b
    · by_cases d : c = 95
      · exact .inr (.inl d)
      · by_cases e : c = 46
        · exact .inr (.inr (.inl e))
        · exact .inr (.inr (.inr ⟨by omega, by simpa using d, by simpa using e⟩))
theorem nmB_l {c : Int} (h : letB c = true) : nmB c = true := by simp [nmB, h]
theorem nmB_d {c : Int} (h : digB c = true) : nmB c = true := by simp [nmB, h]
theorem nmB_95 : nmB 95 = true := by decide
theorem nmB_46 : nmB 46 = true := by decide
theorem nmB_n {c : Int} (h : letB c = false) (k : digB c = false) (d : (c == 95) = false) (e : (c == 46) = false) : nmB c = false := by simp [nmB, h, k, d, e]

theorem nameB_f0 {s : ByteArray} (h : letB (bt s 0) = false) : nameB s = false := by unfold nameB; rw [h]; simp
theorem nameB_f {s : ByteArray} {k : Nat} (hk : k < s.size) (h : nmB (bt s k) = false) : nameB s = false := by unfold nameB; rw [allB_le h _ hk]; simp
theorem nameB_t {s : ByteArray} (h1 : ¬ s.size < 1) (h2 : ¬ 40 < s.size) (hl : letB (bt s 0) = true) (ha : allB s s.size = true) : nameB s = true := by
  unfold nameB; rw [hl, ha, show decide (1 ≤ s.size) = true from decide_eq_true (by omega), show decide (s.size ≤ 40) = true from decide_eq_true (by omega)]; rfl
theorem allB_succ {s : ByteArray} {k : Nat} (h : allB s k = true) (hn : nmB (bt s k) = true) : allB s (k + 1) = true := by unfold allB; rw [h, hn]; rfl

set_option maxHeartbeats 1000000 in
theorem c_s_NameRight (s : ByteArray) (w : World) (hs : s.size ≤ maxLen) :
    Calls Try.prog 22 #[.string s] w fun e w' => e = .returned (.bool (nameB s)) ∧ w' = w := by
  unfold maxLen at hs
  have hbt := get_bt s
  by_cases h0 : s.size < 1
  · have HN : Hid (nameB s = false) := (by unfold nameB; rw [show decide (1 ≤ s.size) = false from decide_eq_false (by omega)]; rfl : nameB s = false)
    have hi : ((s.size : Int) < 1) := by omega
    go_enter Try.func22, Try.ntmps22
    go_wp2
    go_ret
    exact ⟨ret_bool HN.out.symm, rfl⟩
  · have hi : ¬ ((s.size : Int) < 1) := by omega
    by_cases h1 : 40 < s.size
    · have HN : Hid (nameB s = false) := (by unfold nameB; rw [show decide (s.size ≤ 40) = false from decide_eq_false (by omega)]; simp : nameB s = false)
      have hj : (40 : Int) < (s.size : Int) := by omega
      go_enter Try.func22, Try.ntmps22
      go_wp2
      go_ret
      exact ⟨ret_bool HN.out.symm, rfl⟩
    · have hj : ¬ (40 : Int) < (s.size : Int) := by omega
      go_enter Try.func22, Try.ntmps22
      go_wp2
      go_loop [3, 4] (fun i _ => ∃ k : Nat, k ≤ s.size ∧ i = .int .i64 k ∧ allB s k = true ∧ (k = 0 ∨ letB (bt s 0) = true)) (fun i _ => s.size - (intOf i).toNat)
      case atStart => exact ⟨0, Nat.zero_le _, rfl, rfl, .inl rfl⟩
      case round =>
        obtain ⟨k, hk, rfl, ha, hl⟩ := hrel
        have HA : Hid (allB s k = true) := ha
        have HL : Hid (k = 0 ∨ letB (bt s 0) = true) := hl
        clear ha hl
        by_cases hlt : k < s.size
        · rcases nmB_cases (bt s k) with ⟨c1, c2⟩ | ⟨hno, hrest⟩
          · have HB : Hid (letB (bt s k) = true) := letB_t c1 c2
            go_wp2
            go_round
            case rel => exact ⟨k + 1, by omega, by go_num, allB_succ HA.out (nmB_l HB.out), .inr (by rcases HL.out with rfl | h; exact HB.out; exact h)⟩
            case measure => simp [intOf]; omega
          · have HB : Hid (letB (bt s k) = false) := letB_f hno
            rcases Nat.eq_zero_or_pos k with rfl | hpos
            · clear hrest
              have g2 : 122 < bt s 0 → (decide (bt s 0 ≤ 122) = false ∧ 97 ≤ bt s 0) := fun h => ⟨decide_eq_false (by omega), by omega⟩
              rcases hno with hno | hno
              · clear g2
                go_wp2
                go_ret
                exact ⟨ret_bool (nameB_f0 HB.out).symm, rfl⟩
              · obtain ⟨g3, g4⟩ := g2 hno
                clear g2
                go_wp2
                go_ret
                exact ⟨ret_bool (nameB_f0 HB.out).symm, rfl⟩
            · have HL1 : Hid (letB (bt s 0) = true) := by rcases HL.out with h | h; omega; exact h
              have hk0 : ((k : Int) == 0) = false := by simp; omega
              rcases hrest with ⟨d1, d2⟩ | he | he | ⟨hd, e1, e2⟩
              · have HD : Hid (digB (bt s k) = true) := digB_t d1 d2
                clear hno
                go_wp2
                go_round
                case rel => exact ⟨k + 1, by omega, by go_num, allB_succ HA.out (nmB_d HD.out), .inr HL1.out⟩
                case measure => simp [intOf]; omega
              · have HD : Hid (nmB (bt s k) = true) := (by rw [he]; exact nmB_95 : nmB (bt s k) = true)
                clear hno
                go_wp2
                go_round
                case rel => exact ⟨k + 1, by omega, by go_num, allB_succ HA.out HD.out, .inr HL1.out⟩
                case measure => simp [intOf]; omega
              · have HD : Hid (nmB (bt s k) = true) := (by rw [he]; exact nmB_46 : nmB (bt s k) = true)
                clear hno
                go_wp2
                go_round
                case rel => exact ⟨k + 1, by omega, by go_num, allB_succ HA.out HD.out, .inr HL1.out⟩
                case measure => simp [intOf]; omega
              · have HD : Hid (nmB (bt s k) = false) := nmB_n HB.out (digB_f hd) e1 e2
                have g1 : (bt s k < 97 ∧ bt s k < 48) ∨ (bt s k < 97 ∧ 48 ≤ bt s k ∧ decide (bt s k ≤ 57) = false) ∨ (97 ≤ bt s k ∧ decide (bt s k ≤ 122) = false ∧ 48 ≤ bt s k ∧ decide (bt s k ≤ 57) = false) := by
                  simp only [decide_eq_false_iff_not]; omega
                have n1 : (bt s k != 95) = true := by simpa using e1
                have n2 : (bt s k != 46) = true := by simpa using e2
                have n3 : ¬ bt s k = 95 := by simpa using e1
                have n4 : ¬ bt s k = 46 := by simpa using e2
                clear hno hd e1 e2
                rcases g1 with ⟨g1, g2⟩ | ⟨g1, g2, g3⟩ | ⟨g1, g2, g3, g4⟩
                all_goals
                  go_wp2
                  go_ret
                  exact ⟨ret_bool (nameB_f hlt HD.out).symm, rfl⟩
        · have e : k = s.size := by omega
          have HB : Hid (nameB s = true) := by
            subst e
            refine nameB_t h0 h1 ?_ HA.out
            rcases HL.out with h | h
            · omega
            · exact h
          clear e
          go_wp2
          go_ret
          exact ⟨ret_bool HB.out.symm, rfl⟩
end Go.Proofs.Ytgdhojeobcpoiaa
