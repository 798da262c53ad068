/-
  Plain facts: what a value's text is, byte by byte. Of no program.
-/
import Derived.Test.YtljngkjhhkccgaaGreatDoorCodeOf
namespace Go.Proofs.YtljngkjhhkccgaaGreatDoor
set_option linter.unusedVariables false
set_option linter.unusedSimpArgs false
open Go.RowKit Go.PlainAid

def isDig (c : Int) : Bool := decide (48 ≤ c) && decide (c ≤ 57)
theorem isDig_t {c : Int} (h : isDig c = true) : 48 ≤ c ∧ c ≤ 57 := by
  unfold isDig at h
  have := Bool.and_eq_true_iff.1 h
  exact ⟨of_decide_eq_true this.1, of_decide_eq_true this.2⟩
theorem isDig_f {c : Int} (h : isDig c = false) : ¬ (48 ≤ c ∧ c ≤ 57) := by
  rintro ⟨h1, h2⟩; simp [isDig, h1, h2] at h
/-- n digits from place o on. -/
def dig (s : ByteArray) (o n : Nat) : Prop := ∀ j, j < n → 48 ≤ bt s (o + j) ∧ bt s (o + j) ≤ 57
/-- Their number. -/
def valD (s : ByteArray) (o : Nat) : Nat → Int
  | 0 => 0
  | n + 1 => valD s o n * 10 + (bt s (o + n) - 48)

theorem dig_succ {s : ByteArray} {o n : Nat} (h : dig s o n) (hd : isDig (bt s (o + n)) = true) : dig s o (n + 1) := by
  intro j hj
  rcases Nat.lt_or_ge j n with k | k
  · exact h j k
  · rw [show j = n by omega]; exact isDig_t hd
theorem dig_size {s : ByteArray} {o n : Nat} (h : dig s o n) (h1 : 1 ≤ n) : o + n ≤ s.size := by
  rcases Nat.lt_or_ge s.size (o + n) with k | k
  · have := h (n - 1) (by omega)
    rw [bt_end s (show s.size ≤ o + (n - 1) by omega)] at this
    omega
  · exact k
theorem valD_bd {s : ByteArray} {o : Nat} : ∀ n, dig s o n → 0 ≤ valD s o n ∧ valD s o n < 10 ^ n
  | 0, _ => by simp [valD]
  | n + 1, h => by
    have ih := valD_bd n (fun j hj => h j (by omega))
    have hl := h n (by omega)
    unfold valD
    rw [Int.pow_succ]
    omega

/-- A whole part of k digits at F. -/
def Whole (s : ByteArray) (F k : Nat) : Prop := 1 ≤ k ∧ k ≤ 12 ∧ dig s F k ∧ ¬ (1 < k ∧ bt s F = 48)
/-- The text from F on is that of V millionths. -/
def Parse (s : ByteArray) (F : Nat) (V : Int) : Prop := ∃ k, Whole s F k ∧ ((F + k = s.size ∧ V = valD s F k * 1000000) ∨ ∃ p, 1 ≤ p ∧ p ≤ 6 ∧ F + k + 1 + p = s.size ∧ bt s (F + k) = 46 ∧ dig s (F + k + 1) p ∧ V = (valD s F k * 10 ^ p + valD s (F + k + 1) p) * 10 ^ (6 - p))

/-- Where the digits stop: so long is the whole part, if there is one. -/
theorem stop {s : ByteArray} {F k0 k : Nat} (h0 : dig s F k0) (hs : k0 = 12 ∨ isDig (bt s (F + k0)) = false) (hk : k ≤ 12) (hd : dig s F k) (hn : isDig (bt s (F + k)) = false) : k = k0 := by
  rcases Nat.lt_trichotomy k k0 with h | h | h
  · have := h0 k h
    exact absurd this (isDig_f hn)
  · exact h
  · rcases hs with e | e
    · omega
    · exact absurd (hd k0 h) (isDig_f e)
theorem parse_k {s : ByteArray} {F k0 : Nat} {V : Int} (h0 : dig s F k0) (hs : k0 = 12 ∨ isDig (bt s (F + k0)) = false) (hp : Parse s F V) :
    Whole s F k0 ∧ ((F + k0 = s.size ∧ V = valD s F k0 * 1000000) ∨ ∃ p, 1 ≤ p ∧ p ≤ 6 ∧ F + k0 + 1 + p = s.size ∧ bt s (F + k0) = 46 ∧ dig s (F + k0 + 1) p ∧ V = (valD s F k0 * 10 ^ p + valD s (F + k0 + 1) p) * 10 ^ (6 - p)) := by
  obtain ⟨k, hw, hr⟩ := hp
  have e : k = k0 := by
    refine stop h0 hs hw.2.1 hw.2.2.1 ?_
    rcases hr with ⟨e, _⟩ | ⟨p, _, _, _, e, _⟩
    · rw [bt_end s (by omega)]; rfl
    · rw [e]; rfl
  subst e
  exact ⟨hw, hr⟩
theorem parse_unique {s : ByteArray} {F : Nat} {V V' : Int} (h : Parse s F V) (h' : Parse s F V') : V = V' := by
  obtain ⟨k, hw, hr⟩ := h
  have hn : isDig (bt s (F + k)) = false := by
    rcases hr with ⟨e, _⟩ | ⟨p, _, _, _, e, _⟩
    · rw [bt_end s (by omega)]; rfl
    · rw [e]; rfl
  obtain ⟨_, hr'⟩ := parse_k hw.2.2.1 (.inr hn) h'
  rcases hr with ⟨e, hv⟩ | ⟨p, p1, p2, e, e46, hd, hv⟩
  · rcases hr' with ⟨_, hv'⟩ | ⟨p', q1, _, e', _⟩
    · rw [hv, hv']
    · omega
  · rcases hr' with ⟨e', _⟩ | ⟨p', q1, q2, e', _, _, hv'⟩
    · omega
    · have : p' = p := by omega
      subst this; rw [hv, hv']
theorem parse_bd {s : ByteArray} {F : Nat} {V : Int} (h : Parse s F V) : 0 ≤ V ∧ V ≤ 999999999999999999 := by
  obtain ⟨k, hw, hr⟩ := h
  have b := valD_bd k hw.2.2.1
  have hk : valD s F k ≤ 999999999999 := by
    have h0 := Nat.pow_le_pow_right (show 0 < 10 by omega) hw.2.1
    have h1 : (10 : Int) ^ k ≤ 10 ^ 12 := by exact_mod_cast h0
    have h2 : (10 : Int) ^ 12 = 1000000000000 := by decide
    omega
  rcases hr with ⟨_, hv⟩ | ⟨p, p1, p2, _, _, hd, hv⟩
  · omega
  · have bp := valD_bd p hd
    rw [hv]
    have hc : p = 1 ∨ p = 2 ∨ p = 3 ∨ p = 4 ∨ p = 5 ∨ p = 6 := by omega
    rcases hc with rfl | rfl | rfl | rfl | rfl | rfl <;> simp only [show (10 : Int) ^ 1 = 10 from rfl, show (10 : Int) ^ 2 = 100 from rfl, show (10 : Int) ^ 3 = 1000 from rfl, show (10 : Int) ^ 4 = 10000 from rfl, show (10 : Int) ^ 5 = 100000 from rfl, show (10 : Int) ^ 6 = 1000000 from rfl, Nat.reduceSub, show (10 : Int) ^ 0 = 1 from rfl] at bp ⊢ <;> omega

/-- Of k digits, up to 17. -/
theorem valD_17 {s : ByteArray} {o n : Nat} (h : dig s o n) (hn : n ≤ 12) : 0 ≤ valD s o n ∧ valD s o n ≤ 999999999999 := by
  have b := valD_bd n h
  have h0 := Nat.pow_le_pow_right (show 0 < 10 by omega) hn
  have h1 : (10 : Int) ^ n ≤ 10 ^ 12 := by exact_mod_cast h0
  have h2 : (10 : Int) ^ 12 = 1000000000000 := by decide
  omega
/-- What has been read when p digits of the part have come. -/
def valP (s : ByteArray) (F k p : Nat) : Int := valD s F k * 10 ^ p + valD s (F + k + 1) p
theorem valP_bd {s : ByteArray} {F k p : Nat} (hk : dig s F k) (h12 : k ≤ 12) (hp : dig s (F + k + 1) p) (h6 : p ≤ 5) : 0 ≤ valP s F k p ∧ valP s F k p ≤ 99999999999999999 := by
  have b := valD_17 hk h12
  have bp := valD_bd p hp
  unfold valP
  have hc : p = 0 ∨ p = 1 ∨ p = 2 ∨ p = 3 ∨ p = 4 ∨ p = 5 := by omega
  rcases hc with rfl | rfl | rfl | rfl | rfl | rfl <;> simp only [show (10 : Int) ^ 1 = 10 from rfl, show (10 : Int) ^ 2 = 100 from rfl, show (10 : Int) ^ 3 = 1000 from rfl, show (10 : Int) ^ 4 = 10000 from rfl, show (10 : Int) ^ 5 = 100000 from rfl, show (10 : Int) ^ 0 = 1 from rfl] at bp ⊢ <;> omega
theorem valP_succ (s : ByteArray) (F k p : Nat) : valP s F k p * 10 + (bt s (F + k + 1 + p) - 48) = valP s F k (p + 1) := by
  unfold valP
  rw [Int.pow_succ]
  show _ = valD s F k * (10 ^ p * 10) + (valD s (F + k + 1) p * 10 + (bt s (F + k + 1 + p) - 48))
  rw [← Int.mul_assoc]
  omega
/-- Noughts behind. -/
def Scal (v : Int) (p : Nat) (V : Int) : Prop := p ≤ 6 ∧ v * 10 ^ (6 - p) = V
theorem scal_step {v V : Int} {p : Nat} (h : Scal v p V) (hp : p < 6) : Scal (v * 10) (p + 1) V := by
  refine ⟨by omega, ?_⟩
  have := h.2
  rw [show 6 - p = (6 - (p + 1)) + 1 by omega, Int.pow_succ] at this
  rw [Int.mul_assoc, Int.mul_comm 10]; exact this
theorem scal_end {v V : Int} {p : Nat} (h : Scal v p V) (hp : ¬ p < 6) : v = V := by
  have h2 := h.2
  rw [show 6 - p = 0 by have := h.1; omega] at h2
  simpa using h2
theorem scal_bd {v V : Int} {p : Nat} (h : Scal v p V) (hp : p < 6) (hV : 0 ≤ V ∧ V ≤ 999999999999999999) : 0 ≤ v ∧ v ≤ 99999999999999999 := by
  have h2 := h.2
  have hc : 6 - p = 1 ∨ 6 - p = 2 ∨ 6 - p = 3 ∨ 6 - p = 4 ∨ 6 - p = 5 ∨ 6 - p = 6 := by omega
  rcases hc with e | e | e | e | e | e <;> rw [e] at h2 <;> simp only [show (10 : Int) ^ 1 = 10 from rfl, show (10 : Int) ^ 2 = 100 from rfl, show (10 : Int) ^ 3 = 1000 from rfl, show (10 : Int) ^ 4 = 10000 from rfl, show (10 : Int) ^ 5 = 100000 from rfl, show (10 : Int) ^ 6 = 1000000 from rfl] at h2 <;> omega
end Go.Proofs.YtljngkjhhkccgaaGreatDoor
