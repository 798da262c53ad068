/-
  Plain facts on the bins of numbers, of no program: the bin of a number, the least number of a bin.
-/
import Derived.Test.YtalmhekbagjdeaaGreatDoorMath
namespace Go.Proofs.YtalmhekbagjdeaaGreatDoor
open Go.ChangeShapes Go.WideShapes Go.ChangeAt Go.RowKit

/-- The bin of a number. -/
def binW (v : Nat) : Nat := if h : v < 256 then v else 128 + binW (v / 2)
termination_by v
decreasing_by omega
/-- The least number of a bin. -/
def lowW (a : Nat) : Nat := if h : a < 256 then a else 2 * lowW (a - 128)
termination_by a
decreasing_by omega

theorem binW_lt {v : Nat} (h : v < 256) : binW v = v := by rw [binW, dif_pos h]
theorem binW_ge {v : Nat} (h : ¬ v < 256) : binW v = 128 + binW (v / 2) := by rw [binW, dif_neg h]
theorem lowW_lt {v : Nat} (h : v < 256) : lowW v = v := by rw [lowW, dif_pos h]
theorem lowW_ge {v : Nat} (h : ¬ v < 256) : lowW v = 2 * lowW (v - 128) := by rw [lowW, dif_neg h]

theorem binW_le (v : Nat) : binW v ≤ v := by
  induction v using Nat.strongRecOn with
  | ind v ih =>
    by_cases h : v < 256
    · rw [binW_lt h]; exact Nat.le_refl _
    · rw [binW_ge h]; have := ih (v / 2) (by omega); omega
theorem binW_mono (v : Nat) : ∀ w, v ≤ w → binW v ≤ binW w := by
  induction v using Nat.strongRecOn with
  | ind v ih =>
    intro w hw
    by_cases h : v < 256
    · rw [binW_lt h]
      by_cases k : w < 256
      · rw [binW_lt k]; exact hw
      · have g : ∀ x, 128 ≤ x → 128 ≤ binW x := by
          intro x
          induction x using Nat.strongRecOn with
          | ind x ix =>
            intro hx
            by_cases z : x < 256
            · rw [binW_lt z]; exact hx
            · rw [binW_ge z]; omega
        rw [binW_ge k]
        have := g (w / 2) (by omega)
        omega
    · rw [binW_ge h, binW_ge (v := w) (by omega)]
      have := ih (v / 2) (by omega) (w / 2) (by omega)
      omega
theorem binW_128 {x : Nat} (h : 128 ≤ x) : 128 ≤ binW x := by
  have := binW_mono 128 x h
  rwa [binW_lt (by omega)] at this
theorem binW_1 {x : Nat} (h : 1 ≤ x) : 1 ≤ binW x := by
  have := binW_mono 1 x h
  rwa [binW_lt (by omega)] at this
theorem binW_max : binW 999999999999999999 = 6878 := by simp [binW]
theorem binW_in {v : Nat} (h : v ≤ 999999999999999999) : binW v ≤ 6878 := by have := binW_mono v _ h; rwa [binW_max] at this

/-- A bin's numbers lie below the next bin's least one. -/
theorem low_next (a : Nat) (h : 128 ≤ a) : 128 * (lowW (a + 1) - lowW a) ≤ lowW a ∧ lowW a < lowW (a + 1) := by
  induction a using Nat.strongRecOn with
  | ind a ih =>
    by_cases k : a < 256
    · rw [lowW_lt k]
      by_cases z : a + 1 < 256
      · rw [lowW_lt z]; omega
      · rw [lowW_ge z, lowW_lt (by omega)]; omega
    · have := ih (a - 128) (by omega) (by omega)
      rw [lowW_ge k, lowW_ge (by omega), show a + 1 - 128 = a - 128 + 1 by omega]
      omega
theorem low_bin (v : Nat) : lowW (binW v) ≤ v ∧ v < lowW (binW v + 1) := by
  induction v using Nat.strongRecOn with
  | ind v ih =>
    by_cases h : v < 256
    · rw [binW_lt h, lowW_lt h]
      by_cases z : v + 1 < 256
      · rw [lowW_lt z]; omega
      · rw [lowW_ge z, lowW_lt (by omega)]; omega
    · have g := binW_128 (x := v / 2) (by omega)
      have := ih (v / 2) (by omega)
      rw [binW_ge h, lowW_ge (v := 128 + binW (v / 2)) (by omega), lowW_ge (v := 128 + binW (v / 2) + 1) (by omega), show 128 + binW (v / 2) - 128 = binW (v / 2) by omega, show 128 + binW (v / 2) + 1 - 128 = binW (v / 2) + 1 by omega]
      omega
theorem bin_low (a : Nat) : binW (lowW a) = a := by
  induction a using Nat.strongRecOn with
  | ind a ih =>
    by_cases h : a < 256
    · rw [lowW_lt h, binW_lt h]
    · have g : 128 ≤ lowW (a - 128) := by
        have := binW_le (lowW (a - 128)); rw [ih (a - 128) (by omega)] at this; omega
      rw [lowW_ge h, binW_ge (by omega), show 2 * lowW (a - 128) / 2 = lowW (a - 128) by omega, ih (a - 128) (by omega)]; omega
/-- Less than a 128th below. -/
theorem low_near (v : Nat) : v - lowW (binW v) ≤ v / 128 := by
  by_cases h : v < 256
  · rw [binW_lt h, lowW_lt h]; omega
  · have h1 := low_bin v
    have h2 := low_next (binW v) (binW_128 (by omega))
    omega
/-- As the program has it. -/
theorem low_shift (e m : Nat) (h : 128 ≤ m) (h2 : m < 256) : m * 2 ^ e = lowW (128 * e + m) := by
  induction e with
  | zero => rw [lowW_lt (by omega)]; simp
  | succ n ih => rw [lowW_ge (by omega), show 128 * (n + 1) + m - 128 = 128 * n + m by omega, ← ih, Nat.pow_succ]; generalize 2 ^ n = p; rw [Nat.mul_comm p 2, ← Nat.mul_assoc, ← Nat.mul_assoc, Nat.mul_comm m 2]
theorem low_mono (a b : Nat) (h : a ≤ b) : lowW a ≤ lowW b := by
  rcases Nat.lt_or_ge (lowW b) (lowW a) with k | k
  · have := binW_mono _ _ (Nat.le_of_lt k)
    rw [bin_low, bin_low] at this
    have e : a = b := by omega
    rw [e]; exact Nat.le_refl _
  · exact k
theorem low_le (a : Nat) (h : a ≤ 7000) : lowW a ≤ 2305843009213693952 := by
  have h1 := low_mono a 7000 h
  have h2 : lowW 7000 ≤ 2305843009213693952 := by simp [lowW]
  omega

/-- As the functions answer. -/
def binI (v : Int) : Int := if 1 ≤ v ∧ v ≤ 999999999999999999 then (binW v.toNat : Int) else 0
def lowI (a : Int) : Int := if 1 ≤ a ∧ a ≤ 7000 then (lowW a.toNat : Int) else 0
theorem binI_in (v : Int) : 0 ≤ binI v ∧ binI v ≤ 6878 := by
  unfold binI
  split
  · have := binW_in (v := v.toNat) (by omega); omega
  · omega
theorem lowI_in (v : Int) : 0 ≤ lowI v ∧ lowI v ≤ 2305843009213693952 := by
  unfold lowI
  split
  · have := low_le v.toNat (by omega); omega
  · omega
theorem binI_yes {v : Int} (h : 1 ≤ v) (h2 : v ≤ 999999999999999999) : binI v = (binW v.toNat : Int) := if_pos ⟨h, h2⟩
theorem binI_no {v : Int} (h : ¬ (1 ≤ v ∧ v ≤ 999999999999999999)) : binI v = 0 := if_neg h
theorem lowI_yes {v : Int} (h : 1 ≤ v) (h2 : v ≤ 7000) : lowI v = (lowW v.toNat : Int) := if_pos ⟨h, h2⟩
theorem lowI_no {v : Int} (h : ¬ (1 ≤ v ∧ v ≤ 7000)) : lowI v = 0 := if_neg h
theorem low_prog {a z : Nat} (h : 256 ≤ a) (h7 : (a : Int) ≤ 7000) (h0 : 2 ≤ z) (h1 : 128 * z ≤ a) (h2 : a ≤ 128 * z + 127) : wrap64 (((a : Int) - 128 * ((z : Int) - 1)) * 2 ^ (z - 1)) = lowI a := by
  have e := low_shift (z - 1) (a - 128 * (z - 1)) (by omega) (by omega)
  rw [show 128 * (z - 1) + (a - 128 * (z - 1)) = a by omega] at e
  have l := low_le a (by omega)
  rw [lowI_yes (by omega) h7, Int.toNat_natCast, ← e]
  rw [← e] at l
  have c : ((a : Int) - 128 * ((z : Int) - 1)) * 2 ^ (z - 1) = (((a - 128 * (z - 1)) * 2 ^ (z - 1) : Nat) : Int) := by
    rw [Int.natCast_mul, Int.natCast_pow, show ((a - 128 * (z - 1) : Nat) : Int) = (a : Int) - 128 * ((z : Int) - 1) by omega]; rfl
  rw [c]
  generalize (a - 128 * (z - 1)) * 2 ^ (z - 1) = n at l
  unfold wrap64; omega
end Go.Proofs.YtalmhekbagjdeaaGreatDoor
