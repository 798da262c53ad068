/-
  Samples: what is right of each part, of the program.
-/
import Derived.Test.YtiafgcppidmoiaaDoorSrtT
namespace Go.Proofs.YtiafgcppidmoiaaDoor
set_option linter.unusedVariables false
set_option linter.unusedSimpArgs false
open Go.ChangeShapes Go.WideShapes Go.ChangeAt Go.RowKit Go.PlainAid
set_option maxRecDepth 10000

/-- A sample's value. -/
def smpV (k : Int) (se : ByteArray) (v : Int) (wd : ByteArray) (wt : Int) (tm : Bool) (ti : Int) : Value := .agg #[.int .i64 k, .string se, .int .i64 v, .string wd, .int .u64 wt, .bool tm, .int .i64 ti]
def kindB (k : Int) : Bool := decide (1 ≤ k) && decide (k ≤ 4)
def valB (v : Int) : Bool := decide (-999999999999999999 ≤ v) && decide (v ≤ 999999999999999999)
def whatB (k v : Int) (wd : ByteArray) : Bool := if k = 4 then decide (v = 0) && tagB wd else valB v && decide (wd.size = 0)
def weightB (k wt : Int) : Bool := decide (wt = 1) || (decide (k = 1) || decide (k = 3)) && decide (0 < wt) && decide (wt ≤ 1000000)
def timeB (tm : Bool) (ti : Int) : Bool := if tm = true then decide (0 ≤ ti) && decide (ti ≤ 1000000000) else decide (ti = 0)

theorem c_kindRight (k : Int) (w : World) : Calls Tryd.prog 22 #[.int .i64 k] w fun e w' => e = .returned (.bool (kindB k)) ∧ w' = w := by
  by_cases h1 : 1 ≤ k <;> by_cases h2 : k ≤ 4 <;> (go_enter Tryd.func22, Tryd.ntmps22; go_wp2; go_ret; exact ⟨by simp [kindB, h1, h2], rfl⟩)
theorem c_valueRight (v : Int) (w : World) : Calls Tryd.prog 44 #[.int .i64 v] w fun e w' => e = .returned (.bool (valB v)) ∧ w' = w := by
  by_cases h1 : -999999999999999999 ≤ v <;> by_cases h2 : v ≤ 999999999999999999 <;> (go_enter Tryd.func44, Tryd.ntmps44; go_wp2; go_ret; exact ⟨by simp [valB, h1, h2], rfl⟩)
theorem c_rateAllowed (k : Int) (w : World) : Calls Tryd.prog 45 #[.int .i64 k] w fun e w' => e = .returned (.bool (decide (k = 1) || decide (k = 3))) ∧ w' = w := by
  by_cases h1 : k = 1 <;> by_cases h2 : k = 3 <;> (go_enter Tryd.func45, Tryd.ntmps45; go_wp2; go_ret; exact ⟨by simp [h1, h2], rfl⟩)

theorem c_timeRight (k : Int) (se : ByteArray) (v : Int) (wd : ByteArray) (wt : Int) (tm : Bool) (ti : Int) (w : World) :
    Calls Tryd.prog 25 #[smpV k se v wd wt tm ti] w fun e w' => e = .returned (.bool (timeB tm ti)) ∧ Below w.heap.size w w' := by
  unfold smpV
  cases tm with
  | false =>
    by_cases h : ti = 0
    · subst h
      go_enter Tryd.func25, Tryd.ntmps25
      go_wp2
      (go_ret; exact ⟨by rfl, by first | exact (Below.refl _ _).alloc (Nat.le_refl _) _ | exact ((Below.refl _ _).alloc (Nat.le_refl _) _).drew | exact ((Below.refl _ _).alloc (Nat.le_refl _) _).drew.drew⟩)
    · have hb : (ti == 0) = false := by simpa using h
      go_enter Tryd.func25, Tryd.ntmps25
      go_wp2
      (go_ret; exact ⟨by simp [timeB, h], by first | exact (Below.refl _ _).alloc (Nat.le_refl _) _ | exact ((Below.refl _ _).alloc (Nat.le_refl _) _).drew | exact ((Below.refl _ _).alloc (Nat.le_refl _) _).drew.drew⟩)
  | true =>
    have hc : (0 ≤ ti ∧ ti ≤ 1000000000) ∨ (¬ 0 ≤ ti ∧ ti ≤ 1000000000) ∨ (0 ≤ ti ∧ ¬ ti ≤ 1000000000) := by omega
    rcases hc with ⟨h1, h2⟩ | ⟨h1, h2⟩ | ⟨h1, h2⟩ <;> (go_enter Tryd.func25, Tryd.ntmps25; go_wp2; (go_ret; exact ⟨by simp [timeB, h1, h2], by first | exact (Below.refl _ _).alloc (Nat.le_refl _) _ | exact ((Below.refl _ _).alloc (Nat.le_refl _) _).drew | exact ((Below.refl _ _).alloc (Nat.le_refl _) _).drew.drew⟩))
set_option maxHeartbeats 1000000 in
theorem c_weightRight (k : Int) (se : ByteArray) (v : Int) (wd : ByteArray) (wt : Int) (tm : Bool) (ti : Int) (w : World) :
    Calls Tryd.prog 24 #[smpV k se v wd wt tm ti] w fun e w' => e = .returned (.bool (weightB k wt)) ∧ Below w.heap.size w w' := by
  unfold smpV
  by_cases h1 : wt = 1
  · subst h1
    have HE : Hid (weightB k 1 = true) := (by simp [weightB] : weightB k 1 = true)
    go_enter Tryd.func24, Tryd.ntmps24
    go_wp2
    (go_ret; exact ⟨by rw [HE.out]; rfl, by first | exact (Below.refl _ _).alloc (Nat.le_refl _) _ | exact ((Below.refl _ _).alloc (Nat.le_refl _) _).drew | exact ((Below.refl _ _).alloc (Nat.le_refl _) _).drew.drew⟩)
  · have hb : (wt == 1) = false := by simpa using h1
    cases hr : (decide (k = 1) || decide (k = 3)) with
    | false =>
      have HE : Hid (weightB k wt = false) := (by unfold weightB; rw [decide_eq_false h1, hr]; rfl : weightB k wt = false)
      go_enter Tryd.func24, Tryd.ntmps24
      go_wp2_with (go_at_call 45; refine (c_rateAllowed _ _).mono ?_; rintro e w1 ⟨rfl, hw1⟩; obtain rfl := hw1; rw [hr])
      (go_ret; exact ⟨by rw [HE.out]; rfl, by first | exact (Below.refl _ _).alloc (Nat.le_refl _) _ | exact ((Below.refl _ _).alloc (Nat.le_refl _) _).drew | exact ((Below.refl _ _).alloc (Nat.le_refl _) _).drew.drew⟩)
    | true =>
      have hc : (0 < wt ∧ wt ≤ 1000000) ∨ (¬ 0 < wt ∧ wt ≤ 1000000) ∨ (0 < wt ∧ ¬ wt ≤ 1000000) := by omega
      rcases hc with ⟨h2, h3⟩ | ⟨h2, h3⟩ | ⟨h2, h3⟩
      all_goals
        have HE : Hid (weightB k wt = (decide (0 < wt) && decide (wt ≤ 1000000))) := (by unfold weightB; rw [decide_eq_false h1, hr]; simp : weightB k wt = (decide (0 < wt) && decide (wt ≤ 1000000)))
        go_enter Tryd.func24, Tryd.ntmps24
        go_wp2_with (go_at_call 45; refine (c_rateAllowed _ _).mono ?_; rintro e w1 ⟨rfl, hw1⟩; obtain rfl := hw1; rw [hr])
        (go_ret; exact ⟨by rw [HE.out]; simp [h2, h3], by first | exact (Below.refl _ _).alloc (Nat.le_refl _) _ | exact ((Below.refl _ _).alloc (Nat.le_refl _) _).drew | exact ((Below.refl _ _).alloc (Nat.le_refl _) _).drew.drew⟩)
set_option maxHeartbeats 1000000 in
theorem c_whatRight (k : Int) (se : ByteArray) (v : Int) (wd : ByteArray) (wt : Int) (tm : Bool) (ti : Int) (hwd : wd.size ≤ maxLen) (w : World) :
    Calls Tryd.prog 23 #[smpV k se v wd wt tm ti] w fun e w' => e = .returned (.bool (whatB k v wd)) ∧ Below w.heap.size w w' := by
  unfold smpV
  by_cases h4 : k = 4
  · subst h4
    by_cases hv : v = 0
    · subst hv
      have HE : Hid (whatB 4 0 wd = tagB wd) := (by simp [whatB] : whatB 4 0 wd = tagB wd)
      go_enter Tryd.func23, Tryd.ntmps23
      go_wp2_with (go_at_call 40; refine (c_i_TagRight _ _ hwd).mono ?_; rintro e w1 ⟨rfl, hw1⟩; obtain rfl := hw1)
      (go_ret; exact ⟨by rw [HE.out]; rfl, by first | exact (Below.refl _ _).alloc (Nat.le_refl _) _ | exact ((Below.refl _ _).alloc (Nat.le_refl _) _).drew | exact ((Below.refl _ _).alloc (Nat.le_refl _) _).drew.drew⟩)
    · have hb : (v == 0) = false := by simpa using hv
      have HE : Hid (whatB 4 v wd = false) := (by simp [whatB, hv] : whatB 4 v wd = false)
      go_enter Tryd.func23, Tryd.ntmps23
      go_wp2
      (go_ret; exact ⟨by rw [HE.out]; rfl, by first | exact (Below.refl _ _).alloc (Nat.le_refl _) _ | exact ((Below.refl _ _).alloc (Nat.le_refl _) _).drew | exact ((Below.refl _ _).alloc (Nat.le_refl _) _).drew.drew⟩)
  · have hb4 : (k == 4) = false := by simpa using h4
    cases hv : valB v with
    | false =>
      have HE : Hid (whatB k v wd = false) := (by simp [whatB, h4, hv] : whatB k v wd = false)
      go_enter Tryd.func23, Tryd.ntmps23
      go_wp2_with (go_at_call 44; refine (c_valueRight _ _).mono ?_; rintro e w1 ⟨rfl, hw1⟩; obtain rfl := hw1; rw [hv])
      (go_ret; exact ⟨by rw [HE.out]; rfl, by first | exact (Below.refl _ _).alloc (Nat.le_refl _) _ | exact ((Below.refl _ _).alloc (Nat.le_refl _) _).drew | exact ((Below.refl _ _).alloc (Nat.le_refl _) _).drew.drew⟩)
    | true =>
      by_cases h0 : wd.size = 0
      · have he := isE0 h0
        have HE : Hid (whatB k v wd = true) := (by simp [whatB, h4, hv, h0] : whatB k v wd = true)
        go_enter Tryd.func23, Tryd.ntmps23
        go_wp2_with (go_at_call 44; refine (c_valueRight _ _).mono ?_; rintro e w1 ⟨rfl, hw1⟩; obtain rfl := hw1; rw [hv])
        (go_ret; exact ⟨by rw [HE.out]; first | rfl | simp [he], by first | exact (Below.refl _ _).alloc (Nat.le_refl _) _ | exact ((Below.refl _ _).alloc (Nat.le_refl _) _).drew | exact ((Below.refl _ _).alloc (Nat.le_refl _) _).drew.drew⟩)
      · have he := isE h0
        have HE : Hid (whatB k v wd = false) := (by simp [whatB, h4, hv, h0] : whatB k v wd = false)
        go_enter Tryd.func23, Tryd.ntmps23
        go_wp2_with (go_at_call 44; refine (c_valueRight _ _).mono ?_; rintro e w1 ⟨rfl, hw1⟩; obtain rfl := hw1; rw [hv])
        (go_ret; exact ⟨by rw [HE.out]; first | rfl | simp [he], by first | exact (Below.refl _ _).alloc (Nat.le_refl _) _ | exact ((Below.refl _ _).alloc (Nat.le_refl _) _).drew | exact ((Below.refl _ _).alloc (Nat.le_refl _) _).drew.drew⟩)
end Go.Proofs.YtiafgcppidmoiaaDoor
