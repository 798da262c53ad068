/-
  Contracts: codeOf of no error and of a readFault; textFits; strings.CutPrefix at "-".
-/
import Derived.Test.YtljngkjhhkccgaaGreatDoorErrHit
import Derived.WalkSpells
import Derived.PlainAid
import Derived.Lib.Strings
import Derived.Lib.IndexBytes
namespace Go.Proofs.YtljngkjhhkccgaaGreatDoor
set_option linter.unusedVariables false
set_option linter.unusedSimpArgs false
open Go.RowKit Go.PlainAid

theorem c_codeOf_nil (w : World) :
    Calls Tryz.prog 16 #[.nilIface] w fun e w' => e = .returned (.int .i64 0) ∧ Below w.heap.size w w' := by
  go_enter Tryz.func16, Tryz.ntmps16
  go_wp2_with (go_at_call 30; refine (as_nil _ _).mono ?_; rintro e w1 ⟨rfl, rfl⟩)
  go_ret
  exact ⟨rfl, (Below.refl _ _).alloc (Nat.le_refl _) _⟩

set_option maxHeartbeats 1000000 in
theorem c_codeOf_hit (c : Int) (w : World) (hg : errT w) :
    Calls Tryz.prog 16 #[.iface 55 (.agg #[.int .i64 c])] w fun e w' => e = .returned (.int .i64 c) ∧ Below w.heap.size w w' := by
  have hg1 : errT (w.alloc (.cells #[.int .i64 0] 55)) := cell_on hg _
  have ht : (w.alloc (.cells #[.int .i64 0] 55)).cell? ⟨w.heap.size, 0, none⟩ = some (.int .i64 0) := by simp
  have hf : (w.alloc (.cells #[.int .i64 0] 55)).frozen? ⟨w.heap.size, 0, none⟩ = false := by simp
  have HC := as_hit c ⟨w.heap.size, 0, none⟩ (.int .i64 0) _ hg1 ht hf
  clear hg1 ht hf hg
  go_enter Tryz.func16, Tryz.ntmps16
  go_wp2_with fail
  refine HC.mono ?_
  rintro e w1 ⟨rfl, rfl⟩
  go_wp2
  go_ret
  refine ⟨rfl, ?_⟩
  exact (((((Below.refl _ _).alloc (Nat.le_refl _) _).alloc (by simp) _).alloc (by simp; omega) _).alloc (by simp; omega) _).alloc (by simp; omega) _

def fitB (s : ByteArray) : Bool := decide (s.size ≤ 20000)
theorem c_textFits (s : ByteArray) (hs : s.size ≤ maxLen) (w : World) :
    Calls Tryz.prog 23 #[.string s] w fun e w' => e = .returned (.bool (fitB s)) ∧ w' = w := by
  unfold maxLen at hs
  by_cases h : s.size ≤ 20000
  · have h' : (s.size : Int) ≤ 20000 := by omega
    go_enter Tryz.func23, Tryz.ntmps23
    go_wp2
    go_ret
    exact ⟨by simp [fitB, h], rfl⟩
  · have h' : ¬ (s.size : Int) ≤ 20000 := by omega
    go_enter Tryz.func23, Tryz.ntmps23
    go_wp2
    go_ret
    exact ⟨by simp [fitB, h], rfl⟩

/-- Does it begin with a '-'? -/
def negB (s : ByteArray) : Bool := decide (0 < s.size) && (bt s 0 == 45)
/-- What stands behind it. -/
def tailS (s : ByteArray) : ByteArray := if negB s = true then s.extract 1 s.size else s

theorem first1 (s : ByteArray) (h : 1 ≤ s.size) : ((s.extract 0 1).toList == [45]) = negB s := by
  have e : negB s = (bt s 0 == 45) := by unfold negB; rw [decide_eq_true (by omega : 0 < s.size)]; rfl
  rw [e, Lib.extract_toList]
  have hb : bt s 0 = ((s[0]'(by omega)).toNat : Int) := by unfold bt; rw [dif_pos (by omega : 0 < s.size)]
  rw [hb]
  have hd : s.data.toList[0]? = some (s[0]'(by omega)) := Lib.data_getElem? s 0 (by omega)
  cases hl : s.data.toList with
  | nil => rw [hl] at hd; simp at hd
  | cons x tl =>
    rw [hl] at hd; simp at hd; rw [← hd]
    simp only [List.drop_zero, Nat.sub_zero, List.take_succ_cons, List.take_zero]
    by_cases k : x = 45
    · subst k; rfl
    · have k2 : ¬ x.toNat = 45 := fun h => k (UInt8.toNat_inj.1 h)
      have h1 : ([x] == [(45 : UInt8)]) = false := by simp [k]
      have h2 : ((x.toNat : Int) == 45) = false := by simp; omega
      rw [h1, h2]

theorem c_HasPrefix (s : ByteArray) (hs : s.size ≤ maxLen) (w : World) :
    Calls Tryz.prog 78 #[.string s, .string ⟨#[45]⟩] w fun e w' => e = .returned (.bool (negB s)) ∧ w' = w := by
  unfold maxLen at hs
  by_cases h : 1 ≤ s.size
  · have h' : (1 : Int) ≤ (s.size : Int) := by omega
    have HF : Hid (_ = _) := first1 s h
    go_enter Tryz.func78, Tryz.ntmps78
    go_wp2
    go_ret
    exact ⟨by rw [← HF.out]; rfl, rfl⟩
  · have h' : ¬ (1 : Int) ≤ (s.size : Int) := by omega
    have HF : Hid (negB s = false) := (by unfold negB; rw [decide_eq_false (by omega : ¬ 0 < s.size)]; rfl : negB s = false)
    go_enter Tryz.func78, Tryz.ntmps78
    go_wp2
    go_ret
    exact ⟨by rw [HF.out]; rfl, rfl⟩

end Go.Proofs.YtljngkjhhkccgaaGreatDoor
