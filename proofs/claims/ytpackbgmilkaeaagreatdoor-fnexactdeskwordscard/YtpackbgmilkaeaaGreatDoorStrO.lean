/-
  The order of texts. Of no program's walk.
-/
import Derived.Test.YtpackbgmilkaeaaGreatDoorProg
import Derived.KernelRfl
import Derived.Test.YtpackbgmilkaeaaGreatDoorKeep
import Derived.Outline
import Derived.WalkKit
import Derived.PlainAid
namespace Go.Proofs.YtpackbgmilkaeaaGreatDoor
set_option linter.unusedVariables false
set_option linter.unusedSimpArgs false
open Go.ChangeShapes Go.WideShapes Go.ChangeAt Go.RowKit Go.PlainAid

/-- A text stands ahead of another one. -/
def strLt (a b : ByteArray) : Bool := Op.bytesLess a.toList b.toList
theorem op_geq (t : TypeId) (a b : ByteArray) : binOp .geq t (.string a) (.string b) = pure (.bool !(strLt a b)) := by simp [binOp, Op.stringOp, strLt]
/-- The order of texts is a total one. -/
theorem less_ant : ∀ x y : List UInt8, Op.bytesLess x y = true → Op.bytesLess y x = false
  | _, [], h => by simp [Op.bytesLess] at h
  | [], _ :: _, _ => by simp [Op.bytesLess]
  | a :: x, b :: y, h => by
    simp only [Op.bytesLess, Bool.or_eq_true, Bool.and_eq_true, decide_eq_true_eq, beq_iff_eq] at h
    simp only [Op.bytesLess, Bool.or_eq_false_iff, Bool.and_eq_false_iff, decide_eq_false_iff_not, beq_eq_false_iff_ne]
    rcases h with h | ⟨rfl, h⟩
    · exact ⟨fun k => by have := UInt8.lt_asymm h k; exact this, .inl (fun e => by subst e; exact UInt8.lt_irrefl _ h)⟩
    · exact ⟨UInt8.lt_irrefl _, .inr (less_ant x y h)⟩
theorem less_tot : ∀ x y : List UInt8, Op.bytesLess x y = false → (x == y) = false → Op.bytesLess y x = true
  | [], [], _, h => by simp at h
  | _ :: _, [], _, _ => by simp [Op.bytesLess]
  | [], _ :: _, h, _ => by simp [Op.bytesLess] at h
  | a :: x, b :: y, h, k => by
    simp only [Op.bytesLess, Bool.or_eq_false_iff, Bool.and_eq_false_iff, decide_eq_false_iff_not, beq_eq_false_iff_ne] at h
    simp only [Op.bytesLess, Bool.or_eq_true, Bool.and_eq_true, decide_eq_true_eq, beq_iff_eq]
    by_cases e : a = b
    · subst e
      refine .inr ⟨rfl, less_tot x y ?_ ?_⟩
      · rcases h.2 with h | h
        · exact absurd rfl h
        · exact h
      · simpa using k
    · left
      have h1 := h.1
      simp only [UInt8.lt_iff_toNat_lt] at h1 ⊢
      have : a.toNat ≠ b.toNat := fun q => e (UInt8.toNat_inj.1 q)
      omega
theorem less_eq {x y : List UInt8} (h : (x == y) = true) : Op.bytesLess y x = false := by
  have h := beq_iff_eq.1 h
  subst h
  cases e : Op.bytesLess x x with
  | false => rfl
  | true => have := less_ant x x e; rw [this] at e; cases e
theorem op_gtr (t : TypeId) (a b : ByteArray) : binOp .gtr t (.string a) (.string b) = pure (.bool (strLt b a)) := by
  have e : (!(Op.bytesLess a.toList b.toList || a.toList == b.toList)) = Op.bytesLess b.toList a.toList := by
    cases h1 : Op.bytesLess a.toList b.toList
    · cases h2 : (a.toList == b.toList)
      · rw [less_tot _ _ h1 h2]; rfl
      · rw [less_eq h2]; rfl
    · rw [less_ant _ _ h1]; rfl
  show Op.stringOp .gtr a b = _
  unfold Op.stringOp strLt
  rw [← e]

theorem less_trans : ∀ x y z : List UInt8, Op.bytesLess x y = true → Op.bytesLess y z = true → Op.bytesLess x z = true
  | _, [], _, h, _ => by simp [Op.bytesLess] at h
  | _, _ :: _, [], _, h => by simp [Op.bytesLess] at h
  | [], _ :: _, _ :: _, _, _ => by simp [Op.bytesLess]
  | a :: x, b :: y, c :: z, h, k => by
    simp only [Op.bytesLess, Bool.or_eq_true, Bool.and_eq_true, decide_eq_true_eq, beq_iff_eq] at h k ⊢
    rcases h with h | ⟨rfl, h⟩
    · rcases k with k | ⟨rfl, k⟩
      · exact .inl (UInt8.lt_trans h k)
      · exact .inl h
    · rcases k with k | ⟨rfl, k⟩
      · exact .inl k
      · exact .inr ⟨rfl, less_trans x y z h k⟩
theorem str_ext {a b : ByteArray} (h : (a.toList == b.toList) = true) : a = b := by
  have h := beq_iff_eq.1 h
  rw [ByteArray.toList_eq, ByteArray.toList_eq] at h
  cases a; cases b
  simp at h; simp [h]
theorem strLt_trans {a b c : ByteArray} (h : strLt a b = true) (k : strLt b c = true) : strLt a c = true := less_trans _ _ _ h k
theorem strLt_irr (a : ByteArray) : strLt a a = false := less_eq (x := a.toList) (y := a.toList) (by simp)
theorem strLt_ant {a b : ByteArray} (h : strLt a b = true) : strLt b a = false := less_ant _ _ h
theorem strLt_tot {a b : ByteArray} (h : strLt a b = false) : strLt b a = true ∨ a = b := by
  cases e : (a.toList == b.toList) with
  | true => exact .inr (str_ext e)
  | false => exact .inl (less_tot _ _ h e)
/-- 'Not behind' goes on. -/
theorem strLe_trans {a b c : ByteArray} (h : strLt b a = false) (k : strLt c b = false) : strLt c a = false := by
  cases e : strLt c a with
  | false => rfl
  | true =>
    rcases strLt_tot k with q | q
    · rw [strLt_trans q e] at h; cases h
    · subst q; rw [e] at h; cases h

end Go.Proofs.YtpackbgmilkaeaaGreatDoor
