/-
  FnExactDeskWords: the walk.
-/
import Derived.Test.YtpackbgmilkaeaaGreatDoorDkB
namespace Go.Proofs.YtpackbgmilkaeaaGreatDoor
set_option linter.unusedVariables false
set_option linter.unusedSimpArgs false
open Go.ChangeShapes Go.WideShapes Go.ChangeAt Go.RowKit Go.PlainAid
set_option maxRecDepth 10000

theorem wordsK_len : wordsK.length = 9 := rfl
theorem ownW {w : World} {B : Nat} {v : Value} (h : OwnT w B v wordsK) : ∃ g c, v = .slice (some ⟨g, 0, none⟩) 9 c ∧ B ≤ g ∧ g < w.heap.size ∧ w.ownsRow B 9 1 (.slice (some ⟨g, 0, none⟩) 9 c) 9 (wordsK.map Value.string) := by
  have h' := h
  rcases h.2 with ⟨e, h1⟩ | ⟨g, cap, cur, e, hb, hg, _⟩
  · rw [wordsK_len] at h1; cases h1
  · rw [wordsK_len] at e
    subst e
    exact ⟨g, cap, rfl, hb, (Array.getElem?_eq_some_iff.1 hg).1, h'⟩
theorem atW {w : World} {B g c : Nat} (h : w.ownsRow B 9 1 (.slice (some ⟨g, 0, none⟩) 9 c) 9 (wordsK.map Value.string)) : StrsAt w (some ⟨g, 0, none⟩) wordsK := OwnT.at (B := B) (n := 9) (c := c) h
theorem eqW {W : World} {ao bo : Option Addr} (c c' : Nat) (h : StrsAt W ao wordsK) (k : StrsAt W bo wordsK) : Calls Tryz.prog 6 #[.slice ao 9 c, .slice bo 9 c'] W fun e w' => e = .returned (.bool true) ∧ Below W.heap.size W w' := c_eqStringS (L := wordsK) c c' (by decide) h k
set_option maxHeartbeats 2000000 in
theorem walkDeskWords (w : World) : Calls Tryz.prog 3 #[] w fun e w' => e = .returned (.bool true) ∧ Below w.heap.size w w' := by
  go_enter Tryz.func3, Tryz.ntmps3
  go_wp2_with fail
  refine (c_s_DeskWords w).mono ?_
  rintro e w1 ⟨v1, rfl, o1, b1⟩
  obtain ⟨g1, c1, rfl, l1, m1, p1⟩ := ownW o1
  have P1 := hide p1
  have B1 := hide b1
  clear o1 p1 b1
  go_wp2_with fail
  refine (c_i_DeskWords w1).mono ?_
  rintro e w2 ⟨v2, rfl, o2, b2⟩
  obtain ⟨g2, c2, rfl, l2, m2, p2⟩ := ownW o2
  have P2 := hide p2
  have Q1 := hide (own_past P1.out b2)
  have B2 := hide (chain B1.out b2)
  clear o2 p2 b2
  go_wp2_with fail
  refine (eqW _ _ (atW P2.out) (atW Q1.out)).mono ?_
  rintro e w3 ⟨rfl, b3⟩
  have P2 := hide (own_past P2.out b3)
  have Q1 := hide (own_past Q1.out b3)
  have B3 := hide (chain B2.out b3)
  clear b3
  go_wp2_with fail
  refine (c_markStrT 1 (by omega) (by omega) wordsK_len (by omega) P2.out).mono ?_
  rintro e w4 ⟨rfl, o4, hg4⟩
  have O4 := hide o4
  have R1 := hide (Q1.out.kept hg4 (.inr (fun e => by injection e with e; simp only at e; omega)))
  have B4 := hide (B3.out.grown hg4 B3.out.size (fun j hj => by cases hj; have := B1.out.size; omega))
  clear o4 hg4
  go_wp2_with fail
  refine (c_heldStrT 1 (by omega) (by omega) (by omega) O4.out).mono ?_
  rintro e w5 ⟨rfl, b5⟩
  have O5 := hide (own_past O4.out b5)
  have R1 := hide (own_past R1.out b5)
  have B5 := hide (chain B4.out b5)
  clear b5
  go_wp2_with fail
  refine (c_i_DeskWords w5).mono ?_
  rintro e w6 ⟨v6, rfl, o6, b6⟩
  obtain ⟨g6, c6, rfl, l6, m6, p6⟩ := ownW o6
  have P6 := hide p6
  have O6 := hide (own_past O5.out b6)
  have R1 := hide (own_past R1.out b6)
  have B6 := hide (chain B5.out b6)
  clear o6 p6 b6
  go_wp2_with fail
  refine (eqW _ _ (atW P6.out) (atW R1.out)).mono ?_
  rintro e w7 ⟨rfl, b7⟩
  have O7 := hide (own_past O6.out b7)
  have B7 := hide (chain B6.out b7)
  clear b7
  go_wp2_with fail
  refine (c_heldStrT 1 (by omega) (by omega) (by omega) O7.out).mono ?_
  rintro e w8 ⟨rfl, b8⟩
  have B8 := hide (chain B7.out b8)
  clear b8
  go_wp2
  go_ret
  exact ⟨rfl, B8.out⟩
end Go.Proofs.YtpackbgmilkaeaaGreatDoor
