/-
  A local variable that holds a Top, with what came of each key; and the twelve keys of the law.
-/
import Derived.Test.YtmhojmgemiphkaaDrawP
namespace Go.Proofs.Ytmhojmgemiphkaa
set_option linter.unusedVariables false
set_option linter.unusedSimpArgs false
open Go.ChangeShapes Go.WideShapes Go.ChangeAt Go.RowKit Go.PlainAid

structure TpL (W : World) (r : Nat) (p : Value) (L : List Hv) (D T : Int) (f : ByteArray → Int) : Prop where
  row : W.heap[r]? = some (.cells #[p, .int .i64 D, .int .i64 T] 28 (0, 0))
  own : OwnH W 0 p L
  ti : TI L D T f
section
variable {W : World} {r : Nat} {p : Value} {L : List Hv} {D T : Int} {f : ByteArray → Int}
theorem TI.ok (h : TI L D T f) : (∀ x ∈ L, HvOk x) ∧ L.length ≤ 5 ∧ I64 D ∧ I64 T ∧ 0 ≤ D := by
  obtain ⟨h1, h0, h6, h2, h3, h4, h5⟩ := topB_iff.1 h.top
  have hs := sumH_nn (fun x hx => (h4 x hx).2.1)
  refine ⟨fun x hx => ?_, h1, by unfold I64; omega, by unfold I64; omega, h0⟩
  have gx := h4 x hx
  have gk := gx.1
  unfold keyB at gk
  simp only [Bool.and_eq_true, decide_eq_true_eq] at gk
  exact ⟨by omega, by unfold I64; omega⟩
theorem TpL.past (k : TpL W r p L D T f) {W' : World} (hb : Below W.heap.size W W') : TpL W' r p L D T f :=
  ⟨by rw [hb.block _ (Array.getElem?_eq_some_iff.1 k.row).1]; exact k.row, k.own.past hb, k.ti⟩
theorem TpL.drew (k : TpL W r p L D T f) : TpL W.drew r p L D T f := ⟨k.row, k.own.drew, k.ti⟩
theorem TpL.set (k : TpL W r p L D T f) {g j : Nat} {cs : Array Value} {t : TypeId} (hg : W.heap[g]? = some (.cells cs t (0, 0))) (ht : t ≠ 52) (hgr : g ≠ r) (u : Value) : TpL (W.setCell ⟨g, j, none⟩ u) r p L D T f :=
  ⟨by rw [Below.heap_setCell _ _ _ _ (by simpa using fun e => hgr e.symm)]; exact k.row, k.own.set (k.own.ne hg ht) u, k.ti⟩
theorem TpL.put (k : TpL W r p L D T f) {w1 : World} (hb : Below W.heap.size W w1) {p' : Value} {L' : List Hv} {D' T' : Int} {f' : ByteArray → Int} {B : Nat} (o : OwnH w1 B p' L') (h : TI L' D' T' f') : TpL (tp3 w1 r p' D' T') r p' L' D' T' f' := by
  have k1 := k.past hb
  have q1 := o.ne k1.row (by decide)
  exact ⟨row3 k1.row, (((o.le (Nat.zero_le _)).set q1 _).set q1 _).set q1 _, h⟩
theorem TpL.put2 (k : TpL W r p L D T f) {w1 : World} (hb : Below W.heap.size W w1) {g : Nat} {cs : Array Value} (hg : w1.heap[g]? = some (.cells cs 28 (0, 0))) (hgr : g ≠ r) (p' : Value) (D' T' : Int) (h3 : cs.size = 3) : TpL (tp3 w1 g p' D' T') r p L D T f := by
  have k1 := k.past hb
  have q1 := k1.own.ne hg (by decide)
  refine ⟨?_, ((k1.own.set q1 _).set q1 _).set q1 _, k.ti⟩
  have e : ∀ (w : World) (j : Nat) (u : Value), (w.setCell ⟨g, j, none⟩ u).heap[r]? = w.heap[r]? := fun w j u => Below.heap_setCell _ _ _ _ (by simpa using fun e => hgr e.symm)
  unfold tp3
  rw [e, e, e]; exact k1.row
end
/-- The numbers of the twelve keys. -/
structure FL (W : World) (g : Nat) (F : Nat → Int) : Prop where
  row : ∃ cs, W.heap[g]? = some (.cells cs 2 (0, 0)) ∧ cs.size = 12 ∧ ∀ k, k < 12 → cs[k]? = some (.int .i64 (F k))
theorem FL.past {W W' : World} {g : Nat} {F : Nat → Int} (k : FL W g F) (hb : Below W.heap.size W W') : FL W' g F := by
  obtain ⟨cs, h1, h2, h3⟩ := k.row
  exact ⟨cs, by rw [hb.block _ (Array.getElem?_eq_some_iff.1 h1).1]; exact h1, h2, h3⟩
theorem FL.drew {W : World} {g : Nat} {F : Nat → Int} (k : FL W g F) : FL W.drew g F := ⟨k.row⟩
theorem FL.cell {W : World} {g : Nat} {F : Nat → Int} (k : FL W g F) {i : Nat} (hi : i < 12) : W.cell? ⟨g, i, none⟩ = some (.int .i64 (F i)) ∧ W.frozen? ⟨g, i, none⟩ = false := by
  obtain ⟨cs, h1, h2, h3⟩ := k.row
  exact ⟨by rw [cell_of_row W g i _ _ (0, 0) h1]; exact h3 i hi, frozen_of_row W g i _ _ h1⟩
theorem FL.set {W : World} {g : Nat} {F : Nat → Int} (k : FL W g F) {i : Nat} (hi : i < 12) (x : Int) : FL (W.setCell ⟨g, i, none⟩ (.int .i64 x)) g (fun j => if j = i then x else F j) := by
  obtain ⟨cs, h1, h2, h3⟩ := k.row
  refine ⟨_, heap_setCell_same W g i _ _ _ h1, by simpa using h2, fun j hj => ?_⟩
  rw [Array.getElem?_setIfInBounds]
  by_cases e : i = j
  · subst e; rw [if_pos rfl, if_pos (by omega)]; simp
  · rw [if_neg e, h3 j hj]; simp [Ne.symm e]
theorem FL.other {W : World} {g : Nat} {F : Nat → Int} (k : FL W g F) {a : Addr} (ha : a.block ≠ g) (u : Value) : FL (W.setCell a u) g F := by
  obtain ⟨cs, h1, h2, h3⟩ := k.row
  exact ⟨cs, by rw [Below.heap_setCell _ _ _ _ (fun e => ha e.symm)]; exact h1, h2, h3⟩
theorem FL.tp3 {W : World} {g r : Nat} {F : Nat → Int} (k : FL W g F) (ha : r ≠ g) (p : Value) (D T : Int) : FL (tp3 W r p D T) g F := by
  unfold Go.Proofs.Ytmhojmgemiphkaa.tp3
  exact ((k.other (a := ⟨r, 0, none⟩) ha _).other (a := ⟨r, 1, none⟩) ha _).other (a := ⟨r, 2, none⟩) ha _
/-- The key of a number. -/
def keyOf (k : Int) : ByteArray := strOfNums [107, 97 + k]
theorem keyOf_size (k : Int) : (keyOf k).size = 2 := rfl
theorem keyOf_key (k : Int) : keyB (keyOf k) = true := by unfold keyB; rw [keyOf_size]; decide
theorem keyOf_inj {j k : Int} (h0 : 0 ≤ j) (h1 : j < 12) (k0 : 0 ≤ k) (k1 : k < 12) : keyOf j = keyOf k ↔ j = k := by
  refine ⟨fun h => ?_, fun h => by rw [h]⟩
  have hj : j = 0 ∨ j = 1 ∨ j = 2 ∨ j = 3 ∨ j = 4 ∨ j = 5 ∨ j = 6 ∨ j = 7 ∨ j = 8 ∨ j = 9 ∨ j = 10 ∨ j = 11 := by omega
  have hk : k = 0 ∨ k = 1 ∨ k = 2 ∨ k = 3 ∨ k = 4 ∨ k = 5 ∨ k = 6 ∨ k = 7 ∨ k = 8 ∨ k = 9 ∨ k = 10 ∨ k = 11 := by omega
  rcases hj with rfl | rfl | rfl | rfl | rfl | rfl | rfl | rfl | rfl | rfl | rfl | rfl <;> rcases hk with rfl | rfl | rfl | rfl | rfl | rfl | rfl | rfl | rfl | rfl | rfl | rfl <;> first | rfl | (exfalso; revert h; decide)
end Go.Proofs.Ytmhojmgemiphkaa
