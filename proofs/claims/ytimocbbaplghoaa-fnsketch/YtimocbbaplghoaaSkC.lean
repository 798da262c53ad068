/-
  A sketch copied and compared, as the exact laws do.
-/
import Derived.Test.YtimocbbaplghoaaBinsC
import Derived.Test.YtimocbbaplghoaaWide
namespace Go.Proofs.Ytimocbbaplghoaa
set_option linter.unusedVariables false
set_option linter.unusedSimpArgs false
open Go.ChangeShapes Go.WideShapes Go.ChangeAt Go.RowKit Go.PlainAid Go.Lib
set_option maxRecDepth 10000

theorem own_le {w : World} {B B' size n : Nat} {e : TypeId} {v : Value} {xs : List Value} (h : w.ownsRow B e size v n xs) (hb : B' ≤ B) : w.ownsRow B' e size v n xs := by
  refine ⟨h.1, ?_⟩
  rcases h.2 with h | ⟨g, cap, cur, e, h1, h2⟩
  · exact .inl h
  · exact .inr ⟨g, cap, cur, e, Nat.le_trans hb h1, h2⟩

theorem own_lt {w : World} {B g c n : Nat} {T : TypeId} {s : Nat} {xs : List Value} (h : w.ownsRow B T s (.slice (some ⟨g, 0, none⟩) n c) n xs) : B ≤ g ∧ g < w.heap.size := by
  rcases h.2 with ⟨e, _⟩ | ⟨g', c', cur, e, h1, h2, _⟩
  · cases e
  · cases e; exact ⟨h1, (Array.getElem?_eq_some_iff.1 h2).1⟩

theorem mid_row (w : World) (o1 o3 : Obj) (cs : Array Value) (t : TypeId) : (((w.alloc o1).alloc (.cells cs t)).alloc o3).heap[w.heap.size + 1]? = some (.cells cs t (0, 0)) := by
  have h := heap_alloc_new (w.alloc o1) (.cells cs t)
  have hb : Below (w.heap.size + 1 + 1) ((w.alloc o1).alloc (.cells cs t)) (((w.alloc o1).alloc (.cells cs t)).alloc o3) := (Below.refl _ _).alloc (by simp) _
  rw [hb.block (w.heap.size + 1) (by omega)]
  simpa using h

/-- A sketch's five cells in a block of its own. -/
abbrev SkCell (w : World) (g : Nat) (z : Int) (p n : Value) (h l : Int) : Prop := w.cell? ⟨g, 0, none⟩ = some (.int .u64 z) ∧ w.cell? ⟨g, 1, none⟩ = some p ∧ w.cell? ⟨g, 2, none⟩ = some n ∧ w.cell? ⟨g, 3, none⟩ = some (.int .i64 h) ∧ w.cell? ⟨g, 4, none⟩ = some (.int .u64 l)
theorem sk_past {w w' : World} {g : Nat} {z h l : Int} {p n : Value} (k : SkCell w g z p n h l) (hb : Below w.heap.size w w') : SkCell w' g z p n h l :=
  ⟨cell_past hb k.1, cell_past hb k.2.1, cell_past hb k.2.2.1, cell_past hb k.2.2.2.1, cell_past hb k.2.2.2.2⟩
theorem sk_new (w : World) (t : TypeId) (z h l : Int) (p n : Value) : SkCell (w.alloc (.cells #[.int .u64 z, p, n, .int .i64 h, .int .u64 l] t)) w.heap.size z p n h l := by
  have hb := heap_alloc_new w (.cells #[.int .u64 z, p, n, .int .i64 h, .int .u64 l] t)
  exact ⟨by rw [cell_of_row _ w.heap.size 0 _ _ (0, 0) hb]; rfl, by rw [cell_of_row _ w.heap.size 1 _ _ (0, 0) hb]; rfl, by rw [cell_of_row _ w.heap.size 2 _ _ (0, 0) hb]; rfl, by rw [cell_of_row _ w.heap.size 3 _ _ (0, 0) hb]; rfl, by rw [cell_of_row _ w.heap.size 4 _ _ (0, 0) hb]; rfl⟩


end Go.Proofs.Ytimocbbaplghoaa
