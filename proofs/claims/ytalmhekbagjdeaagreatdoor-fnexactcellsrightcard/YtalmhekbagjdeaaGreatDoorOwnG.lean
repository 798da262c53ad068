/-
  Rows that a world owns: their bound, their place; the middle one of three new blocks. Of no program.
-/
import Derived.Test.YtalmhekbagjdeaaGreatDoorRowsG
namespace Go.Proofs.YtalmhekbagjdeaaGreatDoor
set_option linter.unusedVariables false
set_option linter.unusedSimpArgs false
open Go.ChangeShapes Go.WideShapes Go.ChangeAt Go.RowKit Go.PlainAid Go.Lib
set_option maxRecDepth 10000

theorem own_le {w : World} {B B' size n : Nat} {e : TypeId} {v : Value} {xs : List Value} (h : w.ownsRow B e size v n xs) (hb : B' ≤ B) : w.ownsRow B' e size v n xs := by
  refine ⟨h.1, ?_⟩
  rcases h.2 with h | ⟨g, cap, cur, e, h1, h2⟩
  · exact .inl h
  · exact .inr ⟨g, cap, cur, e, Nat.le_trans hb h1, h2⟩

theorem own_lt {w : World} {B g c n : Nat} {T : TypeId} {s : Nat} {xs : List Value} (h : w.ownsRow B T s (.slice (some ⟨g, 0, none⟩) n c) n xs) : B ≤ g ∧ g < w.heap.size := by
  rcases h.2 with ⟨e, _⟩ | ⟨g', c', cur, e, h1, h2, _⟩
  · cases e
  · cases e; exact ⟨h1, (Array.getElem?_eq_some_iff.1 h2).1⟩

theorem mid_row (w : World) (o1 o3 : Obj) (cs : Array Value) (t : TypeId) : (((w.alloc o1).alloc (.cells cs t)).alloc o3).heap[w.heap.size + 1]? = some (.cells cs t (0, 0)) := by
  have h := heap_alloc_new (w.alloc o1) (.cells cs t)
  have hb : Below (w.heap.size + 1 + 1) ((w.alloc o1).alloc (.cells cs t)) (((w.alloc o1).alloc (.cells cs t)).alloc o3) := (Below.refl _ _).alloc (by simp) _
  rw [hb.block (w.heap.size + 1) (by omega)]
  simpa using h
end Go.Proofs.YtalmhekbagjdeaaGreatDoor
