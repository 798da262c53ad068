/-
  Worlds where nothing has turned but two blocks.
-/
import Derived.Test.YtljhjcmodaaaoaaRowsG
namespace Go.Proofs.Ytljhjcmodaaaoaa
set_option linter.unusedVariables false
set_option linter.unusedSimpArgs false
open Go.RowKit
set_option maxRecDepth 10000

/-- Nothing has turned but two blocks. -/
structure Grown2 (w w' : World) (r s : Option Nat) : Prop where
  os : w'.os = w.os
  tape : w'.tape = w.tape
  output : w'.output = w.output
  size : w.heap.size ≤ w'.heap.size
  block : ∀ k, k < w.heap.size → some k ≠ r → some k ≠ s → w'.heap[k]? = w.heap[k]?
theorem Grown2.below {w0 w w' : World} {B : Nat} {r s : Option Nat} (h : Below B w0 w) (hB : B ≤ w.heap.size) (hg : Grown2 w w' r s) (h1 : ∀ k, r = some k → B ≤ k) (h2 : ∀ k, s = some k → B ≤ k) : Below B w0 w' :=
  ⟨hg.os.trans h.os, hg.tape.trans h.tape, hg.output.trans h.output, Nat.le_trans h.size hg.size, fun k hk => by
    rw [hg.block k (by omega) (fun e => by have := h1 k e.symm; omega) (fun e => by have := h2 k e.symm; omega)]; exact h.block k hk⟩
theorem Grown2.row {w w' : World} {r s : Option Nat} {g : Nat} {o : Obj} (hg : Grown2 w w' r s) (h : w.heap[g]? = some o) (h1 : r ≠ some g) (h2 : s ≠ some g) : w'.heap[g]? = some o := by
  rw [hg.block g (Array.getElem?_eq_some_iff.1 h).1 (fun e => h1 e.symm) (fun e => h2 e.symm)]; exact h
end Go.Proofs.Ytljhjcmodaaaoaa
