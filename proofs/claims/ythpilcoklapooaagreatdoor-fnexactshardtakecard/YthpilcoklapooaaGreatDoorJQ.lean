/-
  Contracts of WeightAdd, of the program and of its model: the sum, up to 2^64-1.
-/
import Derived.Test.YthpilcoklapooaaGreatDoorJA
import Derived.Test.YthpilcoklapooaaGreatDoorJD
import Derived.Shelf.Spec.SlicesInsert
import Derived.Lib.AppendZerosOnto
import Derived.Laws.NewBlocks
import Derived.Deep.Onto
import Derived.Lib.OwnKind
import Derived.Test.YthpilcoklapooaaGreatDoorKG
namespace Go.Proofs.YthpilcoklapooaaGreatDoor
open Go.ChangeShapes Go.WideShapes Go.ChangeAt Go.RowKit

/-- The sum of two weights. -/
def wAdd (a b : Int) : Int := if 18446744073709551615 < a + b then 18446744073709551615 else a + b
end Go.Proofs.YthpilcoklapooaaGreatDoor

/-
  Gathering bins, as the program does: the closures, comparing places, the search.
-/
namespace Go.Proofs.YthpilcoklapooaaGreatDoor
set_option linter.unusedVariables false
set_option linter.unusedSimpArgs false
open Go.ChangeShapes Go.WideShapes Go.ChangeAt Go.RowKit Go.PlainAid Go.Lib
set_option maxRecDepth 10000

abbrev BinCell (w : World) (g : Nat) (a u : Int) : Prop := w.cell? ⟨g, 0, none⟩ = some (.int .i64 a) ∧ w.cell? ⟨g, 1, none⟩ = some (.int .u64 u)
/-- The gathering's block. -/
abbrev fnPl : Value := .func (.func 311) #[] #[]
abbrev fnJo : Value := .func (.func 312) #[] #[]
abbrev GatC (w : World) (g : Nat) : Prop := w.cell? ⟨g, 1, none⟩ = some fnPl ∧ w.cell? ⟨g, 2, none⟩ = some fnJo
/-- -1, 0, 1. -/
def cmpI (a p : Int) : Int := if a < p then -1 else if p < a then 1 else 0
/-- Where a place stands in a list that rises. -/
def PosAt (L : List Bn) (p : Int) (i : Nat) : Prop := i ≤ L.length ∧ (∀ (t : Nat) (x : Bn), L[t]? = some x → t < i → x.1 < p) ∧ (∀ (t : Nat) (x : Bn), L[t]? = some x → i ≤ t → p ≤ x.1)
def Rise (L : List Bn) : Prop := ∀ (i j : Nat) (x y : Bn), L[i]? = some x → L[j]? = some y → i < j → x.1 < y.1

end Go.Proofs.YthpilcoklapooaaGreatDoor

/-
  slices.Insert of one bin into a row of bins that is owned: the library's own text walked.
-/
namespace Go.Proofs.YthpilcoklapooaaGreatDoor
set_option linter.unusedVariables false
set_option linter.unusedSimpArgs false
open Go.ChangeShapes Go.WideShapes Go.ChangeAt Go.RowKit Go.PlainAid Go.Lib
set_option maxRecDepth 10000

/-- The list with one put in. -/
def putAt (L : List Bn) (i : Nat) (x : Bn) : List Bn := L.take i ++ x :: L.drop i
end Go.Proofs.YthpilcoklapooaaGreatDoor

/-
  Gathering bins, the lists of it: of no program.
-/
namespace Go.Proofs.YthpilcoklapooaaGreatDoor
set_option linter.unusedVariables false
set_option linter.unusedSimpArgs false

/-- A bin put among bins that rise. -/
def insB (x : Bn) : List Bn → List Bn
  | [] => [x]
  | y :: r => if y.1 < x.1 then y :: insB x r else if y.1 = x.1 then (y.1, wAdd y.2 x.2) :: r else x :: y :: r

theorem rise_cons {y : Bn} {r : List Bn} : Rise (y :: r) ↔ (∀ x ∈ r, y.1 < x.1) ∧ Rise r := by
  constructor
  · intro h
    refine ⟨fun x hx => ?_, fun i j a b ha hb hij => h (i + 1) (j + 1) a b (by simpa using ha) (by simpa using hb) (by omega)⟩
    obtain ⟨j, hj⟩ := List.getElem?_of_mem hx
    exact h 0 (j + 1) y x rfl (by simpa using hj) (by omega)
  · rintro ⟨h1, h2⟩ i j a b ha hb hij
    cases i with
    | zero =>
      obtain rfl : y = a := by simpa using ha
      cases j with
      | zero => omega
      | succ j => exact h1 b (List.mem_of_getElem? (by simpa using hb))
    | succ i =>
      cases j with
      | zero => omega
      | succ j => exact h2 i j a b (by simpa using ha) (by simpa using hb) (by omega)
theorem rise_nil : Rise [] := fun i j a b ha => by simp at ha
/-- Some bins put one by one. -/
def insAll (L M : List Bn) : List Bn := M.foldl (fun s x => insB x s) L
end Go.Proofs.YthpilcoklapooaaGreatDoor

/-
  Putting a bin among gathered ones.
-/
namespace Go.Proofs.YthpilcoklapooaaGreatDoor
set_option linter.unusedVariables false
set_option linter.unusedSimpArgs false
open Go.ChangeShapes Go.WideShapes Go.ChangeAt Go.RowKit Go.PlainAid Go.Lib
set_option maxRecDepth 10000

/-- A gathering in memory: its block, its list. -/
structure Gat (w : World) (B g : Nat) (v : Value) (n : Nat) (L : List Bn) : Prop where
  blk : w.heap[g]? = some (.cells #[v, fnPl, fnJo] 329 (0, 0))
  own : w.ownsRow B 188 2 v n (fl encB L)
  len : n = L.length
  hB : B ≤ g
theorem Gat.lt {w : World} {B g n : Nat} {v : Value} {L : List Bn} (h : Gat w B g v n L) : g < w.heap.size := (Array.getElem?_eq_some_iff.1 h.blk).1
theorem Gat.ne {w : World} {B g n : Nat} {v : Value} {L : List Bn} (h : Gat w B g v n L) : v.ownBlock ≠ some g := fun e => by
  obtain ⟨c, fz, hc⟩ := ownsRow_kind h.own g e
  rw [h.blk] at hc
  cases hc
theorem Gat.cells {w : World} {B g n : Nat} {v : Value} {L : List Bn} (h : Gat w B g v n L) : w.cell? ⟨g, 0, none⟩ = some v ∧ GatC w g :=
  ⟨by rw [cell_of_row w g 0 _ _ (0, 0) h.blk]; rfl, by rw [cell_of_row w g 1 _ _ (0, 0) h.blk]; rfl, by rw [cell_of_row w g 2 _ _ (0, 0) h.blk]; rfl⟩
theorem Gat.frozen {w : World} {B g n : Nat} {v : Value} {L : List Bn} (h : Gat w B g v n L) (j : Nat) : w.frozen? ⟨g, j, none⟩ = false := frozen_of_row w g j _ _ h.blk
theorem Gat.past {w w' : World} {B g n : Nat} {v : Value} {L : List Bn} (h : Gat w B g v n L) (hb : Below w.heap.size w w') : Gat w' B g v n L :=
  ⟨by rw [hb.block g h.lt]; exact h.blk, own_past h.own hb, h.len, h.hB⟩

end Go.Proofs.YthpilcoklapooaaGreatDoor
