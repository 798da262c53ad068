/-
  AggMerge of the program.
-/
import Derived.Test.YteencdjpfkkpnaaGreatDoorJY
namespace Go.Proofs.YteencdjpfkkpnaaGreatDoor
set_option linter.unusedVariables false
set_option linter.unusedSimpArgs false
open Go.ChangeShapes Go.WideShapes Go.ChangeAt Go.RowKit Go.PlainAid Go.Lib
set_option maxRecDepth 10000

abbrev pl0 : Pl := ⟨none, 0, none, 0, none, 0, none, 0⟩
abbrev zeroAg : Array Value := agArr agZero pl0
theorem OwnB.below {w : World} {B n r j : Nat} {v : Value} {L : List Bn} (h : OwnB w B v n L) (hr : r < B) (u : Value) : OwnB (w.setCell ⟨r, j, none⟩ u) B v n L := h.set (fun e => by have := (h.lt r e).1; omega) u
theorem OwnN.below {kd : IntKind} {T : TypeId} {w : World} {B n r j : Nat} {v : Value} {L : List Int} (h : OwnN kd T w B v n L) (hr : r < B) (u : Value) : OwnN kd T (w.setCell ⟨r, j, none⟩ u) B v n L := ⟨h.1, ownsRow_setCell_below h.2 (by simpa using hr) u⟩
theorem AgO.below {w : World} {B r j : Nat} {o : Ag} {p : Pl} (h : AgO w B o p) (hr : r < B) (u : Value) : AgO (w.setCell ⟨r, j, none⟩ u) B o p := ⟨h.P.below hr u, h.N.below hr u, h.ap, h.E.below hr u, h.R.below hr u⟩
theorem AgO.le {w : World} {B B' : Nat} {o : Ag} {p : Pl} (h : AgO w B o p) (hb : B' ≤ B) : AgO w B' o p := ⟨h.P.le hb, h.N.le hb, h.ap, h.E.le hb, h.R.le hb⟩
theorem AgO.past {w w' : World} {B : Nat} {o : Ag} {p : Pl} (h : AgO w B o p) (hb : Below w.heap.size w w') : AgO w' B o p := ⟨h.P.past hb, h.N.past hb, h.ap, h.E.past hb, h.R.past hb⟩
theorem AgO.nil (w : World) (B : Nat) {o : Ag} (hP : o.P = []) (hN : o.N = []) (hE : o.E = []) (hR : o.R = []) : AgO w B o pl0 := by
  obtain ⟨k, s, h, l, a, t, z, P, N, x, y, E, R⟩ := o
  simp only at hP hN hE hR
  subst hP hN hE hR
  exact ⟨⟨rfl, .inl ⟨rfl, rfl⟩⟩, ⟨rfl, .inl ⟨rfl, rfl⟩⟩, (fun k e => by cases e), ⟨rfl, World.ownsRow_nil _ _ _ _⟩, ⟨rfl, World.ownsRow_nil _ _ _ _⟩⟩
theorem AgO.at {w : World} {B : Nat} {o : Ag} {p : Pl} (h : AgO w B o p) : AgAt w o p := ⟨h.P.at, h.N.at, h.E.at, h.R.at⟩
/-- What is handed back. -/
def AgRes (w : World) (Q : Ag → Prop) (e : Ending) (w' : World) : Prop := ∃ v o, e = .returned v ∧ Q o ∧ AgOut w' w.heap.size v o ∧ Below w.heap.size w w'
theorem AgRes.mk {w w' : World} {Q : Ag → Prop} {o : Ag} {p : Pl} (q : Q o) (h : AgO w' w.heap.size o p) (b : Below w.heap.size w w') : AgRes w Q (.returned (.agg (agArr o p))) w' := ⟨_, o, rfl, q, ⟨p, rfl, h⟩, b⟩
end Go.Proofs.YteencdjpfkkpnaaGreatDoor
