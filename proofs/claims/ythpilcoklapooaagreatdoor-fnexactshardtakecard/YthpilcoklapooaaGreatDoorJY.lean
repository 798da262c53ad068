/-
  Two Aggs brought together: what they come to; the parts of the program.
-/
import Derived.Test.YthpilcoklapooaaGreatDoorJE
import Derived.Test.YthpilcoklapooaaGreatDoorJO
import Derived.Test.YthpilcoklapooaaGreatDoorJV
import Derived.Test.YthpilcoklapooaaGreatDoorJQ
import Derived.Test.YthpilcoklapooaaGreatDoorJA
import Derived.Test.YthpilcoklapooaaGreatDoorJX
import Derived.Deep.RegionHeld3
namespace Go.Proofs.YthpilcoklapooaaGreatDoor
set_option linter.unusedVariables false
set_option linter.unusedSimpArgs false
open Go.ChangeShapes Go.WideShapes Go.ChangeAt Go.RowKit Go.PlainAid Go.Lib
set_option maxRecDepth 10000

/-- Does the second of two gauges count? -/
def gLate (a t a' t' : Int) : Bool := decide (t < t') || ((t' == t) && decide (a < a'))
def gA (a t a' t' : Int) : Int := if gLate a t a' t' = true then a' else a
def gT (a t a' t' : Int) : Int := if gLate a t a' t' = true then t' else t
/-- An Agg that owns its lists. -/
structure AgO (w : World) (B : Nat) (o : Ag) (p : Pl) : Prop where
  P : OwnB w B (.slice p.pa o.P.length p.pc) o.P.length o.P
  N : OwnB w B (.slice p.na o.N.length p.nc) o.N.length o.N
  ap : Apart (.slice p.pa o.P.length p.pc) (.slice p.na o.N.length p.nc)
  E : OwnN .u64 23 w B (.slice p.ea o.E.length p.ec) o.E.length o.E
  R : OwnN .i64 2 w B (.slice p.ra o.R.length p.rc) o.R.length o.R
def AgOut (w : World) (B : Nat) (v : Value) (o : Ag) : Prop := ∃ p, v = .agg (agArr o p) ∧ AgO w B o p
def agZero : Ag := ⟨0, 0, 0, 0, 0, 0, 0, [], [], 0, 0, [], []⟩
/-- Two right ones of one kind, field by field. -/
def agMg (g g' : Ag) (E R : List Int) : Ag := ⟨g.k, wAdd g.s g'.s, addH g.h g.l g'.h g'.l, addL g.l g'.l, if g.k = 2 then gA g.a g.t g'.a g'.t else 0, if g.k = 2 then gT g.a g.t g'.a g'.t else 0, wAdd g.z g'.z, keepL (mrg g.P g'.P), keepL (mrg g.N g'.N), addH g.x g.y g'.x g'.y, addL g.y g'.y, E, R⟩
/-- What two Aggs come to. -/
def AgMrg (g g' o : Ag) : Prop := if agB g = true ∧ agB g' = true ∧ g.k = g'.k then ∃ E R, Mg g.E g.R g'.E g'.R E R ∧ o = agMg g g' E R else o = agZero
theorem AgMrg.one {g g' o o' : Ag} (h : AgMrg g g' o) (k : AgMrg g g' o') : o = o' := by
  unfold AgMrg at h k
  split at h
  · rw [if_pos (by assumption)] at k
    obtain ⟨E, R, m, rfl⟩ := h
    obtain ⟨E', R', m', rfl⟩ := k
    obtain ⟨rfl, rfl⟩ := m.one m'
    rfl
  · rw [if_neg (by assumption)] at k
    exact h.trans k.symm
/-- What is nought in a right one. -/
structure AgNo (g : Ag) : Prop where
  k1 : 1 ≤ g.k
  k4 : g.k ≤ 4
  sk : skB g.P g.N = true
  hl : hlB g.E g.R = true
  nc : g.k ≠ 1 → g.h = 0 ∧ g.l = 0
  ng : g.k ≠ 2 → g.a = 0 ∧ g.t = 0
  nh : g.k ≠ 3 → g.z = 0 ∧ g.x = 0 ∧ g.y = 0 ∧ g.P = [] ∧ g.N = []
  ns : g.k ≠ 4 → g.E = [] ∧ g.R = []
/-- The cells of a block. -/
theorem cellK {w : World} {r : Nat} {cs : Array Value} {T : TypeId} (h : w.heap[r]? = some (.cells cs T (0, 0))) (j : Nat) {v : Value} (e : cs[j]? = some v) : w.cell? ⟨r, j, none⟩ = some v := by rw [cell_of_row _ _ j _ _ (0, 0) h]; exact e
end Go.Proofs.YthpilcoklapooaaGreatDoor

/-
  AggMerge of the program.
-/
namespace Go.Proofs.YthpilcoklapooaaGreatDoor
set_option linter.unusedVariables false
set_option linter.unusedSimpArgs false
open Go.ChangeShapes Go.WideShapes Go.ChangeAt Go.RowKit Go.PlainAid Go.Lib
set_option maxRecDepth 10000

abbrev pl0 : Pl := ⟨none, 0, none, 0, none, 0, none, 0⟩
abbrev zeroAg : Array Value := agArr agZero pl0
theorem OwnB.below {w : World} {B n r j : Nat} {v : Value} {L : List Bn} (h : OwnB w B v n L) (hr : r < B) (u : Value) : OwnB (w.setCell ⟨r, j, none⟩ u) B v n L := h.set (fun e => by have := (h.lt r e).1; omega) u
theorem OwnN.below {kd : IntKind} {T : TypeId} {w : World} {B n r j : Nat} {v : Value} {L : List Int} (h : OwnN kd T w B v n L) (hr : r < B) (u : Value) : OwnN kd T (w.setCell ⟨r, j, none⟩ u) B v n L := ⟨h.1, ownsRow_setCell_below h.2 (by simpa using hr) u⟩
theorem AgO.below {w : World} {B r j : Nat} {o : Ag} {p : Pl} (h : AgO w B o p) (hr : r < B) (u : Value) : AgO (w.setCell ⟨r, j, none⟩ u) B o p := ⟨h.P.below hr u, h.N.below hr u, h.ap, h.E.below hr u, h.R.below hr u⟩
theorem AgO.le {w : World} {B B' : Nat} {o : Ag} {p : Pl} (h : AgO w B o p) (hb : B' ≤ B) : AgO w B' o p := ⟨h.P.le hb, h.N.le hb, h.ap, h.E.le hb, h.R.le hb⟩
theorem AgO.past {w w' : World} {B : Nat} {o : Ag} {p : Pl} (h : AgO w B o p) (hb : Below w.heap.size w w') : AgO w' B o p := ⟨h.P.past hb, h.N.past hb, h.ap, h.E.past hb, h.R.past hb⟩
theorem AgO.nil (w : World) (B : Nat) {o : Ag} (hP : o.P = []) (hN : o.N = []) (hE : o.E = []) (hR : o.R = []) : AgO w B o pl0 := by
  obtain ⟨k, s, h, l, a, t, z, P, N, x, y, E, R⟩ := o
  simp only at hP hN hE hR
  subst hP hN hE hR
  exact ⟨⟨rfl, .inl ⟨rfl, rfl⟩⟩, ⟨rfl, .inl ⟨rfl, rfl⟩⟩, (fun k e => by cases e), ⟨rfl, World.ownsRow_nil _ _ _ _⟩, ⟨rfl, World.ownsRow_nil _ _ _ _⟩⟩
theorem AgO.at {w : World} {B : Nat} {o : Ag} {p : Pl} (h : AgO w B o p) : AgAt w o p := ⟨h.P.at, h.N.at, h.E.at, h.R.at⟩
/-- What is handed back. -/
def AgRes (w : World) (Q : Ag → Prop) (e : Ending) (w' : World) : Prop := ∃ v o, e = .returned v ∧ Q o ∧ AgOut w' w.heap.size v o ∧ Below w.heap.size w w'
theorem AgRes.mk {w w' : World} {Q : Ag → Prop} {o : Ag} {p : Pl} (q : Q o) (h : AgO w' w.heap.size o p) (b : Below w.heap.size w w') : AgRes w Q (.returned (.agg (agArr o p))) w' := ⟨_, o, rfl, q, ⟨p, rfl, h⟩, b⟩
end Go.Proofs.YthpilcoklapooaaGreatDoor
