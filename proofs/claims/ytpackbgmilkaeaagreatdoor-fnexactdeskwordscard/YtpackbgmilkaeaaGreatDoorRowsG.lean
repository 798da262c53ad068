/-
  Rows of things of two cells, and what an owned row keeps: of no program.
-/
import Derived.Test.YtpackbgmilkaeaaGreatDoorKeep
import Derived.WalkKit
import Derived.ProofKit
import Derived.OpenShut
import Derived.Below
import Derived.WalkSpells
import Derived.PlainAid
import Derived.Outline
import Derived.WalkSmall
import Derived.OwnWalk
import Derived.BigQuiet
import Derived.Deep.QuietTactic
namespace Go.Proofs.YtpackbgmilkaeaaGreatDoor
set_option linter.unusedVariables false
set_option linter.unusedSimpArgs false
open Go.ChangeShapes Go.WideShapes Go.ChangeAt Go.RowKit Go.PlainAid Go.Lib

/-- Things of two cells each, one behind the other. -/
def fl {α : Type} (e : α → List Value) (xs : List α) : List Value := xs.flatMap e
theorem fl_app {α : Type} (e : α → List Value) (xs ys : List α) : fl e (xs ++ ys) = fl e xs ++ fl e ys := by simp [fl]
theorem fl_one {α : Type} (e : α → List Value) (x : α) : fl e [x] = e x := by simp [fl]
theorem fl_cons {α : Type} (e : α → List Value) (x : α) (xs : List α) : fl e (x :: xs) = e x ++ fl e xs := by simp [fl]
theorem fl_len {α : Type} {e : α → List Value} (he : ∀ x, (e x).length = 2) : ∀ xs : List α, (fl e xs).length = xs.length * 2
  | [] => rfl
  | x :: xs => by rw [fl_cons, List.length_append, he, fl_len he xs, List.length_cons]; omega
theorem fl_at {α : Type} {e : α → List Value} (he : ∀ x, (e x).length = 2) : ∀ (xs : List α) (i : Nat) (x : α) (c : Nat), c < 2 → xs[i]? = some x → (fl e xs)[i * 2 + c]? = (e x)[c]?
  | [], i, x, c, hc, h => by simp at h
  | y :: xs, 0, x, c, hc, h => by
    obtain rfl : y = x := by simpa using h
    rw [fl_cons, List.getElem?_append_left (by rw [he]; omega), Nat.zero_mul, Nat.zero_add]
  | y :: xs, i + 1, x, c, hc, h => by
    rw [fl_cons, List.getElem?_append_right (by rw [he]; omega), he, show (i + 1) * 2 + c - 2 = i * 2 + c by omega]
    exact fl_at he xs i x c hc (by simpa using h)
theorem fl_set {α : Type} {e : α → List Value} (he : ∀ x, (e x).length = 2) {u v : Value} : ∀ (xs : List α) (i : Nat) (y : α), i < xs.length → e y = [u, v] → ((fl e xs).set (i * 2) u).set (i * 2 + 1) v = fl e (xs.set i y)
  | [], i, y, h, _ => by simp at h
  | x :: xs, 0, y, h, hy => by
    have hx := he x
    match hq : e x, hx with
    | [a, b], _ => rw [fl_cons, hq, List.set_cons_zero, fl_cons, hy]; rfl
  | x :: xs, i + 1, y, h, hy => by
    have h' : i < xs.length := by simpa using h
    rw [fl_cons, List.set_cons_succ, fl_cons, ← fl_set he xs i y h' hy]
    rw [List.set_append_right _ _ (by rw [he]; omega), he, List.set_append_right _ _ (by rw [he]; omega), he, show (i + 1) * 2 - 2 = i * 2 by omega, show (i + 1) * 2 + 1 - 2 = i * 2 + 1 by omega]

theorem own_same {B : Nat} {w : World} {v : Value} {T : TypeId} {n n' : Nat} {xs xs' : List Value} (h : w.ownsRow B T 2 v n xs) (e : n = n') (e2 : xs = xs') : w.ownsRow B T 2 v n' xs' := by subst e e2; exact h

/-- A new block's cells. -/
theorem new_cells {W : World} {cs : Array Value} {t : TypeId} {g : Nat} (hg : W.heap.size = g) (j : Nat) (u : Value) (hj : cs.toList[j]? = some u) : (W.alloc (.cells cs t)).cell? ((⟨g, 0, none⟩ : Addr).add j) = some u := by
  subst hg
  have hb : (W.alloc (.cells cs t)).heap[W.heap.size]? = some (.cells cs t (0, 0)) := heap_alloc_new W _
  rw [Addr.add_lit, Nat.zero_add, cell_of_row _ W.heap.size j _ _ (0, 0) hb]
  simpa using hj
theorem own_cap {w : World} {B g c n : Nat} {T : TypeId} {s : Nat} {xs : List Value} (h : w.ownsRow B T s (.slice (some ⟨g, 0, none⟩) n c) n xs) : n ≤ c := by
  rcases h.2 with ⟨e, _⟩ | ⟨g', c', cur, e, _, _, h1, _⟩
  · cases e
  · cases e; exact h1
theorem own_form {w : World} {B n : Nat} {T : TypeId} {s : Nat} {v : Value} {xs : List Value} (h : w.ownsRow B T s v n xs) (hn : 0 < n) : ∃ g c, v = .slice (some ⟨g, 0, none⟩) n c := by
  rcases h.2 with ⟨_, e⟩ | ⟨g, c, _, e, _⟩
  · omega
  · exact ⟨g, c, e⟩
theorem own_capm {w : World} {B g c n : Nat} {T : TypeId} {s : Nat} {xs : List Value} (h : w.ownsRow B T s (.slice (some ⟨g, 0, none⟩) n c) n xs) : c ≤ 9223372036854775807 := by
  rcases h.2 with ⟨e, _⟩ | ⟨g', c', cur, e, _, _, _, h1, _⟩
  · cases e
  · cases e; exact h1
theorem hide {p : Prop} (h : p) : Hid p := h
theorem drews_add (w : World) (a b : Nat) : (w.drewN a).drewN b = w.drewN (a + b) := by simp [World.drewN, Nat.add_assoc]
/-- What was owned stays so, where all old blocks stay. -/
theorem own_past {w w' : World} {B : Nat} {T : TypeId} {s : Nat} {v : Value} {n : Nat} {xs : List Value} (h : w.ownsRow B T s v n xs) (hb : Below w.heap.size w w') : w'.ownsRow B T s v n xs := by
  refine ⟨h.1, ?_⟩
  rcases h.2 with h | ⟨g, cap, cur, e, h1, h2, h3⟩
  · exact .inl h
  · exact .inr ⟨g, cap, cur, e, h1, by rw [hb.block g (Array.getElem?_eq_some_iff.1 h2).1]; exact h2, h3⟩

/-- A value that owns a row is a slice of its length. -/
theorem own_any {w : World} {B n : Nat} {T : TypeId} {s : Nat} {v : Value} {xs : List Value} (h : w.ownsRow B T s v n xs) : ∃ ao c, v = .slice ao n c := by
  rcases h.2 with ⟨e, e2⟩ | ⟨g, c, _, e, _⟩
  · subst e2; exact ⟨_, _, e⟩
  · exact ⟨_, _, e⟩

theorem bel_drews {B : Nat} {a w : World} (h : Below B a w) (n : Nat) : Below B a (w.drewN n) := h.trans ⟨rfl, rfl, rfl, Nat.le_refl _, fun _ _ => rfl⟩
theorem grown_past {w w1 w2 : World} {r : Option Nat} (h : w.grownBy w1 r) (hb : Below w1.heap.size w1 w2) : w.grownBy w2 r :=
  ⟨hb.os.trans h.os, hb.tape.trans h.tape, hb.output.trans h.output, Nat.le_trans h.size hb.size, fun k hk hne => by rw [hb.block k (Nat.lt_of_lt_of_le hk h.size)]; exact h.block k hk hne⟩
theorem grown_one (w : World) (g o : Nat) (u : Value) : w.grownBy (w.setCell ⟨g, o, none⟩ u) (some g) :=
  ⟨rfl, rfl, rfl, by simp [World.setCell], fun k hk hne => Below.heap_setCell _ _ _ _ (fun e => hne (by rw [e]))⟩
end Go.Proofs.YtpackbgmilkaeaaGreatDoor
