/-
  Rows of texts: a part of other texts, for the desk's words.
-/
import Derived.Test.YtpackbgmilkaeaaGreatDoorSerM
import Derived.Test.YtpackbgmilkaeaaGreatDoorStrsC
import Derived.Test.YtpackbgmilkaeaaGreatDoorMtxC
import Derived.Test.YtpackbgmilkaeaaGreatDoorKeepK

namespace Go.Proofs.YtpackbgmilkaeaaGreatDoor
set_option linter.unusedVariables false
set_option linter.unusedSimpArgs false
section
open Go.ChangeShapes Go.WideShapes Go.ChangeAt Go.RowKit Go.PlainAid
set_option maxRecDepth 10000
def OwnT (w : World) (B : Nat) (v : Value) (L : List ByteArray) : Prop := w.ownsRow B 9 1 v L.length (L.map Value.string)
theorem OwnT.past {w w' : World} {B : Nat} {v : Value} {L : List ByteArray} (h : OwnT w B v L) (hb : Below w.heap.size w w') : OwnT w' B v L := own_past h hb
theorem OwnT.at {w : World} {B n c : Nat} {ao : Option Addr} {L : List ByteArray} (h : OwnT w B (.slice ao n c) L) : StrsAt w ao L := fun h0 => by
  rcases h.2 with ⟨e, h1⟩ | ⟨g, cap, cur, e, _⟩
  · omega
  · cases e
    exact strs_owned h h0
theorem OwnT.cap {w : World} {B n c : Nat} {ao : Option Addr} {L : List ByteArray} (h : OwnT w B (.slice ao n c) L) : n = L.length ∧ n ≤ c ∧ c ≤ maxLen ∧ (ao = none → c = 0) := by
  rcases h.2 with ⟨e, h1⟩ | ⟨g, cap, cur, e, _, _, h2, h3, _⟩
  · cases e; exact ⟨h1.symm, Nat.le_refl _, Nat.zero_le _, fun _ => rfl⟩
  · cases e; exact ⟨rfl, h2, h3, fun e => by cases e⟩
end
section
open Go.ChangeShapes Go.WideShapes Go.ChangeAt Go.RowKit Go.PlainAid
set_option maxRecDepth 10000
theorem own_le' {w : World} {B B' size n : Nat} {e : TypeId} {v : Value} {xs : List Value} (h : w.ownsRow B e size v n xs) (hb : B' ≤ B) : w.ownsRow B' e size v n xs := by
  refine ⟨h.1, ?_⟩
  rcases h.2 with h2 | ⟨g, cap, cur, e1, e2, e3⟩
  · exact .inl h2
  · exact .inr ⟨g, cap, cur, e1, Nat.le_trans hb e2, e3⟩
end
end Go.Proofs.YtpackbgmilkaeaaGreatDoor
