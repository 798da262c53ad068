/-
  What a region whose order is open keeps of memory: all blocks below a bound read as in a world that is known. Of no program.
-/
import Derived.Test.YtpackbgmilkaeaaGreatDoorMath
import Derived.Carry
import Derived.Deep.RegionHeld3
namespace Go.Proofs.YtpackbgmilkaeaaGreatDoor
open Go.RowKit

theorem bcell {W w1 : World} {K : Nat} (hb : Below K W w1) : (∀ b o, b < K → w1.cell? ⟨b, o, none⟩ = W.cell? ⟨b, o, none⟩) ∧ (∀ b o, b < K → w1.frozen? ⟨b, o, none⟩ = W.frozen? ⟨b, o, none⟩) :=
  ⟨fun b o h => hb.cell (p := ⟨b, o, none⟩) h, fun b o h => hb.frozen (p := ⟨b, o, none⟩) h⟩

theorem lt_later {W w1 : World} {K : Nat} (hb : Below K W w1) : ∀ n, n < W.heap.size → n < w1.heap.size := fun _ h => Nat.lt_of_lt_of_le h hb.size

/-- A cell that is there stays, whatever new block is laid. -/
theorem cell_on {w : World} {a : Addr} {v : Value} (h : w.cell? a = some v) : ∀ o, (w.alloc o).cell? a = some v := fun o => by rw [World.cell?_alloc_some w a o (by rw [h]; rfl)]; exact h
/-- .. behind a call. -/
theorem cell_past {W w1 : World} {a : Addr} {v : Value} (hb : Below W.heap.size W w1) (h : W.cell? a = some v) : w1.cell? a = some v := by
  rw [hb.cell (World.block_lt_of_cell? W a h)]; exact h

theorem frozen_past {W w1 : World} {a : Addr} {v : Value} (hb : Below W.heap.size W w1) (h : W.cell? a = some v) : w1.frozen? a = W.frozen? a := hb.frozen (World.block_lt_of_cell? W a h)

/-- Two calls in a row. -/
theorem chain {P w1 w2 : World} (hT : Below P.heap.size P w1) (hb : Below w1.heap.size w1 w2) : Below P.heap.size P w2 := hT.trans (hb.mono hT.size)

/-- All that lay below K in W lies there still. -/
theorem held {K : Nat} {W w1 : World} (h : Below K W w1) (hk : K ≤ W.heap.size) : Below K W w1 ∧ K ≤ w1.heap.size ∧ (∀ b o, b < K → w1.cell? ⟨b, o, none⟩ = W.cell? ⟨b, o, none⟩) ∧ (∀ b o, b < K → w1.frozen? ⟨b, o, none⟩ = W.frozen? ⟨b, o, none⟩) :=
  ⟨h, Nat.le_trans hk h.size, (bcell h).1, (bcell h).2⟩

theorem held_call {K : Nat} {W w1 w2 : World} (hb : Below w1.heap.size w1 w2) (h : Below K W w1 ∧ K ≤ w1.heap.size ∧ (∀ b o, b < K → w1.cell? ⟨b, o, none⟩ = W.cell? ⟨b, o, none⟩) ∧ (∀ b o, b < K → w1.frozen? ⟨b, o, none⟩ = W.frozen? ⟨b, o, none⟩)) :
    Below K W w2 ∧ K ≤ w2.heap.size := ⟨h.1.trans (hb.mono h.2.1), Nat.le_trans h.2.1 hb.size⟩

/-- What a region keeps: all blocks of W below K. -/
abbrev Kept (K : Nat) (W w1 : World) : Prop := Below K W w1 ∧ K ≤ w1.heap.size ∧ (∀ b o, b < K → w1.cell? ⟨b, o, none⟩ = W.cell? ⟨b, o, none⟩) ∧ (∀ b o, b < K → w1.frozen? ⟨b, o, none⟩ = W.frozen? ⟨b, o, none⟩)

/-- In a region whose order is open: an operation that no other one disturbs is taken first; its slot is d. -/
theorem take_at {P : Program} {md : Region.Mode} {ops : Array Oper} {Q : Exit → Act → World → Prop} {i d : Nat} {oi : Oper} {v : Value} {fuel : Nat} {listed : Array Bool} {t : Array Value} {df : List Deferred} {w : World}
    (hi : ops[i]? = some oi) (hd : oi.dst = some d) (hs : Region.noSelect ops = true) (hf : Region.free md ops listed i = true) (hr : (Region.ready md ops listed).contains i = true)
    (hQ : ∀ c a w, Q (.panic c) (a.put oi.dst v) w → Q (.panic c) a w) (hy : YieldsIf P ops (fun _ => True) oi v ⟨t, df⟩)
    (h : wpAnyH P md ops Q (fun _ => True) fuel (listed.setIfInBounds i true) ⟨t.setIfInBounds d v, df⟩ w) : wpAnyH P md ops Q (fun _ => True) (fuel + 1) listed ⟨t, df⟩ w := by
  refine wpAnyH_take hi hs hf hr hQ hy trivial ?_
  rw [hd]; exact h
end Go.Proofs.YtpackbgmilkaeaaGreatDoor
