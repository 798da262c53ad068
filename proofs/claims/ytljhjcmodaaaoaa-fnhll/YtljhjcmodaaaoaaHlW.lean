/-
  Hashes laid in registers: what is laid, whatever the order; layHashes of the program.
-/
import Derived.Test.YtljhjcmodaaaoaaHlV
import Derived.Maps.RangeWalk
namespace Go.Proofs.Ytljhjcmodaaaoaa
set_option linter.unusedVariables false
set_option linter.unusedSimpArgs false
open Go.ChangeShapes Go.WideShapes Go.ChangeAt Go.RowKit Go.PlainAid Go.Maps
set_option maxRecDepth 10000

/-- The register of a hash. -/
def reg (x : Int) : Nat := (x / 288230376151711744).toNat
theorem reg_lt {x : Int} (h : U64 x) : reg x < 64 := by unfold U64 at h; unfold reg; omega
/-- A hash laid. -/
def lay (R : List Int) (x : Int) : List Int := R.set (reg x) (max (R.getD (reg x) 0) (rho x))
/-- Registers with all of some hashes laid over others, in whatever order. -/
def Laid (R : List Int) (S : Int → Prop) (R' : List Int) : Prop := R'.length = R.length ∧ ∀ i, i < R.length → R.getD i 0 ≤ R'.getD i 0 ∧ (∀ x, S x → reg x = i → rho x ≤ R'.getD i 0) ∧ (R'.getD i 0 = R.getD i 0 ∨ ∃ x, S x ∧ reg x = i ∧ R'.getD i 0 = rho x)
theorem Laid.start (R : List Int) {S : Int → Prop} (h : ∀ x, ¬ S x) : Laid R S R := ⟨rfl, fun i hi => ⟨Int.le_refl _, fun x hx => absurd hx (h x), .inl rfl⟩⟩
theorem lay_len (R : List Int) (x : Int) : (lay R x).length = R.length := by simp [lay]
theorem lay_at (R : List Int) (x : Int) (i : Nat) (hi : i < R.length) : (lay R x).getD i 0 = if reg x = i then max (R.getD i 0) (rho x) else R.getD i 0 := by
  unfold lay
  rw [List.getD_eq_getElem?_getD, List.getElem?_set]
  by_cases e : reg x = i
  · subst e; simp [hi]
  · simp [e]
theorem Laid.step {R R' : List Int} {S S' : Int → Prop} {y : Int} (h : Laid R S R') (hS : ∀ x, S' x ↔ S x ∨ x = y) : Laid R S' (lay R' y) := by
  refine ⟨by rw [lay_len, h.1], fun i hi => ?_⟩
  obtain ⟨h1, h2, h3⟩ := h.2 i hi
  rw [lay_at R' y i (by rw [h.1]; exact hi)]
  split
  · rename_i e
    refine ⟨by omega, fun x hx hr => ?_, ?_⟩
    · rcases (hS x).1 hx with hx | hx
      · have := h2 x hx hr; omega
      · subst hx; omega
    · by_cases hm : R'.getD i 0 ≤ rho y
      · exact .inr ⟨y, (hS y).2 (.inr rfl), e, by omega⟩
      · rw [show max (R'.getD i 0) (rho y) = R'.getD i 0 by omega]
        rcases h3 with h3 | ⟨x, hx, hr, hv⟩
        · exact .inl h3
        · exact .inr ⟨x, (hS x).2 (.inl hx), hr, hv⟩
  · rename_i e
    refine ⟨h1, fun x hx hr => ?_, ?_⟩
    · rcases (hS x).1 hx with hx | hx
      · exact h2 x hx hr
      · subst hx; exact absurd hr e
    · rcases h3 with h3 | ⟨x, hx, hr, hv⟩
      · exact .inl h3
      · exact .inr ⟨x, (hS x).2 (.inl hx), hr, hv⟩
theorem Laid.same {R A B : List Int} {S S' : Int → Prop} (h : Laid R S A) (g : Laid R S' B) (hS : ∀ x, S x ↔ S' x) : A = B := by
  apply List.ext_getElem (by rw [h.1, g.1])
  intro i h1 h2
  have hi : i < R.length := by rw [← h.1]; exact h1
  obtain ⟨a1, a2, a3⟩ := h.2 i hi
  obtain ⟨b1, b2, b3⟩ := g.2 i hi
  rw [List.getD_eq_getElem?_getD, List.getD_eq_getElem?_getD, List.getElem?_eq_getElem h1] at a1
  simp only [List.getD_eq_getElem?_getD, List.getElem?_eq_getElem h1, List.getElem?_eq_getElem h2, Option.getD_some] at a1 a2 a3 b1 b2 b3
  rcases a3 with a3 | ⟨x, hx, hr, hv⟩ <;> rcases b3 with b3 | ⟨y, hy, hs, hu⟩
  · rw [a3, b3]
  · have := a2 y ((hS y).2 hy) hs; omega
  · have := b2 x ((hS x).1 hx) hr; omega
  · have := a2 y ((hS y).2 hy) hs
    have := b2 x ((hS x).1 hx) hr; omega

/-- Sixty-four registers in block g. -/
def RowI (w : World) (B g : Nat) (R : List Int) : Prop := R.length = 64 ∧ w.ownsRow B 2 1 (.slice (some ⟨g, 0, none⟩) 64 64) 64 (R.map (Value.int .i64))
theorem RowI.cell {w : World} {B g k : Nat} {R : List Int} {x : Int} (h : RowI w B g R) (hk : k < 64) (hx : x = R.getD k 0) : w.cell? ⟨g, k, none⟩ = some (.int .i64 x) := by
  have hs := h.1
  rw [h.2.cellAt k (by omega), hx]
  rw [List.getD_eq_getElem?_getD, List.getElem?_map, List.getElem?_eq_getElem (by omega : k < R.length)]
  simp
theorem RowI.froz {w : World} {B g : Nat} {R : List Int} (h : RowI w B g R) (k : Nat) : w.frozen? ⟨g, k, none⟩ = false := h.2.frozenAt k
theorem RowI.lt {w : World} {B g : Nat} {R : List Int} (h : RowI w B g R) : B ≤ g ∧ g < w.heap.size := own_lt h.2
theorem RowI.set {w : World} {B g : Nat} {R : List Int} (h : RowI w B g R) (k : Nat) (x : Int) : RowI (w.setCell ⟨g, k, none⟩ (.int .i64 x)) B g (R.set k x) := by
  refine ⟨by simp [h.1], ?_⟩
  have := (h.2.stored k (.int .i64 x)).1
  rw [List.map_set]; exact this
theorem RowI.grown {w w' : World} {B g : Nat} {row : Option Nat} {R : List Int} (h : RowI w B g R) (hg : w.grownBy w' row) (hr : some g ≠ row) : RowI w' B g R := by
  refine ⟨h.1, h.2.1, ?_⟩
  rcases h.2.2 with h2 | ⟨g', cap, cur, e, h1, h2, h3⟩
  · exact .inl h2
  · cases e
    exact .inr ⟨g, 64, cur, rfl, h1, (hg.block g (Array.getElem?_eq_some_iff.1 h2).1 (fun hh => hr hh)).trans h2, h3⟩
end Go.Proofs.Ytljhjcmodaaaoaa
