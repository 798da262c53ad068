/-
  Hashes laid in registers: what is laid, whatever the order; layHashes of the program.
-/
import Derived.Test.YthpilcoklapooaaGreatDoorJJ
import Derived.Maps.RangeWalk
import Derived.Test.YthpilcoklapooaaGreatDoorJB
import Derived.Test.YthpilcoklapooaaGreatDoorJD
namespace Go.Proofs.YthpilcoklapooaaGreatDoor
set_option linter.unusedVariables false
set_option linter.unusedSimpArgs false
open Go.ChangeShapes Go.WideShapes Go.ChangeAt Go.RowKit Go.PlainAid Go.Maps
set_option maxRecDepth 10000

/-- The register of a hash. -/
def reg (x : Int) : Nat := (x / 288230376151711744).toNat
/-- A hash laid. -/
def lay (R : List Int) (x : Int) : List Int := R.set (reg x) (max (R.getD (reg x) 0) (rho x))
/-- Registers with all of some hashes laid over others, in whatever order. -/
def Laid (R : List Int) (S : Int → Prop) (R' : List Int) : Prop := R'.length = R.length ∧ ∀ i, i < R.length → R.getD i 0 ≤ R'.getD i 0 ∧ (∀ x, S x → reg x = i → rho x ≤ R'.getD i 0) ∧ (R'.getD i 0 = R.getD i 0 ∨ ∃ x, S x ∧ reg x = i ∧ R'.getD i 0 = rho x)
theorem Laid.start (R : List Int) {S : Int → Prop} (h : ∀ x, ¬ S x) : Laid R S R := ⟨rfl, fun i hi => ⟨Int.le_refl _, fun x hx => absurd hx (h x), .inl rfl⟩⟩
theorem lay_len (R : List Int) (x : Int) : (lay R x).length = R.length := by simp [lay]
theorem lay_at (R : List Int) (x : Int) (i : Nat) (hi : i < R.length) : (lay R x).getD i 0 = if reg x = i then max (R.getD i 0) (rho x) else R.getD i 0 := by
  unfold lay
  rw [List.getD_eq_getElem?_getD, List.getElem?_set]
  by_cases e : reg x = i
  · subst e; simp [hi]
  · simp [e]
theorem Laid.step {R R' : List Int} {S S' : Int → Prop} {y : Int} (h : Laid R S R') (hS : ∀ x, S' x ↔ S x ∨ x = y) : Laid R S' (lay R' y) := by
  refine ⟨by rw [lay_len, h.1], fun i hi => ?_⟩
  obtain ⟨h1, h2, h3⟩ := h.2 i hi
  rw [lay_at R' y i (by rw [h.1]; exact hi)]
  split
  · rename_i e
    refine ⟨by omega, fun x hx hr => ?_, ?_⟩
    · rcases (hS x).1 hx with hx | hx
      · have := h2 x hx hr; omega
      · subst hx; omega
    · by_cases hm : R'.getD i 0 ≤ rho y
      · exact .inr ⟨y, (hS y).2 (.inr rfl), e, by omega⟩
      · rw [show max (R'.getD i 0) (rho y) = R'.getD i 0 by omega]
        rcases h3 with h3 | ⟨x, hx, hr, hv⟩
        · exact .inl h3
        · exact .inr ⟨x, (hS x).2 (.inl hx), hr, hv⟩
  · rename_i e
    refine ⟨h1, fun x hx hr => ?_, ?_⟩
    · rcases (hS x).1 hx with hx | hx
      · exact h2 x hx hr
      · subst hx; exact absurd hr e
    · rcases h3 with h3 | ⟨x, hx, hr, hv⟩
      · exact .inl h3
      · exact .inr ⟨x, (hS x).2 (.inl hx), hr, hv⟩
theorem Laid.same {R A B : List Int} {S S' : Int → Prop} (h : Laid R S A) (g : Laid R S' B) (hS : ∀ x, S x ↔ S' x) : A = B := by
  apply List.ext_getElem (by rw [h.1, g.1])
  intro i h1 h2
  have hi : i < R.length := by rw [← h.1]; exact h1
  obtain ⟨a1, a2, a3⟩ := h.2 i hi
  obtain ⟨b1, b2, b3⟩ := g.2 i hi
  rw [List.getD_eq_getElem?_getD, List.getD_eq_getElem?_getD, List.getElem?_eq_getElem h1] at a1
  simp only [List.getD_eq_getElem?_getD, List.getElem?_eq_getElem h1, List.getElem?_eq_getElem h2, Option.getD_some] at a1 a2 a3 b1 b2 b3
  rcases a3 with a3 | ⟨x, hx, hr, hv⟩ <;> rcases b3 with b3 | ⟨y, hy, hs, hu⟩
  · rw [a3, b3]
  · have := a2 y ((hS y).2 hy) hs; omega
  · have := b2 x ((hS x).1 hx) hr; omega
  · have := a2 y ((hS y).2 hy) hs
    have := b2 x ((hS x).1 hx) hr; omega

/-- Sixty-four registers in block g. -/
def RowI (w : World) (B g : Nat) (R : List Int) : Prop := R.length = 64 ∧ w.ownsRow B 2 1 (.slice (some ⟨g, 0, none⟩) 64 64) 64 (R.map (Value.int .i64))
theorem RowI.cell {w : World} {B g k : Nat} {R : List Int} {x : Int} (h : RowI w B g R) (hk : k < 64) (hx : x = R.getD k 0) : w.cell? ⟨g, k, none⟩ = some (.int .i64 x) := by
  have hs := h.1
  rw [h.2.cellAt k (by omega), hx]
  rw [List.getD_eq_getElem?_getD, List.getElem?_map, List.getElem?_eq_getElem (by omega : k < R.length)]
  simp
theorem RowI.lt {w : World} {B g : Nat} {R : List Int} (h : RowI w B g R) : B ≤ g ∧ g < w.heap.size := own_lt h.2
theorem RowI.set {w : World} {B g : Nat} {R : List Int} (h : RowI w B g R) (k : Nat) (x : Int) : RowI (w.setCell ⟨g, k, none⟩ (.int .i64 x)) B g (R.set k x) := by
  refine ⟨by simp [h.1], ?_⟩
  have := (h.2.stored k (.int .i64 x)).1
  rw [List.map_set]; exact this
theorem RowI.grown {w w' : World} {B g : Nat} {row : Option Nat} {R : List Int} (h : RowI w B g R) (hg : w.grownBy w' row) (hr : some g ≠ row) : RowI w' B g R := by
  refine ⟨h.1, h.2.1, ?_⟩
  rcases h.2.2 with h2 | ⟨g', cap, cur, e, h1, h2, h3⟩
  · exact .inl h2
  · cases e
    exact .inr ⟨g, 64, cur, rfl, h1, (hg.block g (Array.getElem?_eq_some_iff.1 h2).1 (fun hh => hr hh)).trans h2, h3⟩
end Go.Proofs.YthpilcoklapooaaGreatDoor

/-
  layHashes of the program.
-/
namespace Go.Proofs.YthpilcoklapooaaGreatDoor
set_option linter.unusedVariables false
set_option linter.unusedSimpArgs false
open Go.ChangeShapes Go.WideShapes Go.ChangeAt Go.RowKit Go.PlainAid Go.Maps
set_option maxRecDepth 10000

theorem grownBy_setC (W : World) (b k : Nat) (v : Value) : W.grownBy (W.setCell ⟨b, k, none⟩ v) (some b) :=
  ⟨rfl, rfl, rfl, (KeepsWalks.setCell W _ v).size, fun i _ hk => Below.heap_setCell _ _ _ i (fun e => hk (by rw [e]))⟩
/-- Between two rounds. -/
def LayI (w : World) (B g b : Nat) (L R : List Int) (wr : World) : Prop :=
  ∃ (D : DataW Unit) (left : Lit → Bool) (cnt n : Nat) (R' : List Int), wr.ranges Tryz.prog 23 (plainElem Tryz.prog 2) b w.heap.size n D left cnt ∧ RowI wr B g R' ∧ Laid R (fun x => x ∈ L ∧ left (.int .u64 x) = false) R' ∧ (∀ x, left (.int .u64 x) = true → x ∈ L ∧ ∀ z, D.atKey (.int .u64 x) z = .lit (.int .i64 (rho x))) ∧ Below B w wr
end Go.Proofs.YthpilcoklapooaaGreatDoor

/-
  What is brought together of two right sketches of how many: the pure side.
-/
namespace Go.Proofs.YthpilcoklapooaaGreatDoor
set_option linter.unusedVariables false
set_option linter.unusedSimpArgs false
open Go.ChangeShapes Go.WideShapes Go.ChangeAt Go.RowKit Go.PlainAid Go.Maps
set_option maxRecDepth 10000

/-- Registers, the first m of them the greater of two. -/
def mxL (A B : List Int) (m : Nat) : List Int := (List.range A.length).map fun i => if i < m then max (A.getD i 0) (B.getD i 0) else A.getD i 0
theorem mxL_len (A B : List Int) (m : Nat) : (mxL A B m).length = A.length := by simp [mxL]
theorem mxL_get (A B : List Int) (m i : Nat) (hi : i < A.length) : (mxL A B m).getD i 0 = if i < m then max (A.getD i 0) (B.getD i 0) else A.getD i 0 := by
  rw [List.getD_eq_getElem?_getD, List.getElem?_eq_getElem (by rw [mxL_len]; exact hi)]
  simp only [mxL, List.getElem_map, List.getElem_range, Option.getD_some]
theorem Laid.trans {A R R' : List Int} {S T U : Int → Prop} (h : Laid A S R) (g : Laid R T R') (hU : ∀ x, U x ↔ S x ∨ T x) : Laid A U R' := by
  refine ⟨by rw [g.1, h.1], fun i hi => ?_⟩
  obtain ⟨h1, h2, h3⟩ := h.2 i hi
  obtain ⟨g1, g2, g3⟩ := g.2 i (by rw [h.1]; exact hi)
  refine ⟨by omega, fun x hx hr => ?_, ?_⟩
  · rcases (hU x).1 hx with hx | hx
    · have := h2 x hx hr; omega
    · exact g2 x hx hr
  · rcases g3 with g3 | ⟨x, hx, hr, hv⟩
    · rcases h3 with h3 | ⟨x, hx, hr, hv⟩
      · exact .inl (by omega)
      · exact .inr ⟨x, (hU x).2 (.inl hx), hr, by omega⟩
    · exact .inr ⟨x, (hU x).2 (.inr hx), hr, hv⟩
/-- Sixty-four registers, nought where there are none. -/
def padR (R : List Int) : List Int := if R.length = 0 then List.replicate 64 0 else R
/-- All hashes of two. -/
abbrev allU (E1 E2 : List Int) : List Int := uniU (uniU [] E1) E2
/-- What two right ones come to. -/
def Mg (E1 R1 E2 R2 E R : List Int) : Prop := (R1.length = 0 ∧ R2.length = 0 ∧ (allU E1 E2).length ≤ 40 ∧ E = allU E1 E2 ∧ R = []) ∨ (¬ (R1.length = 0 ∧ R2.length = 0 ∧ (allU E1 E2).length ≤ 40) ∧ E = [] ∧ Laid (mxL (padR R1) R2 R2.length) (· ∈ allU E1 E2) R)
theorem Mg.one {E1 R1 E2 R2 E R E' R' : List Int} (h : Mg E1 R1 E2 R2 E R) (g : Mg E1 R1 E2 R2 E' R') : E = E' ∧ R = R' := by
  rcases h with ⟨a, b, c, d, e⟩ | ⟨a, b, c⟩ <;> rcases g with ⟨a', b', c', d', e'⟩ | ⟨a', b', c'⟩
  · exact ⟨d.trans d'.symm, e.trans e'.symm⟩
  · exact absurd ⟨a, b, c⟩ a'
  · exact absurd ⟨a', b', c'⟩ a
  · exact ⟨b.trans b'.symm, c.same c' (fun _ => Iff.rfl)⟩
theorem MpU.below {w w' : World} {b n K : Nat} {L : List Int} (h : MpU w b n L) (hK : b < K) (hb : Below K w w') : MpU w' b n L := by
  obtain ⟨hp, D, hown, h1, h2, h3⟩ := h
  refine ⟨hp, D, ?_, h1, h2, h3⟩
  obtain ⟨es, clock, hbl, r⟩ := hown
  exact ⟨es, clock, (hb.block b hK).trans hbl, r⟩
theorem RowI.below {w w' : World} {B g K : Nat} {R : List Int} (h : RowI w B g R) (hK : g < K) (hb : Below K w w') : RowI w' B g R := by
  refine ⟨h.1, h.2.1, ?_⟩
  rcases h.2.2 with h2 | ⟨g', cap, cur, e, h1, h2, h3⟩
  · exact .inl h2
  · cases e
    exact .inr ⟨g, 64, cur, rfl, h1, (hb.block g hK).trans h2, h3⟩
/-- A sketch of how many that owns its rows. -/
def HlOut (w : World) (B : Nat) (v : Value) (E R : List Int) : Prop := ∃ p n, v = .agg #[p, n] ∧ w.ownsRow B 23 1 p E.length (E.map (Value.int .u64)) ∧ w.ownsRow B 2 1 n R.length (R.map (Value.int .i64))
end Go.Proofs.YthpilcoklapooaaGreatDoor
