/-
  What is brought together of two right sketches of how many: the pure side.
-/
import Derived.Test.YtljhjcmodaaaoaaHlX
import Derived.Test.YtljhjcmodaaaoaaHlC
import Derived.Test.YtljhjcmodaaaoaaHlR
namespace Go.Proofs.Ytljhjcmodaaaoaa
set_option linter.unusedVariables false
set_option linter.unusedSimpArgs false
open Go.ChangeShapes Go.WideShapes Go.ChangeAt Go.RowKit Go.PlainAid Go.Maps
set_option maxRecDepth 10000

/-- Registers, the first m of them the greater of two. -/
def mxL (A B : List Int) (m : Nat) : List Int := (List.range A.length).map fun i => if i < m then max (A.getD i 0) (B.getD i 0) else A.getD i 0
theorem mxL_len (A B : List Int) (m : Nat) : (mxL A B m).length = A.length := by simp [mxL]
theorem mxL_get (A B : List Int) (m i : Nat) (hi : i < A.length) : (mxL A B m).getD i 0 = if i < m then max (A.getD i 0) (B.getD i 0) else A.getD i 0 := by
  rw [List.getD_eq_getElem?_getD, List.getElem?_eq_getElem (by rw [mxL_len]; exact hi)]
  simp only [mxL, List.getElem_map, List.getElem_range, Option.getD_some]
theorem mxL_zero (A B : List Int) : mxL A B 0 = A := by
  apply List.ext_getElem (mxL_len A B 0)
  intro i h1 h2
  simp [mxL, h2]
theorem mxL_set (A B : List Int) (m : Nat) (hm : m < A.length) : (mxL A B m).set m (max (A.getD m 0) (B.getD m 0)) = mxL A B (m + 1) := by
  apply List.ext_getElem (by simp [mxL_len])
  intro i h1 h2
  rw [List.getElem_set]
  have hi : i < A.length := by simpa [mxL_len] using h2
  split
  · rename_i e; subst e
    simp only [mxL, List.getElem_map, List.getElem_range]
    rw [if_pos (by omega)]
  · rename_i e
    simp only [mxL, List.getElem_map, List.getElem_range]
    by_cases q : i < m
    · rw [if_pos q, if_pos (by omega)]
    · rw [if_neg q, if_neg (by omega)]
theorem Laid.mx {A B R : List Int} {S : Int → Prop} (h : Laid A S R) (m : Nat) : Laid (mxL A B m) S (mxL R B m) := by
  refine ⟨by rw [mxL_len, mxL_len, h.1], fun i hi => ?_⟩
  rw [mxL_len] at hi
  obtain ⟨h1, h2, h3⟩ := h.2 i hi
  rw [mxL_get A B m i hi, mxL_get R B m i (by rw [h.1]; exact hi)]
  split
  · refine ⟨by omega, fun x hx hr => by have := h2 x hx hr; omega, ?_⟩
    by_cases q : B.getD i 0 ≤ R.getD i 0
    · rcases h3 with h3 | ⟨x, hx, hr, hv⟩
      · exact .inl (by omega)
      · exact .inr ⟨x, hx, hr, by omega⟩
    · exact .inl (by omega)
  · exact ⟨h1, h2, h3⟩
theorem Laid.trans {A R R' : List Int} {S T U : Int → Prop} (h : Laid A S R) (g : Laid R T R') (hU : ∀ x, U x ↔ S x ∨ T x) : Laid A U R' := by
  refine ⟨by rw [g.1, h.1], fun i hi => ?_⟩
  obtain ⟨h1, h2, h3⟩ := h.2 i hi
  obtain ⟨g1, g2, g3⟩ := g.2 i (by rw [h.1]; exact hi)
  refine ⟨by omega, fun x hx hr => ?_, ?_⟩
  · rcases (hU x).1 hx with hx | hx
    · have := h2 x hx hr; omega
    · exact g2 x hx hr
  · rcases g3 with g3 | ⟨x, hx, hr, hv⟩
    · rcases h3 with h3 | ⟨x, hx, hr, hv⟩
      · exact .inl (by omega)
      · exact .inr ⟨x, (hU x).2 (.inl hx), hr, by omega⟩
    · exact .inr ⟨x, (hU x).2 (.inr hx), hr, hv⟩
theorem Laid.iff {A R : List Int} {S T : Int → Prop} (h : Laid A S R) (hS : ∀ x, S x ↔ T x) : Laid A T R := by
  have : S = T := funext fun x => propext (hS x)
  rw [← this]; exact h
/-- Sixty-four registers, nought where there are none. -/
def padR (R : List Int) : List Int := if R.length = 0 then List.replicate 64 0 else R
theorem padR_len {R : List Int} (h : R.length = 0 ∨ R.length = 64) : (padR R).length = 64 := by
  unfold padR; split
  · simp
  · omega
/-- All hashes of two. -/
abbrev allU (E1 E2 : List Int) : List Int := uniU (uniU [] E1) E2
/-- What two right ones come to. -/
def Mg (E1 R1 E2 R2 E R : List Int) : Prop := (R1.length = 0 ∧ R2.length = 0 ∧ (allU E1 E2).length ≤ 40 ∧ E = allU E1 E2 ∧ R = []) ∨ (¬ (R1.length = 0 ∧ R2.length = 0 ∧ (allU E1 E2).length ≤ 40) ∧ E = [] ∧ Laid (mxL (padR R1) R2 R2.length) (· ∈ allU E1 E2) R)
theorem Mg.one {E1 R1 E2 R2 E R E' R' : List Int} (h : Mg E1 R1 E2 R2 E R) (g : Mg E1 R1 E2 R2 E' R') : E = E' ∧ R = R' := by
  rcases h with ⟨a, b, c, d, e⟩ | ⟨a, b, c⟩ <;> rcases g with ⟨a', b', c', d', e'⟩ | ⟨a', b', c'⟩
  · exact ⟨d.trans d'.symm, e.trans e'.symm⟩
  · exact absurd ⟨a, b, c⟩ a'
  · exact absurd ⟨a', b', c'⟩ a
  · exact ⟨b.trans b'.symm, c.same c' (fun _ => Iff.rfl)⟩
theorem MpU.below {w w' : World} {b n K : Nat} {L : List Int} (h : MpU w b n L) (hK : b < K) (hb : Below K w w') : MpU w' b n L := by
  obtain ⟨hp, D, hown, h1, h2, h3⟩ := h
  refine ⟨hp, D, ?_, h1, h2, h3⟩
  obtain ⟨es, clock, hbl, r⟩ := hown
  exact ⟨es, clock, (hb.block b hK).trans hbl, r⟩
theorem RowI.below {w w' : World} {B g K : Nat} {R : List Int} (h : RowI w B g R) (hK : g < K) (hb : Below K w w') : RowI w' B g R := by
  refine ⟨h.1, h.2.1, ?_⟩
  rcases h.2.2 with h2 | ⟨g', cap, cur, e, h1, h2, h3⟩
  · exact .inl h2
  · cases e
    exact .inr ⟨g, 64, cur, rfl, h1, (hb.block g hK).trans h2, h3⟩
theorem len_insU1 : ∀ (l : List Int) (x : Int), (insU l x).length ≤ l.length + 1
  | [], x => by simp [insU]
  | y :: r, x => by
    have := len_insU1 r x
    unfold insU
    split
    · simp only [List.length_cons]; omega
    · split <;> simp
theorem len_uni : ∀ (m l : List Int), (uniU l m).length ≤ l.length + m.length
  | [], l => by simp [uniU]
  | x :: m, l => by
    have h := len_uni m (insU l x)
    have h2 : (insU l x).length ≤ l.length + 1 := len_insU1 l x
    show (uniU (insU l x) m).length ≤ _
    simp only [List.length_cons]; omega
theorem len_allU (E1 E2 : List Int) : (allU E1 E2).length ≤ E1.length + E2.length := by
  have a := len_uni E1 []
  have b := len_uni E2 (uniU [] E1)
  simp at a; unfold allU; omega
/-- A sketch of how many that owns its rows. -/
def HlOut (w : World) (B : Nat) (v : Value) (E R : List Int) : Prop := ∃ p n, v = .agg #[p, n] ∧ w.ownsRow B 34 1 p E.length (E.map (Value.int .u64)) ∧ w.ownsRow B 2 1 n R.length (R.map (Value.int .i64))
end Go.Proofs.Ytljhjcmodaaaoaa
