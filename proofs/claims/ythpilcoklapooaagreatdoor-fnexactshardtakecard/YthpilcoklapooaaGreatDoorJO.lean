/-
  The model's sketch of how many: l04Merge.
-/
import Derived.Test.YthpilcoklapooaaGreatDoorJN
namespace Go.Proofs.YthpilcoklapooaaGreatDoor
set_option linter.unusedVariables false
set_option linter.unusedSimpArgs false
open Go.ChangeShapes Go.WideShapes Go.ChangeAt Go.RowKit Go.PlainAid Go.Maps
set_option maxRecDepth 10000

theorem pad_full {R : List Int} (h : R.length = 64) : padR R = R := by unfold padR; rw [if_neg (by omega)]
/-- What a bringing together hands back. -/
def MgOut (w : World) (E1 R1 E2 R2 : List Int) (e : Ending) (w' : World) : Prop := ∃ v E R, e = .returned v ∧ Mg E1 R1 E2 R2 E R ∧ HlOut w' w.heap.size v E R ∧ Below w.heap.size w w'
theorem MgOut.mk {w w' : World} {E1 R1 E2 R2 E R : List Int} {v : Value} (h : Mg E1 R1 E2 R2 E R) (o : HlOut w' w.heap.size v E R) (b : Below w.heap.size w w') : MgOut w E1 R1 E2 R2 (.returned v) w' := ⟨v, E, R, rfl, h, o, b⟩
end Go.Proofs.YthpilcoklapooaaGreatDoor

/-
  What sketches of how many come to, however they are brought together: the pure side. A sketch stands for whether it has registers, for its hashes in order, and for the registers that they are laid over.
-/
namespace Go.Proofs.YthpilcoklapooaaGreatDoor
set_option linter.unusedVariables false
set_option linter.unusedSimpArgs false
set_option maxRecDepth 10000

/-- Registers of nothing. -/
def zer : List Int := List.replicate 64 0
theorem zrr_len : zer.length = 64 := by simp [zer]
theorem zer_get (i : Nat) : zer.getD i 0 = 0 := by
  unfold zer
  rw [List.getD_eq_getElem?_getD, List.getElem?_replicate]; split <;> rfl
/-- The greater of each two. -/
def mxx (A B : List Int) : List Int := mxL A B 64
theorem mx_len (A B : List Int) : (mxx A B).length = A.length := mxL_len _ _ _
theorem mx_get {A B : List Int} (hA : A.length = 64) (i : Nat) (hi : i < 64) : (mxx A B).getD i 0 = max (A.getD i 0) (B.getD i 0) := by
  unfold mxx; rw [mxL_get A B 64 i (by omega), if_pos hi]
/-- Sixty-four registers, none below nought, none above 55. -/
def RegOk (B : List Int) : Prop := B.length = 64 ∧ ∀ i, i < 64 → 0 ≤ B.getD i 0 ∧ B.getD i 0 ≤ 55
theorem zer_ok : RegOk zer := ⟨zrr_len, fun i _ => by rw [zer_get]; omega⟩
theorem Laid.ok {B R : List Int} {S : Int → Prop} (b : RegOk B) (h : Laid B S R) : RegOk R := ⟨by rw [h.1]; exact b.1, fun i hi => by
  obtain ⟨h1, h2, h3⟩ := h.2 i (by rw [b.1]; exact hi)
  have := b.2 i hi
  rcases h3 with h3 | ⟨x, _, _, h3⟩
  · omega
  · have := rho_rng x; omega⟩
theorem Laid.two {A A' B B' : List Int} {S T U : Int → Prop} (a : RegOk A) (b : RegOk B) (h : Laid A S A') (g : Laid B T B') (hU : ∀ x, U x ↔ S x ∨ T x) : Laid (mxx A B) U (mxx A' B') := by
  have a' := h.ok a
  have b' := g.ok b
  refine ⟨by rw [mx_len, mx_len, a.1, a'.1], fun i hi => ?_⟩
  have hi : i < 64 := by rw [mx_len, a.1] at hi; exact hi
  obtain ⟨h1, h2, h3⟩ := h.2 i (by rw [a.1]; exact hi)
  obtain ⟨g1, g2, g3⟩ := g.2 i (by rw [b.1]; exact hi)
  rw [mx_get a.1 i hi, mx_get a'.1 i hi]
  refine ⟨by omega, fun x hx hr => ?_, ?_⟩
  · rcases (hU x).1 hx with hx | hx
    · have := h2 x hx hr; omega
    · have := g2 x hx hr; omega
  · by_cases q : B'.getD i 0 ≤ A'.getD i 0
    · rcases h3 with h3 | ⟨x, hx, hr, h3⟩
      · exact .inl (by omega)
      · exact .inr ⟨x, (hU x).2 (.inl hx), hr, by omega⟩
    · rcases g3 with g3 | ⟨x, hx, hr, g3⟩
      · exact .inl (by omega)
      · exact .inr ⟨x, (hU x).2 (.inr hx), hr, by omega⟩
/-- What a right sketch stands for. -/
structure Can (g : Prop) (U B E R : List Int) : Prop where
  rise : U.Pairwise (· < ·)
  okB : RegOk B
  no : ¬ g → B = zer
  few : ¬ g → U.length ≤ 40 → E = U ∧ R = []
  many : g ∨ 40 < U.length → E = [] ∧ Laid B (· ∈ U) R
theorem Can.one {g g' : Prop} {U B E R U' B' E' R' : List Int} (h : Can g U B E R) (k : Can g' U' B' E' R') (hg : g ↔ g') (hU : ∀ x, x ∈ U ↔ x ∈ U') (hB : B = B') : E = E' ∧ R = R' := by
  obtain rfl := rise_ext U U' h.rise k.rise hU
  subst hB
  by_cases q : g ∨ 40 < U.length
  · obtain ⟨a, b⟩ := h.many q
    obtain ⟨a', b'⟩ := k.many (q.imp hg.1 id)
    exact ⟨a.trans a'.symm, b.same b' fun _ => Iff.rfl⟩
  · have q1 : ¬ g := fun x => q (.inl x)
    have q2 : U.length ≤ 40 := by omega
    obtain ⟨a, b⟩ := h.few q1 q2
    obtain ⟨a', b'⟩ := k.few (fun x => q1 (hg.2 x)) q2
    exact ⟨a.trans a'.symm, b.trans b'.symm⟩
theorem up_of_pair : ∀ {L : List Int}, L.Pairwise (· < ·) → upN L = true
  | [], _ => rfl
  | [x], _ => rfl
  | x :: y :: r, h => by
    have a := List.pairwise_cons.1 h
    simp only [upN, Bool.and_eq_true, decide_eq_true_eq]
    exact ⟨a.1 y (by simp), up_of_pair a.2⟩
theorem ok_regB {R : List Int} (h : RegOk R) : regB R = true := by
  unfold regB
  simp only [Bool.and_eq_true, decide_eq_true_eq]
  refine ⟨h.1, List.all_eq_true.2 fun x hx => ?_⟩
  obtain ⟨i, hi, rfl⟩ := List.getElem_of_mem hx
  have := h.2 i (by rw [← h.1]; exact hi)
  rw [List.getD_eq_getElem?_getD, List.getElem?_eq_getElem hi] at this
  simpa [inR] using this
theorem Can.right {g : Prop} {U B E R : List Int} (h : Can g U B E R) : hlB E R = true := by
  by_cases q : g ∨ 40 < U.length
  · obtain ⟨rfl, b⟩ := h.many q
    have ok := b.ok h.okB
    unfold hlB
    rw [if_neg (by rw [ok.1]; omega), ok_regB ok]; rfl
  · have q2 : U.length ≤ 40 := by omega
    obtain ⟨rfl, rfl⟩ := h.few (fun x => q (.inl x)) q2
    unfold hlB exB
    rw [if_pos (by rfl : ([] : List Int).length = 0), up_of_pair h.rise]
    simpa using q2
/-- Each sketch as registers: a part of its hashes is laid, the others are kept. -/
theorem Can.part {g : Prop} {U B E R : List Int} (h : Can g U B E R) : ∃ S : Int → Prop, Laid B S (padR R) ∧ ∀ x, x ∈ U ↔ S x ∨ x ∈ E := by
  by_cases q : g ∨ 40 < U.length
  · obtain ⟨rfl, b⟩ := h.many q
    exact ⟨(· ∈ U), by rw [pad_full (b.ok h.okB).1]; exact b, fun x => by simp⟩
  · have q2 : U.length ≤ 40 := by omega
    obtain ⟨rfl, rfl⟩ := h.few (fun x => q (.inl x)) q2
    refine ⟨fun _ => False, ?_, fun x => by simp⟩
    rw [h.no (fun x => q (.inl x))]
    exact Laid.start zer (fun _ x => x)
/-- One hash alone. -/
theorem Can.hash (x : Int) : Can False [x] zer [x] [] := ⟨by simp, zer_ok, fun _ => rfl, fun _ _ => ⟨rfl, rfl⟩, fun q => by rcases q with q | q; exact q.elim; simp at q⟩
/-- Hashes of a sketch that is right are among those it stands for. -/
theorem Can.sub {g : Prop} {U B E R : List Int} (h : Can g U B E R) : ∀ x ∈ E, x ∈ U := fun x hx => by
  by_cases q : g ∨ 40 < U.length
  · obtain ⟨rfl, _⟩ := h.many q; simp at hx
  · obtain ⟨rfl, _⟩ := h.few (fun x => q (.inl x)) (by omega); exact hx
theorem MrgH.one {E1 R1 E2 R2 A S C T : List Int} (p : MrgH E1 R1 E2 R2 A S) (q : MrgH E1 R1 E2 R2 C T) : A = C ∧ S = T := by
  unfold MrgH at p q
  split at p
  · rw [if_pos (by assumption)] at q; exact p.one q
  · rw [if_neg (by assumption)] at q; exact ⟨p.1.trans q.1.symm, p.2.trans q.2.symm⟩
end Go.Proofs.YthpilcoklapooaaGreatDoor

/-
  The model's sketch of how many: l04Merge where one has registers.
-/
namespace Go.Proofs.YthpilcoklapooaaGreatDoor
set_option linter.unusedVariables false
set_option linter.unusedSimpArgs false
open Go.ChangeShapes Go.WideShapes Go.ChangeAt Go.RowKit Go.PlainAid Go.Maps
set_option maxRecDepth 10000

end Go.Proofs.YthpilcoklapooaaGreatDoor

/-
  The model's sketch of how many: HllMerge.
-/
namespace Go.Proofs.YthpilcoklapooaaGreatDoor
set_option linter.unusedVariables false
set_option linter.unusedSimpArgs false
open Go.ChangeShapes Go.WideShapes Go.ChangeAt Go.RowKit Go.PlainAid Go.Maps
set_option maxRecDepth 10000

end Go.Proofs.YthpilcoklapooaaGreatDoor
