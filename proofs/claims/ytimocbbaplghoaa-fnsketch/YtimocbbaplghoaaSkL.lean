/-
  A local variable that holds a sketch; what bringing together hands back; three sketches.
-/
import Derived.Test.YtimocbbaplghoaaDrawT
import Derived.Test.YtimocbbaplghoaaMrgQ
import Derived.Test.YtimocbbaplghoaaSameC
import Derived.Test.YtimocbbaplghoaaSumC
import Derived.Test.YtimocbbaplghoaaSkM
namespace Go.Proofs.Ytimocbbaplghoaa
set_option linter.unusedVariables false
set_option linter.unusedSimpArgs false
open Go.ChangeShapes Go.WideShapes Go.ChangeAt Go.RowKit Go.PlainAid Go.Lib
set_option maxRecDepth 10000

/-- A local variable that holds a sketch. -/
structure SkL (w : World) (r : Nat) (z h l : Int) (pa : Option Addr) (pn pc : Nat) (na : Option Addr) (nn nc : Nat) (P N : List Bn) : Prop where
  row : w.heap[r]? = some (.cells #[.int .u64 z, .slice pa pn pc, .slice na nn nc, .int .i64 h, .int .u64 l] 28 (0, 0))
  sk : SkI w z h l pa pn pc na nn nc P N
section
variable {w w' : World} {r : Nat} {z h l : Int} {pa na : Option Addr} {pn pc nn nc : Nat} {P N : List Bn}
theorem SkL.past (k : SkL w r z h l pa pn pc na nn nc P N) (hb : Below w.heap.size w w') : SkL w' r z h l pa pn pc na nn nc P N :=
  ⟨by rw [hb.block _ (Array.getElem?_eq_some_iff.1 k.row).1]; exact k.row, k.sk.past hb⟩
theorem SkL.drew (k : SkL w r z h l pa pn pc na nn nc P N) : SkL w.drew r z h l pa pn pc na nn nc P N := k.past ((Below.refl _ _).drew)
theorem SkL.cells (d : SkL w r z h l pa pn pc na nn nc P N) : w.cell? ⟨r, 0, none⟩ = some (.int .u64 z) ∧ w.cell? ⟨r, 1, none⟩ = some (.slice pa pn pc) ∧ w.cell? ⟨r, 2, none⟩ = some (.slice na nn nc) ∧ w.cell? ⟨r, 3, none⟩ = some (.int .i64 h) ∧ w.cell? ⟨r, 4, none⟩ = some (.int .u64 l) := cell5 d.row
theorem SkL.made (k : SkI w z h l pa pn pc na nn nc P N) : SkL (w.alloc (.cells #[.int .u64 z, .slice pa pn pc, .slice na nn nc, .int .i64 h, .int .u64 l] 28)) w.heap.size z h l pa pn pc na nn nc P N :=
  ⟨heap_alloc_new w _, k.past ((Below.refl _ _).alloc (Nat.le_refl _) _)⟩
end

theorem SkI.p20 {w : World} {z h l : Int} {pa na : Option Addr} {pn pc nn nc : Nat} {P N : List Bn} (k : SkI w z h l pa pn pc na nn nc P N) : pn ≤ 1048576 := by have := k.lP; omega
theorem SkI.n20 {w : World} {z h l : Int} {pa na : Option Addr} {pn pc nn nc : Nat} {P N : List Bn} (k : SkI w z h l pa pn pc na nn nc P N) : nn ≤ 1048576 := by have := k.lN; omega
theorem sk_out {w : World} {B : Nat} {v : Value} {z h l : Int} {P N : List Bn} (ho : SkOut w B v z P N h l) (hz : U64 z) (hl : U64 l) (kP : ∀ x ∈ P, BnOk x) (kN : ∀ x ∈ N, BnOk x) (lP : P.length ≤ 60) (lN : N.length ≤ 60) :
    ∃ pa pn pc na nn nc, v = .agg #[.int .u64 z, .slice pa pn pc, .slice na nn nc, .int .i64 h, .int .u64 l] ∧ SkI w z h l pa pn pc na nn nc P N := by
  obtain ⟨p, n, a, b, rfl, o1, o2, _⟩ := ho
  obtain ⟨pa, pc, rfl⟩ := o1.any
  obtain ⟨na, nc, rfl⟩ := o2.any
  exact ⟨pa, a, pc, na, b, nc, rfl, o1.1.symm, o2.1.symm, o1.at, o2.at, kP, kN, hz, hl, o1.nil0, o2.nil0, by rw [o1.1]; exact lP, by rw [o2.1]; exact lN⟩
/-- What bringing together hands back. -/
theorem mrg_sk {w w1 w2 : World} {B : Nat} {v : Value} {z h l z' h' l' : Int} {pa na pb nb : Option Addr} {pn pc nn nc pm pd nm nd : Nat} {P N P' N' : List Bn} (k : SkI w1 z h l pa pn pc na nn nc P N) (k' : SkI w2 z' h' l' pb pm pd nb nm nd P' N')
    (hq : (mrgOk P N P' N' ∧ SkOut w B v (wAdd z z') (gatL P P') (gatL N N') (addH h l h' l') (addL l l')) ∨ (¬ mrgOk P N P' N' ∧ SkOut w B v 0 [] [] 0 0)) :
    ∃ z4 h4 l4 pa4 pn4 pc4 na4 nn4 nc4 P4 N4, v = .agg #[.int .u64 z4, .slice pa4 pn4 pc4, .slice na4 nn4 nc4, .int .i64 h4, .int .u64 l4] ∧ SkI w z4 h4 l4 pa4 pn4 pc4 na4 nn4 nc4 P4 N4 ∧
      ((mrgOk P N P' N' → z4 = wAdd z z' ∧ P4 = keepL (mrg P P') ∧ N4 = keepL (mrg N N') ∧ h4 = addH h l h' l' ∧ l4 = addL l l') ∧ (¬ mrgOk P N P' N' → z4 = 0 ∧ P4 = [] ∧ N4 = [] ∧ h4 = 0 ∧ l4 = 0)) := by
  rcases hq with ⟨ok, ho⟩ | ⟨ok, ho⟩
  · have r1 := sk_rise ok.1
    have r2 := sk_rise ok.2
    rw [gat_mrg r1.1.1 r2.1.1, gat_mrg r1.2.1 r2.2.1] at ho
    have g1 := bins_mrg (skB_and.1 ok.1).1 (skB_and.1 ok.2).1 k.kP k'.kP
    have g2 := bins_mrg (skB_and.1 ok.1).2 (skB_and.1 ok.2).2 k.kN k'.kN
    obtain ⟨pa4, pn4, pc4, na4, nn4, nc4, e, I⟩ := sk_out ho (wAdd_ok k.hz k'.hz) (uw_in _) g1.2 g2.2 (Nat.le_trans (keep_len30 _) (by omega)) (Nat.le_trans (keep_len30 _) (by omega))
    exact ⟨_, _, _, pa4, pn4, pc4, na4, nn4, nc4, _, _, e, I, fun _ => ⟨rfl, rfl, rfl, rfl, rfl⟩, fun h => absurd ok h⟩
  · obtain ⟨pa4, pn4, pc4, na4, nn4, nc4, e, I⟩ := sk_out ho (by unfold U64; omega) (by unfold U64; omega) (fun x hx => by simp at hx) (fun x hx => by simp at hx) (by simp) (by simp)
    exact ⟨_, _, _, pa4, pn4, pc4, na4, nn4, nc4, _, _, e, I, fun h => absurd h ok, fun _ => ⟨rfl, rfl, rfl, rfl, rfl⟩⟩

theorem skW_inU {z : Int} {P N : List Bn} (hz : U64 z) (kP : ∀ x ∈ P, BnOk x) (kN : ∀ x ∈ N, BnOk x) : U64 (skW z P N) := by
  unfold skW
  split
  · have := wsum_nn kP
    have := wsum_nn kN
    have := hz.1
    exact sat_in (by omega)
  · unfold U64; omega
theorem three_same {z h l z' h' l' z3 h3 l3 z4 h4 l4 z5 h5 l5 z6 h6 l6 z7 h7 l7 : Int} {P N P' N' P3 N3 P4 N4 P5 N5 P6 N6 P7 N7 : List Bn} (uz : U64 z) (uz' : U64 z') (uz3 : U64 z3) (ul : U64 l) (ul' : U64 l') (ul3 : U64 l3)
    (kP : ∀ x ∈ P, BnOk x) (kN : ∀ x ∈ N, BnOk x) (kP' : ∀ x ∈ P', BnOk x) (kN' : ∀ x ∈ N', BnOk x) (kP3 : ∀ x ∈ P3, BnOk x) (kN3 : ∀ x ∈ N3, BnOk x) (s1 : skB P N = true) (s2 : skB P' N' = true) (s3 : skB P3 N3 = true)
    (e4 : z4 = wAdd z z' ∧ P4 = keepL (mrg P P') ∧ N4 = keepL (mrg N N') ∧ h4 = addH h l h' l' ∧ l4 = addL l l') (e5 : z5 = wAdd z' z3 ∧ P5 = keepL (mrg P' P3) ∧ N5 = keepL (mrg N' N3) ∧ h5 = addH h' l' h3 l3 ∧ l5 = addL l' l3)
    (M6 : mrgOk P4 N4 P3 N3 → z6 = wAdd z4 z3 ∧ P6 = keepL (mrg P4 P3) ∧ N6 = keepL (mrg N4 N3) ∧ h6 = addH h4 l4 h3 l3 ∧ l6 = addL l4 l3) (M7 : mrgOk P N P5 N5 → z7 = wAdd z z5 ∧ P7 = keepL (mrg P P5) ∧ N7 = keepL (mrg N N5) ∧ h7 = addH h l h5 l5 ∧ l7 = addL l l5) :
    sameS z6 h6 l6 P6 N6 z7 h7 l7 P7 N7 = true ∧ skW z4 P4 N4 = wAdd (skW z P N) (skW z' P' N') := by
  obtain ⟨rfl, rfl, rfl, rfl, rfl⟩ := e4
  obtain ⟨rfl, rfl, rfl, rfl, rfl⟩ := e5
  obtain ⟨rfl, rfl, rfl, rfl, rfl⟩ := M6 ⟨sk_mrg s1 s2 kP kN kP' kN', s3⟩
  obtain ⟨rfl, rfl, rfl, rfl, rfl⟩ := M7 ⟨s1, sk_mrg s2 s3 kP' kN' kP3 kN3⟩
  refine ⟨?_, weight_mrg uz uz' s1 s2 kP kN kP' kN'⟩
  have a1 := skB_and.1 s1
  have a2 := skB_and.1 s2
  have a3 := skB_and.1 s3
  have q := sum_assoc h h' h3 ul ul' ul3
  rw [keep_three a1.1 a2.1 a3.1 kP kP' kP3, keep_three a1.2 a2.2 a3.2 kN kN' kN3, wAdd_assoc uz uz' uz3, q.1, q.2]
  simp [sameS]

end Go.Proofs.Ytimocbbaplghoaa
