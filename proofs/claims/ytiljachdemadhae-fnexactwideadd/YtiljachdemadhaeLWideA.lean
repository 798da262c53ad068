/-
  The law FnExactWideAdd: at every two wide numbers the program's sum is the model's, both halves; nothing that was there has turned. No condition.
-/
import Derived.Test.YtiljachdemadhaeWide
import Derived.Test.YtiljachdemadhaeKeep
import Derived.Lib.SmallJoins
import Derived.Carry
import Derived.Deep.RegionHeld3
import Derived.Deep.DeepCutAuto
import Derived.ShutString
import Derived.ChangeOld
namespace Go.Proofs.Ytiljachdemadhae
set_option linter.unusedVariables false
open Go.ChangeMaps (open_string shut_string)
open Go.ChangeShapes Go.WideShapes Go.ChangeAt Go.RowKit Go.Joins

set_option maxHeartbeats 1000000 in
theorem walkWideAdd (a b c d : Int) (w : World) (_ : I64 a) (hb : U64 b) (_ : I64 c) (hd : U64 d) :
    Calls Try.prog 3 #[.agg #[.int .i64 a, .int .u64 b], .agg #[.int .i64 c, .int .u64 d]] w fun e w' => e = .returned (.bool true) ∧ Below w.heap.size w w' := by
  go_enter Try.func3, Try.ntmps3
  go_wp2_with fail
  go_cut [5] (fun v w' => ∃ g : Nat, v = .pointer (some ⟨g, 0, none⟩) ∧ w'.cell? ⟨g, 0, none⟩ = some (.int .i64 (addH a b c d)) ∧ w'.cell? ⟨g, 1, none⟩ = some (.int .u64 (addL b d)) ∧ w.heap.size + 2 ≤ g ∧ g < w'.heap.size ∧ Below (w.heap.size + 2) ((w.alloc (Obj.cells #[Value.int IntKind.i64 a, Value.int IntKind.u64 b] 24)).alloc (Obj.cells #[Value.int IntKind.i64 c, Value.int IntKind.u64 d] 24)) w')
  case first =>
    go_region_held3 (Kept (w.heap.size + 2) ((w.alloc (Obj.cells #[Value.int IntKind.i64 a, Value.int IntKind.u64 b] 24)).alloc (Obj.cells #[Value.int IntKind.i64 c, Value.int IntKind.u64 d] 24)))
      (refine held ?_ (by simp) <;> first | exact (Below.refl _ _).drew | exact ((Below.refl _ _).alloc (by simp) _).drew | exact hS1 | exact Below.alloc hS1 (by omega) _ | exact Below.setCell (Below.setCell hS1 (by dsimp only; omega) _) (by dsimp only; omega) _)
      (first
        | (go_at_call 8; refine (c_toWide _ _ _).mono ?_; rintro e w1 ⟨rfl, hb1⟩; obtain ⟨hS1, hS2⟩ := held_call hb1 ‹Kept _ _ _›; (first | have hT := chain hT hb1 | have hT := hb1); obtain ⟨hc1, hf1⟩ := bcell hT; have hz2 := hb1.size; (try simp at hz2); clear hb1)
        | (go_at_call 7; refine (c_s_WideAdd _ _ _ _ _ hb hd).mono ?_; rintro e w1 ⟨rfl, hb1⟩; obtain ⟨hS1, hS2⟩ := held_call hb1 ‹Kept _ _ _›; (first | have hT := chain hT hb1 | have hT := hb1); obtain ⟨hc1, hf1⟩ := bcell hT; have hz2 := hb1.size; (try simp at hz2); clear hb1))
    all_goals (go_wp2; go_meet)
    all_goals
      have hK := ‹Kept _ _ _›
      refine ⟨_, rfl, ?_, ?_, ?_, ?_, hK.1⟩
      · go_simp
      · go_simp
      · omega
      · first | (simp; done) | (simp; omega)
  case rest =>
    obtain ⟨g, rfl, hg0, hg1, hgl, hgz, hB⟩ := hcut
    obtain ⟨hc0, hf0⟩ := bcell hB
    have hz := hB.size
    have A0 : wc.cell? ⟨w.heap.size, 0, none⟩ = some (.int .i64 a) := by rw [hc0 _ _ (by omega)]; simp
    have A1 : wc.cell? ⟨w.heap.size, 1, none⟩ = some (.int .u64 b) := by rw [hc0 _ _ (by omega)]; simp
    have A2 : wc.cell? ⟨w.heap.size + 1, 0, none⟩ = some (.int .i64 c) := by rw [hc0 _ _ (by omega)]; simp
    have A3 : wc.cell? ⟨w.heap.size + 1, 1, none⟩ = some (.int .u64 d) := by rw [hc0 _ _ (by omega)]; simp
    have Hw : Hid (Below w.heap.size w wc) := (((Below.refl _ _).alloc (Nat.le_refl _) _).alloc (by simp) _).trans (hB.mono (by omega))
    have z0 : w.heap.size < wc.heap.size := by omega
    have z1 : w.heap.size + 1 < wc.heap.size := by omega
    clear hc0 hf0 hB hz
    go_wp2_with fail
    go_cut [6] (fun v w' => ∃ g2 : Nat, v = .pointer (some ⟨g2, 0, none⟩) ∧ w'.cell? ⟨g2, 0, none⟩ = some (.int .i64 (addH a b c d)) ∧ w'.cell? ⟨g2, 1, none⟩ = some (.int .u64 (addL b d)) ∧ wc.heap.size ≤ g2 ∧ g2 < w'.heap.size ∧ Below wc.heap.size wc w')
    case first =>
      go_region_held3 (Kept wc.heap.size wc)
        (refine held ?_ (by simp) <;> first | exact (Below.refl _ _).drew | exact ((Below.refl _ _).alloc (by simp) _).drew | exact hS1 | exact Below.alloc hS1 (by omega) _ | exact Below.setCell (Below.setCell hS1 (by dsimp only; omega) _) (by dsimp only; omega) _)
        (first
          | (go_at_call 8; refine (c_toWide _ _ _).mono ?_; rintro e w1 ⟨rfl, hb1⟩; obtain ⟨hS1, hS2⟩ := held_call hb1 ‹Kept _ _ _›; (first | have hT := chain hT hb1 | have hT := hb1); obtain ⟨hc1, hf1⟩ := bcell hT; have hz2 := hb1.size; (try simp at hz2); clear hb1)
          | (go_at_call 9; refine (c_i_WideAdd _ _ _ _ _ hb hd).mono ?_; rintro e w1 ⟨rfl, hb1⟩; obtain ⟨hS1, hS2⟩ := held_call hb1 ‹Kept _ _ _›; (first | have hT := chain hT hb1 | have hT := hb1); obtain ⟨hc1, hf1⟩ := bcell hT; have hz2 := hb1.size; (try simp at hz2); clear hb1))
      all_goals (go_wp2; go_meet)
      all_goals
        have hK := ‹Kept _ _ _›
        refine ⟨_, rfl, ?_, ?_, ?_, ?_, hK.1⟩
        · go_simp
        · go_simp
        · omega
        · first | (simp; done) | (simp; omega)
    case rest =>
      obtain ⟨g2, rfl, hk0, hk1, hkl, hkz, hB⟩ := hcut
      obtain ⟨hc0, hf0⟩ := bcell hB
      have A4 : wc.cell? ⟨g, 0, none⟩ = some (.int .i64 (addH a b c d)) := by rw [hc0 _ _ hgz]; exact hg0
      have A5 : wc.cell? ⟨g, 1, none⟩ = some (.int .u64 (addL b d)) := by rw [hc0 _ _ hgz]; exact hg1
      have Hv : Hid (Below w.heap.size w wc) := Hw.out.trans (hB.mono (by omega))
      clear hc0 hf0 hB hg0 hg1 A0 A1 A2 A3 Hw
      go_wp2_with (go_at_call 10; refine (c_eqWide _ _ _).mono ?_; rintro e w1 ⟨rfl, hb1⟩)
      go_ret
      exact ⟨rfl, Hv.out.trans (hb1.mono (by omega))⟩

theorem own : ownKnob Try.prog.godebug = none := by kernel_rfl
theorem laidOut : laidOutB Try.prog = true := by kernel_rfl

set_option maxRecDepth 100000 in
theorem liftedWideAdd (os : Os) (started : os.Started) (H : Type) (enc : TypeId × Value → H) :
    ReturnsInHanded {} Try.checked os 3 .any (Rows.fnExactWideAddSpec.pre6 enc Try.prog Try.f3 Rows.fnExactWideAddRow.domain false) (Rows.fnExactWideAddSpec.post enc Try.prog Try.f3 false true false false) := by
  refine returnsInHanded_of_change (C := Try.checked) own started (by kernel_rfl) Try.func3
    (ChangeSpec.witness6 (enc := enc) (C := Try.checked) false ⟨#[], #[.agg #[.int .i64 0, .int .u64 0], .agg #[.int .i64 0, .int .u64 0]], []⟩ 8 (by kernel_rfl) (by kernel_rfl) (by kernel_rfl) (by kernel_rfl)) ?_
  intro W base args ds gs before hval0 hW hcnd _
  have hval : ∀ (j : Nat) t v, Try.f3.params[j]? = some t → args[j]? = some v → Value.okWide Try.prog W .any base t v := hval0
  have hW' := hW
  obtain ⟨p, q, hA0, hV, rfl, hfz, hnd⟩ := hW
  have hA : DataW.TrodAll enc Try.prog W 0 (fun _ => true) true Try.f3.params.toList args.toList ds p := hA0
  rw [Try.params3] at hA hval
  obtain ⟨v0, vs0, d0, ds0, p0, q0, hargs, rfl, rfl, h0, r0⟩ := trodAll_cons hA
  obtain ⟨v1, vs1, d1, ds1, p1, q1, rfl, rfl, rfl, h1, r1⟩ := trodAll_cons r0
  obtain ⟨rfl, rfl, rfl⟩ := trodAll_nil r1
  obtain rfl : args = #[v0, v1] := by cases args; simp_all
  obtain ⟨rfl, rfl⟩ := trodVars_none hV
  have k0 := h0
  have lt0 : ∀ x ∈ p0, x.block < W.heap.size := by obtain ⟨m, hm⟩ := k0; exact DataW.trod_lt m _ _ _ hm
  obtain ⟨c0, e0, y0, z0, m0, rfl, rfl, rfl, hy0, hz0⟩ := open_agg2 Try.underlying24 (by kernel_rfl) (show Try.prog.cellsOf 24 = 2 by kernel_rfl) (hval 0 24 v0 rfl rfl) h0
  obtain ⟨a0, f0, rfl, wa0⟩ := DataW.trod_int Try.underlying2 hy0
  obtain ⟨b0, g0, rfl, wb0⟩ := DataW.trod_int Try.underlying22 hz0
  simp at f0 g0; subst f0 g0
  have k1 := h1
  have lt1 : ∀ x ∈ p1, x.block < W.heap.size := by obtain ⟨m, hm⟩ := k1; exact DataW.trod_lt m _ _ _ hm
  obtain ⟨c1, e1, y1, z1, m1, rfl, rfl, rfl, hy1, hz1⟩ := open_agg2 Try.underlying24 (by kernel_rfl) (show Try.prog.cellsOf 24 = 2 by kernel_rfl) (hval 1 24 v1 rfl rfl) h1
  obtain ⟨a1, f1, rfl, wa1⟩ := DataW.trod_int Try.underlying2 hy1
  obtain ⟨b1, g1, rfl, wb1⟩ := DataW.trod_int Try.underlying22 hz1
  simp at f1 g1; subst f1 g1
  clear hA0 hval0
  refine (walkWideAdd a0 b0 a1 b1 W (bounds_i64 wa0) (bounds_u64 wb0) (bounds_i64 wa1) (bounds_u64 wb1)).mono fun e W' ⟨he, bel⟩ => ?_
  subst he
  exact ⟨_, rfl, _, _, _, [], _, [], hW', trodAll_mk1 (shut_bool Try.underlying4 _), (trodAll_cons_mk (Below.trod laidOut (by kernel_rfl) (of_decide_eq_true (by kernel_rfl)) k0 bel lt0) (trodAll_cons_mk (Below.trod laidOut (by kernel_rfl) (of_decide_eq_true (by kernel_rfl)) k1 bel lt1) trodAll_mk0)), rfl, bel.frame _, fun h => by cases h⟩

theorem overWideAdd : Rows.fnExactWideAddRow.holds Try.pinned (OpenSpec.ofChange Rows.fnExactWideAddSpec) :=
  OpenClaim.holds_of_wide 3 Try.f3 rfl rfl rfl rfl rfl rfl rfl ⟨rfl, rfl, rfl, rfl, rfl⟩ rfl rfl rfl rfl rfl (by kernel_rfl) Try.func3 (by kernel_rfl)
    (of_decide_eq_true (by kernel_rfl)) (by unfold Func.isWrapper; first | (rw [if_pos (by decide +kernel)]; kernel_rfl) | (rw [if_neg (by decide +kernel)]; exact ⟨rfl, rfl⟩))
    (fun os started H enc _ => liftedWideAdd os started H enc)

theorem fnExactWideAdd_holds : Rows.FnExactWideAddSaid := overWideAdd
#print axioms fnExactWideAdd_holds

end Go.Proofs.Ytiljachdemadhae
