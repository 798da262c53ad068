/-
  The law FnExactWideText: at every wide number the program's text is the model's; nothing that was there has turned. No condition.
-/
import Derived.Test.YtiljachdemadhaeWTextI
import Derived.Test.YtiljachdemadhaeKeep
import Derived.Lib.SmallJoins
import Derived.Carry
import Derived.Deep.RegionHeld3
import Derived.Deep.DeepCutAuto
import Derived.ShutString
import Derived.ChangeOld
namespace Go.Proofs.Ytiljachdemadhae
set_option linter.unusedVariables false
open Go.ChangeMaps (open_string shut_string)
open Go.ChangeShapes Go.WideShapes Go.ChangeAt Go.RowKit Go.Joins

set_option maxHeartbeats 1000000 in
theorem walkWideText (a b : Int) (w : World) (ha : I64 a) (hb : U64 b) :
    Calls Try.prog 6 #[.agg #[.int .i64 a, .int .u64 b]] w fun e w' => e = .returned (.bool true) ∧ Below w.heap.size w w' := by
  go_enter Try.func6, Try.ntmps6
  go_wp2_with (first
    | (go_at_call 8; refine (c_toWide _ _ _).mono ?_; rintro e w1 ⟨rfl, hb1⟩; (first | have hT := chain hT hb1 | have hT := hb1); have c0 := cell_past (a := ⟨w.heap.size, 0, none⟩) (v := .int .i64 a) hT (by simp); have c1 := cell_past (a := ⟨w.heap.size, 1, none⟩) (v := .int .u64 b) hT (by simp); clear hb1)
    | (go_at_call 15; refine (c_s_WideText _ _ ha hb _).mono ?_; rintro e w1 ⟨rfl, hb1⟩; have hT := chain hT hb1; have c0 := cell_past (a := ⟨w.heap.size, 0, none⟩) (v := .int .i64 a) hT (by simp); have c1 := cell_past (a := ⟨w.heap.size, 1, none⟩) (v := .int .u64 b) hT (by simp); clear hb1)
    | (go_at_call 16; refine (c_i_WideText _ _ ha hb _).mono ?_; rintro e w1 ⟨rfl, hb1⟩; have hT := chain hT hb1; clear hb1))
  go_ret
  exact ⟨rfl, ((Below.refl _ _).alloc (Nat.le_refl _) _).trans (hT.mono (by simp))⟩

theorem own : ownKnob Try.prog.godebug = none := by kernel_rfl
theorem laidOut : laidOutB Try.prog = true := by kernel_rfl

set_option maxRecDepth 100000 in
theorem liftedWideText (os : Os) (started : os.Started) (H : Type) (enc : TypeId × Value → H) :
    ReturnsInHanded {} Try.checked os 6 .any (Rows.fnExactWideTextSpec.pre6 enc Try.prog Try.f6 Rows.fnExactWideTextRow.domain false) (Rows.fnExactWideTextSpec.post enc Try.prog Try.f6 false true false false) := by
  refine returnsInHanded_of_change (C := Try.checked) own started (by kernel_rfl) Try.func6
    (ChangeSpec.witness6 (enc := enc) (C := Try.checked) false ⟨#[], #[.agg #[.int .i64 0, .int .u64 0]], []⟩ 8 (by kernel_rfl) (by kernel_rfl) (by kernel_rfl) (by kernel_rfl)) ?_
  intro W base args ds gs before hval0 hW hcnd _
  have hval : ∀ (j : Nat) t v, Try.f6.params[j]? = some t → args[j]? = some v → Value.okWide Try.prog W .any base t v := hval0
  have hW' := hW
  obtain ⟨p, q, hA0, hV, rfl, hfz, hnd⟩ := hW
  have hA : DataW.TrodAll enc Try.prog W 0 (fun _ => true) true Try.f6.params.toList args.toList ds p := hA0
  rw [Try.params6] at hA hval
  obtain ⟨v0, vs0, d0, ds0, p0, q0, hargs, rfl, rfl, h0, r0⟩ := trodAll_cons hA
  obtain ⟨rfl, rfl, rfl⟩ := trodAll_nil r0
  obtain rfl : args = #[v0] := by cases args; simp_all
  obtain ⟨rfl, rfl⟩ := trodVars_none hV
  have k0 := h0
  have lt0 : ∀ x ∈ p0, x.block < W.heap.size := by obtain ⟨m, hm⟩ := k0; exact DataW.trod_lt m _ _ _ hm
  obtain ⟨c0, e0, y0, z0, m0, rfl, rfl, rfl, hy0, hz0⟩ := open_agg2 Try.underlying24 (by kernel_rfl) (show Try.prog.cellsOf 24 = 2 by kernel_rfl) (hval 0 24 v0 rfl rfl) h0
  obtain ⟨a0, f0, rfl, wa0⟩ := DataW.trod_int Try.underlying2 hy0
  obtain ⟨b0, g0, rfl, wb0⟩ := DataW.trod_int Try.underlying22 hz0
  simp at f0 g0; subst f0 g0
  clear hA0 hval0
  refine (walkWideText a0 b0 W (bounds_i64 wa0) (bounds_u64 wb0)).mono fun e W' ⟨he, bel⟩ => ?_
  subst he
  exact ⟨_, rfl, _, _, _, [], _, [], hW', trodAll_mk1 (shut_bool Try.underlying4 _), (trodAll_cons_mk (Below.trod laidOut (by kernel_rfl) (of_decide_eq_true (by kernel_rfl)) k0 bel lt0) trodAll_mk0), rfl, bel.frame _, fun h => by cases h⟩

theorem overWideText : Rows.fnExactWideTextRow.holds Try.pinned (OpenSpec.ofChange Rows.fnExactWideTextSpec) :=
  OpenClaim.holds_of_wide 6 Try.f6 rfl rfl rfl rfl rfl rfl rfl ⟨rfl, rfl, rfl, rfl, rfl⟩ rfl rfl rfl rfl rfl (by kernel_rfl) Try.func6 (by kernel_rfl)
    (of_decide_eq_true (by kernel_rfl)) (by unfold Func.isWrapper; first | (rw [if_pos (by decide +kernel)]; kernel_rfl) | (rw [if_neg (by decide +kernel)]; exact ⟨rfl, rfl⟩))
    (fun os started H enc _ => liftedWideText os started H enc)

theorem fnExactWideText_holds : Rows.FnExactWideTextSaid := overWideText
#print axioms fnExactWideText_holds

end Go.Proofs.Ytiljachdemadhae
