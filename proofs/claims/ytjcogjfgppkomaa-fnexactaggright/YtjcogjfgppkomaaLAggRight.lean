/-
  The law FnExactAggRight: of every Agg the program says what the model says, right or not; nothing that was there has turned. No condition.
-/
import Derived.Test.YtjcogjfgppkomaaAgU
import Derived.Lib.SmallJoins
import Derived.Carry
import Derived.Deep.RegionHeld3
import Derived.Deep.DeepCutAuto
import Derived.ShutString
import Derived.ChangeOld
namespace Go.Proofs.Ytjcogjfgppkomaa
set_option linter.unusedVariables false
set_option linter.unusedSimpArgs false
open Go.ChangeMaps (open_string shut_string)
open Go.ChangeShapes Go.WideShapes Go.ChangeAt Go.RowKit Go.Joins
set_option maxRecDepth 10000

set_option maxHeartbeats 8000000 in
theorem walkAggRight (g : Ag) (p : Pl) (w : World) (ok : AgOk g) (ln : AgLen g) (hA : AgAt w g p) :
    Calls Try.prog 3 #[.agg (agArr g p)] w fun e w' => e = .returned (.bool true) ∧ Below w.heap.size w w' := by
  have HA := hide hA
  have OK := hide ok
  clear ok hA
  have hA0 : Below w.heap.size w (w.alloc (.cells (agArr g p) 33)) := (Below.refl _ _).alloc (Nat.le_refl _) _
  have K0 := agc_new w 33 g p
  go_enter Try.func3, Try.ntmps3
  go_wp2_with fail
  generalize (w.alloc (.cells (agArr g p) 33)) = W0 at hA0 K0 ⊢
  have HT0 := hide hA0
  clear hA0
  refine (c_szAgg g p _ (by omega) (by omega) ln _).mono ?_
  rintro e w1 ⟨v, rfl, hv, hsm, hb1⟩
  have HT1 := hide (chain HT0.out hb1)
  have K1 := agc_past K0 hb1
  clear hb1 K0
  by_cases hv0 : v < 0
  · clear hsm
    go_wp2
    go_ret
    exact ⟨rfl, HT1.out⟩
  obtain ⟨v0, sm⟩ := hsm hv0
  have SM := hide sm
  clear hsm sm
  go_wp2_with fail
  refine (c_toAgg (g := g) (p := p) SM.out (ag_past HA.out HT1.out)).mono ?_
  rintro e w2 ⟨gp, gn, ge, gr, rfl, _, _, _, _, _, oA, hb2⟩
  have HT2 := hide (chain HT1.out hb2)
  have K2 := agc_past K1 hb2
  have BA2 := hide oA.at
  clear hb2 K1 oA
  go_wp2_with fail
  refine (c_s_AggRight (g := g) (p := plNew g gp gn ge gr) OK.out SM.out BA2.out).mono ?_
  rintro e w3 ⟨rfl, hb3⟩
  have HT3 := hide (chain HT2.out hb3)
  have K3 := agc_past K2 hb3
  clear hb3 K2 BA2
  go_wp2_with fail
  refine (c_toAgg (g := g) (p := p) SM.out (ag_past HA.out HT3.out)).mono ?_
  rintro e w4 ⟨gp', gn', ge', gr', rfl, _, _, _, _, _, oB, hb4⟩
  have HT4 := hide (chain HT3.out hb4)
  have K4 := agc_past K3 hb4
  have BB4 := hide oB.at
  have hA4 : ∀ o, Below w4.heap.size w4 (w4.alloc o) := fun o => (Below.refl _ _).alloc (Nat.le_refl _) o
  have HA4 := hide hA4
  clear hb4 K3 oB hA4
  go_wp2_with fail
  refine (c_i_AggRight (g := g) (p := plNew g gp' gn' ge' gr') OK.out SM.out (ag_past BB4.out (HA4.out _))).mono ?_
  rintro e w5 ⟨rfl, hb5⟩
  rw [ag_one]
  have HB5 := hide (chain (HA4.out _) hb5)
  have HT5 := hide (chain HT4.out HB5.out)
  have K5 := agc_past K4 HB5.out
  have X5 := agc_past (agc_new w4 42 g (plNew g gp' gn' ge' gr')) hb5
  have HK5 : Hid (∀ W, Below w5.heap.size w5 W → AgCell W w.heap.size g p ∧ AgCell W w4.heap.size g (plNew g gp' gn' ge' gr')) := fun W hW => ⟨agc_past K5 hW, agc_past X5 hW⟩
  clear hb5 K4 K5 X5
  generalize agB g = B
  go_wp2_with fail
  go_region_held3 (fun W => Kept w5.heap.size w5 W ∧ AgCell W w.heap.size g p ∧ AgCell W w4.heap.size g (plNew g gp' gn' ge' gr'))
    (first | exact hS3 | exact ⟨held (Below.refl _ _).drew (by simp), HK5.out _ (Below.refl _ _).drew⟩)
    (first
      | (go_at_call 8; have hS := (‹Kept _ _ _ ∧ _›).1; refine (c_toAgg (g := g) (p := p) SM.out (ag_past HA.out (chain HT5.out hS.1))).mono ?_; rintro e w9 ⟨gp9, gn9, ge9, gr9, rfl, _, _, _, _, _, oA, hb9⟩; have hS1 := (held_call hb9 hS).1; have hS3 : Kept w5.heap.size w5 w9 ∧ _ := ⟨held hS1 (Nat.le_refl _), HK5.out _ hS1⟩; have BA9 := hide oA.at; clear hb9 oA hS1)
      | (go_at_call 10; have hS := (‹Kept _ _ _ ∧ _›).1; refine (c_eqAgg (g := g) SM.out (ag_past BB4.out (chain HB5.out hS.1)) BA9.out).mono ?_; rintro e w10 ⟨rfl, hb10⟩; have hS1 := (held_call hb10 hS).1; have hS3 : Kept w5.heap.size w5 w10 ∧ _ := ⟨held hS1 (Nat.le_refl _), HK5.out _ hS1⟩; clear hb10 hS1))
  have HT10 := hide (chain HT5.out hS3.1.1)
  clear hS3
  go_wp2
  go_ret
  exact ⟨rfl, HT10.out⟩

theorem own : ownKnob Try.prog.godebug = none := by kernel_rfl
theorem laidOut : laidOutB Try.prog = true := by kernel_rfl

set_option maxRecDepth 100000 in
theorem liftedAggRight (os : Os) (started : os.Started) (H : Type) (enc : TypeId × Value → H) :
    ReturnsInHanded {} Try.checked os 3 .any (Rows.fnExactAggRightSpec.pre6 enc Try.prog Try.f3 Rows.fnExactAggRightRow.domain false) (Rows.fnExactAggRightSpec.post enc Try.prog Try.f3 false true false false) := by
  refine returnsInHanded_of_change (C := Try.checked) own started (by kernel_rfl) Try.func3
    (ChangeSpec.witness6 (enc := enc) (C := Try.checked) false ⟨#[], #[.agg #[.int .i64 0, .int .u64 0, .int .i64 0, .int .u64 0, .int .i64 0, .int .i64 0, .int .u64 0, .slice none 0 0, .slice none 0 0, .int .i64 0, .int .u64 0, .slice none 0 0, .slice none 0 0]], []⟩ 8 (by kernel_rfl) (by kernel_rfl) (by kernel_rfl) (by kernel_rfl)) ?_
  intro W base args ds gs before hval0 hW hcnd _
  have hval : ∀ (j : Nat) t v, Try.f3.params[j]? = some t → args[j]? = some v → Value.okWide Try.prog W .any base t v := hval0
  have hW' := hW
  obtain ⟨p, q, hA0, hV, rfl, hfz, hnd⟩ := hW
  have hA : DataW.TrodAll enc Try.prog W 0 (fun _ => true) true Try.f3.params.toList args.toList ds p := hA0
  rw [Try.params3] at hA hval
  obtain ⟨v0, vs0, d0, ds0, p0, q0, hargs, rfl, rfl, h0, r0⟩ := trodAll_cons hA
  obtain ⟨rfl, rfl, rfl⟩ := trodAll_nil r0
  obtain rfl : args = #[v0] := by cases args; simp_all
  obtain ⟨rfl, rfl⟩ := trodVars_none hV
  have k0 := h0
  have lt0 : ∀ x ∈ p0, x.block < W.heap.size := by obtain ⟨m, hm⟩ := k0; exact DataW.trod_lt m _ _ _ hm
  obtain ⟨g0, pl0, rfl, ok0, ln0, at0⟩ := open_agg (hval 0 33 v0 rfl rfl) h0
  clear hA0 hval0
  refine (walkAggRight g0 pl0 W ok0 ln0 at0).mono fun e W' ⟨he, bel⟩ => ?_
  subst he
  exact ⟨_, rfl, _, _, _, [], _, [], hW', trodAll_mk1 (shut_bool Try.underlying4 _), (trodAll_cons_mk (Below.trod laidOut (by kernel_rfl) (of_decide_eq_true (by kernel_rfl)) k0 bel lt0) trodAll_mk0), rfl, bel.frame _, fun h => by cases h⟩

theorem overAggRight : Rows.fnExactAggRightRow.holds Try.pinned (OpenSpec.ofChange Rows.fnExactAggRightSpec) :=
  OpenClaim.holds_of_wide 3 Try.f3 rfl rfl rfl rfl rfl rfl rfl ⟨rfl, rfl, rfl, rfl, rfl⟩ rfl rfl rfl rfl rfl (by kernel_rfl) Try.func3 (by kernel_rfl)
    (of_decide_eq_true (by kernel_rfl)) (by unfold Func.isWrapper; first | (rw [if_pos (by decide +kernel)]; kernel_rfl) | (rw [if_neg (by decide +kernel)]; exact ⟨rfl, rfl⟩))
    (fun os started H enc _ => liftedAggRight os started H enc)

theorem fnExactAggRight_holds : Rows.FnExactAggRightSaid := overAggRight
#print axioms fnExactAggRight_holds

end Go.Proofs.Ytjcogjfgppkomaa
