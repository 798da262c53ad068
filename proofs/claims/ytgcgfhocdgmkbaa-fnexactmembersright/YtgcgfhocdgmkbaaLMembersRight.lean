/-
  The law FnExactMembersRight: at every list of texts the program says of it what the model says, right members or none; nothing that was there has turned. No condition.
-/
import Derived.Test.YtgcgfhocdgmkbaaMath
import Derived.Test.YtgcgfhocdgmkbaaMembC
import Derived.Test.YtgcgfhocdgmkbaaOpenS
import Derived.Test.YtgcgfhocdgmkbaaKeep
import Derived.Lib.SmallJoins
import Derived.Carry
import Derived.Deep.RegionHeld3
import Derived.Deep.DeepCutAuto
import Derived.ShutString
import Derived.ChangeOld
namespace Go.Proofs.Ytgcgfhocdgmkbaa
set_option linter.unusedVariables false
set_option linter.unusedSimpArgs false
open Go.ChangeMaps (open_string shut_string)
open Go.ChangeShapes Go.WideShapes Go.ChangeAt Go.RowKit Go.Joins

set_option maxHeartbeats 1000000 in
theorem walkMembersRight (ao : Option Addr) (cap : Nat) (L : List ByteArray) (w : World) (hl : L.length ≤ maxLen) (hu : ∀ u ∈ L, u.size ≤ maxLen) (hS : StrsAt w ao L) :
    Calls Try.prog 4 #[.slice ao L.length cap] w fun e w' => e = .returned (.bool true) ∧ Below w.heap.size w w' := by
  go_enter Try.func4, Try.ntmps4
  go_wp2_with (go_at_call 7; refine (c_szStringS _ _ (by omega) (by omega) hl hu hS).mono ?_; rintro e w1 ⟨v, rfl, hv, hn, hw⟩; obtain rfl := hw.symm)
  · go_ret
    exact ⟨rfl, Below.refl _ _⟩
  · obtain ⟨hl, hu⟩ := hn ‹_›
    clear hn
    go_wp2_with (go_at_call 9; refine (c_toStringS _ hl hS).mono ?_; rintro e w1 ⟨g1, rfl, ho1, hb1⟩)
    go_wp2_with (go_at_call 8; refine (c_s_MembersRight _ hl hu (strs_owned ho1)).mono ?_; rintro e w2 ⟨rfl, hb2⟩)
    have hT2 : Below w.heap.size w w2 := chain hb1 hb2
    go_wp2_with (go_at_call 9; refine (c_toStringS _ hl (strs_past hS hT2)).mono ?_; rintro e w3 ⟨g3, rfl, ho3, hb3⟩)
    go_wp2_with (go_at_call 10; refine (c_i_MembersRight _ hl hu (strs_owned ho3)).mono ?_; rintro e w4 ⟨rfl, hb4⟩)
    have hT4 : Below w.heap.size w w4 := chain (chain hT2 hb3) hb4
    go_wp2_with (go_at_call 9; refine (c_toStringS _ hl (strs_past hS hT4)).mono ?_; rintro e w5 ⟨g5, rfl, ho5, hb5⟩)
    go_wp2_with (go_at_call 11; refine (c_eqStringS _ _ hl (strs_past (strs_owned ho3) (chain hb4 hb5)) (strs_owned ho5)).mono ?_; rintro e w6 ⟨rfl, hb6⟩)
    go_ret
    exact ⟨rfl, chain (chain hT4 hb5) hb6⟩

theorem own : ownKnob Try.prog.godebug = none := by kernel_rfl
theorem laidOut : laidOutB Try.prog = true := by kernel_rfl

set_option maxRecDepth 100000 in
theorem liftedMembersRight (os : Os) (started : os.Started) (H : Type) (enc : TypeId × Value → H) :
    ReturnsInHanded {} Try.checked os 4 .any (Rows.fnExactMembersRightSpec.pre6 enc Try.prog Try.f4 Rows.fnExactMembersRightRow.domain false) (Rows.fnExactMembersRightSpec.post enc Try.prog Try.f4 false true false false) := by
  refine returnsInHanded_of_change (C := Try.checked) own started (by kernel_rfl) Try.func4
    (ChangeSpec.witness6 (enc := enc) (C := Try.checked) false ⟨#[], #[.slice none 0 0], []⟩ 8 (by kernel_rfl) (by kernel_rfl) (by kernel_rfl) (by kernel_rfl)) ?_
  intro W base args ds gs before hval0 hW hcnd _
  have hval : ∀ (j : Nat) t v, Try.f4.params[j]? = some t → args[j]? = some v → Value.okWide Try.prog W .any base t v := hval0
  have hW' := hW
  obtain ⟨p, q, hA0, hV, rfl, hfz, hnd⟩ := hW
  have hA : DataW.TrodAll enc Try.prog W 0 (fun _ => true) true Try.f4.params.toList args.toList ds p := hA0
  rw [Try.params4] at hA hval
  obtain ⟨v0, vs0, d0, ds0, p0, q0, hargs, rfl, rfl, h0, r0⟩ := trodAll_cons hA
  obtain ⟨rfl, rfl, rfl⟩ := trodAll_nil r0
  obtain rfl : args = #[v0] := by cases args; simp_all
  obtain ⟨rfl, rfl⟩ := trodVars_none hV
  have k0 := h0
  have lt0 : ∀ x ∈ p0, x.block < W.heap.size := by obtain ⟨m, hm⟩ := k0; exact DataW.trod_lt m _ _ _ hm
  obtain ⟨a0, c0, l0, rfl, m0, u0, s0⟩ := open_strs (hval 0 25 v0 rfl rfl) h0
  clear hA0 hval0
  refine (walkMembersRight a0 c0 l0 W m0 u0 s0).mono fun e W' ⟨he, bel⟩ => ?_
  subst he
  exact ⟨_, rfl, _, _, _, [], _, [], hW', trodAll_mk1 (shut_bool Try.underlying4 _), (trodAll_cons_mk (Below.trod laidOut (by kernel_rfl) (of_decide_eq_true (by kernel_rfl)) k0 bel lt0) trodAll_mk0), rfl, bel.frame _, fun h => by cases h⟩

theorem overMembersRight : Rows.fnExactMembersRightRow.holds Try.pinned (OpenSpec.ofChange Rows.fnExactMembersRightSpec) :=
  OpenClaim.holds_of_wide 4 Try.f4 rfl rfl rfl rfl rfl rfl rfl ⟨rfl, rfl, rfl, rfl, rfl⟩ rfl rfl rfl rfl rfl (by kernel_rfl) Try.func4 (by kernel_rfl)
    (of_decide_eq_true (by kernel_rfl)) (by unfold Func.isWrapper; first | (rw [if_pos (by decide +kernel)]; kernel_rfl) | (rw [if_neg (by decide +kernel)]; exact ⟨rfl, rfl⟩))
    (fun os started H enc _ => liftedMembersRight os started H enc)

theorem fnExactMembersRight_holds : Rows.FnExactMembersRightSaid := overMembersRight
#print axioms fnExactMembersRight_holds

end Go.Proofs.Ytgcgfhocdgmkbaa
