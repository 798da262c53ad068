/-
  The law FnExactHllCount: at every sketch of how many the program tells how many as the model does; nothing that was there has turned. No condition.
-/
import Derived.Test.YtgmeofghbilihaaHlN
import Derived.Test.YtgmeofghbilihaaHlC
import Derived.Test.YtgmeofghbilihaaOpenH
import Derived.Lib.SmallJoins
import Derived.Carry
import Derived.Deep.RegionHeld3
import Derived.Deep.DeepCutAuto
import Derived.ShutString
import Derived.ChangeOld
namespace Go.Proofs.Ytgmeofghbilihaa
set_option linter.unusedVariables false
set_option linter.unusedSimpArgs false
open Go.ChangeMaps (open_string shut_string)
open Go.ChangeShapes Go.WideShapes Go.ChangeAt Go.RowKit Go.Joins
set_option maxRecDepth 10000

set_option maxHeartbeats 2000000 in
theorem walkHllCount (pa na : Option Addr) (pc nc : Nat) (P N : List Int) (w : World) (lP : P.length ≤ maxLen) (lN : N.length ≤ maxLen) (kP : ∀ x ∈ P, U64 x) (kN : ∀ x ∈ N, I64 x) (hP : NumsAt .u64 w pa P) (hN : NumsAt .i64 w na N) :
    Calls Try.prog 4 #[.agg #[.slice pa P.length pc, .slice na N.length nc]] w fun e w' => e = .returned (.bool true) ∧ Below w.heap.size w w' := by
  obtain ⟨pn, ep⟩ : ∃ n, P.length = n := ⟨_, rfl⟩
  obtain ⟨nn, en⟩ : ∃ n, N.length = n := ⟨_, rfl⟩
  rw [ep] at lP; rw [en] at lN
  rw [ep, en]
  have HP := hide hP
  have HN := hide hN
  have KP := hide kP
  have KN := hide kN
  have EP := hide ep
  have EN := hide en
  have hW : ∀ o1, Below w.heap.size w (w.alloc o1) := fun o1 => (Below.refl _ _).alloc (Nat.le_refl _) _
  have HW := hide hW
  clear hP hN kP kN ep en hW 
  go_enter Try.func4, Try.ntmps4
  go_wp2_with fail
  refine (c_szHll _ _ _ _ _ _ _ (by omega) (by omega) lP lN _).mono ?_
  rintro e w1 ⟨v, rfl, hv, hsm, hb1⟩
  have HT1 := hide ((HW.out _).trans (hb1.mono (by simp)))
  have K1 := hl_past (hl_new w _ _ _) hb1
  clear hb1
  by_cases hv0 : v < 0
  · clear hsm
    go_wp2
    go_ret
    exact ⟨rfl, HT1.out⟩
  · obtain ⟨v0, lp, ln⟩ := hsm hv0
    clear hsm
    go_wp2_with fail
    refine (c_toHll EP.out EN.out lp ln (nums_past HP.out HT1.out) (nums_past HN.out HT1.out)).mono ?_
    rintro e w2 ⟨gp, gn, rfl, q1, q2, q3, oP, oN, hb2⟩
    have HT2 := hide (chain HT1.out hb2)
    have K2 := hl_past K1 hb2
    have BP := hide (nums_owned oP EP.out)
    have BN := hide (nums_owned oN EN.out)
    clear hb2 oP oN K1
    go_wp2_with fail
    refine (c_s_HllCount EP.out EN.out lp ln BP.out BN.out KN.out).mono ?_
    rintro e w3 ⟨rfl, hb3⟩
    have HT3 := hide (chain HT2.out hb3)
    have K3 := hl_past K2 hb3
    clear hb3 K2
    go_wp2_with fail
    refine (c_toHll EP.out EN.out lp ln (nums_past HP.out HT3.out) (nums_past HN.out HT3.out)).mono ?_
    rintro e w4 ⟨gp2, gn2, rfl, q4, q5, q6, oP, oN, hb4⟩
    have HT4 := hide (chain HT3.out hb4)
    have K4 := hl_past K3 hb4
    have BP4 := hide (nums_owned oP EP.out)
    have BN4 := hide (nums_owned oN EN.out)
    clear hb4 oP oN K3
    go_wp2_with fail
    refine (c_i_HllCount EP.out EN.out lp ln (nums_past BP4.out ((Below.refl _ _).alloc (Nat.le_refl _) _)) (nums_past BN4.out ((Below.refl _ _).alloc (Nat.le_refl _) _))).mono ?_
    rintro e w5 ⟨rfl, hb5⟩
    have HA5 := hide (chain ((Below.refl _ _).alloc (Nat.le_refl _) _) hb5)
    have K5 := hl_past K4 HA5.out
    have J5 := hl_past (hl_new w4 _ _ _) hb5
    have HT5 := hide (chain HT4.out HA5.out)
    clear hb5 K4
    have hT6 : ∀ W, Kept w5.heap.size w5 W → Below w.heap.size w W ∧ Below w4.heap.size w4 W := fun W hW => ⟨chain HT5.out hW.1, chain HA5.out hW.1⟩
    have hK6 : ∀ W, Below w5.heap.size w5 W → HlCell W w.heap.size (.slice pa pn pc) (.slice na nn nc) ∧ HlCell W w4.heap.size (.slice (some ⟨gp2, 0, none⟩) pn pn) (.slice (some ⟨gn2, 0, none⟩) nn nn) := fun W hW => ⟨hl_past K5 hW, hl_past J5 hW⟩
    have HT6 := hide hT6
    have HK6 := hide hK6
    clear hT6 hK6
    go_wp2_with fail
    go_region_held3 (fun W => Kept w5.heap.size w5 W ∧ HlCell W w.heap.size (.slice pa pn pc) (.slice na nn nc) ∧ HlCell W w4.heap.size (.slice (some ⟨gp2, 0, none⟩) pn pn) (.slice (some ⟨gn2, 0, none⟩) nn nn))
      (first | exact hS3 | exact ⟨held (Below.refl _ _).drew (by simp), HK6.out _ (Below.refl _ _).drew⟩)
      (first
        | (go_at_call 8; have hS := (‹Kept _ _ _ ∧ _ ∧ _›).1; refine (c_toHll EP.out EN.out lp ln (nums_past HP.out (HT6.out _ hS).1) (nums_past HN.out (HT6.out _ hS).1)).mono ?_; rintro e w6 ⟨gp3, gn3, rfl, q7, q8, q9, oP, oN, hb6⟩; have hS1 := (held_call hb6 hS).1; have hS3 : Kept w5.heap.size w5 w6 ∧ _ := ⟨held hS1 (Nat.le_refl _), HK6.out _ hS1⟩; have BP6 := hide (nums_owned oP EP.out); have BN6 := hide (nums_owned oN EN.out); clear hb6 oP oN)
        | (go_at_call 10; have hS := (‹Kept _ _ _ ∧ _ ∧ _›).1; refine (c_eqHll EP.out EN.out lp ln (nums_past BP4.out (HT6.out _ hS).2) (nums_past BN4.out (HT6.out _ hS).2) BP6.out BN6.out).mono ?_; rintro e w7 ⟨rfl, hb7⟩; have hS1 := (held_call hb7 hS).1; have hS3 : Kept w5.heap.size w5 w7 ∧ _ := ⟨held hS1 (Nat.le_refl _), HK6.out _ hS1⟩; clear hb7))
    go_wp2
    go_ret
    exact ⟨rfl, (HT6.out _ hS3.1).1⟩

theorem own : ownKnob Try.prog.godebug = none := by kernel_rfl
theorem laidOut : laidOutB Try.prog = true := by kernel_rfl

set_option maxRecDepth 100000 in
theorem liftedHllCount (os : Os) (started : os.Started) (H : Type) (enc : TypeId × Value → H) :
    ReturnsInHanded {} Try.checked os 4 .any (Rows.fnExactHllCountSpec.pre6 enc Try.prog Try.f4 Rows.fnExactHllCountRow.domain false) (Rows.fnExactHllCountSpec.post enc Try.prog Try.f4 false true false false) := by
  refine returnsInHanded_of_change (C := Try.checked) own started (by kernel_rfl) Try.func4
    (ChangeSpec.witness6 (enc := enc) (C := Try.checked) false ⟨#[], #[.agg #[.slice none 0 0, .slice none 0 0]], []⟩ 8 (by kernel_rfl) (by kernel_rfl) (by kernel_rfl) (by kernel_rfl)) ?_
  intro W base args ds gs before hval0 hW hcnd _
  have hval : ∀ (j : Nat) t v, Try.f4.params[j]? = some t → args[j]? = some v → Value.okWide Try.prog W .any base t v := hval0
  have hW' := hW
  obtain ⟨p, q, hA0, hV, rfl, hfz, hnd⟩ := hW
  have hA : DataW.TrodAll enc Try.prog W 0 (fun _ => true) true Try.f4.params.toList args.toList ds p := hA0
  rw [Try.params4] at hA hval
  obtain ⟨v0, vs0, d0, ds0, p0, q0, hargs, rfl, rfl, h0, r0⟩ := trodAll_cons hA
  obtain ⟨rfl, rfl, rfl⟩ := trodAll_nil r0
  obtain rfl : args = #[v0] := by cases args; simp_all
  obtain ⟨rfl, rfl⟩ := trodVars_none hV
  have k0 := h0
  have lt0 : ∀ x ∈ p0, x.block < W.heap.size := by obtain ⟨m, hm⟩ := k0; exact DataW.trod_lt m _ _ _ hm
  obtain ⟨a0, b0, c0, f0, P0, N0, rfl, mP0, mN0, kP0, kN0, hP0, hN0⟩ := open_hll (hval 0 25 v0 rfl rfl) h0
  clear hA0 hval0
  refine (walkHllCount a0 b0 c0 f0 P0 N0 W mP0 mN0 kP0 kN0 hP0 hN0).mono fun e W' ⟨he, bel⟩ => ?_
  subst he
  exact ⟨_, rfl, _, _, _, [], _, [], hW', trodAll_mk1 (shut_bool Try.underlying4 _), (trodAll_cons_mk (Below.trod laidOut (by kernel_rfl) (of_decide_eq_true (by kernel_rfl)) k0 bel lt0) trodAll_mk0), rfl, bel.frame _, fun h => by cases h⟩

theorem overHllCount : Rows.fnExactHllCountRow.holds Try.pinned (OpenSpec.ofChange Rows.fnExactHllCountSpec) :=
  OpenClaim.holds_of_wide 4 Try.f4 rfl rfl rfl rfl rfl rfl rfl ⟨rfl, rfl, rfl, rfl, rfl⟩ rfl rfl rfl rfl rfl (by kernel_rfl) Try.func4 (by kernel_rfl)
    (of_decide_eq_true (by kernel_rfl)) (by unfold Func.isWrapper; first | (rw [if_pos (by decide +kernel)]; kernel_rfl) | (rw [if_neg (by decide +kernel)]; exact ⟨rfl, rfl⟩))
    (fun os started H enc _ => liftedHllCount os started H enc)

theorem fnExactHllCount_holds : Rows.FnExactHllCountSaid := overHllCount
#print axioms fnExactHllCount_holds


end Go.Proofs.Ytgmeofghbilihaa
