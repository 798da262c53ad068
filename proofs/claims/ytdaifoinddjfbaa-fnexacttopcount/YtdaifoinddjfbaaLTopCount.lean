/-
  The law FnExactTopCount: at every Top and key the program tells the count that the model tells; nothing that was there has turned. No condition.
-/
import Derived.Test.YtdaifoinddjfbaaTopN
import Derived.Test.YtdaifoinddjfbaaOpenT
import Derived.Lib.SmallJoins
import Derived.Carry
import Derived.Deep.RegionHeld3
import Derived.Deep.DeepCutAuto
import Derived.ShutString
import Derived.ChangeOld
namespace Go.Proofs.Ytdaifoinddjfbaa
set_option linter.unusedVariables false
set_option linter.unusedSimpArgs false
open Go.ChangeMaps (open_string shut_string)
open Go.ChangeShapes Go.WideShapes Go.ChangeAt Go.RowKit Go.Joins
set_option maxRecDepth 10000

set_option maxHeartbeats 2000000 in
theorem walkTopCount (pa : Option Addr) (pc : Nat) (P : List Hv) (d t : Int) (p : ByteArray) (w : World) (lP : P.length ≤ maxLen) (kP : ∀ x ∈ P, HvIn x) (hd : I64 d) (ht : I64 t) (hP : HvsAt w pa P) (hpm : p.size ≤ maxLen) :
    Calls Try.prog 4 #[.agg #[.slice pa P.length pc, .int .i64 d, .int .i64 t], .string p] w fun e w' => e = .returned (.bool true) ∧ Below w.heap.size w w' := by
  obtain ⟨pn, ep⟩ : ∃ n, P.length = n := ⟨_, rfl⟩
  rw [ep] at lP
  rw [ep]
  have HP := hide hP
  have KP := hide kP
  have EP := hide ep
  have HD := hide hd
  have HTt := hide ht
  have hW : ∀ o1, Below w.heap.size w (w.alloc o1) := fun o1 => (Below.refl _ _).alloc (Nat.le_refl _) _
  have HW := hide hW
  clear hP kP ep hW hd ht
  unfold maxLen at hpm
  rcases Nat.lt_or_ge 1048576 p.size with hpz | hpz
  · go_enter Try.func4, Try.ntmps4
    go_wp2
    go_ret
    exact ⟨rfl, HW.out _⟩
  go_enter Try.func4, Try.ntmps4
  go_wp2_with fail
  refine (c_szTop _ _ _ _ _ (by omega) (by omega) EP.out lP (hv_len KP.out) (hvs_past HP.out (HW.out _))).mono ?_
  rintro e w1 ⟨v, rfl, hv, hsm, hb1⟩
  have HT1 := hide ((HW.out _).trans (hb1.mono (by simp)))
  have K1 := tp_past (tp_new w _ _ _ _) hb1
  clear hb1
  by_cases hv0 : v < 0
  · clear hsm
    go_wp2
    go_ret
    exact ⟨rfl, HT1.out⟩
  · obtain ⟨v0, lp, hsz⟩ := hsm hv0
    have KO := hide (hv_ok KP.out hsz)
    clear hsm hsz
    go_wp2_with fail
    refine (c_toTop EP.out lp (hvs_past HP.out HT1.out)).mono ?_
    rintro e w2 ⟨gp, rfl, q1, q2, oP, hb2⟩
    have HT2 := hide (chain HT1.out hb2)
    have K2 := tp_past K1 hb2
    have BP := hide (hvs_owned oP EP.out.symm rfl)
    clear hb2 oP K1
    go_wp2_with fail
    refine (c_s_TopCount _ _ _ hpz EP.out lp BP.out KO.out HD.out HTt.out).mono ?_
    rintro e w3 ⟨rfl, hb3⟩
    have HT3 := hide (chain HT2.out hb3)
    have K3 := tp_past K2 hb3
    clear hb3 K2 BP
    go_wp2_with fail
    refine (c_toTop EP.out lp (hvs_past HP.out HT3.out)).mono ?_
    rintro e w4 ⟨gp2, rfl, q3, q4, oP, hb4⟩
    have HT4 := hide (chain HT3.out hb4)
    have K4 := tp_past K3 hb4
    have BP4 := hide (hvs_owned oP EP.out.symm rfl)
    clear hb4 oP K3
    go_wp2_with fail
    refine (c_i_TopCount _ _ _ EP.out lp (hvs_past BP4.out ((Below.refl _ _).alloc (Nat.le_refl _) _)) KO.out HD.out HTt.out).mono ?_
    rintro e w5 ⟨rfl, hb5⟩
    have HA5 := hide (chain ((Below.refl _ _).alloc (Nat.le_refl _) _) hb5)
    have K5 := tp_past K4 HA5.out
    have J5 := tp_past (tp_new w4 _ _ _ _) hb5
    have HT5 := hide (chain HT4.out HA5.out)
    clear hb5 K4
    have hT6 : ∀ W, Kept w5.heap.size w5 W → Below w.heap.size w W ∧ Below w4.heap.size w4 W := fun W hW => ⟨chain HT5.out hW.1, chain HA5.out hW.1⟩
    have hK6 : ∀ W, Below w5.heap.size w5 W → TpCell W w.heap.size (.slice pa pn pc) d t ∧ TpCell W w4.heap.size (.slice (some ⟨gp2, 0, none⟩) pn pn) d t := fun W hW => ⟨tp_past K5 hW, tp_past J5 hW⟩
    have HT6 := hide hT6
    have HK6 := hide hK6
    clear hT6 hK6
    go_wp2_with fail
    go_region_held3 (fun W => Kept w5.heap.size w5 W ∧ TpCell W w.heap.size (.slice pa pn pc) d t ∧ TpCell W w4.heap.size (.slice (some ⟨gp2, 0, none⟩) pn pn) d t)
      (first | exact hS3 | exact ⟨held (Below.refl _ _).drew (by simp), HK6.out _ (Below.refl _ _).drew⟩)
      (first
        | (go_at_call 7; have hS := (‹Kept _ _ _ ∧ _ ∧ _›).1; refine (c_toTop EP.out lp (hvs_past HP.out (HT6.out _ hS).1)).mono ?_; rintro e w6 ⟨gp3, rfl, q5, q6, oP, hb6⟩; have hS1 := (held_call hb6 hS).1; have hS3 : Kept w5.heap.size w5 w6 ∧ _ := ⟨held hS1 (Nat.le_refl _), HK6.out _ hS1⟩; have BP6 := hide (hvs_owned oP EP.out.symm rfl); clear hb6 oP)
        | (go_at_call 9; have hS := (‹Kept _ _ _ ∧ _ ∧ _›).1; refine (c_eqTop EP.out lp (hvs_past BP4.out (HT6.out _ hS).2) BP6.out).mono ?_; rintro e w7 ⟨rfl, hb7⟩; have hS1 := (held_call hb7 hS).1; have hS3 : Kept w5.heap.size w5 w7 ∧ _ := ⟨held hS1 (Nat.le_refl _), HK6.out _ hS1⟩; clear hb7))
    go_wp2
    go_ret
    exact ⟨rfl, (HT6.out _ hS3.1).1⟩

theorem own : ownKnob Try.prog.godebug = none := by kernel_rfl
theorem laidOut : laidOutB Try.prog = true := by kernel_rfl

set_option maxRecDepth 100000 in
theorem liftedTopCount (os : Os) (started : os.Started) (H : Type) (enc : TypeId × Value → H) :
    ReturnsInHanded {} Try.checked os 4 .any (Rows.fnExactTopCountSpec.pre6 enc Try.prog Try.f4 Rows.fnExactTopCountRow.domain false) (Rows.fnExactTopCountSpec.post enc Try.prog Try.f4 false true false false) := by
  refine returnsInHanded_of_change (C := Try.checked) own started (by kernel_rfl) Try.func4
    (ChangeSpec.witness6 (enc := enc) (C := Try.checked) false ⟨#[], #[.agg #[.slice none 0 0, .int .i64 0, .int .i64 0], .string ByteArray.empty], []⟩ 8 (by kernel_rfl) (by kernel_rfl) (by kernel_rfl) (by kernel_rfl)) ?_
  intro W base args ds gs before hval0 hW hcnd _
  have hval : ∀ (j : Nat) t v, Try.f4.params[j]? = some t → args[j]? = some v → Value.okWide Try.prog W .any base t v := hval0
  have hW' := hW
  obtain ⟨p, q, hA0, hV, rfl, hfz, hnd⟩ := hW
  have hA : DataW.TrodAll enc Try.prog W 0 (fun _ => true) true Try.f4.params.toList args.toList ds p := hA0
  rw [Try.params4] at hA hval
  obtain ⟨v0, vs0, d0, ds0, p0, q0, hargs, rfl, rfl, h0, r0⟩ := trodAll_cons hA
  obtain ⟨v1, vs1, d1, ds1, p1, q1, rfl, rfl, rfl, h1, r1⟩ := trodAll_cons r0
  obtain ⟨rfl, rfl, rfl⟩ := trodAll_nil r1
  obtain rfl : args = #[v0, v1] := by cases args; simp_all
  obtain ⟨rfl, rfl⟩ := trodVars_none hV
  have k0 := h0
  have lt0 : ∀ x ∈ p0, x.block < W.heap.size := by obtain ⟨m, hm⟩ := k0; exact DataW.trod_lt m _ _ _ hm
  obtain ⟨a0, c0, P0, b0, t0, rfl, mP0, kP0, hb0, ht0, hP0⟩ := open_top (hval 0 24 v0 rfl rfl) h0
  have k1 := h1
  have lt1 : ∀ x ∈ p1, x.block < W.heap.size := by obtain ⟨m, hm⟩ := k1; exact DataW.trod_lt m _ _ _ hm
  obtain ⟨a1, rfl, rfl, rfl, w1⟩ := open_string Try.underlying9 (hval 1 9 v1 rfl rfl) h1
  clear hA0 hval0
  refine (walkTopCount a0 c0 P0 b0 t0 a1 W mP0 kP0 hb0 ht0 hP0 w1).mono fun e W' ⟨he, bel⟩ => ?_
  subst he
  exact ⟨_, rfl, _, _, _, [], _, [], hW', trodAll_mk1 (shut_bool Try.underlying4 _), (trodAll_cons_mk (Below.trod laidOut (by kernel_rfl) (of_decide_eq_true (by kernel_rfl)) k0 bel lt0) (trodAll_cons_mk (Below.trod laidOut (by kernel_rfl) (of_decide_eq_true (by kernel_rfl)) k1 bel lt1) trodAll_mk0)), rfl, bel.frame _, fun h => by cases h⟩

theorem overTopCount : Rows.fnExactTopCountRow.holds Try.pinned (OpenSpec.ofChange Rows.fnExactTopCountSpec) :=
  OpenClaim.holds_of_wide 4 Try.f4 rfl rfl rfl rfl rfl rfl rfl ⟨rfl, rfl, rfl, rfl, rfl⟩ rfl rfl rfl rfl rfl (by kernel_rfl) Try.func4 (by kernel_rfl)
    (of_decide_eq_true (by kernel_rfl)) (by unfold Func.isWrapper; first | (rw [if_pos (by decide +kernel)]; kernel_rfl) | (rw [if_neg (by decide +kernel)]; exact ⟨rfl, rfl⟩))
    (fun os started H enc _ => liftedTopCount os started H enc)

theorem fnExactTopCount_holds : Rows.FnExactTopCountSaid := overTopCount
#print axioms fnExactTopCount_holds


end Go.Proofs.Ytdaifoinddjfbaa
