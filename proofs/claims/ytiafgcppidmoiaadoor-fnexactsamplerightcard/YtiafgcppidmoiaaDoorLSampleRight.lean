/-
  The law FnExactSampleRight: at every sample the program says of it what the model says, right or not; nothing that was there has turned. Condition: the library's tables as the program's text lays them (the card ties them).
-/
import Derived.Test.YtiafgcppidmoiaaDoorSmpJ
import Derived.Test.YtiafgcppidmoiaaDoorOpenM
import Derived.Test.YtiafgcppidmoiaaDoorShp
import Derived.Test.YtiafgcppidmoiaaDoorTie
import Derived.Test.YtiafgcppidmoiaaDoorCards
import Derived.Carry
import Derived.ShutString
import Derived.ChangeOld
import Derived.ChangeSame
import Derived.ChangeVars
import Derived.JoinedOf
import Derived.LaidLaws
import Derived.LaidHandle
import Derived.LaidSub
import Derived.Lib.LaidTab
import Derived.Lay
import Derived.MakeChecks
import Derived.Stop.Joined
import Derived.SevenTiedAt
import Derived.Deep.DeepHandedRow
import Derived.WalkKit
import Derived.ProofKit
import Derived.OpenShut
namespace Go.Proofs.YtiafgcppidmoiaaDoor
set_option linter.unusedVariables false
set_option linter.unusedSimpArgs false
open Go.ChangeMaps (open_string shut_string)
open Go.ChangeShapes Go.WideShapes Go.ChangeAt Go.RowKit Go.PlainAid


set_option maxHeartbeats 1000000 in
theorem c_szSample {w : World} (k : Int) (se : ByteArray) (v : Int) (wd : ByteArray) (wt : Int) (tm : Bool) (ti : Int) (hse : se.size ≤ maxLen) (hwd : wd.size ≤ maxLen) :
    Calls Tryd.prog 8 #[smpV k se v wd wt tm ti, .int .i64 1048576] w fun e w' => ∃ r, e = .returned (.int .i64 r) ∧ Below w.heap.size w w' := by
  unfold maxLen at hse hwd
  unfold smpV
  have hw1 : IntKind.i64.wrap (1048576 - (se.size : Int)) = 1048576 - (se.size : Int) := IntWalk.i64_in _ ⟨by omega, by omega⟩
  by_cases h1 : 1048576 - (se.size : Int) < 0
  · go_enter Tryd.func8, Tryd.ntmps8
    go_wp2
    go_ret
    first | exact ⟨_, rfl, (Below.refl _ _).alloc (Nat.le_refl _) _⟩ | exact ⟨⟨_, rfl⟩, (Below.refl _ _).alloc (Nat.le_refl _) _⟩
  · have hw2 : IntKind.i64.wrap (1048576 - (se.size : Int) - (wd.size : Int)) = 1048576 - (se.size : Int) - (wd.size : Int) := IntWalk.i64_in _ ⟨by omega, by omega⟩
    by_cases h2 : 1048576 - (se.size : Int) - (wd.size : Int) < 0
    · go_enter Tryd.func8, Tryd.ntmps8
      go_wp2
      go_ret
      first | exact ⟨_, rfl, (Below.refl _ _).alloc (Nat.le_refl _) _⟩ | exact ⟨⟨_, rfl⟩, (Below.refl _ _).alloc (Nat.le_refl _) _⟩
    · go_enter Tryd.func8, Tryd.ntmps8
      go_wp2
      go_ret
      first | exact ⟨_, rfl, (Below.refl _ _).alloc (Nat.le_refl _) _⟩ | exact ⟨⟨_, rfl⟩, (Below.refl _ _).alloc (Nat.le_refl _) _⟩
set_option maxHeartbeats 1000000 in
theorem c_toSample {w : World} (k : Int) (se : ByteArray) (v : Int) (wd : ByteArray) (wt : Int) (tm : Bool) (ti : Int) :
    Calls Tryd.prog 10 #[smpV k se v wd wt tm ti] w fun e w' => e = .returned (smpV k se v wd wt tm ti) ∧ Below w.heap.size w w' := by
  unfold smpV
  go_enter Tryd.func10, Tryd.ntmps10
  go_wp2
  refine bodyPost_ret (v := .agg #[.int .i64 k, .string se, .int .i64 v, .string wd, .int .u64 wt, .bool tm, .int .i64 ti]) (by simp [results, Tryd.results10, go_sem]) rfl ⟨rfl, ?_⟩
  exact (((Below.refl _ _).alloc (Nat.le_refl _) _).alloc (by simp) _).alloc (by simp; omega) _
set_option maxHeartbeats 2000000 in
theorem walkSampleRight (k : Int) (se : ByteArray) (v : Int) (wd : ByteArray) (wt : Int) (tm : Bool) (ti : Int) (w : World) (hse : se.size ≤ maxLen) (hwd : wd.size ≤ maxLen) (hm : MX w) :
    Calls Tryd.prog 4 #[smpV k se v wd wt tm ti] w fun e w' => e = .returned (.bool true) ∧ Below w.heap.size w w' := by
  have HB := hide (SBox.made (k := k) (se := se) (v := v) (wd := wd) (wt := wt) (tm := tm) (ti := ti) (T := 25) w)
  have HM := hide hm
  clear hm
  unfold smpV
  go_enter Tryd.func4, Tryd.ntmps4
  go_wp2_with fail
  refine (c_szSample k se v wd wt tm ti hse hwd).mono ?_
  rintro e w1 ⟨r, rfl, hb1⟩
  replace HB := hide (HB.out.past hb1)
  clear hb1
  by_cases hr : r < 0
  · go_wp2
    go_ret
    exact ⟨rfl, HB.out.bel⟩
  · obtain ⟨c0, c1, c2, c3, c4, c5, c6⟩ := cell7 HB.out.row
    go_wp2_with fail
    clear c0 c1 c2 c3 c4 c5 c6
    refine (c_toSample k se v wd wt tm ti).mono ?_
    rintro e w2 ⟨rfl, hb2⟩
    replace HB := hide (HB.out.past hb2)
    clear hb2
    go_wp2_with fail
    refine (c_s_SampleRight k se v wd wt tm ti hse hwd).mono ?_
    rintro e w3 ⟨rfl, hb3⟩
    replace HB := hide (HB.out.past hb3)
    clear hb3
    obtain ⟨c0, c1, c2, c3, c4, c5, c6⟩ := cell7 HB.out.row
    go_wp2_with fail
    clear c0 c1 c2 c3 c4 c5 c6
    refine (c_toSample k se v wd wt tm ti).mono ?_
    rintro e w4 ⟨rfl, hb4⟩
    replace HB := hide (HB.out.past hb4)
    clear hb4
    go_wp2_with fail
    refine (c_i_SampleRight k se v wd wt tm ti (HM.out.past (HB.out.bel)) hse hwd).mono ?_
    rintro e w5 ⟨rfl, hb5⟩
    replace HB := hide (HB.out.past hb5)
    clear hb5
    cases smpB k se v wd wt tm ti <;> (go_wp2; go_ret; exact ⟨rfl, HB.out.bel⟩)

set_option maxRecDepth 100000
theorem own : ownKnob Tryd.prog.godebug = none := by kernel_rfl
theorem laidOut : laidOutB Tryd.prog = true := by kernel_rfl
theorem liftedSampleRight (os : Os) (started : os.Started) (H : Type) (enc : TypeId × Value → H) :
    ReturnsInHanded {} Tryd.checked os 4 .any (fun w args => (Rows.fnExactSampleRightSpec.pre enc Tryd.prog Tryd.f4 [] false w args ∧ laidMetH Tryd.prog Rows.fnExactSampleRightRow.laid w) ∧ sizedMet enc Tryd.prog Tryd.f4 (OpenSpec.ofChange Rows.fnExactSampleRightSpec) false w args)
      (Rows.fnExactSampleRightSpec.post enc Tryd.prog Tryd.f4 false true false false) := by
  refine handed_shaped (C := Tryd.checked) (L := Rows.fnExactSampleRightRow.laid) own started (by kernel_rfl) Tryd.func4
    (ChangeSpec.witness_shaped (enc := enc) (C := Tryd.checked) (os := os) (X := fun w _ => laidMetH Tryd.prog Rows.fnExactSampleRightRow.laid w) false (World.laidAll Tryd.prog os Rows.fnExactSampleRightRow.laid) #[.agg #[.int .i64 0, .string ByteArray.empty, .int .i64 0, .string ByteArray.empty, .int .u64 0, .bool false, .int .i64 0]] 8 (World.laidAll_os _ _ _)
      (World.shaped_of_ZipB (by kernel_rfl) (by kernel_rfl)) (by kernel_rfl) (by kernel_rfl) (by kernel_rfl)
      (by rw [MakeChecks.laidMetH_plain _ _ _ (by kernel_rfl)]; exact laidMet_laidAll _ (by kernel_rfl) (by kernel_rfl))) ?_
  intro W base args ds gs before hval0 hW hL hsh
  have hval : ∀ (j : Nat) t v, Tryd.f4.params[j]? = some t → args[j]? = some v → Value.okWide Tryd.prog W .any base t v := hval0
  have hW' := hW
  obtain ⟨p, q, hA0, hV, rfl, hfz, hnd⟩ := hW
  have hA : DataW.TrodAll enc Tryd.prog W 0 (fun _ => true) true Tryd.f4.params.toList args.toList ds p := hA0
  rw [Tryd.params4] at hA hval
  obtain ⟨v0, vs0, d0, ds0, p0, q0, hargs, rfl, rfl, h0, r0⟩ := trodAll_cons hA
  obtain ⟨rfl, rfl, rfl⟩ := trodAll_nil r0
  obtain rfl : args = #[v0] := by cases args; simp_all
  obtain ⟨rfl, rfl⟩ := trodVars_none hV
  have k0 := h0
  have lt0 : ∀ x ∈ p0, x.block < W.heap.size := by obtain ⟨m, hm⟩ := k0; exact DataW.trod_lt m _ _ _ hm
  obtain ⟨k0a, k0b, k0c, k0d, k0e, k0f, k0g, rfl, u0, x0⟩ := open_sample (hval 0 25 v0 rfl rfl) h0
  clear hA0 hval0
  refine (walkSampleRight k0a k0b k0c k0d k0e k0f k0g W u0 x0 (mx_of hsh)).mono fun e W' ⟨he, bel⟩ => ?_
  subst he
  exact ⟨_, rfl, _, _, _, [], _, [], hW', trodAll_mk1 (shut_bool Tryd.underlying4 _), (trodAll_cons_mk (Below.trod laidOut (by kernel_rfl) (of_decide_eq_true (by kernel_rfl)) k0 bel lt0) trodAll_mk0), rfl, bel.frame _, fun h => by cases h⟩

theorem saidSampleRight : Rows.FnExactSampleRightSaid :=
  OpenClaim.holds_of_wide 4 Tryd.f4 rfl rfl rfl rfl rfl rfl rfl ⟨rfl, rfl, rfl, rfl, rfl⟩ rfl rfl rfl rfl rfl (by kernel_rfl) Tryd.func4 (by kernel_rfl)
    (of_decide_eq_true (by kernel_rfl)) (by unfold Func.isWrapper; first | (rw [if_pos (by decide +kernel)]; kernel_rfl) | (rw [if_neg (by decide +kernel)]; exact ⟨rfl, rfl⟩))
    (fun os started H enc _ => liftedSampleRight os started H enc)

/-- No parameter wants a stand-in; the program's own looks are off. -/
theorem plainSampleRight (f : FuncId) (fn : Func) (hf : Tryd.pinned.checked.prog.funcNamed Rows.fnExactSampleRightRow.func = some f) (hfn : Tryd.pinned.checked.prog.funcs[f]? = some fn) :
    Rows.fnExactSampleRightCard.stood.looks = Tryd.pinned.checked.prog.looks [] ∧ ∀ (j : Nat) t, fn.params[j]? = some t → Tryd.pinned.checked.prog.wantsStandIn t = false := by
  obtain rfl : f = 4 := Option.some.inj ((show Tryd.prog.funcNamed Rows.fnExactSampleRightRow.func = some 4 by kernel_rfl).symm.trans hf) |>.symm
  obtain rfl : fn = Tryd.f4 := (Option.some.inj (Tryd.func4.symm.trans hfn)).symm
  refine ⟨by kernel_rfl, fun j t ht => ?_⟩
  rw [Tryd.params4] at ht
  have ht2 := Array.mem_of_getElem? ht
  simp only [List.mem_toArray, List.mem_cons, List.not_mem_nil, or_false] at ht2
  obtain rfl := ht2
  exact (show Tryd.prog.wantsStandIn 25 = false by kernel_rfl)

theorem fnExactSampleRight_card : Rows.FnExactSampleRightCardSaid :=
  Claim7.holds_tied_plain_at .later [] _ _ _ _ saidSampleRight (fun _ h => by cases h) (by kernel_rfl) (fun _ h => by cases h) fnExactSampleRight_row_tie rfl ⟨rfl, rfl⟩ (by kernel_rfl) rfl plainSampleRight (by kernel_rfl)
#print axioms fnExactSampleRight_card

end Go.Proofs.YtiafgcppidmoiaaDoor
