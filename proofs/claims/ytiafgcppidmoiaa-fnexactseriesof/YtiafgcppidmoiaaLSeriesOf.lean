/-
  The law FnExactSeriesOf: at every name and every list of tags the program's series is the model's; it writes into no argument. No condition.
-/
import Derived.Test.YtiafgcppidmoiaaMath
import Derived.Test.YtiafgcppidmoiaaSerO
import Derived.Test.YtiafgcppidmoiaaOpenS
import Derived.Test.YtiafgcppidmoiaaKeep
import Derived.Lib.SmallJoins
import Derived.Carry
import Derived.Deep.RegionHeld3
import Derived.Deep.DeepCutAuto
import Derived.ShutString
import Derived.ChangeOld
namespace Go.Proofs.Ytiafgcppidmoiaa
set_option linter.unusedVariables false
set_option linter.unusedSimpArgs false
open Go.ChangeMaps (open_string shut_string)
open Go.ChangeShapes Go.WideShapes Go.ChangeAt Go.RowKit Go.Joins
set_option maxRecDepth 10000

theorem eqS (a : ByteArray) : (a.toList != a.toList) = false := by simp
set_option maxHeartbeats 1000000 in
theorem walkSeriesOf (s : ByteArray) (ao : Option Addr) (cap : Nat) (L : List ByteArray) (w : World) (hs : s.size ≤ maxLen) (hl : L.length ≤ maxLen) (hu : ∀ u ∈ L, u.size ≤ maxLen) (hS : StrsAt w ao L) :
    Calls Try.prog 3 #[.string s, .slice ao L.length cap] w fun e w' => e = .returned (.bool true) ∧ Below w.heap.size w w' := by
  have hz : s.size ≤ 9223372036854775807 := hs
  by_cases h1 : 1048576 < s.size
  · have h1i : (1048576 : Int) < (s.size : Int) := by omega
    go_enter Try.func3, Try.ntmps3
    go_wp2
    go_ret
    exact ⟨rfl, Below.refl _ _⟩
  have h1i : ¬ (1048576 : Int) < (s.size : Int) := by omega
  go_enter Try.func3, Try.ntmps3
  go_wp2_with (go_at_call 4; refine (c_szStringS _ _ (by omega) (by omega) hl hu hS).mono ?_; rintro e w1 ⟨v, rfl, hv, hn, hw⟩; obtain rfl := hw.symm)
  · go_ret
    exact ⟨rfl, Below.refl _ _⟩
  · obtain ⟨hl, hu⟩ := hn ‹_›
    clear hn
    have hu9 : ∀ u ∈ L, u.size ≤ maxLen := fun u h => by have := hu u h; unfold maxLen; omega
    have HU := hide hu9
    clear hu9 hu
    have hE := eqS (serO s L)
    obtain ⟨g, hg⟩ : ∃ g, serO s L = g := ⟨_, rfl⟩
    have HG := hide hg
    clear hg
    go_wp2_with (go_at_call 6; refine (c_toStringS _ hl hS).mono ?_; rintro e w1 ⟨g1, rfl, ho1, hb1⟩)
    go_wp2_with (go_at_call 5; refine (c_s_SeriesOf s _ _ hs rfl hl HU.out (strs_owned ho1)).mono ?_; rintro e w2 ⟨rfl, hb2⟩)
    have hT2 : Below w.heap.size w w2 := chain hb1 hb2
    go_wp2_with (go_at_call 6; refine (c_toStringS _ hl (strs_past hS hT2)).mono ?_; rintro e w3 ⟨g3, rfl, ho3, hb3⟩)
    go_wp2_with (go_at_call 7; refine (c_i_SeriesOf s _ _ hs rfl hl HU.out (strs_owned ho3)).mono ?_; rintro e w4 ⟨rfl, hb4⟩)
    have hT4 : Below w.heap.size w w4 := chain (chain hT2 hb3) hb4
    go_wp2_with (go_at_call 6; refine (c_toStringS _ hl (strs_past hS hT4)).mono ?_; rintro e w5 ⟨g5, rfl, ho5, hb5⟩)
    go_wp2_with (go_at_call 8; refine (c_eqStringS _ _ hl (strs_past (strs_owned ho3) (chain hb4 hb5)) (strs_owned ho5)).mono ?_; rintro e w6 ⟨rfl, hb6⟩)
    go_ret
    exact ⟨rfl, chain (chain hT4 hb5) hb6⟩

theorem own : ownKnob Try.prog.godebug = none := by kernel_rfl
theorem laidOut : laidOutB Try.prog = true := by kernel_rfl

set_option maxRecDepth 100000 in
theorem liftedSeriesOf (os : Os) (started : os.Started) (H : Type) (enc : TypeId × Value → H) :
    ReturnsInHanded {} Try.checked os 3 .any (Rows.fnExactSeriesOfSpec.pre6 enc Try.prog Try.f3 Rows.fnExactSeriesOfRow.domain false) (Rows.fnExactSeriesOfSpec.post enc Try.prog Try.f3 false true false false) := by
  refine returnsInHanded_of_change (C := Try.checked) own started (by kernel_rfl) Try.func3
    (ChangeSpec.witness6 (enc := enc) (C := Try.checked) false ⟨#[], #[.string ByteArray.empty, .slice none 0 0], []⟩ 8 (by kernel_rfl) (by kernel_rfl) (by kernel_rfl) (by kernel_rfl)) ?_
  intro W base args ds gs before hval0 hW hcnd _
  have hval : ∀ (j : Nat) t v, Try.f3.params[j]? = some t → args[j]? = some v → Value.okWide Try.prog W .any base t v := hval0
  have hW' := hW
  obtain ⟨p, q, hA0, hV, rfl, hfz, hnd⟩ := hW
  have hA : DataW.TrodAll enc Try.prog W 0 (fun _ => true) true Try.f3.params.toList args.toList ds p := hA0
  rw [Try.params3] at hA hval
  obtain ⟨v0, vs0, d0, ds0, p0, q0, hargs, rfl, rfl, h0, r0⟩ := trodAll_cons hA
  obtain ⟨v1, vs1, d1, ds1, p1, q1, rfl, rfl, rfl, h1, r1⟩ := trodAll_cons r0
  obtain ⟨rfl, rfl, rfl⟩ := trodAll_nil r1
  obtain rfl : args = #[v0, v1] := by cases args; simp_all
  obtain ⟨rfl, rfl⟩ := trodVars_none hV
  have k0 := h0
  have lt0 : ∀ x ∈ p0, x.block < W.heap.size := by obtain ⟨m, hm⟩ := k0; exact DataW.trod_lt m _ _ _ hm
  obtain ⟨a0, rfl, rfl, rfl, w0⟩ := open_string Try.underlying9 (hval 0 9 v0 rfl rfl) h0
  have k1 := h1
  have lt1 : ∀ x ∈ p1, x.block < W.heap.size := by obtain ⟨m, hm⟩ := k1; exact DataW.trod_lt m _ _ _ hm
  obtain ⟨a1, c1, l1, rfl, m1, u1, s1⟩ := open_strs (hval 1 22 v1 rfl rfl) h1
  clear hA0 hval0
  refine (walkSeriesOf a0 a1 c1 l1 W w0 m1 u1 s1).mono fun e W' ⟨he, bel⟩ => ?_
  subst he
  exact ⟨_, rfl, _, _, _, [], _, [], hW', trodAll_mk1 (shut_bool Try.underlying4 _), (trodAll_cons_mk (Below.trod laidOut (by kernel_rfl) (of_decide_eq_true (by kernel_rfl)) k0 bel lt0) (trodAll_cons_mk (Below.trod laidOut (by kernel_rfl) (of_decide_eq_true (by kernel_rfl)) k1 bel lt1) trodAll_mk0)), rfl, bel.frame _, fun h => by cases h⟩

theorem overSeriesOf : Rows.fnExactSeriesOfRow.holds Try.pinned (OpenSpec.ofChange Rows.fnExactSeriesOfSpec) :=
  OpenClaim.holds_of_wide 3 Try.f3 rfl rfl rfl rfl rfl rfl rfl ⟨rfl, rfl, rfl, rfl, rfl⟩ rfl rfl rfl rfl rfl (by kernel_rfl) Try.func3 (by kernel_rfl)
    (of_decide_eq_true (by kernel_rfl)) (by unfold Func.isWrapper; first | (rw [if_pos (by decide +kernel)]; kernel_rfl) | (rw [if_neg (by decide +kernel)]; exact ⟨rfl, rfl⟩))
    (fun os started H enc _ => liftedSeriesOf os started H enc)

theorem fnExactSeriesOf_holds : Rows.FnExactSeriesOfSaid := overSeriesOf
#print axioms fnExactSeriesOf_holds
end Go.Proofs.Ytiafgcppidmoiaa
