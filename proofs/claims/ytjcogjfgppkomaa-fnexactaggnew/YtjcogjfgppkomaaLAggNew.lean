/-
  The law FnExactAggNew: of every kind the program's Agg of nothing is the model's; what was marked in it stays, also behind another call; nothing that was there has turned. No condition.
-/
import Derived.Test.YtjcogjfgppkomaaAgN
import Derived.Lib.SmallJoins
import Derived.Carry
import Derived.Deep.RegionHeld3
import Derived.Deep.DeepCutAuto
import Derived.ShutString
import Derived.ChangeOld
namespace Go.Proofs.Ytjcogjfgppkomaa
set_option linter.unusedVariables false
set_option linter.unusedSimpArgs false
open Go.ChangeMaps (open_string shut_string)
open Go.ChangeShapes Go.WideShapes Go.ChangeAt Go.RowKit Go.Joins
set_option maxRecDepth 10000

set_option maxHeartbeats 4000000 in
theorem walkAggNew (k : Int) (w : World) (hk : I64 k) :
    Calls Try.prog 4 #[.int .i64 k] w fun e w' => e = .returned (.bool true) ∧ Below w.heap.size w w' := by
  generalize hX : (agNew k).k = X
  generalize hY : (agNew k).t = Y
  have HS : Hid (∀ W, Calls Try.prog 11 #[.int .i64 k] W fun e w' => e = .returned (agNewV X Y) ∧ Below W.heap.size W w') := fun W => by rw [← hX, ← hY]; exact c_s_AggNew k W
  have HI : Hid (∀ W, Calls Try.prog 12 #[.int .i64 k] W fun e w' => e = .returned (agNewV X Y) ∧ Below W.heap.size W w') := fun W => by rw [← hX, ← hY]; exact c_i_AggNew k W
  clear hX hY hk
  have HAl : Hid (∀ (W : World) o, Below W.heap.size W (W.alloc o)) := fun W o => (Below.refl _ _).alloc (Nat.le_refl _) o
  go_enter Try.func4, Try.ntmps4
  go_wp2_with fail
  refine (HS.out _).mono ?_
  rintro e w1 ⟨rfl, hb1⟩
  have HT1 := hide hb1
  clear hb1
  go_wp2_with fail
  refine (HI.out _).mono ?_
  rintro e w2 ⟨rfl, hb2⟩
  have A2 := nwc_past (nwc_new w1 42 X Y) hb2
  have HT2 := hide (chain (chain HT1.out (HAl.out _ _)) hb2)
  clear hb2
  have KA2 : ∀ o, NwCell (w2.alloc o) w1.heap.size X Y := fun o => nwc_past A2 (HAl.out _ o)
  go_wp2_with fail
  have B3 := nwc_new w2 42 X Y
  have A3 := nwc_past A2 (HAl.out w2 (.cells #[.int .i64 X, .int .u64 0, .int .i64 0, .int .u64 0, .int .i64 0, .int .i64 Y, .int .u64 0, .slice none 0 0, .slice none 0 0, .int .i64 0, .int .u64 0, .slice none 0 0, .slice none 0 0] 42))
  have HT3 := hide (chain HT2.out (HAl.out w2 (.cells #[.int .i64 X, .int .u64 0, .int .i64 0, .int .u64 0, .int .i64 0, .int .i64 Y, .int .u64 0, .slice none 0 0, .slice none 0 0, .int .i64 0, .int .u64 0, .slice none 0 0, .slice none 0 0] 42)))
  generalize (w2.alloc (.cells #[.int .i64 X, .int .u64 0, .int .i64 0, .int .u64 0, .int .i64 0, .int .i64 Y, .int .u64 0, .slice none 0 0, .slice none 0 0, .int .i64 0, .int .u64 0, .slice none 0 0, .slice none 0 0] 42)) = W3 at B3 A3 HT3 ⊢
  generalize w2.heap.size = b2 at B3 ⊢
  generalize w1.heap.size = b1 at A3 ⊢
  clear A2 KA2 HT1 HT2
  refine (c_eqAgg0 X Y _).mono ?_
  rintro e w4 ⟨rfl, hb4⟩
  have A4 := nwc_past A3 hb4
  have B4 := nwc_past B3 hb4
  have HT4 := hide (chain HT3.out hb4)
  clear hb4 A3 B3
  go_wp2_with fail
  refine (c_markAgg0 X Y 1 (by omega) _).mono ?_
  rintro e w5 ⟨rfl, hb5⟩
  have A5 := nwc_past A4 hb5
  have B5 := nwc_past B4 hb5
  have HT5 := hide (chain HT4.out hb5)
  clear hb5 A4 B4
  go_wp2_with fail
  refine (c_heldAgg0 X Y 1 (by omega) _).mono ?_
  rintro e w6 ⟨rfl, hb6⟩
  have A6 := nwc_past A5 hb6
  have B6 := nwc_past B5 hb6
  have HT6 := hide (chain HT5.out hb6)
  clear hb6 A5 B5
  go_wp2_with fail
  refine (HI.out _).mono ?_
  rintro e w7 ⟨rfl, hb7⟩
  have A7 := nwc_past A6 hb7
  have B7 := nwc_past B6 hb7
  have HT7 := hide (chain HT6.out hb7)
  clear hb7 A6 B6
  have KA7 : ∀ o, NwCell (w7.alloc o) b1 X Y := fun o => nwc_past A7 (HAl.out _ o)
  have KB7 : ∀ o, NwCell (w7.alloc o) b2 X Y := fun o => nwc_past B7 (HAl.out _ o)
  go_wp2_with fail
  have HT8 := hide (chain HT7.out (HAl.out w7 (.cells #[.int .i64 X, .int .u64 0, .int .i64 0, .int .u64 0, .int .i64 0, .int .i64 Y, .int .u64 0, .slice none 0 0, .slice none 0 0, .int .i64 0, .int .u64 0, .slice none 0 0, .slice none 0 0] 42)))
  have B8 := KB7 (.cells #[.int .i64 X, .int .u64 0, .int .i64 0, .int .u64 0, .int .i64 0, .int .i64 Y, .int .u64 0, .slice none 0 0, .slice none 0 0, .int .i64 0, .int .u64 0, .slice none 0 0, .slice none 0 0] 42)
  refine (c_eqAgg0 X Y _).mono ?_
  rintro e w9 ⟨rfl, hb9⟩
  have B9 := nwc_past B8 hb9
  have HT9 := hide (chain HT8.out hb9)
  clear hb9 B8 A7 B7 KA7 KB7
  go_wp2_with fail
  refine (c_heldAgg0 X Y 1 (by omega) _).mono ?_
  rintro e w10 ⟨rfl, hb10⟩
  have HT10 := hide (chain HT9.out hb10)
  clear hb10
  go_wp2
  go_ret
  exact ⟨rfl, HT10.out⟩

theorem own : ownKnob Try.prog.godebug = none := by kernel_rfl
theorem laidOut : laidOutB Try.prog = true := by kernel_rfl

set_option maxRecDepth 100000 in
theorem liftedAggNew (os : Os) (started : os.Started) (H : Type) (enc : TypeId × Value → H) :
    ReturnsInHanded {} Try.checked os 4 .any (Rows.fnExactAggNewSpec.pre6 enc Try.prog Try.f4 Rows.fnExactAggNewRow.domain false) (Rows.fnExactAggNewSpec.post enc Try.prog Try.f4 false true false false) := by
  refine returnsInHanded_of_change (C := Try.checked) own started (by kernel_rfl) Try.func4
    (ChangeSpec.witness6 (enc := enc) (C := Try.checked) false ⟨#[], #[.int .i64 0], []⟩ 8 (by kernel_rfl) (by kernel_rfl) (by kernel_rfl) (by kernel_rfl)) ?_
  intro W base args ds gs before hval0 hW hcnd _
  have hval : ∀ (j : Nat) t v, Try.f4.params[j]? = some t → args[j]? = some v → Value.okWide Try.prog W .any base t v := hval0
  have hW' := hW
  obtain ⟨p, q, hA0, hV, rfl, hfz, hnd⟩ := hW
  have hA : DataW.TrodAll enc Try.prog W 0 (fun _ => true) true Try.f4.params.toList args.toList ds p := hA0
  rw [Try.params4] at hA hval
  obtain ⟨v0, vs0, d0, ds0, p0, q0, hargs, rfl, rfl, h0, r0⟩ := trodAll_cons hA
  obtain ⟨rfl, rfl, rfl⟩ := trodAll_nil r0
  obtain rfl : args = #[v0] := by cases args; simp_all
  obtain ⟨rfl, rfl⟩ := trodVars_none hV
  have k0 := h0
  have lt0 : ∀ x ∈ p0, x.block < W.heap.size := by obtain ⟨m, hm⟩ := k0; exact DataW.trod_lt m _ _ _ hm
  obtain ⟨a0, rfl, rfl, rfl, w0⟩ := open_int Try.underlying2 (hval 0 2 v0 rfl rfl) h0
  clear hA0 hval0
  refine (walkAggNew a0 W (bounds_i64 w0)).mono fun e W' ⟨he, bel⟩ => ?_
  subst he
  exact ⟨_, rfl, _, _, _, [], _, [], hW', trodAll_mk1 (shut_bool Try.underlying4 _), (trodAll_cons_mk (Below.trod laidOut (by kernel_rfl) (of_decide_eq_true (by kernel_rfl)) k0 bel lt0) trodAll_mk0), rfl, bel.frame _, fun h => by cases h⟩

theorem overAggNew : Rows.fnExactAggNewRow.holds Try.pinned (OpenSpec.ofChange Rows.fnExactAggNewSpec) :=
  OpenClaim.holds_of_wide 4 Try.f4 rfl rfl rfl rfl rfl rfl rfl ⟨rfl, rfl, rfl, rfl, rfl⟩ rfl rfl rfl rfl rfl (by kernel_rfl) Try.func4 (by kernel_rfl)
    (of_decide_eq_true (by kernel_rfl)) (by unfold Func.isWrapper; first | (rw [if_pos (by decide +kernel)]; kernel_rfl) | (rw [if_neg (by decide +kernel)]; exact ⟨rfl, rfl⟩))
    (fun os started H enc _ => liftedAggNew os started H enc)

theorem fnExactAggNew_holds : Rows.FnExactAggNewSaid := overAggNew
#print axioms fnExactAggNew_holds

end Go.Proofs.Ytjcogjfgppkomaa
