/-
  The law FnExactAggSame: of every two Aggs the program says what the model says, the same or not; nothing that was there has turned. No condition.
-/
import Derived.Test.YtjcogjfgppkomaaAgS
import Derived.Test.YtjcogjfgppkomaaOpenA
import Derived.Lib.SmallJoins
import Derived.Carry
import Derived.Deep.RegionHeld3
import Derived.Deep.DeepCutAuto
import Derived.ShutString
import Derived.ChangeOld
namespace Go.Proofs.Ytjcogjfgppkomaa
set_option linter.unusedVariables false
set_option linter.unusedSimpArgs false
open Go.ChangeMaps (open_string shut_string)
open Go.ChangeShapes Go.WideShapes Go.ChangeAt Go.RowKit Go.Joins
set_option maxRecDepth 10000

theorem agc_two (w : World) (t : TypeId) (g g' : Ag) (p p' : Pl) : AgCell ((w.alloc (.cells (agArr g p) t)).alloc (.cells (agArr g' p') t)) w.heap.size g p ∧ AgCell ((w.alloc (.cells (agArr g p) t)).alloc (.cells (agArr g' p') t)) (w.heap.size + 1) g' p' := by
  refine ⟨agc_past (agc_new w t g p) ((Below.refl _ _).alloc (Nat.le_refl _) _), ?_⟩
  have := agc_new (w.alloc (.cells (agArr g p) t)) t g' p'
  simpa using this
set_option maxHeartbeats 8000000 in
theorem walkAggSame (g : Ag) (p : Pl) (g' : Ag) (p' : Pl) (w : World) (ok : AgOk g) (ln : AgLen g) (hA : AgAt w g p) (ok' : AgOk g') (ln' : AgLen g') (hB : AgAt w g' p') :
    Calls Try.prog 5 #[.agg (agArr g p), .agg (agArr g' p')] w fun e w' => e = .returned (.bool true) ∧ Below w.heap.size w w' := by
  have HA := hide hA
  have HB := hide hB
  clear ok ok' hA hB
  go_enter Try.func5, Try.ntmps5
  go_wp2_with fail
  generalize hW0 : (w.alloc (Obj.cells (agArr g p) 33)).alloc (Obj.cells (agArr g' p') 33) = W0
  have T0 : Below w.heap.size w W0 := by rw [← hW0]; exact ((Below.refl _ _).alloc (Nat.le_refl _) _).alloc (by simp) _
  obtain ⟨K0, J0⟩ : AgCell W0 w.heap.size g p ∧ AgCell W0 (w.heap.size + 1) g' p' := by rw [← hW0]; exact agc_two w _ g g' p p'
  clear hW0
  have HT0 := hide T0
  clear T0
  refine (c_szAgg g p _ (by omega) (by omega) ln _).mono ?_
  rintro e w1 ⟨v, rfl, hv, hsm, hb1⟩
  have HT1 := hide (chain HT0.out hb1)
  have K1 := agc_past K0 hb1
  have J1 := agc_past J0 hb1
  clear hb1 K0 J0
  by_cases hv0 : v < 0
  · clear hsm
    go_wp2
    go_ret
    exact ⟨rfl, HT1.out⟩
  obtain ⟨v0, sm⟩ := hsm hv0
  have SM := hide sm
  clear hsm sm
  go_wp2_with fail
  refine (c_szAgg g' p' _ (by omega) (by omega) ln' _).mono ?_
  rintro e w2 ⟨v', rfl, hv', hsm, hb2⟩
  have HT2 := hide (chain HT1.out hb2)
  have K2 := agc_past K1 hb2
  have J2 := agc_past J1 hb2
  clear hb2 K1 J1
  by_cases hv0' : v' < 0
  · clear hsm
    go_wp2
    go_ret
    exact ⟨rfl, HT2.out⟩
  obtain ⟨v0', sm'⟩ := hsm hv0'
  have SM' := hide sm'
  clear hsm sm'
  have HK2 : Hid (∀ W, Below w2.heap.size w2 W → AgCell W w.heap.size g p ∧ AgCell W (w.heap.size + 1) g' p') := fun W hW => ⟨agc_past K2 hW, agc_past J2 hW⟩
  clear K2 J2
  go_wp2_with fail
  go_region_held3 (fun W => Kept w2.heap.size w2 W ∧ AgCell W w.heap.size g p ∧ AgCell W (w.heap.size + 1) g' p')
    (first | exact hS3 | exact ⟨held (Below.refl _ _).drew (by simp), HK2.out _ (Below.refl _ _).drew⟩)
    (first
      | (go_at_call 8; have hS := (‹Kept _ _ _ ∧ _›).1; refine (c_toAgg (by first | exact SM.out | exact SM'.out) (by first | exact ag_past HA.out (chain HT2.out hS.1) | exact ag_past HB.out (chain HT2.out hS.1))).mono ?_; rintro e w3 ⟨gp3, gn3, ge3, gr3, rfl, _, _, _, _, _, oA, hb3⟩; have hS1 := (held_call hb3 hS).1; have hS3 : Kept w2.heap.size w2 w3 ∧ _ := ⟨held hS1 (Nat.le_refl _), HK2.out _ hS1⟩; (first | (have BA4 := hide oA.at; have BA3 := hide (ag_past BA3.out hb3)) | have BA3 := hide oA.at); clear hb3 oA hS1)
      | (go_at_call 15; have hS := (‹Kept _ _ _ ∧ _›).1; refine (c_s_AggSame SM.out SM'.out BA3.out BA4.out).mono ?_; rintro e w5 ⟨rfl, hb5⟩; have hS1 := (held_call hb5 hS).1; have hS3 : Kept w2.heap.size w2 w5 ∧ _ := ⟨held hS1 (Nat.le_refl _), HK2.out _ hS1⟩; clear hb5 hS1))
  have HT5 := hide (chain HT2.out hS3.1.1)
  obtain ⟨_, K5, J5⟩ := hS3
  clear BA3 BA4 HK2
  go_wp2_with fail
  refine (c_toAgg (g := g) (p := p) SM.out (ag_past HA.out HT5.out)).mono ?_
  rintro e w6 ⟨gp, gn, ge, gr, rfl, _, _, _, _, _, oA, hb6⟩
  have HT6 := hide (chain HT5.out hb6)
  have K6 := agc_past K5 hb6
  have J6 := agc_past J5 hb6
  have hA6 : ∀ o, Below w6.heap.size w6 (w6.alloc o) := fun o => (Below.refl _ _).alloc (Nat.le_refl _) o
  have KA6 : ∀ o, AgCell (w6.alloc o) w.heap.size g p := fun o => agc_past K6 (hA6 o)
  have JA6 : ∀ o, AgCell (w6.alloc o) (w.heap.size + 1) g' p' := fun o => agc_past J6 (hA6 o)
  have BX6 := hide oA.at
  have HA6 := hide hA6
  clear hb6 oA K5 J5 hA6
  go_wp2_with fail
  refine (c_toAgg (g := g') (p := p') SM'.out (ag_past HB.out (chain HT6.out (HA6.out _)))).mono ?_
  rintro e w7 ⟨gp', gn', ge', gr', rfl, _, _, _, _, _, oB, hb7⟩
  have HB7 := hide (chain (HA6.out _) hb7)
  have HT7 := hide (chain HT6.out HB7.out)
  have K7 := agc_past K6 HB7.out
  have J7 := agc_past J6 HB7.out
  have X7 := agc_past (agc_new w6 42 g (plNew g gp gn ge gr)) hb7
  have hA7 : ∀ o, Below w7.heap.size w7 (w7.alloc o) := fun o => (Below.refl _ _).alloc (Nat.le_refl _) o
  have XA7 : ∀ o, AgCell (w7.alloc o) w6.heap.size g (plNew g gp gn ge gr) := fun o => agc_past X7 (hA7 o)
  have BY7 := hide oB.at
  have HA7 := hide hA7
  clear hb7 oB K6 J6 KA6 JA6 hA7
  go_wp2_with fail
  refine (c_i_AggSame (g := g) (g' := g') (p := plNew g gp gn ge gr) (p' := plNew g' gp' gn' ge' gr') SM.out SM'.out (ag_past BX6.out (chain HB7.out (HA7.out _))) (ag_past BY7.out (HA7.out _))).mono ?_
  rintro e w8 ⟨rfl, hb8⟩
  have HB8 := hide (chain (HA7.out _) hb8)
  have HT8 := hide (chain HT7.out HB8.out)
  have HC8 := hide (chain HB7.out HB8.out)
  have Y8 := agc_past (agc_new w7 42 g' (plNew g' gp' gn' ge' gr')) hb8
  have HK8 : Hid (∀ W, Below w8.heap.size w8 W → AgCell W w.heap.size g p ∧ AgCell W (w.heap.size + 1) g' p' ∧ AgCell W w6.heap.size g (plNew g gp gn ge gr) ∧ AgCell W w7.heap.size g' (plNew g' gp' gn' ge' gr')) := fun W hW => ⟨agc_past (agc_past K7 HB8.out) hW, agc_past (agc_past J7 HB8.out) hW, agc_past (agc_past X7 HB8.out) hW, agc_past Y8 hW⟩
  clear hb8 K7 J7 X7 XA7 Y8
  go_wp2_with fail
  go_region_held3 (fun W => Kept w8.heap.size w8 W ∧ AgCell W w.heap.size g p ∧ AgCell W (w.heap.size + 1) g' p' ∧ AgCell W w6.heap.size g (plNew g gp gn ge gr) ∧ AgCell W w7.heap.size g' (plNew g' gp' gn' ge' gr'))
    (first | exact hS3 | exact ⟨held (Below.refl _ _).drew (by simp), HK8.out _ (Below.refl _ _).drew⟩)
    (first
      | (go_at_call 8; have hS := (‹Kept _ _ _ ∧ _›).1; refine (c_toAgg (g := g) (p := p) SM.out (ag_past HA.out (chain HT8.out hS.1))).mono ?_; rintro e w9 ⟨gp9, gn9, ge9, gr9, rfl, _, _, _, _, _, oA, hb9⟩; have hS1 := (held_call hb9 hS).1; have hS3 : Kept w8.heap.size w8 w9 ∧ _ := ⟨held hS1 (Nat.le_refl _), HK8.out _ hS1⟩; have BA9 := hide oA.at; clear hb9 oA hS1)
      | (go_at_call 10; have hS := (‹Kept _ _ _ ∧ _›).1; refine (c_eqAgg (g := g) SM.out (ag_past BX6.out (chain HC8.out hS.1)) BA9.out).mono ?_; rintro e w10 ⟨rfl, hb10⟩; have hS1 := (held_call hb10 hS).1; have hS3 : Kept w8.heap.size w8 w10 ∧ _ := ⟨held hS1 (Nat.le_refl _), HK8.out _ hS1⟩; clear hb10 hS1))
  have HB10 := hide hS3.1.1
  have HK10 : Hid (∀ W, Below w10.heap.size w10 W → _) := fun W hW => HK8.out W (chain HB10.out hW)
  have HT10 := hide (chain HT8.out HB10.out)
  have HD10 := hide (chain HB8.out HB10.out)
  clear hS3 BA9
  go_wp2_with fail
  go_region_held3 (fun W => Kept w10.heap.size w10 W ∧ AgCell W w.heap.size g p ∧ AgCell W (w.heap.size + 1) g' p' ∧ AgCell W w6.heap.size g (plNew g gp gn ge gr) ∧ AgCell W w7.heap.size g' (plNew g' gp' gn' ge' gr'))
    (first | exact hS3 | exact ⟨held (Below.refl _ _).drew (by simp), HK10.out _ (Below.refl _ _).drew⟩)
    (first
      | (go_at_call 8; have hS := (‹Kept _ _ _ ∧ _›).1; refine (c_toAgg (g := g') (p := p') SM'.out (ag_past HB.out (chain HT10.out hS.1))).mono ?_; rintro e w11 ⟨gp9, gn9, ge9, gr9, rfl, _, _, _, _, _, oA, hb9⟩; have hS1 := (held_call hb9 hS).1; have hS3 : Kept w10.heap.size w10 w11 ∧ _ := ⟨held hS1 (Nat.le_refl _), HK10.out _ hS1⟩; have BA9 := hide oA.at; clear hb9 oA hS1)
      | (go_at_call 10; have hS := (‹Kept _ _ _ ∧ _›).1; refine (c_eqAgg (g := g') SM'.out (ag_past BY7.out (chain HD10.out hS.1)) BA9.out).mono ?_; rintro e w12 ⟨rfl, hb10⟩; have hS1 := (held_call hb10 hS).1; have hS3 : Kept w10.heap.size w10 w12 ∧ _ := ⟨held hS1 (Nat.le_refl _), HK10.out _ hS1⟩; clear hb10 hS1))
  have HT12 := hide (chain HT10.out hS3.1.1)
  clear hS3
  go_wp2
  go_ret
  exact ⟨rfl, HT12.out⟩

theorem own : ownKnob Try.prog.godebug = none := by kernel_rfl
theorem laidOut : laidOutB Try.prog = true := by kernel_rfl

set_option maxRecDepth 100000 in
theorem liftedAggSame (os : Os) (started : os.Started) (H : Type) (enc : TypeId × Value → H) :
    ReturnsInHanded {} Try.checked os 5 .any (Rows.fnExactAggSameSpec.pre6 enc Try.prog Try.f5 Rows.fnExactAggSameRow.domain false) (Rows.fnExactAggSameSpec.post enc Try.prog Try.f5 false true false false) := by
  refine returnsInHanded_of_change (C := Try.checked) own started (by kernel_rfl) Try.func5
    (ChangeSpec.witness6 (enc := enc) (C := Try.checked) false ⟨#[], #[.agg #[.int .i64 0, .int .u64 0, .int .i64 0, .int .u64 0, .int .i64 0, .int .i64 0, .int .u64 0, .slice none 0 0, .slice none 0 0, .int .i64 0, .int .u64 0, .slice none 0 0, .slice none 0 0], .agg #[.int .i64 0, .int .u64 0, .int .i64 0, .int .u64 0, .int .i64 0, .int .i64 0, .int .u64 0, .slice none 0 0, .slice none 0 0, .int .i64 0, .int .u64 0, .slice none 0 0, .slice none 0 0]], []⟩ 8 (by kernel_rfl) (by kernel_rfl) (by kernel_rfl) (by kernel_rfl)) ?_
  intro W base args ds gs before hval0 hW hcnd _
  have hval : ∀ (j : Nat) t v, Try.f5.params[j]? = some t → args[j]? = some v → Value.okWide Try.prog W .any base t v := hval0
  have hW' := hW
  obtain ⟨p, q, hA0, hV, rfl, hfz, hnd⟩ := hW
  have hA : DataW.TrodAll enc Try.prog W 0 (fun _ => true) true Try.f5.params.toList args.toList ds p := hA0
  rw [Try.params5] at hA hval
  obtain ⟨v0, vs0, d0, ds0, p0, q0, hargs, rfl, rfl, h0, r0⟩ := trodAll_cons hA
  obtain ⟨v1, vs1, d1, ds1, p1, q1, rfl, rfl, rfl, h1, r1⟩ := trodAll_cons r0
  obtain ⟨rfl, rfl, rfl⟩ := trodAll_nil r1
  obtain rfl : args = #[v0, v1] := by cases args; simp_all
  obtain ⟨rfl, rfl⟩ := trodVars_none hV
  have k0 := h0
  have lt0 : ∀ x ∈ p0, x.block < W.heap.size := by obtain ⟨m, hm⟩ := k0; exact DataW.trod_lt m _ _ _ hm
  obtain ⟨g0, pl0, rfl, ok0, ln0, at0⟩ := open_agg (hval 0 33 v0 rfl rfl) h0
  have k1 := h1
  have lt1 : ∀ x ∈ p1, x.block < W.heap.size := by obtain ⟨m, hm⟩ := k1; exact DataW.trod_lt m _ _ _ hm
  obtain ⟨g1, pl1, rfl, ok1, ln1, at1⟩ := open_agg (hval 1 33 v1 rfl rfl) h1
  clear hA0 hval0
  refine (walkAggSame g0 pl0 g1 pl1 W ok0 ln0 at0 ok1 ln1 at1).mono fun e W' ⟨he, bel⟩ => ?_
  subst he
  exact ⟨_, rfl, _, _, _, [], _, [], hW', trodAll_mk1 (shut_bool Try.underlying4 _), (trodAll_cons_mk (Below.trod laidOut (by kernel_rfl) (of_decide_eq_true (by kernel_rfl)) k0 bel lt0) (trodAll_cons_mk (Below.trod laidOut (by kernel_rfl) (of_decide_eq_true (by kernel_rfl)) k1 bel lt1) trodAll_mk0)), rfl, bel.frame _, fun h => by cases h⟩

theorem overAggSame : Rows.fnExactAggSameRow.holds Try.pinned (OpenSpec.ofChange Rows.fnExactAggSameSpec) :=
  OpenClaim.holds_of_wide 5 Try.f5 rfl rfl rfl rfl rfl rfl rfl ⟨rfl, rfl, rfl, rfl, rfl⟩ rfl rfl rfl rfl rfl (by kernel_rfl) Try.func5 (by kernel_rfl)
    (of_decide_eq_true (by kernel_rfl)) (by unfold Func.isWrapper; first | (rw [if_pos (by decide +kernel)]; kernel_rfl) | (rw [if_neg (by decide +kernel)]; exact ⟨rfl, rfl⟩))
    (fun os started H enc _ => liftedAggSame os started H enc)

theorem fnExactAggSame_holds : Rows.FnExactAggSameSaid := overAggSame
#print axioms fnExactAggSame_holds

end Go.Proofs.Ytjcogjfgppkomaa
