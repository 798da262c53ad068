/-
  The law FnExactHllSame: of every two sketch of how manyes the program says what the model says, the same or not; nothing that was there has turned. No condition.
-/
import Derived.Test.YtgmeofghbilihaaHlS
import Derived.Test.YtgmeofghbilihaaOpenH
import Derived.Lib.SmallJoins
import Derived.Carry
import Derived.Deep.RegionHeld3
import Derived.Deep.DeepCutAuto
import Derived.ShutString
import Derived.ChangeOld
namespace Go.Proofs.Ytgmeofghbilihaa
set_option linter.unusedVariables false
set_option linter.unusedSimpArgs false
open Go.ChangeMaps (open_string shut_string)
open Go.ChangeShapes Go.WideShapes Go.ChangeAt Go.RowKit Go.Joins
set_option maxRecDepth 10000

set_option maxHeartbeats 4000000 in
theorem walkHllSame (pa na : Option Addr) (pc nc : Nat) (P N : List Int) (pb nb : Option Addr) (pd nd : Nat) (P' N' : List Int) (w : World) (lP : P.length ≤ maxLen) (lN : N.length ≤ maxLen) (kP : ∀ x ∈ P, U64 x) (kN : ∀ x ∈ N, I64 x) (hP : NumsAt .u64 w pa P) (hN : NumsAt .i64 w na N)
    (lP' : P'.length ≤ maxLen) (lN' : N'.length ≤ maxLen) (kP' : ∀ x ∈ P', U64 x) (kN' : ∀ x ∈ N', I64 x) (hP' : NumsAt .u64 w pb P') (hN' : NumsAt .i64 w nb N') :
    Calls Try.prog 5 #[.agg #[.slice pa P.length pc, .slice na N.length nc], .agg #[.slice pb P'.length pd, .slice nb N'.length nd]] w fun e w' => e = .returned (.bool true) ∧ Below w.heap.size w w' := by
  obtain ⟨pn, ep⟩ : ∃ n, P.length = n := ⟨_, rfl⟩
  obtain ⟨nn, en⟩ : ∃ n, N.length = n := ⟨_, rfl⟩
  obtain ⟨pm, ep'⟩ : ∃ n, P'.length = n := ⟨_, rfl⟩
  obtain ⟨nm, en'⟩ : ∃ n, N'.length = n := ⟨_, rfl⟩
  rw [ep] at lP; rw [en] at lN; rw [ep'] at lP'; rw [en'] at lN'
  rw [ep, en, ep', en']
  have HP := hide hP
  have HN := hide hN
  have HP' := hide hP'
  have HN' := hide hN'
  have EP := hide ep
  have EN := hide en
  have EP' := hide ep'
  have EN' := hide en'
  clear hP hN kP kN ep en  hP' hN' kP' kN' ep' en' 
  go_enter Try.func5, Try.ntmps5
  go_wp2_with fail
  generalize hW0 : (w.alloc (Obj.cells #[.slice pa pn pc, .slice na nn nc] 25)).alloc (Obj.cells #[.slice pb pm pd, .slice nb nm nd] 25) = W0
  have T0 : Below w.heap.size w W0 := by rw [← hW0]; exact ((Below.refl _ _).alloc (Nat.le_refl _) _).alloc (by simp) _
  have K0 : HlCell W0 w.heap.size (.slice pa pn pc) (.slice na nn nc) := by rw [← hW0]; exact hl_past (hl_new w _ _ _) ((Below.refl _ _).alloc (Nat.le_refl _) _)
  have J0 : HlCell W0 (w.heap.size + 1) (.slice pb pm pd) (.slice nb nm nd) := by
    rw [← hW0]
    have := hl_new (w.alloc (Obj.cells #[.slice pa pn pc, .slice na nn nc] 25)) 25 (.slice pb pm pd) (.slice nb nm nd)
    simpa using this
  have hsz0 : W0.heap.size = w.heap.size + 2 := by rw [← hW0]; simp
  clear hW0
  have HT0 := hide T0
  clear T0
  refine (c_szHll _ _ _ _ _ _ _ (by omega) (by omega) lP lN _).mono ?_
  rintro e w1 ⟨v, rfl, hv, hsm, hb1⟩
  have HT1 := hide (chain HT0.out hb1)
  have K1 := hl_past K0 hb1
  have J1 := hl_past J0 hb1
  clear hb1 K0 J0
  by_cases hv0 : v < 0
  · clear hsm
    go_wp2
    go_ret
    exact ⟨rfl, HT1.out⟩
  obtain ⟨v0, lp, ln⟩ := hsm hv0
  clear hsm
  go_wp2_with fail
  refine (c_szHll _ _ _ _ _ _ _ (by omega) (by omega) lP' lN' _).mono ?_
  rintro e w2 ⟨v', rfl, hv', hsm, hb2⟩
  have HT2 := hide (chain HT1.out hb2)
  have K2 := hl_past K1 hb2
  have J2 := hl_past J1 hb2
  clear hb2 K1 J1
  by_cases hv0' : v' < 0
  · clear hsm
    go_wp2
    go_ret
    exact ⟨rfl, HT2.out⟩
  obtain ⟨v0', lp', ln'⟩ := hsm hv0'
  clear hsm
  have hK2 : ∀ W, Below w2.heap.size w2 W → HlCell W w.heap.size (.slice pa pn pc) (.slice na nn nc) ∧ HlCell W (w.heap.size + 1) (.slice pb pm pd) (.slice nb nm nd) := fun W hW => ⟨hl_past K2 hW, hl_past J2 hW⟩
  have HK2 := hide hK2
  clear hK2 K2 J2
  go_wp2_with fail
  go_region_held3 (fun W => Kept w2.heap.size w2 W ∧ HlCell W w.heap.size (.slice pa pn pc) (.slice na nn nc) ∧ HlCell W (w.heap.size + 1) (.slice pb pm pd) (.slice nb nm nd))
    (first | exact hS3 | exact ⟨held (Below.refl _ _).drew (by simp), HK2.out _ (Below.refl _ _).drew⟩)
    (first
      | (go_at_call 8; have hS := (‹Kept _ _ _ ∧ _›).1; refine (c_toHll (by first | exact EP.out | exact EP'.out) (by first | exact EN.out | exact EN'.out) (by assumption) (by assumption) (by first | exact nums_past HP.out (chain HT2.out hS.1) | exact nums_past HP'.out (chain HT2.out hS.1)) (by first | exact nums_past HN.out (chain HT2.out hS.1) | exact nums_past HN'.out (chain HT2.out hS.1))).mono ?_; rintro e w3 ⟨gp3, gn3, rfl, _, _, _, oP, oN, hb3⟩; have hS1 := (held_call hb3 hS).1; have hS3 : Kept w2.heap.size w2 w3 ∧ _ := ⟨held hS1 (Nat.le_refl _), HK2.out _ hS1⟩; (first | (have BP3 := hide (nums_owned oP EP.out); have BN3 := hide (nums_owned oN EN.out)) | (have BP3 := hide (nums_past BP3.out hb3); have BN3 := hide (nums_past BN3.out hb3); have BP4 := hide (nums_owned oP EP'.out); have BN4 := hide (nums_owned oN EN'.out))); clear hb3 oP oN hS1)
      | (go_at_call 13; have hS := (‹Kept _ _ _ ∧ _›).1; refine (c_s_HllSame EP.out EN.out EP'.out EN'.out lp ln lp' ln' BP3.out BN3.out BP4.out BN4.out).mono ?_; rintro e w5 ⟨rfl, hb5⟩; have hS1 := (held_call hb5 hS).1; have hS3 : Kept w2.heap.size w2 w5 ∧ _ := ⟨held hS1 (Nat.le_refl _), HK2.out _ hS1⟩; clear hb5 hS1))
  have HT5 := hide (chain HT2.out hS3.1.1)
  obtain ⟨_, K5, J5⟩ := hS3
  clear BP3 BN3 BP4 BN4 HK2
  go_wp2_with fail
  refine (c_toHll EP.out EN.out lp ln (nums_past HP.out HT5.out) (nums_past HN.out HT5.out)).mono ?_
  rintro e w6 ⟨gp, gn, rfl, _, _, _, oP, oN, hb6⟩
  have HT6 := hide (chain HT5.out hb6)
  have K6 := hl_past K5 hb6
  have J6 := hl_past J5 hb6
  have hA : ∀ o, Below w6.heap.size w6 (w6.alloc o) := fun o => (Below.refl _ _).alloc (Nat.le_refl _) o
  have KA6 : ∀ o, HlCell (w6.alloc o) w.heap.size (.slice pa pn pc) (.slice na nn nc) := fun o => hl_past K6 (hA o)
  have JA6 : ∀ o, HlCell (w6.alloc o) (w.heap.size + 1) (.slice pb pm pd) (.slice nb nm nd) := fun o => hl_past J6 (hA o)
  have BP6 := hide (nums_owned oP EP.out)
  have BN6 := hide (nums_owned oN EN.out)
  have HA6 := hide hA
  clear hb6 oP oN K5 J5 hA
  go_wp2_with fail
  refine (c_toHll EP'.out EN'.out lp' ln' (nums_past HP'.out (chain HT6.out (HA6.out _))) (nums_past HN'.out (chain HT6.out (HA6.out _)))).mono ?_
  rintro e w7 ⟨gp', gn', rfl, _, _, _, oP, oN, hb7⟩
  have HB7 := hide (chain (HA6.out _) hb7)
  have HT7 := hide (chain HT6.out HB7.out)
  have K7 := hl_past K6 HB7.out
  have J7 := hl_past J6 HB7.out
  have X7 := hl_past (hl_new w6 _ _ _) hb7
  have hA : ∀ o, Below w7.heap.size w7 (w7.alloc o) := fun o => (Below.refl _ _).alloc (Nat.le_refl _) o
  have XA7 : ∀ o, HlCell (w7.alloc o) w6.heap.size (.slice (some ⟨gp, 0, none⟩) pn pn) (.slice (some ⟨gn, 0, none⟩) nn nn) := fun o => hl_past X7 (hA o)
  have BP7 := hide (nums_owned oP EP'.out)
  have BN7 := hide (nums_owned oN EN'.out)
  have HA7 := hide hA
  clear hb7 oP oN K6 J6 KA6 JA6 hA
  go_wp2_with fail
  refine (c_i_HllSame EP.out EN.out EP'.out EN'.out lp ln lp' ln' (nums_past BP6.out (chain HB7.out (HA7.out _))) (nums_past BN6.out (chain HB7.out (HA7.out _))) (nums_past BP7.out (HA7.out _)) (nums_past BN7.out (HA7.out _))).mono ?_
  rintro e w8 ⟨rfl, hb8⟩
  have HB8 := hide (chain (HA7.out _) hb8)
  have HT8 := hide (chain HT7.out HB8.out)
  have K8 := hl_past K7 HB8.out
  have J8 := hl_past J7 HB8.out
  have X8 := hl_past X7 HB8.out
  have Y8 := hl_past (hl_new w7 _ _ _) hb8
  have HC8 := hide (chain HB7.out HB8.out)
  have hK8 : ∀ W, Below w8.heap.size w8 W → HlCell W w.heap.size (.slice pa pn pc) (.slice na nn nc) ∧ HlCell W (w.heap.size + 1) (.slice pb pm pd) (.slice nb nm nd) ∧ HlCell W w6.heap.size (.slice (some ⟨gp, 0, none⟩) pn pn) (.slice (some ⟨gn, 0, none⟩) nn nn) ∧ HlCell W w7.heap.size (.slice (some ⟨gp', 0, none⟩) pm pm) (.slice (some ⟨gn', 0, none⟩) nm nm) := fun W hW => ⟨hl_past K8 hW, hl_past J8 hW, hl_past X8 hW, hl_past Y8 hW⟩
  have HK8 := hide hK8
  clear hb8 hK8 K7 J7 X7 XA7 K8 J8 X8 Y8
  go_wp2_with fail
  go_region_held3 (fun W => Kept w8.heap.size w8 W ∧ HlCell W w.heap.size (.slice pa pn pc) (.slice na nn nc) ∧ HlCell W (w.heap.size + 1) (.slice pb pm pd) (.slice nb nm nd) ∧ HlCell W w6.heap.size (.slice (some ⟨gp, 0, none⟩) pn pn) (.slice (some ⟨gn, 0, none⟩) nn nn) ∧ HlCell W w7.heap.size (.slice (some ⟨gp', 0, none⟩) pm pm) (.slice (some ⟨gn', 0, none⟩) nm nm))
    (first | exact hS3 | exact ⟨held (Below.refl _ _).drew (by simp), HK8.out _ (Below.refl _ _).drew⟩)
    (first
      | (go_at_call 8; have hS := (‹Kept _ _ _ ∧ _›).1; refine (c_toHll EP.out EN.out lp ln (nums_past HP.out (chain HT8.out hS.1)) (nums_past HN.out (chain HT8.out hS.1))).mono ?_; rintro e w9 ⟨gp9, gn9, rfl, _, _, _, oP, oN, hb9⟩; have hS1 := (held_call hb9 hS).1; have hS3 : Kept w8.heap.size w8 w9 ∧ _ := ⟨held hS1 (Nat.le_refl _), HK8.out _ hS1⟩; have BP9 := hide (nums_owned oP EP.out); have BN9 := hide (nums_owned oN EN.out); clear hb9 oP oN hS1)
      | (go_at_call 10; have hS := (‹Kept _ _ _ ∧ _›).1; refine (c_eqHll EP.out EN.out lp ln (nums_past BP6.out (chain HC8.out hS.1)) (nums_past BN6.out (chain HC8.out hS.1)) BP9.out BN9.out).mono ?_; rintro e w10 ⟨rfl, hb10⟩; have hS1 := (held_call hb10 hS).1; have hS3 : Kept w8.heap.size w8 w10 ∧ _ := ⟨held hS1 (Nat.le_refl _), HK8.out _ hS1⟩; clear hb10 hS1))
  have HB10 := hide hS3.1.1
  have HK10 : Hid (∀ W, Below w10.heap.size w10 W → _) := fun W hW => HK8.out W (chain HB10.out hW)
  have HT10 := hide (chain HT8.out HB10.out)
  have HD10 := hide (chain HB8.out HB10.out)
  clear hS3 BP9 BN9
  go_wp2_with fail
  go_region_held3 (fun W => Kept w10.heap.size w10 W ∧ HlCell W w.heap.size (.slice pa pn pc) (.slice na nn nc) ∧ HlCell W (w.heap.size + 1) (.slice pb pm pd) (.slice nb nm nd) ∧ HlCell W w6.heap.size (.slice (some ⟨gp, 0, none⟩) pn pn) (.slice (some ⟨gn, 0, none⟩) nn nn) ∧ HlCell W w7.heap.size (.slice (some ⟨gp', 0, none⟩) pm pm) (.slice (some ⟨gn', 0, none⟩) nm nm))
    (first | exact hS3 | exact ⟨held (Below.refl _ _).drew (by simp), HK10.out _ (Below.refl _ _).drew⟩)
    (first
      | (go_at_call 8; have hS := (‹Kept _ _ _ ∧ _›).1; refine (c_toHll EP'.out EN'.out lp' ln' (nums_past HP'.out (chain HT10.out hS.1)) (nums_past HN'.out (chain HT10.out hS.1))).mono ?_; rintro e w11 ⟨gp9, gn9, rfl, _, _, _, oP, oN, hb9⟩; have hS1 := (held_call hb9 hS).1; have hS3 : Kept w10.heap.size w10 w11 ∧ _ := ⟨held hS1 (Nat.le_refl _), HK10.out _ hS1⟩; have BP9 := hide (nums_owned oP EP'.out); have BN9 := hide (nums_owned oN EN'.out); clear hb9 oP oN hS1)
      | (go_at_call 10; have hS := (‹Kept _ _ _ ∧ _›).1; refine (c_eqHll EP'.out EN'.out lp' ln' (nums_past BP7.out (chain HD10.out hS.1)) (nums_past BN7.out (chain HD10.out hS.1)) BP9.out BN9.out).mono ?_; rintro e w12 ⟨rfl, hb10⟩; have hS1 := (held_call hb10 hS).1; have hS3 : Kept w10.heap.size w10 w12 ∧ _ := ⟨held hS1 (Nat.le_refl _), HK10.out _ hS1⟩; clear hb10 hS1))
  have HT12 := hide (chain HT10.out hS3.1.1)
  clear hS3
  go_wp2
  go_ret
  exact ⟨rfl, HT12.out⟩

theorem own : ownKnob Try.prog.godebug = none := by kernel_rfl
theorem laidOut : laidOutB Try.prog = true := by kernel_rfl

set_option maxRecDepth 100000 in
theorem liftedHllSame (os : Os) (started : os.Started) (H : Type) (enc : TypeId × Value → H) :
    ReturnsInHanded {} Try.checked os 5 .any (Rows.fnExactHllSameSpec.pre6 enc Try.prog Try.f5 Rows.fnExactHllSameRow.domain false) (Rows.fnExactHllSameSpec.post enc Try.prog Try.f5 false true false false) := by
  refine returnsInHanded_of_change (C := Try.checked) own started (by kernel_rfl) Try.func5
    (ChangeSpec.witness6 (enc := enc) (C := Try.checked) false ⟨#[], #[.agg #[.slice none 0 0, .slice none 0 0], .agg #[.slice none 0 0, .slice none 0 0]], []⟩ 8 (by kernel_rfl) (by kernel_rfl) (by kernel_rfl) (by kernel_rfl)) ?_
  intro W base args ds gs before hval0 hW hcnd _
  have hval : ∀ (j : Nat) t v, Try.f5.params[j]? = some t → args[j]? = some v → Value.okWide Try.prog W .any base t v := hval0
  have hW' := hW
  obtain ⟨p, q, hA0, hV, rfl, hfz, hnd⟩ := hW
  have hA : DataW.TrodAll enc Try.prog W 0 (fun _ => true) true Try.f5.params.toList args.toList ds p := hA0
  rw [Try.params5] at hA hval
  obtain ⟨v0, vs0, d0, ds0, p0, q0, hargs, rfl, rfl, h0, r0⟩ := trodAll_cons hA
  obtain ⟨v1, vs1, d1, ds1, p1, q1, rfl, rfl, rfl, h1, r1⟩ := trodAll_cons r0
  obtain ⟨rfl, rfl, rfl⟩ := trodAll_nil r1
  obtain rfl : args = #[v0, v1] := by cases args; simp_all
  obtain ⟨rfl, rfl⟩ := trodVars_none hV
  have k0 := h0
  have lt0 : ∀ x ∈ p0, x.block < W.heap.size := by obtain ⟨m, hm⟩ := k0; exact DataW.trod_lt m _ _ _ hm
  obtain ⟨a0, b0, c0, f0, P0, N0, rfl, mP0, mN0, kP0, kN0, hP0, hN0⟩ := open_hll (hval 0 25 v0 rfl rfl) h0
  have k1 := h1
  have lt1 : ∀ x ∈ p1, x.block < W.heap.size := by obtain ⟨m, hm⟩ := k1; exact DataW.trod_lt m _ _ _ hm
  obtain ⟨a1, b1, c1, f1, P1, N1, rfl, mP1, mN1, kP1, kN1, hP1, hN1⟩ := open_hll (hval 1 25 v1 rfl rfl) h1
  clear hA0 hval0
  refine (walkHllSame a0 b0 c0 f0 P0 N0 a1 b1 c1 f1 P1 N1 W mP0 mN0 kP0 kN0 hP0 hN0 mP1 mN1 kP1 kN1 hP1 hN1).mono fun e W' ⟨he, bel⟩ => ?_
  subst he
  exact ⟨_, rfl, _, _, _, [], _, [], hW', trodAll_mk1 (shut_bool Try.underlying4 _), (trodAll_cons_mk (Below.trod laidOut (by kernel_rfl) (of_decide_eq_true (by kernel_rfl)) k0 bel lt0) (trodAll_cons_mk (Below.trod laidOut (by kernel_rfl) (of_decide_eq_true (by kernel_rfl)) k1 bel lt1) trodAll_mk0)), rfl, bel.frame _, fun h => by cases h⟩

theorem overHllSame : Rows.fnExactHllSameRow.holds Try.pinned (OpenSpec.ofChange Rows.fnExactHllSameSpec) :=
  OpenClaim.holds_of_wide 5 Try.f5 rfl rfl rfl rfl rfl rfl rfl ⟨rfl, rfl, rfl, rfl, rfl⟩ rfl rfl rfl rfl rfl (by kernel_rfl) Try.func5 (by kernel_rfl)
    (of_decide_eq_true (by kernel_rfl)) (by unfold Func.isWrapper; first | (rw [if_pos (by decide +kernel)]; kernel_rfl) | (rw [if_neg (by decide +kernel)]; exact ⟨rfl, rfl⟩))
    (fun os started H enc _ => liftedHllSame os started H enc)

theorem fnExactHllSame_holds : Rows.FnExactHllSameSaid := overHllSame
#print axioms fnExactHllSame_holds


end Go.Proofs.Ytgmeofghbilihaa
