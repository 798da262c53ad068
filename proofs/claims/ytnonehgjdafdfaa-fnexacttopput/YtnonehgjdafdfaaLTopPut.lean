/-
  The law FnExactTopPut: at every Top, key and weight the program answers the Top that the model answers; it writes into no argument; its answer owns its memory; nothing that was there has turned. No condition.
-/
import Derived.Test.YtnonehgjdafdfaaTopX
import Derived.Test.YtnonehgjdafdfaaOpenT
import Derived.Lib.SmallJoins
import Derived.Carry
import Derived.Deep.RegionHeld3
import Derived.Deep.DeepCutAuto
import Derived.ShutString
import Derived.ChangeOld
namespace Go.Proofs.Ytnonehgjdafdfaa
set_option linter.unusedVariables false
set_option linter.unusedSimpArgs false
open Go.ChangeMaps (open_string shut_string)
open Go.ChangeShapes Go.WideShapes Go.ChangeAt Go.RowKit Go.Joins
set_option maxRecDepth 10000

set_option maxHeartbeats 4000000 in
theorem walkTopPut (pa : Option Addr) (pc : Nat) (P : List Hv) (d t : Int) (key : ByteArray) (wt : Int) (w : World) (lP : P.length ≤ maxLen) (kP : ∀ x ∈ P, HvIn x) (hd : I64 d) (ht : I64 t) (hP : HvsAt w pa P) (hkm : key.size ≤ maxLen) (hwt : I64 wt) :
    Calls Try.prog 3 #[.agg #[.slice pa P.length pc, .int .i64 d, .int .i64 t], .string key, .int .i64 wt] w fun e w' => e = .returned (.bool true) ∧ Below w.heap.size w w' := by
  obtain ⟨pn, ep⟩ : ∃ n, P.length = n := ⟨_, rfl⟩
  rw [ep] at lP
  rw [ep]
  have HP := hide hP
  have KP := hide kP
  have EP := hide ep
  have HD := hide hd
  have HTt := hide ht
  have HWt := hide hwt
  have hW : ∀ o1, Below w.heap.size w (w.alloc o1) := fun o1 => (Below.refl _ _).alloc (Nat.le_refl _) _
  have HW := hide hW
  have HAl : Hid (∀ (W : World) o, Below W.heap.size W (W.alloc o)) := fun W o => (Below.refl _ _).alloc (Nat.le_refl _) _
  clear hP kP ep hW hd ht hwt
  unfold maxLen at hkm
  rcases Nat.lt_or_ge 1048576 key.size with hkz | hkz
  · go_enter Try.func3, Try.ntmps3
    go_wp2
    go_ret
    exact ⟨rfl, HW.out _⟩
  go_enter Try.func3, Try.ntmps3
  go_wp2_with fail
  refine (c_szTop _ _ _ _ _ (by omega) (by omega) EP.out lP (hv_len KP.out) (hvs_past HP.out (HW.out _))).mono ?_
  rintro e w1 ⟨v, rfl, hv, hsm, hb1⟩
  have HT1 := hide ((HW.out _).trans (hb1.mono (by simp)))
  have K1 := tp_past (tp_new w _ _ _ _) hb1
  clear hb1
  by_cases hv0 : v < 0
  · clear hsm
    go_wp2
    go_ret
    exact ⟨rfl, HT1.out⟩
  obtain ⟨v0, lp, hsz⟩ := hsm hv0
  have KO := hide (hv_ok KP.out hsz)
  clear hsm hsz
  obtain ⟨PP, Z, H, lPP, fX⟩ := put_fixT P d t wt key (by rw [EP.out]; exact lp)
  have FX := hide fX
  obtain ⟨pm, epm⟩ : ∃ n, PP.length = n := ⟨_, rfl⟩
  rw [epm] at lPP
  have EPM := hide epm
  clear fX epm
  go_wp2_with fail
  refine (c_toTop EP.out lp (hvs_past HP.out HT1.out)).mono ?_
  rintro e w2 ⟨gp, rfl, q1, q2, oP, hb2⟩
  have HT2 := hide (chain HT1.out hb2)
  have K2 := tp_past K1 hb2
  have BP := hide (hvs_owned oP EP.out.symm rfl)
  clear hb2 oP K1 q1 q2
  go_wp2_with fail
  refine (c_s_TopPut hkz EP.out lp (Nat.le_refl _) lP BP.out (fun e => by cases e) KO.out HD.out HTt.out HWt.out).mono ?_
  rintro e w3 ⟨v3, rfl, hb3, hq3⟩
  obtain ⟨sa, sc, rfl, hs1⟩ := (FX.out _ _ _ hq3).open EPM.out
  have HT3 := hide (chain HT2.out hb3)
  have K3 := tp_past K2 hb3
  have z12 := HT2.out.size
  have z23 := hb3.size
  have S1lt := hide hs1.lt
  have KA3 : ∀ o, TpCell (w3.alloc o) w.heap.size (.slice pa pn pc) d t := fun o => tp_past K3 (HAl.out _ o)
  have HS1 := hide hs1
  clear hb3 hq3 K2 hs1 BP
  go_wp2_with fail
  refine (c_toTop EP.out lp (hvs_past HP.out (chain HT3.out (HAl.out _ _)))).mono ?_
  rintro e w4 ⟨gp2, rfl, q4, q5, oP, hb4⟩
  simp only [World.size_alloc] at q4
  have HB4 := hide (chain (HAl.out _ _) hb4)
  have HT4 := hide (chain HT3.out HB4.out)
  have K4 := tp_past K3 HB4.out
  have V4 := tp_past (tp_new w3 _ _ _ _) hb4
  have z34 := HB4.out.size
  have BP4 := hide (hvs_owned oP EP.out.symm rfl)
  have OP4 : Hid (w4.ownsRow 0 52 2 (.slice (some ⟨gp2, 0, none⟩) pn pn) pn (fl encH P)) := (own_le oP (Nat.zero_le _) : _)
  have KA4 : ∀ o, TpCell (w4.alloc o) w.heap.size (.slice pa pn pc) d t := fun o => tp_past K4 (HAl.out _ o)
  have VA4 : ∀ o, TpCell (w4.alloc o) w3.heap.size (.slice sa pm sc) Z H := fun o => tp_past V4 (HAl.out _ o)
  clear hb4 oP K3 KA3
  go_wp2_with fail
  refine (c_i_TopPut hkz EP.out lp (hvs_past BP4.out (HAl.out _ _)) KO.out HD.out HTt.out HWt.out).mono ?_
  rintro e w5 ⟨v5, rfl, hb5, hq5⟩
  obtain ⟨ga, gc, rfl, hs1⟩ := (FX.out _ _ _ hq5).open EPM.out
  have HB5 := hide (chain (HAl.out _ _) hb5)
  have HT5 := hide (chain HT4.out HB5.out)
  have K5 := tp_past K4 HB5.out
  have V5 := tp_past V4 HB5.out
  have X5 := tp_past (tp_new w4 _ _ _ _) hb5
  have z45 := hb5.size
  simp only [World.size_alloc] at z45
  have G1lt := hide hs1.lt
  have HG1 := hide hs1
  clear hb5 hq5 K4 V4 KA4 VA4 hs1
  have KA5 : ∀ o, TpCell (w5.alloc o) w.heap.size (.slice pa pn pc) d t := fun o => tp_past K5 (HAl.out _ o)
  have VA5 : ∀ o, TpCell (w5.alloc o) w3.heap.size (.slice sa pm sc) Z H := fun o => tp_past V5 (HAl.out _ o)
  have XA5 : ∀ o, TpCell (w5.alloc o) w4.heap.size (.slice (some ⟨gp2, 0, none⟩) pn pn) d t := fun o => tp_past X5 (HAl.out _ o)
  go_wp2_with fail
  refine (c_eqTop EPM.out lPP (hvs_past HG1.out.at (HAl.out _ _)) (hvs_past HS1.out.at (chain (chain HB4.out HB5.out) (HAl.out _ _)))).mono ?_
  rintro e w6 ⟨rfl, hb6⟩
  have HB6 := hide (chain (HAl.out _ _) hb6)
  have HT6 := hide (chain HT5.out HB6.out)
  have K6 := tp_past K5 HB6.out
  have V6 := tp_past V5 HB6.out
  have X6 := tp_past X5 HB6.out
  have Y6 := tp_past (tp_new w5 _ _ _ _) hb6
  have z56 := hb6.size
  simp only [World.size_alloc] at z56
  have hK6 : ∀ W, Below w6.heap.size w6 W → TpCell W w.heap.size (.slice pa pn pc) d t ∧ TpCell W w4.heap.size (.slice (some ⟨gp2, 0, none⟩) pn pn) d t := fun W hW => ⟨tp_past K6 hW, tp_past X6 hW⟩
  have HK6 := hide hK6
  have HV6 := hide V6
  have HY6 := hide Y6
  have HC6 := hide (chain HB5.out HB6.out)
  clear hb6 K5 V5 X5 KA5 VA5 XA5 hK6 V6 Y6
  go_wp2_with fail
  go_region_held3 (fun W => Kept w6.heap.size w6 W ∧ TpCell W w.heap.size (.slice pa pn pc) d t ∧ TpCell W w4.heap.size (.slice (some ⟨gp2, 0, none⟩) pn pn) d t)
    (first | exact hS3 | exact ⟨held (Below.refl _ _).drew (by simp), HK6.out _ (Below.refl _ _).drew⟩)
    (first
      | (go_at_call 8; have hS := (‹Kept _ _ _ ∧ _ ∧ _›).1; refine (c_toTop EP.out lp (hvs_past HP.out (chain HT6.out hS.1))).mono ?_; rintro e w7 ⟨gp3, rfl, _, _, oP, hb7⟩; have hS1 := (held_call hb7 hS).1; have hS3 : Kept w6.heap.size w6 w7 ∧ _ := ⟨held hS1 (Nat.le_refl _), HK6.out _ hS1⟩; have BP7 := hide (hvs_owned oP EP.out.symm rfl); clear hb7 oP)
      | (go_at_call 10; have hS := (‹Kept _ _ _ ∧ _ ∧ _›).1; refine (c_eqTop EP.out lp (hvs_past BP4.out (chain HC6.out hS.1)) BP7.out).mono ?_; rintro e w8 ⟨rfl, hb8⟩; have hS1 := (held_call hb8 hS).1; have hS3 : Kept w6.heap.size w6 w8 ∧ _ := ⟨held hS1 (Nat.le_refl _), HK6.out _ hS1⟩; clear hb8))
  have HB8 := hide hS3.1.1
  obtain ⟨_, K8, X8⟩ := hS3
  have V8 := tp_past HV6.out HB8.out
  have Y8 := tp_past HY6.out HB8.out
  have HT8 := hide (chain HT6.out HB8.out)
  have HC8 := hide (chain HC6.out HB8.out)
  have HD8 := hide (chain HB6.out HB8.out)
  have z68 := HB8.out.size
  clear hS1 BP7 HK6 HV6 HY6 K6 X6
  go_wp2_with fail
  refine (c_markTop 1 (by omega) (by omega) lp EP.out.symm (own_past OP4.out HC8.out)).mono ?_
  rintro e w9 ⟨rfl, _, hg9⟩
  obtain ⟨k9, hk9⟩ : ∃ k, 1 + 2 * pn = k := ⟨_, rfl⟩
  rw [hk9]
  have d9 : decide ((k9 : Int) < 0) = false := decide_eq_false (by omega)
  have ne9 : ∀ k, k < w3.heap.size + 1 ∨ w4.heap.size ≤ k → (Value.slice (some ⟨gp2, 0, none⟩) pn pn).ownBlock ≠ some k := fun k hk e => by
    have h1 : gp2 = k := Option.some.inj e
    omega
  have zw3 := HT3.out.size
  have K9 := tp_kept K8 hg9 (ne9 _ (.inl (by omega)))
  have V9 := tp_kept V8 hg9 (ne9 _ (.inl (by omega)))
  have Y9 := tp_kept Y8 hg9 (ne9 _ (.inr (by omega)))
  have HS19 := hide ((HS1.out.past (chain (chain HB4.out HB5.out) HD8.out)).kept hg9 (fun k e => by have := (S1lt.out k e).2; exact (ne9 k (.inl (by omega))).symm))
  have G1b : ∀ k, (Value.slice ga pm gc).ownBlock = some k → w4.heap.size + 1 ≤ k ∧ k < w5.heap.size := fun k e => by have := G1lt.out k e; simpa using this
  have HG19 := hide ((HG1.out.past HD8.out).kept hg9 (fun k e => by have := (G1b k e).1; exact (ne9 k (.inr (by omega))).symm))
  have HT9 := hide (HT8.out.grown hg9 HT8.out.size (fun k e => by have h1 : gp2 = k := Option.some.inj e; omega))
  have z89 := hg9.size
  have HG1b := hide G1b
  clear hg9 hk9 ne9 G1b K8 V8 X8 Y8 OP4 BP4
  go_wp2_with fail
  refine (c_eqTop EPM.out lPP HG19.out.at HS19.out.at).mono ?_
  rintro e w10 ⟨rfl, hb10⟩
  have HB10 := hide hb10
  have HT10 := hide (chain HT9.out hb10)
  have K10 := tp_past K9 hb10
  have V10 := tp_past V9 hb10
  have Y10 := tp_past Y9 hb10
  have z910 := hb10.size
  clear hb10 K9 V9 Y9
  go_wp2_with fail
  have OG := HG19.out.past HB10.out
  unfold OwnH at OG
  rw [EPM.out] at OG
  refine (c_markTop 1 (by omega) (by omega) lPP EPM.out.symm OG).mono ?_
  rintro e w11 ⟨rfl, ho1, hg11⟩
  obtain ⟨k11, hk11⟩ : ∃ k, 1 + 2 * pm = k := ⟨_, rfl⟩
  rw [hk11]
  have HK11 := hide hk11
  have d11 : decide ((k11 : Int) < 0) = false := decide_eq_false (by omega)
  have neg : ∀ k, k < w4.heap.size + 1 ∨ w5.heap.size ≤ k → (Value.slice ga pm gc).ownBlock ≠ some k := fun k hk e => by
    have := HG1b.out k e
    omega
  have K11 := tp_kept K10 hg11 (neg _ (.inl (by omega)))
  have V11 := tp_kept V10 hg11 (neg _ (.inl (by omega)))
  have Y11 := tp_kept Y10 hg11 (neg _ (.inr (by omega)))
  have HS111 := hide ((HS19.out.past HB10.out).kept hg11 (fun k e => by have := (S1lt.out k e).2; exact (neg k (.inl (by omega))).symm))
  have HT11 := hide (HT10.out.grown hg11 HT10.out.size (fun k e => by have := HG1b.out k e; omega))
  have HM1 := hide ho1
  clear hg11 hk11 neg K10 V10 Y10 ho1 HG19 OG
  go_wp2_with fail
  refine (c_heldTop 1 (by omega) (by omega) lPP HM1.out).mono ?_
  rintro e w12 ⟨rfl, hb12⟩
  rw [HK11.out]
  have HB12 := hide hb12
  have HT12 := hide (chain HT11.out hb12)
  have K12 := tp_past K11 hb12
  have V12 := tp_past V11 hb12
  have Y12 := tp_past Y11 hb12
  clear hb12 K11 V11 Y11
  go_wp2_with fail
  refine (c_toTop EP.out lp (hvs_past HP.out HT12.out)).mono ?_
  rintro e w13 ⟨gp5, rfl, _, _, oP, hb13⟩
  have HB13 := hide (chain HB12.out hb13)
  have HT13 := hide (chain HT12.out hb13)
  have V13 := tp_past V12 hb13
  have Y13 := tp_past Y12 hb13
  have BP13 := hide (hvs_owned oP EP.out.symm rfl)
  clear hb13 oP K12 V12 Y12
  go_wp2_with fail
  refine (c_i_TopPut hkz EP.out lp BP13.out KO.out HD.out HTt.out HWt.out).mono ?_
  rintro e w14 ⟨v14, rfl, hb14, hq14⟩
  obtain ⟨ha, hc, rfl, hs1⟩ := (FX.out _ _ _ hq14).open EPM.out
  have HB14 := hide (chain HB13.out hb14)
  have HT14 := hide (chain HT13.out hb14)
  have V14 := tp_past V13 hb14
  have Y14 := tp_past Y13 hb14
  have VA14 : ∀ o, TpCell (w14.alloc o) w3.heap.size (.slice sa pm sc) Z H := fun o => tp_past V14 (HAl.out _ o)
  have HH1 := hide hs1
  clear hb14 hq14 V13 Y13 hs1
  go_wp2_with fail
  refine (c_eqTop EPM.out lPP (hvs_past HH1.out.at (HAl.out _ _)) (hvs_past HS111.out.at (chain HB14.out (HAl.out _ _)))).mono ?_
  rintro e w15 ⟨rfl, hb15⟩
  have HX15 := hide (chain (HAl.out _ _) hb15)
  have HB15 := hide (chain HB14.out HX15.out)
  have HT15 := hide (chain HT14.out HX15.out)
  have Y15 := tp_past Y14 HX15.out
  clear hb15 V14 Y14 VA14
  go_wp2_with fail
  refine (c_heldTop 1 (by omega) (by omega) lPP (own_past HM1.out HB15.out)).mono ?_
  rintro e w16 ⟨rfl, hb16⟩
  rw [HK11.out]
  have HT16 := hide (chain HT15.out hb16)
  clear hb16
  go_wp2
  go_ret
  exact ⟨rfl, HT16.out⟩

theorem own : ownKnob Try.prog.godebug = none := by kernel_rfl
theorem laidOut : laidOutB Try.prog = true := by kernel_rfl

set_option maxRecDepth 100000 in
theorem liftedTopPut (os : Os) (started : os.Started) (H : Type) (enc : TypeId × Value → H) :
    ReturnsInHanded {} Try.checked os 3 .any (Rows.fnExactTopPutSpec.pre6 enc Try.prog Try.f3 Rows.fnExactTopPutRow.domain false) (Rows.fnExactTopPutSpec.post enc Try.prog Try.f3 false true false false) := by
  refine returnsInHanded_of_change (C := Try.checked) own started (by kernel_rfl) Try.func3
    (ChangeSpec.witness6 (enc := enc) (C := Try.checked) false ⟨#[], #[.agg #[.slice none 0 0, .int .i64 0, .int .i64 0], .string ByteArray.empty, .int .i64 0], []⟩ 8 (by kernel_rfl) (by kernel_rfl) (by kernel_rfl) (by kernel_rfl)) ?_
  intro W base args ds gs before hval0 hW hcnd _
  have hval : ∀ (j : Nat) t v, Try.f3.params[j]? = some t → args[j]? = some v → Value.okWide Try.prog W .any base t v := hval0
  have hW' := hW
  obtain ⟨p, q, hA0, hV, rfl, hfz, hnd⟩ := hW
  have hA : DataW.TrodAll enc Try.prog W 0 (fun _ => true) true Try.f3.params.toList args.toList ds p := hA0
  rw [Try.params3] at hA hval
  obtain ⟨v0, vs0, d0, ds0, p0, q0, hargs, rfl, rfl, h0, r0⟩ := trodAll_cons hA
  obtain ⟨v1, vs1, d1, ds1, p1, q1, rfl, rfl, rfl, h1, r1⟩ := trodAll_cons r0
  obtain ⟨v2, vs2, d2, ds2, p2, q2, rfl, rfl, rfl, h2, r2⟩ := trodAll_cons r1
  obtain ⟨rfl, rfl, rfl⟩ := trodAll_nil r2
  obtain rfl : args = #[v0, v1, v2] := by cases args; simp_all
  obtain ⟨rfl, rfl⟩ := trodVars_none hV
  have k0 := h0
  have lt0 : ∀ x ∈ p0, x.block < W.heap.size := by obtain ⟨m, hm⟩ := k0; exact DataW.trod_lt m _ _ _ hm
  obtain ⟨a0, c0, P0, b0, t0, rfl, mP0, kP0, hb0, ht0, hP0⟩ := open_top (hval 0 24 v0 rfl rfl) h0
  have k1 := h1
  have lt1 : ∀ x ∈ p1, x.block < W.heap.size := by obtain ⟨m, hm⟩ := k1; exact DataW.trod_lt m _ _ _ hm
  obtain ⟨a1, rfl, rfl, rfl, w1⟩ := open_string Try.underlying9 (hval 1 9 v1 rfl rfl) h1
  have k2 := h2
  have lt2 : ∀ x ∈ p2, x.block < W.heap.size := by obtain ⟨m, hm⟩ := k2; exact DataW.trod_lt m _ _ _ hm
  obtain ⟨a2, rfl, rfl, rfl, w2⟩ := open_int Try.underlying2 (hval 2 2 v2 rfl rfl) h2
  clear hA0 hval0
  refine (walkTopPut a0 c0 P0 b0 t0 a1 a2 W mP0 kP0 hb0 ht0 hP0 w1 (bounds_i64 w2)).mono fun e W' ⟨he, bel⟩ => ?_
  subst he
  exact ⟨_, rfl, _, _, _, [], _, [], hW', trodAll_mk1 (shut_bool Try.underlying4 _), (trodAll_cons_mk (Below.trod laidOut (by kernel_rfl) (of_decide_eq_true (by kernel_rfl)) k0 bel lt0) (trodAll_cons_mk (Below.trod laidOut (by kernel_rfl) (of_decide_eq_true (by kernel_rfl)) k1 bel lt1) (trodAll_cons_mk (Below.trod laidOut (by kernel_rfl) (of_decide_eq_true (by kernel_rfl)) k2 bel lt2) trodAll_mk0))), rfl, bel.frame _, fun h => by cases h⟩

theorem overTopPut : Rows.fnExactTopPutRow.holds Try.pinned (OpenSpec.ofChange Rows.fnExactTopPutSpec) :=
  OpenClaim.holds_of_wide 3 Try.f3 rfl rfl rfl rfl rfl rfl rfl ⟨rfl, rfl, rfl, rfl, rfl⟩ rfl rfl rfl rfl rfl (by kernel_rfl) Try.func3 (by kernel_rfl)
    (of_decide_eq_true (by kernel_rfl)) (by unfold Func.isWrapper; first | (rw [if_pos (by decide +kernel)]; kernel_rfl) | (rw [if_neg (by decide +kernel)]; exact ⟨rfl, rfl⟩))
    (fun os started H enc _ => liftedTopPut os started H enc)

theorem fnExactTopPut_holds : Rows.FnExactTopPutSaid := overTopPut
#print axioms fnExactTopPut_holds


end Go.Proofs.Ytnonehgjdafdfaa
