/-
  The law FnExactTopMerge: at every two Tops the program answers the Top that the model answers; it writes into no argument; its answer owns its memory; nothing that was there has turned. No condition.
-/
import Derived.Test.YtnonehgjdafdfaaTopX
import Derived.Test.YtnonehgjdafdfaaOpenT
import Derived.Lib.SmallJoins
import Derived.Carry
import Derived.Deep.RegionHeld3
import Derived.Deep.DeepCutAuto
import Derived.ShutString
import Derived.ChangeOld
namespace Go.Proofs.Ytnonehgjdafdfaa
set_option linter.unusedVariables false
set_option linter.unusedSimpArgs false
open Go.ChangeMaps (open_string shut_string)
open Go.ChangeShapes Go.WideShapes Go.ChangeAt Go.RowKit Go.Joins
set_option maxRecDepth 10000

set_option maxHeartbeats 8000000 in
theorem walkTopMerge (pa : Option Addr) (pc : Nat) (P : List Hv) (d t : Int) (pb : Option Addr) (pd : Nat) (P' : List Hv) (d' t' : Int) (w : World) (lP : P.length ≤ maxLen) (kP : ∀ x ∈ P, HvIn x) (hd : I64 d) (ht : I64 t) (hP : HvsAt w pa P) (lP' : P'.length ≤ maxLen) (kP' : ∀ x ∈ P', HvIn x) (hd' : I64 d') (ht' : I64 t') (hP' : HvsAt w pb P') :
    Calls Try.prog 4 #[.agg #[.slice pa P.length pc, .int .i64 d, .int .i64 t], .agg #[.slice pb P'.length pd, .int .i64 d', .int .i64 t']] w fun e w' => e = .returned (.bool true) ∧ Below w.heap.size w w' := by
  obtain ⟨pn, ep⟩ : ∃ n, P.length = n := ⟨_, rfl⟩
  obtain ⟨pm, ep'⟩ : ∃ n, P'.length = n := ⟨_, rfl⟩
  rw [ep] at lP; rw [ep'] at lP'
  rw [ep, ep']
  have HP := hide hP
  have HP' := hide hP'
  have KP := hide kP
  have KP' := hide kP'
  have EP := hide ep
  have EP' := hide ep'
  have HD := hide hd
  have HTt := hide ht
  have HD' := hide hd'
  have HTt' := hide ht'
  clear hP kP ep hP' kP' ep' hd ht hd' ht'
  go_enter Try.func4, Try.ntmps4
  go_wp2_with fail
  generalize hW0 : (w.alloc (Obj.cells #[.slice pa pn pc, .int .i64 d, .int .i64 t] 24)).alloc (Obj.cells #[.slice pb pm pd, .int .i64 d', .int .i64 t'] 24) = W0
  have T0 : Below w.heap.size w W0 := by rw [← hW0]; exact ((Below.refl _ _).alloc (Nat.le_refl _) _).alloc (by simp) _
  have K0 : TpCell W0 w.heap.size (.slice pa pn pc) d t := by rw [← hW0]; exact tp_past (tp_new w _ _ _ _) ((Below.refl _ _).alloc (Nat.le_refl _) _)
  have J0 : TpCell W0 (w.heap.size + 1) (.slice pb pm pd) d' t' := by
    rw [← hW0]
    have := tp_new (w.alloc (Obj.cells #[.slice pa pn pc, .int .i64 d, .int .i64 t] 24)) 24 (.slice pb pm pd) d' t'
    simpa using this
  have hsz0 : W0.heap.size = w.heap.size + 2 := by rw [← hW0]; simp
  clear hW0
  have HT0 := hide T0
  clear T0
  refine (c_szTop _ _ _ _ _ (by omega) (by omega) EP.out lP (hv_len KP.out) (hvs_past HP.out HT0.out)).mono ?_
  rintro e w1 ⟨v, rfl, hv, hsm, hb1⟩
  have HT1 := hide (chain HT0.out hb1)
  have K1 := tp_past K0 hb1
  have J1 := tp_past J0 hb1
  clear hb1 K0 J0
  by_cases hv0 : v < 0
  · clear hsm
    go_wp2
    go_ret
    exact ⟨rfl, HT1.out⟩
  obtain ⟨v0, lp, hsz⟩ := hsm hv0
  have KO := hide (hv_ok KP.out hsz)
  clear hsm hsz
  go_wp2_with fail
  refine (c_szTop _ _ _ _ _ (by omega) (by omega) EP'.out lP' (hv_len KP'.out) (hvs_past HP'.out HT1.out)).mono ?_
  rintro e w2 ⟨v', rfl, hv', hsm, hb2⟩
  have HT2 := hide (chain HT1.out hb2)
  have K2 := tp_past K1 hb2
  have J2 := tp_past J1 hb2
  clear hb2 K1 J1
  by_cases hv0' : v' < 0
  · clear hsm
    go_wp2
    go_ret
    exact ⟨rfl, HT2.out⟩
  obtain ⟨v0', lp', hsz⟩ := hsm hv0'
  have KO' := hide (hv_ok KP'.out hsz)
  clear hsm hsz
  have HAl : Hid (∀ (W : World) o, Below W.heap.size W (W.alloc o)) := fun W o => (Below.refl _ _).alloc (Nat.le_refl _) _
  obtain ⟨PP, Z, H, lPP, fX⟩ := mrg_fixT P P' d t d' t'
  have FX := hide fX
  obtain ⟨pm2, epm⟩ : ∃ n, PP.length = n := ⟨_, rfl⟩
  rw [epm] at lPP
  have EPM := hide epm
  have hK2 : ∀ W, Below w2.heap.size w2 W → TpCell W w.heap.size (.slice pa pn pc) d t ∧ TpCell W (w.heap.size + 1) (.slice pb pm pd) d' t' := fun W hW => ⟨tp_past K2 hW, tp_past J2 hW⟩
  have HK2 := hide hK2
  clear fX epm hK2 K2 J2
  go_wp2_with fail
  rename_i Q1 _ _ K1 A1
  have REST : ∀ (X : World) (b gp3 gp4 : Nat) (sa : Option Addr) (sc : Nat), Below w2.heap.size w2 X → TpCell X b (.slice sa pm2 sc) Z H → OwnH X 0 (.slice sa pm2 sc) PP → Exit.then K1 Q1 .normal ⟨#[.agg #[.slice pa pn pc, .int .i64 d, .int .i64 t], .agg #[.slice pb pm pd, .int .i64 d', .int .i64 t'], .pointer (some ⟨w.heap.size, 0, none⟩), .pointer (some ⟨w.heap.size + 1, 0, none⟩), .bool false, .int .i64 v', .pointer (some ⟨b, 0, none⟩), undef, undef, undef, undef, undef, undef, undef, .agg #[.slice pa pn pc, .int .i64 d, .int .i64 t], .int .i64 1048576, .int .i64 v, .int .i64 v, .bool (decide (v < 0)), .agg #[.slice pb pm pd, .int .i64 d', .int .i64 t'], .int .i64 v, .int .i64 v', .int .i64 v', .bool (decide (v' < 0)), .agg #[.slice pa pn pc, .int .i64 d, .int .i64 t], .agg #[.slice (some ⟨gp3, 0, none⟩) pn pn, .int .i64 d, .int .i64 t], .agg #[.slice pb pm pd, .int .i64 d', .int .i64 t'], .agg #[.slice (some ⟨gp4, 0, none⟩) pm pm, .int .i64 d', .int .i64 t'], .agg #[.slice sa pm2 sc, .int .i64 Z, .int .i64 H], undef, undef, undef, undef, undef, undef, undef, undef, undef, undef, undef, undef, undef, undef, undef, undef, undef, undef, undef, undef, undef, undef, undef, undef, undef, undef, undef, undef, undef, undef, undef, undef, undef, undef, undef, undef, undef, undef, undef, undef, undef, undef, undef, undef, undef, undef, undef, undef, undef, undef, undef, undef, undef, undef, undef, undef, undef, undef, undef, undef, undef, undef, undef], []⟩ X := by
    intro X b jp3 jp4 ta tc hX hV o1
    have HTX := hide (chain HT2.out hX)
    have zX := hX.size
    have zw2 := HT2.out.size
    obtain ⟨K3, J3⟩ := HK2.out X hX
    have zb := World.block_lt_of_cell? _ _ hV.1
    have S1lt := hide (fun k e => (o1.lt k e).2)
    have HS1 := hide o1
    have HV3 := hide hV
    have zJ := World.block_lt_of_cell? _ _ J3.1
    clear hX hV o1 HK2
    go_wp2_with fail
    refine (c_toTop EP.out lp (hvs_past HP.out HTX.out)).mono ?_
    rintro e w4 ⟨gp, rfl, q4, q5, oP, hb4⟩
    have HB4 := hide hb4
    have HT4 := hide (chain HTX.out hb4)
    have K4 := tp_past K3 hb4
    have J4 := tp_past J3 hb4
    have HV4 := hide (tp_past HV3.out hb4)
    have z34 := hb4.size
    have BP4 := hide (hvs_owned oP EP.out.symm rfl)
    have OP4 : Hid (w4.ownsRow 0 52 2 (.slice (some ⟨gp, 0, none⟩) pn pn) pn (fl encH P)) := (own_le oP (Nat.zero_le _) : _)
    have KA4 : ∀ o, TpCell (w4.alloc o) w.heap.size (.slice pa pn pc) d t := fun o => tp_past K4 (HAl.out _ o)
    have JA4 : ∀ o, TpCell (w4.alloc o) (w.heap.size + 1) (.slice pb pm pd) d' t' := fun o => tp_past J4 (HAl.out _ o)
    clear hb4 oP K3 J3 HV3
    go_wp2_with fail
    refine (c_toTop EP'.out lp' (hvs_past HP'.out (chain HT4.out (HAl.out _ _)))).mono ?_
    rintro e w5 ⟨gp', rfl, r4, r5, oP, hb5⟩
    simp only [World.size_alloc] at r4
    have HB5 := hide (chain (HAl.out _ _) hb5)
    have HT5 := hide (chain HT4.out HB5.out)
    have K5 := tp_past K4 HB5.out
    have J5 := tp_past J4 HB5.out
    have HV5 := hide (tp_past HV4.out HB5.out)
    have X5 := tp_past (tp_new w4 _ _ _ _) hb5
    have z45 := hb5.size
    simp only [World.size_alloc] at z45
    have BP5 := hide (hvs_owned oP EP'.out.symm rfl)
    have OP5 : Hid (w5.ownsRow 0 52 2 (.slice (some ⟨gp', 0, none⟩) pm pm) pm (fl encH P')) := (own_le oP (Nat.zero_le _) : _)
    have XA5 : ∀ o, TpCell (w5.alloc o) w4.heap.size (.slice (some ⟨gp, 0, none⟩) pn pn) d t := fun o => tp_past X5 (HAl.out _ o)
    clear hb5 oP K4 J4 KA4 JA4 HV4
    go_wp2_with fail
    refine (c_i_TopMerge EP.out EP'.out lp lp' (hvs_past BP4.out (chain HB5.out (HAl.out _ _))) (hvs_past BP5.out (HAl.out _ _)) KO.out KO'.out HD.out HTt.out HD'.out HTt'.out).mono ?_
    rintro e w6 ⟨v6, rfl, hb6, hq6⟩
    obtain ⟨ga, gc, rfl, hs1⟩ := (FX.out _ _ _ hq6).open EPM.out
    have HB6 := hide (chain (HAl.out _ _) hb6)
    have HT6 := hide (chain HT5.out HB6.out)
    have K6 := tp_past K5 HB6.out
    have J6 := tp_past J5 HB6.out
    have V6 := tp_past HV5.out HB6.out
    have X6 := tp_past X5 HB6.out
    have Y6 := tp_past (tp_new w5 _ _ _ _) hb6
    have z56 := hb6.size
    simp only [World.size_alloc] at z56
    have G1lt := hide hs1.lt
    have HG1 := hide hs1
    clear hb6 hq6 K5 J5 X5 XA5 HV5 hs1
    have VA6 : ∀ o, TpCell (w6.alloc o) b (.slice ta pm2 tc) Z H := fun o => tp_past V6 (HAl.out _ o)
    go_wp2_with fail
    refine (c_eqTop EPM.out lPP (hvs_past HG1.out.at (HAl.out _ _)) (hvs_past HS1.out.at (chain (chain (chain HB4.out HB5.out) HB6.out) (HAl.out _ _)))).mono ?_
    rintro e w7 ⟨rfl, hb7⟩
    have HB7 := hide (chain (HAl.out _ _) hb7)
    have HT7 := hide (chain HT6.out HB7.out)
    have K7 := tp_past K6 HB7.out
    have J7 := tp_past J6 HB7.out
    have X7 := tp_past X6 HB7.out
    have Y7 := tp_past Y6 HB7.out
    have HV7 := hide (tp_past V6 HB7.out)
    have HZ7 := hide (tp_past (tp_new w6 _ _ _ _) hb7)
    have z67 := hb7.size
    simp only [World.size_alloc] at z67
    have hK7 : ∀ W, Below w7.heap.size w7 W → TpCell W w.heap.size (.slice pa pn pc) d t ∧ TpCell W (w.heap.size + 1) (.slice pb pm pd) d' t' ∧ TpCell W w4.heap.size (.slice (some ⟨gp, 0, none⟩) pn pn) d t ∧ TpCell W w5.heap.size (.slice (some ⟨gp', 0, none⟩) pm pm) d' t' := fun W hW => ⟨tp_past K7 hW, tp_past J7 hW, tp_past X7 hW, tp_past Y7 hW⟩
    have HK7 := hide hK7
    have HC7 := hide (chain HB6.out HB7.out)
    have HC57 := hide (chain HB5.out HC7.out)
    clear hb7 K6 J6 V6 X6 Y6 VA6 hK7 K7 J7 X7 Y7
    go_wp2_with fail
    go_region_held3 (fun W => Kept w7.heap.size w7 W ∧ TpCell W w.heap.size (.slice pa pn pc) d t ∧ TpCell W (w.heap.size + 1) (.slice pb pm pd) d' t' ∧ TpCell W w4.heap.size (.slice (some ⟨gp, 0, none⟩) pn pn) d t ∧ TpCell W w5.heap.size (.slice (some ⟨gp', 0, none⟩) pm pm) d' t')
      (first | exact hS3 | exact ⟨held (Below.refl _ _).drew (by simp), HK7.out _ (Below.refl _ _).drew⟩)
      (first
        | (go_at_call 8; have hS := (‹Kept _ _ _ ∧ _›).1; refine (c_toTop EP.out lp (hvs_past HP.out (chain HT7.out hS.1))).mono ?_; rintro e w8 ⟨gp8, rfl, _, _, oP, hb9⟩; have hS1 := (held_call hb9 hS).1; have hS3 : Kept w7.heap.size w7 w8 ∧ _ := ⟨held hS1 (Nat.le_refl _), HK7.out _ hS1⟩; have BP9 := hide (hvs_owned oP EP.out.symm rfl); clear hb9 oP hS1)
        | (go_at_call 10; have hS := (‹Kept _ _ _ ∧ _›).1; refine (c_eqTop EP.out lp (hvs_past BP4.out (chain HC57.out hS.1)) BP9.out).mono ?_; rintro e w8 ⟨rfl, hb10⟩; have hS1 := (held_call hb10 hS).1; have hS3 : Kept w7.heap.size w7 w8 ∧ _ := ⟨held hS1 (Nat.le_refl _), HK7.out _ hS1⟩; clear hb10 hS1))
    have HB8 := hide hS3.1.1
    have HK8 : Hid (∀ W, Below w8.heap.size w8 W → _) := fun W hW => HK7.out W (chain HB8.out hW)
    have HT8 := hide (chain HT7.out HB8.out)
    have HC8 := hide (chain HC7.out HB8.out)
    have z78 := HB8.out.size
    clear hS3 BP9
    go_wp2_with fail
    go_region_held3 (fun W => Kept w8.heap.size w8 W ∧ TpCell W w.heap.size (.slice pa pn pc) d t ∧ TpCell W (w.heap.size + 1) (.slice pb pm pd) d' t' ∧ TpCell W w4.heap.size (.slice (some ⟨gp, 0, none⟩) pn pn) d t ∧ TpCell W w5.heap.size (.slice (some ⟨gp', 0, none⟩) pm pm) d' t')
      (first | exact hS3 | exact ⟨held (Below.refl _ _).drew (by simp), HK8.out _ (Below.refl _ _).drew⟩)
      (first
        | (go_at_call 8; have hS := (‹Kept _ _ _ ∧ _›).1; refine (c_toTop EP'.out lp' (hvs_past HP'.out (chain HT8.out hS.1))).mono ?_; rintro e w9 ⟨gp9, rfl, _, _, oP, hb9⟩; have hS1 := (held_call hb9 hS).1; have hS3 : Kept w8.heap.size w8 w9 ∧ _ := ⟨held hS1 (Nat.le_refl _), HK8.out _ hS1⟩; have BP9 := hide (hvs_owned oP EP'.out.symm rfl); clear hb9 oP hS1)
        | (go_at_call 10; have hS := (‹Kept _ _ _ ∧ _›).1; refine (c_eqTop EP'.out lp' (hvs_past BP5.out (chain HC8.out hS.1)) BP9.out).mono ?_; rintro e w9 ⟨rfl, hb10⟩; have hS1 := (held_call hb10 hS).1; have hS3 : Kept w8.heap.size w8 w9 ∧ _ := ⟨held hS1 (Nat.le_refl _), HK8.out _ hS1⟩; clear hb10 hS1))
    have HB9 := hide hS3.1.1
    obtain ⟨_, K9, J9, X9, Y9⟩ := hS3
    have HB79 := hide (chain HB8.out HB9.out)
    have V9 := tp_past HV7.out HB79.out
    have Z9 := tp_past HZ7.out HB79.out
    have HT9 := hide (chain HT8.out HB9.out)
    have HC9 := hide (chain HC7.out HB79.out)
    have HC59 := hide (chain HC57.out HB79.out)
    have HD9 := hide (chain HB7.out HB79.out)
    have HE9 := hide (chain HB4.out HC59.out)
    have z89 := HB9.out.size
    clear BP9 HK7 HK8 HV7 HZ7
    go_wp2_with fail
    refine (c_markTop 1 (by omega) (by omega) lp EP.out.symm (own_past OP4.out HC59.out)).mono ?_
    rintro e w10 ⟨rfl, _, hg10⟩
    obtain ⟨k10, hk10⟩ : ∃ k, 1 + 2 * pn = k := ⟨_, rfl⟩
    rw [hk10]
    have hk10a : 1 ≤ k10 := by omega
    have hk10b : k10 ≤ 10000000 := by omega
    have ne10 : ∀ k, k < X.heap.size ∨ w4.heap.size ≤ k → (Value.slice (some ⟨gp, 0, none⟩) pn pn).ownBlock ≠ some k := fun k hk e => by
      have h1 : gp = k := Option.some.inj e
      omega
    have zwX := HTX.out.size
    have K10 := tp_kept K9 hg10 (ne10 _ (.inl (by omega)))
    have J10 := tp_kept J9 hg10 (ne10 _ (.inl (by omega)))
    have V10 := tp_kept V9 hg10 (ne10 _ (.inl (by omega)))
    have Y10 := tp_kept Y9 hg10 (ne10 _ (.inr (by omega)))
    have Z10 := tp_kept Z9 hg10 (ne10 _ (.inr (by omega)))
    have HS110 := hide ((HS1.out.past HE9.out).kept hg10 (fun k e => by have := S1lt.out k e; exact (ne10 k (.inl (by omega))).symm))
    have OP5a : OwnH w9 0 (.slice (some ⟨gp', 0, none⟩) pm pm) P' := by unfold OwnH; rw [EP'.out]; exact own_past OP5.out HC9.out
    have OP10 := hide (OP5a.kept hg10 (fun k e => by have h1 : gp' = k := Option.some.inj e; exact (ne10 k (.inr (by omega))).symm))
    have G1b : ∀ k, (Value.slice ga pm2 gc).ownBlock = some k → w5.heap.size + 1 ≤ k ∧ k < w6.heap.size := fun k e => by have := G1lt.out k e; simpa using this
    have HG110 := hide ((HG1.out.past HD9.out).kept hg10 (fun k e => by have := (G1b k e).1; exact (ne10 k (.inr (by omega))).symm))
    have HT10 := hide (HT9.out.grown hg10 HT9.out.size (fun k e => by have h1 : gp = k := Option.some.inj e; omega))
    have z910 := hg10.size
    have HG1b := hide G1b
    clear hg10 hk10 ne10 G1b K9 J9 V9 X9 Y9 Z9 OP4 BP4 BP5 OP5a
    go_wp2_with fail
    have OQ := OP10.out
    unfold OwnH at OQ
    rw [EP'.out] at OQ
    refine (c_markTop k10 hk10a hk10b lp' EP'.out.symm OQ).mono ?_
    rintro e w11 ⟨rfl, _, hg11⟩
    obtain ⟨k11, hk11⟩ : ∃ k, k10 + 2 * pm = k := ⟨_, rfl⟩
    rw [hk11]
    have d11 : decide ((k11 : Int) < 0) = false := decide_eq_false (by omega)
    have ne11 : ∀ k, k < w4.heap.size + 1 ∨ w5.heap.size ≤ k → (Value.slice (some ⟨gp', 0, none⟩) pm pm).ownBlock ≠ some k := fun k hk e => by
      have h1 : gp' = k := Option.some.inj e
      omega
    have K11 := tp_kept K10 hg11 (ne11 _ (.inl (by omega)))
    have J11 := tp_kept J10 hg11 (ne11 _ (.inl (by omega)))
    have V11 := tp_kept V10 hg11 (ne11 _ (.inl (by omega)))
    have Z11 := tp_kept Z10 hg11 (ne11 _ (.inr (by omega)))
    have HS111 := hide (HS110.out.kept hg11 (fun k e => by have := S1lt.out k e; exact (ne11 k (.inl (by omega))).symm))
    have HG111 := hide (HG110.out.kept hg11 (fun k e => by have := (HG1b.out k e).1; exact (ne11 k (.inr (by omega))).symm))
    have HT11 := hide (HT10.out.grown hg11 HT10.out.size (fun k e => by have h1 : gp' = k := Option.some.inj e; omega))
    have z1011 := hg11.size
    clear hg11 hk11 ne11 K10 J10 V10 Y10 Z10 OP10 OQ HS110 HG110
    go_wp2_with fail
    refine (c_eqTop EPM.out lPP HG111.out.at HS111.out.at).mono ?_
    rintro e w12 ⟨rfl, hb12⟩
    have HB12 := hide hb12
    have HT12 := hide (chain HT11.out hb12)
    have K12 := tp_past K11 hb12
    have J12 := tp_past J11 hb12
    have V12 := tp_past V11 hb12
    have Z12 := tp_past Z11 hb12
    have z1112 := hb12.size
    clear hb12 K11 J11 V11 Z11
    go_wp2_with fail
    have OG := HG111.out.past HB12.out
    unfold OwnH at OG
    rw [EPM.out] at OG
    refine (c_markTop 1 (by omega) (by omega) lPP EPM.out.symm OG).mono ?_
    rintro e w13 ⟨rfl, ho1, hg13⟩
    obtain ⟨k13, hk13⟩ : ∃ k, 1 + 2 * pm2 = k := ⟨_, rfl⟩
    rw [hk13]
    have HK13 := hide hk13
    have d13 : decide ((k13 : Int) < 0) = false := decide_eq_false (by omega)
    have neg : ∀ k, k < w5.heap.size + 1 ∨ w6.heap.size ≤ k → (Value.slice ga pm2 gc).ownBlock ≠ some k := fun k hk e => by
      have := HG1b.out k e
      omega
    have K13 := tp_kept K12 hg13 (neg _ (.inl (by omega)))
    have J13 := tp_kept J12 hg13 (neg _ (.inl (by omega)))
    have V13 := tp_kept V12 hg13 (neg _ (.inl (by omega)))
    have Z13 := tp_kept Z12 hg13 (neg _ (.inr (by omega)))
    have HS113 := hide ((HS111.out.past HB12.out).kept hg13 (fun k e => by have := S1lt.out k e; exact (neg k (.inl (by omega))).symm))
    have HT13 := hide (HT12.out.grown hg13 HT12.out.size (fun k e => by have := HG1b.out k e; omega))
    have HM1 := hide ho1
    clear hg13 hk13 neg K12 J12 V12 Z12 ho1 HG111 OG
    go_wp2_with fail
    refine (c_heldTop 1 (by omega) (by omega) lPP HM1.out).mono ?_
    rintro e w14 ⟨rfl, hb14⟩
    rw [HK13.out]
    have HB14 := hide hb14
    have HT14 := hide (chain HT13.out hb14)
    have K14 := tp_past K13 hb14
    have J14 := tp_past J13 hb14
    have HV14 := hide (tp_past V13 hb14)
    have HZ14 := hide (tp_past Z13 hb14)
    have hK14 : ∀ W, Below w14.heap.size w14 W → TpCell W w.heap.size (.slice pa pn pc) d t ∧ TpCell W (w.heap.size + 1) (.slice pb pm pd) d' t' := fun W hW => ⟨tp_past K14 hW, tp_past J14 hW⟩
    have HK14 := hide hK14
    clear hb14 K13 J13 V13 Z13 K14 J14 hK14
    go_wp2_with fail
    rename_i K2 A2
    have REST2 : ∀ (X2 : World) (b2 gp3 gp4 : Nat) (sa : Option Addr) (sc : Nat), Below w14.heap.size w14 X2 → TpCell X2 b2 (.slice sa pm2 sc) Z H → OwnH X2 0 (.slice sa pm2 sc) PP → Exit.then K2 Q1 .normal ⟨#[.agg #[.slice pa pn pc, .int .i64 d, .int .i64 t], .agg #[.slice pb pm pd, .int .i64 d', .int .i64 t'], .pointer (some ⟨w.heap.size, 0, none⟩), .pointer (some ⟨w.heap.size + 1, 0, none⟩), .bool false, .int .i64 v', .pointer (some ⟨b, 0, none⟩), .pointer (some ⟨w4.heap.size, 0, none⟩), .pointer (some ⟨w5.heap.size, 0, none⟩), .pointer (some ⟨w6.heap.size, 0, none⟩), .int .i64 ↑k11, .int .i64 ↑k13, .int .i64 ↑k13, .pointer (some ⟨b2, 0, none⟩), .agg #[.slice pa pn pc, .int .i64 d, .int .i64 t], .int .i64 1048576, .int .i64 v, .int .i64 v, .bool (decide (v < 0)), .agg #[.slice pb pm pd, .int .i64 d', .int .i64 t'], .int .i64 v, .int .i64 v', .int .i64 v', .bool (decide (v' < 0)), .agg #[.slice pa pn pc, .int .i64 d, .int .i64 t], .agg #[.slice (some ⟨jp3, 0, none⟩) pn pn, .int .i64 d, .int .i64 t], .agg #[.slice pb pm pd, .int .i64 d', .int .i64 t'], .agg #[.slice (some ⟨jp4, 0, none⟩) pm pm, .int .i64 d', .int .i64 t'], .agg #[.slice ta pm2 tc, .int .i64 Z, .int .i64 H], .agg #[.slice pa pn pc, .int .i64 d, .int .i64 t], .agg #[.slice (some ⟨gp, 0, none⟩) pn pn, .int .i64 d, .int .i64 t], .agg #[.slice pb pm pd, .int .i64 d', .int .i64 t'], .agg #[.slice (some ⟨gp', 0, none⟩) pm pm, .int .i64 d', .int .i64 t'], .agg #[.slice (some ⟨gp, 0, none⟩) pn pn, .int .i64 d, .int .i64 t], .agg #[.slice (some ⟨gp', 0, none⟩) pm pm, .int .i64 d', .int .i64 t'], .agg #[.slice ga pm2 gc, .int .i64 Z, .int .i64 H], .agg #[.slice ga pm2 gc, .int .i64 Z, .int .i64 H], .agg #[.slice ta pm2 tc, .int .i64 Z, .int .i64 H], .bool true, .bool false, .agg #[.slice (some ⟨gp, 0, none⟩) pn pn, .int .i64 d, .int .i64 t], .agg #[.slice pa pn pc, .int .i64 d, .int .i64 t], .agg #[.slice (some ⟨gp8, 0, none⟩) pn pn, .int .i64 d, .int .i64 t], .bool true, .bool false, .agg #[.slice (some ⟨gp', 0, none⟩) pm pm, .int .i64 d', .int .i64 t'], .agg #[.slice pb pm pd, .int .i64 d', .int .i64 t'], .agg #[.slice (some ⟨gp9, 0, none⟩) pm pm, .int .i64 d', .int .i64 t'], .bool true, .bool false, .agg #[.slice (some ⟨gp, 0, none⟩) pn pn, .int .i64 d, .int .i64 t], .int .i64 1, .int .i64 ↑k10, .agg #[.slice (some ⟨gp', 0, none⟩) pm pm, .int .i64 d', .int .i64 t'], .int .i64 ↑k10, .int .i64 ↑k11, .int .i64 ↑k11, .bool false, .bool false, .agg #[.slice ga pm2 gc, .int .i64 Z, .int .i64 H], .agg #[.slice ta pm2 tc, .int .i64 Z, .int .i64 H], .bool true, .bool false, .bool false, .agg #[.slice ga pm2 gc, .int .i64 Z, .int .i64 H], .int .i64 1, .int .i64 ↑k13, .agg #[.slice ga pm2 gc, .int .i64 Z, .int .i64 H], .int .i64 1, .int .i64 ↑k13, .int .i64 ↑k13, .bool false, .int .i64 ↑k13, .int .i64 ↑k13, .bool false, .agg #[.slice pa pn pc, .int .i64 d, .int .i64 t], .agg #[.slice (some ⟨gp3, 0, none⟩) pn pn, .int .i64 d, .int .i64 t], .agg #[.slice pb pm pd, .int .i64 d', .int .i64 t'], .agg #[.slice (some ⟨gp4, 0, none⟩) pm pm, .int .i64 d', .int .i64 t'], .agg #[.slice sa pm2 sc, .int .i64 Z, .int .i64 H], undef, undef, undef, undef, undef, undef, undef, undef, undef, undef, undef, undef], []⟩ X2 := by
      intro X2 b2 gp3 gp4 sa sc hX hV o1
      have HO1 := hide o1
      have HB15 := hide (chain HB14.out hX)
      have HT15 := hide (chain HT14.out hX)
      have V15 := tp_past HV14.out hX
      have Z15 := tp_past HZ14.out hX
      clear o1 hX HK14
      go_wp2_with fail
      refine (c_eqTop EPM.out lPP HO1.out.at (hvs_past HS113.out.at HB15.out)).mono ?_
      rintro e w16 ⟨rfl, hb16⟩
      have HB16 := hide (chain HB15.out hb16)
      have HT16 := hide (chain HT15.out hb16)
      have Z16 := tp_past Z15 hb16
      clear hb16 V15 Z15 hV
      go_wp2_with fail
      refine (c_heldTop 1 (by omega) (by omega) lPP (own_past HM1.out HB16.out)).mono ?_
      rintro e w17 ⟨rfl, hb17⟩
      rw [HK13.out]
      have HT17 := hide (chain HT16.out hb17)
      clear hb17
      go_wp2
      go_ret
      exact ⟨rfl, HT17.out⟩
    have HS0 : (fun W => Below w14.heap.size w14 W) w14.drew := (Below.refl _ _).drew
    refine regionK (fun W => Below w14.heap.size w14 W) 6 (by kernel_rfl) ?_
    refine takeK (i := 0) (d := 75) (v := .agg #[.slice pa pn pc, .int .i64 d, .int .i64 t]) rfl rfl (by kernel_rfl) (by kernel_rfl) (by kernel_rfl) (by decide) (by kernel_rfl) (fun _ _ _ h => h) (Or.inl ⟨by rfl, fun W hW => ?_⟩) HS0 ?_
    · obtain ⟨⟨x0, x1, x2⟩, ⟨y0, y1, y2⟩⟩ := HK14.out W hW
      go_simp
    simp only [List.setIfInBounds_toArray, List.set_cons_zero, List.set_cons_succ]
    refine takeK (i := 2) (d := 77) (v := .agg #[.slice pb pm pd, .int .i64 d', .int .i64 t']) rfl rfl (by kernel_rfl) (by kernel_rfl) (by kernel_rfl) (by decide) (by kernel_rfl) (fun _ _ _ h => h) (Or.inl ⟨by rfl, fun W hW => ?_⟩) HS0 ?_
    · obtain ⟨⟨x0, x1, x2⟩, ⟨y0, y1, y2⟩⟩ := HK14.out W hW
      go_simp
    simp only [List.setIfInBounds_toArray, List.set_cons_zero, List.set_cons_succ]
    refine twoK (i := 1) (j := 5) (by kernel_rfl) rfl rfl (fun K hK => ?_) (fun K hK => ?_)
    · go_simp
      refine (c_toTop EP.out lp (hvs_past HP.out (chain HT14.out HS0))).mono ?_
      rintro e W3 ⟨gp3, rfl, _, _, oP, hb⟩
      dsimp only
      have HBW3 := hide ((HS0 : Below w14.heap.size w14 _).trans (hb.mono (HS0 : Below w14.heap.size w14 _).size))
      have BP3 := hide (hvs_owned oP EP.out.symm rfl)
      clear hb oP
      refine hK.out _ _ (fun _ => HBW3.out) ?_
      clear hK K
      try simp only [Act.put, List.setIfInBounds_toArray, List.set_cons_zero, List.set_cons_succ]
      refine twoK (i := 3) (j := 5) (by kernel_rfl) rfl rfl (fun K hK => ?_) (fun K hK => ?_)
      · go_simp
        refine (c_toTop EP'.out lp' (hvs_past HP'.out (chain HT14.out HBW3.out))).mono ?_
        rintro e W4 ⟨gp4, rfl, _, _, oP, hb⟩
        dsimp only
        have HBW4 := hide ((HBW3.out : Below w14.heap.size w14 _).trans (hb.mono (HBW3.out : Below w14.heap.size w14 _).size))
        have BP34 := hide (hvs_past BP3.out hb)
        have BP4 := hide (hvs_owned oP EP'.out.symm rfl)
        clear hb oP
        refine hK.out _ _ (fun _ => HBW4.out) ?_
        clear hK K
        try simp only [Act.put, List.setIfInBounds_toArray, List.set_cons_zero, List.set_cons_succ]
        refine twoK (i := 4) (j := 5) (by kernel_rfl) rfl rfl (fun K hK => ?_) (fun K hK => ?_)
        · go_simp
          refine (c_i_TopMerge EP.out EP'.out lp lp' BP34.out BP4.out KO.out KO'.out HD.out HTt.out HD'.out HTt'.out).mono ?_
          rintro e W5 ⟨v5, rfl, hb, hq5⟩
          dsimp only
          obtain ⟨sa, sc, rfl, hs1⟩ := (FX.out _ _ _ hq5).open EPM.out
          have HBW5 := hide ((HBW4.out : Below w14.heap.size w14 _).trans (hb.mono (HBW4.out : Below w14.heap.size w14 _).size))
          have HO1 := hide (hs1.le (Nat.zero_le _))
          clear hb hq5 hs1
          refine hK.out _ _ (fun _ => HBW5.out) ?_
          clear hK K
          try simp only [Act.put, List.setIfInBounds_toArray, List.set_cons_zero, List.set_cons_succ]
          refine oneK (i := 5) (by kernel_rfl) rfl (fun K hK => ?_)
          go_simp
          have HBa := hide (Below.alloc (HBW5.out : Below w14.heap.size w14 W5) (HBW5.out : Below w14.heap.size w14 W5).size (.cells zeroTp 28))
          have HRa : Hid ((W5.alloc (.cells zeroTp 28)).heap[W5.heap.size]? = some (.cells zeroTp 28 (0, 0))) := (heap_alloc_new W5 (.cells zeroTp 28) : _)
          refine hK.out _ _ (fun _ => HBa.out) ?_
          clear hK K
          try simp only [Act.put, List.setIfInBounds_toArray, List.set_cons_zero, List.set_cons_succ]
          have R5 : (W5.alloc (.cells zeroTp 28)).heap[W5.heap.size]? = some (.cells zeroTp 28 (0, 0)) := HRa.out
          obtain ⟨q0, q1, q2⟩ := cell3 R5
          have f0 := frozen_of_row (W5.alloc (.cells zeroTp 28)) (W5.heap.size) 0 _ _ R5
          have f1 := frozen_of_row (W5.alloc (.cells zeroTp 28)) (W5.heap.size) 1 _ _ R5
          have f2 := frozen_of_row (W5.alloc (.cells zeroTp 28)) (W5.heap.size) 2 _ _ R5
          refine oneK (i := 6) (by kernel_rfl) rfl (fun K hK => ?_)
          go_simp
          refine hK.out _ _ (fun h => absurd rfl h) ?_
          clear hK K
          try simp only [Act.put, List.setIfInBounds_toArray, List.set_cons_zero, List.set_cons_succ]
          refine doneK (by kernel_rfl) ?_ _
          exact REST2 _ _ gp3 gp4 sa sc (Below.alloc HBW5.out HBW5.out.size _) (tp_new W5 _ _ _ _) (HO1.out.past (HAl.out _ _))
        · go_simp
          have HBa := hide (Below.alloc (HBW4.out : Below w14.heap.size w14 W4) (HBW4.out : Below w14.heap.size w14 W4).size (.cells zeroTp 28))
          have HRa : Hid ((W4.alloc (.cells zeroTp 28)).heap[W4.heap.size]? = some (.cells zeroTp 28 (0, 0))) := (heap_alloc_new W4 (.cells zeroTp 28) : _)
          have BP34a := hide (hvs_past BP34.out ((Below.refl _ W4).alloc (Nat.le_refl _) (.cells zeroTp 28)))
          have BP4a := hide (hvs_past BP4.out ((Below.refl _ W4).alloc (Nat.le_refl _) (.cells zeroTp 28)))
          have HBb : Hid (w14.heap.size ≤ W4.heap.size) := ((HBW4.out : Below w14.heap.size w14 W4).size : _)
          refine hK.out _ _ (fun _ => HBa.out) ?_
          clear hK K
          try simp only [Act.put, List.setIfInBounds_toArray, List.set_cons_zero, List.set_cons_succ]
          refine oneK (i := 4) (by kernel_rfl) rfl (fun K hK => ?_)
          go_simp
          refine (c_i_TopMerge EP.out EP'.out lp lp' BP34a.out BP4a.out KO.out KO'.out HD.out HTt.out HD'.out HTt'.out).mono ?_
          rintro e W5 ⟨v5, rfl, hb, hq5⟩
          dsimp only
          obtain ⟨sa, sc, rfl, hs1⟩ := (FX.out _ _ _ hq5).open EPM.out
          have HBW5 := hide ((HBa.out : Below w14.heap.size w14 _).trans (hb.mono (HBa.out : Below w14.heap.size w14 _).size))
          have HRW5 : Hid (W5.heap[W4.heap.size]? = some (.cells zeroTp 28 (0, 0))) := by
            refine (?_ : W5.heap[W4.heap.size]? = some (.cells zeroTp 28 (0, 0)))
            rw [hb.block _ (Array.getElem?_eq_some_iff.1 HRa.out).1]; exact HRa.out
          have HO1 := hide (hs1.le (Nat.zero_le _))
          clear hb hq5 hs1
          refine hK.out _ _ (fun _ => HBW5.out) ?_
          clear hK K
          try simp only [Act.put, List.setIfInBounds_toArray, List.set_cons_zero, List.set_cons_succ]
          have R5 : W5.heap[W4.heap.size]? = some (.cells zeroTp 28 (0, 0)) := HRW5.out
          obtain ⟨q0, q1, q2⟩ := cell3 R5
          have f0 := frozen_of_row W5 (W4.heap.size) 0 _ _ R5
          have f1 := frozen_of_row W5 (W4.heap.size) 1 _ _ R5
          have f2 := frozen_of_row W5 (W4.heap.size) 2 _ _ R5
          refine oneK (i := 6) (by kernel_rfl) rfl (fun K hK => ?_)
          go_simp
          refine hK.out _ _ (fun h => absurd rfl h) ?_
          clear hK K
          try simp only [Act.put, List.setIfInBounds_toArray, List.set_cons_zero, List.set_cons_succ]
          refine doneK (by kernel_rfl) ?_ _
          have n1 := HO1.out.ne R5 (by decide)
          exact REST2 _ _ gp3 gp4 sa sc (bel3 HBW5.out HBb.out) (cell3 (row3 R5)) (((HO1.out.set n1 _).set n1 _).set n1 _)
      · go_simp
        have HBa := hide (Below.alloc (HBW3.out : Below w14.heap.size w14 W3) (HBW3.out : Below w14.heap.size w14 W3).size (.cells zeroTp 28))
        have HRa : Hid ((W3.alloc (.cells zeroTp 28)).heap[W3.heap.size]? = some (.cells zeroTp 28 (0, 0))) := (heap_alloc_new W3 (.cells zeroTp 28) : _)
        have BP3a := hide (hvs_past BP3.out ((Below.refl _ W3).alloc (Nat.le_refl _) (.cells zeroTp 28)))
        have HBb : Hid (w14.heap.size ≤ W3.heap.size) := ((HBW3.out : Below w14.heap.size w14 W3).size : _)
        refine hK.out _ _ (fun _ => HBa.out) ?_
        clear hK K
        try simp only [Act.put, List.setIfInBounds_toArray, List.set_cons_zero, List.set_cons_succ]
        refine oneK (i := 3) (by kernel_rfl) rfl (fun K hK => ?_)
        go_simp
        refine (c_toTop EP'.out lp' (hvs_past HP'.out (chain HT14.out HBa.out))).mono ?_
        rintro e W4 ⟨gp4, rfl, _, _, oP, hb⟩
        dsimp only
        have HBW4 := hide ((HBa.out : Below w14.heap.size w14 _).trans (hb.mono (HBa.out : Below w14.heap.size w14 _).size))
        have BP34 := hide (hvs_past BP3a.out hb)
        have BP4 := hide (hvs_owned oP EP'.out.symm rfl)
        have HRW4 : Hid (W4.heap[W3.heap.size]? = some (.cells zeroTp 28 (0, 0))) := by
          refine (?_ : W4.heap[W3.heap.size]? = some (.cells zeroTp 28 (0, 0)))
          rw [hb.block _ (Array.getElem?_eq_some_iff.1 HRa.out).1]; exact HRa.out
        clear hb oP
        refine hK.out _ _ (fun _ => HBW4.out) ?_
        clear hK K
        try simp only [Act.put, List.setIfInBounds_toArray, List.set_cons_zero, List.set_cons_succ]
        refine oneK (i := 4) (by kernel_rfl) rfl (fun K hK => ?_)
        go_simp
        refine (c_i_TopMerge EP.out EP'.out lp lp' BP34.out BP4.out KO.out KO'.out HD.out HTt.out HD'.out HTt'.out).mono ?_
        rintro e W5 ⟨v5, rfl, hb, hq5⟩
        dsimp only
        obtain ⟨sa, sc, rfl, hs1⟩ := (FX.out _ _ _ hq5).open EPM.out
        have HBW5 := hide ((HBW4.out : Below w14.heap.size w14 _).trans (hb.mono (HBW4.out : Below w14.heap.size w14 _).size))
        have HRW5 : Hid (W5.heap[W3.heap.size]? = some (.cells zeroTp 28 (0, 0))) := by
          refine (?_ : W5.heap[W3.heap.size]? = some (.cells zeroTp 28 (0, 0)))
          rw [hb.block _ (Array.getElem?_eq_some_iff.1 HRW4.out).1]; exact HRW4.out
        have HO1 := hide (hs1.le (Nat.zero_le _))
        clear hb hq5 hs1
        refine hK.out _ _ (fun _ => HBW5.out) ?_
        clear hK K
        try simp only [Act.put, List.setIfInBounds_toArray, List.set_cons_zero, List.set_cons_succ]
        have R5 : W5.heap[W3.heap.size]? = some (.cells zeroTp 28 (0, 0)) := HRW5.out
        obtain ⟨q0, q1, q2⟩ := cell3 R5
        have f0 := frozen_of_row W5 (W3.heap.size) 0 _ _ R5
        have f1 := frozen_of_row W5 (W3.heap.size) 1 _ _ R5
        have f2 := frozen_of_row W5 (W3.heap.size) 2 _ _ R5
        refine oneK (i := 6) (by kernel_rfl) rfl (fun K hK => ?_)
        go_simp
        refine hK.out _ _ (fun h => absurd rfl h) ?_
        clear hK K
        try simp only [Act.put, List.setIfInBounds_toArray, List.set_cons_zero, List.set_cons_succ]
        refine doneK (by kernel_rfl) ?_ _
        have n1 := HO1.out.ne R5 (by decide)
        exact REST2 _ _ gp3 gp4 sa sc (bel3 HBW5.out HBb.out) (cell3 (row3 R5)) (((HO1.out.set n1 _).set n1 _).set n1 _)
    · go_simp
      have HBa := hide (Below.alloc (HS0 : Below w14.heap.size w14 w14.drew) (HS0 : Below w14.heap.size w14 w14.drew).size (.cells zeroTp 28))
      have HRa : Hid ((w14.drew.alloc (.cells zeroTp 28)).heap[w14.heap.size]? = some (.cells zeroTp 28 (0, 0))) := (heap_alloc_new w14.drew (.cells zeroTp 28) : _)
      have HBb : Hid (w14.heap.size ≤ w14.heap.size) := ((HS0 : Below w14.heap.size w14 w14.drew).size : _)
      refine hK.out _ _ (fun _ => HBa.out) ?_
      clear hK K
      try simp only [Act.put, List.setIfInBounds_toArray, List.set_cons_zero, List.set_cons_succ]
      refine oneK (i := 1) (by kernel_rfl) rfl (fun K hK => ?_)
      go_simp
      refine (c_toTop EP.out lp (hvs_past HP.out (chain HT14.out HBa.out))).mono ?_
      rintro e W3 ⟨gp3, rfl, _, _, oP, hb⟩
      dsimp only
      have HBW3 := hide ((HBa.out : Below w14.heap.size w14 _).trans (hb.mono (HBa.out : Below w14.heap.size w14 _).size))
      have BP3 := hide (hvs_owned oP EP.out.symm rfl)
      have HRW3 : Hid (W3.heap[w14.heap.size]? = some (.cells zeroTp 28 (0, 0))) := by
        refine (?_ : W3.heap[w14.heap.size]? = some (.cells zeroTp 28 (0, 0)))
        rw [hb.block _ (Array.getElem?_eq_some_iff.1 HRa.out).1]; exact HRa.out
      clear hb oP
      refine hK.out _ _ (fun _ => HBW3.out) ?_
      clear hK K
      try simp only [Act.put, List.setIfInBounds_toArray, List.set_cons_zero, List.set_cons_succ]
      refine oneK (i := 3) (by kernel_rfl) rfl (fun K hK => ?_)
      go_simp
      refine (c_toTop EP'.out lp' (hvs_past HP'.out (chain HT14.out HBW3.out))).mono ?_
      rintro e W4 ⟨gp4, rfl, _, _, oP, hb⟩
      dsimp only
      have HBW4 := hide ((HBW3.out : Below w14.heap.size w14 _).trans (hb.mono (HBW3.out : Below w14.heap.size w14 _).size))
      have BP34 := hide (hvs_past BP3.out hb)
      have BP4 := hide (hvs_owned oP EP'.out.symm rfl)
      have HRW4 : Hid (W4.heap[w14.heap.size]? = some (.cells zeroTp 28 (0, 0))) := by
        refine (?_ : W4.heap[w14.heap.size]? = some (.cells zeroTp 28 (0, 0)))
        rw [hb.block _ (Array.getElem?_eq_some_iff.1 HRW3.out).1]; exact HRW3.out
      clear hb oP
      refine hK.out _ _ (fun _ => HBW4.out) ?_
      clear hK K
      try simp only [Act.put, List.setIfInBounds_toArray, List.set_cons_zero, List.set_cons_succ]
      refine oneK (i := 4) (by kernel_rfl) rfl (fun K hK => ?_)
      go_simp
      refine (c_i_TopMerge EP.out EP'.out lp lp' BP34.out BP4.out KO.out KO'.out HD.out HTt.out HD'.out HTt'.out).mono ?_
      rintro e W5 ⟨v5, rfl, hb, hq5⟩
      dsimp only
      obtain ⟨sa, sc, rfl, hs1⟩ := (FX.out _ _ _ hq5).open EPM.out
      have HBW5 := hide ((HBW4.out : Below w14.heap.size w14 _).trans (hb.mono (HBW4.out : Below w14.heap.size w14 _).size))
      have HRW5 : Hid (W5.heap[w14.heap.size]? = some (.cells zeroTp 28 (0, 0))) := by
        refine (?_ : W5.heap[w14.heap.size]? = some (.cells zeroTp 28 (0, 0)))
        rw [hb.block _ (Array.getElem?_eq_some_iff.1 HRW4.out).1]; exact HRW4.out
      have HO1 := hide (hs1.le (Nat.zero_le _))
      clear hb hq5 hs1
      refine hK.out _ _ (fun _ => HBW5.out) ?_
      clear hK K
      try simp only [Act.put, List.setIfInBounds_toArray, List.set_cons_zero, List.set_cons_succ]
      have R5 : W5.heap[w14.heap.size]? = some (.cells zeroTp 28 (0, 0)) := HRW5.out
      obtain ⟨q0, q1, q2⟩ := cell3 R5
      have f0 := frozen_of_row W5 (w14.heap.size) 0 _ _ R5
      have f1 := frozen_of_row W5 (w14.heap.size) 1 _ _ R5
      have f2 := frozen_of_row W5 (w14.heap.size) 2 _ _ R5
      refine oneK (i := 6) (by kernel_rfl) rfl (fun K hK => ?_)
      go_simp
      refine hK.out _ _ (fun h => absurd rfl h) ?_
      clear hK K
      try simp only [Act.put, List.setIfInBounds_toArray, List.set_cons_zero, List.set_cons_succ]
      refine doneK (by kernel_rfl) ?_ _
      have n1 := HO1.out.ne R5 (by decide)
      exact REST2 _ _ gp3 gp4 sa sc (bel3 HBW5.out HBb.out) (cell3 (row3 R5)) (((HO1.out.set n1 _).set n1 _).set n1 _)
  have HS0 : (fun W => Below w2.heap.size w2 W) w2.drew := (Below.refl _ _).drew
  refine regionK (fun W => Below w2.heap.size w2 W) 6 (by kernel_rfl) ?_
  refine takeK (i := 0) (d := 24) (v := .agg #[.slice pa pn pc, .int .i64 d, .int .i64 t]) rfl rfl (by kernel_rfl) (by kernel_rfl) (by kernel_rfl) (by decide) (by kernel_rfl) (fun _ _ _ h => h) (Or.inl ⟨by rfl, fun W hW => ?_⟩) HS0 ?_
  · obtain ⟨⟨x0, x1, x2⟩, ⟨y0, y1, y2⟩⟩ := HK2.out W hW
    go_simp
  simp only [List.setIfInBounds_toArray, List.set_cons_zero, List.set_cons_succ]
  refine takeK (i := 2) (d := 26) (v := .agg #[.slice pb pm pd, .int .i64 d', .int .i64 t']) rfl rfl (by kernel_rfl) (by kernel_rfl) (by kernel_rfl) (by decide) (by kernel_rfl) (fun _ _ _ h => h) (Or.inl ⟨by rfl, fun W hW => ?_⟩) HS0 ?_
  · obtain ⟨⟨x0, x1, x2⟩, ⟨y0, y1, y2⟩⟩ := HK2.out W hW
    go_simp
  simp only [List.setIfInBounds_toArray, List.set_cons_zero, List.set_cons_succ]
  refine twoK (i := 1) (j := 5) (by kernel_rfl) rfl rfl (fun K hK => ?_) (fun K hK => ?_)
  · go_simp
    refine (c_toTop EP.out lp (hvs_past HP.out (chain HT2.out HS0))).mono ?_
    rintro e W3 ⟨gp3, rfl, _, _, oP, hb⟩
    dsimp only
    have HBW3 := hide ((HS0 : Below w2.heap.size w2 _).trans (hb.mono (HS0 : Below w2.heap.size w2 _).size))
    have BP3 := hide (hvs_owned oP EP.out.symm rfl)
    clear hb oP
    refine hK.out _ _ (fun _ => HBW3.out) ?_
    clear hK K
    try simp only [Act.put, List.setIfInBounds_toArray, List.set_cons_zero, List.set_cons_succ]
    refine twoK (i := 3) (j := 5) (by kernel_rfl) rfl rfl (fun K hK => ?_) (fun K hK => ?_)
    · go_simp
      refine (c_toTop EP'.out lp' (hvs_past HP'.out (chain HT2.out HBW3.out))).mono ?_
      rintro e W4 ⟨gp4, rfl, _, _, oP, hb⟩
      dsimp only
      have HBW4 := hide ((HBW3.out : Below w2.heap.size w2 _).trans (hb.mono (HBW3.out : Below w2.heap.size w2 _).size))
      have BP34 := hide (hvs_past BP3.out hb)
      have BP4 := hide (hvs_owned oP EP'.out.symm rfl)
      clear hb oP
      refine hK.out _ _ (fun _ => HBW4.out) ?_
      clear hK K
      try simp only [Act.put, List.setIfInBounds_toArray, List.set_cons_zero, List.set_cons_succ]
      refine twoK (i := 4) (j := 5) (by kernel_rfl) rfl rfl (fun K hK => ?_) (fun K hK => ?_)
      · go_simp
        refine (c_s_TopMerge EP.out EP'.out lp lp' BP34.out BP4.out (fun e => by cases e) KO.out KO'.out HD.out HTt.out HD'.out HTt'.out).mono ?_
        rintro e W5 ⟨v5, rfl, hb, hq5⟩
        dsimp only
        obtain ⟨sa, sc, rfl, hs1⟩ := (FX.out _ _ _ hq5).open EPM.out
        have HBW5 := hide ((HBW4.out : Below w2.heap.size w2 _).trans (hb.mono (HBW4.out : Below w2.heap.size w2 _).size))
        have HO1 := hide (hs1.le (Nat.zero_le _))
        clear hb hq5 hs1
        refine hK.out _ _ (fun _ => HBW5.out) ?_
        clear hK K
        try simp only [Act.put, List.setIfInBounds_toArray, List.set_cons_zero, List.set_cons_succ]
        refine oneK (i := 5) (by kernel_rfl) rfl (fun K hK => ?_)
        go_simp
        have HBa := hide (Below.alloc (HBW5.out : Below w2.heap.size w2 W5) (HBW5.out : Below w2.heap.size w2 W5).size (.cells zeroTp 28))
        have HRa : Hid ((W5.alloc (.cells zeroTp 28)).heap[W5.heap.size]? = some (.cells zeroTp 28 (0, 0))) := (heap_alloc_new W5 (.cells zeroTp 28) : _)
        refine hK.out _ _ (fun _ => HBa.out) ?_
        clear hK K
        try simp only [Act.put, List.setIfInBounds_toArray, List.set_cons_zero, List.set_cons_succ]
        have R5 : (W5.alloc (.cells zeroTp 28)).heap[W5.heap.size]? = some (.cells zeroTp 28 (0, 0)) := HRa.out
        obtain ⟨q0, q1, q2⟩ := cell3 R5
        have f0 := frozen_of_row (W5.alloc (.cells zeroTp 28)) (W5.heap.size) 0 _ _ R5
        have f1 := frozen_of_row (W5.alloc (.cells zeroTp 28)) (W5.heap.size) 1 _ _ R5
        have f2 := frozen_of_row (W5.alloc (.cells zeroTp 28)) (W5.heap.size) 2 _ _ R5
        refine oneK (i := 6) (by kernel_rfl) rfl (fun K hK => ?_)
        go_simp
        refine hK.out _ _ (fun h => absurd rfl h) ?_
        clear hK K
        try simp only [Act.put, List.setIfInBounds_toArray, List.set_cons_zero, List.set_cons_succ]
        refine doneK (by kernel_rfl) ?_ _
        exact REST _ _ gp3 gp4 sa sc (Below.alloc HBW5.out HBW5.out.size _) (tp_new W5 _ _ _ _) (HO1.out.past (HAl.out _ _))
      · go_simp
        have HBa := hide (Below.alloc (HBW4.out : Below w2.heap.size w2 W4) (HBW4.out : Below w2.heap.size w2 W4).size (.cells zeroTp 28))
        have HRa : Hid ((W4.alloc (.cells zeroTp 28)).heap[W4.heap.size]? = some (.cells zeroTp 28 (0, 0))) := (heap_alloc_new W4 (.cells zeroTp 28) : _)
        have BP34a := hide (hvs_past BP34.out ((Below.refl _ W4).alloc (Nat.le_refl _) (.cells zeroTp 28)))
        have BP4a := hide (hvs_past BP4.out ((Below.refl _ W4).alloc (Nat.le_refl _) (.cells zeroTp 28)))
        have HBb : Hid (w2.heap.size ≤ W4.heap.size) := ((HBW4.out : Below w2.heap.size w2 W4).size : _)
        refine hK.out _ _ (fun _ => HBa.out) ?_
        clear hK K
        try simp only [Act.put, List.setIfInBounds_toArray, List.set_cons_zero, List.set_cons_succ]
        refine oneK (i := 4) (by kernel_rfl) rfl (fun K hK => ?_)
        go_simp
        refine (c_s_TopMerge EP.out EP'.out lp lp' BP34a.out BP4a.out (fun e => by cases e) KO.out KO'.out HD.out HTt.out HD'.out HTt'.out).mono ?_
        rintro e W5 ⟨v5, rfl, hb, hq5⟩
        dsimp only
        obtain ⟨sa, sc, rfl, hs1⟩ := (FX.out _ _ _ hq5).open EPM.out
        have HBW5 := hide ((HBa.out : Below w2.heap.size w2 _).trans (hb.mono (HBa.out : Below w2.heap.size w2 _).size))
        have HRW5 : Hid (W5.heap[W4.heap.size]? = some (.cells zeroTp 28 (0, 0))) := by
          refine (?_ : W5.heap[W4.heap.size]? = some (.cells zeroTp 28 (0, 0)))
          rw [hb.block _ (Array.getElem?_eq_some_iff.1 HRa.out).1]; exact HRa.out
        have HO1 := hide (hs1.le (Nat.zero_le _))
        clear hb hq5 hs1
        refine hK.out _ _ (fun _ => HBW5.out) ?_
        clear hK K
        try simp only [Act.put, List.setIfInBounds_toArray, List.set_cons_zero, List.set_cons_succ]
        have R5 : W5.heap[W4.heap.size]? = some (.cells zeroTp 28 (0, 0)) := HRW5.out
        obtain ⟨q0, q1, q2⟩ := cell3 R5
        have f0 := frozen_of_row W5 (W4.heap.size) 0 _ _ R5
        have f1 := frozen_of_row W5 (W4.heap.size) 1 _ _ R5
        have f2 := frozen_of_row W5 (W4.heap.size) 2 _ _ R5
        refine oneK (i := 6) (by kernel_rfl) rfl (fun K hK => ?_)
        go_simp
        refine hK.out _ _ (fun h => absurd rfl h) ?_
        clear hK K
        try simp only [Act.put, List.setIfInBounds_toArray, List.set_cons_zero, List.set_cons_succ]
        refine doneK (by kernel_rfl) ?_ _
        have n1 := HO1.out.ne R5 (by decide)
        exact REST _ _ gp3 gp4 sa sc (bel3 HBW5.out HBb.out) (cell3 (row3 R5)) (((HO1.out.set n1 _).set n1 _).set n1 _)
    · go_simp
      have HBa := hide (Below.alloc (HBW3.out : Below w2.heap.size w2 W3) (HBW3.out : Below w2.heap.size w2 W3).size (.cells zeroTp 28))
      have HRa : Hid ((W3.alloc (.cells zeroTp 28)).heap[W3.heap.size]? = some (.cells zeroTp 28 (0, 0))) := (heap_alloc_new W3 (.cells zeroTp 28) : _)
      have BP3a := hide (hvs_past BP3.out ((Below.refl _ W3).alloc (Nat.le_refl _) (.cells zeroTp 28)))
      have HBb : Hid (w2.heap.size ≤ W3.heap.size) := ((HBW3.out : Below w2.heap.size w2 W3).size : _)
      refine hK.out _ _ (fun _ => HBa.out) ?_
      clear hK K
      try simp only [Act.put, List.setIfInBounds_toArray, List.set_cons_zero, List.set_cons_succ]
      refine oneK (i := 3) (by kernel_rfl) rfl (fun K hK => ?_)
      go_simp
      refine (c_toTop EP'.out lp' (hvs_past HP'.out (chain HT2.out HBa.out))).mono ?_
      rintro e W4 ⟨gp4, rfl, _, _, oP, hb⟩
      dsimp only
      have HBW4 := hide ((HBa.out : Below w2.heap.size w2 _).trans (hb.mono (HBa.out : Below w2.heap.size w2 _).size))
      have BP34 := hide (hvs_past BP3a.out hb)
      have BP4 := hide (hvs_owned oP EP'.out.symm rfl)
      have HRW4 : Hid (W4.heap[W3.heap.size]? = some (.cells zeroTp 28 (0, 0))) := by
        refine (?_ : W4.heap[W3.heap.size]? = some (.cells zeroTp 28 (0, 0)))
        rw [hb.block _ (Array.getElem?_eq_some_iff.1 HRa.out).1]; exact HRa.out
      clear hb oP
      refine hK.out _ _ (fun _ => HBW4.out) ?_
      clear hK K
      try simp only [Act.put, List.setIfInBounds_toArray, List.set_cons_zero, List.set_cons_succ]
      refine oneK (i := 4) (by kernel_rfl) rfl (fun K hK => ?_)
      go_simp
      refine (c_s_TopMerge EP.out EP'.out lp lp' BP34.out BP4.out (fun e => by cases e) KO.out KO'.out HD.out HTt.out HD'.out HTt'.out).mono ?_
      rintro e W5 ⟨v5, rfl, hb, hq5⟩
      dsimp only
      obtain ⟨sa, sc, rfl, hs1⟩ := (FX.out _ _ _ hq5).open EPM.out
      have HBW5 := hide ((HBW4.out : Below w2.heap.size w2 _).trans (hb.mono (HBW4.out : Below w2.heap.size w2 _).size))
      have HRW5 : Hid (W5.heap[W3.heap.size]? = some (.cells zeroTp 28 (0, 0))) := by
        refine (?_ : W5.heap[W3.heap.size]? = some (.cells zeroTp 28 (0, 0)))
        rw [hb.block _ (Array.getElem?_eq_some_iff.1 HRW4.out).1]; exact HRW4.out
      have HO1 := hide (hs1.le (Nat.zero_le _))
      clear hb hq5 hs1
      refine hK.out _ _ (fun _ => HBW5.out) ?_
      clear hK K
      try simp only [Act.put, List.setIfInBounds_toArray, List.set_cons_zero, List.set_cons_succ]
      have R5 : W5.heap[W3.heap.size]? = some (.cells zeroTp 28 (0, 0)) := HRW5.out
      obtain ⟨q0, q1, q2⟩ := cell3 R5
      have f0 := frozen_of_row W5 (W3.heap.size) 0 _ _ R5
      have f1 := frozen_of_row W5 (W3.heap.size) 1 _ _ R5
      have f2 := frozen_of_row W5 (W3.heap.size) 2 _ _ R5
      refine oneK (i := 6) (by kernel_rfl) rfl (fun K hK => ?_)
      go_simp
      refine hK.out _ _ (fun h => absurd rfl h) ?_
      clear hK K
      try simp only [Act.put, List.setIfInBounds_toArray, List.set_cons_zero, List.set_cons_succ]
      refine doneK (by kernel_rfl) ?_ _
      have n1 := HO1.out.ne R5 (by decide)
      exact REST _ _ gp3 gp4 sa sc (bel3 HBW5.out HBb.out) (cell3 (row3 R5)) (((HO1.out.set n1 _).set n1 _).set n1 _)
  · go_simp
    have HBa := hide (Below.alloc (HS0 : Below w2.heap.size w2 w2.drew) (HS0 : Below w2.heap.size w2 w2.drew).size (.cells zeroTp 28))
    have HRa : Hid ((w2.drew.alloc (.cells zeroTp 28)).heap[w2.heap.size]? = some (.cells zeroTp 28 (0, 0))) := (heap_alloc_new w2.drew (.cells zeroTp 28) : _)
    have HBb : Hid (w2.heap.size ≤ w2.heap.size) := ((HS0 : Below w2.heap.size w2 w2.drew).size : _)
    refine hK.out _ _ (fun _ => HBa.out) ?_
    clear hK K
    try simp only [Act.put, List.setIfInBounds_toArray, List.set_cons_zero, List.set_cons_succ]
    refine oneK (i := 1) (by kernel_rfl) rfl (fun K hK => ?_)
    go_simp
    refine (c_toTop EP.out lp (hvs_past HP.out (chain HT2.out HBa.out))).mono ?_
    rintro e W3 ⟨gp3, rfl, _, _, oP, hb⟩
    dsimp only
    have HBW3 := hide ((HBa.out : Below w2.heap.size w2 _).trans (hb.mono (HBa.out : Below w2.heap.size w2 _).size))
    have BP3 := hide (hvs_owned oP EP.out.symm rfl)
    have HRW3 : Hid (W3.heap[w2.heap.size]? = some (.cells zeroTp 28 (0, 0))) := by
      refine (?_ : W3.heap[w2.heap.size]? = some (.cells zeroTp 28 (0, 0)))
      rw [hb.block _ (Array.getElem?_eq_some_iff.1 HRa.out).1]; exact HRa.out
    clear hb oP
    refine hK.out _ _ (fun _ => HBW3.out) ?_
    clear hK K
    try simp only [Act.put, List.setIfInBounds_toArray, List.set_cons_zero, List.set_cons_succ]
    refine oneK (i := 3) (by kernel_rfl) rfl (fun K hK => ?_)
    go_simp
    refine (c_toTop EP'.out lp' (hvs_past HP'.out (chain HT2.out HBW3.out))).mono ?_
    rintro e W4 ⟨gp4, rfl, _, _, oP, hb⟩
    dsimp only
    have HBW4 := hide ((HBW3.out : Below w2.heap.size w2 _).trans (hb.mono (HBW3.out : Below w2.heap.size w2 _).size))
    have BP34 := hide (hvs_past BP3.out hb)
    have BP4 := hide (hvs_owned oP EP'.out.symm rfl)
    have HRW4 : Hid (W4.heap[w2.heap.size]? = some (.cells zeroTp 28 (0, 0))) := by
      refine (?_ : W4.heap[w2.heap.size]? = some (.cells zeroTp 28 (0, 0)))
      rw [hb.block _ (Array.getElem?_eq_some_iff.1 HRW3.out).1]; exact HRW3.out
    clear hb oP
    refine hK.out _ _ (fun _ => HBW4.out) ?_
    clear hK K
    try simp only [Act.put, List.setIfInBounds_toArray, List.set_cons_zero, List.set_cons_succ]
    refine oneK (i := 4) (by kernel_rfl) rfl (fun K hK => ?_)
    go_simp
    refine (c_s_TopMerge EP.out EP'.out lp lp' BP34.out BP4.out (fun e => by cases e) KO.out KO'.out HD.out HTt.out HD'.out HTt'.out).mono ?_
    rintro e W5 ⟨v5, rfl, hb, hq5⟩
    dsimp only
    obtain ⟨sa, sc, rfl, hs1⟩ := (FX.out _ _ _ hq5).open EPM.out
    have HBW5 := hide ((HBW4.out : Below w2.heap.size w2 _).trans (hb.mono (HBW4.out : Below w2.heap.size w2 _).size))
    have HRW5 : Hid (W5.heap[w2.heap.size]? = some (.cells zeroTp 28 (0, 0))) := by
      refine (?_ : W5.heap[w2.heap.size]? = some (.cells zeroTp 28 (0, 0)))
      rw [hb.block _ (Array.getElem?_eq_some_iff.1 HRW4.out).1]; exact HRW4.out
    have HO1 := hide (hs1.le (Nat.zero_le _))
    clear hb hq5 hs1
    refine hK.out _ _ (fun _ => HBW5.out) ?_
    clear hK K
    try simp only [Act.put, List.setIfInBounds_toArray, List.set_cons_zero, List.set_cons_succ]
    have R5 : W5.heap[w2.heap.size]? = some (.cells zeroTp 28 (0, 0)) := HRW5.out
    obtain ⟨q0, q1, q2⟩ := cell3 R5
    have f0 := frozen_of_row W5 (w2.heap.size) 0 _ _ R5
    have f1 := frozen_of_row W5 (w2.heap.size) 1 _ _ R5
    have f2 := frozen_of_row W5 (w2.heap.size) 2 _ _ R5
    refine oneK (i := 6) (by kernel_rfl) rfl (fun K hK => ?_)
    go_simp
    refine hK.out _ _ (fun h => absurd rfl h) ?_
    clear hK K
    try simp only [Act.put, List.setIfInBounds_toArray, List.set_cons_zero, List.set_cons_succ]
    refine doneK (by kernel_rfl) ?_ _
    have n1 := HO1.out.ne R5 (by decide)
    exact REST _ _ gp3 gp4 sa sc (bel3 HBW5.out HBb.out) (cell3 (row3 R5)) (((HO1.out.set n1 _).set n1 _).set n1 _)

theorem own : ownKnob Try.prog.godebug = none := by kernel_rfl
theorem laidOut : laidOutB Try.prog = true := by kernel_rfl

set_option maxRecDepth 100000 in
theorem liftedTopMerge (os : Os) (started : os.Started) (H : Type) (enc : TypeId × Value → H) :
    ReturnsInHanded {} Try.checked os 4 .any (Rows.fnExactTopMergeSpec.pre6 enc Try.prog Try.f4 Rows.fnExactTopMergeRow.domain false) (Rows.fnExactTopMergeSpec.post enc Try.prog Try.f4 false true false false) := by
  refine returnsInHanded_of_change (C := Try.checked) own started (by kernel_rfl) Try.func4
    (ChangeSpec.witness6 (enc := enc) (C := Try.checked) false ⟨#[], #[.agg #[.slice none 0 0, .int .i64 0, .int .i64 0], .agg #[.slice none 0 0, .int .i64 0, .int .i64 0]], []⟩ 8 (by kernel_rfl) (by kernel_rfl) (by kernel_rfl) (by kernel_rfl)) ?_
  intro W base args ds gs before hval0 hW hcnd _
  have hval : ∀ (j : Nat) t v, Try.f4.params[j]? = some t → args[j]? = some v → Value.okWide Try.prog W .any base t v := hval0
  have hW' := hW
  obtain ⟨p, q, hA0, hV, rfl, hfz, hnd⟩ := hW
  have hA : DataW.TrodAll enc Try.prog W 0 (fun _ => true) true Try.f4.params.toList args.toList ds p := hA0
  rw [Try.params4] at hA hval
  obtain ⟨v0, vs0, d0, ds0, p0, q0, hargs, rfl, rfl, h0, r0⟩ := trodAll_cons hA
  obtain ⟨v1, vs1, d1, ds1, p1, q1, rfl, rfl, rfl, h1, r1⟩ := trodAll_cons r0
  obtain ⟨rfl, rfl, rfl⟩ := trodAll_nil r1
  obtain rfl : args = #[v0, v1] := by cases args; simp_all
  obtain ⟨rfl, rfl⟩ := trodVars_none hV
  have k0 := h0
  have lt0 : ∀ x ∈ p0, x.block < W.heap.size := by obtain ⟨m, hm⟩ := k0; exact DataW.trod_lt m _ _ _ hm
  obtain ⟨a0, c0, P0, b0, t0, rfl, mP0, kP0, hb0, ht0, hP0⟩ := open_top (hval 0 24 v0 rfl rfl) h0
  have k1 := h1
  have lt1 : ∀ x ∈ p1, x.block < W.heap.size := by obtain ⟨m, hm⟩ := k1; exact DataW.trod_lt m _ _ _ hm
  obtain ⟨a1, c1, P1, b1, t1, rfl, mP1, kP1, hb1, ht1, hP1⟩ := open_top (hval 1 24 v1 rfl rfl) h1
  clear hA0 hval0
  refine (walkTopMerge a0 c0 P0 b0 t0 a1 c1 P1 b1 t1 W mP0 kP0 hb0 ht0 hP0 mP1 kP1 hb1 ht1 hP1).mono fun e W' ⟨he, bel⟩ => ?_
  subst he
  exact ⟨_, rfl, _, _, _, [], _, [], hW', trodAll_mk1 (shut_bool Try.underlying4 _), (trodAll_cons_mk (Below.trod laidOut (by kernel_rfl) (of_decide_eq_true (by kernel_rfl)) k0 bel lt0) (trodAll_cons_mk (Below.trod laidOut (by kernel_rfl) (of_decide_eq_true (by kernel_rfl)) k1 bel lt1) trodAll_mk0)), rfl, bel.frame _, fun h => by cases h⟩

theorem overTopMerge : Rows.fnExactTopMergeRow.holds Try.pinned (OpenSpec.ofChange Rows.fnExactTopMergeSpec) :=
  OpenClaim.holds_of_wide 4 Try.f4 rfl rfl rfl rfl rfl rfl rfl ⟨rfl, rfl, rfl, rfl, rfl⟩ rfl rfl rfl rfl rfl (by kernel_rfl) Try.func4 (by kernel_rfl)
    (of_decide_eq_true (by kernel_rfl)) (by unfold Func.isWrapper; first | (rw [if_pos (by decide +kernel)]; kernel_rfl) | (rw [if_neg (by decide +kernel)]; exact ⟨rfl, rfl⟩))
    (fun os started H enc _ => liftedTopMerge os started H enc)

theorem fnExactTopMerge_holds : Rows.FnExactTopMergeSaid := overTopMerge
#print axioms fnExactTopMerge_holds


end Go.Proofs.Ytnonehgjdafdfaa
