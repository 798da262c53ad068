/-
  The law FnExactCellsSame: at every two lists of Cells the program says whether they are the same as the model does; it writes into no argument. No condition.
-/
import Derived.Test.YtfdbhedmappdlaaCeG
import Derived.Test.YtfdbhedmappdlaaOpenE
import Derived.Lib.SmallJoins
import Derived.Carry
import Derived.ShutString
import Derived.ChangeOld
namespace Go.Proofs.Ytfdbhedmappdlaa
set_option linter.unusedVariables false
set_option linter.unusedSimpArgs false
open Go.ChangeMaps (open_string shut_string)
open Go.ChangeShapes Go.WideShapes Go.ChangeAt Go.RowKit Go.Joins
set_option maxRecDepth 10000

theorem sm_key {L M : List Ce} (k : M.map Ce.key = L.map Ce.key) (sm : ∀ c ∈ L, AgSm c.g) : ∀ c ∈ M, AgSm c.g := fun c hc => by
  have h : c.key ∈ L.map Ce.key := k ▸ List.mem_map_of_mem hc
  obtain ⟨d, hd, e⟩ := List.mem_map.1 h
  obtain ⟨q, rfl⟩ := key_eq e
  exact sm d hd
set_option maxHeartbeats 4000000 in
theorem walkCellsSame (ao : Option Addr) (ca : Nat) (L : List Ce) (bo : Option Addr) (cb : Nat) (K : List Ce) (w : World) (hl : CesLen L) (hA : CesAt w ao L) (_ : ∀ c ∈ L, AgOk c.g) (hl' : CesLen K) (hB : CesAt w bo K) (_ : ∀ c ∈ K, AgOk c.g) :
    Calls Try.prog 3 #[.slice ao L.length ca, .slice bo K.length cb] w fun e w' => e = .returned (.bool true) ∧ Below w.heap.size w w' := by
  obtain ⟨N, hN⟩ : ∃ N, L.length = N := ⟨_, rfl⟩
  obtain ⟨M, hM⟩ : ∃ M, K.length = M := ⟨_, rfl⟩
  rw [hN, hM]
  have HN := hide hN
  have HM := hide hM
  have HA := hide hA
  have HB := hide hB
  have HL := hide hl
  have HL' := hide hl'
  clear hN hM hA hB hl hl'
  go_enter Try.func3, Try.ntmps3
  go_wp2_with fail
  refine (c_szCellS ca _ (by omega) (by omega) HN.out HL.out HA.out).mono ?_
  rintro e w1 ⟨v, rfl, hv, hsm, hb1⟩
  have HT1 := hide hb1
  clear hb1
  by_cases hv0 : v < 0
  · clear hsm
    go_wp2
    go_ret
    exact ⟨rfl, HT1.out⟩
  obtain ⟨v0, lN, sm⟩ := hsm hv0
  have SM := hide sm
  clear hsm sm
  go_wp2_with fail
  refine (c_szCellS cb _ (by omega) (by omega) HM.out HL'.out (ces_past HB.out HT1.out)).mono ?_
  rintro e w2 ⟨v', rfl, hv', hsm, hb2⟩
  have HT2 := hide (chain HT1.out hb2)
  clear hb2
  by_cases hv0' : v' < 0
  · clear hsm
    go_wp2
    go_ret
    exact ⟨rfl, HT2.out⟩
  obtain ⟨v0', lM, sm'⟩ := hsm hv0'
  have SM' := hide sm'
  clear hsm sm'
  go_wp2_with fail
  refine (c_toCellS ca HN.out lN SM.out (ces_past HA.out HT2.out)).mono ?_
  rintro e w3 ⟨M3, rfl, l3, k3, r3, hb3⟩
  have HL3 := hide l3
  have HK3 := hide k3
  have HR3 := hide r3.at
  have HB3 := hide hb3
  have HT3 := hide (chain HT2.out hb3)
  clear hb3 l3 k3 r3
  go_wp2_with fail
  refine (c_toCellS cb HM.out lM SM'.out (ces_past HB.out HT3.out)).mono ?_
  rintro e w4 ⟨M4, rfl, l4, k4, r4, hb4⟩
  have HL4 := hide l4
  have HK4 := hide k4
  have HR4 := hide r4.at
  have HB4 := hide hb4
  have HT4 := hide (chain HT3.out hb4)
  clear hb4 l4 k4 r4
  go_wp2_with fail
  refine (c_s_CellsSame HL3.out HL4.out lN lM (sm_key HK3.out SM.out) (sm_key HK4.out SM'.out) (ces_past HR3.out HB4.out) HR4.out).mono ?_
  rintro e w5 ⟨rfl, hb5⟩
  have HT5 := hide (chain HT4.out hb5)
  clear hb5
  obtain ⟨B, hB⟩ : ∃ B, csB M3 M4 = B := ⟨_, rfl⟩
  rw [hB]
  have HBB := hide hB
  clear hB
  go_wp2_with fail
  refine (c_toCellS ca HN.out lN SM.out (ces_past HA.out HT5.out)).mono ?_
  rintro e w6 ⟨M6, rfl, l6, k6, r6, hb6⟩
  have HL6 := hide l6
  have HK6 := hide k6
  have HR6 := hide r6.at
  have HB6 := hide hb6
  have HT6 := hide (chain HT5.out hb6)
  clear hb6 l6 k6 r6
  go_wp2_with fail
  refine (c_toCellS cb HM.out lM SM'.out (ces_past HB.out HT6.out)).mono ?_
  rintro e w7 ⟨M7, rfl, l7, k7, r7, hb7⟩
  have HL7 := hide l7
  have HK7 := hide k7
  have HR7 := hide r7.at
  have HB7 := hide hb7
  have HT7 := hide (chain HT6.out hb7)
  clear hb7 l7 k7 r7
  go_wp2_with fail
  refine (c_i_CellsSame HL6.out HL7.out lN lM (sm_key HK6.out SM.out) (sm_key HK7.out SM'.out) (ces_past HR6.out HB7.out) HR7.out).mono ?_
  rintro e w8 ⟨rfl, hb8⟩
  have HT8 := hide (chain HT7.out hb8)
  have HB8 := hide hb8
  clear hb8
  rw [csB_key (HK6.out.trans HK3.out.symm) (HK7.out.trans HK4.out.symm), HBB.out]
  have hbb : (B != B) = false := by simp
  go_wp2_with fail
  refine (c_toCellS ca HN.out lN SM.out (ces_past HA.out HT8.out)).mono ?_
  rintro e w9 ⟨M9, rfl, l9, k9, r9, hb9⟩
  have HL9 := hide l9
  have HK9 := hide k9
  have HR9 := hide r9.at
  have HB9 := hide hb9
  have HT9 := hide (chain HT8.out hb9)
  clear hb9 l9 k9 r9
  go_wp2_with fail
  refine (c_eqCellS HL6.out HL9.out (HK6.out.trans HK9.out.symm) lN (sm_key HK6.out SM.out) (ces_past HR6.out (chain (chain HB7.out HB8.out) HB9.out)) HR9.out).mono ?_
  rintro e w10 ⟨rfl, hb10⟩
  have HT10 := hide (chain HT9.out hb10)
  have HB10 := hide hb10
  clear hb10
  go_wp2_with fail
  refine (c_toCellS cb HM.out lM SM'.out (ces_past HB.out HT10.out)).mono ?_
  rintro e w11 ⟨M11, rfl, l11, k11, r11, hb11⟩
  have HL11 := hide l11
  have HK11 := hide k11
  have HR11 := hide r11.at
  have HB11 := hide hb11
  have HT11 := hide (chain HT10.out hb11)
  clear hb11 l11 k11 r11
  go_wp2_with fail
  refine (c_eqCellS HL7.out HL11.out (HK7.out.trans HK11.out.symm) lM (sm_key HK7.out SM'.out) (ces_past HR7.out (chain (chain (chain HB8.out HB9.out) HB10.out) HB11.out)) HR11.out).mono ?_
  rintro e w12 ⟨rfl, hb12⟩
  have HT12 := hide (chain HT11.out hb12)
  clear hb12
  go_wp2
  go_ret
  exact ⟨rfl, HT12.out⟩
theorem own : ownKnob Try.prog.godebug = none := by kernel_rfl
theorem laidOut : laidOutB Try.prog = true := by kernel_rfl

set_option maxRecDepth 100000 in
theorem liftedCellsSame (os : Os) (started : os.Started) (H : Type) (enc : TypeId × Value → H) :
    ReturnsInHanded {} Try.checked os 3 .any (Rows.fnExactCellsSameSpec.pre6 enc Try.prog Try.f3 Rows.fnExactCellsSameRow.domain false) (Rows.fnExactCellsSameSpec.post enc Try.prog Try.f3 false true false false) := by
  refine returnsInHanded_of_change (C := Try.checked) own started (by kernel_rfl) Try.func3
    (ChangeSpec.witness6 (enc := enc) (C := Try.checked) false ⟨#[], #[.slice none 0 0, .slice none 0 0], []⟩ 8 (by kernel_rfl) (by kernel_rfl) (by kernel_rfl) (by kernel_rfl)) ?_
  intro W base args ds gs before hval0 hW hcnd _
  have hval : ∀ (j : Nat) t v, Try.f3.params[j]? = some t → args[j]? = some v → Value.okWide Try.prog W .any base t v := hval0
  have hW' := hW
  obtain ⟨p, q, hA0, hV, rfl, hfz, hnd⟩ := hW
  have hA : DataW.TrodAll enc Try.prog W 0 (fun _ => true) true Try.f3.params.toList args.toList ds p := hA0
  rw [Try.params3] at hA hval
  obtain ⟨v0, vs0, d0, ds0, p0, q0, hargs, rfl, rfl, h0, r0⟩ := trodAll_cons hA
  obtain ⟨v1, vs1, d1, ds1, p1, q1, rfl, rfl, rfl, h1, r1⟩ := trodAll_cons r0
  obtain ⟨rfl, rfl, rfl⟩ := trodAll_nil r1
  obtain rfl : args = #[v0, v1] := by cases args; simp_all
  obtain ⟨rfl, rfl⟩ := trodVars_none hV
  have k0 := h0
  have lt0 : ∀ x ∈ p0, x.block < W.heap.size := by obtain ⟨m, hm⟩ := k0; exact DataW.trod_lt m _ _ _ hm
  obtain ⟨a0, c0, L0, rfl, ln0, at0, ok0⟩ := open_cells (hval 0 22 v0 rfl rfl) h0
  have k1 := h1
  have lt1 : ∀ x ∈ p1, x.block < W.heap.size := by obtain ⟨m, hm⟩ := k1; exact DataW.trod_lt m _ _ _ hm
  obtain ⟨a1, c1, L1, rfl, ln1, at1, ok1⟩ := open_cells (hval 1 22 v1 rfl rfl) h1
  clear hA0 hval0
  refine (walkCellsSame a0 c0 L0 a1 c1 L1 W ln0 at0 ok0 ln1 at1 ok1).mono fun e W' ⟨he, bel⟩ => ?_
  subst he
  exact ⟨_, rfl, _, _, _, [], _, [], hW', trodAll_mk1 (shut_bool Try.underlying4 _), (trodAll_cons_mk (Below.trod laidOut (by kernel_rfl) (of_decide_eq_true (by kernel_rfl)) k0 bel lt0) (trodAll_cons_mk (Below.trod laidOut (by kernel_rfl) (of_decide_eq_true (by kernel_rfl)) k1 bel lt1) trodAll_mk0)), rfl, bel.frame _, fun h => by cases h⟩

theorem overCellsSame : Rows.fnExactCellsSameRow.holds Try.pinned (OpenSpec.ofChange Rows.fnExactCellsSameSpec) :=
  OpenClaim.holds_of_wide 3 Try.f3 rfl rfl rfl rfl rfl rfl rfl ⟨rfl, rfl, rfl, rfl, rfl⟩ rfl rfl rfl rfl rfl (by kernel_rfl) Try.func3 (by kernel_rfl)
    (of_decide_eq_true (by kernel_rfl)) (by unfold Func.isWrapper; first | (rw [if_pos (by decide +kernel)]; kernel_rfl) | (rw [if_neg (by decide +kernel)]; exact ⟨rfl, rfl⟩))
    (fun os started H enc _ => liftedCellsSame os started H enc)

theorem fnExactCellsSame_holds : Rows.FnExactCellsSameSaid := overCellsSame
#print axioms fnExactCellsSame_holds
end Go.Proofs.Ytfdbhedmappdlaa
