/-
  The law FnExactCellsRight: of every list of Cells the program says what the model says, right or not; nothing that was there has turned. Condition: the library's tables as the program's text lays them (the card ties them).
-/
import Derived.Test.YtalmhekbagjdeaaGreatDoorCC
import Derived.Test.YtalmhekbagjdeaaGreatDoorCD
import Derived.Test.YtalmhekbagjdeaaGreatDoorCA
import Derived.Test.YtalmhekbagjdeaaGreatDoorSD
import Derived.Test.YtalmhekbagjdeaaGreatDoorTie
import Derived.Test.YtalmhekbagjdeaaGreatDoorCards
import Derived.Lib.SmallJoins
import Derived.Carry
import Derived.ShutString
import Derived.ChangeOld
import Derived.ChangeSame
import Derived.ChangeVars
import Derived.JoinedOf
import Derived.LaidLaws
import Derived.LaidHandle
import Derived.LaidSub
import Derived.Lib.LaidTab
import Derived.Lay
import Derived.MakeChecks
import Derived.Stop.Joined
import Derived.SevenTiedAt
import Derived.Deep.DeepHandedRow
import Derived.WalkKit
import Derived.ProofKit
import Derived.OpenShut
namespace Go.Proofs.YtalmhekbagjdeaaGreatDoor
set_option linter.unusedVariables false
set_option linter.unusedSimpArgs false
open Go.ChangeMaps (open_string shut_string)
open Go.ChangeShapes Go.WideShapes Go.ChangeAt Go.RowKit Go.PlainAid
set_option maxRecDepth 10000

theorem all_key {L M : List Ce} {Q : Int → ByteArray → Ag → Prop} (k : M.map Ce.key = L.map Ce.key) (h : ∀ c ∈ L, Q c.n c.s c.g) : ∀ c ∈ M, Q c.n c.s c.g := fun c hc => by
  have h0 : c.key ∈ L.map Ce.key := k ▸ List.mem_map_of_mem hc
  obtain ⟨d, hd, e⟩ := List.mem_map.1 h0
  obtain ⟨q, rfl⟩ := key_eq e
  exact h d hd
set_option maxHeartbeats 4000000 in
theorem walkCellsRight (ao : Option Addr) (ca : Nat) (L : List Ce) (w : World) (hl : CesLen L) (hA : CesAt w ao L) (ok : ∀ c ∈ L, AgOk c.g) (hm : MX w) :
    Calls Tryz.prog 4 #[.slice ao L.length ca] w fun e w' => e = .returned (.bool true) ∧ Below w.heap.size w w' := by
  obtain ⟨N, hN⟩ : ∃ N, L.length = N := ⟨_, rfl⟩
  rw [hN]
  have HN := hide hN
  have HA := hide hA
  have HL := hide hl
  have OK := hide ok
  have HMx := hide hm
  clear hN hA hl ok hm
  go_enter Tryz.func4, Tryz.ntmps4
  go_wp2_with fail
  refine (c_szCellS ca _ (by omega) (by omega) HN.out HL.out HA.out).mono ?_
  rintro e w1 ⟨v, rfl, hv, hsm, hb1⟩
  have HT1 := hide hb1
  clear hb1
  by_cases hv0 : v < 0
  · clear hsm
    go_wp2
    go_ret
    exact ⟨rfl, HT1.out⟩
  obtain ⟨v0, lN, sm⟩ := hsm hv0
  have SM := hide sm
  clear hsm sm
  go_wp2_with fail
  refine (c_toCellS ca HN.out lN SM.out (ces_past HA.out HT1.out)).mono ?_
  rintro e w3 ⟨M3, rfl, l3, k3, r3, hb3⟩
  have HL3 := hide l3
  have HK3 := hide k3
  have HR3 := hide r3.at
  have HT3 := hide (chain HT1.out hb3)
  clear hb3 l3 k3 r3
  go_wp2_with fail
  refine (c_s_CellsRight HL3.out lN (all_key (Q := fun _ _ g => AgOk g) HK3.out OK.out) (all_key (Q := fun _ _ g => AgSm g) HK3.out SM.out) (all_key (Q := fun _ s _ => s.size ≤ maxLen) HK3.out HL.out.s) HR3.out).mono ?_
  rintro e w5 ⟨rfl, hb5⟩
  have HT5 := hide (chain HT3.out hb5)
  clear hb5
  obtain ⟨B, hB⟩ : ∃ B, csR M3 = B := ⟨_, rfl⟩
  rw [hB]
  have HBB := hide hB
  clear hB
  go_wp2_with fail
  refine (c_toCellS ca HN.out lN SM.out (ces_past HA.out HT5.out)).mono ?_
  rintro e w6 ⟨M6, rfl, l6, k6, r6, hb6⟩
  have HL6 := hide l6
  have HK6 := hide k6
  have HR6 := hide r6.at
  have HT6 := hide (chain HT5.out hb6)
  clear hb6 l6 k6 r6
  go_wp2_with fail
  refine (c_i_CellsRight HL6.out lN (all_key (Q := fun _ _ g => AgOk g) HK6.out OK.out) (all_key (Q := fun _ _ g => AgSm g) HK6.out SM.out) (all_key (Q := fun _ s _ => s.size ≤ maxLen) HK6.out HL.out.s) (HMx.out.past HT6.out) HR6.out).mono ?_
  rintro e w8 ⟨rfl, hb8⟩
  have HT8 := hide (chain HT6.out hb8)
  have HB8 := hide hb8
  clear hb8
  rw [csR_key (HK6.out.trans HK3.out.symm), HBB.out]
  have hbb : (B != B) = false := by simp
  go_wp2_with fail
  refine (c_toCellS ca HN.out lN SM.out (ces_past HA.out HT8.out)).mono ?_
  rintro e w9 ⟨M9, rfl, l9, k9, r9, hb9⟩
  have HL9 := hide l9
  have HK9 := hide k9
  have HR9 := hide r9.at
  have HB9 := hide hb9
  have HT9 := hide (chain HT8.out hb9)
  clear hb9 l9 k9 r9
  go_wp2_with fail
  refine (c_eqCellS HL6.out HL9.out (HK6.out.trans HK9.out.symm) lN (all_key (Q := fun _ _ g => AgSm g) HK6.out SM.out) (ces_past HR6.out (chain HB8.out HB9.out)) HR9.out).mono ?_
  rintro e w10 ⟨rfl, hb10⟩
  have HT10 := hide (chain HT9.out hb10)
  clear hb10
  go_wp2
  go_ret
  exact ⟨rfl, HT10.out⟩

set_option maxRecDepth 100000
theorem own : ownKnob Tryz.prog.godebug = none := by kernel_rfl
theorem laidOut : laidOutB Tryz.prog = true := by kernel_rfl
theorem liftedCellsRight (os : Os) (started : os.Started) (H : Type) (enc : TypeId × Value → H) :
    ReturnsInHanded {} Tryz.checked os 4 .any (fun w args => (Rows.fnExactCellsRightSpec.pre enc Tryz.prog Tryz.f4 [] false w args ∧ laidMetH Tryz.prog Rows.fnExactCellsRightRow.laid w) ∧ sizedMet enc Tryz.prog Tryz.f4 (OpenSpec.ofChange Rows.fnExactCellsRightSpec) false w args)
      (Rows.fnExactCellsRightSpec.post enc Tryz.prog Tryz.f4 false true false false) := by
  refine handed_shaped (C := Tryz.checked) (L := Rows.fnExactCellsRightRow.laid) own started (by kernel_rfl) Tryz.func4
    (ChangeSpec.witness_shaped (enc := enc) (C := Tryz.checked) (os := os) (X := fun w _ => laidMetH Tryz.prog Rows.fnExactCellsRightRow.laid w) false (World.laidAll Tryz.prog os Rows.fnExactCellsRightRow.laid) #[.slice none 0 0] 8 (World.laidAll_os _ _ _)
      (World.shaped_of_ZipB (by kernel_rfl) (by kernel_rfl)) (by kernel_rfl) (by kernel_rfl) (by kernel_rfl)
      (by rw [MakeChecks.laidMetH_plain _ _ _ (by kernel_rfl)]; exact laidMet_laidAll _ (by kernel_rfl) (by kernel_rfl))) ?_
  intro W base args ds gs before hval0 hW hL hsh
  have hval : ∀ (j : Nat) t v, Tryz.f4.params[j]? = some t → args[j]? = some v → Value.okWide Tryz.prog W .any base t v := hval0
  have hW' := hW
  obtain ⟨p, q, hA0, hV, rfl, hfz, hnd⟩ := hW
  have hA : DataW.TrodAll enc Tryz.prog W 0 (fun _ => true) true Tryz.f4.params.toList args.toList ds p := hA0
  rw [Tryz.params4] at hA hval
  obtain ⟨v0, vs0, d0, ds0, p0, q0, hargs, rfl, rfl, h0, r0⟩ := trodAll_cons hA
  obtain ⟨rfl, rfl, rfl⟩ := trodAll_nil r0
  obtain rfl : args = #[v0] := by cases args; simp_all
  obtain ⟨rfl, rfl⟩ := trodVars_none hV
  have k0 := h0
  have lt0 : ∀ x ∈ p0, x.block < W.heap.size := by obtain ⟨m, hm⟩ := k0; exact DataW.trod_lt m _ _ _ hm
  obtain ⟨a0, c0, L0, rfl, ln0, at0, ok0⟩ := open_cells (hval 0 22 v0 rfl rfl) h0
  clear hA0 hval0
  refine (walkCellsRight a0 c0 L0 W ln0 at0 ok0 (mx_of hsh)).mono fun e W' ⟨he, bel⟩ => ?_
  subst he
  exact ⟨_, rfl, _, _, _, [], _, [], hW', trodAll_mk1 (shut_bool Tryz.underlying4 _), (trodAll_cons_mk (Below.trod laidOut (by kernel_rfl) (of_decide_eq_true (by kernel_rfl)) k0 bel lt0) trodAll_mk0), rfl, bel.frame _, fun h => by cases h⟩

theorem saidCellsRight : Rows.FnExactCellsRightSaid :=
  OpenClaim.holds_of_wide 4 Tryz.f4 rfl rfl rfl rfl rfl rfl rfl ⟨rfl, rfl, rfl, rfl, rfl⟩ rfl rfl rfl rfl rfl (by kernel_rfl) Tryz.func4 (by kernel_rfl)
    (of_decide_eq_true (by kernel_rfl)) (by unfold Func.isWrapper; first | (rw [if_pos (by decide +kernel)]; kernel_rfl) | (rw [if_neg (by decide +kernel)]; exact ⟨rfl, rfl⟩))
    (fun os started H enc _ => liftedCellsRight os started H enc)

/-- No parameter wants a stand-in; the program's own looks are off. -/
theorem plainCellsRight (f : FuncId) (fn : Func) (hf : Tryz.pinned.checked.prog.funcNamed Rows.fnExactCellsRightRow.func = some f) (hfn : Tryz.pinned.checked.prog.funcs[f]? = some fn) :
    Rows.fnExactCellsRightCard.stood.looks = Tryz.pinned.checked.prog.looks [] ∧ ∀ (j : Nat) t, fn.params[j]? = some t → Tryz.pinned.checked.prog.wantsStandIn t = false := by
  obtain rfl : f = 4 := Option.some.inj ((show Tryz.prog.funcNamed Rows.fnExactCellsRightRow.func = some 4 by kernel_rfl).symm.trans hf) |>.symm
  obtain rfl : fn = Tryz.f4 := (Option.some.inj (Tryz.func4.symm.trans hfn)).symm
  refine ⟨by kernel_rfl, fun j t ht => ?_⟩
  rw [Tryz.params4] at ht
  have ht2 := Array.mem_of_getElem? ht
  simp only [List.mem_toArray, List.mem_cons, List.not_mem_nil, or_false] at ht2
  obtain rfl := ht2
  exact (show Tryz.prog.wantsStandIn 22 = false by kernel_rfl)

theorem fnExactCellsRight_card : Rows.FnExactCellsRightCardSaid :=
  Claim7.holds_tied_plain_at .later [] _ _ _ _ saidCellsRight (fun _ h => by cases h) (by kernel_rfl) (fun _ h => by cases h) fnExactCellsRight_row_tie rfl ⟨rfl, rfl⟩ (by kernel_rfl) rfl plainCellsRight (by kernel_rfl)
#print axioms fnExactCellsRight_card

end Go.Proofs.YtalmhekbagjdeaaGreatDoor
