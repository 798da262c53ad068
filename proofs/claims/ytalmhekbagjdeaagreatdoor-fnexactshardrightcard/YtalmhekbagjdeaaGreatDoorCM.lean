/-
  The law FnExactShardRight: of every Shard the program says what the model says, right or not; nothing that was there has turned. Condition: the library's tables as the program's text lays them (the card ties them).
-/
import Derived.Test.YtalmhekbagjdeaaGreatDoorCF
import Derived.Test.YtalmhekbagjdeaaGreatDoorSD
import Derived.Test.YtalmhekbagjdeaaGreatDoorTie
import Derived.Test.YtalmhekbagjdeaaGreatDoorCards
import Derived.Lib.SmallJoins
import Derived.Carry
import Derived.ShutString
import Derived.ChangeOld
import Derived.ChangeSame
import Derived.ChangeVars
import Derived.JoinedOf
import Derived.LaidLaws
import Derived.LaidHandle
import Derived.LaidSub
import Derived.Lib.LaidTab
import Derived.Lay
import Derived.MakeChecks
import Derived.Stop.Joined
import Derived.SevenTiedAt
import Derived.Deep.DeepHandedRow
import Derived.WalkKit
import Derived.ProofKit
import Derived.OpenShut
namespace Go.Proofs.YtalmhekbagjdeaaGreatDoor
set_option linter.unusedVariables false
set_option linter.unusedSimpArgs false
open Go.ChangeMaps (open_string shut_string)
open Go.ChangeShapes Go.WideShapes Go.ChangeAt Go.RowKit Go.PlainAid
set_option maxRecDepth 10000

theorem all_key {L M : List Ce} {Q : Int → ByteArray → Ag → Prop} (k : M.map Ce.key = L.map Ce.key) (h : ∀ c ∈ L, Q c.n c.s c.g) : ∀ c ∈ M, Q c.n c.s c.g := fun c hc => by
  have h0 : c.key ∈ L.map Ce.key := k ▸ List.mem_map_of_mem hc
  obtain ⟨d, hd, e⟩ := List.mem_map.1 h0
  obtain ⟨q, rfl⟩ := key_eq e
  exact h d hd
set_option maxHeartbeats 4000000 in
theorem walkShardRight (nm : ByteArray) (ao : Option Addr) (ca : Nat) (L : List Ce) (w : World) (hs : nm.size ≤ maxLen) (hl : CesLen L) (hA : CesAt w ao L) (ok : ∀ c ∈ L, AgOk c.g) (hm : MX w) :
    Calls Tryz.prog 3 #[.agg #[.string nm, .slice ao L.length ca]] w fun e w' => e = .returned (.bool true) ∧ Below w.heap.size w w' := by
  obtain ⟨N, hN⟩ : ∃ N, L.length = N := ⟨_, rfl⟩
  rw [hN]
  have HN := hide hN
  have HA := hide hA
  have HL := hide hl
  have OK := hide ok
  have HMx := hide hm
  have hA0 : Below w.heap.size w (w.alloc (.cells #[.string nm, .slice ao N ca] 24)) := (Below.refl _ _).alloc (Nat.le_refl _) _
  have HT0 := hide hA0
  have HC := hide (sh_box w nm (.slice ao N ca) 24)
  clear hN hA hl ok hm hA0
  go_enter Tryz.func3, Tryz.ntmps3
  go_wp2_with fail
  generalize w.alloc (.cells #[.string nm, .slice ao N ca] 24) = W0 at HT0 HC ⊢
  refine (c_szShard nm ca _ (by omega) (by omega) hs HN.out HL.out (ces_past HA.out HT0.out)).mono ?_
  rintro e w1 ⟨v, rfl, hv, hsm, hb1⟩
  have HT1 := hide (chain HT0.out hb1)
  have HC1 : Hid (∀ W, Below w1.heap.size w1 W → W.cell? ⟨w.heap.size, 0, none⟩ = some (.string nm) ∧ W.cell? ⟨w.heap.size, 1, none⟩ = some (.slice ao N ca)) := fun W hW => HC.out W (chain hb1 hW)
  clear hb1 HC
  by_cases hv0 : v < 0
  · clear hsm
    go_wp2
    go_ret
    exact ⟨rfl, HT1.out⟩
  obtain ⟨v0, lN, sm⟩ := hsm hv0
  have SM := hide sm
  clear hsm sm
  obtain ⟨x0, x1⟩ := HC1.out _ (Below.refl _ _)
  go_wp2_with fail
  clear x0 x1
  refine (c_toShard nm ca HN.out lN SM.out (ces_past HA.out HT1.out)).mono ?_
  rintro e w3 ⟨M3, g3, rfl, _, l3, k3, r3, hb3⟩
  have HL3 := hide l3
  have HK3 := hide k3
  have HR3 := hide r3.at
  have HB3 := hide hb3
  have HT3 := hide (chain HT1.out hb3)
  clear hb3 l3 k3 r3
  go_wp2_with fail
  refine (c_s_ShardRight nm hs HL3.out lN (all_key (Q := fun _ _ g => AgOk g) HK3.out OK.out) (all_key (Q := fun _ _ g => AgSm g) HK3.out SM.out) (all_key (Q := fun _ s _ => s.size ≤ maxLen) HK3.out HL.out.s) HR3.out).mono ?_
  rintro e w5 ⟨rfl, hb5⟩
  have HT5 := hide (chain HT3.out hb5)
  have HB5 := hide (chain HB3.out hb5)
  clear hb5
  obtain ⟨B, hB⟩ : ∃ B, shB nm M3 = B := ⟨_, rfl⟩
  rw [hB]
  have HBB := hide hB
  clear hB
  obtain ⟨x0, x1⟩ := HC1.out _ HB5.out
  go_wp2_with fail
  clear x0 x1
  refine (c_toShard nm ca HN.out lN SM.out (ces_past HA.out HT5.out)).mono ?_
  rintro e w6 ⟨M6, g6, rfl, _, l6, k6, r6, hb6⟩
  have HL6 := hide l6
  have HK6 := hide k6
  have HR6 := hide r6.at
  have HB6 := hide (chain HB5.out hb6)
  have HT6 := hide (chain HT5.out hb6)
  clear hb6 l6 k6 r6
  have hX6 : Below w6.heap.size w6 (w6.alloc (.cells #[.string nm, .slice (some ⟨g6, 0, none⟩) N N] 29)) := (Below.refl _ _).alloc (Nat.le_refl _) _
  have HX6 := hide hX6
  have HCX := hide (sh_box w6 nm (.slice (some ⟨g6, 0, none⟩) N N) 29)
  clear hX6
  go_wp2_with fail
  generalize w6.alloc (.cells #[.string nm, .slice (some ⟨g6, 0, none⟩) N N] 29) = W6 at HX6 HCX ⊢
  refine (c_i_ShardRight nm hs HL6.out lN (all_key (Q := fun _ _ g => AgOk g) HK6.out OK.out) (all_key (Q := fun _ _ g => AgSm g) HK6.out SM.out) (all_key (Q := fun _ s _ => s.size ≤ maxLen) HK6.out HL.out.s) (HMx.out.past (chain HT6.out HX6.out)) (ces_past HR6.out HX6.out)).mono ?_
  rintro e w8 ⟨rfl, hb8⟩
  have HT8 := hide (chain (chain HT6.out HX6.out) hb8)
  have HB8 := hide (chain (chain HB6.out HX6.out) hb8)
  have HR8 := hide (ces_past HR6.out (chain HX6.out hb8))
  have HCX8 : Hid (∀ W, Below w8.heap.size w8 W → W.cell? ⟨w6.heap.size, 0, none⟩ = some (.string nm) ∧ W.cell? ⟨w6.heap.size, 1, none⟩ = some (.slice (some ⟨g6, 0, none⟩) N N)) := fun W hW => HCX.out W (chain hb8 hW)
  have HC8 : Hid (∀ W, Below w8.heap.size w8 W → W.cell? ⟨w.heap.size, 0, none⟩ = some (.string nm) ∧ W.cell? ⟨w.heap.size, 1, none⟩ = some (.slice ao N ca)) := fun W hW => HC1.out W (chain HB8.out hW)
  clear hb8 HCX HC1
  have e6 : shB nm M6 = B := by unfold shB; rw [csR_key (HK6.out.trans HK3.out.symm)]; exact HBB.out
  rw [e6]
  have hbb : (B != B) = false := by simp
  clear e6
  go_wp2_with fail
  have HS0 : (fun W => Below w8.heap.size w8 W) w8.drew := (Below.refl _ _).drew
  refine regionK (fun W => Below w8.heap.size w8 W) 99 (by kernel_rfl) ?_
  refine takeK (i := 0) (d := 22) (v := .agg #[.string nm, .slice (some ⟨g6, 0, none⟩) N N]) rfl rfl (by kernel_rfl) (by kernel_rfl) (by kernel_rfl) (by decide) (by kernel_rfl) (fun _ _ _ h => h) (Or.inl ⟨by rfl, fun W hW => ?_⟩) HS0 ?_
  · obtain ⟨x0, x1⟩ := HCX8.out W hW
    obtain ⟨y0, y1⟩ := HC8.out W hW
    clear hW
    go_simp
  simp only [List.setIfInBounds_toArray, List.set_cons_zero, List.set_cons_succ]
  refine takeK (i := 1) (d := 23) (v := .agg #[.string nm, .slice ao N ca]) rfl rfl (by kernel_rfl) (by kernel_rfl) (by kernel_rfl) (by decide) (by kernel_rfl) (fun _ _ _ h => h) (Or.inl ⟨by rfl, fun W hW => ?_⟩) HS0 ?_
  · obtain ⟨x0, x1⟩ := HCX8.out W hW
    obtain ⟨y0, y1⟩ := HC8.out W hW
    clear hW
    go_simp
  simp only [List.setIfInBounds_toArray, List.set_cons_zero, List.set_cons_succ]
  refine oneK (i := 2) (by kernel_rfl) rfl (fun K hK => ?_)
  go_simp
  refine (c_toShard nm ca HN.out lN SM.out (ces_past HA.out (chain HT8.out HS0))).mono ?_
  rintro e w9 ⟨M9, g9, rfl, _, l9, k9, r9, hb9⟩
  have HL9 := hide l9
  have HK9 := hide k9
  have HR9 := hide r9.at
  have HB9 : Hid (Below w8.heap.size w8 w9) := (HS0 : Below w8.heap.size w8 w8.drew).trans (hb9.mono (Nat.le_refl _))
  clear hb9 l9 k9 r9
  dsimp only
  refine hK.out _ _ (fun _ => HB9.out) ?_
  clear hK K
  try simp only [Act.put, List.setIfInBounds_toArray, List.set_cons_zero, List.set_cons_succ]
  refine oneK (i := 3) (by kernel_rfl) rfl (fun K hK => ?_)
  go_simp
  refine (c_eqShard nm HL6.out HL9.out (HK6.out.trans HK9.out.symm) lN (all_key (Q := fun _ _ g => AgSm g) HK6.out SM.out) (ces_past HR8.out HB9.out) HR9.out).mono ?_
  rintro e w10 ⟨rfl, hb10⟩
  have HB10 : Hid (Below w8.heap.size w8 w10) := chain HB9.out hb10
  have HT10 := hide (chain HT8.out HB10.out)
  clear hb10
  dsimp only
  refine hK.out _ _ (fun _ => HB10.out) ?_
  clear hK K
  try simp only [Act.put, List.setIfInBounds_toArray, List.set_cons_zero, List.set_cons_succ]
  refine takeK (i := 4) (d := 26) (v := .bool false) rfl rfl (by kernel_rfl) (by kernel_rfl) (by kernel_rfl) (by decide) (by kernel_rfl) (fun _ _ _ h => h) (Or.inl ⟨by rfl, fun W hW => ?_⟩) HB10.out ?_
  · clear hW
    go_simp
  simp only [List.setIfInBounds_toArray, List.set_cons_zero, List.set_cons_succ]
  refine doneK (by kernel_rfl) ?_ _
  go_wp2
  go_ret
  exact ⟨rfl, HT10.out⟩

set_option maxRecDepth 100000
theorem own : ownKnob Tryz.prog.godebug = none := by kernel_rfl
theorem laidOut : laidOutB Tryz.prog = true := by kernel_rfl
theorem liftedShardRight (os : Os) (started : os.Started) (H : Type) (enc : TypeId × Value → H) :
    ReturnsInHanded {} Tryz.checked os 3 .any (fun w args => (Rows.fnExactShardRightSpec.pre enc Tryz.prog Tryz.f3 [] false w args ∧ laidMetH Tryz.prog Rows.fnExactShardRightRow.laid w) ∧ sizedMet enc Tryz.prog Tryz.f3 (OpenSpec.ofChange Rows.fnExactShardRightSpec) false w args)
      (Rows.fnExactShardRightSpec.post enc Tryz.prog Tryz.f3 false true false false) := by
  refine handed_shaped (C := Tryz.checked) (L := Rows.fnExactShardRightRow.laid) own started (by kernel_rfl) Tryz.func3
    (ChangeSpec.witness_shaped (enc := enc) (C := Tryz.checked) (os := os) (X := fun w _ => laidMetH Tryz.prog Rows.fnExactShardRightRow.laid w) false (World.laidAll Tryz.prog os Rows.fnExactShardRightRow.laid) #[.agg #[.string ByteArray.empty, .slice none 0 0]] 8 (World.laidAll_os _ _ _)
      (World.shaped_of_ZipB (by kernel_rfl) (by kernel_rfl)) (by kernel_rfl) (by kernel_rfl) (by kernel_rfl)
      (by rw [MakeChecks.laidMetH_plain _ _ _ (by kernel_rfl)]; exact laidMet_laidAll _ (by kernel_rfl) (by kernel_rfl))) ?_
  intro W base args ds gs before hval0 hW hL hsh
  have hval : ∀ (j : Nat) t v, Tryz.f3.params[j]? = some t → args[j]? = some v → Value.okWide Tryz.prog W .any base t v := hval0
  have hW' := hW
  obtain ⟨p, q, hA0, hV, rfl, hfz, hnd⟩ := hW
  have hA : DataW.TrodAll enc Tryz.prog W 0 (fun _ => true) true Tryz.f3.params.toList args.toList ds p := hA0
  rw [Tryz.params3] at hA hval
  obtain ⟨v0, vs0, d0, ds0, p0, q0, hargs, rfl, rfl, h0, r0⟩ := trodAll_cons hA
  obtain ⟨rfl, rfl, rfl⟩ := trodAll_nil r0
  obtain rfl : args = #[v0] := by cases args; simp_all
  obtain ⟨rfl, rfl⟩ := trodVars_none hV
  have k0 := h0
  have lt0 : ∀ x ∈ p0, x.block < W.heap.size := by obtain ⟨m, hm⟩ := k0; exact DataW.trod_lt m _ _ _ hm
  obtain ⟨b0, a0, c0, L0, rfl, bn0, ln0, at0, ok0⟩ := open_shard (hval 0 24 v0 rfl rfl) h0
  clear hA0 hval0
  refine (walkShardRight b0 a0 c0 L0 W bn0 ln0 at0 ok0 (mx_of hsh)).mono fun e W' ⟨he, bel⟩ => ?_
  subst he
  exact ⟨_, rfl, _, _, _, [], _, [], hW', trodAll_mk1 (shut_bool Tryz.underlying4 _), (trodAll_cons_mk (Below.trod laidOut (by kernel_rfl) (of_decide_eq_true (by kernel_rfl)) k0 bel lt0) trodAll_mk0), rfl, bel.frame _, fun h => by cases h⟩

theorem saidShardRight : Rows.FnExactShardRightSaid :=
  OpenClaim.holds_of_wide 3 Tryz.f3 rfl rfl rfl rfl rfl rfl rfl ⟨rfl, rfl, rfl, rfl, rfl⟩ rfl rfl rfl rfl rfl (by kernel_rfl) Tryz.func3 (by kernel_rfl)
    (of_decide_eq_true (by kernel_rfl)) (by unfold Func.isWrapper; first | (rw [if_pos (by decide +kernel)]; kernel_rfl) | (rw [if_neg (by decide +kernel)]; exact ⟨rfl, rfl⟩))
    (fun os started H enc _ => liftedShardRight os started H enc)

/-- No parameter wants a stand-in; the program's own looks are off. -/
theorem plainShardRight (f : FuncId) (fn : Func) (hf : Tryz.pinned.checked.prog.funcNamed Rows.fnExactShardRightRow.func = some f) (hfn : Tryz.pinned.checked.prog.funcs[f]? = some fn) :
    Rows.fnExactShardRightCard.stood.looks = Tryz.pinned.checked.prog.looks [] ∧ ∀ (j : Nat) t, fn.params[j]? = some t → Tryz.pinned.checked.prog.wantsStandIn t = false := by
  obtain rfl : f = 3 := Option.some.inj ((show Tryz.prog.funcNamed Rows.fnExactShardRightRow.func = some 3 by kernel_rfl).symm.trans hf) |>.symm
  obtain rfl : fn = Tryz.f3 := (Option.some.inj (Tryz.func3.symm.trans hfn)).symm
  refine ⟨by kernel_rfl, fun j t ht => ?_⟩
  rw [Tryz.params3] at ht
  have ht2 := Array.mem_of_getElem? ht
  simp only [List.mem_toArray, List.mem_cons, List.not_mem_nil, or_false] at ht2
  obtain rfl := ht2
  exact (show Tryz.prog.wantsStandIn 24 = false by kernel_rfl)

theorem fnExactShardRight_card : Rows.FnExactShardRightCardSaid :=
  Claim7.holds_tied_plain_at .later [] _ _ _ _ saidShardRight (fun _ h => by cases h) (by kernel_rfl) (fun _ h => by cases h) fnExactShardRight_row_tie rfl ⟨rfl, rfl⟩ (by kernel_rfl) rfl plainShardRight (by kernel_rfl)
#print axioms fnExactShardRight_card

end Go.Proofs.YtalmhekbagjdeaaGreatDoor
