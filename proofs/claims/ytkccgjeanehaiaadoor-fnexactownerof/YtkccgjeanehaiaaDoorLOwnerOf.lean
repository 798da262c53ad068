/-
  The law FnExactOwnerOf: at every list of texts and every key the program tells the owner that the model tells; nothing that was there has turned. Condition: the library's tables as the program's text lays them (the card ties them).
-/
import Derived.Test.YtkccgjeanehaiaaDoorRingP
import Derived.Test.YtkccgjeanehaiaaDoorOpenS
import Derived.Test.YtkccgjeanehaiaaDoorTie
import Derived.Test.YtkccgjeanehaiaaDoorCards
import Derived.Carry
import Derived.ShutString
import Derived.ChangeOld
import Derived.ChangeSame
import Derived.ChangeVars
import Derived.JoinedOf
import Derived.LaidLaws
import Derived.LaidHandle
import Derived.LaidSub
import Derived.Lib.LaidTab
import Derived.Lay
import Derived.MakeChecks
import Derived.Stop.Joined
import Derived.SevenTiedAt
import Derived.Deep.DeepHandedRow
import Derived.WalkKit
import Derived.ProofKit
import Derived.OpenShut
namespace Go.Proofs.YtkccgjeanehaiaaDoor
set_option linter.unusedVariables false
set_option linter.unusedSimpArgs false
open Go.ChangeMaps (open_string shut_string)
open Go.ChangeShapes Go.WideShapes Go.ChangeAt Go.RowKit Go.PlainAid

set_option maxHeartbeats 1000000 in
theorem walkOwnerOf (ao : Option Addr) (cap : Nat) (L : List ByteArray) (key : ByteArray) (w : World) (hl : L.length ≤ maxLen) (hu : ∀ u ∈ L, u.size ≤ maxLen) (hS : StrsAt w ao L) (hk : key.size ≤ maxLen) (_ : True) :
    Calls Tryd.prog 5 #[.slice ao L.length cap, .string key] w fun e w' => e = .returned (.bool true) ∧ Below w.heap.size w w' := by
  have hkz : key.size ≤ 9223372036854775807 := hk
  go_enter Tryd.func5, Tryd.ntmps5
  go_wp2_with (go_at_call 13; refine (c_szStringS _ _ (by omega) (by omega) hl hu hS).mono ?_; rintro e w1 ⟨v, rfl, hv, hn, hw⟩; obtain rfl := hw.symm)
  · go_ret
    exact ⟨rfl, Below.refl _ _⟩
  · go_ret
    exact ⟨rfl, Below.refl _ _⟩
  · obtain ⟨hl, hu⟩ := hn ‹_›
    clear hn
    go_wp2_with (go_at_call 15; refine (c_toStringS _ hl hS).mono ?_; rintro e w1 ⟨g1, rfl, ho1, hb1⟩)
    go_wp2_with (go_at_call 8; refine (c_s_OwnerOf _ _ hk hl hu (strs_owned ho1)).mono ?_; rintro e w2 ⟨s, rfl, hs, hb2⟩)
    have hT2 : Below w.heap.size w w2 := chain hb1 hb2
    go_wp2_with (go_at_call 15; refine (c_toStringS _ hl (strs_past hS hT2)).mono ?_; rintro e w3 ⟨g3, rfl, ho3, hb3⟩)
    go_wp2_with (go_at_call 7; refine (c_i_OwnerOf _ _ hk hl hu (strs_owned ho3)).mono ?_; rintro e w4 ⟨t, rfl, ht, hb4⟩; obtain rfl := own_one hs ht)
    have hT4 : Below w.heap.size w w4 := chain (chain hT2 hb3) hb4
    go_wp2_with (go_at_call 15; refine (c_toStringS _ hl (strs_past hS hT4)).mono ?_; rintro e w5 ⟨g5, rfl, ho5, hb5⟩)
    go_wp2_with (go_at_call 17; refine (c_eqStringS _ _ hl (strs_past (strs_owned ho3) (chain hb4 hb5)) (strs_owned ho5)).mono ?_; rintro e w6 ⟨rfl, hb6⟩)
    go_ret
    exact ⟨rfl, chain (chain hT4 hb5) hb6⟩

theorem of_laid {W : World} (_ : laidMetH Tryd.prog Rows.fnExactOwnerOfRow.laid W) : True := trivial

set_option maxRecDepth 100000
theorem own : ownKnob Tryd.prog.godebug = none := by kernel_rfl
theorem laidOut : laidOutB Tryd.prog = true := by kernel_rfl
theorem liftedOwnerOf (os : Os) (started : os.Started) (H : Type) (enc : TypeId × Value → H) :
    ReturnsInHanded {} Tryd.checked os 5 .any (fun w args => (Rows.fnExactOwnerOfSpec.pre enc Tryd.prog Tryd.f5 [] false w args ∧ laidMetH Tryd.prog Rows.fnExactOwnerOfRow.laid w) ∧ sizedMet enc Tryd.prog Tryd.f5 (OpenSpec.ofChange Rows.fnExactOwnerOfSpec) false w args)
      (Rows.fnExactOwnerOfSpec.post enc Tryd.prog Tryd.f5 false true false false) := by
  refine returnsInHanded_of_change_and (C := Tryd.checked) (X := fun w _ => laidMetH Tryd.prog Rows.fnExactOwnerOfRow.laid w) (fun _ _ _ hh h => h.of_heap hh) own started (by kernel_rfl) Tryd.func5
    (ChangeSpec.witness_shaped (enc := enc) (C := Tryd.checked) (os := os) (X := fun w _ => laidMetH Tryd.prog Rows.fnExactOwnerOfRow.laid w) false (World.laidAll Tryd.prog os Rows.fnExactOwnerOfRow.laid) #[.slice none 0 0, .string ByteArray.empty] 8 (World.laidAll_os _ _ _)
      (World.shaped_of_ZipB (by kernel_rfl) (by kernel_rfl)) (by kernel_rfl) (by kernel_rfl) (by kernel_rfl)
      (by rw [MakeChecks.laidMetH_plain _ _ _ (by kernel_rfl)]; exact laidMet_laidAll _ (by kernel_rfl) (by kernel_rfl))) ?_
  intro W base args ds gs before hval0 hW _ _ hL _
  have hval : ∀ (j : Nat) t v, Tryd.f5.params[j]? = some t → args[j]? = some v → Value.okWide Tryd.prog W .any base t v := hval0
  have hW' := hW
  obtain ⟨p, q, hA0, hV, rfl, hfz, hnd⟩ := hW
  have hA : DataW.TrodAll enc Tryd.prog W 0 (fun _ => true) true Tryd.f5.params.toList args.toList ds p := hA0
  rw [Tryd.params5] at hA hval
  obtain ⟨v0, vs0, d0, ds0, p0, q0, hargs, rfl, rfl, h0, r0⟩ := trodAll_cons hA
  obtain ⟨v1, vs1, d1, ds1, p1, q1, rfl, rfl, rfl, h1, r1⟩ := trodAll_cons r0
  obtain ⟨rfl, rfl, rfl⟩ := trodAll_nil r1
  obtain rfl : args = #[v0, v1] := by cases args; simp_all
  obtain ⟨rfl, rfl⟩ := trodVars_none hV
  have k0 := h0
  have lt0 : ∀ x ∈ p0, x.block < W.heap.size := by obtain ⟨m, hm⟩ := k0; exact DataW.trod_lt m _ _ _ hm
  obtain ⟨a0, c0, l0, rfl, m0, u0, s0⟩ := open_strs (hval 0 23 v0 rfl rfl) h0
  have k1 := h1
  have lt1 : ∀ x ∈ p1, x.block < W.heap.size := by obtain ⟨m, hm⟩ := k1; exact DataW.trod_lt m _ _ _ hm
  obtain ⟨a1, rfl, rfl, rfl, w1⟩ := open_string Tryd.underlying9 (hval 1 9 v1 rfl rfl) h1
  clear hA0 hval0
  refine (walkOwnerOf a0 c0 l0 a1 W m0 u0 s0 w1 (of_laid hL)).mono fun e W' ⟨he, bel⟩ => ?_
  subst he
  exact ⟨_, rfl, _, _, _, [], _, [], hW', trodAll_mk1 (shut_bool Tryd.underlying4 _), (trodAll_cons_mk (Below.trod laidOut (by kernel_rfl) (of_decide_eq_true (by kernel_rfl)) k0 bel lt0) (trodAll_cons_mk (Below.trod laidOut (by kernel_rfl) (of_decide_eq_true (by kernel_rfl)) k1 bel lt1) trodAll_mk0)), rfl, bel.frame _, fun h => by cases h⟩

theorem saidOwnerOf : Rows.FnExactOwnerOfSaid :=
  OpenClaim.holds_of_wide 5 Tryd.f5 rfl rfl rfl rfl rfl rfl rfl ⟨rfl, rfl, rfl, rfl, rfl⟩ rfl rfl rfl rfl rfl (by kernel_rfl) Tryd.func5 (by kernel_rfl)
    (of_decide_eq_true (by kernel_rfl)) (by unfold Func.isWrapper; first | (rw [if_pos (by decide +kernel)]; kernel_rfl) | (rw [if_neg (by decide +kernel)]; exact ⟨rfl, rfl⟩))
    (fun os started H enc _ => liftedOwnerOf os started H enc)

/-- No parameter wants a stand-in; the program's own looks are off. -/
theorem plainOwnerOf (f : FuncId) (fn : Func) (hf : Tryd.pinned.checked.prog.funcNamed Rows.fnExactOwnerOfRow.func = some f) (hfn : Tryd.pinned.checked.prog.funcs[f]? = some fn) :
    Rows.fnExactOwnerOfCard.stood.looks = Tryd.pinned.checked.prog.looks [] ∧ ∀ (j : Nat) t, fn.params[j]? = some t → Tryd.pinned.checked.prog.wantsStandIn t = false := by
  obtain rfl : f = 5 := Option.some.inj ((show Tryd.prog.funcNamed Rows.fnExactOwnerOfRow.func = some 5 by kernel_rfl).symm.trans hf) |>.symm
  obtain rfl : fn = Tryd.f5 := (Option.some.inj (Tryd.func5.symm.trans hfn)).symm
  refine ⟨by kernel_rfl, fun j t ht => ?_⟩
  rw [Tryd.params5] at ht
  have ht2 := Array.mem_of_getElem? ht
  simp only [List.mem_toArray, List.mem_cons, List.not_mem_nil, or_false] at ht2
  rcases ht2 with rfl | rfl
  · exact (show Tryd.prog.wantsStandIn 23 = false by kernel_rfl)
  · exact (show Tryd.prog.wantsStandIn 9 = false by kernel_rfl)

theorem fnExactOwnerOf_card : Rows.FnExactOwnerOfCardSaid :=
  Claim7.holds_tied_plain_at .later [] _ _ _ _ saidOwnerOf (fun _ h => by cases h) (by kernel_rfl) (fun _ h => by cases h) fnExactOwnerOf_row_tie rfl ⟨rfl, rfl⟩ (by kernel_rfl) rfl plainOwnerOf (by kernel_rfl)
#print axioms fnExactOwnerOf_card

end Go.Proofs.YtkccgjeanehaiaaDoor
