/-
  The law FnExactRingOf: at every list of texts the program tells the ring that the model tells, in memory of its own; nothing that was there has turned. Condition: the library's tables as the program's text lays them (the card ties them).
-/
import Derived.Test.YtkccgjeanehaiaaDoorMarkD
import Derived.Test.YtkccgjeanehaiaaDoorOpenS
import Derived.Test.YtkccgjeanehaiaaDoorTie
import Derived.Test.YtkccgjeanehaiaaDoorCards
import Derived.Carry
import Derived.ShutString
import Derived.ChangeOld
import Derived.ChangeSame
import Derived.ChangeVars
import Derived.JoinedOf
import Derived.LaidLaws
import Derived.LaidHandle
import Derived.LaidSub
import Derived.Lib.LaidTab
import Derived.Lay
import Derived.MakeChecks
import Derived.Stop.Joined
import Derived.SevenTiedAt
import Derived.Deep.DeepHandedRow
import Derived.WalkKit
import Derived.ProofKit
import Derived.OpenShut
namespace Go.Proofs.YtkccgjeanehaiaaDoor
set_option linter.unusedVariables false
set_option linter.unusedSimpArgs false
open Go.ChangeMaps (open_string shut_string)
open Go.ChangeShapes Go.WideShapes Go.ChangeAt Go.RowKit Go.PlainAid


theorem ne_block {w : World} {B n g : Nat} {T : TypeId} {s : Nat} {v : Value} {xs : List Value} (h : w.ownsRow B T s v n xs) (hg : g < B ∨ w.heap.size ≤ g) : v.ownBlock = none ∨ v.ownBlock ≠ some g := by
  cases e : v.ownBlock with
  | none => exact .inl rfl
  | some k =>
    right
    have := h.lt k e
    intro q
    cases q
    omega

set_option maxRecDepth 10000 in
set_option maxHeartbeats 2000000 in
theorem walkRingOf (ao : Option Addr) (cap : Nat) (L : List ByteArray) (w : World) (hl : L.length ≤ maxLen) (hu : ∀ u ∈ L, u.size ≤ maxLen) (hS : StrsAt w ao L) (_ : True) :
    Calls Tryd.prog 4 #[.slice ao L.length cap] w fun e w' => e = .returned (.bool true) ∧ Below w.heap.size w w' := by
  go_enter Tryd.func4, Tryd.ntmps4
  go_wp2_with (go_at_call 13; refine (c_szStringS _ _ (by omega) (by omega) hl hu hS).mono ?_; rintro e w1 ⟨v, rfl, hv, hn, hw⟩; obtain rfl := hw.symm)
  · go_ret
    exact ⟨rfl, Below.refl _ _⟩
  · obtain ⟨hl, hu⟩ := hn ‹_›
    clear hn
    go_wp2_with (go_at_call 15; refine (c_toStringS _ hl hS).mono ?_; rintro e w1 ⟨g1, rfl, ho1, hb1⟩)
    go_wp2_with (go_at_call 14; refine (c_s_RingOf _ hl hu (strs_owned ho1)).mono ?_; rintro e w2 ⟨v2, R, rfl, hR, ho2, hb2⟩)
    have hT2 : Below w.heap.size w w2 := chain hb1 hb2
    have hRl := ans_len hR
    go_wp2_with (go_at_call 15; refine (c_toStringS _ hl (strs_past hS hT2)).mono ?_; rintro e w3 ⟨g3, rfl, ho3, hb3⟩)
    go_wp2_with (go_at_call 11; refine (c_i_RingOf _ hl hu (strs_owned ho3)).mono ?_; rintro e w4 ⟨v4, R4, rfl, hR4, ho4, hb4⟩; obtain rfl := ans_one hR hR4)
    have hT4 : Below w.heap.size w w4 := chain (chain hT2 hb3) hb4
    have hq2 := own_past ho2 (chain hb3 hb4)
    have hg3 := ho3.lt g3 rfl
    go_wp2_with (go_at_call 16; refine (c_eqMarkS rfl hRl ho4 hq2).mono ?_; rintro e w5 ⟨rfl, hb5⟩)
    go_wp2_with (go_at_call 15; refine (c_toStringS _ hl (strs_past hS (chain hT4 hb5))).mono ?_; rintro e w6 ⟨g6, rfl, ho6, hb6⟩)
    go_wp2_with (go_at_call 17; refine (c_eqStringS _ _ hl (strs_past (strs_owned ho3) (chain (chain hb4 hb5) hb6)) (strs_owned ho6)).mono ?_; rintro e w7 ⟨rfl, hb7⟩)
    have hT7 : Below w.heap.size w w7 := chain (chain (chain hT4 hb5) hb6) hb7
    have h57 : Below w4.heap.size w4 w7 := chain (chain hb5 hb6) hb7
    have ho3' := own_past ho3 (chain hb4 h57)
    have ho4' := own_past ho4 h57
    have ho2' := own_past hq2 h57
    have n2 : v2.ownBlock = none ∨ v2.ownBlock ≠ some g3 := ne_block ho2 (.inr hg3.1)
    have n4 : v4.ownBlock = none ∨ v4.ownBlock ≠ some g3 := ne_block ho4 (.inl hg3.2)
    have n24 : v2.ownBlock = none ∨ v2.ownBlock ≠ v4.ownBlock := by
      cases e : v4.ownBlock with
      | none =>
        cases e2 : v2.ownBlock with
        | none => exact .inl rfl
        | some k => exact .inr (by simp)
      | some k =>
        have := ho4.lt k e
        have := hb3.size
        exact ne_block ho2 (.inr (by omega))
    have z2 := hT2.size
    have z3 := hb3.size
    have O2 := hide ho2'
    have O4 := hide ho4'
    have O3 := hide ho3'
    have T7 := hide hT7
    have SS := hide hS
    have RR := hide hR
    have N2 := hide n2
    have N4 := hide n4
    have N24 := hide n24
    have BL4 : Hid (∀ k, v4.ownBlock = some k → w.heap.size ≤ k) := fun k hk => Nat.le_trans (Nat.le_trans z2 z3) (ho4.lt k hk).1
    clear hb1 hb2 hb3 hb4 hb5 hb6 hb7 h57 ho1 ho2 ho3 ho4 ho6 hq2 ho2' ho3' ho4' hT2 hT4 hT7 hS hR hR4 n2 n4 n24 z3
    go_wp2_with (go_at_call 18; refine (c_markStringS 1 (by omega) (by omega) hl O3.out).mono ?_; rintro e w8 ⟨rfl, hg8⟩; have T8 := hide (T7.out.grown hg8 T7.out.size (fun k e => by cases e; omega)); have Q2 := hide (O2.out.kept hg8 N2.out); have Q4 := hide (O4.out.kept hg8 N4.out); clear hg8)
    go_wp2_with (go_at_call 16; refine (c_eqMarkS rfl hRl Q4.out Q2.out).mono ?_; rintro e w9 ⟨rfl, hb9⟩; have T9 := hide (chain T8.out hb9); have P2 := hide (own_past Q2.out hb9); have P4 := hide (own_past Q4.out hb9); clear hb9)
    go_wp2_with (go_at_call 19; refine (c_markMarkS 1 (by omega) (by omega) rfl hRl P4.out).mono ?_; rintro e w10 ⟨rfl, ho10, hg10⟩; have X4 := hide ho10; have X2 := hide (P2.out.kept hg10 N24.out); have T10 := hide (T9.out.grown hg10 T9.out.size BL4.out); clear ho10 hg10)
    go_wp2_with (go_at_call 20; refine (c_heldMarkS 1 (by omega) (by omega) hRl X4.out).mono ?_; rintro e w11 ⟨rfl, hb11⟩; have T11 := hide (chain T10.out hb11); have Y2 := hide (own_past X2.out hb11); have Y4 := hide (own_past X4.out hb11); clear hb11)
    go_wp2_with (go_at_call 15; refine (c_toStringS _ hl (strs_past SS.out T11.out)).mono ?_; rintro e w12 ⟨g12, rfl, ho12, hb12⟩)
    go_wp2_with (go_at_call 11; refine (c_i_RingOf _ hl hu (strs_owned ho12)).mono ?_; rintro e w13 ⟨v13, R13, rfl, hR13, ho13, hb13⟩; obtain rfl := ans_one RR.out hR13)
    go_wp2_with (go_at_call 16; refine (c_eqMarkS rfl hRl ho13 (own_past Y2.out (chain hb12 hb13))).mono ?_; rintro e w14 ⟨rfl, hb14⟩)
    go_wp2_with (go_at_call 20; refine (c_heldMarkS 1 (by omega) (by omega) hRl (own_past Y4.out (chain (chain hb12 hb13) hb14))).mono ?_; rintro e w15 ⟨rfl, hb15⟩)
    go_ret
    exact ⟨rfl, chain (chain (chain (chain T11.out hb12) hb13) hb14) hb15⟩

theorem of_laid {W : World} (_ : laidMetH Tryd.prog Rows.fnExactRingOfRow.laid W) : True := trivial


set_option maxRecDepth 100000
theorem own : ownKnob Tryd.prog.godebug = none := by kernel_rfl
theorem laidOut : laidOutB Tryd.prog = true := by kernel_rfl
theorem liftedRingOf (os : Os) (started : os.Started) (H : Type) (enc : TypeId × Value → H) :
    ReturnsInHanded {} Tryd.checked os 4 .any (fun w args => (Rows.fnExactRingOfSpec.pre enc Tryd.prog Tryd.f4 [] false w args ∧ laidMetH Tryd.prog Rows.fnExactRingOfRow.laid w) ∧ sizedMet enc Tryd.prog Tryd.f4 (OpenSpec.ofChange Rows.fnExactRingOfSpec) false w args)
      (Rows.fnExactRingOfSpec.post enc Tryd.prog Tryd.f4 false true false false) := by
  refine returnsInHanded_of_change_and (C := Tryd.checked) (X := fun w _ => laidMetH Tryd.prog Rows.fnExactRingOfRow.laid w) (fun _ _ _ hh h => h.of_heap hh) own started (by kernel_rfl) Tryd.func4
    (ChangeSpec.witness_shaped (enc := enc) (C := Tryd.checked) (os := os) (X := fun w _ => laidMetH Tryd.prog Rows.fnExactRingOfRow.laid w) false (World.laidAll Tryd.prog os Rows.fnExactRingOfRow.laid) #[.slice none 0 0] 8 (World.laidAll_os _ _ _)
      (World.shaped_of_ZipB (by kernel_rfl) (by kernel_rfl)) (by kernel_rfl) (by kernel_rfl) (by kernel_rfl)
      (by rw [MakeChecks.laidMetH_plain _ _ _ (by kernel_rfl)]; exact laidMet_laidAll _ (by kernel_rfl) (by kernel_rfl))) ?_
  intro W base args ds gs before hval0 hW _ _ hL _
  have hval : ∀ (j : Nat) t v, Tryd.f4.params[j]? = some t → args[j]? = some v → Value.okWide Tryd.prog W .any base t v := hval0
  have hW' := hW
  obtain ⟨p, q, hA0, hV, rfl, hfz, hnd⟩ := hW
  have hA : DataW.TrodAll enc Tryd.prog W 0 (fun _ => true) true Tryd.f4.params.toList args.toList ds p := hA0
  rw [Tryd.params4] at hA hval
  obtain ⟨v0, vs0, d0, ds0, p0, q0, hargs, rfl, rfl, h0, r0⟩ := trodAll_cons hA
  obtain ⟨rfl, rfl, rfl⟩ := trodAll_nil r0
  obtain rfl : args = #[v0] := by cases args; simp_all
  obtain ⟨rfl, rfl⟩ := trodVars_none hV
  have k0 := h0
  have lt0 : ∀ x ∈ p0, x.block < W.heap.size := by obtain ⟨m, hm⟩ := k0; exact DataW.trod_lt m _ _ _ hm
  obtain ⟨a0, c0, l0, rfl, m0, u0, s0⟩ := open_strs (hval 0 23 v0 rfl rfl) h0
  clear hA0 hval0
  refine (walkRingOf a0 c0 l0 W m0 u0 s0 (of_laid hL)).mono fun e W' ⟨he, bel⟩ => ?_
  subst he
  exact ⟨_, rfl, _, _, _, [], _, [], hW', trodAll_mk1 (shut_bool Tryd.underlying4 _), (trodAll_cons_mk (Below.trod laidOut (by kernel_rfl) (of_decide_eq_true (by kernel_rfl)) k0 bel lt0) trodAll_mk0), rfl, bel.frame _, fun h => by cases h⟩

theorem saidRingOf : Rows.FnExactRingOfSaid :=
  OpenClaim.holds_of_wide 4 Tryd.f4 rfl rfl rfl rfl rfl rfl rfl ⟨rfl, rfl, rfl, rfl, rfl⟩ rfl rfl rfl rfl rfl (by kernel_rfl) Tryd.func4 (by kernel_rfl)
    (of_decide_eq_true (by kernel_rfl)) (by unfold Func.isWrapper; first | (rw [if_pos (by decide +kernel)]; kernel_rfl) | (rw [if_neg (by decide +kernel)]; exact ⟨rfl, rfl⟩))
    (fun os started H enc _ => liftedRingOf os started H enc)

/-- No parameter wants a stand-in; the program's own looks are off. -/
theorem plainRingOf (f : FuncId) (fn : Func) (hf : Tryd.pinned.checked.prog.funcNamed Rows.fnExactRingOfRow.func = some f) (hfn : Tryd.pinned.checked.prog.funcs[f]? = some fn) :
    Rows.fnExactRingOfCard.stood.looks = Tryd.pinned.checked.prog.looks [] ∧ ∀ (j : Nat) t, fn.params[j]? = some t → Tryd.pinned.checked.prog.wantsStandIn t = false := by
  obtain rfl : f = 4 := Option.some.inj ((show Tryd.prog.funcNamed Rows.fnExactRingOfRow.func = some 4 by kernel_rfl).symm.trans hf) |>.symm
  obtain rfl : fn = Tryd.f4 := (Option.some.inj (Tryd.func4.symm.trans hfn)).symm
  refine ⟨by kernel_rfl, fun j t ht => ?_⟩
  rw [Tryd.params4] at ht
  have ht2 := Array.mem_of_getElem? ht
  simp only [List.mem_toArray, List.mem_cons, List.not_mem_nil, or_false] at ht2
  obtain rfl := ht2
  exact (show Tryd.prog.wantsStandIn 23 = false by kernel_rfl)

theorem fnExactRingOf_card : Rows.FnExactRingOfCardSaid :=
  Claim7.holds_tied_plain_at .later [] _ _ _ _ saidRingOf (fun _ h => by cases h) (by kernel_rfl) (fun _ h => by cases h) fnExactRingOf_row_tie rfl ⟨rfl, rfl⟩ (by kernel_rfl) rfl plainRingOf (by kernel_rfl)
#print axioms fnExactRingOf_card

end Go.Proofs.YtkccgjeanehaiaaDoor
