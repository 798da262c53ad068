/-
  The law FnBin: of every two codes what is drawn keeps promise 4: a bin's least number is no more than its numbers, and less than a 128th below them; the bins rise with the numbers; nothing that was there has turned. No condition.
-/
import Derived.Test.YtjgemoblmlodnaaBinC
import Derived.Test.YtjgemoblmlodnaaDrawC
import Derived.Test.YtjgemoblmlodnaaOpenC
import Derived.Lib.SmallJoins
import Derived.Carry
import Derived.Deep.RegionHeld3
import Derived.Deep.DeepCutAuto
import Derived.ShutString
import Derived.ChangeOld
namespace Go.Proofs.Ytjgemoblmlodnaa
set_option linter.unusedVariables false
set_option linter.unusedSimpArgs false
open Go.ChangeMaps (open_string shut_string)
open Go.ChangeShapes Go.WideShapes Go.ChangeAt Go.RowKit Go.PlainAid

theorem c_DrawBinOf (ao : Option Addr) (ln cap : Nat) (w : World) (hc : CodeAt w w.heap.size ao ln) :
    Calls Try.prog 10 #[.slice ao ln cap] w fun e w' => ∃ v, e = .returned (.int .i64 v) ∧ I64 v ∧ Below w.heap.size w w' := by
  go_enter Try.func10, Try.ntmps10
  go_wp2_with (first
    | (go_at_call 12; refine (c_l01Source _ _ _ _ hc).mono ?_; rintro e w1 ⟨rfl, hS⟩)
    | (go_at_call 13; refine (c_l01Any hc hS).mono ?_; rintro e w2 ⟨v, rfl, hI, hS2, hg2⟩))
  go_ret
  exact ⟨v, rfl, hI, hS2.bel⟩

theorem codeAt_past {w w' : World} {B B' : Nat} {ao : Option Addr} {ln : Nat} (h : CodeAt w B ao ln) (hb : Below B w w') (hB : B ≤ B') : CodeAt w' B' ao ln := by
  refine ⟨h.1, fun h0 => ?_⟩
  obtain ⟨b, off, e, hl, hc⟩ := h.2 h0
  exact ⟨b, off, e, by omega, fun i hi => by obtain ⟨x, hx⟩ := hc i hi; exact ⟨x, by rw [hb.cell (by exact hl)]; exact hx⟩⟩

/-- What the law asks of a number in bounds. -/
theorem bin_keeps {v : Int} (h1 : 1 ≤ v) (h2 : v ≤ 999999999999999999) : ¬ v < lowI (binI v) ∧ (∃ q, Int.tdiv v 128 = q ∧ 0 ≤ q ∧ q ≤ 999999999999999999 ∧ ¬ q < v - lowI (binI v)) ∧ binI (lowI (binI v)) = binI v ∧ ¬ lowI (binI v + 1) ≤ v ∧ I64 (lowI (binI v)) ∧ 0 ≤ lowI (binI v) := by
  obtain ⟨n, rfl⟩ : ∃ n : Nat, v = n := ⟨v.toNat, by omega⟩
  have b1 := binW_1 (x := n) (by omega)
  have b2 := binW_in (v := n) (by omega)
  have e : binI n = (binW n : Int) := by rw [binI_yes h1 h2, Int.toNat_natCast]
  have l1 : lowI (binI n) = (lowW (binW n) : Int) := by rw [e, lowI_yes (by omega) (by omega), Int.toNat_natCast]
  have l2 : lowI (binI n + 1) = (lowW (binW n + 1) : Int) := by rw [e, lowI_yes (by omega) (by omega)]; congr 2
  have k := low_bin n
  have k2 := low_near n
  have p : 1 ≤ lowW (binW n) := by
    have := binW_le (lowW (binW n)); rw [bin_low] at this; omega
  refine ⟨by rw [l1]; omega, ⟨((n / 128 : Nat) : Int), rfl, by omega, by omega, by rw [l1]; omega⟩, ?_, by rw [l2]; omega, by rw [l1]; unfold I64; omega, by rw [l1]; omega⟩
  rw [l1, binI_yes (by omega) (by omega), Int.toNat_natCast, bin_low, e]
theorem bin_rises {v u : Int} (h1 : 1 ≤ v) (h2 : u ≤ 999999999999999999) (h : v ≤ u) : binI v ≤ binI u := by
  rw [binI_yes h1 (by omega), binI_yes (by omega) h2]
  have := binW_mono v.toNat u.toNat (by omega)
  omega

set_option maxRecDepth 10000
set_option maxHeartbeats 1000000
theorem walkBin (ao : Option Addr) (ln cap : Nat) (bo : Option Addr) (lm cap2 : Nat) (w : World) (hl : ln ≤ maxLen) (ha : ln ≤ 1048576 → CodeAt w w.heap.size ao ln) (hm : lm ≤ maxLen) (hb : lm ≤ 1048576 → CodeAt w w.heap.size bo lm) :
    Calls Try.prog 5 #[.slice ao ln cap, .slice bo lm cap2] w fun e w' => e = .returned (.bool true) ∧ Below w.heap.size w w' := by
  have hlz : ln ≤ 9223372036854775807 := hl
  have hmz : lm ≤ 9223372036854775807 := hm
  by_cases hl1 : 1048576 < ln
  · have hl1i : (1048576 : Int) < (ln : Int) := by omega
    clear ha hb
    go_enter Try.func5, Try.ntmps5
    go_wp2
    go_ret
    exact ⟨rfl, Below.refl _ _⟩
  have hl1i : ¬ (1048576 : Int) < (ln : Int) := by omega
  by_cases hm1 : 1048576 < lm
  · have hm1i : (1048576 : Int) < (lm : Int) := by omega
    clear ha hb
    go_enter Try.func5, Try.ntmps5
    go_wp2
    go_ret
    exact ⟨rfl, Below.refl _ _⟩
  have hm1i : ¬ (1048576 : Int) < (lm : Int) := by omega
  have hA := ha (by omega)
  have hB := hb (by omega)
  clear ha hb
  go_enter Try.func5, Try.ntmps5
  go_wp2_with (fail)
  refine (c_DrawBinOf _ _ _ _ hA).mono ?_
  rintro e w1 ⟨v, rfl, hv, hb1⟩
  go_wp2_with (fail)
  refine (c_DrawBinOf _ _ _ _ (codeAt_past hB hb1 hb1.size)).mono ?_
  rintro e w2 ⟨u, rfl, hu, hb2⟩
  have HZ : Hid (Below w.heap.size w w2) := chain hb1 hb2
  clear hb1 hb2 hA hB
  have i1 := binI_in v
  have i2 := binI_in u
  have j1 : I64 (binI v) := by unfold I64; omega
  have j2 : I64 (binI v + 1) := by unfold I64; omega
  obtain ⟨v1, v2⟩ := id hv
  obtain ⟨u1, u2⟩ := id hu
  by_cases hr : 1 ≤ v ∧ v ≤ 999999999999999999
  · obtain ⟨r1, r2⟩ := hr
    obtain ⟨k1, ⟨q, k2, kq1, kq2, k3⟩, k4, k5, k6, k7⟩ := bin_keeps r1 r2
    have hq : (u < 1) ∨ (¬ u < 1 ∧ 999999999999999999 < u) ∨ (¬ u < 1 ∧ ¬ 999999999999999999 < u ∧ u < v) ∨ (¬ u < 1 ∧ ¬ 999999999999999999 < u ∧ ¬ u < v ∧ binI v ≤ binI u) := by
      by_cases z : v ≤ u
      · by_cases z2 : u ≤ 999999999999999999
        · have := bin_rises r1 z2 z; omega
        · omega
      · omega
    have r3 : ¬ v < 1 := by omega
    have r4 : ¬ 999999999999999999 < v := by omega
    clear r1 r2
    rcases hq with q1 | ⟨q1, q2⟩ | ⟨q1, q2, q3⟩ | ⟨q1, q2, q3, q4⟩
    all_goals
      go_wp2_with (first
        | (go_at_call 6; refine (c_s_BinOf _ _ (by first | exact hv | exact hu | exact k6)).mono ?_; rintro e w1 ⟨rfl, rfl⟩)
        | (go_at_call 7; refine (c_i_BinOf _ _ (by first | exact hv | exact hu | exact k6)).mono ?_; rintro e w1 ⟨rfl, rfl⟩)
        | (go_at_call 8; refine (c_s_BinLow _ _ (by first | exact hv | exact j1 | exact j2)).mono ?_; rintro e w1 ⟨rfl, rfl⟩)
        | (go_at_call 9; refine (c_i_BinLow _ _ (by first | exact hv | exact j1 | exact j2)).mono ?_; rintro e w1 ⟨rfl, rfl⟩))
      go_ret
      exact ⟨rfl, HZ.out⟩
  · have z : binI v = 0 := binI_no hr
    have hc : v < 1 ∨ ¬ v < 1 ∧ 999999999999999999 < v := by omega
    clear hr
    rcases hc with h | ⟨h, h2⟩
    all_goals
      go_wp2_with (first
        | (go_at_call 6; refine (c_s_BinOf _ _ (by first | exact hv | exact hu)).mono ?_; rintro e w1 ⟨rfl, rfl⟩)
        | (go_at_call 7; refine (c_i_BinOf _ _ (by first | exact hv | exact hu)).mono ?_; rintro e w1 ⟨rfl, rfl⟩)
        | (go_at_call 8; refine (c_s_BinLow _ _ (by first | exact hv | exact j1 | exact j2)).mono ?_; rintro e w1 ⟨rfl, rfl⟩)
        | (go_at_call 9; refine (c_i_BinLow _ _ (by first | exact hv | exact j1 | exact j2)).mono ?_; rintro e w1 ⟨rfl, rfl⟩))
      go_ret
      exact ⟨rfl, HZ.out⟩

theorem own : ownKnob Try.prog.godebug = none := by kernel_rfl
theorem laidOut : laidOutB Try.prog = true := by kernel_rfl

set_option maxRecDepth 100000 in
theorem liftedBin (os : Os) (started : os.Started) (H : Type) (enc : TypeId × Value → H) :
    ReturnsInHanded {} Try.checked os 5 .any (Rows.fnBinSpec.pre6 enc Try.prog Try.f5 Rows.fnBinRow.domain false) (Rows.fnBinSpec.post enc Try.prog Try.f5 false true false false) := by
  refine returnsInHanded_of_change (C := Try.checked) own started (by kernel_rfl) Try.func5
    (ChangeSpec.witness6 (enc := enc) (C := Try.checked) false ⟨#[], #[.slice none 0 0, .slice none 0 0], []⟩ 8 (by kernel_rfl) (by kernel_rfl) (by kernel_rfl) (by kernel_rfl)) ?_
  intro W base args ds gs before hval0 hW hcnd _
  have hval : ∀ (j : Nat) t v, Try.f5.params[j]? = some t → args[j]? = some v → Value.okWide Try.prog W .any base t v := hval0
  have hW' := hW
  obtain ⟨p, q, hA0, hV, rfl, hfz, hnd⟩ := hW
  have hA : DataW.TrodAll enc Try.prog W 0 (fun _ => true) true Try.f5.params.toList args.toList ds p := hA0
  rw [Try.params5] at hA hval
  obtain ⟨v0, vs0, d0, ds0, p0, q0, hargs, rfl, rfl, h0, r0⟩ := trodAll_cons hA
  obtain ⟨v1, vs1, d1, ds1, p1, q1, rfl, rfl, rfl, h1, r1⟩ := trodAll_cons r0
  obtain ⟨rfl, rfl, rfl⟩ := trodAll_nil r1
  obtain rfl : args = #[v0, v1] := by cases args; simp_all
  obtain ⟨rfl, rfl⟩ := trodVars_none hV
  have k0 := h0
  have lt0 : ∀ x ∈ p0, x.block < W.heap.size := by obtain ⟨m, hm⟩ := k0; exact DataW.trod_lt m _ _ _ hm
  obtain ⟨a0, n0, c0, rfl, m0, s0⟩ := open_code (hval 0 24 v0 rfl rfl) h0
  have k1 := h1
  have lt1 : ∀ x ∈ p1, x.block < W.heap.size := by obtain ⟨m, hm⟩ := k1; exact DataW.trod_lt m _ _ _ hm
  obtain ⟨a1, n1, c1, rfl, m1, s1⟩ := open_code (hval 1 24 v1 rfl rfl) h1
  clear hA0 hval0
  refine (walkBin a0 n0 c0 a1 n1 c1 W m0 s0 m1 s1).mono fun e W' ⟨he, bel⟩ => ?_
  subst he
  exact ⟨_, rfl, _, _, _, [], _, [], hW', trodAll_mk1 (shut_bool Try.underlying4 _), (trodAll_cons_mk (Below.trod laidOut (by kernel_rfl) (of_decide_eq_true (by kernel_rfl)) k0 bel lt0) (trodAll_cons_mk (Below.trod laidOut (by kernel_rfl) (of_decide_eq_true (by kernel_rfl)) k1 bel lt1) trodAll_mk0)), rfl, bel.frame _, fun h => by cases h⟩

theorem overBin : Rows.fnBinRow.holds Try.pinned (OpenSpec.ofChange Rows.fnBinSpec) :=
  OpenClaim.holds_of_wide 5 Try.f5 rfl rfl rfl rfl rfl rfl rfl ⟨rfl, rfl, rfl, rfl, rfl⟩ rfl rfl rfl rfl rfl (by kernel_rfl) Try.func5 (by kernel_rfl)
    (of_decide_eq_true (by kernel_rfl)) (by unfold Func.isWrapper; first | (rw [if_pos (by decide +kernel)]; kernel_rfl) | (rw [if_neg (by decide +kernel)]; exact ⟨rfl, rfl⟩))
    (fun os started H enc _ => liftedBin os started H enc)

theorem fnBin_holds : Rows.FnBinSaid := overBin
#print axioms fnBin_holds

end Go.Proofs.Ytjgemoblmlodnaa
