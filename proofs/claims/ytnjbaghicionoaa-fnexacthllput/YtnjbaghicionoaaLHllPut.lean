/-
  The law FnExactHllPut: at every argument the program puts as the model does, every field; it writes into no argument; its answer owns its memory. No condition.
-/
import Derived.Test.YtnjbaghicionoaaMarkH
import Derived.Test.YtnjbaghicionoaaOpenH
import Derived.Lib.SmallJoins
import Derived.Carry
import Derived.Deep.RegionHeld3
import Derived.Deep.DeepCutAuto
import Derived.ShutString
import Derived.ChangeOld
namespace Go.Proofs.Ytnjbaghicionoaa
set_option linter.unusedVariables false
set_option linter.unusedSimpArgs false
open Go.ChangeMaps (open_string shut_string)
open Go.ChangeShapes Go.WideShapes Go.ChangeAt Go.RowKit Go.Joins
set_option maxRecDepth 10000

theorem OwnN.of {kd : IntKind} {T : TypeId} {w : World} {B n : Nat} {v : Value} {L : List Int} (h : w.ownsRow B T 1 v n (L.map (Value.int kd))) (hn : L.length = n) : OwnN kd T w B v n L := ⟨hn.symm, h⟩
theorem HlOut.open {w : World} {B pm nm : Nat} {v : Value} {E R : List Int} (h : HlOut w B v E R) (hp : E.length = pm) (hn : R.length = nm) :
    ∃ ao c bo d, v = .agg #[.slice ao pm c, .slice bo nm d] ∧ OwnN .u64 26 w B (.slice ao pm c) pm E ∧ OwnN .i64 2 w B (.slice bo nm d) nm R := by
  obtain ⟨p, n, rfl, h1, h2⟩ := h
  subst hp
  subst hn
  obtain ⟨ao, c, rfl⟩ := own_any h1
  obtain ⟨bo, d, rfl⟩ := own_any h2
  exact ⟨ao, c, bo, d, rfl, ⟨rfl, h1⟩, ⟨rfl, h2⟩⟩
theorem PutH.one {E R E1 R1 E2 R2 : List Int} {x : Int} (h : PutH E R x E1 R1) (g : PutH E R x E2 R2) : E1 = E2 ∧ R1 = R2 := by
  unfold PutH at h g
  split at h
  · rw [if_pos (by assumption)] at g; exact h.one g
  · rw [if_neg (by assumption)] at g; exact ⟨h.1.trans g.1.symm, h.2.trans g.2.symm⟩
theorem put_len {E R E1 R1 : List Int} {x : Int} (h : PutH E R x E1 R1) (l1 : E.length ≤ 1048576) (l2 : R.length ≤ 1048576) : E1.length ≤ 1048576 ∧ R1.length ≤ 1048576 := by
  unfold PutH at h
  split at h
  · rename_i hb
    rcases h with ⟨_, _, h40, rfl, rfl⟩ | ⟨_, rfl, h⟩
    · exact ⟨by omega, by simp⟩
    · refine ⟨by simp, ?_⟩
      rw [h.1, mxL_len, padR_len (hlB_len hb).2]; omega
  · rw [h.1, h.2]; exact ⟨l1, l2⟩
theorem hl_kept2 {w w' : World} {g : Nat} {p n : Value} {r s : Option Nat} (k : HlCell w g p n) (hg : Grown2 w w' r s) (h1 : r ≠ some g) (h2 : s ≠ some g) : HlCell w' g p n := by
  have hb : ∀ j, w'.cell? ⟨g, j, none⟩ = w.cell? ⟨g, j, none⟩ := fun j => World.cell?_of_block (w := w) (hg.block g (World.block_lt_of_cell? _ _ k.1) (fun e => h1 e.symm) (fun e => h2 e.symm))
  exact ⟨by rw [hb]; exact k.1, by rw [hb]; exact k.2⟩

set_option maxHeartbeats 4000000 in
theorem walkHllPut (pa na : Option Addr) (pc nc : Nat) (P N : List Int) (xx : Int) (w : World) (lP : P.length ≤ maxLen) (lN : N.length ≤ maxLen) (kP : ∀ x ∈ P, U64 x) (kN : ∀ x ∈ N, I64 x) (hP : NumsAt .u64 w pa P) (hN : NumsAt .i64 w na N) (hxx : U64 xx) :
    Calls Try.prog 3 #[.agg #[.slice pa P.length pc, .slice na N.length nc], .int .u64 xx] w fun e w' => e = .returned (.bool true) ∧ Below w.heap.size w w' := by
  have HX := hide hxx
  clear hxx
  obtain ⟨pn, ep⟩ : ∃ n, P.length = n := ⟨_, rfl⟩
  obtain ⟨nn, en⟩ : ∃ n, N.length = n := ⟨_, rfl⟩
  rw [ep] at lP; rw [en] at lN
  rw [ep, en]
  have HP := hide hP
  have HN := hide hN
  have KP := hide kP
  have KN := hide kN
  have EP := hide ep
  have EN := hide en
  have hW : ∀ o1, Below w.heap.size w (w.alloc o1) := fun o1 => (Below.refl _ _).alloc (Nat.le_refl _) _
  have HW := hide hW
  have HAl : Hid (∀ (W : World) o, Below W.heap.size W (W.alloc o)) := fun W o => (Below.refl _ _).alloc (Nat.le_refl _) _
  clear hP hN kP kN ep en hW
  go_enter Try.func3, Try.ntmps3
  go_wp2_with fail
  refine (c_szHll _ _ _ _ _ _ _ (by omega) (by omega) lP lN _).mono ?_
  rintro e w1 ⟨v, rfl, hv, hsm, hb1⟩
  have HT1 := hide ((HW.out _).trans (hb1.mono (by simp)))
  have K1 := hl_past (hl_new w _ _ _) hb1
  clear hb1
  by_cases hv0 : v < 0
  · clear hsm
    go_wp2
    go_ret
    exact ⟨rfl, HT1.out⟩
  obtain ⟨v0, lp, ln⟩ := hsm hv0
  clear hsm
  go_wp2_with fail
  refine (c_toHll EP.out EN.out lp ln (nums_past HP.out HT1.out) (nums_past HN.out HT1.out)).mono ?_
  rintro e w2 ⟨gp, gn, rfl, q1, q2, q3, oP, oN, hb2⟩
  have HT2 := hide (chain HT1.out hb2)
  have K2 := hl_past K1 hb2
  have BP := hide (nums_owned oP EP.out)
  have BN := hide (nums_owned oN EN.out)
  clear hb2 oP oN K1 q1 q2 q3
  go_wp2_with fail
  refine (c_s_HllPut xx EP.out EN.out lp ln (Nat.le_refl _) (by unfold maxLen; omega) (.inr ⟨_, _, rfl⟩) (fun e => by cases e) (fun e => by cases e) BP.out BN.out KN.out KP.out HX.out).mono ?_
  rintro e w3 ⟨v3, PP, NN, rfl, hM3, hq3, hb3⟩
  obtain ⟨lPP, lNN⟩ := put_len hM3 (by rw [EP.out]; exact lp) (by rw [EN.out]; exact ln)
  have FI : Hid (∀ E R, PutH P N xx E R → E = PP ∧ R = NN) := fun E R h => h.one hM3
  obtain ⟨pm, epm⟩ : ∃ n, PP.length = n := ⟨_, rfl⟩
  obtain ⟨nm, enm⟩ : ∃ n, NN.length = n := ⟨_, rfl⟩
  rw [epm] at lPP; rw [enm] at lNN
  have EPM := hide epm
  have ENM := hide enm
  clear epm enm
  obtain ⟨sa, sc, sb, sd, rfl, hs1, hs2⟩ := hq3.open EPM.out ENM.out
  have HT3 := hide (chain HT2.out hb3)
  have K3 := hl_past K2 hb3
  have z12 := HT2.out.size
  have z23 := hb3.size
  have S1lt := hide hs1.lt
  have S2lt := hide hs2.lt
  have KA3 : ∀ o, HlCell (w3.alloc o) w.heap.size (.slice pa pn pc) (.slice na nn nc) := fun o => hl_past K3 (HAl.out _ o)
  have HS1 := hide hs1
  have HS2 := hide hs2
  clear hb3 hq3 hM3 K2 hs1 hs2 BP BN
  go_wp2_with fail
  refine (c_toHll EP.out EN.out lp ln (nums_past HP.out (chain HT3.out (HAl.out _ _))) (nums_past HN.out (chain HT3.out (HAl.out _ _)))).mono ?_
  rintro e w4 ⟨gp2, gn2, rfl, q4, q5, q6, oP, oN, hb4⟩
  simp only [World.size_alloc] at q4
  have HB4 := hide (chain (HAl.out _ _) hb4)
  have HT4 := hide (chain HT3.out HB4.out)
  have K4 := hl_past K3 HB4.out
  have V4 := hl_past (hl_new w3 _ _ _) hb4
  have z34 := HB4.out.size
  have BP4 := hide (nums_owned oP EP.out)
  have BN4 := hide (nums_owned oN EN.out)
  have OP4 := hide (OwnN.of oP EP.out)
  have ON4 := hide (OwnN.of oN EN.out)
  have KA4 : ∀ o, HlCell (w4.alloc o) w.heap.size (.slice pa pn pc) (.slice na nn nc) := fun o => hl_past K4 (HAl.out _ o)
  have VA4 : ∀ o, HlCell (w4.alloc o) w3.heap.size (.slice sa pm sc) (.slice sb nm sd) := fun o => hl_past V4 (HAl.out _ o)
  clear hb4 oP oN K3 KA3
  go_wp2_with fail
  refine (c_i_HllPut xx EP.out EN.out lp ln (.inr ⟨_, _, rfl⟩) (.inr ⟨_, _, rfl⟩) (nums_past BP4.out (HAl.out _ _)) (nums_past BN4.out (HAl.out _ _)) KP.out HX.out).mono ?_
  rintro e w5 ⟨v5, E5, R5, rfl, hM5, hq5, hb5⟩
  obtain ⟨ea5, eb5⟩ := FI.out _ _ hM5
  subst ea5
  subst eb5
  obtain ⟨ga, gc, gb, gd, rfl, hs1, hs2⟩ := hq5.open EPM.out ENM.out
  have HB5 := hide (chain (HAl.out _ _) hb5)
  have HT5 := hide (chain HT4.out HB5.out)
  have K5 := hl_past K4 HB5.out
  have V5 := hl_past V4 HB5.out
  have X5 := hl_past (hl_new w4 _ _ _) hb5
  have z45 := hb5.size
  simp only [World.size_alloc] at z45
  have G1lt := hide hs1.lt
  have G2lt := hide hs2.lt
  have HG1 := hide hs1
  have HG2 := hide hs2
  clear hb5 hq5 hM5 K4 V4 KA4 VA4 hs1 hs2
  have HA5 := hide (fun o => HAl.out w5 o)
  have KA5 : ∀ o, HlCell (w5.alloc o) w.heap.size (.slice pa pn pc) (.slice na nn nc) := fun o => hl_past K5 (HAl.out _ o)
  have VA5 : ∀ o, HlCell (w5.alloc o) w3.heap.size (.slice sa pm sc) (.slice sb nm sd) := fun o => hl_past V5 (HAl.out _ o)
  have XA5 : ∀ o, HlCell (w5.alloc o) w4.heap.size (.slice (some ⟨gp2, 0, none⟩) pn pn) (.slice (some ⟨gn2, 0, none⟩) nn nn) := fun o => hl_past X5 (HAl.out _ o)
  go_wp2_with fail
  refine (c_eqHll EPM.out ENM.out lPP lNN (nums_past HG1.out.at (HAl.out _ _)) (nums_past HG2.out.at (HAl.out _ _)) (nums_past HS1.out.at (chain (chain HB4.out HB5.out) (HAl.out _ _))) (nums_past HS2.out.at (chain (chain HB4.out HB5.out) (HAl.out _ _)))).mono ?_
  rintro e w6 ⟨rfl, hb6⟩
  have HB6 := hide (chain (HAl.out _ _) hb6)
  have HT6 := hide (chain HT5.out HB6.out)
  have K6 := hl_past K5 HB6.out
  have V6 := hl_past V5 HB6.out
  have X6 := hl_past X5 HB6.out
  have Y6 := hl_past (hl_new w5 _ _ _) hb6
  have z56 := hb6.size
  simp only [World.size_alloc] at z56
  have hK6 : ∀ W, Below w6.heap.size w6 W → HlCell W w.heap.size (.slice pa pn pc) (.slice na nn nc) ∧ HlCell W w4.heap.size (.slice (some ⟨gp2, 0, none⟩) pn pn) (.slice (some ⟨gn2, 0, none⟩) nn nn) := fun W hW => ⟨hl_past K6 hW, hl_past X6 hW⟩
  have HK6 := hide hK6
  have HV6 := hide V6
  have HY6 := hide Y6
  have HC6 := hide (chain HB5.out HB6.out)
  clear hb6 K5 V5 X5 KA5 VA5 XA5 hK6 V6 Y6
  go_wp2_with fail
  go_region_held3 (fun W => Kept w6.heap.size w6 W ∧ HlCell W w.heap.size (.slice pa pn pc) (.slice na nn nc) ∧ HlCell W w4.heap.size (.slice (some ⟨gp2, 0, none⟩) pn pn) (.slice (some ⟨gn2, 0, none⟩) nn nn))
    (first | exact hS3 | exact ⟨held (Below.refl _ _).drew (by simp), HK6.out _ (Below.refl _ _).drew⟩)
    (first
      | (go_at_call 9; have hS := (‹Kept _ _ _ ∧ _ ∧ _›).1; refine (c_toHll EP.out EN.out lp ln (nums_past HP.out (chain HT6.out hS.1)) (nums_past HN.out (chain HT6.out hS.1))).mono ?_; rintro e w7 ⟨gp3, gn3, rfl, _, _, _, oP, oN, hb7⟩; have hS1 := (held_call hb7 hS).1; have hS3 : Kept w6.heap.size w6 w7 ∧ _ := ⟨held hS1 (Nat.le_refl _), HK6.out _ hS1⟩; have BP7 := hide (nums_owned oP EP.out); have BN7 := hide (nums_owned oN EN.out); clear hb7 oP oN)
      | (go_at_call 11; have hS := (‹Kept _ _ _ ∧ _ ∧ _›).1; refine (c_eqHll EP.out EN.out lp ln (nums_past BP4.out (chain HC6.out hS.1)) (nums_past BN4.out (chain HC6.out hS.1)) BP7.out BN7.out).mono ?_; rintro e w8 ⟨rfl, hb8⟩; have hS1 := (held_call hb8 hS).1; have hS3 : Kept w6.heap.size w6 w8 ∧ _ := ⟨held hS1 (Nat.le_refl _), HK6.out _ hS1⟩; clear hb8))
  have HB8 := hide hS3.1.1
  obtain ⟨_, K8, X8⟩ := hS3
  have V8 := hl_past HV6.out HB8.out
  have Y8 := hl_past HY6.out HB8.out
  have HT8 := hide (chain HT6.out HB8.out)
  have HC8 := hide (chain HC6.out HB8.out)
  have HD8 := hide (chain HB6.out HB8.out)
  have z68 := HB8.out.size
  clear hS1 BP7 BN7 HK6 HV6 HY6 K6 X6
  go_wp2_with fail
  refine (c_markHll 1 (by omega) (by omega) lp ln (OP4.out.past HC8.out) (ON4.out.past HC8.out)).mono ?_
  rintro e w9 ⟨rfl, _, _, hg9⟩
  obtain ⟨k9, hk9⟩ : ∃ k, 1 + pn + nn = k := ⟨_, rfl⟩
  rw [hk9]
  have d9 : decide ((k9 : Int) < 0) = false := decide_eq_false (by omega)
  have ne9 : ∀ k, k < w3.heap.size + 1 ∨ w4.heap.size ≤ k → (Value.slice (some ⟨gp2, 0, none⟩) pn pn).ownBlock ≠ some k ∧ (Value.slice (some ⟨gn2, 0, none⟩) nn nn).ownBlock ≠ some k := fun k hk => ⟨fun e => by
    have h1 : gp2 = k := Option.some.inj e
    omega, fun e => by
    have h1 : gn2 = k := Option.some.inj e
    omega⟩
  have zw3 := HT3.out.size
  have K9 := hl_kept2 K8 hg9 (ne9 _ (.inl (by omega))).1 (ne9 _ (.inl (by omega))).2
  have V9 := hl_kept2 V8 hg9 (ne9 _ (.inl (by omega))).1 (ne9 _ (.inl (by omega))).2
  have Y9 := hl_kept2 Y8 hg9 (ne9 _ (.inr (by omega))).1 (ne9 _ (.inr (by omega))).2
  have HS19 := hide ((HS1.out.past (chain (chain HB4.out HB5.out) HD8.out)).kept2 hg9 (fun k e => by have := (S1lt.out k e).2; exact ⟨(ne9 k (.inl (by omega))).1.symm, (ne9 k (.inl (by omega))).2.symm⟩))
  have HS29 := hide ((HS2.out.past (chain (chain HB4.out HB5.out) HD8.out)).kept2 hg9 (fun k e => by have := (S2lt.out k e).2; exact ⟨(ne9 k (.inl (by omega))).1.symm, (ne9 k (.inl (by omega))).2.symm⟩))
  have G1b : ∀ k, (Value.slice ga pm gc).ownBlock = some k → w4.heap.size + 1 ≤ k ∧ k < w5.heap.size := fun k e => by have := G1lt.out k e; simpa using this
  have G2b : ∀ k, (Value.slice gb nm gd).ownBlock = some k → w4.heap.size + 1 ≤ k ∧ k < w5.heap.size := fun k e => by have := G2lt.out k e; simpa using this
  have HG19 := hide ((HG1.out.past HD8.out).kept2 hg9 (fun k e => by have := (G1b k e).1; exact ⟨(ne9 k (.inr (by omega))).1.symm, (ne9 k (.inr (by omega))).2.symm⟩))
  have HG29 := hide ((HG2.out.past HD8.out).kept2 hg9 (fun k e => by have := (G2b k e).1; exact ⟨(ne9 k (.inr (by omega))).1.symm, (ne9 k (.inr (by omega))).2.symm⟩))
  have HT9 := hide (Grown2.below HT8.out HT8.out.size hg9 (fun k e => by have h1 : gp2 = k := Option.some.inj e; omega) (fun k e => by have h1 : gn2 = k := Option.some.inj e; omega))
  have z89 := hg9.size
  have HG1b := hide G1b
  have HG2b := hide G2b
  clear hg9 hk9 ne9 G1b G2b K8 V8 X8 Y8 OP4 ON4 BP4 BN4
  go_wp2_with fail
  refine (c_eqHll EPM.out ENM.out lPP lNN HG19.out.at HG29.out.at HS19.out.at HS29.out.at).mono ?_
  rintro e w10 ⟨rfl, hb10⟩
  have HB10 := hide hb10
  have HT10 := hide (chain HT9.out hb10)
  have K10 := hl_past K9 hb10
  have V10 := hl_past V9 hb10
  have Y10 := hl_past Y9 hb10
  have z910 := hb10.size
  clear hb10 K9 V9 Y9
  go_wp2_with fail
  refine (c_markHll 1 (by omega) (by omega) lPP lNN (HG19.out.past HB10.out) (HG29.out.past HB10.out)).mono ?_
  rintro e w11 ⟨rfl, ho1, ho2, hg11⟩
  obtain ⟨k11, hk11⟩ : ∃ k, 1 + pm + nm = k := ⟨_, rfl⟩
  rw [hk11]
  have HK11 := hide hk11
  have d11 : decide ((k11 : Int) < 0) = false := decide_eq_false (by omega)
  have neg : ∀ k, k < w4.heap.size + 1 ∨ w5.heap.size ≤ k → (Value.slice ga pm gc).ownBlock ≠ some k ∧ (Value.slice gb nm gd).ownBlock ≠ some k := fun k hk => ⟨fun e => by
    have := HG1b.out k e
    omega, fun e => by
    have := HG2b.out k e
    omega⟩
  have K11 := hl_kept2 K10 hg11 (neg _ (.inl (by omega))).1 (neg _ (.inl (by omega))).2
  have V11 := hl_kept2 V10 hg11 (neg _ (.inl (by omega))).1 (neg _ (.inl (by omega))).2
  have Y11 := hl_kept2 Y10 hg11 (neg _ (.inr (by omega))).1 (neg _ (.inr (by omega))).2
  have HS111 := hide ((HS19.out.past HB10.out).kept2 hg11 (fun k e => by have := (S1lt.out k e).2; exact ⟨(neg k (.inl (by omega))).1.symm, (neg k (.inl (by omega))).2.symm⟩))
  have HS211 := hide ((HS29.out.past HB10.out).kept2 hg11 (fun k e => by have := (S2lt.out k e).2; exact ⟨(neg k (.inl (by omega))).1.symm, (neg k (.inl (by omega))).2.symm⟩))
  have HT11 := hide (Grown2.below HT10.out HT10.out.size hg11 (fun k e => by have := HG1b.out k e; omega) (fun k e => by have := HG2b.out k e; omega))
  have HM1 := hide ho1
  have HM2 := hide ho2
  clear hg11 hk11 neg K10 V10 Y10 ho1 ho2 HG19 HG29
  go_wp2_with fail
  refine (c_heldHll 1 (by omega) (by omega) lPP lNN HM1.out HM2.out).mono ?_
  rintro e w12 ⟨rfl, hb12⟩
  rw [HK11.out]
  have HB12 := hide hb12
  have HT12 := hide (chain HT11.out hb12)
  have K12 := hl_past K11 hb12
  have V12 := hl_past V11 hb12
  have Y12 := hl_past Y11 hb12
  clear hb12 K11 V11 Y11
  go_wp2_with fail
  refine (c_toHll EP.out EN.out lp ln (nums_past HP.out HT12.out) (nums_past HN.out HT12.out)).mono ?_
  rintro e w13 ⟨gp5, gn5, rfl, _, _, _, oP, oN, hb13⟩
  have HB13 := hide (chain HB12.out hb13)
  have HT13 := hide (chain HT12.out hb13)
  have V13 := hl_past V12 hb13
  have Y13 := hl_past Y12 hb13
  have BP13 := hide (nums_owned oP EP.out)
  have BN13 := hide (nums_owned oN EN.out)
  clear hb13 oP oN K12 V12 Y12
  go_wp2_with fail
  refine (c_i_HllPut xx EP.out EN.out lp ln (.inr ⟨_, _, rfl⟩) (.inr ⟨_, _, rfl⟩) BP13.out BN13.out KP.out HX.out).mono ?_
  rintro e w14 ⟨v14, E14, R14, rfl, hM14, hq14, hb14⟩
  obtain ⟨ea14, eb14⟩ := FI.out _ _ hM14
  subst ea14
  subst eb14
  obtain ⟨ha, hc, hb, hd, rfl, hs1, hs2⟩ := hq14.open EPM.out ENM.out
  have HB14 := hide (chain HB13.out hb14)
  have HT14 := hide (chain HT13.out hb14)
  have V14 := hl_past V13 hb14
  have Y14 := hl_past Y13 hb14
  have VA14 : ∀ o, HlCell (w14.alloc o) w3.heap.size (.slice sa pm sc) (.slice sb nm sd) := fun o => hl_past V14 (HAl.out _ o)
  have HH1 := hide hs1
  have HH2 := hide hs2
  clear hb14 hq14 hM14 V13 Y13 hs1 hs2
  go_wp2_with fail
  refine (c_eqHll EPM.out ENM.out lPP lNN (nums_past HH1.out.at (HAl.out _ _)) (nums_past HH2.out.at (HAl.out _ _)) (nums_past HS111.out.at (chain HB14.out (HAl.out _ _))) (nums_past HS211.out.at (chain HB14.out (HAl.out _ _)))).mono ?_
  rintro e w15 ⟨rfl, hb15⟩
  have HX15 := hide (chain (HAl.out _ _) hb15)
  have HB15 := hide (chain HB14.out HX15.out)
  have HT15 := hide (chain HT14.out HX15.out)
  have Y15 := hl_past Y14 HX15.out
  clear hb15 V14 Y14 VA14
  go_wp2_with fail
  refine (c_heldHll 1 (by omega) (by omega) lPP lNN (HM1.out.past HB15.out) (HM2.out.past HB15.out)).mono ?_
  rintro e w16 ⟨rfl, hb16⟩
  rw [HK11.out]
  have HT16 := hide (chain HT15.out hb16)
  clear hb16
  go_wp2
  go_ret
  exact ⟨rfl, HT16.out⟩
theorem own : ownKnob Try.prog.godebug = none := by kernel_rfl
theorem laidOut : laidOutB Try.prog = true := by kernel_rfl

set_option maxRecDepth 100000 in
theorem liftedHllPut (os : Os) (started : os.Started) (H : Type) (enc : TypeId × Value → H) :
    ReturnsInHanded {} Try.checked os 3 .any (Rows.fnExactHllPutSpec.pre6 enc Try.prog Try.f3 Rows.fnExactHllPutRow.domain false) (Rows.fnExactHllPutSpec.post enc Try.prog Try.f3 false true false false) := by
  refine returnsInHanded_of_change (C := Try.checked) own started (by kernel_rfl) Try.func3
    (ChangeSpec.witness6 (enc := enc) (C := Try.checked) false ⟨#[], #[.agg #[.slice none 0 0, .slice none 0 0], .int .u64 0], []⟩ 8 (by kernel_rfl) (by kernel_rfl) (by kernel_rfl) (by kernel_rfl)) ?_
  intro W base args ds gs before hval0 hW hcnd _
  have hval : ∀ (j : Nat) t v, Try.f3.params[j]? = some t → args[j]? = some v → Value.okWide Try.prog W .any base t v := hval0
  have hW' := hW
  obtain ⟨p, q, hA0, hV, rfl, hfz, hnd⟩ := hW
  have hA : DataW.TrodAll enc Try.prog W 0 (fun _ => true) true Try.f3.params.toList args.toList ds p := hA0
  rw [Try.params3] at hA hval
  obtain ⟨v0, vs0, d0, ds0, p0, q0, hargs, rfl, rfl, h0, r0⟩ := trodAll_cons hA
  obtain ⟨v1, vs1, d1, ds1, p1, q1, rfl, rfl, rfl, h1, r1⟩ := trodAll_cons r0
  obtain ⟨rfl, rfl, rfl⟩ := trodAll_nil r1
  obtain rfl : args = #[v0, v1] := by cases args; simp_all
  obtain ⟨rfl, rfl⟩ := trodVars_none hV
  have k0 := h0
  have lt0 : ∀ x ∈ p0, x.block < W.heap.size := by obtain ⟨m, hm⟩ := k0; exact DataW.trod_lt m _ _ _ hm
  obtain ⟨a0, b0, c0, f0, P0, N0, rfl, mP0, mN0, kP0, kN0, hP0, hN0⟩ := open_hll (hval 0 25 v0 rfl rfl) h0
  have k1 := h1
  have lt1 : ∀ x ∈ p1, x.block < W.heap.size := by obtain ⟨m, hm⟩ := k1; exact DataW.trod_lt m _ _ _ hm
  obtain ⟨a1, rfl, rfl, rfl, w1⟩ := open_int Try.underlying26 (hval 1 26 v1 rfl rfl) h1
  clear hA0 hval0
  refine (walkHllPut a0 b0 c0 f0 P0 N0 a1 W mP0 mN0 kP0 kN0 hP0 hN0 (bounds_u64 w1)).mono fun e W' ⟨he, bel⟩ => ?_
  subst he
  exact ⟨_, rfl, _, _, _, [], _, [], hW', trodAll_mk1 (shut_bool Try.underlying4 _), (trodAll_cons_mk (Below.trod laidOut (by kernel_rfl) (of_decide_eq_true (by kernel_rfl)) k0 bel lt0) (trodAll_cons_mk (Below.trod laidOut (by kernel_rfl) (of_decide_eq_true (by kernel_rfl)) k1 bel lt1) trodAll_mk0)), rfl, bel.frame _, fun h => by cases h⟩

theorem overHllPut : Rows.fnExactHllPutRow.holds Try.pinned (OpenSpec.ofChange Rows.fnExactHllPutSpec) :=
  OpenClaim.holds_of_wide 3 Try.f3 rfl rfl rfl rfl rfl rfl rfl ⟨rfl, rfl, rfl, rfl, rfl⟩ rfl rfl rfl rfl rfl (by kernel_rfl) Try.func3 (by kernel_rfl)
    (of_decide_eq_true (by kernel_rfl)) (by unfold Func.isWrapper; first | (rw [if_pos (by decide +kernel)]; kernel_rfl) | (rw [if_neg (by decide +kernel)]; exact ⟨rfl, rfl⟩))
    (fun os started H enc _ => liftedHllPut os started H enc)

theorem fnExactHllPut_holds : Rows.FnExactHllPutSaid := overHllPut
#print axioms fnExactHllPut_holds

end Go.Proofs.Ytnjbaghicionoaa
