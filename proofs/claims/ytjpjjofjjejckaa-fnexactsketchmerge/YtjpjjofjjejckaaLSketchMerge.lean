/-
  The law FnExactSketchMerge: at every two sketches the program brings them together as the model does, every field; it writes into no argument; its answer owns its memory. No condition.
-/
import Derived.Test.YtjpjjofjjejckaaSkM
import Derived.Test.YtjpjjofjjejckaaMarkK
import Derived.Test.YtjpjjofjjejckaaKeepT
import Derived.Test.YtjpjjofjjejckaaOpenK
import Derived.Lib.SmallJoins
import Derived.Carry
import Derived.Deep.RegionHeld3
import Derived.Deep.DeepCutAuto
import Derived.ShutString
import Derived.ChangeOld
namespace Go.Proofs.Ytjpjjofjjejckaa
set_option linter.unusedVariables false
set_option linter.unusedSimpArgs false
open Go.ChangeMaps (open_string shut_string)
open Go.ChangeShapes Go.WideShapes Go.ChangeAt Go.RowKit Go.Joins
set_option maxRecDepth 10000

theorem keepL_len (L : List Bn) : (keepL L).length ≤ 30 := by
  unfold keepL
  split
  · assumption
  · have hd : (L.drop (L.length - 30)).length = 30 := by rw [List.length_drop]; omega
    split
    · rename_i h; rw [h] at hd; simp at hd
    · rename_i h; rw [h] at hd; simp at hd ⊢; omega
theorem SkOut.open {w : World} {B pm nm : Nat} {v : Value} {Z H L : Int} {P N : List Bn} (h : SkOut w B v Z P N H L) (hp : P.length = pm) (hn : N.length = nm) :
    ∃ ao c bo d, v = .agg #[.int .u64 Z, .slice ao pm c, .slice bo nm d, .int .i64 H, .int .u64 L] ∧ OwnB w B (.slice ao pm c) pm P ∧ OwnB w B (.slice bo nm d) nm N ∧ Apart (.slice ao pm c) (.slice bo nm d) := by
  obtain ⟨p, n, a, b, rfl, h1, h2, h3⟩ := h
  obtain rfl : a = pm := h1.1.trans hp
  obtain rfl : b = nm := h2.1.trans hn
  obtain ⟨ao, c, rfl⟩ := h1.any
  obtain ⟨bo, d, rfl⟩ := h2.any
  exact ⟨ao, c, bo, d, rfl, h1, h2, h3⟩
/-- What both bring together is one. -/
theorem mrg_fix (z h l z' h' l' : Int) (P N P' N' : List Bn) : ∃ Z PP NN H L, PP.length ≤ 1048576 ∧ NN.length ≤ 1048576 ∧
    (∀ (w' : World) (B : Nat) (v : Value), ((mrgOk P N P' N' ∧ SkOut w' B v (wAdd z z') (keepL (mrg P P')) (keepL (mrg N N')) (addH h l h' l') (addL l l')) ∨ (¬ mrgOk P N P' N' ∧ SkOut w' B v 0 [] [] 0 0)) → SkOut w' B v Z PP NN H L) ∧
    (∀ (w' : World) (B : Nat) (v : Value), ((mrgOk P N P' N' ∧ SkOut w' B v (wAdd z z') (gatL P P') (gatL N N') (addH h l h' l') (addL l l')) ∨ (¬ mrgOk P N P' N' ∧ SkOut w' B v 0 [] [] 0 0)) → SkOut w' B v Z PP NN H L) := by
  by_cases hok : mrgOk P N P' N'
  · refine ⟨_, keepL (mrg P P'), keepL (mrg N N'), _, _, Nat.le_trans (keepL_len _) (by omega), Nat.le_trans (keepL_len _) (by omega), fun w' B v h => h.elim (fun h => h.2) (fun h => absurd hok h.1), fun w' B v h => h.elim (fun h => ?_) (fun h => absurd hok h.1)⟩
    rw [gat_mrg (sk_rise hok.1).1.1 (sk_rise hok.2).1.1, gat_mrg (sk_rise hok.1).2.1 (sk_rise hok.2).2.1] at h
    exact h.2
  · exact ⟨0, [], [], 0, 0, by simp, by simp, fun w' B v h => h.elim (fun h => absurd h.1 hok) (fun h => h.2), fun w' B v h => h.elim (fun h => absurd h.1 hok) (fun h => h.2)⟩
theorem sk_kept2 {w w' : World} {g : Nat} {z h l : Int} {p n : Value} {r s : Option Nat} (k : SkCell w g z p n h l) (hg : Grown2 w w' r s) (h1 : r ≠ some g) (h2 : s ≠ some g) : SkCell w' g z p n h l := by
  have hb : ∀ j, w'.cell? ⟨g, j, none⟩ = w.cell? ⟨g, j, none⟩ := fun j => World.cell?_of_block (w := w) (hg.block g (World.block_lt_of_cell? _ _ k.1) (fun e => h1 e.symm) (fun e => h2 e.symm))
  exact ⟨by rw [hb]; exact k.1, by rw [hb]; exact k.2.1, by rw [hb]; exact k.2.2.1, by rw [hb]; exact k.2.2.2.1, by rw [hb]; exact k.2.2.2.2⟩

theorem bel5 {B r : Nat} {w0 w : World} {v0 v1 v2 v3 v4 : Value} (hr : B ≤ r) (h : Below B w0 w) : Below B w0 (((((w.setCell ⟨r, 0, none⟩ v0).setCell ⟨r, 1, none⟩ v1).setCell ⟨r, 2, none⟩ v2).setCell ⟨r, 3, none⟩ v3).setCell ⟨r, 4, none⟩ v4) := by
  repeat (refine Below.setCell ?_ hr _)
  exact h

set_option maxHeartbeats 4000000 in
theorem walkSketchMerge (z h l : Int) (pa na : Option Addr) (pc nc : Nat) (P N : List Bn) (z' h' l' : Int) (pb nb : Option Addr) (pd nd : Nat) (P' N' : List Bn) (w : World) (hz : U64 z) (hh : I64 h) (hl : U64 l) (lP : P.length ≤ maxLen) (lN : N.length ≤ maxLen) (kP : ∀ x ∈ P, BnOk x) (kN : ∀ x ∈ N, BnOk x) (hP : BinsAt w pa P) (hN : BinsAt w na N)
    (hz' : U64 z') (hh' : I64 h') (hl' : U64 l') (lP' : P'.length ≤ maxLen) (lN' : N'.length ≤ maxLen) (kP' : ∀ x ∈ P', BnOk x) (kN' : ∀ x ∈ N', BnOk x) (hP' : BinsAt w pb P') (hN' : BinsAt w nb N') :
    Calls Try.prog 3 #[.agg #[.int .u64 z, .slice pa P.length pc, .slice na N.length nc, .int .i64 h, .int .u64 l], .agg #[.int .u64 z', .slice pb P'.length pd, .slice nb N'.length nd, .int .i64 h', .int .u64 l']] w fun e w' => e = .returned (.bool true) ∧ Below w.heap.size w w' := by
  obtain ⟨pn, ep⟩ : ∃ n, P.length = n := ⟨_, rfl⟩
  obtain ⟨nn, en⟩ : ∃ n, N.length = n := ⟨_, rfl⟩
  obtain ⟨pm, ep'⟩ : ∃ n, P'.length = n := ⟨_, rfl⟩
  obtain ⟨nm, en'⟩ : ∃ n, N'.length = n := ⟨_, rfl⟩
  rw [ep] at lP; rw [en] at lN; rw [ep'] at lP'; rw [en'] at lN'
  rw [ep, en, ep', en']
  have HP := hide hP
  have HN := hide hN
  have HP' := hide hP'
  have HN' := hide hN'
  have KP := hide kP
  have KN := hide kN
  have KP' := hide kP'
  have KN' := hide kN'
  have EP := hide ep
  have EN := hide en
  have EP' := hide ep'
  have EN' := hide en'
  clear hP hN kP kN ep en hh hP' hN' kP' kN' ep' en' hh'
  go_enter Try.func3, Try.ntmps3
  go_wp2_with fail
  generalize hW0 : (w.alloc (Obj.cells #[.int .u64 z, .slice pa pn pc, .slice na nn nc, .int .i64 h, .int .u64 l] 27)).alloc (Obj.cells #[.int .u64 z', .slice pb pm pd, .slice nb nm nd, .int .i64 h', .int .u64 l'] 27) = W0
  have T0 : Below w.heap.size w W0 := by rw [← hW0]; exact ((Below.refl _ _).alloc (Nat.le_refl _) _).alloc (by simp) _
  have K0 : SkCell W0 w.heap.size z (.slice pa pn pc) (.slice na nn nc) h l := by rw [← hW0]; exact sk_past (sk_new w _ _ _ _ _ _) ((Below.refl _ _).alloc (Nat.le_refl _) _)
  have J0 : SkCell W0 (w.heap.size + 1) z' (.slice pb pm pd) (.slice nb nm nd) h' l' := by
    rw [← hW0]
    have := sk_new (w.alloc (Obj.cells #[.int .u64 z, .slice pa pn pc, .slice na nn nc, .int .i64 h, .int .u64 l] 27)) 27 z' h' l' (.slice pb pm pd) (.slice nb nm nd)
    simpa using this
  have hsz0 : W0.heap.size = w.heap.size + 2 := by rw [← hW0]; simp
  clear hW0
  have HT0 := hide T0
  clear T0
  refine (c_szSketch _ _ _ _ _ _ _ _ _ _ (by omega) (by omega) lP lN _).mono ?_
  rintro e w1 ⟨v, rfl, hv, hsm, hb1⟩
  have HT1 := hide (chain HT0.out hb1)
  have K1 := sk_past K0 hb1
  have J1 := sk_past J0 hb1
  clear hb1 K0 J0
  by_cases hv0 : v < 0
  · clear hsm
    go_wp2
    go_ret
    exact ⟨rfl, HT1.out⟩
  obtain ⟨v0, lp, ln⟩ := hsm hv0
  clear hsm
  go_wp2_with fail
  refine (c_szSketch _ _ _ _ _ _ _ _ _ _ (by omega) (by omega) lP' lN' _).mono ?_
  rintro e w2 ⟨v', rfl, hv', hsm, hb2⟩
  have HT2 := hide (chain HT1.out hb2)
  have K2 := sk_past K1 hb2
  have J2 := sk_past J1 hb2
  clear hb2 K1 J1
  by_cases hv0' : v' < 0
  · clear hsm
    go_wp2
    go_ret
    exact ⟨rfl, HT2.out⟩
  obtain ⟨v0', lp', ln'⟩ := hsm hv0'
  clear hsm
  have HAl : Hid (∀ (W : World) o, Below W.heap.size W (W.alloc o)) := fun W o => (Below.refl _ _).alloc (Nat.le_refl _) _
  obtain ⟨Z, PP, NN, H, L, lPP, lNN, fS, fI⟩ := mrg_fix z h l z' h' l' P N P' N'
  have FS := hide fS
  have FI := hide fI
  obtain ⟨pm2, epm⟩ : ∃ n, PP.length = n := ⟨_, rfl⟩
  obtain ⟨nm2, enm⟩ : ∃ n, NN.length = n := ⟨_, rfl⟩
  rw [epm] at lPP; rw [enm] at lNN
  have EPM := hide epm
  have ENM := hide enm
  have hK2 : ∀ W, Below w2.heap.size w2 W → SkCell W w.heap.size z (.slice pa pn pc) (.slice na nn nc) h l ∧ SkCell W (w.heap.size + 1) z' (.slice pb pm pd) (.slice nb nm nd) h' l' := fun W hW => ⟨sk_past K2 hW, sk_past J2 hW⟩
  have HK2 := hide hK2
  clear fS fI epm enm hK2 K2 J2
  go_wp2_with fail
  rename_i Q1 _ _ K1 A1
  have REST : ∀ (X : World) (b gp3 gn3 gp4 gn4 : Nat) (sa sb : Option Addr) (sc sd : Nat), Below w2.heap.size w2 X → SkCell X b Z (.slice sa pm2 sc) (.slice sb nm2 sd) H L → OwnB X 0 (.slice sa pm2 sc) pm2 PP → OwnB X 0 (.slice sb nm2 sd) nm2 NN → Exit.then K1 Q1 .normal ⟨#[.agg #[.int .u64 z, .slice pa pn pc, .slice na nn nc, .int .i64 h, .int .u64 l], .agg #[.int .u64 z', .slice pb pm pd, .slice nb nm nd, .int .i64 h', .int .u64 l'], .pointer (some ⟨w.heap.size, 0, none⟩), .pointer (some ⟨w.heap.size + 1, 0, none⟩), .bool false, .int .i64 v', .pointer (some ⟨b, 0, none⟩), undef, undef, undef, undef, undef, undef, undef, .agg #[.int .u64 z, .slice pa pn pc, .slice na nn nc, .int .i64 h, .int .u64 l], .int .i64 1048576, .int .i64 v, .int .i64 v, .bool (decide (v < 0)), .agg #[.int .u64 z', .slice pb pm pd, .slice nb nm nd, .int .i64 h', .int .u64 l'], .int .i64 v, .int .i64 v', .int .i64 v', .bool (decide (v' < 0)), .agg #[.int .u64 z, .slice pa pn pc, .slice na nn nc, .int .i64 h, .int .u64 l], .agg #[.int .u64 z, .slice (some ⟨gp3, 0, none⟩) pn pn, .slice (some ⟨gn3, 0, none⟩) nn nn, .int .i64 h, .int .u64 l], .agg #[.int .u64 z', .slice pb pm pd, .slice nb nm nd, .int .i64 h', .int .u64 l'], .agg #[.int .u64 z', .slice (some ⟨gp4, 0, none⟩) pm pm, .slice (some ⟨gn4, 0, none⟩) nm nm, .int .i64 h', .int .u64 l'], .agg #[.int .u64 Z, .slice sa pm2 sc, .slice sb nm2 sd, .int .i64 H, .int .u64 L], undef, undef, undef, undef, undef, undef, undef, undef, undef, undef, undef, undef, undef, undef, undef, undef, undef, undef, undef, undef, undef, undef, undef, undef, undef, undef, undef, undef, undef, undef, undef, undef, undef, undef, undef, undef, undef, undef, undef, undef, undef, undef, undef, undef, undef, undef, undef, undef, undef, undef, undef, undef, undef, undef, undef, undef, undef, undef, undef, undef, undef, undef, undef], []⟩ X := by
    intro X b jp3 jn3 jp4 jn4 ta tb tc td hX hV o1 o2
    have HTX := hide (chain HT2.out hX)
    have zX := hX.size
    have zw2 := HT2.out.size
    obtain ⟨K3, J3⟩ := HK2.out X hX
    have zb := World.block_lt_of_cell? _ _ hV.1
    have S1lt := hide (fun k e => (o1.lt k e).2)
    have S2lt := hide (fun k e => (o2.lt k e).2)
    have HS1 := hide o1
    have HS2 := hide o2
    have HV3 := hide hV
    have zJ := World.block_lt_of_cell? _ _ J3.1
    clear hX hV o1 o2 HK2
    go_wp2_with fail
    refine (c_toSketch EP.out EN.out lp ln (bins_past HP.out HTX.out) (bins_past HN.out HTX.out)).mono ?_
    rintro e w4 ⟨gp, gn, rfl, q4, q5, q6, oP, oN, hb4⟩
    have HB4 := hide hb4
    have HT4 := hide (chain HTX.out hb4)
    have K4 := sk_past K3 hb4
    have J4 := sk_past J3 hb4
    have HV4 := hide (sk_past HV3.out hb4)
    have z34 := hb4.size
    have BP4 := hide (bins_owned oP EP.out.symm rfl)
    have BN4 := hide (bins_owned oN EN.out.symm rfl)
    have OP4 := hide (OwnB.of oP EP.out.symm)
    have ON4 := hide (OwnB.of oN EN.out.symm)
    have KA4 : ∀ o, SkCell (w4.alloc o) w.heap.size z (.slice pa pn pc) (.slice na nn nc) h l := fun o => sk_past K4 (HAl.out _ o)
    have JA4 : ∀ o, SkCell (w4.alloc o) (w.heap.size + 1) z' (.slice pb pm pd) (.slice nb nm nd) h' l' := fun o => sk_past J4 (HAl.out _ o)
    clear hb4 oP oN K3 J3 HV3
    go_wp2_with fail
    refine (c_toSketch EP'.out EN'.out lp' ln' (bins_past HP'.out (chain HT4.out (HAl.out _ _))) (bins_past HN'.out (chain HT4.out (HAl.out _ _)))).mono ?_
    rintro e w5 ⟨gp', gn', rfl, r4, r5, r6, oP, oN, hb5⟩
    simp only [World.size_alloc] at r4
    have HB5 := hide (chain (HAl.out _ _) hb5)
    have HT5 := hide (chain HT4.out HB5.out)
    have K5 := sk_past K4 HB5.out
    have J5 := sk_past J4 HB5.out
    have HV5 := hide (sk_past HV4.out HB5.out)
    have X5 := sk_past (sk_new w4 _ _ _ _ _ _) hb5
    have z45 := hb5.size
    simp only [World.size_alloc] at z45
    have BP5 := hide (bins_owned oP EP'.out.symm rfl)
    have BN5 := hide (bins_owned oN EN'.out.symm rfl)
    have OP5 := hide (OwnB.of oP EP'.out.symm)
    have ON5 := hide (OwnB.of oN EN'.out.symm)
    have XA5 : ∀ o, SkCell (w5.alloc o) w4.heap.size z (.slice (some ⟨gp, 0, none⟩) pn pn) (.slice (some ⟨gn, 0, none⟩) nn nn) h l := fun o => sk_past X5 (HAl.out _ o)
    clear hb5 oP oN K4 J4 KA4 JA4 HV4
    go_wp2_with fail
    refine (c_i_SketchMerge hz hl hz' hl' EP.out EN.out EP'.out EN'.out lp ln lp' ln' (bins_past BP4.out (chain HB5.out (HAl.out _ _))) (bins_past BN4.out (chain HB5.out (HAl.out _ _))) (bins_past BP5.out (HAl.out _ _)) (bins_past BN5.out (HAl.out _ _)) KP.out KN.out KP'.out KN'.out).mono ?_
    rintro e w6 ⟨v6, rfl, hb6, hq6⟩
    obtain ⟨ga, gc, gb, gd, rfl, hs1, hs2, hap⟩ := (FI.out _ _ _ hq6).open EPM.out ENM.out
    have HB6 := hide (chain (HAl.out _ _) hb6)
    have HT6 := hide (chain HT5.out HB6.out)
    have K6 := sk_past K5 HB6.out
    have J6 := sk_past J5 HB6.out
    have V6 := sk_past HV5.out HB6.out
    have X6 := sk_past X5 HB6.out
    have Y6 := sk_past (sk_new w5 _ _ _ _ _ _) hb6
    have z56 := hb6.size
    simp only [World.size_alloc] at z56
    have G1lt := hide hs1.lt
    have G2lt := hide hs2.lt
    have HG1 := hide hs1
    have HG2 := hide hs2
    have HAp := hide hap
    clear hb6 hq6 K5 J5 X5 XA5 HV5 hs1 hs2 hap
    have VA6 : ∀ o, SkCell (w6.alloc o) b Z (.slice ta pm2 tc) (.slice tb nm2 td) H L := fun o => sk_past V6 (HAl.out _ o)
    go_wp2_with fail
    refine (c_eqSketch EPM.out ENM.out lPP lNN (bins_past HG1.out.at (HAl.out _ _)) (bins_past HG2.out.at (HAl.out _ _)) (bins_past HS1.out.at (chain (chain (chain HB4.out HB5.out) HB6.out) (HAl.out _ _))) (bins_past HS2.out.at (chain (chain (chain HB4.out HB5.out) HB6.out) (HAl.out _ _)))).mono ?_
    rintro e w7 ⟨rfl, hb7⟩
    have HB7 := hide (chain (HAl.out _ _) hb7)
    have HT7 := hide (chain HT6.out HB7.out)
    have K7 := sk_past K6 HB7.out
    have J7 := sk_past J6 HB7.out
    have X7 := sk_past X6 HB7.out
    have Y7 := sk_past Y6 HB7.out
    have HV7 := hide (sk_past V6 HB7.out)
    have HZ7 := hide (sk_past (sk_new w6 _ _ _ _ _ _) hb7)
    have z67 := hb7.size
    simp only [World.size_alloc] at z67
    have hK7 : ∀ W, Below w7.heap.size w7 W → SkCell W w.heap.size z (.slice pa pn pc) (.slice na nn nc) h l ∧ SkCell W (w.heap.size + 1) z' (.slice pb pm pd) (.slice nb nm nd) h' l' ∧ SkCell W w4.heap.size z (.slice (some ⟨gp, 0, none⟩) pn pn) (.slice (some ⟨gn, 0, none⟩) nn nn) h l ∧ SkCell W w5.heap.size z' (.slice (some ⟨gp', 0, none⟩) pm pm) (.slice (some ⟨gn', 0, none⟩) nm nm) h' l' := fun W hW => ⟨sk_past K7 hW, sk_past J7 hW, sk_past X7 hW, sk_past Y7 hW⟩
    have HK7 := hide hK7
    have HC7 := hide (chain HB6.out HB7.out)
    have HC57 := hide (chain HB5.out HC7.out)
    clear hb7 K6 J6 V6 X6 Y6 VA6 hK7 K7 J7 X7 Y7
    go_wp2_with fail
    go_region_held3 (fun W => Kept w7.heap.size w7 W ∧ SkCell W w.heap.size z (.slice pa pn pc) (.slice na nn nc) h l ∧ SkCell W (w.heap.size + 1) z' (.slice pb pm pd) (.slice nb nm nd) h' l' ∧ SkCell W w4.heap.size z (.slice (some ⟨gp, 0, none⟩) pn pn) (.slice (some ⟨gn, 0, none⟩) nn nn) h l ∧ SkCell W w5.heap.size z' (.slice (some ⟨gp', 0, none⟩) pm pm) (.slice (some ⟨gn', 0, none⟩) nm nm) h' l')
      (first | exact hS3 | exact ⟨held (Below.refl _ _).drew (by simp), HK7.out _ (Below.refl _ _).drew⟩)
      (first
        | (go_at_call 9; have hS := (‹Kept _ _ _ ∧ _›).1; refine (c_toSketch EP.out EN.out lp ln (bins_past HP.out (chain HT7.out hS.1)) (bins_past HN.out (chain HT7.out hS.1))).mono ?_; rintro e w8 ⟨gp8, gn8, rfl, _, _, _, oP, oN, hb9⟩; have hS1 := (held_call hb9 hS).1; have hS3 : Kept w7.heap.size w7 w8 ∧ _ := ⟨held hS1 (Nat.le_refl _), HK7.out _ hS1⟩; have BP9 := hide (bins_owned oP EP.out.symm rfl); have BN9 := hide (bins_owned oN EN.out.symm rfl); clear hb9 oP oN hS1)
        | (go_at_call 11; have hS := (‹Kept _ _ _ ∧ _›).1; refine (c_eqSketch EP.out EN.out lp ln (bins_past BP4.out (chain HC57.out hS.1)) (bins_past BN4.out (chain HC57.out hS.1)) BP9.out BN9.out).mono ?_; rintro e w8 ⟨rfl, hb10⟩; have hS1 := (held_call hb10 hS).1; have hS3 : Kept w7.heap.size w7 w8 ∧ _ := ⟨held hS1 (Nat.le_refl _), HK7.out _ hS1⟩; clear hb10 hS1))
    have HB8 := hide hS3.1.1
    have HK8 : Hid (∀ W, Below w8.heap.size w8 W → _) := fun W hW => HK7.out W (chain HB8.out hW)
    have HT8 := hide (chain HT7.out HB8.out)
    have HC8 := hide (chain HC7.out HB8.out)
    have z78 := HB8.out.size
    clear hS3 BP9 BN9
    go_wp2_with fail
    go_region_held3 (fun W => Kept w8.heap.size w8 W ∧ SkCell W w.heap.size z (.slice pa pn pc) (.slice na nn nc) h l ∧ SkCell W (w.heap.size + 1) z' (.slice pb pm pd) (.slice nb nm nd) h' l' ∧ SkCell W w4.heap.size z (.slice (some ⟨gp, 0, none⟩) pn pn) (.slice (some ⟨gn, 0, none⟩) nn nn) h l ∧ SkCell W w5.heap.size z' (.slice (some ⟨gp', 0, none⟩) pm pm) (.slice (some ⟨gn', 0, none⟩) nm nm) h' l')
      (first | exact hS3 | exact ⟨held (Below.refl _ _).drew (by simp), HK8.out _ (Below.refl _ _).drew⟩)
      (first
        | (go_at_call 9; have hS := (‹Kept _ _ _ ∧ _›).1; refine (c_toSketch EP'.out EN'.out lp' ln' (bins_past HP'.out (chain HT8.out hS.1)) (bins_past HN'.out (chain HT8.out hS.1))).mono ?_; rintro e w9 ⟨gp9, gn9, rfl, _, _, _, oP, oN, hb9⟩; have hS1 := (held_call hb9 hS).1; have hS3 : Kept w8.heap.size w8 w9 ∧ _ := ⟨held hS1 (Nat.le_refl _), HK8.out _ hS1⟩; have BP9 := hide (bins_owned oP EP'.out.symm rfl); have BN9 := hide (bins_owned oN EN'.out.symm rfl); clear hb9 oP oN hS1)
        | (go_at_call 11; have hS := (‹Kept _ _ _ ∧ _›).1; refine (c_eqSketch EP'.out EN'.out lp' ln' (bins_past BP5.out (chain HC8.out hS.1)) (bins_past BN5.out (chain HC8.out hS.1)) BP9.out BN9.out).mono ?_; rintro e w9 ⟨rfl, hb10⟩; have hS1 := (held_call hb10 hS).1; have hS3 : Kept w8.heap.size w8 w9 ∧ _ := ⟨held hS1 (Nat.le_refl _), HK8.out _ hS1⟩; clear hb10 hS1))
    have HB9 := hide hS3.1.1
    obtain ⟨_, K9, J9, X9, Y9⟩ := hS3
    have HB79 := hide (chain HB8.out HB9.out)
    have V9 := sk_past HV7.out HB79.out
    have Z9 := sk_past HZ7.out HB79.out
    have HT9 := hide (chain HT8.out HB9.out)
    have HC9 := hide (chain HC7.out HB79.out)
    have HC59 := hide (chain HC57.out HB79.out)
    have HD9 := hide (chain HB7.out HB79.out)
    have HE9 := hide (chain HB4.out HC59.out)
    have z89 := HB9.out.size
    have HapX : Hid (Apart (.slice (some ⟨gp, 0, none⟩) pn pn) (.slice (some ⟨gn, 0, none⟩) nn nn)) := (fun k e1 e2 => by
      have h1 : gp = k := Option.some.inj e1
      have h2 : gn = k := Option.some.inj e2
      omega : Apart (.slice (some ⟨gp, 0, none⟩) pn pn) (.slice (some ⟨gn, 0, none⟩) nn nn))
    have HapY : Hid (Apart (.slice (some ⟨gp', 0, none⟩) pm pm) (.slice (some ⟨gn', 0, none⟩) nm nm)) := (fun k e1 e2 => by
      have h1 : gp' = k := Option.some.inj e1
      have h2 : gn' = k := Option.some.inj e2
      omega : Apart (.slice (some ⟨gp', 0, none⟩) pm pm) (.slice (some ⟨gn', 0, none⟩) nm nm))
    clear BP9 BN9 HK7 HK8 HV7 HZ7
    go_wp2_with fail
    refine (c_markSketch 1 (by omega) (by omega) lp ln (OP4.out.past HC59.out) (ON4.out.past HC59.out) HapX.out).mono ?_
    rintro e w10 ⟨rfl, _, _, hg10⟩
    obtain ⟨k10, hk10⟩ : ∃ k, 1 + 2 * pn + 2 * nn = k := ⟨_, rfl⟩
    rw [hk10]
    have hk10a : 1 ≤ k10 := by omega
    have hk10b : k10 ≤ 10000000 := by omega
    have ne10 : ∀ k, k < X.heap.size ∨ w4.heap.size ≤ k → (Value.slice (some ⟨gp, 0, none⟩) pn pn).ownBlock ≠ some k ∧ (Value.slice (some ⟨gn, 0, none⟩) nn nn).ownBlock ≠ some k := fun k hk => ⟨fun e => by
      have h1 : gp = k := Option.some.inj e
      omega, fun e => by
      have h1 : gn = k := Option.some.inj e
      omega⟩
    have zwX := HTX.out.size
    have K10 := sk_kept2 K9 hg10 (ne10 _ (.inl (by omega))).1 (ne10 _ (.inl (by omega))).2
    have J10 := sk_kept2 J9 hg10 (ne10 _ (.inl (by omega))).1 (ne10 _ (.inl (by omega))).2
    have V10 := sk_kept2 V9 hg10 (ne10 _ (.inl (by omega))).1 (ne10 _ (.inl (by omega))).2
    have Y10 := sk_kept2 Y9 hg10 (ne10 _ (.inr (by omega))).1 (ne10 _ (.inr (by omega))).2
    have Z10 := sk_kept2 Z9 hg10 (ne10 _ (.inr (by omega))).1 (ne10 _ (.inr (by omega))).2
    have HS110 := hide ((HS1.out.past HE9.out).kept2 hg10 (fun k e => by have := S1lt.out k e; exact ⟨(ne10 k (.inl (by omega))).1.symm, (ne10 k (.inl (by omega))).2.symm⟩))
    have HS210 := hide ((HS2.out.past HE9.out).kept2 hg10 (fun k e => by have := S2lt.out k e; exact ⟨(ne10 k (.inl (by omega))).1.symm, (ne10 k (.inl (by omega))).2.symm⟩))
    have OP10 := hide ((OP5.out.past HC9.out).kept2 hg10 (fun k e => by have h1 : gp' = k := Option.some.inj e; exact ⟨(ne10 k (.inr (by omega))).1.symm, (ne10 k (.inr (by omega))).2.symm⟩))
    have ON10 := hide ((ON5.out.past HC9.out).kept2 hg10 (fun k e => by have h1 : gn' = k := Option.some.inj e; exact ⟨(ne10 k (.inr (by omega))).1.symm, (ne10 k (.inr (by omega))).2.symm⟩))
    have G1b : ∀ k, (Value.slice ga pm2 gc).ownBlock = some k → w5.heap.size + 1 ≤ k ∧ k < w6.heap.size := fun k e => by have := G1lt.out k e; simpa using this
    have G2b : ∀ k, (Value.slice gb nm2 gd).ownBlock = some k → w5.heap.size + 1 ≤ k ∧ k < w6.heap.size := fun k e => by have := G2lt.out k e; simpa using this
    have HG110 := hide ((HG1.out.past HD9.out).kept2 hg10 (fun k e => by have := (G1b k e).1; exact ⟨(ne10 k (.inr (by omega))).1.symm, (ne10 k (.inr (by omega))).2.symm⟩))
    have HG210 := hide ((HG2.out.past HD9.out).kept2 hg10 (fun k e => by have := (G2b k e).1; exact ⟨(ne10 k (.inr (by omega))).1.symm, (ne10 k (.inr (by omega))).2.symm⟩))
    have HT10 := hide (Grown2.below HT9.out HT9.out.size hg10 (fun k e => by have h1 : gp = k := Option.some.inj e; omega) (fun k e => by have h1 : gn = k := Option.some.inj e; omega))
    have z910 := hg10.size
    have HG1b := hide G1b
    have HG2b := hide G2b
    clear hg10 hk10 ne10 G1b G2b K9 J9 V9 X9 Y9 Z9 OP4 ON4 BP4 BN4 BP5 BN5
    go_wp2_with fail
    refine (c_markSketch k10 hk10a hk10b lp' ln' OP10.out ON10.out HapY.out).mono ?_
    rintro e w11 ⟨rfl, _, _, hg11⟩
    obtain ⟨k11, hk11⟩ : ∃ k, k10 + 2 * pm + 2 * nm = k := ⟨_, rfl⟩
    rw [hk11]
    have d11 : decide ((k11 : Int) < 0) = false := decide_eq_false (by omega)
    have ne11 : ∀ k, k < w4.heap.size + 1 ∨ w5.heap.size ≤ k → (Value.slice (some ⟨gp', 0, none⟩) pm pm).ownBlock ≠ some k ∧ (Value.slice (some ⟨gn', 0, none⟩) nm nm).ownBlock ≠ some k := fun k hk => ⟨fun e => by
      have h1 : gp' = k := Option.some.inj e
      omega, fun e => by
      have h1 : gn' = k := Option.some.inj e
      omega⟩
    have K11 := sk_kept2 K10 hg11 (ne11 _ (.inl (by omega))).1 (ne11 _ (.inl (by omega))).2
    have J11 := sk_kept2 J10 hg11 (ne11 _ (.inl (by omega))).1 (ne11 _ (.inl (by omega))).2
    have V11 := sk_kept2 V10 hg11 (ne11 _ (.inl (by omega))).1 (ne11 _ (.inl (by omega))).2
    have Z11 := sk_kept2 Z10 hg11 (ne11 _ (.inr (by omega))).1 (ne11 _ (.inr (by omega))).2
    have HS111 := hide (HS110.out.kept2 hg11 (fun k e => by have := S1lt.out k e; exact ⟨(ne11 k (.inl (by omega))).1.symm, (ne11 k (.inl (by omega))).2.symm⟩))
    have HS211 := hide (HS210.out.kept2 hg11 (fun k e => by have := S2lt.out k e; exact ⟨(ne11 k (.inl (by omega))).1.symm, (ne11 k (.inl (by omega))).2.symm⟩))
    have HG111 := hide (HG110.out.kept2 hg11 (fun k e => by have := (HG1b.out k e).1; exact ⟨(ne11 k (.inr (by omega))).1.symm, (ne11 k (.inr (by omega))).2.symm⟩))
    have HG211 := hide (HG210.out.kept2 hg11 (fun k e => by have := (HG2b.out k e).1; exact ⟨(ne11 k (.inr (by omega))).1.symm, (ne11 k (.inr (by omega))).2.symm⟩))
    have HT11 := hide (Grown2.below HT10.out HT10.out.size hg11 (fun k e => by have h1 : gp' = k := Option.some.inj e; omega) (fun k e => by have h1 : gn' = k := Option.some.inj e; omega))
    have z1011 := hg11.size
    clear hg11 hk11 ne11 K10 J10 V10 Y10 Z10 OP10 ON10 HS110 HS210 HG110 HG210
    go_wp2_with fail
    refine (c_eqSketch EPM.out ENM.out lPP lNN HG111.out.at HG211.out.at HS111.out.at HS211.out.at).mono ?_
    rintro e w12 ⟨rfl, hb12⟩
    have HB12 := hide hb12
    have HT12 := hide (chain HT11.out hb12)
    have K12 := sk_past K11 hb12
    have J12 := sk_past J11 hb12
    have V12 := sk_past V11 hb12
    have Z12 := sk_past Z11 hb12
    have z1112 := hb12.size
    clear hb12 K11 J11 V11 Z11
    go_wp2_with fail
    refine (c_markSketch 1 (by omega) (by omega) lPP lNN (HG111.out.past HB12.out) (HG211.out.past HB12.out) HAp.out).mono ?_
    rintro e w13 ⟨rfl, ho1, ho2, hg13⟩
    obtain ⟨k13, hk13⟩ : ∃ k, 1 + 2 * pm2 + 2 * nm2 = k := ⟨_, rfl⟩
    rw [hk13]
    have HK13 := hide hk13
    have d13 : decide ((k13 : Int) < 0) = false := decide_eq_false (by omega)
    have neg : ∀ k, k < w5.heap.size + 1 ∨ w6.heap.size ≤ k → (Value.slice ga pm2 gc).ownBlock ≠ some k ∧ (Value.slice gb nm2 gd).ownBlock ≠ some k := fun k hk => ⟨fun e => by
      have := HG1b.out k e
      omega, fun e => by
      have := HG2b.out k e
      omega⟩
    have K13 := sk_kept2 K12 hg13 (neg _ (.inl (by omega))).1 (neg _ (.inl (by omega))).2
    have J13 := sk_kept2 J12 hg13 (neg _ (.inl (by omega))).1 (neg _ (.inl (by omega))).2
    have V13 := sk_kept2 V12 hg13 (neg _ (.inl (by omega))).1 (neg _ (.inl (by omega))).2
    have Z13 := sk_kept2 Z12 hg13 (neg _ (.inr (by omega))).1 (neg _ (.inr (by omega))).2
    have HS113 := hide ((HS111.out.past HB12.out).kept2 hg13 (fun k e => by have := S1lt.out k e; exact ⟨(neg k (.inl (by omega))).1.symm, (neg k (.inl (by omega))).2.symm⟩))
    have HS213 := hide ((HS211.out.past HB12.out).kept2 hg13 (fun k e => by have := S2lt.out k e; exact ⟨(neg k (.inl (by omega))).1.symm, (neg k (.inl (by omega))).2.symm⟩))
    have HT13 := hide (Grown2.below HT12.out HT12.out.size hg13 (fun k e => by have := HG1b.out k e; omega) (fun k e => by have := HG2b.out k e; omega))
    have HM1 := hide ho1
    have HM2 := hide ho2
    clear hg13 hk13 neg K12 J12 V12 Z12 ho1 ho2 HG111 HG211
    go_wp2_with fail
    refine (c_heldSketch 1 (by omega) (by omega) lPP lNN HM1.out HM2.out).mono ?_
    rintro e w14 ⟨rfl, hb14⟩
    rw [HK13.out]
    have HB14 := hide hb14
    have HT14 := hide (chain HT13.out hb14)
    have K14 := sk_past K13 hb14
    have J14 := sk_past J13 hb14
    have HV14 := hide (sk_past V13 hb14)
    have HZ14 := hide (sk_past Z13 hb14)
    have hK14 : ∀ W, Below w14.heap.size w14 W → SkCell W w.heap.size z (.slice pa pn pc) (.slice na nn nc) h l ∧ SkCell W (w.heap.size + 1) z' (.slice pb pm pd) (.slice nb nm nd) h' l' := fun W hW => ⟨sk_past K14 hW, sk_past J14 hW⟩
    have HK14 := hide hK14
    clear hb14 K13 J13 V13 Z13 K14 J14 hK14
    go_wp2_with fail
    rename_i K2 A2
    have REST2 : ∀ (X2 : World) (b2 gp3 gn3 gp4 gn4 : Nat) (sa sb : Option Addr) (sc sd : Nat), Below w14.heap.size w14 X2 → SkCell X2 b2 Z (.slice sa pm2 sc) (.slice sb nm2 sd) H L → OwnB X2 0 (.slice sa pm2 sc) pm2 PP → OwnB X2 0 (.slice sb nm2 sd) nm2 NN → Exit.then K2 Q1 .normal ⟨#[.agg #[.int .u64 z, .slice pa pn pc, .slice na nn nc, .int .i64 h, .int .u64 l], .agg #[.int .u64 z', .slice pb pm pd, .slice nb nm nd, .int .i64 h', .int .u64 l'], .pointer (some ⟨w.heap.size, 0, none⟩), .pointer (some ⟨w.heap.size + 1, 0, none⟩), .bool false, .int .i64 v', .pointer (some ⟨b, 0, none⟩), .pointer (some ⟨w4.heap.size, 0, none⟩), .pointer (some ⟨w5.heap.size, 0, none⟩), .pointer (some ⟨w6.heap.size, 0, none⟩), .int .i64 ↑k11, .int .i64 ↑k13, .int .i64 ↑k13, .pointer (some ⟨b2, 0, none⟩), .agg #[.int .u64 z, .slice pa pn pc, .slice na nn nc, .int .i64 h, .int .u64 l], .int .i64 1048576, .int .i64 v, .int .i64 v, .bool (decide (v < 0)), .agg #[.int .u64 z', .slice pb pm pd, .slice nb nm nd, .int .i64 h', .int .u64 l'], .int .i64 v, .int .i64 v', .int .i64 v', .bool (decide (v' < 0)), .agg #[.int .u64 z, .slice pa pn pc, .slice na nn nc, .int .i64 h, .int .u64 l], .agg #[.int .u64 z, .slice (some ⟨jp3, 0, none⟩) pn pn, .slice (some ⟨jn3, 0, none⟩) nn nn, .int .i64 h, .int .u64 l], .agg #[.int .u64 z', .slice pb pm pd, .slice nb nm nd, .int .i64 h', .int .u64 l'], .agg #[.int .u64 z', .slice (some ⟨jp4, 0, none⟩) pm pm, .slice (some ⟨jn4, 0, none⟩) nm nm, .int .i64 h', .int .u64 l'], .agg #[.int .u64 Z, .slice ta pm2 tc, .slice tb nm2 td, .int .i64 H, .int .u64 L], .agg #[.int .u64 z, .slice pa pn pc, .slice na nn nc, .int .i64 h, .int .u64 l], .agg #[.int .u64 z, .slice (some ⟨gp, 0, none⟩) pn pn, .slice (some ⟨gn, 0, none⟩) nn nn, .int .i64 h, .int .u64 l], .agg #[.int .u64 z', .slice pb pm pd, .slice nb nm nd, .int .i64 h', .int .u64 l'], .agg #[.int .u64 z', .slice (some ⟨gp', 0, none⟩) pm pm, .slice (some ⟨gn', 0, none⟩) nm nm, .int .i64 h', .int .u64 l'], .agg #[.int .u64 z, .slice (some ⟨gp, 0, none⟩) pn pn, .slice (some ⟨gn, 0, none⟩) nn nn, .int .i64 h, .int .u64 l], .agg #[.int .u64 z', .slice (some ⟨gp', 0, none⟩) pm pm, .slice (some ⟨gn', 0, none⟩) nm nm, .int .i64 h', .int .u64 l'], .agg #[.int .u64 Z, .slice ga pm2 gc, .slice gb nm2 gd, .int .i64 H, .int .u64 L], .agg #[.int .u64 Z, .slice ga pm2 gc, .slice gb nm2 gd, .int .i64 H, .int .u64 L], .agg #[.int .u64 Z, .slice ta pm2 tc, .slice tb nm2 td, .int .i64 H, .int .u64 L], .bool true, .bool false, .agg #[.int .u64 z, .slice (some ⟨gp, 0, none⟩) pn pn, .slice (some ⟨gn, 0, none⟩) nn nn, .int .i64 h, .int .u64 l], .agg #[.int .u64 z, .slice pa pn pc, .slice na nn nc, .int .i64 h, .int .u64 l], .agg #[.int .u64 z, .slice (some ⟨gp8, 0, none⟩) pn pn, .slice (some ⟨gn8, 0, none⟩) nn nn, .int .i64 h, .int .u64 l], .bool true, .bool false, .agg #[.int .u64 z', .slice (some ⟨gp', 0, none⟩) pm pm, .slice (some ⟨gn', 0, none⟩) nm nm, .int .i64 h', .int .u64 l'], .agg #[.int .u64 z', .slice pb pm pd, .slice nb nm nd, .int .i64 h', .int .u64 l'], .agg #[.int .u64 z', .slice (some ⟨gp9, 0, none⟩) pm pm, .slice (some ⟨gn9, 0, none⟩) nm nm, .int .i64 h', .int .u64 l'], .bool true, .bool false, .agg #[.int .u64 z, .slice (some ⟨gp, 0, none⟩) pn pn, .slice (some ⟨gn, 0, none⟩) nn nn, .int .i64 h, .int .u64 l], .int .i64 1, .int .i64 ↑k10, .agg #[.int .u64 z', .slice (some ⟨gp', 0, none⟩) pm pm, .slice (some ⟨gn', 0, none⟩) nm nm, .int .i64 h', .int .u64 l'], .int .i64 ↑k10, .int .i64 ↑k11, .int .i64 ↑k11, .bool false, .bool false, .agg #[.int .u64 Z, .slice ga pm2 gc, .slice gb nm2 gd, .int .i64 H, .int .u64 L], .agg #[.int .u64 Z, .slice ta pm2 tc, .slice tb nm2 td, .int .i64 H, .int .u64 L], .bool true, .bool false, .bool false, .agg #[.int .u64 Z, .slice ga pm2 gc, .slice gb nm2 gd, .int .i64 H, .int .u64 L], .int .i64 1, .int .i64 ↑k13, .agg #[.int .u64 Z, .slice ga pm2 gc, .slice gb nm2 gd, .int .i64 H, .int .u64 L], .int .i64 1, .int .i64 ↑k13, .int .i64 ↑k13, .bool false, .int .i64 ↑k13, .int .i64 ↑k13, .bool false, .agg #[.int .u64 z, .slice pa pn pc, .slice na nn nc, .int .i64 h, .int .u64 l], .agg #[.int .u64 z, .slice (some ⟨gp3, 0, none⟩) pn pn, .slice (some ⟨gn3, 0, none⟩) nn nn, .int .i64 h, .int .u64 l], .agg #[.int .u64 z', .slice pb pm pd, .slice nb nm nd, .int .i64 h', .int .u64 l'], .agg #[.int .u64 z', .slice (some ⟨gp4, 0, none⟩) pm pm, .slice (some ⟨gn4, 0, none⟩) nm nm, .int .i64 h', .int .u64 l'], .agg #[.int .u64 Z, .slice sa pm2 sc, .slice sb nm2 sd, .int .i64 H, .int .u64 L], undef, undef, undef, undef, undef, undef, undef, undef, undef, undef, undef, undef], []⟩ X2 := by
      intro X2 b2 gp3 gn3 gp4 gn4 sa sb sc sd hX hV o1 o2
      have HO1 := hide o1
      have HO2 := hide o2
      have HB15 := hide (chain HB14.out hX)
      have HT15 := hide (chain HT14.out hX)
      have V15 := sk_past HV14.out hX
      have Z15 := sk_past HZ14.out hX
      clear o1 o2 hX HK14
      go_wp2_with fail
      refine (c_eqSketch EPM.out ENM.out lPP lNN HO1.out.at HO2.out.at (bins_past HS113.out.at HB15.out) (bins_past HS213.out.at HB15.out)).mono ?_
      rintro e w16 ⟨rfl, hb16⟩
      have HB16 := hide (chain HB15.out hb16)
      have HT16 := hide (chain HT15.out hb16)
      have Z16 := sk_past Z15 hb16
      clear hb16 V15 Z15 hV
      go_wp2_with fail
      refine (c_heldSketch 1 (by omega) (by omega) lPP lNN (HM1.out.past HB16.out) (HM2.out.past HB16.out)).mono ?_
      rintro e w17 ⟨rfl, hb17⟩
      rw [HK13.out]
      have HT17 := hide (chain HT16.out hb17)
      clear hb17
      go_wp2
      go_ret
      exact ⟨rfl, HT17.out⟩
    have HS0 : (fun W => Below w14.heap.size w14 W) w14.drew := (Below.refl _ _).drew
    refine regionK (fun W => Below w14.heap.size w14 W) 6 (by kernel_rfl) ?_
    refine takeK (i := 0) (d := 75) (v := .agg #[.int .u64 z, .slice pa pn pc, .slice na nn nc, .int .i64 h, .int .u64 l]) rfl rfl (by kernel_rfl) (by kernel_rfl) (by kernel_rfl) (by decide) (by kernel_rfl) (fun _ _ _ h => h) (Or.inl ⟨by rfl, fun W hW => ?_⟩) HS0 ?_
    · obtain ⟨⟨x0, x1, x2, x3, x4⟩, ⟨y0, y1, y2, y3, y4⟩⟩ := HK14.out W hW
      go_simp
    simp only [List.setIfInBounds_toArray, List.set_cons_zero, List.set_cons_succ]
    refine takeK (i := 2) (d := 77) (v := .agg #[.int .u64 z', .slice pb pm pd, .slice nb nm nd, .int .i64 h', .int .u64 l']) rfl rfl (by kernel_rfl) (by kernel_rfl) (by kernel_rfl) (by decide) (by kernel_rfl) (fun _ _ _ h => h) (Or.inl ⟨by rfl, fun W hW => ?_⟩) HS0 ?_
    · obtain ⟨⟨x0, x1, x2, x3, x4⟩, ⟨y0, y1, y2, y3, y4⟩⟩ := HK14.out W hW
      go_simp
    simp only [List.setIfInBounds_toArray, List.set_cons_zero, List.set_cons_succ]
    refine twoK (i := 1) (j := 5) (by kernel_rfl) rfl rfl (fun K hK => ?_) (fun K hK => ?_)
    · go_simp
      refine (c_toSketch EP.out EN.out lp ln (bins_past HP.out (chain HT14.out HS0)) (bins_past HN.out (chain HT14.out HS0))).mono ?_
      rintro e W3 ⟨gp3, gn3, rfl, _, _, _, oP, oN, hb⟩
      dsimp only
      have HBW3 := hide ((HS0 : Below w14.heap.size w14 _).trans (hb.mono (HS0 : Below w14.heap.size w14 _).size))
      have BP3 := hide (bins_owned oP EP.out.symm rfl)
      have BN3 := hide (bins_owned oN EN.out.symm rfl)
      clear hb oP oN
      refine hK.out _ _ (fun _ => HBW3.out) ?_
      clear hK K
      try simp only [Act.put, List.setIfInBounds_toArray, List.set_cons_zero, List.set_cons_succ]
      refine twoK (i := 3) (j := 5) (by kernel_rfl) rfl rfl (fun K hK => ?_) (fun K hK => ?_)
      · go_simp
        refine (c_toSketch EP'.out EN'.out lp' ln' (bins_past HP'.out (chain HT14.out HBW3.out)) (bins_past HN'.out (chain HT14.out HBW3.out))).mono ?_
        rintro e W4 ⟨gp4, gn4, rfl, _, _, _, oP, oN, hb⟩
        dsimp only
        have HBW4 := hide ((HBW3.out : Below w14.heap.size w14 _).trans (hb.mono (HBW3.out : Below w14.heap.size w14 _).size))
        have BP34 := hide (bins_past BP3.out hb)
        have BN34 := hide (bins_past BN3.out hb)
        have BP4 := hide (bins_owned oP EP'.out.symm rfl)
        have BN4 := hide (bins_owned oN EN'.out.symm rfl)
        clear hb oP oN
        refine hK.out _ _ (fun _ => HBW4.out) ?_
        clear hK K
        try simp only [Act.put, List.setIfInBounds_toArray, List.set_cons_zero, List.set_cons_succ]
        refine twoK (i := 4) (j := 5) (by kernel_rfl) rfl rfl (fun K hK => ?_) (fun K hK => ?_)
        · go_simp
          refine (c_i_SketchMerge hz hl hz' hl' EP.out EN.out EP'.out EN'.out lp ln lp' ln' BP34.out BN34.out BP4.out BN4.out KP.out KN.out KP'.out KN'.out).mono ?_
          rintro e W5 ⟨v5, rfl, hb, hq5⟩
          dsimp only
          obtain ⟨sa, sc, sb, sd, rfl, hs1, hs2, _⟩ := (FI.out _ _ _ hq5).open EPM.out ENM.out
          have HBW5 := hide ((HBW4.out : Below w14.heap.size w14 _).trans (hb.mono (HBW4.out : Below w14.heap.size w14 _).size))
          have HO1 := hide (hs1.le (Nat.zero_le _))
          have HO2 := hide (hs2.le (Nat.zero_le _))
          clear hb hq5 hs1 hs2
          refine hK.out _ _ (fun _ => HBW5.out) ?_
          clear hK K
          try simp only [Act.put, List.setIfInBounds_toArray, List.set_cons_zero, List.set_cons_succ]
          refine oneK (i := 5) (by kernel_rfl) rfl (fun K hK => ?_)
          go_simp
          have HBa := hide (Below.alloc (HBW5.out : Below w14.heap.size w14 W5) (HBW5.out : Below w14.heap.size w14 W5).size (.cells zeroSk 32))
          have HRa : Hid ((W5.alloc (.cells zeroSk 32)).heap[W5.heap.size]? = some (.cells zeroSk 32 (0, 0))) := (heap_alloc_new W5 (.cells zeroSk 32) : _)
          have HRx1 := hide (HO1.out.past ((Below.refl _ W5).alloc (Nat.le_refl _) (.cells zeroSk 32)))
          have HRx2 := hide (HO2.out.past ((Below.refl _ W5).alloc (Nat.le_refl _) (.cells zeroSk 32)))
          have HBb : Hid (w14.heap.size ≤ W5.heap.size) := ((HBW5.out : Below w14.heap.size w14 W5).size : _)
          refine hK.out _ _ (fun _ => HBa.out) ?_
          clear hK K
          try simp only [Act.put, List.setIfInBounds_toArray, List.set_cons_zero, List.set_cons_succ]
          have R5 : (W5.alloc (.cells zeroSk 32)).heap[W5.heap.size]? = some (.cells zeroSk 32 (0, 0)) := HRa.out
          obtain ⟨q0, q1, q2, q3, q4⟩ := cell5 R5
          have f0 := frozen_of_row (W5.alloc (.cells zeroSk 32)) (W5.heap.size) 0 _ _ R5
          have f1 := frozen_of_row (W5.alloc (.cells zeroSk 32)) (W5.heap.size) 1 _ _ R5
          have f2 := frozen_of_row (W5.alloc (.cells zeroSk 32)) (W5.heap.size) 2 _ _ R5
          have f3 := frozen_of_row (W5.alloc (.cells zeroSk 32)) (W5.heap.size) 3 _ _ R5
          have f4 := frozen_of_row (W5.alloc (.cells zeroSk 32)) (W5.heap.size) 4 _ _ R5
          refine oneK (i := 6) (by kernel_rfl) rfl (fun K hK => ?_)
          go_simp
          refine hK.out _ _ (fun h => absurd rfl h) ?_
          clear hK K
          try simp only [Act.put, List.setIfInBounds_toArray, List.set_cons_zero, List.set_cons_succ]
          refine doneK (by kernel_rfl) ?_ _
          exact REST2 _ _ gp3 gn3 gp4 gn4 sa sb sc sd (Below.alloc HBW5.out HBW5.out.size _) (sk_new W5 _ _ _ _ _ _) (HO1.out.past (HAl.out _ _)) (HO2.out.past (HAl.out _ _))
        · go_simp
          have HBa := hide (Below.alloc (HBW4.out : Below w14.heap.size w14 W4) (HBW4.out : Below w14.heap.size w14 W4).size (.cells zeroSk 32))
          have HRa : Hid ((W4.alloc (.cells zeroSk 32)).heap[W4.heap.size]? = some (.cells zeroSk 32 (0, 0))) := (heap_alloc_new W4 (.cells zeroSk 32) : _)
          have BP34a := hide (bins_past BP34.out ((Below.refl _ W4).alloc (Nat.le_refl _) (.cells zeroSk 32)))
          have BN34a := hide (bins_past BN34.out ((Below.refl _ W4).alloc (Nat.le_refl _) (.cells zeroSk 32)))
          have BP4a := hide (bins_past BP4.out ((Below.refl _ W4).alloc (Nat.le_refl _) (.cells zeroSk 32)))
          have BN4a := hide (bins_past BN4.out ((Below.refl _ W4).alloc (Nat.le_refl _) (.cells zeroSk 32)))
          have HBb : Hid (w14.heap.size ≤ W4.heap.size) := ((HBW4.out : Below w14.heap.size w14 W4).size : _)
          refine hK.out _ _ (fun _ => HBa.out) ?_
          clear hK K
          try simp only [Act.put, List.setIfInBounds_toArray, List.set_cons_zero, List.set_cons_succ]
          refine oneK (i := 4) (by kernel_rfl) rfl (fun K hK => ?_)
          go_simp
          refine (c_i_SketchMerge hz hl hz' hl' EP.out EN.out EP'.out EN'.out lp ln lp' ln' BP34a.out BN34a.out BP4a.out BN4a.out KP.out KN.out KP'.out KN'.out).mono ?_
          rintro e W5 ⟨v5, rfl, hb, hq5⟩
          dsimp only
          obtain ⟨sa, sc, sb, sd, rfl, hs1, hs2, _⟩ := (FI.out _ _ _ hq5).open EPM.out ENM.out
          have HBW5 := hide ((HBa.out : Below w14.heap.size w14 _).trans (hb.mono (HBa.out : Below w14.heap.size w14 _).size))
          have HRW5 : Hid (W5.heap[W4.heap.size]? = some (.cells zeroSk 32 (0, 0))) := by
            refine (?_ : W5.heap[W4.heap.size]? = some (.cells zeroSk 32 (0, 0)))
            rw [hb.block _ (Array.getElem?_eq_some_iff.1 HRa.out).1]; exact HRa.out
          have HO1 := hide (hs1.le (Nat.zero_le _))
          have HO2 := hide (hs2.le (Nat.zero_le _))
          clear hb hq5 hs1 hs2
          refine hK.out _ _ (fun _ => HBW5.out) ?_
          clear hK K
          try simp only [Act.put, List.setIfInBounds_toArray, List.set_cons_zero, List.set_cons_succ]
          have R5 : W5.heap[W4.heap.size]? = some (.cells zeroSk 32 (0, 0)) := HRW5.out
          obtain ⟨q0, q1, q2, q3, q4⟩ := cell5 R5
          have f0 := frozen_of_row W5 (W4.heap.size) 0 _ _ R5
          have f1 := frozen_of_row W5 (W4.heap.size) 1 _ _ R5
          have f2 := frozen_of_row W5 (W4.heap.size) 2 _ _ R5
          have f3 := frozen_of_row W5 (W4.heap.size) 3 _ _ R5
          have f4 := frozen_of_row W5 (W4.heap.size) 4 _ _ R5
          refine oneK (i := 6) (by kernel_rfl) rfl (fun K hK => ?_)
          go_simp
          refine hK.out _ _ (fun h => absurd rfl h) ?_
          clear hK K
          try simp only [Act.put, List.setIfInBounds_toArray, List.set_cons_zero, List.set_cons_succ]
          refine doneK (by kernel_rfl) ?_ _
          have n1 := HO1.out.ne R5 (by decide)
          have n2 := HO2.out.ne R5 (by decide)
          exact REST2 _ _ gp3 gn3 gp4 gn4 sa sb sc sd (bel5 HBb.out HBW5.out) (cell5 (row5 R5)) (((((HO1.out.set n1 _).set n1 _).set n1 _).set n1 _).set n1 _) (((((HO2.out.set n2 _).set n2 _).set n2 _).set n2 _).set n2 _)
      · go_simp
        have HBa := hide (Below.alloc (HBW3.out : Below w14.heap.size w14 W3) (HBW3.out : Below w14.heap.size w14 W3).size (.cells zeroSk 32))
        have HRa : Hid ((W3.alloc (.cells zeroSk 32)).heap[W3.heap.size]? = some (.cells zeroSk 32 (0, 0))) := (heap_alloc_new W3 (.cells zeroSk 32) : _)
        have BP3a := hide (bins_past BP3.out ((Below.refl _ W3).alloc (Nat.le_refl _) (.cells zeroSk 32)))
        have BN3a := hide (bins_past BN3.out ((Below.refl _ W3).alloc (Nat.le_refl _) (.cells zeroSk 32)))
        have HBb : Hid (w14.heap.size ≤ W3.heap.size) := ((HBW3.out : Below w14.heap.size w14 W3).size : _)
        refine hK.out _ _ (fun _ => HBa.out) ?_
        clear hK K
        try simp only [Act.put, List.setIfInBounds_toArray, List.set_cons_zero, List.set_cons_succ]
        refine oneK (i := 3) (by kernel_rfl) rfl (fun K hK => ?_)
        go_simp
        refine (c_toSketch EP'.out EN'.out lp' ln' (bins_past HP'.out (chain HT14.out HBa.out)) (bins_past HN'.out (chain HT14.out HBa.out))).mono ?_
        rintro e W4 ⟨gp4, gn4, rfl, _, _, _, oP, oN, hb⟩
        dsimp only
        have HBW4 := hide ((HBa.out : Below w14.heap.size w14 _).trans (hb.mono (HBa.out : Below w14.heap.size w14 _).size))
        have HRW4 : Hid (W4.heap[W3.heap.size]? = some (.cells zeroSk 32 (0, 0))) := by
          refine (?_ : W4.heap[W3.heap.size]? = some (.cells zeroSk 32 (0, 0)))
          rw [hb.block _ (Array.getElem?_eq_some_iff.1 HRa.out).1]; exact HRa.out
        have BP34 := hide (bins_past BP3a.out hb)
        have BN34 := hide (bins_past BN3a.out hb)
        have BP4 := hide (bins_owned oP EP'.out.symm rfl)
        have BN4 := hide (bins_owned oN EN'.out.symm rfl)
        clear hb oP oN
        refine hK.out _ _ (fun _ => HBW4.out) ?_
        clear hK K
        try simp only [Act.put, List.setIfInBounds_toArray, List.set_cons_zero, List.set_cons_succ]
        refine oneK (i := 4) (by kernel_rfl) rfl (fun K hK => ?_)
        go_simp
        refine (c_i_SketchMerge hz hl hz' hl' EP.out EN.out EP'.out EN'.out lp ln lp' ln' BP34.out BN34.out BP4.out BN4.out KP.out KN.out KP'.out KN'.out).mono ?_
        rintro e W5 ⟨v5, rfl, hb, hq5⟩
        dsimp only
        obtain ⟨sa, sc, sb, sd, rfl, hs1, hs2, _⟩ := (FI.out _ _ _ hq5).open EPM.out ENM.out
        have HBW5 := hide ((HBW4.out : Below w14.heap.size w14 _).trans (hb.mono (HBW4.out : Below w14.heap.size w14 _).size))
        have HRW5 : Hid (W5.heap[W3.heap.size]? = some (.cells zeroSk 32 (0, 0))) := by
          refine (?_ : W5.heap[W3.heap.size]? = some (.cells zeroSk 32 (0, 0)))
          rw [hb.block _ (Array.getElem?_eq_some_iff.1 HRW4.out).1]; exact HRW4.out
        have HO1 := hide (hs1.le (Nat.zero_le _))
        have HO2 := hide (hs2.le (Nat.zero_le _))
        clear hb hq5 hs1 hs2
        refine hK.out _ _ (fun _ => HBW5.out) ?_
        clear hK K
        try simp only [Act.put, List.setIfInBounds_toArray, List.set_cons_zero, List.set_cons_succ]
        have R5 : W5.heap[W3.heap.size]? = some (.cells zeroSk 32 (0, 0)) := HRW5.out
        obtain ⟨q0, q1, q2, q3, q4⟩ := cell5 R5
        have f0 := frozen_of_row W5 (W3.heap.size) 0 _ _ R5
        have f1 := frozen_of_row W5 (W3.heap.size) 1 _ _ R5
        have f2 := frozen_of_row W5 (W3.heap.size) 2 _ _ R5
        have f3 := frozen_of_row W5 (W3.heap.size) 3 _ _ R5
        have f4 := frozen_of_row W5 (W3.heap.size) 4 _ _ R5
        refine oneK (i := 6) (by kernel_rfl) rfl (fun K hK => ?_)
        go_simp
        refine hK.out _ _ (fun h => absurd rfl h) ?_
        clear hK K
        try simp only [Act.put, List.setIfInBounds_toArray, List.set_cons_zero, List.set_cons_succ]
        refine doneK (by kernel_rfl) ?_ _
        have n1 := HO1.out.ne R5 (by decide)
        have n2 := HO2.out.ne R5 (by decide)
        exact REST2 _ _ gp3 gn3 gp4 gn4 sa sb sc sd (bel5 HBb.out HBW5.out) (cell5 (row5 R5)) (((((HO1.out.set n1 _).set n1 _).set n1 _).set n1 _).set n1 _) (((((HO2.out.set n2 _).set n2 _).set n2 _).set n2 _).set n2 _)
    · go_simp
      have HBa := hide (Below.alloc (HS0 : Below w14.heap.size w14 w14.drew) (HS0 : Below w14.heap.size w14 w14.drew).size (.cells zeroSk 32))
      have HRa : Hid ((w14.drew.alloc (.cells zeroSk 32)).heap[w14.heap.size]? = some (.cells zeroSk 32 (0, 0))) := (heap_alloc_new w14.drew (.cells zeroSk 32) : _)
      have HBb : Hid (w14.heap.size ≤ w14.heap.size) := ((HS0 : Below w14.heap.size w14 w14.drew).size : _)
      refine hK.out _ _ (fun _ => HBa.out) ?_
      clear hK K
      try simp only [Act.put, List.setIfInBounds_toArray, List.set_cons_zero, List.set_cons_succ]
      refine oneK (i := 1) (by kernel_rfl) rfl (fun K hK => ?_)
      go_simp
      refine (c_toSketch EP.out EN.out lp ln (bins_past HP.out (chain HT14.out HBa.out)) (bins_past HN.out (chain HT14.out HBa.out))).mono ?_
      rintro e W3 ⟨gp3, gn3, rfl, _, _, _, oP, oN, hb⟩
      dsimp only
      have HBW3 := hide ((HBa.out : Below w14.heap.size w14 _).trans (hb.mono (HBa.out : Below w14.heap.size w14 _).size))
      have HRW3 : Hid (W3.heap[w14.heap.size]? = some (.cells zeroSk 32 (0, 0))) := by
        refine (?_ : W3.heap[w14.heap.size]? = some (.cells zeroSk 32 (0, 0)))
        rw [hb.block _ (Array.getElem?_eq_some_iff.1 HRa.out).1]; exact HRa.out
      have BP3 := hide (bins_owned oP EP.out.symm rfl)
      have BN3 := hide (bins_owned oN EN.out.symm rfl)
      clear hb oP oN
      refine hK.out _ _ (fun _ => HBW3.out) ?_
      clear hK K
      try simp only [Act.put, List.setIfInBounds_toArray, List.set_cons_zero, List.set_cons_succ]
      refine oneK (i := 3) (by kernel_rfl) rfl (fun K hK => ?_)
      go_simp
      refine (c_toSketch EP'.out EN'.out lp' ln' (bins_past HP'.out (chain HT14.out HBW3.out)) (bins_past HN'.out (chain HT14.out HBW3.out))).mono ?_
      rintro e W4 ⟨gp4, gn4, rfl, _, _, _, oP, oN, hb⟩
      dsimp only
      have HBW4 := hide ((HBW3.out : Below w14.heap.size w14 _).trans (hb.mono (HBW3.out : Below w14.heap.size w14 _).size))
      have HRW4 : Hid (W4.heap[w14.heap.size]? = some (.cells zeroSk 32 (0, 0))) := by
        refine (?_ : W4.heap[w14.heap.size]? = some (.cells zeroSk 32 (0, 0)))
        rw [hb.block _ (Array.getElem?_eq_some_iff.1 HRW3.out).1]; exact HRW3.out
      have BP34 := hide (bins_past BP3.out hb)
      have BN34 := hide (bins_past BN3.out hb)
      have BP4 := hide (bins_owned oP EP'.out.symm rfl)
      have BN4 := hide (bins_owned oN EN'.out.symm rfl)
      clear hb oP oN
      refine hK.out _ _ (fun _ => HBW4.out) ?_
      clear hK K
      try simp only [Act.put, List.setIfInBounds_toArray, List.set_cons_zero, List.set_cons_succ]
      refine oneK (i := 4) (by kernel_rfl) rfl (fun K hK => ?_)
      go_simp
      refine (c_i_SketchMerge hz hl hz' hl' EP.out EN.out EP'.out EN'.out lp ln lp' ln' BP34.out BN34.out BP4.out BN4.out KP.out KN.out KP'.out KN'.out).mono ?_
      rintro e W5 ⟨v5, rfl, hb, hq5⟩
      dsimp only
      obtain ⟨sa, sc, sb, sd, rfl, hs1, hs2, _⟩ := (FI.out _ _ _ hq5).open EPM.out ENM.out
      have HBW5 := hide ((HBW4.out : Below w14.heap.size w14 _).trans (hb.mono (HBW4.out : Below w14.heap.size w14 _).size))
      have HRW5 : Hid (W5.heap[w14.heap.size]? = some (.cells zeroSk 32 (0, 0))) := by
        refine (?_ : W5.heap[w14.heap.size]? = some (.cells zeroSk 32 (0, 0)))
        rw [hb.block _ (Array.getElem?_eq_some_iff.1 HRW4.out).1]; exact HRW4.out
      have HO1 := hide (hs1.le (Nat.zero_le _))
      have HO2 := hide (hs2.le (Nat.zero_le _))
      clear hb hq5 hs1 hs2
      refine hK.out _ _ (fun _ => HBW5.out) ?_
      clear hK K
      try simp only [Act.put, List.setIfInBounds_toArray, List.set_cons_zero, List.set_cons_succ]
      have R5 : W5.heap[w14.heap.size]? = some (.cells zeroSk 32 (0, 0)) := HRW5.out
      obtain ⟨q0, q1, q2, q3, q4⟩ := cell5 R5
      have f0 := frozen_of_row W5 (w14.heap.size) 0 _ _ R5
      have f1 := frozen_of_row W5 (w14.heap.size) 1 _ _ R5
      have f2 := frozen_of_row W5 (w14.heap.size) 2 _ _ R5
      have f3 := frozen_of_row W5 (w14.heap.size) 3 _ _ R5
      have f4 := frozen_of_row W5 (w14.heap.size) 4 _ _ R5
      refine oneK (i := 6) (by kernel_rfl) rfl (fun K hK => ?_)
      go_simp
      refine hK.out _ _ (fun h => absurd rfl h) ?_
      clear hK K
      try simp only [Act.put, List.setIfInBounds_toArray, List.set_cons_zero, List.set_cons_succ]
      refine doneK (by kernel_rfl) ?_ _
      have n1 := HO1.out.ne R5 (by decide)
      have n2 := HO2.out.ne R5 (by decide)
      exact REST2 _ _ gp3 gn3 gp4 gn4 sa sb sc sd (bel5 HBb.out HBW5.out) (cell5 (row5 R5)) (((((HO1.out.set n1 _).set n1 _).set n1 _).set n1 _).set n1 _) (((((HO2.out.set n2 _).set n2 _).set n2 _).set n2 _).set n2 _)
  have HS0 : (fun W => Below w2.heap.size w2 W) w2.drew := (Below.refl _ _).drew
  refine regionK (fun W => Below w2.heap.size w2 W) 6 (by kernel_rfl) ?_
  refine takeK (i := 0) (d := 24) (v := .agg #[.int .u64 z, .slice pa pn pc, .slice na nn nc, .int .i64 h, .int .u64 l]) rfl rfl (by kernel_rfl) (by kernel_rfl) (by kernel_rfl) (by decide) (by kernel_rfl) (fun _ _ _ h => h) (Or.inl ⟨by rfl, fun W hW => ?_⟩) HS0 ?_
  · obtain ⟨⟨x0, x1, x2, x3, x4⟩, ⟨y0, y1, y2, y3, y4⟩⟩ := HK2.out W hW
    go_simp
  simp only [List.setIfInBounds_toArray, List.set_cons_zero, List.set_cons_succ]
  refine takeK (i := 2) (d := 26) (v := .agg #[.int .u64 z', .slice pb pm pd, .slice nb nm nd, .int .i64 h', .int .u64 l']) rfl rfl (by kernel_rfl) (by kernel_rfl) (by kernel_rfl) (by decide) (by kernel_rfl) (fun _ _ _ h => h) (Or.inl ⟨by rfl, fun W hW => ?_⟩) HS0 ?_
  · obtain ⟨⟨x0, x1, x2, x3, x4⟩, ⟨y0, y1, y2, y3, y4⟩⟩ := HK2.out W hW
    go_simp
  simp only [List.setIfInBounds_toArray, List.set_cons_zero, List.set_cons_succ]
  refine twoK (i := 1) (j := 5) (by kernel_rfl) rfl rfl (fun K hK => ?_) (fun K hK => ?_)
  · go_simp
    refine (c_toSketch EP.out EN.out lp ln (bins_past HP.out (chain HT2.out HS0)) (bins_past HN.out (chain HT2.out HS0))).mono ?_
    rintro e W3 ⟨gp3, gn3, rfl, _, _, _, oP, oN, hb⟩
    dsimp only
    have HBW3 := hide ((HS0 : Below w2.heap.size w2 _).trans (hb.mono (HS0 : Below w2.heap.size w2 _).size))
    have BP3 := hide (bins_owned oP EP.out.symm rfl)
    have BN3 := hide (bins_owned oN EN.out.symm rfl)
    clear hb oP oN
    refine hK.out _ _ (fun _ => HBW3.out) ?_
    clear hK K
    try simp only [Act.put, List.setIfInBounds_toArray, List.set_cons_zero, List.set_cons_succ]
    refine twoK (i := 3) (j := 5) (by kernel_rfl) rfl rfl (fun K hK => ?_) (fun K hK => ?_)
    · go_simp
      refine (c_toSketch EP'.out EN'.out lp' ln' (bins_past HP'.out (chain HT2.out HBW3.out)) (bins_past HN'.out (chain HT2.out HBW3.out))).mono ?_
      rintro e W4 ⟨gp4, gn4, rfl, _, _, _, oP, oN, hb⟩
      dsimp only
      have HBW4 := hide ((HBW3.out : Below w2.heap.size w2 _).trans (hb.mono (HBW3.out : Below w2.heap.size w2 _).size))
      have BP34 := hide (bins_past BP3.out hb)
      have BN34 := hide (bins_past BN3.out hb)
      have BP4 := hide (bins_owned oP EP'.out.symm rfl)
      have BN4 := hide (bins_owned oN EN'.out.symm rfl)
      clear hb oP oN
      refine hK.out _ _ (fun _ => HBW4.out) ?_
      clear hK K
      try simp only [Act.put, List.setIfInBounds_toArray, List.set_cons_zero, List.set_cons_succ]
      refine twoK (i := 4) (j := 5) (by kernel_rfl) rfl rfl (fun K hK => ?_) (fun K hK => ?_)
      · go_simp
        refine (c_s_SketchMerge hz hl hz' hl' EP.out EN.out EP'.out EN'.out lp ln lp' ln' BP34.out BN34.out BP4.out BN4.out KP.out KN.out KP'.out KN'.out).mono ?_
        rintro e W5 ⟨v5, rfl, hb, hq5⟩
        dsimp only
        obtain ⟨sa, sc, sb, sd, rfl, hs1, hs2, _⟩ := (FS.out _ _ _ hq5).open EPM.out ENM.out
        have HBW5 := hide ((HBW4.out : Below w2.heap.size w2 _).trans (hb.mono (HBW4.out : Below w2.heap.size w2 _).size))
        have HO1 := hide (hs1.le (Nat.zero_le _))
        have HO2 := hide (hs2.le (Nat.zero_le _))
        clear hb hq5 hs1 hs2
        refine hK.out _ _ (fun _ => HBW5.out) ?_
        clear hK K
        try simp only [Act.put, List.setIfInBounds_toArray, List.set_cons_zero, List.set_cons_succ]
        refine oneK (i := 5) (by kernel_rfl) rfl (fun K hK => ?_)
        go_simp
        have HBa := hide (Below.alloc (HBW5.out : Below w2.heap.size w2 W5) (HBW5.out : Below w2.heap.size w2 W5).size (.cells zeroSk 32))
        have HRa : Hid ((W5.alloc (.cells zeroSk 32)).heap[W5.heap.size]? = some (.cells zeroSk 32 (0, 0))) := (heap_alloc_new W5 (.cells zeroSk 32) : _)
        have HRx1 := hide (HO1.out.past ((Below.refl _ W5).alloc (Nat.le_refl _) (.cells zeroSk 32)))
        have HRx2 := hide (HO2.out.past ((Below.refl _ W5).alloc (Nat.le_refl _) (.cells zeroSk 32)))
        have HBb : Hid (w2.heap.size ≤ W5.heap.size) := ((HBW5.out : Below w2.heap.size w2 W5).size : _)
        refine hK.out _ _ (fun _ => HBa.out) ?_
        clear hK K
        try simp only [Act.put, List.setIfInBounds_toArray, List.set_cons_zero, List.set_cons_succ]
        have R5 : (W5.alloc (.cells zeroSk 32)).heap[W5.heap.size]? = some (.cells zeroSk 32 (0, 0)) := HRa.out
        obtain ⟨q0, q1, q2, q3, q4⟩ := cell5 R5
        have f0 := frozen_of_row (W5.alloc (.cells zeroSk 32)) (W5.heap.size) 0 _ _ R5
        have f1 := frozen_of_row (W5.alloc (.cells zeroSk 32)) (W5.heap.size) 1 _ _ R5
        have f2 := frozen_of_row (W5.alloc (.cells zeroSk 32)) (W5.heap.size) 2 _ _ R5
        have f3 := frozen_of_row (W5.alloc (.cells zeroSk 32)) (W5.heap.size) 3 _ _ R5
        have f4 := frozen_of_row (W5.alloc (.cells zeroSk 32)) (W5.heap.size) 4 _ _ R5
        refine oneK (i := 6) (by kernel_rfl) rfl (fun K hK => ?_)
        go_simp
        refine hK.out _ _ (fun h => absurd rfl h) ?_
        clear hK K
        try simp only [Act.put, List.setIfInBounds_toArray, List.set_cons_zero, List.set_cons_succ]
        refine doneK (by kernel_rfl) ?_ _
        exact REST _ _ gp3 gn3 gp4 gn4 sa sb sc sd (Below.alloc HBW5.out HBW5.out.size _) (sk_new W5 _ _ _ _ _ _) (HO1.out.past (HAl.out _ _)) (HO2.out.past (HAl.out _ _))
      · go_simp
        have HBa := hide (Below.alloc (HBW4.out : Below w2.heap.size w2 W4) (HBW4.out : Below w2.heap.size w2 W4).size (.cells zeroSk 32))
        have HRa : Hid ((W4.alloc (.cells zeroSk 32)).heap[W4.heap.size]? = some (.cells zeroSk 32 (0, 0))) := (heap_alloc_new W4 (.cells zeroSk 32) : _)
        have BP34a := hide (bins_past BP34.out ((Below.refl _ W4).alloc (Nat.le_refl _) (.cells zeroSk 32)))
        have BN34a := hide (bins_past BN34.out ((Below.refl _ W4).alloc (Nat.le_refl _) (.cells zeroSk 32)))
        have BP4a := hide (bins_past BP4.out ((Below.refl _ W4).alloc (Nat.le_refl _) (.cells zeroSk 32)))
        have BN4a := hide (bins_past BN4.out ((Below.refl _ W4).alloc (Nat.le_refl _) (.cells zeroSk 32)))
        have HBb : Hid (w2.heap.size ≤ W4.heap.size) := ((HBW4.out : Below w2.heap.size w2 W4).size : _)
        refine hK.out _ _ (fun _ => HBa.out) ?_
        clear hK K
        try simp only [Act.put, List.setIfInBounds_toArray, List.set_cons_zero, List.set_cons_succ]
        refine oneK (i := 4) (by kernel_rfl) rfl (fun K hK => ?_)
        go_simp
        refine (c_s_SketchMerge hz hl hz' hl' EP.out EN.out EP'.out EN'.out lp ln lp' ln' BP34a.out BN34a.out BP4a.out BN4a.out KP.out KN.out KP'.out KN'.out).mono ?_
        rintro e W5 ⟨v5, rfl, hb, hq5⟩
        dsimp only
        obtain ⟨sa, sc, sb, sd, rfl, hs1, hs2, _⟩ := (FS.out _ _ _ hq5).open EPM.out ENM.out
        have HBW5 := hide ((HBa.out : Below w2.heap.size w2 _).trans (hb.mono (HBa.out : Below w2.heap.size w2 _).size))
        have HRW5 : Hid (W5.heap[W4.heap.size]? = some (.cells zeroSk 32 (0, 0))) := by
          refine (?_ : W5.heap[W4.heap.size]? = some (.cells zeroSk 32 (0, 0)))
          rw [hb.block _ (Array.getElem?_eq_some_iff.1 HRa.out).1]; exact HRa.out
        have HO1 := hide (hs1.le (Nat.zero_le _))
        have HO2 := hide (hs2.le (Nat.zero_le _))
        clear hb hq5 hs1 hs2
        refine hK.out _ _ (fun _ => HBW5.out) ?_
        clear hK K
        try simp only [Act.put, List.setIfInBounds_toArray, List.set_cons_zero, List.set_cons_succ]
        have R5 : W5.heap[W4.heap.size]? = some (.cells zeroSk 32 (0, 0)) := HRW5.out
        obtain ⟨q0, q1, q2, q3, q4⟩ := cell5 R5
        have f0 := frozen_of_row W5 (W4.heap.size) 0 _ _ R5
        have f1 := frozen_of_row W5 (W4.heap.size) 1 _ _ R5
        have f2 := frozen_of_row W5 (W4.heap.size) 2 _ _ R5
        have f3 := frozen_of_row W5 (W4.heap.size) 3 _ _ R5
        have f4 := frozen_of_row W5 (W4.heap.size) 4 _ _ R5
        refine oneK (i := 6) (by kernel_rfl) rfl (fun K hK => ?_)
        go_simp
        refine hK.out _ _ (fun h => absurd rfl h) ?_
        clear hK K
        try simp only [Act.put, List.setIfInBounds_toArray, List.set_cons_zero, List.set_cons_succ]
        refine doneK (by kernel_rfl) ?_ _
        have n1 := HO1.out.ne R5 (by decide)
        have n2 := HO2.out.ne R5 (by decide)
        exact REST _ _ gp3 gn3 gp4 gn4 sa sb sc sd (bel5 HBb.out HBW5.out) (cell5 (row5 R5)) (((((HO1.out.set n1 _).set n1 _).set n1 _).set n1 _).set n1 _) (((((HO2.out.set n2 _).set n2 _).set n2 _).set n2 _).set n2 _)
    · go_simp
      have HBa := hide (Below.alloc (HBW3.out : Below w2.heap.size w2 W3) (HBW3.out : Below w2.heap.size w2 W3).size (.cells zeroSk 32))
      have HRa : Hid ((W3.alloc (.cells zeroSk 32)).heap[W3.heap.size]? = some (.cells zeroSk 32 (0, 0))) := (heap_alloc_new W3 (.cells zeroSk 32) : _)
      have BP3a := hide (bins_past BP3.out ((Below.refl _ W3).alloc (Nat.le_refl _) (.cells zeroSk 32)))
      have BN3a := hide (bins_past BN3.out ((Below.refl _ W3).alloc (Nat.le_refl _) (.cells zeroSk 32)))
      have HBb : Hid (w2.heap.size ≤ W3.heap.size) := ((HBW3.out : Below w2.heap.size w2 W3).size : _)
      refine hK.out _ _ (fun _ => HBa.out) ?_
      clear hK K
      try simp only [Act.put, List.setIfInBounds_toArray, List.set_cons_zero, List.set_cons_succ]
      refine oneK (i := 3) (by kernel_rfl) rfl (fun K hK => ?_)
      go_simp
      refine (c_toSketch EP'.out EN'.out lp' ln' (bins_past HP'.out (chain HT2.out HBa.out)) (bins_past HN'.out (chain HT2.out HBa.out))).mono ?_
      rintro e W4 ⟨gp4, gn4, rfl, _, _, _, oP, oN, hb⟩
      dsimp only
      have HBW4 := hide ((HBa.out : Below w2.heap.size w2 _).trans (hb.mono (HBa.out : Below w2.heap.size w2 _).size))
      have HRW4 : Hid (W4.heap[W3.heap.size]? = some (.cells zeroSk 32 (0, 0))) := by
        refine (?_ : W4.heap[W3.heap.size]? = some (.cells zeroSk 32 (0, 0)))
        rw [hb.block _ (Array.getElem?_eq_some_iff.1 HRa.out).1]; exact HRa.out
      have BP34 := hide (bins_past BP3a.out hb)
      have BN34 := hide (bins_past BN3a.out hb)
      have BP4 := hide (bins_owned oP EP'.out.symm rfl)
      have BN4 := hide (bins_owned oN EN'.out.symm rfl)
      clear hb oP oN
      refine hK.out _ _ (fun _ => HBW4.out) ?_
      clear hK K
      try simp only [Act.put, List.setIfInBounds_toArray, List.set_cons_zero, List.set_cons_succ]
      refine oneK (i := 4) (by kernel_rfl) rfl (fun K hK => ?_)
      go_simp
      refine (c_s_SketchMerge hz hl hz' hl' EP.out EN.out EP'.out EN'.out lp ln lp' ln' BP34.out BN34.out BP4.out BN4.out KP.out KN.out KP'.out KN'.out).mono ?_
      rintro e W5 ⟨v5, rfl, hb, hq5⟩
      dsimp only
      obtain ⟨sa, sc, sb, sd, rfl, hs1, hs2, _⟩ := (FS.out _ _ _ hq5).open EPM.out ENM.out
      have HBW5 := hide ((HBW4.out : Below w2.heap.size w2 _).trans (hb.mono (HBW4.out : Below w2.heap.size w2 _).size))
      have HRW5 : Hid (W5.heap[W3.heap.size]? = some (.cells zeroSk 32 (0, 0))) := by
        refine (?_ : W5.heap[W3.heap.size]? = some (.cells zeroSk 32 (0, 0)))
        rw [hb.block _ (Array.getElem?_eq_some_iff.1 HRW4.out).1]; exact HRW4.out
      have HO1 := hide (hs1.le (Nat.zero_le _))
      have HO2 := hide (hs2.le (Nat.zero_le _))
      clear hb hq5 hs1 hs2
      refine hK.out _ _ (fun _ => HBW5.out) ?_
      clear hK K
      try simp only [Act.put, List.setIfInBounds_toArray, List.set_cons_zero, List.set_cons_succ]
      have R5 : W5.heap[W3.heap.size]? = some (.cells zeroSk 32 (0, 0)) := HRW5.out
      obtain ⟨q0, q1, q2, q3, q4⟩ := cell5 R5
      have f0 := frozen_of_row W5 (W3.heap.size) 0 _ _ R5
      have f1 := frozen_of_row W5 (W3.heap.size) 1 _ _ R5
      have f2 := frozen_of_row W5 (W3.heap.size) 2 _ _ R5
      have f3 := frozen_of_row W5 (W3.heap.size) 3 _ _ R5
      have f4 := frozen_of_row W5 (W3.heap.size) 4 _ _ R5
      refine oneK (i := 6) (by kernel_rfl) rfl (fun K hK => ?_)
      go_simp
      refine hK.out _ _ (fun h => absurd rfl h) ?_
      clear hK K
      try simp only [Act.put, List.setIfInBounds_toArray, List.set_cons_zero, List.set_cons_succ]
      refine doneK (by kernel_rfl) ?_ _
      have n1 := HO1.out.ne R5 (by decide)
      have n2 := HO2.out.ne R5 (by decide)
      exact REST _ _ gp3 gn3 gp4 gn4 sa sb sc sd (bel5 HBb.out HBW5.out) (cell5 (row5 R5)) (((((HO1.out.set n1 _).set n1 _).set n1 _).set n1 _).set n1 _) (((((HO2.out.set n2 _).set n2 _).set n2 _).set n2 _).set n2 _)
  · go_simp
    have HBa := hide (Below.alloc (HS0 : Below w2.heap.size w2 w2.drew) (HS0 : Below w2.heap.size w2 w2.drew).size (.cells zeroSk 32))
    have HRa : Hid ((w2.drew.alloc (.cells zeroSk 32)).heap[w2.heap.size]? = some (.cells zeroSk 32 (0, 0))) := (heap_alloc_new w2.drew (.cells zeroSk 32) : _)
    have HBb : Hid (w2.heap.size ≤ w2.heap.size) := ((HS0 : Below w2.heap.size w2 w2.drew).size : _)
    refine hK.out _ _ (fun _ => HBa.out) ?_
    clear hK K
    try simp only [Act.put, List.setIfInBounds_toArray, List.set_cons_zero, List.set_cons_succ]
    refine oneK (i := 1) (by kernel_rfl) rfl (fun K hK => ?_)
    go_simp
    refine (c_toSketch EP.out EN.out lp ln (bins_past HP.out (chain HT2.out HBa.out)) (bins_past HN.out (chain HT2.out HBa.out))).mono ?_
    rintro e W3 ⟨gp3, gn3, rfl, _, _, _, oP, oN, hb⟩
    dsimp only
    have HBW3 := hide ((HBa.out : Below w2.heap.size w2 _).trans (hb.mono (HBa.out : Below w2.heap.size w2 _).size))
    have HRW3 : Hid (W3.heap[w2.heap.size]? = some (.cells zeroSk 32 (0, 0))) := by
      refine (?_ : W3.heap[w2.heap.size]? = some (.cells zeroSk 32 (0, 0)))
      rw [hb.block _ (Array.getElem?_eq_some_iff.1 HRa.out).1]; exact HRa.out
    have BP3 := hide (bins_owned oP EP.out.symm rfl)
    have BN3 := hide (bins_owned oN EN.out.symm rfl)
    clear hb oP oN
    refine hK.out _ _ (fun _ => HBW3.out) ?_
    clear hK K
    try simp only [Act.put, List.setIfInBounds_toArray, List.set_cons_zero, List.set_cons_succ]
    refine oneK (i := 3) (by kernel_rfl) rfl (fun K hK => ?_)
    go_simp
    refine (c_toSketch EP'.out EN'.out lp' ln' (bins_past HP'.out (chain HT2.out HBW3.out)) (bins_past HN'.out (chain HT2.out HBW3.out))).mono ?_
    rintro e W4 ⟨gp4, gn4, rfl, _, _, _, oP, oN, hb⟩
    dsimp only
    have HBW4 := hide ((HBW3.out : Below w2.heap.size w2 _).trans (hb.mono (HBW3.out : Below w2.heap.size w2 _).size))
    have HRW4 : Hid (W4.heap[w2.heap.size]? = some (.cells zeroSk 32 (0, 0))) := by
      refine (?_ : W4.heap[w2.heap.size]? = some (.cells zeroSk 32 (0, 0)))
      rw [hb.block _ (Array.getElem?_eq_some_iff.1 HRW3.out).1]; exact HRW3.out
    have BP34 := hide (bins_past BP3.out hb)
    have BN34 := hide (bins_past BN3.out hb)
    have BP4 := hide (bins_owned oP EP'.out.symm rfl)
    have BN4 := hide (bins_owned oN EN'.out.symm rfl)
    clear hb oP oN
    refine hK.out _ _ (fun _ => HBW4.out) ?_
    clear hK K
    try simp only [Act.put, List.setIfInBounds_toArray, List.set_cons_zero, List.set_cons_succ]
    refine oneK (i := 4) (by kernel_rfl) rfl (fun K hK => ?_)
    go_simp
    refine (c_s_SketchMerge hz hl hz' hl' EP.out EN.out EP'.out EN'.out lp ln lp' ln' BP34.out BN34.out BP4.out BN4.out KP.out KN.out KP'.out KN'.out).mono ?_
    rintro e W5 ⟨v5, rfl, hb, hq5⟩
    dsimp only
    obtain ⟨sa, sc, sb, sd, rfl, hs1, hs2, _⟩ := (FS.out _ _ _ hq5).open EPM.out ENM.out
    have HBW5 := hide ((HBW4.out : Below w2.heap.size w2 _).trans (hb.mono (HBW4.out : Below w2.heap.size w2 _).size))
    have HRW5 : Hid (W5.heap[w2.heap.size]? = some (.cells zeroSk 32 (0, 0))) := by
      refine (?_ : W5.heap[w2.heap.size]? = some (.cells zeroSk 32 (0, 0)))
      rw [hb.block _ (Array.getElem?_eq_some_iff.1 HRW4.out).1]; exact HRW4.out
    have HO1 := hide (hs1.le (Nat.zero_le _))
    have HO2 := hide (hs2.le (Nat.zero_le _))
    clear hb hq5 hs1 hs2
    refine hK.out _ _ (fun _ => HBW5.out) ?_
    clear hK K
    try simp only [Act.put, List.setIfInBounds_toArray, List.set_cons_zero, List.set_cons_succ]
    have R5 : W5.heap[w2.heap.size]? = some (.cells zeroSk 32 (0, 0)) := HRW5.out
    obtain ⟨q0, q1, q2, q3, q4⟩ := cell5 R5
    have f0 := frozen_of_row W5 (w2.heap.size) 0 _ _ R5
    have f1 := frozen_of_row W5 (w2.heap.size) 1 _ _ R5
    have f2 := frozen_of_row W5 (w2.heap.size) 2 _ _ R5
    have f3 := frozen_of_row W5 (w2.heap.size) 3 _ _ R5
    have f4 := frozen_of_row W5 (w2.heap.size) 4 _ _ R5
    refine oneK (i := 6) (by kernel_rfl) rfl (fun K hK => ?_)
    go_simp
    refine hK.out _ _ (fun h => absurd rfl h) ?_
    clear hK K
    try simp only [Act.put, List.setIfInBounds_toArray, List.set_cons_zero, List.set_cons_succ]
    refine doneK (by kernel_rfl) ?_ _
    have n1 := HO1.out.ne R5 (by decide)
    have n2 := HO2.out.ne R5 (by decide)
    exact REST _ _ gp3 gn3 gp4 gn4 sa sb sc sd (bel5 HBb.out HBW5.out) (cell5 (row5 R5)) (((((HO1.out.set n1 _).set n1 _).set n1 _).set n1 _).set n1 _) (((((HO2.out.set n2 _).set n2 _).set n2 _).set n2 _).set n2 _)
theorem own : ownKnob Try.prog.godebug = none := by kernel_rfl
theorem laidOut : laidOutB Try.prog = true := by kernel_rfl

set_option maxRecDepth 100000 in
theorem liftedSketchMerge (os : Os) (started : os.Started) (H : Type) (enc : TypeId × Value → H) :
    ReturnsInHanded {} Try.checked os 3 .any (Rows.fnExactSketchMergeSpec.pre6 enc Try.prog Try.f3 Rows.fnExactSketchMergeRow.domain false) (Rows.fnExactSketchMergeSpec.post enc Try.prog Try.f3 false true false false) := by
  refine returnsInHanded_of_change (C := Try.checked) own started (by kernel_rfl) Try.func3
    (ChangeSpec.witness6 (enc := enc) (C := Try.checked) false ⟨#[], #[.agg #[.int .u64 0, .slice none 0 0, .slice none 0 0, .int .i64 0, .int .u64 0], .agg #[.int .u64 0, .slice none 0 0, .slice none 0 0, .int .i64 0, .int .u64 0]], []⟩ 8 (by kernel_rfl) (by kernel_rfl) (by kernel_rfl) (by kernel_rfl)) ?_
  intro W base args ds gs before hval0 hW hcnd _
  have hval : ∀ (j : Nat) t v, Try.f3.params[j]? = some t → args[j]? = some v → Value.okWide Try.prog W .any base t v := hval0
  have hW' := hW
  obtain ⟨p, q, hA0, hV, rfl, hfz, hnd⟩ := hW
  have hA : DataW.TrodAll enc Try.prog W 0 (fun _ => true) true Try.f3.params.toList args.toList ds p := hA0
  rw [Try.params3] at hA hval
  obtain ⟨v0, vs0, d0, ds0, p0, q0, hargs, rfl, rfl, h0, r0⟩ := trodAll_cons hA
  obtain ⟨v1, vs1, d1, ds1, p1, q1, rfl, rfl, rfl, h1, r1⟩ := trodAll_cons r0
  obtain ⟨rfl, rfl, rfl⟩ := trodAll_nil r1
  obtain rfl : args = #[v0, v1] := by cases args; simp_all
  obtain ⟨rfl, rfl⟩ := trodVars_none hV
  have k0 := h0
  have lt0 : ∀ x ∈ p0, x.block < W.heap.size := by obtain ⟨m, hm⟩ := k0; exact DataW.trod_lt m _ _ _ hm
  obtain ⟨z0, e0, l0, a0, b0, c0, f0, P0, N0, rfl, hz0, he0, hl0, mP0, mN0, kP0, kN0, hP0, hN0⟩ := open_sketch (hval 0 27 v0 rfl rfl) h0
  have k1 := h1
  have lt1 : ∀ x ∈ p1, x.block < W.heap.size := by obtain ⟨m, hm⟩ := k1; exact DataW.trod_lt m _ _ _ hm
  obtain ⟨z1, e1, l1, a1, b1, c1, f1, P1, N1, rfl, hz1, he1, hl1, mP1, mN1, kP1, kN1, hP1, hN1⟩ := open_sketch (hval 1 27 v1 rfl rfl) h1
  clear hA0 hval0
  refine (walkSketchMerge z0 e0 l0 a0 b0 c0 f0 P0 N0 z1 e1 l1 a1 b1 c1 f1 P1 N1 W hz0 he0 hl0 mP0 mN0 kP0 kN0 hP0 hN0 hz1 he1 hl1 mP1 mN1 kP1 kN1 hP1 hN1).mono fun e W' ⟨he, bel⟩ => ?_
  subst he
  exact ⟨_, rfl, _, _, _, [], _, [], hW', trodAll_mk1 (shut_bool Try.underlying4 _), (trodAll_cons_mk (Below.trod laidOut (by kernel_rfl) (of_decide_eq_true (by kernel_rfl)) k0 bel lt0) (trodAll_cons_mk (Below.trod laidOut (by kernel_rfl) (of_decide_eq_true (by kernel_rfl)) k1 bel lt1) trodAll_mk0)), rfl, bel.frame _, fun h => by cases h⟩

theorem overSketchMerge : Rows.fnExactSketchMergeRow.holds Try.pinned (OpenSpec.ofChange Rows.fnExactSketchMergeSpec) :=
  OpenClaim.holds_of_wide 3 Try.f3 rfl rfl rfl rfl rfl rfl rfl ⟨rfl, rfl, rfl, rfl, rfl⟩ rfl rfl rfl rfl rfl (by kernel_rfl) Try.func3 (by kernel_rfl)
    (of_decide_eq_true (by kernel_rfl)) (by unfold Func.isWrapper; first | (rw [if_pos (by decide +kernel)]; kernel_rfl) | (rw [if_neg (by decide +kernel)]; exact ⟨rfl, rfl⟩))
    (fun os started H enc _ => liftedSketchMerge os started H enc)

theorem fnExactSketchMerge_holds : Rows.FnExactSketchMergeSaid := overSketchMerge
#print axioms fnExactSketchMerge_holds

end Go.Proofs.Ytjpjjofjjejckaa
