/-
  The law FnLine: a drawn right sample that has a line is read back from it; what is read of a drawn line is a right sample, of a series that is one. Condition: the library's tables and errors as the program's text lays them (the card ties them).
-/
import Derived.Test.YtnflhahnbdnaoaaGreatDoorLT
import Derived.Test.YtnflhahnbdnaoaaGreatDoorDD
import Derived.Test.YtnflhahnbdnaoaaGreatDoorLR
import Derived.Test.YtnflhahnbdnaoaaGreatDoorTie
import Derived.Test.YtnflhahnbdnaoaaGreatDoorCards
import Derived.Deep.DeepCutAuto
import Derived.Lib.SmallJoins
import Derived.Lib.LaidTab
import Derived.LaidLaws
namespace Go.Proofs.YtnflhahnbdnaoaaGreatDoor
set_option linter.unusedVariables false
set_option linter.unusedSimpArgs false
open Go.ChangeMaps (open_string shut_string)
open Go.ChangeShapes Go.WideShapes Go.ChangeAt Go.RowKit Go.Joins
set_option maxRecDepth 10000

/-- A line that is told is read as its sample. -/
theorem LxA.back {k : Int} {se : ByteArray} {v : Int} {wd : ByteArray} {wt : Int} {tm : Bool} {ti : Int} {r : ByteArray} {s : Sm} (h : LxA k se v wd wt tm ti r) (hr : r.toList.isEmpty = false) (hs : LnR r s) : s.k = k ∧ s.se = se ∧ s.va = v ∧ s.wd = wd ∧ s.wt = wt ∧ s.td = tm ∧ (s.ti : Int) = ti ∧ s.c = 0 := by
  rcases h with ⟨_, rfl⟩ | ⟨h1, nm, K, hS, s', hl, e⟩
  · rw [ByteArray.toList_eq] at hr
    cases hr
  · by_cases q : eqL s' k se v wd wt tm ti = true
    · rw [if_pos q] at e
      rw [e] at hs
      obtain rfl := hs.one hl
      unfold eqL at q
      simp only [Bool.and_eq_true, beq_iff_eq] at q
      obtain ⟨q1, q2, q3, q4, q5, q6, q7, q8⟩ := q
      exact ⟨q1, str_ext (beq_iff_eq.2 q2), q3, str_ext (beq_iff_eq.2 q4), q5, q6, q7, q8⟩
    · rw [if_neg q] at e
      rw [e, ByteArray.toList_eq] at hr
      cases hr
set_option maxHeartbeats 8000000 in
theorem walkLine (ao : Option Addr) (ln cap : Nat) (bo : Option Addr) (lm cbp : Nat) (w : World) (hl : ln ≤ maxLen) (ha : ln ≤ 1048576 → CodeAt w w.heap.size ao ln) (hm : lm ≤ maxLen) (hb : lm ≤ 1048576 → CodeAt w w.heap.size bo lm) (hG : LnG w) (hx : MX w) (hE : errT w) :
    Calls Tryz.prog 4 #[.slice ao ln cap, .slice bo lm cbp] w fun e w' => e = .returned (.bool true) ∧ Below w.heap.size w w' := by
  have hlz : ln ≤ 9223372036854775807 := hl
  have hmz : lm ≤ 9223372036854775807 := hm
  by_cases hl1 : 1048576 < ln
  · have hl1i : (1048576 : Int) < (ln : Int) := by omega
    clear ha hb
    go_enter Tryz.func4, Tryz.ntmps4
    go_wp2
    go_ret
    exact ⟨rfl, Below.refl _ _⟩
  have hl1i : ¬ (1048576 : Int) < (ln : Int) := by omega
  by_cases hm1 : 1048576 < lm
  · have hm1i : (1048576 : Int) < (lm : Int) := by omega
    clear ha hb
    go_enter Tryz.func4, Tryz.ntmps4
    go_wp2
    go_ret
    exact ⟨rfl, Below.refl _ _⟩
  have hm1i : ¬ (1048576 : Int) < (lm : Int) := by omega
  have HCa := hide (ha (by omega))
  have HCb := hide (hb (by omega))
  have HG := hide hG
  have HM := hide hx
  have HE := hide hE
  clear ha hb hG hx hE
  go_enter Tryz.func4, Tryz.ntmps4
  go_wp2_with fail
  refine (c_DrawLineText HCa.out).mono ?_
  rintro e w1 ⟨x, rfl, ok, hb1⟩
  have a1 : Below w1.heap.size w1 (w1.alloc (.cells (sxArr x) 27)) := (Below.refl _ _).alloc (Nat.le_refl _) _
  have OK := hide ok
  have HT1 := hide (chain hb1 a1)
  have HR1 := hide (heap_alloc_new w1 (.cells (sxArr x) 27))
  have hz1 : w1.heap.size < (w1.alloc (.cells (sxArr x) 27)).heap.size := by simp
  have HZ1 := hide hz1
  clear ok hb1 a1 hz1
  go_wp2_with fail
  generalize w1.alloc (.cells (sxArr x) 27) = W1 at HT1 HR1 HZ1 ⊢
  generalize w1.heap.size = b at HR1 HZ1 ⊢
  refine (c_i_LineText x.k x.se x.v x.wd x.wt x.tm x.ti OK.out.se OK.out.wd (HM.out.past HT1.out) (HG.out.past HT1.out).tab (HG.out.past HT1.out) (cell_past HT1.out HE.out)).mono ?_
  rintro e w2 ⟨t0, rfl, hA, hb2⟩
  have HA := hide hA
  have HSz := hide hA.size
  have HT2 := hide (chain HT1.out hb2)
  have HK : Hid (∀ W, Below w2.heap.size w2 W → W.heap[b]? = some (.cells (sxArr x) 27 (0, 0))) := fun W hW => (hW.block _ (Nat.lt_of_lt_of_le HZ1.out hb2.size)).trans ((hb2.block _ HZ1.out).trans HR1.out)
  clear hA hb2 HR1 HZ1 HT1
  have hss : (t0.toList == t0.toList) = true := by simp
  obtain ⟨Bs, hBs⟩ : ∃ Bs, smpB x.k x.se x.v x.wd x.wt x.tm x.ti = Bs := ⟨_, rfl⟩
  have HBs := hide hBs
  have hbb : (Bs != Bs) = false := by simp
  clear hBs
  go_upto_region 5 with fail
  go_cut [42] (fun v w' => v = .bool false ∧ Hid (Below w2.heap.size w2 w'))
  case first =>
    cases hte : t0.toList.isEmpty with
    | true =>
      have HS0 : (fun W => Below w2.heap.size w2 W) w2.drew := (Below.refl _ _).drew
      refine regionK (fun W => Below w2.heap.size w2 W) 99 (by kernel_rfl) ?_
      refine takeK (i := 0) (d := 21) (v := .string t0) rfl rfl (by kernel_rfl) (by kernel_rfl) (by kernel_rfl) (by decide) (by kernel_rfl) (fun _ _ _ h => h) (Or.inl ⟨by rfl, fun W hW => ?_⟩) HS0 ?_
      · clear hW
        go_simp
      simp only [List.setIfInBounds_toArray, List.set_cons_zero, List.set_cons_succ]
      refine takeK (i := 1) (d := 22) (v := .agg (sxArr x)) rfl rfl (by kernel_rfl) (by kernel_rfl) (by kernel_rfl) (by decide) (by kernel_rfl) (fun _ _ _ h => h) (Or.inl ⟨by rfl, fun W hW => ?_⟩) HS0 ?_
      · obtain ⟨x0, x1, x2, x3, x4, x5, x6⟩ := sx_cellsX (HK.out W hW)
        clear hW
        go_simp
      simp only [List.setIfInBounds_toArray, List.set_cons_zero, List.set_cons_succ]
      refine oneK (i := 2) (by kernel_rfl) rfl (fun K hK => ?_)
      go_simp
      refine (c_s_LineText x.k x.se x.v x.wd x.wt x.tm x.ti OK.out.se OK.out.wd).mono ?_
      rintro e w3 ⟨r3, rfl, hA3, hb3⟩
      obtain rfl := hA3.one HA.out
      have HB3 : Hid (Below w2.heap.size w2 w3) := (HS0 : Below w2.heap.size w2 w2.drew).trans (hb3.mono (Nat.le_refl _))
      clear hb3 hA3
      dsimp only
      refine hK.out _ _ (fun _ => HB3.out) ?_
      clear hK K
      try simp only [Act.put, List.setIfInBounds_toArray, List.set_cons_zero, List.set_cons_succ]
      refine takeK (i := 3) (d := 24) (v := .bool false) rfl rfl (by kernel_rfl) (by kernel_rfl) (by kernel_rfl) (by decide) (by kernel_rfl) (fun _ _ _ h => h) (Or.inl ⟨by rfl, fun W hW => ?_⟩) HB3.out ?_
      · clear hW
        go_simp
      simp only [List.setIfInBounds_toArray, List.set_cons_zero, List.set_cons_succ]
      refine takeK (i := 4) (d := 25) (v := .bool false) rfl rfl (by kernel_rfl) (by kernel_rfl) (by kernel_rfl) (by decide) (by kernel_rfl) (fun _ _ _ h => h) (Or.inl ⟨by rfl, fun W hW => ?_⟩) HB3.out ?_
      · clear hW
        go_simp
      simp only [List.setIfInBounds_toArray, List.set_cons_zero, List.set_cons_succ]
      refine takeK (i := 5) (d := 26) (v := .agg (sxArr x)) rfl rfl (by kernel_rfl) (by kernel_rfl) (by kernel_rfl) (by decide) (by kernel_rfl) (fun _ _ _ h => h) (Or.inl ⟨by rfl, fun W hW => ?_⟩) HB3.out ?_
      · obtain ⟨x0, x1, x2, x3, x4, x5, x6⟩ := sx_cellsX (HK.out W hW)
        clear hW
        go_simp
      simp only [List.setIfInBounds_toArray, List.set_cons_zero, List.set_cons_succ]
      refine takeK (i := 7) (d := 28) (v := .agg (sxArr x)) rfl rfl (by kernel_rfl) (by kernel_rfl) (by kernel_rfl) (by decide) (by kernel_rfl) (fun _ _ _ h => h) (Or.inl ⟨by rfl, fun W hW => ?_⟩) HB3.out ?_
      · obtain ⟨x0, x1, x2, x3, x4, x5, x6⟩ := sx_cellsX (HK.out W hW)
        clear hW
        go_simp
      simp only [List.setIfInBounds_toArray, List.set_cons_zero, List.set_cons_succ]
      refine oneK (i := 6) (by kernel_rfl) rfl (fun K hK => ?_)
      go_simp
      refine (c_i_SampleRight x.k x.se x.v x.wd x.wt x.tm x.ti (HM.out.past (chain HT2.out HB3.out)) OK.out.se OK.out.wd).mono ?_
      rintro e w4 ⟨rfl, hb4⟩
      rw [HBs.out]
      have HB4 : Hid (Below w2.heap.size w2 w4) := chain HB3.out hb4
      clear hb4
      dsimp only
      refine hK.out _ _ (fun _ => HB4.out) ?_
      clear hK K
      try simp only [Act.put, List.setIfInBounds_toArray, List.set_cons_zero, List.set_cons_succ]
      refine oneK (i := 8) (by kernel_rfl) rfl (fun K hK => ?_)
      go_simp
      refine (c_s_SampleRight x.k x.se x.v x.wd x.wt x.tm x.ti OK.out.se OK.out.wd).mono ?_
      rintro e w5 ⟨rfl, hb5⟩
      rw [HBs.out]
      have HB5 : Hid (Below w2.heap.size w2 w5) := chain HB4.out hb5
      clear hb5
      dsimp only
      refine hK.out _ _ (fun _ => HB5.out) ?_
      clear hK K
      try simp only [Act.put, List.setIfInBounds_toArray, List.set_cons_zero, List.set_cons_succ]
      refine takeK (i := 9) (d := 30) (v := .bool false) rfl rfl (by kernel_rfl) (by kernel_rfl) (by kernel_rfl) (by decide) (by kernel_rfl) (fun _ _ _ h => h) (Or.inl ⟨by rfl, fun W hW => ?_⟩) HB5.out ?_
      · clear hW
        go_simp
      simp only [List.setIfInBounds_toArray, List.set_cons_zero, List.set_cons_succ]
      refine takeK (i := 10) (d := 31) (v := .bool false) rfl rfl (by kernel_rfl) (by kernel_rfl) (by kernel_rfl) (by decide) (by kernel_rfl) (fun _ _ _ h => h) (Or.inl ⟨by rfl, fun W hW => ?_⟩) HB5.out ?_
      · clear hW
        go_simp
      simp only [List.setIfInBounds_toArray, List.set_cons_zero, List.set_cons_succ]
      refine takeK (i := 11) (d := 32) (v := .bool false) rfl rfl (by kernel_rfl) (by kernel_rfl) (by kernel_rfl) (by decide) (by kernel_rfl) (fun _ _ _ h => h) (Or.inl ⟨by rfl, fun W hW => ?_⟩) HB5.out ?_
      · clear hW
        go_simp
      simp only [List.setIfInBounds_toArray, List.set_cons_zero, List.set_cons_succ]
      refine takeK (i := 12) (d := 33) (v := .string r3) rfl rfl (by kernel_rfl) (by kernel_rfl) (by kernel_rfl) (by decide) (by kernel_rfl) (fun _ _ _ h => h) (Or.inl ⟨by rfl, fun W hW => ?_⟩) HB5.out ?_
      · clear hW
        go_simp
      simp only [List.setIfInBounds_toArray, List.set_cons_zero, List.set_cons_succ]
      refine takeK (i := 13) (d := 34) (v := .bool false) rfl rfl (by kernel_rfl) (by kernel_rfl) (by kernel_rfl) (by decide) (by kernel_rfl) (fun _ _ _ h => h) (Or.inl ⟨by rfl, fun W hW => ?_⟩) HB5.out ?_
      · clear hW
        go_simp
      simp only [List.setIfInBounds_toArray, List.set_cons_zero, List.set_cons_succ]
      refine takeK (i := 14) (d := 35) (v := .bool false) rfl rfl (by kernel_rfl) (by kernel_rfl) (by kernel_rfl) (by decide) (by kernel_rfl) (fun _ _ _ h => h) (Or.inl ⟨by rfl, fun W hW => ?_⟩) HB5.out ?_
      · clear hW
        go_simp
      simp only [List.setIfInBounds_toArray, List.set_cons_zero, List.set_cons_succ]
      refine takeK (i := 15) (d := 36) (v := undef) rfl rfl (by kernel_rfl) (by kernel_rfl) (by kernel_rfl) (by decide) (by kernel_rfl) (fun _ _ _ h => h) (Or.inr ⟨by rfl, rfl⟩) HB5.out ?_
      simp only [List.setIfInBounds_toArray, List.set_cons_zero, List.set_cons_succ]
      refine takeK (i := 17) (d := 38) (v := undef) rfl rfl (by kernel_rfl) (by kernel_rfl) (by kernel_rfl) (by decide) (by kernel_rfl) (fun _ _ _ h => h) (Or.inr ⟨by rfl, rfl⟩) HB5.out ?_
      simp only [List.setIfInBounds_toArray, List.set_cons_zero, List.set_cons_succ]
      refine takeK (i := 18) (d := 39) (v := undef) rfl rfl (by kernel_rfl) (by kernel_rfl) (by kernel_rfl) (by decide) (by kernel_rfl) (fun _ _ _ h => h) (Or.inr ⟨by rfl, rfl⟩) HB5.out ?_
      simp only [List.setIfInBounds_toArray, List.set_cons_zero, List.set_cons_succ]
      refine oneK (i := 16) (by kernel_rfl) rfl (fun K hK => ?_)
      refine Eq.mpr (if_neg (fun h => Bool.noConfusion (show false = true from h))) ?_
      refine hK.out _ _ (fun _ => HB5.out) ?_
      clear hK K
      try simp only [Act.put, List.setIfInBounds_toArray, List.set_cons_zero, List.set_cons_succ]
      refine takeK (i := 19) (d := 40) (v := undef) rfl rfl (by kernel_rfl) (by kernel_rfl) (by kernel_rfl) (by decide) (by kernel_rfl) (fun _ _ _ h => h) (Or.inr ⟨by rfl, rfl⟩) HB5.out ?_
      simp only [List.setIfInBounds_toArray, List.set_cons_zero, List.set_cons_succ]
      refine takeK (i := 20) (d := 41) (v := .bool false) rfl rfl (by kernel_rfl) (by kernel_rfl) (by kernel_rfl) (by decide) (by kernel_rfl) (fun _ _ _ h => h) (Or.inl ⟨by rfl, fun W hW => ?_⟩) HB5.out ?_
      · clear hW
        go_simp
      simp only [List.setIfInBounds_toArray, List.set_cons_zero, List.set_cons_succ]
      refine takeK (i := 21) (d := 42) (v := .bool false) rfl rfl (by kernel_rfl) (by kernel_rfl) (by kernel_rfl) (by decide) (by kernel_rfl) (fun _ _ _ h => h) (Or.inl ⟨by rfl, fun W hW => ?_⟩) HB5.out ?_
      · clear hW
        go_simp
      simp only [List.setIfInBounds_toArray, List.set_cons_zero, List.set_cons_succ]
      refine doneK (by kernel_rfl) ?_ _
      go_wp2
      go_meet
      exact ⟨rfl, HB5⟩
    | false =>
      have HS0 : (fun W => Below w2.heap.size w2 W) w2.drew := (Below.refl _ _).drew
      refine regionK (fun W => Below w2.heap.size w2 W) 99 (by kernel_rfl) ?_
      refine takeK (i := 0) (d := 21) (v := .string t0) rfl rfl (by kernel_rfl) (by kernel_rfl) (by kernel_rfl) (by decide) (by kernel_rfl) (fun _ _ _ h => h) (Or.inl ⟨by rfl, fun W hW => ?_⟩) HS0 ?_
      · clear hW
        go_simp
      simp only [List.setIfInBounds_toArray, List.set_cons_zero, List.set_cons_succ]
      refine takeK (i := 1) (d := 22) (v := .agg (sxArr x)) rfl rfl (by kernel_rfl) (by kernel_rfl) (by kernel_rfl) (by decide) (by kernel_rfl) (fun _ _ _ h => h) (Or.inl ⟨by rfl, fun W hW => ?_⟩) HS0 ?_
      · obtain ⟨x0, x1, x2, x3, x4, x5, x6⟩ := sx_cellsX (HK.out W hW)
        clear hW
        go_simp
      simp only [List.setIfInBounds_toArray, List.set_cons_zero, List.set_cons_succ]
      refine oneK (i := 2) (by kernel_rfl) rfl (fun K hK => ?_)
      go_simp
      refine (c_s_LineText x.k x.se x.v x.wd x.wt x.tm x.ti OK.out.se OK.out.wd).mono ?_
      rintro e w3 ⟨r3, rfl, hA3, hb3⟩
      obtain rfl := hA3.one HA.out
      have HB3 : Hid (Below w2.heap.size w2 w3) := (HS0 : Below w2.heap.size w2 w2.drew).trans (hb3.mono (Nat.le_refl _))
      clear hb3 hA3
      dsimp only
      refine hK.out _ _ (fun _ => HB3.out) ?_
      clear hK K
      try simp only [Act.put, List.setIfInBounds_toArray, List.set_cons_zero, List.set_cons_succ]
      refine takeK (i := 3) (d := 24) (v := .bool false) rfl rfl (by kernel_rfl) (by kernel_rfl) (by kernel_rfl) (by decide) (by kernel_rfl) (fun _ _ _ h => h) (Or.inl ⟨by rfl, fun W hW => ?_⟩) HB3.out ?_
      · clear hW
        go_simp
      simp only [List.setIfInBounds_toArray, List.set_cons_zero, List.set_cons_succ]
      refine takeK (i := 4) (d := 25) (v := .bool false) rfl rfl (by kernel_rfl) (by kernel_rfl) (by kernel_rfl) (by decide) (by kernel_rfl) (fun _ _ _ h => h) (Or.inl ⟨by rfl, fun W hW => ?_⟩) HB3.out ?_
      · clear hW
        go_simp
      simp only [List.setIfInBounds_toArray, List.set_cons_zero, List.set_cons_succ]
      refine takeK (i := 5) (d := 26) (v := .agg (sxArr x)) rfl rfl (by kernel_rfl) (by kernel_rfl) (by kernel_rfl) (by decide) (by kernel_rfl) (fun _ _ _ h => h) (Or.inl ⟨by rfl, fun W hW => ?_⟩) HB3.out ?_
      · obtain ⟨x0, x1, x2, x3, x4, x5, x6⟩ := sx_cellsX (HK.out W hW)
        clear hW
        go_simp
      simp only [List.setIfInBounds_toArray, List.set_cons_zero, List.set_cons_succ]
      refine takeK (i := 7) (d := 28) (v := .agg (sxArr x)) rfl rfl (by kernel_rfl) (by kernel_rfl) (by kernel_rfl) (by decide) (by kernel_rfl) (fun _ _ _ h => h) (Or.inl ⟨by rfl, fun W hW => ?_⟩) HB3.out ?_
      · obtain ⟨x0, x1, x2, x3, x4, x5, x6⟩ := sx_cellsX (HK.out W hW)
        clear hW
        go_simp
      simp only [List.setIfInBounds_toArray, List.set_cons_zero, List.set_cons_succ]
      refine oneK (i := 6) (by kernel_rfl) rfl (fun K hK => ?_)
      go_simp
      refine (c_i_SampleRight x.k x.se x.v x.wd x.wt x.tm x.ti (HM.out.past (chain HT2.out HB3.out)) OK.out.se OK.out.wd).mono ?_
      rintro e w4 ⟨rfl, hb4⟩
      rw [HBs.out]
      have HB4 : Hid (Below w2.heap.size w2 w4) := chain HB3.out hb4
      clear hb4
      dsimp only
      refine hK.out _ _ (fun _ => HB4.out) ?_
      clear hK K
      try simp only [Act.put, List.setIfInBounds_toArray, List.set_cons_zero, List.set_cons_succ]
      refine oneK (i := 8) (by kernel_rfl) rfl (fun K hK => ?_)
      go_simp
      refine (c_s_SampleRight x.k x.se x.v x.wd x.wt x.tm x.ti OK.out.se OK.out.wd).mono ?_
      rintro e w5 ⟨rfl, hb5⟩
      rw [HBs.out]
      have HB5 : Hid (Below w2.heap.size w2 w5) := chain HB4.out hb5
      clear hb5
      dsimp only
      refine hK.out _ _ (fun _ => HB5.out) ?_
      clear hK K
      try simp only [Act.put, List.setIfInBounds_toArray, List.set_cons_zero, List.set_cons_succ]
      refine takeK (i := 9) (d := 30) (v := .bool false) rfl rfl (by kernel_rfl) (by kernel_rfl) (by kernel_rfl) (by decide) (by kernel_rfl) (fun _ _ _ h => h) (Or.inl ⟨by rfl, fun W hW => ?_⟩) HB5.out ?_
      · clear hW
        go_simp
      simp only [List.setIfInBounds_toArray, List.set_cons_zero, List.set_cons_succ]
      refine takeK (i := 10) (d := 31) (v := .bool false) rfl rfl (by kernel_rfl) (by kernel_rfl) (by kernel_rfl) (by decide) (by kernel_rfl) (fun _ _ _ h => h) (Or.inl ⟨by rfl, fun W hW => ?_⟩) HB5.out ?_
      · clear hW
        go_simp
      simp only [List.setIfInBounds_toArray, List.set_cons_zero, List.set_cons_succ]
      refine takeK (i := 11) (d := 32) (v := .bool false) rfl rfl (by kernel_rfl) (by kernel_rfl) (by kernel_rfl) (by decide) (by kernel_rfl) (fun _ _ _ h => h) (Or.inl ⟨by rfl, fun W hW => ?_⟩) HB5.out ?_
      · clear hW
        go_simp
      simp only [List.setIfInBounds_toArray, List.set_cons_zero, List.set_cons_succ]
      refine takeK (i := 12) (d := 33) (v := .string r3) rfl rfl (by kernel_rfl) (by kernel_rfl) (by kernel_rfl) (by decide) (by kernel_rfl) (fun _ _ _ h => h) (Or.inl ⟨by rfl, fun W hW => ?_⟩) HB5.out ?_
      · clear hW
        go_simp
      simp only [List.setIfInBounds_toArray, List.set_cons_zero, List.set_cons_succ]
      refine takeK (i := 13) (d := 34) (v := .bool true) rfl rfl (by kernel_rfl) (by kernel_rfl) (by kernel_rfl) (by decide) (by kernel_rfl) (fun _ _ _ h => h) (Or.inl ⟨by rfl, fun W hW => ?_⟩) HB5.out ?_
      · clear hW
        go_simp
      simp only [List.setIfInBounds_toArray, List.set_cons_zero, List.set_cons_succ]
      refine takeK (i := 14) (d := 35) (v := .bool true) rfl rfl (by kernel_rfl) (by kernel_rfl) (by kernel_rfl) (by decide) (by kernel_rfl) (fun _ _ _ h => h) (Or.inl ⟨by rfl, fun W hW => ?_⟩) HB5.out ?_
      · clear hW
        go_simp
      simp only [List.setIfInBounds_toArray, List.set_cons_zero, List.set_cons_succ]
      refine takeK (i := 15) (d := 36) (v := .string r3) rfl rfl (by kernel_rfl) (by kernel_rfl) (by kernel_rfl) (by decide) (by kernel_rfl) (fun _ _ _ h => h) (Or.inl ⟨by rfl, fun W hW => ?_⟩) HB5.out ?_
      · clear hW
        go_simp
      simp only [List.setIfInBounds_toArray, List.set_cons_zero, List.set_cons_succ]
      refine takeK (i := 17) (d := 38) (v := .agg (sxArr x)) rfl rfl (by kernel_rfl) (by kernel_rfl) (by kernel_rfl) (by decide) (by kernel_rfl) (fun _ _ _ h => h) (Or.inl ⟨by rfl, fun W hW => ?_⟩) HB5.out ?_
      · obtain ⟨x0, x1, x2, x3, x4, x5, x6⟩ := sx_cellsX (HK.out W hW)
        clear hW
        go_simp
      simp only [List.setIfInBounds_toArray, List.set_cons_zero, List.set_cons_succ]
      refine takeK (i := 18) (d := 39) (v := .agg #[.int .i64 x.k, .string x.se, .int .i64 x.v, .string x.wd, .int .u64 x.wt, .bool x.tm, .int .i64 x.ti, .int .i64 0]) rfl rfl (by kernel_rfl) (by kernel_rfl) (by kernel_rfl) (by decide) (by kernel_rfl) (fun _ _ _ h => h) (Or.inl ⟨by rfl, fun W hW => ?_⟩) HB5.out ?_
      · clear hW
        go_simp
      simp only [List.setIfInBounds_toArray, List.set_cons_zero, List.set_cons_succ]
      refine oneK (i := 16) (by kernel_rfl) rfl (fun K hK => ?_)
      go_simp
      refine (c_i_LineRead r3 (by have := HSz.out; unfold maxLen; omega) (HG.out.past (chain HT2.out HB5.out)) (HM.out.past (chain HT2.out HB5.out)) (cell_past (chain HT2.out HB5.out) HE.out)).mono ?_
      rintro e w6 ⟨s, rfl, hL, hb6⟩
      have HBk := hide (HA.out.back hte hL)
      have HB6 : Hid (Below w2.heap.size w2 w6) := chain HB5.out hb6
      clear hb6 hL
      unfold outL
      dsimp only
      refine hK.out _ _ (fun _ => HB6.out) ?_
      clear hK K
      try simp only [Act.put, List.setIfInBounds_toArray, List.set_cons_zero, List.set_cons_succ]
      refine takeK (i := 19) (d := 40) (v := .bool false) rfl rfl (by kernel_rfl) (by kernel_rfl) (by kernel_rfl) (by decide) (by kernel_rfl) (fun _ _ _ h => h) (Or.inl ⟨by rfl, fun W hW => ?_⟩) HB6.out ?_
      · obtain ⟨g1, g2, g3, g4, g5, g6, g7, g8⟩ := HBk.out
        clear hW
        first | (go_simp; done) | (go_simp; simp [*])
      simp only [List.setIfInBounds_toArray, List.set_cons_zero, List.set_cons_succ]
      refine takeK (i := 20) (d := 41) (v := .bool false) rfl rfl (by kernel_rfl) (by kernel_rfl) (by kernel_rfl) (by decide) (by kernel_rfl) (fun _ _ _ h => h) (Or.inl ⟨by rfl, fun W hW => ?_⟩) HB6.out ?_
      · clear hW
        go_simp
      simp only [List.setIfInBounds_toArray, List.set_cons_zero, List.set_cons_succ]
      refine takeK (i := 21) (d := 42) (v := .bool false) rfl rfl (by kernel_rfl) (by kernel_rfl) (by kernel_rfl) (by decide) (by kernel_rfl) (fun _ _ _ h => h) (Or.inl ⟨by rfl, fun W hW => ?_⟩) HB6.out ?_
      · clear hW
        go_simp
      simp only [List.setIfInBounds_toArray, List.set_cons_zero, List.set_cons_succ]
      refine doneK (by kernel_rfl) ?_ _
      go_wp2
      go_meet
      exact ⟨rfl, HB6⟩
  case rest =>
    obtain ⟨rfl, HB3⟩ := hcut
    obtain ⟨w3, hw3⟩ : ∃ w3, wc = w3 := ⟨_, rfl⟩
    rw [hw3] at HB3 ⊢
    clear hw3
    have HT3 := hide (chain HT2.out HB3.out)
    have HC3 := hide (codeAt_in (B := w3.heap.size) HCb.out HT3.out (Nat.le_refl _) HT3.out.size)
    clear HB3 HK HA HSz HT2 HBs hbb hss
    go_wp2_with fail
    refine (c_DrawLineRead HC3.out).mono ?_
    rintro e w4 ⟨u, rfl, hu, hb4⟩
    have HT4 := hide (chain HT3.out hb4)
    clear hb4 HC3
    have huz : u.size ≤ maxLen := by unfold maxLen; omega
    go_wp2_with fail
    refine (c_i_LineRead u huz (HG.out.past HT4.out) (HM.out.past HT4.out) (cell_past HT4.out HE.out)).mono ?_
    rintro e w5 ⟨s, rfl, hL, hb5⟩
    have HL := hide hL
    have a5 : Below w5.heap.size w5 (w5.alloc (.cells #[.int .i64 s.k, .string s.se, .int .i64 s.va, .string s.wd, .int .u64 s.wt, .bool s.td, .int .i64 s.ti, .int .i64 s.c] 34)) := (Below.refl _ _).alloc (Nat.le_refl _) _
    have HT5 := hide (chain (chain HT4.out hb5) a5)
    have HR5 := hide (heap_alloc_new w5 (.cells #[.int .i64 s.k, .string s.se, .int .i64 s.va, .string s.wd, .int .u64 s.wt, .bool s.td, .int .i64 s.ti, .int .i64 s.c] 34))
    have hz5 : w5.heap.size < (w5.alloc (.cells #[.int .i64 s.k, .string s.se, .int .i64 s.va, .string s.wd, .int .u64 s.wt, .bool s.td, .int .i64 s.ti, .int .i64 s.c] 34)).heap.size := by simp
    have HZ5 := hide hz5
    clear hL hb5 a5 hz5
    unfold outL
    go_upto_region 9 with fail
    generalize w5.alloc (.cells #[.int .i64 s.k, .string s.se, .int .i64 s.va, .string s.wd, .int .u64 s.wt, .bool s.td, .int .i64 s.ti, .int .i64 s.c] 34) = W5 at HT5 HR5 HZ5 ⊢
    generalize w5.heap.size = c at HR5 HZ5 ⊢
    have HK5 : Hid (∀ W, Below W5.heap.size W5 W → W.heap[c]? = some (.cells #[.int .i64 s.k, .string s.se, .int .i64 s.va, .string s.wd, .int .u64 s.wt, .bool s.td, .int .i64 s.ti, .int .i64 s.c] 34 (0, 0))) := fun W hW => (hW.block _ HZ5.out).trans HR5.out
    have es1 : (s.se.toList == s.se.toList) = true := by simp
    have es2 : (s.wd.toList == s.wd.toList) = true := by simp
    by_cases hc0 : s.c = 0
    · have hr := HL.out.right hc0
      have HRt : Hid (smpB s.k s.se s.va s.wd s.wt s.td (s.ti : Int) = true ∧ serRB s.se = true ∧ s.se.size ≤ maxLen ∧ s.wd.size ≤ maxLen) := by
        obtain ⟨nm, K, hS⟩ := smp_ser hr.1
        have hX := lx_of hr.1 hS
        exact ⟨hr.1, hr.2, by have := hS.2.2.2.2.1; unfold maxLen; omega, by have := hX.wd; unfold maxLen; omega⟩
      have hcb : (s.c != 0) = false := by simp [hc0]
      clear hc0 hr
      have HS0 : (fun W => Below W5.heap.size W5 W) W5.drew := (Below.refl _ _).drew
      refine regionK (fun W => Below W5.heap.size W5 W) 20 (by kernel_rfl) ?_
      refine takeK (i := 0) (d := 47) (v := .agg #[.int .i64 s.k, .string s.se, .int .i64 s.va, .string s.wd, .int .u64 s.wt, .bool s.td, .int .i64 s.ti, .int .i64 s.c]) rfl rfl (by kernel_rfl) (by kernel_rfl) (by kernel_rfl) (by decide) (by kernel_rfl) (fun _ _ _ h => h) (Or.inl ⟨by rfl, fun W hW => ?_⟩) HS0 ?_
      · have hRW := HK5.out W hW
        have y0 := cellKX hRW 0 rfl
        have y1 := cellKX hRW 1 rfl
        have y2 := cellKX hRW 2 rfl
        have y3 := cellKX hRW 3 rfl
        have y4 := cellKX hRW 4 rfl
        have y5 := cellKX hRW 5 rfl
        have y6 := cellKX hRW 6 rfl
        have y7 := cellKX hRW 7 rfl
        clear hRW
        clear hW
        go_simp
      simp only [List.setIfInBounds_toArray, List.set_cons_zero, List.set_cons_succ]
      refine takeK (i := 1) (d := 48) (v := .string u) rfl rfl (by kernel_rfl) (by kernel_rfl) (by kernel_rfl) (by decide) (by kernel_rfl) (fun _ _ _ h => h) (Or.inl ⟨by rfl, fun W hW => ?_⟩) HS0 ?_
      · clear hW
        go_simp
      simp only [List.setIfInBounds_toArray, List.set_cons_zero, List.set_cons_succ]
      refine oneK (i := 2) (by kernel_rfl) rfl (fun K hK => ?_)
      go_simp
      refine (c_s_LineRead u huz).mono ?_
      rintro e w6 ⟨s2, rfl, hL2, hb6⟩
      obtain rfl := hL2.one HL.out
      have HB6 : Hid (Below W5.heap.size W5 w6) := (HS0 : Below W5.heap.size W5 W5.drew).trans (hb6.mono (Nat.le_refl _))
      clear hb6 hL2
      unfold outL
      dsimp only
      refine hK.out _ _ (fun _ => HB6.out) ?_
      clear hK K
      try simp only [Act.put, List.setIfInBounds_toArray, List.set_cons_zero, List.set_cons_succ]
      refine takeK (i := 3) (d := 50) (v := .bool true) rfl rfl (by kernel_rfl) (by kernel_rfl) (by kernel_rfl) (by decide) (by kernel_rfl) (fun _ _ _ h => h) (Or.inl ⟨by rfl, fun W hW => ?_⟩) HB6.out ?_
      · clear hW
        go_simp
      simp only [List.setIfInBounds_toArray, List.set_cons_zero, List.set_cons_succ]
      refine takeK (i := 4) (d := 51) (v := .bool true) rfl rfl (by kernel_rfl) (by kernel_rfl) (by kernel_rfl) (by decide) (by kernel_rfl) (fun _ _ _ h => h) (Or.inl ⟨by rfl, fun W hW => ?_⟩) HB6.out ?_
      · clear hW
        go_simp
      simp only [List.setIfInBounds_toArray, List.set_cons_zero, List.set_cons_succ]
      refine takeK (i := 5) (d := 52) (v := .pointer (some ⟨c, 7, none⟩)) rfl rfl (by kernel_rfl) (by kernel_rfl) (by kernel_rfl) (by decide) (by kernel_rfl) (fun _ _ _ h => h) (Or.inl ⟨by rfl, fun W hW => ?_⟩) HB6.out ?_
      · clear hW
        go_simp
      simp only [List.setIfInBounds_toArray, List.set_cons_zero, List.set_cons_succ]
      refine takeK (i := 6) (d := 53) (v := .int .i64 s2.c) rfl rfl (by kernel_rfl) (by kernel_rfl) (by kernel_rfl) (by decide) (by kernel_rfl) (fun _ _ _ h => h) (Or.inl ⟨by rfl, fun W hW => ?_⟩) HB6.out ?_
      · have hRW := HK5.out W hW
        have y0 := cellKX hRW 0 rfl
        have y1 := cellKX hRW 1 rfl
        have y2 := cellKX hRW 2 rfl
        have y3 := cellKX hRW 3 rfl
        have y4 := cellKX hRW 4 rfl
        have y5 := cellKX hRW 5 rfl
        have y6 := cellKX hRW 6 rfl
        have y7 := cellKX hRW 7 rfl
        clear hRW
        clear hW
        go_simp
      simp only [List.setIfInBounds_toArray, List.set_cons_zero, List.set_cons_succ]
      refine takeK (i := 7) (d := 54) (v := .bool false) rfl rfl (by kernel_rfl) (by kernel_rfl) (by kernel_rfl) (by decide) (by kernel_rfl) (fun _ _ _ h => h) (Or.inl ⟨by rfl, fun W hW => ?_⟩) HB6.out ?_
      · clear hW
        go_simp
      simp only [List.setIfInBounds_toArray, List.set_cons_zero, List.set_cons_succ]
      refine takeK (i := 8) (d := 55) (v := .bool false) rfl rfl (by kernel_rfl) (by kernel_rfl) (by kernel_rfl) (by decide) (by kernel_rfl) (fun _ _ _ h => h) (Or.inl ⟨by rfl, fun W hW => ?_⟩) HB6.out ?_
      · clear hW
        go_simp
      simp only [List.setIfInBounds_toArray, List.set_cons_zero, List.set_cons_succ]
      refine takeK (i := 9) (d := 56) (v := .pointer (some ⟨c, 0, none⟩)) rfl rfl (by kernel_rfl) (by kernel_rfl) (by kernel_rfl) (by decide) (by kernel_rfl) (fun _ _ _ h => h) (Or.inl ⟨by rfl, fun W hW => ?_⟩) HB6.out ?_
      · clear hW
        go_simp
      simp only [List.setIfInBounds_toArray, List.set_cons_zero, List.set_cons_succ]
      refine takeK (i := 10) (d := 57) (v := .agg #[.int .i64 s2.k, .string s2.se, .int .i64 s2.va, .string s2.wd, .int .u64 s2.wt, .bool s2.td, .int .i64 s2.ti]) rfl rfl (by kernel_rfl) (by kernel_rfl) (by kernel_rfl) (by decide) (by kernel_rfl) (fun _ _ _ h => h) (Or.inl ⟨by rfl, fun W hW => ?_⟩) HB6.out ?_
      · have hRW := HK5.out W hW
        have y0 := cellKX hRW 0 rfl
        have y1 := cellKX hRW 1 rfl
        have y2 := cellKX hRW 2 rfl
        have y3 := cellKX hRW 3 rfl
        have y4 := cellKX hRW 4 rfl
        have y5 := cellKX hRW 5 rfl
        have y6 := cellKX hRW 6 rfl
        have y7 := cellKX hRW 7 rfl
        clear hRW
        clear hW
        go_simp
      simp only [List.setIfInBounds_toArray, List.set_cons_zero, List.set_cons_succ]
      refine oneK (i := 11) (by kernel_rfl) rfl (fun K hK => ?_)
      go_simp
      refine (c_i_SampleRight s2.k s2.se s2.va s2.wd s2.wt s2.td (s2.ti : Int) (HM.out.past (chain HT5.out HB6.out)) HRt.out.2.2.1 HRt.out.2.2.2).mono ?_
      rintro e w7 ⟨rfl, hb7⟩
      rw [HRt.out.1]
      have HB7 : Hid (Below W5.heap.size W5 w7) := chain HB6.out hb7
      clear hb7
      dsimp only
      refine hK.out _ _ (fun _ => HB7.out) ?_
      clear hK K
      try simp only [Act.put, List.setIfInBounds_toArray, List.set_cons_zero, List.set_cons_succ]
      refine takeK (i := 12) (d := 59) (v := .bool true) rfl rfl (by kernel_rfl) (by kernel_rfl) (by kernel_rfl) (by decide) (by kernel_rfl) (fun _ _ _ h => h) (Or.inl ⟨by rfl, fun W hW => ?_⟩) HB7.out ?_
      · clear hW
        go_simp
      simp only [List.setIfInBounds_toArray, List.set_cons_zero, List.set_cons_succ]
      refine takeK (i := 13) (d := 60) (v := .pointer (some ⟨c, 0, none⟩)) rfl rfl (by kernel_rfl) (by kernel_rfl) (by kernel_rfl) (by decide) (by kernel_rfl) (fun _ _ _ h => h) (Or.inl ⟨by rfl, fun W hW => ?_⟩) HB7.out ?_
      · clear hW
        go_simp
      simp only [List.setIfInBounds_toArray, List.set_cons_zero, List.set_cons_succ]
      refine takeK (i := 14) (d := 61) (v := .pointer (some ⟨c, 1, none⟩)) rfl rfl (by kernel_rfl) (by kernel_rfl) (by kernel_rfl) (by decide) (by kernel_rfl) (fun _ _ _ h => h) (Or.inl ⟨by rfl, fun W hW => ?_⟩) HB7.out ?_
      · clear hW
        go_simp
      simp only [List.setIfInBounds_toArray, List.set_cons_zero, List.set_cons_succ]
      refine takeK (i := 15) (d := 62) (v := .string s2.se) rfl rfl (by kernel_rfl) (by kernel_rfl) (by kernel_rfl) (by decide) (by kernel_rfl) (fun _ _ _ h => h) (Or.inl ⟨by rfl, fun W hW => ?_⟩) HB7.out ?_
      · have hRW := HK5.out W hW
        have y0 := cellKX hRW 0 rfl
        have y1 := cellKX hRW 1 rfl
        have y2 := cellKX hRW 2 rfl
        have y3 := cellKX hRW 3 rfl
        have y4 := cellKX hRW 4 rfl
        have y5 := cellKX hRW 5 rfl
        have y6 := cellKX hRW 6 rfl
        have y7 := cellKX hRW 7 rfl
        clear hRW
        clear hW
        go_simp
      simp only [List.setIfInBounds_toArray, List.set_cons_zero, List.set_cons_succ]
      refine oneK (i := 16) (by kernel_rfl) rfl (fun K hK => ?_)
      go_simp
      refine (c_i_SeriesRight s2.se (HM.out.past (chain HT5.out HB7.out)) HRt.out.2.2.1).mono ?_
      rintro e w8 ⟨rfl, hb8⟩
      rw [HRt.out.2.1]
      have HB8 : Hid (Below W5.heap.size W5 w8) := chain HB7.out hb8
      clear hb8
      dsimp only
      refine hK.out _ _ (fun _ => HB8.out) ?_
      clear hK K
      try simp only [Act.put, List.setIfInBounds_toArray, List.set_cons_zero, List.set_cons_succ]
      refine takeK (i := 17) (d := 64) (v := .bool true) rfl rfl (by kernel_rfl) (by kernel_rfl) (by kernel_rfl) (by decide) (by kernel_rfl) (fun _ _ _ h => h) (Or.inl ⟨by rfl, fun W hW => ?_⟩) HB8.out ?_
      · clear hW
        go_simp
      simp only [List.setIfInBounds_toArray, List.set_cons_zero, List.set_cons_succ]
      refine takeK (i := 18) (d := 65) (v := .bool true) rfl rfl (by kernel_rfl) (by kernel_rfl) (by kernel_rfl) (by decide) (by kernel_rfl) (fun _ _ _ h => h) (Or.inl ⟨by rfl, fun W hW => ?_⟩) HB8.out ?_
      · clear hW
        go_simp
      simp only [List.setIfInBounds_toArray, List.set_cons_zero, List.set_cons_succ]
      refine takeK (i := 19) (d := 66) (v := .bool true) rfl rfl (by kernel_rfl) (by kernel_rfl) (by kernel_rfl) (by decide) (by kernel_rfl) (fun _ _ _ h => h) (Or.inl ⟨by rfl, fun W hW => ?_⟩) HB8.out ?_
      · clear hW
        go_simp
      simp only [List.setIfInBounds_toArray, List.set_cons_zero, List.set_cons_succ]
      refine oneK (i := 20) (by kernel_rfl) rfl (fun K hK => ?_)
      go_simp
      refine hK.out _ _ (fun h => absurd rfl h) ?_
      clear hK K
      try simp only [Act.put, List.setIfInBounds_toArray, List.set_cons_zero, List.set_cons_succ]
      refine doneK (by kernel_rfl) ?_ _
      go_wp2
      go_ret
      exact ⟨rfl, chain HT5.out HB8.out⟩
    · have hcb : (s.c != 0) = true := by simp [hc0]
      clear hc0
      have HS0 : (fun W => Below W5.heap.size W5 W) W5.drew := (Below.refl _ _).drew
      refine regionK (fun W => Below W5.heap.size W5 W) 20 (by kernel_rfl) ?_
      refine takeK (i := 0) (d := 47) (v := .agg #[.int .i64 s.k, .string s.se, .int .i64 s.va, .string s.wd, .int .u64 s.wt, .bool s.td, .int .i64 s.ti, .int .i64 s.c]) rfl rfl (by kernel_rfl) (by kernel_rfl) (by kernel_rfl) (by decide) (by kernel_rfl) (fun _ _ _ h => h) (Or.inl ⟨by rfl, fun W hW => ?_⟩) HS0 ?_
      · have hRW := HK5.out W hW
        have y0 := cellKX hRW 0 rfl
        have y1 := cellKX hRW 1 rfl
        have y2 := cellKX hRW 2 rfl
        have y3 := cellKX hRW 3 rfl
        have y4 := cellKX hRW 4 rfl
        have y5 := cellKX hRW 5 rfl
        have y6 := cellKX hRW 6 rfl
        have y7 := cellKX hRW 7 rfl
        clear hRW
        clear hW
        go_simp
      simp only [List.setIfInBounds_toArray, List.set_cons_zero, List.set_cons_succ]
      refine takeK (i := 1) (d := 48) (v := .string u) rfl rfl (by kernel_rfl) (by kernel_rfl) (by kernel_rfl) (by decide) (by kernel_rfl) (fun _ _ _ h => h) (Or.inl ⟨by rfl, fun W hW => ?_⟩) HS0 ?_
      · clear hW
        go_simp
      simp only [List.setIfInBounds_toArray, List.set_cons_zero, List.set_cons_succ]
      refine oneK (i := 2) (by kernel_rfl) rfl (fun K hK => ?_)
      go_simp
      refine (c_s_LineRead u huz).mono ?_
      rintro e w6 ⟨s2, rfl, hL2, hb6⟩
      obtain rfl := hL2.one HL.out
      have HB6 : Hid (Below W5.heap.size W5 w6) := (HS0 : Below W5.heap.size W5 W5.drew).trans (hb6.mono (Nat.le_refl _))
      clear hb6 hL2
      unfold outL
      dsimp only
      refine hK.out _ _ (fun _ => HB6.out) ?_
      clear hK K
      try simp only [Act.put, List.setIfInBounds_toArray, List.set_cons_zero, List.set_cons_succ]
      refine takeK (i := 3) (d := 50) (v := .bool true) rfl rfl (by kernel_rfl) (by kernel_rfl) (by kernel_rfl) (by decide) (by kernel_rfl) (fun _ _ _ h => h) (Or.inl ⟨by rfl, fun W hW => ?_⟩) HB6.out ?_
      · clear hW
        go_simp
      simp only [List.setIfInBounds_toArray, List.set_cons_zero, List.set_cons_succ]
      refine takeK (i := 4) (d := 51) (v := .bool true) rfl rfl (by kernel_rfl) (by kernel_rfl) (by kernel_rfl) (by decide) (by kernel_rfl) (fun _ _ _ h => h) (Or.inl ⟨by rfl, fun W hW => ?_⟩) HB6.out ?_
      · clear hW
        go_simp
      simp only [List.setIfInBounds_toArray, List.set_cons_zero, List.set_cons_succ]
      refine takeK (i := 5) (d := 52) (v := .pointer (some ⟨c, 7, none⟩)) rfl rfl (by kernel_rfl) (by kernel_rfl) (by kernel_rfl) (by decide) (by kernel_rfl) (fun _ _ _ h => h) (Or.inl ⟨by rfl, fun W hW => ?_⟩) HB6.out ?_
      · clear hW
        go_simp
      simp only [List.setIfInBounds_toArray, List.set_cons_zero, List.set_cons_succ]
      refine takeK (i := 6) (d := 53) (v := .int .i64 s2.c) rfl rfl (by kernel_rfl) (by kernel_rfl) (by kernel_rfl) (by decide) (by kernel_rfl) (fun _ _ _ h => h) (Or.inl ⟨by rfl, fun W hW => ?_⟩) HB6.out ?_
      · have hRW := HK5.out W hW
        have y0 := cellKX hRW 0 rfl
        have y1 := cellKX hRW 1 rfl
        have y2 := cellKX hRW 2 rfl
        have y3 := cellKX hRW 3 rfl
        have y4 := cellKX hRW 4 rfl
        have y5 := cellKX hRW 5 rfl
        have y6 := cellKX hRW 6 rfl
        have y7 := cellKX hRW 7 rfl
        clear hRW
        clear hW
        go_simp
      simp only [List.setIfInBounds_toArray, List.set_cons_zero, List.set_cons_succ]
      refine takeK (i := 7) (d := 54) (v := .bool true) rfl rfl (by kernel_rfl) (by kernel_rfl) (by kernel_rfl) (by decide) (by kernel_rfl) (fun _ _ _ h => h) (Or.inl ⟨by rfl, fun W hW => ?_⟩) HB6.out ?_
      · clear hW
        go_simp
      simp only [List.setIfInBounds_toArray, List.set_cons_zero, List.set_cons_succ]
      refine takeK (i := 8) (d := 55) (v := .bool true) rfl rfl (by kernel_rfl) (by kernel_rfl) (by kernel_rfl) (by decide) (by kernel_rfl) (fun _ _ _ h => h) (Or.inl ⟨by rfl, fun W hW => ?_⟩) HB6.out ?_
      · clear hW
        go_simp
      simp only [List.setIfInBounds_toArray, List.set_cons_zero, List.set_cons_succ]
      refine takeK (i := 9) (d := 56) (v := undef) rfl rfl (by kernel_rfl) (by kernel_rfl) (by kernel_rfl) (by decide) (by kernel_rfl) (fun _ _ _ h => h) (Or.inr ⟨by rfl, rfl⟩) HB6.out ?_
      simp only [List.setIfInBounds_toArray, List.set_cons_zero, List.set_cons_succ]
      refine takeK (i := 10) (d := 57) (v := undef) rfl rfl (by kernel_rfl) (by kernel_rfl) (by kernel_rfl) (by decide) (by kernel_rfl) (fun _ _ _ h => h) (Or.inr ⟨by rfl, rfl⟩) HB6.out ?_
      simp only [List.setIfInBounds_toArray, List.set_cons_zero, List.set_cons_succ]
      refine oneK (i := 11) (by kernel_rfl) rfl (fun K hK => ?_)
      refine Eq.mpr (if_neg (fun h => Bool.noConfusion (show false = true from h))) ?_
      refine hK.out _ _ (fun _ => HB6.out) ?_
      clear hK K
      try simp only [Act.put, List.setIfInBounds_toArray, List.set_cons_zero, List.set_cons_succ]
      refine takeK (i := 12) (d := 59) (v := undef) rfl rfl (by kernel_rfl) (by kernel_rfl) (by kernel_rfl) (by decide) (by kernel_rfl) (fun _ _ _ h => h) (Or.inr ⟨by rfl, rfl⟩) HB6.out ?_
      simp only [List.setIfInBounds_toArray, List.set_cons_zero, List.set_cons_succ]
      refine takeK (i := 13) (d := 60) (v := undef) rfl rfl (by kernel_rfl) (by kernel_rfl) (by kernel_rfl) (by decide) (by kernel_rfl) (fun _ _ _ h => h) (Or.inr ⟨by rfl, rfl⟩) HB6.out ?_
      simp only [List.setIfInBounds_toArray, List.set_cons_zero, List.set_cons_succ]
      refine takeK (i := 14) (d := 61) (v := undef) rfl rfl (by kernel_rfl) (by kernel_rfl) (by kernel_rfl) (by decide) (by kernel_rfl) (fun _ _ _ h => h) (Or.inr ⟨by rfl, rfl⟩) HB6.out ?_
      simp only [List.setIfInBounds_toArray, List.set_cons_zero, List.set_cons_succ]
      refine takeK (i := 15) (d := 62) (v := undef) rfl rfl (by kernel_rfl) (by kernel_rfl) (by kernel_rfl) (by decide) (by kernel_rfl) (fun _ _ _ h => h) (Or.inr ⟨by rfl, rfl⟩) HB6.out ?_
      simp only [List.setIfInBounds_toArray, List.set_cons_zero, List.set_cons_succ]
      refine oneK (i := 16) (by kernel_rfl) rfl (fun K hK => ?_)
      refine Eq.mpr (if_neg (fun h => Bool.noConfusion (show false = true from h))) ?_
      refine hK.out _ _ (fun _ => HB6.out) ?_
      clear hK K
      try simp only [Act.put, List.setIfInBounds_toArray, List.set_cons_zero, List.set_cons_succ]
      refine takeK (i := 17) (d := 64) (v := undef) rfl rfl (by kernel_rfl) (by kernel_rfl) (by kernel_rfl) (by decide) (by kernel_rfl) (fun _ _ _ h => h) (Or.inr ⟨by rfl, rfl⟩) HB6.out ?_
      simp only [List.setIfInBounds_toArray, List.set_cons_zero, List.set_cons_succ]
      refine takeK (i := 18) (d := 65) (v := .bool true) rfl rfl (by kernel_rfl) (by kernel_rfl) (by kernel_rfl) (by decide) (by kernel_rfl) (fun _ _ _ h => h) (Or.inl ⟨by rfl, fun W hW => ?_⟩) HB6.out ?_
      · clear hW
        go_simp
      simp only [List.setIfInBounds_toArray, List.set_cons_zero, List.set_cons_succ]
      refine takeK (i := 19) (d := 66) (v := .bool true) rfl rfl (by kernel_rfl) (by kernel_rfl) (by kernel_rfl) (by decide) (by kernel_rfl) (fun _ _ _ h => h) (Or.inl ⟨by rfl, fun W hW => ?_⟩) HB6.out ?_
      · clear hW
        go_simp
      simp only [List.setIfInBounds_toArray, List.set_cons_zero, List.set_cons_succ]
      refine oneK (i := 20) (by kernel_rfl) rfl (fun K hK => ?_)
      go_simp
      refine hK.out _ _ (fun h => absurd rfl h) ?_
      clear hK K
      try simp only [Act.put, List.setIfInBounds_toArray, List.set_cons_zero, List.set_cons_succ]
      refine doneK (by kernel_rfl) ?_ _
      go_wp2
      go_ret
      exact ⟨rfl, chain HT5.out HB6.out⟩
theorem etG : Tryz.prog.globalNamed "errors.errorType" = some 0 := by kernel_rfl
theorem etR : (Tryz.prog.cutTypes.find? (·.1 == "internal/reflectlite.rtype")).map (·.2) = some 145 := by kernel_rfl
theorem etOne : ((List.range 252).filter fun t => Tryz.prog.rowNamed t [101, 114, 114, 111, 114]) = [49] := by kernel_rfl
theorem etSize : Tryz.prog.types.size = 252 := by kernel_rfl
set_option maxRecDepth 100000 in
theorem errT_of_laid {W : World} {l : List (String × DataW Unit)} (h : laidMetH Tryz.prog l W) (hm : ("errors.errorType", Rows.laid_errors_errorType) ∈ l.filter fun x => x.2.handleName?.isSome) : errT W := by
  have h' := (laidMetH_iff.1 h).2 _ hm
  obtain ⟨name, u, ty, e1, e2, e3, e4, e5⟩ := h'
  have en : name = [101, 114, 114, 111, 114] := (Option.some.inj e1).symm
  subst en
  obtain rfl := Option.some.inj (etR.symm.trans e2)
  have hm : ty ∈ (List.range 252).filter fun t => Tryz.prog.rowNamed t [101, 114, 114, 111, 114] := List.mem_filter.2 ⟨List.mem_range.2 (by rw [← etSize]; exact e3), e4⟩
  rw [etOne] at hm
  obtain rfl := List.mem_singleton.1 hm
  have hh : typeHandle Tryz.prog 49 = .pointer (some ⟨9, 49, none⟩) := by kernel_rfl
  rw [hh] at e5
  simpa [errT] using World.var?_cell etG e5 0


theorem iface_cell {W : World} {name : String} {nm : String} {d : DataW Unit} {g : Nat} {t : TypeId} {ms : Array (String × TypeId)} {rest : List (String × DataW Unit)} (hg : Tryz.prog.globalNamed name = some g) (hty : (Tryz.prog.globals[g]?).map (·.type) = some t) (ht : Tryz.prog.underlying t = some (.interface ms)) (h : laidMet Tryz.prog ((name, .iface nm d) :: rest) W) :
    ∃ te pe, W.cell? ⟨g, 0, none⟩ = some (.iface te pe) := by
  obtain ⟨ps, ⟨g', t', cs, fuel, p, q, hg', ht', hvar, hd, _, _⟩, _⟩ := h
  obtain rfl := Option.some.inj (hg.symm.trans hg')
  obtain rfl := Option.some.inj (hty.symm.trans ht')
  obtain ⟨_, u, v, hcs, _, _⟩ := iface_of_trod ht hd
  refine ⟨u, v, ?_⟩
  rw [World.var?_cell hg hvar 0, ← Array.getElem?_toList, hcs]
  rfl
set_option maxRecDepth 100000 in
theorem of_laid {W : World} (h : laidMetH Tryz.prog Rows.fnLineRow.laid W) : errT W ∧ LnG W := by
  refine ⟨errT_of_laid h ?_, ⟨?_, ?_, ?_⟩⟩
  · rw [show (Rows.fnLineRow.laid.filter fun x => x.2.handleName?.isSome) = [("errors.errorType", Rows.laid_errors_errorType)] by kernel_rfl]; exact List.mem_singleton.2 rfl
  · have h2 := ((laidMetH_iff.1 h).1).filter (fun x => x.1 == "internal/strconv.uint64pow10")
    rw [show (Rows.fnLineRow.laid.filter fun x => x.2.handleName?.isNone).filter (fun x => x.1 == "internal/strconv.uint64pow10") = [("internal/strconv.uint64pow10", Lib.tabData .u64 Lib.pow10Tab)] by kernel_rfl] at h2
    exact Lib.tabIs_of_head (g := 1) (t := 172) (e := 22) (n := 20) (by kernel_rfl) (by kernel_rfl) Tryz.underlying172 Tryz.underlying22 (by kernel_rfl) (by kernel_rfl) h2
  · have h2 := ((laidMetH_iff.1 h).1).filter (fun x => x.1 == "strconv.ErrSyntax")
    rw [show (Rows.fnLineRow.laid.filter fun x => x.2.handleName?.isNone).filter (fun x => x.1 == "strconv.ErrSyntax") = [("strconv.ErrSyntax", Rows.laid_strconv_ErrSyntax)] by kernel_rfl] at h2
    exact iface_cell (by kernel_rfl) (by kernel_rfl) Tryz.underlying49 h2
  · have h2 := ((laidMetH_iff.1 h).1).filter (fun x => x.1 == "strconv.ErrRange")
    rw [show (Rows.fnLineRow.laid.filter fun x => x.2.handleName?.isNone).filter (fun x => x.1 == "strconv.ErrRange") = [("strconv.ErrRange", Rows.laid_strconv_ErrRange)] by kernel_rfl] at h2
    exact iface_cell (by kernel_rfl) (by kernel_rfl) Tryz.underlying49 h2

set_option maxRecDepth 100000
theorem own : ownKnob Tryz.prog.godebug = none := by kernel_rfl
theorem laidOut : laidOutB Tryz.prog = true := by kernel_rfl
/-- The listed data. -/
noncomputable def dataL : List (String × DataW Unit) := Rows.fnLineRow.laid.filter fun x => x.2.handleName?.isNone
/-- A world with the handle laid. -/
noncomputable def base0 (os : Os) : World := { World.holding Tryz.prog os ⟨#[], #[], []⟩ with heap := (World.holding Tryz.prog os ⟨#[], #[], []⟩).heap.modify 0 fun | .cells _ t frozen => .cells #[.iface 145 (.agg #[.pointer (some ⟨9, 49, none⟩)])] t frozen | o => o }
noncomputable def witW (os : Os) : World := (base0 os).layVars Tryz.prog dataL
theorem witW_met (os : Os) (args : Array Value) : laidMetH Tryz.prog Rows.fnLineRow.laid ((witW os).forCall (fun _ _ => 0) ⟨#[], args, []⟩).memory :=
  laidMetH_of_parts (laidMet_over (W0 := base0 os) (laid := dataL) args (by kernel_rfl) (by kernel_rfl)) (by kernel_rfl)
theorem liftedLine (os : Os) (started : os.Started) (H : Type) (enc : TypeId × Value → H) :
    ReturnsInHanded {} Tryz.checked os 4 .any (fun w args => (Rows.fnLineSpec.pre enc Tryz.prog Tryz.f4 [] false w args ∧ laidMetH Tryz.prog Rows.fnLineRow.laid w) ∧ sizedMet enc Tryz.prog Tryz.f4 (OpenSpec.ofChange Rows.fnLineSpec) false w args)
      (Rows.fnLineSpec.post enc Tryz.prog Tryz.f4 false true false false) := by
  refine handed_shaped (C := Tryz.checked) (L := Rows.fnLineRow.laid) own started (by kernel_rfl) Tryz.func4
    (ChangeSpec.witness_shaped (enc := enc) (C := Tryz.checked) (os := os) (X := fun w _ => laidMetH Tryz.prog Rows.fnLineRow.laid w) false (witW os) #[.slice none 0 0, .slice none 0 0] 8 (World.layVars_os _ _ _)
      (World.shaped_of_ZipB (by kernel_rfl) (by kernel_rfl)) (by kernel_rfl) (by kernel_rfl) (by kernel_rfl) (witW_met os _)) ?_
  intro W base args ds gs before hval0 hW hL hsh
  have hval : ∀ (j : Nat) t v, Tryz.f4.params[j]? = some t → args[j]? = some v → Value.okWide Tryz.prog W .any base t v := hval0
  have hW' := hW
  obtain ⟨p, q, hA0, hV, rfl, hfz, hnd⟩ := hW
  have hA : DataW.TrodAll enc Tryz.prog W 0 (fun _ => true) true Tryz.f4.params.toList args.toList ds p := hA0
  rw [Tryz.params4] at hA hval
  obtain ⟨v0, vs0, d0, ds0, p0, q0, hargs, rfl, rfl, h0, r0⟩ := trodAll_cons hA
  obtain ⟨v1, vs1, d1, ds1, p1, q1, rfl, rfl, rfl, h1, r1⟩ := trodAll_cons r0
  obtain ⟨rfl, rfl, rfl⟩ := trodAll_nil r1
  obtain rfl : args = #[v0, v1] := by cases args; simp_all
  obtain ⟨rfl, rfl⟩ := trodVars_none hV
  have k0 := h0
  have lt0 : ∀ x ∈ p0, x.block < W.heap.size := by obtain ⟨m, hm⟩ := k0; exact DataW.trod_lt m _ _ _ hm
  obtain ⟨a0, n0, c0, rfl, m0, s0⟩ := open_code (hval 0 30 v0 rfl rfl) h0
  have k1 := h1
  have lt1 : ∀ x ∈ p1, x.block < W.heap.size := by obtain ⟨m, hm⟩ := k1; exact DataW.trod_lt m _ _ _ hm
  obtain ⟨a1, n1, c1, rfl, m1, s1⟩ := open_code (hval 1 30 v1 rfl rfl) h1
  clear hA0 hval0
  refine (walkLine a0 n0 c0 a1 n1 c1 W m0 s0 m1 s1 (of_laid hL).2 (mx_of hsh) (of_laid hL).1).mono fun e W' ⟨he, bel⟩ => ?_
  subst he
  exact ⟨_, rfl, _, _, _, [], _, [], hW', trodAll_mk1 (shut_bool Tryz.underlying4 _), (trodAll_cons_mk (Below.trod laidOut (by kernel_rfl) (of_decide_eq_true (by kernel_rfl)) k0 bel lt0) (trodAll_cons_mk (Below.trod laidOut (by kernel_rfl) (of_decide_eq_true (by kernel_rfl)) k1 bel lt1) trodAll_mk0)), rfl, bel.frame _, fun h => by cases h⟩

theorem saidLine : Rows.FnLineSaid :=
  OpenClaim.holds_of_wide 4 Tryz.f4 rfl rfl rfl rfl rfl rfl rfl ⟨rfl, rfl, rfl, rfl, rfl⟩ rfl rfl rfl rfl rfl (by kernel_rfl) Tryz.func4 (by kernel_rfl)
    (of_decide_eq_true (by kernel_rfl)) (by unfold Func.isWrapper; first | (rw [if_pos (by decide +kernel)]; kernel_rfl) | (rw [if_neg (by decide +kernel)]; exact ⟨rfl, rfl⟩))
    (fun os started H enc _ => liftedLine os started H enc)

/-- No parameter wants a stand-in; the program's own looks are off. -/
theorem plainLine (f : FuncId) (fn : Func) (hf : Tryz.pinned.checked.prog.funcNamed Rows.fnLineRow.func = some f) (hfn : Tryz.pinned.checked.prog.funcs[f]? = some fn) :
    Rows.fnLineCard.stood.looks = Tryz.pinned.checked.prog.looks [] ∧ ∀ (j : Nat) t, fn.params[j]? = some t → Tryz.pinned.checked.prog.wantsStandIn t = false := by
  obtain rfl : f = 4 := Option.some.inj ((show Tryz.prog.funcNamed Rows.fnLineRow.func = some 4 by kernel_rfl).symm.trans hf) |>.symm
  obtain rfl : fn = Tryz.f4 := (Option.some.inj (Tryz.func4.symm.trans hfn)).symm
  refine ⟨by kernel_rfl, fun j t ht => ?_⟩
  rw [Tryz.params4] at ht
  have ht2 := Array.mem_of_getElem? ht
  simp only [List.mem_toArray, List.mem_cons, List.not_mem_nil, or_false] at ht2
  rcases ht2 with rfl | rfl
  · exact (show Tryz.prog.wantsStandIn 30 = false by kernel_rfl)
  · exact (show Tryz.prog.wantsStandIn 30 = false by kernel_rfl)

theorem fnLine_card : Rows.FnLineCardSaid :=
  Claim7.holds_tied_plain_at .later [] _ _ _ _ saidLine (fun _ h => by cases h) (by kernel_rfl) (fun _ h => by cases h) fnLine_row_tie rfl ⟨rfl, rfl⟩ (by kernel_rfl) rfl plainLine (by kernel_rfl)
#print axioms fnLine_card

end Go.Proofs.YtnflhahnbdnaoaaGreatDoor
