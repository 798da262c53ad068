/-
  The walk of FnExactPipeRight.
-/
import Derived.Test.YtmjogablacnlgaaGreatDoorPXC
import Derived.Test.YtmjogablacnlgaaGreatDoorPPA
import Derived.Deep.DeepCutAuto
namespace Go.Proofs.YtmjogablacnlgaaGreatDoor
set_option linter.unusedVariables false
set_option linter.unusedSimpArgs false
open Go.ChangeShapes Go.WideShapes Go.ChangeAt Go.RowKit Go.PlainAid
set_option maxRecDepth 10000

theorem pi_box (w : World) (v : Value) (p : Pi) (T : TypeId) : ∀ W, Below (w.alloc (.cells (piArr v p) T)).heap.size (w.alloc (.cells (piArr v p) T)) W → W.cell? ⟨w.heap.size, 0, none⟩ = some (v) ∧ W.cell? ⟨w.heap.size, 1, none⟩ = some (.int .i64 p.a) ∧ W.cell? ⟨w.heap.size, 2, none⟩ = some (.int .i64 p.b) ∧ W.cell? ⟨w.heap.size, 3, none⟩ = some (.int .i64 p.c) ∧ W.cell? ⟨w.heap.size, 4, none⟩ = some (.int .i64 p.d) := fun W hW =>
  ⟨cell_past hW (cellKQ (heap_alloc_new w (.cells (piArr v p) T)) 0 rfl), cell_past hW (cellKQ (heap_alloc_new w (.cells (piArr v p) T)) 1 rfl), cell_past hW (cellKQ (heap_alloc_new w (.cells (piArr v p) T)) 2 rfl), cell_past hW (cellKQ (heap_alloc_new w (.cells (piArr v p) T)) 3 rfl), cell_past hW (cellKQ (heap_alloc_new w (.cells (piArr v p) T)) 4 rfl)⟩
/-- What is asked of a pipe's cells. -/
def OkP (S : List Sd) : Prop := ∀ s ∈ S, ∀ c ∈ s.L, AgOk c.g ∧ c.s.size ≤ maxLen
theorem OkP.key {S M : List Sd} (h : OkP S) (k : M.map Sd.key = S.map Sd.key) : OkP M := sds_all k (fun _ s g => AgOk g ∧ s.size ≤ maxLen) h
set_option maxHeartbeats 8000000 in
theorem walkPipeRight (ao : Option Addr) (ca : Nat) (S : List Sd) (p : Pi) (w : World) (hl : SdsLen S) (hA : SdsAt w ao S) (ok : ∀ s ∈ S, ∀ c ∈ s.L, AgOk c.g) (hm : MX w) :
    Calls Tryz.prog 3 #[.agg (piArr (.slice ao S.length ca) p)] w fun e w' => e = .returned (.bool true) ∧ Below w.heap.size w w' := by
  obtain ⟨N, hN⟩ : ∃ N, S.length = N := ⟨_, rfl⟩
  rw [hN]
  have HN := hide hN
  have HA := hide hA
  have HL := hide hl
  have OK : Hid (OkP S) := hide (fun s hs c hc => ⟨ok s hs c hc, (hl.l s hs).s c hc⟩)
  have HMx := hide hm
  have HT0 := hide ((Below.refl _ _).alloc (Nat.le_refl _) _ : Below w.heap.size w (w.alloc (.cells (piArr (.slice ao N ca) p) 24)))
  have HC := hide (pi_box w (.slice ao N ca) p 24)
  clear hN hA hl ok hm
  go_enter Tryz.func3, Tryz.ntmps3
  go_upto_region 1 with fail
  generalize w.alloc (.cells (piArr (.slice ao N ca) p) 24) = W0 at HT0 HC ⊢
  obtain ⟨x0, x1, x2, x3, x4⟩ := HC.out _ (Below.refl _ _)
  go_wp2_with fail
  clear x0 x1 x2 x3 x4
  refine (c_szPipe ca p HN.out HL.out (sds_past HA.out HT0.out)).mono ?_
  rintro e w1 ⟨v, rfl, hsm, hb1⟩
  have HT1 := hide (chain HT0.out hb1)
  have HC1 : Hid (∀ W, Below w1.heap.size w1 W → W.cell? ⟨w.heap.size, 0, none⟩ = some (.slice ao N ca) ∧ W.cell? ⟨w.heap.size, 1, none⟩ = some (.int .i64 p.a) ∧ W.cell? ⟨w.heap.size, 2, none⟩ = some (.int .i64 p.b) ∧ W.cell? ⟨w.heap.size, 3, none⟩ = some (.int .i64 p.c) ∧ W.cell? ⟨w.heap.size, 4, none⟩ = some (.int .i64 p.d)) := fun W hW => HC.out W (chain hb1 hW)
  clear hb1 HC
  by_cases hv0 : v < 0
  · clear hsm
    go_wp2
    go_ret
    exact ⟨rfl, HT1.out⟩
  have SM := hide (hsm hv0)
  clear hsm
  obtain ⟨x0, x1, x2, x3, x4⟩ := HC1.out _ (Below.refl _ _)
  go_wp2_with fail
  clear x0 x1 x2 x3 x4
  refine (c_toPipe ca p HN.out SM.out (sds_past HA.out HT1.out)).mono ?_
  rintro e w3 ⟨M3, g3, rfl, _, l3, k3, r3, hb3⟩
  have HL3 := hide l3
  have HK3 := hide k3
  have HR3 := hide r3
  have HB3 := hide hb3
  have HT3 := hide (chain HT1.out hb3)
  clear hb3 l3 k3 r3
  go_wp2_with fail
  refine (c_s_PipeRight p HL3.out (SM.out.key HK3.out) (fun s hs c hc => ⟨(OK.out.key HK3.out s hs c hc).1, (OK.out.key HK3.out s hs c hc).2, HR3.out.plg s hs c hc⟩) HR3.out.at).mono ?_
  rintro e w5 ⟨rfl, hb5⟩
  have HT5 := hide (chain HT3.out hb5)
  have HB5 := hide (chain HB3.out hb5)
  clear hb5
  obtain ⟨B, hB⟩ : ∃ B, pipB M3 p = B := ⟨_, rfl⟩
  rw [hB]
  have HBB := hide hB
  clear hB
  obtain ⟨x0, x1, x2, x3, x4⟩ := HC1.out _ HB5.out
  go_wp2_with fail
  clear x0 x1 x2 x3 x4
  refine (c_toPipe ca p HN.out SM.out (sds_past HA.out HT5.out)).mono ?_
  rintro e w6 ⟨M6, g6, rfl, _, l6, k6, r6, hb6⟩
  have HL6 := hide l6
  have HK6 := hide k6
  have HR6 := hide r6.at
  have HB6 := hide (chain HB5.out hb6)
  have HT6 := hide (chain HT5.out hb6)
  clear hb6 l6 k6 r6
  have HX6 := hide ((Below.refl _ _).alloc (Nat.le_refl _) _ : Below w6.heap.size w6 (w6.alloc (.cells (piArr (.slice (some ⟨g6, 0, none⟩) N N) p) 29)))
  have HCX := hide (pi_box w6 (.slice (some ⟨g6, 0, none⟩) N N) p 29)
  go_upto_region 7 with fail
  generalize w6.alloc (.cells (piArr (.slice (some ⟨g6, 0, none⟩) N N) p) 29) = W6 at HX6 HCX ⊢
  obtain ⟨x0, x1, x2, x3, x4⟩ := HCX.out _ (Below.refl _ _)
  go_wp2_with fail
  clear x0 x1 x2 x3 x4
  refine (c_i_PipeRight p HL6.out (SM.out.key HK6.out) (OK.out.key HK6.out) (HMx.out.past (chain HT6.out HX6.out)) (sds_past HR6.out HX6.out)).mono ?_
  rintro e w8 ⟨rfl, hb8⟩
  have HT8 := hide (chain (chain HT6.out HX6.out) hb8)
  have HB8 := hide (chain (chain HB6.out HX6.out) hb8)
  have HR8 := hide (sds_past HR6.out (chain HX6.out hb8))
  have HCX8 : Hid (∀ W, Below w8.heap.size w8 W → W.cell? ⟨w6.heap.size, 0, none⟩ = some (.slice (some ⟨g6, 0, none⟩) N N) ∧ W.cell? ⟨w6.heap.size, 1, none⟩ = some (.int .i64 p.a) ∧ W.cell? ⟨w6.heap.size, 2, none⟩ = some (.int .i64 p.b) ∧ W.cell? ⟨w6.heap.size, 3, none⟩ = some (.int .i64 p.c) ∧ W.cell? ⟨w6.heap.size, 4, none⟩ = some (.int .i64 p.d)) := fun W hW => HCX.out W (chain hb8 hW)
  have HC8 : Hid (∀ W, Below w8.heap.size w8 W → W.cell? ⟨w.heap.size, 0, none⟩ = some (.slice ao N ca) ∧ W.cell? ⟨w.heap.size, 1, none⟩ = some (.int .i64 p.a) ∧ W.cell? ⟨w.heap.size, 2, none⟩ = some (.int .i64 p.b) ∧ W.cell? ⟨w.heap.size, 3, none⟩ = some (.int .i64 p.c) ∧ W.cell? ⟨w.heap.size, 4, none⟩ = some (.int .i64 p.d)) := fun W hW => HC1.out W (chain HB8.out hW)
  clear hb8 HCX HC1
  have e6 : pipB M6 p = B := (pipB_key (HK6.out.trans HK3.out.symm) p).trans HBB.out
  rw [e6]
  clear e6
  cases B <;> go_upto_region 10 with fail
  · have HS0 : (fun W => Below w8.heap.size w8 W) w8.drew := (Below.refl _ _).drew
    refine regionK (fun W => Below w8.heap.size w8 W) 99 (by kernel_rfl) ?_
    refine takeK (i := 0) (d := 22) (v := .agg (piArr (.slice (some ⟨g6, 0, none⟩) N N) p)) rfl rfl (by kernel_rfl) (by kernel_rfl) (by kernel_rfl) (by decide) (by kernel_rfl) (fun _ _ _ h => h) (Or.inl ⟨by rfl, fun W hW => ?_⟩) HS0 ?_
    · obtain ⟨x0, x1, x2, x3, x4⟩ := HCX8.out W hW
      obtain ⟨y0, y1, y2, y3, y4⟩ := HC8.out W hW
      clear hW
      go_simp
    simp only [List.setIfInBounds_toArray, List.set_cons_zero, List.set_cons_succ]
    refine takeK (i := 1) (d := 23) (v := .agg (piArr (.slice ao N ca) p)) rfl rfl (by kernel_rfl) (by kernel_rfl) (by kernel_rfl) (by decide) (by kernel_rfl) (fun _ _ _ h => h) (Or.inl ⟨by rfl, fun W hW => ?_⟩) HS0 ?_
    · obtain ⟨x0, x1, x2, x3, x4⟩ := HCX8.out W hW
      obtain ⟨y0, y1, y2, y3, y4⟩ := HC8.out W hW
      clear hW
      go_simp
    simp only [List.setIfInBounds_toArray, List.set_cons_zero, List.set_cons_succ]
    refine oneK (i := 2) (by kernel_rfl) rfl (fun K hK => ?_)
    go_simp
    refine (c_toPipe ca p HN.out SM.out (sds_past HA.out (chain HT8.out HS0))).mono ?_
    rintro e w9 ⟨M9, g9, rfl, _, l9, k9, r9, hb9⟩
    have HL9 := hide l9
    have HK9 := hide k9
    have HR9 := hide r9.at
    have HB9 : Hid (Below w8.heap.size w8 w9) := (HS0 : Below w8.heap.size w8 w8.drew).trans (hb9.mono (Nat.le_refl _))
    clear hb9 l9 k9 r9
    dsimp only
    refine hK.out _ _ (fun _ => HB9.out) ?_
    clear hK K
    try simp only [Act.put, List.setIfInBounds_toArray, List.set_cons_zero, List.set_cons_succ]
    refine oneK (i := 3) (by kernel_rfl) rfl (fun K hK => ?_)
    go_simp
    refine (c_eqPipe p HL6.out HL9.out (HK6.out.trans HK9.out.symm) (SM.out.key HK6.out) (sds_past HR8.out HB9.out) HR9.out).mono ?_
    rintro e w10 ⟨rfl, hb10⟩
    have HB10 : Hid (Below w8.heap.size w8 w10) := chain HB9.out hb10
    have HT10 := hide (chain HT8.out HB10.out)
    clear hb10
    dsimp only
    refine hK.out _ _ (fun _ => HB10.out) ?_
    clear hK K
    try simp only [Act.put, List.setIfInBounds_toArray, List.set_cons_zero, List.set_cons_succ]
    refine takeK (i := 4) (d := 26) (v := .bool false) rfl rfl (by kernel_rfl) (by kernel_rfl) (by kernel_rfl) (by decide) (by kernel_rfl) (fun _ _ _ h => h) (Or.inl ⟨by rfl, fun W hW => ?_⟩) HB10.out ?_
    · clear hW
      go_simp
    simp only [List.setIfInBounds_toArray, List.set_cons_zero, List.set_cons_succ]
    refine doneK (by kernel_rfl) ?_ _
    go_wp2
    go_ret
    exact ⟨rfl, HT10.out⟩
  · have HS0 : (fun W => Below w8.heap.size w8 W) w8.drew := (Below.refl _ _).drew
    refine regionK (fun W => Below w8.heap.size w8 W) 99 (by kernel_rfl) ?_
    refine takeK (i := 0) (d := 22) (v := .agg (piArr (.slice (some ⟨g6, 0, none⟩) N N) p)) rfl rfl (by kernel_rfl) (by kernel_rfl) (by kernel_rfl) (by decide) (by kernel_rfl) (fun _ _ _ h => h) (Or.inl ⟨by rfl, fun W hW => ?_⟩) HS0 ?_
    · obtain ⟨x0, x1, x2, x3, x4⟩ := HCX8.out W hW
      obtain ⟨y0, y1, y2, y3, y4⟩ := HC8.out W hW
      clear hW
      go_simp
    simp only [List.setIfInBounds_toArray, List.set_cons_zero, List.set_cons_succ]
    refine takeK (i := 1) (d := 23) (v := .agg (piArr (.slice ao N ca) p)) rfl rfl (by kernel_rfl) (by kernel_rfl) (by kernel_rfl) (by decide) (by kernel_rfl) (fun _ _ _ h => h) (Or.inl ⟨by rfl, fun W hW => ?_⟩) HS0 ?_
    · obtain ⟨x0, x1, x2, x3, x4⟩ := HCX8.out W hW
      obtain ⟨y0, y1, y2, y3, y4⟩ := HC8.out W hW
      clear hW
      go_simp
    simp only [List.setIfInBounds_toArray, List.set_cons_zero, List.set_cons_succ]
    refine oneK (i := 2) (by kernel_rfl) rfl (fun K hK => ?_)
    go_simp
    refine (c_toPipe ca p HN.out SM.out (sds_past HA.out (chain HT8.out HS0))).mono ?_
    rintro e w9 ⟨M9, g9, rfl, _, l9, k9, r9, hb9⟩
    have HL9 := hide l9
    have HK9 := hide k9
    have HR9 := hide r9.at
    have HB9 : Hid (Below w8.heap.size w8 w9) := (HS0 : Below w8.heap.size w8 w8.drew).trans (hb9.mono (Nat.le_refl _))
    clear hb9 l9 k9 r9
    dsimp only
    refine hK.out _ _ (fun _ => HB9.out) ?_
    clear hK K
    try simp only [Act.put, List.setIfInBounds_toArray, List.set_cons_zero, List.set_cons_succ]
    refine oneK (i := 3) (by kernel_rfl) rfl (fun K hK => ?_)
    go_simp
    refine (c_eqPipe p HL6.out HL9.out (HK6.out.trans HK9.out.symm) (SM.out.key HK6.out) (sds_past HR8.out HB9.out) HR9.out).mono ?_
    rintro e w10 ⟨rfl, hb10⟩
    have HB10 : Hid (Below w8.heap.size w8 w10) := chain HB9.out hb10
    have HT10 := hide (chain HT8.out HB10.out)
    clear hb10
    dsimp only
    refine hK.out _ _ (fun _ => HB10.out) ?_
    clear hK K
    try simp only [Act.put, List.setIfInBounds_toArray, List.set_cons_zero, List.set_cons_succ]
    refine takeK (i := 4) (d := 26) (v := .bool false) rfl rfl (by kernel_rfl) (by kernel_rfl) (by kernel_rfl) (by decide) (by kernel_rfl) (fun _ _ _ h => h) (Or.inl ⟨by rfl, fun W hW => ?_⟩) HB10.out ?_
    · clear hW
      go_simp
    simp only [List.setIfInBounds_toArray, List.set_cons_zero, List.set_cons_succ]
    refine doneK (by kernel_rfl) ?_ _
    go_wp2
    go_ret
    exact ⟨rfl, HT10.out⟩
end Go.Proofs.YtmjogablacnlgaaGreatDoor
