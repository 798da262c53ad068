/-
  LineRead of the program.
-/
import Derived.Test.YtljngkjhhkccgaaGreatDoorLnL
import Derived.Test.YtljngkjhhkccgaaGreatDoorKeepK
namespace Go.Proofs.YtljngkjhhkccgaaGreatDoor
set_option linter.unusedVariables false
set_option linter.unusedSimpArgs false
open Go.ChangeShapes Go.WideShapes Go.ChangeAt Go.RowKit Go.PlainAid
set_option maxRecDepth 10000

set_option maxHeartbeats 1000000 in
theorem c_i_LineRead {w : World} (t : ByteArray) (hz : t.size ≤ maxLen) (hG : LnG w) (hM : MX w) (hE : errT w) :
    Calls Tryz.prog 5 #[.string t] w fun e w' => ∃ s, e = .returned (outL s) ∧ LnR t s ∧ Below w.heap.size w w' := by
  have HM := hide hM
  have HG := hide hG
  have HE := hide hE
  clear hM hG hE
  go_enter Tryz.func5, Tryz.ntmps5
  go_wp2_with fail
  obtain ⟨W0, hW0⟩ : ∃ W0, W0 = w.alloc (.cells #[.int .i64 0, .string ⟨#[]⟩, .int .i64 0, .string ⟨#[]⟩, .int .u64 0, .bool false, .int .i64 0, .int .i64 0] 26) := ⟨_, rfl⟩
  rw [← hW0]
  have HA0 : Hid (Below w.heap.size w W0 ∧ W0.heap[w.heap.size]? = some (.cells #[.int .i64 0, .string ⟨#[]⟩, .int .i64 0, .string ⟨#[]⟩, .int .u64 0, .bool false, .int .i64 0, .int .i64 0] 26 (0, 0)) ∧ W0.heap.size = w.heap.size + 1) := (by rw [hW0]; exact ⟨(Below.refl _ _).alloc (Nat.le_refl _) _, heap_alloc_new w _, World.size_alloc _ _⟩ : _ ∧ _ ∧ _)
  clear hW0
  refine (c_readLine t hz (HG.out.past HA0.out.1) (HM.out.past HA0.out.1)).mono ?_
  rintro e w1 ⟨s, he, hL, hb1⟩
  unfold smpL at he
  subst he
  have hr1 : w1.heap[w.heap.size]? = some (.cells #[.int .i64 0, .string ⟨#[]⟩, .int .i64 0, .string ⟨#[]⟩, .int .u64 0, .bool false, .int .i64 0, .int .i64 0] 26 (0, 0)) := by rw [hb1.block _ (by have := HA0.out.2.2; omega)]; exact HA0.out.2.1
  have hb0 := chain HA0.out.1 hb1
  have hE1 : errT w1 := cell_past hb0 HE.out
  have HL := hide hL
  have HB0 := hide hb0
  have HR1 := hide hr1
  have hlt : w.heap.size < w1.heap.size := by have := HA0.out.2.2; have := hb1.size; omega
  clear hb1 hL hb0 HA0 hr1
  go_wp2_with fail
  obtain ⟨W1, hW1⟩ : ∃ W1, W1 = w1.alloc (.cells #[.int .i64 s.k, .string s.se, .int .i64 s.va, .string s.wd, .int .u64 s.wt, .bool s.td, .int .i64 s.ti] 24) := ⟨_, rfl⟩
  rw [← hW1]
  generalize hsb : w1.heap.size = sb
  have HC : Hid (∀ W, Below W1.heap.size W1 W → W.cell? ⟨sb, 0, none⟩ = some (.int .i64 s.k) ∧ W.cell? ⟨sb, 1, none⟩ = some (.string s.se) ∧ W.cell? ⟨sb, 2, none⟩ = some (.int .i64 s.va) ∧ W.cell? ⟨sb, 3, none⟩ = some (.string s.wd) ∧ W.cell? ⟨sb, 4, none⟩ = some (.int .u64 s.wt) ∧ W.cell? ⟨sb, 5, none⟩ = some (.bool s.td) ∧ W.cell? ⟨sb, 6, none⟩ = some (.int .i64 s.ti)) :=
    (fun W hW => by
      refine cell7 (T := 24) ?_
      rw [hW.block _ (by rw [hW1, World.size_alloc, ← hsb]; omega), hW1, ← hsb]
      exact heap_alloc_new w1 _ : ∀ W, Below W1.heap.size W1 W → _)
  have hbA : Below w1.heap.size w1 W1 := by rw [hW1]; exact (Below.refl _ _).alloc (Nat.le_refl _) _
  have HA : Hid (Below w.heap.size w W1 ∧ W1.heap[w.heap.size]? = some (.cells #[.int .i64 0, .string ⟨#[]⟩, .int .i64 0, .string ⟨#[]⟩, .int .u64 0, .bool false, .int .i64 0, .int .i64 0] 26 (0, 0)) ∧ w.heap.size < W1.heap.size) := (⟨chain HB0.out hbA, by rw [hbA.block _ hlt]; exact HR1.out, Nat.lt_of_lt_of_le hlt hbA.size⟩ : _ ∧ _ ∧ _)
  have hE2 : errT W1 := cell_past hbA hE1
  clear hW1 hbA HB0 HR1 hlt hE1 hsb
  have HS0 : (fun W => Below W1.heap.size W1 W) W1.drew := (Below.refl _ _).drew
  refine regionK (fun W => Below W1.heap.size W1 W) 4 (by kernel_rfl) ?_
  refine takeK (i := 0) (d := 10) (v := .agg #[.int .i64 s.k, .string s.se, .int .i64 s.va, .string s.wd, .int .u64 s.wt, .bool s.td, .int .i64 s.ti]) rfl rfl (by kernel_rfl) (by kernel_rfl) (by kernel_rfl) (by decide) (by kernel_rfl) (fun _ _ _ h => h) (Or.inl ⟨by rfl, fun W hW => ?_⟩) HS0 ?_
  · obtain ⟨x0, x1, x2, x3, x4, x5, x6⟩ := HC.out W hW
    go_simp
  simp only [List.setIfInBounds_toArray, List.set_cons_zero, List.set_cons_succ]
  refine takeK (i := 1) (d := 11) (v := errV s.c) rfl rfl (by kernel_rfl) (by kernel_rfl) (by kernel_rfl) (by decide) (by kernel_rfl) (fun _ _ _ h => h) (Or.inl ⟨by rfl, fun W hW => ?_⟩) HS0 ?_
  · obtain ⟨x0, x1, x2, x3, x4, x5, x6⟩ := HC.out W hW
    go_simp
  simp only [List.setIfInBounds_toArray, List.set_cons_zero, List.set_cons_succ]
  refine oneK (i := 2) (by kernel_rfl) rfl (fun K hK => ?_)
  go_simp
  refine (c_codeOf s.c W1.drew (cell_past HS0 hE2)).mono ?_
  rintro e w4 ⟨rfl, hb4⟩
  have HB4 := hide ((HS0 : Below W1.heap.size W1 W1.drew).trans hb4)
  clear hb4
  dsimp only
  refine hK.out _ _ (fun _ => HB4.out) ?_
  clear hK K
  try simp only [Act.put, List.setIfInBounds_toArray, List.set_cons_zero, List.set_cons_succ]
  refine oneK (i := 3) (by kernel_rfl) rfl (fun K hK => ?_)
  go_simp
  refine hK.out _ _ (fun _ => HB4.out) ?_
  clear hK K
  try simp only [Act.put, List.setIfInBounds_toArray, List.set_cons_zero, List.set_cons_succ]
  have hr4 : w4.heap[w.heap.size]? = some (.cells #[.int .i64 0, .string ⟨#[]⟩, .int .i64 0, .string ⟨#[]⟩, .int .u64 0, .bool false, .int .i64 0, .int .i64 0] 26 (0, 0)) := by rw [HB4.out.block _ HA.out.2.2]; exact HA.out.2.1
  obtain ⟨r0, r1, r2, r3, r4, r5, r6, r7⟩ := cell8 hr4
  obtain ⟨f0, f1, f2, f3, f4, f5, f6, f7⟩ := froz8 hr4
  refine oneK (i := 4) (by kernel_rfl) rfl (fun K hK => ?_)
  go_simp
  refine hK.out _ _ (fun h => absurd rfl h) ?_
  clear hK K
  try simp only [Act.put, List.setIfInBounds_toArray, List.set_cons_zero, List.set_cons_succ]
  refine doneK (by kernel_rfl) ?_ _
  go_wp2
  refine bodyPost_ret (v := .agg #[.int .i64 s.k, .string s.se, .int .i64 s.va, .string s.wd, .int .u64 s.wt, .bool s.td, .int .i64 s.ti, .int .i64 s.c]) (by simp [results, Tryz.results5, go_sem, r0, r1, r2, r3, r4, r5, r6, r7]) rfl ?_
  exact ⟨s, rfl, HL.out, bel8 (chain HA.out.1 HB4.out) (Nat.le_refl _) _ _ _ _ _ _ _ _⟩
end Go.Proofs.YtljngkjhhkccgaaGreatDoor
