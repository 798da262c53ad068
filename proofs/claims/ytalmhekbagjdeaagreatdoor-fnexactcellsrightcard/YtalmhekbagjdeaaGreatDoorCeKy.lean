/-
  Two keys of cells compared.
-/
import Derived.Test.YtalmhekbagjdeaaGreatDoorCeI
namespace Go.Proofs.YtalmhekbagjdeaaGreatDoor
set_option linter.unusedVariables false
set_option linter.unusedSimpArgs false
open Go.ChangeShapes Go.WideShapes Go.ChangeAt Go.RowKit Go.PlainAid Go.Lib
set_option maxRecDepth 10000

set_option maxHeartbeats 2000000 in
theorem c_compareKeys (n : Int) (s : ByteArray) (n' : Int) (s' : ByteArray) (w : World) :
    Calls Tryz.prog 54 #[.agg #[.int .i64 n, .string s], .agg #[.int .i64 n', .string s']] w fun e w' => e = .returned (.int .i64 (cmpK n s n' s')) ∧ Below w.heap.size w w' := by
  have HB0 : Hid (∀ o o', Below w.heap.size w ((w.alloc o).alloc o')) := fun o o' => ((Below.refl _ _).alloc (Nat.le_refl _) o).alloc (by simp) o'
  have HN : Hid (∀ T, ((w.alloc (.cells #[.int .i64 n, .string s] T)).alloc (.cells #[.int .i64 n', .string s'] T)).heap[w.heap.size]? = some (.cells #[.int .i64 n, .string s] T (0, 0)) ∧ ((w.alloc (.cells #[.int .i64 n, .string s] T)).alloc (.cells #[.int .i64 n', .string s'] T)).heap[w.heap.size + 1]? = some (.cells #[.int .i64 n', .string s'] T (0, 0))) := fun T => by
    have k0 := heap_alloc_new w (.cells #[.int .i64 n, .string s] T)
    have k1 := heap_alloc_new (w.alloc (.cells #[.int .i64 n, .string s] T)) (.cells #[.int .i64 n', .string s'] T)
    simp only [World.size_alloc] at k1
    exact ⟨(((Below.refl (w.alloc (.cells #[.int .i64 n, .string s] T)).heap.size (w.alloc (.cells #[.int .i64 n, .string s] T))).alloc (Nat.le_refl _) (.cells #[.int .i64 n', .string s'] T)).block _ (by simp)).trans k0, k1⟩
  go_enter Tryz.func54, Tryz.ntmps54
  go_wp2_with fail
  have HR := hide (HN.out 96)
  have HB1 := hide (HB0.out (.cells #[.int .i64 n, .string s] 96) (.cells #[.int .i64 n', .string s'] 96))
  have hsz : ((w.alloc (.cells #[.int .i64 n, .string s] 96)).alloc (.cells #[.int .i64 n', .string s'] 96)).heap.size = w.heap.size + 1 + 1 := by simp
  generalize (w.alloc (.cells #[.int .i64 n, .string s] 96)).alloc (.cells #[.int .i64 n', .string s'] 96) = W0 at HR HB1 hsz ⊢
  clear HN HB0
  have R0 : (fun W => W.heap[w.heap.size]? = some (.cells #[.int .i64 n, .string s] 96 (0, 0)) ∧ W.heap[w.heap.size + 1]? = some (.cells #[.int .i64 n', .string s'] 96 (0, 0))) W0.drew := HR.out
  refine regionK (fun W => W.heap[w.heap.size]? = some (.cells #[.int .i64 n, .string s] 96 (0, 0)) ∧ W.heap[w.heap.size + 1]? = some (.cells #[.int .i64 n', .string s'] 96 (0, 0))) 12 (by kernel_rfl) ?_
  refine takeK (i := 0) (d := 5) (v := .pointer (some ⟨w.heap.size, 0, none⟩)) rfl rfl (by kernel_rfl) (by kernel_rfl) (by kernel_rfl) (by decide) (by kernel_rfl) (fun _ _ _ h => h) (Or.inl ⟨by rfl, fun W hW => ?_⟩) R0 ?_
  · have x0 := cellKC hW.1 0 rfl
    have x1 := cellKC hW.1 1 rfl
    have y0 := cellKC hW.2 0 rfl
    have y1 := cellKC hW.2 1 rfl
    clear hW
    go_simp
  simp only [List.setIfInBounds_toArray, List.set_cons_zero, List.set_cons_succ]
  refine takeK (i := 1) (d := 6) (v := .int .i64 n) rfl rfl (by kernel_rfl) (by kernel_rfl) (by kernel_rfl) (by decide) (by kernel_rfl) (fun _ _ _ h => h) (Or.inl ⟨by rfl, fun W hW => ?_⟩) R0 ?_
  · have x0 := cellKC hW.1 0 rfl
    have x1 := cellKC hW.1 1 rfl
    have y0 := cellKC hW.2 0 rfl
    have y1 := cellKC hW.2 1 rfl
    clear hW
    go_simp
  simp only [List.setIfInBounds_toArray, List.set_cons_zero, List.set_cons_succ]
  refine takeK (i := 2) (d := 7) (v := .pointer (some ⟨w.heap.size + 1, 0, none⟩)) rfl rfl (by kernel_rfl) (by kernel_rfl) (by kernel_rfl) (by decide) (by kernel_rfl) (fun _ _ _ h => h) (Or.inl ⟨by rfl, fun W hW => ?_⟩) R0 ?_
  · have x0 := cellKC hW.1 0 rfl
    have x1 := cellKC hW.1 1 rfl
    have y0 := cellKC hW.2 0 rfl
    have y1 := cellKC hW.2 1 rfl
    clear hW
    go_simp
  simp only [List.setIfInBounds_toArray, List.set_cons_zero, List.set_cons_succ]
  refine takeK (i := 3) (d := 8) (v := .int .i64 n') rfl rfl (by kernel_rfl) (by kernel_rfl) (by kernel_rfl) (by decide) (by kernel_rfl) (fun _ _ _ h => h) (Or.inl ⟨by rfl, fun W hW => ?_⟩) R0 ?_
  · have x0 := cellKC hW.1 0 rfl
    have x1 := cellKC hW.1 1 rfl
    have y0 := cellKC hW.2 0 rfl
    have y1 := cellKC hW.2 1 rfl
    clear hW
    go_simp
  simp only [List.setIfInBounds_toArray, List.set_cons_zero, List.set_cons_succ]
  refine takeK (i := 5) (d := 10) (v := .pointer (some ⟨w.heap.size, 1, none⟩)) rfl rfl (by kernel_rfl) (by kernel_rfl) (by kernel_rfl) (by decide) (by kernel_rfl) (fun _ _ _ h => h) (Or.inl ⟨by rfl, fun W hW => ?_⟩) R0 ?_
  · have x0 := cellKC hW.1 0 rfl
    have x1 := cellKC hW.1 1 rfl
    have y0 := cellKC hW.2 0 rfl
    have y1 := cellKC hW.2 1 rfl
    clear hW
    go_simp
  simp only [List.setIfInBounds_toArray, List.set_cons_zero, List.set_cons_succ]
  refine takeK (i := 6) (d := 11) (v := .string s) rfl rfl (by kernel_rfl) (by kernel_rfl) (by kernel_rfl) (by decide) (by kernel_rfl) (fun _ _ _ h => h) (Or.inl ⟨by rfl, fun W hW => ?_⟩) R0 ?_
  · have x0 := cellKC hW.1 0 rfl
    have x1 := cellKC hW.1 1 rfl
    have y0 := cellKC hW.2 0 rfl
    have y1 := cellKC hW.2 1 rfl
    clear hW
    go_simp
  simp only [List.setIfInBounds_toArray, List.set_cons_zero, List.set_cons_succ]
  refine takeK (i := 7) (d := 12) (v := .pointer (some ⟨w.heap.size + 1, 1, none⟩)) rfl rfl (by kernel_rfl) (by kernel_rfl) (by kernel_rfl) (by decide) (by kernel_rfl) (fun _ _ _ h => h) (Or.inl ⟨by rfl, fun W hW => ?_⟩) R0 ?_
  · have x0 := cellKC hW.1 0 rfl
    have x1 := cellKC hW.1 1 rfl
    have y0 := cellKC hW.2 0 rfl
    have y1 := cellKC hW.2 1 rfl
    clear hW
    go_simp
  simp only [List.setIfInBounds_toArray, List.set_cons_zero, List.set_cons_succ]
  refine takeK (i := 8) (d := 13) (v := .string s') rfl rfl (by kernel_rfl) (by kernel_rfl) (by kernel_rfl) (by decide) (by kernel_rfl) (fun _ _ _ h => h) (Or.inl ⟨by rfl, fun W hW => ?_⟩) R0 ?_
  · have x0 := cellKC hW.1 0 rfl
    have x1 := cellKC hW.1 1 rfl
    have y0 := cellKC hW.2 0 rfl
    have y1 := cellKC hW.2 1 rfl
    clear hW
    go_simp
  simp only [List.setIfInBounds_toArray, List.set_cons_zero, List.set_cons_succ]
  refine oneK (i := 4) (by kernel_rfl) rfl (fun K hK => ?_)
  go_simp
  refine (c_cmpCompare n n' _).mono ?_
  rintro e wz ⟨rfl, hwz⟩
  obtain rfl := hwz.symm
  dsimp only
  refine hK.out _ _ (fun _ => R0) ?_
  clear hK K
  try simp only [Act.put, List.setIfInBounds_toArray, List.set_cons_zero, List.set_cons_succ]
  refine oneK (i := 9) (by kernel_rfl) rfl (fun K hK => ?_)
  go_simp
  refine (c_Compare s s' _).mono ?_
  rintro e wz ⟨rfl, hwz⟩
  obtain rfl := hwz.symm
  dsimp only
  refine hK.out _ _ (fun _ => R0) ?_
  clear hK K
  try simp only [Act.put, List.setIfInBounds_toArray, List.set_cons_zero, List.set_cons_succ]
  have k2 := heap_alloc_new W0 (.cells #[.int .i64 (cmpI n n'), .int .i64 (cmpS s s')] 3)
  rw [hsz] at k2
  have k3 : (W0.alloc (.cells #[.int .i64 (cmpI n n'), .int .i64 (cmpS s s')] 3)).drew.heap[w.heap.size + 1 + 1]? = some (.cells #[.int .i64 (cmpI n n'), .int .i64 (cmpS s s')] 3 (0, 0)) := k2
  have HC := hide (And.intro (cellKC k3 0 rfl) (cellKC k3 1 rfl))
  clear k2 k3
  have hA1 : Below W0.heap.size W0 (W0.alloc (.cells #[.int .i64 (cmpI n n'), .int .i64 (cmpS s s')] 3)).drew := ((Below.refl _ _).alloc (Nat.le_refl _) _).drew
  have R1 := And.intro ((hA1.block w.heap.size (by omega)).trans HR.out.1) ((hA1.block (w.heap.size + 1) (by omega)).trans HR.out.2)
  have HT1 := hide (chain HB1.out hA1)
  clear hA1
  refine oneK (i := 10) (by kernel_rfl) rfl (fun K hK => ?_)
  go_simp
  refine hK.out _ _ (fun _ => R1) ?_
  clear hK K
  try simp only [Act.put, List.setIfInBounds_toArray, List.set_cons_zero, List.set_cons_succ]
  refine oneK (i := 11) (by kernel_rfl) rfl (fun K hK => ?_)
  go_simp
  refine (c_cmpOr _ _ HC.out.1 HC.out.2).mono ?_
  rintro e wz ⟨rfl, hwz⟩
  obtain rfl := hwz.symm
  dsimp only
  refine hK.out _ _ (fun _ => R1) ?_
  clear hK K
  try simp only [Act.put, List.setIfInBounds_toArray, List.set_cons_zero, List.set_cons_succ]
  refine oneK (i := 12) (by kernel_rfl) rfl (fun K hK => ?_)
  go_simp
  refine hK.out _ _ (fun h => absurd rfl h) ?_
  clear hK K
  try simp only [Act.put, List.setIfInBounds_toArray, List.set_cons_zero, List.set_cons_succ]
  refine doneK (by kernel_rfl) ?_ _
  go_wp2
  go_ret
  exact ⟨rfl, HT1.out⟩
end Go.Proofs.YtalmhekbagjdeaaGreatDoor
