/-
  The contract of gatherBins: the bins of both lists, gathered.
-/
import Derived.Test.YtimocbbaplghoaaGatK
namespace Go.Proofs.Ytimocbbaplghoaa
set_option linter.unusedVariables false
set_option linter.unusedSimpArgs false
open Go.ChangeShapes Go.WideShapes Go.ChangeAt Go.RowKit Go.PlainAid Go.Lib
set_option maxRecDepth 10000

/-- Gathered, as the program does. -/
def gatL (a b : List Bn) : List Bn := keepL (insAll (insAll [] a) b)

theorem run_store_any {w : World} {a : Addr} {v old : Value} (hc : w.cell? a = some old) (hf : w.frozen? a = false) (h1 : v.oneCell' = true) : (store a v).run Try.prog w = .ok () (w.setCell a v) := by
  rw [run_store Try.prog w _ v _ h1]; simp [hc, hf]

set_option maxHeartbeats 2000000 in
theorem c_gatherBins {w : World} {ao bo : Option Addr} {P N : List Bn} (c c' m n : Nat) (hm : P.length = m) (hn : N.length = n) (lm : m ≤ 30) (ln : n ≤ 30) (hA : BinsAt w ao P) (hB : BinsAt w bo N) (kA : ∀ x ∈ P, BnOk x) (kB : ∀ x ∈ N, BnOk x) :
    Calls Try.prog 26 #[.slice ao m c, .slice bo n c'] w fun e w' => ∃ v' n', e = .returned v' ∧ OwnB w' w.heap.size v' n' (gatL P N) ∧ Below w.heap.size w w' := by
  have HA := hide hA
  have HB := hide hB
  have KA := hide kA
  have KB := hide kB
  have EM := hide hm
  have EN := hide hn
  clear hA hB kA kB hm hn
  have hb0 := heap_alloc_new w (.cells #[.slice none 0 0, .nilFunc, .nilFunc] 67)
  have hb1 := heap_alloc_new w (.cells #[.slice none 0 0, (.func (.func 45) #[] #[]), .nilFunc] 67)
  have s1 : (store ⟨w.heap.size, 1, none⟩ (.func (.func 45) #[] #[])).run Try.prog (w.alloc (.cells #[.slice none 0 0, .nilFunc, .nilFunc] 67)) = .ok () ((w.alloc (.cells #[.slice none 0 0, .nilFunc, .nilFunc] 67)).setCell ⟨w.heap.size, 1, none⟩ (.func (.func 45) #[] #[])) :=
    run_store_any (old := .nilFunc) (by rw [cell_of_row _ w.heap.size 1 _ _ (0, 0) hb0]; rfl) (frozen_of_row _ w.heap.size 1 _ _ hb0) rfl
  have s2 : (store ⟨w.heap.size, 2, none⟩ (.func (.func 46) #[] #[])).run Try.prog (w.alloc (.cells #[.slice none 0 0, (.func (.func 45) #[] #[]), .nilFunc] 67)) = .ok () ((w.alloc (.cells #[.slice none 0 0, (.func (.func 45) #[] #[]), .nilFunc] 67)).setCell ⟨w.heap.size, 2, none⟩ (.func (.func 46) #[] #[])) :=
    run_store_any (old := .nilFunc) (by rw [cell_of_row _ w.heap.size 2 _ _ (0, 0) hb1]; rfl) (frozen_of_row _ w.heap.size 2 _ _ hb1) rfl
  clear hb0 hb1
  go_enter Try.func26, Try.ntmps26
  go_wp2
  go_loopw [13] (fun i wr => ∃ (j : Nat) (v : Value) (q : Nat), j ≤ m ∧ i = .int .i64 j ∧ Gat wr w.heap.size w.heap.size v q (insAll [] (P.take j)) ∧ Below w.heap.size w wr) (fun i wr => m - (RowKit.intOf i).toNat)
  case atStart => exact ⟨0, _, 0, Nat.zero_le _, rfl, ⟨heap_alloc_new w _, World.ownsRow_nil _ _ _ _, rfl, Nat.le_refl _⟩, (by first | exact (Below.refl _ _).alloc (Nat.le_refl _) _ | exact (((Below.refl _ _).alloc (Nat.le_refl _) _).setCell (Nat.le_refl _) _).setCell (Nat.le_refl _) _)⟩
  case round =>
    obtain ⟨j, v, q, hj, rfl, hG, hbel⟩ := hrel
    have HG := hide hG
    have HBl := hide hbel
    clear hG
    by_cases hjm : j < m
    · obtain ⟨⟨a, u⟩, hRj⟩ : ∃ x, P[j]? = some x := ⟨P[j]'(by have := EM.out; omega), List.getElem?_eq_getElem _⟩
      obtain ⟨ka, ku⟩ := KA.out _ (List.mem_of_getElem? hRj)
      obtain ⟨b, off, rfl, hcell⟩ := HA.out (by have := EM.out; omega)
      have hc0 := cell_past hbel (hcell j _ hRj).1
      have hc1 := cell_past hbel (hcell j _ hRj).2
      have hlen : q ≤ 500 := by have := HG.out.len; have := insAll_len (P.take j) []; rw [List.length_take] at this; simp at this; omega
      have HR := hide (insAll_take (L := []) hRj)
      have hbA : ∀ o, Below wr.heap.size wr (wr.alloc o) := fun o => (Below.refl _ _).alloc (Nat.le_refl _) o
      have HbA := hide hbA
      simp only at ka ku
      clear hbel hcell hRj hbA
      go_wp2_with fail
      refine (c_put _ _ ka ku (insAll_rise rise_nil) (insAll_ok (fun x hx => KA.out x (List.mem_of_mem_take hx)) (fun x hx => by cases hx)) hlen (HG.out.past (HbA.out _))).mono ?_
      rintro e w1 ⟨r, v', n', rfl, hG1, hb1⟩
      rw [← HR.out] at hG1
      have HG1 := hide hG1
      have HB1 := hide ((HBl.out.trans ((HbA.out _).mono HBl.out.size)).trans hb1)
      clear hG1 hb1
      go_wp2
      go_roundw
      case rel => exact ⟨j + 1, v', n', by omega, by go_num, HG1.out, HB1.out⟩
      case measure => simp [RowKit.intOf]; omega
    · have HE : Hid (insAll [] (P.take j) = insAll (insAll [] P) (N.take 0)) := (by rw [List.take_of_length_le (by have := EM.out; omega)]; rfl : insAll [] (P.take j) = insAll (insAll [] P) (N.take 0))
      clear hbel
      go_wp2
      go_loopw [22] (fun i wr => ∃ (j : Nat) (v : Value) (q : Nat), j ≤ n ∧ i = .int .i64 j ∧ Gat wr w.heap.size w.heap.size v q (insAll (insAll [] P) (N.take j)) ∧ Below w.heap.size w wr) (fun i wr => n - (RowKit.intOf i).toNat)
      case atStart => exact ⟨0, v, q, Nat.zero_le _, rfl, by rw [← HE.out]; exact HG.out, HBl.out⟩
      case round =>
        clear HG HBl HE
        obtain ⟨t, v, q, ht, rfl, hG, hbel⟩ := hrel
        have HG := hide hG
        have HBl := hide hbel
        have hlen : q ≤ 500 := by
          have h1 := HG.out.len; have h2 := insAll_len (N.take t) (insAll [] P); have h3 := insAll_len P []; rw [List.length_take] at h2; simp at h3
          have := EM.out; omega
        have HRi := hide (insAll_rise (M := N.take t) (insAll_rise (M := P) rise_nil))
        have HOk := hide (insAll_ok (M := N.take t) (fun x hx => KB.out x (List.mem_of_mem_take hx)) (insAll_ok (M := P) (L := []) KA.out (fun x hx => by cases hx)))
        clear hG
        by_cases htn : t < n
        · obtain ⟨⟨a, u⟩, hRj⟩ : ∃ x, N[t]? = some x := ⟨N[t]'(by have := EN.out; omega), List.getElem?_eq_getElem _⟩
          obtain ⟨ka, ku⟩ := KB.out _ (List.mem_of_getElem? hRj)
          obtain ⟨b, off, rfl, hcell⟩ := HB.out (by have := EN.out; omega)
          have hc0 := cell_past hbel (hcell t _ hRj).1
          have hc1 := cell_past hbel (hcell t _ hRj).2
          have HR := hide (insAll_take (L := insAll [] P) hRj)
          have hbA : ∀ o, Below wr.heap.size wr (wr.alloc o) := fun o => (Below.refl _ _).alloc (Nat.le_refl _) o
          have HbA := hide hbA
          simp only at ka ku
          clear hbel hcell hRj hbA
          go_wp2_with fail
          refine (c_put _ _ ka ku HRi.out HOk.out hlen (HG.out.past (HbA.out _))).mono ?_
          rintro e w1 ⟨r, v', n', rfl, hG1, hb1⟩
          rw [← HR.out] at hG1
          have HG1 := hide hG1
          have HB1 := hide ((HBl.out.trans ((HbA.out _).mono HBl.out.size)).trans hb1)
          clear hG1 hb1
          go_wp2
          go_roundw
          case rel => exact ⟨t + 1, v', n', by omega, by go_num, HG1.out, HB1.out⟩
          case measure => simp [RowKit.intOf]; omega
        · have HE : Hid (insAll (insAll [] P) (N.take t) = insAll (insAll [] P) N) := (by rw [List.take_of_length_le (by have := EN.out; omega)] : insAll (insAll [] P) (N.take t) = insAll (insAll [] P) N)
          clear hbel
          go_wp2_with fail
          refine (c_keep HOk.out hlen HG.out).mono ?_
          rintro e w1 ⟨r, v', n', rfl, hb1, ho1, hbel1⟩
          rw [HE.out] at ho1
          have c1 : w1.cell? ⟨w.heap.size, 0, none⟩ = some v' := by rw [cell_of_row w1 w.heap.size 0 _ _ (0, 0) hb1]; rfl
          have HO := hide ho1
          have HB1 := hide (HBl.out.trans hbel1)
          obtain ⟨ao1, c1', rfl⟩ := ho1.any
          clear hb1 ho1 hbel1
          go_wp2
          go_ret
          exact ⟨_, _, rfl, HO.out, HB1.out⟩
end Go.Proofs.Ytimocbbaplghoaa
