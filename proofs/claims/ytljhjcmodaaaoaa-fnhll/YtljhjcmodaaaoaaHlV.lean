/-
  laidBy of the program: a map of the hashes of two lists, each once, with what it lays.
-/
import Derived.Test.YtljhjcmodaaaoaaHlU
import Derived.Carry
namespace Go.Proofs.Ytljhjcmodaaaoaa
set_option linter.unusedVariables false
set_option linter.unusedSimpArgs false
open Go.ChangeShapes Go.WideShapes Go.ChangeAt Go.RowKit Go.PlainAid Go.Maps
set_option maxRecDepth 10000

theorem mapMade (z : Int) (w : World) : (Instr.makeMap 61 (some (.int .i64 z))).run Try.prog w = .ok (.map (some w.heap.size)) (w.alloc (.map #[] 0)) := by
  have h := Try.underlying61
  simp [Instr.makeMap, h]; rfl
theorem MpU.grow {w w1 : World} {b n : Nat} {L : List Int} (h : MpU w b n L) {y : Int} {D : DataW Unit} (hown : w.ownsMap Try.prog 34 (plainElem Try.prog 2) b n D) (h1 : ∀ x, has D (.int .u64 x) = true ↔ x ∈ L) (h2 : Maps.size D = L.length) (h3 : ∀ x ∈ L, ∀ z, D.atKey (.int .u64 x) z = .lit (.int .i64 (rho x))) (hown1 : w1.ownsMap Try.prog 34 (plainElem Try.prog 2) b (n + 1) (D.put (.int .u64 y) (.lit (.int .i64 (rho y))))) : MpU w1 b (n + 1) (insU L y) := by
  obtain ⟨q1, q2, q3⟩ := put_facts h.1 (hown.tidy keyU) h1 h2 h3 y
  exact ⟨rise_insU L y h.1, _, hown1, q1, q2, q3⟩
theorem uni_take {L M : List Int} {k : Nat} {y : Int} (h : M[k]? = some y) : uniU L (M.take (k + 1)) = insU (uniU L (M.take k)) y := by
  rw [List.take_add_one, h]; exact uniU_snoc _ _ _
set_option maxHeartbeats 2000000 in
theorem c_laidBy {w : World} {ao bo : Option Addr} {A B : List Int} (c c' n m : Nat) (hn : A.length = n) (hm : B.length = m) (ln : n ≤ 1000) (lm : m ≤ 1000) (hA : NumsAt .u64 w ao A) (hB : NumsAt .u64 w bo B) (ua : ∀ x ∈ A, U64 x) (ub : ∀ x ∈ B, U64 x) :
    Calls Try.prog 51 #[.slice ao n c, .slice bo m c'] w fun e w' => e = .returned (.map (some w.heap.size)) ∧ MpU w' w.heap.size (n + m) (uniU (uniU [] A) B) ∧ Below w.heap.size w w' := by
  have HA := hide hA
  have HB := hide hB
  have HN := hide hn
  have HM := hide hm
  have UA := hide ua
  have UB := hide ub
  have hmm := mapMade
  have M0 := hide (MpU.start w)
  clear hA hB hn hm ua ub
  go_enter Try.func51, Try.ntmps51
  go_wp2
  go_loopw [18] (fun i wr => ∃ (k : Nat), k ≤ n ∧ i = .int .i64 k ∧ Hid (MpU wr w.heap.size k (uniU [] (A.take k))) ∧ Hid (Below w.heap.size w wr)) (fun i wr => n - (intOf i).toNat)
  case atStart => exact ⟨0, Nat.zero_le _, rfl, M0, (Below.refl _ _).alloc (Nat.le_refl _) _⟩
  case round =>
    clear M0
    obtain ⟨k, hk, rfl, HO, HBl⟩ := hrel
    by_cases hkn : k < n
    · obtain ⟨g, off, e, hcell⟩ := HA.out (by have := HN.out; omega)
      obtain ⟨y, hy⟩ : ∃ y, A[k]? = some y := ⟨A[k]'(by have := HN.out; omega), List.getElem?_eq_getElem _⟩
      subst e
      have hc0 := cell_past HBl.out (hcell k y hy)
      have HY := hide hy
      have HZ := hide (UA.out y (List.mem_of_getElem? hy))
      obtain ⟨hp, D, hown, h1, h2, h3⟩ := HO.out
      have HG : Hid (∀ w1 : World, w1.ownsMap Try.prog 34 (plainElem Try.prog 2) w.heap.size (k + 1) (D.put (.int .u64 y) (.lit (.int .i64 (rho y)))) → MpU w1 w.heap.size (k + 1) (uniU [] (A.take (k + 1)))) := fun w1 q => by rw [uni_take HY.out]; exact HO.out.grow hown h1 h2 h3 q
      have HD := hide hown
      clear hcell hy hp h1 h2 h3 hown
      go_wp2_with (first
        | (go_at_call 61; refine (c_laidOf _ _).mono ?_; rintro e w1 ⟨rfl, hw1⟩; obtain rfl := hw1.symm)
        | (at_mapUpdate; refine wpList_mapUpdate_own _ rfl _ _ _ 61 rfl 34 2 keyU Try.underlying61 _ w.heap.size k _ rfl HD.out (by unfold maxLen; omega) _ _ _ rfl rfl (keyOf_int_mk Try.underlying34 (wfU HZ.out)) _ [] (plainElem_int Try.underlying2 (wfR y)) ?_; intro w1 hown1 hgrow1; have HO1 := hide (HG.out w1 hown1); have HB1 := hide (HBl.out.grown hgrow1 HBl.out.size (fun j hj => by cases hj; exact Nat.le_refl _)); clear hown1 hgrow1))
      go_roundw
      case rel => exact ⟨k + 1, by omega, by go_num, HO1, HB1⟩
      case measure => simp [intOf]; omega
    · have eL : A.take k = A := List.take_of_length_le (by have := HN.out; omega)
      rw [eL] at HO
      obtain rfl : k = n := by omega
      clear eL hk hkn
      go_wp2
      go_loopw [29] (fun i wr => ∃ (j : Nat), j ≤ m ∧ i = .int .i64 j ∧ Hid (MpU wr w.heap.size (k + j) (uniU (uniU [] A) (B.take j))) ∧ Hid (Below w.heap.size w wr)) (fun i wr => m - (intOf i).toNat)
      case atStart => exact ⟨0, Nat.zero_le _, rfl, HO, HBl⟩
      case round =>
        clear HO HBl
        obtain ⟨j, hj, rfl, HO, HBl⟩ := hrel
        by_cases hjm : j < m
        · obtain ⟨g, off, e, hcell⟩ := HB.out (by have := HM.out; omega)
          obtain ⟨y, hy⟩ : ∃ y, B[j]? = some y := ⟨B[j]'(by have := HM.out; omega), List.getElem?_eq_getElem _⟩
          subst e
          have hc0 := cell_past HBl.out (hcell j y hy)
          have HY := hide hy
          have HZ := hide (UB.out y (List.mem_of_getElem? hy))
          obtain ⟨hp, D, hown, h1, h2, h3⟩ := HO.out
          have HG : Hid (∀ w1 : World, w1.ownsMap Try.prog 34 (plainElem Try.prog 2) w.heap.size (k + j + 1) (D.put (.int .u64 y) (.lit (.int .i64 (rho y)))) → MpU w1 w.heap.size (k + (j + 1)) (uniU (uniU [] A) (B.take (j + 1)))) := fun w1 q => by rw [uni_take HY.out]; exact HO.out.grow hown h1 h2 h3 q
          have HD := hide hown
          clear hcell hy hp h1 h2 h3 hown
          go_wp2_with (first
            | (go_at_call 61; refine (c_laidOf _ _).mono ?_; rintro e w1 ⟨rfl, hw1⟩; obtain rfl := hw1.symm)
            | (at_mapUpdate; refine wpList_mapUpdate_own _ rfl _ _ _ 61 rfl 34 2 keyU Try.underlying61 _ w.heap.size (k + j) _ rfl HD.out (by unfold maxLen; omega) _ _ _ rfl rfl (keyOf_int_mk Try.underlying34 (wfU HZ.out)) _ [] (plainElem_int Try.underlying2 (wfR y)) ?_; intro w1 hown1 hgrow1; have HO1 := hide (HG.out w1 hown1); have HB1 := hide (HBl.out.grown hgrow1 HBl.out.size (fun j hj => by cases hj; exact Nat.le_refl _)); clear hown1 hgrow1))
          go_roundw
          case rel => exact ⟨j + 1, by omega, by go_num, HO1, HB1⟩
          case measure => simp [intOf]; omega
        · have eL : B.take j = B := List.take_of_length_le (by have := HM.out; omega)
          rw [eL] at HO
          obtain rfl : j = m := by omega
          clear eL hj hjm
          go_wp2
          go_ret
          exact ⟨rfl, HO.out, HBl.out⟩
end Go.Proofs.Ytljhjcmodaaaoaa
