/-
  CellsSame of the program.
-/
import Derived.Test.YtfdbhedmappdlaaCeE
namespace Go.Proofs.Ytfdbhedmappdlaa
set_option linter.unusedVariables false
set_option linter.unusedSimpArgs false
open Go.ChangeShapes Go.WideShapes Go.ChangeAt Go.RowKit Go.PlainAid Go.Lib
set_option maxRecDepth 10000

theorem ret_bC {a b : Bool} (h : a = b) : Ending.returned (.bool a) = .returned (.bool b) := by rw [h]
set_option maxHeartbeats 4000000 in
theorem c_EqualFuncC {w : World} {ao bo : Option Addr} {N M ca cb : Nat} {L K : List Ce} (hN : L.length = N) (hM : K.length = M) (lN : N ≤ 1048576) (lM : M ≤ 1048576) (sm : ∀ c ∈ L, AgSm c.g) (sm' : ∀ c ∈ K, AgSm c.g) (hA : CesAt w ao L) (hB : CesAt w bo K) :
    Calls Try.prog 12 #[.slice ao N ca, .slice bo M cb, .func (.func 13) #[] #[]] w fun e w' => e = .returned (.bool (sameCs L K)) ∧ Below w.heap.size w w' := by
  have HN := hide hN
  have HM := hide hM
  have SM := hide sm
  have SM' := hide sm'
  have HA := hide hA
  have HB := hide hB
  clear hN hM sm sm' hA hB
  by_cases hnm : N = M
  · subst hnm
    go_enter Try.func12, Try.ntmps12
    go_wp2
    go_loopw [17] (fun i wr => ∃ k : Nat, k ≤ N ∧ i = .int .i64 k ∧ Hid (sameCs (L.drop k) (K.drop k) = sameCs L K) ∧ Hid (Below w.heap.size w wr)) (fun i wr => N - (intOf i).toNat)
    case atStart => exact ⟨0, Nat.zero_le _, rfl, hide rfl, Below.refl _ _⟩
    case round =>
      obtain ⟨k, hk, rfl, HE, HBl⟩ := hrel
      by_cases hkn : k < N
      · have hkni : (k : Int) < (N : Int) := by omega
        obtain ⟨b, off, e, hcell⟩ := HA.out.1 (by have := HN.out; omega)
        subst e
        obtain ⟨b', off', e, hcell'⟩ := HB.out.1 (by have := HM.out; omega)
        subst e
        obtain ⟨c, hc⟩ : ∃ c, L[k]? = some c := ⟨L[k]'(by have := HN.out; omega), List.getElem?_eq_getElem _⟩
        obtain ⟨d, hd⟩ : ∃ d, K[k]? = some d := ⟨K[k]'(by have := HM.out; omega), List.getElem?_eq_getElem _⟩
        have HS := hide (sameCs_drop hc hd)
        have hm := List.mem_of_getElem? hc
        have hm' := List.mem_of_getElem? hd
        obtain ⟨x0, x1, x2, x3, x4, x5, x6, x7, x8, x9, x10, x11, x12, x13, x14⟩ := cec_past (hcell k c hc) HBl.out
        obtain ⟨y0, y1, y2, y3, y4, y5, y6, y7, y8, y9, y10, y11, y12, y13, y14⟩ := cec_past (cec_past (hcell' k d hd) HBl.out) ((Below.refl _ _).alloc (Nat.le_refl _) (.cells (ceArr c) 51))
        have HMm := hide (And.intro hm hm')
        clear hcell hcell' hc hd hm hm'
        go_wp2_with fail
        clear x0 x1 x2 x3 x4 x5 x6 x7 x8 x9 x10 x11 x12 x13 x14 y0 y1 y2 y3 y4 y5 y6 y7 y8 y9 y10 y11 y12 y13 y14
        have hW : ∀ o1 o2, Below wr.heap.size wr ((wr.alloc o1).alloc o2) := fun o1 o2 => ((Below.refl _ _).alloc (Nat.le_refl _) _).alloc (by simp) _
        refine (c_sameCell c d (SM.out c HMm.out.1) (SM'.out d HMm.out.2) (ag_past (HA.out.2 c HMm.out.1) (chain HBl.out (hW _ _))) (ag_past (HB.out.2 d HMm.out.2) (chain HBl.out (hW _ _)))).mono ?_
        rintro e w1 ⟨rfl, hb1⟩
        have HT1 := hide (chain (chain HBl.out (hW _ _)) hb1)
        clear hb1 hW
        cases hq : sameC c d with
        | false =>
          have HF : Hid (false = sameCs L K) := by rw [← HE.out, HS.out, hq]; exact hide rfl
          go_wp2
          go_ret
          exact ⟨ret_bC HF.out, HT1.out⟩
        | true =>
          have HE2 : Hid (sameCs (L.drop (k + 1)) (K.drop (k + 1)) = sameCs L K) := by
            have := HE.out
            rw [HS.out, hq, Bool.true_and] at this
            exact this
          go_wp2
          go_roundw
          case rel => exact ⟨k + 1, by omega, by go_num, HE2, HT1⟩
          case measure => simp [intOf]; omega
      · obtain rfl : N = k := by omega
        have HF : Hid (true = sameCs L K) := by
          rw [← HE.out, List.drop_eq_nil_of_le (by have := HN.out; omega), List.drop_eq_nil_of_le (by have := HM.out; omega)]; exact hide rfl
        go_wp2
        go_ret
        exact ⟨ret_bC HF.out, HBl.out⟩
  · have HF : Hid (false = sameCs L K) := (sameCs_len (by have := HN.out; have := HM.out; omega)).symm
    have hb : ((N : Int) != (M : Int)) = true := by simp; omega
    go_enter Try.func12, Try.ntmps12
    go_wp2
    go_ret
    exact ⟨ret_bC HF.out, Below.refl _ _⟩
set_option maxHeartbeats 2000000 in
theorem c_i_CellsSame {w : World} {ao bo : Option Addr} {N M ca cb : Nat} {L K : List Ce} (hN : L.length = N) (hM : K.length = M) (lN : N ≤ 1048576) (lM : M ≤ 1048576) (sm : ∀ c ∈ L, AgSm c.g) (sm' : ∀ c ∈ K, AgSm c.g) (hA : CesAt w ao L) (hB : CesAt w bo K) :
    Calls Try.prog 7 #[.slice ao N ca, .slice bo M cb] w fun e w' => e = .returned (.bool (csB L K)) ∧ Below w.heap.size w w' := by
  have HC := hide (c_EqualFuncC (ca := ca) (cb := cb) hN hM lN lM sm sm' hA hB)
  have HE : Hid (csB L K = (decide (N ≤ 400) && decide (M ≤ 400) && sameCs L K)) := by unfold csB; rw [hN, hM]; exact hide rfl
  clear hN hM sm sm' hA hB
  by_cases h1 : N ≤ 400
  · have d1 : decide ((400 : Int) < (N : Int)) = false := decide_eq_false (by omega)
    by_cases h2 : M ≤ 400
    · have d2 : decide ((400 : Int) < (M : Int)) = false := decide_eq_false (by omega)
      have HF : Hid (sameCs L K = csB L K) := by rw [HE.out, decide_eq_true h1, decide_eq_true h2]; exact hide rfl
      go_enter Try.func7, Try.ntmps7
      go_wp2_with fail
      refine HC.out.mono ?_
      rintro e w1 ⟨rfl, hb1⟩
      have HB1 := hide hb1
      clear hb1
      go_wp2
      go_ret
      exact ⟨ret_bC HF.out, HB1.out⟩
    · have d2 : decide ((400 : Int) < (M : Int)) = true := decide_eq_true (by omega)
      have HF : Hid (false = csB L K) := by rw [HE.out, decide_eq_false h2]; simp; exact hide trivial
      go_enter Try.func7, Try.ntmps7
      go_wp2
      go_ret
      exact ⟨ret_bC HF.out, Below.refl _ _⟩
  · have d1 : decide ((400 : Int) < (N : Int)) = true := decide_eq_true (by omega)
    have HF : Hid (false = csB L K) := by rw [HE.out, decide_eq_false h1]; simp; exact hide trivial
    go_enter Try.func7, Try.ntmps7
    go_wp2
    go_ret
    exact ⟨ret_bC HF.out, Below.refl _ _⟩
end Go.Proofs.Ytfdbhedmappdlaa
