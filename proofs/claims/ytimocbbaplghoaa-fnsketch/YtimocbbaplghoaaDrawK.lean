/-
  Weak contracts of the draws: weights and the values that a sketch takes.
-/
import Derived.Test.YtimocbbaplghoaaDrawC
import Derived.Test.YtimocbbaplghoaaRowsG
import Derived.Deep.RegionHeld3
namespace Go.Proofs.Ytimocbbaplghoaa
set_option linter.unusedVariables false
set_option linter.unusedSimpArgs false
open Go.ChangeShapes Go.WideShapes Go.ChangeAt Go.RowKit Go.PlainAid

def isU : Value → Bool
  | .int .u64 y => decide (0 ≤ y) && decide (y ≤ 18446744073709551615)
  | _ => false
theorem isU_of {v : Value} (h : isU v = true) : ∃ y, v = .int .u64 y ∧ U64 y := by
  unfold isU at h
  split at h
  · rename_i y
    have := Bool.and_eq_true_iff.1 h
    exact ⟨y, rfl, of_decide_eq_true this.1, of_decide_eq_true this.2⟩
  · cases h
theorem lit_cellU {w w2 : World} {cs : Array Value} {t : TypeId} {s : Nat} (hg : (w.alloc (.cells cs t)).grownBy w2 (some s)) (hs : s < w.heap.size) (h : cs.toList.all isU = true) {v : Int} (h0 : 0 ≤ v) (h1 : v < cs.size) :
    ∃ y, w2.cell? ⟨w.heap.size, v.toNat, none⟩ = some (.int .u64 y) ∧ U64 y := by
  have hi : v.toNat < cs.size := by omega
  obtain ⟨y, e, hI⟩ := isU_of (List.all_eq_true.1 h cs[v.toNat] (Array.mem_toList_iff.2 (Array.getElem_mem hi)))
  have hb : w2.heap[w.heap.size]? = some (.cells cs t (0, 0)) := by
    rw [hg.block w.heap.size (by simp) (fun e => by cases e; omega)]; exact heap_alloc_new w _
  exact ⟨y, by rw [cell_of_row w2 w.heap.size v.toNat _ _ (0, 0) hb, Array.getElem?_eq_getElem hi, e], hI⟩

set_option maxHeartbeats 1000000 in
theorem c_l01Weight {W w : World} {B ln cap s : Nat} {ao : Option Addr} (hc : CodeAt W B ao ln) (h : Src W B ao ln cap s w) :
    Calls Try.prog 22 #[.pointer (some ⟨s, 0, none⟩)] w fun e w' => ∃ v, e = .returned (.int .u64 v) ∧ U64 v ∧ Src W B ao ln cap s w' ∧ w.grownBy w' (some s) := by
  have hG : w.grownBy w (some s) := World.grownBy.refl _ _
  have hS := h
  clear h
  go_enter Try.func22, Try.ntmps22
  go_wp2_with (first
    | (go_at_call 42; refine (c_one hc hS _ (by omega)).mono ?_; rintro e w2 ⟨b, rfl, hS2, hg2⟩; have hG := hG.trans hg2; have hS := hS2)
    | (go_at_call 41; refine (c_n hc (by first | exact hS | exact src_past hS ((Below.refl _ _).alloc (Nat.le_refl _) _)) _ (by omega)).mono ?_; rintro e w2 ⟨v, rfl, v0, v1, _, hS2, hg2⟩; have v1 := v1 (by omega); (first | (have hG := hG.trans hg2) | (obtain ⟨y, hy, hI⟩ := lit_cellU hg2 (src_lt hS) (by decide) v0 v1; have hG := hG.trans ((World.grownBy_alloc _ _ _).trans hg2))); have hS := hS2))
  all_goals (go_ret; first | exact ⟨_, rfl, hI, hS, hG⟩ | exact ⟨_, rfl, by unfold U64; omega, hS, hG⟩)


set_option maxHeartbeats 1000000 in
theorem c_l03Any {W w : World} {B ln cap s : Nat} {ao : Option Addr} (hc : CodeAt W B ao ln) (h : Src W B ao ln cap s w) :
    Calls Try.prog 21 #[.pointer (some ⟨s, 0, none⟩)] w fun e w' => ∃ v, e = .returned (.int .i64 v) ∧ I64 v ∧ Src W B ao ln cap s w' ∧ w.grownBy w' (some s) := by
  have HC := hide hc
  go_enter Try.func21, Try.ntmps21
  go_wp2_with fail
  refine (c_one HC.out h _ (by omega)).mono ?_
  rintro e w1 ⟨b, rfl, hS1, hg1⟩
  have HS1 := hide hS1
  have HG1 := hide hg1
  clear hS1 hg1 h hc
  cases b with
  | true =>
    go_wp2_with fail
    refine (c_l01Any HC.out HS1.out).mono ?_
    rintro e w2 ⟨v, rfl, hI, hS2, hg2⟩
    have HS2 := hide hS2
    have HG2 := hide (HG1.out.trans hg2)
    clear hS2 hg2
    go_wp2
    go_ret
    exact ⟨v, rfl, hI, HS2.out, HG2.out⟩
  | false =>
    go_wp2_with fail
    refine (c_n HC.out HS1.out _ (by omega)).mono ?_
    rintro e w2 ⟨v, rfl, v0, v1, _, hS2, hg2⟩
    have v1 := v1 (by omega)
    have HS2 := hide hS2
    have HG2 := hide (HG1.out.trans hg2)
    clear hS2 hg2
    go_wp2_with fail
    refine (c_n HC.out HS2.out _ (by omega)).mono ?_
    rintro e w3 ⟨k, rfl, k0, k1, _, hS3, hg3⟩
    have k1 := k1 (by omega)
    have HS3 := hide hS3
    have HG3 := hide (HG2.out.trans hg3)
    clear hS3 hg3
    go_wp2_with fail
    obtain ⟨k, rfl⟩ := Int.eq_ofNat_of_zero_le k0
    go_loop [3, 4] (fun xv kv => ∃ (j : Nat) (x : Int), j ≤ 8 ∧ kv = .int .i64 j ∧ xv = .int .i64 x ∧ I64 x) (fun xv kv => (intOf kv).toNat)
    case atStart => exact ⟨k, v, by omega, rfl, rfl, by unfold I64; omega⟩
    case round =>
      clear v0 v1 k0 k1
      obtain ⟨j, x, hj, rfl, rfl, hx⟩ := hrel
      rcases Nat.eq_zero_or_pos j with h0 | h0
      · subst h0
        go_wp2_with fail
        refine (c_one HC.out HS3.out _ (by omega)).mono ?_
        rintro e w4 ⟨b, rfl, hS4, hg4⟩
        have HS4 := hide hS4
        have HG4 := hide (HG3.out.trans hg4)
        clear hS4 hg4
        have hm := w64_in (-x)
        cases b with
        | true =>
          go_wp2
          go_ret
          exact ⟨_, rfl, by first | exact hm | (unfold I64 at *; omega), HS4.out, HG4.out⟩
        | false =>
          go_wp2
          go_ret
          exact ⟨_, rfl, hx, HS4.out, HG4.out⟩
      · have hj0 : (0 : Int) < (j : Int) := by omega
        have hm := w64_in (x * 9)
        go_wp2
        go_round
        case rel => exact ⟨j - 1, _, by omega, by congr 1; omega, rfl, hm⟩
        case measure => simp [intOf]; omega
end Go.Proofs.Ytimocbbaplghoaa
