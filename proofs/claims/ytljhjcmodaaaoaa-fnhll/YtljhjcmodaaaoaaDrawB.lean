/-
  Weak contracts of the draws: the source, and what is drawn of it for values.
-/
import Derived.Test.YtljhjcmodaaaoaaDraw
namespace Go.Proofs.Ytljhjcmodaaaoaa
set_option linter.unusedVariables false
set_option linter.unusedSimpArgs false
open Go.ChangeShapes Go.WideShapes Go.ChangeAt Go.RowKit Go.PlainAid

/-- The source's block while it is made. -/
def SB (w : World) (s : Nat) (ao : Option Addr) (ln cap : Nat) (m z : Int) : Prop := w.heap[s]? = some (.cells #[.slice ao ln cap, .int .i64 0, .int .u64 m, .int .i64 z] 69 (0, 0))
theorem sb_cells {w : World} {s ln cap : Nat} {ao : Option Addr} {m z : Int} (h : SB w s ao ln cap m z) : w.cell? ⟨s, 2, none⟩ = some (.int .u64 m) ∧ w.cell? ⟨s, 3, none⟩ = some (.int .i64 z) ∧ w.frozen? ⟨s, 2, none⟩ = false ∧ w.frozen? ⟨s, 3, none⟩ = false := by
  refine ⟨?_, ?_, frozen_of_row w s 2 _ _ h, frozen_of_row w s 3 _ _ h⟩
  · rw [cell_of_row w s 2 _ _ (0, 0) h]; rfl
  · rw [cell_of_row w s 3 _ _ (0, 0) h]; rfl
theorem sb_2 {w : World} {s ln cap : Nat} {ao : Option Addr} {m z m' : Int} (h : SB w s ao ln cap m z) : SB (w.setCell ⟨s, 2, none⟩ (.int .u64 m')) s ao ln cap m' z := heap_setCell_same w s 2 _ _ _ h
theorem sb_3 {w : World} {s ln cap : Nat} {ao : Option Addr} {m z z' : Int} (h : SB w s ao ln cap m z) : SB (w.setCell ⟨s, 3, none⟩ (.int .i64 z')) s ao ln cap m z' := heap_setCell_same w s 3 _ _ _ h
theorem sb_drew {w : World} {s ln cap : Nat} {ao : Option Addr} {m z : Int} (h : SB w s ao ln cap m z) : SB w.drew s ao ln cap m z := h
theorem sb_src {W w : World} {B s ln cap : Nat} {ao : Option Addr} {m z : Int} (h : SB w s ao ln cap m z) (hb : Below B W w) (hB : B ≤ s) : Src W B ao ln cap s w := ⟨hb, hB, 0, m, z, h, by omega, by omega⟩

set_option maxHeartbeats 1000000 in
theorem c_l01Source (ao : Option Addr) (ln cap : Nat) (w : World) (hc : CodeAt w w.heap.size ao ln) :
    Calls Try.prog 36 #[.slice ao ln cap] w fun e w' => e = .returned (.pointer (some ⟨w.heap.size, 0, none⟩)) ∧ Src w w.heap.size ao ln cap w.heap.size w' := by
  have hln := hc.1
  have HC : Hid (CodeAt w w.heap.size ao ln) := hc
  clear hc
  obtain ⟨z, hz, hz0, hz1⟩ : ∃ z, Int.tdiv (ln : Int) 20 = z ∧ 0 ≤ z ∧ z ≤ 1048576 := ⟨((ln / 20 : Nat) : Int), rfl, by omega, by omega⟩
  go_enter Try.func36, Try.ntmps36
  go_wp2
  go_loopw [4] (fun i wr => ∃ (k : Nat) (m : Int), i = .int .i64 k ∧ k ≤ ln ∧ k ≤ 64 ∧ SB wr w.heap.size ao ln cap m 0 ∧ Below w.heap.size w wr) (fun i wr => 64 - (intOf i).toNat)
  case atStart => exact ⟨0, _, rfl, by omega, by omega, heap_alloc_new w _, (Below.refl _ _).alloc (Nat.le_refl _) _⟩
  case round =>
    obtain ⟨k, m, rfl, hk, hk64, hS, hbel⟩ := hrel
    by_cases hlt : k < ln ∧ k < 64
    · obtain ⟨h1, h2⟩ := hlt
      obtain ⟨b, off, rfl, hb, hcell⟩ := HC.out.2 (by omega)
      obtain ⟨x, hx, _⟩ := hcell k h1
      have hx' : wr.cell? ⟨b, off + k, none⟩ = some (.int .u8 x) := by rw [hbel.cell (by exact hb)]; exact hx
      have h1' : (k : Int) < (ln : Int) := by omega
      have h2' : (k : Int) < 64 := by omega
      obtain ⟨c2, c3, f2, f3⟩ := sb_cells hS
      have HS : Hid (SB wr w.heap.size (some ⟨b, off, none⟩) ln cap m 0) := hS
      have HB : Hid (Below w.heap.size w wr) := hbel
      clear hS hbel hx hcell
      go_wp2
      go_region
      go_wp2
      go_roundw
      case rel => exact ⟨k + 1, _, by go_num, by omega, by omega, sb_drew (sb_2 HS.out), (HB.out.setCell (Nat.le_refl _) _).drew⟩
      case measure => simp [intOf]; omega
    · have hcs : (¬ (k : Int) < (ln : Int)) ∨ ((k : Int) < (ln : Int) ∧ ¬ (k : Int) < 64) := by omega
      obtain ⟨c2, c3, f2, f3⟩ := sb_cells hS
      have HS : Hid (SB wr w.heap.size ao ln cap m 0) := hS
      have HB : Hid (Below w.heap.size w wr) := hbel
      clear hS hbel hlt
      rcases hcs with h1 | ⟨h1, h2⟩
      · by_cases hz12 : 12 < z
        · go_wp2
          go_ret
          exact ⟨rfl, sb_src (sb_3 (sb_3 HS.out)) ((HB.out.setCell (Nat.le_refl _) _).setCell (Nat.le_refl _) _) (Nat.le_refl _)⟩
        · go_wp2
          go_ret
          exact ⟨rfl, sb_src (sb_3 HS.out) (HB.out.setCell (Nat.le_refl _) _) (Nat.le_refl _)⟩
      · by_cases hz12 : 12 < z
        · go_wp2
          go_ret
          exact ⟨rfl, sb_src (sb_3 (sb_3 HS.out)) ((HB.out.setCell (Nat.le_refl _) _).setCell (Nat.le_refl _) _) (Nat.le_refl _)⟩
        · go_wp2
          go_ret
          exact ⟨rfl, sb_src (sb_3 HS.out) (HB.out.setCell (Nat.le_refl _) _) (Nat.le_refl _)⟩
end Go.Proofs.Ytljhjcmodaaaoaa
