/-
  Weak contracts of the draws: each returns, within its bounds, and turns its own source alone.
-/
import Derived.Test.YtljhjcmodaaaoaaRows
import Derived.Test.YtljhjcmodaaaoaaKeep
import Derived.WalkKit
import Derived.RegionTactic
import Derived.BigRegion
import Derived.BigQuiet
import Derived.Deep.QuietTactic
import Derived.PlainAid
import Derived.Outline
namespace Go.Proofs.Ytljhjcmodaaaoaa
set_option linter.unusedVariables false
set_option linter.unusedSimpArgs false
open Go.ChangeShapes Go.WideShapes Go.ChangeAt Go.RowKit Go.PlainAid

/-- A slice of bytes that lies below block B. -/
def CodeAt (W : World) (B : Nat) (ao : Option Addr) (ln : Nat) : Prop :=
  ln ≤ 1048576 ∧ (0 < ln → ∃ b off, ao = some ⟨b, off, none⟩ ∧ b < B ∧ ∀ i, i < ln → ∃ x : Int, W.cell? ⟨b, off + i, none⟩ = some (.int .u8 x) ∧ 0 ≤ x ∧ x ≤ 255)

/-- A source of draws over such a slice, in block s. -/
structure Src (W : World) (B : Nat) (ao : Option Addr) (ln cap s : Nat) (w : World) : Prop where
  bel : Below B W w
  hB : B ≤ s
  blk : ∃ at_ mix sz : Int, w.heap[s]? = some (.cells #[.slice ao ln cap, .int .i64 at_, .int .u64 mix, .int .i64 sz] 69 (0, 0)) ∧ 0 ≤ at_ ∧ at_ ≤ ln

theorem src_lt {W w : World} {B ln cap s : Nat} {ao : Option Addr} (h : Src W B ao ln cap s w) : s < w.heap.size := by
  obtain ⟨_, _, _, h, _⟩ := h.blk
  rcases Nat.lt_or_ge s w.heap.size with k | k
  · exact k
  · rw [Array.getElem?_eq_none k] at h; cases h
theorem src_bel {W w : World} {B ln cap s : Nat} {ao : Option Addr} (h : Src W B ao ln cap s w) {w' : World} (hb : w.grownBy w' (some s)) : Below B W w' :=
  h.bel.grown hb (Nat.le_trans h.hB (Nat.le_of_lt (src_lt h))) (fun k e => by cases e; exact h.hB)
/-- Another call that leaves the source alone. -/
theorem src_past {W w : World} {B ln cap s : Nat} {ao : Option Addr} (h : Src W B ao ln cap s w) {w' : World} (hb : Below w.heap.size w w') : Src W B ao ln cap s w' := by
  have hs := src_lt h
  obtain ⟨a, m, z, hk, h1, h2⟩ := h.blk
  exact ⟨h.bel.trans (hb.mono (Nat.le_trans h.hB (Nat.le_of_lt hs))), h.hB, a, m, z, by rw [hb.block s hs]; exact hk, h1, h2⟩
theorem grown_set (w : World) (a : Addr) (u : Value) : w.grownBy (w.setCell a u) (some a.block) :=
  ⟨rfl, rfl, rfl, by simp [World.setCell], fun k hk hne => Below.heap_setCell _ _ _ _ (fun e => hne (by rw [e]))⟩
theorem drew_heap (w : World) : w.drew.heap = w.heap := rfl
theorem grown_drew {w w1 : World} {r : Option Nat} (h : w.grownBy w1 r) : w.grownBy w1.drew r := ⟨h.os, h.tape, h.output, h.size, h.block⟩
theorem grown_drews (w : World) (k : Nat) (r : Option Nat) : w.grownBy (w.drewN k) r := ⟨rfl, rfl, rfl, Nat.le_refl _, fun _ _ _ => rfl⟩

theorem rem_bd (a m : Int) (hm : 1 < m) (h9 : m ≤ 9223372036854775807) : 0 ≤ wrap64 (Int.tmod (IntKind.u64.wrap a) m) ∧ wrap64 (Int.tmod (IntKind.u64.wrap a) m) < m := by
  have h0 : 0 ≤ IntKind.u64.wrap a := by rw [IntKind.wrap_u64]; omega
  have h1 : 0 ≤ Int.tmod (IntKind.u64.wrap a) m := Int.tmod_nonneg _ h0
  have h2 : Int.tmod (IntKind.u64.wrap a) m < m := Int.tmod_lt_of_pos _ (by omega)
  have e : wrap64 (Int.tmod (IntKind.u64.wrap a) m) = Int.tmod (IntKind.u64.wrap a) m := by rw [← i64_is]; exact IntWalk.i64_in _ ⟨by omega, by omega⟩
  rw [e]; exact ⟨h1, h2⟩
theorem heap3 {w : World} {s k : Nat} {A B C D x y z : Value} {t : TypeId} (hk : w.heap[s]? = some (.cells #[A, B, C, D] t (0, 0))) :
    ((((w.drewN k).setCell ⟨s, 2, none⟩ x).setCell ⟨s, 2, none⟩ y).setCell ⟨s, 2, none⟩ z).heap[s]? = some (.cells #[A, B, z, D] t (0, 0)) := by
  have h0 : (w.drewN k).heap[s]? = some (.cells #[A, B, C, D] t (0, 0)) := hk
  have h1 := heap_setCell_same _ s 2 _ _ x h0
  have h2 := heap_setCell_same _ s 2 _ _ y h1
  exact heap_setCell_same _ s 2 _ _ z h2
theorem heap4 {w : World} {s k : Nat} {A B C D x y z u : Value} {t : TypeId} (hk : w.heap[s]? = some (.cells #[A, B, C, D] t (0, 0))) :
    (((((w.drewN k).setCell ⟨s, 1, none⟩ u).setCell ⟨s, 2, none⟩ x).setCell ⟨s, 2, none⟩ y).setCell ⟨s, 2, none⟩ z).heap[s]? = some (.cells #[A, u, z, D] t (0, 0)) := by
  have h0 : (w.drewN k).heap[s]? = some (.cells #[A, B, C, D] t (0, 0)) := hk
  have h0 := heap_setCell_same _ s 1 _ _ u h0
  have h1 := heap_setCell_same _ s 2 _ _ x h0
  have h2 := heap_setCell_same _ s 2 _ _ y h1
  exact heap_setCell_same _ s 2 _ _ z h2
theorem grown3 (w : World) (s k : Nat) (x y z : Value) : w.grownBy ((((w.drewN k).setCell ⟨s, 2, none⟩ x).setCell ⟨s, 2, none⟩ y).setCell ⟨s, 2, none⟩ z) (some s) :=
  (((grown_drews w k _).trans (grown_set _ ⟨s, 2, none⟩ x)).trans (grown_set _ ⟨s, 2, none⟩ y)).trans (grown_set _ ⟨s, 2, none⟩ z)
theorem grown4 (w : World) (s k : Nat) (u x y z : Value) : w.grownBy (((((w.drewN k).setCell ⟨s, 1, none⟩ u).setCell ⟨s, 2, none⟩ x).setCell ⟨s, 2, none⟩ y).setCell ⟨s, 2, none⟩ z) (some s) :=
  ((((grown_drews w k _).trans (grown_set _ ⟨s, 1, none⟩ u)).trans (grown_set _ ⟨s, 2, none⟩ x)).trans (grown_set _ ⟨s, 2, none⟩ y)).trans (grown_set _ ⟨s, 2, none⟩ z)

set_option maxHeartbeats 1000000 in
theorem n_late (most at_ mix sz : Int) (ao : Option Addr) (len cap s : Nat) (w : World) (hm : 1 < most) (hm2 : most ≤ 9223372036854775807)
    (hk : w.heap[s]? = some (.cells #[.slice ao len cap, .int .i64 at_, .int .u64 mix, .int .i64 sz] 69 (0, 0))) (hat : ¬ at_ < (len : Int)) :
    Calls Try.prog 55 #[.pointer (some ⟨s, 0, none⟩), .int .i64 most] w fun e w' => ∃ v mix', e = .returned (.int .i64 v) ∧ 0 ≤ v ∧ v < most ∧ w'.heap[s]? = some (.cells #[.slice ao len cap, .int .i64 at_, .int .u64 mix', .int .i64 sz] 69 (0, 0)) ∧ w.grownBy w' (some s) := by
  have c0 : w.cell? ⟨s, 0, none⟩ = some (.slice ao len cap) := by rw [cell_of_row w s 0 _ _ (0, 0) hk]; rfl
  have c1 : w.cell? ⟨s, 1, none⟩ = some (.int .i64 at_) := by rw [cell_of_row w s 1 _ _ (0, 0) hk]; rfl
  have c2 : w.cell? ⟨s, 2, none⟩ = some (.int .u64 mix) := by rw [cell_of_row w s 2 _ _ (0, 0) hk]; rfl
  have f2 := frozen_of_row w s 2 _ _ hk
  obtain ⟨m1, e1⟩ : ∃ m1, bits BinOp.xor IntKind.u64 mix (IntKind.u64.wrap (mix * 8192)) = m1 := ⟨_, rfl⟩
  obtain ⟨m2, e2⟩ : ∃ m2, bits BinOp.xor IntKind.u64 m1 (m1 / 128) = m2 := ⟨_, rfl⟩
  obtain ⟨m3, e3⟩ : ∃ m3, bits BinOp.xor IntKind.u64 m2 (IntKind.u64.wrap (m2 * 131072)) = m3 := ⟨_, rfl⟩
  have c5 : ∀ k x y z, ((((w.drewN k).setCell ⟨s, 2, none⟩ x).setCell ⟨s, 2, none⟩ y).setCell ⟨s, 2, none⟩ z).cell? ⟨s, 2, none⟩ = some z := fun k x y z => by
    have g0 : (w.drewN k).cell? ⟨s, 2, none⟩ = some (.int .u64 mix) := c2
    have g1 := World.cell?_setCell_same _ _ x g0
    have g2 := World.cell?_setCell_same _ _ y g1
    exact World.cell?_setCell_same _ _ z g2
  have HK : Hid (w.heap[s]? = some (.cells #[.slice ao len cap, .int .i64 at_, .int .u64 mix, .int .i64 sz] 69 (0, 0))) := hk
  clear hk
  go_enter Try.func55, Try.ntmps55
  go_wp2
  go_quiet (fail)
  go_wp2
  go_region
  go_wp2
  go_region
  go_wp2
  go_region
  go_wp2
  go_ret
  refine ⟨_, m3, rfl, (rem_bd _ _ hm hm2).1, (rem_bd _ _ hm hm2).2, ?_, ?_⟩
  · simp only [drew_heap]; exact heap3 HK.out
  · repeat apply grown_drew
    exact grown3 w s _ _ _ _

set_option maxHeartbeats 1000000 in
theorem n_early (most mix sz x : Int) (len cap s a b off : Nat) (w : World) (hm : 1 < most) (hm2 : most ≤ 9223372036854775807)
    (hk : w.heap[s]? = some (.cells #[.slice (some ⟨b, off, none⟩) len cap, .int .i64 a, .int .u64 mix, .int .i64 sz] 69 (0, 0))) (hat : (a : Int) < (len : Int)) (hlen : len ≤ 1048576) (hx : w.cell? ⟨b, off + a, none⟩ = some (.int .u8 x)) :
    Calls Try.prog 55 #[.pointer (some ⟨s, 0, none⟩), .int .i64 most] w fun e w' => ∃ v mix', e = .returned (.int .i64 v) ∧ 0 ≤ v ∧ v < most ∧ w'.heap[s]? = some (.cells #[.slice (some ⟨b, off, none⟩) len cap, .int .i64 ((a : Int) + 1), .int .u64 mix', .int .i64 sz] 69 (0, 0)) ∧ w.grownBy w' (some s) := by
  have c0 : w.cell? ⟨s, 0, none⟩ = some (.slice (some ⟨b, off, none⟩) len cap) := by rw [cell_of_row w s 0 _ _ (0, 0) hk]; rfl
  have c1 : w.cell? ⟨s, 1, none⟩ = some (.int .i64 a) := by rw [cell_of_row w s 1 _ _ (0, 0) hk]; rfl
  have c2 : w.cell? ⟨s, 2, none⟩ = some (.int .u64 mix) := by rw [cell_of_row w s 2 _ _ (0, 0) hk]; rfl
  have f1 := frozen_of_row w s 1 _ _ hk
  have f2 := frozen_of_row w s 2 _ _ hk
  obtain ⟨m1, e1⟩ : ∃ m1, bits BinOp.xor IntKind.u64 mix (IntKind.u64.wrap (mix * 8192)) = m1 := ⟨_, rfl⟩
  obtain ⟨m2, e2⟩ : ∃ m2, bits BinOp.xor IntKind.u64 m1 (m1 / 128) = m2 := ⟨_, rfl⟩
  obtain ⟨m3, e3⟩ : ∃ m3, bits BinOp.xor IntKind.u64 m2 (IntKind.u64.wrap (m2 * 131072)) = m3 := ⟨_, rfl⟩
  have c4 : ∀ k u x y, ((((w.drewN k).setCell ⟨s, 1, none⟩ u).setCell ⟨s, 2, none⟩ x).setCell ⟨s, 2, none⟩ y).cell? ⟨s, 2, none⟩ = some y := fun k u x y => by
    have g0 : ((w.drewN k).setCell ⟨s, 1, none⟩ u).cell? ⟨s, 2, none⟩ = some (.int .u64 mix) := by rw [World.cell?_setCell_other _ _ _ _ (by simp)]; exact c2
    have g1 := World.cell?_setCell_same _ _ x g0
    exact World.cell?_setCell_same _ _ y g1
  have c5 : ∀ k u x y z, (((((w.drewN k).setCell ⟨s, 1, none⟩ u).setCell ⟨s, 2, none⟩ x).setCell ⟨s, 2, none⟩ y).setCell ⟨s, 2, none⟩ z).cell? ⟨s, 2, none⟩ = some z := fun k u x y z => by
    have g0 : ((w.drewN k).setCell ⟨s, 1, none⟩ u).cell? ⟨s, 2, none⟩ = some (.int .u64 mix) := by rw [World.cell?_setCell_other _ _ _ _ (by simp)]; exact c2
    have g1 := World.cell?_setCell_same _ _ x g0
    have g2 := World.cell?_setCell_same _ _ y g1
    exact World.cell?_setCell_same _ _ z g2
  have HK : Hid (w.heap[s]? = some (.cells #[.slice (some ⟨b, off, none⟩) len cap, .int .i64 a, .int .u64 mix, .int .i64 sz] 69 (0, 0))) := hk
  clear hk
  go_enter Try.func55, Try.ntmps55
  go_wp2
  go_quiet (fail)
  go_wp2
  go_quiet (fail)
  go_wp2
  go_region
  go_wp2
  go_region
  go_wp2
  go_region
  go_wp2
  go_ret
  refine ⟨_, m3, rfl, (rem_bd _ _ hm hm2).1, (rem_bd _ _ hm hm2).2, ?_, ?_⟩
  · simp only [drew_heap]; exact heap4 HK.out
  · repeat apply grown_drew
    exact grown4 w s _ _ _ _ _

/-- The contract of n. -/
theorem c_n {W w : World} {B ln cap s : Nat} {ao : Option Addr} (hc : CodeAt W B ao ln) (h : Src W B ao ln cap s w) (most : Int) (h9 : most ≤ 9223372036854775807) :
    Calls Try.prog 55 #[.pointer (some ⟨s, 0, none⟩), .int .i64 most] w fun e w' => ∃ v, e = .returned (.int .i64 v) ∧ 0 ≤ v ∧ (1 ≤ most → v < most) ∧ (most ≤ 1 → v = 0) ∧ Src W B ao ln cap s w' ∧ w.grownBy w' (some s) := by
  by_cases hm : 1 < most
  · obtain ⟨at_, mix, sz, hk, h0, h1⟩ := h.blk
    by_cases hat : at_ < (ln : Int)
    · obtain ⟨b, off, rfl, hb, hcell⟩ := hc.2 (by omega)
      obtain ⟨x, hx, _⟩ := hcell at_.toNat (by omega)
      have ha : at_ = (at_.toNat : Int) := by omega
      have hx' : w.cell? ⟨b, off + at_.toNat, none⟩ = some (.int .u8 x) := by rw [h.bel.cell (by exact hb)]; exact hx
      rw [ha] at hk hat
      refine (n_early most mix sz x ln cap s at_.toNat b off w hm h9 hk hat hc.1 hx').mono ?_
      rintro e w' ⟨v, mix', rfl, v0, v1, hk', hg⟩
      exact ⟨v, rfl, v0, fun _ => v1, fun h => by omega, ⟨src_bel h hg, h.hB, _, _, _, hk', by omega, by omega⟩, hg⟩
    · refine (n_late most at_ mix sz ao ln cap s w hm h9 hk hat).mono ?_
      rintro e w' ⟨v, mix', rfl, v0, v1, hk', hg⟩
      exact ⟨v, rfl, v0, fun _ => v1, fun h => by omega, ⟨src_bel h hg, h.hB, _, _, _, hk', h0, h1⟩, hg⟩
  · have hm' : most ≤ 1 := by omega
    have HS : Hid (Src W B ao ln cap s w) := h
    clear h hc hm
    go_enter Try.func55, Try.ntmps55
    go_wp2
    go_ret
    exact ⟨0, rfl, by omega, fun h => by omega, fun _ => rfl, HS.out, World.grownBy.refl _ _⟩
end Go.Proofs.Ytljhjcmodaaaoaa
