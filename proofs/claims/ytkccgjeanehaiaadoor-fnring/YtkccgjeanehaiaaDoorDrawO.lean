/-
  Weak contracts of the draws: what is drawn for OwnerOf; a number out of a code.
-/
import Derived.Test.YtkccgjeanehaiaaDoorDrawM
namespace Go.Proofs.YtkccgjeanehaiaaDoor
set_option linter.unusedVariables false
set_option linter.unusedSimpArgs false
open Go.ChangeShapes Go.WideShapes Go.ChangeAt Go.RowKit Go.PlainAid

theorem strs_own {w : World} {B c : Nat} {lo : Option Addr} {L : List ByteArray} (h : w.ownsRow B 9 1 (.slice lo L.length c) L.length (L.map Value.string)) : StrsAt w lo L := fun h0 => by
  obtain ⟨g, c', e⟩ := own_form h h0
  cases e
  exact strs_owned h h0

set_option maxHeartbeats 1000000 in
theorem c_DrawOwnerOf (ao : Option Addr) (ln cap : Nat) (w : World) (hc : CodeAt w w.heap.size ao ln) :
    Calls Tryd.prog 6 #[.slice ao ln cap] w fun e w' => ∃ lo lc key, ∃ L : List ByteArray, e = .returned (.tuple #[.slice lo L.length lc, .string key]) ∧ L.length ≤ 14 ∧ (∀ u ∈ L, u.size ≤ 10) ∧ key.size ≤ 8 ∧ StrsAt w' lo L ∧ Below w.heap.size w w' := by
  go_enter Tryd.func6, Tryd.ntmps6
  go_wp2_with (first
    | (go_at_call 21; refine (c_l01Source _ _ _ _ hc).mono ?_; rintro e w1 ⟨rfl, hS⟩; have HS := hide hS; have hs1 := src_lt hS; clear hS)
    | (go_at_call 22; refine (c_l02Members hc HS.out).mono ?_; rintro e w2 ⟨v, L, rfl, hL, hM⟩; obtain ⟨lo, lc, ev⟩ := own_any hM.own; subst ev; have HM := hide hM; clear hM)
    | (go_at_call 24; refine (c_n hc HM.out.src _ (by omega)).mono ?_; rintro e w3 ⟨nv, rfl, n0, n1, _, hS3, hg3⟩; have n1 := n1 (by omega); have HM3 := hide (HM.out.call hs1 hS3 hg3); clear hS3 hg3; obtain ⟨nn, rfl⟩ := Int.eq_ofNat_of_zero_le n0)
    | (go_at_call 23; refine (c_bytes hc HM3.out.src nn (by omega)).mono ?_; rintro e w4 ⟨key, rfl, hkz, hS4, hg4⟩; have HM4 := hide (HM3.out.call hs1 hS4 hg4); have hkz : key.size ≤ 8 := (by omega); clear hS4 hg4))
  go_ret2
  exact ⟨lo, lc, key, L, rfl, hL, HM4.out.sz, hkz, strs_own HM4.out.own, HM4.out.src.bel⟩

theorem c_lwAt (ao : Option Addr) (ln cap : Nat) (k : Nat) (hk : k ≤ 1) (w w0 : World) (hc : CodeAt w0 w0.heap.size ao ln) (hb : Below w0.heap.size w0 w) :
    Calls Tryd.prog 12 #[.slice ao ln cap, .int .i64 k, .int .i64 26] w fun e w' => ∃ v : Nat, e = .returned (.int .i64 v) ∧ v < 26 ∧ w' = w := by
  have hln := hc.1
  rcases Nat.eq_zero_or_pos ln with h0 | h0
  · subst h0
    clear hc hb
    go_enter Tryd.func12, Tryd.ntmps12
    go_wp2
    go_ret
    exact ⟨0, rfl, by omega, rfl⟩
  · obtain ⟨b, off, rfl, hbl, hcell⟩ := hc.2 h0
    obtain ⟨r, hr⟩ : ∃ r, k % ln = r := ⟨_, rfl⟩
    have hrl : r < ln := by rw [← hr]; exact Nat.mod_lt _ h0
    have er : Int.tmod (k : Int) (ln : Int) = (r : Int) := by rw [← hr]; rfl
    obtain ⟨x, hx, x0, x1⟩ := hcell r hrl
    obtain ⟨X, rfl⟩ := Int.eq_ofNat_of_zero_le x0
    have ew : IntKind.i64.wrap (X : Int) = X := IntWalk.i64_in _ ⟨by omega, by omega⟩
    have et : Int.tmod (X : Int) 26 = ((X % 26 : Nat) : Int) := rfl
    have hx' : w.cell? ⟨b, off + r, none⟩ = some (.int .u8 X) := by rw [hb.cell (by exact hbl)]; exact hx
    have hne : ((ln : Int) == 0) = false := beq_eq_false_iff_ne.2 (by omega)
    clear hc hb hcell hx hr
    go_enter Tryd.func12, Tryd.ntmps12
    go_wp2
    go_ret
    exact ⟨X % 26, rfl, Nat.mod_lt _ (by omega), rfl⟩
end Go.Proofs.YtkccgjeanehaiaaDoor
