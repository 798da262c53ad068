/-
  The laws' lwAt: a byte of the code, told by a place and a bound.
-/
import Derived.Test.YtljhjcmodaaaoaaDraw
namespace Go.Proofs.Ytljhjcmodaaaoaa
set_option linter.unusedVariables false
set_option linter.unusedSimpArgs false
open Go.ChangeShapes Go.WideShapes Go.ChangeAt Go.RowKit Go.PlainAid

/-- What stands at a place of the code. -/
def lwF (w : World) (ao : Option Addr) (ln k : Nat) (m : Int) : Int := if ln = 0 then 0 else match ao with
  | some a => match w.cell? ⟨a.block, a.off + k % ln, none⟩ with
    | some (.int .u8 x) => Int.tmod x m
    | _ => 0
  | none => 0
theorem lwF_in {w : World} {ao : Option Addr} {ln : Nat} {m : Int} (hc : CodeAt w w.heap.size ao ln) (hm : 0 < m) (k : Nat) : 0 ≤ lwF w ao ln k m ∧ lwF w ao ln k m < m := by
  unfold lwF
  split
  · omega
  · rename_i h0
    obtain ⟨b, off, rfl, hbl, hcell⟩ := hc.2 (by omega)
    obtain ⟨x, hx, x0, x1⟩ := hcell (k % ln) (Nat.mod_lt _ (by omega))
    simp only [hx]
    exact ⟨Int.tmod_nonneg _ x0, Int.tmod_lt_of_pos _ hm⟩
theorem c_lwAtF (ao : Option Addr) (ln cap k : Nat) (m : Int) (hk : k ≤ 1000) (hm : 1 < m) (hm9 : m ≤ 1000) (w w0 : World) (hc : CodeAt w0 w0.heap.size ao ln) (hb : Below w0.heap.size w0 w) :
    Calls Try.prog 22 #[.slice ao ln cap, .int .i64 k, .int .i64 m] w fun e w' => e = .returned (.int .i64 (lwF w0 ao ln k m)) ∧ w' = w := by
  have hln := hc.1
  rcases Nat.eq_zero_or_pos ln with h0 | h0
  · subst h0
    have HE : Hid (0 = lwF w0 ao 0 k m) := (rfl : 0 = lwF w0 ao 0 k m)
    clear hc hb
    go_enter Try.func22, Try.ntmps22
    go_wp2
    go_ret
    exact ⟨by rw [← HE.out]; rfl, rfl⟩
  · obtain ⟨b, off, rfl, hbl, hcell⟩ := hc.2 h0
    obtain ⟨r, hr⟩ : ∃ r, k % ln = r := ⟨_, rfl⟩
    have hrl : r < ln := by rw [← hr]; exact Nat.mod_lt _ h0
    have er : Int.tmod (k : Int) (ln : Int) = (r : Int) := by rw [← hr]; rfl
    obtain ⟨x, hx, x0, x1⟩ := hcell r hrl
    have HE : Hid (Int.tmod x m = lwF w0 (some ⟨b, off, none⟩) ln k m) := by
      refine (?_ : Int.tmod x m = lwF w0 (some ⟨b, off, none⟩) ln k m)
      unfold lwF; rw [if_neg (by omega)]; simp only [hr, hx]
    have t0 : 0 ≤ Int.tmod x m := Int.tmod_nonneg _ x0
    have t1 : Int.tmod x m < m := Int.tmod_lt_of_pos _ (by omega)
    have ew : IntKind.i64.wrap x = x := IntWalk.i64_in _ ⟨by omega, by omega⟩
    have hx' : w.cell? ⟨b, off + r, none⟩ = some (.int .u8 x) := by rw [hb.cell (by exact hbl)]; exact hx
    have hne : ((ln : Int) == 0) = false := beq_eq_false_iff_ne.2 (by omega)
    have hme : ((m : Int) == 0) = false := beq_eq_false_iff_ne.2 (by omega)
    obtain ⟨q, hq⟩ : ∃ q, Int.tmod x m = q := ⟨_, rfl⟩
    rw [hq] at HE t0 t1
    have wq : wrap64 q = q := w64_id (by unfold I64; omega)
    clear hc hb hcell hx hr
    go_enter Try.func22, Try.ntmps22
    go_wp2
    go_ret
    exact ⟨by rw [← HE.out]; rfl, rfl⟩
theorem c_lwAtI (ao : Option Addr) (ln cap : Nat) (j : Int) (k : Nat) (m : Int) (hj : j = (k : Int)) (hk : k ≤ 1000) (hm : 1 < m) (hm9 : m ≤ 1000) (w w0 : World) (hc : CodeAt w0 w0.heap.size ao ln) (hb : Below w0.heap.size w0 w) :
    Calls Try.prog 22 #[.slice ao ln cap, .int .i64 j, .int .i64 m] w fun e w' => e = .returned (.int .i64 (lwF w0 ao ln k m)) ∧ w' = w := by
  subst hj; exact c_lwAtF ao ln cap k m hk hm hm9 w w0 hc hb
end Go.Proofs.Ytljhjcmodaaaoaa
