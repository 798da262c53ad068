/-
  The model's sketch of how many: a hash laid in registers.
-/
import Derived.Test.YtljhjcmodaaaoaaHlZ
import Derived.Test.YtljhjcmodaaaoaaHlN
import Derived.Lib.ItoaNum
namespace Go.Proofs.Ytljhjcmodaaaoaa
set_option linter.unusedVariables false
set_option linter.unusedSimpArgs false
open Go.ChangeShapes Go.WideShapes Go.ChangeAt Go.RowKit Go.PlainAid Go.Maps
set_option maxRecDepth 10000

theorem bit_top {v : Nat} (h : 9223372036854775808 ≤ v) (h2 : v < 18446744073709551616) : Lib.bitLen v = 64 := by
  have hb := Lib.bitLenAux_bounds 64 v (by simpa using h2) (by omega)
  have hl := bitLen_le64 v
  have hd : Lib.bitLen v = Lib.bitLenAux 64 v := rfl
  rw [← hd] at hb
  by_cases q : Lib.bitLen v ≤ 63
  · have : 2 ^ Lib.bitLen v ≤ 2 ^ 63 := Nat.pow_le_pow_right (by omega) q
    omega
  · omega
/-- So many steps on the way, and such a number left. -/
def rhoAt (n v : Int) : Int := min (64 - (Lib.bitLen v.toNat : Int) + n) 55
theorem rho_start (x : Int) : rhoAt 1 (IntKind.u64.wrap (x * 64)) = rho x := rfl
theorem rho_step {n v : Int} (h1 : 1 ≤ n) (h0 : 0 ≤ v) (hv : v < 9223372036854775808) : rhoAt (n + 1) (v * 2) = rhoAt n v := by
  unfold rhoAt
  by_cases e : v = 0
  · subst e
    simp [Lib.bitLen, Lib.bitLenAux_zero]; omega
  · have := Lib.bitLen_half (v * 2).toNat (by omega) (by omega)
    have h2 : (v * 2).toNat / 2 = v.toNat := by omega
    rw [h2] at this
    rw [this]; omega
theorem rho_full {v : Int} : rhoAt 55 v = 55 := by
  unfold rhoAt; have := bitLen_le64 v.toNat; omega
theorem rho_end {n v : Int} (hn : n ≤ 55) (hv : 9223372036854775808 ≤ v) (h2 : v < 18446744073709551616) : rhoAt n v = n := by
  unfold rhoAt; rw [bit_top (by omega) (by omega)]; omega
set_option maxHeartbeats 2000000 in
theorem c_s_Lay {w : World} {B g : Nat} {R : List Int} (x : Int) (hx : U64 x) (hR : RowI w B g R) :
    Calls Try.prog 60 #[.slice (some ⟨g, 0, none⟩) 64 64, .int .u64 x] w fun e w' => (∃ r, e = .returned r) ∧ RowI w' B g (lay R x) ∧ Below B w w' := by
  have hrl := reg_lt hx
  have q0 : 0 ≤ x / 288230376151711744 := by unfold U64 at hx; omega
  have q1 : x / 288230376151711744 < 64 := by unfold U64 at hx; omega
  have qw : IntKind.i64.wrap (x / 288230376151711744) = x / 288230376151711744 := IntWalk.i64_in _ ⟨by omega, by omega⟩
  obtain ⟨v, hv⟩ : ∃ v, v = R.getD (reg x) 0 := ⟨_, rfl⟩
  have hcell : w.cell? ⟨g, (x / 288230376151711744).toNat, none⟩ = some (.int .i64 v) := hR.cell hrl hv
  have hfz : w.frozen? ⟨g, (x / 288230376151711744).toNat, none⟩ = false := hR.froz (reg x)
  have HF : Hid (∀ y, y = rho x → RowI (w.setCell ⟨g, (x / 288230376151711744).toNat, none⟩ (.int .i64 (max v y))) B g (lay R x) ∧ Below B w (w.setCell ⟨g, (x / 288230376151711744).toNat, none⟩ (.int .i64 (max v y)))) := fun y hy => by
    subst hy
    refine ⟨?_, (Below.refl _ _).setCell hR.lt.1 _⟩
    have := hR.set (reg x) (max v (rho x))
    unfold lay; rw [← hv]; exact this
  obtain ⟨s0, s1⟩ := u64_rng (x * 64)
  have HS := hide (rho_start x)
  clear hR hv hrl
  go_enter Try.func60, Try.ntmps60
  go_wp2
  go_loopw [5, 6] (fun a b wr => wr = w ∧ ∃ n z : Int, a = .int .i64 n ∧ b = .int .u64 z ∧ 1 ≤ n ∧ n ≤ 55 ∧ 0 ≤ z ∧ z ≤ 18446744073709551615 ∧ Hid (rhoAt n z = rho x)) (fun a b wr => 55 - (intOf a).toNat)
  case atStart => exact ⟨rfl, 1, _, rfl, rfl, by omega, by omega, s0, s1, HS⟩
  case round =>
    clear HS s0 s1
    obtain ⟨rfl, n, z, rfl, rfl, n1, n2, z0, z1, HR⟩ := hrel
    by_cases hn : n < 55
    · by_cases hz : z < 9223372036854775808
      · have dz : z / 9223372036854775808 = 0 := by omega
        have d0 : decide (z / 9223372036854775808 = 0) = true := decide_eq_true dz
        have uw : IntKind.u64.wrap (z * 2) = z * 2 := IntWalk.u64_in _ ⟨by omega, by omega⟩
        have HR2 : Hid (rhoAt (n + 1) (z * 2) = rho x) := (rho_step n1 z0 hz).trans HR.out
        go_wp2
        go_roundw
        case rel => exact ⟨trivial, n + 1, z * 2, rfl, rfl, by omega, by omega, by omega, by omega, HR2⟩
        case measure => simp [intOf]; omega
      · have dz : z / 9223372036854775808 = 1 := by omega
        have HE : Hid (n = rho x) := (rho_end n2 (by omega) (by omega)).symm.trans HR.out
        go_wp2_with (go_at_call 42; refine (c_s_l01Max _ _ _).mono ?_; rintro e w1 ⟨rfl, hw⟩; obtain rfl := hw.symm)
        go_end0
        exact ⟨⟨_, rfl⟩, HF.out _ HE.out⟩
    · obtain rfl : n = 55 := by omega
      have HE : Hid ((55 : Int) = rho x) := rho_full.symm.trans HR.out
      go_wp2_with (go_at_call 42; refine (c_s_l01Max _ _ _).mono ?_; rintro e w1 ⟨rfl, hw⟩; obtain rfl := hw.symm)
      go_end0
      exact ⟨⟨_, rfl⟩, HF.out _ HE.out⟩
end Go.Proofs.Ytljhjcmodaaaoaa
