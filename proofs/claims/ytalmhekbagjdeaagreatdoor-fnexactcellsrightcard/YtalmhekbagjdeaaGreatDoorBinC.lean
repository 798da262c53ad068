/-
  Contracts of BinOf and BinLow, of the program and of its model.
-/
import Derived.Test.YtalmhekbagjdeaaGreatDoorRows
import Derived.Test.YtalmhekbagjdeaaGreatDoorBinM
import Derived.WalkKit
import Derived.ProofKit
import Derived.OpenShut
import Derived.Below
import Derived.WalkSpells
import Derived.PlainAid
import Derived.Outline
namespace Go.Proofs.YtalmhekbagjdeaaGreatDoor
set_option linter.unusedVariables false
set_option linter.unusedSimpArgs false
open Go.ChangeShapes Go.WideShapes Go.ChangeAt Go.RowKit Go.PlainAid
set_option maxRecDepth 10000

theorem ret_i {a b : Int} (h : a = b) : Ending.returned (.int .i64 a) = .returned (.int .i64 b) := by rw [h]

theorem c_l01IsB (n a b : Int) (w : World) (hn : I64 n) (ha : I64 a) (hb : I64 b) :
    Calls Tryz.prog 44 #[.int .i64 n, .int .i64 a, .int .i64 b] w fun e w' => e = .returned (.bool (decide (a ≤ n ∧ n ≤ b))) ∧ w' = w := by
  unfold I64 at hn ha hb
  by_cases h1 : a ≤ n
  · by_cases h2 : n ≤ b
    · have e : decide (a ≤ n ∧ n ≤ b) = true := decide_eq_true ⟨h1, h2⟩
      rw [e]
      go_enter Tryz.func44, Tryz.ntmps44
      go_wp2
      go_ret
      exact ⟨rfl, rfl⟩
    · have e : decide (a ≤ n ∧ n ≤ b) = false := decide_eq_false (fun h => h2 h.2)
      rw [e]
      go_enter Tryz.func44, Tryz.ntmps44
      go_wp2
      go_ret
      exact ⟨rfl, rfl⟩
  · have e : decide (a ≤ n ∧ n ≤ b) = false := decide_eq_false (fun h => h1 h.1)
    rw [e]
    go_enter Tryz.func44, Tryz.ntmps44
    go_wp2
    go_ret
    exact ⟨rfl, rfl⟩

theorem c_s_BinOf (v : Int) (w : World) (hv : I64 v) :
    Calls Tryz.prog 99 #[.int .i64 v] w fun e w' => e = .returned (.int .i64 (binI v)) ∧ w' = w := by
  have hv' := hv
  unfold I64 at hv
  by_cases h : 1 ≤ v ∧ v ≤ 999999999999999999
  · have e1 : decide (1 ≤ v ∧ v ≤ 999999999999999999) = true := decide_eq_true h
    have HB : Hid (binI v = (binW v.toNat : Int)) := binI_yes h.1 h.2
    have HL : Hid (binW v.toNat ≤ v.toNat) := binW_le _
    obtain ⟨h1, h2⟩ := h
    go_enter Tryz.func99, Tryz.ntmps99
    go_wp2_with (go_at_call 44; refine (c_l01IsB _ _ _ _ hv' (by unfold I64; omega) (by unfold I64; omega)).mono ?_; rintro e w1 ⟨rfl, rfl⟩; rw [e1])
    clear e1
    go_loop [0, 3] (fun x i => ∃ y k : Nat, x = .int .i64 y ∧ i = .int .i64 k ∧ 1 ≤ y ∧ y ≤ 999999999999999999 ∧ Hid (128 * k + binW y = binW v.toNat)) (fun x i => (intOf x).toNat)
    case atStart => exact ⟨v.toNat, 0, by rw [Int.toNat_of_nonneg (by omega)], rfl, by omega, by omega, (by omega : 128 * 0 + binW v.toNat = binW v.toNat)⟩
    case round =>
      obtain ⟨y, k, rfl, rfl, hy, hy2, HR⟩ := hrel
      have hk : k ≤ 999999999999999999 := by have := HR.out; have := HL.out; omega
      obtain ⟨z, hz, hz1, hz2⟩ : ∃ z : Nat, Hid (y / 2 = z) ∧ 2 * z ≤ y ∧ y ≤ 2 * z + 1 := ⟨y / 2, (rfl : y / 2 = y / 2), by omega, by omega⟩
      have hd : Int.tdiv (y : Int) 2 = (z : Int) := by rw [← hz.out]; rfl
      by_cases hlt : (y : Int) < 256
      · have HF : Hid ((128 * (k : Int) + (y : Int)) = binI v) := by
          refine (?_ : (128 * (k : Int) + (y : Int)) = binI v)
          rw [HB.out, ← HR.out, binW_lt (by omega)]; omega
        have h9 : 128 * k ≤ 999999999999999999 := by have := HR.out; have := HL.out; omega
        go_wp2
        go_ret
        exact ⟨ret_i HF.out, rfl⟩
      · have HN : Hid (128 * (k + 1) + binW z = binW v.toNat) := by
          refine (?_ : 128 * (k + 1) + binW z = binW v.toNat)
          rw [← HR.out, binW_ge (v := y) (by omega), hz.out]; omega
        go_wp2
        go_round
        case rel => exact ⟨z, k + 1, by rfl, by go_num, by omega, by omega, HN⟩
        case measure => simp [intOf]; omega
  · have e1 : decide (1 ≤ v ∧ v ≤ 999999999999999999) = false := decide_eq_false h
    have HB : Hid (0 = binI v) := (binI_no h).symm
    clear h
    go_enter Tryz.func99, Tryz.ntmps99
    go_wp2_with (go_at_call 44; refine (c_l01IsB _ _ _ _ hv' (by unfold I64; omega) (by unfold I64; omega)).mono ?_; rintro e w1 ⟨rfl, rfl⟩; rw [e1])
    go_ret
    exact ⟨ret_i HB.out, rfl⟩

theorem c_i_BinOf (v : Int) (w : World) (hv : I64 v) :
    Calls Tryz.prog 217 #[.int .i64 v] w fun e w' => e = .returned (.int .i64 (binI v)) ∧ w' = w := by
  have hv' := hv
  unfold I64 at hv
  by_cases h : 1 ≤ v ∧ v ≤ 999999999999999999
  · have HB : Hid (binI v = (binW v.toNat : Int)) := binI_yes h.1 h.2
    have HL : Hid (binW v.toNat ≤ v.toNat) := binW_le _
    obtain ⟨h1, h2⟩ := h
    go_enter Tryz.func217, Tryz.ntmps217
    go_wp2
    go_loop [0, 3] (fun x i => ∃ y k : Nat, x = .int .i64 y ∧ i = .int .i64 k ∧ 1 ≤ y ∧ y ≤ 999999999999999999 ∧ Hid (128 * k + binW y = binW v.toNat)) (fun x i => (intOf x).toNat)
    case atStart => exact ⟨v.toNat, 0, by rw [Int.toNat_of_nonneg (by omega)], rfl, by omega, by omega, (by omega : 128 * 0 + binW v.toNat = binW v.toNat)⟩
    case round =>
      obtain ⟨y, k, rfl, rfl, hy, hy2, HR⟩ := hrel
      have hk : k ≤ 999999999999999999 := by have := HR.out; have := HL.out; omega
      obtain ⟨z, hz, hz1, hz2⟩ : ∃ z : Nat, Hid (y / 2 = z) ∧ 2 * z ≤ y ∧ y ≤ 2 * z + 1 := ⟨y / 2, (rfl : y / 2 = y / 2), by omega, by omega⟩
      have hd : Int.tdiv (y : Int) 2 = (z : Int) := by rw [← hz.out]; rfl
      by_cases hlt : (y : Int) < 256
      · have HF : Hid ((128 * (k : Int) + (y : Int)) = binI v) := by
          refine (?_ : (128 * (k : Int) + (y : Int)) = binI v)
          rw [HB.out, ← HR.out, binW_lt (by omega)]; omega
        have h9 : 128 * k ≤ 999999999999999999 := by have := HR.out; have := HL.out; omega
        go_wp2
        go_ret
        exact ⟨ret_i HF.out, rfl⟩
      · have HN : Hid (128 * (k + 1) + binW z = binW v.toNat) := by
          refine (?_ : 128 * (k + 1) + binW z = binW v.toNat)
          rw [← HR.out, binW_ge (v := y) (by omega), hz.out]; omega
        go_wp2
        go_round
        case rel => exact ⟨z, k + 1, by rfl, by go_num, by omega, by omega, HN⟩
        case measure => simp [intOf]; omega
  · have HB : Hid (0 = binI v) := (binI_no h).symm
    have hc : v < 1 ∨ ¬ v < 1 ∧ 999999999999999999 < v := by omega
    clear h
    rcases hc with h | ⟨h, h2⟩
    all_goals
      go_enter Tryz.func217, Tryz.ntmps217
      go_wp2
      go_ret
      exact ⟨ret_i HB.out, rfl⟩



end Go.Proofs.YtalmhekbagjdeaaGreatDoor
