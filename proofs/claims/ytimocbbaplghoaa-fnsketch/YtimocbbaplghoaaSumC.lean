/-
  Contracts of SketchWeight, of the program and of its model.
-/
import Derived.Test.YtimocbbaplghoaaRightC
import Derived.Test.YtimocbbaplghoaaSkC
import Derived.Test.YtimocbbaplghoaaWeightC
namespace Go.Proofs.Ytimocbbaplghoaa
set_option linter.unusedVariables false
set_option linter.unusedSimpArgs false
open Go.ChangeShapes Go.WideShapes Go.ChangeAt Go.RowKit Go.PlainAid Go.Lib
set_option maxRecDepth 10000

/-- A weight stays at 2^64-1. -/
def satU (n : Int) : Int := if 18446744073709551615 < n then 18446744073709551615 else n
def wsum : List Bn → Int
  | [] => 0
  | x :: r => x.2 + wsum r
theorem wAdd_sat (a b : Int) : wAdd a b = satU (a + b) := rfl
theorem sat_in {n : Int} (h : 0 ≤ n) : U64 (satU n) := by unfold U64 satU; split <;> omega
theorem sat_id {n : Int} (h : U64 n) : satU n = n := by unfold U64 at h; unfold satU; rw [if_neg (by omega)]
theorem sat_l {a b : Int} (hb : 0 ≤ b) : satU (satU a + b) = satU (a + b) := by unfold satU; split <;> split <;> omega
theorem sat_r {a b : Int} (ha : 0 ≤ a) : satU (a + satU b) = satU (a + b) := by rw [Int.add_comm, sat_l ha, Int.add_comm]
theorem wsum_nn {L : List Bn} (h : ∀ x ∈ L, BnOk x) : 0 ≤ wsum L := by
  induction L with
  | nil => exact Int.le_refl _
  | cons x r ih =>
    have h1 := (h x (List.mem_cons_self ..)).2.1
    have h2 := ih (fun y hy => h y (List.mem_cons_of_mem _ hy))
    show 0 ≤ x.2 + wsum r; omega
theorem wsum_app (A B : List Bn) : wsum (A ++ B) = wsum A + wsum B := by
  induction A with
  | nil => simp [wsum]
  | cons x r ih => simp [wsum, ih]; omega
theorem wsum_take {L : List Bn} {k : Nat} {x : Bn} (h : L[k]? = some x) : wsum (L.take (k + 1)) = wsum (L.take k) + x.2 := by
  rw [List.take_add_one, h, wsum_app]; simp [wsum]
theorem ok_take {L : List Bn} (h : ∀ x ∈ L, BnOk x) (k : Nat) : ∀ x ∈ L.take k, BnOk x := fun x hx => h x (List.mem_of_mem_take hx)

set_option maxHeartbeats 1000000 in
theorem c_i_binsWeight {w : World} {ao : Option Addr} {L : List Bn} (cap N : Nat) (hn : L.length = N) (hl : N ≤ 1048576) (hA : BinsAt w ao L) (hok : ∀ x ∈ L, BnOk x) :
    Calls Try.prog 37 #[.slice ao N cap] w fun e w' => e = .returned (.int .u64 (satU (wsum L))) ∧ Below w.heap.size w w' := by
  have HA := hide hA
  have HK := hide hok
  have HN := hide hn
  clear hA hok hn
  go_enter Try.func37, Try.ntmps37
  go_wp2
  go_loopw [3, 8] (fun q i wr => Below w.heap.size w wr ∧ ∃ (k : Nat) (s : Int), k ≤ N ∧ i = .int .i64 k ∧ q = .int .u64 s ∧ Hid (s = satU (wsum (L.take k)))) (fun q i wr => N - (intOf i).toNat)
  case atStart => exact ⟨Below.refl _ _, 0, 0, Nat.zero_le _, rfl, rfl, (rfl : (0 : Int) = satU (wsum (L.take 0)))⟩
  case round =>
    obtain ⟨hbel, k, s, hk, rfl, rfl, HR⟩ := hrel
    have HB := hide hbel
    by_cases hkn : k < N
    · obtain ⟨⟨a, u⟩, hRk⟩ : ∃ a, L[k]? = some a := ⟨L[k]'(by have := HN.out; omega), List.getElem?_eq_getElem _⟩
      have hu := (HK.out _ (List.mem_of_getElem? hRk)).2
      have hs : U64 s := by rw [HR.out]; exact sat_in (wsum_nn (ok_take HK.out k))
      obtain ⟨b, off, rfl, hcell⟩ := HA.out (by have := HN.out; omega)
      have hc0 := cell_past hbel (hcell k _ hRk).1
      have hc1 := cell_past hbel (hcell k _ hRk).2
      have hz := hbel.size
      have HE : Hid (wAdd s u = satU (wsum (L.take (k + 1)))) := by
        refine (?_ : wAdd s u = satU (wsum (L.take (k + 1))))
        rw [wsum_take hRk, wAdd_sat, HR.out, sat_l hu.1]
      clear hbel hcell hRk
      simp only at hu
      go_wp2_with (go_at_call 18; refine (c_i_WeightAdd _ _ hs hu _).mono ?_; rintro e w1 ⟨rfl, rfl⟩)
      go_roundw
      case rel => exact ⟨HB.out.alloc hz _, k + 1, _, by omega, by go_num, rfl, HE⟩
      case measure => simp [intOf]; omega
    · have HE : Hid (s = satU (wsum L)) := by
        refine (?_ : s = satU (wsum L))
        rw [HR.out, List.take_of_length_le (by have := HN.out; omega)]
      clear hbel
      go_wp2
      go_ret
      exact ⟨ret_u64 HE.out, HB.out⟩

set_option maxHeartbeats 2000000 in
theorem c_s_l03Weight {w : World} {z h l : Int} {pa na : Option Addr} {pn pc nn nc : Nat} {P N : List Bn} (hz0 : U64 z) (hp : P.length = pn) (hn : N.length = nn) (lp : pn ≤ 1048576) (ln : nn ≤ 1048576) (hP : BinsAt w pa P) (hN : BinsAt w na N) (kP : ∀ x ∈ P, BnOk x) (kN : ∀ x ∈ N, BnOk x) :
    Calls Try.prog 38 #[.agg #[.int .u64 z, .slice pa pn pc, .slice na nn nc, .int .i64 h, .int .u64 l]] w fun e w' => e = .returned (.int .u64 (satU (z + wsum P + wsum N))) ∧ Below w.heap.size w w' := by
  have HP := hide hP
  have HN := hide hN
  have KP := hide kP
  have KN := hide kN
  have EP := hide hp
  have EN := hide hn
  have HZ := hide hz0
  clear hP hN kP kN hp hn hz0
  go_enter Try.func38, Try.ntmps38
  go_wp2
  go_loopw [3, 4] (fun q i wr => Below w.heap.size w wr ∧ SkCell wr w.heap.size z (.slice pa pn pc) (.slice na nn nc) h l ∧ ∃ (k : Nat) (s : Int), k ≤ pn ∧ i = .int .i64 k ∧ q = .int .u64 s ∧ Hid (s = satU (z + wsum (P.take k)))) (fun q i wr => pn - (intOf i).toNat)
  case atStart => exact ⟨(Below.refl _ _).alloc (Nat.le_refl _) _, sk_new _ _ _ _ _ _ _, 0, z, Nat.zero_le _, rfl, rfl, (by rw [List.take_zero]; exact ((by rw [show z + wsum [] = z by simp [wsum]]; exact sat_id HZ.out : satU (z + wsum []) = z)).symm : z = satU (z + wsum (P.take 0)))⟩
  case round =>
    obtain ⟨hbel, hK, k, s, hk, rfl, rfl, HR⟩ := hrel
    have HB := hide hbel
    have HK := hide hK
    have hs : U64 s := by rw [HR.out]; exact sat_in (by have := wsum_nn (ok_take KP.out k); have := HZ.out.1; omega)
    by_cases hkn : k < pn
    · obtain ⟨⟨a, u⟩, hRk⟩ : ∃ a, P[k]? = some a := ⟨P[k]'(by have := EP.out; omega), List.getElem?_eq_getElem _⟩
      have hu := (KP.out _ (List.mem_of_getElem? hRk)).2
      obtain ⟨b, off, rfl, hcell⟩ := HP.out (by have := EP.out; omega)
      have hc1 := cell_past hbel (hcell k _ hRk).2
      have HE : Hid (wAdd s u = satU (z + wsum (P.take (k + 1)))) := by
        refine (?_ : wAdd s u = satU (z + wsum (P.take (k + 1))))
        rw [wsum_take hRk, wAdd_sat, HR.out, sat_l hu.1, Int.add_assoc]
      clear hbel hcell hRk
      simp only at hu
      go_wp2_with (go_at_call 55; refine (c_s_WeightAdd _ _ hs hu _).mono ?_; rintro e w1 ⟨rfl, rfl⟩)
      go_roundw
      case rel => exact ⟨HB.out, HK.out, k + 1, _, by omega, by go_num, rfl, HE⟩
      case measure => simp [intOf]; omega
    · have HE : Hid (s = satU (z + wsum P)) := by
        refine (?_ : s = satU (z + wsum P))
        rw [HR.out, List.take_of_length_le (by have := EP.out; omega)]
      clear hbel HR hs
      go_wp2
      go_loopw [3, 5] (fun q i wr => Below w.heap.size w wr ∧ SkCell wr w.heap.size z (.slice pa pn pc) (.slice na nn nc) h l ∧ ∃ (k : Nat) (s : Int), k ≤ nn ∧ i = .int .i64 k ∧ q = .int .u64 s ∧ Hid (s = satU (z + wsum P + wsum (N.take k)))) (fun q i wr => nn - (intOf i).toNat)
      case atStart => exact ⟨HB.out, HK.out, 0, s, Nat.zero_le _, rfl, rfl, (by rw [List.take_zero, show z + wsum P + wsum [] = z + wsum P by simp [wsum]]; exact HE.out : s = satU (z + wsum P + wsum (N.take 0)))⟩
      case round =>
        clear hK HB HK HE
        obtain ⟨hbel, hK, j, t, hj, rfl, rfl, HR⟩ := hrel
        have HB := hide hbel
        have HK := hide hK
        have hs : U64 t := by rw [HR.out]; exact sat_in (by have := wsum_nn (ok_take KN.out j); have := wsum_nn KP.out; have := HZ.out.1; omega)
        by_cases hjn : j < nn
        · obtain ⟨⟨a, u⟩, hRk⟩ : ∃ a, N[j]? = some a := ⟨N[j]'(by have := EN.out; omega), List.getElem?_eq_getElem _⟩
          have hu := (KN.out _ (List.mem_of_getElem? hRk)).2
          obtain ⟨b, off, rfl, hcell⟩ := HN.out (by have := EN.out; omega)
          have hc1 := cell_past hbel (hcell j _ hRk).2
          have HE : Hid (wAdd t u = satU (z + wsum P + wsum (N.take (j + 1)))) := by
            refine (?_ : wAdd t u = satU (z + wsum P + wsum (N.take (j + 1))))
            rw [wsum_take hRk, wAdd_sat, HR.out, sat_l hu.1, Int.add_assoc]
          clear hbel hcell hRk
          simp only at hu
          go_wp2_with (go_at_call 55; refine (c_s_WeightAdd _ _ hs hu _).mono ?_; rintro e w1 ⟨rfl, rfl⟩)
          go_roundw
          case rel => exact ⟨HB.out, HK.out, j + 1, _, by omega, by go_num, rfl, HE⟩
          case measure => simp [intOf]; omega
        · have HE : Hid (t = satU (z + wsum P + wsum N)) := by
            refine (?_ : t = satU (z + wsum P + wsum N))
            rw [HR.out, List.take_of_length_le (by have := EN.out; omega)]
          clear hbel HR hs
          go_wp2
          go_ret
          exact ⟨ret_u64 HE.out, HB.out⟩

/-- The weight of a sketch. -/
def skW (z : Int) (P N : List Bn) : Int := if skB P N = true then satU (z + wsum P + wsum N) else 0
set_option maxHeartbeats 1000000 in
theorem c_s_SketchWeight {w : World} {z h l : Int} {pa na : Option Addr} {pn pc nn nc : Nat} {P N : List Bn} (hz0 : U64 z) (hp : P.length = pn) (hn : N.length = nn) (lp : pn ≤ 1048576) (ln : nn ≤ 1048576) (hP : BinsAt w pa P) (hN : BinsAt w na N) (kP : ∀ x ∈ P, BnOk x) (kN : ∀ x ∈ N, BnOk x) :
    Calls Try.prog 16 #[.agg #[.int .u64 z, .slice pa pn pc, .slice na nn nc, .int .i64 h, .int .u64 l]] w fun e w' => e = .returned (.int .u64 (skW z P N)) ∧ Below w.heap.size w w' := by
  have HP := hide hP
  have HN := hide hN
  have KP := hide kP
  have KN := hide kN
  have hW : ∀ o1, Below w.heap.size w (w.alloc o1) := fun o1 => (Below.refl _ _).alloc (Nat.le_refl _) _
  have HW := hide hW
  clear hP hN kP kN hW
  go_enter Try.func16, Try.ntmps16
  go_wp2_with fail
  refine (c_s_SketchRight hp hn lp ln (bins_past HP.out (HW.out _)) (bins_past HN.out (HW.out _)) KP.out KN.out).mono ?_
  rintro e w1 ⟨rfl, hb1⟩
  have HT1 := hide ((HW.out _).trans (hb1.mono (by simp)))
  have K1 := sk_past (sk_new w _ _ _ _ _ _) hb1
  clear hb1
  by_cases hr : skB P N = true
  · have HF : Hid (satU (z + wsum P + wsum N) = skW z P N) := (if_pos hr).symm
    go_wp2_with fail
    refine (c_s_l03Weight hz0 hp hn lp ln (bins_past HP.out HT1.out) (bins_past HN.out HT1.out) KP.out KN.out).mono ?_
    rintro e w2 ⟨rfl, hb2⟩
    have HT2 := hide (chain HT1.out hb2)
    clear hb2
    go_wp2
    go_ret
    exact ⟨ret_u64 HF.out, HT2.out⟩
  · have HF : Hid (0 = skW z P N) := (if_neg hr).symm
    have hr : skB P N = false := by simpa using hr
    go_wp2
    go_ret
    exact ⟨ret_u64 HF.out, HT1.out⟩

set_option maxHeartbeats 1000000 in
theorem c_i_SketchWeight {w : World} {z h l : Int} {pa na : Option Addr} {pn pc nn nc : Nat} {P N : List Bn} (hz0 : U64 z) (hp : P.length = pn) (hn : N.length = nn) (lp : pn ≤ 1048576) (ln : nn ≤ 1048576) (hP : BinsAt w pa P) (hN : BinsAt w na N) (kP : ∀ x ∈ P, BnOk x) (kN : ∀ x ∈ N, BnOk x) :
    Calls Try.prog 15 #[.agg #[.int .u64 z, .slice pa pn pc, .slice na nn nc, .int .i64 h, .int .u64 l]] w fun e w' => e = .returned (.int .u64 (skW z P N)) ∧ Below w.heap.size w w' := by
  have HP := hide hP
  have HN := hide hN
  have KP := hide kP
  have KN := hide kN
  have hW : ∀ o1, Below w.heap.size w (w.alloc o1) := fun o1 => (Below.refl _ _).alloc (Nat.le_refl _) _
  have HW := hide hW
  clear hP hN kP kN hW
  go_enter Try.func15, Try.ntmps15
  go_wp2_with fail
  refine (c_i_SketchRight hp hn lp ln (bins_past HP.out (HW.out _)) (bins_past HN.out (HW.out _)) KP.out KN.out).mono ?_
  rintro e w1 ⟨rfl, hb1⟩
  have HT1 := hide ((HW.out _).trans (hb1.mono (by simp)))
  have K1 := sk_past (sk_new w _ _ _ _ _ _) hb1
  clear hb1
  by_cases hr : skB P N = true
  · have nP := wsum_nn KP.out
    have nN := wsum_nn KN.out
    have hz1 := hz0.1
    have HF : Hid (wAdd (wAdd (satU (wsum N)) z) (satU (wsum P)) = skW z P N) := by
      refine (?_ : wAdd (wAdd (satU (wsum N)) z) (satU (wsum P)) = skW z P N)
      rw [wAdd_sat, wAdd_sat, sat_l hz1, sat_l (sat_in nP).1, sat_r (by omega)]
      exact ((if_pos hr).trans (by congr 1; omega)).symm
    have u1 : U64 (satU (wsum N)) := sat_in nN
    have u2 : U64 (satU (wsum P)) := sat_in nP
    have u3 : U64 (wAdd (satU (wsum N)) z) := by rw [wAdd_sat]; exact sat_in (by have := u1.1; omega)
    have hT6 : ∀ W, Kept w1.heap.size w1 W → Below w.heap.size w W := fun W hW => chain HT1.out hW.1
    have hK6 : ∀ W, Below w1.heap.size w1 W → SkCell W w.heap.size z (.slice pa pn pc) (.slice na nn nc) h l := fun W hW => sk_past K1 hW
    have HT6 := hide hT6
    have HK6 := hide hK6
    clear hT6 hK6 nP nN
    obtain ⟨sN, eN⟩ : ∃ s, satU (wsum N) = s := ⟨_, rfl⟩
    obtain ⟨sP, eP⟩ : ∃ s, satU (wsum P) = s := ⟨_, rfl⟩
    rw [eN] at HF u1 u3
    rw [eP] at HF u2
    have EN := hide eN
    have EP := hide eP
    clear eN eP
    go_wp2_with fail
    go_region_held3 (fun W => Kept w1.heap.size w1 W ∧ SkCell W w.heap.size z (.slice pa pn pc) (.slice na nn nc) h l)
      (first | exact hS3 | exact ⟨held (Below.refl _ _).drew (by simp), HK6.out _ (Below.refl _ _).drew⟩)
      (first
        | (go_at_call 37; have hS := (‹Kept _ _ _ ∧ _›).1; refine (c_i_binsWeight _ _ hn ln (bins_past HN.out (HT6.out _ hS)) KN.out).mono ?_; rintro e w6 ⟨rfl, hb6⟩; rw [EN.out]; have hS1 := (held_call hb6 hS).1; have hS3 : Kept w1.heap.size w1 w6 ∧ _ := ⟨held hS1 (Nat.le_refl _), HK6.out _ hS1⟩; clear hb6)
        | (go_at_call 18; refine (c_i_WeightAdd _ _ u1 hz0 _).mono ?_; rintro e w7 ⟨rfl, rfl⟩))
    have K7 := hS3.2
    have HT7 := hide (HT6.out _ hS3.1)
    clear hS3 K1
    go_wp2_with fail
    refine (c_i_binsWeight _ _ hp lp (bins_past HP.out HT7.out) KP.out).mono ?_
    rintro e w8 ⟨rfl, hb8⟩
    rw [EP.out]
    have HT8 := hide (chain HT7.out hb8)
    clear hb8
    go_wp2_with (go_at_call 18; refine (c_i_WeightAdd _ _ u3 u2 _).mono ?_; rintro e w9 ⟨rfl, rfl⟩)
    go_ret
    exact ⟨ret_u64 HF.out, HT8.out⟩
  · have HF : Hid (0 = skW z P N) := (if_neg hr).symm
    have hr : skB P N = false := by simpa using hr
    go_wp2
    go_ret
    exact ⟨ret_u64 HF.out, HT1.out⟩
end Go.Proofs.Ytimocbbaplghoaa
