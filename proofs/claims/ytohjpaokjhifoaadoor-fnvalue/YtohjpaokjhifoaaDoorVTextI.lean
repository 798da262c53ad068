/-
  The contract of impl.ValueText.
-/
import Derived.Test.YtohjpaokjhifoaaDoorVTextM
import Derived.Test.YtohjpaokjhifoaaDoorShelf
import Derived.Lib.AppendIntMem
import Derived.Lib.SmallJoins
namespace Go.Proofs.YtohjpaokjhifoaaDoor
set_option linter.unusedVariables false
set_option linter.unusedSimpArgs false
open Go.ChangeShapes Go.WideShapes Go.ChangeAt Go.RowKit Go.PlainAid

/-- The table of the powers of ten lies as the library lays it. -/
def tabU (w : World) : Prop := Lib.TabIs Tryd.prog w "internal/strconv.uint64pow10" .u64 Lib.pow10Tab
theorem tabU_past {w w' : World} {B : Nat} (h : tabU w) (hb : Below B w w') (hB : w.heap.size ≤ B) : tabU w' := by
  exact Go.Joins.var_stays (show Tryd.prog.globalNamed "internal/strconv.uint64pow10" = some 3 by kernel_rfl) h hb hB

theorem c_FormatInt (n : Nat) (hn : n ≤ 9223372036854775807) (w : World) (ht : tabU w) :
    Calls Tryd.prog 26 #[.int .i64 n, .int .i64 10] w fun e w' => e = .returned (.string (dtx n)) ∧ Below w.heap.size w w' := by
  refine (Tryd.strconv_FormatInt_10 n (by omega) (by omega) w ht).mono ?_
  rintro e w' ⟨rfl, k, os, rfl⟩
  refine ⟨?_, Lib.below_grow _ _ (Nat.le_refl _) _ _⟩
  have e : Lib.itoa (n : Int) = Lib.decDigits n := by unfold Lib.itoa; rw [if_neg (by omega)]; simp
  rw [e]; rfl

theorem c_valueRight (v : Int) (w : World) :
    Calls Tryd.prog 25 #[.int .i64 v] w fun e w' => e = .returned (.bool (decide (-999999999999999999 ≤ v) && decide (v ≤ 999999999999999999))) ∧ w' = w := by
  by_cases h1 : -999999999999999999 ≤ v <;> by_cases h2 : v ≤ 999999999999999999 <;> (go_enter Tryd.func25, Tryd.ntmps25; go_wp2; go_ret; exact ⟨by simp [h1, h2], rfl⟩)

/-- The part's text with its dot. -/
def pdx (r : Nat) : ByteArray := if r = 0 then ⟨#[]⟩ else ⟨#[46]⟩ ++ ptx r
theorem c_partText (r : Nat) (hr : r < 1000000) (w : World) (ht : tabU w) :
    Calls Tryd.prog 27 #[.int .i64 r] w fun e w' => e = .returned (.string (pdx r)) ∧ Below w.heap.size w w' := by
  by_cases h : r = 0
  · subst h
    go_enter Tryd.func27, Tryd.ntmps27
    go_wp2
    go_ret
    exact ⟨rfl, Below.refl _ _⟩
  · have HP : Hid (⟨#[46]⟩ ++ ptx r = pdx r) := (by unfold pdx; rw [if_neg h] : ⟨#[46]⟩ ++ ptx r = pdx r)
    have HF : Hid (∀ w, tabU w → Calls Tryd.prog 26 #[.int .i64 (1000000 + (r : Int)), .int .i64 10] w fun e w' => e = .returned (.string (dtx (1000000 + r))) ∧ Below w.heap.size w w') := fun w ht => by
      have := c_FormatInt (1000000 + r) (by omega) w ht
      rwa [show ((1000000 + r : Nat) : Int) = 1000000 + (r : Int) by omega] at this
    have hb : ((r : Int) == 0) = false := beq_eq_false_iff_ne.2 (by omega)
    have hx : (dtx (1000000 + r)).extract 1 (dtx (1000000 + r)).size = ⟨(six r).toArray⟩ := tail7 hr
    obtain ⟨S, hS⟩ : ∃ S, S = dtx (1000000 + r) := ⟨_, rfl⟩
    have hz : S.size = 7 := by rw [hS]; show (Lib.decDigits (1000000 + r)).length = 7; rw [dec7 hr]; rfl
    have hps := ptx_size r
    rw [← hS] at hx HF
    obtain ⟨T, hT⟩ : ∃ T, T = (⟨(six r).toArray⟩ : ByteArray) := ⟨_, rfl⟩
    rw [← hT] at hx
    have hx7 : S.extract 1 7 = T := by rw [← hz]; exact hx
    have HT : Hid (∀ w, Calls Tryd.prog 49 #[.string T, .string ⟨#[48]⟩] w fun e w' => e = .returned (.string (ptx r)) ∧ w' = w) := fun w => by
      have := Tryd.strings_TrimRight_one T 48 (by decide) w (by rw [hT]; show 6 ≤ _; omega)
      rw [hT] at this ⊢
      exact this
    clear hS hT h
    go_enter Tryd.func27, Tryd.ntmps27
    go_wp2_with (first
      | (go_at_call 26; refine (HF.out _ ht).mono ?_; rintro e w1 ⟨rfl, hb1⟩)
      | (go_at_call 49; refine (HT.out _).mono ?_; rintro e w2 ⟨rfl, hw⟩; obtain rfl := hw.symm))
    go_ret
    exact ⟨ret_str HP.out, hb1⟩
theorem cat_pdx (A : ByteArray) (r : Nat) : A ++ pdx r = (if r = 0 then A else A ++ ⟨#[46]⟩ ++ ptx r) := by
  unfold pdx; split
  · apply ByteArray.ext; rw [ByteArray.data_append]; simp
  · rw [ByteArray.append_assoc]

theorem vtx_at {v : Int} {n : Nat} (hv : -999999999999999999 ≤ v ∧ v ≤ 999999999999999999) (hn : n = v.natAbs) : sgx v ++ dtx (n / 1000000) ++ pdx (n % 1000000) = vtx v := by
  unfold vtx; rw [if_pos hv, cat_pdx, hn]

theorem c_i_ValueText_out (v : Int) (h : ¬ (-999999999999999999 ≤ v ∧ v ≤ 999999999999999999)) (w : World) :
    Calls Tryd.prog 6 #[.int .i64 v] w fun e w' => e = .returned (.string (vtx v)) ∧ Below w.heap.size w w' := by
  have HE : Hid (⟨#[]⟩ = vtx v) := (by unfold vtx; rw [if_neg h] : ⟨#[]⟩ = vtx v)
  have HC : Hid (∀ w, Calls Tryd.prog 25 #[.int .i64 v] w fun e w' => e = .returned (.bool false) ∧ w' = w) := fun w => by
    have := c_valueRight v w
    rwa [show (decide (-999999999999999999 ≤ v) && decide (v ≤ 999999999999999999)) = false by
      cases h' : (decide (-999999999999999999 ≤ v) && decide (v ≤ 999999999999999999)) with
      | false => rfl
      | true => exact absurd ⟨of_decide_eq_true (Bool.and_eq_true_iff.1 h').1, of_decide_eq_true (Bool.and_eq_true_iff.1 h').2⟩ h] at this
  clear h
  go_enter Tryd.func6, Tryd.ntmps6
  go_wp2_with (go_at_call 25; refine (HC.out _).mono ?_; rintro e w1 ⟨rfl, hw⟩; obtain rfl := hw.symm)
  go_ret
  exact ⟨ret_str HE.out, Below.refl _ _⟩

set_option maxHeartbeats 1000000 in
theorem c_i_ValueText_in (v : Int) (h : -999999999999999999 ≤ v ∧ v ≤ 999999999999999999) (w : World) (ht : tabU w) :
    Calls Tryd.prog 6 #[.int .i64 v] w fun e w' => e = .returned (.string (vtx v)) ∧ Below w.heap.size w w' := by
  obtain ⟨n, hn⟩ : ∃ n, n = v.natAbs := ⟨_, rfl⟩
  obtain ⟨q, hq⟩ : ∃ q, q = n / 1000000 := ⟨_, rfl⟩
  obtain ⟨r, hr⟩ : ∃ r, r = n % 1000000 := ⟨_, rfl⟩
  have hr6 : r < 1000000 := by omega
  have hq12 : q ≤ 9223372036854775807 := by omega
  have HE : Hid (sgx v ++ dtx q ++ pdx r = vtx v) := (by rw [hq, hr]; exact vtx_at h hn : sgx v ++ dtx q ++ pdx r = vtx v)
  have e1 : Int.tdiv (n : Int) 1000000 = (q : Int) := by rw [hq]; rfl
  have e2 : Int.tmod (n : Int) 1000000 = (r : Int) := by rw [hr]; rfl
  have hd := dtx_size q hq12
  have hp : (pdx r).size ≤ 7 := by
    unfold pdx; split
    · decide
    · have := ptx_size r
      rw [ByteArray.size_append]; show 1 + _ ≤ 7; omega
  have HC : Hid (∀ w, Calls Tryd.prog 25 #[.int .i64 v] w fun e w' => e = .returned (.bool true) ∧ w' = w) := fun w => by
    have := c_valueRight v w
    rwa [decide_eq_true h.1, decide_eq_true h.2] at this
  have HQ : Hid (∀ w, tabU w → Calls Tryd.prog 26 #[.int .i64 (q : Int), .int .i64 10] w fun e w' => e = .returned (.string (dtx q)) ∧ Below w.heap.size w w') := fun w ht => c_FormatInt q hq12 w ht
  have HP : Hid (∀ w, tabU w → Calls Tryd.prog 27 #[.int .i64 (r : Int)] w fun e w' => e = .returned (.string (pdx r)) ∧ Below w.heap.size w w') := fun w ht => c_partText r hr6 w ht
  by_cases hv : v < 0
  · have HS : Hid (sgx v = ⟨#[45]⟩) := if_pos hv
    have hvn : v = -(n : Int) := by omega
    clear hq hr hn
    subst hvn
    go_enter Tryd.func6, Tryd.ntmps6
    go_wp2_with (first
      | (go_at_call 25; refine (HC.out _).mono ?_; rintro e w1 ⟨rfl, hw⟩; obtain rfl := hw.symm)
      | (go_at_call 26; refine (HQ.out _ ht).mono ?_; rintro e w1 ⟨rfl, hb1⟩)
      | (go_at_call 27; refine (HP.out _ (tabU_past ht hb1 (Nat.le_refl _))).mono ?_; rintro e w2 ⟨rfl, hb2⟩))
    go_ret
    exact ⟨ret_str (by rw [← HE.out, HS.out]), chain hb1 hb2⟩
  · have HS : Hid (sgx v = ⟨#[]⟩) := if_neg hv
    have hvn : v = (n : Int) := by omega
    clear hq hr hn
    subst hvn
    go_enter Tryd.func6, Tryd.ntmps6
    go_wp2_with (first
      | (go_at_call 25; refine (HC.out _).mono ?_; rintro e w1 ⟨rfl, hw⟩; obtain rfl := hw.symm)
      | (go_at_call 26; refine (HQ.out _ ht).mono ?_; rintro e w1 ⟨rfl, hb1⟩)
      | (go_at_call 27; refine (HP.out _ (tabU_past ht hb1 (Nat.le_refl _))).mono ?_; rintro e w2 ⟨rfl, hb2⟩))
    go_ret
    exact ⟨ret_str (by rw [← HE.out, HS.out]), chain hb1 hb2⟩
theorem c_i_ValueText (v : Int) (w : World) (ht : tabU w) :
    Calls Tryd.prog 6 #[.int .i64 v] w fun e w' => e = .returned (.string (vtx v)) ∧ Below w.heap.size w w' := by
  by_cases h : -999999999999999999 ≤ v ∧ v ≤ 999999999999999999
  · exact c_i_ValueText_in v h w ht
  · exact c_i_ValueText_out v h w
end Go.Proofs.YtohjpaokjhifoaaDoor
