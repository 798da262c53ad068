/-
  The contract of spec.l01Dec: a number that is not negative in digits.
-/
import Derived.Test.YtnflhahnbdnaoaaGreatDoorRows
import Derived.Test.YtnflhahnbdnaoaaGreatDoorLA
import Derived.Outline
import Derived.WalkKit
import Derived.PlainAid
import Derived.Lib.ItoaNum
import Derived.Lib.ItoaLen
import Derived.Test.YtnflhahnbdnaoaaGreatDoorLE
import Derived.Lib.TrimByte
import Derived.Lib.PathFns
import Derived.Test.YtnflhahnbdnaoaaGreatDoorKF
import Derived.Lib.AppendIntMem
import Derived.Lib.SmallJoins
namespace Go.Proofs.YtnflhahnbdnaoaaGreatDoor
set_option linter.unusedVariables false
set_option linter.unusedSimpArgs false
open Go.ChangeShapes Go.WideShapes Go.ChangeAt Go.RowKit Go.PlainAid

set_option maxRecDepth 10000 in
set_option maxHeartbeats 1000000 in
theorem c_l01Dec_pos (N : Nat) (hN0 : N ≠ 0) (hN : N ≤ 9223372036854775807) (w : World) :
    Calls Tryz.prog 18 #[.int .i64 N] w fun e w' => e = .returned (.string ⟨(Lib.decDigits N).toArray⟩) ∧ Below w.heap.size w w' := by
  have hb0 : ((N : Int) == 0) = false := beq_eq_false_iff_ne.2 (by omega)
  have hb1 : decide ((N : Int) < 0) = false := decide_eq_false (by omega)
  go_enter Tryz.func18, Tryz.ntmps18
  go_wp2
  go_loopw [0, 4, 5] (fun n o d wr => ∃ (m : Nat) (D : List UInt8), m ≤ N ∧ n = .int .i64 m ∧ o = .string ⟨D.toArray⟩ ∧ DecR N m D ∧ Below w.heap.size w wr) (fun n o d wr => (Go.RowKit.intOf n).toNat)
  case atStart => exact ⟨N, [], Nat.le_refl _, rfl, rfl, ⟨fun h => absurd h hN0, fun _ => by simp⟩, Below.refl _ _⟩
  case round =>
    obtain ⟨m, D, hm, rfl, rfl, hR, hbel⟩ := hrel
    by_cases k : m = 0
    · subst k
      have HR : Hid (DecR N 0 D) := hR
      clear hR
      go_wp2
      go_ret
      exact ⟨ret_str (by rw [HR.out.1 rfl]), hbel⟩
    · obtain ⟨d, hd⟩ : ∃ d, d = m % 10 := ⟨_, rfl⟩
      obtain ⟨q, hq⟩ : ∃ q, q = m / 10 := ⟨_, rfl⟩
      have HR : Hid (DecR N q (UInt8.ofNat (48 + d) :: D)) := by rw [hd, hq]; exact decR_step hR k
      have hln := decR_len hR (dec_len N hN)
      have e1 : Int.tmod (m : Int) 10 = (d : Int) := by rw [hd]; rfl
      have e2 : Int.tdiv (m : Int) 10 = (q : Int) := by rw [hq]; rfl
      have hk : ((m : Int) != 0) = true := by simp; omega
      have hd9 : d < 10 := by omega
      have hqm : q < m := by omega
      have e3 : decide ((d : Int) < 0) = false := decide_eq_false (by omega)
      have e4 : IntKind.u8.wrap (48 + (d : Int)) = 48 + (d : Int) := IntWalk.u8_in _ ⟨by omega, by omega⟩
      obtain ⟨B, hB⟩ : ∃ B, B = strOfNums [48 + (d : Int)] := ⟨_, rfl⟩
      have kc := run_convert_bytes_arg (P := Tryz.prog) (wr.alloc (.cells #[.int .u8 (48 + (d : Int))] 5)) 30 5 Tryz.underlying30 Tryz.underlying5 wr.heap.size 0 1 1 [48 + (d : Int)] rfl (fun i hi => by
            obtain rfl : i = 0 := by omega
            simp) 9 Tryz.underlying9
      rw [← hB] at kc
      have hB1 : B.size = 1 := by rw [hB]; rfl
      have HB : Hid (B ++ ⟨D.toArray⟩ = (⟨(UInt8.ofNat (48 + d) :: D).toArray⟩ : ByteArray)) := (by
        rw [hB, ← str_cat]; congr 1; : B ++ ⟨D.toArray⟩ = (⟨(UInt8.ofNat (48 + d) :: D).toArray⟩ : ByteArray))
      have hD : (⟨D.toArray⟩ : ByteArray).size = D.length := rfl
      have HL : Hid (Below w.heap.size w wr) := hbel
      have hz := hbel.size
      clear hR hd hq k hb0 hb1 hB hbel
      go_wp2
      go_roundw
      case rel => exact ⟨q, UInt8.ofNat (48 + d) :: D, by omega, rfl, by rw [HB.out], HR.out, HL.out.alloc (by omega) _⟩
      case measure => simp [Go.RowKit.intOf]; omega
end Go.Proofs.YtnflhahnbdnaoaaGreatDoor

/-
  Plain facts: a value's text in digits. Of no program.
-/
namespace Go.Proofs.YtnflhahnbdnaoaaGreatDoor
set_option linter.unusedVariables false
set_option linter.unusedSimpArgs false
open Go.RowKit Go.PlainAid

def dgt (x : Nat) : UInt8 := UInt8.ofNat (48 + x)
theorem dgt_zero : ∀ {x : Nat}, x < 10 → dgt x = 48 → x = 0 := by decide
/-- The six digits of a part. -/
def six (r : Nat) : List UInt8 := [dgt (r / 100000 % 10), dgt (r / 10000 % 10), dgt (r / 1000 % 10), dgt (r / 100 % 10), dgt (r / 10 % 10), dgt (r % 10)]
theorem dec7 {r : Nat} (h : r < 1000000) : Lib.decDigits (1000000 + r) = 49 :: six r := by
  have st : ∀ a b : Nat, 1 ≤ a → Lib.decDigits (10 * a + b) = Lib.decDigits (a + b / 10) ++ [dgt (b % 10)] := fun a b ha => by
    rw [dec_ten (by omega), show (10 * a + b) / 10 = a + b / 10 by omega, show (10 * a + b) % 10 = b % 10 by omega]; rfl
  rw [show 1000000 + r = 10 * 100000 + r by omega, st _ _ (by omega), show 100000 + r / 10 = 10 * 10000 + r / 10 by omega, st _ _ (by omega), Nat.div_div_eq_div_mul,
    show 10000 + r / (10 * 10) = 10 * 1000 + r / 100 by omega, st _ _ (by omega), Nat.div_div_eq_div_mul,
    show 1000 + r / (100 * 10) = 10 * 100 + r / 1000 by omega, st _ _ (by omega), Nat.div_div_eq_div_mul,
    show 100 + r / (1000 * 10) = 10 * 10 + r / 10000 by omega, st _ _ (by omega), Nat.div_div_eq_div_mul,
    show 10 + r / (10000 * 10) = 10 * 1 + r / 100000 by omega, st _ _ (by omega), Nat.div_div_eq_div_mul,
    show 1 + r / (100000 * 10) = 1 by omega, Lib.decDigits_one (by omega)]
  rfl
theorem six_some {r : Nat} (h : r < 1000000) (h0 : r ≠ 0) : ∃ x ∈ six r, x ≠ 48 := by
  refine Classical.byContradiction fun hn => h0 ?_
  have hall : ∀ x ∈ six r, x = 48 := fun x hx => Classical.byContradiction fun hne => hn ⟨x, hx, hne⟩
  have a1 := dgt_zero (Nat.mod_lt _ (by omega)) (hall (dgt (r / 100000 % 10)) (by simp [six]))
  have a2 := dgt_zero (Nat.mod_lt _ (by omega)) (hall (dgt (r / 10000 % 10)) (by simp [six]))
  have a3 := dgt_zero (Nat.mod_lt _ (by omega)) (hall (dgt (r / 1000 % 10)) (by simp [six]))
  have a4 := dgt_zero (Nat.mod_lt _ (by omega)) (hall (dgt (r / 100 % 10)) (by simp [six]))
  have a5 := dgt_zero (Nat.mod_lt _ (by omega)) (hall (dgt (r / 10 % 10)) (by simp [six]))
  have a6 := dgt_zero (Nat.mod_lt _ (by omega)) (hall (dgt (r % 10)) (by simp [six]))
  omega
theorem trim_snoc_hit (L : List UInt8) (c : UInt8) : Lib.trimRightB (L ++ [c]) c = Lib.trimRightB L c := by
  unfold Lib.trimRightB; rw [List.reverse_append]; simp
theorem trim_snoc_miss (L : List UInt8) (x c : UInt8) (h : x ≠ c) : Lib.trimRightB (L ++ [x]) c = L ++ [x] := by
  unfold Lib.trimRightB; rw [List.reverse_append]; simp [h]
/-- What is left of the part as noughts are taken off its end. -/
def TrR (r : Nat) (L : List UInt8) : Prop := Lib.trimRightB L 48 = Lib.trimRightB (six r) 48 ∧ (∃ x ∈ L, x ≠ 48) ∧ L.length ≤ 6
theorem trR_last {r : Nat} {L : List UInt8} (h : TrR r L) : ∃ L' x, L = L' ++ [x] := by
  rcases List.eq_nil_or_concat L with e | ⟨L', x, e⟩
  · obtain ⟨x, hx, _⟩ := h.2.1; rw [e] at hx; cases hx
  · exact ⟨L', x, by rw [e, List.concat_eq_append]⟩
theorem trR_step {r : Nat} {L' : List UInt8} (h : TrR r (L' ++ [48])) : TrR r L' := by
  refine ⟨by rw [← h.1, trim_snoc_hit], ?_, by have := h.2.2; simp at this; omega⟩
  obtain ⟨x, hx, hne⟩ := h.2.1
  rcases List.mem_append.1 hx with k | k
  · exact ⟨x, k, hne⟩
  · exact absurd (List.mem_singleton.1 k) hne
theorem trR_end {r : Nat} {L' : List UInt8} {x : UInt8} (h : TrR r (L' ++ [x])) (hx : x ≠ 48) : Lib.trimRightB (six r) 48 = L' ++ [x] := by
  rw [← h.1, trim_snoc_miss _ _ _ hx]
theorem trR_start {r : Nat} (h : r < 1000000) (h0 : r ≠ 0) : TrR r (six r) := ⟨rfl, six_some h h0, Nat.le_refl _⟩

/-- The part's digits. -/
def ptx (r : Nat) : ByteArray := ⟨(Lib.trimRightB (six r) 48).toArray⟩
/-- A number's digits. -/
def dtx (n : Nat) : ByteArray := ⟨(Lib.decDigits n).toArray⟩
theorem ptx_size (r : Nat) : (ptx r).size ≤ 6 := by
  show (Lib.trimRightB (six r) 48).length ≤ 6
  unfold Lib.trimRightB
  rw [List.length_reverse]
  have h := (List.dropWhile_sublist (fun x : UInt8 => x == 48) (l := (six r).reverse)).length_le
  rw [List.length_reverse] at h
  exact h
theorem dtx_size (n : Nat) (h : n ≤ 9223372036854775807) : (dtx n).size ≤ 21 := dec_len n h
/-- The sign's text. -/
def sgx (v : Int) : ByteArray := if v < 0 then ⟨#[45]⟩ else ⟨#[]⟩
/-- A value's text. -/
def vtx (v : Int) : ByteArray :=
  if -999999999999999999 ≤ v ∧ v ≤ 999999999999999999 then (if v.natAbs % 1000000 = 0 then sgx v ++ dtx (v.natAbs / 1000000) else sgx v ++ dtx (v.natAbs / 1000000) ++ ⟨#[46]⟩ ++ ptx (v.natAbs % 1000000)) else ⟨#[]⟩
theorem tail7 {r : Nat} (h : r < 1000000) : (dtx (1000000 + r)).extract 1 (dtx (1000000 + r)).size = ⟨(six r).toArray⟩ := by
  rw [Lib.extract_from]; unfold dtx; rw [dec7 h]; rfl
end Go.Proofs.YtnflhahnbdnaoaaGreatDoor

/-
  The contract of impl.ValueText.
-/
namespace Go.Proofs.YtnflhahnbdnaoaaGreatDoor
set_option linter.unusedVariables false
set_option linter.unusedSimpArgs false
open Go.ChangeShapes Go.WideShapes Go.ChangeAt Go.RowKit Go.PlainAid

/-- The table of the powers of ten lies as the library lays it. -/
def tabU (w : World) : Prop := Lib.TabIs Tryz.prog w "internal/strconv.uint64pow10" .u64 Lib.pow10Tab
theorem tabU_past {w w' : World} {B : Nat} (h : tabU w) (hb : Below B w w') (hB : w.heap.size ≤ B) : tabU w' := by
  exact Go.Joins.var_stays (show Tryz.prog.globalNamed "internal/strconv.uint64pow10" = some 1 by kernel_rfl) h hb hB

theorem c_FormatInt (n : Nat) (hn : n ≤ 9223372036854775807) (w : World) (ht : tabU w) :
    Calls Tryz.prog 50 #[.int .i64 n, .int .i64 10] w fun e w' => e = .returned (.string (dtx n)) ∧ Below w.heap.size w w' := by
  refine (Tryz.strconv_FormatInt_10 n (by omega) (by omega) w ht).mono ?_
  rintro e w' ⟨rfl, k, os, rfl⟩
  refine ⟨?_, Lib.below_grow _ _ (Nat.le_refl _) _ _⟩
  have e : Lib.itoa (n : Int) = Lib.decDigits n := by unfold Lib.itoa; rw [if_neg (by omega)]; simp
  rw [e]; rfl

theorem c_valueRightV (v : Int) (w : World) :
    Calls Tryz.prog 56 #[.int .i64 v] w fun e w' => e = .returned (.bool (decide (-999999999999999999 ≤ v) && decide (v ≤ 999999999999999999))) ∧ w' = w := by
  by_cases h1 : -999999999999999999 ≤ v <;> by_cases h2 : v ≤ 999999999999999999 <;> (go_enter Tryz.func56, Tryz.ntmps56; go_wp2; go_ret; exact ⟨by simp [h1, h2], rfl⟩)

/-- The part's text with its dot. -/
def pdx (r : Nat) : ByteArray := if r = 0 then ⟨#[]⟩ else ⟨#[46]⟩ ++ ptx r
theorem c_partText (r : Nat) (hr : r < 1000000) (w : World) (ht : tabU w) :
    Calls Tryz.prog 73 #[.int .i64 r] w fun e w' => e = .returned (.string (pdx r)) ∧ Below w.heap.size w w' := by
  by_cases h : r = 0
  · subst h
    go_enter Tryz.func73, Tryz.ntmps73
    go_wp2
    go_ret
    exact ⟨rfl, Below.refl _ _⟩
  · have HP : Hid (⟨#[46]⟩ ++ ptx r = pdx r) := (by unfold pdx; rw [if_neg h] : ⟨#[46]⟩ ++ ptx r = pdx r)
    have HF : Hid (∀ w, tabU w → Calls Tryz.prog 50 #[.int .i64 (1000000 + (r : Int)), .int .i64 10] w fun e w' => e = .returned (.string (dtx (1000000 + r))) ∧ Below w.heap.size w w') := fun w ht => by
      have := c_FormatInt (1000000 + r) (by omega) w ht
      rwa [show ((1000000 + r : Nat) : Int) = 1000000 + (r : Int) by omega] at this
    have hb : ((r : Int) == 0) = false := beq_eq_false_iff_ne.2 (by omega)
    have hx : (dtx (1000000 + r)).extract 1 (dtx (1000000 + r)).size = ⟨(six r).toArray⟩ := tail7 hr
    obtain ⟨S, hS⟩ : ∃ S, S = dtx (1000000 + r) := ⟨_, rfl⟩
    have hz : S.size = 7 := by rw [hS]; show (Lib.decDigits (1000000 + r)).length = 7; rw [dec7 hr]; rfl
    have hps := ptx_size r
    rw [← hS] at hx HF
    obtain ⟨T, hT⟩ : ∃ T, T = (⟨(six r).toArray⟩ : ByteArray) := ⟨_, rfl⟩
    rw [← hT] at hx
    have hx7 : S.extract 1 7 = T := by rw [← hz]; exact hx
    have HT : Hid (∀ w, Calls Tryz.prog 95 #[.string T, .string ⟨#[48]⟩] w fun e w' => e = .returned (.string (ptx r)) ∧ w' = w) := fun w => by
      have := Tryz.strings_TrimRight_one T 48 (by decide) w (by rw [hT]; show 6 ≤ _; omega)
      rw [hT] at this ⊢
      exact this
    clear hS hT h
    go_enter Tryz.func73, Tryz.ntmps73
    go_wp2_with (first
      | (go_at_call 50; refine (HF.out _ ht).mono ?_; rintro e w1 ⟨rfl, hb1⟩)
      | (go_at_call 95; refine (HT.out _).mono ?_; rintro e w2 ⟨rfl, hw⟩; obtain rfl := hw.symm))
    go_ret
    exact ⟨ret_str HP.out, hb1⟩
theorem cat_pdx (A : ByteArray) (r : Nat) : A ++ pdx r = (if r = 0 then A else A ++ ⟨#[46]⟩ ++ ptx r) := by
  unfold pdx; split
  · apply ByteArray.ext; rw [ByteArray.data_append]; simp
  · rw [ByteArray.append_assoc]

theorem vtx_at {v : Int} {n : Nat} (hv : -999999999999999999 ≤ v ∧ v ≤ 999999999999999999) (hn : n = v.natAbs) : sgx v ++ dtx (n / 1000000) ++ pdx (n % 1000000) = vtx v := by
  unfold vtx; rw [if_pos hv, cat_pdx, hn]

theorem c_i_ValueText_out (v : Int) (h : ¬ (-999999999999999999 ≤ v ∧ v ≤ 999999999999999999)) (w : World) :
    Calls Tryz.prog 48 #[.int .i64 v] w fun e w' => e = .returned (.string (vtx v)) ∧ Below w.heap.size w w' := by
  have HE : Hid (⟨#[]⟩ = vtx v) := (by unfold vtx; rw [if_neg h] : ⟨#[]⟩ = vtx v)
  have HC : Hid (∀ w, Calls Tryz.prog 56 #[.int .i64 v] w fun e w' => e = .returned (.bool false) ∧ w' = w) := fun w => by
    have := c_valueRightV v w
    rwa [show (decide (-999999999999999999 ≤ v) && decide (v ≤ 999999999999999999)) = false by
      cases h' : (decide (-999999999999999999 ≤ v) && decide (v ≤ 999999999999999999)) with
      | false => rfl
      | true => exact absurd ⟨of_decide_eq_true (Bool.and_eq_true_iff.1 h').1, of_decide_eq_true (Bool.and_eq_true_iff.1 h').2⟩ h] at this
  clear h
  go_enter Tryz.func48, Tryz.ntmps48
  go_wp2_with (go_at_call 56; refine (HC.out _).mono ?_; rintro e w1 ⟨rfl, hw⟩; obtain rfl := hw.symm)
  go_ret
  exact ⟨ret_str HE.out, Below.refl _ _⟩

set_option maxHeartbeats 1000000 in
theorem c_i_ValueText_in (v : Int) (h : -999999999999999999 ≤ v ∧ v ≤ 999999999999999999) (w : World) (ht : tabU w) :
    Calls Tryz.prog 48 #[.int .i64 v] w fun e w' => e = .returned (.string (vtx v)) ∧ Below w.heap.size w w' := by
  obtain ⟨n, hn⟩ : ∃ n, n = v.natAbs := ⟨_, rfl⟩
  obtain ⟨q, hq⟩ : ∃ q, q = n / 1000000 := ⟨_, rfl⟩
  obtain ⟨r, hr⟩ : ∃ r, r = n % 1000000 := ⟨_, rfl⟩
  have hr6 : r < 1000000 := by omega
  have hq12 : q ≤ 9223372036854775807 := by omega
  have HE : Hid (sgx v ++ dtx q ++ pdx r = vtx v) := (by rw [hq, hr]; exact vtx_at h hn : sgx v ++ dtx q ++ pdx r = vtx v)
  have e1 : Int.tdiv (n : Int) 1000000 = (q : Int) := by rw [hq]; rfl
  have e2 : Int.tmod (n : Int) 1000000 = (r : Int) := by rw [hr]; rfl
  have hd := dtx_size q hq12
  have hp : (pdx r).size ≤ 7 := by
    unfold pdx; split
    · decide
    · have := ptx_size r
      rw [ByteArray.size_append]; show 1 + _ ≤ 7; omega
  have HC : Hid (∀ w, Calls Tryz.prog 56 #[.int .i64 v] w fun e w' => e = .returned (.bool true) ∧ w' = w) := fun w => by
    have := c_valueRightV v w
    rwa [decide_eq_true h.1, decide_eq_true h.2] at this
  have HQ : Hid (∀ w, tabU w → Calls Tryz.prog 50 #[.int .i64 (q : Int), .int .i64 10] w fun e w' => e = .returned (.string (dtx q)) ∧ Below w.heap.size w w') := fun w ht => c_FormatInt q hq12 w ht
  have HP : Hid (∀ w, tabU w → Calls Tryz.prog 73 #[.int .i64 (r : Int)] w fun e w' => e = .returned (.string (pdx r)) ∧ Below w.heap.size w w') := fun w ht => c_partText r hr6 w ht
  by_cases hv : v < 0
  · have HS : Hid (sgx v = ⟨#[45]⟩) := if_pos hv
    have hvn : v = -(n : Int) := by omega
    clear hq hr hn
    subst hvn
    go_enter Tryz.func48, Tryz.ntmps48
    go_wp2_with (first
      | (go_at_call 56; refine (HC.out _).mono ?_; rintro e w1 ⟨rfl, hw⟩; obtain rfl := hw.symm)
      | (go_at_call 50; refine (HQ.out _ ht).mono ?_; rintro e w1 ⟨rfl, hb1⟩)
      | (go_at_call 73; refine (HP.out _ (tabU_past ht hb1 (Nat.le_refl _))).mono ?_; rintro e w2 ⟨rfl, hb2⟩))
    go_ret
    exact ⟨ret_str (by rw [← HE.out, HS.out]), chain hb1 hb2⟩
  · have HS : Hid (sgx v = ⟨#[]⟩) := if_neg hv
    have hvn : v = (n : Int) := by omega
    clear hq hr hn
    subst hvn
    go_enter Tryz.func48, Tryz.ntmps48
    go_wp2_with (first
      | (go_at_call 56; refine (HC.out _).mono ?_; rintro e w1 ⟨rfl, hw⟩; obtain rfl := hw.symm)
      | (go_at_call 50; refine (HQ.out _ ht).mono ?_; rintro e w1 ⟨rfl, hb1⟩)
      | (go_at_call 73; refine (HP.out _ (tabU_past ht hb1 (Nat.le_refl _))).mono ?_; rintro e w2 ⟨rfl, hb2⟩))
    go_ret
    exact ⟨ret_str (by rw [← HE.out, HS.out]), chain hb1 hb2⟩
theorem c_i_ValueText (v : Int) (w : World) (ht : tabU w) :
    Calls Tryz.prog 48 #[.int .i64 v] w fun e w' => e = .returned (.string (vtx v)) ∧ Below w.heap.size w w' := by
  by_cases h : -999999999999999999 ≤ v ∧ v ≤ 999999999999999999
  · exact c_i_ValueText_in v h w ht
  · exact c_i_ValueText_out v h w
end Go.Proofs.YtnflhahnbdnaoaaGreatDoor

/-
  The contract of spec.ValueText: what it tells of a value is what impl.ValueText tells.
-/
namespace Go.Proofs.YtnflhahnbdnaoaaGreatDoor
set_option linter.unusedVariables false
set_option linter.unusedSimpArgs false
open Go.ChangeShapes Go.WideShapes Go.ChangeAt Go.RowKit Go.PlainAid

theorem c_l01Dec (N : Nat) (hN : N ≤ 9223372036854775807) (w : World) :
    Calls Tryz.prog 18 #[.int .i64 N] w fun e w' => e = .returned (.string (dtx N)) ∧ Below w.heap.size w w' := by
  by_cases h : N = 0
  · subst h
    have HE : Hid (⟨#[48]⟩ = dtx 0) := (by unfold dtx; rw [Lib.decDigits_one (by omega)]; rfl : ⟨#[48]⟩ = dtx 0)
    go_enter Tryz.func18, Tryz.ntmps18
    go_wp2
    go_ret
    exact ⟨ret_str HE.out, Below.refl _ _⟩
  · exact c_l01Dec_pos N h hN w
theorem c_l01DecI (z : Int) (h0 : 0 ≤ z) (h1 : z ≤ 9223372036854775807) (w : World) :
    Calls Tryz.prog 18 #[.int .i64 z] w fun e w' => e = .returned (.string (dtx z.toNat)) ∧ Below w.heap.size w w' := by
  have := c_l01Dec z.toNat (by omega) w
  rwa [Int.toNat_of_nonneg h0] at this
theorem c_l01Is (v a b : Int) (w : World) :
    Calls Tryz.prog 26 #[.int .i64 v, .int .i64 a, .int .i64 b] w fun e w' => e = .returned (.bool (decide (a ≤ v) && decide (v ≤ b))) ∧ w' = w := by
  by_cases h1 : a ≤ v <;> by_cases h2 : v ≤ b <;> (go_enter Tryz.func26, Tryz.ntmps26; go_wp2; go_ret; exact ⟨by simp [h1, h2], rfl⟩)
theorem c_l01Value (v : Int) (w : World) :
    Calls Tryz.prog 28 #[.int .i64 v] w fun e w' => e = .returned (.bool (decide (-999999999999999999 ≤ v) && decide (v ≤ 999999999999999999))) ∧ w' = w := by
  go_enter Tryz.func28, Tryz.ntmps28
  go_wp2_with (go_at_call 26; refine (c_l01Is _ _ _ _).mono ?_; rintro e w1 ⟨rfl, hw⟩; obtain rfl := hw.symm)
  go_ret
  exact ⟨rfl, rfl⟩

theorem c_s_ValueText_out (v : Int) (h : ¬ (-999999999999999999 ≤ v ∧ v ≤ 999999999999999999)) (w : World) :
    Calls Tryz.prog 17 #[.int .i64 v] w fun e w' => e = .returned (.string (vtx v)) ∧ Below w.heap.size w w' := by
  have HE : Hid (⟨#[]⟩ = vtx v) := (by unfold vtx; rw [if_neg h] : ⟨#[]⟩ = vtx v)
  have HC : Hid (∀ w, Calls Tryz.prog 28 #[.int .i64 v] w fun e w' => e = .returned (.bool false) ∧ w' = w) := fun w => by
    have := c_l01Value v w
    rwa [show (decide (-999999999999999999 ≤ v) && decide (v ≤ 999999999999999999)) = false by
      cases h' : (decide (-999999999999999999 ≤ v) && decide (v ≤ 999999999999999999)) with
      | false => rfl
      | true => exact absurd ⟨of_decide_eq_true (Bool.and_eq_true_iff.1 h').1, of_decide_eq_true (Bool.and_eq_true_iff.1 h').2⟩ h] at this
  clear h
  go_enter Tryz.func17, Tryz.ntmps17
  go_wp2_with (go_at_call 28; refine (HC.out _).mono ?_; rintro e w1 ⟨rfl, hw⟩; obtain rfl := hw.symm)
  go_ret
  exact ⟨ret_str HE.out, Below.refl _ _⟩

/-- The last byte of a text that is cut. -/
theorem last_bt (L : List UInt8) (x : UInt8) : bt ⟨(L ++ [x]).toArray⟩ L.length = (x.toNat : Int) := by
  unfold bt
  rw [dif_pos (show L.length < ByteArray.size ⟨(L ++ [x]).toArray⟩ by show L.length < (L ++ [x]).length; simp)]
  show (((L ++ [x]).toArray[L.length]'_).toNat : Int) = _
  simp
theorem cut_last (L : List UInt8) (x : UInt8) : (⟨(L ++ [x]).toArray⟩ : ByteArray).extract 0 L.length = ⟨L.toArray⟩ := by
  rw [Lib.extract_upto]; simp

def strSz : Value → Nat
  | .string s => s.size
  | _ => 0
set_option maxRecDepth 10000 in
set_option maxHeartbeats 2000000 in
theorem c_s_ValueText_in (v : Int) (h : -999999999999999999 ≤ v ∧ v ≤ 999999999999999999) (w : World) :
    Calls Tryz.prog 17 #[.int .i64 v] w fun e w' => e = .returned (.string (vtx v)) ∧ Below w.heap.size w w' := by
  obtain ⟨n, hn⟩ : ∃ n, n = v.natAbs := ⟨_, rfl⟩
  obtain ⟨q, hq⟩ : ∃ q, q = n / 1000000 := ⟨_, rfl⟩
  obtain ⟨r, hr⟩ : ∃ r, r = n % 1000000 := ⟨_, rfl⟩
  have hr6 : r < 1000000 := by omega
  have hq12 : q ≤ 9223372036854775807 := by omega
  have HE : Hid (sgx v ++ dtx q ++ pdx r = vtx v) := (by rw [hq, hr]; exact vtx_at h hn : sgx v ++ dtx q ++ pdx r = vtx v)
  have e1 : Int.tdiv (n : Int) 1000000 = (q : Int) := by rw [hq]; rfl
  have e2 : Int.tmod (n : Int) 1000000 = (r : Int) := by rw [hr]; rfl
  have hd := dtx_size q hq12
  have HC : Hid (∀ w, Calls Tryz.prog 28 #[.int .i64 v] w fun e w' => e = .returned (.bool true) ∧ w' = w) := fun w => by
    have := c_l01Value v w
    rwa [decide_eq_true h.1, decide_eq_true h.2] at this
  have HQ : Hid (∀ w, Calls Tryz.prog 18 #[.int .i64 (q : Int)] w fun e w' => e = .returned (.string (dtx q)) ∧ Below w.heap.size w w') := fun w => c_l01Dec q hq12 w
  by_cases hv : v < 0
  · have hvn : v = -(n : Int) := by omega
    obtain ⟨v0, hv0⟩ : ∃ v0, v0 = v := ⟨_, rfl⟩
    have HS : Hid (sgx v0 = ⟨#[45]⟩) := (by rw [hv0]; exact if_pos hv : sgx v0 = ⟨#[45]⟩)
    rw [← hv0] at HE
    clear hq hr hn
    subst hvn
    have HV : Hid (v0 = -(n : Int)) := hv0
    have HG : Hid (vtx v0 = vtx (-(n : Int))) := (by rw [hv0] : vtx v0 = vtx (-(n : Int)))
    rw [← HG.out]
    clear hv0
    · by_cases hz : r = 0
      · have HZ : Hid (pdx r = ⟨#[]⟩) := (by unfold pdx; rw [if_pos hz] : pdx r = ⟨#[]⟩)
        have hz' : ((r : Int) == 0) = true := by simp [hz]
        have HA : Hid (⟨#[45]⟩ ++ dtx q = vtx v0) := (by rw [← HE.out, HZ.out, HS.out]; apply ByteArray.ext; rw [ByteArray.data_append]; simp : ⟨#[45]⟩ ++ dtx q = vtx v0)
        clear hz
        go_enter Tryz.func17, Tryz.ntmps17
        go_wp2_with (first
          | (go_at_call 28; refine (HC.out _).mono ?_; rintro e w0 ⟨rfl, hw⟩; obtain rfl := hw.symm)
          | (go_at_call 18; refine (HQ.out _).mono ?_; rintro e w1 ⟨rfl, hb1⟩))
        go_ret
        exact ⟨ret_str HA.out, hb1⟩
      · have HZ : Hid (pdx r = ⟨#[46]⟩ ++ ptx r) := (by unfold pdx; rw [if_neg hz] : pdx r = ⟨#[46]⟩ ++ ptx r)
        have hz' : ((r : Int) == 0) = false := beq_eq_false_iff_ne.2 (by omega)
        have HA : Hid (⟨#[45]⟩ ++ dtx q ++ ⟨#[46]⟩ ++ ptx r = vtx v0) := (by rw [← HE.out, HZ.out, HS.out, ByteArray.append_assoc] : ⟨#[45]⟩ ++ dtx q ++ ⟨#[46]⟩ ++ ptx r = vtx v0)
        have HT : Hid (TrR r (six r)) := trR_start hr6 hz
        have hx : (dtx (1000000 + r)).extract 1 (dtx (1000000 + r)).size = ⟨(six r).toArray⟩ := tail7 hr6
        obtain ⟨S, hS⟩ : ∃ S, S = dtx (1000000 + r) := ⟨_, rfl⟩
        have hsz : S.size = 7 := by rw [hS]; show (Lib.decDigits (1000000 + r)).length = 7; rw [dec7 hr6]; rfl
        have hS1 : dtx (1000000 + (r : Int)).toNat = S := by rw [hS]; congr 1
        have hq0 : (0 : Int) ≤ (q : Int) := by omega
        have hq1 : (q : Int) ≤ 9223372036854775807 := by omega
        have hQ1 : dtx ((q : Int)).toNat = dtx q := rfl
        rw [← hS, hsz] at hx
        clear hz hS
        have hB : Below w.heap.size w w := Below.refl _ _
        go_enter Tryz.func17, Tryz.ntmps17
        go_wp2_with (first
          | (go_at_call 28; refine (HC.out _).mono ?_; rintro e w0 ⟨rfl, hw⟩; obtain rfl := hw.symm)
          | (go_at_call 18; refine (c_l01DecI _ (by omega) (by omega) _).mono ?_; rintro e w1 ⟨rfl, hb1⟩; have hB := hB.trans (hb1.mono hB.size)))
        go_loopw [5] (fun d wr => wr = w1 ∧ ∃ L, d = .string ⟨L.toArray⟩ ∧ TrR r L) (fun d wr => strSz d)
        case atStart => exact ⟨rfl, six r, rfl, HT.out⟩
        case round =>
          obtain ⟨hwr, L, rfl, hR⟩ := hrel
          subst hwr
          obtain ⟨L', x, rfl⟩ := trR_last hR
          obtain ⟨D, hD⟩ : ∃ D, D = (⟨(L' ++ [x]).toArray⟩ : ByteArray) := ⟨_, rfl⟩
          have hbD := get_bt D
          have hDz : D.size = L'.length + 1 := by rw [hD]; show (L' ++ [x]).length = _; simp
          have hla : bt D L'.length = (x.toNat : Int) := by rw [hD]; exact last_bt L' x
          have hcu : D.extract 0 L'.length = ⟨L'.toArray⟩ := by rw [hD]; exact cut_last L' x
          have hl6 : L'.length + 1 ≤ 6 := by have := hR.2.2; simpa using this
          rw [← hD]
          obtain ⟨m, hm⟩ : ∃ m, m = L'.length := ⟨_, rfl⟩
          rw [← hm] at hDz hla hcu hl6
          by_cases hx48 : x = 48
          · have HR : Hid (TrR r L') := trR_step (by rw [hx48] at hR; exact hR)
            have hxx : (bt D m == 48) = true := by rw [hla, hx48]; rfl
            have HM : Hid (L'.length < D.size) := (by omega : L'.length < D.size)
            clear hR hx48 hD hm
            go_wp2
            go_roundw
            case rel => exact ⟨trivial, L', rfl, HR.out⟩
            case measure => exact HM.out
          · have HR : Hid (ptx r = D) := (by rw [hD]; unfold ptx; rw [trR_end hR hx48] : ptx r = D)
            have hxx : (bt D m == 48) = false := beq_eq_false_iff_ne.2 (by
              rw [hla]; intro e; apply hx48; apply UInt8.toNat_inj.1; have : (48 : UInt8).toNat = 48 := rfl; omega)
            clear hR hx48 hD hm
            go_wp2
            go_ret
            exact ⟨ret_str (by rw [← HA.out, HR.out]), hB⟩
  · have hvn : v = (n : Int) := by omega
    obtain ⟨v0, hv0⟩ : ∃ v0, v0 = v := ⟨_, rfl⟩
    have HS : Hid (sgx v0 = ⟨#[]⟩) := (by rw [hv0]; exact if_neg hv : sgx v0 = ⟨#[]⟩)
    rw [← hv0] at HE
    clear hq hr hn
    subst hvn
    have HV : Hid (v0 = (n : Int)) := hv0
    have HG : Hid (vtx v0 = vtx (n : Int)) := (by rw [hv0] : vtx v0 = vtx (n : Int))
    rw [← HG.out]
    clear hv0
    · by_cases hz : r = 0
      · have HZ : Hid (pdx r = ⟨#[]⟩) := (by unfold pdx; rw [if_pos hz] : pdx r = ⟨#[]⟩)
        have hz' : ((r : Int) == 0) = true := by simp [hz]
        have HA : Hid (⟨#[]⟩ ++ dtx q = vtx v0) := (by rw [← HE.out, HZ.out, HS.out]; apply ByteArray.ext; rw [ByteArray.data_append]; simp : ⟨#[]⟩ ++ dtx q = vtx v0)
        clear hz
        go_enter Tryz.func17, Tryz.ntmps17
        go_wp2_with (first
          | (go_at_call 28; refine (HC.out _).mono ?_; rintro e w0 ⟨rfl, hw⟩; obtain rfl := hw.symm)
          | (go_at_call 18; refine (HQ.out _).mono ?_; rintro e w1 ⟨rfl, hb1⟩))
        go_ret
        exact ⟨ret_str HA.out, hb1⟩
      · have HZ : Hid (pdx r = ⟨#[46]⟩ ++ ptx r) := (by unfold pdx; rw [if_neg hz] : pdx r = ⟨#[46]⟩ ++ ptx r)
        have hz' : ((r : Int) == 0) = false := beq_eq_false_iff_ne.2 (by omega)
        have HA : Hid (⟨#[]⟩ ++ dtx q ++ ⟨#[46]⟩ ++ ptx r = vtx v0) := (by rw [← HE.out, HZ.out, HS.out, ByteArray.append_assoc] : ⟨#[]⟩ ++ dtx q ++ ⟨#[46]⟩ ++ ptx r = vtx v0)
        have HT : Hid (TrR r (six r)) := trR_start hr6 hz
        have hx : (dtx (1000000 + r)).extract 1 (dtx (1000000 + r)).size = ⟨(six r).toArray⟩ := tail7 hr6
        obtain ⟨S, hS⟩ : ∃ S, S = dtx (1000000 + r) := ⟨_, rfl⟩
        have hsz : S.size = 7 := by rw [hS]; show (Lib.decDigits (1000000 + r)).length = 7; rw [dec7 hr6]; rfl
        have hS1 : dtx (1000000 + (r : Int)).toNat = S := by rw [hS]; congr 1
        have hq0 : (0 : Int) ≤ (q : Int) := by omega
        have hq1 : (q : Int) ≤ 9223372036854775807 := by omega
        have hQ1 : dtx ((q : Int)).toNat = dtx q := rfl
        rw [← hS, hsz] at hx
        clear hz hS
        have hB : Below w.heap.size w w := Below.refl _ _
        go_enter Tryz.func17, Tryz.ntmps17
        go_wp2_with (first
          | (go_at_call 28; refine (HC.out _).mono ?_; rintro e w0 ⟨rfl, hw⟩; obtain rfl := hw.symm)
          | (go_at_call 18; refine (c_l01DecI _ (by omega) (by omega) _).mono ?_; rintro e w1 ⟨rfl, hb1⟩; have hB := hB.trans (hb1.mono hB.size)))
        go_loopw [5] (fun d wr => wr = w1 ∧ ∃ L, d = .string ⟨L.toArray⟩ ∧ TrR r L) (fun d wr => strSz d)
        case atStart => exact ⟨rfl, six r, rfl, HT.out⟩
        case round =>
          obtain ⟨hwr, L, rfl, hR⟩ := hrel
          subst hwr
          obtain ⟨L', x, rfl⟩ := trR_last hR
          obtain ⟨D, hD⟩ : ∃ D, D = (⟨(L' ++ [x]).toArray⟩ : ByteArray) := ⟨_, rfl⟩
          have hbD := get_bt D
          have hDz : D.size = L'.length + 1 := by rw [hD]; show (L' ++ [x]).length = _; simp
          have hla : bt D L'.length = (x.toNat : Int) := by rw [hD]; exact last_bt L' x
          have hcu : D.extract 0 L'.length = ⟨L'.toArray⟩ := by rw [hD]; exact cut_last L' x
          have hl6 : L'.length + 1 ≤ 6 := by have := hR.2.2; simpa using this
          rw [← hD]
          obtain ⟨m, hm⟩ : ∃ m, m = L'.length := ⟨_, rfl⟩
          rw [← hm] at hDz hla hcu hl6
          by_cases hx48 : x = 48
          · have HR : Hid (TrR r L') := trR_step (by rw [hx48] at hR; exact hR)
            have hxx : (bt D m == 48) = true := by rw [hla, hx48]; rfl
            have HM : Hid (L'.length < D.size) := (by omega : L'.length < D.size)
            clear hR hx48 hD hm
            go_wp2
            go_roundw
            case rel => exact ⟨trivial, L', rfl, HR.out⟩
            case measure => exact HM.out
          · have HR : Hid (ptx r = D) := (by rw [hD]; unfold ptx; rw [trR_end hR hx48] : ptx r = D)
            have hxx : (bt D m == 48) = false := beq_eq_false_iff_ne.2 (by
              rw [hla]; intro e; apply hx48; apply UInt8.toNat_inj.1; have : (48 : UInt8).toNat = 48 := rfl; omega)
            clear hR hx48 hD hm
            go_wp2
            go_ret
            exact ⟨ret_str (by rw [← HA.out, HR.out]), hB⟩
theorem c_s_ValueText (v : Int) (w : World) :
    Calls Tryz.prog 17 #[.int .i64 v] w fun e w' => e = .returned (.string (vtx v)) ∧ Below w.heap.size w w' := by
  by_cases h : -999999999999999999 ≤ v ∧ v ≤ 999999999999999999
  · exact c_s_ValueText_in v h w
  · exact c_s_ValueText_out v h w
end Go.Proofs.YtnflhahnbdnaoaaGreatDoor
