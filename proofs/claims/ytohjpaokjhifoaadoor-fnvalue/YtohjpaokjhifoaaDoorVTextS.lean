/-
  The contract of spec.ValueText: what it tells of a value is what impl.ValueText tells.
-/
import Derived.Test.YtohjpaokjhifoaaDoorVTextI
namespace Go.Proofs.YtohjpaokjhifoaaDoor
set_option linter.unusedVariables false
set_option linter.unusedSimpArgs false
open Go.ChangeShapes Go.WideShapes Go.ChangeAt Go.RowKit Go.PlainAid

theorem c_l01Dec (N : Nat) (hN : N ≤ 9223372036854775807) (w : World) :
    Calls Tryd.prog 29 #[.int .i64 N] w fun e w' => e = .returned (.string (dtx N)) ∧ Below w.heap.size w w' := by
  by_cases h : N = 0
  · subst h
    have HE : Hid (⟨#[48]⟩ = dtx 0) := (by unfold dtx; rw [Lib.decDigits_one (by omega)]; rfl : ⟨#[48]⟩ = dtx 0)
    go_enter Tryd.func29, Tryd.ntmps29
    go_wp2
    go_ret
    exact ⟨ret_str HE.out, Below.refl _ _⟩
  · exact c_l01Dec_pos N h hN w
theorem c_l01DecI (z : Int) (h0 : 0 ≤ z) (h1 : z ≤ 9223372036854775807) (w : World) :
    Calls Tryd.prog 29 #[.int .i64 z] w fun e w' => e = .returned (.string (dtx z.toNat)) ∧ Below w.heap.size w w' := by
  have := c_l01Dec z.toNat (by omega) w
  rwa [Int.toNat_of_nonneg h0] at this
theorem c_l01Is (v a b : Int) (w : World) :
    Calls Tryd.prog 50 #[.int .i64 v, .int .i64 a, .int .i64 b] w fun e w' => e = .returned (.bool (decide (a ≤ v) && decide (v ≤ b))) ∧ w' = w := by
  by_cases h1 : a ≤ v <;> by_cases h2 : v ≤ b <;> (go_enter Tryd.func50, Tryd.ntmps50; go_wp2; go_ret; exact ⟨by simp [h1, h2], rfl⟩)
theorem c_l01Value (v : Int) (w : World) :
    Calls Tryd.prog 28 #[.int .i64 v] w fun e w' => e = .returned (.bool (decide (-999999999999999999 ≤ v) && decide (v ≤ 999999999999999999))) ∧ w' = w := by
  go_enter Tryd.func28, Tryd.ntmps28
  go_wp2_with (go_at_call 50; refine (c_l01Is _ _ _ _).mono ?_; rintro e w1 ⟨rfl, hw⟩; obtain rfl := hw.symm)
  go_ret
  exact ⟨rfl, rfl⟩

theorem c_s_ValueText_out (v : Int) (h : ¬ (-999999999999999999 ≤ v ∧ v ≤ 999999999999999999)) (w : World) :
    Calls Tryd.prog 7 #[.int .i64 v] w fun e w' => e = .returned (.string (vtx v)) ∧ Below w.heap.size w w' := by
  have HE : Hid (⟨#[]⟩ = vtx v) := (by unfold vtx; rw [if_neg h] : ⟨#[]⟩ = vtx v)
  have HC : Hid (∀ w, Calls Tryd.prog 28 #[.int .i64 v] w fun e w' => e = .returned (.bool false) ∧ w' = w) := fun w => by
    have := c_l01Value v w
    rwa [show (decide (-999999999999999999 ≤ v) && decide (v ≤ 999999999999999999)) = false by
      cases h' : (decide (-999999999999999999 ≤ v) && decide (v ≤ 999999999999999999)) with
      | false => rfl
      | true => exact absurd ⟨of_decide_eq_true (Bool.and_eq_true_iff.1 h').1, of_decide_eq_true (Bool.and_eq_true_iff.1 h').2⟩ h] at this
  clear h
  go_enter Tryd.func7, Tryd.ntmps7
  go_wp2_with (go_at_call 28; refine (HC.out _).mono ?_; rintro e w1 ⟨rfl, hw⟩; obtain rfl := hw.symm)
  go_ret
  exact ⟨ret_str HE.out, Below.refl _ _⟩

/-- The last byte of a text that is cut. -/
theorem last_bt (L : List UInt8) (x : UInt8) : bt ⟨(L ++ [x]).toArray⟩ L.length = (x.toNat : Int) := by
  unfold bt
  rw [dif_pos (show L.length < ByteArray.size ⟨(L ++ [x]).toArray⟩ by show L.length < (L ++ [x]).length; simp)]
  show (((L ++ [x]).toArray[L.length]'_).toNat : Int) = _
  simp
theorem cut_last (L : List UInt8) (x : UInt8) : (⟨(L ++ [x]).toArray⟩ : ByteArray).extract 0 L.length = ⟨L.toArray⟩ := by
  rw [Lib.extract_upto]; simp

def strSz : Value → Nat
  | .string s => s.size
  | _ => 0
set_option maxRecDepth 10000 in
set_option maxHeartbeats 2000000 in
theorem c_s_ValueText_in (v : Int) (h : -999999999999999999 ≤ v ∧ v ≤ 999999999999999999) (w : World) :
    Calls Tryd.prog 7 #[.int .i64 v] w fun e w' => e = .returned (.string (vtx v)) ∧ Below w.heap.size w w' := by
  obtain ⟨n, hn⟩ : ∃ n, n = v.natAbs := ⟨_, rfl⟩
  obtain ⟨q, hq⟩ : ∃ q, q = n / 1000000 := ⟨_, rfl⟩
  obtain ⟨r, hr⟩ : ∃ r, r = n % 1000000 := ⟨_, rfl⟩
  have hr6 : r < 1000000 := by omega
  have hq12 : q ≤ 9223372036854775807 := by omega
  have HE : Hid (sgx v ++ dtx q ++ pdx r = vtx v) := (by rw [hq, hr]; exact vtx_at h hn : sgx v ++ dtx q ++ pdx r = vtx v)
  have e1 : Int.tdiv (n : Int) 1000000 = (q : Int) := by rw [hq]; rfl
  have e2 : Int.tmod (n : Int) 1000000 = (r : Int) := by rw [hr]; rfl
  have hd := dtx_size q hq12
  have HC : Hid (∀ w, Calls Tryd.prog 28 #[.int .i64 v] w fun e w' => e = .returned (.bool true) ∧ w' = w) := fun w => by
    have := c_l01Value v w
    rwa [decide_eq_true h.1, decide_eq_true h.2] at this
  have HQ : Hid (∀ w, Calls Tryd.prog 29 #[.int .i64 (q : Int)] w fun e w' => e = .returned (.string (dtx q)) ∧ Below w.heap.size w w') := fun w => c_l01Dec q hq12 w
  by_cases hv : v < 0
  · have hvn : v = -(n : Int) := by omega
    obtain ⟨v0, hv0⟩ : ∃ v0, v0 = v := ⟨_, rfl⟩
    have HS : Hid (sgx v0 = ⟨#[45]⟩) := (by rw [hv0]; exact if_pos hv : sgx v0 = ⟨#[45]⟩)
    rw [← hv0] at HE
    clear hq hr hn
    subst hvn
    have HV : Hid (v0 = -(n : Int)) := hv0
    have HG : Hid (vtx v0 = vtx (-(n : Int))) := (by rw [hv0] : vtx v0 = vtx (-(n : Int)))
    rw [← HG.out]
    clear hv0
    · by_cases hz : r = 0
      · have HZ : Hid (pdx r = ⟨#[]⟩) := (by unfold pdx; rw [if_pos hz] : pdx r = ⟨#[]⟩)
        have hz' : ((r : Int) == 0) = true := by simp [hz]
        have HA : Hid (⟨#[45]⟩ ++ dtx q = vtx v0) := (by rw [← HE.out, HZ.out, HS.out]; apply ByteArray.ext; rw [ByteArray.data_append]; simp : ⟨#[45]⟩ ++ dtx q = vtx v0)
        clear hz
        go_enter Tryd.func7, Tryd.ntmps7
        go_wp2_with (first
          | (go_at_call 28; refine (HC.out _).mono ?_; rintro e w0 ⟨rfl, hw⟩; obtain rfl := hw.symm)
          | (go_at_call 29; refine (HQ.out _).mono ?_; rintro e w1 ⟨rfl, hb1⟩))
        go_ret
        exact ⟨ret_str HA.out, hb1⟩
      · have HZ : Hid (pdx r = ⟨#[46]⟩ ++ ptx r) := (by unfold pdx; rw [if_neg hz] : pdx r = ⟨#[46]⟩ ++ ptx r)
        have hz' : ((r : Int) == 0) = false := beq_eq_false_iff_ne.2 (by omega)
        have HA : Hid (⟨#[45]⟩ ++ dtx q ++ ⟨#[46]⟩ ++ ptx r = vtx v0) := (by rw [← HE.out, HZ.out, HS.out, ByteArray.append_assoc] : ⟨#[45]⟩ ++ dtx q ++ ⟨#[46]⟩ ++ ptx r = vtx v0)
        have HT : Hid (TrR r (six r)) := trR_start hr6 hz
        have hx : (dtx (1000000 + r)).extract 1 (dtx (1000000 + r)).size = ⟨(six r).toArray⟩ := tail7 hr6
        obtain ⟨S, hS⟩ : ∃ S, S = dtx (1000000 + r) := ⟨_, rfl⟩
        have hsz : S.size = 7 := by rw [hS]; show (Lib.decDigits (1000000 + r)).length = 7; rw [dec7 hr6]; rfl
        have hS1 : dtx (1000000 + (r : Int)).toNat = S := by rw [hS]; congr 1
        have hq0 : (0 : Int) ≤ (q : Int) := by omega
        have hq1 : (q : Int) ≤ 9223372036854775807 := by omega
        have hQ1 : dtx ((q : Int)).toNat = dtx q := rfl
        rw [← hS, hsz] at hx
        clear hz hS
        have hB : Below w.heap.size w w := Below.refl _ _
        go_enter Tryd.func7, Tryd.ntmps7
        go_wp2_with (first
          | (go_at_call 28; refine (HC.out _).mono ?_; rintro e w0 ⟨rfl, hw⟩; obtain rfl := hw.symm)
          | (go_at_call 29; refine (c_l01DecI _ (by omega) (by omega) _).mono ?_; rintro e w1 ⟨rfl, hb1⟩; have hB := hB.trans (hb1.mono hB.size)))
        go_loopw [5] (fun d wr => wr = w1 ∧ ∃ L, d = .string ⟨L.toArray⟩ ∧ TrR r L) (fun d wr => strSz d)
        case atStart => exact ⟨rfl, six r, rfl, HT.out⟩
        case round =>
          obtain ⟨hwr, L, rfl, hR⟩ := hrel
          subst hwr
          obtain ⟨L', x, rfl⟩ := trR_last hR
          obtain ⟨D, hD⟩ : ∃ D, D = (⟨(L' ++ [x]).toArray⟩ : ByteArray) := ⟨_, rfl⟩
          have hbD := get_bt D
          have hDz : D.size = L'.length + 1 := by rw [hD]; show (L' ++ [x]).length = _; simp
          have hla : bt D L'.length = (x.toNat : Int) := by rw [hD]; exact last_bt L' x
          have hcu : D.extract 0 L'.length = ⟨L'.toArray⟩ := by rw [hD]; exact cut_last L' x
          have hl6 : L'.length + 1 ≤ 6 := by have := hR.2.2; simpa using this
          rw [← hD]
          obtain ⟨m, hm⟩ : ∃ m, m = L'.length := ⟨_, rfl⟩
          rw [← hm] at hDz hla hcu hl6
          by_cases hx48 : x = 48
          · have HR : Hid (TrR r L') := trR_step (by rw [hx48] at hR; exact hR)
            have hxx : (bt D m == 48) = true := by rw [hla, hx48]; rfl
            have HM : Hid (L'.length < D.size) := (by omega : L'.length < D.size)
            clear hR hx48 hD hm
            go_wp2
            go_roundw
            case rel => exact ⟨trivial, L', rfl, HR.out⟩
            case measure => exact HM.out
          · have HR : Hid (ptx r = D) := (by rw [hD]; unfold ptx; rw [trR_end hR hx48] : ptx r = D)
            have hxx : (bt D m == 48) = false := beq_eq_false_iff_ne.2 (by
              rw [hla]; intro e; apply hx48; apply UInt8.toNat_inj.1; have : (48 : UInt8).toNat = 48 := rfl; omega)
            clear hR hx48 hD hm
            go_wp2
            go_ret
            exact ⟨ret_str (by rw [← HA.out, HR.out]), hB⟩
  · have hvn : v = (n : Int) := by omega
    obtain ⟨v0, hv0⟩ : ∃ v0, v0 = v := ⟨_, rfl⟩
    have HS : Hid (sgx v0 = ⟨#[]⟩) := (by rw [hv0]; exact if_neg hv : sgx v0 = ⟨#[]⟩)
    rw [← hv0] at HE
    clear hq hr hn
    subst hvn
    have HV : Hid (v0 = (n : Int)) := hv0
    have HG : Hid (vtx v0 = vtx (n : Int)) := (by rw [hv0] : vtx v0 = vtx (n : Int))
    rw [← HG.out]
    clear hv0
    · by_cases hz : r = 0
      · have HZ : Hid (pdx r = ⟨#[]⟩) := (by unfold pdx; rw [if_pos hz] : pdx r = ⟨#[]⟩)
        have hz' : ((r : Int) == 0) = true := by simp [hz]
        have HA : Hid (⟨#[]⟩ ++ dtx q = vtx v0) := (by rw [← HE.out, HZ.out, HS.out]; apply ByteArray.ext; rw [ByteArray.data_append]; simp : ⟨#[]⟩ ++ dtx q = vtx v0)
        clear hz
        go_enter Tryd.func7, Tryd.ntmps7
        go_wp2_with (first
          | (go_at_call 28; refine (HC.out _).mono ?_; rintro e w0 ⟨rfl, hw⟩; obtain rfl := hw.symm)
          | (go_at_call 29; refine (HQ.out _).mono ?_; rintro e w1 ⟨rfl, hb1⟩))
        go_ret
        exact ⟨ret_str HA.out, hb1⟩
      · have HZ : Hid (pdx r = ⟨#[46]⟩ ++ ptx r) := (by unfold pdx; rw [if_neg hz] : pdx r = ⟨#[46]⟩ ++ ptx r)
        have hz' : ((r : Int) == 0) = false := beq_eq_false_iff_ne.2 (by omega)
        have HA : Hid (⟨#[]⟩ ++ dtx q ++ ⟨#[46]⟩ ++ ptx r = vtx v0) := (by rw [← HE.out, HZ.out, HS.out, ByteArray.append_assoc] : ⟨#[]⟩ ++ dtx q ++ ⟨#[46]⟩ ++ ptx r = vtx v0)
        have HT : Hid (TrR r (six r)) := trR_start hr6 hz
        have hx : (dtx (1000000 + r)).extract 1 (dtx (1000000 + r)).size = ⟨(six r).toArray⟩ := tail7 hr6
        obtain ⟨S, hS⟩ : ∃ S, S = dtx (1000000 + r) := ⟨_, rfl⟩
        have hsz : S.size = 7 := by rw [hS]; show (Lib.decDigits (1000000 + r)).length = 7; rw [dec7 hr6]; rfl
        have hS1 : dtx (1000000 + (r : Int)).toNat = S := by rw [hS]; congr 1
        have hq0 : (0 : Int) ≤ (q : Int) := by omega
        have hq1 : (q : Int) ≤ 9223372036854775807 := by omega
        have hQ1 : dtx ((q : Int)).toNat = dtx q := rfl
        rw [← hS, hsz] at hx
        clear hz hS
        have hB : Below w.heap.size w w := Below.refl _ _
        go_enter Tryd.func7, Tryd.ntmps7
        go_wp2_with (first
          | (go_at_call 28; refine (HC.out _).mono ?_; rintro e w0 ⟨rfl, hw⟩; obtain rfl := hw.symm)
          | (go_at_call 29; refine (c_l01DecI _ (by omega) (by omega) _).mono ?_; rintro e w1 ⟨rfl, hb1⟩; have hB := hB.trans (hb1.mono hB.size)))
        go_loopw [5] (fun d wr => wr = w1 ∧ ∃ L, d = .string ⟨L.toArray⟩ ∧ TrR r L) (fun d wr => strSz d)
        case atStart => exact ⟨rfl, six r, rfl, HT.out⟩
        case round =>
          obtain ⟨hwr, L, rfl, hR⟩ := hrel
          subst hwr
          obtain ⟨L', x, rfl⟩ := trR_last hR
          obtain ⟨D, hD⟩ : ∃ D, D = (⟨(L' ++ [x]).toArray⟩ : ByteArray) := ⟨_, rfl⟩
          have hbD := get_bt D
          have hDz : D.size = L'.length + 1 := by rw [hD]; show (L' ++ [x]).length = _; simp
          have hla : bt D L'.length = (x.toNat : Int) := by rw [hD]; exact last_bt L' x
          have hcu : D.extract 0 L'.length = ⟨L'.toArray⟩ := by rw [hD]; exact cut_last L' x
          have hl6 : L'.length + 1 ≤ 6 := by have := hR.2.2; simpa using this
          rw [← hD]
          obtain ⟨m, hm⟩ : ∃ m, m = L'.length := ⟨_, rfl⟩
          rw [← hm] at hDz hla hcu hl6
          by_cases hx48 : x = 48
          · have HR : Hid (TrR r L') := trR_step (by rw [hx48] at hR; exact hR)
            have hxx : (bt D m == 48) = true := by rw [hla, hx48]; rfl
            have HM : Hid (L'.length < D.size) := (by omega : L'.length < D.size)
            clear hR hx48 hD hm
            go_wp2
            go_roundw
            case rel => exact ⟨trivial, L', rfl, HR.out⟩
            case measure => exact HM.out
          · have HR : Hid (ptx r = D) := (by rw [hD]; unfold ptx; rw [trR_end hR hx48] : ptx r = D)
            have hxx : (bt D m == 48) = false := beq_eq_false_iff_ne.2 (by
              rw [hla]; intro e; apply hx48; apply UInt8.toNat_inj.1; have : (48 : UInt8).toNat = 48 := rfl; omega)
            clear hR hx48 hD hm
            go_wp2
            go_ret
            exact ⟨ret_str (by rw [← HA.out, HR.out]), hB⟩
theorem c_s_ValueText (v : Int) (w : World) :
    Calls Tryd.prog 7 #[.int .i64 v] w fun e w' => e = .returned (.string (vtx v)) ∧ Below w.heap.size w w' := by
  by_cases h : -999999999999999999 ≤ v ∧ v ≤ 999999999999999999
  · exact c_s_ValueText_in v h w
  · exact c_s_ValueText_out v h w
end Go.Proofs.YtohjpaokjhifoaaDoor
