/-
  Contracts of SketchRight, of the program and of its model.
-/
import Derived.Test.YtalmhekbagjdeaaGreatDoorBinsC
import Derived.Test.YtalmhekbagjdeaaGreatDoorBinC
namespace Go.Proofs.YtalmhekbagjdeaaGreatDoor
set_option linter.unusedVariables false
set_option linter.unusedSimpArgs false
open Go.ChangeShapes Go.WideShapes Go.ChangeAt Go.RowKit Go.PlainAid Go.Lib
set_option maxRecDepth 10000

/-- Bins that rise from a place on, in their bounds, each with a weight. -/
def riseB : Int → List Bn → Bool
  | _, [] => true
  | last, x :: r => decide (last < x.1) && decide (x.1 ≤ 6878) && decide (x.2 ≠ 0) && riseB x.1 r
def binsB (L : List Bn) : Bool := decide (L.length ≤ 30) && riseB 0 L
/-- The place ahead of index k. -/
def lastB (L : List Bn) (k : Nat) : Int := match k with
  | 0 => 0
  | j + 1 => match L[j]? with
    | some x => x.1
    | none => 0
theorem lastB_succ {L : List Bn} {k : Nat} {x : Bn} (h : L[k]? = some x) : lastB L (k + 1) = x.1 := by simp [lastB, h]
theorem rise_drop {L : List Bn} {k : Nat} {x : Bn} (h : L[k]? = some x) (q : Int) : riseB q (L.drop k) = (decide (q < x.1) && decide (x.1 ≤ 6878) && decide (x.2 ≠ 0) && riseB x.1 (L.drop (k + 1))) := by
  have hk := (List.getElem?_eq_some_iff.1 h).1
  rw [List.drop_eq_getElem_cons hk, (List.getElem?_eq_some_iff.1 h).2]; rfl
theorem binI_max : binI 999999999999999999 = 6878 := by rw [binI_yes (by omega) (by omega)]; exact congrArg Int.ofNat binW_max
theorem ret_b {a b : Bool} (h : a = b) : Ending.returned (.bool a) = .returned (.bool b) := by rw [h]

set_option maxHeartbeats 2000000 in
theorem c_i_binsRight {w : World} {ao : Option Addr} {L : List Bn} (cap N : Nat) (hn : L.length = N) (hl : N ≤ 1048576) (hA : BinsAt w ao L) (hok : ∀ x ∈ L, BnOk x) :
    Calls Tryz.prog 216 #[.slice ao N cap] w fun e w' => e = .returned (.bool (binsB L)) ∧ Below w.heap.size w w' := by
  have HA := hide hA
  have HK := hide hok
  have HN := hide hn
  have hM := binI_max
  by_cases h30 : N ≤ 30
  · have HF : Hid (binsB L = riseB 0 L) := (by simp [binsB, hn, h30] : binsB L = riseB 0 L)
    clear hA hok hn
    go_enter Tryz.func216, Tryz.ntmps216
    go_wp2
    go_loopw [3, 11] (fun q i wr => Below w.heap.size w wr ∧ ∃ (k : Nat) (p : Int), k ≤ N ∧ i = .int .i64 k ∧ q = .int .i64 p ∧ Hid (riseB 0 L = riseB p (L.drop k))) (fun q i wr => N - (intOf i).toNat)
    case atStart => exact ⟨Below.refl _ _, 0, 0, Nat.zero_le _, rfl, rfl, (rfl : riseB 0 L = riseB 0 (L.drop 0))⟩
    case round =>
      obtain ⟨hbel, k, p, hk, rfl, rfl, HR⟩ := hrel
      have HB := hide hbel
      by_cases hkn : k < N
      · obtain ⟨⟨a, u⟩, hRk⟩ : ∃ a, L[k]? = some a := ⟨L[k]'(by have := HN.out; omega), List.getElem?_eq_getElem _⟩
        obtain ⟨⟨ha1, ha2⟩, hu1, hu2⟩ := HK.out _ (List.mem_of_getElem? hRk)
        obtain ⟨b, off, rfl, hcell⟩ := HA.out (by have := HN.out; omega)
        have hc0 := cell_past hbel (hcell k _ hRk).1
        have hc1 := cell_past hbel (hcell k _ hRk).2
        have HD := hide (rise_drop hRk p)
        have hz := hbel.size
        simp at ha1 ha2 hu1 hu2
        clear hbel hcell hRk
        have hcs : (a ≤ p) ∨ (¬ a ≤ p ∧ 6878 < a) ∨ (¬ a ≤ p ∧ ¬ 6878 < a ∧ u = 0) ∨ (¬ a ≤ p ∧ ¬ 6878 < a ∧ u ≠ 0) := by omega
        rcases hcs with q1 | ⟨q1, q2⟩ | ⟨q1, q2, q3⟩ | ⟨q1, q2, q3⟩
        · have HE : Hid (false = binsB L) := (by rw [HF.out, HR.out, HD.out]; simp; intro h; omega : false = binsB L)
          have d1 : decide (a ≤ p) = true := decide_eq_true q1
          go_wp2
          go_quiet (first | (go_at_call 217; refine Calls.quiet_of_same (c_i_BinOf _ _ (by unfold I64; omega))))
          go_wp2
          go_ret
          exact ⟨ret_b HE.out, bel_drews (HB.out.alloc hz _) _⟩
        · have HE : Hid (false = binsB L) := (by rw [HF.out, HR.out, HD.out]; simp; intro _ h; omega : false = binsB L)
          have d1 : decide (a ≤ p) = false := decide_eq_false q1
          have d2 : decide (6878 < a) = true := decide_eq_true q2
          go_wp2
          go_quiet (first | (go_at_call 217; refine Calls.quiet_of_same (c_i_BinOf _ _ (by unfold I64; omega))))
          go_wp2
          go_ret
          exact ⟨ret_b HE.out, bel_drews (HB.out.alloc hz _) _⟩
        · have HE : Hid (false = binsB L) := (by rw [HF.out, HR.out, HD.out]; simp [q3] : false = binsB L)
          have d1 : decide (a ≤ p) = false := decide_eq_false q1
          have d2 : decide (6878 < a) = false := decide_eq_false q2
          subst q3
          go_wp2
          go_quiet (first | (go_at_call 217; refine Calls.quiet_of_same (c_i_BinOf _ _ (by unfold I64; omega))))
          go_wp2
          go_ret
          exact ⟨ret_b HE.out, bel_drews (HB.out.alloc hz _) _⟩
        · have HE : Hid (riseB 0 L = riseB a (L.drop (k + 1))) := by
            refine (?_ : riseB 0 L = riseB a (L.drop (k + 1)))
            rw [HR.out, HD.out, decide_eq_true (by show p < a; omega), decide_eq_true (by show a ≤ 6878; omega), decide_eq_true (by show u ≠ 0; exact q3)]; rfl
          have d1 : decide (a ≤ p) = false := decide_eq_false q1
          have d2 : decide (6878 < a) = false := decide_eq_false q2
          have d3 : (u == 0) = false := beq_eq_false_iff_ne.2 q3
          go_wp2
          go_quiet (first | (go_at_call 217; refine Calls.quiet_of_same (c_i_BinOf _ _ (by unfold I64; omega))))
          go_wp2
          go_roundw
          case rel => exact ⟨bel_drews (HB.out.alloc hz _) _, k + 1, a, by omega, by go_num, rfl, HE⟩
          case measure => simp [intOf]; omega
      · have HE : Hid (true = binsB L) := (by rw [HF.out, HR.out, List.drop_eq_nil_of_le (by have := HN.out; omega)]; rfl : true = binsB L)
        clear hbel
        go_wp2
        go_ret
        exact ⟨ret_b HE.out, HB.out⟩
  · have HE : Hid (false = binsB L) := (by simp [binsB, hn]; intro h; omega : false = binsB L)
    clear hA hok hn
    go_enter Tryz.func216, Tryz.ntmps216
    go_wp2
    go_ret
    exact ⟨ret_b HE.out, Below.refl _ _⟩

set_option maxHeartbeats 4000000 in
theorem c_s_l03Bins {w : World} {ao : Option Addr} {L : List Bn} (cap N : Nat) (hn : L.length = N) (hl : N ≤ 1048576) (hA : BinsAt w ao L) (hok : ∀ x ∈ L, BnOk x) :
    Calls Tryz.prog 73 #[.slice ao N cap] w fun e w' => e = .returned (.bool (binsB L)) ∧ Below w.heap.size w w' := by
  have HA := hide hA
  have HK := hide hok
  have HN := hide hn
  have hM := binI_max
  by_cases h30 : N ≤ 30
  · have HF : Hid (binsB L = riseB 0 L) := (by simp [binsB, hn, h30] : binsB L = riseB 0 L)
    clear hA hok hn
    go_enter Tryz.func73, Tryz.ntmps73
    go_wp2
    go_loopw [3] (fun i wr => Below w.heap.size w wr ∧ ∃ (k : Nat), k ≤ N ∧ i = .int .i64 k ∧ Hid (riseB 0 L = riseB (lastB L k) (L.drop k)) ∧ ((k = 0 ∧ lastB L k = 0) ∨ (0 < k ∧ 1 ≤ lastB L k))) (fun i wr => N - (intOf i).toNat)
    case atStart => exact ⟨Below.refl _ _, 0, Nat.zero_le _, rfl, (rfl : riseB 0 L = riseB 0 (L.drop 0)), .inl ⟨rfl, rfl⟩⟩
    case round =>
      obtain ⟨hbel, k, hk, rfl, HR, hlast⟩ := hrel
      have HB := hide hbel
      by_cases hkn : k < N
      · obtain ⟨⟨a, u⟩, hRk⟩ : ∃ a, L[k]? = some a := ⟨L[k]'(by have := HN.out; omega), List.getElem?_eq_getElem _⟩
        obtain ⟨⟨ha1, ha2⟩, hu1, hu2⟩ := HK.out _ (List.mem_of_getElem? hRk)
        obtain ⟨b, off, rfl, hcell⟩ := HA.out (by have := HN.out; omega)
        have hc0 := cell_past hbel (hcell k _ hRk).1
        have hc1 := cell_past hbel (hcell k _ hRk).2
        have HD := hide (rise_drop hRk (lastB L k))
        have HL1 := hide (lastB_succ hRk)
        have hprev : 0 < k → ∃ j : Nat, k = j + 1 ∧ wr.cell? ⟨b, off + j * 2, none⟩ = some (.int .i64 (lastB L k)) := fun h0 => by
          obtain ⟨j, rfl⟩ : ∃ j, k = j + 1 := ⟨k - 1, by omega⟩
          obtain ⟨x, hx⟩ : ∃ a, L[j]? = some a := ⟨L[j]'(by have := HN.out; omega), List.getElem?_eq_getElem _⟩
          exact ⟨j, rfl, by rw [lastB_succ hx]; exact cell_past hbel (hcell j _ hx).1⟩
        have HP := hide hprev
        simp at ha1 ha2 hu1 hu2
        clear hbel hcell hRk hprev
        obtain ⟨p, hp⟩ : ∃ p, lastB L k = p := ⟨_, rfl⟩
        rw [hp] at HR HD HP hlast
        clear hp
        have hcs : (a < 1) ∨ (¬ a < 1 ∧ 6878 < a) ∨ (¬ a < 1 ∧ ¬ 6878 < a ∧ u = 0) ∨ (¬ a < 1 ∧ ¬ 6878 < a ∧ u ≠ 0 ∧ k = 0) ∨ (¬ a < 1 ∧ ¬ 6878 < a ∧ u ≠ 0 ∧ 0 < k ∧ a ≤ p) ∨ (¬ a < 1 ∧ ¬ 6878 < a ∧ u ≠ 0 ∧ 0 < k ∧ ¬ a ≤ p) := by omega
        rcases hcs with q1 | ⟨q1, q2⟩ | ⟨q1, q2, q3⟩ | ⟨q1, q2, q3, q4⟩ | ⟨q1, q2, q3, q4, q5⟩ | ⟨q1, q2, q3, q4, q5⟩
        · have HE : Hid (false = binsB L) := (by rw [HF.out, HR.out, HD.out]; simp; intro h; omega : false = binsB L)
          have d1 : decide (a < 1) = true := decide_eq_true q1
          clear hlast
          go_wp2
          go_quiet (first | (go_at_call 99; refine Calls.quiet_of_same (c_s_BinOf _ _ (by unfold I64; omega))))
          go_wp2
          go_ret
          exact ⟨ret_b HE.out, bel_drews HB.out _⟩
        · have HE : Hid (false = binsB L) := (by rw [HF.out, HR.out, HD.out]; simp; intro _ h; omega : false = binsB L)
          have d1 : decide (a < 1) = false := decide_eq_false q1
          have d2 : decide (6878 < a) = true := decide_eq_true q2
          clear hlast
          go_wp2
          go_quiet (first | (go_at_call 99; refine Calls.quiet_of_same (c_s_BinOf _ _ (by unfold I64; omega))))
          go_wp2
          go_ret
          exact ⟨ret_b HE.out, bel_drews HB.out _⟩
        · have HE : Hid (false = binsB L) := (by rw [HF.out, HR.out, HD.out]; simp [q3] : false = binsB L)
          have d1 : decide (a < 1) = false := decide_eq_false q1
          have d2 : decide (6878 < a) = false := decide_eq_false q2
          clear hlast
          subst q3
          go_wp2
          go_quiet (first | (go_at_call 99; refine Calls.quiet_of_same (c_s_BinOf _ _ (by unfold I64; omega))))
          go_wp2
          go_ret
          exact ⟨ret_b HE.out, bel_drews HB.out _⟩
        · have HE : Hid (riseB 0 L = riseB (lastB L (k + 1)) (L.drop (k + 1))) := by
            refine (?_ : riseB 0 L = riseB (lastB L (k + 1)) (L.drop (k + 1)))
            rw [HL1.out, HR.out, HD.out, decide_eq_true (by show p < a; omega), decide_eq_true (by show a ≤ 6878; omega), decide_eq_true (by show u ≠ 0; exact q3)]; rfl
          have d1 : decide (a < 1) = false := decide_eq_false q1
          have d2 : decide (6878 < a) = false := decide_eq_false q2
          have d3 : (u == 0) = false := beq_eq_false_iff_ne.2 q3
          have d4 : decide (0 < k) = false := decide_eq_false (by omega)
          clear hlast q4
          go_wp2
          go_quiet (first | (go_at_call 99; refine Calls.quiet_of_same (c_s_BinOf _ _ (by unfold I64; omega))))
          go_wp2
          go_roundw
          case rel => exact ⟨bel_drews HB.out _, k + 1, by omega, by go_num, HE, by have := HL1.out; omega⟩
          case measure => simp [intOf]; omega
        · have HE : Hid (false = binsB L) := (by rw [HF.out, HR.out, HD.out]; simp; intro h; omega : false = binsB L)
          have d1 : decide (a < 1) = false := decide_eq_false q1
          have d2 : decide (6878 < a) = false := decide_eq_false q2
          have d3 : (u == 0) = false := beq_eq_false_iff_ne.2 q3
          have d4 : decide (0 < k) = true := decide_eq_true (by omega)
          have d5 : decide (a ≤ p) = true := decide_eq_true q5
          obtain ⟨j, hj, hcj⟩ := HP.out q4
          have e1 : (k : Int) - 1 = (j : Int) := by omega
          have hj2 : j < N := by omega
          clear hj
          clear hlast
          go_wp2
          go_quiet (first | (go_at_call 99; refine Calls.quiet_of_same (c_s_BinOf _ _ (by unfold I64; omega))))
          go_wp2
          go_ret
          exact ⟨ret_b HE.out, bel_drews HB.out _⟩
        · have HE : Hid (riseB 0 L = riseB (lastB L (k + 1)) (L.drop (k + 1))) := by
            refine (?_ : riseB 0 L = riseB (lastB L (k + 1)) (L.drop (k + 1)))
            rw [HL1.out, HR.out, HD.out, decide_eq_true (by show p < a; omega), decide_eq_true (by show a ≤ 6878; omega), decide_eq_true (by show u ≠ 0; exact q3)]; rfl
          have d1 : decide (a < 1) = false := decide_eq_false q1
          have d2 : decide (6878 < a) = false := decide_eq_false q2
          have d3 : (u == 0) = false := beq_eq_false_iff_ne.2 q3
          have d4 : decide (0 < k) = true := decide_eq_true (by omega)
          have d5 : decide (a ≤ p) = false := decide_eq_false q5
          obtain ⟨j, hj, hcj⟩ := HP.out q4
          have e1 : (k : Int) - 1 = (j : Int) := by omega
          have hj2 : j < N := by omega
          clear hj
          clear hlast
          go_wp2
          go_quiet (first | (go_at_call 99; refine Calls.quiet_of_same (c_s_BinOf _ _ (by unfold I64; omega))))
          go_wp2
          go_roundw
          case rel => exact ⟨bel_drews HB.out _, k + 1, by omega, by go_num, HE, by have := HL1.out; omega⟩
          case measure => simp [intOf]; omega
      · have HE : Hid (true = binsB L) := (by rw [HF.out, HR.out, List.drop_eq_nil_of_le (by have := HN.out; omega)]; rfl : true = binsB L)
        clear hbel
        go_wp2
        go_ret
        exact ⟨ret_b HE.out, HB.out⟩
  · have HE : Hid (false = binsB L) := (by simp [binsB, hn]; intro h; omega : false = binsB L)
    clear hA hok hn
    go_enter Tryz.func73, Tryz.ntmps73
    go_wp2
    go_ret
    exact ⟨ret_b HE.out, Below.refl _ _⟩

/-- A right sketch. -/
def skB (P N : List Bn) : Bool := binsB P && binsB N
theorem c_i_SketchRight {w : World} {z h l : Int} {pa na : Option Addr} {pn pc nn nc : Nat} {P N : List Bn} (hp : P.length = pn) (hn : N.length = nn) (lp : pn ≤ 1048576) (ln : nn ≤ 1048576) (hP : BinsAt w pa P) (hN : BinsAt w na N) (kP : ∀ x ∈ P, BnOk x) (kN : ∀ x ∈ N, BnOk x) :
    Calls Tryz.prog 215 #[.agg #[.int .u64 z, .slice pa pn pc, .slice na nn nc, .int .i64 h, .int .u64 l]] w fun e w' => e = .returned (.bool (skB P N)) ∧ Below w.heap.size w w' := by
  have HP := hide hP
  have HN := hide hN
  have KP := hide kP
  have KN := hide kN
  have hW : ∀ o1, Below w.heap.size w (w.alloc o1) := fun o1 => (Below.refl _ _).alloc (Nat.le_refl _) _
  have HW := hide hW
  have hz : ∀ o1, (w.alloc o1).heap.size = w.heap.size + 1 := fun o1 => by simp
  clear hP hN kP kN hW
  by_cases hr : binsB P = true
  · have HF : Hid (skB P N = binsB N) := (by simp [skB, hr] : skB P N = binsB N)
    go_enter Tryz.func215, Tryz.ntmps215
    go_wp2_with fail
    refine (c_i_binsRight _ _ hp lp (bins_past HP.out (HW.out _)) KP.out).mono ?_
    rintro e w1 ⟨rfl, hb1⟩
    obtain ⟨hc1, _⟩ := bcell hb1
    have hT1 := (HW.out _).trans (hb1.mono (by simp))
    simp at hc1
    have HT1 := hide hT1
    clear hb1 hT1
    go_wp2_with fail
    refine (c_i_binsRight _ _ hn ln (bins_past HN.out HT1.out) KN.out).mono ?_
    rintro e w2 ⟨rfl, hb2⟩
    have HT2 := hide (chain HT1.out hb2)
    clear hb2
    go_wp2
    go_ret
    exact ⟨ret_b HF.out.symm, HT2.out⟩
  · have hr : binsB P = false := by simpa using hr
    have HF : Hid (false = skB P N) := (by simp [skB, hr] : false = skB P N)
    go_enter Tryz.func215, Tryz.ntmps215
    go_wp2_with fail
    refine (c_i_binsRight _ _ hp lp (bins_past HP.out (HW.out _)) KP.out).mono ?_
    rintro e w1 ⟨rfl, hb1⟩
    have HT1 := hide ((HW.out _).trans (hb1.mono (by simp)))
    clear hb1
    go_wp2
    go_ret
    exact ⟨ret_b HF.out, HT1.out⟩
theorem c_s_SketchRight {w : World} {z h l : Int} {pa na : Option Addr} {pn pc nn nc : Nat} {P N : List Bn} (hp : P.length = pn) (hn : N.length = nn) (lp : pn ≤ 1048576) (ln : nn ≤ 1048576) (hP : BinsAt w pa P) (hN : BinsAt w na N) (kP : ∀ x ∈ P, BnOk x) (kN : ∀ x ∈ N, BnOk x) :
    Calls Tryz.prog 46 #[.agg #[.int .u64 z, .slice pa pn pc, .slice na nn nc, .int .i64 h, .int .u64 l]] w fun e w' => e = .returned (.bool (skB P N)) ∧ Below w.heap.size w w' := by
  have HP := hide hP
  have HN := hide hN
  have KP := hide kP
  have KN := hide kN
  have hW : ∀ o1, Below w.heap.size w (w.alloc o1) := fun o1 => (Below.refl _ _).alloc (Nat.le_refl _) _
  have HW := hide hW
  clear hP hN kP kN hW
  by_cases hr : binsB P = true
  · have HF : Hid (skB P N = binsB N) := (by simp [skB, hr] : skB P N = binsB N)
    go_enter Tryz.func46, Tryz.ntmps46
    go_wp2_with fail
    refine (c_s_l03Bins _ _ hp lp (bins_past HP.out (HW.out _)) KP.out).mono ?_
    rintro e w1 ⟨rfl, hb1⟩
    obtain ⟨hc1, _⟩ := bcell hb1
    have hT1 := (HW.out _).trans (hb1.mono (by simp))
    simp at hc1
    have HT1 := hide hT1
    clear hb1 hT1
    go_wp2_with fail
    refine (c_s_l03Bins _ _ hn ln (bins_past HN.out HT1.out) KN.out).mono ?_
    rintro e w2 ⟨rfl, hb2⟩
    have HT2 := hide (chain HT1.out hb2)
    clear hb2
    go_wp2
    go_ret
    exact ⟨ret_b HF.out.symm, HT2.out⟩
  · have hr : binsB P = false := by simpa using hr
    have HF : Hid (false = skB P N) := (by simp [skB, hr] : false = skB P N)
    go_enter Tryz.func46, Tryz.ntmps46
    go_wp2_with fail
    refine (c_s_l03Bins _ _ hp lp (bins_past HP.out (HW.out _)) KP.out).mono ?_
    rintro e w1 ⟨rfl, hb1⟩
    have HT1 := hide ((HW.out _).trans (hb1.mono (by simp)))
    clear hb1
    go_wp2
    go_ret
    exact ⟨ret_b HF.out, HT1.out⟩
end Go.Proofs.YtalmhekbagjdeaaGreatDoor
