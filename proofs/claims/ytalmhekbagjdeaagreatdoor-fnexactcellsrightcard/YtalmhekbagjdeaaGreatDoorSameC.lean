/-
  Contracts of SketchSame, of the program and of its model.
-/
import Derived.Test.YtalmhekbagjdeaaGreatDoorSkC
namespace Go.Proofs.YtalmhekbagjdeaaGreatDoor
set_option linter.unusedVariables false
set_option linter.unusedSimpArgs false
open Go.ChangeShapes Go.WideShapes Go.ChangeAt Go.RowKit Go.PlainAid Go.Lib
set_option maxRecDepth 10000

set_option maxHeartbeats 1000000 in
theorem eq_bin (a p b q : Int) (w : World) : (binOp .eql 136 (.agg #[.int .i64 a, .int .u64 p]) (.agg #[.int .i64 b, .int .u64 q])).run Tryz.prog w = .ok (.bool (a == b && p == q)) w := by
  have hS : Tryz.prog.underlying 136 = some (.struct (Tryz.prog.fieldsOf 136)) := by kernel_rfl
  have hp : Tryz.prog.stoodInHeld 136 = false := by kernel_rfl
  rw [run_eql_struct, show (10000 : Nat) = 9999 + 1 from rfl, run_equalIn_agg w 9999 136 _ _ hS hp]
  simp only [Program.fieldsOf, Tryz.underlying136]
  go_simp
  by_cases h1 : a = b <;> by_cases h2 : p = q <;> simp [h1, h2]
set_option maxHeartbeats 1000000 in
theorem eq_wide (a p b q : Int) (w : World) : (binOp .eql 61 (.agg #[.int .i64 a, .int .u64 p]) (.agg #[.int .i64 b, .int .u64 q])).run Tryz.prog w = .ok (.bool (a == b && p == q)) w := by
  have hS : Tryz.prog.underlying 61 = some (.struct (Tryz.prog.fieldsOf 61)) := by kernel_rfl
  have hp : Tryz.prog.stoodInHeld 61 = false := by kernel_rfl
  rw [run_eql_struct, show (10000 : Nat) = 9999 + 1 from rfl, run_equalIn_agg w 9999 61 _ _ hS hp]
  simp only [Program.fieldsOf, Tryz.underlying61]
  go_simp
  by_cases h1 : a = b <;> by_cases h2 : p = q <;> simp [h1, h2]
set_option maxHeartbeats 1000000 in
theorem neq_bin (a p b q : Int) (w : World) : (binOp .neq 136 (.agg #[.int .i64 a, .int .u64 p]) (.agg #[.int .i64 b, .int .u64 q])).run Tryz.prog w = .ok (.bool (!(a == b && p == q))) w := by
  have hS : Tryz.prog.underlying 136 = some (.struct (Tryz.prog.fieldsOf 136)) := by kernel_rfl
  have hp : Tryz.prog.stoodInHeld 136 = false := by kernel_rfl
  rw [run_neq_struct, show (10000 : Nat) = 9999 + 1 from rfl, run_equalIn_agg w 9999 136 _ _ hS hp]
  simp only [Program.fieldsOf, Tryz.underlying136]
  go_simp
  by_cases h1 : a = b <;> by_cases h2 : p = q <;> simp [h1, h2]

theorem ret_bs {a b : Bool} (h : a = b) : Ending.returned (.bool a) = .returned (.bool b) := by rw [h]
theorem drop_same {L M : List Bn} {k : Nat} {a u a' u' : Int} (h : L[k]? = some (a, u)) (g : M[k]? = some (a', u')) : decide (L.drop k = M.drop k) = ((a == a' && u == u') && decide (L.drop (k + 1) = M.drop (k + 1))) := by
  have hk := (List.getElem?_eq_some_iff.1 h).1
  have gk := (List.getElem?_eq_some_iff.1 g).1
  rw [List.drop_eq_getElem_cons hk, (List.getElem?_eq_some_iff.1 h).2, List.drop_eq_getElem_cons gk, (List.getElem?_eq_some_iff.1 g).2]
  by_cases h1 : a = a' <;> by_cases h2 : u = u' <;> simp [h1, h2]
/-- Two sketches are the same, field by field. -/
def sameS (z h l : Int) (P N : List Bn) (z' h' l' : Int) (P' N' : List Bn) : Bool := (z == z') && (h == h' && l == l') && decide (P = P') && decide (N = N')

set_option maxHeartbeats 1000000 in
theorem c_s_l03SameBins {w : World} {ao bo : Option Addr} {L M : List Bn} (c c' n m : Nat) (hn : L.length = n) (hm : M.length = m) (ln : n ≤ 1048576) (lm : m ≤ 1048576) (hA : BinsAt w ao L) (hB : BinsAt w bo M) :
    Calls Tryz.prog 100 #[.slice ao n c, .slice bo m c'] w fun e w' => e = .returned (.bool (decide (L = M))) ∧ Below w.heap.size w w' := by
  have HN := hide hn
  have HM := hide hm
  have HA := hide hA
  have HB' := hide hB
  clear hn hm hA hB
  by_cases hnm : n = m
  · subst hnm
    go_enter Tryz.func100, Tryz.ntmps100
    go_wp2
    go_loopw [5] (fun i wr => Below w.heap.size w wr ∧ ∃ k : Nat, k ≤ n ∧ i = .int .i64 k ∧ Hid (decide (L = M) = decide (L.drop k = M.drop k))) (fun i wr => n - (intOf i).toNat)
    case atStart => exact ⟨Below.refl _ _, 0, Nat.zero_le _, rfl, (rfl : decide (L = M) = decide (L.drop 0 = M.drop 0))⟩
    case round =>
      obtain ⟨hbel, k, hk, rfl, HR⟩ := hrel
      have HB := hide hbel
      by_cases hkn : k < n
      · obtain ⟨⟨a, u⟩, hRk⟩ : ∃ a, L[k]? = some a := ⟨L[k]'(by have := HN.out; omega), List.getElem?_eq_getElem _⟩
        obtain ⟨⟨a', u'⟩, hSk⟩ : ∃ a, M[k]? = some a := ⟨M[k]'(by have := HM.out; omega), List.getElem?_eq_getElem _⟩
        obtain ⟨b, off, rfl, hcell⟩ := HA.out (by have := HN.out; omega)
        obtain ⟨b', off', rfl, hcell'⟩ := HB'.out (by have := HM.out; omega)
        have hc0 := cell_past hbel (hcell k _ hRk).1
        have hc1 := cell_past hbel (hcell k _ hRk).2
        have hd0 := cell_past hbel (hcell' k _ hSk).1
        have hd1 := cell_past hbel (hcell' k _ hSk).2
        have HD := hide (drop_same hRk hSk)
        have hq := neq_bin a u a' u'
        clear hbel hRk hSk hcell hcell'
        by_cases he : a = a' ∧ u = u'
        · have hb : (a == a' && u == u') = true := by simp [he.1, he.2]
          have HE : Hid (decide (L = M) = decide (L.drop (k + 1) = M.drop (k + 1))) := by
            refine (?_ : decide (L = M) = decide (L.drop (k + 1) = M.drop (k + 1)))
            rw [HR.out, HD.out, hb, Bool.true_and]
          rw [hb] at hq
          clear he hb
          go_wp2
          go_quiet (fail)
          go_wp2
          go_roundw
          case rel => exact ⟨bel_drews HB.out _, k + 1, by omega, by go_num, HE⟩
          case measure => simp [intOf]; omega
        · have hb : (a == a' && u == u') = false := by
            rw [Bool.eq_false_iff]; intro hh; simp at hh; exact he hh
          have HE : Hid (false = decide (L = M)) := by
            refine (?_ : false = decide (L = M))
            rw [HR.out, HD.out, hb, Bool.false_and]
          rw [hb] at hq
          clear he hb
          go_wp2
          go_quiet (fail)
          go_wp2
          go_ret
          exact ⟨ret_bs HE.out, bel_drews HB.out _⟩
      · have HE : Hid (true = decide (L = M)) := by
          refine (?_ : true = decide (L = M))
          rw [HR.out, List.drop_eq_nil_of_le (by have := HN.out; omega), List.drop_eq_nil_of_le (by have := HM.out; omega)]; rfl
        clear hbel
        go_wp2
        go_ret
        exact ⟨ret_bs HE.out, HB.out⟩
  · have hni : ((n : Int) == (m : Int)) = false := beq_eq_false_iff_ne.2 (by omega)
    have HE : Hid (false = decide (L = M)) := by
      refine (?_ : false = decide (L = M))
      rw [eq_comm, decide_eq_false_iff_not]; intro e; have := HN.out; have := HM.out; rw [e] at *; omega
    go_enter Tryz.func100, Tryz.ntmps100
    go_wp2
    go_ret
    exact ⟨ret_bs HE.out, Below.refl _ _⟩

set_option maxHeartbeats 1000000 in
theorem c_slices_Equal {w : World} {ao bo : Option Addr} {L M : List Bn} (c c' n m : Nat) (hn : L.length = n) (hm : M.length = m) (ln : n ≤ 1048576) (lm : m ≤ 1048576) (hA : BinsAt w ao L) (hB : BinsAt w bo M) :
    Calls Tryz.prog 143 #[.slice ao n c, .slice bo m c'] w fun e w' => e = .returned (.bool (decide (L = M))) ∧ Below w.heap.size w w' := by
  have HN := hide hn
  have HM := hide hm
  have HA := hide hA
  have HB' := hide hB
  clear hn hm hA hB
  by_cases hnm : n = m
  · subst hnm
    go_enter Tryz.func143, Tryz.ntmps143
    go_wp2
    go_loopw [13] (fun i wr => Below w.heap.size w wr ∧ ∃ k : Nat, k ≤ n ∧ i = .int .i64 k ∧ Hid (decide (L = M) = decide (L.drop k = M.drop k))) (fun i wr => n - (intOf i).toNat)
    case atStart => exact ⟨Below.refl _ _, 0, Nat.zero_le _, rfl, (rfl : decide (L = M) = decide (L.drop 0 = M.drop 0))⟩
    case round =>
      obtain ⟨hbel, k, hk, rfl, HR⟩ := hrel
      have HB := hide hbel
      by_cases hkn : k < n
      · obtain ⟨⟨a, u⟩, hRk⟩ : ∃ a, L[k]? = some a := ⟨L[k]'(by have := HN.out; omega), List.getElem?_eq_getElem _⟩
        obtain ⟨⟨a', u'⟩, hSk⟩ : ∃ a, M[k]? = some a := ⟨M[k]'(by have := HM.out; omega), List.getElem?_eq_getElem _⟩
        obtain ⟨b, off, rfl, hcell⟩ := HA.out (by have := HN.out; omega)
        obtain ⟨b', off', rfl, hcell'⟩ := HB'.out (by have := HM.out; omega)
        have hc0 := cell_past hbel (hcell k _ hRk).1
        have hc1 := cell_past hbel (hcell k _ hRk).2
        have hd0 := cell_past hbel (hcell' k _ hSk).1
        have hd1 := cell_past hbel (hcell' k _ hSk).2
        have HD := hide (drop_same hRk hSk)
        have hq := neq_bin a u a' u'
        clear hbel hRk hSk hcell hcell'
        by_cases he : a = a' ∧ u = u'
        · have hb : (a == a' && u == u') = true := by simp [he.1, he.2]
          have HE : Hid (decide (L = M) = decide (L.drop (k + 1) = M.drop (k + 1))) := by
            refine (?_ : decide (L = M) = decide (L.drop (k + 1) = M.drop (k + 1)))
            rw [HR.out, HD.out, hb, Bool.true_and]
          rw [hb] at hq
          clear he hb
          go_wp2
          go_quiet (fail)
          go_wp2
          go_roundw
          case rel => exact ⟨bel_drews HB.out _, k + 1, by omega, by go_num, HE⟩
          case measure => simp [intOf]; omega
        · have hb : (a == a' && u == u') = false := by
            rw [Bool.eq_false_iff]; intro hh; simp at hh; exact he hh
          have HE : Hid (false = decide (L = M)) := by
            refine (?_ : false = decide (L = M))
            rw [HR.out, HD.out, hb, Bool.false_and]
          rw [hb] at hq
          clear he hb
          go_wp2
          go_quiet (fail)
          go_wp2
          go_ret
          exact ⟨ret_bs HE.out, bel_drews HB.out _⟩
      · have HE : Hid (true = decide (L = M)) := by
          refine (?_ : true = decide (L = M))
          rw [HR.out, List.drop_eq_nil_of_le (by have := HN.out; omega), List.drop_eq_nil_of_le (by have := HM.out; omega)]; rfl
        clear hbel
        go_wp2
        go_ret
        exact ⟨ret_bs HE.out, HB.out⟩
  · have hni : ((n : Int) == (m : Int)) = false := beq_eq_false_iff_ne.2 (by omega)
    have HE : Hid (false = decide (L = M)) := by
      refine (?_ : false = decide (L = M))
      rw [eq_comm, decide_eq_false_iff_not]; intro e; have := HN.out; have := HM.out; rw [e] at *; omega
    go_enter Tryz.func143, Tryz.ntmps143
    go_wp2
    go_ret
    exact ⟨ret_bs HE.out, Below.refl _ _⟩

set_option maxHeartbeats 2000000 in
theorem c_s_SketchSame {w : World} {z h l z' h' l' : Int} {pa na pb nb : Option Addr} {pn pc nn nc pm pd nm nd : Nat} {P N P' N' : List Bn} (hp : P.length = pn) (hn : N.length = nn) (hp' : P'.length = pm) (hn' : N'.length = nm) (lp : pn ≤ 1048576) (ln : nn ≤ 1048576) (lp' : pm ≤ 1048576) (ln' : nm ≤ 1048576) (hP : BinsAt w pa P) (hN : BinsAt w na N) (hP2 : BinsAt w pb P') (hN2 : BinsAt w nb N') :
    Calls Tryz.prog 74 #[.agg #[.int .u64 z, .slice pa pn pc, .slice na nn nc, .int .i64 h, .int .u64 l], .agg #[.int .u64 z', .slice pb pm pd, .slice nb nm nd, .int .i64 h', .int .u64 l']] w fun e w' => e = .returned (.bool (sameS z h l P N z' h' l' P' N')) ∧ Below w.heap.size w w' := by
  have HP := hide hP
  have HN := hide hN
  have HP2 := hide hP2
  have HN2 := hide hN2
  clear hP hN hP2 hN2
  have hW : ∀ o1 o2, Below w.heap.size w ((w.alloc o1).alloc o2) := fun o1 o2 => ((Below.refl _ _).alloc (Nat.le_refl _) _).alloc (by simp) _
  have HW := hide hW
  clear hW
  have hq := eq_wide h l h' l'
  by_cases h1 : z = z'
  · subst h1
    cases hb : (h == h' && l == l') with
    | true =>
      rw [hb] at hq
      by_cases h3 : P = P'
      · have d3 : decide (P = P') = true := decide_eq_true h3
        have HE : Hid (decide (N = N') = sameS z h l P N z h' l' P' N') := by
          refine (?_ : decide (N = N') = sameS z h l P N z h' l' P' N')
          simp only [sameS, hb, d3, beq_self_eq_true, Bool.true_and]
        clear hb h3
        go_enter Tryz.func74, Tryz.ntmps74
        go_wp2_with fail
        refine (c_s_l03SameBins _ _ _ _ hp hp' lp lp' (bins_past HP.out (HW.out _ _)) (bins_past HP2.out (HW.out _ _))).mono ?_
        rintro e w1 ⟨rfl, hb1⟩
        rw [d3]
        have hT1 := (HW.out _ _).trans (hb1.mono (by simp <;> omega))
        obtain ⟨hc1, _⟩ := bcell hb1
        simp at hc1
        have HT1 := hide hT1
        clear hb1 hT1
        go_wp2_with fail
        refine (c_s_l03SameBins _ _ _ _ hn hn' ln ln' (bins_past HN.out HT1.out) (bins_past HN2.out HT1.out)).mono ?_
        rintro e w2 ⟨rfl, hb2⟩
        have HT2 := hide (chain HT1.out hb2)
        clear hb2
        go_wp2
        go_ret
        exact ⟨ret_bs HE.out, HT2.out⟩
      · have d3 : decide (P = P') = false := decide_eq_false h3
        have HE : Hid (false = sameS z h l P N z h' l' P' N') := by
          refine (?_ : false = sameS z h l P N z h' l' P' N')
          simp only [sameS, d3, Bool.and_false, Bool.false_and]
        clear hb h3
        go_enter Tryz.func74, Tryz.ntmps74
        go_wp2_with fail
        refine (c_s_l03SameBins _ _ _ _ hp hp' lp lp' (bins_past HP.out (HW.out _ _)) (bins_past HP2.out (HW.out _ _))).mono ?_
        rintro e w1 ⟨rfl, hb1⟩
        rw [d3]
        have HT1 := hide ((HW.out _ _).trans (hb1.mono (by simp <;> omega)))
        clear hb1
        go_wp2
        go_ret
        exact ⟨ret_bs HE.out, HT1.out⟩
    | false =>
      rw [hb] at hq
      have HE : Hid (false = sameS z h l P N z h' l' P' N') := by
        refine (?_ : false = sameS z h l P N z h' l' P' N')
        simp only [sameS, hb, Bool.and_false, Bool.false_and]
      clear hb
      go_enter Tryz.func74, Tryz.ntmps74
      go_wp2
      go_ret
      exact ⟨ret_bs HE.out, HW.out _ _⟩
  · have d1 : (z == z') = false := beq_eq_false_iff_ne.2 h1
    have HE : Hid (false = sameS z h l P N z' h' l' P' N') := by
      refine (?_ : false = sameS z h l P N z' h' l' P' N')
      simp only [sameS, d1, Bool.false_and]
    clear h1
    go_enter Tryz.func74, Tryz.ntmps74
    go_wp2
    go_ret
    exact ⟨ret_bs HE.out, HW.out _ _⟩

set_option maxHeartbeats 2000000 in
theorem c_i_SketchSame {w : World} {z h l z' h' l' : Int} {pa na pb nb : Option Addr} {pn pc nn nc pm pd nm nd : Nat} {P N P' N' : List Bn} (hp : P.length = pn) (hn : N.length = nn) (hp' : P'.length = pm) (hn' : N'.length = nm) (lp : pn ≤ 1048576) (ln : nn ≤ 1048576) (lp' : pm ≤ 1048576) (ln' : nm ≤ 1048576) (hP : BinsAt w pa P) (hN : BinsAt w na N) (hP2 : BinsAt w pb P') (hN2 : BinsAt w nb N') :
    Calls Tryz.prog 111 #[.agg #[.int .u64 z, .slice pa pn pc, .slice na nn nc, .int .i64 h, .int .u64 l], .agg #[.int .u64 z', .slice pb pm pd, .slice nb nm nd, .int .i64 h', .int .u64 l']] w fun e w' => e = .returned (.bool (sameS z h l P N z' h' l' P' N')) ∧ Below w.heap.size w w' := by
  have HP := hide hP
  have HN := hide hN
  have HP2 := hide hP2
  have HN2 := hide hN2
  clear hP hN hP2 hN2
  have hW : ∀ o1 o2, Below w.heap.size w ((w.alloc o1).alloc o2) := fun o1 o2 => ((Below.refl _ _).alloc (Nat.le_refl _) _).alloc (by simp) _
  have HW := hide hW
  clear hW
  have hq := eq_wide h l h' l'
  by_cases h1 : z = z'
  · subst h1
    cases hb : (h == h' && l == l') with
    | true =>
      rw [hb] at hq
      by_cases h3 : P = P'
      · have d3 : decide (P = P') = true := decide_eq_true h3
        have HE : Hid (decide (N = N') = sameS z h l P N z h' l' P' N') := by
          refine (?_ : decide (N = N') = sameS z h l P N z h' l' P' N')
          simp only [sameS, hb, d3, beq_self_eq_true, Bool.true_and]
        clear hb h3
        go_enter Tryz.func111, Tryz.ntmps111
        go_wp2_with fail
        refine (c_slices_Equal _ _ _ _ hp hp' lp lp' (bins_past HP.out (HW.out _ _)) (bins_past HP2.out (HW.out _ _))).mono ?_
        rintro e w1 ⟨rfl, hb1⟩
        rw [d3]
        have hT1 := (HW.out _ _).trans (hb1.mono (by simp <;> omega))
        obtain ⟨hc1, _⟩ := bcell hb1
        simp at hc1
        have HT1 := hide hT1
        clear hb1 hT1
        go_wp2_with fail
        refine (c_slices_Equal _ _ _ _ hn hn' ln ln' (bins_past HN.out HT1.out) (bins_past HN2.out HT1.out)).mono ?_
        rintro e w2 ⟨rfl, hb2⟩
        have HT2 := hide (chain HT1.out hb2)
        clear hb2
        go_wp2
        go_ret
        exact ⟨ret_bs HE.out, HT2.out⟩
      · have d3 : decide (P = P') = false := decide_eq_false h3
        have HE : Hid (false = sameS z h l P N z h' l' P' N') := by
          refine (?_ : false = sameS z h l P N z h' l' P' N')
          simp only [sameS, d3, Bool.and_false, Bool.false_and]
        clear hb h3
        go_enter Tryz.func111, Tryz.ntmps111
        go_wp2_with fail
        refine (c_slices_Equal _ _ _ _ hp hp' lp lp' (bins_past HP.out (HW.out _ _)) (bins_past HP2.out (HW.out _ _))).mono ?_
        rintro e w1 ⟨rfl, hb1⟩
        rw [d3]
        have HT1 := hide ((HW.out _ _).trans (hb1.mono (by simp <;> omega)))
        clear hb1
        go_wp2
        go_ret
        exact ⟨ret_bs HE.out, HT1.out⟩
    | false =>
      rw [hb] at hq
      have HE : Hid (false = sameS z h l P N z h' l' P' N') := by
        refine (?_ : false = sameS z h l P N z h' l' P' N')
        simp only [sameS, hb, Bool.and_false, Bool.false_and]
      clear hb
      go_enter Tryz.func111, Tryz.ntmps111
      go_wp2
      go_ret
      exact ⟨ret_bs HE.out, HW.out _ _⟩
  · have d1 : (z == z') = false := beq_eq_false_iff_ne.2 h1
    have HE : Hid (false = sameS z h l P N z' h' l' P' N') := by
      refine (?_ : false = sameS z h l P N z' h' l' P' N')
      simp only [sameS, d1, Bool.false_and]
    clear h1
    go_enter Tryz.func111, Tryz.ntmps111
    go_wp2
    go_ret
    exact ⟨ret_bs HE.out, HW.out _ _⟩
end Go.Proofs.YtalmhekbagjdeaaGreatDoor
