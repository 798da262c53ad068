/-
  Contracts of HllSame, of the program and of its model.
-/
import Derived.Test.YtalmhekbagjdeaaGreatDoorHlC
namespace Go.Proofs.YtalmhekbagjdeaaGreatDoor
set_option linter.unusedVariables false
set_option linter.unusedSimpArgs false
open Go.ChangeShapes Go.WideShapes Go.ChangeAt Go.RowKit Go.PlainAid Go.Lib
set_option maxRecDepth 10000

theorem dec_lens {L M : List Int} {n m : Nat} (hn : L.length = n) (hm : M.length = m) (h : n ≠ m) : false = decide (L = M) := by
  rw [eq_comm, decide_eq_false_iff_not]; intro e; rw [e] at hn; omega
theorem drop_step {L M : List Int} {k : Nat} {a a' : Int} {B : Bool} (h : L[k]? = some a) (g : M[k]? = some a') (e : B = decide (L.drop k = M.drop k)) : (a = a' → B = decide (L.drop (k + 1) = M.drop (k + 1))) ∧ (a ≠ a' → false = B) := by
  rw [drop_sameN h g] at e
  exact ⟨fun q => by rw [e, q, beq_self_eq_true, Bool.true_and], fun q => by rw [e, beq_eq_false_iff_ne.2 q]; rfl⟩
theorem drop_done {L M : List Int} {n k : Nat} {B : Bool} (hn : L.length = n) (hm : M.length = n) (hk : ¬ k < n) (e : B = decide (L.drop k = M.drop k)) : true = B := by
  rw [e, List.drop_eq_nil_of_le (by omega), List.drop_eq_nil_of_le (by omega)]; rfl
def sameH (E R E' R' : List Int) : Bool := decide (E = E') && decide (R = R')

set_option maxHeartbeats 1000000 in
theorem c_EqualUint64S {w : World} {ao bo : Option Addr} {L M : List Int} (c c' n m : Nat) (hn : L.length = n) (hm : M.length = m) (ln : n ≤ 1048576) (lm : m ≤ 1048576) (hA : NumsAt .u64 w ao L) (hB : NumsAt .u64 w bo M) :
    Calls Tryz.prog 144 #[.slice ao n c, .slice bo m c'] w fun e w' => e = .returned (.bool (decide (L = M))) ∧ Below w.heap.size w w' := by
  have HN := hide hn
  have HM := hide hm
  have HA := hide hA
  have HB' := hide hB
  clear hn hm hA hB
  by_cases hnm : n = m
  · subst hnm
    go_enter Tryz.func144, Tryz.ntmps144
    go_wp2
    go_loopw [13] (fun i wr => Below w.heap.size w wr ∧ ∃ k : Nat, k ≤ n ∧ i = .int .i64 k ∧ Hid (decide (L = M) = decide (L.drop k = M.drop k))) (fun i wr => n - (intOf i).toNat)
    case atStart => exact ⟨Below.refl _ _, 0, Nat.zero_le _, rfl, (rfl : decide (L = M) = decide (L.drop 0 = M.drop 0))⟩
    case round =>
      obtain ⟨hbel, k, hk, rfl, HR⟩ := hrel
      have HB := hide hbel
      by_cases hkn : k < n
      · obtain ⟨a, hRk⟩ : ∃ a, L[k]? = some a := ⟨L[k]'(by have := HN.out; omega), List.getElem?_eq_getElem _⟩
        obtain ⟨a', hSk⟩ : ∃ a, M[k]? = some a := ⟨M[k]'(by have := HM.out; omega), List.getElem?_eq_getElem _⟩
        obtain ⟨b, off, rfl, hcell⟩ := HA.out (by have := HN.out; omega)
        obtain ⟨b', off', rfl, hcell'⟩ := HB'.out (by have := HM.out; omega)
        have hc0 := cell_past hbel (hcell k _ hRk)
        have hd0 := cell_past hbel (hcell' k _ hSk)
        have HD := hide (drop_step hRk hSk HR.out)
        clear hbel hRk hSk hcell hcell' HR
        by_cases he : a = a'
        · subst he
          have HE := hide (HD.out.1 rfl)
          clear HD
          go_wp2
          go_quiet (fail)
          go_wp2
          go_roundw
          case rel => exact ⟨bel_drews HB.out _, k + 1, by omega, by go_num, HE⟩
          case measure => simp [intOf]; omega
        · have hq : (a == a') = false := beq_eq_false_iff_ne.2 he
          have HE := hide (HD.out.2 he)
          clear he
          go_wp2
          go_quiet (fail)
          go_wp2
          go_ret
          exact ⟨ret_bn HE.out, bel_drews HB.out _⟩
      · have HE := hide (drop_done HN.out HM.out hkn HR.out)
        clear hbel
        go_wp2
        go_ret
        exact ⟨ret_bn HE.out, HB.out⟩
  · have hni : ((n : Int) == (m : Int)) = false := beq_eq_false_iff_ne.2 (by omega)
    have HE := hide (dec_lens HN.out HM.out hnm)
    go_enter Tryz.func144, Tryz.ntmps144
    go_wp2
    go_ret
    exact ⟨ret_bn HE.out, Below.refl _ _⟩

set_option maxHeartbeats 1000000 in
theorem c_EqualInt64S {w : World} {ao bo : Option Addr} {L M : List Int} (c c' n m : Nat) (hn : L.length = n) (hm : M.length = m) (ln : n ≤ 1048576) (lm : m ≤ 1048576) (hA : NumsAt .i64 w ao L) (hB : NumsAt .i64 w bo M) :
    Calls Tryz.prog 145 #[.slice ao n c, .slice bo m c'] w fun e w' => e = .returned (.bool (decide (L = M))) ∧ Below w.heap.size w w' := by
  have HN := hide hn
  have HM := hide hm
  have HA := hide hA
  have HB' := hide hB
  clear hn hm hA hB
  by_cases hnm : n = m
  · subst hnm
    go_enter Tryz.func145, Tryz.ntmps145
    go_wp2
    go_loopw [13] (fun i wr => Below w.heap.size w wr ∧ ∃ k : Nat, k ≤ n ∧ i = .int .i64 k ∧ Hid (decide (L = M) = decide (L.drop k = M.drop k))) (fun i wr => n - (intOf i).toNat)
    case atStart => exact ⟨Below.refl _ _, 0, Nat.zero_le _, rfl, (rfl : decide (L = M) = decide (L.drop 0 = M.drop 0))⟩
    case round =>
      obtain ⟨hbel, k, hk, rfl, HR⟩ := hrel
      have HB := hide hbel
      by_cases hkn : k < n
      · obtain ⟨a, hRk⟩ : ∃ a, L[k]? = some a := ⟨L[k]'(by have := HN.out; omega), List.getElem?_eq_getElem _⟩
        obtain ⟨a', hSk⟩ : ∃ a, M[k]? = some a := ⟨M[k]'(by have := HM.out; omega), List.getElem?_eq_getElem _⟩
        obtain ⟨b, off, rfl, hcell⟩ := HA.out (by have := HN.out; omega)
        obtain ⟨b', off', rfl, hcell'⟩ := HB'.out (by have := HM.out; omega)
        have hc0 := cell_past hbel (hcell k _ hRk)
        have hd0 := cell_past hbel (hcell' k _ hSk)
        have HD := hide (drop_step hRk hSk HR.out)
        clear hbel hRk hSk hcell hcell' HR
        by_cases he : a = a'
        · subst he
          have HE := hide (HD.out.1 rfl)
          clear HD
          go_wp2
          go_quiet (fail)
          go_wp2
          go_roundw
          case rel => exact ⟨bel_drews HB.out _, k + 1, by omega, by go_num, HE⟩
          case measure => simp [intOf]; omega
        · have hq : (a == a') = false := beq_eq_false_iff_ne.2 he
          have HE := hide (HD.out.2 he)
          clear he
          go_wp2
          go_quiet (fail)
          go_wp2
          go_ret
          exact ⟨ret_bn HE.out, bel_drews HB.out _⟩
      · have HE := hide (drop_done HN.out HM.out hkn HR.out)
        clear hbel
        go_wp2
        go_ret
        exact ⟨ret_bn HE.out, HB.out⟩
  · have hni : ((n : Int) == (m : Int)) = false := beq_eq_false_iff_ne.2 (by omega)
    have HE := hide (dec_lens HN.out HM.out hnm)
    go_enter Tryz.func145, Tryz.ntmps145
    go_wp2
    go_ret
    exact ⟨ret_bn HE.out, Below.refl _ _⟩

set_option maxHeartbeats 2000000 in
theorem c_i_HllSame {w : World} {pa na pb nb : Option Addr} {pn pc nn nc pm pd nm nd : Nat} {P N P' N' : List Int} (hp : P.length = pn) (hn : N.length = nn) (hp' : P'.length = pm) (hn' : N'.length = nm) (lp : pn ≤ 1048576) (ln : nn ≤ 1048576) (lp' : pm ≤ 1048576) (ln' : nm ≤ 1048576) (hP : NumsAt .u64 w pa P) (hN : NumsAt .i64 w na N) (hP2 : NumsAt .u64 w pb P') (hN2 : NumsAt .i64 w nb N') :
    Calls Tryz.prog 112 #[.agg #[.slice pa pn pc, .slice na nn nc], .agg #[.slice pb pm pd, .slice nb nm nd]] w fun e w' => e = .returned (.bool (sameH P N P' N')) ∧ Below w.heap.size w w' := by
  have HP := hide hP
  have HN := hide hN
  have HP2 := hide hP2
  have HN2 := hide hN2
  clear hP hN hP2 hN2
  have hW : ∀ o1 o2, Below w.heap.size w ((w.alloc o1).alloc o2) := fun o1 o2 => ((Below.refl _ _).alloc (Nat.le_refl _) _).alloc (by simp) _
  have HW := hide hW
  clear hW
  by_cases h3 : P = P'
  · have d3 : decide (P = P') = true := decide_eq_true h3
    have HE : Hid (decide (N = N') = sameH P N P' N') := (by simp only [sameH, d3, Bool.true_and] : decide (N = N') = sameH P N P' N')
    clear h3
    go_enter Tryz.func112, Tryz.ntmps112
    go_wp2_with fail
    refine (c_EqualUint64S _ _ _ _ hp hp' lp lp' (nums_past HP.out (HW.out _ _)) (nums_past HP2.out (HW.out _ _))).mono ?_
    rintro e w1 ⟨rfl, hb1⟩
    rw [d3]
    have hT1 := (HW.out _ _).trans (hb1.mono (by simp <;> omega))
    obtain ⟨hc1, _⟩ := bcell hb1
    simp at hc1
    have HT1 := hide hT1
    clear hb1 hT1
    go_wp2_with fail
    refine (c_EqualInt64S _ _ _ _ hn hn' ln ln' (nums_past HN.out HT1.out) (nums_past HN2.out HT1.out)).mono ?_
    rintro e w2 ⟨rfl, hb2⟩
    have HT2 := hide (chain HT1.out hb2)
    clear hb2
    go_wp2
    go_ret
    exact ⟨ret_bn HE.out, HT2.out⟩
  · have d3 : decide (P = P') = false := decide_eq_false h3
    have HE : Hid (false = sameH P N P' N') := (by simp only [sameH, d3, Bool.false_and] : false = sameH P N P' N')
    clear h3
    go_enter Tryz.func112, Tryz.ntmps112
    go_wp2_with fail
    refine (c_EqualUint64S _ _ _ _ hp hp' lp lp' (nums_past HP.out (HW.out _ _)) (nums_past HP2.out (HW.out _ _))).mono ?_
    rintro e w1 ⟨rfl, hb1⟩
    rw [d3]
    have HT1 := hide ((HW.out _ _).trans (hb1.mono (by simp <;> omega)))
    clear hb1
    go_wp2
    go_ret
    exact ⟨ret_bn HE.out, HT1.out⟩

theorem hl_two (w : World) (t : TypeId) (p n p' n' : Value) : HlCell ((w.alloc (.cells #[p, n] t)).alloc (.cells #[p', n'] t)) w.heap.size p n ∧ HlCell ((w.alloc (.cells #[p, n] t)).alloc (.cells #[p', n'] t)) (w.heap.size + 1) p' n' := by
  refine ⟨hl_past (hl_new w t p n) ((Below.refl _ _).alloc (Nat.le_refl _) _), ?_⟩
  have := hl_new (w.alloc (.cells #[p, n] t)) t p' n'
  simpa using this
end Go.Proofs.YtalmhekbagjdeaaGreatDoor
