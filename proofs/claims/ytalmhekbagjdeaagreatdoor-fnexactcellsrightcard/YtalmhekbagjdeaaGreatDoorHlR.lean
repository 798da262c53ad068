/-
  Contracts of HllRight, of the program and of its model.
-/
import Derived.Test.YtalmhekbagjdeaaGreatDoorHlC
namespace Go.Proofs.YtalmhekbagjdeaaGreatDoor
set_option linter.unusedVariables false
set_option linter.unusedSimpArgs false
open Go.ChangeShapes Go.WideShapes Go.ChangeAt Go.RowKit Go.PlainAid Go.Lib
set_option maxRecDepth 10000

/-- Numbers that rise. -/
def upN : List Int → Bool
  | [] => true
  | [_] => true
  | a :: b :: r => decide (a < b) && upN (b :: r)
theorem up_drop {L : List Int} {k : Nat} {a b : Int} (h : L[k]? = some a) (g : L[k + 1]? = some b) : upN (L.drop k) = (decide (a < b) && upN (L.drop (k + 1))) := by
  have hk := (List.getElem?_eq_some_iff.1 h).1
  have gk := (List.getElem?_eq_some_iff.1 g).1
  rw [List.drop_eq_getElem_cons hk, (List.getElem?_eq_some_iff.1 h).2, List.drop_eq_getElem_cons gk, (List.getElem?_eq_some_iff.1 g).2]; rfl
theorem up_end {L : List Int} {k : Nat} (h : L.length ≤ k + 1) : upN (L.drop k) = true := by
  have hl : (L.drop k).length ≤ 1 := by rw [List.length_drop]; omega
  match h2 : L.drop k, hl with
  | [], _ => rfl
  | [_], _ => rfl
  | _ :: _ :: _, h => simp at h
/-- Registers within their bounds. -/
def inR (x : Int) : Bool := decide (0 ≤ x) && decide (x ≤ 55)
theorem all_drop {L : List Int} {k : Nat} {a : Int} (h : L[k]? = some a) : (L.drop k).all inR = (inR a && (L.drop (k + 1)).all inR) := by
  have hk := (List.getElem?_eq_some_iff.1 h).1
  rw [List.drop_eq_getElem_cons hk, (List.getElem?_eq_some_iff.1 h).2]; rfl
def exB (E : List Int) : Bool := decide (E.length ≤ 40) && upN E
def regB (R : List Int) : Bool := decide (R.length = 64) && R.all inR
def hlB (E R : List Int) : Bool := if R.length = 0 then exB E else decide (E.length = 0) && regB R

theorem upN_step {L : List Int} {k : Nat} {a b : Int} {B : Bool} (h : L[k]? = some a) (g : L[k + 1]? = some b) (e : B = upN (L.drop k)) : (b ≤ a → false = B) ∧ (¬ b ≤ a → B = upN (L.drop (k + 1))) := by
  rw [up_drop h g] at e
  exact ⟨fun q => by rw [e, decide_eq_false (by omega)]; rfl, fun q => by rw [e, decide_eq_true (by omega), Bool.true_and]⟩
theorem all_step {L : List Int} {k : Nat} {a : Int} {B : Bool} (h : L[k]? = some a) (e : B = (L.drop k).all inR) : (a < 0 ∨ 55 < a → false = B) ∧ (0 ≤ a → a ≤ 55 → B = (L.drop (k + 1)).all inR) := by
  rw [all_drop h] at e
  unfold inR at e
  exact ⟨fun q => by rw [e]; rcases q with q | q
                     · rw [decide_eq_false (by omega)]; rfl
                     · rw [decide_eq_false (p := a ≤ 55) (by omega), Bool.and_false]; rfl, fun q q' => by rw [e, decide_eq_true q, decide_eq_true q']; rfl⟩

set_option maxHeartbeats 1000000 in
theorem c_i_exactRight {w : World} {ao : Option Addr} {L : List Int} (cap N : Nat) (hn : L.length = N) (hl : N ≤ 1048576) (hA : NumsAt .u64 w ao L) :
    Calls Tryz.prog 222 #[.slice ao N cap] w fun e w' => e = .returned (.bool (exB L)) ∧ Below w.heap.size w w' := by
  have HA := hide hA
  have HN := hide hn
  by_cases h40 : N ≤ 40
  · have HF : Hid (exB L = upN L) := (by simp [exB, hn, h40] : exB L = upN L)
    clear hA hn
    go_enter Tryz.func222, Tryz.ntmps222
    go_wp2
    go_loopw [9] (fun i wr => Below w.heap.size w wr ∧ ∃ (k : Nat), k ≤ N ∧ i = .int .i64 k ∧ Hid (exB L = upN (L.drop (k - 1)))) (fun i wr => N - (intOf i).toNat)
    case atStart => exact ⟨Below.refl _ _, 0, Nat.zero_le _, rfl, HF⟩
    case round =>
      obtain ⟨hbel, k, hk, rfl, HR⟩ := hrel
      have HB := hide hbel
      by_cases hkn : k < N
      · obtain ⟨u, hRk⟩ : ∃ a, L[k]? = some a := ⟨L[k]'(by have := HN.out; omega), List.getElem?_eq_getElem _⟩
        obtain ⟨b, off, rfl, hcell⟩ := HA.out (by have := HN.out; omega)
        have hc0 := cell_past hbel (hcell k _ hRk)
        by_cases hk0 : k = 0
        · subst hk0
          clear hbel hcell hRk
          go_wp2
          go_quiet (fail)
          go_wp2
          go_roundw
          case rel => exact ⟨bel_drews HB.out _, 1, by omega, by go_num, HR⟩
          case measure => simp [intOf]; omega
        · obtain ⟨j, rfl⟩ : ∃ j, k = j + 1 := ⟨k - 1, by omega⟩
          obtain ⟨a, hRj⟩ : ∃ a, L[j]? = some a := ⟨L[j]'(by have := HN.out; omega), List.getElem?_eq_getElem _⟩
          have hc1 := cell_past hbel (hcell j _ hRj)
          have HU := hide (upN_step hRj hRk HR.out)
          clear hbel hcell hRk hRj HR
          have hj1 : ((j + 1 : Nat) : Int) - 1 = (j : Int) := by omega
          by_cases q : u ≤ a
          · have d1 : decide (u ≤ a) = true := decide_eq_true q
            go_wp2
            go_quiet (fail)
            go_wp2
            go_ret
            exact ⟨ret_bn (HU.out.1 q), bel_drews HB.out _⟩
          · have d1 : decide (u ≤ a) = false := decide_eq_false q
            go_wp2
            go_quiet (fail)
            go_wp2
            go_roundw
            case rel => exact ⟨bel_drews HB.out _, j + 1 + 1, by omega, by go_num, HU.out.2 q⟩
            case measure => simp [intOf]; omega
      · have HE : Hid (true = exB L) := (by rw [HR.out, up_end (by have := HN.out; omega)] : true = exB L)
        clear hbel
        go_wp2
        go_ret
        exact ⟨ret_bn HE.out, HB.out⟩
  · have HE : Hid (false = exB L) := (by simp [exB, hn]; intro h; omega : false = exB L)
    clear hA hn
    go_enter Tryz.func222, Tryz.ntmps222
    go_wp2
    go_ret
    exact ⟨ret_bn HE.out, Below.refl _ _⟩

set_option maxHeartbeats 1000000 in
theorem c_i_regsRight {w : World} {ao : Option Addr} {L : List Int} (cap N : Nat) (hn : L.length = N) (hl : N ≤ 1048576) (hA : NumsAt .i64 w ao L) :
    Calls Tryz.prog 223 #[.slice ao N cap] w fun e w' => e = .returned (.bool (regB L)) ∧ Below w.heap.size w w' := by
  have HA := hide hA
  have HN := hide hn
  by_cases h64 : N = 64
  · subst h64
    have HF : Hid (regB L = L.all inR) := (by simp [regB, hn] : regB L = L.all inR)
    clear hA hn
    go_enter Tryz.func223, Tryz.ntmps223
    go_wp2
    go_loopw [10] (fun i wr => Below w.heap.size w wr ∧ ∃ (k : Nat), k ≤ 64 ∧ i = .int .i64 k ∧ Hid (regB L = (L.drop k).all inR)) (fun i wr => 64 - (intOf i).toNat)
    case atStart => exact ⟨Below.refl _ _, 0, Nat.zero_le _, rfl, HF⟩
    case round =>
      obtain ⟨hbel, k, hk, rfl, HR⟩ := hrel
      have HB := hide hbel
      by_cases hkn : k < 64
      · obtain ⟨u, hRk⟩ : ∃ a, L[k]? = some a := ⟨L[k]'(by have := HN.out; omega), List.getElem?_eq_getElem _⟩
        obtain ⟨b, off, rfl, hcell⟩ := HA.out (by have := HN.out; omega)
        have hc0 := cell_past hbel (hcell k _ hRk)
        have HU := hide (all_step hRk HR.out)
        clear hbel hcell hRk HR
        by_cases q : u < 0
        · have d1 : decide (u < 0) = true := decide_eq_true q
          go_wp2
          go_ret
          exact ⟨ret_bn (HU.out.1 (.inl q)), HB.out⟩
        · have d1 : decide (u < 0) = false := decide_eq_false q
          by_cases q2 : 55 < u
          · have d2 : decide (55 < u) = true := decide_eq_true q2
            go_wp2
            go_ret
            exact ⟨ret_bn (HU.out.1 (.inr q2)), HB.out⟩
          · have d2 : decide (55 < u) = false := decide_eq_false q2
            go_wp2
            go_roundw
            case rel => exact ⟨HB.out, k + 1, by omega, by go_num, HU.out.2 (by omega) (by omega)⟩
            case measure => simp [intOf]; omega
      · have HE : Hid (true = regB L) := (by rw [HR.out, List.drop_eq_nil_of_le (by have := HN.out; omega)]; rfl : true = regB L)
        clear hbel
        go_wp2
        go_ret
        exact ⟨ret_bn HE.out, HB.out⟩
  · have HE : Hid (false = regB L) := (by simp [regB, hn, h64] : false = regB L)
    have hb : ((N : Int) == 64) = false := beq_eq_false_iff_ne.2 (by omega)
    clear hA hn
    go_enter Tryz.func223, Tryz.ntmps223
    go_wp2
    go_ret
    exact ⟨ret_bn HE.out, Below.refl _ _⟩

set_option maxHeartbeats 1000000 in
theorem c_i_HllRight {w : World} {pa na : Option Addr} {pn pc nn nc : Nat} {P N : List Int} (hp : P.length = pn) (hn : N.length = nn) (lp : pn ≤ 1048576) (ln : nn ≤ 1048576) (hP : NumsAt .u64 w pa P) (hN : NumsAt .i64 w na N) :
    Calls Tryz.prog 221 #[.agg #[.slice pa pn pc, .slice na nn nc]] w fun e w' => e = .returned (.bool (hlB P N)) ∧ Below w.heap.size w w' := by
  have HP := hide hP
  have HN := hide hN
  have hW : ∀ o1, Below w.heap.size w (w.alloc o1) := fun o1 => (Below.refl _ _).alloc (Nat.le_refl _) _
  have HW := hide hW
  clear hP hN hW
  by_cases h0 : nn = 0
  · subst h0
    have HF : Hid (exB P = hlB P N) := (by simp [hlB, hn] : exB P = hlB P N)
    go_enter Tryz.func221, Tryz.ntmps221
    go_wp2_with fail
    refine (c_i_exactRight _ _ hp lp (nums_past HP.out (HW.out _))).mono ?_
    rintro e w1 ⟨rfl, hb1⟩
    have HT1 := hide (chain (HW.out _) hb1)
    clear hb1
    go_wp2
    go_ret
    exact ⟨ret_bn HF.out, HT1.out⟩
  · have hb0 : ((nn : Int) == 0) = false := beq_eq_false_iff_ne.2 (by omega)
    by_cases h1 : pn = 0
    · subst h1
      have HF : Hid (regB N = hlB P N) := (by simp [hlB, hn, h0, hp] : regB N = hlB P N)
      go_enter Tryz.func221, Tryz.ntmps221
      go_wp2_with fail
      refine (c_i_regsRight _ _ hn ln (nums_past HN.out (HW.out _))).mono ?_
      rintro e w1 ⟨rfl, hb1⟩
      have HT1 := hide (chain (HW.out _) hb1)
      clear hb1
      go_wp2
      go_ret
      exact ⟨ret_bn HF.out, HT1.out⟩
    · have hb1 : ((pn : Int) == 0) = false := beq_eq_false_iff_ne.2 (by omega)
      have HF : Hid (false = hlB P N) := (by simp [hlB, hn, h0, hp, h1] : false = hlB P N)
      go_enter Tryz.func221, Tryz.ntmps221
      go_wp2
      go_ret
      exact ⟨ret_bn HF.out, HW.out _⟩

theorem c_s_l01Is (n lo hi : Int) (w : World) (hn : I64 n) :
    Calls Tryz.prog 44 #[.int .i64 n, .int .i64 lo, .int .i64 hi] w fun e w' => e = .returned (.bool (decide (lo ≤ n) && decide (n ≤ hi))) ∧ w' = w := by
  by_cases h : lo ≤ n
  · have d1 : decide (lo ≤ n) = true := decide_eq_true h
    go_enter Tryz.func44, Tryz.ntmps44
    go_wp2
    go_ret
    exact ⟨ret_bn (by rw [d1, Bool.true_and]), rfl⟩
  · have d1 : decide (lo ≤ n) = false := decide_eq_false h
    go_enter Tryz.func44, Tryz.ntmps44
    go_wp2
    go_ret
    exact ⟨rfl, rfl⟩

set_option maxHeartbeats 2000000 in
theorem c_s_HllRight {w : World} {pa na : Option Addr} {pn pc nn nc : Nat} {P N : List Int} (hp : P.length = pn) (hn : N.length = nn) (lp : pn ≤ 1048576) (ln : nn ≤ 1048576) (hP : NumsAt .u64 w pa P) (hN : NumsAt .i64 w na N) (kN : ∀ x ∈ N, I64 x) :
    Calls Tryz.prog 47 #[.agg #[.slice pa pn pc, .slice na nn nc]] w fun e w' => e = .returned (.bool (hlB P N)) ∧ Below w.heap.size w w' := by
  have HP := hide hP
  have HN := hide hN
  have EP := hide hp
  have EN := hide hn
  have KN := hide kN
  have hW : ∀ o1, Below w.heap.size w (w.alloc o1) := fun o1 => (Below.refl _ _).alloc (Nat.le_refl _) _
  have HW := hide hW
  clear hP hN hW kN
  by_cases h0 : nn = 0
  · subst h0
    have HF : Hid (hlB P N = (decide (pn ≤ 40) && upN P)) := (by simp [hlB, hn, exB, hp] : hlB P N = (decide (pn ≤ 40) && upN P))
    clear hp hn
    go_enter Tryz.func47, Tryz.ntmps47
    go_wp2
    go_loopw [3] (fun i wr => Below w.heap.size w wr ∧ HlCell wr w.heap.size (.slice pa pn pc) (.slice na 0 nc) ∧ ∃ (k : Nat), (k ≤ pn ∨ k = 1) ∧ 1 ≤ k ∧ i = .int .i64 k ∧ Hid (upN P = upN (P.drop (k - 1)))) (fun i wr => pn - (intOf i).toNat)
    case atStart => exact ⟨HW.out _, hl_new _ _ _ _, 1, .inr rfl, Nat.le_refl _, rfl, (rfl : upN P = upN (P.drop 0))⟩
    case round =>
      obtain ⟨hbel, hK, k, hk, hk1, rfl, HR⟩ := hrel
      have HB := hide hbel
      have HK := hide hK
      by_cases hkn : k < pn
      · obtain ⟨j, rfl⟩ : ∃ j, k = j + 1 := ⟨k - 1, by omega⟩
        obtain ⟨u, hRk⟩ : ∃ a, P[j + 1]? = some a := ⟨P[j + 1]'(by have := EP.out; omega), List.getElem?_eq_getElem _⟩
        obtain ⟨a, hRj⟩ : ∃ a, P[j]? = some a := ⟨P[j]'(by have := EP.out; omega), List.getElem?_eq_getElem _⟩
        obtain ⟨b, off, rfl, hcell⟩ := HP.out (by have := EP.out; omega)
        have hc0 := cell_past hbel (hcell _ _ hRk)
        have hc1 := cell_past hbel (hcell j _ hRj)
        have HU := hide (upN_step hRj hRk HR.out)
        have hj1 : ((j + 1 : Nat) : Int) - 1 = (j : Int) := by omega
        clear hbel hcell hRk hRj HR
        by_cases q : u ≤ a
        · have d1 : decide (u ≤ a) = true := decide_eq_true q
          have HE : Hid (false = hlB P N) := (by rw [HF.out, ← HU.out.1 q, Bool.and_false] : false = hlB P N)
          go_wp2
          go_quiet (fail)
          go_wp2
          go_ret
          exact ⟨ret_bn HE.out, bel_drews HB.out _⟩
        · have d1 : decide (u ≤ a) = false := decide_eq_false q
          go_wp2
          go_quiet (fail)
          go_wp2
          go_roundw
          case rel => exact ⟨bel_drews HB.out _, HK.out, j + 1 + 1, by omega, by omega, by go_num, HU.out.2 q⟩
          case measure => simp [intOf]; omega
      · have HE : Hid (decide ((pn : Int) ≤ 40) = hlB P N) := (by rw [HF.out, HR.out, up_end (by have := EP.out; omega), Bool.and_true]; exact decide_eq_decide.2 (by omega) : decide ((pn : Int) ≤ 40) = hlB P N)
        clear hbel
        go_wp2
        go_ret
        exact ⟨ret_bn HE.out, HB.out⟩
  · have hb0 : ((nn : Int) == 0) = false := beq_eq_false_iff_ne.2 (by omega)
    have HF : Hid (hlB P N = (decide (pn = 0) && (decide (nn = 64) && N.all inR))) := (by simp [hlB, hn, h0, hp, regB] : hlB P N = (decide (pn = 0) && (decide (nn = 64) && N.all inR)))
    clear hp hn
    go_enter Tryz.func47, Tryz.ntmps47
    go_wp2
    go_loopw [4] (fun i wr => Below w.heap.size w wr ∧ HlCell wr w.heap.size (.slice pa pn pc) (.slice na nn nc) ∧ ∃ (k : Nat), k ≤ nn ∧ i = .int .i64 k ∧ Hid (N.all inR = (N.drop k).all inR)) (fun i wr => nn - (intOf i).toNat)
    case atStart => exact ⟨HW.out _, hl_new _ _ _ _, 0, Nat.zero_le _, rfl, (rfl : N.all inR = (N.drop 0).all inR)⟩
    case round =>
      obtain ⟨hbel, hK, k, hk, rfl, HR⟩ := hrel
      have HB := hide hbel
      have HK := hide hK
      by_cases hkn : k < nn
      · obtain ⟨u, hRk⟩ : ∃ a, N[k]? = some a := ⟨N[k]'(by have := EN.out; omega), List.getElem?_eq_getElem _⟩
        obtain ⟨b, off, rfl, hcell⟩ := HN.out (by have := EN.out; omega)
        have hc0 := cell_past hbel (hcell k _ hRk)
        have hu := KN.out _ (List.mem_of_getElem? hRk)
        have HU := hide (all_step hRk HR.out)
        clear hbel hcell hRk HR
        by_cases q : 0 ≤ u ∧ u ≤ 55
        · have d1 : (decide (0 ≤ u) && decide (u ≤ 55)) = true := by simp [q.1, q.2]
          have HQ := hide q
          clear q
          go_wp2_with (go_at_call 44; refine (c_s_l01Is _ _ _ _ hu).mono ?_; rintro e w1 ⟨rfl, rfl⟩; rw [d1])
          go_roundw
          case rel => exact ⟨HB.out, HK.out, k + 1, by omega, by go_num, HU.out.2 HQ.out.1 HQ.out.2⟩
          case measure => simp [intOf]; omega
        · have d1 : (decide (0 ≤ u) && decide (u ≤ 55)) = false := by rw [Bool.eq_false_iff]; intro h; simp at h; exact q h
          have HE : Hid (false = hlB P N) := (by rw [HF.out, ← HU.out.1 (by omega), Bool.and_false, Bool.and_false] : false = hlB P N)
          clear q
          go_wp2_with (go_at_call 44; refine (c_s_l01Is _ _ _ _ hu).mono ?_; rintro e w1 ⟨rfl, rfl⟩; rw [d1])
          go_ret
          exact ⟨ret_bn HE.out, HB.out⟩
      · have hE : hlB P N = (decide (pn = 0) && decide (nn = 64)) := by rw [HF.out, HR.out, List.drop_eq_nil_of_le (by have := EN.out; omega)]; simp
        by_cases h1 : pn = 0
        · subst h1
          have HE : Hid (((nn : Int) == 64) = hlB P N) := (by rw [hE]; simp only [decide_true, Bool.true_and]; by_cases h : nn = 64 <;> simp [h] <;> omega : ((nn : Int) == 64) = hlB P N)
          clear hbel hE
          go_wp2
          go_ret
          exact ⟨ret_bn HE.out, HB.out⟩
        · have HE : Hid (false = hlB P N) := (by rw [hE, decide_eq_false h1]; rfl : false = hlB P N)
          have hb1 : ((pn : Int) == 0) = false := beq_eq_false_iff_ne.2 (by omega)
          clear hbel hE
          go_wp2
          go_ret
          exact ⟨ret_bn HE.out, HB.out⟩
end Go.Proofs.YtalmhekbagjdeaaGreatDoor
