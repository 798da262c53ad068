/-
  Contract of the model's TopRight: the same Bool.
-/
import Derived.Test.YtmhojmgemiphkaaTopR
namespace Go.Proofs.Ytmhojmgemiphkaa
set_option linter.unusedVariables false
set_option linter.unusedSimpArgs false
open Go.ChangeShapes Go.WideShapes Go.ChangeAt Go.RowKit Go.PlainAid Go.Lib
set_option maxRecDepth 10000

set_option maxHeartbeats 4000000 in
theorem c_s_TopRight {w : World} {d t : Int} {ao : Option Addr} {L : List Hv} (cap N : Nat) (hn : L.length = N) (hl : N ≤ 1048576) (hA : HvsAt w ao L) (hok : ∀ x ∈ L, HvOk x) (hd : I64 d) (ht : I64 t) :
    Calls Try.prog 16 #[.agg #[.slice ao N cap, .int .i64 d, .int .i64 t]] w fun e w' => e = .returned (.bool (topB L d t)) ∧ Below w.heap.size w w' := by
  have HA := hide hA
  have HK := hide hok
  have HN := hide hn
  have hge := op_geq 9
  have HB0 : Hid (∀ o, Below w.heap.size w (w.alloc o)) := (fun o => (Below.refl _ _).alloc (Nat.le_refl _) o : ∀ o, Below w.heap.size w (w.alloc o))
  unfold I64 at hd ht
  have hcs : (5 < N) ∨ (¬ 5 < N ∧ d < 0) ∨ (¬ 5 < N ∧ ¬ d < 0 ∧ t < 0) ∨ (¬ 5 < N ∧ ¬ d < 0 ∧ ¬ t < 0 ∧ 1000000000000000 < t) ∨ (¬ 5 < N ∧ ¬ d < 0 ∧ ¬ t < 0 ∧ ¬ 1000000000000000 < t ∧ 1000000000000000 < d) ∨ (¬ 5 < N ∧ ¬ d < 0 ∧ ¬ t < 0 ∧ ¬ 1000000000000000 < t ∧ ¬ 1000000000000000 < d) := by omega
  rcases hcs with q1 | ⟨q1, q2⟩ | ⟨q1, q2, q3⟩ | ⟨q1, q2, q3, q4⟩ | ⟨q1, q2, q3, q4, q5⟩ | ⟨q1, q2, q3, q4, q5⟩
  · have HE : Hid (false = topB L d t) := (by unfold topB; rw [decide_eq_false (by omega : ¬ L.length ≤ 5)]; rfl : false = topB L d t)
    clear hA hok hn
    go_enter Try.func16, Try.ntmps16
    go_wp2
    go_ret
    exact ⟨ret_bt HE.out, HB0.out _⟩
  · have HE : Hid (false = topB L d t) := (by unfold topB; rw [decide_eq_false (by omega : ¬ 0 ≤ d)]; simp : false = topB L d t)
    clear hA hok hn
    go_enter Try.func16, Try.ntmps16
    go_wp2
    go_ret
    exact ⟨ret_bt HE.out, HB0.out _⟩
  · have HE : Hid (false = topB L d t) := by
      refine (?_ : false = topB L d t)
      cases h : topB L d t with
      | false => rfl
      | true =>
        unfold topB at h
        have := it_le (Bool.and_eq_true_iff.1 h).2
        omega
    clear hA hok hn
    go_enter Try.func16, Try.ntmps16
    go_wp2
    go_ret
    exact ⟨ret_bt HE.out, HB0.out _⟩
  · have HE : Hid (false = topB L d t) := (by unfold topB; rw [decide_eq_false (by omega : ¬ t ≤ 1000000000000000)]; simp : false = topB L d t)
    clear hA hok hn
    go_enter Try.func16, Try.ntmps16
    go_wp2
    go_ret
    exact ⟨ret_bt HE.out, HB0.out _⟩
  · have HE : Hid (false = topB L d t) := (by unfold topB; rw [decide_eq_false (by omega : ¬ d ≤ 1000000000000000)]; simp : false = topB L d t)
    clear hA hok hn
    go_enter Try.func16, Try.ntmps16
    go_wp2
    go_ret
    exact ⟨ret_bt HE.out, HB0.out _⟩
  · have HF : Hid (topB L d t = itB t none (6 * d) L) := (by unfold topB; rw [decide_eq_true (by omega : L.length ≤ 5), decide_eq_true (by omega : 0 ≤ d), decide_eq_true (by omega : d ≤ 1000000000000000), decide_eq_true (by omega : t ≤ 1000000000000000)]; rfl : topB L d t = itB t none (6 * d) L)
    clear hA hok hn
    go_enter Try.func16, Try.ntmps16
    go_wp2
    go_loopw [3, 4] (fun q i wr => Below w.heap.size w wr ∧ TpCell wr w.heap.size (.slice ao N cap) d t ∧ ∃ (k : Nat) (n : Int), k ≤ N ∧ i = .int .i64 k ∧ q = .int .i64 n ∧ 0 ≤ n ∧ n ≤ 6000000000000000 + k * 1000000000000000 ∧ Hid (topB L d t = itB t (prevK L k) n (L.drop k))) (fun q i wr => N - (intOf i).toNat)
    case atStart => exact ⟨HB0.out _, tp_new _ _ _ _ _, 0, 6 * d, Nat.zero_le _, rfl, rfl, by omega, by omega, HF⟩
    case round =>
      obtain ⟨hbel, hT, k, n, hk, rfl, rfl, hn0, hn1, HR⟩ := hrel
      have HB := hide hbel
      have HT := hide hT
      obtain ⟨x0, x1, x2⟩ := hT
      have hz := hbel.size
      have hz1 : w.heap.size < wr.heap.size := World.block_lt_of_cell? _ _ x0
      by_cases hkn : k < N
      · obtain ⟨⟨u, c⟩, hRk⟩ : ∃ a, L[k]? = some a := ⟨L[k]'(by have := HN.out; omega), List.getElem?_eq_getElem _⟩
        obtain ⟨hus, hc1, hc2⟩ := HK.out _ (List.mem_of_getElem? hRk)
        obtain ⟨b, off, rfl, hcell⟩ := HA.out (by have := HN.out; omega)
        have hc0 := cell_past hbel (hcell k _ hRk).1
        have hc3 := cell_past hbel (hcell k _ hRk).2
        have hbz : b < wr.heap.size := World.block_lt_of_cell? _ _ hc0
        have HD := hide (it_drop hRk t (prevK L k) n)
        have HP1 := hide (prevK_succ hRk)
        have HTn : Hid (∀ o, TpCell (wr.alloc o) w.heap.size (.slice (some ⟨b, off, none⟩) N cap) d t) := (fun o => tp_past HT.out ((Below.refl _ _).alloc (Nat.le_refl _) o) : ∀ o, TpCell (wr.alloc o) w.heap.size (.slice (some ⟨b, off, none⟩) N cap) d t)
        have hprev : 0 < k → ∃ (j : Nat) (p : ByteArray), k = j + 1 ∧ prevK L k = some p ∧ wr.cell? ⟨b, off + j * 2, none⟩ = some (.string p) := fun h0 => by
          obtain ⟨j, rfl⟩ : ∃ j, k = j + 1 := ⟨k - 1, by omega⟩
          obtain ⟨x, hx⟩ : ∃ a, L[j]? = some a := ⟨L[j]'(by have := HN.out; omega), List.getElem?_eq_getElem _⟩
          exact ⟨j, x.1, rfl, prevK_succ hx, cell_past hbel (hcell j _ hx).1⟩
        have HP := hide hprev
        simp at hus hc1 hc2
        clear hbel hcell hRk hprev HT
        cases hkey : keyB u with
        | false =>
          have HE : Hid (false = topB L d t) := (by rw [HR.out, HD.out]; simp [hkey] : false = topB L d t)
          go_wp2
          go_quiet (first | (go_at_call 21; refine Calls.quiet_of_same (c_s_l05Key _ _ (by omega))))
          go_wp2
          go_ret
          exact ⟨ret_bt HE.out, bel_drews (HB.out.alloc hz _) _⟩
        | true =>
          have hafter : (k = 0 ∧ aftB (prevK L k) (u, c).1 = true) ∨ (∃ (j : Nat) (p : ByteArray), k = j + 1 ∧ aftB (prevK L k) (u, c).1 = strLt p u ∧ wr.cell? ⟨b, off + j * 2, none⟩ = some (.string p)) := by
            rcases Nat.eq_zero_or_pos k with rfl | hpos
            · exact .inl ⟨rfl, rfl⟩
            · obtain ⟨j, p, e1, e2, e3⟩ := HP.out hpos
              exact .inr ⟨j, p, e1, by rw [e2]; rfl, e3⟩
          by_cases q1 : c < 1
          · have HE : Hid (false = topB L d t) := (by rw [HR.out, HD.out, decide_eq_false (by show ¬ 1 ≤ c; omega)]; simp : false = topB L d t)
            have d1 : decide (c < 1) = true := decide_eq_true q1
            clear hafter HP
            go_wp2
            go_quiet (first | (go_at_call 21; refine Calls.quiet_of_same (c_s_l05Key _ _ (by omega))))
            go_wp2
            go_ret
            exact ⟨ret_bt HE.out, bel_drews (HB.out.alloc hz _) _⟩
          · have d1 : decide (c < 1) = false := decide_eq_false q1
            by_cases q2 : 1000000000000000 < c
            · have HE : Hid (false = topB L d t) := (by rw [HR.out, HD.out, decide_eq_false (p := (u, c).2 ≤ 1000000000000000) (by show ¬ c ≤ 1000000000000000; omega)]; simp : false = topB L d t)
              have d2 : decide (1000000000000000 < c) = true := decide_eq_true q2
              clear hafter HP
              go_wp2
              go_quiet (first | (go_at_call 21; refine Calls.quiet_of_same (c_s_l05Key _ _ (by omega))))
              go_wp2
              go_ret
              exact ⟨ret_bt HE.out, bel_drews (HB.out.alloc hz _) _⟩
            · have d2 : decide (1000000000000000 < c) = false := decide_eq_false q2
              rcases hafter with ⟨ek0, haf⟩ | ⟨j, p, ek0, haf, hcp⟩
              · have HE : Hid (topB L d t = itB t (prevK L (k + 1)) (n + c) (L.drop (k + 1))) := by
                  refine (?_ : topB L d t = itB t (prevK L (k + 1)) (n + c) (L.drop (k + 1)))
                  rw [HR.out, HD.out, HP1.out, haf, decide_eq_true (p := 1 ≤ (u, c).2) (by show 1 ≤ c; omega), decide_eq_true (p := (u, c).2 ≤ 1000000000000000) (by show c ≤ 1000000000000000; omega)]; simp [hkey]
                have d4 : decide (0 < k) = false := decide_eq_false (by omega)
                clear haf HP ek0
                go_wp2
                go_quiet (first | (go_at_call 21; refine Calls.quiet_of_same (c_s_l05Key _ _ (by omega))))
                go_wp2
                go_roundw
                case rel => exact ⟨bel_drews (HB.out.alloc hz _) _, HTn.out _, k + 1, n + c, by omega, by go_num, by go_num, by omega, by omega, HE⟩
                case measure => simp [intOf]; omega
              · have ek : ((k : Int) - 1) = (j : Int) := by omega
                have hpi : 0 < k := by omega
                have hjN : j < N := by omega
                have ew : IntKind.i64.wrap (j : Int) = j := IntWalk.i64_in _ ⟨by omega, by omega⟩
                cases hlt : strLt p u with
                | false =>
                  have HE : Hid (false = topB L d t) := (by rw [HR.out, HD.out]; simp [haf, hlt] : false = topB L d t)
                  clear haf HP ek0
                  go_wp2
                  go_quiet (first | (go_at_call 21; refine Calls.quiet_of_same (c_s_l05Key _ _ (by omega))))
                  go_wp2
                  go_ret
                  exact ⟨ret_bt HE.out, bel_drews (HB.out.alloc hz _) _⟩
                | true =>
                  have HE : Hid (topB L d t = itB t (prevK L (k + 1)) (n + c) (L.drop (k + 1))) := by
                    refine (?_ : topB L d t = itB t (prevK L (k + 1)) (n + c) (L.drop (k + 1)))
                    rw [HR.out, HD.out, HP1.out, haf, hlt, decide_eq_true (p := 1 ≤ (u, c).2) (by show 1 ≤ c; omega), decide_eq_true (p := (u, c).2 ≤ 1000000000000000) (by show c ≤ 1000000000000000; omega)]; simp [hkey]
                  clear haf HP ek0
                  go_wp2
                  go_quiet (first | (go_at_call 21; refine Calls.quiet_of_same (c_s_l05Key _ _ (by omega))))
                  go_wp2
                  go_roundw
                  case rel => exact ⟨bel_drews (HB.out.alloc hz _) _, HTn.out _, k + 1, n + c, by omega, by go_num, by go_num, by omega, by omega, HE⟩
                  case measure => simp [intOf]; omega
      · have HE : Hid (decide (n ≤ t) = topB L d t) := (by rw [HR.out, it_end (by have := HN.out; omega)] : decide (n ≤ t) = topB L d t)
        clear hbel
        go_wp2
        go_ret
        exact ⟨ret_bt HE.out, HB.out⟩
end Go.Proofs.Ytmhojmgemiphkaa
