/-
  Contracts of HllCount, of the program and of its model.
-/
import Derived.Test.YtljhjcmodaaaoaaHlR
namespace Go.Proofs.Ytljhjcmodaaaoaa
set_option linter.unusedVariables false
set_option linter.unusedSimpArgs false
open Go.ChangeShapes Go.WideShapes Go.ChangeAt Go.RowKit Go.PlainAid Go.Lib
set_option maxRecDepth 10000

/-- What the registers come to, in steps of 2^-55. -/
def cS : List Int → Int
  | [] => 0
  | r :: t => 2 ^ (55 - r).toNat + cS t
theorem cS_drop {L : List Int} {k : Nat} {a : Int} (h : L[k]? = some a) : cS (L.drop k) = 2 ^ (55 - a).toNat + cS (L.drop (k + 1)) := by
  have hk := (List.getElem?_eq_some_iff.1 h).1
  rw [List.drop_eq_getElem_cons hk, (List.getElem?_eq_some_iff.1 h).2]; rfl
theorem p55 {r : Int} (h : inR r = true) : (1 : Int) ≤ 2 ^ (55 - r).toNat ∧ (2 : Int) ^ (55 - r).toNat ≤ 36028797018963968 := by
  obtain ⟨n, hn⟩ : ∃ n, (55 - r).toNat = n := ⟨_, rfl⟩
  have h55 : n ≤ 55 := by simp [inR] at h; omega
  rw [hn]
  have h1 : (2 : Nat) ^ n ≤ 2 ^ 55 := Nat.pow_le_pow_right (by omega) h55
  have h2 : 1 ≤ 2 ^ n := Nat.one_le_two_pow
  have e : ((2 : Int) ^ n) = ((2 ^ n : Nat) : Int) := by simp
  rw [e]; constructor <;> omega
theorem cS_le : ∀ (L : List Int), L.all inR = true → 0 ≤ cS L ∧ cS L ≤ 36028797018963968 * (L.length : Int)
  | [], _ => by simp [cS]
  | r :: t, h => by
    simp only [List.all_cons, Bool.and_eq_true] at h
    have h1 := p55 h.1
    have h2 := cS_le t h.2
    simp only [cS, List.length_cons]
    generalize (2 : Int) ^ (55 - r).toNat = p at h1
    constructor <;> omega
/-- One register more. -/
theorem cS_step {L : List Int} {k : Nat} {a x : Int} (hL : L.all inR = true) (h64 : L.length = 64) (h : L[k]? = some a) (e : x + cS (L.drop k) = cS L) (h0 : 0 ≤ x) :
    x + 2 ^ (55 - a).toNat + cS (L.drop (k + 1)) = cS L ∧ 0 ≤ x + 2 ^ (55 - a).toNat ∧ x + 2 ^ (55 - a).toNat ≤ 2305843009213693952 ∧ 0 ≤ 55 - a ∧ 55 - a ≤ 55 ∧ (2 : Int) ^ (55 - a).toNat ≤ 36028797018963968 ∧ (1 : Int) ≤ 2 ^ (55 - a).toNat := by
  have ha : inR a = true := List.all_eq_true.1 hL a (List.mem_of_getElem? h)
  have h1 := p55 ha
  have h2 := (cS_le L hL).2
  have h3 := (cS_le (L.drop (k + 1)) (List.all_eq_true.2 fun y hy => List.all_eq_true.1 hL y (List.mem_of_mem_drop hy))).1
  rw [cS_drop h] at e
  rw [h64] at h2
  simp [inR] at ha
  generalize (2 : Int) ^ (55 - a).toNat = p at *
  refine ⟨by omega, by omega, by omega, by omega, by omega, by omega, by omega⟩
/-- How many there are. -/
def cntH (E R : List Int) : Int := if hlB E R = true then (if R.length = 0 then (E.length : Int) else Int.tdiv (Int.tdiv 3193052135805681664 (max (Int.tdiv (cS R) 32768) 1)) 1000) else 0
theorem cnt_one {t : Int} (h : 1 ≤ t) : wrap64 ((3193052135805681664 / t).tdiv 1000) = Int.tdiv (Int.tdiv 3193052135805681664 (max t 1)) 1000 := by
  rw [show max t 1 = t by omega, Int.tdiv_eq_ediv_of_nonneg (a := 3193052135805681664) (by omega)]
  have h0 : 0 ≤ 3193052135805681664 / t := Int.ediv_nonneg (by omega) (by omega)
  have h1 : 3193052135805681664 / t ≤ 3193052135805681664 := Int.ediv_le_self _ (by omega)
  generalize 3193052135805681664 / t = q at *
  rw [Int.tdiv_eq_ediv_of_nonneg h0]
  exact w64_id (by unfold I64; omega)
theorem ret_n {a b : Int} (h : a = b) : Ending.returned (.int .i64 a) = .returned (.int .i64 b) := by rw [h]

set_option maxHeartbeats 1000000 in
theorem c_i_HllCount {w : World} {pa na : Option Addr} {pn pc nn nc : Nat} {P N : List Int} (hp : P.length = pn) (hn : N.length = nn) (lp : pn ≤ 1048576) (ln : nn ≤ 1048576) (hP : NumsAt .u64 w pa P) (hN : NumsAt .i64 w na N) :
    Calls Try.prog 17 #[.agg #[.slice pa pn pc, .slice na nn nc]] w fun e w' => e = .returned (.int .i64 (cntH P N)) ∧ Below w.heap.size w w' := by
  have HP := hide hP
  have HN := hide hN
  have EP := hide hp
  have EN := hide hn
  have hW : ∀ o1, Below w.heap.size w (w.alloc o1) := fun o1 => (Below.refl _ _).alloc (Nat.le_refl _) _
  have HW := hide hW
  clear hP hN hW
  cases hb : hlB P N with
  | false =>
    have HE : Hid (0 = cntH P N) := (by simp [cntH, hb] : 0 = cntH P N)
    go_enter Try.func17, Try.ntmps17
    go_wp2_with fail
    refine (c_i_HllRight hp hn lp ln (nums_past HP.out (HW.out _)) (nums_past HN.out (HW.out _))).mono ?_
    rintro e w1 ⟨rfl, hb1⟩
    rw [hb]
    have HT1 := hide (chain (HW.out _) hb1)
    clear hb1
    go_wp2
    go_ret
    exact ⟨ret_n HE.out, HT1.out⟩
  | true =>
    by_cases h0 : nn = 0
    · subst h0
      have HE : Hid ((pn : Int) = cntH P N) := (by simp [cntH, hb, hp, hn] : (pn : Int) = cntH P N)
      go_enter Try.func17, Try.ntmps17
      go_wp2_with fail
      refine (c_i_HllRight hp hn lp ln (nums_past HP.out (HW.out _)) (nums_past HN.out (HW.out _))).mono ?_
      rintro e w1 ⟨rfl, hb1⟩
      rw [hb]
      have HT1 := hide (chain (HW.out _) hb1)
      have K1 := hl_past (hl_new w _ _ _) hb1
      clear hb1
      go_wp2
      go_ret
      exact ⟨ret_n HE.out, HT1.out⟩
    · have hb0 : ((nn : Int) == 0) = false := beq_eq_false_iff_ne.2 (by omega)
      have h64 : nn = 64 ∧ N.all inR = true := by simp [hlB, hn, h0, regB] at hb; exact ⟨hb.2.1, by simpa using hb.2.2⟩
      obtain ⟨rfl, hall⟩ := h64
      have HE : Hid (cntH P N = Int.tdiv (Int.tdiv 3193052135805681664 (max (Int.tdiv (cS N) 32768) 1)) 1000) := (by simp [cntH, hb, hn] : cntH P N = Int.tdiv (Int.tdiv 3193052135805681664 (max (Int.tdiv (cS N) 32768) 1)) 1000)
      have HL := hide hall
      clear hall hb0 h0
      go_enter Try.func17, Try.ntmps17
      go_wp2_with fail
      refine (c_i_HllRight hp hn lp ln (nums_past HP.out (HW.out _)) (nums_past HN.out (HW.out _))).mono ?_
      rintro e w1 ⟨rfl, hb1⟩
      rw [hb]
      have HT1 := hide (chain (HW.out _) hb1)
      have K1 := hl_past (hl_new w _ _ _) hb1
      clear hb1 hb hp hn
      go_wp2
      go_loopw [3, 19] (fun q i wr => Below w.heap.size w wr ∧ ∃ (k : Nat) (x : Int), k ≤ 64 ∧ i = .int .i64 k ∧ q = .int .i64 x ∧ 0 ≤ x ∧ x ≤ 2305843009213693952 ∧ Hid (x + cS (N.drop k) = cS N)) (fun q i wr => 64 - (intOf i).toNat)
      case atStart => exact ⟨HT1.out, 0, 0, Nat.zero_le _, rfl, rfl, Int.le_refl _, by omega, (by rw [List.drop_zero, Int.zero_add] : 0 + cS (N.drop 0) = cS N)⟩
      case round =>
        obtain ⟨hbel, k, x, hk, rfl, rfl, hx0, hx1, HR⟩ := hrel
        have HB := hide hbel
        by_cases hkn : k < 64
        · obtain ⟨u, hRk⟩ : ∃ a, N[k]? = some a := ⟨N[k]'(by have := EN.out; omega), List.getElem?_eq_getElem _⟩
          obtain ⟨b, off, rfl, hcell⟩ := HN.out (by have := EN.out; omega)
          have hc0 := cell_past hbel (hcell k _ hRk)
          obtain ⟨e1, e2, e3, e4, e5, e6, e7⟩ := cS_step HL.out EN.out hRk HR.out hx0
          have HS := hide e1
          clear hbel hcell hRk HR e1
          go_wp2
          go_roundw
          case rel => exact ⟨HB.out, k + 1, _, by omega, by go_num, rfl, e2, e3, HS⟩
          case measure => simp [intOf]; omega
        · have hx : x = cS N := by
            have := HR.out
            rw [List.drop_eq_nil_of_le (by have := EN.out; omega)] at this
            simpa [cS] using this
          obtain ⟨t, ht⟩ : ∃ t, Int.tdiv x 32768 = t := ⟨_, rfl⟩
          have ht0 : 0 ≤ t := by rw [← ht]; exact Int.tdiv_nonneg hx0 (by omega)
          have ht1 : t ≤ 2305843009213693952 := by rw [← ht]; exact Int.le_trans (Int.tdiv_le_self _ hx0) hx1
          have HE2 : Hid (Int.tdiv (Int.tdiv 3193052135805681664 (max t 1)) 1000 = cntH P N) := (by rw [HE.out, ← hx, ht] : Int.tdiv (Int.tdiv 3193052135805681664 (max t 1)) 1000 = cntH P N)
          clear hbel HR hx HE
          by_cases h1 : t < 1
          · obtain rfl : t = 0 := by omega
            go_wp2
            go_ret
            exact ⟨ret_n ((by decide : (3193052135805681 : Int) = _).trans HE2.out), HB.out⟩
          · go_wp2
            go_ret
            exact ⟨ret_n ((cnt_one (by omega)).trans HE2.out), HB.out⟩

theorem c_s_l01Max (a b : Int) (w : World) :
    Calls Try.prog 42 #[.int .i64 a, .int .i64 b] w fun e w' => e = .returned (.int .i64 (max a b)) ∧ w' = w := by
  by_cases h : b < a
  · have HE : Hid (a = max a b) := (by omega : a = max a b)
    go_enter Try.func42, Try.ntmps42
    go_wp2
    go_ret
    exact ⟨ret_n HE.out, rfl⟩
  · have HE : Hid (b = max a b) := (by omega : b = max a b)
    go_enter Try.func42, Try.ntmps42
    go_wp2
    go_ret
    exact ⟨ret_n HE.out, rfl⟩

set_option maxHeartbeats 1000000 in
theorem c_s_HllCount {w : World} {pa na : Option Addr} {pn pc nn nc : Nat} {P N : List Int} (hp : P.length = pn) (hn : N.length = nn) (lp : pn ≤ 1048576) (ln : nn ≤ 1048576) (hP : NumsAt .u64 w pa P) (hN : NumsAt .i64 w na N) (kN : ∀ x ∈ N, I64 x) :
    Calls Try.prog 18 #[.agg #[.slice pa pn pc, .slice na nn nc]] w fun e w' => e = .returned (.int .i64 (cntH P N)) ∧ Below w.heap.size w w' := by
  have HP := hide hP
  have HN := hide hN
  have EP := hide hp
  have EN := hide hn
  have KN := hide kN
  have hW : ∀ o1, Below w.heap.size w (w.alloc o1) := fun o1 => (Below.refl _ _).alloc (Nat.le_refl _) _
  have HW := hide hW
  clear hP hN hW kN
  cases hb : hlB P N with
  | false =>
    have HE : Hid (0 = cntH P N) := (by simp [cntH, hb] : 0 = cntH P N)
    go_enter Try.func18, Try.ntmps18
    go_wp2_with fail
    refine (c_s_HllRight hp hn lp ln (nums_past HP.out (HW.out _)) (nums_past HN.out (HW.out _)) KN.out).mono ?_
    rintro e w1 ⟨rfl, hb1⟩
    rw [hb]
    have HT1 := hide (chain (HW.out _) hb1)
    clear hb1
    go_wp2
    go_ret
    exact ⟨ret_n HE.out, HT1.out⟩
  | true =>
    by_cases h0 : nn = 0
    · subst h0
      have HE : Hid ((pn : Int) = cntH P N) := (by simp [cntH, hb, hp, hn] : (pn : Int) = cntH P N)
      go_enter Try.func18, Try.ntmps18
      go_wp2_with fail
      refine (c_s_HllRight hp hn lp ln (nums_past HP.out (HW.out _)) (nums_past HN.out (HW.out _)) KN.out).mono ?_
      rintro e w1 ⟨rfl, hb1⟩
      rw [hb]
      have HT1 := hide (chain (HW.out _) hb1)
      have K1 := hl_past (hl_new w _ _ _) hb1
      clear hb1
      go_wp2
      go_ret
      exact ⟨ret_n HE.out, HT1.out⟩
    · have hb0 : ((nn : Int) == 0) = false := beq_eq_false_iff_ne.2 (by omega)
      have h64 : nn = 64 ∧ N.all inR = true := by simp [hlB, hn, h0, regB] at hb; exact ⟨hb.2.1, by simpa using hb.2.2⟩
      obtain ⟨rfl, hall⟩ := h64
      have HE : Hid (cntH P N = Int.tdiv (Int.tdiv 3193052135805681664 (max (Int.tdiv (cS N) 32768) 1)) 1000) := (by simp [cntH, hb, hn] : cntH P N = Int.tdiv (Int.tdiv 3193052135805681664 (max (Int.tdiv (cS N) 32768) 1)) 1000)
      have HL := hide hall
      clear hall hb0 h0
      go_enter Try.func18, Try.ntmps18
      go_wp2_with fail
      refine (c_s_HllRight hp hn lp ln (nums_past HP.out (HW.out _)) (nums_past HN.out (HW.out _)) KN.out).mono ?_
      rintro e w1 ⟨rfl, hb1⟩
      rw [hb]
      have HT1 := hide (chain (HW.out _) hb1)
      have K1 := hl_past (hl_new w _ _ _) hb1
      clear hb1 hb hp hn
      go_wp2
      go_loopw [3, 4] (fun q i wr => Below w.heap.size w wr ∧ HlCell wr w.heap.size (.slice pa pn pc) (.slice na 64 nc) ∧ ∃ (k : Nat) (x : Int), k ≤ 64 ∧ i = .int .i64 k ∧ q = .int .i64 x ∧ 0 ≤ x ∧ x ≤ 2305843009213693952 ∧ Hid (x + cS (N.drop k) = cS N)) (fun q i wr => 64 - (intOf i).toNat)
      case atStart => exact ⟨HT1.out, K1, 0, 0, Nat.zero_le _, rfl, rfl, Int.le_refl _, by omega, (by rw [List.drop_zero, Int.zero_add] : 0 + cS (N.drop 0) = cS N)⟩
      case round =>
        clear K1
        obtain ⟨hbel, hK, k, x, hk, rfl, rfl, hx0, hx1, HR⟩ := hrel
        have HB := hide hbel
        have HK := hide hK
        by_cases hkn : k < 64
        · obtain ⟨u, hRk⟩ : ∃ a, N[k]? = some a := ⟨N[k]'(by have := EN.out; omega), List.getElem?_eq_getElem _⟩
          obtain ⟨b, off, rfl, hcell⟩ := HN.out (by have := EN.out; omega)
          have hc0 := cell_past hbel (hcell k _ hRk)
          obtain ⟨e1, e2, e3, e4, e5, e6, e7⟩ := cS_step HL.out EN.out hRk HR.out hx0
          have HS := hide e1
          clear hbel hcell hRk HR e1
          go_wp2
          go_roundw
          case rel => exact ⟨HB.out, HK.out, k + 1, _, by omega, by go_num, rfl, e2, e3, HS⟩
          case measure => simp [intOf]; omega
        · have hx : x = cS N := by
            have := HR.out
            rw [List.drop_eq_nil_of_le (by have := EN.out; omega)] at this
            simpa [cS] using this
          obtain ⟨t, ht⟩ : ∃ t, Int.tdiv x 32768 = t := ⟨_, rfl⟩
          have ht0 : 0 ≤ t := by rw [← ht]; exact Int.tdiv_nonneg hx0 (by omega)
          have ht1 : t ≤ 2305843009213693952 := by rw [← ht]; exact Int.le_trans (Int.tdiv_le_self _ hx0) hx1
          have HE2 : Hid (Int.tdiv (Int.tdiv 3193052135805681664 (max t 1)) 1000 = cntH P N) := (by rw [HE.out, ← hx, ht] : Int.tdiv (Int.tdiv 3193052135805681664 (max t 1)) 1000 = cntH P N)
          clear hbel HR hx HE
          by_cases h1 : t < 1
          · obtain rfl : t = 0 := by omega
            go_wp2_with (go_at_call 42; refine (c_s_l01Max _ _ _).mono ?_; rintro e w2 ⟨rfl, rfl⟩)
            go_ret
            exact ⟨ret_n ((by rw [show max (1 : Int) 0 = 1 by omega, show max (0 : Int) 1 = max 1 1 by omega]; exact cnt_one (by omega) : wrap64 (((3193052135805681664 : Int) / max 1 0).tdiv 1000) = (Int.tdiv 3193052135805681664 (max 0 1)).tdiv 1000).trans HE2.out), HB.out⟩
          · have hm : max 1 t = t := by omega
            go_wp2_with (go_at_call 42; refine (c_s_l01Max _ _ _).mono ?_; rintro e w2 ⟨rfl, rfl⟩; rw [hm])
            go_ret
            exact ⟨ret_n ((cnt_one (by omega)).trans HE2.out), HB.out⟩
end Go.Proofs.Ytljhjcmodaaaoaa
