/-
  The contract of impl.readValue: the value whose text it is, or the fault.
-/
import Derived.Test.YtnflhahnbdnaoaaGreatDoorLG
import Derived.Outline
namespace Go.Proofs.YtnflhahnbdnaoaaGreatDoor
set_option linter.unusedVariables false
set_option linter.unusedSimpArgs false
open Go.ChangeShapes Go.WideShapes Go.ChangeAt Go.RowKit Go.PlainAid

theorem c_isDigitR (c : Int) (w : World) :
    Calls Tryz.prog 102 #[.int .u8 c] w fun e w' => e = .returned (.bool (isDig c)) ∧ w' = w := by
  by_cases h1 : 48 ≤ c <;> by_cases h2 : c ≤ 57 <;> (go_enter Tryz.func102, Tryz.ntmps102; go_wp2; go_ret; exact ⟨by simp [isDig, h1, h2], rfl⟩)
theorem ret_boolR {a b : Bool} (h : a = b) : Ending.returned (.bool a) = .returned (.bool b) := by rw [h]
theorem c_digitAt (s : ByteArray) (n : Nat) (hs : s.size ≤ maxLen) (hn : n ≤ maxLen) (w : World) :
    Calls Tryz.prog 108 #[.string s, .int .i64 n] w fun e w' => e = .returned (.bool (isDig (bt s n))) ∧ w' = w := by
  unfold maxLen at hs hn
  have hbt := get_bt s
  by_cases h : n < s.size
  · have h' : (n : Int) < (s.size : Int) := by omega
    go_enter Tryz.func108, Tryz.ntmps108
    go_wp2_with (go_at_call 102; refine (c_isDigitR _ _).mono ?_; rintro e w1 ⟨rfl, hw⟩; obtain rfl := hw.symm)
    go_ret
    exact ⟨rfl, rfl⟩
  · have h' : ¬ (n : Int) < (s.size : Int) := by omega
    have HE : Hid (isDig (bt s n) = false) := (by rw [bt_end s (by omega)]; rfl : isDig (bt s n) = false)
    go_enter Tryz.func108, Tryz.ntmps108
    go_wp2
    go_ret
    exact ⟨ret_boolR HE.out.symm, rfl⟩
theorem c_digitAtI (s : ByteArray) (z : Int) (hs : s.size ≤ maxLen) (h0 : 0 ≤ z) (h1 : z ≤ 100000) (w : World) :
    Calls Tryz.prog 108 #[.string s, .int .i64 z] w fun e w' => e = .returned (.bool (isDig (bt s z.toNat))) ∧ w' = w := by
  have := c_digitAt s z.toNat hs (by unfold maxLen; omega) w
  rwa [Int.toNat_of_nonneg h0] at this
theorem c_HasPrefixS (s : ByteArray) (hs : s.size ≤ maxLen) (w : World) :
    Calls Tryz.prog 107 #[.string s, .string ⟨#[45]⟩] w fun e w' => e = .returned (.bool (negB s)) ∧ w' = w := by
  go_enter Tryz.func107, Tryz.ntmps107
  go_wp2_with (go_at_call 135; refine (c_HasPrefix _ hs _).mono ?_; rintro e w1 ⟨rfl, hw⟩; obtain rfl := hw.symm)
  go_ret
  exact ⟨rfl, rfl⟩

/-- Where the value's text begins behind its sign. -/
def fst1 (s : ByteArray) : Nat := if negB s = true then 1 else 0

theorem c_readValue_size (s : ByteArray) (hs : s.size ≤ maxLen) (h : fitB s = false) (w : World) :
    Calls Tryz.prog 84 #[.string s] w fun e w' => e = .returned (.tuple #[.int .i64 0, .iface 82 (.agg #[.int .i64 2])]) ∧ w' = w := by
  go_enter Tryz.func84, Tryz.ntmps84
  go_wp2
  refine wp_scope_many (fun _ _ _ => False) (fun _ _ _ => 0) ?_ (fun _ _ _ h => h.elim)
  go_wp2_with (go_at_call 58; refine (c_textFits _ hs _).mono ?_; rintro e w1 ⟨rfl, hw⟩; obtain rfl := hw.symm)
  simp only [jumpsM]
  go_ret2
  exact ⟨rfl, rfl⟩

/-- What stands in the frame at a jump. -/
def fr (s : ByteArray) (a : Act) (v at_ f pl : Int) : Prop := ∃ u : Nat → Value, a = { tmps := #[.string s, undef, .int .i64 0, .nilIface, .int .i64 v, .int .i64 at_, .int .i64 f, .int .i64 pl, u 8, u 9, u 10, u 11, u 12, u 13, u 14, u 15, u 16, u 17, u 18, u 19, u 20, u 21, u 22, u 23, u 24, u 25, u 26, u 27, u 28, u 29, u 30, u 31, u 32, u 33, u 34, u 35, u 36, u 37, u 38, u 39, u 40, u 41, u 42, u 43, u 44, u 45, u 46, u 47, u 48, u 49, u 50, u 51, u 52, u 53, u 54, u 55, u 56, u 57, u 58, u 59, u 60, u 61, u 62, u 63, u 64, u 65, u 66, u 67, u 68, u 69, u 70, u 71, u 72, u 73, u 74, u 75, u 76, u 77, u 78, u 79, u 80, u 81, u 82, u 83, u 84, u 85, u 86, u 87, u 88, u 89, u 90, u 91, u 92, u 93, u 94, u 95, u 96, u 97], defers := [] }
theorem fr_of {s : ByteArray} {a : Act} {v at_ f pl : Int} (h : a = { tmps := #[.string s, undef, .int .i64 0, .nilIface, .int .i64 v, .int .i64 at_, .int .i64 f, .int .i64 pl, a.tmps.getD 8 undef, a.tmps.getD 9 undef, a.tmps.getD 10 undef, a.tmps.getD 11 undef, a.tmps.getD 12 undef, a.tmps.getD 13 undef, a.tmps.getD 14 undef, a.tmps.getD 15 undef, a.tmps.getD 16 undef, a.tmps.getD 17 undef, a.tmps.getD 18 undef, a.tmps.getD 19 undef, a.tmps.getD 20 undef, a.tmps.getD 21 undef, a.tmps.getD 22 undef, a.tmps.getD 23 undef, a.tmps.getD 24 undef, a.tmps.getD 25 undef, a.tmps.getD 26 undef, a.tmps.getD 27 undef, a.tmps.getD 28 undef, a.tmps.getD 29 undef, a.tmps.getD 30 undef, a.tmps.getD 31 undef, a.tmps.getD 32 undef, a.tmps.getD 33 undef, a.tmps.getD 34 undef, a.tmps.getD 35 undef, a.tmps.getD 36 undef, a.tmps.getD 37 undef, a.tmps.getD 38 undef, a.tmps.getD 39 undef, a.tmps.getD 40 undef, a.tmps.getD 41 undef, a.tmps.getD 42 undef, a.tmps.getD 43 undef, a.tmps.getD 44 undef, a.tmps.getD 45 undef, a.tmps.getD 46 undef, a.tmps.getD 47 undef, a.tmps.getD 48 undef, a.tmps.getD 49 undef, a.tmps.getD 50 undef, a.tmps.getD 51 undef, a.tmps.getD 52 undef, a.tmps.getD 53 undef, a.tmps.getD 54 undef, a.tmps.getD 55 undef, a.tmps.getD 56 undef, a.tmps.getD 57 undef, a.tmps.getD 58 undef, a.tmps.getD 59 undef, a.tmps.getD 60 undef, a.tmps.getD 61 undef, a.tmps.getD 62 undef, a.tmps.getD 63 undef, a.tmps.getD 64 undef, a.tmps.getD 65 undef, a.tmps.getD 66 undef, a.tmps.getD 67 undef, a.tmps.getD 68 undef, a.tmps.getD 69 undef, a.tmps.getD 70 undef, a.tmps.getD 71 undef, a.tmps.getD 72 undef, a.tmps.getD 73 undef, a.tmps.getD 74 undef, a.tmps.getD 75 undef, a.tmps.getD 76 undef, a.tmps.getD 77 undef, a.tmps.getD 78 undef, a.tmps.getD 79 undef, a.tmps.getD 80 undef, a.tmps.getD 81 undef, a.tmps.getD 82 undef, a.tmps.getD 83 undef, a.tmps.getD 84 undef, a.tmps.getD 85 undef, a.tmps.getD 86 undef, a.tmps.getD 87 undef, a.tmps.getD 88 undef, a.tmps.getD 89 undef, a.tmps.getD 90 undef, a.tmps.getD 91 undef, a.tmps.getD 92 undef, a.tmps.getD 93 undef, a.tmps.getD 94 undef, a.tmps.getD 95 undef, a.tmps.getD 96 undef, a.tmps.getD 97 undef], defers := [] }) : fr s a v at_ f pl := ⟨fun i => a.tmps.getD i undef, h⟩
theorem fr_eq {s : ByteArray} {a : Act} {v v' x x' f f' pl pl' : Int} (h : fr s a v x f pl) (e1 : v = v') (e2 : x = x') (e3 : f = f') (e4 : pl = pl') : fr s a v' x' f' pl' := by subst e1 e2 e3 e4; exact h
/-- What holds at a jump to each label. -/
def JV (s : ByteArray) (w0 : World) : Nat → Act → World → Prop
  | 0, a, w => w = w0 ∧ fr s a 0 0 0 0
  | 1, a, w => w = w0 ∧ ∃ k : Nat, 1 ≤ k ∧ k ≤ 12 ∧ dig s (fst1 s) k ∧ fr s a (valD s (fst1 s) k) ((fst1 s : Int) + (k : Int)) (fst1 s : Int) 0
  | 2, a, w => w = w0 ∧ (∀ V, ¬ Parse s (fst1 s) V) ∧ ∃ v at_ f pl, fr s a v at_ f pl
  | 3, a, w => w = w0 ∧ ∃ (v V : Int) (p : Nat) (at_ : Int), Parse s (fst1 s) V ∧ Scal v p V ∧ fr s a v at_ (fst1 s : Int) (p : Int)
  | 4, a, w => w = w0 ∧ ∃ k p : Nat, Whole s (fst1 s) k ∧ bt s (fst1 s + k) = 46 ∧ 1 ≤ p ∧ p ≤ 6 ∧ dig s (fst1 s + k + 1) p ∧ fr s a (valP s (fst1 s) k p) ((fst1 s : Int) + (k : Int) + 1 + (p : Int)) (fst1 s : Int) (p : Int)
  | _, _, _ => False
/-- Nothing is a text's value. -/
theorem no_parse0 {s : ByteArray} {F : Nat} (h : isDig (bt s F) = false) : ∀ V, ¬ Parse s F V := fun V hp => by
  have := (parse_k (k0 := 0) (fun j hj => absurd hj (by omega)) (.inr h) hp).1.1
  omega
theorem no_parse48 {s : ByteArray} {F k : Nat} (hd : dig s F k) (hs : k = 12 ∨ isDig (bt s (F + k)) = false) (h1 : 1 < k) (h48 : bt s F = 48) : ∀ V, ¬ Parse s F V := fun V hp => (parse_k hd hs hp).1.2.2.2 ⟨h1, h48⟩
theorem no_parse46 {s : ByteArray} {F k : Nat} (hd : dig s F k) (hs : k = 12 ∨ isDig (bt s (F + k)) = false) (hl : F + k < s.size) (h46 : ¬ bt s (F + k) = 46) : ∀ V, ¬ Parse s F V := fun V hp => by
  rcases (parse_k hd hs hp).2 with ⟨e, _⟩ | ⟨p, _, _, _, e, _⟩
  · omega
  · exact h46 e
theorem no_parseP {s : ByteArray} {F k p : Nat} (hd : dig s F k) (hn : isDig (bt s (F + k)) = false) (hl : F + k + 1 + p < s.size ∨ (p = 0 ∧ F + k < s.size)) (hp : dig s (F + k + 1) p) (hs : p = 6 ∨ isDig (bt s (F + k + 1 + p)) = false) : ∀ V, ¬ Parse s F V := fun V hq => by
  rcases (parse_k hd (.inr hn) hq).2 with ⟨e, _⟩ | ⟨q, q1, q2, e, _, hdq, _⟩
  · omega
  · rcases hs with e6 | e6
    · omega
    · exact absurd (hdq p (by omega)) (isDig_f e6)
def slotI (a : Act) (i : Nat) : Int := Go.RowKit.intOf (a.tmps.getD i undef)
def μV : Nat → Act → World → Nat
  | 0, _, _ => 1000
  | 1, a, _ => 500 + (13 - (slotI a 5 - slotI a 6).toNat)
  | 4, a, _ => 100 + (7 - (slotI a 7).toNat)
  | 3, a, _ => 50 + (7 - (slotI a 7).toNat)
  | _, _, _ => 0

theorem mu1 (a a' : Act) (w w' : World) : μV 2 a w < μV (0 + 1) a' w' := by show 0 < 500 + _; omega
theorem mu4 (a a' : Act) (w w' : World) : μV 2 a w < μV (0 + 1 + 1 + 1 + 1) a' w' := by show 0 < 100 + _; omega
theorem mu13 (a a' : Act) (w w' : World) : μV 3 a w < μV (0 + 1) a' w' := by show 50 + (7 - _) < 500 + _; omega
theorem mu14 (a a' : Act) (w w' : World) : μV 4 a w < μV (0 + 1) a' w' := by show 100 + (7 - _) < 500 + _; omega
theorem mu43 (a a' : Act) (w w' : World) : μV 3 a w < μV (0 + 1 + 1 + 1 + 1) a' w' := by show 50 + (7 - _) < 100 + _; omega
set_option maxRecDepth 100000 in
set_option maxHeartbeats 8000000 in
theorem c_readValue (s : ByteArray) (hs : s.size ≤ maxLen) (h : fitB s = true) (w : World) :
    Calls Tryz.prog 84 #[.string s] w fun e w' => ((∃ V, Parse s (fst1 s) V ∧ e = .returned (.tuple #[.int .i64 (if negB s = true then -V else V), .nilIface])) ∨ ((∀ V, ¬ Parse s (fst1 s) V) ∧ e = .returned (.tuple #[.int .i64 0, .iface 82 (.agg #[.int .i64 3])]))) ∧ w' = w := by
  have hz : s.size ≤ 20000 := by unfold fitB at h; exact of_decide_eq_true h
  have hbt := get_bt s
  go_enter Tryz.func84, Tryz.ntmps84
  go_wp2
  refine wp_scope_many (JV s w) μV ?_ ?_
  · go_wp2_with (go_at_call 58; refine (c_textFits _ hs _).mono ?_; rintro e w1 ⟨rfl, hw⟩; obtain rfl := hw.symm)
    go_step3
    exact ⟨rfl, fr_of rfl⟩
  · intro l a w' hJ
    rcases l with _ | _ | _ | _ | _ | l
    · obtain ⟨rfl, u, rfl⟩ := hJ
      refine ⟨_, rfl, ?_⟩
      cases hn : negB s
      · have HF : Hid (fst1 s = 0) := (by unfold fst1; rw [hn]; rfl : fst1 s = 0)
        have HD : Hid (∀ w, Calls Tryz.prog 108 #[.string s, .int .i64 0] w fun e w' => e = .returned (.bool (isDig (bt s 0))) ∧ w' = w) := fun w => c_digitAt s 0 hs (by decide) w
        have hpre := fun w => c_HasPrefixS s hs w
        rw [hn] at hpre
        have HP : Hid (∀ w, Calls Tryz.prog 107 #[.string s, .string ⟨#[45]⟩] w fun e w' => e = .returned (.bool false) ∧ w' = w) := hpre
        clear hpre
        cases hd : isDig (bt s 0)
        · have HN : Hid (∀ V, ¬ Parse s (fst1 s) V) := (by rw [HF.out]; exact no_parse0 hd : ∀ V, ¬ Parse s (fst1 s) V)
          go_wp2_with (go_at_call 107; refine (HP.out _).mono ?_; rintro e w1 ⟨rfl, hw⟩; obtain rfl := hw.symm)
          go_step3
          go_wp2_with (go_at_call 108; refine (HD.out _).mono ?_; rintro e w1 ⟨rfl, hw⟩; obtain rfl := hw.symm)
          go_step3
          exact ⟨⟨rfl, HN.out, _, _, _, _, fr_of rfl⟩, by simp [μV]⟩
        · have hd2 := isDig_t hd
          have hlt : 0 < s.size := by
            rcases Nat.lt_or_ge 0 s.size with k | k
            · exact k
            · rw [bt_end s k] at hd2; omega
          have hli : (0 : Int) < (s.size : Int) := by omega
          have g1 := hd2.1
          have g2 := hd2.2
          have HV : Hid (bt s 0 - 48 = valD s (fst1 s) 1) := (by rw [HF.out]; show _ = valD s 0 0 * 10 + (bt s (0 + 0) - 48); unfold valD; simp : bt s 0 - 48 = valD s (fst1 s) 1)
          have HG : Hid (dig s (fst1 s) 1) := (by rw [HF.out]; exact dig_succ (n := 0) (fun j hj => absurd hj (by omega)) hd : dig s (fst1 s) 1)
          go_wp2_with (go_at_call 107; refine (HP.out _).mono ?_; rintro e w1 ⟨rfl, hw⟩; obtain rfl := hw.symm)
          go_step3
          go_wp2_with (go_at_call 108; refine (HD.out _).mono ?_; rintro e w1 ⟨rfl, hw⟩; obtain rfl := hw.symm)
          go_step3
          exact ⟨⟨rfl, 1, by omega, by omega, HG.out, fr_eq (fr_of rfl) HV.out (by rw [HF.out]; rfl) (by rw [HF.out]; rfl) rfl⟩, by simp [μV, slotI, Go.RowKit.intOf]⟩
      · have HF : Hid (fst1 s = 1) := (by unfold fst1; rw [hn]; rfl : fst1 s = 1)
        have HD : Hid (∀ w, Calls Tryz.prog 108 #[.string s, .int .i64 1] w fun e w' => e = .returned (.bool (isDig (bt s 1))) ∧ w' = w) := fun w => c_digitAt s 1 hs (by decide) w
        have hpre := fun w => c_HasPrefixS s hs w
        rw [hn] at hpre
        have HP : Hid (∀ w, Calls Tryz.prog 107 #[.string s, .string ⟨#[45]⟩] w fun e w' => e = .returned (.bool true) ∧ w' = w) := hpre
        clear hpre
        cases hd : isDig (bt s 1)
        · have HN : Hid (∀ V, ¬ Parse s (fst1 s) V) := (by rw [HF.out]; exact no_parse0 hd : ∀ V, ¬ Parse s (fst1 s) V)
          go_wp2_with (go_at_call 107; refine (HP.out _).mono ?_; rintro e w1 ⟨rfl, hw⟩; obtain rfl := hw.symm)
          go_step3
          go_wp2_with (go_at_call 108; refine (HD.out _).mono ?_; rintro e w1 ⟨rfl, hw⟩; obtain rfl := hw.symm)
          go_step3
          exact ⟨⟨rfl, HN.out, _, _, _, _, fr_of rfl⟩, by simp [μV]⟩
        · have hd2 := isDig_t hd
          have hlt : 1 < s.size := by
            rcases Nat.lt_or_ge 1 s.size with k | k
            · exact k
            · rw [bt_end s k] at hd2; omega
          have hli : (1 : Int) < (s.size : Int) := by omega
          have g1 := hd2.1
          have g2 := hd2.2
          have HV : Hid (bt s 1 - 48 = valD s (fst1 s) 1) := (by rw [HF.out]; show _ = valD s 1 0 * 10 + (bt s (1 + 0) - 48); unfold valD; simp : bt s 1 - 48 = valD s (fst1 s) 1)
          have HG : Hid (dig s (fst1 s) 1) := (by rw [HF.out]; exact dig_succ (n := 0) (fun j hj => absurd hj (by omega)) hd : dig s (fst1 s) 1)
          go_wp2_with (go_at_call 107; refine (HP.out _).mono ?_; rintro e w1 ⟨rfl, hw⟩; obtain rfl := hw.symm)
          go_step3
          go_wp2_with (go_at_call 108; refine (HD.out _).mono ?_; rintro e w1 ⟨rfl, hw⟩; obtain rfl := hw.symm)
          go_step3
          exact ⟨⟨rfl, 1, by omega, by omega, HG.out, fr_eq (fr_of rfl) HV.out (by rw [HF.out]; rfl) (by rw [HF.out]; rfl) rfl⟩, by simp [μV, slotI, Go.RowKit.intOf]⟩
    · obtain ⟨rfl, k, hk1, hk, hdg, u, rfl⟩ := hJ
      refine ⟨_, rfl, ?_⟩
      have hF : (fst1 s : Int) = 0 ∨ (fst1 s : Int) = 1 := by unfold fst1; split <;> simp
      have hF0 : 0 ≤ (fst1 s : Int) := by omega
      have hF1 : (fst1 s : Int) ≤ 1 := by omega
      have hA0 : 0 ≤ (fst1 s : Int) + (k : Int) := by omega
      have hA1 : (fst1 s : Int) + (k : Int) ≤ 13 := by omega
      have het : ((fst1 s : Int) + (k : Int)).toNat = fst1 s + k := by omega
      have hsb : (fst1 s : Int) + (k : Int) - (fst1 s : Int) = (k : Int) := by omega
      have hv := valD_17 hdg hk
      have HD : Hid (∀ w, Calls Tryz.prog 108 #[.string s, .int .i64 ((fst1 s : Int) + (k : Int))] w fun e w' => e = .returned (.bool (isDig (bt s (fst1 s + k)))) ∧ w' = w) := (by
        intro w
        have := c_digitAt s (fst1 s + k) hs (by unfold maxLen; omega) w
        rwa [show (((fst1 s + k : Nat)) : Int) = (fst1 s : Int) + (k : Int) by omega] at this : ∀ w, Calls Tryz.prog 108 #[.string s, .int .i64 ((fst1 s : Int) + (k : Int))] w fun e w' => e = .returned (.bool (isDig (bt s (fst1 s + k)))) ∧ w' = w)
      have HG : Hid (dig s (fst1 s) k) := hdg
      clear hdg
      by_cases hg : isDig (bt s (fst1 s + k)) = true ∧ k < 12
      · obtain ⟨hd, hk12⟩ := hg
        have hd2 := isDig_t hd
        have hk' : (k : Int) < 12 := by omega
        have hli : (fst1 s : Int) + (k : Int) < (s.size : Int) := by
          rcases Nat.lt_or_ge (fst1 s + k) s.size with q | q
          · omega
          · rw [bt_end s q] at hd2; omega
        have g1 := hd2.1
        have g2 := hd2.2
        have hv' : valD s (fst1 s) k ≤ 99999999999 := by
          have b := (valD_bd k HG.out).2
          have h0 := Nat.pow_le_pow_right (show 0 < 10 by omega) (show k ≤ 11 by omega)
          have h1 : (10 : Int) ^ k ≤ 10 ^ 11 := by exact_mod_cast h0
          have h2 : (10 : Int) ^ 11 = 100000000000 := by decide
          omega
        have HG2 : Hid (dig s (fst1 s) (k + 1)) := dig_succ HG.out hd
        go_wp2_with (go_at_call 108; refine (HD.out _).mono ?_; rintro e w1 ⟨rfl, hw⟩; obtain rfl := hw.symm)
        go_step3
        exact ⟨⟨rfl, k + 1, by omega, by omega, HG2.out, fr_eq (fr_of rfl) rfl (by omega) rfl rfl⟩, by simp [μV, slotI, Go.RowKit.intOf]; omega⟩
      · have HS : Hid (k = 12 ∨ isDig (bt s (fst1 s + k)) = false) := (by
          cases q : isDig (bt s (fst1 s + k))
          · exact .inr rfl
          · exact .inl (by have : ¬ k < 12 := fun h => hg ⟨q, h⟩; omega) : k = 12 ∨ isDig (bt s (fst1 s + k)) = false)
        have hcond : isDig (bt s (fst1 s + k)) = false ∨ (isDig (bt s (fst1 s + k)) = true ∧ ¬ (k : Int) < 12) := by
          cases q : isDig (bt s (fst1 s + k))
          · exact .inl rfl
          · exact .inr ⟨rfl, by have : ¬ k < 12 := fun h => hg ⟨q, h⟩; omega⟩
        clear hg
        have hz1 := dig_size HG.out hk1
        have hne1 : ¬ (fst1 s : Int) + (k : Int) = (fst1 s : Int) := by omega
        have hne2 : ((fst1 s : Int) + (k : Int) == (fst1 s : Int)) = false := beq_eq_false_iff_ne.2 hne1
        clear hne1
        have hFl : (fst1 s : Int) < (s.size : Int) := by omega
        have hFn : fst1 s < s.size := by omega
        rcases hcond with hd | ⟨hd, hk12⟩ <;> (
          by_cases h48 : 1 < k ∧ bt s (fst1 s) = 48
          · have HN : Hid (∀ V, ¬ Parse s (fst1 s) V) := no_parse48 HG.out HS.out h48.1 h48.2
            obtain ⟨q1, q2⟩ := h48
            have q1' : (1 : Int) < (k : Int) := by omega
            have q2' : (bt s (fst1 s) == 48) = true := beq_iff_eq.2 q2
            go_wp2_with (go_at_call 108; refine (HD.out _).mono ?_; rintro e w1 ⟨rfl, hw⟩; obtain rfl := hw.symm)
            go_step3
            exact ⟨⟨rfl, HN.out, _, _, _, _, fr_of rfl⟩, mu1 _ _ _ _⟩
          · have HW : Hid (Whole s (fst1 s) k) := ⟨hk1, hk, HG.out, h48⟩
            have hc2 : ¬ (1 : Int) < (k : Int) ∨ ((1 : Int) < (k : Int) ∧ (bt s (fst1 s) == 48) = false) := by
              rcases Nat.lt_or_ge 1 k with q | q
              · exact .inr ⟨by omega, beq_eq_false_iff_ne.2 fun e => h48 ⟨q, e⟩⟩
              · exact .inl (by omega)
            clear h48
            rcases hc2 with q1 | ⟨q1, q2⟩ <;> first | (exfalso; omega) | (
              by_cases he : fst1 s + k = s.size
              · have he' : ((fst1 s : Int) + (k : Int) == (s.size : Int)) = true := beq_iff_eq.2 (by omega)
                have HP : Hid (Parse s (fst1 s) (valD s (fst1 s) k * 1000000)) := ⟨k, HW.out, .inl ⟨he, rfl⟩⟩
                clear he
                go_wp2_with (go_at_call 108; refine (HD.out _).mono ?_; rintro e w1 ⟨rfl, hw⟩; obtain rfl := hw.symm)
                go_step3
                exact ⟨⟨rfl, valD s (fst1 s) k, valD s (fst1 s) k * 1000000, 0, (fst1 s : Int) + (k : Int), HP.out, ⟨by omega, rfl⟩, fr_eq (fr_of rfl) rfl rfl rfl rfl⟩, mu13 _ _ _ _⟩
              · have hlt : fst1 s + k < s.size := by omega
                have he' : ((fst1 s : Int) + (k : Int) == (s.size : Int)) = false := beq_eq_false_iff_ne.2 (by omega)
                have hlt' : (fst1 s : Int) + (k : Int) < (s.size : Int) := by omega
                clear he
                by_cases h46 : bt s (fst1 s + k) = 46
                · have h46' : (bt s (fst1 s + k) != 46) = false := by rw [h46]; rfl
                  have HQ : Hid (isDig (bt s (fst1 s + k)) = false) := (by rw [h46]; rfl : isDig (bt s (fst1 s + k)) = false)
                  have het1 : ((fst1 s : Int) + (k : Int) + 1).toNat = fst1 s + k + 1 := by omega
                  cases hdp : isDig (bt s (fst1 s + k + 1))
                  · have HN : Hid (∀ V, ¬ Parse s (fst1 s) V) := no_parseP HG.out HQ.out (.inr ⟨rfl, hlt⟩) (fun j hj => absurd hj (by omega)) (.inr hdp)
                    go_wp2_with (go_at_call 108; refine (c_digitAtI s _ hs (by omega) (by omega) _).mono ?_; rintro e w1 ⟨rfl, hw⟩; obtain rfl := hw.symm)
                    go_step3
                    go_wp2_with (go_at_call 108; refine (c_digitAtI s _ hs (by omega) (by omega) _).mono ?_; rintro e w1 ⟨rfl, hw⟩; obtain rfl := hw.symm)
                    go_step3
                    exact ⟨⟨rfl, HN.out, _, _, _, _, fr_of rfl⟩, mu1 _ _ _ _⟩
                  · have hd2 := isDig_t hdp
                    have hli : (fst1 s : Int) + (k : Int) + 1 < (s.size : Int) := by
                      rcases Nat.lt_or_ge (fst1 s + k + 1) s.size with q | q
                      · omega
                      · rw [bt_end s q] at hd2; omega
                    have g1 := hd2.1
                    have g2 := hd2.2
                    have HG2 : Hid (dig s (fst1 s + k + 1) 1) := dig_succ (n := 0) (fun j hj => absurd hj (by omega)) hdp
                    have HV : Hid (valD s (fst1 s) k * 10 + (bt s (fst1 s + k + 1) - 48) = valP s (fst1 s) k 1) := (by
                      have := valP_succ s (fst1 s) k 0
                      rw [← this]; simp [valP, valD] : valD s (fst1 s) k * 10 + (bt s (fst1 s + k + 1) - 48) = valP s (fst1 s) k 1)
                    go_wp2_with (go_at_call 108; refine (c_digitAtI s _ hs (by omega) (by omega) _).mono ?_; rintro e w1 ⟨rfl, hw⟩; obtain rfl := hw.symm)
                    go_step3
                    go_wp2_with (go_at_call 108; refine (c_digitAtI s _ hs (by omega) (by omega) _).mono ?_; rintro e w1 ⟨rfl, hw⟩; obtain rfl := hw.symm)
                    go_step3
                    exact ⟨⟨rfl, k, 1, HW.out, h46, by omega, by omega, HG2.out, fr_eq (fr_of rfl) HV.out rfl rfl rfl⟩, mu14 _ _ _ _⟩
                · have HN : Hid (∀ V, ¬ Parse s (fst1 s) V) := no_parse46 HG.out HS.out hlt h46
                  have h46' : (bt s (fst1 s + k) != 46) = true := by simp [bne, beq_eq_false_iff_ne.2 h46]
                  go_wp2_with (go_at_call 108; refine (HD.out _).mono ?_; rintro e w1 ⟨rfl, hw⟩; obtain rfl := hw.symm)
                  go_step3
                  exact ⟨⟨rfl, HN.out, _, _, _, _, fr_of rfl⟩, mu1 _ _ _ _⟩))
    · obtain ⟨rfl, hN, v, x, f, pl, u, rfl⟩ := hJ
      refine ⟨_, rfl, ?_⟩
      have HN : Hid (∀ V, ¬ Parse s (fst1 s) V) := hN
      clear hN
      go_wp2
      simp only [jumpsM]
      go_ret2
      exact ⟨.inr ⟨HN.out, rfl⟩, rfl⟩
    · obtain ⟨rfl, v, V, p, x, hP, hS, u, rfl⟩ := hJ
      refine ⟨_, rfl, ?_⟩
      have hb := parse_bd hP
      have HP : Hid (Parse s (fst1 s) V) := hP
      have HS : Hid (Scal v p V) := hS
      clear hP hS
      have hp6 := HS.out.1
      rcases Nat.lt_or_ge p 6 with hp | hp
      · have hp' : (p : Int) < 6 := by omega
        have hvb := scal_bd HS.out hp hb
        have hv0 := hvb.1
        have hv1 := hvb.2
        have HS2 : Hid (Scal (v * 10) (p + 1) V) := scal_step HS.out hp
        go_wp2
        go_step3
        exact ⟨⟨rfl, v * 10, V, p + 1, x, HP.out, HS2.out, fr_eq (fr_of rfl) rfl rfl rfl (by omega)⟩, by simp [μV, slotI, Go.RowKit.intOf]; omega⟩
      · have hp' : ¬ (p : Int) < 6 := by omega
        have hvV := scal_end HS.out (by omega)
        subst hvV
        have hv0 := hb.1
        have hv1 := hb.2
        cases hn : negB s
        · have hf : ((fst1 s : Int) == 1) = false := by unfold fst1; rw [hn]; rfl
          have HR : Hid (negB s = false) := hn
          clear hn
          go_wp2
          simp only [jumpsM]
          go_ret2
          exact ⟨.inl ⟨v, HP.out, by rw [HR.out]; rfl⟩, rfl⟩
        · have hf : ((fst1 s : Int) == 1) = true := by unfold fst1; rw [hn]; rfl
          have HR : Hid (negB s = true) := hn
          clear hn
          go_wp2
          simp only [jumpsM]
          go_ret2
          exact ⟨.inl ⟨v, HP.out, by rw [HR.out]; rfl⟩, rfl⟩
    · obtain ⟨rfl, k, p, hW, h46, hp1, hp6, hdp, u, rfl⟩ := hJ
      refine ⟨_, rfl, ?_⟩
      have HW : Hid (Whole s (fst1 s) k) := hW
      clear hW
      have HQ : Hid (isDig (bt s (fst1 s + k)) = false) := (by rw [h46]; rfl : isDig (bt s (fst1 s + k)) = false)
      have H46 : Hid (bt s (fst1 s + k) = 46) := h46
      clear h46
      have hF1 : (fst1 s : Int) ≤ 1 := by unfold fst1; split <;> simp
      have hF0 : 0 ≤ (fst1 s : Int) := by omega
      have hk := HW.out.2.1
      have HG : Hid (dig s (fst1 s) k) := HW.out.2.2.1
      have HGP : Hid (dig s (fst1 s + k + 1) p) := hdp
      clear hdp
      have hz1 := dig_size HGP.out hp1
      have hA0 : 0 ≤ (fst1 s : Int) + (k : Int) + 1 + (p : Int) := by omega
      have hA1 : (fst1 s : Int) + (k : Int) + 1 + (p : Int) ≤ 20 := by omega
      have het : ((fst1 s : Int) + (k : Int) + 1 + (p : Int)).toNat = fst1 s + k + 1 + p := by omega
      have hpe : ((p : Int) == 0) = false := beq_eq_false_iff_ne.2 (by omega)
      by_cases hg : isDig (bt s (fst1 s + k + 1 + p)) = true ∧ p < 6
      · obtain ⟨hd, hp⟩ := hg
        have hd2 := isDig_t hd
        have hp' : (p : Int) < 6 := by omega
        have hli : (fst1 s : Int) + (k : Int) + 1 + (p : Int) < (s.size : Int) := by
          rcases Nat.lt_or_ge (fst1 s + k + 1 + p) s.size with q | q
          · omega
          · rw [bt_end s q] at hd2; omega
        have g1 := hd2.1
        have g2 := hd2.2
        have hvb := valP_bd HG.out hk HGP.out (by omega)
        have hv0 := hvb.1
        have hv1 := hvb.2
        have HG2 : Hid (dig s (fst1 s + k + 1) (p + 1)) := dig_succ HGP.out hd
        have HV : Hid (valP s (fst1 s) k p * 10 + (bt s (fst1 s + k + 1 + p) - 48) = valP s (fst1 s) k (p + 1)) := valP_succ s (fst1 s) k p
        go_wp2_with (go_at_call 108; refine (c_digitAtI s _ hs (by omega) (by omega) _).mono ?_; rintro e w1 ⟨rfl, hw⟩; obtain rfl := hw.symm)
        go_step3
        exact ⟨⟨rfl, k, p + 1, HW.out, H46.out, by omega, by omega, HG2.out, fr_eq (fr_of rfl) HV.out (by omega) rfl (by omega)⟩, by simp [μV, slotI, Go.RowKit.intOf]; omega⟩
      · have HS : Hid (p = 6 ∨ isDig (bt s (fst1 s + k + 1 + p)) = false) := (by
          cases q : isDig (bt s (fst1 s + k + 1 + p))
          · exact .inr rfl
          · exact .inl (by have : ¬ p < 6 := fun h => hg ⟨q, h⟩; omega) : p = 6 ∨ isDig (bt s (fst1 s + k + 1 + p)) = false)
        have hcond : isDig (bt s (fst1 s + k + 1 + p)) = false ∨ (isDig (bt s (fst1 s + k + 1 + p)) = true ∧ ¬ (p : Int) < 6) := by
          cases q : isDig (bt s (fst1 s + k + 1 + p))
          · exact .inl rfl
          · exact .inr ⟨rfl, by have : ¬ p < 6 := fun h => hg ⟨q, h⟩; omega⟩
        clear hg
        rcases hcond with hd | ⟨hd, hp6'⟩ <;> (
          rcases Nat.lt_or_ge (fst1 s + k + 1 + p) s.size with hl | hl
          · have hl' : (fst1 s : Int) + (k : Int) + 1 + (p : Int) < (s.size : Int) := by omega
            have HN : Hid (∀ V, ¬ Parse s (fst1 s) V) := no_parseP HG.out HQ.out (.inl hl) HGP.out HS.out
            go_wp2_with (go_at_call 108; refine (c_digitAtI s _ hs (by omega) (by omega) _).mono ?_; rintro e w1 ⟨rfl, hw⟩; obtain rfl := hw.symm)
            go_step3
            exact ⟨⟨rfl, HN.out, _, _, _, _, fr_of rfl⟩, mu4 _ _ _ _⟩
          · have hl' : ¬ (fst1 s : Int) + (k : Int) + 1 + (p : Int) < (s.size : Int) := by omega
            have HP : Hid (Parse s (fst1 s) (valP s (fst1 s) k p * 10 ^ (6 - p))) := ⟨k, HW.out, .inr ⟨p, hp1, hp6, by omega, H46.out, HGP.out, rfl⟩⟩
            have HSc : Hid (Scal (valP s (fst1 s) k p) p (valP s (fst1 s) k p * 10 ^ (6 - p))) := ⟨hp6, rfl⟩
            have hb := parse_bd HP.out
            rcases Nat.lt_or_ge p 6 with hp | hp
            · first | (exfalso; omega) | (
                have hp' : (p : Int) < 6 := by omega
                have hvb := scal_bd HSc.out hp hb
                have hv0 := hvb.1
                have hv1 := hvb.2
                have HS2 : Hid (Scal (valP s (fst1 s) k p * 10) (p + 1) (valP s (fst1 s) k p * 10 ^ (6 - p))) := scal_step HSc.out hp
                clear hb hvb
                go_wp2_with (go_at_call 108; refine (c_digitAtI s _ hs (by omega) (by omega) _).mono ?_; rintro e w1 ⟨rfl, hw⟩; obtain rfl := hw.symm)
                go_step3
                go_wp2_with (go_at_call 108; refine (c_digitAtI s _ hs (by omega) (by omega) _).mono ?_; rintro e w1 ⟨rfl, hw⟩; obtain rfl := hw.symm)
                go_step3
                exact ⟨⟨rfl, _, _, p + 1, _, HP.out, HS2.out, fr_eq (fr_of rfl) rfl rfl rfl (by omega)⟩, mu43 _ _ _ _⟩)
            · have hp' : ¬ (p : Int) < 6 := by omega
              have hvV := scal_end HSc.out (by omega)
              rw [← hvV] at hb HP
              clear hvV HSc
              have hv0 := hb.1
              have hv1 := hb.2
              clear hb
              cases hn : negB s
              · have hf : ((fst1 s : Int) == 1) = false := by unfold fst1; rw [hn]; rfl
                have HR : Hid (negB s = false) := hn
                clear hn
                go_wp2_with (go_at_call 108; refine (c_digitAtI s _ hs (by omega) (by omega) _).mono ?_; rintro e w1 ⟨rfl, hw⟩; obtain rfl := hw.symm)
                go_step3
                go_wp2_with (go_at_call 108; refine (c_digitAtI s _ hs (by omega) (by omega) _).mono ?_; rintro e w1 ⟨rfl, hw⟩; obtain rfl := hw.symm)
                simp only [jumpsM]
                go_ret2
                exact ⟨.inl ⟨_, HP.out, by rw [HR.out]; rfl⟩, rfl⟩
              · have hf : ((fst1 s : Int) == 1) = true := by unfold fst1; rw [hn]; rfl
                have HR : Hid (negB s = true) := hn
                clear hn
                go_wp2_with (go_at_call 108; refine (c_digitAtI s _ hs (by omega) (by omega) _).mono ?_; rintro e w1 ⟨rfl, hw⟩; obtain rfl := hw.symm)
                go_step3
                go_wp2_with (go_at_call 108; refine (c_digitAtI s _ hs (by omega) (by omega) _).mono ?_; rintro e w1 ⟨rfl, hw⟩; obtain rfl := hw.symm)
                simp only [jumpsM]
                go_ret2
                exact ⟨.inl ⟨_, HP.out, by rw [HR.out]; rfl⟩, rfl⟩)
    · exact hJ.elim
end Go.Proofs.YtnflhahnbdnaoaaGreatDoor

/-
  The contract of codeOf at every error that a reader hands back.
-/
namespace Go.Proofs.YtnflhahnbdnaoaaGreatDoor
set_option linter.unusedVariables false
set_option linter.unusedSimpArgs false
open Go.ChangeShapes Go.WideShapes Go.ChangeAt Go.RowKit Go.PlainAid

/-- What a reader hands back as its error. -/
def errV (c : Int) : Value := if c = 0 then .nilIface else .iface 82 (.agg #[.int .i64 c])

theorem c_codeOf (c : Int) (w : World) (hg : errT w) :
    Calls Tryz.prog 31 #[errV c] w fun e w' => e = .returned (.int .i64 c) ∧ Below w.heap.size w w' := by
  unfold errV
  by_cases h : c = 0
  · rw [if_pos h, h]; exact c_codeOf_nil w
  · rw [if_neg h]; exact c_codeOf_hit c w hg

/-- A cell of another block behind three stores. -/
theorem cell_far3 {w : World} {a : Addr} {v : Value} {G : Nat} {i j k : Nat} {x y z : Value} (h : w.cell? a = some v) (hne : G ≠ a.block) :
    (((w.setCell ⟨G, i, none⟩ x).setCell ⟨G, j, none⟩ y).setCell ⟨G, k, none⟩ z).cell? a = some v := by
  rw [World.cell?_setCell_far _ _ _ _ hne, World.cell?_setCell_far _ _ _ _ hne, World.cell?_setCell_far _ _ _ _ hne]; exact h

end Go.Proofs.YtnflhahnbdnaoaaGreatDoor

/-
  The contract of impl.ValueRead.
-/
namespace Go.Proofs.YtnflhahnbdnaoaaGreatDoor
set_option linter.unusedVariables false
set_option linter.unusedSimpArgs false
open Go.ChangeShapes Go.WideShapes Go.ChangeAt Go.RowKit Go.PlainAid

open Classical in
/-- What is told of a text: the value and the code. -/
noncomputable def rvV (s : ByteArray) : Int := if h : fitB s = true ∧ ∃ V, Parse s (fst1 s) V then (if negB s = true then -(Classical.choose h.2) else Classical.choose h.2) else 0
open Classical in
noncomputable def rvC (s : ByteArray) : Int := if fitB s = true then (if ∃ V, Parse s (fst1 s) V then 0 else 3) else 2

theorem rv_size {s : ByteArray} (h : fitB s = false) : rvV s = 0 ∧ rvC s = 2 := by
  unfold rvV rvC
  rw [dif_neg (by rw [h]; simp), if_neg (by rw [h]; simp)]
  exact ⟨rfl, rfl⟩
theorem rv_bad {s : ByteArray} (h : fitB s = true) (hp : ∀ V, ¬ Parse s (fst1 s) V) : rvV s = 0 ∧ rvC s = 3 := by
  have hn : ¬ ∃ V, Parse s (fst1 s) V := fun ⟨V, hV⟩ => hp V hV
  unfold rvV rvC
  rw [dif_neg (fun k => hn k.2), if_pos h, if_neg hn]
  exact ⟨rfl, rfl⟩
theorem rv_ok {s : ByteArray} {V : Int} (h : fitB s = true) (hp : Parse s (fst1 s) V) : rvV s = (if negB s = true then -V else V) ∧ rvC s = 0 := by
  have hn : ∃ V, Parse s (fst1 s) V := ⟨V, hp⟩
  have e : Classical.choose hn = V := parse_unique (Classical.choose_spec hn) hp
  unfold rvV rvC
  rw [dif_pos ⟨h, hn⟩, if_pos h, if_pos hn, e]
  exact ⟨rfl, rfl⟩

theorem c_readValueAll (s : ByteArray) (hs : s.size ≤ maxLen) (w : World) :
    Calls Tryz.prog 84 #[.string s] w fun e w' => e = .returned (.tuple #[.int .i64 (rvV s), errV (rvC s)]) ∧ w' = w := by
  cases hf : fitB s
  · rw [(rv_size hf).1, (rv_size hf).2]; exact c_readValue_size s hs hf w
  · refine (c_readValue s hs hf w).mono ?_
    rintro e w' ⟨⟨V, hV, rfl⟩ | ⟨hV, rfl⟩, rfl⟩
    · rw [(rv_ok hf hV).1, (rv_ok hf hV).2]; exact ⟨rfl, rfl⟩
    · rw [(rv_bad hf hV).1, (rv_bad hf hV).2]; exact ⟨rfl, rfl⟩

end Go.Proofs.YtnflhahnbdnaoaaGreatDoor
