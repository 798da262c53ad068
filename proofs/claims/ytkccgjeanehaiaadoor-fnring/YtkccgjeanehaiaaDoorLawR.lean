/-
  The walk of FnRing.
-/
import Derived.Test.YtkccgjeanehaiaaDoorRingQ
import Derived.Test.YtkccgjeanehaiaaDoorDrawO
namespace Go.Proofs.YtkccgjeanehaiaaDoor
set_option linter.unusedVariables false
set_option linter.unusedSimpArgs false
open Go.ChangeShapes Go.WideShapes Go.ChangeAt Go.RowKit Go.PlainAid

theorem two_bytes (w : World) (x y : Int) : (convert 22 9 (.slice (some ⟨w.heap.size, 0, none⟩) 2 2)).run Tryd.prog (w.alloc (.cells #[.int .u8 x, .int .u8 y] 5)) = .ok (.string (strOfNums [x, y])) (w.alloc (.cells #[.int .u8 x, .int .u8 y] 5)) :=
  run_convert_bytes_arg (P := Tryd.prog) (w.alloc (.cells #[.int .u8 x, .int .u8 y] 5)) 22 5 Tryd.underlying22 Tryd.underlying5 w.heap.size 0 2 2 [x, y] rfl (fun i hi => by
    have : i = 0 ∨ i = 1 := by omega
    rcases this with rfl | rfl <;> simp) 9 Tryd.underlying9

theorem strs_put {w : World} {B : Nat} {v : Value} {L : List ByteArray} {u : ByteArray} (h : w.ownsRow B 9 1 v (L.length + 1) (L.map Value.string ++ [.string u])) : w.ownsRow B 9 1 v (L ++ [u]).length ((L ++ [u]).map Value.string) := own_sameN h (by simp) (by simp)
theorem ne_list {a b : ByteArray} (h : a ≠ b) : (a.toList == b.toList) = false := by
  cases e : (a.toList == b.toList) with
  | false => rfl
  | true => exact absurd (str_ext e) h
theorem nx_len {L : List ByteArray} {nm : ByteArray} {i : Nat} {nx : List ByteArray} {put : Bool} (h : NX L nm i nx put) : nx.length ≤ i + 1 ∧ (put = false → nx.length ≤ i) := by
  rcases h with ⟨h1, h2, _⟩ | ⟨h1, q, hq, _, ⟨_, h2⟩ | ⟨b, hb, _, h2⟩⟩
  · rw [h2, List.length_take]; exact ⟨by omega, fun _ => by omega⟩
  · rw [h2, List.length_take]; exact ⟨by omega, fun _ => by omega⟩
  · have := (List.getElem?_eq_some_iff.1 hb).1
    refine ⟨?_, fun e => by rw [h1] at e; cases e⟩
    rw [h2, List.length_append, List.length_cons, List.length_drop, List.length_take, List.length_take]
    omega
theorem fin_len {L fin : List ByteArray} {nm : ByteArray} (h : fin = L ∨ ∃ q, fin = insN L q nm ∧ (∀ a ∈ L.take q, strLt a nm = true) ∧ ∀ b ∈ L.drop q, strLt nm b = true) : fin.length ≤ L.length + 1 := by
  rcases h with rfl | ⟨q, rfl, _⟩
  · omega
  · unfold insN; rw [List.length_append, List.length_cons, ← Nat.add_assoc, ← List.length_append, List.take_append_drop]; omega
theorem fin_sz {L fin : List ByteArray} {nm : ByteArray} (h : fin = L ∨ ∃ q, fin = insN L q nm ∧ (∀ a ∈ L.take q, strLt a nm = true) ∧ ∀ b ∈ L.drop q, strLt nm b = true) (hu : ∀ u ∈ L, u.size ≤ 1048576) (hn : nm.size = 2) : ∀ u ∈ fin, u.size ≤ 1048576 := by
  rcases h with rfl | ⟨q, rfl, _⟩
  · exact hu
  · intro u h
    unfold insN at h
    rcases List.mem_append.1 h with h | h
    · exact hu u (List.mem_of_mem_take h)
    · rcases List.mem_cons.1 h with rfl | h
      · omega
      · exact hu u (List.mem_of_mem_drop h)

set_option maxRecDepth 10000 in
set_option maxHeartbeats 4000000 in
theorem walkRing (ao : Option Addr) (ln cap : Nat) (bo : Option Addr) (lm cap2 : Nat) (w : World) (hl : ln ≤ maxLen) (ha : ln ≤ 1048576 → CodeAt w w.heap.size ao ln) (hm : lm ≤ maxLen) (hb : lm ≤ 1048576 → CodeAt w w.heap.size bo lm) (_ : True) :
    Calls Tryd.prog 3 #[.slice ao ln cap, .slice bo lm cap2] w fun e w' => e = .returned (.bool true) ∧ Below w.heap.size w w' := by
  have hlz : ln ≤ 9223372036854775807 := hl
  have hmz : lm ≤ 9223372036854775807 := hm
  by_cases hl1 : 1048576 < ln
  · have hl1i : (1048576 : Int) < (ln : Int) := by omega
    clear ha hb
    go_enter Tryd.func3, Tryd.ntmps3
    go_wp2
    go_ret
    exact ⟨rfl, Below.refl _ _⟩
  have hl1i : decide ((1048576 : Int) < (ln : Int)) = false := decide_eq_false (by omega)
  by_cases hm1 : 1048576 < lm
  · have hm1i : (1048576 : Int) < (lm : Int) := by omega
    clear ha hb
    go_enter Tryd.func3, Tryd.ntmps3
    go_wp2
    go_ret
    exact ⟨rfl, Below.refl _ _⟩
  have hm1i : ¬ (1048576 : Int) < (lm : Int) := by omega
  have HA := hide (ha (by omega))
  have HB := hide (hb (by omega))
  clear ha hb
  go_enter Tryd.func3, Tryd.ntmps3
  go_wp2_with (go_at_call 6; refine (c_DrawOwnerOf _ _ _ _ HA.out).mono ?_; rintro e w1 ⟨lo, lc, key, L, rfl, hL14, hLs, hk8, hSt, hb1⟩)
  have hu : ∀ u ∈ L, u.size ≤ 1048576 := fun u hu => Nat.le_trans (hLs u hu) (by omega)
  have hkm : key.size ≤ maxLen := by unfold maxLen; omega
  have HU := hide hu
  have HS1 := hide hSt
  have T1 := hide hb1
  clear hu hLs hSt hb1
  go_wp2_with (go_at_call 7; refine (c_i_OwnerOf _ _ hkm (by omega) HU.out HS1.out).mono ?_; rintro e w2 ⟨o, rfl, ho, hb2⟩; have HO := hide ho; have HS2 := hide (strs_past HS1.out hb2); have T2 := hide (chain T1.out hb2); clear ho hb2)
  go_wp2_with (go_at_call 8; refine (c_s_OwnerOf _ _ hkm (by omega) HU.out HS2.out).mono ?_; rintro e w3 ⟨o2, rfl, ho2, hb3⟩; obtain rfl := own_one HO.out ho2; have HS3 := hide (strs_past HS2.out hb3); have T3 := hide (chain T2.out hb3); clear ho2 hb3 HS1 HS2)
  have hki : decide ((20000 : Int) < (key.size : Int)) = false := decide_eq_false (by omega)
  cases hL : membersB L
  · have HL := hide hL
    have he : o = ByteArray.empty := by
      rcases HO.out with ⟨_, h, _⟩ | ⟨_, h⟩
      · rw [hL] at h; cases h
      · exact h
    subst he
    have hcM := fun W (h : StrsAt W lo L) => c_s_MembersRight lc (by omega) HU.out h
    have hcI := fun W (h : StrsAt W lo L) => c_i_MembersRight lc (by omega) HU.out h
    rw [hL] at hcM hcI
    clear hL
    go_wp2_with (first
      | (go_at_call 9; refine (hcM _ HS3.out).mono ?_; rintro e w4 ⟨rfl, hb4⟩; have HS4 := hide (strs_past HS3.out hb4); have T4 := hide (chain T3.out hb4); clear hb4)
      | (go_at_call 10; refine (hcI _ HS4.out).mono ?_; rintro e w5 ⟨rfl, hb5⟩; have T5 := hide (chain T4.out hb5); clear hb5))
    go_ret
    exact ⟨rfl, T5.out⟩
  · have HL := hide hL
    have hcM := fun W (h : StrsAt W lo L) => c_s_MembersRight lc (by omega) HU.out h
    have hcR := fun W (h : StrsAt W lo L) => c_i_RingOf lc (by omega) HU.out h
    rw [hL] at hcM
    have hN1 := (memb_len hL).1
    have hN12 := (memb_len hL).2
    clear hL
    go_wp2_with (first
      | (go_at_call 9; refine (hcM _ HS3.out).mono ?_; rintro e w4 ⟨rfl, hb4⟩; have HS4 := hide (strs_past HS3.out hb4); have T4 := hide (chain T3.out hb4); clear hb4)
      | (go_at_call 11; refine (hcR _ HS4.out).mono ?_; rintro e w5 ⟨v, R, rfl, hR, ho5, hb5⟩; have HR : Hid (IsRing L R) := (by rcases hR with ⟨_, h⟩ | ⟨h, _⟩; exact h; rw [HL.out] at h; cases h); have hRl := ring_len HR.out; obtain ⟨rg, rc, ev⟩ := own_form ho5 (by omega); subst ev; have HO5 := hide ho5; have HS5 := hide (strs_past HS4.out hb5); have T5 := hide (chain T4.out hb5); have HRL := hide hRl; clear hb5 hR ho5; obtain ⟨N, hN⟩ : ∃ N, L.length = N := ⟨_, rfl⟩; rw [hN] at hRl HRL hN1 hN12; rw [hRl] at HO5; rw [hRl]; rw [hN]; have HN := hide hN; have hne8 : (8 * (N : Int) != (N : Int) * 8) = false := (by simp; omega); clear hN hcM hcR hRl))
    have HM5 : Hid (∀ (m : Nat) (a : Int) (u : ByteArray), R[m]? = some (a, u) → w5.cell? ⟨rg, m * 2, none⟩ = some (.int .u64 a) ∧ w5.cell? ⟨rg, m * 2 + 1, none⟩ = some (.string u)) := fun m a u h => mark_cells HO5.out HRL.out.symm h
    clear HO5 hne8 hki
    go_loopw [9, 10] (fun bi i wr => ∃ (k q : Nat), k ≤ N ∧ i = .int .i64 k ∧ bi = .bool (inP L o k) ∧ wr = w5.drewN q) (fun bi i wr => N - (intOf i).toNat)
    case atStart => exact ⟨0, 0, Nat.zero_le _, rfl, rfl, rfl⟩
    case round =>
      obtain ⟨k, q, hk, rfl, rfl, rfl⟩ := hrel
      by_cases hkn : k < N
      · obtain ⟨b, off, rfl, hcell⟩ := HS5.out (by have := HN.out; omega)
        obtain ⟨u, hku⟩ : ∃ u, L[k]? = some u := ⟨L[k]'(by have := HN.out; omega), List.getElem?_eq_getElem _⟩
        have hcu := hcell k u hku
        have HKU := hide hku
        have H8 := hide (ring_cnt HL.out HR.out (List.mem_of_getElem? hku))
        clear hcell hku
        go_wp2
        go_loopw [11, 12] (fun n j wr2 => ∃ (m p : Nat), m ≤ 8 * N ∧ j = .int .i64 m ∧ n = .int .i64 (((R.take m).countP (isM u) : Nat) : Int) ∧ wr2 = w5.drewN p) (fun n j wr2 => 8 * N - (intOf j).toNat)
        case atStart => exact ⟨0, q, Nat.zero_le _, rfl, by simp, rfl⟩
        case round =>
          obtain ⟨m, p, hm8, rfl, rfl, rfl⟩ := hrel
          obtain ⟨C, hC⟩ : ∃ C, (R.take m).countP (isM u) = C := ⟨_, rfl⟩
          have hCb : C ≤ 96 := by
            have h1 := List.countP_le_length (p := isM u) (l := R.take m)
            rw [List.length_take, hC] at h1; omega
          rw [hC]
          by_cases hmn : m < 8 * N
          · have hmi : (m : Int) < 8 * (N : Int) := by omega
            obtain ⟨⟨a, mm⟩, hRm⟩ : ∃ x, R[m]? = some x := ⟨R[m]'(by have := HRL.out; omega), List.getElem?_eq_getElem _⟩
            have hc1 := (HM5.out m a mm hRm).2
            have HC := hide (cnt_step u hRm)
            rw [hC] at HC
            clear hRm hC
            cases hmu : (mm.toList == u.toList)
            · have h2 : (R.take (m + 1)).countP (isM u) = C := by have := HC.out; rw [show isM u (a, mm) = false from hmu] at this; simpa using this
              have HC2 := hide h2
              clear h2
              go_wp2
              go_quiet (fail)
              go_wp2
              go_roundw
              case rel => exact ⟨m + 1, _, by omega, by go_num, by rw [HC2.out], (by first | rfl | exact drews_add _ _ _)⟩
              case measure => simp [intOf]; omega
            · have h2 : (R.take (m + 1)).countP (isM u) = C + 1 := by have := HC.out; rw [show isM u (a, mm) = true from hmu] at this; simpa using this
              have HC2 := hide h2
              clear h2
              go_wp2
              go_quiet (fail)
              go_wp2
              go_roundw
              case rel => exact ⟨m + 1, _, by omega, by go_num, by rw [HC2.out]; go_num, (by first | rfl | exact drews_add _ _ _)⟩
              case measure => simp [intOf]; omega
          · have hmi : decide ((m : Int) < 8 * (N : Int)) = false := decide_eq_false (by omega)
            have e : C = 8 := by
              rw [← hC, List.take_of_length_le (by have := HRL.out; omega)]; exact H8.out
            subst e
            clear hC hCb
            cases hin : inP L o k
            · have h2 : inP L o (k + 1) = (u.toList == o.toList) := by have := inP_step (o := o) HKU.out; rw [hin] at this; simpa using this
              have HI := hide h2
              clear h2
              go_wp2
              go_roundw
              case rel => exact ⟨k + 1, p, by omega, by go_num, by rw [HI.out], rfl⟩
              case measure => simp [intOf]; omega
            · have h2 : inP L o (k + 1) = true := by have := inP_step (o := o) HKU.out; rw [hin] at this; simpa using this
              have HI := hide h2
              clear h2
              go_wp2
              go_roundw
              case rel => exact ⟨k + 1, p, by omega, by go_num, by rw [HI.out], rfl⟩
              case measure => simp [intOf]; omega
      · have e : k = N := by omega
        subst e
        have hin : inP L o k = true := by rw [← HN.out]; exact inP_all (own_in HL.out (by omega) HO.out)
        rw [hin]
        clear hin
        go_wp2
        go_loopw [13] (fun j wr => ∃ (m p : Nat), 1 ≤ m ∧ m ≤ 8 * k ∧ j = .int .i64 m ∧ wr = w5.drewN p) (fun j wr => 8 * k - (intOf j).toNat)
        case atStart => exact ⟨1, q, Nat.le_refl _, by omega, rfl, rfl⟩
        case round =>
          obtain ⟨m, p, hm1, hm8, rfl, rfl⟩ := hrel
          by_cases hmn : m < 8 * k
          · have hmi : (m : Int) < 8 * (k : Int) := by omega
            obtain ⟨j, hj1⟩ : ∃ j, j + 1 = m := ⟨m - 1, by omega⟩
            obtain ⟨⟨a, u⟩, hRj⟩ : ∃ x, R[j]? = some x := ⟨R[j]'(by have := HRL.out; omega), List.getElem?_eq_getElem _⟩
            obtain ⟨⟨b, v⟩, hRm⟩ : ∃ x, R[m]? = some x := ⟨R[m]'(by have := HRL.out; omega), List.getElem?_eq_getElem _⟩
            have hc0 := (HM5.out j a u hRj).1
            have hc1 := (HM5.out m b v hRm).1
            have hle : a ≤ b := by
              have h := List.pairwise_iff_getElem.1 HR.out.2 j m (by have := HRL.out; omega) (by have := HRL.out; omega) (by omega)
              rw [(List.getElem?_eq_some_iff.1 hRj).2, (List.getElem?_eq_some_iff.1 hRm).2] at h
              rcases h with h | ⟨h, _⟩
              · exact Int.le_of_lt h
              · exact Int.le_of_eq h
            have hld : decide (b < a) = false := decide_eq_false (by omega)
            have ek : ((m : Int) - 1) = (j : Int) := by omega
            have ew : IntKind.i64.wrap (j : Int) = j := IntWalk.i64_in _ ⟨by omega, by omega⟩
            have hjM : (j : Int) < 8 * (k : Int) := by omega
            clear hj1 hRj hRm
            go_wp2
            go_quiet (fail)
            go_wp2
            go_roundw
            case rel => exact ⟨m + 1, _, by omega, by omega, by go_num, (by first | rfl | exact drews_add _ _ _)⟩
            case measure => simp [intOf]; omega
          · have hmi : decide ((m : Int) < 8 * (k : Int)) = false := decide_eq_false (by omega)
            by_cases hk12 : 12 ≤ k
            · have hki : (12 : Int) ≤ (k : Int) := by omega
              go_wp2
              go_ret
              exact ⟨rfl, bel_drews T5.out _⟩
            · have hki : decide ((12 : Int) ≤ (k : Int)) = false := decide_eq_false (by omega)
              obtain ⟨i0, hi, hz0, hz1, hz2⟩ := info_parts infoStr
              have hge := op_geq 9
              obtain ⟨w6, hw6⟩ : ∃ w6, w5.drewN p = w6 := ⟨_, rfl⟩
              have T6 : Hid (Below w.heap.size w w6) := by rw [← hw6]; exact bel_drews T5.out _
              have HS6 : Hid (StrsAt w6 lo L) := by rw [← hw6]; exact HS5.out
              rw [hw6]
              clear hw6 hmi
              go_wp2_with fail
              refine (c_lwAt bo lm cap2 0 (by omega) w6 w HB.out T6.out).mono ?_
              rintro e w7 ⟨x, rfl, hx, hw7⟩
              obtain rfl := hw7.symm
              have ewx : IntKind.u8.wrap (97 + (x : Int)) = 97 + (x : Int) := IntWalk.u8_in _ ⟨by omega, by omega⟩
              go_wp2_with fail
              refine (c_lwAt bo lm cap2 1 (by omega) w6 w HB.out T6.out).mono ?_
              rintro e w7 ⟨y, rfl, hy, hw7⟩
              obtain rfl := hw7.symm
              have ewy : IntKind.u8.wrap (97 + (y : Int)) = 97 + (y : Int) := IntWalk.u8_in _ ⟨by omega, by omega⟩
              obtain ⟨nm, hnm⟩ : ∃ nm, strOfNums [97 + (x : Int), 97 + (y : Int)] = nm := ⟨_, rfl⟩
              have kc2 := two_bytes w6 (97 + (x : Int)) (97 + (y : Int))
              rw [hnm] at kc2
              have hnms : nm.size = 2 := by rw [← hnm]; rfl
              have HNM : Hid (nameB nm = true) := by rw [← hnm]; exact name_two x y hx hy
              clear hnm
              go_wp2
              clear hx hy ewx ewy kc2
              go_loopw [15, 16, 17] (fun v pb i wr => ∃ (m : Nat) (nx : List ByteArray) (put : Bool) (g c : Nat), m ≤ k ∧ i = .int .i64 m ∧ pb = .bool put ∧ v = .slice (some ⟨g, 0, none⟩) nx.length c ∧ NX L nm m nx put ∧ wr.ownsRow w6.heap.size 9 1 (.slice (some ⟨g, 0, none⟩) nx.length c) nx.length (nx.map Value.string) ∧ Below w6.heap.size w6 wr) (fun v pb i wr => k - (intOf i).toNat)
              case atStart =>
                refine ⟨0, [], false, w6.heap.size + 1, 0, Nat.zero_le _, rfl, rfl, by simp, .inl ⟨rfl, by simp, fun a ha => by simp at ha⟩, ?_, ((Below.refl _ _).alloc (Nat.le_refl _) _).alloc (by simp) _⟩
                have h := fun o => World.ownsRow_made (base := w6.heap.size) (e := 9) (size := 1) (w6.alloc o) #[] 0 (by simp) (Nat.zero_le _) rfl
                have e : ∀ o, (w6.alloc o).heap.size = w6.heap.size + 1 := fun o => by simp
                simp only [e] at h
                exact h _
              case round =>
                obtain ⟨m, nx, put, g, c, hmk, rfl, rfl, rfl, hNX, hown, hbel⟩ := hrel
                have HX := hide hNX
                have OX := hide hown
                have BX := hide hbel
                obtain ⟨hnl, hnf⟩ := nx_len hNX
                clear hNX hown hbel
                by_cases hmn : m < k
                · obtain ⟨b, off, rfl, hcell⟩ := HS6.out (by have := HN.out; omega)
                  obtain ⟨u, hku⟩ : ∃ u, L[m]? = some u := ⟨L[m]'(by have := HN.out; omega), List.getElem?_eq_getElem _⟩
                  have HCU6 := hide (hcell m u hku)
                  have hcu := cell_past BX.out HCU6.out
                  have HKU := hide hku
                  clear hcell hku
                  cases put
                  · have hnf := hnf rfl
                    cases hlt : strLt u nm
                    · cases heq : (u.toList == nm.toList)
                      · have hl3 : (nx ++ [nm]).length ≤ 13 := by simp; omega
                        have HN3 := hide (nx_c HX.out HKU.out (by rcases strLt_tot hlt with h | h; exact h; rw [h] at heq; simp at heq))
                        go_wp2_with (first | (at_builtin; refine wpList_append_own _ rfl (.tmp 156) (.tmp 158) 23 rfl w6.heap.size 9 i0 (.string ByteArray.empty) 1 16 Tryd.underlying23 hi hz0 hz1 hz2 rfl (by decide) _ _ _ rfl (OX.out.alloc _) ⟨wr.heap.size, 0, none⟩ 1 1 [.string nm] rfl rfl (new_cells (cs := #[.string nm]) rfl) (fun x hx => by simp at hx; subst hx; rfl) (by unfold maxLen; omega) (by omega) (by simp; have := BX.out.size; omega) ?_; intro v3 w8 ho3 hg3 hn3; have O3 := hide (strs_put ho3); have B3 := hide ((BX.out.alloc BX.out.size _).grown hg3 (by simp; have := BX.out.size; omega) (fun j hj => (OX.out.lt j hj).1)); clear ho3 hg3 hn3; have hcu3 := cell_past B3.out HCU6.out) | (at_builtin; refine wpList_append_own _ rfl (.tmp 166) (.tmp 171) 23 rfl w6.heap.size 9 i0 (.string ByteArray.empty) 1 16 Tryd.underlying23 hi hz0 hz1 hz2 rfl (by decide) _ _ _ rfl (O3.out.alloc _) ⟨w8.heap.size, 0, none⟩ 1 1 [.string u] rfl rfl (new_cells (cs := #[.string u]) rfl) (fun x hx => by simp at hx; subst hx; rfl) (by unfold maxLen; omega) (by omega) (by simp; have := B3.out.size; omega) ?_; intro v4 w9 ho4 hg4 hn4; have O4 := hide (strs_put ho4); have B4 := hide ((B3.out.alloc B3.out.size _).grown hg4 (by simp; have := B3.out.size; omega) (fun j hj => (O3.out.lt j hj).1)); clear ho4 hg4 hn4))
                        obtain ⟨g4, c4, e4⟩ := own_form O4.out (by simp)
                        subst e4
                        go_roundw
                        case rel => exact ⟨m + 1, nx ++ [nm] ++ [u], true, g4, c4, by omega, by go_num, rfl, rfl, HN3.out, O4.out, B4.out⟩
                        case measure => simp [intOf]; omega
                      · have hun : u = nm := str_ext heq
                        subst hun
                        have HN3 := hide (nx_b HX.out HKU.out)
                        go_wp2_with (first | (at_builtin; refine wpList_append_own _ rfl (.tmp 156) (.tmp 158) 23 rfl w6.heap.size 9 i0 (.string ByteArray.empty) 1 16 Tryd.underlying23 hi hz0 hz1 hz2 rfl (by decide) _ _ _ rfl (OX.out.alloc _) ⟨wr.heap.size, 0, none⟩ 1 1 [.string u] rfl rfl (new_cells (cs := #[.string u]) rfl) (fun x hx => by simp at hx; subst hx; rfl) (by unfold maxLen; omega) (by omega) (by simp; have := BX.out.size; omega) ?_; intro v3 w8 ho3 hg3 hn3; have O3 := hide (strs_put ho3); have B3 := hide ((BX.out.alloc BX.out.size _).grown hg3 (by simp; have := BX.out.size; omega) (fun j hj => (OX.out.lt j hj).1)); clear ho3 hg3 hn3; have hcu3 := cell_past B3.out HCU6.out))
                        obtain ⟨g4, c4, e4⟩ := own_form O3.out (by simp)
                        subst e4
                        go_roundw
                        case rel => exact ⟨m + 1, nx ++ [u], true, g4, c4, by omega, by go_num, rfl, rfl, HN3.out, O3.out, B3.out⟩
                        case measure => simp [intOf]; omega
                    · have heq : (u.toList == nm.toList) = false := ne_list (strLt_ne hlt)
                      have HN3 := hide (nx_a HX.out HKU.out hlt)
                      go_wp2_with (first | (at_builtin; refine wpList_append_own _ rfl (.tmp 166) (.tmp 171) 23 rfl w6.heap.size 9 i0 (.string ByteArray.empty) 1 16 Tryd.underlying23 hi hz0 hz1 hz2 rfl (by decide) _ _ _ rfl (OX.out.alloc _) ⟨wr.heap.size, 0, none⟩ 1 1 [.string u] rfl rfl (new_cells (cs := #[.string u]) rfl) (fun x hx => by simp at hx; subst hx; rfl) (by unfold maxLen; omega) (by omega) (by simp; have := BX.out.size; omega) ?_; intro v4 w9 ho4 hg4 hn4; have O4 := hide (strs_put ho4); have B4 := hide ((BX.out.alloc BX.out.size _).grown hg4 (by simp; have := BX.out.size; omega) (fun j hj => (OX.out.lt j hj).1)); clear ho4 hg4 hn4))
                      obtain ⟨g4, c4, e4⟩ := own_form O4.out (by simp)
                      subst e4
                      go_roundw
                      case rel => exact ⟨m + 1, nx ++ [u], false, g4, c4, by omega, by go_num, rfl, rfl, HN3.out, O4.out, B4.out⟩
                      case measure => simp [intOf]; omega
                  · obtain ⟨hd1, hd2⟩ := nx_d HL.out HX.out HKU.out
                    have heq : (u.toList == nm.toList) = false := ne_list (strLt_ne hd2).symm
                    have HN3 := hide hd1
                    clear hd1 hd2
                    go_wp2_with (first | (at_builtin; refine wpList_append_own _ rfl (.tmp 166) (.tmp 171) 23 rfl w6.heap.size 9 i0 (.string ByteArray.empty) 1 16 Tryd.underlying23 hi hz0 hz1 hz2 rfl (by decide) _ _ _ rfl (OX.out.alloc _) ⟨wr.heap.size, 0, none⟩ 1 1 [.string u] rfl rfl (new_cells (cs := #[.string u]) rfl) (fun x hx => by simp at hx; subst hx; rfl) (by unfold maxLen; omega) (by omega) (by simp; have := BX.out.size; omega) ?_; intro v4 w9 ho4 hg4 hn4; have O4 := hide (strs_put ho4); have B4 := hide ((BX.out.alloc BX.out.size _).grown hg4 (by simp; have := BX.out.size; omega) (fun j hj => (OX.out.lt j hj).1)); clear ho4 hg4 hn4))
                    obtain ⟨g4, c4, e4⟩ := own_form O4.out (by simp)
                    subst e4
                    go_roundw
                    case rel => exact ⟨m + 1, nx ++ [u], true, g4, c4, by omega, by go_num, rfl, rfl, HN3.out, O4.out, B4.out⟩
                    case measure => simp [intOf]; omega
                · have e : m = k := by omega
                  subst e
                  have hNX := HX.out
                  rw [← HN.out] at hNX
                  obtain ⟨fin, hf1, hfin⟩ := nx_end HL.out hNX
                  clear hNX
                  cases put
                  · simp only [Bool.false_eq_true, if_false] at hf1
                    have HF := hide hf1
                    have hfp : 0 < fin.length := by rw [hf1]; simp
                    clear hf1
                    go_wp2_with (first
                      | (at_builtin; refine wpList_append_own _ rfl (.tmp 175) (.tmp 177) 23 rfl w6.heap.size 9 i0 (.string ByteArray.empty) 1 16 Tryd.underlying23 hi hz0 hz1 hz2 rfl (by decide) _ _ _ rfl (OX.out.alloc _) ⟨wr.heap.size, 0, none⟩ 1 1 [.string nm] rfl rfl (new_cells (cs := #[.string nm]) rfl) (fun x hx => by simp at hx; subst hx; rfl) (by unfold maxLen; omega) (by omega) (by simp; have := BX.out.size; omega) ?_; intro v3 w8 ho3 hg3 hn3; have O3 : Hid (w8.ownsRow w6.heap.size 9 1 v3 fin.length (fin.map Value.string)) := (by rw [HF.out]; exact strs_put ho3); have B3 := hide ((BX.out.alloc BX.out.size _).grown hg3 (by simp; have := BX.out.size; omega) (fun j hj => (OX.out.lt j hj).1)); clear ho3 hg3 hn3; obtain ⟨g4, c4, e4⟩ := own_form O3.out hfp; subst e4))
                    refine (c_i_OwnerOf (L := fin) _ _ hkm (by have := fin_len hfin; have := HN.out; omega) (fin_sz hfin HU.out hnms) (strs_owned O3.out)).mono ?_
                    rintro e w10 ⟨pp, rfl, hpp, hb10⟩
                    have T10 := hide (T6.out.trans ((B3.out.trans (hb10.mono B3.out.size)).mono T6.out.size))
                    have hpo := fin_own HL.out (by omega) (by have := HN.out; omega) HNM.out hfin HO.out hpp
                    clear hb10 hpp hfin
                    rcases hpo with rfl | rfl
                    · go_wp2
                      go_ret
                      exact ⟨rfl, T10.out⟩
                    · cases heq2 : (pp.toList == o.toList)
                      · go_wp2
                        go_ret
                        exact ⟨rfl, T10.out⟩
                      · go_wp2
                        go_ret
                        exact ⟨rfl, T10.out⟩
                  · simp only [if_true] at hf1
                    subst hf1
                    go_wp2_with fail
                    refine (c_i_OwnerOf (L := fin) _ _ hkm (by have := fin_len hfin; have := HN.out; omega) (fin_sz hfin HU.out hnms) (strs_owned OX.out)).mono ?_
                    rintro e w10 ⟨pp, rfl, hpp, hb10⟩
                    have T10 := hide (T6.out.trans ((BX.out.trans (hb10.mono BX.out.size)).mono T6.out.size))
                    have hpo := fin_own HL.out (by omega) (by have := HN.out; omega) HNM.out hfin HO.out hpp
                    clear hb10 hpp hfin
                    rcases hpo with rfl | rfl
                    · go_wp2
                      go_ret
                      exact ⟨rfl, T10.out⟩
                    · cases heq2 : (pp.toList == o.toList)
                      · go_wp2
                        go_ret
                        exact ⟨rfl, T10.out⟩
                      · go_wp2
                        go_ret
                        exact ⟨rfl, T10.out⟩
end Go.Proofs.YtkccgjeanehaiaaDoor
