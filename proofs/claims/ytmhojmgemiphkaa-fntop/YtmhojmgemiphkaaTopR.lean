/-
  Contracts of TopRight, of the program and of its model: one Bool.
-/
import Derived.Test.YtmhojmgemiphkaaHvC
import Derived.Test.YtmhojmgemiphkaaStrO
namespace Go.Proofs.Ytmhojmgemiphkaa
set_option linter.unusedVariables false
set_option linter.unusedSimpArgs false
open Go.ChangeShapes Go.WideShapes Go.ChangeAt Go.RowKit Go.PlainAid Go.Lib
set_option maxRecDepth 10000

def keyB (u : ByteArray) : Bool := decide (1 ≤ u.size) && decide (u.size ≤ 100)
/-- A key that stands behind the one ahead of it, if there is one. -/
def aftB : Option ByteArray → ByteArray → Bool
  | none, _ => true
  | some p, u => strLt p u
/-- Items from here on: rising keys, counts within their bound, and all together no more than t. -/
def itB (t : Int) : Option ByteArray → Int → List Hv → Bool
  | _, n, [] => decide (n ≤ t)
  | p, n, x :: r => keyB x.1 && aftB p x.1 && decide (1 ≤ x.2) && decide (x.2 ≤ 1000000000000000) && itB t (some x.1) (n + x.2) r
def topB (L : List Hv) (d t : Int) : Bool := decide (L.length ≤ 5) && decide (0 ≤ d) && decide (d ≤ 1000000000000000) && decide (t ≤ 1000000000000000) && itB t none (6 * d) L
/-- The key ahead of index k. -/
def prevK (L : List Hv) (k : Nat) : Option ByteArray := match k with
  | 0 => none
  | j + 1 => (L[j]?).map Prod.fst
theorem prevK_succ {L : List Hv} {k : Nat} {x : Hv} (h : L[k]? = some x) : prevK L (k + 1) = some x.1 := by simp [prevK, h]
theorem it_drop {L : List Hv} {k : Nat} {x : Hv} (h : L[k]? = some x) (t : Int) (p : Option ByteArray) (n : Int) : itB t p n (L.drop k) = (keyB x.1 && aftB p x.1 && decide (1 ≤ x.2) && decide (x.2 ≤ 1000000000000000) && itB t (some x.1) (n + x.2) (L.drop (k + 1))) := by
  have hk := (List.getElem?_eq_some_iff.1 h).1
  rw [List.drop_eq_getElem_cons hk, (List.getElem?_eq_some_iff.1 h).2]; rfl
theorem it_le : ∀ {L : List Hv} {t : Int} {p : Option ByteArray} {n : Int}, itB t p n L = true → n ≤ t
  | [], t, p, n, h => by simpa [itB] using h
  | x :: r, t, p, n, h => by
    simp only [itB, Bool.and_eq_true, decide_eq_true_eq] at h
    have := it_le h.2
    omega
theorem it_end {L : List Hv} {k : Nat} (h : L.length ≤ k) (t : Int) (p : Option ByteArray) (n : Int) : itB t p n (L.drop k) = decide (n ≤ t) := by
  rw [List.drop_eq_nil_of_le h]; rfl
theorem ret_bt {a b : Bool} (h : a = b) : Ending.returned (.bool a) = .returned (.bool b) := by rw [h]

theorem c_i_countRight (n : Int) (w : World) :
    Calls Try.prog 44 #[.int .i64 n] w fun e w' => e = .returned (.bool (decide (0 ≤ n) && decide (n ≤ 1000000000000000))) ∧ w' = w := by
  by_cases h : 0 ≤ n
  · have d1 : decide (0 ≤ n) = true := decide_eq_true h
    go_enter Try.func44, Try.ntmps44
    go_wp2
    go_ret
    exact ⟨ret_bt (by rw [d1, Bool.true_and]), rfl⟩
  · have d1 : decide (0 ≤ n) = false := decide_eq_false h
    go_enter Try.func44, Try.ntmps44
    go_wp2
    go_ret
    exact ⟨rfl, rfl⟩
theorem c_i_keyRight (u : ByteArray) (w : World) (hu : u.size ≤ 1048576) :
    Calls Try.prog 29 #[.string u] w fun e w' => e = .returned (.bool (keyB u)) ∧ w' = w := by
  by_cases h : 1 ≤ u.size
  · have d1 : decide (1 ≤ (u.size : Int)) = true := decide_eq_true (by omega)
    have HE : Hid (decide ((u.size : Int) ≤ 100) = keyB u) := (by unfold keyB; rw [decide_eq_true h, Bool.true_and]; exact decide_eq_decide.2 (by omega) : decide ((u.size : Int) ≤ 100) = keyB u)
    clear h
    go_enter Try.func29, Try.ntmps29
    go_wp2
    go_ret
    exact ⟨ret_bt HE.out, rfl⟩
  · have d1 : decide (1 ≤ (u.size : Int)) = false := decide_eq_false (by omega)
    have HE : Hid (false = keyB u) := (by unfold keyB; rw [decide_eq_false h]; rfl : false = keyB u)
    clear h
    go_enter Try.func29, Try.ntmps29
    go_wp2
    go_ret
    exact ⟨ret_bt HE.out, rfl⟩
theorem c_s_l05Key (u : ByteArray) (w : World) (hu : u.size ≤ 1048576) :
    Calls Try.prog 21 #[.string u] w fun e w' => e = .returned (.bool (keyB u)) ∧ w' = w := by
  by_cases h : 1 ≤ u.size
  · have d1 : decide (1 ≤ (u.size : Int)) = true := decide_eq_true (by omega)
    have HE : Hid (decide ((u.size : Int) ≤ 100) = keyB u) := (by unfold keyB; rw [decide_eq_true h, Bool.true_and]; exact decide_eq_decide.2 (by omega) : decide ((u.size : Int) ≤ 100) = keyB u)
    clear h
    go_enter Try.func21, Try.ntmps21
    go_wp2
    go_ret
    exact ⟨ret_bt HE.out, rfl⟩
  · have d1 : decide (1 ≤ (u.size : Int)) = false := decide_eq_false (by omega)
    have HE : Hid (false = keyB u) := (by unfold keyB; rw [decide_eq_false h]; rfl : false = keyB u)
    clear h
    go_enter Try.func21, Try.ntmps21
    go_wp2
    go_ret
    exact ⟨ret_bt HE.out, rfl⟩

set_option maxHeartbeats 4000000 in
theorem c_i_TopRight {w : World} {d t : Int} {ao : Option Addr} {L : List Hv} (cap N : Nat) (hn : L.length = N) (hl : N ≤ 1048576) (hA : HvsAt w ao L) (hok : ∀ x ∈ L, HvOk x) (hd : I64 d) (ht : I64 t) :
    Calls Try.prog 28 #[.agg #[.slice ao N cap, .int .i64 d, .int .i64 t]] w fun e w' => e = .returned (.bool (topB L d t)) ∧ Below w.heap.size w w' := by
  have HA := hide hA
  have HK := hide hok
  have HN := hide hn
  have hge := op_geq 9
  have HB0 : Hid (∀ o, Below w.heap.size w (w.alloc o)) := (fun o => (Below.refl _ _).alloc (Nat.le_refl _) o : ∀ o, Below w.heap.size w (w.alloc o))
  unfold I64 at hd ht
  have hcs : (5 < N) ∨ (¬ 5 < N ∧ (decide (0 ≤ d) && decide (d ≤ 1000000000000000)) = false) ∨ (¬ 5 < N ∧ (decide (0 ≤ d) && decide (d ≤ 1000000000000000)) = true ∧ 1000000000000000 < t) ∨ (¬ 5 < N ∧ (decide (0 ≤ d) && decide (d ≤ 1000000000000000)) = true ∧ ¬ 1000000000000000 < t) := by
    cases (decide (0 ≤ d) && decide (d ≤ 1000000000000000)) <;> simp <;> omega
  rcases hcs with q1 | ⟨q1, q2⟩ | ⟨q1, q2, q3⟩ | ⟨q1, q2, q3⟩
  · have HE : Hid (false = topB L d t) := (by unfold topB; rw [decide_eq_false (by omega : ¬ L.length ≤ 5)]; rfl : false = topB L d t)
    clear hA hok hn
    go_enter Try.func28, Try.ntmps28
    go_wp2
    go_ret
    exact ⟨ret_bt HE.out, HB0.out _⟩
  · have HE : Hid (false = topB L d t) := (by unfold topB; rw [Bool.and_assoc (decide (L.length ≤ 5)), q2]; simp : false = topB L d t)
    clear hA hok hn
    go_enter Try.func28, Try.ntmps28
    go_wp2_with (go_at_call 44; refine (c_i_countRight _ _).mono ?_; rintro e w2 ⟨rfl, hw⟩; obtain rfl := hw.symm; rw [q2])
    go_ret
    exact ⟨ret_bt HE.out, HB0.out _⟩
  · have HE : Hid (false = topB L d t) := (by unfold topB; rw [decide_eq_false (by omega : ¬ t ≤ 1000000000000000)]; simp : false = topB L d t)
    clear hA hok hn
    go_enter Try.func28, Try.ntmps28
    go_wp2_with (go_at_call 44; refine (c_i_countRight _ _).mono ?_; rintro e w2 ⟨rfl, hw⟩; obtain rfl := hw.symm; rw [q2])
    go_ret
    exact ⟨ret_bt HE.out, HB0.out _⟩
  · have hd2 : 0 ≤ d ∧ d ≤ 1000000000000000 := by simpa using q2
    have HF : Hid (topB L d t = itB t none (6 * d) L) := (by unfold topB; rw [decide_eq_true (by omega : L.length ≤ 5), decide_eq_true hd2.1, decide_eq_true hd2.2, decide_eq_true (by omega : t ≤ 1000000000000000)]; rfl : topB L d t = itB t none (6 * d) L)
    clear hA hok hn
    go_enter Try.func28, Try.ntmps28
    go_wp2_with (go_at_call 44; refine (c_i_countRight _ _).mono ?_; rintro e w2 ⟨rfl, hw⟩; obtain rfl := hw.symm; rw [q2])
    go_loopw [3, 27] (fun q i wr => Below w.heap.size w wr ∧ TpCell wr w.heap.size (.slice ao N cap) d t ∧ ∃ (k : Nat) (n : Int), k ≤ N ∧ i = .int .i64 k ∧ q = .int .i64 n ∧ 0 ≤ n ∧ n ≤ 6000000000000000 + k * 1000000000000000 ∧ Hid (topB L d t = itB t (prevK L k) n (L.drop k))) (fun q i wr => N - (intOf i).toNat)
    case atStart => exact ⟨HB0.out _, tp_new _ _ _ _ _, 0, 6 * d, Nat.zero_le _, rfl, rfl, by omega, by omega, HF⟩
    case round =>
      obtain ⟨hbel, hT, k, n, hk, rfl, rfl, hn0, hn1, HR⟩ := hrel
      have HB := hide hbel
      have HT := hide hT
      obtain ⟨x0, x1, x2⟩ := hT
      have hz := hbel.size
      have hz1 : w.heap.size < wr.heap.size := World.block_lt_of_cell? _ _ x0
      by_cases hkn : k < N
      · obtain ⟨⟨u, c⟩, hRk⟩ : ∃ a, L[k]? = some a := ⟨L[k]'(by have := HN.out; omega), List.getElem?_eq_getElem _⟩
        obtain ⟨hus, hc1, hc2⟩ := HK.out _ (List.mem_of_getElem? hRk)
        obtain ⟨b, off, rfl, hcell⟩ := HA.out (by have := HN.out; omega)
        have hc0 := cell_past hbel (hcell k _ hRk).1
        have hc3 := cell_past hbel (hcell k _ hRk).2
        have hbz : b < wr.heap.size := World.block_lt_of_cell? _ _ hc0
        have HD := hide (it_drop hRk t (prevK L k) n)
        have HP1 := hide (prevK_succ hRk)
        have HTn : Hid (∀ o, TpCell (wr.alloc o) w.heap.size (.slice (some ⟨b, off, none⟩) N cap) d t) := (fun o => tp_past HT.out ((Below.refl _ _).alloc (Nat.le_refl _) o) : ∀ o, TpCell (wr.alloc o) w.heap.size (.slice (some ⟨b, off, none⟩) N cap) d t)
        have hprev : 0 < k → ∃ (j : Nat) (p : ByteArray), k = j + 1 ∧ prevK L k = some p ∧ wr.cell? ⟨b, off + j * 2, none⟩ = some (.string p) := fun h0 => by
          obtain ⟨j, rfl⟩ : ∃ j, k = j + 1 := ⟨k - 1, by omega⟩
          obtain ⟨x, hx⟩ : ∃ a, L[j]? = some a := ⟨L[j]'(by have := HN.out; omega), List.getElem?_eq_getElem _⟩
          exact ⟨j, x.1, rfl, prevK_succ hx, cell_past hbel (hcell j _ hx).1⟩
        have HP := hide hprev
        simp at hus hc1 hc2
        clear hbel hcell hRk hprev HT
        cases hkey : keyB u with
        | false =>
          have HE : Hid (false = topB L d t) := (by rw [HR.out, HD.out]; simp [hkey] : false = topB L d t)
          go_wp2
          go_quiet (first | (go_at_call 29; refine Calls.quiet_of_same (c_i_keyRight _ _ (by omega))))
          go_wp2
          go_ret
          exact ⟨ret_bt HE.out, bel_drews (HB.out.alloc hz _) _⟩
        | true =>
          have hafter : (k = 0 ∧ aftB (prevK L k) u = true) ∨ (∃ (j : Nat) (p : ByteArray), k = j + 1 ∧ aftB (prevK L k) u = strLt p u ∧ wr.cell? ⟨b, off + j * 2, none⟩ = some (.string p)) := by
            rcases Nat.eq_zero_or_pos k with rfl | hpos
            · exact .inl ⟨rfl, rfl⟩
            · obtain ⟨j, p, e1, e2, e3⟩ := HP.out hpos
              exact .inr ⟨j, p, e1, by rw [e2]; rfl, e3⟩
          have hbad : (∃ (j : Nat) (p : ByteArray), k = j + 1 ∧ aftB (prevK L k) u = false ∧ strLt p u = false ∧ wr.cell? ⟨b, off + j * 2, none⟩ = some (.string p)) ∨ (aftB (prevK L k) u = true ∧ (k = 0 ∨ ∃ (j : Nat) (p : ByteArray), k = j + 1 ∧ strLt p u = true ∧ wr.cell? ⟨b, off + j * 2, none⟩ = some (.string p))) := by
            rcases hafter with ⟨e, h⟩ | ⟨j, p, e, h, h3⟩
            · exact .inr ⟨h, .inl e⟩
            · cases hlt : strLt p u with
              | false => exact .inl ⟨j, p, e, by rw [h, hlt], hlt, h3⟩
              | true => exact .inr ⟨by rw [h, hlt], .inr ⟨j, p, e, hlt, h3⟩⟩
          clear hafter HP
          rcases hbad with ⟨j, p, ek0, haf, hlt, hcp⟩ | ⟨haf, hor⟩
          · have HE : Hid (false = topB L d t) := (by rw [HR.out, HD.out]; simp [hkey, haf] : false = topB L d t)
            have ek : ((k : Int) - 1) = (j : Int) := by omega
            have hpi : 0 < k := by omega
            have hjN : j < N := by omega
            have ew : IntKind.i64.wrap (j : Int) = j := IntWalk.i64_in _ ⟨by omega, by omega⟩
            clear ek0 haf
            go_wp2
            go_quiet (first | (go_at_call 29; refine Calls.quiet_of_same (c_i_keyRight _ _ (by omega))))
            go_wp2
            go_ret
            exact ⟨ret_bt HE.out, bel_drews (HB.out.alloc hz _) _⟩
          · have hcs : (c == 0) = true ∧ c = 0 ∨ ((c == 0) = false ∧ (decide (0 ≤ c) && decide (c ≤ 1000000000000000)) = false ∧ (c < 0 ∨ 1000000000000000 < c)) ∨ ((c == 0) = false ∧ (decide (0 ≤ c) && decide (c ≤ 1000000000000000)) = true ∧ 1 ≤ c ∧ c ≤ 1000000000000000) := by
              by_cases e : c = 0
              · exact .inl ⟨by simp [e], e⟩
              · by_cases e2 : 0 ≤ c ∧ c ≤ 1000000000000000
                · exact .inr (.inr ⟨by simp [e], by simp [e2.1, e2.2], by omega, e2.2⟩)
                · exact .inr (.inl ⟨by simp [e], by rw [Bool.eq_false_iff]; intro h; simp at h; exact e2 h, by omega⟩)
            have hall : ∀ (Q : Prop), (k = 0 → Q) → (∀ (j : Nat) (p : ByteArray), ((k : Int) - 1) = (j : Int) → 0 < k → j < N → IntKind.i64.wrap (j : Int) = j → strLt p u = true → wr.cell? ⟨b, off + j * 2, none⟩ = some (.string p) → Q) → Q := fun Q f g => by
              rcases hor with e | ⟨j, p, e, h1, h2⟩
              · exact f e
              · exact g j p (by omega) (by omega) (by omega) (IntWalk.i64_in _ ⟨by omega, by omega⟩) h1 h2
            clear hor
            rcases hcs with ⟨e0, q⟩ | ⟨e0, e1, q⟩ | ⟨e0, e1, q1, q2⟩
            · have HE : Hid (false = topB L d t) := (by rw [HR.out, HD.out, q]; simp : false = topB L d t)
              clear haf q
              refine hall _ (fun hk0 => ?_) (fun j p ek hpi hjN ew hlt hcp => ?_)
              · have d4 : decide (0 < k) = false := decide_eq_false (by omega)
                clear hall hk0
                go_wp2
                go_quiet (first | (go_at_call 29; refine Calls.quiet_of_same (c_i_keyRight _ _ (by omega))))
                go_wp2_with (go_at_call 44; refine (c_i_countRight _ _).mono ?_; rintro e w2 ⟨rfl, hw⟩; obtain rfl := hw.symm; rw [e1])
                go_ret
                exact ⟨ret_bt HE.out, bel_drews (HB.out.alloc hz _) _⟩
              · clear hall
                go_wp2
                go_quiet (first | (go_at_call 29; refine Calls.quiet_of_same (c_i_keyRight _ _ (by omega))))
                go_wp2_with (go_at_call 44; refine (c_i_countRight _ _).mono ?_; rintro e w2 ⟨rfl, hw⟩; obtain rfl := hw.symm; rw [e1])
                go_ret
                exact ⟨ret_bt HE.out, bel_drews (HB.out.alloc hz _) _⟩
            · have HE : Hid (false = topB L d t) := (by rw [HR.out, HD.out]; rcases q with q | q
                                                        · rw [decide_eq_false (by show ¬ 1 ≤ c; omega)]; simp
                                                        · rw [decide_eq_false (p := (u, c).2 ≤ 1000000000000000) (by show ¬ c ≤ 1000000000000000; omega)]; simp : false = topB L d t)
              clear haf q
              refine hall _ (fun hk0 => ?_) (fun j p ek hpi hjN ew hlt hcp => ?_)
              · have d4 : decide (0 < k) = false := decide_eq_false (by omega)
                clear hall hk0
                go_wp2
                go_quiet (first | (go_at_call 29; refine Calls.quiet_of_same (c_i_keyRight _ _ (by omega))))
                go_wp2_with (go_at_call 44; refine (c_i_countRight _ _).mono ?_; rintro e w2 ⟨rfl, hw⟩; obtain rfl := hw.symm; rw [e1])
                go_ret
                exact ⟨ret_bt HE.out, bel_drews (HB.out.alloc hz _) _⟩
              · clear hall
                go_wp2
                go_quiet (first | (go_at_call 29; refine Calls.quiet_of_same (c_i_keyRight _ _ (by omega))))
                go_wp2_with (go_at_call 44; refine (c_i_countRight _ _).mono ?_; rintro e w2 ⟨rfl, hw⟩; obtain rfl := hw.symm; rw [e1])
                go_ret
                exact ⟨ret_bt HE.out, bel_drews (HB.out.alloc hz _) _⟩
            · have HE : Hid (topB L d t = itB t (prevK L (k + 1)) (n + c) (L.drop (k + 1))) := by
                refine (?_ : topB L d t = itB t (prevK L (k + 1)) (n + c) (L.drop (k + 1)))
                rw [HR.out, HD.out, HP1.out, haf, decide_eq_true (p := 1 ≤ (u, c).2) q1, decide_eq_true (p := (u, c).2 ≤ 1000000000000000) q2]; simp [hkey]
              clear haf
              refine hall _ (fun hk0 => ?_) (fun j p ek hpi hjN ew hlt hcp => ?_)
              · have d4 : decide (0 < k) = false := decide_eq_false (by omega)
                clear hall hk0
                go_wp2
                go_quiet (first | (go_at_call 29; refine Calls.quiet_of_same (c_i_keyRight _ _ (by omega))))
                go_wp2_with (go_at_call 44; refine (c_i_countRight _ _).mono ?_; rintro e w2 ⟨rfl, hw⟩; obtain rfl := hw.symm; rw [e1])
                go_roundw
                case rel => exact ⟨bel_drews (HB.out.alloc hz _) _, HTn.out _, k + 1, n + c, by omega, by go_num, by go_num, by omega, by omega, HE⟩
                case measure => simp [intOf]; omega
              · clear hall
                go_wp2
                go_quiet (first | (go_at_call 29; refine Calls.quiet_of_same (c_i_keyRight _ _ (by omega))))
                go_wp2_with (go_at_call 44; refine (c_i_countRight _ _).mono ?_; rintro e w2 ⟨rfl, hw⟩; obtain rfl := hw.symm; rw [e1])
                go_roundw
                case rel => exact ⟨bel_drews (HB.out.alloc hz _) _, HTn.out _, k + 1, n + c, by omega, by go_num, by go_num, by omega, by omega, HE⟩
                case measure => simp [intOf]; omega
      · have HE : Hid (decide (n ≤ t) = topB L d t) := (by rw [HR.out, it_end (by have := HN.out; omega)] : decide (n ≤ t) = topB L d t)
        clear hbel
        go_wp2
        go_ret
        exact ⟨ret_bt HE.out, HB.out⟩
end Go.Proofs.Ytmhojmgemiphkaa
