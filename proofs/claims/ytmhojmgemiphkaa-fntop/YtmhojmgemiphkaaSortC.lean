/-
  slices.Sort at int64, of a few numbers: the library's own text walked (at most twelve: insertion sort).
-/
import Derived.Test.YtmhojmgemiphkaaRowsG
import Derived.Test.YtmhojmgemiphkaaRows
import Derived.Test.YtmhojmgemiphkaaKeepK
import Derived.Deep.RegionHeld3
namespace Go.Proofs.Ytmhojmgemiphkaa
set_option linter.unusedVariables false
set_option linter.unusedSimpArgs false
open Go.ChangeShapes Go.WideShapes Go.ChangeAt Go.RowKit Go.PlainAid
set_option maxRecDepth 10000

theorem c_isNaN (x : Int) (w : World) :
    Calls Try.prog 82 #[.int .i64 x] w fun e w' => e = .returned (.bool false) ∧ w' = w := by
  go_enter Try.func82, Try.ntmps82
  go_wp2
  go_ret
  exact ⟨rfl, rfl⟩
theorem c_cmpLess (x y : Int) (w : World) :
    Calls Try.prog 71 #[.int .i64 x, .int .i64 y] w fun e w' => e = .returned (.bool (decide (x < y))) ∧ w' = w := by
  go_enter Try.func71, Try.ntmps71
  go_wp2_with (go_at_call 82; refine (c_isNaN _ _).mono ?_; rintro e w2 ⟨rfl, hw⟩; obtain rfl := hw.symm)
  go_ret
  exact ⟨rfl, rfl⟩
set_option maxRecDepth 100000 in
set_option maxHeartbeats 4000000 in
theorem c_Len64 (x : Nat) (h0 : 1 ≤ x) (h : x ≤ 12) (w : World) :
    Calls Try.prog 75 #[.int .u64 x] w fun e w' => ∃ v, e = .returned (.int .i64 v) ∧ w' = w := by
  have hc : x = 1 ∨ x = 2 ∨ x = 3 ∨ x = 4 ∨ x = 5 ∨ x = 6 ∨ x = 7 ∨ x = 8 ∨ x = 9 ∨ x = 10 ∨ x = 11 ∨ x = 12 := by omega
  rcases hc with rfl | rfl | rfl | rfl | rfl | rfl | rfl | rfl | rfl | rfl | rfl | rfl
  all_goals
    go_enter Try.func75, Try.ntmps75
    go_wp2
    go_ret
    exact ⟨_, rfl, rfl⟩
theorem c_bitsLen (x : Nat) (h0 : 1 ≤ x) (h : x ≤ 12) (w : World) :
    Calls Try.prog 62 #[.int .u64 x] w fun e w' => ∃ v, e = .returned (.int .i64 v) ∧ w' = w := by
  go_enter Try.func62, Try.ntmps62
  go_wp2_with (go_at_call 75; refine (c_Len64 _ h0 h _).mono ?_; rintro e w2 ⟨v, rfl, hw⟩; obtain rfl := hw.symm)
  go_ret
  exact ⟨_, rfl, rfl⟩

/-- In order up to k. -/
def sortedTo (M : List Int) (k : Nat) : Prop := ∀ (p q : Nat) (x y : Int), M[p]? = some x → M[q]? = some y → p < q → q < k → x ≤ y
/-- In order up to i, but for what stands at j. -/
def sortedBut (M : List Int) (i j : Nat) : Prop := ∀ (p q : Nat) (x y : Int), M[p]? = some x → M[q]? = some y → p < q → q ≤ i → q ≠ j → x ≤ y
def swapL (M : List Int) (j : Nat) (x y : Int) : List Int := (M.set (j + 1) x).set j y
theorem swapL_len (M : List Int) (j : Nat) (x y : Int) : (swapL M j x y).length = M.length := by simp [swapL]
theorem swapL_perm {M : List Int} {j : Nat} {x y : Int} (h0 : M[j]? = some x) (h1 : M[j + 1]? = some y) : (swapL M j x y).Perm M := by
  have g0 := (List.getElem?_eq_some_iff.1 h0)
  have g1 := (List.getElem?_eq_some_iff.1 h1)
  obtain ⟨l0, e0⟩ := g0
  obtain ⟨l1, e1⟩ := g1
  have hm : M = M.take j ++ x :: y :: M.drop (j + 2) := by
    rw [← e0, ← e1, ← List.drop_eq_getElem_cons l1, ← List.drop_eq_getElem_cons l0, List.take_append_drop]
  have hl : (M.take j).length = j := by rw [List.length_take]; omega
  have hs : swapL M j x y = M.take j ++ y :: x :: M.drop (j + 2) := by
    unfold swapL
    conv => lhs; rw [hm]
    rw [List.set_append_right _ _ (by omega), List.set_append_right _ _ (by omega), hl, Nat.sub_self, show j + 1 - j = 1 by omega]
    rfl
  rw [hs]
  conv => rhs; rw [hm]
  exact List.Perm.append_left _ (List.Perm.swap x y _)
theorem swapL_at {M : List Int} {j : Nat} {x y : Int} (h0 : M[j]? = some x) (h1 : M[j + 1]? = some y) (q : Nat) : (swapL M j x y)[q]? = if q = j then some y else if q = j + 1 then some x else M[q]? := by
  have l0 := (List.getElem?_eq_some_iff.1 h0).1
  have l1 := (List.getElem?_eq_some_iff.1 h1).1
  unfold swapL
  by_cases e : q = j
  · subst e
    rw [if_pos rfl, List.getElem?_set_self (by simp; omega)]
  · rw [if_neg e, List.getElem?_set_ne (by omega)]
    by_cases e2 : q = j + 1
    · subst e2; rw [if_pos rfl, List.getElem?_set_self (by omega)]
    · rw [if_neg e2, List.getElem?_set_ne (by omega)]
theorem but_swap {M : List Int} {i j : Nat} {x y : Int} (h : sortedBut M i (j + 1)) (h0 : M[j]? = some x) (h1 : M[j + 1]? = some y) (hlt : y < x) (hji : j + 1 ≤ i) : sortedBut (swapL M j x y) i j := fun p q a b ha hb hpq hqi hqj => by
  rw [swapL_at h0 h1] at ha hb
  rw [if_neg hqj] at hb
  by_cases e1 : q = j + 1
  · rw [if_pos e1] at hb
    obtain rfl := Option.some.inj hb
    by_cases e2 : p = j
    · rw [if_pos e2] at ha; obtain rfl := Option.some.inj ha; omega
    · rw [if_neg e2, if_neg (by omega)] at ha
      exact h p j a x ha h0 (by omega) (by omega) (by omega)
  · rw [if_neg e1] at hb
    by_cases e2 : p = j
    · rw [if_pos e2] at ha; obtain rfl := Option.some.inj ha
      exact h (j + 1) q y b h1 hb (by omega) hqi e1
    · rw [if_neg e2] at ha
      by_cases e3 : p = j + 1
      · rw [if_pos e3] at ha; obtain rfl := Option.some.inj ha
        exact h j q x b h0 hb (by omega) hqi e1
      · rw [if_neg e3] at ha
        exact h p q a b ha hb hpq hqi e1
theorem but_done {M : List Int} {i j : Nat} {x y : Int} (h : sortedBut M i (j + 1)) (h0 : M[j]? = some x) (h1 : M[j + 1]? = some y) (hle : ¬ y < x) : sortedTo M (i + 1) := fun p q a b ha hb hpq hqi => by
  by_cases e : q = j + 1
  · subst e
    rw [h1] at hb; obtain rfl := Option.some.inj hb
    by_cases e2 : p = j
    · subst e2; rw [h0] at ha; obtain rfl := Option.some.inj ha; omega
    · have := h p j a x ha h0 (by omega) (by omega) (by omega); omega
  · exact h p q a b ha hb hpq (by omega) e
theorem but_zero {M : List Int} {i : Nat} (h : sortedBut M i 0) : sortedTo M (i + 1) := fun p q a b ha hb hpq hqi => h p q a b ha hb hpq (by omega) (by omega)
theorem but_start {M : List Int} {i : Nat} (h : sortedTo M i) : sortedBut M i i := fun p q a b ha hb hpq hqi hq => h p q a b ha hb hpq (by omega)

theorem own_ltN {w : World} {B g c n : Nat} {T : TypeId} {s : Nat} {xs : List Value} (h : w.ownsRow B T s (.slice (some ⟨g, 0, none⟩) n c) n xs) : B ≤ g ∧ g < w.heap.size := by
  rcases h.2 with ⟨e, _⟩ | ⟨g', c', cur, e, h1, h2, _⟩
  · cases e
  · cases e; exact ⟨h1, (Array.getElem?_eq_some_iff.1 h2).1⟩
theorem ownsRow_drewN {w : World} {B n s : Nat} {T : TypeId} {v : Value} {xs : List Value} (h : w.ownsRow B T s v n xs) (k : Nat) : (w.drewN k).ownsRow B T s v n xs := h

set_option maxHeartbeats 2000000 in
theorem c_insertion {w : World} {B g n c : Nat} {L : List Int} (hn : L.length = n) (hl : n ≤ 12) (h1 : 1 ≤ n) (hO : w.ownsRow B 2 1 (.slice (some ⟨g, 0, none⟩) n c) n (L.map (Value.int .i64))) :
    Calls Try.prog 65 #[.slice (some ⟨g, 0, none⟩) n c, .int .i64 0, .int .i64 n] w fun e w' => ∃ r, e = .returned r ∧ ∃ M : List Int, M.Perm L ∧ sortedTo M n ∧ w'.ownsRow B 2 1 (.slice (some ⟨g, 0, none⟩) n c) n (M.map (Value.int .i64)) ∧ Below B w w' := by
  have HO := hide hO
  have HN := hide hn
  clear hO hn
  go_enter Try.func65, Try.ntmps65
  go_wp2
  go_loopw [6] (fun vi wr => Below B w wr ∧ ∃ (i : Nat) (M : List Int), vi = .int .i64 i ∧ 1 ≤ i ∧ i ≤ n ∧ M.length = n ∧ Hid (M.Perm L) ∧ Hid (sortedTo M i) ∧ Hid (wr.ownsRow B 2 1 (.slice (some ⟨g, 0, none⟩) n c) n (M.map (Value.int .i64)))) (fun vi wr => n - (intOf vi).toNat)
  case atStart => exact ⟨Below.refl _ _, 1, L, by go_num, Nat.le_refl _, h1, HN.out, (List.Perm.refl _ : L.Perm L), (fun p q x y _ _ h1 h2 => absurd h2 (by omega) : sortedTo L 1), HO⟩
  case round =>
    obtain ⟨hbel, i, M, rfl, hi1, hin, hMl, HP, HS, HM⟩ := hrel
    have HB := hide hbel
    clear hbel
    by_cases hlt : i < n
    · go_wp2
      go_loopw [7] (fun vj wr2 => Below B w wr2 ∧ ∃ (j : Nat) (D : List Int), vj = .int .i64 j ∧ j ≤ i ∧ D.length = n ∧ Hid (D.Perm L) ∧ Hid (sortedBut D i j) ∧ Hid (wr2.ownsRow B 2 1 (.slice (some ⟨g, 0, none⟩) n c) n (D.map (Value.int .i64)))) (fun vj wr2 => (intOf vj).toNat)
      case atStart => exact ⟨HB.out, i, M, rfl, Nat.le_refl _, hMl, HP, (but_start HS.out : sortedBut M i i), HM⟩
      case round =>
        obtain ⟨hbel2, j, D, rfl, hji, hDl, HP2, HS2, HM2⟩ := hrel
        have HB2 := hide hbel2
        clear hbel2 hMl
        have hDl' := hide hDl
        clear hDl
        by_cases hj0 : j = 0
        · subst hj0
          have HO2 : Hid (sortedTo D (i + 1)) := but_zero HS2.out
          go_wp2
          go_quiet (first | (go_at_call 71; refine Calls.quiet_of_same (c_cmpLess _ _ _)))
          go_wp2
          go_roundw
          case rel => exact ⟨bel_drews HB2.out _, i + 1, D, by go_num, by omega, by omega, hDl'.out, HP2, HO2, (ownsRow_drewN HM2.out _ : _)⟩
          case measure => simp [intOf]; omega
        · obtain ⟨k, rfl⟩ : ∃ k, j = k + 1 := ⟨j - 1, by omega⟩
          obtain ⟨x, hx⟩ : ∃ x, D[k]? = some x := ⟨D[k]'(by have := hDl'.out; omega), List.getElem?_eq_getElem _⟩
          obtain ⟨y, hy⟩ : ∃ y, D[k + 1]? = some y := ⟨D[k + 1]'(by have := hDl'.out; omega), List.getElem?_eq_getElem _⟩
          have hcx : wr.cell? ⟨g, k, none⟩ = some (.int .i64 x) := by rw [HM2.out.cellAt k (by omega)]; simp [hx]
          have hcy : wr.cell? ⟨g, k + 1, none⟩ = some (.int .i64 y) := by rw [HM2.out.cellAt (k + 1) (by omega)]; simp [hy]
          have hfx := HM2.out.frozenAt k
          have hfy := HM2.out.frozenAt (k + 1)
          have e1 : ((k + 1 : Nat) : Int) - 1 = (k : Int) := by omega
          have ew : IntKind.i64.wrap (k : Int) = k := IntWalk.i64_in _ ⟨by omega, by omega⟩
          by_cases hl2 : y < x
          · have d1 : decide (y < x) = true := decide_eq_true hl2
            have HX : Hid (sortedBut (swapL D k x y) i k) := but_swap HS2.out hx hy hl2 (by omega)
            have HPX : Hid ((swapL D k x y).Perm L) := (swapL_perm hx hy).trans HP2.out
            clear hx hy
            go_wp2
            go_quiet (first | (go_at_call 71; refine Calls.quiet_of_same (c_cmpLess _ _ _)))
            go_wp2
            go_region
            all_goals go_wp2
            go_roundw
            case rel =>
              have o1 := (ownsRow_drewN HM2.out (nq + 1)).stored (k + 1) (.int .i64 x)
              have o2 := (o1.1).stored k (.int .i64 y)
              have e2 : ((D.map (Value.int .i64)).set (k + 1) (.int .i64 x)).set k (.int .i64 y) = (swapL D k x y).map (Value.int .i64) := by
                unfold swapL; rw [List.map_set, List.map_set]
              have hg := (own_ltN HM2.out).1
              exact ⟨((bel_drews HB2.out _).setCell hg _).setCell hg _, k, swapL D k x y, rfl, by omega, by rw [swapL_len]; exact hDl'.out, HPX, HX, (by rw [← e2]; exact o2.1 : _)⟩
            case measure => simp [intOf]
          · have d1 : decide (y < x) = false := decide_eq_false hl2
            have HO2 : Hid (sortedTo D (i + 1)) := but_done HS2.out hx hy hl2
            clear hx hy
            go_wp2
            go_quiet (first | (go_at_call 71; refine Calls.quiet_of_same (c_cmpLess _ _ _)))
            go_wp2
            go_roundw
            case rel => exact ⟨bel_drews HB2.out _, i + 1, D, by go_num, by omega, by omega, hDl'.out, HP2, HO2, (ownsRow_drewN HM2.out _ : _)⟩
            case measure => simp [intOf]; omega
    · have e : i = n := by omega
      subst e
      go_wp2
      go_end0
      exact ⟨_, rfl, M, HP.out, HS.out, HM.out, HB.out⟩

set_option maxHeartbeats 2000000 in
theorem c_pdq {w : World} {B g n c : Nat} {L : List Int} (lim : Int) (hn : L.length = n) (hl : n ≤ 12) (h1 : 1 ≤ n) (hO : w.ownsRow B 2 1 (.slice (some ⟨g, 0, none⟩) n c) n (L.map (Value.int .i64))) :
    Calls Try.prog 61 #[.slice (some ⟨g, 0, none⟩) n c, .int .i64 0, .int .i64 n, .int .i64 lim] w fun e w' => ∃ r, e = .returned r ∧ ∃ M : List Int, M.Perm L ∧ sortedTo M n ∧ w'.ownsRow B 2 1 (.slice (some ⟨g, 0, none⟩) n c) n (M.map (Value.int .i64)) ∧ Below B w w' := by
  have HO := hide hO
  have HN := hide hn
  clear hO hn
  go_enter Try.func61, Try.ntmps61
  go_wp2
  refine wp_loop_rounds 1 ?_
  rw [rounds_succ]
  go_wp2_with fail
  refine (c_insertion HN.out hl h1 HO.out).mono ?_
  rintro e w1 ⟨r, rfl, M, h1, h2, h3, h4⟩
  have HF := hide (And.intro h1 (And.intro h2 (And.intro h3 h4)))
  clear h1 h2 h3 h4
  go_wp2
  (try simp only [Exit.inBlock, Exit.then]); refine bodyPost_ret (results_none rfl _ _ _) rfl ?_
  exact ⟨_, rfl, M, HF.out.1, HF.out.2.1, HF.out.2.2.1, HF.out.2.2.2⟩

set_option maxHeartbeats 1000000 in
theorem c_SortI {w : World} {B g n c : Nat} {L : List Int} (hn : L.length = n) (hl : n ≤ 12) (h1 : 1 ≤ n) (hO : w.ownsRow B 2 1 (.slice (some ⟨g, 0, none⟩) n c) n (L.map (Value.int .i64))) :
    Calls Try.prog 56 #[.slice (some ⟨g, 0, none⟩) n c] w fun e w' => ∃ r, e = .returned r ∧ ∃ M : List Int, M.Perm L ∧ sortedTo M n ∧ w'.ownsRow B 2 1 (.slice (some ⟨g, 0, none⟩) n c) n (M.map (Value.int .i64)) ∧ Below B w w' := by
  have HO := hide hO
  have HN := hide hn
  clear hO hn
  go_enter Try.func56, Try.ntmps56
  go_wp2_with fail
  refine (c_bitsLen n h1 hl _).mono ?_
  rintro e w1 ⟨v, rfl, hw⟩
  obtain rfl := hw.symm
  clear hw
  go_wp2_with fail
  refine (c_pdq v HN.out hl h1 HO.out).mono ?_
  rintro e w2 ⟨r, rfl, M, h1, h2, h3, h4⟩
  have HF := hide (And.intro h1 (And.intro h2 (And.intro h3 h4)))
  clear h1 h2 h3 h4
  go_wp2
  go_end0
  exact ⟨_, rfl, M, HF.out.1, HF.out.2.1, HF.out.2.2.1, HF.out.2.2.2⟩
end Go.Proofs.Ytmhojmgemiphkaa
