/-
  slices.Sort at uint64, of at most forty numbers: is it sorted already? which one is the pivot?
-/
import Derived.Test.YtljhjcmodaaaoaaSuA
namespace Go.Proofs.Ytljhjcmodaaaoaa
set_option linter.unusedVariables false
set_option linter.unusedSimpArgs false
open Go.ChangeShapes Go.WideShapes Go.ChangeAt Go.RowKit Go.PlainAid
open Go.Sort (swp ltInt PermIn SortedIn)
set_option maxRecDepth 10000

/-- In order from a up to i. -/
def Asc (M : Array Int) (a i : Nat) : Prop := ∀ t, a < t → t < i → M[t - 1]! ≤ M[t]!
theorem Asc.le {M : Array Int} {a b : Nat} (h : Asc M a b) {s : Nat} (hs : a ≤ s) : ∀ t, s ≤ t → t < b → M[s]! ≤ M[t]! := by
  intro t ht
  induction ht with
  | refl => intro _; exact Int.le_refl _
  | @step m hm ih =>
    intro hb
    have h1 := ih (by omega)
    have hm' : s ≤ m := hm
    have h2 := h (m + 1) (by omega) hb
    rw [Nat.add_sub_cancel] at h2
    exact Int.le_trans h1 h2
theorem Asc.sorted {M : Array Int} {a b : Nat} (h : Asc M a b) : SortedIn ltInt a b M := fun i j h1 h2 h3 => by
  have := h.le h1 j (by omega) h3
  simp only [ltInt]
  exact decide_eq_false (by omega)

set_option maxHeartbeats 4000000 in
theorem c_partialU {w : World} {B g n c a b : Nat} {D : Array Int} (hl : n ≤ 40) (hab : a < b) (hbn : b ≤ n) (hR : RowU w B g n c D) :
    Calls Try.prog 75 #[.slice (some ⟨g, 0, none⟩) n c, .int .i64 a, .int .i64 b] w fun e w' => ∃ z : Bool, e = .returned (.bool z) ∧ (z = true → SortedIn ltInt a b D) ∧ ∃ m, w' = w.drewN m := by
  have HR := hide hR
  clear hR
  have hd : decide ((b : Int) - (a : Int) < 50) = true := decide_eq_true (by omega)
  obtain ⟨l, el⟩ : ∃ l, (b : Int) - (a : Int) = l := ⟨_, rfl⟩
  have ul : IntKind.i64.wrap l = l := IntWalk.i64_in _ ⟨by omega, by omega⟩
  have hl50 : l < 50 := by omega
  have HA0 : Hid (Asc D a (a + 1)) := (fun t h1 h2 => absurd h2 (by omega) : Asc D a (a + 1))
  go_enter Try.func75, Try.ntmps75
  go_wp2
  refine wp_loop_rounds 1 ?_
  rw [rounds_succ]
  go_wp2
  go_loopw [7] (fun vi wr => ∃ i m : Nat, vi = .int .i64 i ∧ wr = w.drewN m ∧ a < i ∧ i ≤ b ∧ Hid (Asc D a i)) (fun vi wr => n - (intOf vi).toNat)
  case atStart => exact ⟨a + 1, 0, by go_num, rfl, by omega, by omega, HA0⟩
  case round =>
    clear HA0
    obtain ⟨i, m, rfl, rfl, hai, hib, HA⟩ := hrel
    generalize hW : w.drewN m = W
    have HRW : Hid (RowU W B g n c D) := by rw [← hW]; exact HR.out.drews _
    have HW := hide hW
    clear hW
    by_cases hlt : i < b
    · have d0 : decide ((i : Int) < (b : Int)) = true := decide_eq_true (by omega)
      obtain ⟨k, hk⟩ : ∃ k, i = k + 1 := ⟨i - 1, by omega⟩
      have e1 : (i : Int) - 1 = (k : Int) := by omega
      have ew : IntKind.i64.wrap (k : Int) = k := IntWalk.i64_in _ ⟨by omega, by omega⟩
      obtain ⟨x, hx⟩ : ∃ x, x = D[k]! := ⟨_, rfl⟩
      obtain ⟨y, hy⟩ : ∃ y, y = D[i]! := ⟨_, rfl⟩
      have bk : k < n := by omega
      have bi : i < n := by omega
      have hcx := HRW.out.cell bk hx
      have hcy := HRW.out.cell bi hy
      have hki : k < i := by omega
      by_cases hyx : y < x
      · have d1 : decide (y < x) = true := decide_eq_true hyx
        have dn : ((i : Int) == (b : Int)) = false := beq_eq_false_iff_ne.2 (by omega)
        have HK := hide hk
        clear hx hy hk
        go_wp2
        go_quiet (first | (go_at_call 76; refine Calls.quiet_of_same (c_lessU _ _ _)))
        go_wp2
        go_ret
        exact ⟨false, rfl, (fun h => Bool.noConfusion h), _, (by rw [← HW.out]; exact drews_add _ _ _)⟩
      · have d1 : decide (y < x) = false := decide_eq_false hyx
        have HA2 : Hid (Asc D a (i + 1)) := (fun t h1 h2 => by
          by_cases e : t = i
          · subst e; rw [hk, Nat.add_sub_cancel, ← hx, ← hk, ← hy]; omega
          · exact HA.out t h1 (by omega) : Asc D a (i + 1))
        have HK := hide hk
        clear hx hy hk
        go_wp2
        go_quiet (first | (go_at_call 76; refine Calls.quiet_of_same (c_lessU _ _ _)))
        go_wp2
        go_roundw
        case rel => exact ⟨i + 1, _, by go_num, (by rw [← HW.out]; exact drews_add _ _ _), by omega, by omega, HA2⟩
        case measure => simp [intOf]; omega
    · have hib2 : i = b := by omega
      subst hib2
      have HS := hide HA.out.sorted
      go_wp2
      go_quiet (first | (go_at_call 76; refine Calls.quiet_of_same (c_lessU _ _ _)))
      go_wp2
      go_ret
      exact ⟨true, rfl, (fun _ => HS.out), _, (by rw [← HW.out]; exact drews_add _ _ _)⟩

/-- How many were out of order, as a cell has it. -/
def SwC (w : World) (K : Nat) (s : Int) : Prop := w.cell? ⟨K, 0, none⟩ = some (.int .i64 s) ∧ w.frozen? ⟨K, 0, none⟩ = false ∧ 0 ≤ s ∧ s ≤ 100

theorem SwC.put {w : World} {K : Nat} {s t : Int} (h : SwC w K s) (m : Nat) (h0 : 0 ≤ t) (h1 : t ≤ 100) : SwC ((w.drewN m).setCell ⟨K, 0, none⟩ (.int .i64 t)) K t :=
  ⟨World.cell?_setCell_same (w.drewN m) _ _ h.1, (World.frozen?_setCell _ _ _ _).trans h.2.1, h0, h1⟩
set_option maxHeartbeats 2000000 in
theorem c_order2U {w : World} {B g n c K : Nat} {D : Array Int} (i j : Nat) (s : Int) (hl : n ≤ 40) (hi : i < n) (hj : j < n) (hgK : g < K) (hs9 : s ≤ 90) (hR : RowU w B g n c D) (hS : SwC w K s) :
    Calls Try.prog 86 #[.slice (some ⟨g, 0, none⟩) n c, .int .i64 i, .int .i64 j, .pointer (some ⟨K, 0, none⟩)] w fun e w' => ∃ (x y : Nat) (s' : Int), e = .returned (.tuple #[.int .i64 x, .int .i64 y]) ∧ (x = i ∧ y = j ∨ x = j ∧ y = i) ∧ s ≤ s' ∧ s' ≤ s + 1 ∧ SwC w' K s' ∧ Below K w w' := by
  obtain ⟨x, hx⟩ : ∃ x, x = D[i]! := ⟨_, rfl⟩
  obtain ⟨y, hy⟩ : ∃ y, y = D[j]! := ⟨_, rfl⟩
  have hcx := hR.cell hi hx
  have hcy := hR.cell hj hy
  have HS := hide hS
  obtain ⟨hc, hf, s0, s1⟩ := hS
  have us : IntKind.i64.wrap (s + 1) = s + 1 := IntWalk.i64_in _ ⟨by omega, by omega⟩
  have HR := hide hR
  clear hR hx hy
  by_cases hyx : y < x
  · have d1 : decide (y < x) = true := decide_eq_true hyx
    go_enter Try.func86, Try.ntmps86
    go_wp2
    go_quiet (first | (go_at_call 76; refine Calls.quiet_of_same (c_lessU _ _ _)))
    go_wp2
    go_ret2
    exact ⟨j, i, s + 1, rfl, Or.inr ⟨rfl, rfl⟩, by omega, by omega, HS.out.put _ (by omega) (by omega), by refine Below.setCell (bel_drews (Below.refl K w) _) ?_ _; exact Nat.le_refl K⟩
  · have d1 : decide (y < x) = false := decide_eq_false hyx
    go_enter Try.func86, Try.ntmps86
    go_wp2
    go_quiet (first | (go_at_call 76; refine Calls.quiet_of_same (c_lessU _ _ _)))
    go_wp2
    go_ret2
    exact ⟨i, j, s, rfl, Or.inl ⟨rfl, rfl⟩, by omega, by omega, ⟨hc, hf, by omega, by omega⟩, bel_drews (Below.refl _ _) _⟩

set_option maxHeartbeats 2000000 in
theorem c_medianU {w : World} {B g n c K : Nat} {D : Array Int} (i j k : Nat) (s : Int) (hl : n ≤ 40) (hi : i < n) (hj : j < n) (hk : k < n) (hgK : g < K) (hs9 : s ≤ 80) (hR : RowU w B g n c D) (hS : SwC w K s) :
    Calls Try.prog 84 #[.slice (some ⟨g, 0, none⟩) n c, .int .i64 i, .int .i64 j, .int .i64 k, .pointer (some ⟨K, 0, none⟩)] w fun e w' => ∃ (x : Nat) (s' : Int), e = .returned (.int .i64 x) ∧ (x = i ∨ x = j ∨ x = k) ∧ s ≤ s' ∧ s' ≤ s + 3 ∧ SwC w' K s' ∧ Below K w w' := by
  have HR := hide hR
  have HS := hide hS
  clear hR hS
  go_enter Try.func84, Try.ntmps84
  go_wp2_with fail
  refine (c_order2U i j s hl hi hj hgK (by omega) HR.out HS.out).mono ?_
  rintro e w1 ⟨x1, y1, s1, rfl, hxy1, hs1, hs2, hS1, hb1⟩
  have HR1 := hide (HR.out.below hgK hb1)
  have HS1 := hide hS1
  have HB1 := hide hb1
  have bx1 : x1 < n ∧ y1 < n ∧ (x1 = i ∨ x1 = j) ∧ (y1 = i ∨ y1 = j) := by omega
  have HX1 := hide bx1
  clear hS1 hb1 hxy1 bx1
  go_wp2_with fail
  refine (c_order2U y1 k s1 hl HX1.out.2.1 hk hgK (by omega) HR1.out HS1.out).mono ?_
  rintro e w2 ⟨x2, y2, s2, rfl, hxy2, hs3, hs4, hS2, hb2⟩
  have HR2 := hide (HR1.out.below hgK hb2)
  have HS2 := hide hS2
  have HB2 := hide (HB1.out.trans hb2)
  have bx2 : x2 < n ∧ (x2 = i ∨ x2 = j ∨ x2 = k) := by have := HX1.out; omega
  have HX2 := hide bx2
  clear hS2 hb2 hxy2 bx2
  go_wp2_with fail
  refine (c_order2U x1 x2 s2 hl HX1.out.1 HX2.out.1 hgK (by omega) HR2.out HS2.out).mono ?_
  rintro e w3 ⟨x3, y3, s3, rfl, hxy3, hs5, hs6, hS3, hb3⟩
  have HS3 := hide hS3
  have HB3 := hide (HB2.out.trans hb3)
  have HX3 : Hid (y3 = i ∨ y3 = j ∨ y3 = k) := (by have h1 := HX1.out; have h2 := HX2.out; omega : y3 = i ∨ y3 = j ∨ y3 = k)
  clear hS3 hb3 hxy3
  go_wp2
  go_ret
  exact ⟨y3, s3, rfl, HX3.out, by omega, by omega, HS3.out, HB3.out⟩

set_option maxHeartbeats 2000000 in
theorem c_pivotU {w : World} {B g n c a b : Nat} {D : Array Int} (hl : n ≤ 40) (hab : a + 8 ≤ b) (hbn : b ≤ n) (hR : RowU w B g n c D) :
    Calls Try.prog 73 #[.slice (some ⟨g, 0, none⟩) n c, .int .i64 a, .int .i64 b] w fun e w' => ∃ (x : Nat) (h : Int), e = .returned (.tuple #[.int .i64 x, .int .i64 h]) ∧ a ≤ x ∧ x < b ∧ (h = 0 ∨ h = 1) ∧ Below w.heap.size w w' := by
  have HR := hide hR
  clear hR
  obtain ⟨l, el⟩ : ∃ l, l = b - a := ⟨_, rfl⟩
  have e1 : (b : Int) - (a : Int) = (l : Int) := by omega
  have u1 : IntKind.i64.wrap (l : Int) = l := IntWalk.i64_in _ ⟨by omega, by omega⟩
  obtain ⟨q, eq⟩ : ∃ q, q = l / 4 := ⟨_, rfl⟩
  have e2 : (l : Int).tdiv 4 = (q : Int) := by rw [Int.tdiv_eq_ediv_of_nonneg (by omega)]; omega
  have u2 : IntKind.i64.wrap (q : Int) = q := IntWalk.i64_in _ ⟨by omega, by omega⟩
  have u3 : IntKind.i64.wrap ((q : Int) * 2) = (q : Int) * 2 := IntWalk.i64_in _ ⟨by omega, by omega⟩
  have u4 : IntKind.i64.wrap ((q : Int) * 3) = (q : Int) * 3 := IntWalk.i64_in _ ⟨by omega, by omega⟩
  obtain ⟨i, ei⟩ : ∃ i, i = a + q := ⟨_, rfl⟩
  obtain ⟨j, ej⟩ : ∃ j, j = a + q * 2 := ⟨_, rfl⟩
  obtain ⟨k, ek⟩ : ∃ k, k = a + q * 3 := ⟨_, rfl⟩
  have e3 : (a : Int) + (q : Int) = (i : Int) := by omega
  have e4 : (a : Int) + (q : Int) * 2 = (j : Int) := by omega
  have e5 : (a : Int) + (q : Int) * 3 = (k : Int) := by omega
  have u5 : IntKind.i64.wrap (i : Int) = i := IntWalk.i64_in _ ⟨by omega, by omega⟩
  have u6 : IntKind.i64.wrap (j : Int) = j := IntWalk.i64_in _ ⟨by omega, by omega⟩
  have u7 : IntKind.i64.wrap (k : Int) = k := IntWalk.i64_in _ ⟨by omega, by omega⟩
  have hb : (a ≤ i ∧ i < b) ∧ (a ≤ j ∧ j < b) ∧ (a ≤ k ∧ k < b) := by omega
  have HQ := hide hb
  have d1 : decide ((8 : Int) ≤ (l : Int)) = true := decide_eq_true (by omega)
  have d1N : decide (8 ≤ l) = true := decide_eq_true (by omega)
  have d2 : decide ((50 : Int) ≤ (l : Int)) = false := decide_eq_false (by omega)
  have d2N : decide (50 ≤ l) = false := decide_eq_false (by omega)
  have g1 : 8 ≤ l := by omega
  have g2 : l < 50 := by omega
  have hg := HR.out.lt.2
  clear el eq ei ej ek hb
  go_enter Try.func73, Try.ntmps73
  go_wp2_with fail
  refine (c_medianU i j k 0 hl (by have := HQ.out; omega) (by have := HQ.out; omega) (by have := HQ.out; omega) (K := w.heap.size) hg (by omega) (HR.out.below hg ((Below.refl _ _).alloc (Nat.le_refl _) _)) ⟨by simp, by simp, by omega, by omega⟩).mono ?_
  rintro e w1 ⟨x, s, rfl, hx, hs0, hs1, hS, hb1⟩
  have HT := hide (((Below.refl w.heap.size w).alloc (Nat.le_refl _) (.cells #[.int .i64 0] 3)).trans hb1)
  have HX : Hid (a ≤ x ∧ x < b) := (by have := HQ.out; omega : a ≤ x ∧ x < b)
  obtain ⟨hc, _, _, _⟩ := hS
  clear hb1 hx
  by_cases hz : s = 0
  · subst hz
    go_wp2
    go_ret2
    exact ⟨x, 1, rfl, HX.out.1, HX.out.2, Or.inr rfl, HT.out⟩
  · have hz1 : (s == 0) = false := beq_eq_false_iff_ne.2 hz
    have hz2 : (s == 12) = false := beq_eq_false_iff_ne.2 (by omega)
    have hz3 : ¬ s = 12 := by omega
    go_wp2
    go_ret2
    exact ⟨x, 0, rfl, HX.out.1, HX.out.2, Or.inl rfl, HT.out⟩
end Go.Proofs.Ytljhjcmodaaaoaa
