/-
  slices.Sort at uint64, of at most forty numbers, the library's own text walked: what lies in the row; the insertion sort.
-/
import Derived.Test.YtljhjcmodaaaoaaRowsG
import Derived.Test.YtljhjcmodaaaoaaRows
import Derived.Test.YtljhjcmodaaaoaaKeepK
import Derived.Deep.RegionHeld3
import Derived.Sort.AssemblyPlain
namespace Go.Proofs.Ytljhjcmodaaaoaa
set_option linter.unusedVariables false
set_option linter.unusedSimpArgs false
open Go.ChangeShapes Go.WideShapes Go.ChangeAt Go.RowKit Go.PlainAid
open Go.Sort (swp ltInt PermIn SortedIn)
set_option maxRecDepth 10000

theorem c_isNaNU (x : Int) (w : World) :
    Calls Try.prog 85 #[.int .u64 x] w fun e w' => e = .returned (.bool false) ∧ w' = w := by
  go_enter Try.func85, Try.ntmps85
  go_wp2
  go_ret
  exact ⟨rfl, rfl⟩
theorem c_lessU (x y : Int) (w : World) :
    Calls Try.prog 76 #[.int .u64 x, .int .u64 y] w fun e w' => e = .returned (.bool (decide (x < y))) ∧ w' = w := by
  go_enter Try.func76, Try.ntmps76
  go_wp2_with (go_at_call 85; refine (c_isNaNU _ _).mono ?_; rintro e w2 ⟨rfl, hw⟩; obtain rfl := hw.symm)
  go_ret
  exact ⟨rfl, rfl⟩

/-- A row of n numbers that lies in block g. -/
def RowU (w : World) (B g n c : Nat) (D : Array Int) : Prop := D.size = n ∧ w.ownsRow B 34 1 (.slice (some ⟨g, 0, none⟩) n c) n (D.toList.map (Value.int .u64))
theorem RowU.cell {w : World} {B g n c k : Nat} {D : Array Int} {x : Int} (h : RowU w B g n c D) (hk : k < n) (hx : x = D[k]!) : w.cell? ⟨g, k, none⟩ = some (.int .u64 x) := by
  have hs := h.1
  rw [h.2.cellAt k (by omega), hx, getElem!_pos D k (by omega)]
  simp [hs, hk]
theorem RowU.froz {w : World} {B g n c : Nat} {D : Array Int} (h : RowU w B g n c D) (k : Nat) : w.frozen? ⟨g, k, none⟩ = false := h.2.frozenAt k
theorem RowU.drews {w : World} {B g n c : Nat} {D : Array Int} (h : RowU w B g n c D) (m : Nat) : RowU (w.drewN m) B g n c D := h
theorem RowU.lt {w : World} {B g n c : Nat} {D : Array Int} (h : RowU w B g n c D) : B ≤ g ∧ g < w.heap.size := by
  rcases h.2.2 with ⟨e, _⟩ | ⟨g', c', cur, e, h1, h2, _⟩
  · cases e
  · cases e; exact ⟨h1, (Array.getElem?_eq_some_iff.1 h2).1⟩
theorem RowU.swap {w : World} {B g n c i j : Nat} {D : Array Int} {x y : Int} (h : RowU w B g n c D) (hx : x = D[i]!) (hy : y = D[j]!) (m : Nat) :
    RowU (((w.drewN m).setCell ⟨g, i, none⟩ (.int .u64 y)).setCell ⟨g, j, none⟩ (.int .u64 x)) B g n c (swp D i j) := by
  subst hx hy
  have o1 := ((h.drews m).2).stored i (.int .u64 D[j]!)
  have o2 := (o1.1).stored j (.int .u64 D[i]!)
  refine ⟨by simp [swp, h.1], ?_⟩
  have e : ((D.toList.map (Value.int .u64)).set i (.int .u64 D[j]!)).set j (.int .u64 D[i]!) = (swp D i j).toList.map (Value.int .u64) := by
    simp only [swp, Array.toList_setIfInBounds, List.map_set]
  rw [← e]
  exact o2.1
theorem RowU.below {w w' : World} {B K g n c : Nat} {D : Array Int} (h : RowU w B g n c D) (hg : g < K) (hb : Below K w w') : RowU w' B g n c D := by
  refine ⟨h.1, h.2.1, ?_⟩
  rcases h.2.2 with h | ⟨g', cap, cur, e, h1, h2, h3⟩
  · exact .inl h
  · cases e; exact .inr ⟨g, c, cur, rfl, h1, by rw [hb.block g hg]; exact h2, h3⟩
theorem RowU.bel {w w' : World} {B g n c i j : Nat} {D : Array Int} {x y : Value} (h : RowU w' B g n c D) (hb : Below B w w') (m : Nat) : Below B w (((w'.drewN m).setCell ⟨g, i, none⟩ x).setCell ⟨g, j, none⟩ y) :=
  ((bel_drews hb _).setCell h.lt.1 _).setCell h.lt.1 _

theorem RowU.cellS {w : World} {B g n c i j : Nat} {D : Array Int} {y : Int} (h : RowU w B g n c D) (hj : j < n) (hy : y = D[j]!) : (w.setCell ⟨g, i, none⟩ (.int .u64 y)).cell? ⟨g, j, none⟩ = some (.int .u64 y) := by
  have o1 := (h.2.stored i (.int .u64 y)).1
  have hs := h.1
  rw [o1.cellAt j (by omega)]
  by_cases e : i = j
  · subst e
    rw [List.getElem?_set_self (by simp; omega)]
  · rw [List.getElem?_set_ne e, hy, getElem!_pos D j (by omega)]
    simp [hs, hj]
theorem RowU.swap2 {w : World} {B g n c i j : Nat} {D : Array Int} {x y : Int} (h : RowU w B g n c D) (hx : x = D[i]!) (hy : y = D[j]!) (m k : Nat) :
    RowU ((((w.drewN m).drewN k).setCell ⟨g, i, none⟩ (.int .u64 y)).setCell ⟨g, j, none⟩ (.int .u64 x)) B g n c (swp D i j) := (h.drews m).swap hx hy k
theorem RowU.bel2 {w w' : World} {B g n c i j : Nat} {D : Array Int} {x y : Value} (h : RowU w' B g n c D) (hb : Below B w w') (m k : Nat) : Below B w ((((w'.drewN m).drewN k).setCell ⟨g, i, none⟩ x).setCell ⟨g, j, none⟩ y) :=
  (h.drews m).bel (bel_drews hb _) k
theorem ins_stop {a j : Nat} {d : Array Int} (h : j ≤ a) : Go.Sort.insInner ltInt a j d = d := by
  cases j with
  | zero => rfl
  | succ j => rw [Go.Sort.insInner, if_neg (by simp; omega)]
theorem ins_done {a j : Nat} {d : Array Int} {x y : Int} (hx : x = d[j]!) (hy : y = d[j + 1]!) (h : ¬ y < x) : Go.Sort.insInner ltInt a (j + 1) d = d := by
  rw [Go.Sort.insInner, if_neg (by simp only [ltInt, ← hx, ← hy]; simp; omega)]
theorem ins_step {a j : Nat} {d : Array Int} {x y : Int} (hx : x = d[j]!) (hy : y = d[j + 1]!) (ha : a < j + 1) (h : y < x) : Go.Sort.insInner ltInt a (j + 1) d = Go.Sort.insInner ltInt a j (swp d (j + 1) j) := by
  rw [Go.Sort.insInner, if_pos (by simp only [ltInt, ← hx, ← hy]; simp; omega)]
theorem out_step {a b i : Nat} {d : Array Int} (h : i < b) : Go.Sort.insOuter ltInt a b i d = Go.Sort.insOuter ltInt a b (i + 1) (Go.Sort.insInner ltInt a i d) := by
  rw [Go.Sort.insOuter, if_pos h]
theorem out_done {a b i : Nat} {d : Array Int} (h : ¬ i < b) : Go.Sort.insOuter ltInt a b i d = d := by
  rw [Go.Sort.insOuter, if_neg h]

set_option maxHeartbeats 2000000 in
theorem c_insU {w : World} {B g n c a b : Nat} {D : Array Int} (hl : n ≤ 40) (hab : a ≤ b) (hbn : b ≤ n) (hR : RowU w B g n c D) :
    Calls Try.prog 70 #[.slice (some ⟨g, 0, none⟩) n c, .int .i64 a, .int .i64 b] w fun e w' => ∃ r, e = .returned r ∧ ∃ M : Array Int, PermIn a b D M ∧ SortedIn ltInt a b M ∧ RowU w' B g n c M ∧ Below B w w' := by
  have HI := hide (Go.Sort.insertionSort_holds (lt := ltInt) Go.Sort.swo_ltInt D a b hab (by rw [hR.1]; exact hbn))
  have HR := hide hR
  clear hR
  generalize hX : Go.Sort.insertionSort ltInt D a b = X at HI
  have HX : Hid (X = Go.Sort.insOuter ltInt a b (a + 1) D) := hX.symm
  clear hX
  go_enter Try.func70, Try.ntmps70
  go_wp2
  go_loopw [6] (fun vi wr => Below B w wr ∧ ∃ (i : Nat) (M : Array Int), vi = .int .i64 i ∧ a < i ∧ i ≤ n + 1 ∧ Hid (X = Go.Sort.insOuter ltInt a b i M) ∧ Hid (RowU wr B g n c M)) (fun vi wr => n - (intOf vi).toNat)
  case atStart => exact ⟨Below.refl _ _, a + 1, D, by go_num, Nat.lt_succ_self _, by omega, HX, HR⟩
  case round =>
    obtain ⟨hbel, i, M, rfl, hi1, hin, HO, HM⟩ := hrel
    have HB := hide hbel
    clear hbel HX HR
    by_cases hlt : i < b
    · have HO2 : Hid (X = Go.Sort.insOuter ltInt a b (i + 1) (Go.Sort.insInner ltInt a i M)) := HO.out.trans (out_step hlt)
      clear HO
      go_wp2
      go_loopw [7] (fun vj wr2 => Below B w wr2 ∧ ∃ (j : Nat) (N : Array Int), vj = .int .i64 j ∧ a ≤ j ∧ j ≤ i ∧ Hid (X = Go.Sort.insOuter ltInt a b (i + 1) (Go.Sort.insInner ltInt a j N)) ∧ Hid (RowU wr2 B g n c N)) (fun vj wr2 => (intOf vj).toNat)
      case atStart => exact ⟨HB.out, i, M, rfl, by omega, Nat.le_refl _, HO2, HM⟩
      case round =>
        obtain ⟨hbel2, j, N, rfl, hja, hji, HO3, HM2⟩ := hrel
        have HB2 := hide hbel2
        clear hbel2
        by_cases hj0 : j = a
        · subst hj0
          have HO4 : Hid (X = Go.Sort.insOuter ltInt j b (i + 1) N) := by have := HO3.out; rw [ins_stop (Nat.le_refl _)] at this; exact this
          go_wp2
          go_quiet (first | (go_at_call 76; refine Calls.quiet_of_same (c_lessU _ _ _)))
          go_wp2
          go_roundw
          case rel => exact ⟨bel_drews HB2.out _, i + 1, N, by go_num, by omega, by omega, HO4, (HM2.out.drews _ : _)⟩
          case measure => simp [intOf]; omega
        · obtain ⟨k, rfl⟩ : ∃ k, j = k + 1 := ⟨j - 1, by omega⟩
          obtain ⟨x, hx⟩ : ∃ x, x = N[k]! := ⟨_, rfl⟩
          obtain ⟨y, hy⟩ : ∃ y, y = N[k + 1]! := ⟨_, rfl⟩
          have hcx := HM2.out.cell (k := k) (by omega) hx
          have hcy := HM2.out.cell (k := k + 1) (by omega) hy
          have hfx := HM2.out.froz k
          have hfy := HM2.out.froz (k + 1)
          have e1 : ((k + 1 : Nat) : Int) - 1 = (k : Int) := by omega
          have ew : IntKind.i64.wrap (k : Int) = k := IntWalk.i64_in _ ⟨by omega, by omega⟩
          have g1 : (a : Int) < (k : Int) + 1 := by omega
          have g2 : ¬ (k : Int) + 1 ≤ (a : Int) := by omega
          have HXY := hide (And.intro hx hy)
          by_cases hl2 : y < x
          · have d1 : decide (y < x) = true := decide_eq_true hl2
            have HO4 : Hid (X = Go.Sort.insOuter ltInt a b (i + 1) (Go.Sort.insInner ltInt a k (swp N (k + 1) k))) := by have := HO3.out; rw [ins_step hx hy (by omega) hl2] at this; exact this
            clear hx hy HO3
            go_wp2
            go_quiet (first | (go_at_call 76; refine Calls.quiet_of_same (c_lessU _ _ _)))
            go_wp2
            go_region
            all_goals go_wp2
            go_roundw
            case rel => exact ⟨HM2.out.bel HB2.out _, k, swp N (k + 1) k, rfl, by omega, by omega, HO4, (HM2.out.swap HXY.out.2 HXY.out.1 _ : _)⟩
            case measure => simp [intOf]
          · have d1 : decide (y < x) = false := decide_eq_false hl2
            have HO4 : Hid (X = Go.Sort.insOuter ltInt a b (i + 1) N) := by have := HO3.out; rw [ins_done hx hy hl2] at this; exact this
            clear hx hy HO3
            go_wp2
            go_quiet (first | (go_at_call 76; refine Calls.quiet_of_same (c_lessU _ _ _)))
            go_wp2
            go_roundw
            case rel => exact ⟨bel_drews HB2.out _, i + 1, N, by go_num, by omega, by omega, HO4, (HM2.out.drews _ : _)⟩
            case measure => simp [intOf]; omega
    · have HO2 : Hid (X = M) := HO.out.trans (out_done hlt)
      clear HO
      go_wp2
      go_end0
      exact ⟨_, rfl, M, by rw [← HO2.out]; exact HI.out.1, by rw [← HO2.out]; exact HI.out.2, HM.out, HB.out⟩
end Go.Proofs.Ytljhjcmodaaaoaa
