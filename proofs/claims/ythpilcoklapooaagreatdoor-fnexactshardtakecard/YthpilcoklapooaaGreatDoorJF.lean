/-
  slices.Sort at uint64, of at most forty numbers, the library's own text walked: what lies in the row; the insertion sort.
-/
import Derived.Test.YthpilcoklapooaaGreatDoorJA
import Derived.Test.YthpilcoklapooaaGreatDoorRows
import Derived.Test.YthpilcoklapooaaGreatDoorKG
import Derived.Deep.RegionHeld3
import Derived.Sort.AssemblyPlain
import Derived.Sort.Row
namespace Go.Proofs.YthpilcoklapooaaGreatDoor
set_option linter.unusedVariables false
set_option linter.unusedSimpArgs false
open Go.ChangeShapes Go.WideShapes Go.ChangeAt Go.RowKit Go.PlainAid
open Go.Sort (swp ltInt PermIn SortedIn)
set_option maxRecDepth 10000

/-- A row of n numbers that lies in block g. -/
def RowU (w : World) (B g n c : Nat) (D : Array Int) : Prop := D.size = n ∧ w.ownsRow B 23 1 (.slice (some ⟨g, 0, none⟩) n c) n (D.toList.map (Value.int .u64))
theorem RowU.cell {w : World} {B g n c k : Nat} {D : Array Int} {x : Int} (h : RowU w B g n c D) (hk : k < n) (hx : x = D[k]!) : w.cell? ⟨g, k, none⟩ = some (.int .u64 x) := by
  have hs := h.1
  rw [h.2.cellAt k (by omega), hx, getElem!_pos D k (by omega)]
  simp [hs, hk]
theorem RowU.drews {w : World} {B g n c : Nat} {D : Array Int} (h : RowU w B g n c D) (m : Nat) : RowU (w.drewN m) B g n c D := h
theorem RowU.lt {w : World} {B g n c : Nat} {D : Array Int} (h : RowU w B g n c D) : B ≤ g ∧ g < w.heap.size := by
  rcases h.2.2 with ⟨e, _⟩ | ⟨g', c', cur, e, h1, h2, _⟩
  · cases e
  · cases e; exact ⟨h1, (Array.getElem?_eq_some_iff.1 h2).1⟩
theorem RowU.below {w w' : World} {B K g n c : Nat} {D : Array Int} (h : RowU w B g n c D) (hg : g < K) (hb : Below K w w') : RowU w' B g n c D := by
  refine ⟨h.1, h.2.1, ?_⟩
  rcases h.2.2 with h | ⟨g', cap, cur, e, h1, h2, h3⟩
  · exact .inl h
  · cases e; exact .inr ⟨g, c, cur, rfl, h1, by rw [hb.block g hg]; exact h2, h3⟩
theorem RowU.bel {w w' : World} {B g n c i j : Nat} {D : Array Int} {x y : Value} (h : RowU w' B g n c D) (hb : Below B w w') (m : Nat) : Below B w (((w'.drewN m).setCell ⟨g, i, none⟩ x).setCell ⟨g, j, none⟩ y) :=
  ((bel_drews hb _).setCell h.lt.1 _).setCell h.lt.1 _

end Go.Proofs.YthpilcoklapooaaGreatDoor

/-
  slices.Sort at uint64, of at most forty numbers: the heap sort.
-/
namespace Go.Proofs.YthpilcoklapooaaGreatDoor
set_option linter.unusedVariables false
set_option linter.unusedSimpArgs false
open Go.ChangeShapes Go.WideShapes Go.ChangeAt Go.RowKit Go.PlainAid
open Go.Sort (swp ltInt PermIn SortedIn)
set_option maxRecDepth 10000

end Go.Proofs.YthpilcoklapooaaGreatDoor

/-
  slices.Sort at uint64, of at most forty numbers: the partition.
-/
namespace Go.Proofs.YthpilcoklapooaaGreatDoor
set_option linter.unusedVariables false
set_option linter.unusedSimpArgs false
open Go.ChangeShapes Go.WideShapes Go.ChangeAt Go.RowKit Go.PlainAid
open Go.Sort (swp ltInt PermIn SortedIn)
set_option maxRecDepth 10000

theorem swp_at {d : Array Int} {i j t : Nat} (hi : i < d.size) (hj : j < d.size) : (swp d i j)[t]! = if t = j then d[i]! else if t = i then d[j]! else d[t]! := by
  unfold swp
  by_cases h1 : t = j
  · subst h1
    rw [if_pos rfl, Go.Sort.getElem!_set_same _ _ _ (by simpa using hj)]
  · rw [if_neg h1, Go.Sort.getElem!_set_other _ _ _ _ h1]
    by_cases h2 : t = i
    · subst h2
      rw [if_pos rfl, Go.Sort.getElem!_set_same _ _ _ hi]
    · rw [if_neg h2, Go.Sort.getElem!_set_other _ _ _ _ h2]
/-- What the two scans have found: less than p up to i, not less behind j. -/
structure PI (D : Array Int) (a b i j : Nat) (M : Array Int) (p : Int) : Prop where
  perm : PermIn a b D M
  bd : b ≤ D.size
  hp : p = M[a]!
  ai : a < i
  ij : i ≤ j + 1
  jb : j < b
  aj : a ≤ j
  L : ∀ t, a < t → t < i → M[t]! < p
  R : ∀ t, j < t → t < b → ¬ M[t]! < p
theorem PI.start {D : Array Int} {a b q : Nat} (ha : a ≤ q) (hq : q < b) (hb : b ≤ D.size) : PI D a b (a + 1) (b - 1) (swp D a q) (D[q]!) where
  perm := Go.Sort.swp_permIn D a b a q (Nat.le_refl _) (by omega) ha hq hb
  bd := hb
  hp := by
    rw [swp_at (by omega) (by omega)]
    by_cases e : a = q
    · rw [if_pos e, e]
    · rw [if_neg e, if_pos rfl]
  ai := Nat.lt_succ_self _
  ij := by omega
  jb := by omega
  aj := by omega
  L := fun t h1 h2 => absurd h2 (by omega)
  R := fun t h1 h2 => absurd h2 (by omega)
theorem PI.up {D M : Array Int} {a b i j : Nat} {p : Int} (h : PI D a b i j M p) (hij : i ≤ j) (hx : M[i]! < p) : PI D a b (i + 1) j M p :=
  ⟨h.perm, h.bd, h.hp, (by have := h.ai; omega), (by omega), h.jb, h.aj, (fun t h1 h2 => by
      by_cases e : t = i
      · subst e; exact hx
      · exact h.L t h1 (by omega)), h.R⟩
/-- What a partition gives. -/
structure PO (D : Array Int) (a b m : Nat) (M : Array Int) : Prop where
  am : a ≤ m
  mb : m < b
  perm : PermIn a b D M
  L : ∀ t, a ≤ t → t < m → M[t]! < M[m]!
  R : ∀ t, m < t → t < b → ¬ M[t]! < M[m]!
theorem PI.fin {D M : Array Int} {a b i j : Nat} {p : Int} (h : PI D a b i j M p) (hij : ¬ i ≤ j) : PO D a b j (swp M j a) := by
  have hs : M.size = D.size := h.perm.1
  have b1 := h.bd
  have b2 := h.jb
  have b3 := h.ai
  have b4 := h.aj
  have b5 := h.ij
  have em : (swp M j a)[j]! = p := by
    rw [swp_at (by omega) (by omega)]
    by_cases e : j = a
    · rw [if_pos e, e]; exact h.hp.symm
    · rw [if_neg e, if_pos rfl]; exact h.hp.symm
  refine ⟨b4, b2, Go.Sort.permIn_trans _ _ _ _ _ h.perm (Go.Sort.swp_permIn M a b j a b4 b2 (Nat.le_refl _) (by omega) (by omega)), fun t h1 h2 => ?_, fun t h1 h2 => ?_⟩
  · rw [em, swp_at (by omega) (by omega)]
    by_cases e : t = a
    · rw [if_pos e]; exact h.L j (by omega) (by omega)
    · rw [if_neg e, if_neg (by omega)]; exact h.L t (by omega) (by omega)
  · rw [em, swp_at (by omega) (by omega), if_neg (by omega), if_neg (by omega)]
    exact h.R t h1 h2

end Go.Proofs.YthpilcoklapooaaGreatDoor

/-
  slices.Sort at uint64, of at most forty numbers: is it sorted already? which one is the pivot?
-/
namespace Go.Proofs.YthpilcoklapooaaGreatDoor
set_option linter.unusedVariables false
set_option linter.unusedSimpArgs false
open Go.ChangeShapes Go.WideShapes Go.ChangeAt Go.RowKit Go.PlainAid
open Go.Sort (swp ltInt PermIn SortedIn)
set_option maxRecDepth 10000

/-- In order from a up to i. -/
def Asc (M : Array Int) (a i : Nat) : Prop := ∀ t, a < t → t < i → M[t - 1]! ≤ M[t]!
theorem Asc.le {M : Array Int} {a b : Nat} (h : Asc M a b) {s : Nat} (hs : a ≤ s) : ∀ t, s ≤ t → t < b → M[s]! ≤ M[t]! := by
  intro t ht
  induction ht with
  | refl => intro _; exact Int.le_refl _
  | @step m hm ih =>
    intro hb
    have h1 := ih (by omega)
    have hm' : s ≤ m := hm
    have h2 := h (m + 1) (by omega) hb
    rw [Nat.add_sub_cancel] at h2
    exact Int.le_trans h1 h2
theorem Asc.sorted {M : Array Int} {a b : Nat} (h : Asc M a b) : SortedIn ltInt a b M := fun i j h1 h2 h3 => by
  have := h.le h1 j (by omega) h3
  simp only [ltInt]
  exact decide_eq_false (by omega)

/-- How many were out of order, as a cell has it. -/
def SwC (w : World) (K : Nat) (s : Int) : Prop := w.cell? ⟨K, 0, none⟩ = some (.int .i64 s) ∧ w.frozen? ⟨K, 0, none⟩ = false ∧ 0 ≤ s ∧ s ≤ 100

theorem SwC.put {w : World} {K : Nat} {s t : Int} (h : SwC w K s) (m : Nat) (h0 : 0 ≤ t) (h1 : t ≤ 100) : SwC ((w.drewN m).setCell ⟨K, 0, none⟩ (.int .i64 t)) K t :=
  ⟨World.cell?_setCell_same (w.drewN m) _ _ h.1, (World.frozen?_setCell _ _ _ _).trans h.2.1, h0, h1⟩
end Go.Proofs.YthpilcoklapooaaGreatDoor

/-
  slices.Sort at uint64, of at most forty numbers: what stands in a pattern is scattered.
-/
namespace Go.Proofs.YthpilcoklapooaaGreatDoor
set_option linter.unusedVariables false
set_option linter.unusedSimpArgs false
open Go.ChangeShapes Go.WideShapes Go.ChangeAt Go.RowKit Go.PlainAid
open Go.Sort (swp ltInt PermIn SortedIn)
set_option maxRecDepth 10000

/-- What a length's bits come to: between the length and twice it. -/
def LenIs (x : Nat) (v : Nat) : Prop := v ≤ 6 ∧ 2 ^ v ≤ 2 * x ∧ x < 2 ^ v
end Go.Proofs.YthpilcoklapooaaGreatDoor

/-
  slices.Sort at uint64, of at most forty numbers that all differ: the sort itself.
-/
namespace Go.Proofs.YthpilcoklapooaaGreatDoor
set_option linter.unusedVariables false
set_option linter.unusedSimpArgs false
open Go.ChangeShapes Go.WideShapes Go.ChangeAt Go.RowKit Go.PlainAid
open Go.Sort (swp ltInt PermIn SortedIn permIn_all permIn_mono permIn_trans permIn_refl)
set_option maxRecDepth 10000

theorem perm_list {a b : Nat} {d d' : Array Int} (h : PermIn a b d d') (hb : b ≤ d.size) : d'.toList.Perm d.toList := by
  have h1 := permIn_mono d d' a b 0 d.size (Nat.zero_le _) hb (Nat.le_refl _) h
  have h2 := h1.2.2
  have e1 : d.extract 0 d.size = d := by simp
  have e2 : d'.extract 0 d.size = d' := by rw [← h1.1]; simp
  rwa [e1, e2] at h2
/-- Nothing from x on is less than what stands ahead of it. -/
def LowI (x y : Nat) (M : Array Int) : Prop := x = 0 ∨ ∀ i, x ≤ i → i < y → M[x - 1]! ≤ M[i]!
theorem LowI.perm {x y : Nat} {M M1 : Array Int} (h : LowI x y M) (hp : PermIn x y M M1) (hy : y ≤ M.size) : LowI x y M1 := by
  rcases h with h | h
  · exact .inl h
  · by_cases hx : x = 0
    · exact .inl hx
    · refine .inr (fun i h1 h2 => ?_)
      rw [hp.2.1 (x - 1) (by omega)]
      exact permIn_all M M1 x y (fun v => M[x - 1]! ≤ v) hy hp h i h1 h2
theorem LowI.cut {x y m : Nat} {M : Array Int} (h : LowI x y M) (hm : m ≤ y) : LowI x m M := by
  rcases h with h | h
  · exact .inl h
  · exact .inr (fun i h1 h2 => h i h1 (by omega))
theorem join_sorted {x y m : Nat} {N : Array Int} {p : Int} (hm : N[m]! = p) (hL : ∀ i, x ≤ i → i < m → N[i]! < p) (hR : ∀ i, m < i → i < y → p ≤ N[i]!) (sL : SortedIn ltInt x m N) (sR : SortedIn ltInt (m + 1) y N) : SortedIn ltInt x y N := fun i j h1 h2 h3 => by
  rcases Nat.lt_trichotomy j m with hj | hj | hj
  · exact sL i j h1 h2 hj
  · subst hj
    have := hL i h1 h2
    simp only [ltInt]; exact decide_eq_false (by omega)
  · rcases Nat.lt_trichotomy i m with hi | hi | hi
    · have a1 := hL i h1 hi
      have a2 := hR j hj h3
      simp only [ltInt]; exact decide_eq_false (by omega)
    · subst hi
      have a2 := hR j hj h3
      simp only [ltInt]; exact decide_eq_false (by omega)
    · exact sR i j (by omega) h2 h3
/-- What the loop keeps: if x .. y is sorted, all is. -/
structure PQ (D : Array Int) (a b x y : Nat) (M : Array Int) : Prop where
  fin : ∀ M', PermIn x y M M' → SortedIn ltInt x y M' → PermIn a b D M' ∧ SortedIn ltInt a b M'
  nd : M.toList.Nodup
  low : LowI x y M
  ax : a ≤ x
  xy : x ≤ y
  yb : y ≤ b
  bs : b ≤ M.size
theorem PQ.start {D : Array Int} {a b : Nat} (nd : D.toList.Nodup) (low : LowI a b D) (ab : a ≤ b) (bs : b ≤ D.size) : PQ D a b a b D :=
  ⟨fun M' h1 h2 => ⟨h1, h2⟩, nd, low, Nat.le_refl _, ab, Nat.le_refl _, bs⟩
theorem PQ.perm {D M M1 : Array Int} {a b x y : Nat} (h : PQ D a b x y M) (hp : PermIn x y M M1) : PQ D a b x y M1 := by
  have b1 := h.yb
  have b2 := h.bs
  exact ⟨fun M' h1 h2 => h.fin M' (permIn_trans _ _ _ _ _ hp h1) h2, (perm_list hp (by omega)).nodup_iff.2 h.nd, h.low.perm hp (by omega), h.ax, h.xy, h.yb, by rw [hp.1]; exact h.bs⟩
theorem PQ.left {D M M2 M3 : Array Int} {a b x y m : Nat} (h : PQ D a b x y M) (po : PO M x y m M2) (hp : PermIn x m M2 M3) (hs : SortedIn ltInt x m M3) : PQ D a b (m + 1) y M3 := by
  have h2 := h.perm po.perm
  have b1 := h2.yb
  have b2 := h2.bs
  have b3 := po.am
  have b4 := po.mb
  have b5 := h.ax
  have e3 : M3[m]! = M2[m]! := hp.2.1 m (.inr (Nat.le_refl _))
  have l3 : ∀ i, x ≤ i → i < m → M3[i]! < M2[m]! := fun i h1 h2 => permIn_all M2 M3 x m (fun v => v < M2[m]!) (by omega) hp po.L i h1 h2
  have r3 : ∀ i, m < i → i < y → M2[m]! ≤ M3[i]! := fun i h1 h2 => by
    rw [hp.2.1 i (.inr (by omega))]; exact Int.not_lt.1 (po.R i h1 h2)
  refine ⟨fun M' p1 s1 => ?_, (perm_list hp (by omega)).nodup_iff.2 h2.nd, .inr (fun i h1 h2 => ?_), by omega, by omega, b1, by rw [hp.1]; exact b2⟩
  · have em : M'[m]! = M2[m]! := (p1.2.1 m (.inl (by omega))).trans e3
    refine h2.fin M' (permIn_trans _ _ _ _ _ (permIn_mono _ _ _ _ x y (Nat.le_refl _) (by omega) (by omega) hp) (permIn_mono _ _ _ _ x y (by omega) (Nat.le_refl _) (by rw [hp.1]; omega) p1)) ?_
    refine join_sorted em (fun i h1 h2 => ?_) (fun i h1 h2 => ?_) (fun i j h1 h2 h3 => ?_) s1
    · rw [p1.2.1 i (.inl (by omega))]; exact l3 i h1 h2
    · exact permIn_all M3 M' (m + 1) y (fun v => M2[m]! ≤ v) (by rw [hp.1]; omega) p1 (fun i h1 h2 => r3 i (by omega) h2) i (by omega) h2
    · rw [p1.2.1 i (.inl (by omega)), p1.2.1 j (.inl (by omega))]; exact hs i j h1 h2 h3
  · rw [Nat.add_sub_cancel, e3]; exact r3 i (by omega) h2
theorem PQ.right {D M M2 M3 : Array Int} {a b x y m : Nat} (h : PQ D a b x y M) (po : PO M x y m M2) (hp : PermIn (m + 1) y M2 M3) (hs : SortedIn ltInt (m + 1) y M3) : PQ D a b x m M3 := by
  have h2 := h.perm po.perm
  have b1 := h2.yb
  have b2 := h2.bs
  have b3 := po.am
  have b4 := po.mb
  have b5 := h.ax
  have e3 : M3[m]! = M2[m]! := hp.2.1 m (.inl (by omega))
  have l3 : ∀ i, x ≤ i → i < m → M3[i]! < M2[m]! := fun i h1 h2 => by rw [hp.2.1 i (.inl (by omega))]; exact po.L i h1 h2
  have r3 : ∀ i, m < i → i < y → M2[m]! ≤ M3[i]! := fun i h1 h2 => permIn_all M2 M3 (m + 1) y (fun v => M2[m]! ≤ v) (by omega) hp (fun i h1 h2 => Int.not_lt.1 (po.R i (by omega) h2)) i (by omega) h2
  refine ⟨fun M' p1 s1 => ?_, (perm_list hp (by omega)).nodup_iff.2 h2.nd, ?_, b5, by omega, by omega, by rw [hp.1]; exact b2⟩
  · have em : M'[m]! = M2[m]! := (p1.2.1 m (.inr (Nat.le_refl _))).trans e3
    refine h2.fin M' (permIn_trans _ _ _ _ _ (permIn_mono _ _ _ _ x y (by omega) (Nat.le_refl _) (by omega) hp) (permIn_mono _ _ _ _ x y (Nat.le_refl _) (by omega) (by rw [hp.1]; omega) p1)) ?_
    refine join_sorted em (fun i h1 h2 => ?_) (fun i h1 h2 => ?_) s1 (fun i j h1 h2 h3 => ?_)
    · exact permIn_all M3 M' x m (fun v => v < M2[m]!) (by rw [hp.1]; omega) p1 (fun i h1 h2 => l3 i h1 h2) i h1 h2
    · rw [p1.2.1 i (.inr (by omega))]; exact r3 i h1 h2
    · rw [p1.2.1 i (.inr (by omega)), p1.2.1 j (.inr (by omega))]; exact hs i j h1 h2 h3
  · rcases h2.low with h | h
    · exact .inl h
    · by_cases hx : x = 0
      · exact .inl hx
      · refine .inr (fun i h1 h2 => ?_)
        rw [hp.2.1 (x - 1) (.inl (by omega)), hp.2.1 i (.inl (by omega))]
        exact h i h1 (by omega)
theorem nd_ne {M : Array Int} (h : M.toList.Nodup) {i j : Nat} (hi : i < M.size) (hj : j < M.size) (hij : i ≠ j) : M[i]! ≠ M[j]! := by
  rw [getElem!_pos M i hi, getElem!_pos M j hj]
  have hp := List.pairwise_iff_getElem.1 h
  rcases Nat.lt_or_gt_of_ne hij with hlt | hlt
  · have := hp i j (by simpa using hi) (by simpa using hj) hlt
    simpa using this
  · have := hp j i (by simpa using hj) (by simpa using hi) hlt
    intro e; exact this (by simpa using e.symm)
theorem PQ.less {D M : Array Int} {a b x y q : Nat} (h : PQ D a b x y M) (hx : 0 < x) (h1 : x ≤ q) (h2 : q < y) : M[x - 1]! < M[q]! := by
  have b1 := h.yb
  have b2 := h.bs
  have n1 := nd_ne h.nd (i := x - 1) (j := q) (by omega) (by omega) (by omega)
  rcases h.low with hl | hl
  · omega
  · have := hl q h1 h2
    omega

end Go.Proofs.YthpilcoklapooaaGreatDoor
