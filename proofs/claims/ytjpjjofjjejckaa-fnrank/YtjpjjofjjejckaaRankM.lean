/-
  A sketch of few values laid out as the list of its values: a put is one value more, in its place; a rank is a place. Of no program.
-/
import Derived.Test.YtjpjjofjjejckaaRankC

import Derived.Test.YtjpjjofjjejckaaSkU
namespace Go.Proofs.Ytjpjjofjjejckaa
set_option linter.unusedVariables false
set_option linter.unusedSimpArgs false
open Go.ChangeShapes Go.WideShapes Go.ChangeAt Go.RowKit Go.PlainAid Go.Lib

/-- Weights and values, laid out. -/
def expn (L : List (Int × Int)) : List Int := L.flatMap fun x => List.replicate x.1.toNat x.2
theorem expn_cons (x : Int × Int) (L : List (Int × Int)) : expn (x :: L) = List.replicate x.1.toNat x.2 ++ expn L := rfl
theorem expn_app (a b : List (Int × Int)) : expn (a ++ b) = expn a ++ expn b := by simp [expn]
theorem expn_perm {a b : List (Int × Int)} (h : a.Perm b) : (expn a).Perm (expn b) := h.flatMap_right _
theorem wAdd_small {a b : Int} (h : a + b ≤ 1000) : wAdd a b = a + b := by unfold wAdd; rw [if_neg (by omega)]
theorem exp_ins (g : Int → Int) {b : Int} : ∀ {L : List Bn}, (∀ x ∈ L, 0 ≤ x.2 ∧ x.2 ≤ 900) → (expn ((insB (b, 1) L).map fun x => (x.2, g x.1))).Perm (g b :: expn (L.map fun x => (x.2, g x.1)))
  | [], _ => by simp [insB, expn]
  | y :: r, h => by
    have hy := h y (List.mem_cons_self ..)
    have ih := exp_ins g (b := b) (L := r) (fun x hx => h x (List.mem_cons_of_mem _ hx))
    unfold insB
    split
    · simp only [List.map_cons, expn_cons]
      exact (List.Perm.append_left _ ih).trans List.perm_middle
    · split
      · rename_i e
        simp only [List.map_cons, expn_cons]
        rw [wAdd_small (by omega), show (y.2 + 1).toNat = y.2.toNat + 1 by omega, List.replicate_succ, e]
        exact List.Perm.refl _
      · simp only [List.map_cons, expn_cons]
        exact List.Perm.refl _
theorem exp_sorted : ∀ {L : List (Int × Int)}, L.Pairwise (fun x y => x.2 ≤ y.2) → (expn L).Pairwise (fun a b => a ≤ b)
  | [], _ => List.Pairwise.nil
  | x :: L, h => by
    rw [List.pairwise_cons] at h
    rw [expn_cons, List.pairwise_append]
    refine ⟨List.pairwise_replicate.2 (.inr (Int.le_refl _)), exp_sorted h.2, fun a ha b hb => ?_⟩
    obtain ⟨y, hy, hb'⟩ := List.mem_flatMap.1 hb
    rw [(List.mem_replicate.1 ha).2, (List.mem_replicate.1 hb').2]
    exact h.1 y hy
theorem perm_eq : ∀ {a b : List Int}, a.Perm b → a.Pairwise (fun x y => x ≤ y) → b.Pairwise (fun x y => x ≤ y) → a = b
  | [], b, h, _, _ => h.nil_eq
  | x :: a, [], h, _, _ => absurd h.symm.nil_eq (by simp)
  | x :: a, y :: b, h, ha, hb => by
    rw [List.pairwise_cons] at ha hb
    have e : x = y := by
      have h1 : x ∈ y :: b := h.subset (List.mem_cons_self ..)
      have h2 : y ∈ x :: a := h.symm.subset (List.mem_cons_self ..)
      rcases List.mem_cons.1 h1 with e | e
      · exact e
      · rcases List.mem_cons.1 h2 with e2 | e2
        · exact e2.symm
        · have := ha.1 y e2; have := hb.1 x e; omega
    subst e
    rw [perm_eq h.cons_inv ha.2 hb.2]
theorem rk_exp : ∀ (L : List (Int × Int)) (g r : Int), (∀ x ∈ L, 0 ≤ x.1) → 0 ≤ g → g ≤ r → r < g + ((expn L).length : Int) → g + ((expn L).length : Int) ≤ 1000 → (expn L)[(r - g).toNat]? = some (rk r g L)
  | [], g, r, _, _, h1, h2, _ => by simp [expn] at h2; omega
  | x :: L, g, r, h, h0, h1, h2, h3 => by
    have hx := h x (List.mem_cons_self ..)
    rw [expn_cons, List.length_append, List.length_replicate] at h2 h3
    unfold rk
    rw [expn_cons, wAdd_small (by omega)]
    split
    · rename_i hlt
      rw [List.getElem?_append_left (by rw [List.length_replicate]; omega), List.getElem?_replicate, if_pos (by omega)]
    · rename_i hge
      have ih := rk_exp L (g + x.1) r (fun y hy => h y (List.mem_cons_of_mem _ hy)) (by omega) (by omega) (by omega) (by omega)
      rw [List.getElem?_append_right (by rw [List.length_replicate]; omega), List.length_replicate, show (r - g).toNat - x.1.toNat = (r - (g + x.1)).toNat by omega, ih]
theorem len_exp (f : Bn → Int × Int) (hf : ∀ x, (f x).1 = x.2) : ∀ {L : List Bn}, (∀ x ∈ L, 0 ≤ x.2) → ((expn (L.map f)).length : Int) = wsum L
  | [], _ => rfl
  | x :: L, h => by
    have hx := h x (List.mem_cons_self ..)
    have ih := len_exp f hf (L := L) (fun y hy => h y (List.mem_cons_of_mem _ hy))
    rw [List.map_cons, expn_cons, List.length_append, List.length_replicate, hf]
    simp only [wsum]
    omega
theorem len_rev (f : Bn → Int × Int) (L : List Bn) : (expn (L.reverse.map f)).length = (expn (L.map f)).length := (expn_perm ((List.reverse_perm L).map f)).length_eq
theorem wsum_mem {L : List Bn} (h : ∀ x ∈ L, 0 ≤ x.2) : 0 ≤ wsum L ∧ ∀ x ∈ L, x.2 ≤ wsum L := by
  induction L with
  | nil => exact ⟨Int.le_refl _, fun x hx => by simp at hx⟩
  | cons y r ih =>
    have hy := h y (List.mem_cons_self ..)
    obtain ⟨i1, i2⟩ := ih (fun x hx => h x (List.mem_cons_of_mem _ hx))
    refine ⟨by simp only [wsum]; omega, fun x hx => ?_⟩
    rcases List.mem_cons.1 hx with e | e
    · subst e; simp only [wsum]; omega
    · have := i2 x e; simp only [wsum]; omega
theorem len_ents {z : Int} {P N : List Bn} (hz : 0 ≤ z) (hP : ∀ x ∈ P, 0 ≤ x.2) (hN : ∀ x ∈ N, 0 ≤ x.2) : ((expn (ents z P N)).length : Int) = z + wsum P + wsum N := by
  have h1 := len_exp fP (fun _ => rfl) hP
  have h2 := len_exp fN (fun _ => rfl) hN
  have h3 := len_rev fN N
  unfold ents
  rw [expn_app, expn_cons, List.length_append, List.length_append, List.length_replicate]
  simp only
  omega
theorem rise_pw : ∀ {L : List Bn}, Rise L → L.Pairwise (fun a b => a.1 < b.1)
  | [], _ => List.Pairwise.nil
  | x :: L, h => List.pairwise_cons.2 ⟨(rise_cons.1 h).1, rise_pw (rise_cons.1 h).2⟩

/-- Bins as they stand in a right sketch. -/
def Gd (L : List Bn) : Prop := Rise L ∧ ∀ x ∈ L, 1 ≤ x.1 ∧ x.1 ≤ 6878 ∧ 1 ≤ x.2
theorem rise_back : ∀ {L : List Bn} {q : Int}, (∀ x ∈ L, q < x.1 ∧ x.1 ≤ 6878 ∧ x.2 ≠ 0) → Rise L → riseB q L = true
  | [], _, _, _ => rfl
  | x :: r, q, h, hr => by
    obtain ⟨h1, h2⟩ := rise_cons.1 hr
    have hx := h x (List.mem_cons_self ..)
    have ih := rise_back (q := x.1) (fun y hy => ⟨h1 y hy, (h y (List.mem_cons_of_mem _ hy)).2⟩) h2
    simp [riseB, hx.1, hx.2.1, hx.2.2, ih]
theorem Gd.bins {L : List Bn} (h : Gd L) (hl : L.length ≤ 30) : binsB L = true := by
  have := rise_back (q := 0) (fun x hx => by have := h.2 x hx; exact ⟨by omega, by omega, by omega⟩) h.1
  simp [binsB, hl, this]
theorem low_up {a b : Int} (h : a ≤ b) (ha : 1 ≤ a) (hb : b ≤ 6878) : lowI a ≤ lowI b := by
  rw [lowI_yes ha (by omega), lowI_yes (by omega) (by omega)]
  have := low_mono a.toNat b.toNat (by omega)
  omega
theorem ents_pw {z : Int} {P N : List Bn} (hP : Gd P) (hN : Gd N) : (ents z P N).Pairwise (fun x y => x.2 ≤ y.2) := by
  unfold ents
  rw [List.pairwise_append, List.pairwise_cons]
  refine ⟨?_, ⟨fun y hy => ?_, ?_⟩, fun a ha b hb => ?_⟩
  · rw [List.pairwise_map, List.pairwise_reverse]
    refine (rise_pw hN.1).imp_of_mem fun {a b} ha hb hlt => ?_
    have := low_up (Int.le_of_lt hlt) (hN.2 a ha).1 (hN.2 b hb).2.1
    simp only [fN]; omega
  · obtain ⟨x, _, rfl⟩ := List.mem_map.1 hy
    exact (lowI_in x.1).1
  · rw [List.pairwise_map]
    refine (rise_pw hP.1).imp_of_mem fun {a b} ha hb hlt => ?_
    exact low_up (Int.le_of_lt hlt) (hP.2 a ha).1 (hP.2 b hb).2.1
  · obtain ⟨x, _, rfl⟩ := List.mem_map.1 ha
    have h1 := (lowI_in x.1).1
    have h2 : 0 ≤ b.2 := by
      rcases List.mem_cons.1 hb with rfl | hb
      · exact Int.le_refl _
      · obtain ⟨y, _, rfl⟩ := List.mem_map.1 hb; exact (lowI_in y.1).1
    simp only [fN]; omega
/-- What stands for a value. -/
def fv (v : Int) : Int := if 0 < v then lowI (binI v) else if v < 0 then -lowI (binI (-v)) else 0
theorem low_of_bin {v : Int} (h1 : 1 ≤ v) (h2 : v ≤ 999999999999999999) : 1 ≤ lowI (binI v) ∧ lowI (binI v) ≤ v ∧ binI (lowI (binI v)) = binI v ∧ 1 ≤ binI v ∧ binI v ≤ 6878 := by
  obtain ⟨n, rfl⟩ : ∃ n : Nat, v = n := ⟨v.toNat, by omega⟩
  have b1 := binW_1 (x := n) (by omega)
  have b2 := binW_in (v := n) (by omega)
  have e : binI n = (binW n : Int) := by rw [binI_yes h1 h2, Int.toNat_natCast]
  have l1 : lowI (binI n) = (lowW (binW n) : Int) := by rw [e, lowI_yes (by omega) (by omega), Int.toNat_natCast]
  have k := low_bin n
  have p : 1 ≤ lowW (binW n) := by
    have := binW_le (lowW (binW n)); rw [bin_low] at this; omega
  refine ⟨by rw [l1]; omega, by rw [l1]; omega, ?_, by rw [e]; omega, by rw [e]; omega⟩
  rw [l1, binI_yes (by omega) (by omega), Int.toNat_natCast, bin_low, e]
theorem bin_up {v u : Int} (h1 : 1 ≤ v) (h2 : u ≤ 999999999999999999) (h : v ≤ u) : binI v ≤ binI u := by
  rw [binI_yes h1 (by omega), binI_yes (by omega) h2]
  have := binW_mono v.toNat u.toNat (by omega)
  omega
/-- Values of this law. -/
def Vb (v : Int) : Prop := -999999999999999999 ≤ v ∧ v ≤ 999999999999999999
theorem fv_mono {u v : Int} (hu : Vb u) (hv : Vb v) (h : u ≤ v) : fv u ≤ fv v := by
  obtain ⟨u1, u2⟩ := hu
  obtain ⟨v1, v2⟩ := hv
  unfold fv
  split
  · rw [if_pos (by omega)]
    exact low_up (bin_up (by omega) v2 h) (low_of_bin (by omega) u2).2.2.2.1 (low_of_bin (by omega) v2).2.2.2.2
  · split
    · have h1 := (lowI_in (binI (-u))).1
      split
      · have := (lowI_in (binI v)).1; omega
      · split
        · have := low_up (bin_up (v := -v) (u := -u) (by omega) (by omega) (by omega)) (low_of_bin (by omega) (by omega)).2.2.2.1 (low_of_bin (by omega) (by omega)).2.2.2.2
          omega
        · omega
    · split
      · exact (lowI_in (binI v)).1
      · rw [if_neg (by omega)]; exact Int.le_refl _
theorem fv_same {v : Int} (hv : Vb v) : binI (fv v) = binI v ∧ binI (-(fv v)) = binI (-v) ∧ ((fv v == 0) = (v == 0)) ∧ Vb (fv v) := by
  obtain ⟨v1, v2⟩ := hv
  unfold fv Vb
  split
  · obtain ⟨a, b, c, _, _⟩ := low_of_bin (v := v) (by omega) v2
    refine ⟨c, by rw [binI_no (by omega), binI_no (by omega)], ?_, by omega, by omega⟩
    rw [beq_eq_false_iff_ne.2 (by omega), beq_eq_false_iff_ne.2 (by omega)]
  · split
    · obtain ⟨a, b, c, _, _⟩ := low_of_bin (v := -v) (by omega) (by omega)
      refine ⟨by rw [binI_no (by omega), binI_no (by omega)], by rw [Int.neg_neg]; exact c, ?_, by omega, by omega⟩
      rw [beq_eq_false_iff_ne.2 (by omega), beq_eq_false_iff_ne.2 (by omega)]
    · have e : v = 0 := by omega
      subst e
      exact ⟨rfl, rfl, rfl, by omega, by omega⟩
end Go.Proofs.Ytjpjjofjjejckaa
