/-
  What holds of a sketch and of the list of its values while values are put one by one. Of no program.
-/
import Derived.Test.YtjpjjofjjejckaaRankM
namespace Go.Proofs.Ytjpjjofjjejckaa
set_option linter.unusedVariables false
set_option linter.unusedSimpArgs false
open Go.ChangeShapes Go.WideShapes Go.ChangeAt Go.RowKit Go.PlainAid Go.Lib

structure RInv (i : Nat) (z : Int) (P N : List Bn) (l : List Int) : Prop where
  z0 : 0 ≤ z
  gP : Gd P
  gN : Gd N
  lP : P.length ≤ i
  lN : N.length ≤ i
  tot : (expn (ents z P N)).length = i
  prm : (expn (ents z P N)).Perm (l.map fv)
  srt : l.Pairwise (fun a b => a ≤ b)
  bd : ∀ x ∈ l, Vb x
theorem Gd.nil : Gd [] := ⟨rise_nil, fun x hx => by simp at hx⟩
theorem RInv.start : RInv 0 0 [] [] [] := ⟨Int.le_refl _, Gd.nil, Gd.nil, Nat.le_refl _, Nat.le_refl _, rfl, List.Perm.refl _, List.Pairwise.nil, fun x hx => by simp at hx⟩
variable {i : Nat} {z : Int} {P N : List Bn} {l : List Int}
theorem RInv.nn (h : RInv i z P N l) : (∀ x ∈ P, 0 ≤ x.2) ∧ ∀ x ∈ N, 0 ≤ x.2 := ⟨fun x hx => by have := (h.gP.2 x hx).2.2; omega, fun x hx => by have := (h.gN.2 x hx).2.2; omega⟩
theorem RInv.sum (h : RInv i z P N l) : z + wsum P + wsum N = i := by
  rw [← len_ents h.z0 h.nn.1 h.nn.2, h.tot]
theorem RInv.small (h : RInv i z P N l) : z ≤ i ∧ (∀ x ∈ P, x.2 ≤ i) ∧ ∀ x ∈ N, x.2 ≤ i := by
  have h1 := h.sum
  obtain ⟨a1, a2⟩ := wsum_mem h.nn.1
  obtain ⟨b1, b2⟩ := wsum_mem h.nn.2
  have := h.z0
  exact ⟨by omega, fun x hx => by have := a2 x hx; omega, fun x hx => by have := b2 x hx; omega⟩
theorem RInv.right (h : RInv i z P N l) (hi : i ≤ 30) : skB P N = true := by
  unfold skB; rw [h.gP.bins (Nat.le_trans h.lP hi), h.gN.bins (Nat.le_trans h.lN hi)]; rfl
theorem RInv.ok (h : RInv i z P N l) (hi : i ≤ 30) : (∀ x ∈ P, BnOk x) ∧ ∀ x ∈ N, BnOk x := by
  obtain ⟨_, a, b⟩ := h.small
  refine ⟨fun x hx => ?_, fun x hx => ?_⟩
  · have := h.gP.2 x hx; have := a x hx; unfold BnOk I64 U64; omega
  · have := h.gN.2 x hx; have := b x hx; unfold BnOk I64 U64; omega
theorem gat_ins {L : List Bn} {b : Int} (hr : Rise L) (hl : L.length ≤ 29) : gatL L [(b, 1)] = insB (b, 1) L := by
  rw [gat_mrg hr (rise_one _), ← insAll_mrg (rise_one _)]
  show keepL (insB (b, 1) L) = _
  unfold keepL
  rw [if_pos (by have := (ins_len (b, 1) L).2; omega)]
theorem Gd.ins {L : List Bn} {b : Int} (h : Gd L) (hb : 1 ≤ b ∧ b ≤ 6878) (hs : ∀ x ∈ L, x.2 ≤ 900) : Gd (insB (b, 1) L) := by
  refine ⟨ins_rise h.1, fun x hx => ?_⟩
  rcases ins_mem hx with rfl | hx | ⟨y, hy, e, rfl⟩
  · exact ⟨hb.1, hb.2, Int.le_refl _⟩
  · exact h.2 x hx
  · have h1 := h.2 y hy
    have h2 := hs y hy
    refine ⟨h1.1, h1.2.1, ?_⟩
    show 1 ≤ wAdd y.2 1
    rw [wAdd_small (by omega)]; omega
theorem put_pos {v : Int} (h0 : 0 < v) (hP : ∀ x ∈ P, 0 ≤ x.2 ∧ x.2 ≤ 900) : (expn (ents z (insB (binI v, 1) P) N)).Perm (fv v :: expn (ents z P N)) := by
  have h1 := exp_ins lowI (b := binI v) hP
  have e : fv v = lowI (binI v) := if_pos h0
  rw [e]
  unfold ents
  rw [expn_app, expn_app, expn_cons, expn_cons]
  refine (List.Perm.append_left _ (List.Perm.append_left _ h1)).trans ?_
  rw [← List.append_assoc, ← List.append_assoc]
  exact List.perm_middle
theorem put_neg {v : Int} (h0 : v < 0) (hN : ∀ x ∈ N, 0 ≤ x.2 ∧ x.2 ≤ 900) : (expn (ents z P (insB (binI (-v), 1) N))).Perm (fv v :: expn (ents z P N)) := by
  have h1 := exp_ins (fun a => -lowI a) (b := binI (-v)) hN
  have e : fv v = -lowI (binI (-v)) := by unfold fv; rw [if_neg (by omega), if_pos h0]
  rw [e]
  unfold ents
  rw [expn_app, expn_app]
  have h2 := expn_perm ((List.reverse_perm (insB (binI (-v), 1) N)).map fN)
  have h3 := expn_perm ((List.reverse_perm N).map fN)
  have h4 := (h2.trans h1).trans (List.Perm.cons _ h3.symm)
  exact List.Perm.append_right _ h4
theorem put_zero (hz : 0 ≤ z) (h9 : z ≤ 900) : (expn (ents (wAdd z 1) P N)).Perm (fv 0 :: expn (ents z P N)) := by
  unfold ents
  rw [expn_app, expn_app, expn_cons, expn_cons, wAdd_small (by omega)]
  simp only
  rw [show (z + 1).toNat = z.toNat + 1 by omega, List.replicate_succ, List.cons_append]
  exact List.perm_middle
theorem RInv.put {v : Int} {l' : List Int} (h : RInv i z P N l) (hi : i < 20) (hv : Vb v) (hl : l'.Perm (v :: l)) (hs : l'.Pairwise (fun a b => a ≤ b)) : RInv (i + 1) (putZ z v 1) (putP P v 1) (putN N v 1) l' := by
  obtain ⟨s1, s2, s3⟩ := h.small
  have n1 := h.nn
  have z0 := h.z0
  have hbd : ∀ x ∈ l', Vb x := fun x hx => by
    rcases List.mem_cons.1 (hl.subset hx) with rfl | hx
    · exact hv
    · exact h.bd x hx
  have fin : ∀ {z' P' N'}, 0 ≤ z' → Gd P' → Gd N' → P'.length ≤ i + 1 → N'.length ≤ i + 1 → (expn (ents z' P' N')).Perm (fv v :: expn (ents z P N)) → RInv (i + 1) z' P' N' l' := fun a b c d e f =>
    ⟨a, b, c, d, e, by rw [f.length_eq, List.length_cons, h.tot], (f.trans (List.Perm.cons _ h.prm)).trans (hl.map fv).symm, hs, hbd⟩
  obtain ⟨v1, v2⟩ := hv
  have lP := h.lP
  have lN := h.lN
  by_cases c1 : 0 < v
  · have hb := (low_of_bin (v := v) (by omega) v2).2.2.2
    rw [show putZ z v 1 = z from if_neg (by omega), show putN N v 1 = N from if_neg (by omega), show putP P v 1 = gatL P [(binI v, 1)] from if_pos c1, gat_ins h.gP.1 (by omega)]
    exact fin z0 (h.gP.ins hb (fun x hx => by have := s2 x hx; omega)) h.gN (by have := (ins_len (binI v, 1) P).2; omega) (by omega) (put_pos c1 (fun x hx => ⟨n1.1 x hx, by have := s2 x hx; omega⟩))
  · by_cases c2 : v < 0
    · have hb := (low_of_bin (v := -v) (by omega) (by omega)).2.2.2
      rw [show putZ z v 1 = z from if_neg (by omega), show putP P v 1 = P from if_neg (by omega), show putN N v 1 = gatL N [(binI (-v), 1)] from if_pos c2, gat_ins h.gN.1 (by omega)]
      exact fin z0 h.gP (h.gN.ins hb (fun x hx => by have := s3 x hx; omega)) (by omega) (by have := (ins_len (binI (-v), 1) N).2; omega) (put_neg c2 (fun x hx => ⟨n1.2 x hx, by have := s3 x hx; omega⟩))
    · obtain rfl : v = 0 := by omega
      rw [show putZ z 0 1 = wAdd z 1 from if_pos rfl, show putP P 0 1 = P from if_neg (by omega), show putN N 0 1 = N from if_neg (by omega)]
      exact fin (by rw [wAdd_small (by omega)]; omega) h.gP h.gN (by omega) (by omega) (put_zero z0 (by omega))
theorem map_sorted (hs : l.Pairwise (fun a b => a ≤ b)) (hb : ∀ x ∈ l, Vb x) : (l.map fv).Pairwise (fun a b => a ≤ b) := by
  rw [List.pairwise_map]
  exact hs.imp_of_mem fun ha hb' h => fv_mono (hb _ ha) (hb _ hb') h
theorem RInv.weight (h : RInv i z P N l) (hi : i ≤ 30) : skW z P N = i := by
  unfold skW; rw [if_pos (h.right hi), h.sum]
  exact sat_id (by unfold U64; omega)
theorem RInv.len (h : RInv i z P N l) : l.length = i := by rw [← h.tot, h.prm.length_eq, List.length_map]
theorem RInv.rank (h : RInv i z P N l) (hi : i ≤ 30) {j : Nat} {x : Int} (hx : l[j]? = some x) : skR z P N j = fv x := by
  have hj : j < i := by rw [← h.len]; exact (List.getElem?_eq_some_iff.1 hx).1
  have e : expn (ents z P N) = l.map fv := perm_eq h.prm (exp_sorted (ents_pw h.gP h.gN)) (map_sorted h.srt h.bd)
  unfold skR
  rw [h.weight hi, if_neg (by omega)]
  have h1 := rk_exp (ents z P N) 0 j (fun y hy => by
    unfold ents at hy
    rcases List.mem_append.1 hy with hy | hy
    · obtain ⟨x, hx, rfl⟩ := List.mem_map.1 hy; exact h.nn.2 x (List.mem_reverse.1 hx)
    · rcases List.mem_cons.1 hy with rfl | hy
      · exact h.z0
      · obtain ⟨x, hx, rfl⟩ := List.mem_map.1 hy; exact h.nn.1 x hx) (Int.le_refl _) (by omega) (by rw [h.tot]; omega) (by rw [h.tot]; omega)
  rw [e, show ((j : Int) - 0).toNat = j by omega, List.getElem?_map, hx] at h1
  exact (Option.some.inj h1).symm
theorem RInv.over (h : RInv i z P N l) (hi : i ≤ 30) : skR z P N i = 0 := by
  unfold skR; rw [h.weight hi, if_pos (Int.le_refl _)]
/-- A value among those that rise, at its place. -/
theorem ins_place {k : Nat} {v : Int} (hs : l.Pairwise (fun a b => a ≤ b)) (h1 : ∀ x ∈ l.take k, x ≤ v) (h2 : ∀ x ∈ l.drop k, v ≤ x) : (l.take k ++ v :: l.drop k).Pairwise (fun a b => a ≤ b) ∧ (l.take k ++ v :: l.drop k).Perm (v :: l) := by
  constructor
  · rw [List.pairwise_append, List.pairwise_cons]
    refine ⟨hs.take, ⟨h2, hs.drop⟩, fun a ha b hb => ?_⟩
    rcases List.mem_cons.1 hb with rfl | hb
    · exact h1 a ha
    · exact Int.le_trans (h1 a ha) (h2 b hb)
  · exact List.perm_middle.trans (by rw [List.take_append_drop])
end Go.Proofs.Ytjpjjofjjejckaa
