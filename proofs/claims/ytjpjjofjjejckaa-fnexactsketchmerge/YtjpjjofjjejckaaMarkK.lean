/-
  A sketch written over, and held, as the exact laws do.
-/
import Derived.Test.YtjpjjofjjejckaaMarkB
namespace Go.Proofs.Ytjpjjofjjejckaa
set_option linter.unusedVariables false
set_option linter.unusedSimpArgs false
open Go.ChangeShapes Go.WideShapes Go.ChangeAt Go.RowKit Go.PlainAid Go.Lib
set_option maxRecDepth 10000

/-- Nothing has turned but two blocks. -/
structure Grown2 (w w' : World) (r s : Option Nat) : Prop where
  os : w'.os = w.os
  tape : w'.tape = w.tape
  output : w'.output = w.output
  size : w.heap.size ≤ w'.heap.size
  block : ∀ k, k < w.heap.size → some k ≠ r → some k ≠ s → w'.heap[k]? = w.heap[k]?
theorem OwnB.kept2 {w w' : World} {B : Nat} {v : Value} {n : Nat} {L : List Bn} {r s : Option Nat} (h : OwnB w B v n L) (hg : Grown2 w w' r s) (h1 : ∀ k, v.ownBlock = some k → some k ≠ r ∧ some k ≠ s) : OwnB w' B v n L := by
  refine ⟨h.1, ?_⟩
  rcases h.2 with h | ⟨b, off, c, cur, e, h2, h3, h4⟩
  · exact .inl h
  · obtain ⟨q1, q2⟩ := h1 b (by rw [e]; rfl)
    exact .inr ⟨b, off, c, cur, e, h2, by rw [hg.block b (Array.getElem?_eq_some_iff.1 h3).1 q1 q2]; exact h3, h4⟩
theorem Grown2.below {w0 w w' : World} {B : Nat} {r s : Option Nat} (h : Below B w0 w) (hB : B ≤ w.heap.size) (hg : Grown2 w w' r s) (h1 : ∀ k, r = some k → B ≤ k) (h2 : ∀ k, s = some k → B ≤ k) : Below B w0 w' :=
  ⟨hg.os.trans h.os, hg.tape.trans h.tape, hg.output.trans h.output, Nat.le_trans h.size hg.size, fun k hk => by
    rw [hg.block k (by omega) (fun e => by have := h1 k e.symm; omega) (fun e => by have := h2 k e.symm; omega)]; exact h.block k hk⟩
theorem Grown2.row {w w' : World} {r s : Option Nat} {g : Nat} {o : Obj} (hg : Grown2 w w' r s) (h : w.heap[g]? = some o) (h1 : r ≠ some g) (h2 : s ≠ some g) : w'.heap[g]? = some o := by
  rw [hg.block g (Array.getElem?_eq_some_iff.1 h).1 (fun e => h1 e.symm) (fun e => h2 e.symm)]; exact h

set_option maxHeartbeats 1000000 in
theorem c_markSketch {w : World} {B pn nn : Nat} {z h l : Int} {p n : Value} {P N : List Bn} (k0 : Nat) (h0 : 1 ≤ k0) (h1 : k0 ≤ 10000000) (lp : pn ≤ 1048576) (ln : nn ≤ 1048576) (hP : OwnB w B p pn P) (hN : OwnB w B n nn N) (hap : Apart p n) :
    Calls Try.prog 12 #[.agg #[.int .u64 z, p, n, .int .i64 h, .int .u64 l], .int .i64 k0] w fun e w' => e = .returned (.int .i64 ((k0 + 2 * pn + 2 * nn : Nat) : Int)) ∧ OwnB w' B p pn (mkbs k0 pn) ∧ OwnB w' B n nn (mkbs (k0 + 2 * pn) nn) ∧ Grown2 w w' p.ownBlock n.ownBlock := by
  obtain ⟨ao, c, rfl⟩ := hP.any
  obtain ⟨bo, d, rfl⟩ := hN.any
  have HP := hide hP
  have HN := hide hN
  have HA := hide hap
  have HB : Hid (∀ o, Below w.heap.size w (w.alloc o)) := fun o => (Below.refl _ _).alloc (Nat.le_refl _) o
  clear hP hN hap
  go_enter Try.func12, Try.ntmps12
  go_wp2_with fail
  refine (c_markBinS k0 h0 (by omega) lp (HP.out.past (HB.out _))).mono ?_
  rintro e w1 ⟨rfl, ho1, hg1⟩
  obtain ⟨k1, hk1⟩ : ∃ k, k0 + 2 * pn = k := ⟨_, rfl⟩
  rw [hk1]
  have hbk : ∀ g, (Value.slice ao pn c).ownBlock = some g → g ≠ w.heap.size := fun g hg => by have := (HP.out.lt g hg).2; omega
  have hrow := hg1.block w.heap.size (by simp) (fun e => hbk _ e.symm rfl)
  rw [heap_alloc_new] at hrow
  obtain ⟨x0, x1, x2, x3, x4⟩ := cell5 hrow
  have hn1 := (HN.out.past (HB.out (.cells #[.int .u64 z, .slice ao pn c, .slice bo nn d, .int .i64 h, .int .u64 l] 32))).kept hg1 (by
    cases e : (Value.slice bo nn d).ownBlock with
    | none => exact .inl rfl
    | some q => exact .inr (fun e2 => HA.out q e2.symm e))
  have HN1 := hide hn1
  have HO1 := hide ho1
  have HG1 := hide hg1
  have HK1 := hide hk1
  have hk1b : k1 ≤ 20000000 := by omega
  have hk1a : 1 ≤ k1 := by omega
  clear hn1 ho1 hg1 hk1 hrow hbk
  go_wp2_with fail
  refine (c_markBinS k1 hk1a (by omega) ln HN1.out).mono ?_
  rintro e w2 ⟨rfl, ho2, hg2⟩
  have HO2 := hide ho2
  have HG2 := hide hg2
  clear ho2 hg2
  go_wp2
  go_ret
  refine ⟨by rw [← HK1.out]; rfl, ?_, by rw [HK1.out]; exact HO2.out, ?_⟩
  · exact HO1.out.kept HG2.out (by
      cases e : (Value.slice ao pn c).ownBlock with
      | none => exact .inl rfl
      | some q => exact .inr (fun e2 => HA.out q e e2.symm))
  · have b1 := HB.out (.cells #[.int .u64 z, .slice ao pn c, .slice bo nn d, .int .i64 h, .int .u64 l] 32)
    refine ⟨HG2.out.os.trans (HG1.out.os.trans b1.os), HG2.out.tape.trans (HG1.out.tape.trans b1.tape), HG2.out.output.trans (HG1.out.output.trans b1.output), Nat.le_trans b1.size (Nat.le_trans HG1.out.size HG2.out.size), fun k hk e1 e2 => ?_⟩
    rw [HG2.out.block k (Nat.lt_of_lt_of_le hk (Nat.le_trans b1.size HG1.out.size)) e2, HG1.out.block k (Nat.lt_of_lt_of_le hk b1.size) e1]
    exact b1.block k hk

set_option maxHeartbeats 1000000 in
theorem c_heldSketch {w : World} {B pn nn : Nat} {z h l : Int} {p n : Value} (k0 : Nat) (h0 : 1 ≤ k0) (h1 : k0 ≤ 10000000) (lp : pn ≤ 1048576) (ln : nn ≤ 1048576) (hP : OwnB w B p pn (mkbs k0 pn)) (hN : OwnB w B n nn (mkbs (k0 + 2 * pn) nn)) :
    Calls Try.prog 13 #[.agg #[.int .u64 z, p, n, .int .i64 h, .int .u64 l], .int .i64 k0] w fun e w' => e = .returned (.int .i64 ((k0 + 2 * pn + 2 * nn : Nat) : Int)) ∧ Below w.heap.size w w' := by
  obtain ⟨ao, c, rfl⟩ := hP.any
  obtain ⟨bo, d, rfl⟩ := hN.any
  have HP := hide hP
  have HN := hide hN
  have HB : Hid (∀ o, Below w.heap.size w (w.alloc o)) := fun o => (Below.refl _ _).alloc (Nat.le_refl _) o
  clear hP hN
  go_enter Try.func13, Try.ntmps13
  go_wp2_with fail
  refine (c_heldBinS k0 h0 (by omega) lp (HP.out.past (HB.out _))).mono ?_
  rintro e w1 ⟨rfl, hb1⟩
  obtain ⟨k1, hk1⟩ : ∃ k, k0 + 2 * pn = k := ⟨_, rfl⟩
  rw [hk1]
  have HT1 := hide (chain (HB.out _) hb1)
  obtain ⟨x0, x1, x2, x3, x4⟩ := sk_past (sk_new w _ _ _ _ _ _) hb1
  have hk1b : k1 ≤ 20000000 := by omega
  have hk1a : 1 ≤ k1 := by omega
  have HK1 := hide hk1
  have HN1 : Hid (OwnB w1 B (.slice bo nn d) nn (mkbs k1 nn)) := by rw [← hk1]; exact HN.out.past HT1.out
  clear hb1 hk1
  go_wp2_with fail
  refine (c_heldBinS k1 hk1a (by omega) ln HN1.out).mono ?_
  rintro e w2 ⟨rfl, hb2⟩
  have HT2 := hide (chain HT1.out hb2)
  clear hb2
  obtain ⟨k2, hk2⟩ : ∃ k, k1 + 2 * nn = k := ⟨_, rfl⟩
  rw [hk2]
  have HK2 := hide hk2
  clear hk2
  go_wp2
  go_ret
  exact ⟨by rw [HK1.out, HK2.out]; rfl, HT2.out⟩
end Go.Proofs.Ytjpjjofjjejckaa
