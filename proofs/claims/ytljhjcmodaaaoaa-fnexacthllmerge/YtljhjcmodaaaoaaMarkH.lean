/-
  A sketch of how many written over, and held, as the exact laws do.
-/
import Derived.Test.YtljhjcmodaaaoaaMarkN
import Derived.Test.YtljhjcmodaaaoaaHmF
namespace Go.Proofs.Ytljhjcmodaaaoaa
set_option linter.unusedVariables false
set_option linter.unusedSimpArgs false
open Go.ChangeShapes Go.WideShapes Go.ChangeAt Go.RowKit Go.PlainAid
set_option maxRecDepth 10000

set_option maxHeartbeats 1000000 in
theorem c_markHll {w : World} {B pn nn : Nat} {p n : Value} {P N : List Int} (k0 : Nat) (h0 : 1 ≤ k0) (h1 : k0 ≤ 10000000) (lp : pn ≤ 1048576) (ln : nn ≤ 1048576) (hP : OwnN .u64 34 w B p pn P) (hN : OwnN .i64 2 w B n nn N)  :
    Calls Try.prog 11 #[.agg #[p, n], .int .i64 k0] w fun e w' => e = .returned (.int .i64 ((k0 + pn + nn : Nat) : Int)) ∧ OwnN .u64 34 w' B p pn (mkn k0 pn) ∧ OwnN .i64 2 w' B n nn (mkn (k0 + pn) nn) ∧ Grown2 w w' p.ownBlock n.ownBlock := by
  obtain ⟨ao, c, rfl⟩ := hP.any
  obtain ⟨bo, d, rfl⟩ := hN.any
  have HP := hide hP
  have HN := hide hN
  have HB : Hid (∀ o, Below w.heap.size w (w.alloc o)) := fun o => (Below.refl _ _).alloc (Nat.le_refl _) o
  clear hP hN
  go_enter Try.func11, Try.ntmps11
  go_wp2_with fail
  refine (c_markUint64S k0 h0 (by omega) lp (HP.out.past (HB.out _))).mono ?_
  rintro e w1 ⟨rfl, ho1, hg1⟩
  obtain ⟨k1, hk1⟩ : ∃ k, k0 + pn = k := ⟨_, rfl⟩
  rw [hk1]
  have hbk : ∀ g, (Value.slice ao pn c).ownBlock = some g → g ≠ w.heap.size := fun g hg => by have := (HP.out.lt g hg).2; omega
  have hrow := hg1.block w.heap.size (by simp) (fun e => hbk _ e.symm rfl)
  rw [heap_alloc_new] at hrow
  have x0 : w1.cell? ⟨w.heap.size, 0, none⟩ = some (.slice ao pn c) := by rw [cell_of_row _ _ 0 _ _ (0, 0) hrow]; rfl
  have x1 : w1.cell? ⟨w.heap.size, 1, none⟩ = some (.slice bo nn d) := by rw [cell_of_row _ _ 1 _ _ (0, 0) hrow]; rfl
  have hn1 := (HN.out.past (HB.out (.cells #[.slice ao pn c, .slice bo nn d] 27))).kept hg1 (own_apart HN.out.2 HP.out.2 (by decide))
  have HN1 := hide hn1
  have HO1 := hide ho1
  have HG1 := hide hg1
  have HK1 := hide hk1
  have hk1b : k1 ≤ 20000000 := by omega
  have hk1a : 1 ≤ k1 := by omega
  clear hn1 ho1 hg1 hk1 hrow hbk
  go_wp2_with fail
  refine (c_markInt64S k1 hk1a (by omega) ln HN1.out).mono ?_
  rintro e w2 ⟨rfl, ho2, hg2⟩
  have HO2 := hide ho2
  have HG2 := hide hg2
  clear ho2 hg2
  go_wp2
  go_ret
  refine ⟨by rw [← HK1.out]; rfl, ?_, by rw [HK1.out]; exact HO2.out, ?_⟩
  · exact HO1.out.kept HG2.out (own_apart HO1.out.2 HN1.out.2 (by decide))
  · have b1 := HB.out (.cells #[.slice ao pn c, .slice bo nn d] 27)
    refine ⟨HG2.out.os.trans (HG1.out.os.trans b1.os), HG2.out.tape.trans (HG1.out.tape.trans b1.tape), HG2.out.output.trans (HG1.out.output.trans b1.output), Nat.le_trans b1.size (Nat.le_trans HG1.out.size HG2.out.size), fun k hk e1 e2 => ?_⟩
    rw [HG2.out.block k (Nat.lt_of_lt_of_le hk (Nat.le_trans b1.size HG1.out.size)) e2, HG1.out.block k (Nat.lt_of_lt_of_le hk b1.size) e1]
    exact b1.block k hk

set_option maxHeartbeats 1000000 in
theorem c_heldHll {w : World} {B pn nn : Nat} {p n : Value} (k0 : Nat) (h0 : 1 ≤ k0) (h1 : k0 ≤ 10000000) (lp : pn ≤ 1048576) (ln : nn ≤ 1048576) (hP : OwnN .u64 34 w B p pn (mkn k0 pn)) (hN : OwnN .i64 2 w B n nn (mkn (k0 + pn) nn)) :
    Calls Try.prog 12 #[.agg #[p, n], .int .i64 k0] w fun e w' => e = .returned (.int .i64 ((k0 + pn + nn : Nat) : Int)) ∧ Below w.heap.size w w' := by
  obtain ⟨ao, c, rfl⟩ := hP.any
  obtain ⟨bo, d, rfl⟩ := hN.any
  have HP := hide hP
  have HN := hide hN
  have HB : Hid (∀ o, Below w.heap.size w (w.alloc o)) := fun o => (Below.refl _ _).alloc (Nat.le_refl _) o
  clear hP hN
  go_enter Try.func12, Try.ntmps12
  go_wp2_with fail
  refine (c_heldUint64S k0 h0 (by omega) lp (HP.out.past (HB.out _))).mono ?_
  rintro e w1 ⟨rfl, hb1⟩
  obtain ⟨k1, hk1⟩ : ∃ k, k0 + pn = k := ⟨_, rfl⟩
  rw [hk1]
  have HT1 := hide (chain (HB.out _) hb1)
  obtain ⟨x0, x1⟩ := hl_past (hl_new w _ _ _) hb1
  have hk1b : k1 ≤ 20000000 := by omega
  have hk1a : 1 ≤ k1 := by omega
  have HK1 := hide hk1
  have HN1 : Hid (OwnN .i64 2 w1 B (.slice bo nn d) nn (mkn k1 nn)) := by rw [← hk1]; exact HN.out.past HT1.out
  clear hb1 hk1
  go_wp2_with fail
  refine (c_heldInt64S k1 hk1a (by omega) ln HN1.out).mono ?_
  rintro e w2 ⟨rfl, hb2⟩
  have HT2 := hide (chain HT1.out hb2)
  clear hb2
  obtain ⟨k2, hk2⟩ : ∃ k, k1 + nn = k := ⟨_, rfl⟩
  rw [hk2]
  have HK2 := hide hk2
  clear hk2
  go_wp2
  go_ret
  exact ⟨by rw [HK1.out, HK2.out]; rfl, HT2.out⟩
end Go.Proofs.Ytljhjcmodaaaoaa
