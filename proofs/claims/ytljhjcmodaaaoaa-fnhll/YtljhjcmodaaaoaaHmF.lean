/-
  HllPut of the model.
-/
import Derived.Test.YtljhjcmodaaaoaaHmD
import Derived.Test.YtljhjcmodaaaoaaHmE
namespace Go.Proofs.Ytljhjcmodaaaoaa
set_option linter.unusedVariables false
set_option linter.unusedSimpArgs false
open Go.ChangeShapes Go.WideShapes Go.ChangeAt Go.RowKit Go.PlainAid Go.Maps
set_option maxRecDepth 10000

set_option maxHeartbeats 2000000 in
theorem c_s_HllPut {w : World} {ea ra : Option Addr} {n c m d : Nat} {E R : List Int} (x : Int) (h1 : E.length = n) (h2 : R.length = m) (l1 : n ≤ 1048576) (l2 : m ≤ 1048576) (hcap : n ≤ c) (hcm : c ≤ maxLen) (f1 : Flat ea) (c1 : ea = none → c = 0) (c2 : ra = none → d = 0) (hE : NumsAt .u64 w ea E) (hR : NumsAt .i64 w ra R) (kR : ∀ y ∈ R, I64 y) (u1 : ∀ y ∈ E, U64 y) (ux : U64 x) :
    Calls Try.prog 16 #[.agg #[.slice ea n c, .slice ra m d], .int .u64 x] w fun e w' => ∃ v E' R', e = .returned v ∧ PutH E R x E' R' ∧ HlOut w' w.heap.size v E' R' ∧ Below w.heap.size w w' := by
  have HE := hide hE
  have HR := hide hR
  have F1 := hide f1
  have C1 := hide c1
  have C2 := hide c2
  have H1 := hide h1
  have H2 := hide h2
  have U1 := hide u1
  have UX := hide ux
  have KR := hide kR
  have HCm := hide hcm
  have HBa : Hid (∀ o1 o2, Below w.heap.size w ((w.alloc o1).alloc o2)) := fun o1 o2 => ((Below.refl _ _).alloc (Nat.le_refl _) _).alloc (by simp) _
  clear hE hR f1 c1 c2 h1 h2 u1 ux kR hcm
  go_enter Try.func16, Try.ntmps16
  go_wp2_with fail
  refine (c_s_HllRight H1.out H2.out l1 l2 (nums_past HE.out (HBa.out _ _)) (nums_past HR.out (HBa.out _ _)) KR.out).mono ?_
  rintro e w1 ⟨rfl, hb1⟩
  obtain ⟨⟨x0, x1⟩, hres⟩ := two_cell w _ _ _ _ _ _ w1 hb1
  have hz1 := hb1.size
  have hT1 : Below w.heap.size w w1 := (HBa.out _ _).trans (hb1.mono (by simp; omega))
  simp only [World.size_alloc] at hz1
  have HT1 := hide hT1
  have HRs := hide hres
  clear hb1 hT1 hres
  cases hq : hlB E R with
  | false =>
    have HQ : Hid (PutH E R x E R) := (by unfold PutH; rw [if_neg (by rw [hq]; simp)]; exact ⟨rfl, rfl⟩ : PutH E R x E R)
    go_wp2_with fail
    refine (c_s_CopyH H1.out H2.out l1 l2 C1.out C2.out (nums_past HE.out HT1.out) (nums_past HR.out HT1.out)).mono ?_
    rintro e w2 ⟨v2, rfl, ⟨p, q, rfl, o1, o2⟩, hb2⟩
    have R2 := (hb2.block _ (by omega)).trans HRs.out
    have HT2 := hide (chain HT1.out hb2)
    have HO1 := hide o1
    have HO2 := hide o2
    obtain ⟨a1, c1, rfl⟩ := own_anyH o1
    obtain ⟨a2, c2, rfl⟩ := own_anyH o2
    have q0 : w2.cell? ⟨w.heap.size + 1, 0, none⟩ = some (.slice none 0 0) := by rw [cell_of_row _ _ 0 _ _ (0, 0) R2]; rfl
    have q1 : w2.cell? ⟨w.heap.size + 1, 1, none⟩ = some (.slice none 0 0) := by rw [cell_of_row _ _ 1 _ _ (0, 0) R2]; rfl
    have f0 := frozen_of_row w2 (w.heap.size + 1) 0 _ _ R2
    have f1 := frozen_of_row w2 (w.heap.size + 1) 1 _ _ R2
    clear hb2 o1 o2 R2
    go_wp2
    refine bodyPost_ret (v := .agg #[.slice a1 E.length c1, .slice a2 R.length c2]) (by simp [results, Try.results16, go_sem, q0, q1]) rfl ⟨_, E, R, rfl, HQ.out, ⟨_, _, rfl, ?_, ?_⟩, ?_⟩
    · refine own_le (B := w1.heap.size) ?_ (by omega)
      repeat (refine ownsRow_setCell_below ?_ (by simp; omega) _)
      exact HO1.out
    · refine own_le (B := w1.heap.size) ?_ (by omega)
      repeat (refine ownsRow_setCell_below ?_ (by simp; omega) _)
      exact HO2.out
    · exact (HT2.out.setCell (by simp) _).setCell (by simp) _
  | true =>
    have HQ : Hid (∀ E' R', Mg E R [x] [] E' R' → PutH E R x E' R') := (fun E' R' h => by unfold PutH; rw [if_pos hq]; exact h)
    have HHq := hide hq
    go_wp2_with fail
    refine (c_s_PutH x HHq.out H1.out H2.out hcap HCm.out F1.out C1.out (nums_past HE.out HT1.out) (nums_past HR.out HT1.out) U1.out UX.out).mono ?_
    rintro e w2 ⟨v2, E', R', rfl, hM, ⟨p, q, rfl, o1, o2⟩, hb2⟩
    have R2 := (hb2.block _ (by omega)).trans HRs.out
    have HT2 := hide (chain HT1.out hb2)
    have HO1 := hide o1
    have HO2 := hide o2
    have HF := hide (HQ.out _ _ hM)
    obtain ⟨a1, c1, rfl⟩ := own_anyH o1
    obtain ⟨a2, c2, rfl⟩ := own_anyH o2
    have q0 : w2.cell? ⟨w.heap.size + 1, 0, none⟩ = some (.slice none 0 0) := by rw [cell_of_row _ _ 0 _ _ (0, 0) R2]; rfl
    have q1 : w2.cell? ⟨w.heap.size + 1, 1, none⟩ = some (.slice none 0 0) := by rw [cell_of_row _ _ 1 _ _ (0, 0) R2]; rfl
    have f0 := frozen_of_row w2 (w.heap.size + 1) 0 _ _ R2
    have f1 := frozen_of_row w2 (w.heap.size + 1) 1 _ _ R2
    clear hb2 o1 o2 R2 hM
    go_wp2
    refine bodyPost_ret (v := .agg #[.slice a1 E'.length c1, .slice a2 R'.length c2]) (by simp [results, Try.results16, go_sem, q0, q1]) rfl ⟨_, E', R', rfl, HF.out, ⟨_, _, rfl, ?_, ?_⟩, ?_⟩
    · refine own_le (B := w1.heap.size) ?_ (by omega)
      repeat (refine ownsRow_setCell_below ?_ (by simp; omega) _)
      exact HO1.out
    · refine own_le (B := w1.heap.size) ?_ (by omega)
      repeat (refine ownsRow_setCell_below ?_ (by simp; omega) _)
      exact HO2.out
    · exact (HT2.out.setCell (by simp) _).setCell (by simp) _
end Go.Proofs.Ytljhjcmodaaaoaa
