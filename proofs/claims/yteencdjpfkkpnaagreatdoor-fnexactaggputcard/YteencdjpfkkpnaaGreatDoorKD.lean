/-
  The bins of a sketch written over, and held, as the exact laws do to see whose memory an answer is.
-/
import Derived.Test.YteencdjpfkkpnaaGreatDoorJT
import Derived.Test.YteencdjpfkkpnaaGreatDoorJX
import Derived.Test.YteencdjpfkkpnaaGreatDoorJN
import Derived.Test.YteencdjpfkkpnaaGreatDoorJZ
namespace Go.Proofs.YteencdjpfkkpnaaGreatDoor
set_option linter.unusedVariables false
set_option linter.unusedSimpArgs false
open Go.ChangeShapes Go.WideShapes Go.ChangeAt Go.RowKit Go.PlainAid Go.Lib
set_option maxRecDepth 10000

/-- Two cells of it written. -/
theorem OwnB.put2 {w : World} {B b off c n k : Nat} {L : List Bn} (h : OwnB w B (.slice (some ⟨b, off, none⟩) n c) n L) (hk : k < n) (x : Bn) :
    OwnB ((w.setCell ⟨b, off + k * 2, none⟩ (.int .i64 x.1)).setCell ⟨b, off + k * 2 + 1, none⟩ (.int .u64 x.2)) B (.slice (some ⟨b, off, none⟩) n c) n (L.set k x) := by
  have hl := h.1
  refine ⟨by rw [List.length_set]; exact h.1, ?_⟩
  rcases h.2 with ⟨e, _⟩ | ⟨b', off', c', cur, e, h1, h2, h3⟩
  · cases e
  · cases e
    refine .inr ⟨b, off, c, _, rfl, h1, heap_setCell_same _ b _ _ _ _ (heap_setCell_same w b _ _ _ _ h2), fun j q hq => ?_, h3.2.1, h3.2.2.1, by simpa using h3.2.2.2⟩
    have hj := (List.getElem?_eq_some_iff.1 hq).1
    rw [fl_len encB2, List.length_set] at hj
    obtain ⟨q0, hq0⟩ : ∃ q0, (fl encB L)[j]? = some q0 := ⟨(fl encB L)[j]'(by rw [fl_len encB2]; omega), List.getElem?_eq_getElem _⟩
    have hc := h3.1 j q0 hq0
    have hsz := (Array.getElem?_eq_some_iff.1 hc).1
    rw [← fl_set encB2 L k x (by omega) (rfl : encB x = [.int .i64 x.1, .int .u64 x.2])] at hq
    rw [Array.getElem?_setIfInBounds, Array.getElem?_setIfInBounds]
    rw [List.getElem?_set, List.getElem?_set] at hq
    by_cases c1 : k * 2 + 1 = j
    · rw [if_pos c1, if_pos (by simp [fl_len encB2]; omega)] at hq
      rw [if_pos (by omega), if_pos (by simp; omega)]; exact hq
    · rw [if_neg c1] at hq
      rw [if_neg (by omega)]
      by_cases c2 : k * 2 = j
      · rw [if_pos c2, if_pos (by simp [fl_len encB2]; omega)] at hq
        rw [if_pos (by omega), if_pos (by omega)]; exact hq
      · rw [if_neg c2] at hq
        rw [if_neg (by omega)]
        exact h3.1 j q hq
theorem OwnB.cells {w : World} {B n k : Nat} {v : Value} {L : List Bn} {x : Bn} (h : OwnB w B v n L) (hk : L[k]? = some x) :
    ∃ b off c, v = .slice (some ⟨b, off, none⟩) n c ∧ w.cell? ⟨b, off + k * 2, none⟩ = some (.int .i64 x.1) ∧ w.cell? ⟨b, off + k * 2 + 1, none⟩ = some (.int .u64 x.2) ∧ w.frozen? ⟨b, off + k * 2, none⟩ = false ∧ w.frozen? ⟨b, off + k * 2 + 1, none⟩ = false ∧ b < w.heap.size := by
  have hkl := (List.getElem?_eq_some_iff.1 hk).1
  have hl := h.1
  obtain ⟨ao, c, rfl⟩ := h.any
  obtain ⟨b, off, rfl, hc⟩ := h.at (by omega)
  rcases h.2 with ⟨e, _⟩ | ⟨b', off', c', cur, e, h1, h2, h3⟩
  · cases e
  · cases e
    exact ⟨b, off, c, rfl, (hc k x hk).1, (hc k x hk).2, frozen_of_row w b _ _ _ h2, frozen_of_row w b _ _ _ h2, (Array.getElem?_eq_some_iff.1 h2).1⟩

def mkb (k0 : Nat) (i : Nat) : Bn := (((k0 + 2 * i : Nat) : Int), ((k0 + 2 * i + 1 : Nat) : Int))
def mkbs (k0 n : Nat) : List Bn := (List.range n).map (mkb k0)
theorem mkbs_len (k0 n : Nat) : (mkbs k0 n).length = n := by simp [mkbs]
theorem mkbs_at {k0 n i : Nat} (h : i < n) : (mkbs k0 n)[i]? = some (mkb k0 i) := by simp [mkbs, h]
/-- The first k are written over. -/
def ovb (k0 : Nat) (R : List Bn) (k : Nat) : List Bn := mkbs k0 k ++ R.drop k
theorem ovb_len (k0 : Nat) (R : List Bn) (k : Nat) (hk : k ≤ R.length) : (ovb k0 R k).length = R.length := by simp [ovb, mkbs_len]; omega
theorem ovb_set (k0 : Nat) {R : List Bn} {k : Nat} (hk : k < R.length) : (ovb k0 R k).set k (mkb k0 k) = ovb k0 R (k + 1) := by
  unfold ovb
  rw [List.set_append_right _ _ (by rw [mkbs_len]; omega), mkbs_len, Nat.sub_self]
  have e : R.drop k = R[k] :: R.drop (k + 1) := List.drop_eq_getElem_cons hk
  rw [e, List.set_cons_zero]
  show mkbs k0 k ++ mkb k0 k :: R.drop (k + 1) = (List.range (k + 1)).map (mkb k0) ++ R.drop (k + 1)
  rw [List.range_succ, List.map_append, List.append_assoc]; rfl
theorem ovb_all (k0 : Nat) (R : List Bn) : ovb k0 R R.length = mkbs k0 R.length := by simp [ovb]

set_option maxHeartbeats 1000000 in
theorem c_markBinS {w : World} {B N : Nat} {v : Value} {R : List Bn} (k0 : Nat) (h0 : 1 ≤ k0) (h1 : k0 ≤ 100000000) (hl : N ≤ 1048576) (h : OwnB w B v N R) :
    Calls Tryz.prog 87 #[v, .int .i64 k0] w fun e w' => e = .returned (.int .i64 ((k0 + 2 * N : Nat) : Int)) ∧ OwnB w' B v N (mkbs k0 N) ∧ w.grownBy w' v.ownBlock := by
  obtain ⟨ao, c, rfl⟩ := h.any
  have HO := hide h
  have HN := hide h.1
  clear h
  go_enter Tryz.func87, Tryz.ntmps87
  go_wp2
  go_loopw [1, 5] (fun m i wr => w.grownBy wr (Value.slice ao N c).ownBlock ∧ ∃ (k : Nat), k ≤ N ∧ i = .int .i64 k ∧ m = .int .i64 ((k0 + 2 * k : Nat) : Int) ∧ OwnB wr B (.slice ao N c) N (ovb k0 R k)) (fun m i wr => N - (RowKit.intOf i).toNat)
  case atStart => exact ⟨World.grownBy.refl _ _, 0, Nat.zero_le _, rfl, rfl, HO.out⟩
  case round =>
    obtain ⟨hg, k, hk, rfl, rfl, hown⟩ := hrel
    have HG := hide hg
    have HW := hide hown
    obtain ⟨K, hK⟩ : ∃ K, k0 + 2 * k = K := ⟨_, rfl⟩
    rw [hK]
    have HK := hide hK
    have hKb : K ≤ 200000000 := by omega
    have hK1 : 1 ≤ K := by omega
    by_cases hkn : k < N
    · obtain ⟨⟨a, u⟩, hRk⟩ : ∃ a, (ovb k0 R k)[k]? = some a := ⟨(ovb k0 R k)[k]'(by have := HN.out; rw [ovb_len _ _ _ (by omega)]; omega), List.getElem?_eq_getElem _⟩
      obtain ⟨g, off, cc, e, hc0, hc1, hf0, hf1, hgz⟩ := hown.cells hRk
      cases e
      have ewk : IntKind.u64.wrap ((K : Int) + 1) = (K : Int) + 1 := by rw [IntKind.wrap_u64]; omega
      have hs := hown.put2 hkn (mkb k0 k)
      rw [ovb_set k0 (by have := HN.out; omega), show mkb k0 k = ((K : Int), ((K : Int) + 1)) by unfold mkb; rw [hK]; rfl] at hs
      have HS := hide hs
      have hf1' : (wr.setCell ⟨g, off + k * 2, none⟩ (.int .i64 K)).frozen? ⟨g, off + k * 2 + 1, none⟩ = false := by
        rcases hown.2 with ⟨e, _⟩ | ⟨b', off', c', cur, e, h1, h2, h3⟩
        · cases e
        · cases e
          exact frozen_of_row _ g _ _ _ (heap_setCell_same wr g _ _ _ _ h2)
      clear hg hown hK hRk hs
      go_wp2
      go_roundw
      case rel =>
        have e1 := HK.out
        exact ⟨(HG.out.trans (grown_one _ _ _ _)).trans (grown_one _ _ _ _), k + 1, by omega, by go_num, by go_num, HS.out⟩
      case measure => simp [RowKit.intOf]; omega
    · have e : k = N := by omega
      have HE : Hid ((K : Int) = ((k0 + 2 * N : Nat) : Int)) := (by omega : (K : Int) = ((k0 + 2 * N : Nat) : Int))
      have HF : Hid (OwnB wr B (.slice ao N c) N (mkbs k0 N)) := by
        rw [e, show ovb k0 R N = mkbs k0 N by rw [HN.out]; exact ovb_all _ _] at hown; exact hown
      clear hg hown hK e
      go_wp2
      go_ret
      exact ⟨by rw [← HE.out]; rfl, HF.out, HG.out⟩

set_option maxHeartbeats 1000000 in
theorem c_heldBinS {w : World} {B N : Nat} {v : Value} (k0 : Nat) (h0 : 1 ≤ k0) (h1 : k0 ≤ 100000000) (hl : N ≤ 1048576) (h : OwnB w B v N (mkbs k0 N)) :
    Calls Tryz.prog 90 #[v, .int .i64 k0] w fun e w' => e = .returned (.int .i64 ((k0 + 2 * N : Nat) : Int)) ∧ Below w.heap.size w w' := by
  obtain ⟨ao, c, rfl⟩ := h.any
  have HO := hide h
  clear h
  go_enter Tryz.func90, Tryz.ntmps90
  go_wp2
  go_loopw [1, 5] (fun m i wr => Below w.heap.size w wr ∧ ∃ (k : Nat), k ≤ N ∧ i = .int .i64 k ∧ m = .int .i64 ((k0 + 2 * k : Nat) : Int)) (fun m i wr => N - (RowKit.intOf i).toNat)
  case atStart => exact ⟨Below.refl _ _, 0, Nat.zero_le _, rfl, rfl⟩
  case round =>
    obtain ⟨hbel, k, hk, rfl, rfl⟩ := hrel
    have HB := hide hbel
    obtain ⟨K, hK⟩ : ∃ K, k0 + 2 * k = K := ⟨_, rfl⟩
    rw [hK]
    have HK := hide hK
    have hKb : K ≤ 200000000 := by omega
    have hK1 : 1 ≤ K := by omega
    by_cases hkn : k < N
    · have hRk : (mkbs k0 N)[k]? = some ((K : Int), (K : Int) + 1) := by rw [mkbs_at hkn]; unfold mkb; rw [hK]; rfl
      obtain ⟨g, off, cc, e, hc0, hc1, hf0, hf1, hgz⟩ := (HO.out.past hbel).cells hRk
      cases e
      have ewk : IntKind.u64.wrap ((K : Int) + 1) = (K : Int) + 1 := by rw [IntKind.wrap_u64]; omega
      clear hbel hRk hK
      go_wp2
      go_roundw
      case rel => have := HK.out; exact ⟨HB.out, k + 1, by omega, by go_num, by go_num⟩
      case measure => simp [RowKit.intOf]; omega
    · have e : k = N := by omega
      have HE : Hid ((K : Int) = ((k0 + 2 * N : Nat) : Int)) := (by omega : (K : Int) = ((k0 + 2 * N : Nat) : Int))
      clear hbel hK e
      go_wp2
      go_ret
      exact ⟨by rw [← HE.out]; rfl, HB.out⟩
end Go.Proofs.YteencdjpfkkpnaaGreatDoor

/-
  A sketch written over, and held, as the exact laws do.
-/
namespace Go.Proofs.YteencdjpfkkpnaaGreatDoor
set_option linter.unusedVariables false
set_option linter.unusedSimpArgs false
open Go.ChangeShapes Go.WideShapes Go.ChangeAt Go.RowKit Go.PlainAid Go.Lib
set_option maxRecDepth 10000

set_option maxHeartbeats 1000000 in
theorem c_markSketch {w : World} {B pn nn : Nat} {z h l : Int} {p n : Value} {P N : List Bn} (k0 : Nat) (h0 : 1 ≤ k0) (h1 : k0 ≤ 50000000) (lp : pn ≤ 1048576) (ln : nn ≤ 1048576) (hP : OwnB w B p pn P) (hN : OwnB w B n nn N) (hap : Apart p n) :
    Calls Tryz.prog 39 #[.agg #[.int .u64 z, p, n, .int .i64 h, .int .u64 l], .int .i64 k0] w fun e w' => e = .returned (.int .i64 ((k0 + 2 * pn + 2 * nn : Nat) : Int)) ∧ OwnB w' B p pn (mkbs k0 pn) ∧ OwnB w' B n nn (mkbs (k0 + 2 * pn) nn) ∧ Grown2 w w' p.ownBlock n.ownBlock := by
  obtain ⟨ao, c, rfl⟩ := hP.any
  obtain ⟨bo, d, rfl⟩ := hN.any
  have HP := hide hP
  have HN := hide hN
  have HA := hide hap
  have HB : Hid (∀ o, Below w.heap.size w (w.alloc o)) := fun o => (Below.refl _ _).alloc (Nat.le_refl _) o
  clear hP hN hap
  go_enter Tryz.func39, Tryz.ntmps39
  go_wp2_with fail
  refine (c_markBinS k0 h0 (by omega) lp (HP.out.past (HB.out _))).mono ?_
  rintro e w1 ⟨rfl, ho1, hg1⟩
  obtain ⟨k1, hk1⟩ : ∃ k, k0 + 2 * pn = k := ⟨_, rfl⟩
  rw [hk1]
  have hbk : ∀ g, (Value.slice ao pn c).ownBlock = some g → g ≠ w.heap.size := fun g hg => by have := (HP.out.lt g hg).2; omega
  have hrow := hg1.block w.heap.size (by simp) (fun e => hbk _ e.symm rfl)
  rw [heap_alloc_new] at hrow
  obtain ⟨x0, x1, x2, x3, x4⟩ := cell5 hrow
  have hn1 := (HN.out.past (HB.out (.cells #[.int .u64 z, .slice ao pn c, .slice bo nn d, .int .i64 h, .int .u64 l] 41))).kept hg1 (by
    cases e : (Value.slice bo nn d).ownBlock with
    | none => exact .inl rfl
    | some q => exact .inr (fun e2 => HA.out q e2.symm e))
  have HN1 := hide hn1
  have HO1 := hide ho1
  have HG1 := hide hg1
  have HK1 := hide hk1
  have hk1b : k1 ≤ 60000000 := by omega
  have hk1a : 1 ≤ k1 := by omega
  clear hn1 ho1 hg1 hk1 hrow hbk
  go_wp2_with fail
  refine (c_markBinS k1 hk1a (by omega) ln HN1.out).mono ?_
  rintro e w2 ⟨rfl, ho2, hg2⟩
  have HO2 := hide ho2
  have HG2 := hide hg2
  clear ho2 hg2
  go_wp2
  go_ret
  refine ⟨by rw [← HK1.out]; rfl, ?_, by rw [HK1.out]; exact HO2.out, ?_⟩
  · exact HO1.out.kept HG2.out (by
      cases e : (Value.slice ao pn c).ownBlock with
      | none => exact .inl rfl
      | some q => exact .inr (fun e2 => HA.out q e e2.symm))
  · have b1 := HB.out (.cells #[.int .u64 z, .slice ao pn c, .slice bo nn d, .int .i64 h, .int .u64 l] 41)
    refine ⟨HG2.out.os.trans (HG1.out.os.trans b1.os), HG2.out.tape.trans (HG1.out.tape.trans b1.tape), HG2.out.output.trans (HG1.out.output.trans b1.output), Nat.le_trans b1.size (Nat.le_trans HG1.out.size HG2.out.size), fun k hk e1 e2 => ?_⟩
    rw [HG2.out.block k (Nat.lt_of_lt_of_le hk (Nat.le_trans b1.size HG1.out.size)) e2, HG1.out.block k (Nat.lt_of_lt_of_le hk b1.size) e1]
    exact b1.block k hk

set_option maxHeartbeats 1000000 in
theorem c_heldSketch {w : World} {B pn nn : Nat} {z h l : Int} {p n : Value} (k0 : Nat) (h0 : 1 ≤ k0) (h1 : k0 ≤ 50000000) (lp : pn ≤ 1048576) (ln : nn ≤ 1048576) (hP : OwnB w B p pn (mkbs k0 pn)) (hN : OwnB w B n nn (mkbs (k0 + 2 * pn) nn)) :
    Calls Tryz.prog 41 #[.agg #[.int .u64 z, p, n, .int .i64 h, .int .u64 l], .int .i64 k0] w fun e w' => e = .returned (.int .i64 ((k0 + 2 * pn + 2 * nn : Nat) : Int)) ∧ Below w.heap.size w w' := by
  obtain ⟨ao, c, rfl⟩ := hP.any
  obtain ⟨bo, d, rfl⟩ := hN.any
  have HP := hide hP
  have HN := hide hN
  have HB : Hid (∀ o, Below w.heap.size w (w.alloc o)) := fun o => (Below.refl _ _).alloc (Nat.le_refl _) o
  clear hP hN
  go_enter Tryz.func41, Tryz.ntmps41
  go_wp2_with fail
  refine (c_heldBinS k0 h0 (by omega) lp (HP.out.past (HB.out _))).mono ?_
  rintro e w1 ⟨rfl, hb1⟩
  obtain ⟨k1, hk1⟩ : ∃ k, k0 + 2 * pn = k := ⟨_, rfl⟩
  rw [hk1]
  have HT1 := hide (chain (HB.out _) hb1)
  obtain ⟨x0, x1, x2, x3, x4⟩ := sk_past (sk_new w _ _ _ _ _ _) hb1
  have hk1b : k1 ≤ 60000000 := by omega
  have hk1a : 1 ≤ k1 := by omega
  have HK1 := hide hk1
  have HN1 : Hid (OwnB w1 B (.slice bo nn d) nn (mkbs k1 nn)) := by rw [← hk1]; exact HN.out.past HT1.out
  clear hb1 hk1
  go_wp2_with fail
  refine (c_heldBinS k1 hk1a (by omega) ln HN1.out).mono ?_
  rintro e w2 ⟨rfl, hb2⟩
  have HT2 := hide (chain HT1.out hb2)
  clear hb2
  obtain ⟨k2, hk2⟩ : ∃ k, k1 + 2 * nn = k := ⟨_, rfl⟩
  rw [hk2]
  have HK2 := hide hk2
  clear hk2
  go_wp2
  go_ret
  exact ⟨by rw [HK1.out, HK2.out]; rfl, HT2.out⟩
end Go.Proofs.YteencdjpfkkpnaaGreatDoor

/-
  A sketch of how many written over, and held, as the exact laws do.
-/
namespace Go.Proofs.YteencdjpfkkpnaaGreatDoor
set_option linter.unusedVariables false
set_option linter.unusedSimpArgs false
open Go.ChangeShapes Go.WideShapes Go.ChangeAt Go.RowKit Go.PlainAid
set_option maxRecDepth 10000

set_option maxHeartbeats 1000000 in
theorem c_markHll {w : World} {B pn nn : Nat} {p n : Value} {P N : List Int} (k0 : Nat) (h0 : 1 ≤ k0) (h1 : k0 ≤ 50000000) (lp : pn ≤ 1048576) (ln : nn ≤ 1048576) (hP : OwnN .u64 22 w B p pn P) (hN : OwnN .i64 2 w B n nn N)  :
    Calls Tryz.prog 40 #[.agg #[p, n], .int .i64 k0] w fun e w' => e = .returned (.int .i64 ((k0 + pn + nn : Nat) : Int)) ∧ OwnN .u64 22 w' B p pn (mkn k0 pn) ∧ OwnN .i64 2 w' B n nn (mkn (k0 + pn) nn) ∧ Grown2 w w' p.ownBlock n.ownBlock := by
  obtain ⟨ao, c, rfl⟩ := hP.any
  obtain ⟨bo, d, rfl⟩ := hN.any
  have HP := hide hP
  have HN := hide hN
  have HB : Hid (∀ o, Below w.heap.size w (w.alloc o)) := fun o => (Below.refl _ _).alloc (Nat.le_refl _) o
  clear hP hN
  go_enter Tryz.func40, Tryz.ntmps40
  go_wp2_with fail
  refine (c_markUint64S k0 h0 (by omega) lp (HP.out.past (HB.out _))).mono ?_
  rintro e w1 ⟨rfl, ho1, hg1⟩
  obtain ⟨k1, hk1⟩ : ∃ k, k0 + pn = k := ⟨_, rfl⟩
  rw [hk1]
  have hbk : ∀ g, (Value.slice ao pn c).ownBlock = some g → g ≠ w.heap.size := fun g hg => by have := (HP.out.lt g hg).2; omega
  have hrow := hg1.block w.heap.size (by simp) (fun e => hbk _ e.symm rfl)
  rw [heap_alloc_new] at hrow
  have x0 : w1.cell? ⟨w.heap.size, 0, none⟩ = some (.slice ao pn c) := by rw [cell_of_row _ _ 0 _ _ (0, 0) hrow]; rfl
  have x1 : w1.cell? ⟨w.heap.size, 1, none⟩ = some (.slice bo nn d) := by rw [cell_of_row _ _ 1 _ _ (0, 0) hrow]; rfl
  have hn1 := (HN.out.past (HB.out (.cells #[.slice ao pn c, .slice bo nn d] 42))).kept hg1 (own_apart HN.out.2 HP.out.2 (by decide))
  have HN1 := hide hn1
  have HO1 := hide ho1
  have HG1 := hide hg1
  have HK1 := hide hk1
  have hk1b : k1 ≤ 60000000 := by omega
  have hk1a : 1 ≤ k1 := by omega
  clear hn1 ho1 hg1 hk1 hrow hbk
  go_wp2_with fail
  refine (c_markInt64S k1 hk1a (by omega) ln HN1.out).mono ?_
  rintro e w2 ⟨rfl, ho2, hg2⟩
  have HO2 := hide ho2
  have HG2 := hide hg2
  clear ho2 hg2
  go_wp2
  go_ret
  refine ⟨by rw [← HK1.out]; rfl, ?_, by rw [HK1.out]; exact HO2.out, ?_⟩
  · exact HO1.out.kept HG2.out (own_apart HO1.out.2 HN1.out.2 (by decide))
  · have b1 := HB.out (.cells #[.slice ao pn c, .slice bo nn d] 42)
    refine ⟨HG2.out.os.trans (HG1.out.os.trans b1.os), HG2.out.tape.trans (HG1.out.tape.trans b1.tape), HG2.out.output.trans (HG1.out.output.trans b1.output), Nat.le_trans b1.size (Nat.le_trans HG1.out.size HG2.out.size), fun k hk e1 e2 => ?_⟩
    rw [HG2.out.block k (Nat.lt_of_lt_of_le hk (Nat.le_trans b1.size HG1.out.size)) e2, HG1.out.block k (Nat.lt_of_lt_of_le hk b1.size) e1]
    exact b1.block k hk

set_option maxHeartbeats 1000000 in
theorem c_heldHll {w : World} {B pn nn : Nat} {p n : Value} (k0 : Nat) (h0 : 1 ≤ k0) (h1 : k0 ≤ 50000000) (lp : pn ≤ 1048576) (ln : nn ≤ 1048576) (hP : OwnN .u64 22 w B p pn (mkn k0 pn)) (hN : OwnN .i64 2 w B n nn (mkn (k0 + pn) nn)) :
    Calls Tryz.prog 42 #[.agg #[p, n], .int .i64 k0] w fun e w' => e = .returned (.int .i64 ((k0 + pn + nn : Nat) : Int)) ∧ Below w.heap.size w w' := by
  obtain ⟨ao, c, rfl⟩ := hP.any
  obtain ⟨bo, d, rfl⟩ := hN.any
  have HP := hide hP
  have HN := hide hN
  have HB : Hid (∀ o, Below w.heap.size w (w.alloc o)) := fun o => (Below.refl _ _).alloc (Nat.le_refl _) o
  clear hP hN
  go_enter Tryz.func42, Tryz.ntmps42
  go_wp2_with fail
  refine (c_heldUint64S k0 h0 (by omega) lp (HP.out.past (HB.out _))).mono ?_
  rintro e w1 ⟨rfl, hb1⟩
  obtain ⟨k1, hk1⟩ : ∃ k, k0 + pn = k := ⟨_, rfl⟩
  rw [hk1]
  have HT1 := hide (chain (HB.out _) hb1)
  obtain ⟨x0, x1⟩ := hl_past (hl_new w _ _ _) hb1
  have hk1b : k1 ≤ 60000000 := by omega
  have hk1a : 1 ≤ k1 := by omega
  have HK1 := hide hk1
  have HN1 : Hid (OwnN .i64 2 w1 B (.slice bo nn d) nn (mkn k1 nn)) := by rw [← hk1]; exact HN.out.past HT1.out
  clear hb1 hk1
  go_wp2_with fail
  refine (c_heldInt64S k1 hk1a (by omega) ln HN1.out).mono ?_
  rintro e w2 ⟨rfl, hb2⟩
  have HT2 := hide (chain HT1.out hb2)
  clear hb2
  obtain ⟨k2, hk2⟩ : ∃ k, k1 + nn = k := ⟨_, rfl⟩
  rw [hk2]
  have HK2 := hide hk2
  clear hk2
  go_wp2
  go_ret
  exact ⟨by rw [HK1.out, HK2.out]; rfl, HT2.out⟩
end Go.Proofs.YteencdjpfkkpnaaGreatDoor

/-
  An Agg's lists written over, and held, as the exact laws do; worlds where nothing has turned but some blocks.
-/
namespace Go.Proofs.YteencdjpfkkpnaaGreatDoor
set_option linter.unusedVariables false
set_option linter.unusedSimpArgs false
open Go.ChangeShapes Go.WideShapes Go.ChangeAt Go.RowKit Go.PlainAid
set_option maxRecDepth 10000

/-- Nothing has turned but some blocks. -/
structure GrownS (w w' : World) (S : Nat → Prop) : Prop where
  os : w'.os = w.os
  tape : w'.tape = w.tape
  output : w'.output = w.output
  size : w.heap.size ≤ w'.heap.size
  block : ∀ k, k < w.heap.size → ¬ S k → w'.heap[k]? = w.heap[k]?
theorem GrownS.of2 {w w' : World} {r s : Option Nat} (h : Grown2 w w' r s) : GrownS w w' (fun k => r = some k ∨ s = some k) :=
  ⟨h.os, h.tape, h.output, h.size, fun k hk hn => h.block k hk (fun e => hn (.inl e.symm)) (fun e => hn (.inr e.symm))⟩
theorem GrownS.trans {w w1 w2 : World} {S T : Nat → Prop} (h : GrownS w w1 S) (g : GrownS w1 w2 T) : GrownS w w2 (fun k => S k ∨ T k) :=
  ⟨g.os.trans h.os, g.tape.trans h.tape, g.output.trans h.output, Nat.le_trans h.size g.size, fun k hk hn => by
    rw [g.block k (Nat.lt_of_lt_of_le hk h.size) (fun e => hn (.inr e)), h.block k hk (fun e => hn (.inl e))]⟩
theorem GrownS.ofBelow {w w' : World} (h : Below w.heap.size w w') : GrownS w w' (fun _ => False) := ⟨h.os, h.tape, h.output, h.size, fun k hk _ => h.block k hk⟩
theorem GrownS.weak {w w' : World} {S T : Nat → Prop} (h : GrownS w w' S) (hs : ∀ k, S k → T k) : GrownS w w' T := ⟨h.os, h.tape, h.output, h.size, fun k hk hn => h.block k hk (fun e => hn (hs k e))⟩
theorem GrownS.below {w0 w w' : World} {B : Nat} {S : Nat → Prop} (h : Below B w0 w) (hB : B ≤ w.heap.size) (hg : GrownS w w' S) (h1 : ∀ k, S k → B ≤ k) : Below B w0 w' :=
  ⟨hg.os.trans h.os, hg.tape.trans h.tape, hg.output.trans h.output, Nat.le_trans h.size hg.size, fun k hk => by
    rw [hg.block k (by omega) (fun e => by have := h1 k e; omega)]; exact h.block k hk⟩
theorem GrownS.row {w w' : World} {S : Nat → Prop} {g : Nat} {o : Obj} (hg : GrownS w w' S) (h : w.heap[g]? = some o) (h1 : ¬ S g) : w'.heap[g]? = some o := by
  rw [hg.block g (Array.getElem?_eq_some_iff.1 h).1 h1]; exact h
theorem agc_keptS {w w' : World} {b : Nat} {g : Ag} {p : Pl} {S : Nat → Prop} (k : AgCell w b g p) (hg : GrownS w w' S) (h1 : ¬ S b) : AgCell w' b g p := by
  have hb : ∀ j, w'.cell? ⟨b, j, none⟩ = w.cell? ⟨b, j, none⟩ := fun j => World.cell?_of_block (w := w) (hg.block b (World.block_lt_of_cell? _ _ k.1) h1)
  obtain ⟨k0, k1, k2, k3, k4, k5, k6, k7, k8, k9, k10, k11, k12⟩ := k
  exact ⟨by rw [hb]; exact k0, by rw [hb]; exact k1, by rw [hb]; exact k2, by rw [hb]; exact k3, by rw [hb]; exact k4, by rw [hb]; exact k5, by rw [hb]; exact k6, by rw [hb]; exact k7, by rw [hb]; exact k8, by rw [hb]; exact k9, by rw [hb]; exact k10, by rw [hb]; exact k11, by rw [hb]; exact k12⟩
theorem OwnB.keptS {w w' : World} {B n : Nat} {v : Value} {L : List Bn} {S : Nat → Prop} (h : OwnB w B v n L) (hg : GrownS w w' S) (h1 : ∀ k, v.ownBlock = some k → ¬ S k) : OwnB w' B v n L := by
  refine ⟨h.1, ?_⟩
  rcases h.2 with h | ⟨b, off, c, cur, e, h2, h3, h4⟩
  · exact .inl h
  · refine .inr ⟨b, off, c, cur, e, h2, ?_, h4⟩
    rw [hg.block b (Array.getElem?_eq_some_iff.1 h3).1 (h1 b (by rw [e]; rfl))]; exact h3
theorem OwnN.keptS {kd : IntKind} {T : TypeId} {w w' : World} {B n : Nat} {v : Value} {L : List Int} {S : Nat → Prop} (h : OwnN kd T w B v n L) (hg : GrownS w w' S) (h1 : ∀ k, v.ownBlock = some k → ¬ S k) : OwnN kd T w' B v n L := by
  refine ⟨h.1, h.2.1, ?_⟩
  rcases h.2.2 with h | ⟨b, c, cur, e, h2, h3, h4⟩
  · exact .inl h
  · refine .inr ⟨b, c, cur, e, h2, ?_, h4⟩
    rw [hg.block b (Array.getElem?_eq_some_iff.1 h3).1 (h1 b (by rw [e]; rfl))]; exact h3
/-- The blocks that an Agg's lists lie in. -/
def AgBlk (o : Ag) (p : Pl) (k : Nat) : Prop := ((Value.slice p.pa o.P.length p.pc).ownBlock = some k ∨ (Value.slice p.na o.N.length p.nc).ownBlock = some k) ∨ ((Value.slice p.ea o.E.length p.ec).ownBlock = some k ∨ (Value.slice p.ra o.R.length p.rc).ownBlock = some k)
theorem AgO.lt {w : World} {B k : Nat} {o : Ag} {p : Pl} (h : AgO w B o p) (hk : AgBlk o p k) : B ≤ k ∧ k < w.heap.size := by
  rcases hk with (e | e) | (e | e)
  · exact h.P.lt k e
  · exact h.N.lt k e
  · exact h.E.lt k e
  · exact h.R.lt k e
theorem AgO.keptS {w w' : World} {B : Nat} {o : Ag} {p : Pl} {S : Nat → Prop} (h : AgO w B o p) (hg : GrownS w w' S) (h1 : ∀ k, AgBlk o p k → ¬ S k) : AgO w' B o p :=
  ⟨h.P.keptS hg (fun k e => h1 k (.inl (.inl e))), h.N.keptS hg (fun k e => h1 k (.inl (.inr e))), h.ap, h.E.keptS hg (fun k e => h1 k (.inr (.inl e))), h.R.keptS hg (fun k e => h1 k (.inr (.inr e)))⟩
/-- What an Agg is when it has been written over. -/
def mkA (k0 : Nat) (o : Ag) : Ag := { o with P := mkbs k0 o.P.length, N := mkbs (k0 + 2 * o.P.length) o.N.length, E := mkn (k0 + 2 * o.P.length + 2 * o.N.length) o.E.length, R := mkn (k0 + 2 * o.P.length + 2 * o.N.length + o.E.length) o.R.length }
def mkL (o : Ag) : Nat := 2 * o.P.length + 2 * o.N.length + o.E.length + o.R.length
/-- An Agg's four lists that hold what was written over. -/
structure AgM (w : World) (B k0 : Nat) (o : Ag) (p : Pl) : Prop where
  P : OwnB w B (.slice p.pa o.P.length p.pc) o.P.length (mkbs k0 o.P.length)
  N : OwnB w B (.slice p.na o.N.length p.nc) o.N.length (mkbs (k0 + 2 * o.P.length) o.N.length)
  E : OwnN .u64 22 w B (.slice p.ea o.E.length p.ec) o.E.length (mkn (k0 + 2 * o.P.length + 2 * o.N.length) o.E.length)
  R : OwnN .i64 2 w B (.slice p.ra o.R.length p.rc) o.R.length (mkn (k0 + 2 * o.P.length + 2 * o.N.length + o.E.length) o.R.length)
theorem AgM.past {w w' : World} {B k0 : Nat} {o : Ag} {p : Pl} (h : AgM w B k0 o p) (hb : Below w.heap.size w w') : AgM w' B k0 o p := ⟨h.P.past hb, h.N.past hb, h.E.past hb, h.R.past hb⟩
theorem OwnB.neN {kd : IntKind} {T : TypeId} {w : World} {B B' n m : Nat} {v u : Value} {L : List Bn} {M : List Int} (h : OwnB w B v n L) (h' : OwnN kd T w B' u m M) (hT : 128 ≠ T) : ∀ k, u.ownBlock = some k → v.ownBlock ≠ some k := fun k e => by
  rcases h'.2.2 with ⟨e', _⟩ | ⟨b, c, cur, e', h2, h3, h4⟩
  · rw [e'] at e; cases e
  · rw [e'] at e
    obtain rfl : b = k := Option.some.inj e
    exact h.ne h3 hT.symm
set_option maxHeartbeats 2000000 in
theorem c_markAgg {w : World} {B : Nat} {o : Ag} {p : Pl} (k0 : Nat) (h0 : 1 ≤ k0) (h1 : k0 ≤ 20000000) (sm : AgSm o) (hO : AgO w B o p) :
    Calls Tryz.prog 12 #[.agg (agArr o p), .int .i64 k0] w fun e w' => e = .returned (.int .i64 ((k0 + mkL o : Nat) : Int)) ∧ AgM w' B k0 o p ∧ GrownS w w' (AgBlk o p) := by
  have SM := hide sm
  have HO := hide hO
  have HB : Hid (∀ x, Below w.heap.size w (w.alloc x)) := fun x => (Below.refl _ _).alloc (Nat.le_refl _) x
  clear sm hO
  go_enter Tryz.func12, Tryz.ntmps12
  go_wp2_with fail
  refine (c_markSketch k0 h0 (by omega) SM.out.P SM.out.N (HO.out.P.past (HB.out _)) (HO.out.N.past (HB.out _)) HO.out.ap).mono ?_
  rintro e w1 ⟨rfl, oP, oN, hg1⟩
  have K1 : AgCell w1 w.heap.size o p := agc_keptS (agc_new w 44 o p) (GrownS.of2 hg1) (fun e => by
    rcases e with e | e
    · have := (HO.out.P.lt _ e).2; omega
    · have := (HO.out.N.lt _ e).2; omega)
  have HO2 := hide (HO.out.past (HB.out (.cells (agArr o p) 44)))
  have eE := HO2.out.E.keptS (GrownS.of2 hg1) (fun k e q => by
    rcases q with q | q
    · exact HO2.out.P.neN HO2.out.E (by decide) k e q
    · exact HO2.out.N.neN HO2.out.E (by decide) k e q)
  have eR := HO2.out.R.keptS (GrownS.of2 hg1) (fun k e q => by
    rcases q with q | q
    · exact HO2.out.P.neN HO2.out.R (by decide) k e q
    · exact HO2.out.N.neN HO2.out.R (by decide) k e q)
  have HE := hide eE
  have HR := hide eR
  have HP := hide oP
  have HN := hide oN
  have HG1 := hide (GrownS.of2 hg1)
  obtain ⟨k1, hk1⟩ : ∃ k, k0 + 2 * o.P.length + 2 * o.N.length = k := ⟨_, rfl⟩
  rw [hk1]
  have hsz := SM.out
  have hk1a : k1 ≤ 50000000 := by have := hsz.P; have := hsz.N; omega
  have HK := hide hk1
  clear hg1 oP oN eE eR hk1 hsz
  obtain ⟨x0, x1, x2, x3, x4, x5, x6, x7, x8, x9, x10, x11, x12⟩ := K1
  go_wp2_with fail
  refine (c_markHll k1 (by have := HK.out; omega) hk1a SM.out.E SM.out.R HE.out HR.out).mono ?_
  rintro e w2 ⟨rfl, oE, oR, hg2⟩
  have q2 := GrownS.of2 hg2
  have HP2 := hide (HP.out.keptS q2 (fun k e q => by
    rcases q with q | q
    · exact HP.out.neN HE.out (by decide) k q e
    · exact HP.out.neN HR.out (by decide) k q e))
  have HN2 := hide (HN.out.keptS q2 (fun k e q => by
    rcases q with q | q
    · exact HN.out.neN HE.out (by decide) k q e
    · exact HN.out.neN HR.out (by decide) k q e))
  have HF : Hid (AgM w2 B k0 o p) := ⟨HP2.out, HN2.out, by rw [HK.out]; exact oE, by rw [HK.out]; exact oR⟩
  have HG : Hid (GrownS w w2 (AgBlk o p)) := (((GrownS.ofBelow (HB.out _)).trans HG1.out).trans q2).weak (fun k e => by
    rcases e with (e | e) | e
    · exact e.elim
    · exact .inl e
    · exact .inr e)
  have HL : Hid (k1 + o.E.length + o.R.length = k0 + mkL o) := by have := HK.out; unfold mkL; show _ = _; omega
  clear oE oR hg2 q2 x0 x1 x2 x3 x4 x5 x6 x7 x8 x9 x10 x11 x12
  rw [HL.out]
  go_wp2
  go_ret
  exact ⟨rfl, HF.out, HG.out⟩
set_option maxHeartbeats 2000000 in
theorem c_heldAgg {w : World} {B : Nat} {o : Ag} {p : Pl} (k0 : Nat) (h0 : 1 ≤ k0) (h1 : k0 ≤ 20000000) (sm : AgSm o) (hO : AgM w B k0 o p) :
    Calls Tryz.prog 13 #[.agg (agArr o p), .int .i64 k0] w fun e w' => e = .returned (.int .i64 ((k0 + mkL o : Nat) : Int)) ∧ Below w.heap.size w w' := by
  have SM := hide sm
  have HO := hide hO
  have HB : Hid (∀ x, Below w.heap.size w (w.alloc x)) := fun x => (Below.refl _ _).alloc (Nat.le_refl _) x
  clear sm hO
  go_enter Tryz.func13, Tryz.ntmps13
  go_wp2_with fail
  refine (c_heldSketch k0 h0 (by omega) SM.out.P SM.out.N (HO.out.P.past (HB.out _)) (HO.out.N.past (HB.out _))).mono ?_
  rintro e w1 ⟨rfl, hb1⟩
  have K1 := agc_past (agc_new w 44 o p) hb1
  have HB1 := hide (chain (HB.out _) hb1)
  obtain ⟨k1, hk1⟩ : ∃ k, k0 + 2 * o.P.length + 2 * o.N.length = k := ⟨_, rfl⟩
  rw [hk1]
  have hsz := SM.out
  have hk1a : k1 ≤ 50000000 := by have := hsz.P; have := hsz.N; omega
  have HK := hide hk1
  have d1 : decide ((k1 : Int) < 0) = false := decide_eq_false (by omega)
  clear hk1 hsz hb1
  obtain ⟨x0, x1, x2, x3, x4, x5, x6, x7, x8, x9, x10, x11, x12⟩ := K1
  go_wp2_with fail
  refine (c_heldHll k1 (by have := HK.out; omega) hk1a SM.out.E SM.out.R (by rw [← HK.out]; exact HO.out.E.past HB1.out) (by rw [← HK.out]; exact HO.out.R.past HB1.out)).mono ?_
  rintro e w2 ⟨rfl, hb2⟩
  have HB2 := hide (chain HB1.out hb2)
  obtain ⟨k2, hk2⟩ : ∃ k, k1 + o.E.length + o.R.length = k := ⟨_, rfl⟩
  rw [hk2]
  have d2 : decide ((k2 : Int) < 0) = false := decide_eq_false (by omega)
  have HL : Hid (k2 = k0 + mkL o) := by have := HK.out; unfold mkL; show _ = _; omega
  clear hb2 hk2 x0 x1 x2 x3 x4 x5 x6 x7 x8 x9 x10 x11 x12
  go_wp2
  go_ret
  exact ⟨by rw [HL.out]; rfl, HB2.out⟩
/-- A new Agg owns its lists. -/
theorem AgOwn.o {w : World} {B gp gn ge gr : Nat} {g : Ag} (h : AgOwn w B g (plNew g gp gn ge gr)) (hpn : gp < gn) : AgO w B g (plNew g gp gn ge gr) :=
  ⟨OwnB.of h.P rfl, OwnB.of h.N rfl, fun k e1 e2 => by
    have h1 : gp = k := Option.some.inj e1
    have h2 : gn = k := Option.some.inj e2
    omega, ⟨rfl, h.E⟩, ⟨rfl, h.R⟩⟩
end Go.Proofs.YteencdjpfkkpnaaGreatDoor
