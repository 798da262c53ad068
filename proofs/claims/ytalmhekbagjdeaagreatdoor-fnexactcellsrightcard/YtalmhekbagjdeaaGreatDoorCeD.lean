/-
  Cells copied and compared, as the exact laws do.
-/
import Derived.Test.YtalmhekbagjdeaaGreatDoorCeC
import Derived.Deep.DeepCutAuto
namespace Go.Proofs.YtalmhekbagjdeaaGreatDoor
set_option linter.unusedVariables false
set_option linter.unusedSimpArgs false
open Go.ChangeShapes Go.WideShapes Go.ChangeAt Go.RowKit Go.PlainAid Go.Lib
set_option maxRecDepth 10000

theorem infoCell : (Tryz.prog.info? 69).map (fun i => (i.zero, i.size, i.bytes)) = some (some (.agg zeroCe), 15, 192) := by kernel_rfl
/-- Cells that were copied: in the row of block g, so many of them. -/
structure CeRow (w : World) (g N : Nat) (M : List Ce) : Prop where
  row : ∃ cur : Array Value, w.heap[g]? = some (.cells cur 69 (0, 0)) ∧ N * 15 ≤ cur.size ∧ ∀ i c, M[i]? = some c → ∀ j v, (ceArr c)[j]? = some v → cur[i * 15 + j]? = some v
  own : ∀ c ∈ M, AgOwn w (g + 1) c.g c.p
theorem AgOwn.keep {w w' : World} {B : Nat} {g : Ag} {p : Pl} (h : AgOwn w B g p) (hb : Below w.heap.size w w') : AgOwn w' B g p := h.past hb
theorem CeRow.past {w w' : World} {g N : Nat} {M : List Ce} (h : CeRow w g N M) (hb : Below w.heap.size w w') : CeRow w' g N M := by
  obtain ⟨cur, h1, h2, h3⟩ := h.row
  exact ⟨⟨cur, (hb.block g (Array.getElem?_eq_some_iff.1 h1).1).trans h1, h2, h3⟩, fun c hc => (h.own c hc).past hb⟩
theorem CeRow.at {w : World} {g N : Nat} {M : List Ce} (h : CeRow w g N M) : CesAt w (some ⟨g, 0, none⟩) M := by
  obtain ⟨cur, h1, h2, h3⟩ := h.row
  exact ⟨fun _ => ⟨g, 0, rfl, fun i c hc => cec_row h1 (fun j v e => by rw [Nat.zero_add]; exact h3 i c hc j v e)⟩, fun c hc => (h.own c hc).at⟩
theorem CeRow.put {w : World} {g N : Nat} {M : List Ce} (h : CeRow w g N M) {c : Ce} {q : Pl} (hN : M.length < N) (ho : AgOwn w (g + 1) c.g q) :
    CeRow (((((((((((((((w.setCell ⟨g, M.length * 15, none⟩ (.int .i64 c.n)).setCell ⟨g, M.length * 15 + 1, none⟩ (.string c.s)).setCell ⟨g, M.length * 15 + 2, none⟩ (.int .i64 c.g.k)).setCell ⟨g, M.length * 15 + 3, none⟩ (.int .u64 c.g.s)).setCell ⟨g, M.length * 15 + 4, none⟩ (.int .i64 c.g.h)).setCell ⟨g, M.length * 15 + 5, none⟩ (.int .u64 c.g.l)).setCell ⟨g, M.length * 15 + 6, none⟩ (.int .i64 c.g.a)).setCell ⟨g, M.length * 15 + 7, none⟩ (.int .i64 c.g.t)).setCell ⟨g, M.length * 15 + 8, none⟩ (.int .u64 c.g.z)).setCell ⟨g, M.length * 15 + 9, none⟩ (.slice q.pa c.g.P.length q.pc)).setCell ⟨g, M.length * 15 + 10, none⟩ (.slice q.na c.g.N.length q.nc)).setCell ⟨g, M.length * 15 + 11, none⟩ (.int .i64 c.g.x)).setCell ⟨g, M.length * 15 + 12, none⟩ (.int .u64 c.g.y)).setCell ⟨g, M.length * 15 + 13, none⟩ (.slice q.ea c.g.E.length q.ec)).setCell ⟨g, M.length * 15 + 14, none⟩ (.slice q.ra c.g.R.length q.rc)) g N (M ++ [⟨c.n, c.s, c.g, q⟩]) := by
  obtain ⟨cur, h1, h2, h3⟩ := h.row
  obtain ⟨cur', k1, k2, k3⟩ := heap_setCellsC (e := 69) (ceArr ⟨c.n, c.s, c.g, q⟩).toList (M.length * 15) w cur h1
  refine ⟨⟨cur', k1, by rw [k2]; exact h2, fun i d hd j v e => ?_⟩, fun d hd => ?_⟩
  · have hj : j < 15 := (Array.getElem?_eq_some_iff.1 e).1
    rw [k3]
    rw [List.getElem?_append] at hd
    split at hd
    · rename_i hi
      rw [if_neg (by simp; omega)]
      exact h3 i d hd j v e
    · rename_i hi
      have hi2 : i - M.length = 0 := by
        have := (List.getElem?_eq_some_iff.1 hd).1
        simp at this; omega
      rw [hi2] at hd
      simp at hd
      subst hd
      rw [if_pos ⟨by omega, by simp; omega, by omega⟩, show i * 15 + j - M.length * 15 = j by omega]
      simpa using e
  · repeat (refine AgOwn.below ?_ (Nat.lt_succ_self _) _)
    rcases List.mem_append.1 hd with hd | hd
    · exact h.own d hd
    · simp at hd; subst hd; exact ho
set_option maxHeartbeats 4000000 in
theorem c_toCellS {w : World} {ao : Option Addr} {N : Nat} {L : List Ce} (cap : Nat) (hN : L.length = N) (hl : N ≤ 1048576) (sm : ∀ c ∈ L, AgSm c.g) (hA : CesAt w ao L) :
    Calls Tryz.prog 13 #[.slice ao N cap] w fun e w' => ∃ M, e = .returned (.slice (some ⟨w.heap.size, 0, none⟩) N N) ∧ M.length = N ∧ M.map Ce.key = L.map Ce.key ∧ CeRow w' w.heap.size N M ∧ Below w.heap.size w w' := by
  obtain ⟨i0, hi, hz0, hz1, hz2⟩ := info_parts infoCell
  have HN := hide hN
  have SM := hide sm
  have HA := hide hA
  clear hN sm hA
  go_enter Tryz.func13, Tryz.ntmps13
  go_wp2_with (at_make; refine wpList_make_full _ rfl _ _ 27 rfl w.heap.size 69 i0 (.agg zeroCe) 15 Tryz.underlying27 hi hz0 hz1 .i64 .i64 _ _ N rfl rfl rfl rfl (by rw [hz2]; omega) (by unfold maxLen; omega) (Nat.le_refl _) ?_; intro w0 hown0 hgrow0)
  have hB0 : Below w.heap.size w w0 := (Below.refl _ _).grown hgrow0 (Nat.le_refl _) (fun k e => by cases e)
  have hR0 : CeRow w0 w.heap.size N [] := by
    rcases hown0.2 with ⟨e, _⟩ | ⟨g', cap', cur, e, _, hg', _, _, hcs, htake⟩
    · cases e
    · simp only [Value.slice.injEq, Option.some.injEq, Addr.mk.injEq, and_true, true_and] at e
      obtain ⟨rfl, rfl⟩ := e
      exact ⟨⟨cur, hg', by omega, fun i c hc => by simp at hc⟩, fun c hc => by simp at hc⟩
  have HB0 := hide hB0
  have HR0 := hide hR0
  clear hown0 hgrow0 hB0 hR0
  go_wp2
  go_loopw [4] (fun i wr => ∃ (k : Nat) (M : List Ce), k ≤ N ∧ i = .int .i64 k ∧ Hid (M.length = k) ∧ Hid (M.map Ce.key = (L.take k).map Ce.key) ∧ Hid (CeRow wr w.heap.size N M) ∧ Hid (Below w.heap.size w wr)) (fun i wr => N - (intOf i).toNat)
  case atStart => exact ⟨0, [], Nat.zero_le _, rfl, hide rfl, hide (by simp), HR0, HB0⟩
  case round =>
    clear HR0 HB0
    obtain ⟨k, M, hk, rfl, HMl, HMk, HR, HB⟩ := hrel
    by_cases hkn : k < N
    · have hkni : (k : Int) < (N : Int) := by omega
      obtain ⟨b, off, e, hcell⟩ := HA.out.1 (by have := HN.out; omega)
      subst e
      obtain ⟨c, hc⟩ : ∃ c, L[k]? = some c := ⟨L[k]'(by have := HN.out; omega), List.getElem?_eq_getElem _⟩
      have hm := List.mem_of_getElem? hc
      obtain ⟨x0, x1, x2, x3, x4, x5, x6, x7, x8, x9, x10, x11, x12, x13, x14⟩ := cec_past (hcell k c hc) HB.out
      have HC := hide hc
      have HM := hide hm
      clear hcell hc hm
      go_wp2_with fail
      clear x0 x1 x2 x3 x4 x5 x6 x7 x8 x9 x10 x11 x12 x13 x14
      refine (c_toCell c (SM.out c HM.out) (ag_past (HA.out.2 c HM.out) HB.out)).mono ?_
      rintro e w1 ⟨q, rfl, ho, hb1⟩
      have hR1 := HR.out.past hb1
      have hgs : w.heap.size < wr.heap.size := by
        obtain ⟨cur, h1, _⟩ := HR.out.row
        exact (Array.getElem?_eq_some_iff.1 h1).1
      obtain ⟨cur, r1, r2, r3⟩ := hR1.row
      have hP := hR1.put (c := c) (q := q) (by rw [HMl.out]; exact hkn) (ho.le (by omega))
      rw [HMl.out] at hP
      have HP := hide hP
      have HT1 := hide (chain HB.out hb1)
      have HK2 : Hid ((M ++ [(⟨c.n, c.s, c.g, q⟩ : Ce)]).map Ce.key = (L.take (k + 1)).map Ce.key) := by
        rw [List.take_add_one, HC.out, List.map_append, List.map_append, HMk.out]; exact hide rfl
      have HL2 : Hid ((M ++ [(⟨c.n, c.s, c.g, q⟩ : Ce)]).length = k + 1) := by rw [List.length_append, HMl.out]; exact hide rfl
      obtain ⟨z0, hz0'⟩ : ∃ z, w1.cell? ⟨w.heap.size, k * 15, none⟩ = some z := ⟨cur[k * 15]'(by omega), by rw [cell_of_row _ _ _ _ _ (0, 0) r1, Array.getElem?_eq_getElem]⟩
      have f0 := frozen_of_row w1 w.heap.size (k * 15) _ _ r1
      obtain ⟨z1, hz1'⟩ : ∃ z, w1.cell? ⟨w.heap.size, k * 15 + 1, none⟩ = some z := ⟨cur[k * 15 + 1]'(by omega), by rw [cell_of_row _ _ _ _ _ (0, 0) r1, Array.getElem?_eq_getElem]⟩
      have f1 := frozen_of_row w1 w.heap.size (k * 15 + 1) _ _ r1
      obtain ⟨z2, hz2'⟩ : ∃ z, w1.cell? ⟨w.heap.size, k * 15 + 2, none⟩ = some z := ⟨cur[k * 15 + 2]'(by omega), by rw [cell_of_row _ _ _ _ _ (0, 0) r1, Array.getElem?_eq_getElem]⟩
      have f2 := frozen_of_row w1 w.heap.size (k * 15 + 2) _ _ r1
      obtain ⟨z3, hz3'⟩ : ∃ z, w1.cell? ⟨w.heap.size, k * 15 + 3, none⟩ = some z := ⟨cur[k * 15 + 3]'(by omega), by rw [cell_of_row _ _ _ _ _ (0, 0) r1, Array.getElem?_eq_getElem]⟩
      have f3 := frozen_of_row w1 w.heap.size (k * 15 + 3) _ _ r1
      obtain ⟨z4, hz4'⟩ : ∃ z, w1.cell? ⟨w.heap.size, k * 15 + 4, none⟩ = some z := ⟨cur[k * 15 + 4]'(by omega), by rw [cell_of_row _ _ _ _ _ (0, 0) r1, Array.getElem?_eq_getElem]⟩
      have f4 := frozen_of_row w1 w.heap.size (k * 15 + 4) _ _ r1
      obtain ⟨z5, hz5'⟩ : ∃ z, w1.cell? ⟨w.heap.size, k * 15 + 5, none⟩ = some z := ⟨cur[k * 15 + 5]'(by omega), by rw [cell_of_row _ _ _ _ _ (0, 0) r1, Array.getElem?_eq_getElem]⟩
      have f5 := frozen_of_row w1 w.heap.size (k * 15 + 5) _ _ r1
      obtain ⟨z6, hz6'⟩ : ∃ z, w1.cell? ⟨w.heap.size, k * 15 + 6, none⟩ = some z := ⟨cur[k * 15 + 6]'(by omega), by rw [cell_of_row _ _ _ _ _ (0, 0) r1, Array.getElem?_eq_getElem]⟩
      have f6 := frozen_of_row w1 w.heap.size (k * 15 + 6) _ _ r1
      obtain ⟨z7, hz7'⟩ : ∃ z, w1.cell? ⟨w.heap.size, k * 15 + 7, none⟩ = some z := ⟨cur[k * 15 + 7]'(by omega), by rw [cell_of_row _ _ _ _ _ (0, 0) r1, Array.getElem?_eq_getElem]⟩
      have f7 := frozen_of_row w1 w.heap.size (k * 15 + 7) _ _ r1
      obtain ⟨z8, hz8'⟩ : ∃ z, w1.cell? ⟨w.heap.size, k * 15 + 8, none⟩ = some z := ⟨cur[k * 15 + 8]'(by omega), by rw [cell_of_row _ _ _ _ _ (0, 0) r1, Array.getElem?_eq_getElem]⟩
      have f8 := frozen_of_row w1 w.heap.size (k * 15 + 8) _ _ r1
      obtain ⟨z9, hz9'⟩ : ∃ z, w1.cell? ⟨w.heap.size, k * 15 + 9, none⟩ = some z := ⟨cur[k * 15 + 9]'(by omega), by rw [cell_of_row _ _ _ _ _ (0, 0) r1, Array.getElem?_eq_getElem]⟩
      have f9 := frozen_of_row w1 w.heap.size (k * 15 + 9) _ _ r1
      obtain ⟨z10, hz10'⟩ : ∃ z, w1.cell? ⟨w.heap.size, k * 15 + 10, none⟩ = some z := ⟨cur[k * 15 + 10]'(by omega), by rw [cell_of_row _ _ _ _ _ (0, 0) r1, Array.getElem?_eq_getElem]⟩
      have f10 := frozen_of_row w1 w.heap.size (k * 15 + 10) _ _ r1
      obtain ⟨z11, hz11'⟩ : ∃ z, w1.cell? ⟨w.heap.size, k * 15 + 11, none⟩ = some z := ⟨cur[k * 15 + 11]'(by omega), by rw [cell_of_row _ _ _ _ _ (0, 0) r1, Array.getElem?_eq_getElem]⟩
      have f11 := frozen_of_row w1 w.heap.size (k * 15 + 11) _ _ r1
      obtain ⟨z12, hz12'⟩ : ∃ z, w1.cell? ⟨w.heap.size, k * 15 + 12, none⟩ = some z := ⟨cur[k * 15 + 12]'(by omega), by rw [cell_of_row _ _ _ _ _ (0, 0) r1, Array.getElem?_eq_getElem]⟩
      have f12 := frozen_of_row w1 w.heap.size (k * 15 + 12) _ _ r1
      obtain ⟨z13, hz13'⟩ : ∃ z, w1.cell? ⟨w.heap.size, k * 15 + 13, none⟩ = some z := ⟨cur[k * 15 + 13]'(by omega), by rw [cell_of_row _ _ _ _ _ (0, 0) r1, Array.getElem?_eq_getElem]⟩
      have f13 := frozen_of_row w1 w.heap.size (k * 15 + 13) _ _ r1
      obtain ⟨z14, hz14'⟩ : ∃ z, w1.cell? ⟨w.heap.size, k * 15 + 14, none⟩ = some z := ⟨cur[k * 15 + 14]'(by omega), by rw [cell_of_row _ _ _ _ _ (0, 0) r1, Array.getElem?_eq_getElem]⟩
      have f14 := frozen_of_row w1 w.heap.size (k * 15 + 14) _ _ r1
      clear r1 r2 r3 hR1 ho hb1 hP hgs
      go_wp2
      go_roundw
      case rel => exact ⟨k + 1, _, by omega, by go_num, HL2, HK2, HP, by
        repeat (refine Below.setCell ?_ (by simp) _)
        exact HT1.out⟩
      case measure => simp [intOf]; omega
    · obtain rfl : N = k := by omega
      have HK2 : Hid (M.map Ce.key = L.map Ce.key) := by
        have := HMk.out
        rw [List.take_of_length_le (by have := HN.out; omega)] at this
        exact this
      go_wp2
      go_ret
      exact ⟨M, rfl, HMl.out, HK2.out, HR.out, HB.out⟩

theorem two_ce (w : World) (t : TypeId) (c d : Ce) (W : World) (hb : Below ((w.alloc (.cells (ceArr c) t)).alloc (.cells (ceArr d) t)).heap.size ((w.alloc (.cells (ceArr c) t)).alloc (.cells (ceArr d) t)) W) : CeCell W w.heap.size 0 c ∧ CeCell W (w.heap.size + 1) 0 d := by
  refine ⟨cec_past (cec_past (cec_new w t c) ((Below.refl _ _).alloc (Nat.le_refl _) _)) hb, ?_⟩
  have := cec_new (w.alloc (.cells (ceArr c) t)) t d
  exact cec_past (by simpa using this) hb
theorem str_self (s : ByteArray) : (s.toList == s.toList) = true := by simp
set_option maxHeartbeats 4000000 in
theorem c_eqCell {w : World} (n : Int) (s : ByteArray) (g : Ag) (p q : Pl) (sm : AgSm g) (hA : AgAt w g p) (hB : AgAt w g q) :
    Calls Tryz.prog 32 #[.agg (ceArr ⟨n, s, g, p⟩), .agg (ceArr ⟨n, s, g, q⟩)] w fun e w' => e = .returned (.bool true) ∧ Below w.heap.size w w' := by
  have HA := hide hA
  have HB := hide hB
  have SM := hide sm
  have hs := str_self s
  have HBa : Hid (∀ o1 o2, Below w.heap.size w ((w.alloc o1).alloc o2)) := fun o1 o2 => ((Below.refl _ _).alloc (Nat.le_refl _) _).alloc (by simp) _
  clear hA hB sm
  go_enter Tryz.func32, Tryz.ntmps32
  go_wp2_with fail
  refine (c_eqAgg SM.out (ag_past HA.out (HBa.out _ _)) (ag_past HB.out (HBa.out _ _))).mono ?_
  rintro e w1 ⟨rfl, hb1⟩
  have HT1 := hide (chain (HBa.out _ _) hb1)
  clear hb1
  go_wp2
  go_ret
  exact ⟨rfl, HT1.out⟩
theorem key_eq {c d : Ce} (h : c.key = d.key) : ∃ q, d = ⟨c.n, c.s, c.g, q⟩ := by
  obtain ⟨n, s, g, p⟩ := c
  obtain ⟨n', s', g', p'⟩ := d
  simp only [Ce.key, Prod.mk.injEq] at h
  obtain ⟨rfl, rfl, rfl⟩ := h
  exact ⟨p', rfl⟩
set_option maxHeartbeats 4000000 in
theorem c_eqCellS {w : World} {ao bo : Option Addr} {N ca cb : Nat} {L M : List Ce} (hN : L.length = N) (hM : M.length = N) (hk : L.map Ce.key = M.map Ce.key) (hl : N ≤ 1048576) (sm : ∀ c ∈ L, AgSm c.g) (hA : CesAt w ao L) (hB : CesAt w bo M) :
    Calls Tryz.prog 15 #[.slice ao N ca, .slice bo N cb] w fun e w' => e = .returned (.bool true) ∧ Below w.heap.size w w' := by
  have HN := hide hN
  have HM := hide hM
  have HK := hide hk
  have SM := hide sm
  have HA := hide hA
  have HB := hide hB
  clear hN hM hk sm hA hB
  go_enter Tryz.func15, Tryz.ntmps15
  go_wp2
  go_loopw [5] (fun i wr => ∃ k : Nat, k ≤ N ∧ i = .int .i64 k ∧ Hid (Below w.heap.size w wr)) (fun i wr => N - (intOf i).toNat)
  case atStart => exact ⟨0, Nat.zero_le _, rfl, Below.refl _ _⟩
  case round =>
    obtain ⟨k, hk, rfl, HBl⟩ := hrel
    by_cases hkn : k < N
    · have hkni : (k : Int) < (N : Int) := by omega
      obtain ⟨b, off, e, hcell⟩ := HA.out.1 (by have := HN.out; omega)
      subst e
      obtain ⟨b', off', e, hcell'⟩ := HB.out.1 (by have := HM.out; omega)
      subst e
      obtain ⟨c, hc⟩ : ∃ c, L[k]? = some c := ⟨L[k]'(by have := HN.out; omega), List.getElem?_eq_getElem _⟩
      obtain ⟨d, hd⟩ : ∃ d, M[k]? = some d := ⟨M[k]'(by have := HM.out; omega), List.getElem?_eq_getElem _⟩
      have hkey : c.key = d.key := by
        have h := congrArg (fun l => l[k]?) HK.out
        simp only [List.getElem?_map, hc, hd, Option.map_some, Option.some.injEq] at h
        exact h
      obtain ⟨q, rfl⟩ := key_eq hkey
      have hm := List.mem_of_getElem? hc
      have hm' := List.mem_of_getElem? hd
      have hC : ∀ W, Below wr.heap.size wr W → CeCell W b (off + k * 15) c ∧ CeCell W b' (off' + k * 15) ⟨c.n, c.s, c.g, q⟩ := fun W hW => ⟨cec_past (hcell k c hc) (chain HBl.out hW), cec_past (hcell' k _ hd) (chain HBl.out hW)⟩
      have HC := hide hC
      have HMm := hide (And.intro hm hm')
      clear hcell hcell' hc hd hm hm' hC hkey
      obtain ⟨⟨x0, x1, x2, x3, x4, x5, x6, x7, x8, x9, x10, x11, x12, x13, x14⟩, ⟨y0, y1, y2, y3, y4, y5, y6, y7, y8, y9, y10, y11, y12, y13, y14⟩⟩ := HC.out wr (Below.refl _ _)
      go_wp2_with fail
      clear x0 x1 x2 x3 x4 x5 x6 x7 x8 x9 x10 x11 x12 x13 x14 y0 y1 y2 y3 y4 y5 y6 y7 y8 y9 y10 y11 y12 y13 y14
      go_cut [26] (fun v w' => v = .bool false ∧ Hid (Below w.heap.size w w'))
      case first =>
        have HS0 : (fun W => Below wr.heap.size wr W) wr.drew := (Below.refl _ _).drew
        refine regionK (fun W => Below wr.heap.size wr W) 10 (by kernel_rfl) ?_
        refine takeK (i := 0) (d := 17) (v := .slice (some ⟨b, off, none⟩) N ca) rfl rfl (by kernel_rfl) (by kernel_rfl) (by kernel_rfl) (by decide) (by kernel_rfl) (fun _ _ _ h => h) (Or.inl ⟨by rfl, fun W hW => ?_⟩) HS0 ?_
        · clear hW
          go_simp
        simp only [List.setIfInBounds_toArray, List.set_cons_zero, List.set_cons_succ]
        refine takeK (i := 1) (d := 18) (v := .int .i64 (k : Int)) rfl rfl (by kernel_rfl) (by kernel_rfl) (by kernel_rfl) (by decide) (by kernel_rfl) (fun _ _ _ h => h) (Or.inl ⟨by rfl, fun W hW => ?_⟩) HS0 ?_
        · clear hW
          go_simp
        simp only [List.setIfInBounds_toArray, List.set_cons_zero, List.set_cons_succ]
        refine takeK (i := 2) (d := 19) (v := .pointer (some ⟨b, off + k * 15, none⟩)) rfl rfl (by kernel_rfl) (by kernel_rfl) (by kernel_rfl) (by decide) (by kernel_rfl) (fun _ _ _ h => h) (Or.inl ⟨by rfl, fun W hW => ?_⟩) HS0 ?_
        · clear hW
          go_simp
        simp only [List.setIfInBounds_toArray, List.set_cons_zero, List.set_cons_succ]
        refine takeK (i := 3) (d := 20) (v := .agg (ceArr c)) rfl rfl (by kernel_rfl) (by kernel_rfl) (by kernel_rfl) (by decide) (by kernel_rfl) (fun _ _ _ h => h) (Or.inl ⟨by rfl, fun W hW => ?_⟩) HS0 ?_
        · obtain ⟨⟨x0, x1, x2, x3, x4, x5, x6, x7, x8, x9, x10, x11, x12, x13, x14⟩, ⟨y0, y1, y2, y3, y4, y5, y6, y7, y8, y9, y10, y11, y12, y13, y14⟩⟩ := HC.out W hW
          clear hW
          go_simp
        simp only [List.setIfInBounds_toArray, List.set_cons_zero, List.set_cons_succ]
        refine takeK (i := 4) (d := 21) (v := .slice (some ⟨b', off', none⟩) N cb) rfl rfl (by kernel_rfl) (by kernel_rfl) (by kernel_rfl) (by decide) (by kernel_rfl) (fun _ _ _ h => h) (Or.inl ⟨by rfl, fun W hW => ?_⟩) HS0 ?_
        · clear hW
          go_simp
        simp only [List.setIfInBounds_toArray, List.set_cons_zero, List.set_cons_succ]
        refine takeK (i := 5) (d := 22) (v := .int .i64 (k : Int)) rfl rfl (by kernel_rfl) (by kernel_rfl) (by kernel_rfl) (by decide) (by kernel_rfl) (fun _ _ _ h => h) (Or.inl ⟨by rfl, fun W hW => ?_⟩) HS0 ?_
        · clear hW
          go_simp
        simp only [List.setIfInBounds_toArray, List.set_cons_zero, List.set_cons_succ]
        refine takeK (i := 6) (d := 23) (v := .pointer (some ⟨b', off' + k * 15, none⟩)) rfl rfl (by kernel_rfl) (by kernel_rfl) (by kernel_rfl) (by decide) (by kernel_rfl) (fun _ _ _ h => h) (Or.inl ⟨by rfl, fun W hW => ?_⟩) HS0 ?_
        · clear hW
          go_simp
        simp only [List.setIfInBounds_toArray, List.set_cons_zero, List.set_cons_succ]
        refine takeK (i := 7) (d := 24) (v := .agg (ceArr ⟨c.n, c.s, c.g, q⟩)) rfl rfl (by kernel_rfl) (by kernel_rfl) (by kernel_rfl) (by decide) (by kernel_rfl) (fun _ _ _ h => h) (Or.inl ⟨by rfl, fun W hW => ?_⟩) HS0 ?_
        · obtain ⟨⟨x0, x1, x2, x3, x4, x5, x6, x7, x8, x9, x10, x11, x12, x13, x14⟩, ⟨y0, y1, y2, y3, y4, y5, y6, y7, y8, y9, y10, y11, y12, y13, y14⟩⟩ := HC.out W hW
          clear hW
          go_simp
        simp only [List.setIfInBounds_toArray, List.set_cons_zero, List.set_cons_succ]
        refine oneK (i := 8) (by kernel_rfl) rfl (fun K hK => ?_)
        go_simp
        refine (c_eqCell c.n c.s c.g c.p q (SM.out c HMm.out.1) (ag_past (HA.out.2 c HMm.out.1) (chain HBl.out HS0)) (ag_past (HB.out.2 _ HMm.out.2) (chain HBl.out HS0))).mono ?_
        rintro e w1 ⟨rfl, hb1⟩
        have HB1 : Hid (Below wr.heap.size wr w1) := (HS0 : Below wr.heap.size wr _).trans (hb1.mono (Nat.le_refl _))
        clear hb1
        try dsimp only
        refine hK.out _ _ (fun _ => HB1.out) ?_
        clear hK K
        try simp only [Act.put, List.setIfInBounds_toArray, List.set_cons_zero, List.set_cons_succ]
        refine takeK (i := 9) (d := 26) (v := .bool false) rfl rfl (by kernel_rfl) (by kernel_rfl) (by kernel_rfl) (by decide) (by kernel_rfl) (fun _ _ _ h => h) (Or.inl ⟨by rfl, fun W hW => ?_⟩) HB1.out ?_
        · clear hW
          go_simp
        simp only [List.setIfInBounds_toArray, List.set_cons_zero, List.set_cons_succ]
        refine doneK (by kernel_rfl) ?_ _
        go_wp2
        go_meet
        exact ⟨rfl, hide (chain HBl.out HB1.out)⟩
      case rest =>
        obtain ⟨rfl, HB2⟩ := hcut
        go_wp2
        go_roundw
        case rel => exact ⟨k + 1, by omega, by go_num, HB2⟩
        case measure => simp [intOf]; omega
    · obtain rfl : N = k := by omega
      go_wp2
      go_ret
      exact ⟨rfl, HBl.out⟩
end Go.Proofs.YtalmhekbagjdeaaGreatDoor
