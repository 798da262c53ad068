/-
  Bins in memory, and what the exact laws do with sketches: their size, a copy, comparing them.
-/
import Derived.Test.YtalmhekbagjdeaaGreatDoorRows
import Derived.Test.YtalmhekbagjdeaaGreatDoorRowsG
import Derived.Deep.RegionHeld3
namespace Go.Proofs.YtalmhekbagjdeaaGreatDoor
set_option linter.unusedVariables false
set_option linter.unusedSimpArgs false
open Go.ChangeShapes Go.WideShapes Go.ChangeAt Go.RowKit Go.PlainAid Go.Lib
set_option maxRecDepth 10000

/-- A bin: its place and its weight. -/
abbrev Bn := Int × Int
def encB (x : Bn) : List Value := [.int .i64 x.1, .int .u64 x.2]
theorem encB2 (x : Bn) : (encB x).length = 2 := rfl
theorem encB_one (m : Bn) : ∀ u ∈ encB m, u.oneCell' = true := fun u hu => by simp [encB] at hu; rcases hu with rfl | rfl <;> rfl
theorem fl_oneB (R : List Bn) : ∀ u ∈ fl encB R, u.oneCell' = true := fun u hu => by
  obtain ⟨m, _, h⟩ := List.mem_flatMap.1 hu
  exact encB_one m u h
def BnOk (x : Bn) : Prop := I64 x.1 ∧ U64 x.2

/-- A slice of bins that lies in memory. -/
def BinsAt (w : World) (ao : Option Addr) (L : List Bn) : Prop :=
  0 < L.length → ∃ b off, ao = some ⟨b, off, none⟩ ∧ ∀ i x, L[i]? = some x → w.cell? ⟨b, off + i * 2, none⟩ = some (.int .i64 x.1) ∧ w.cell? ⟨b, off + i * 2 + 1, none⟩ = some (.int .u64 x.2)
theorem bins_past {w w' : World} {ao : Option Addr} {L : List Bn} (h : BinsAt w ao L) (hb : Below w.heap.size w w') : BinsAt w' ao L := fun h0 => by
  obtain ⟨b, off, e, hc⟩ := h h0
  exact ⟨b, off, e, fun i x hx => ⟨cell_past hb (hc i x hx).1, cell_past hb (hc i x hx).2⟩⟩
theorem bin_cells {w : World} {B g c n : Nat} {T : TypeId} {L : List Bn} {k : Nat} {x : Bn} (h : w.ownsRow B T 2 (.slice (some ⟨g, 0, none⟩) n c) n (fl encB L)) (hn : n = L.length) (hk : L[k]? = some x) :
    w.cell? ⟨g, k * 2, none⟩ = some (.int .i64 x.1) ∧ w.cell? ⟨g, k * 2 + 1, none⟩ = some (.int .u64 x.2) := by
  have hkl := (List.getElem?_eq_some_iff.1 hk).1
  have h0 := fl_at encB2 L k x 0 (by omega) hk
  have h1 := fl_at encB2 L k x 1 (by omega) hk
  rw [Nat.add_zero] at h0
  exact ⟨by rw [h.cellAt (k * 2) (by omega), h0]; rfl, by rw [h.cellAt (k * 2 + 1) (by omega), h1]; rfl⟩
theorem bins_owned {w : World} {B n : Nat} {T : TypeId} {v : Value} {ao : Option Addr} {c : Nat} {L : List Bn} (h : w.ownsRow B T 2 v n (fl encB L)) (hn : n = L.length) (e : v = .slice ao n c) : BinsAt w ao L := fun h0 => by
  obtain ⟨g, c', e'⟩ := own_form h (by omega)
  rw [e'] at e h
  cases e
  exact ⟨g, 0, rfl, fun i x hx => by have := bin_cells h hn hx; rw [Nat.zero_add]; exact this⟩
/-- A bin whose place in the row is known. -/
theorem own_bin {w : World} {B n : Nat} {T : TypeId} {v : Value} {R : List Bn} {k : Nat} {x : Bn} (h : w.ownsRow B T 2 v n (fl encB R)) (hn : n = R.length) (hk : R[k]? = some x) :
    ∃ g c, v = .slice (some ⟨g, 0, none⟩) n c ∧ w.cell? ⟨g, k * 2, none⟩ = some (.int .i64 x.1) ∧ w.cell? ⟨g, k * 2 + 1, none⟩ = some (.int .u64 x.2) ∧ w.frozen? ⟨g, k * 2, none⟩ = false ∧ w.frozen? ⟨g, k * 2 + 1, none⟩ = false ∧ g < w.heap.size := by
  have hkl := (List.getElem?_eq_some_iff.1 hk).1
  obtain ⟨g, c, rfl⟩ := own_form h (by omega)
  obtain ⟨h0, h1⟩ := bin_cells h hn hk
  exact ⟨g, c, rfl, h0, h1, h.frozenAt _, h.frozenAt _, World.block_lt_of_cell? _ _ h0⟩

theorem made_bins (n : Nat) : (madeCells (Value.agg #[.int .i64 0, .int .u64 0]).cells (n * 2)).toList = fl encB (List.replicate n ((0, 0) : Bn)) := by
  refine List.ext_getElem? fun j => ?_
  by_cases hj : j < n * 2
  · have h1 := fl_at encB2 (List.replicate n ((0, 0) : Bn)) (j / 2) (0, 0) (j % 2) (by omega) (by rw [List.getElem?_replicate, if_pos (by omega)])
    rw [show j / 2 * 2 + j % 2 = j by omega] at h1
    rw [h1]
    have : j % 2 = 0 ∨ j % 2 = 1 := by omega
    rcases this with e | e <;> simp [madeCells, hj, Value.cells, encB, e]
  · rw [List.getElem?_eq_none (by simp [size_madeCells]; omega), List.getElem?_eq_none (by rw [fl_len encB2]; simp; omega)]
/-- Filled up to k, zeros behind. -/
def fillB (L : List Bn) (k : Nat) : List Bn := L.take k ++ List.replicate (L.length - k) (0, 0)
theorem fillB_zero (L : List Bn) : fillB L 0 = List.replicate L.length (0, 0) := by simp [fillB]
theorem fillB_all (L : List Bn) : fillB L L.length = L := by simp [fillB]
theorem fillB_len (L : List Bn) (k : Nat) (hk : k ≤ L.length) : (fillB L k).length = L.length := by simp [fillB]; omega
theorem fillB_at (L : List Bn) (k : Nat) (hk : k < L.length) : (fillB L k)[k]? = some (0, 0) := by
  unfold fillB
  have hl : (L.take k).length = k := by simp; omega
  rw [List.getElem?_append_right (by omega), hl, Nat.sub_self, List.getElem?_replicate, if_pos (by omega)]
theorem fillB_set {L : List Bn} {x : Bn} {k : Nat} (h : L[k]? = some x) : (fillB L k).set k x = fillB L (k + 1) := by
  have hk := (List.getElem?_eq_some_iff.1 h).1
  have hl : (L.take k).length = k := by simp; omega
  unfold fillB
  rw [List.set_append_right _ _ (by omega), hl, Nat.sub_self, show L.length - k = (L.length - (k + 1)) + 1 by omega, List.replicate_succ, List.set_cons_zero, List.take_add_one, h]
  simp

theorem infoBin : (Tryz.prog.info? 136).map (fun i => (i.zero, i.size, i.bytes)) = some (some (.agg #[.int .i64 0, .int .u64 0]), 2, 16) := by kernel_rfl

theorem c_szBinS_neg (ao : Option Addr) (n cap : Nat) (left : Int) (h0 : 0 ≤ left) (h1 : left ≤ 1048576) (hl : n ≤ maxLen) (h : left - n < 0) (w : World) :
    Calls Tryz.prog 94 #[.slice ao n cap, .int .i64 left] w fun e w' => e = .returned (.int .i64 (-1)) ∧ w' = w := by
  unfold maxLen at hl
  go_enter Tryz.func94, Tryz.ntmps94
  go_wp2
  go_ret
  exact ⟨rfl, rfl⟩
theorem c_szBinS_pos (ao : Option Addr) (n cap : Nat) (left : Int) (h0 : 0 ≤ left) (h1 : left ≤ 1048576) (hl : n ≤ maxLen) (h : ¬ left - n < 0) (w : World) :
    Calls Tryz.prog 94 #[.slice ao n cap, .int .i64 left] w fun e w' => e = .returned (.int .i64 (left - n)) ∧ w' = w := by
  unfold maxLen at hl
  go_enter Tryz.func94, Tryz.ntmps94
  go_wp2
  go_ret
  exact ⟨rfl, rfl⟩

theorem c_szSketch (z h l left : Int) (pa na : Option Addr) (pn pc nn nc : Nat) (h0 : 0 ≤ left) (h1 : left ≤ 1048576) (hp : pn ≤ maxLen) (hn : nn ≤ maxLen) (w : World) :
    Calls Tryz.prog 68 #[.agg #[.int .u64 z, .slice pa pn pc, .slice na nn nc, .int .i64 h, .int .u64 l], .int .i64 left] w fun e w' => ∃ v, e = .returned (.int .i64 v) ∧ v ≤ left ∧ (¬ v < 0 → 0 ≤ v ∧ pn ≤ 1048576 ∧ nn ≤ 1048576) ∧ Below w.heap.size w w' := by
  have hB : ∀ o, Below w.heap.size w (w.alloc o) := fun o => (Below.refl _ _).alloc (Nat.le_refl _) o
  have HB := hide hB
  clear hB
  by_cases k : left - (pn : Int) < 0
  · go_enter Tryz.func68, Tryz.ntmps68
    go_wp2_with (go_at_call 94; refine (c_szBinS_neg _ _ _ _ (by omega) (by omega) (by assumption) (by omega) _).mono ?_; rintro e w1 ⟨rfl, rfl⟩)
    go_ret
    exact ⟨-1, rfl, by omega, fun h => by omega, HB.out _⟩
  · by_cases k2 : left - (pn : Int) - (nn : Int) < 0
    · go_enter Tryz.func68, Tryz.ntmps68
      go_wp2_with (go_at_call 94; first | (refine (c_szBinS_neg _ _ _ _ (by omega) (by omega) (by assumption) (by omega) _).mono ?_; rintro e w1 ⟨rfl, rfl⟩) | (refine (c_szBinS_pos _ _ _ _ (by omega) (by omega) (by assumption) (by omega) _).mono ?_; rintro e w1 ⟨rfl, rfl⟩))
      go_ret
      exact ⟨-1, rfl, by omega, fun h => by omega, HB.out _⟩
    · go_enter Tryz.func68, Tryz.ntmps68
      go_wp2_with (go_at_call 94; refine (c_szBinS_pos _ _ _ _ (by omega) (by omega) (by assumption) (by omega) _).mono ?_; rintro e w1 ⟨rfl, rfl⟩)
      go_ret
      exact ⟨_, rfl, by omega, fun h => by omega, HB.out _⟩

theorem c_toBin (a b : Int) (w : World) :
    Calls Tryz.prog 133 #[.agg #[.int .i64 a, .int .u64 b]] w fun e w' => e = .returned (.agg #[.int .i64 a, .int .u64 b]) ∧ Below w.heap.size w w' := by
  go_enter Tryz.func133, Tryz.ntmps133
  go_wp2
  exact bodyPost_ret (v := .agg #[.int .i64 a, .int .u64 b]) (by simp [results, Tryz.results133, go_sem]) rfl ⟨rfl, (((Below.refl _ _).alloc (Nat.le_refl _) _).alloc (by simp) _).alloc (by simp; omega) _⟩

set_option maxHeartbeats 1000000 in
theorem c_toBinS {w : World} {ao : Option Addr} {L : List Bn} (cap N : Nat) (hN : L.length = N) (hl : N ≤ 1048576) (hA : BinsAt w ao L) :
    Calls Tryz.prog 101 #[.slice ao N cap] w fun e w' => e = .returned (.slice (some ⟨w.heap.size, 0, none⟩) N N) ∧ w'.ownsRow w.heap.size 136 2 (.slice (some ⟨w.heap.size, 0, none⟩) N N) N (fl encB L) ∧ Below w.heap.size w w' := by
  obtain ⟨i0, hi, hz0, hz1, hz2⟩ := info_parts infoBin
  have HN : Hid (L.length = N) := hN
  clear hN
  go_enter Tryz.func101, Tryz.ntmps101
  go_wp2_with (at_make; refine wpList_make_full _ rfl _ _ 62 rfl w.heap.size 136 i0 (.agg #[.int .i64 0, .int .u64 0]) 2 Tryz.underlying62 hi hz0 hz1 .i64 .i64 _ _ N rfl rfl rfl rfl (by rw [hz2]; omega) (by unfold maxLen; omega) (Nat.le_refl _) ?_; intro w0 hown0 hgrow0)
  have hB0 : Below w.heap.size w w0 := (Below.refl _ _).grown hgrow0 (Nat.le_refl _) (fun k e => by cases e)
  have hown1 : w0.ownsRow w.heap.size 136 2 (.slice (some ⟨w.heap.size, 0, none⟩) N N) N (fl encB (fillB L 0)) := by
    rw [fillB_zero, HN.out, ← made_bins]; exact hown0
  clear hown0 hgrow0
  go_wp2
  go_loopw [4] (fun i wr => ∃ k : Nat, k ≤ N ∧ i = .int .i64 k ∧ wr.ownsRow w.heap.size 136 2 (.slice (some ⟨w.heap.size, 0, none⟩) N N) N (fl encB (fillB L k)) ∧ Below w.heap.size w wr) (fun i wr => N - (intOf i).toNat)
  case atStart => exact ⟨0, Nat.zero_le _, rfl, hown1, hB0⟩
  case round =>
    clear hown1 hB0
    obtain ⟨k, hk, rfl, hown, hbel⟩ := hrel
    by_cases hkn : k < N
    · obtain ⟨b, off, rfl, hcell⟩ := hA (by have := HN.out; omega)
      obtain ⟨⟨a, u⟩, hku⟩ : ∃ u, L[k]? = some u := ⟨L[k]'(by have := HN.out; omega), List.getElem?_eq_getElem _⟩
      obtain ⟨hc0, hc1⟩ := hcell k _ hku
      have hc0 := cell_past hbel hc0
      have hc1 := cell_past hbel hc1
      have HO := hide hown
      have HB := hide hbel
      have HK := hide hku
      have hlen : N = (fillB L k).length := by have := HN.out; rw [fillB_len _ _ (by omega)]; omega
      obtain ⟨o0, o1⟩ := bin_cells hown hlen (fillB_at L k (by have := HN.out; omega))
      have hp : ∀ W, Below wr.heap.size wr W → W.ownsRow w.heap.size 136 2 (.slice (some ⟨w.heap.size, 0, none⟩) N N) N (fl encB (fillB L k)) ∧ W.cell? ⟨w.heap.size, k * 2, none⟩ = some (.int .i64 0) ∧ W.cell? ⟨w.heap.size, k * 2 + 1, none⟩ = some (.int .u64 0) ∧ W.frozen? ⟨w.heap.size, k * 2, none⟩ = false ∧ W.frozen? ⟨w.heap.size, k * 2 + 1, none⟩ = false := fun W hW =>
        have ho := own_past hown hW
        ⟨ho, cell_past hW o0, cell_past hW o1, ho.frozenAt _, ho.frozenAt _⟩
      have HP := hide hp
      clear hcell hku hown hbel hp o0 o1 hlen
      go_wp2_with (go_at_call 133; refine (c_toBin _ _ _).mono ?_; rintro e w1 ⟨rfl, hb1⟩; obtain ⟨ho, p0, p1, f0, f1⟩ := HP.out _ hb1; have HQ := hide ho; have HB1 := hide hb1; clear ho hb1)
      go_roundw
      case rel =>
        have e2 := HN.out
        have hs := (((HQ.out.stored (k * 2) (.int .i64 a)).1).stored (k * 2 + 1) (.int .u64 u)).1
        rw [fl_set encB2 (fillB L k) k (a, u) (by rw [fillB_len _ _ (by omega)]; omega) rfl, fillB_set HK.out] at hs
        exact ⟨k + 1, by omega, by go_num, hs, ((chain HB.out HB1.out).setCell (by exact Nat.le_refl _) _).setCell (by exact Nat.le_refl _) _⟩
      case measure => simp [intOf]; omega
    · have e : k = N := by omega
      have HO : Hid (wr.ownsRow w.heap.size 136 2 (.slice (some ⟨w.heap.size, 0, none⟩) N N) N (fl encB L)) := by
        have := HN.out
        rw [e, show fillB L N = L by rw [← this]; exact fillB_all _] at hown
        exact hown
      have HB := hide hbel
      clear hown hbel hA e
      go_wp2
      go_ret
      exact ⟨rfl, HO.out, HB.out⟩
theorem c_eqBin (a b : Int) (w : World) :
    Calls Tryz.prog 147 #[.agg #[.int .i64 a, .int .u64 b], .agg #[.int .i64 a, .int .u64 b]] w fun e w' => e = .returned (.bool true) ∧ Below w.heap.size w w' := by
  go_enter Tryz.func147, Tryz.ntmps147
  go_wp2
  go_ret
  exact ⟨rfl, ((Below.refl _ _).alloc (Nat.le_refl _) _).alloc (by simp) _⟩

set_option maxHeartbeats 1000000 in
theorem c_eqBinS {w : World} {ao bo : Option Addr} {L : List Bn} (c c' N : Nat) (hn : L.length = N) (hl : N ≤ 1048576) (hA : BinsAt w ao L) (hB : BinsAt w bo L) :
    Calls Tryz.prog 115 #[.slice ao N c, .slice bo N c'] w fun e w' => e = .returned (.bool true) ∧ Below w.heap.size w w' := by
  have HN := hide hn
  have HA := hide hA
  have HB' := hide hB
  clear hn hA hB
  go_enter Tryz.func115, Tryz.ntmps115
  go_wp2
  go_loopw [5] (fun i wr => Below w.heap.size w wr ∧ ∃ k : Nat, k ≤ N ∧ i = .int .i64 k) (fun i wr => N - (intOf i).toNat)
  case atStart => exact ⟨Below.refl _ _, 0, Nat.zero_le _, rfl⟩
  case round =>
    obtain ⟨hbel, k, hk, rfl⟩ := hrel
    have HB := hide hbel
    by_cases hkn : k < N
    · obtain ⟨⟨a, u⟩, hRk⟩ : ∃ a, L[k]? = some a := ⟨L[k]'(by have := HN.out; omega), List.getElem?_eq_getElem _⟩
      obtain ⟨b, off, rfl, hcell⟩ := HA.out (by have := HN.out; omega)
      obtain ⟨b', off', rfl, hcell'⟩ := HB'.out (by have := HN.out; omega)
      have hc0 := cell_past hbel (hcell k _ hRk).1
      have hc1 := cell_past hbel (hcell k _ hRk).2
      have hd0 := cell_past hbel (hcell' k _ hRk).1
      have hd1 := cell_past hbel (hcell' k _ hRk).2
      have hg := World.block_lt_of_cell? _ _ hc0
      have hg' := World.block_lt_of_cell? _ _ hd0
      clear hbel hRk hcell hcell'
      go_wp2_with fail
      go_region_held3 (Kept wr.heap.size wr)
        (refine held ?_ (by simp) <;> first | exact (Below.refl _ _).drew | exact hS1)
        (first | (go_at_call 147; refine (c_eqBin _ _ _).mono ?_; rintro e w1 ⟨rfl, hb1⟩; obtain ⟨hS1, hS2⟩ := held_call hb1 ‹Kept _ _ _›; clear hb1))
      go_wp2
      go_roundw
      case rel => exact ⟨HB.out.trans (hS1.mono HB.out.size), k + 1, by omega, by go_num⟩
      case measure => simp [intOf]; omega
    · clear hbel
      go_wp2
      go_ret
      exact ⟨rfl, HB.out⟩
end Go.Proofs.YtalmhekbagjdeaaGreatDoor
