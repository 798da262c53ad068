/-
  Heavies in memory, and what the exact laws do with them: their size, a copy, comparing two.
-/
import Derived.Test.YtmhojmgemiphkaaRows
import Derived.Test.YtmhojmgemiphkaaRowsG
import Derived.Deep.RegionHeld3
namespace Go.Proofs.Ytmhojmgemiphkaa
set_option linter.unusedVariables false
set_option linter.unusedSimpArgs false
open Go.ChangeShapes Go.WideShapes Go.ChangeAt Go.RowKit Go.PlainAid Go.Lib
set_option maxRecDepth 10000

/-- A heavy: its key and its count. -/
abbrev Hv := ByteArray × Int
def encH (x : Hv) : List Value := [.string x.1, .int .i64 x.2]
theorem encH2 (x : Hv) : (encH x).length = 2 := rfl
theorem encH_one (m : Hv) : ∀ u ∈ encH m, u.oneCell' = true := fun u hu => by simp [encH] at hu; rcases hu with rfl | rfl <;> rfl
theorem fl_oneH (R : List Hv) : ∀ u ∈ fl encH R, u.oneCell' = true := fun u hu => by
  obtain ⟨m, _, h⟩ := List.mem_flatMap.1 hu
  exact encH_one m u h
def HvOk (x : Hv) : Prop := x.1.size ≤ 1048576 ∧ I64 x.2

/-- Keys that are not too long. -/
def HvSz (L : List Hv) : Prop := ∀ x ∈ L, x.1.size ≤ 1048576
/-- A slice of heavies that lies in memory. -/
def HvsAt (w : World) (ao : Option Addr) (L : List Hv) : Prop :=
  0 < L.length → ∃ b off, ao = some ⟨b, off, none⟩ ∧ ∀ i x, L[i]? = some x → w.cell? ⟨b, off + i * 2, none⟩ = some (.string x.1) ∧ w.cell? ⟨b, off + i * 2 + 1, none⟩ = some (.int .i64 x.2)
theorem hvs_past {w w' : World} {ao : Option Addr} {L : List Hv} (h : HvsAt w ao L) (hb : Below w.heap.size w w') : HvsAt w' ao L := fun h0 => by
  obtain ⟨b, off, e, hc⟩ := h h0
  exact ⟨b, off, e, fun i x hx => ⟨cell_past hb (hc i x hx).1, cell_past hb (hc i x hx).2⟩⟩
theorem hv_cells {w : World} {B g c n : Nat} {T : TypeId} {L : List Hv} {k : Nat} {x : Hv} (h : w.ownsRow B T 2 (.slice (some ⟨g, 0, none⟩) n c) n (fl encH L)) (hn : n = L.length) (hk : L[k]? = some x) :
    w.cell? ⟨g, k * 2, none⟩ = some (.string x.1) ∧ w.cell? ⟨g, k * 2 + 1, none⟩ = some (.int .i64 x.2) := by
  have hkl := (List.getElem?_eq_some_iff.1 hk).1
  have h0 := fl_at encH2 L k x 0 (by omega) hk
  have h1 := fl_at encH2 L k x 1 (by omega) hk
  rw [Nat.add_zero] at h0
  exact ⟨by rw [h.cellAt (k * 2) (by omega), h0]; rfl, by rw [h.cellAt (k * 2 + 1) (by omega), h1]; rfl⟩
theorem hvs_owned {w : World} {B n : Nat} {T : TypeId} {v : Value} {ao : Option Addr} {c : Nat} {L : List Hv} (h : w.ownsRow B T 2 v n (fl encH L)) (hn : n = L.length) (e : v = .slice ao n c) : HvsAt w ao L := fun h0 => by
  obtain ⟨g, c', e'⟩ := own_form h (by omega)
  rw [e'] at e h
  cases e
  exact ⟨g, 0, rfl, fun i x hx => by have := hv_cells h hn hx; rw [Nat.zero_add]; exact this⟩
/-- A heavy whose place in the row is known. -/
theorem own_hv {w : World} {B n : Nat} {T : TypeId} {v : Value} {R : List Hv} {k : Nat} {x : Hv} (h : w.ownsRow B T 2 v n (fl encH R)) (hn : n = R.length) (hk : R[k]? = some x) :
    ∃ g c, v = .slice (some ⟨g, 0, none⟩) n c ∧ w.cell? ⟨g, k * 2, none⟩ = some (.string x.1) ∧ w.cell? ⟨g, k * 2 + 1, none⟩ = some (.int .i64 x.2) ∧ w.frozen? ⟨g, k * 2, none⟩ = false ∧ w.frozen? ⟨g, k * 2 + 1, none⟩ = false ∧ g < w.heap.size := by
  have hkl := (List.getElem?_eq_some_iff.1 hk).1
  obtain ⟨g, c, rfl⟩ := own_form h (by omega)
  obtain ⟨h0, h1⟩ := hv_cells h hn hk
  exact ⟨g, c, rfl, h0, h1, h.frozenAt _, h.frozenAt _, World.block_lt_of_cell? _ _ h0⟩

theorem made_hvs (n : Nat) : (madeCells (Value.agg #[.string ByteArray.empty, .int .i64 0]).cells (n * 2)).toList = fl encH (List.replicate n ((ByteArray.empty, 0) : Hv)) := by
  refine List.ext_getElem? fun j => ?_
  by_cases hj : j < n * 2
  · have h1 := fl_at encH2 (List.replicate n ((ByteArray.empty, 0) : Hv)) (j / 2) (ByteArray.empty, 0) (j % 2) (by omega) (by rw [List.getElem?_replicate, if_pos (by omega)])
    rw [show j / 2 * 2 + j % 2 = j by omega] at h1
    rw [h1]
    have : j % 2 = 0 ∨ j % 2 = 1 := by omega
    rcases this with e | e <;> simp [madeCells, hj, Value.cells, encH, e]
  · rw [List.getElem?_eq_none (by simp [size_madeCells]; omega), List.getElem?_eq_none (by rw [fl_len encH2]; simp; omega)]
/-- Filled up to k, zeros behind. -/
def fillH (L : List Hv) (k : Nat) : List Hv := L.take k ++ List.replicate (L.length - k) (ByteArray.empty, 0)
theorem fillH_zero (L : List Hv) : fillH L 0 = List.replicate L.length (ByteArray.empty, 0) := by simp [fillH]
theorem fillH_all (L : List Hv) : fillH L L.length = L := by simp [fillH]
theorem fillH_len (L : List Hv) (k : Nat) (hk : k ≤ L.length) : (fillH L k).length = L.length := by simp [fillH]; omega
theorem fillH_at (L : List Hv) (k : Nat) (hk : k < L.length) : (fillH L k)[k]? = some (ByteArray.empty, 0) := by
  unfold fillH
  have hl : (L.take k).length = k := by simp; omega
  rw [List.getElem?_append_right (by omega), hl, Nat.sub_self, List.getElem?_replicate, if_pos (by omega)]
theorem fillH_set {L : List Hv} {x : Hv} {k : Nat} (h : L[k]? = some x) : (fillH L k).set k x = fillH L (k + 1) := by
  have hk := (List.getElem?_eq_some_iff.1 h).1
  have hl : (L.take k).length = k := by simp; omega
  unfold fillH
  rw [List.set_append_right _ _ (by omega), hl, Nat.sub_self, show L.length - k = (L.length - (k + 1)) + 1 by omega, List.replicate_succ, List.set_cons_zero, List.take_add_one, h]
  simp

theorem infoHeavy : (Try.prog.info? 52).map (fun i => (i.zero, i.size, i.bytes)) = some (some (.agg #[.string ByteArray.empty, .int .i64 0]), 2, 24) := by kernel_rfl

theorem c_szHeavy_neg (u : ByteArray) (c left : Int) (h0 : 0 ≤ left) (h1 : left ≤ 1048576) (hl : u.size ≤ maxLen) (h : left - u.size < 0) (w : World) :
    Calls Try.prog 42 #[.agg #[.string u, .int .i64 c], .int .i64 left] w fun e w' => e = .returned (.int .i64 (-1)) ∧ Below w.heap.size w w' := by
  unfold maxLen at hl
  go_enter Try.func42, Try.ntmps42
  go_wp2
  go_ret
  exact ⟨rfl, (Below.refl _ _).alloc (Nat.le_refl _) _⟩
theorem c_szHeavy_pos (u : ByteArray) (c left : Int) (h0 : 0 ≤ left) (h1 : left ≤ 1048576) (hl : u.size ≤ maxLen) (h : ¬ left - u.size < 0) (w : World) :
    Calls Try.prog 42 #[.agg #[.string u, .int .i64 c], .int .i64 left] w fun e w' => e = .returned (.int .i64 (left - u.size)) ∧ Below w.heap.size w w' := by
  unfold maxLen at hl
  go_enter Try.func42, Try.ntmps42
  go_wp2
  go_ret
  exact ⟨rfl, (Below.refl _ _).alloc (Nat.le_refl _) _⟩

set_option maxHeartbeats 1000000 in
theorem c_szHeavyS {w : World} {ao : Option Addr} {L : List Hv} (cap N : Nat) (left : Int) (h0 : 0 ≤ left) (h1 : left ≤ 1048576) (hN : L.length = N) (hl : N ≤ maxLen) (hu : ∀ x ∈ L, x.1.size ≤ maxLen) (hS : HvsAt w ao L) :
    Calls Try.prog 19 #[.slice ao N cap, .int .i64 left] w fun e w' => ∃ v, e = .returned (.int .i64 v) ∧ v ≤ left ∧ (¬ v < 0 → 0 ≤ v ∧ N ≤ 1048576 ∧ HvSz L) ∧ Below w.heap.size w w' := by
  have hl' := hl
  unfold maxLen at hl
  have HN := hide hN
  have HU := hide hu
  have HS := hide hS
  clear hN hu hS
  by_cases hlt : left - (N : Int) < 0
  · go_enter Try.func19, Try.ntmps19
    go_wp2
    go_ret
    exact ⟨-1, rfl, by omega, fun h => by omega, Below.refl _ _⟩
  · go_enter Try.func19, Try.ntmps19
    go_wp2
    go_loopw [1, 5] (fun l i wr => Below w.heap.size w wr ∧ ∃ (k : Nat) (m : Int), k ≤ N ∧ i = .int .i64 k ∧ l = .int .i64 m ∧ 0 ≤ m ∧ m ≤ left - N ∧ Hid (∀ j x, j < k → L[j]? = some x → x.1.size ≤ 1048576)) (fun l i wr => N - (intOf i).toNat)
    case atStart => exact ⟨Below.refl _ _, 0, left - N, Nat.zero_le _, rfl, rfl, by omega, by omega, (fun j u hj => absurd hj (by omega) : ∀ j x, j < 0 → L[j]? = some x → x.1.size ≤ 1048576)⟩
    case round =>
      obtain ⟨hbel, k, m, hk, rfl, rfl, hm0, hm1, HA⟩ := hrel
      have HB := hide hbel
      by_cases hkn : k < N
      · obtain ⟨⟨u, c⟩, hku⟩ : ∃ a, L[k]? = some a := ⟨L[k]'(by have := HN.out; omega), List.getElem?_eq_getElem _⟩
        obtain ⟨b, off, rfl, hcell⟩ := HS.out (by have := HN.out; omega)
        have hc0 := cell_past hbel (hcell k _ hku).1
        have hc1 := cell_past hbel (hcell k _ hku).2
        have hus := HU.out _ (List.mem_of_getElem? hku)
        have HK := hide hku
        simp at hus
        clear hcell hku hbel
        by_cases hneg : m - (u.size : Int) < 0
        · go_wp2_with (go_at_call 42; refine (c_szHeavy_neg _ _ _ (by omega) (by omega) hus (by omega) _).mono ?_; rintro e w1 ⟨rfl, hb1⟩; have HB1 := hide hb1; clear hb1)
          go_ret
          exact ⟨-1, rfl, by omega, fun h => by omega, chain HB.out HB1.out⟩
        · go_wp2_with (go_at_call 42; refine (c_szHeavy_pos _ _ _ (by omega) (by omega) hus (by omega) _).mono ?_; rintro e w1 ⟨rfl, hb1⟩; have HB1 := hide hb1; clear hb1)
          go_roundw
          case rel =>
            refine ⟨chain HB.out HB1.out, k + 1, m - u.size, by omega, by go_num, rfl, by omega, by omega, (fun j x hj hx => ?_ : ∀ j x, j < k + 1 → L[j]? = some x → x.1.size ≤ 1048576)⟩
            by_cases e : j = k
            · subst e; rw [HK.out] at hx; obtain rfl := Option.some.inj hx; show u.size ≤ 1048576; omega
            · exact HA.out j x (by omega) hx
          case measure => simp [intOf]; omega
      · have HE : Hid (k = N) := (by omega : k = N)
        clear hbel
        go_wp2
        go_ret
        refine ⟨m, rfl, by omega, fun _ => ⟨hm0, by omega, (fun x hx => ?_ : HvSz L)⟩, HB.out⟩
        obtain ⟨j, hj⟩ := List.getElem?_of_mem hx
        have hjl := (List.getElem?_eq_some_iff.1 hj).1
        have := HE.out
        have := HN.out
        exact HA.out j x (by omega) hj

theorem c_szTop {w : World} {ao : Option Addr} {L : List Hv} (cap N : Nat) (d t left : Int) (h0 : 0 ≤ left) (h1 : left ≤ 1048576) (hN : L.length = N) (hl : N ≤ maxLen) (hu : ∀ x ∈ L, x.1.size ≤ maxLen) (hS : HvsAt w ao L) :
    Calls Try.prog 6 #[.agg #[.slice ao N cap, .int .i64 d, .int .i64 t], .int .i64 left] w fun e w' => ∃ v, e = .returned (.int .i64 v) ∧ v ≤ left ∧ (¬ v < 0 → 0 ≤ v ∧ N ≤ 1048576 ∧ HvSz L) ∧ Below w.heap.size w w' := by
  have hB : ∀ o, Below w.heap.size w (w.alloc o) := fun o => (Below.refl _ _).alloc (Nat.le_refl _) o
  have HB := hide hB
  have HU := hide hu
  have HS := hide hS
  clear hB hu hS
  go_enter Try.func6, Try.ntmps6
  go_wp2_with fail
  refine (c_szHeavyS _ _ _ h0 h1 hN hl HU.out (hvs_past HS.out (HB.out _))).mono ?_
  rintro e w1 ⟨v, rfl, hv, hv2, hb1⟩
  have HV := hide hv2
  have HT := hide (chain (HB.out _) hb1)
  clear hv2 hb1
  by_cases hneg : v < 0
  · go_wp2
    go_ret
    exact ⟨-1, rfl, by omega, fun h => by omega, HT.out⟩
  · go_wp2
    go_ret
    exact ⟨v, rfl, hv, HV.out, HT.out⟩

theorem c_toHeavy (a : ByteArray) (b : Int) (w : World) :
    Calls Try.prog 43 #[.agg #[.string a, .int .i64 b]] w fun e w' => e = .returned (.agg #[.string a, .int .i64 b]) ∧ Below w.heap.size w w' := by
  go_enter Try.func43, Try.ntmps43
  go_wp2
  exact bodyPost_ret (v := .agg #[.string a, .int .i64 b]) (by simp [results, Try.results43, go_sem]) rfl ⟨rfl, (((Below.refl _ _).alloc (Nat.le_refl _) _).alloc (by simp) _).alloc (by simp; omega) _⟩

set_option maxHeartbeats 1000000 in
theorem c_toHeavyS {w : World} {ao : Option Addr} {L : List Hv} (cap N : Nat) (hN : L.length = N) (hl : N ≤ 1048576) (hA : HvsAt w ao L) :
    Calls Try.prog 27 #[.slice ao N cap] w fun e w' => e = .returned (.slice (some ⟨w.heap.size, 0, none⟩) N N) ∧ w'.ownsRow w.heap.size 52 2 (.slice (some ⟨w.heap.size, 0, none⟩) N N) N (fl encH L) ∧ Below w.heap.size w w' := by
  obtain ⟨i0, hi, hz0, hz1, hz2⟩ := info_parts infoHeavy
  have HN : Hid (L.length = N) := hN
  clear hN
  go_enter Try.func27, Try.ntmps27
  go_wp2_with (at_make; refine wpList_make_full _ rfl _ _ 26 rfl w.heap.size 52 i0 (.agg #[.string ByteArray.empty, .int .i64 0]) 2 Try.underlying26 hi hz0 hz1 .i64 .i64 _ _ N rfl rfl rfl rfl (by rw [hz2]; omega) (by unfold maxLen; omega) (Nat.le_refl _) ?_; intro w0 hown0 hgrow0)
  have hB0 : Below w.heap.size w w0 := (Below.refl _ _).grown hgrow0 (Nat.le_refl _) (fun k e => by cases e)
  have hown1 : w0.ownsRow w.heap.size 52 2 (.slice (some ⟨w.heap.size, 0, none⟩) N N) N (fl encH (fillH L 0)) := by
    rw [fillH_zero, HN.out, ← made_hvs]; exact hown0
  clear hown0 hgrow0
  go_wp2
  go_loopw [4] (fun i wr => ∃ k : Nat, k ≤ N ∧ i = .int .i64 k ∧ wr.ownsRow w.heap.size 52 2 (.slice (some ⟨w.heap.size, 0, none⟩) N N) N (fl encH (fillH L k)) ∧ Below w.heap.size w wr) (fun i wr => N - (intOf i).toNat)
  case atStart => exact ⟨0, Nat.zero_le _, rfl, hown1, hB0⟩
  case round =>
    clear hown1 hB0
    obtain ⟨k, hk, rfl, hown, hbel⟩ := hrel
    by_cases hkn : k < N
    · obtain ⟨b, off, rfl, hcell⟩ := hA (by have := HN.out; omega)
      obtain ⟨⟨a, u⟩, hku⟩ : ∃ u, L[k]? = some u := ⟨L[k]'(by have := HN.out; omega), List.getElem?_eq_getElem _⟩
      obtain ⟨hc0, hc1⟩ := hcell k _ hku
      have hc0 := cell_past hbel hc0
      have hc1 := cell_past hbel hc1
      have HO := hide hown
      have HB := hide hbel
      have HK := hide hku
      have hlen : N = (fillH L k).length := by have := HN.out; rw [fillH_len _ _ (by omega)]; omega
      obtain ⟨o0, o1⟩ := hv_cells hown hlen (fillH_at L k (by have := HN.out; omega))
      have hp : ∀ W, Below wr.heap.size wr W → W.ownsRow w.heap.size 52 2 (.slice (some ⟨w.heap.size, 0, none⟩) N N) N (fl encH (fillH L k)) ∧ W.cell? ⟨w.heap.size, k * 2, none⟩ = some (.string ByteArray.empty) ∧ W.cell? ⟨w.heap.size, k * 2 + 1, none⟩ = some (.int .i64 0) ∧ W.frozen? ⟨w.heap.size, k * 2, none⟩ = false ∧ W.frozen? ⟨w.heap.size, k * 2 + 1, none⟩ = false := fun W hW =>
        have ho := own_past hown hW
        ⟨ho, cell_past hW o0, cell_past hW o1, ho.frozenAt _, ho.frozenAt _⟩
      have HP := hide hp
      clear hcell hku hown hbel hp o0 o1 hlen
      go_wp2_with (go_at_call 43; refine (c_toHeavy _ _ _).mono ?_; rintro e w1 ⟨rfl, hb1⟩; obtain ⟨ho, p0, p1, f0, f1⟩ := HP.out _ hb1; have HQ := hide ho; have HB1 := hide hb1; clear ho hb1)
      go_roundw
      case rel =>
        have e2 := HN.out
        have hs := (((HQ.out.stored (k * 2) (.string a)).1).stored (k * 2 + 1) (.int .i64 u)).1
        rw [fl_set encH2 (fillH L k) k (a, u) (by rw [fillH_len _ _ (by omega)]; omega) rfl, fillH_set HK.out] at hs
        exact ⟨k + 1, by omega, by go_num, hs, ((chain HB.out HB1.out).setCell (by exact Nat.le_refl _) _).setCell (by exact Nat.le_refl _) _⟩
      case measure => simp [intOf]; omega
    · have e : k = N := by omega
      have HO : Hid (wr.ownsRow w.heap.size 52 2 (.slice (some ⟨w.heap.size, 0, none⟩) N N) N (fl encH L)) := by
        have := HN.out
        rw [e, show fillH L N = L by rw [← this]; exact fillH_all _] at hown
        exact hown
      have HB := hide hbel
      clear hown hbel hA e
      go_wp2
      go_ret
      exact ⟨rfl, HO.out, HB.out⟩
theorem c_eqHeavy (a : ByteArray) (b : Int) (w : World) :
    Calls Try.prog 49 #[.agg #[.string a, .int .i64 b], .agg #[.string a, .int .i64 b]] w fun e w' => e = .returned (.bool true) ∧ Below w.heap.size w w' := by
  go_enter Try.func49, Try.ntmps49
  go_wp2
  go_ret
  exact ⟨rfl, ((Below.refl _ _).alloc (Nat.le_refl _) _).alloc (by simp) _⟩

set_option maxHeartbeats 1000000 in
theorem c_eqHeavyS {w : World} {ao bo : Option Addr} {L : List Hv} (c c' N : Nat) (hn : L.length = N) (hl : N ≤ 1048576) (hA : HvsAt w ao L) (hB : HvsAt w bo L) :
    Calls Try.prog 32 #[.slice ao N c, .slice bo N c'] w fun e w' => e = .returned (.bool true) ∧ Below w.heap.size w w' := by
  have HN := hide hn
  have HA := hide hA
  have HB' := hide hB
  clear hn hA hB
  go_enter Try.func32, Try.ntmps32
  go_wp2
  go_loopw [5] (fun i wr => Below w.heap.size w wr ∧ ∃ k : Nat, k ≤ N ∧ i = .int .i64 k) (fun i wr => N - (intOf i).toNat)
  case atStart => exact ⟨Below.refl _ _, 0, Nat.zero_le _, rfl⟩
  case round =>
    obtain ⟨hbel, k, hk, rfl⟩ := hrel
    have HB := hide hbel
    by_cases hkn : k < N
    · obtain ⟨⟨a, u⟩, hRk⟩ : ∃ a, L[k]? = some a := ⟨L[k]'(by have := HN.out; omega), List.getElem?_eq_getElem _⟩
      obtain ⟨b, off, rfl, hcell⟩ := HA.out (by have := HN.out; omega)
      obtain ⟨b', off', rfl, hcell'⟩ := HB'.out (by have := HN.out; omega)
      have hc0 := cell_past hbel (hcell k _ hRk).1
      have hc1 := cell_past hbel (hcell k _ hRk).2
      have hd0 := cell_past hbel (hcell' k _ hRk).1
      have hd1 := cell_past hbel (hcell' k _ hRk).2
      have hg := World.block_lt_of_cell? _ _ hc0
      have hg' := World.block_lt_of_cell? _ _ hd0
      clear hbel hRk hcell hcell'
      go_wp2_with fail
      go_region_held3 (Kept wr.heap.size wr)
        (refine held ?_ (by simp) <;> first | exact (Below.refl _ _).drew | exact hS1)
        (first | (go_at_call 49; refine (c_eqHeavy _ _ _).mono ?_; rintro e w1 ⟨rfl, hb1⟩; obtain ⟨hS1, hS2⟩ := held_call hb1 ‹Kept _ _ _›; clear hb1))
      go_wp2
      go_roundw
      case rel => exact ⟨HB.out.trans (hS1.mono HB.out.size), k + 1, by omega, by go_num⟩
      case measure => simp [intOf]; omega
    · clear hbel
      go_wp2
      go_ret
      exact ⟨rfl, HB.out⟩
theorem own_le {w : World} {B B' size n : Nat} {e : TypeId} {v : Value} {xs : List Value} (h : w.ownsRow B e size v n xs) (hb : B' ≤ B) : w.ownsRow B' e size v n xs := by
  refine ⟨h.1, ?_⟩
  rcases h.2 with h | ⟨g, cap, cur, e, h1, h2⟩
  · exact .inl h
  · exact .inr ⟨g, cap, cur, e, Nat.le_trans hb h1, h2⟩
theorem own_lt {w : World} {B g c n : Nat} {T : TypeId} {s : Nat} {xs : List Value} (h : w.ownsRow B T s (.slice (some ⟨g, 0, none⟩) n c) n xs) : B ≤ g ∧ g < w.heap.size := by
  rcases h.2 with ⟨e, _⟩ | ⟨g', c', cur, e, h1, h2, _⟩
  · cases e
  · cases e; exact ⟨h1, (Array.getElem?_eq_some_iff.1 h2).1⟩

theorem mid_row (w : World) (o1 o3 : Obj) (cs : Array Value) (t : TypeId) : (((w.alloc o1).alloc (.cells cs t)).alloc o3).heap[w.heap.size + 1]? = some (.cells cs t (0, 0)) := by
  have h := heap_alloc_new (w.alloc o1) (.cells cs t)
  have hb : Below (w.heap.size + 1 + 1) ((w.alloc o1).alloc (.cells cs t)) (((w.alloc o1).alloc (.cells cs t)).alloc o3) := (Below.refl _ _).alloc (by simp) _
  rw [hb.block (w.heap.size + 1) (by omega)]
  simpa using h


/-- A Top's three cells in a block of its own. -/
abbrev TpCell (w : World) (g : Nat) (p : Value) (d t : Int) : Prop := w.cell? ⟨g, 0, none⟩ = some p ∧ w.cell? ⟨g, 1, none⟩ = some (.int .i64 d) ∧ w.cell? ⟨g, 2, none⟩ = some (.int .i64 t)
theorem tp_past {w w' : World} {g : Nat} {p : Value} {d t : Int} (k : TpCell w g p d t) (hb : Below w.heap.size w w') : TpCell w' g p d t :=
  ⟨cell_past hb k.1, cell_past hb k.2.1, cell_past hb k.2.2⟩
theorem tp_new (w : World) (T : TypeId) (p : Value) (d t : Int) : TpCell (w.alloc (.cells #[p, .int .i64 d, .int .i64 t] T)) w.heap.size p d t := by
  have hb := heap_alloc_new w (.cells #[p, .int .i64 d, .int .i64 t] T)
  exact ⟨by rw [cell_of_row _ w.heap.size 0 _ _ (0, 0) hb]; rfl, by rw [cell_of_row _ w.heap.size 1 _ _ (0, 0) hb]; rfl, by rw [cell_of_row _ w.heap.size 2 _ _ (0, 0) hb]; rfl⟩

set_option maxHeartbeats 1000000 in
theorem c_toTop {w : World} {d t : Int} {pa : Option Addr} {pn pc : Nat} {P : List Hv} (hp : P.length = pn) (lp : pn ≤ 1048576) (hP : HvsAt w pa P) :
    Calls Try.prog 8 #[.agg #[.slice pa pn pc, .int .i64 d, .int .i64 t]] w fun e w' => ∃ gp, e = .returned (.agg #[.slice (some ⟨gp, 0, none⟩) pn pn, .int .i64 d, .int .i64 t]) ∧
      w.heap.size ≤ gp ∧ gp < w'.heap.size ∧ w'.ownsRow w.heap.size 52 2 (.slice (some ⟨gp, 0, none⟩) pn pn) pn (fl encH P) ∧ Below w.heap.size w w' := by
  have HP := hide hP
  clear hP
  go_enter Try.func8, Try.ntmps8
  go_wp2_with fail
  refine (c_toHeavyS _ _ hp lp (hvs_past HP.out (by repeat (first | exact Below.refl _ _ | refine Below.setCell ?_ (by simp) _ | refine Below.alloc ?_ (by simp <;> omega) _)))).mono ?_
  rintro e w1 ⟨rfl, ho1, hb1⟩
  obtain ⟨hc1, hf1⟩ := bcell hb1
  have hz1 := hb1.size
  have hT1 : Below w.heap.size w w1 := Below.trans (by repeat (first | exact Below.refl _ _ | refine Below.setCell ?_ (by simp) _ | refine Below.alloc ?_ (by simp <;> omega) _)) (hb1.mono (by simp <;> omega))
  simp at hz1 hc1 hf1
  have HO1 := hide ho1
  have HB1 := hide hb1
  have HT1 := hide hT1
  clear ho1 hb1 hT1
  go_wp2
  have oP1 : w1.ownsRow (w.heap.size + 1 + 1 + 1) 52 2 (.slice (some ⟨w.heap.size + 1 + 1 + 1, 0, none⟩) pn pn) pn (fl encH P) := by simpa using HO1.out
  have hzp := (own_lt oP1).2
  have r : ∀ j, j < 3 → ∃ u, w1.cell? ⟨w.heap.size + 1, j, none⟩ = some u := fun j hj => by
    rw [hc1 _ _ (by omega)]
    rw [cell_of_row _ (w.heap.size + 1) j _ _ (0, 0) (mid_row w _ _ _ _)]
    exact ⟨_, Array.getElem?_eq_getElem (by simpa using hj)⟩
  obtain ⟨u0, r0⟩ := r 0 (by omega)
  obtain ⟨u1, r1⟩ := r 1 (by omega)
  obtain ⟨u2, r2⟩ := r 2 (by omega)
  refine bodyPost_ret (v := .agg #[.slice (some ⟨w.heap.size + 1 + 1 + 1, 0, none⟩) pn pn, .int .i64 d, .int .i64 t]) (by simp [results, Try.results8, go_sem, r0, r1, r2]) rfl ⟨_, rfl, by omega, by simp; omega, ?_, ?_⟩
  · refine own_le (B := w.heap.size + 1 + 1 + 1) ?_ (by omega)
    repeat (refine ownsRow_setCell_below ?_ (by simp) _)
    exact oP1
  · repeat (refine Below.setCell ?_ (by simp <;> omega) _)
    exact HT1.out
set_option maxHeartbeats 1000000 in
theorem c_eqTop {w : World} {d t : Int} {pa pb : Option Addr} {pn pc pd : Nat} {P : List Hv} (hp : P.length = pn) (lp : pn ≤ 1048576) (hP : HvsAt w pa P) (hP2 : HvsAt w pb P) :
    Calls Try.prog 10 #[.agg #[.slice pa pn pc, .int .i64 d, .int .i64 t], .agg #[.slice pb pn pd, .int .i64 d, .int .i64 t]] w fun e w' => e = .returned (.bool true) ∧ Below w.heap.size w w' := by
  have HP := hide hP
  have HP2 := hide hP2
  clear hP hP2
  have hW : ∀ o1 o2, Below w.heap.size w ((w.alloc o1).alloc o2) := fun o1 o2 => ((Below.refl _ _).alloc (Nat.le_refl _) _).alloc (by simp) _
  have HW := hide hW
  clear hW
  go_enter Try.func10, Try.ntmps10
  go_wp2_with fail
  refine (c_eqHeavyS _ _ _ hp lp (hvs_past HP.out (HW.out _ _)) (hvs_past HP2.out (HW.out _ _))).mono ?_
  rintro e w1 ⟨rfl, hb1⟩
  have hT1 := (HW.out _ _).trans (hb1.mono (by simp <;> omega))
  obtain ⟨hc1, _⟩ := bcell hb1
  have hz1 := hb1.size
  simp at hc1 hz1
  have HT1 := hide hT1
  clear hb1 hT1
  go_wp2
  go_ret
  exact ⟨rfl, HT1.out⟩
end Go.Proofs.Ytmhojmgemiphkaa
