/-
  Cells in memory, and what the exact laws do with them: their size, a copy, comparing them.
-/
import Derived.Test.YtalmhekbagjdeaaGreatDoorAgS
import Derived.Test.YtalmhekbagjdeaaGreatDoorOpenA
import Derived.Test.YtalmhekbagjdeaaGreatDoorKeepT
import Derived.Laws.IdiomCopy
namespace Go.Proofs.YtalmhekbagjdeaaGreatDoor
set_option linter.unusedVariables false
set_option linter.unusedSimpArgs false
open Go.ChangeShapes Go.WideShapes Go.ChangeAt Go.RowKit Go.PlainAid Go.Lib
set_option maxRecDepth 10000

/-- A cell: its window, its series, its Agg, and where that Agg's lists lie. -/
structure Ce where
  n : Int
  s : ByteArray
  g : Ag
  p : Pl
abbrev ceArr (c : Ce) : Array Value := #[.int .i64 c.n, .string c.s, .int .i64 c.g.k, .int .u64 c.g.s, .int .i64 c.g.h, .int .u64 c.g.l, .int .i64 c.g.a, .int .i64 c.g.t, .int .u64 c.g.z, .slice c.p.pa c.g.P.length c.p.pc, .slice c.p.na c.g.N.length c.p.nc, .int .i64 c.g.x, .int .u64 c.g.y, .slice c.p.ea c.g.E.length c.p.ec, .slice c.p.ra c.g.R.length c.p.rc]
/-- What tells a cell, wherever its lists lie. -/
def Ce.key (c : Ce) : Int × ByteArray × Ag := (c.n, c.s, c.g)
abbrev CeCell (w : World) (b o : Nat) (c : Ce) : Prop := w.cell? ⟨b, o, none⟩ = some (.int .i64 c.n) ∧ w.cell? ⟨b, o + 1, none⟩ = some (.string c.s) ∧ w.cell? ⟨b, o + 2, none⟩ = some (.int .i64 c.g.k) ∧ w.cell? ⟨b, o + 3, none⟩ = some (.int .u64 c.g.s) ∧ w.cell? ⟨b, o + 4, none⟩ = some (.int .i64 c.g.h) ∧ w.cell? ⟨b, o + 5, none⟩ = some (.int .u64 c.g.l) ∧ w.cell? ⟨b, o + 6, none⟩ = some (.int .i64 c.g.a) ∧ w.cell? ⟨b, o + 7, none⟩ = some (.int .i64 c.g.t) ∧ w.cell? ⟨b, o + 8, none⟩ = some (.int .u64 c.g.z) ∧ w.cell? ⟨b, o + 9, none⟩ = some (.slice c.p.pa c.g.P.length c.p.pc) ∧ w.cell? ⟨b, o + 10, none⟩ = some (.slice c.p.na c.g.N.length c.p.nc) ∧ w.cell? ⟨b, o + 11, none⟩ = some (.int .i64 c.g.x) ∧ w.cell? ⟨b, o + 12, none⟩ = some (.int .u64 c.g.y) ∧ w.cell? ⟨b, o + 13, none⟩ = some (.slice c.p.ea c.g.E.length c.p.ec) ∧ w.cell? ⟨b, o + 14, none⟩ = some (.slice c.p.ra c.g.R.length c.p.rc)
theorem cec_past {w w' : World} {b o : Nat} {c : Ce} (k : CeCell w b o c) (hb : Below w.heap.size w w') : CeCell w' b o c := by
  obtain ⟨x0, x1, x2, x3, x4, x5, x6, x7, x8, x9, x10, x11, x12, x13, x14⟩ := k
  exact ⟨cell_past hb x0, cell_past hb x1, cell_past hb x2, cell_past hb x3, cell_past hb x4, cell_past hb x5, cell_past hb x6, cell_past hb x7, cell_past hb x8, cell_past hb x9, cell_past hb x10, cell_past hb x11, cell_past hb x12, cell_past hb x13, cell_past hb x14⟩
theorem cec_row {w : World} {b o : Nat} {c : Ce} {cur : Array Value} {T : TypeId} (h : w.heap[b]? = some (.cells cur T (0, 0))) (hc : ∀ j v, (ceArr c)[j]? = some v → cur[o + j]? = some v) : CeCell w b o c := by
  have q : ∀ j v, (ceArr c)[j]? = some v → w.cell? ⟨b, o + j, none⟩ = some v := fun j v e => by rw [cell_of_row _ _ _ _ _ (0, 0) h]; exact hc j v e
  exact ⟨q 0 _ rfl, q 1 _ rfl, q 2 _ rfl, q 3 _ rfl, q 4 _ rfl, q 5 _ rfl, q 6 _ rfl, q 7 _ rfl, q 8 _ rfl, q 9 _ rfl, q 10 _ rfl, q 11 _ rfl, q 12 _ rfl, q 13 _ rfl, q 14 _ rfl⟩
theorem cec_new (w : World) (t : TypeId) (c : Ce) : CeCell (w.alloc (.cells (ceArr c) t)) w.heap.size 0 c := cec_row (heap_alloc_new w _) (fun j v e => by rw [Nat.zero_add]; exact e)
/-- Cells that lie in memory. -/
def CesAt (w : World) (ao : Option Addr) (L : List Ce) : Prop := (0 < L.length → ∃ b off, ao = some ⟨b, off, none⟩ ∧ ∀ i c, L[i]? = some c → CeCell w b (off + i * 15) c) ∧ ∀ c ∈ L, AgAt w c.g c.p
theorem ces_past {w w' : World} {ao : Option Addr} {L : List Ce} (h : CesAt w ao L) (hb : Below w.heap.size w w') : CesAt w' ao L :=
  ⟨fun h0 => by
    obtain ⟨b, off, e, hc⟩ := h.1 h0
    exact ⟨b, off, e, fun i c hx => cec_past (hc i c hx) hb⟩, fun c hc => ag_past (h.2 c hc) hb⟩
/-- What a law asks of them. -/
structure CesLen (L : List Ce) : Prop where
  len : L.length ≤ maxLen
  s : ∀ c ∈ L, c.s.size ≤ maxLen
  g : ∀ c ∈ L, AgLen c.g
/-- A row whose cells are laid over. -/
theorem heap_setCellsC {g : Nat} {e : TypeId} : ∀ (vs : List Value) (o : Nat) (w : World) (cur : Array Value), w.heap[g]? = some (.cells cur e (0, 0)) → ∃ cur' : Array Value, (w.setCells g o vs).heap[g]? = some (.cells cur' e (0, 0)) ∧ cur'.size = cur.size ∧ ∀ j, cur'[j]? = if o ≤ j ∧ j < o + vs.length ∧ j < cur.size then vs[j - o]? else cur[j]?
  | [], o, w, cur, h => ⟨cur, h, rfl, fun j => by rw [if_neg (by simp; omega)]⟩
  | v :: r, o, w, cur, h => by
    have h1 : (w.setCell ⟨g, o, none⟩ v).heap[g]? = some (.cells (cur.setIfInBounds o v) e (0, 0)) := heap_setCell_same w g o _ _ v h
    obtain ⟨cur', h2, h3, h4⟩ := heap_setCellsC r (o + 1) _ _ h1
    refine ⟨cur', h2, by rw [h3]; simp, fun j => ?_⟩
    rw [h4 j]
    simp only [Array.size_setIfInBounds, List.length_cons]
    by_cases hj : j < cur.size
    · by_cases e1 : j = o
      · subst e1
        rw [if_neg (by omega), if_pos (by omega)]
        simp [hj]
      · by_cases e2 : o + 1 ≤ j ∧ j < o + 1 + r.length
        · rw [if_pos (by omega), if_pos (by omega), show j - o = (j - (o + 1)) + 1 by omega]; simp
        · rw [if_neg (by omega), if_neg (by omega)]
          simp [Array.getElem?_setIfInBounds, Ne.symm e1]
    · rw [if_neg (by omega), if_neg (by omega)]
      rw [Array.getElem?_eq_none (by simp; omega), Array.getElem?_eq_none (by omega)]

set_option maxHeartbeats 2000000 in
theorem c_szCell (c : Ce) (left : Int) (h0 : 0 ≤ left) (h1 : left ≤ 1048576) (hs : c.s.size ≤ maxLen) (hg : AgLen c.g) (w : World) :
    Calls Tryz.prog 24 #[.agg (ceArr c), .int .i64 left] w fun e w' => ∃ v, e = .returned (.int .i64 v) ∧ v ≤ left ∧ (¬ v < 0 → 0 ≤ v ∧ AgSm c.g) ∧ Below w.heap.size w w' := by
  have HB : Hid (∀ o, Below w.heap.size w (w.alloc o)) := fun o => (Below.refl _ _).alloc (Nat.le_refl _) o
  have HG := hide hg
  have hsz : c.s.size ≤ 9223372036854775807 := hs
  obtain ⟨z, hz⟩ : ∃ z, c.s.size = z := ⟨_, rfl⟩
  rw [hz] at hsz
  have HZ := hide hz
  have hw : IntKind.i64.wrap (left - (c.s.size : Int)) = left - (z : Int) := by rw [hz, IntKind.wrap_i64]; omega
  clear hg hz hs
  by_cases hn : left - (z : Int) < 0
  · go_enter Tryz.func24, Tryz.ntmps24
    go_wp2
    go_ret
    exact ⟨-1, rfl, by omega, fun h => by omega, HB.out _⟩
  · go_enter Tryz.func24, Tryz.ntmps24
    go_wp2_with fail
    refine (c_szAgg c.g c.p _ (by omega) (by omega) HG.out _).mono ?_
    rintro e w1 ⟨v, rfl, hv, hsm, hb1⟩
    have HT1 := hide (chain (HB.out _) hb1)
    have HSm := hide hsm
    clear hb1 hsm
    by_cases hv0 : v < 0
    · go_wp2
      go_ret
      exact ⟨-1, rfl, by omega, fun h => by omega, HT1.out⟩
    · go_wp2
      go_ret
      exact ⟨v, rfl, by omega, fun h => HSm.out h, HT1.out⟩
set_option maxHeartbeats 2000000 in
theorem c_szCellS {w : World} {ao : Option Addr} {N : Nat} {L : List Ce} (cap : Nat) (left : Int) (h0 : 0 ≤ left) (h1 : left ≤ 1048576) (hN : L.length = N) (hl : CesLen L) (hA : CesAt w ao L) :
    Calls Tryz.prog 11 #[.slice ao N cap, .int .i64 left] w fun e w' => ∃ v, e = .returned (.int .i64 v) ∧ v ≤ left ∧ (¬ v < 0 → 0 ≤ v ∧ N ≤ 1048576 ∧ ∀ c ∈ L, AgSm c.g) ∧ Below w.heap.size w w' := by
  have HA := hide hA
  have HL := hide hl
  have HN := hide hN
  have hnl : N ≤ 9223372036854775807 := by rw [← hN]; exact hl.len
  have hw : IntKind.i64.wrap (left - (N : Int)) = left - (N : Int) := by rw [IntKind.wrap_i64]; omega
  clear hA hl hN
  by_cases hn : left - (N : Int) < 0
  · go_enter Tryz.func11, Tryz.ntmps11
    go_wp2
    go_ret
    exact ⟨-1, rfl, by omega, fun h => by omega, Below.refl _ _⟩
  · go_enter Tryz.func11, Tryz.ntmps11
    go_wp2
    go_loopw [1, 5] (fun lv i wr => ∃ (k : Nat) (v : Int), k ≤ N ∧ i = .int .i64 k ∧ lv = .int .i64 v ∧ 0 ≤ v ∧ v ≤ left ∧ Hid (∀ c ∈ L.take k, AgSm c.g) ∧ Hid (Below w.heap.size w wr)) (fun lv i wr => N - (intOf i).toNat)
    case atStart => exact ⟨0, _, Nat.zero_le _, rfl, rfl, by omega, by omega, (fun c hc => by simp at hc), Below.refl _ _⟩
    case round =>
      obtain ⟨k, v, hk, rfl, rfl, v0, v1, HS, HB⟩ := hrel
      by_cases hkn : k < N
      · have hkni : (k : Int) < (N : Int) := by omega
        obtain ⟨b, off, e, hcell⟩ := HA.out.1 (by have := HN.out; omega)
        subst e
        obtain ⟨c, hc⟩ : ∃ c, L[k]? = some c := ⟨L[k]'(by have := HN.out; omega), List.getElem?_eq_getElem _⟩
        have hm := List.mem_of_getElem? hc
        obtain ⟨x0, x1, x2, x3, x4, x5, x6, x7, x8, x9, x10, x11, x12, x13, x14⟩ := cec_past (hcell k c hc) HB.out
        have HC := hide hc
        have HM := hide hm
        clear hcell hc hm
        go_wp2_with fail
        refine (c_szCell c v v0 (by omega) (HL.out.s c HM.out) (HL.out.g c HM.out) _).mono ?_
        rintro e w1 ⟨u, rfl, hu, hsm, hb1⟩
        have HT1 := hide (chain HB.out hb1)
        have HSm := hide hsm
        clear hb1 hsm x0 x1 x2 x3 x4 x5 x6 x7 x8 x9 x10 x11 x12 x13 x14
        by_cases hu0 : u < 0
        · go_wp2
          go_ret
          exact ⟨-1, rfl, by omega, fun h => by omega, HT1.out⟩
        · have HS2 : Hid (∀ c ∈ L.take (k + 1), AgSm c.g) := (fun d hd => by
            rw [List.take_add_one, HC.out] at hd
            rcases List.mem_append.1 hd with h | h
            · exact HS.out d h
            · simp at h; subst h; exact (HSm.out hu0).2)
          have hu1 := (HSm.out hu0).1
          go_wp2
          go_roundw
          case rel => exact ⟨k + 1, u, by omega, by go_num, rfl, hu1, by omega, HS2, HT1⟩
          case measure => simp [intOf]; omega
      · obtain rfl : N = k := by omega
        have HS2 : Hid (∀ c ∈ L, AgSm c.g) := by
          have := HS.out
          rw [List.take_of_length_le (by have := HN.out; omega)] at this
          exact this
        go_wp2
        go_ret
        exact ⟨v, rfl, by omega, fun _ => ⟨v0, by omega, HS2.out⟩, HB.out⟩

abbrev zeroCe : Array Value := #[.int .i64 0, .string ⟨#[]⟩, .int .i64 0, .int .u64 0, .int .i64 0, .int .u64 0, .int .i64 0, .int .i64 0, .int .u64 0, .slice none 0 0, .slice none 0 0, .int .i64 0, .int .u64 0, .slice none 0 0, .slice none 0 0]
/-- A new Agg's lists lie in blocks of their own, and behind a block they stay. -/
theorem AgOwn.below {w : World} {B r j : Nat} {g : Ag} {p : Pl} (h : AgOwn w B g p) (hr : r < B) (u : Value) : AgOwn (w.setCell ⟨r, j, none⟩ u) B g p :=
  ⟨ownsRow_setCell_below h.P (by simpa using hr) u, ownsRow_setCell_below h.N (by simpa using hr) u, ownsRow_setCell_below h.E (by simpa using hr) u, ownsRow_setCell_below h.R (by simpa using hr) u⟩
theorem cellKC {w : World} {r : Nat} {cs : Array Value} {T : TypeId} (h : w.heap[r]? = some (.cells cs T (0, 0))) (j : Nat) {v : Value} (e : cs[j]? = some v) : w.cell? ⟨r, j, none⟩ = some v := by rw [cell_of_row _ _ j _ _ (0, 0) h]; exact e
set_option maxHeartbeats 4000000 in
theorem c_toCell {w : World} (c : Ce) (sm : AgSm c.g) (hA : AgAt w c.g c.p) :
    Calls Tryz.prog 29 #[.agg (ceArr c)] w fun e w' => ∃ q, e = .returned (.agg (ceArr ⟨c.n, c.s, c.g, q⟩)) ∧ AgOwn w' w.heap.size c.g q ∧ Below w.heap.size w w' := by
  have HA := hide hA
  have SM := hide sm
  have HBa : Hid (∀ o1 o2 o3, Below w.heap.size w (((w.alloc o1).alloc o2).alloc o3)) := fun o1 o2 o3 => (((Below.refl _ _).alloc (Nat.le_refl _) _).alloc (by simp) _).alloc (by simp; omega) _
  clear hA sm
  go_enter Tryz.func29, Tryz.ntmps29
  go_wp2_with fail
  refine (c_toAgg SM.out (ag_past HA.out (HBa.out _ _ _))).mono ?_
  rintro e w1 ⟨gp, gn, ge, gr, rfl, _, _, _, _, _, ow, hb1⟩
  have hres := (hb1.block (w.heap.size + 1) (by simp)).trans (by rw [heap_alloc_old _ _ (by simp)]; simpa using heap_alloc_new (w.alloc (.cells (ceArr c) 60)) (.cells zeroCe 69) : _ = some (.cells zeroCe 69 (0, 0)))
  have hout := (hb1.block (w.heap.size + 1 + 1) (by simp)).trans (by simpa using heap_alloc_new ((w.alloc (.cells (ceArr c) 60)).alloc (.cells zeroCe 69)) (.cells #[.int .i64 c.n, .string c.s, .int .i64 0, .int .u64 0, .int .i64 0, .int .u64 0, .int .i64 0, .int .i64 0, .int .u64 0, .slice none 0 0, .slice none 0 0, .int .i64 0, .int .u64 0, .slice none 0 0, .slice none 0 0] 69) : _ = some (.cells #[.int .i64 c.n, .string c.s, .int .i64 0, .int .u64 0, .int .i64 0, .int .u64 0, .int .i64 0, .int .i64 0, .int .u64 0, .slice none 0 0, .slice none 0 0, .int .i64 0, .int .u64 0, .slice none 0 0, .slice none 0 0] 69 (0, 0)))
  have HT1 := hide ((HBa.out _ _ _).trans (hb1.mono (by simp; omega)))
  obtain ⟨q, hq⟩ : ∃ q, plNew c.g gp gn ge gr = q := ⟨_, rfl⟩
  have eq0 : Value.agg (agArr c.g (plNew c.g gp gn ge gr)) = .agg (agArr c.g q) := by rw [hq]
  rw [hq] at ow
  rw [eq0]
  have HO := hide ow
  have hsz := hb1.size
  simp only [World.size_alloc] at HO hsz
  have a0 := cellKC hout 0 rfl
  have b0 := frozen_of_row w1 (w.heap.size + 1 + 1) 0 _ _ hout
  have c0 := cellKC hres 0 rfl
  have d0 := frozen_of_row w1 (w.heap.size + 1) 0 _ _ hres
  have a1 := cellKC hout 1 rfl
  have b1 := frozen_of_row w1 (w.heap.size + 1 + 1) 1 _ _ hout
  have c1 := cellKC hres 1 rfl
  have d1 := frozen_of_row w1 (w.heap.size + 1) 1 _ _ hres
  have a2 := cellKC hout 2 rfl
  have b2 := frozen_of_row w1 (w.heap.size + 1 + 1) 2 _ _ hout
  have c2 := cellKC hres 2 rfl
  have d2 := frozen_of_row w1 (w.heap.size + 1) 2 _ _ hres
  have a3 := cellKC hout 3 rfl
  have b3 := frozen_of_row w1 (w.heap.size + 1 + 1) 3 _ _ hout
  have c3 := cellKC hres 3 rfl
  have d3 := frozen_of_row w1 (w.heap.size + 1) 3 _ _ hres
  have a4 := cellKC hout 4 rfl
  have b4 := frozen_of_row w1 (w.heap.size + 1 + 1) 4 _ _ hout
  have c4 := cellKC hres 4 rfl
  have d4 := frozen_of_row w1 (w.heap.size + 1) 4 _ _ hres
  have a5 := cellKC hout 5 rfl
  have b5 := frozen_of_row w1 (w.heap.size + 1 + 1) 5 _ _ hout
  have c5 := cellKC hres 5 rfl
  have d5 := frozen_of_row w1 (w.heap.size + 1) 5 _ _ hres
  have a6 := cellKC hout 6 rfl
  have b6 := frozen_of_row w1 (w.heap.size + 1 + 1) 6 _ _ hout
  have c6 := cellKC hres 6 rfl
  have d6 := frozen_of_row w1 (w.heap.size + 1) 6 _ _ hres
  have a7 := cellKC hout 7 rfl
  have b7 := frozen_of_row w1 (w.heap.size + 1 + 1) 7 _ _ hout
  have c7 := cellKC hres 7 rfl
  have d7 := frozen_of_row w1 (w.heap.size + 1) 7 _ _ hres
  have a8 := cellKC hout 8 rfl
  have b8 := frozen_of_row w1 (w.heap.size + 1 + 1) 8 _ _ hout
  have c8 := cellKC hres 8 rfl
  have d8 := frozen_of_row w1 (w.heap.size + 1) 8 _ _ hres
  have a9 := cellKC hout 9 rfl
  have b9 := frozen_of_row w1 (w.heap.size + 1 + 1) 9 _ _ hout
  have c9 := cellKC hres 9 rfl
  have d9 := frozen_of_row w1 (w.heap.size + 1) 9 _ _ hres
  have a10 := cellKC hout 10 rfl
  have b10 := frozen_of_row w1 (w.heap.size + 1 + 1) 10 _ _ hout
  have c10 := cellKC hres 10 rfl
  have d10 := frozen_of_row w1 (w.heap.size + 1) 10 _ _ hres
  have a11 := cellKC hout 11 rfl
  have b11 := frozen_of_row w1 (w.heap.size + 1 + 1) 11 _ _ hout
  have c11 := cellKC hres 11 rfl
  have d11 := frozen_of_row w1 (w.heap.size + 1) 11 _ _ hres
  have a12 := cellKC hout 12 rfl
  have b12 := frozen_of_row w1 (w.heap.size + 1 + 1) 12 _ _ hout
  have c12 := cellKC hres 12 rfl
  have d12 := frozen_of_row w1 (w.heap.size + 1) 12 _ _ hres
  have a13 := cellKC hout 13 rfl
  have b13 := frozen_of_row w1 (w.heap.size + 1 + 1) 13 _ _ hout
  have c13 := cellKC hres 13 rfl
  have d13 := frozen_of_row w1 (w.heap.size + 1) 13 _ _ hres
  have a14 := cellKC hout 14 rfl
  have b14 := frozen_of_row w1 (w.heap.size + 1 + 1) 14 _ _ hout
  have c14 := cellKC hres 14 rfl
  have d14 := frozen_of_row w1 (w.heap.size + 1) 14 _ _ hres
  clear hres hout hb1 ow hq eq0
  go_wp2
  refine bodyPost_ret (v := .agg (ceArr ⟨c.n, c.s, c.g, q⟩)) (by simp [results, Tryz.results29, go_sem, c0, c1, c2, c3, c4, c5, c6, c7, c8, c9, c10, c11, c12, c13, c14]) rfl ⟨q, rfl, ?_, ?_⟩
  · refine AgOwn.le (B := w.heap.size + 1 + 1 + 1) ?_ (by omega)
    repeat (refine AgOwn.below ?_ (by omega) _)
    exact HO.out
  · repeat (refine Below.setCell ?_ (by simp <;> omega) _)
    exact HT1.out
end Go.Proofs.YtalmhekbagjdeaaGreatDoor
