/-
  Cells in memory, and what the exact laws do with them: their size, a copy, comparing them.
-/
import Derived.Test.YtmjogablacnlgaaGreatDoorPJC
import Derived.Test.YtmjogablacnlgaaGreatDoorPJE
import Derived.Test.YtmjogablacnlgaaGreatDoorPJK
import Derived.Laws.IdiomCopy
import Derived.Deep.DeepCutAuto
import Derived.Deep.Slices
import Derived.Deep.Strs
namespace Go.Proofs.YtmjogablacnlgaaGreatDoor
set_option linter.unusedVariables false
set_option linter.unusedSimpArgs false
open Go.ChangeShapes Go.WideShapes Go.ChangeAt Go.RowKit Go.PlainAid Go.Lib
set_option maxRecDepth 10000

/-- A cell: its window, its series, its Agg, and where that Agg's lists lie. -/
structure Ce where
  n : Int
  s : ByteArray
  g : Ag
  p : Pl
abbrev ceArr (c : Ce) : Array Value := #[.int .i64 c.n, .string c.s, .int .i64 c.g.k, .int .u64 c.g.s, .int .i64 c.g.h, .int .u64 c.g.l, .int .i64 c.g.a, .int .i64 c.g.t, .int .u64 c.g.z, .slice c.p.pa c.g.P.length c.p.pc, .slice c.p.na c.g.N.length c.p.nc, .int .i64 c.g.x, .int .u64 c.g.y, .slice c.p.ea c.g.E.length c.p.ec, .slice c.p.ra c.g.R.length c.p.rc]
/-- What tells a cell, wherever its lists lie. -/
def Ce.key (c : Ce) : Int × ByteArray × Ag := (c.n, c.s, c.g)
abbrev CeCell (w : World) (b o : Nat) (c : Ce) : Prop := w.cell? ⟨b, o, none⟩ = some (.int .i64 c.n) ∧ w.cell? ⟨b, o + 1, none⟩ = some (.string c.s) ∧ w.cell? ⟨b, o + 2, none⟩ = some (.int .i64 c.g.k) ∧ w.cell? ⟨b, o + 3, none⟩ = some (.int .u64 c.g.s) ∧ w.cell? ⟨b, o + 4, none⟩ = some (.int .i64 c.g.h) ∧ w.cell? ⟨b, o + 5, none⟩ = some (.int .u64 c.g.l) ∧ w.cell? ⟨b, o + 6, none⟩ = some (.int .i64 c.g.a) ∧ w.cell? ⟨b, o + 7, none⟩ = some (.int .i64 c.g.t) ∧ w.cell? ⟨b, o + 8, none⟩ = some (.int .u64 c.g.z) ∧ w.cell? ⟨b, o + 9, none⟩ = some (.slice c.p.pa c.g.P.length c.p.pc) ∧ w.cell? ⟨b, o + 10, none⟩ = some (.slice c.p.na c.g.N.length c.p.nc) ∧ w.cell? ⟨b, o + 11, none⟩ = some (.int .i64 c.g.x) ∧ w.cell? ⟨b, o + 12, none⟩ = some (.int .u64 c.g.y) ∧ w.cell? ⟨b, o + 13, none⟩ = some (.slice c.p.ea c.g.E.length c.p.ec) ∧ w.cell? ⟨b, o + 14, none⟩ = some (.slice c.p.ra c.g.R.length c.p.rc)
theorem cec_past {w w' : World} {b o : Nat} {c : Ce} (k : CeCell w b o c) (hb : Below w.heap.size w w') : CeCell w' b o c := by
  obtain ⟨x0, x1, x2, x3, x4, x5, x6, x7, x8, x9, x10, x11, x12, x13, x14⟩ := k
  exact ⟨cell_past hb x0, cell_past hb x1, cell_past hb x2, cell_past hb x3, cell_past hb x4, cell_past hb x5, cell_past hb x6, cell_past hb x7, cell_past hb x8, cell_past hb x9, cell_past hb x10, cell_past hb x11, cell_past hb x12, cell_past hb x13, cell_past hb x14⟩
theorem cec_row {w : World} {b o : Nat} {c : Ce} {cur : Array Value} {T : TypeId} (h : w.heap[b]? = some (.cells cur T (0, 0))) (hc : ∀ j v, (ceArr c)[j]? = some v → cur[o + j]? = some v) : CeCell w b o c := by
  have q : ∀ j v, (ceArr c)[j]? = some v → w.cell? ⟨b, o + j, none⟩ = some v := fun j v e => by rw [cell_of_row _ _ _ _ _ (0, 0) h]; exact hc j v e
  exact ⟨q 0 _ rfl, q 1 _ rfl, q 2 _ rfl, q 3 _ rfl, q 4 _ rfl, q 5 _ rfl, q 6 _ rfl, q 7 _ rfl, q 8 _ rfl, q 9 _ rfl, q 10 _ rfl, q 11 _ rfl, q 12 _ rfl, q 13 _ rfl, q 14 _ rfl⟩
theorem cec_new (w : World) (t : TypeId) (c : Ce) : CeCell (w.alloc (.cells (ceArr c) t)) w.heap.size 0 c := cec_row (heap_alloc_new w _) (fun j v e => by rw [Nat.zero_add]; exact e)
/-- Cells that lie in memory. -/
def CesAt (w : World) (ao : Option Addr) (L : List Ce) : Prop := (0 < L.length → ∃ b off, ao = some ⟨b, off, none⟩ ∧ ∀ i c, L[i]? = some c → CeCell w b (off + i * 15) c) ∧ ∀ c ∈ L, AgAt w c.g c.p
theorem ces_past {w w' : World} {ao : Option Addr} {L : List Ce} (h : CesAt w ao L) (hb : Below w.heap.size w w') : CesAt w' ao L :=
  ⟨fun h0 => by
    obtain ⟨b, off, e, hc⟩ := h.1 h0
    exact ⟨b, off, e, fun i c hx => cec_past (hc i c hx) hb⟩, fun c hc => ag_past (h.2 c hc) hb⟩
/-- What a law asks of them. -/
structure CesLen (L : List Ce) : Prop where
  len : L.length ≤ maxLen
  s : ∀ c ∈ L, c.s.size ≤ maxLen
  g : ∀ c ∈ L, AgLen c.g
/-- A row whose cells are laid over. -/
theorem heap_setCellsC {g : Nat} {e : TypeId} : ∀ (vs : List Value) (o : Nat) (w : World) (cur : Array Value), w.heap[g]? = some (.cells cur e (0, 0)) → ∃ cur' : Array Value, (w.setCells g o vs).heap[g]? = some (.cells cur' e (0, 0)) ∧ cur'.size = cur.size ∧ ∀ j, cur'[j]? = if o ≤ j ∧ j < o + vs.length ∧ j < cur.size then vs[j - o]? else cur[j]?
  | [], o, w, cur, h => ⟨cur, h, rfl, fun j => by rw [if_neg (by simp; omega)]⟩
  | v :: r, o, w, cur, h => by
    have h1 : (w.setCell ⟨g, o, none⟩ v).heap[g]? = some (.cells (cur.setIfInBounds o v) e (0, 0)) := heap_setCell_same w g o _ _ v h
    obtain ⟨cur', h2, h3, h4⟩ := heap_setCellsC r (o + 1) _ _ h1
    refine ⟨cur', h2, by rw [h3]; simp, fun j => ?_⟩
    rw [h4 j]
    simp only [Array.size_setIfInBounds, List.length_cons]
    by_cases hj : j < cur.size
    · by_cases e1 : j = o
      · subst e1
        rw [if_neg (by omega), if_pos (by omega)]
        simp [hj]
      · by_cases e2 : o + 1 ≤ j ∧ j < o + 1 + r.length
        · rw [if_pos (by omega), if_pos (by omega), show j - o = (j - (o + 1)) + 1 by omega]; simp
        · rw [if_neg (by omega), if_neg (by omega)]
          simp [Array.getElem?_setIfInBounds, Ne.symm e1]
    · rw [if_neg (by omega), if_neg (by omega)]
      rw [Array.getElem?_eq_none (by simp; omega), Array.getElem?_eq_none (by omega)]

set_option maxHeartbeats 2000000 in
theorem c_szCell (c : Ce) (left : Int) (h0 : 0 ≤ left) (h1 : left ≤ 1048576) (hs : c.s.size ≤ maxLen) (hg : AgLen c.g) (w : World) :
    Calls Tryz.prog 132 #[.agg (ceArr c), .int .i64 left] w fun e w' => ∃ v, e = .returned (.int .i64 v) ∧ v ≤ left ∧ (¬ v < 0 → 0 ≤ v ∧ AgSm c.g) ∧ Below w.heap.size w w' := by
  have HB : Hid (∀ o, Below w.heap.size w (w.alloc o)) := fun o => (Below.refl _ _).alloc (Nat.le_refl _) o
  have HG := hide hg
  have hsz : c.s.size ≤ 9223372036854775807 := hs
  obtain ⟨z, hz⟩ : ∃ z, c.s.size = z := ⟨_, rfl⟩
  rw [hz] at hsz
  have HZ := hide hz
  have hw : IntKind.i64.wrap (left - (c.s.size : Int)) = left - (z : Int) := by rw [hz, IntKind.wrap_i64]; omega
  clear hg hz hs
  by_cases hn : left - (z : Int) < 0
  · go_enter Tryz.func132, Tryz.ntmps132
    go_wp2
    go_ret
    exact ⟨-1, rfl, by omega, fun h => by omega, HB.out _⟩
  · go_enter Tryz.func132, Tryz.ntmps132
    go_wp2_with fail
    refine (c_szAgg c.g c.p _ (by omega) (by omega) HG.out _).mono ?_
    rintro e w1 ⟨v, rfl, hv, hsm, hb1⟩
    have HT1 := hide (chain (HB.out _) hb1)
    have HSm := hide hsm
    clear hb1 hsm
    by_cases hv0 : v < 0
    · go_wp2
      go_ret
      exact ⟨-1, rfl, by omega, fun h => by omega, HT1.out⟩
    · go_wp2
      go_ret
      exact ⟨v, rfl, by omega, fun h => HSm.out h, HT1.out⟩
set_option maxHeartbeats 2000000 in
theorem c_szCellS {w : World} {ao : Option Addr} {N : Nat} {L : List Ce} (cap : Nat) (left : Int) (h0 : 0 ≤ left) (h1 : left ≤ 1048576) (hN : L.length = N) (hl : CesLen L) (hA : CesAt w ao L) :
    Calls Tryz.prog 101 #[.slice ao N cap, .int .i64 left] w fun e w' => ∃ v, e = .returned (.int .i64 v) ∧ v ≤ left ∧ (¬ v < 0 → 0 ≤ v ∧ N ≤ 1048576 ∧ ∀ c ∈ L, AgSm c.g) ∧ Below w.heap.size w w' := by
  have HA := hide hA
  have HL := hide hl
  have HN := hide hN
  have hnl : N ≤ 9223372036854775807 := by rw [← hN]; exact hl.len
  have hw : IntKind.i64.wrap (left - (N : Int)) = left - (N : Int) := by rw [IntKind.wrap_i64]; omega
  clear hA hl hN
  by_cases hn : left - (N : Int) < 0
  · go_enter Tryz.func101, Tryz.ntmps101
    go_wp2
    go_ret
    exact ⟨-1, rfl, by omega, fun h => by omega, Below.refl _ _⟩
  · go_enter Tryz.func101, Tryz.ntmps101
    go_wp2
    go_loopw [1, 5] (fun lv i wr => ∃ (k : Nat) (v : Int), k ≤ N ∧ i = .int .i64 k ∧ lv = .int .i64 v ∧ 0 ≤ v ∧ v ≤ left ∧ Hid (∀ c ∈ L.take k, AgSm c.g) ∧ Hid (Below w.heap.size w wr)) (fun lv i wr => N - (Go.RowKit.intOf i).toNat)
    case atStart => exact ⟨0, _, Nat.zero_le _, rfl, rfl, by omega, by omega, (fun c hc => by simp at hc), Below.refl _ _⟩
    case round =>
      obtain ⟨k, v, hk, rfl, rfl, v0, v1, HS, HB⟩ := hrel
      by_cases hkn : k < N
      · have hkni : (k : Int) < (N : Int) := by omega
        obtain ⟨b, off, e, hcell⟩ := HA.out.1 (by have := HN.out; omega)
        subst e
        obtain ⟨c, hc⟩ : ∃ c, L[k]? = some c := ⟨L[k]'(by have := HN.out; omega), List.getElem?_eq_getElem _⟩
        have hm := List.mem_of_getElem? hc
        obtain ⟨x0, x1, x2, x3, x4, x5, x6, x7, x8, x9, x10, x11, x12, x13, x14⟩ := cec_past (hcell k c hc) HB.out
        have HC := hide hc
        have HM := hide hm
        clear hcell hc hm
        go_wp2_with fail
        refine (c_szCell c v v0 (by omega) (HL.out.s c HM.out) (HL.out.g c HM.out) _).mono ?_
        rintro e w1 ⟨u, rfl, hu, hsm, hb1⟩
        have HT1 := hide (chain HB.out hb1)
        have HSm := hide hsm
        clear hb1 hsm x0 x1 x2 x3 x4 x5 x6 x7 x8 x9 x10 x11 x12 x13 x14
        by_cases hu0 : u < 0
        · go_wp2
          go_ret
          exact ⟨-1, rfl, by omega, fun h => by omega, HT1.out⟩
        · have HS2 : Hid (∀ c ∈ L.take (k + 1), AgSm c.g) := (fun d hd => by
            rw [List.take_add_one, HC.out] at hd
            rcases List.mem_append.1 hd with h | h
            · exact HS.out d h
            · simp at h; subst h; exact (HSm.out hu0).2)
          have hu1 := (HSm.out hu0).1
          go_wp2
          go_roundw
          case rel => exact ⟨k + 1, u, by omega, by go_num, rfl, hu1, by omega, HS2, HT1⟩
          case measure => simp [Go.RowKit.intOf]; omega
      · obtain rfl : N = k := by omega
        have HS2 : Hid (∀ c ∈ L, AgSm c.g) := by
          have := HS.out
          rw [List.take_of_length_le (by have := HN.out; omega)] at this
          exact this
        go_wp2
        go_ret
        exact ⟨v, rfl, by omega, fun _ => ⟨v0, by omega, HS2.out⟩, HB.out⟩

abbrev zeroCe : Array Value := #[.int .i64 0, .string ⟨#[]⟩, .int .i64 0, .int .u64 0, .int .i64 0, .int .u64 0, .int .i64 0, .int .i64 0, .int .u64 0, .slice none 0 0, .slice none 0 0, .int .i64 0, .int .u64 0, .slice none 0 0, .slice none 0 0]
/-- A new Agg's lists lie in blocks of their own, and behind a block they stay. -/
theorem AgOwn.below {w : World} {B r j : Nat} {g : Ag} {p : Pl} (h : AgOwn w B g p) (hr : r < B) (u : Value) : AgOwn (w.setCell ⟨r, j, none⟩ u) B g p :=
  ⟨ownsRow_setCell_below h.P (by simpa using hr) u, ownsRow_setCell_below h.N (by simpa using hr) u, ownsRow_setCell_below h.E (by simpa using hr) u, ownsRow_setCell_below h.R (by simpa using hr) u⟩
theorem cellKC {w : World} {r : Nat} {cs : Array Value} {T : TypeId} (h : w.heap[r]? = some (.cells cs T (0, 0))) (j : Nat) {v : Value} (e : cs[j]? = some v) : w.cell? ⟨r, j, none⟩ = some v := by rw [cell_of_row _ _ j _ _ (0, 0) h]; exact e
set_option maxHeartbeats 4000000 in
theorem c_toCell {w : World} (c : Ce) (sm : AgSm c.g) (hA : AgAt w c.g c.p) :
    Calls Tryz.prog 139 #[.agg (ceArr c)] w fun e w' => ∃ q, e = .returned (.agg (ceArr ⟨c.n, c.s, c.g, q⟩)) ∧ AgOwn w' w.heap.size c.g q ∧ Below w.heap.size w w' := by
  have HA := hide hA
  have SM := hide sm
  have HBa : Hid (∀ o1 o2 o3, Below w.heap.size w (((w.alloc o1).alloc o2).alloc o3)) := fun o1 o2 o3 => (((Below.refl _ _).alloc (Nat.le_refl _) _).alloc (by simp) _).alloc (by simp; omega) _
  clear hA sm
  go_enter Tryz.func139, Tryz.ntmps139
  go_wp2_with fail
  refine (c_toAgg SM.out (ag_past HA.out (HBa.out _ _ _))).mono ?_
  rintro e w1 ⟨gp, gn, ge, gr, rfl, _, _, _, _, _, ow, hb1⟩
  have hres := (hb1.block (w.heap.size + 1) (by simp)).trans (by rw [heap_alloc_old _ _ (by simp)]; simpa using heap_alloc_new (w.alloc (.cells (ceArr c) 177)) (.cells zeroCe 69) : _ = some (.cells zeroCe 69 (0, 0)))
  have hout := (hb1.block (w.heap.size + 1 + 1) (by simp)).trans (by simpa using heap_alloc_new ((w.alloc (.cells (ceArr c) 177)).alloc (.cells zeroCe 69)) (.cells #[.int .i64 c.n, .string c.s, .int .i64 0, .int .u64 0, .int .i64 0, .int .u64 0, .int .i64 0, .int .i64 0, .int .u64 0, .slice none 0 0, .slice none 0 0, .int .i64 0, .int .u64 0, .slice none 0 0, .slice none 0 0] 69) : _ = some (.cells #[.int .i64 c.n, .string c.s, .int .i64 0, .int .u64 0, .int .i64 0, .int .u64 0, .int .i64 0, .int .i64 0, .int .u64 0, .slice none 0 0, .slice none 0 0, .int .i64 0, .int .u64 0, .slice none 0 0, .slice none 0 0] 69 (0, 0)))
  have HT1 := hide ((HBa.out _ _ _).trans (hb1.mono (by simp; omega)))
  obtain ⟨q, hq⟩ : ∃ q, plNew c.g gp gn ge gr = q := ⟨_, rfl⟩
  have eq0 : Value.agg (agArr c.g (plNew c.g gp gn ge gr)) = .agg (agArr c.g q) := by rw [hq]
  rw [hq] at ow
  rw [eq0]
  have HO := hide ow
  have hsz := hb1.size
  simp only [World.size_alloc] at HO hsz
  have a0 := cellKC hout 0 rfl
  have b0 := frozen_of_row w1 (w.heap.size + 1 + 1) 0 _ _ hout
  have c0 := cellKC hres 0 rfl
  have d0 := frozen_of_row w1 (w.heap.size + 1) 0 _ _ hres
  have a1 := cellKC hout 1 rfl
  have b1 := frozen_of_row w1 (w.heap.size + 1 + 1) 1 _ _ hout
  have c1 := cellKC hres 1 rfl
  have d1 := frozen_of_row w1 (w.heap.size + 1) 1 _ _ hres
  have a2 := cellKC hout 2 rfl
  have b2 := frozen_of_row w1 (w.heap.size + 1 + 1) 2 _ _ hout
  have c2 := cellKC hres 2 rfl
  have d2 := frozen_of_row w1 (w.heap.size + 1) 2 _ _ hres
  have a3 := cellKC hout 3 rfl
  have b3 := frozen_of_row w1 (w.heap.size + 1 + 1) 3 _ _ hout
  have c3 := cellKC hres 3 rfl
  have d3 := frozen_of_row w1 (w.heap.size + 1) 3 _ _ hres
  have a4 := cellKC hout 4 rfl
  have b4 := frozen_of_row w1 (w.heap.size + 1 + 1) 4 _ _ hout
  have c4 := cellKC hres 4 rfl
  have d4 := frozen_of_row w1 (w.heap.size + 1) 4 _ _ hres
  have a5 := cellKC hout 5 rfl
  have b5 := frozen_of_row w1 (w.heap.size + 1 + 1) 5 _ _ hout
  have c5 := cellKC hres 5 rfl
  have d5 := frozen_of_row w1 (w.heap.size + 1) 5 _ _ hres
  have a6 := cellKC hout 6 rfl
  have b6 := frozen_of_row w1 (w.heap.size + 1 + 1) 6 _ _ hout
  have c6 := cellKC hres 6 rfl
  have d6 := frozen_of_row w1 (w.heap.size + 1) 6 _ _ hres
  have a7 := cellKC hout 7 rfl
  have b7 := frozen_of_row w1 (w.heap.size + 1 + 1) 7 _ _ hout
  have c7 := cellKC hres 7 rfl
  have d7 := frozen_of_row w1 (w.heap.size + 1) 7 _ _ hres
  have a8 := cellKC hout 8 rfl
  have b8 := frozen_of_row w1 (w.heap.size + 1 + 1) 8 _ _ hout
  have c8 := cellKC hres 8 rfl
  have d8 := frozen_of_row w1 (w.heap.size + 1) 8 _ _ hres
  have a9 := cellKC hout 9 rfl
  have b9 := frozen_of_row w1 (w.heap.size + 1 + 1) 9 _ _ hout
  have c9 := cellKC hres 9 rfl
  have d9 := frozen_of_row w1 (w.heap.size + 1) 9 _ _ hres
  have a10 := cellKC hout 10 rfl
  have b10 := frozen_of_row w1 (w.heap.size + 1 + 1) 10 _ _ hout
  have c10 := cellKC hres 10 rfl
  have d10 := frozen_of_row w1 (w.heap.size + 1) 10 _ _ hres
  have a11 := cellKC hout 11 rfl
  have b11 := frozen_of_row w1 (w.heap.size + 1 + 1) 11 _ _ hout
  have c11 := cellKC hres 11 rfl
  have d11 := frozen_of_row w1 (w.heap.size + 1) 11 _ _ hres
  have a12 := cellKC hout 12 rfl
  have b12 := frozen_of_row w1 (w.heap.size + 1 + 1) 12 _ _ hout
  have c12 := cellKC hres 12 rfl
  have d12 := frozen_of_row w1 (w.heap.size + 1) 12 _ _ hres
  have a13 := cellKC hout 13 rfl
  have b13 := frozen_of_row w1 (w.heap.size + 1 + 1) 13 _ _ hout
  have c13 := cellKC hres 13 rfl
  have d13 := frozen_of_row w1 (w.heap.size + 1) 13 _ _ hres
  have a14 := cellKC hout 14 rfl
  have b14 := frozen_of_row w1 (w.heap.size + 1 + 1) 14 _ _ hout
  have c14 := cellKC hres 14 rfl
  have d14 := frozen_of_row w1 (w.heap.size + 1) 14 _ _ hres
  clear hres hout hb1 ow hq eq0
  go_wp2
  refine bodyPost_ret (v := .agg (ceArr ⟨c.n, c.s, c.g, q⟩)) (by simp [results, Tryz.results139, go_sem, c0, c1, c2, c3, c4, c5, c6, c7, c8, c9, c10, c11, c12, c13, c14]) rfl ⟨q, rfl, ?_, ?_⟩
  · refine AgOwn.le (B := w.heap.size + 1 + 1 + 1) ?_ (by omega)
    repeat (refine AgOwn.below ?_ (by omega) _)
    exact HO.out
  · repeat (refine Below.setCell ?_ (by simp <;> omega) _)
    exact HT1.out
end Go.Proofs.YtmjogablacnlgaaGreatDoor

/-
  Cells copied and compared, as the exact laws do.
-/
namespace Go.Proofs.YtmjogablacnlgaaGreatDoor
set_option linter.unusedVariables false
set_option linter.unusedSimpArgs false
open Go.ChangeShapes Go.WideShapes Go.ChangeAt Go.RowKit Go.PlainAid Go.Lib
set_option maxRecDepth 10000

theorem infoCell : (Tryz.prog.info? 69).map (fun i => (i.zero, i.size, i.bytes)) = some (some (.agg zeroCe), 15, 192) := by kernel_rfl
/-- Cells that were copied: in the row of block g, so many of them. -/
structure CeRow (w : World) (g N : Nat) (M : List Ce) : Prop where
  row : ∃ cur : Array Value, w.heap[g]? = some (.cells cur 69 (0, 0)) ∧ N * 15 ≤ cur.size ∧ ∀ i c, M[i]? = some c → ∀ j v, (ceArr c)[j]? = some v → cur[i * 15 + j]? = some v
  own : ∀ c ∈ M, AgOwn w (g + 1) c.g c.p
theorem AgOwn.keep {w w' : World} {B : Nat} {g : Ag} {p : Pl} (h : AgOwn w B g p) (hb : Below w.heap.size w w') : AgOwn w' B g p := h.past hb
theorem CeRow.past {w w' : World} {g N : Nat} {M : List Ce} (h : CeRow w g N M) (hb : Below w.heap.size w w') : CeRow w' g N M := by
  obtain ⟨cur, h1, h2, h3⟩ := h.row
  exact ⟨⟨cur, (hb.block g (Array.getElem?_eq_some_iff.1 h1).1).trans h1, h2, h3⟩, fun c hc => (h.own c hc).past hb⟩
theorem CeRow.at {w : World} {g N : Nat} {M : List Ce} (h : CeRow w g N M) : CesAt w (some ⟨g, 0, none⟩) M := by
  obtain ⟨cur, h1, h2, h3⟩ := h.row
  exact ⟨fun _ => ⟨g, 0, rfl, fun i c hc => cec_row h1 (fun j v e => by rw [Nat.zero_add]; exact h3 i c hc j v e)⟩, fun c hc => (h.own c hc).at⟩
theorem CeRow.put {w : World} {g N : Nat} {M : List Ce} (h : CeRow w g N M) {c : Ce} {q : Pl} (hN : M.length < N) (ho : AgOwn w (g + 1) c.g q) :
    CeRow (((((((((((((((w.setCell ⟨g, M.length * 15, none⟩ (.int .i64 c.n)).setCell ⟨g, M.length * 15 + 1, none⟩ (.string c.s)).setCell ⟨g, M.length * 15 + 2, none⟩ (.int .i64 c.g.k)).setCell ⟨g, M.length * 15 + 3, none⟩ (.int .u64 c.g.s)).setCell ⟨g, M.length * 15 + 4, none⟩ (.int .i64 c.g.h)).setCell ⟨g, M.length * 15 + 5, none⟩ (.int .u64 c.g.l)).setCell ⟨g, M.length * 15 + 6, none⟩ (.int .i64 c.g.a)).setCell ⟨g, M.length * 15 + 7, none⟩ (.int .i64 c.g.t)).setCell ⟨g, M.length * 15 + 8, none⟩ (.int .u64 c.g.z)).setCell ⟨g, M.length * 15 + 9, none⟩ (.slice q.pa c.g.P.length q.pc)).setCell ⟨g, M.length * 15 + 10, none⟩ (.slice q.na c.g.N.length q.nc)).setCell ⟨g, M.length * 15 + 11, none⟩ (.int .i64 c.g.x)).setCell ⟨g, M.length * 15 + 12, none⟩ (.int .u64 c.g.y)).setCell ⟨g, M.length * 15 + 13, none⟩ (.slice q.ea c.g.E.length q.ec)).setCell ⟨g, M.length * 15 + 14, none⟩ (.slice q.ra c.g.R.length q.rc)) g N (M ++ [⟨c.n, c.s, c.g, q⟩]) := by
  obtain ⟨cur, h1, h2, h3⟩ := h.row
  obtain ⟨cur', k1, k2, k3⟩ := heap_setCellsC (e := 69) (ceArr ⟨c.n, c.s, c.g, q⟩).toList (M.length * 15) w cur h1
  refine ⟨⟨cur', k1, by rw [k2]; exact h2, fun i d hd j v e => ?_⟩, fun d hd => ?_⟩
  · have hj : j < 15 := (Array.getElem?_eq_some_iff.1 e).1
    rw [k3]
    rw [List.getElem?_append] at hd
    split at hd
    · rename_i hi
      rw [if_neg (by simp; omega)]
      exact h3 i d hd j v e
    · rename_i hi
      have hi2 : i - M.length = 0 := by
        have := (List.getElem?_eq_some_iff.1 hd).1
        simp at this; omega
      rw [hi2] at hd
      simp at hd
      subst hd
      rw [if_pos ⟨by omega, by simp; omega, by omega⟩, show i * 15 + j - M.length * 15 = j by omega]
      simpa using e
  · repeat (refine AgOwn.below ?_ (Nat.lt_succ_self _) _)
    rcases List.mem_append.1 hd with hd | hd
    · exact h.own d hd
    · simp at hd; subst hd; exact ho
set_option maxHeartbeats 4000000 in
theorem c_toCellS {w : World} {ao : Option Addr} {N : Nat} {L : List Ce} (cap : Nat) (hN : L.length = N) (hl : N ≤ 1048576) (sm : ∀ c ∈ L, AgSm c.g) (hA : CesAt w ao L) :
    Calls Tryz.prog 106 #[.slice ao N cap] w fun e w' => ∃ M, e = .returned (.slice (some ⟨w.heap.size, 0, none⟩) N N) ∧ M.length = N ∧ M.map Ce.key = L.map Ce.key ∧ CeRow w' w.heap.size N M ∧ Below w.heap.size w w' := by
  obtain ⟨i0, hi, hz0, hz1, hz2⟩ := info_parts infoCell
  have HN := hide hN
  have SM := hide sm
  have HA := hide hA
  clear hN sm hA
  go_enter Tryz.func106, Tryz.ntmps106
  go_wp2_with (at_make; refine wpList_make_full _ rfl _ _ 36 rfl w.heap.size 69 i0 (.agg zeroCe) 15 Tryz.underlying36 hi hz0 hz1 .i64 .i64 _ _ N rfl rfl rfl rfl (by rw [hz2]; omega) (by unfold maxLen; omega) (Nat.le_refl _) ?_; intro w0 hown0 hgrow0)
  have hB0 : Below w.heap.size w w0 := (Below.refl _ _).grown hgrow0 (Nat.le_refl _) (fun k e => by cases e)
  have hR0 : CeRow w0 w.heap.size N [] := by
    rcases hown0.2 with ⟨e, _⟩ | ⟨g', cap', cur, e, _, hg', _, _, hcs, htake⟩
    · cases e
    · simp only [Value.slice.injEq, Option.some.injEq, Addr.mk.injEq, and_true, true_and] at e
      obtain ⟨rfl, rfl⟩ := e
      exact ⟨⟨cur, hg', by omega, fun i c hc => by simp at hc⟩, fun c hc => by simp at hc⟩
  have HB0 := hide hB0
  have HR0 := hide hR0
  clear hown0 hgrow0 hB0 hR0
  go_wp2
  go_loopw [4] (fun i wr => ∃ (k : Nat) (M : List Ce), k ≤ N ∧ i = .int .i64 k ∧ Hid (M.length = k) ∧ Hid (M.map Ce.key = (L.take k).map Ce.key) ∧ Hid (CeRow wr w.heap.size N M) ∧ Hid (Below w.heap.size w wr)) (fun i wr => N - (Go.RowKit.intOf i).toNat)
  case atStart => exact ⟨0, [], Nat.zero_le _, rfl, hide rfl, hide (by simp), HR0, HB0⟩
  case round =>
    clear HR0 HB0
    obtain ⟨k, M, hk, rfl, HMl, HMk, HR, HB⟩ := hrel
    by_cases hkn : k < N
    · have hkni : (k : Int) < (N : Int) := by omega
      obtain ⟨b, off, e, hcell⟩ := HA.out.1 (by have := HN.out; omega)
      subst e
      obtain ⟨c, hc⟩ : ∃ c, L[k]? = some c := ⟨L[k]'(by have := HN.out; omega), List.getElem?_eq_getElem _⟩
      have hm := List.mem_of_getElem? hc
      obtain ⟨x0, x1, x2, x3, x4, x5, x6, x7, x8, x9, x10, x11, x12, x13, x14⟩ := cec_past (hcell k c hc) HB.out
      have HC := hide hc
      have HM := hide hm
      clear hcell hc hm
      go_wp2_with fail
      clear x0 x1 x2 x3 x4 x5 x6 x7 x8 x9 x10 x11 x12 x13 x14
      refine (c_toCell c (SM.out c HM.out) (ag_past (HA.out.2 c HM.out) HB.out)).mono ?_
      rintro e w1 ⟨q, rfl, ho, hb1⟩
      have hR1 := HR.out.past hb1
      have hgs : w.heap.size < wr.heap.size := by
        obtain ⟨cur, h1, _⟩ := HR.out.row
        exact (Array.getElem?_eq_some_iff.1 h1).1
      obtain ⟨cur, r1, r2, r3⟩ := hR1.row
      have hP := hR1.put (c := c) (q := q) (by rw [HMl.out]; exact hkn) (ho.le (by omega))
      rw [HMl.out] at hP
      have HP := hide hP
      have HT1 := hide (chain HB.out hb1)
      have HK2 : Hid ((M ++ [(⟨c.n, c.s, c.g, q⟩ : Ce)]).map Ce.key = (L.take (k + 1)).map Ce.key) := by
        rw [List.take_add_one, HC.out, List.map_append, List.map_append, HMk.out]; exact hide rfl
      have HL2 : Hid ((M ++ [(⟨c.n, c.s, c.g, q⟩ : Ce)]).length = k + 1) := by rw [List.length_append, HMl.out]; exact hide rfl
      obtain ⟨z0, hz0'⟩ : ∃ z, w1.cell? ⟨w.heap.size, k * 15, none⟩ = some z := ⟨cur[k * 15]'(by omega), by rw [cell_of_row _ _ _ _ _ (0, 0) r1, Array.getElem?_eq_getElem]⟩
      have f0 := frozen_of_row w1 w.heap.size (k * 15) _ _ r1
      obtain ⟨z1, hz1'⟩ : ∃ z, w1.cell? ⟨w.heap.size, k * 15 + 1, none⟩ = some z := ⟨cur[k * 15 + 1]'(by omega), by rw [cell_of_row _ _ _ _ _ (0, 0) r1, Array.getElem?_eq_getElem]⟩
      have f1 := frozen_of_row w1 w.heap.size (k * 15 + 1) _ _ r1
      obtain ⟨z2, hz2'⟩ : ∃ z, w1.cell? ⟨w.heap.size, k * 15 + 2, none⟩ = some z := ⟨cur[k * 15 + 2]'(by omega), by rw [cell_of_row _ _ _ _ _ (0, 0) r1, Array.getElem?_eq_getElem]⟩
      have f2 := frozen_of_row w1 w.heap.size (k * 15 + 2) _ _ r1
      obtain ⟨z3, hz3'⟩ : ∃ z, w1.cell? ⟨w.heap.size, k * 15 + 3, none⟩ = some z := ⟨cur[k * 15 + 3]'(by omega), by rw [cell_of_row _ _ _ _ _ (0, 0) r1, Array.getElem?_eq_getElem]⟩
      have f3 := frozen_of_row w1 w.heap.size (k * 15 + 3) _ _ r1
      obtain ⟨z4, hz4'⟩ : ∃ z, w1.cell? ⟨w.heap.size, k * 15 + 4, none⟩ = some z := ⟨cur[k * 15 + 4]'(by omega), by rw [cell_of_row _ _ _ _ _ (0, 0) r1, Array.getElem?_eq_getElem]⟩
      have f4 := frozen_of_row w1 w.heap.size (k * 15 + 4) _ _ r1
      obtain ⟨z5, hz5'⟩ : ∃ z, w1.cell? ⟨w.heap.size, k * 15 + 5, none⟩ = some z := ⟨cur[k * 15 + 5]'(by omega), by rw [cell_of_row _ _ _ _ _ (0, 0) r1, Array.getElem?_eq_getElem]⟩
      have f5 := frozen_of_row w1 w.heap.size (k * 15 + 5) _ _ r1
      obtain ⟨z6, hz6'⟩ : ∃ z, w1.cell? ⟨w.heap.size, k * 15 + 6, none⟩ = some z := ⟨cur[k * 15 + 6]'(by omega), by rw [cell_of_row _ _ _ _ _ (0, 0) r1, Array.getElem?_eq_getElem]⟩
      have f6 := frozen_of_row w1 w.heap.size (k * 15 + 6) _ _ r1
      obtain ⟨z7, hz7'⟩ : ∃ z, w1.cell? ⟨w.heap.size, k * 15 + 7, none⟩ = some z := ⟨cur[k * 15 + 7]'(by omega), by rw [cell_of_row _ _ _ _ _ (0, 0) r1, Array.getElem?_eq_getElem]⟩
      have f7 := frozen_of_row w1 w.heap.size (k * 15 + 7) _ _ r1
      obtain ⟨z8, hz8'⟩ : ∃ z, w1.cell? ⟨w.heap.size, k * 15 + 8, none⟩ = some z := ⟨cur[k * 15 + 8]'(by omega), by rw [cell_of_row _ _ _ _ _ (0, 0) r1, Array.getElem?_eq_getElem]⟩
      have f8 := frozen_of_row w1 w.heap.size (k * 15 + 8) _ _ r1
      obtain ⟨z9, hz9'⟩ : ∃ z, w1.cell? ⟨w.heap.size, k * 15 + 9, none⟩ = some z := ⟨cur[k * 15 + 9]'(by omega), by rw [cell_of_row _ _ _ _ _ (0, 0) r1, Array.getElem?_eq_getElem]⟩
      have f9 := frozen_of_row w1 w.heap.size (k * 15 + 9) _ _ r1
      obtain ⟨z10, hz10'⟩ : ∃ z, w1.cell? ⟨w.heap.size, k * 15 + 10, none⟩ = some z := ⟨cur[k * 15 + 10]'(by omega), by rw [cell_of_row _ _ _ _ _ (0, 0) r1, Array.getElem?_eq_getElem]⟩
      have f10 := frozen_of_row w1 w.heap.size (k * 15 + 10) _ _ r1
      obtain ⟨z11, hz11'⟩ : ∃ z, w1.cell? ⟨w.heap.size, k * 15 + 11, none⟩ = some z := ⟨cur[k * 15 + 11]'(by omega), by rw [cell_of_row _ _ _ _ _ (0, 0) r1, Array.getElem?_eq_getElem]⟩
      have f11 := frozen_of_row w1 w.heap.size (k * 15 + 11) _ _ r1
      obtain ⟨z12, hz12'⟩ : ∃ z, w1.cell? ⟨w.heap.size, k * 15 + 12, none⟩ = some z := ⟨cur[k * 15 + 12]'(by omega), by rw [cell_of_row _ _ _ _ _ (0, 0) r1, Array.getElem?_eq_getElem]⟩
      have f12 := frozen_of_row w1 w.heap.size (k * 15 + 12) _ _ r1
      obtain ⟨z13, hz13'⟩ : ∃ z, w1.cell? ⟨w.heap.size, k * 15 + 13, none⟩ = some z := ⟨cur[k * 15 + 13]'(by omega), by rw [cell_of_row _ _ _ _ _ (0, 0) r1, Array.getElem?_eq_getElem]⟩
      have f13 := frozen_of_row w1 w.heap.size (k * 15 + 13) _ _ r1
      obtain ⟨z14, hz14'⟩ : ∃ z, w1.cell? ⟨w.heap.size, k * 15 + 14, none⟩ = some z := ⟨cur[k * 15 + 14]'(by omega), by rw [cell_of_row _ _ _ _ _ (0, 0) r1, Array.getElem?_eq_getElem]⟩
      have f14 := frozen_of_row w1 w.heap.size (k * 15 + 14) _ _ r1
      clear r1 r2 r3 hR1 ho hb1 hP hgs
      go_wp2
      go_roundw
      case rel => exact ⟨k + 1, _, by omega, by go_num, HL2, HK2, HP, by
        repeat (refine Below.setCell ?_ (by simp) _)
        exact HT1.out⟩
      case measure => simp [Go.RowKit.intOf]; omega
    · obtain rfl : N = k := by omega
      have HK2 : Hid (M.map Ce.key = L.map Ce.key) := by
        have := HMk.out
        rw [List.take_of_length_le (by have := HN.out; omega)] at this
        exact this
      go_wp2
      go_ret
      exact ⟨M, rfl, HMl.out, HK2.out, HR.out, HB.out⟩

theorem two_ce (w : World) (t : TypeId) (c d : Ce) (W : World) (hb : Below ((w.alloc (.cells (ceArr c) t)).alloc (.cells (ceArr d) t)).heap.size ((w.alloc (.cells (ceArr c) t)).alloc (.cells (ceArr d) t)) W) : CeCell W w.heap.size 0 c ∧ CeCell W (w.heap.size + 1) 0 d := by
  refine ⟨cec_past (cec_past (cec_new w t c) ((Below.refl _ _).alloc (Nat.le_refl _) _)) hb, ?_⟩
  have := cec_new (w.alloc (.cells (ceArr c) t)) t d
  exact cec_past (by simpa using this) hb
theorem str_self (s : ByteArray) : (s.toList == s.toList) = true := by simp
set_option maxHeartbeats 4000000 in
theorem c_eqCell {w : World} (n : Int) (s : ByteArray) (g : Ag) (p q : Pl) (sm : AgSm g) (hA : AgAt w g p) (hB : AgAt w g q) :
    Calls Tryz.prog 55 #[.agg (ceArr ⟨n, s, g, p⟩), .agg (ceArr ⟨n, s, g, q⟩)] w fun e w' => e = .returned (.bool true) ∧ Below w.heap.size w w' := by
  have HA := hide hA
  have HB := hide hB
  have SM := hide sm
  have hs := str_self s
  have HBa : Hid (∀ o1 o2, Below w.heap.size w ((w.alloc o1).alloc o2)) := fun o1 o2 => ((Below.refl _ _).alloc (Nat.le_refl _) _).alloc (by simp) _
  clear hA hB sm
  go_enter Tryz.func55, Tryz.ntmps55
  go_wp2_with fail
  refine (c_eqAgg SM.out (ag_past HA.out (HBa.out _ _)) (ag_past HB.out (HBa.out _ _))).mono ?_
  rintro e w1 ⟨rfl, hb1⟩
  have HT1 := hide (chain (HBa.out _ _) hb1)
  clear hb1
  go_wp2
  go_ret
  exact ⟨rfl, HT1.out⟩
theorem key_eq {c d : Ce} (h : c.key = d.key) : ∃ q, d = ⟨c.n, c.s, c.g, q⟩ := by
  obtain ⟨n, s, g, p⟩ := c
  obtain ⟨n', s', g', p'⟩ := d
  simp only [Ce.key, Prod.mk.injEq] at h
  obtain ⟨rfl, rfl, rfl⟩ := h
  exact ⟨p', rfl⟩
set_option maxHeartbeats 4000000 in
theorem c_eqCellS {w : World} {ao bo : Option Addr} {N ca cb : Nat} {L M : List Ce} (hN : L.length = N) (hM : M.length = N) (hk : L.map Ce.key = M.map Ce.key) (hl : N ≤ 1048576) (sm : ∀ c ∈ L, AgSm c.g) (hA : CesAt w ao L) (hB : CesAt w bo M) :
    Calls Tryz.prog 20 #[.slice ao N ca, .slice bo N cb] w fun e w' => e = .returned (.bool true) ∧ Below w.heap.size w w' := by
  have HN := hide hN
  have HM := hide hM
  have HK := hide hk
  have SM := hide sm
  have HA := hide hA
  have HB := hide hB
  clear hN hM hk sm hA hB
  go_enter Tryz.func20, Tryz.ntmps20
  go_wp2
  go_loopw [5] (fun i wr => ∃ k : Nat, k ≤ N ∧ i = .int .i64 k ∧ Hid (Below w.heap.size w wr)) (fun i wr => N - (Go.RowKit.intOf i).toNat)
  case atStart => exact ⟨0, Nat.zero_le _, rfl, Below.refl _ _⟩
  case round =>
    obtain ⟨k, hk, rfl, HBl⟩ := hrel
    by_cases hkn : k < N
    · have hkni : (k : Int) < (N : Int) := by omega
      obtain ⟨b, off, e, hcell⟩ := HA.out.1 (by have := HN.out; omega)
      subst e
      obtain ⟨b', off', e, hcell'⟩ := HB.out.1 (by have := HM.out; omega)
      subst e
      obtain ⟨c, hc⟩ : ∃ c, L[k]? = some c := ⟨L[k]'(by have := HN.out; omega), List.getElem?_eq_getElem _⟩
      obtain ⟨d, hd⟩ : ∃ d, M[k]? = some d := ⟨M[k]'(by have := HM.out; omega), List.getElem?_eq_getElem _⟩
      have hkey : c.key = d.key := by
        have h := congrArg (fun l => l[k]?) HK.out
        simp only [List.getElem?_map, hc, hd, Option.map_some, Option.some.injEq] at h
        exact h
      obtain ⟨q, rfl⟩ := key_eq hkey
      have hm := List.mem_of_getElem? hc
      have hm' := List.mem_of_getElem? hd
      have hC : ∀ W, Below wr.heap.size wr W → CeCell W b (off + k * 15) c ∧ CeCell W b' (off' + k * 15) ⟨c.n, c.s, c.g, q⟩ := fun W hW => ⟨cec_past (hcell k c hc) (chain HBl.out hW), cec_past (hcell' k _ hd) (chain HBl.out hW)⟩
      have HC := hide hC
      have HMm := hide (And.intro hm hm')
      clear hcell hcell' hc hd hm hm' hC hkey
      obtain ⟨⟨x0, x1, x2, x3, x4, x5, x6, x7, x8, x9, x10, x11, x12, x13, x14⟩, ⟨y0, y1, y2, y3, y4, y5, y6, y7, y8, y9, y10, y11, y12, y13, y14⟩⟩ := HC.out wr (Below.refl _ _)
      go_wp2_with fail
      clear x0 x1 x2 x3 x4 x5 x6 x7 x8 x9 x10 x11 x12 x13 x14 y0 y1 y2 y3 y4 y5 y6 y7 y8 y9 y10 y11 y12 y13 y14
      go_cut [26] (fun v w' => v = .bool false ∧ Hid (Below w.heap.size w w'))
      case first =>
        have HS0 : (fun W => Below wr.heap.size wr W) wr.drew := (Below.refl _ _).drew
        refine regionK (fun W => Below wr.heap.size wr W) 10 (by kernel_rfl) ?_
        refine takeK (i := 0) (d := 17) (v := .slice (some ⟨b, off, none⟩) N ca) rfl rfl (by kernel_rfl) (by kernel_rfl) (by kernel_rfl) (by decide) (by kernel_rfl) (fun _ _ _ h => h) (Or.inl ⟨by rfl, fun W hW => ?_⟩) HS0 ?_
        · clear hW
          go_simp
        simp only [List.setIfInBounds_toArray, List.set_cons_zero, List.set_cons_succ]
        refine takeK (i := 1) (d := 18) (v := .int .i64 (k : Int)) rfl rfl (by kernel_rfl) (by kernel_rfl) (by kernel_rfl) (by decide) (by kernel_rfl) (fun _ _ _ h => h) (Or.inl ⟨by rfl, fun W hW => ?_⟩) HS0 ?_
        · clear hW
          go_simp
        simp only [List.setIfInBounds_toArray, List.set_cons_zero, List.set_cons_succ]
        refine takeK (i := 2) (d := 19) (v := .pointer (some ⟨b, off + k * 15, none⟩)) rfl rfl (by kernel_rfl) (by kernel_rfl) (by kernel_rfl) (by decide) (by kernel_rfl) (fun _ _ _ h => h) (Or.inl ⟨by rfl, fun W hW => ?_⟩) HS0 ?_
        · clear hW
          go_simp
        simp only [List.setIfInBounds_toArray, List.set_cons_zero, List.set_cons_succ]
        refine takeK (i := 3) (d := 20) (v := .agg (ceArr c)) rfl rfl (by kernel_rfl) (by kernel_rfl) (by kernel_rfl) (by decide) (by kernel_rfl) (fun _ _ _ h => h) (Or.inl ⟨by rfl, fun W hW => ?_⟩) HS0 ?_
        · obtain ⟨⟨x0, x1, x2, x3, x4, x5, x6, x7, x8, x9, x10, x11, x12, x13, x14⟩, ⟨y0, y1, y2, y3, y4, y5, y6, y7, y8, y9, y10, y11, y12, y13, y14⟩⟩ := HC.out W hW
          clear hW
          go_simp
        simp only [List.setIfInBounds_toArray, List.set_cons_zero, List.set_cons_succ]
        refine takeK (i := 4) (d := 21) (v := .slice (some ⟨b', off', none⟩) N cb) rfl rfl (by kernel_rfl) (by kernel_rfl) (by kernel_rfl) (by decide) (by kernel_rfl) (fun _ _ _ h => h) (Or.inl ⟨by rfl, fun W hW => ?_⟩) HS0 ?_
        · clear hW
          go_simp
        simp only [List.setIfInBounds_toArray, List.set_cons_zero, List.set_cons_succ]
        refine takeK (i := 5) (d := 22) (v := .int .i64 (k : Int)) rfl rfl (by kernel_rfl) (by kernel_rfl) (by kernel_rfl) (by decide) (by kernel_rfl) (fun _ _ _ h => h) (Or.inl ⟨by rfl, fun W hW => ?_⟩) HS0 ?_
        · clear hW
          go_simp
        simp only [List.setIfInBounds_toArray, List.set_cons_zero, List.set_cons_succ]
        refine takeK (i := 6) (d := 23) (v := .pointer (some ⟨b', off' + k * 15, none⟩)) rfl rfl (by kernel_rfl) (by kernel_rfl) (by kernel_rfl) (by decide) (by kernel_rfl) (fun _ _ _ h => h) (Or.inl ⟨by rfl, fun W hW => ?_⟩) HS0 ?_
        · clear hW
          go_simp
        simp only [List.setIfInBounds_toArray, List.set_cons_zero, List.set_cons_succ]
        refine takeK (i := 7) (d := 24) (v := .agg (ceArr ⟨c.n, c.s, c.g, q⟩)) rfl rfl (by kernel_rfl) (by kernel_rfl) (by kernel_rfl) (by decide) (by kernel_rfl) (fun _ _ _ h => h) (Or.inl ⟨by rfl, fun W hW => ?_⟩) HS0 ?_
        · obtain ⟨⟨x0, x1, x2, x3, x4, x5, x6, x7, x8, x9, x10, x11, x12, x13, x14⟩, ⟨y0, y1, y2, y3, y4, y5, y6, y7, y8, y9, y10, y11, y12, y13, y14⟩⟩ := HC.out W hW
          clear hW
          go_simp
        simp only [List.setIfInBounds_toArray, List.set_cons_zero, List.set_cons_succ]
        refine oneK (i := 8) (by kernel_rfl) rfl (fun K hK => ?_)
        go_simp
        refine (c_eqCell c.n c.s c.g c.p q (SM.out c HMm.out.1) (ag_past (HA.out.2 c HMm.out.1) (chain HBl.out HS0)) (ag_past (HB.out.2 _ HMm.out.2) (chain HBl.out HS0))).mono ?_
        rintro e w1 ⟨rfl, hb1⟩
        have HB1 : Hid (Below wr.heap.size wr w1) := (HS0 : Below wr.heap.size wr _).trans (hb1.mono (Nat.le_refl _))
        clear hb1
        try dsimp only
        refine hK.out _ _ (fun _ => HB1.out) ?_
        clear hK K
        try simp only [Act.put, List.setIfInBounds_toArray, List.set_cons_zero, List.set_cons_succ]
        refine takeK (i := 9) (d := 26) (v := .bool false) rfl rfl (by kernel_rfl) (by kernel_rfl) (by kernel_rfl) (by decide) (by kernel_rfl) (fun _ _ _ h => h) (Or.inl ⟨by rfl, fun W hW => ?_⟩) HB1.out ?_
        · clear hW
          go_simp
        simp only [List.setIfInBounds_toArray, List.set_cons_zero, List.set_cons_succ]
        refine doneK (by kernel_rfl) ?_ _
        go_wp2
        go_meet
        exact ⟨rfl, hide (chain HBl.out HB1.out)⟩
      case rest =>
        obtain ⟨rfl, HB2⟩ := hcut
        go_wp2
        go_roundw
        case rel => exact ⟨k + 1, by omega, by go_num, HB2⟩
        case measure => simp [Go.RowKit.intOf]; omega
    · obtain rfl : N = k := by omega
      go_wp2
      go_ret
      exact ⟨rfl, HBl.out⟩
end Go.Proofs.YtmjogablacnlgaaGreatDoor

/-
  CellsSame of the program and of the model.
-/
namespace Go.Proofs.YtmjogablacnlgaaGreatDoor
set_option linter.unusedVariables false
set_option linter.unusedSimpArgs false
open Go.ChangeShapes Go.WideShapes Go.ChangeAt Go.RowKit Go.PlainAid Go.Lib
set_option maxRecDepth 10000

def sameC (c d : Ce) : Bool := ((c.n == d.n) && (c.s.toList == d.s.toList)) && sameA c.g d.g
def sameCs : List Ce → List Ce → Bool
  | [], [] => true
  | c :: L, d :: M => sameC c d && sameCs L M
  | _, _ => false
theorem sameCs_drop {L M : List Ce} {k : Nat} {c d : Ce} (hc : L[k]? = some c) (hd : M[k]? = some d) : sameCs (L.drop k) (M.drop k) = (sameC c d && sameCs (L.drop (k + 1)) (M.drop (k + 1))) := by
  have h1 := (List.getElem?_eq_some_iff.1 hc).1
  have h2 := (List.getElem?_eq_some_iff.1 hd).1
  rw [List.drop_eq_getElem_cons h1, List.drop_eq_getElem_cons h2, (List.getElem?_eq_some_iff.1 hc).2, (List.getElem?_eq_some_iff.1 hd).2]
  rfl
theorem sameCs_len : ∀ {L M : List Ce}, ¬ L.length = M.length → sameCs L M = false
  | [], [], h => absurd rfl h
  | [], d :: M, _ => rfl
  | c :: L, [], _ => rfl
  | c :: L, d :: M, h => by
    unfold sameCs
    rw [sameCs_len (by simpa using h)]; simp
/-- Are two lists of cells the same? -/
def csB (L M : List Ce) : Bool := decide (L.length ≤ 400) && decide (M.length ≤ 400) && sameCs L M
theorem sameC_key {c d c' d' : Ce} (h : c.key = c'.key) (k : d.key = d'.key) : sameC c d = sameC c' d' := by
  obtain ⟨q, rfl⟩ := key_eq h
  obtain ⟨q', rfl⟩ := key_eq k
  rfl
theorem sameCs_key : ∀ {L M L' M' : List Ce}, L.map Ce.key = L'.map Ce.key → M.map Ce.key = M'.map Ce.key → sameCs L M = sameCs L' M'
  | [], [], [], [], _, _ => rfl
  | [], d :: M, [], d' :: M', _, _ => rfl
  | c :: L, [], c' :: L', [], _, _ => rfl
  | c :: L, d :: M, c' :: L', d' :: M', h, k => by
    simp only [List.map_cons, List.cons.injEq] at h k
    unfold sameCs
    rw [sameC_key h.1 k.1, sameCs_key h.2 k.2]
  | [], _, _ :: _, _, h, _ => by simp at h
  | _ :: _, _, [], _, h, _ => by simp at h
  | _, [], _, _ :: _, _, k => by simp at k
  | _, _ :: _, _, [], _, k => by simp at k
theorem csB_key {L M L' M' : List Ce} (h : L.map Ce.key = L'.map Ce.key) (k : M.map Ce.key = M'.map Ce.key) : csB L M = csB L' M' := by
  have e1 : L.length = L'.length := by have := congrArg List.length h; simpa using this
  have e2 : M.length = M'.length := by have := congrArg List.length k; simpa using this
  unfold csB
  rw [e1, e2, sameCs_key h k]
theorem c_keyOf (c : Ce) (w : World) : Calls Tryz.prog 118 #[.agg (ceArr c)] w fun e w' => e = .returned (.agg #[.int .i64 c.n, .string c.s]) ∧ Below w.heap.size w w' := by
  go_enter Tryz.func118, Tryz.ntmps118
  go_wp2
  refine bodyPost_ret (v := .agg #[.int .i64 c.n, .string c.s]) (by simp [results, Tryz.results118, go_sem]) rfl ⟨rfl, ?_⟩
  first
    | exact ((Below.refl _ _).alloc (Nat.le_refl _) _).alloc (by simp) _
    | (repeat (refine Below.setCell ?_ (by simp) _)
       exact ((Below.refl _ _).alloc (Nat.le_refl _) _).alloc (by simp) _)
end Go.Proofs.YtmjogablacnlgaaGreatDoor

/-
  An argument that is a slice of Cells, opened.
-/
namespace Go.Proofs.YtmjogablacnlgaaGreatDoor
set_option linter.unusedVariables false
set_option linter.unusedSimpArgs false
open Go.ChangeShapes Go.WideShapes Go.ChangeAt Go.RowKit Go.PlainAid

instance : Inhabited Ce := ⟨⟨0, ByteArray.empty, ⟨0, 0, 0, 0, 0, 0, 0, [], [], 0, 0, [], []⟩, ⟨none, 0, none, 0, none, 0, none, 0⟩⟩⟩
theorem list15 {α : Type} {cs : List α} (h : cs.length = 15) : ∃ c0 c1 c2 c3 c4 c5 c6 c7 c8 c9 c10 c11 c12 c13 c14, cs = [c0, c1, c2, c3, c4, c5, c6, c7, c8, c9, c10, c11, c12, c13, c14] := by
  match cs, h with
  | [c0, c1, c2, c3, c4, c5, c6, c7, c8, c9, c10, c11, c12, c13, c14], _ => exact ⟨c0, c1, c2, c3, c4, c5, c6, c7, c8, c9, c10, c11, c12, c13, c14, rfl⟩
structure CeOk (W : World) (c : Ce) : Prop where
  n : I64 c.n
  s : c.s.size ≤ maxLen
  g : AgOk c.g
  l : AgLen c.g
  m : AgAt W c.g c.p
set_option maxRecDepth 100000 in
set_option maxHeartbeats 1000000 in
theorem open_ce0 {H : Type} {enc : TypeId × Value → H} {W : World} {base fuel : Nat} {sp : Nat → Bool} {held : Bool} {cs : List Value} {x : DataW H × List MemPlace}
    (hf : DataW.trod enc Tryz.prog W base sp held fuel 177 cs = some x) : ∃ c : Ce, cs = (ceArr c).toList ∧ CeOk W c := by
  obtain ⟨y0, y1, y2, n, _, hl, h0, h1, h2⟩ := Deep.trod_struct3 Tryz.underlying177 hf
  obtain ⟨c0, c1, c2, c3, c4, c5, c6, c7, c8, c9, c10, c11, c12, c13, c14, rfl⟩ := list15 (hl.trans (show Tryz.prog.cellsOf 177 = 15 by kernel_rfl))
  have eI : Tryz.prog.cellsOf 2 = 1 := by kernel_rfl
  have eS : Tryz.prog.cellsOf 9 = 1 := by kernel_rfl
  have eG : Tryz.prog.cellsOf 175 = 13 := by kernel_rfl
  have k0 : DataW.trod enc Tryz.prog W base sp held n 2 [c0] = some y0 := by simpa [eI] using h0
  have k1 : DataW.trod enc Tryz.prog W base sp held n 9 [c1] = some y1 := by simpa [eS] using h1
  have k2 : DataW.trod enc Tryz.prog W base sp held n 175 [c2, c3, c4, c5, c6, c7, c8, c9, c10, c11, c12, c13, c14] = some y2 := by simpa [eG] using h2
  obtain ⟨i, f0, _, wi⟩ := DataW.trod_int Tryz.underlying2 k0
  obtain ⟨s, f1, _, ws⟩ := DataW.trod_string Tryz.underlying9 k1
  obtain ⟨g, p, e, ok, ln, m⟩ := open_agg0 k2
  simp at f0 f1
  subst f0 f1
  refine ⟨⟨i, s, g, p⟩, ?_, bounds_i64 wi, ws, ok, ln, m⟩
  have e' := congrArg Array.toList e
  show [Value.int .i64 i, .string s] ++ [c2, c3, c4, c5, c6, c7, c8, c9, c10, c11, c12, c13, c14] = [Value.int .i64 i, .string s] ++ (agArr g p).toList
  rw [← e']
set_option maxRecDepth 100000 in
theorem open_cells {H : Type} {enc : TypeId × Value → H} {W : World} {r : Reach} {b0 base : Nat} {sp : Nat → Bool} {held : Bool} {v : Value} {d : DataW H} {ps : List MemPlace}
    (hval : Value.okWide Tryz.prog W r b0 105 v) (hd : DataW.Trod enc Tryz.prog W base sp held 105 v d ps) :
    ∃ ao cap, ∃ L : List Ce, v = .slice ao L.length cap ∧ CesLen L ∧ CesAt W ao L ∧ ∀ c ∈ L, AgOk c.g := by
  obtain ⟨ao, ln, cap, rfl⟩ := okWide_slice Tryz.underlying105 hval
  obtain ⟨fuel, hf⟩ := hd
  rcases Deep.open_slice Tryz.underlying105 hf with ⟨hcs, hx⟩ | ⟨a, len, cap', m, n, D, P, hcs, _, hl, hm, hmm, hx, hcell⟩
  · simp [Value.cells] at hcs
    obtain ⟨rfl, rfl, rfl⟩ := hcs
    exact ⟨none, 0, [], rfl, ⟨Nat.zero_le _, fun c hc => absurd hc List.not_mem_nil, fun c hc => absurd hc List.not_mem_nil⟩, ⟨fun h => absurd h (Nat.lt_irrefl 0), fun c hc => absurd hc List.not_mem_nil⟩, fun c hc => absurd hc List.not_mem_nil⟩
  · simp [Value.cells] at hcs
    obtain ⟨rfl, rfl, rfl⟩ := hcs
    rw [show Tryz.prog.cellsOf 177 = 15 by kernel_rfl] at hcell
    have hlm : ln ≤ m := by rw [hmm]; split <;> omega
    have each : ∀ i, i < ln → ∃ c : Ce, (∀ j, j < 15 → W.cell? ((a.add (i * 15)).add j) = (ceArr c).toList[j]?) ∧ CeOk W c := fun i hi => by
      obtain ⟨cs', h1, h2⟩ := hcell i (by omega)
      obtain ⟨c, rfl, ok⟩ := open_ce0 h2
      obtain ⟨_, _, h3⟩ := World.cells?_some h1
      exact ⟨c, h3, ok⟩
    obtain ⟨f, hf⟩ := Deep.choose_lt (α := Ce) each
    have hlen : ((List.range ln).map f).length = ln := by simp
    have mem : ∀ c ∈ (List.range ln).map f, CeOk W c := fun c hc => by
      obtain ⟨i, hi, rfl⟩ := List.mem_map.1 hc
      exact (hf i (List.mem_range.1 hi)).2
    refine ⟨some a, cap, (List.range ln).map f, by rw [hlen], ⟨by rw [hlen]; omega, fun c hc => (mem c hc).s, fun c hc => (mem c hc).l⟩, ⟨fun h0 => ?_, fun c hc => (mem c hc).m⟩, fun c hc => (mem c hc).g⟩
    rw [hlen] at h0
    have g0 := (hf 0 h0).1 0 (by omega)
    obtain ⟨b, off, spot⟩ := a
    have hspot : spot = none := by
      have g1 : W.cell? ⟨b, off, spot⟩ = some (.int .i64 (f 0).n) := by simpa [Addr.add, ceArr] using g0
      exact World.cell?_spot g1
    subst hspot
    refine ⟨b, off, rfl, fun i x hi => ?_⟩
    have hil := (List.getElem?_eq_some_iff.1 hi).1
    rw [hlen] at hil
    have e : x = f i := by
      have := (List.getElem?_eq_some_iff.1 hi).2
      simpa using this.symm
    subst e
    have q := (hf i hil).1
    simp only [Addr.add_lit] at q
    exact ⟨q 0 (by omega), q 1 (by omega), q 2 (by omega), q 3 (by omega), q 4 (by omega), q 5 (by omega), q 6 (by omega), q 7 (by omega), q 8 (by omega), q 9 (by omega), q 10 (by omega), q 11 (by omega), q 12 (by omega), q 13 (by omega), q 14 (by omega)⟩
end Go.Proofs.YtmjogablacnlgaaGreatDoor
