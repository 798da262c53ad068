/-
  splitLine of the program.
-/
import Derived.Test.YtnflhahnbdnaoaaGreatDoorLI
import Derived.Test.YtnflhahnbdnaoaaGreatDoorLB
namespace Go.Proofs.YtnflhahnbdnaoaaGreatDoor
set_option linter.unusedVariables false
set_option linter.unusedSimpArgs false
open Go.ChangeShapes Go.WideShapes Go.ChangeAt Go.RowKit Go.PlainAid
set_option maxRecDepth 10000

/-- A text cut at a byte. -/
def CutP (t : ByteArray) (c : UInt8) (p r : ByteArray) (b : Bool) : Prop := (b = true ∧ toL t = toL p ++ c :: toL r ∧ c ∉ toL p) ∨ (b = false ∧ c ∉ toL t ∧ p = t ∧ r = ByteArray.empty)
theorem CutP.size {t p r : ByteArray} {c : UInt8} {b : Bool} (h : CutP t c p r b) : p.size ≤ t.size ∧ r.size ≤ t.size := by
  rcases h with ⟨_, h, _⟩ | ⟨_, _, rfl, rfl⟩
  · have := congrArg List.length h
    rw [List.length_append, List.length_cons, toL_len, toL_len, toL_len] at this
    omega
  · exact ⟨Nat.le_refl _, Nat.zero_le _⟩
theorem first_at {c : UInt8} : ∀ {l : List UInt8}, c ∈ l → ∃ p r, l = p ++ c :: r ∧ c ∉ p
  | y :: l, h => by
    by_cases hy : c = y
    · subst hy; exact ⟨[], l, rfl, by simp⟩
    · have hl : c ∈ l := by
        rcases List.mem_cons.1 h with e | e
        · exact absurd e hy
        · exact e
      obtain ⟨p, r, e, hp⟩ := first_at hl
      exact ⟨y :: p, r, by rw [e]; rfl, fun hm => by
        rcases List.mem_cons.1 hm with e | e
        · exact hy e
        · exact hp e⟩
theorem cut_all (t : ByteArray) (c : UInt8) : ∃ p r b, CutP t c p r b ∧ Lib.cut (toL t) [c] = (toL p, toL r, b) := by
  by_cases h : c ∈ toL t
  · obtain ⟨p, r, e, hp⟩ := first_at h
    refine ⟨⟨p.toArray⟩, ⟨r.toArray⟩, true, Or.inl ⟨rfl, by rw [toL_mk, toL_mk]; exact e, by rw [toL_mk]; exact hp⟩, ?_⟩
    rw [toL_mk, toL_mk]
    have e2 := cut_at (r := r) hp
    rw [← e] at e2
    exact e2
  · refine ⟨t, ByteArray.empty, false, Or.inr ⟨rfl, h, rfl, rfl⟩, ?_⟩
    unfold Lib.cut
    rw [index_no h, if_neg (by omega)]
    rfl
theorem c_CutL (t : ByteArray) (c : UInt8) (hz : t.size ≤ 1000000) (w : World) (hM : MX w) :
    Calls Tryz.prog 67 #[.string t, .string ⟨#[c]⟩] w fun e w' => ∃ p r b, e = .returned (.tuple #[.string p, .string r, .bool b]) ∧ CutP t c p r b ∧ Below w.heap.size w w' := by
  obtain ⟨m, hm⟩ := hM
  obtain ⟨p, r, b, hC, e⟩ := cut_all t c
  refine (Tryz.strings_Cut t ⟨#[c]⟩ m w (by omega) hm).mono ?_
  rintro e1 w' ⟨rfl, n, rfl⟩
  refine ⟨p, r, b, ?_, hC, ⟨rfl, rfl, rfl, Nat.le_refl _, fun _ _ => rfl⟩⟩
  have e2 : Lib.cut t.data.toList (⟨#[c]⟩ : ByteArray).data.toList = (toL p, toL r, b) := e
  rw [e2]
  show Ending.returned (.tuple #[.string ⟨(toL p).toArray⟩, .string ⟨(toL r).toArray⟩, .bool b]) = _
  rw [mk_toL, mk_toL]
/-- A line's pieces. -/
def LP (t nm wh kd : ByteArray) (ps : List ByteArray) : Prop := ∃ R, toL t = toL nm ++ 58 :: toL R ∧ (58 : UInt8) ∉ toL nm ∧ splL R 124 = wh :: kd :: ps
theorem first_one {c : UInt8} {p r p' r' : List UInt8} (h : p ++ c :: r = p' ++ c :: r') (hp : c ∉ p) (hp' : c ∉ p') : p = p' ∧ r = r' := by
  have e := cut_at (r := r) hp
  rw [h, cut_at hp'] at e
  cases e
  exact ⟨rfl, rfl⟩
theorem LP.one {t nm wh kd nm' wh' kd' : ByteArray} {ps ps' : List ByteArray} (h : LP t nm wh kd ps) (k : LP t nm' wh' kd' ps') : nm = nm' ∧ wh = wh' ∧ kd = kd' ∧ ps = ps' := by
  obtain ⟨R, h1, h2, h3⟩ := h
  obtain ⟨R', k1, k2, k3⟩ := k
  obtain ⟨e1, e2⟩ := first_one (h1.symm.trans k1) h2 k2
  have e3 := toL_inj e2
  subst e3
  rw [h3] at k3
  cases k3
  exact ⟨toL_inj e1, rfl, rfl, rfl⟩
theorem splL_no {c : UInt8} {t : ByteArray} (h : c ∉ toL t) : splL t (c.toNat : Int) = [t] := by
  obtain ⟨h1, h2, h3⟩ := splL_joins (c := c) t.size t (Nat.le_refl _)
  generalize splL t (c.toNat : Int) = l at h1 h2 h3
  match l, h1, h3 with
  | [x], _, h3 => rw [joinC_one] at h3; rw [toL_inj h3]
  | x :: y :: r, _, h3 => rw [joinC_cons] at h3; exact absurd (by rw [← h3]; simp) h
theorem LP.no1 {t nm wh kd : ByteArray} {ps : List ByteArray} (hn : (58 : UInt8) ∉ toL t) (h : LP t nm wh kd ps) : False := by
  obtain ⟨R, h1, _, _⟩ := h
  exact hn (by rw [h1]; simp)
theorem LP.no2 {t nm wh kd nm' R : ByteArray} {ps : List ByteArray} (ht : toL t = toL nm' ++ 58 :: toL R) (hp : (58 : UInt8) ∉ toL nm') (hn : (124 : UInt8) ∉ toL R) (h : LP t nm wh kd ps) : False := by
  obtain ⟨R', h1, h2, h3⟩ := h
  obtain ⟨_, e2⟩ := first_one (ht.symm.trans h1) hp h2
  have e3 := toL_inj e2
  subst e3
  have e4 : splL R 124 = [R] := splL_no hn
  rw [e4] at h3; cases h3
theorem splL_at {R wh R2 : ByteArray} (h : toL R = toL wh ++ 124 :: toL R2) (hp : (124 : UInt8) ∉ toL wh) : splL R 124 = wh :: splL R2 124 := by
  have e : splL R 124 = wh :: splL ⟨(toL R2).toArray⟩ 124 := splL_cons (c := 124) h hp
  rw [mk_toL] at e
  exact e
theorem nil_no {c : UInt8} {p r : ByteArray} (h : toL ByteArray.empty = toL p ++ c :: toL r) : False := by
  have := congrArg List.length h
  rw [toL_len, List.length_append, List.length_cons] at this
  have e : ByteArray.empty.size = 0 := rfl
  omega
theorem cut_end {t nm R wh R2 kd R3 : ByteArray} {b1 b2 : Bool} (C1 : CutP t 58 nm R b1) (C2 : CutP R 124 wh R2 b2) (C3 : CutP R2 124 kd R3 false) :
    ((b1 && b2) = true → LP t nm wh kd []) ∧ ((b1 && b2) = false → ∀ nm wh kd ps, LP t nm wh kd ps → False) := by
  rcases C1 with ⟨rfl, h1, h2⟩ | ⟨rfl, h1, _, _⟩
  · rcases C2 with ⟨rfl, k1, k2⟩ | ⟨rfl, k1, _, _⟩
    · refine ⟨fun _ => ⟨R, h1, h2, ?_⟩, (fun e => by cases e)⟩
      rcases C3 with ⟨e, _⟩ | ⟨_, l1, l2, _⟩
      · cases e
      · have e4 : splL R2 124 = [R2] := splL_no l1
        rw [splL_at k1 k2, e4, l2]
    · exact ⟨(fun e => by cases e), fun _ nm wh kd ps h => LP.no2 h1 h2 k1 h⟩
  · exact ⟨(fun e => by cases e), fun _ nm wh kd ps h => LP.no1 h1 h⟩
theorem cut_more {t nm R wh R2 kd R3 : ByteArray} {b1 b2 : Bool} (C1 : CutP t 58 nm R b1) (C2 : CutP R 124 wh R2 b2) (C3 : CutP R2 124 kd R3 true) : b1 = true ∧ b2 = true ∧ LP t nm wh kd (splL R3 124) := by
  rcases C3 with ⟨_, l1, l2⟩ | ⟨e, _⟩
  · rcases C2 with ⟨g2, k1, k2⟩ | ⟨_, _, _, rfl⟩
    · rcases C1 with ⟨g1, h1, h2⟩ | ⟨_, _, _, rfl⟩
      · exact ⟨g1, g2, R, h1, h2, by rw [splL_at k1 k2, splL_at l1 l2]⟩
      · exact absurd k1 (fun e => nil_no e)
    · exact absurd l1 (fun e => nil_no e)
  · cases e
theorem bel8 {B : Nat} {w w' : World} (h : Below B w w') {r : Nat} (hr : B ≤ r) (v0 v1 v2 v3 v4 v5 v6 v7 : Value) :
    Below B w ((((((((w'.setCell ⟨r, 0, none⟩ v0).setCell ⟨r, 1, none⟩ v1).setCell ⟨r, 2, none⟩ v2).setCell ⟨r, 3, none⟩ v3).setCell ⟨r, 4, none⟩ v4).setCell ⟨r, 5, none⟩ v5).setCell ⟨r, 6, none⟩ v6).setCell ⟨r, 7, none⟩ v7) :=
  (((((((h.setCell (p := ⟨r, 0, none⟩) hr v0).setCell (p := ⟨r, 1, none⟩) hr v1).setCell (p := ⟨r, 2, none⟩) hr v2).setCell (p := ⟨r, 3, none⟩) hr v3).setCell (p := ⟨r, 4, none⟩) hr v4).setCell (p := ⟨r, 5, none⟩) hr v5).setCell (p := ⟨r, 6, none⟩) hr v6).setCell (p := ⟨r, 7, none⟩) hr v7
theorem strs_set8 {w' : World} {ta : Option Addr} {L : List ByteArray} {r : Nat} (h : StrsAt w' ta L) (hn : ∀ x, ta = some x → x.block ≠ r) (v0 v1 v2 v3 v4 v5 v6 v7 : Value) :
    StrsAt ((((((((w'.setCell ⟨r, 0, none⟩ v0).setCell ⟨r, 1, none⟩ v1).setCell ⟨r, 2, none⟩ v2).setCell ⟨r, 3, none⟩ v3).setCell ⟨r, 4, none⟩ v4).setCell ⟨r, 5, none⟩ v5).setCell ⟨r, 6, none⟩ v6).setCell ⟨r, 7, none⟩ v7) ta L :=
  strs_set (strs_set (strs_set (strs_set (strs_set (strs_set (strs_set (strs_set h hn) hn) hn) hn) hn) hn) hn) hn
theorem splL_sizeC (t : ByteArray) (c : UInt8) : (∀ u ∈ splL t (c.toNat : Int), u.size ≤ t.size) ∧ (splL t (c.toNat : Int)).length ≤ t.size + 1 := by
  have e : splL t (c.toNat : Int) = Lib.splitB ⟨#[c]⟩ 0 (Lib.countB t ⟨#[c]⟩) t := (splitB_splL c t).symm
  refine ⟨fun u hu => splitB_size _ _ _ u (by rw [← e]; exact hu), ?_⟩
  have := joinC_long c (splL t (c.toNat : Int))
  rw [(splL_joins (c := c) t.size t (Nat.le_refl _)).2.2, toL_len] at this
  exact this
theorem cell8 {w : World} {r : Nat} {T : TypeId} {u0 u1 u2 u3 u4 u5 u6 u7 : Value} (h : w.heap[r]? = some (.cells #[u0, u1, u2, u3, u4, u5, u6, u7] T (0, 0))) :
    w.cell? ⟨r, 0, none⟩ = some u0 ∧ w.cell? ⟨r, 1, none⟩ = some u1 ∧ w.cell? ⟨r, 2, none⟩ = some u2 ∧ w.cell? ⟨r, 3, none⟩ = some u3 ∧ w.cell? ⟨r, 4, none⟩ = some u4 ∧ w.cell? ⟨r, 5, none⟩ = some u5 ∧ w.cell? ⟨r, 6, none⟩ = some u6 ∧ w.cell? ⟨r, 7, none⟩ = some u7 :=
  ⟨by rw [cell_of_row w r 0 _ _ (0, 0) h]; rfl, by rw [cell_of_row w r 1 _ _ (0, 0) h]; rfl, by rw [cell_of_row w r 2 _ _ (0, 0) h]; rfl, by rw [cell_of_row w r 3 _ _ (0, 0) h]; rfl, by rw [cell_of_row w r 4 _ _ (0, 0) h]; rfl, by rw [cell_of_row w r 5 _ _ (0, 0) h]; rfl, by rw [cell_of_row w r 6 _ _ (0, 0) h]; rfl, by rw [cell_of_row w r 7 _ _ (0, 0) h]; rfl⟩
theorem froz8 {w : World} {r : Nat} {T : TypeId} {cs : Array Value} (h : w.heap[r]? = some (.cells cs T (0, 0))) :
    w.frozen? ⟨r, 0, none⟩ = false ∧ w.frozen? ⟨r, 1, none⟩ = false ∧ w.frozen? ⟨r, 2, none⟩ = false ∧ w.frozen? ⟨r, 3, none⟩ = false ∧ w.frozen? ⟨r, 4, none⟩ = false ∧ w.frozen? ⟨r, 5, none⟩ = false ∧ w.frozen? ⟨r, 6, none⟩ = false ∧ w.frozen? ⟨r, 7, none⟩ = false :=
  ⟨frozen_of_row w r 0 _ _ h, frozen_of_row w r 1 _ _ h, frozen_of_row w r 2 _ _ h, frozen_of_row w r 3 _ _ h, frozen_of_row w r 4 _ _ h, frozen_of_row w r 5 _ _ h, frozen_of_row w r 6 _ _ h, frozen_of_row w r 7 _ _ h⟩
theorem row8 {w : World} {r : Nat} {T : TypeId} {u0 u1 u2 u3 u4 u5 u6 u7 : Value} (v0 v1 v2 v3 v4 v5 v6 v7 : Value) (h : w.heap[r]? = some (.cells #[u0, u1, u2, u3, u4, u5, u6, u7] T (0, 0))) :
    ((((((((w.setCell ⟨r, 0, none⟩ v0).setCell ⟨r, 1, none⟩ v1).setCell ⟨r, 2, none⟩ v2).setCell ⟨r, 3, none⟩ v3).setCell ⟨r, 4, none⟩ v4).setCell ⟨r, 5, none⟩ v5).setCell ⟨r, 6, none⟩ v6).setCell ⟨r, 7, none⟩ v7).heap[r]? = some (.cells #[v0, v1, v2, v3, v4, v5, v6, v7] T (0, 0)) := by
  have h0 : (w.setCell ⟨r, 0, none⟩ v0).heap[r]? = some (.cells #[v0, u1, u2, u3, u4, u5, u6, u7] T (0, 0)) := heap_setCell_same _ r 0 _ _ v0 h
  have h1 : ((w.setCell ⟨r, 0, none⟩ v0).setCell ⟨r, 1, none⟩ v1).heap[r]? = some (.cells #[v0, v1, u2, u3, u4, u5, u6, u7] T (0, 0)) := heap_setCell_same _ r 1 _ _ v1 h0
  have h2 : (((w.setCell ⟨r, 0, none⟩ v0).setCell ⟨r, 1, none⟩ v1).setCell ⟨r, 2, none⟩ v2).heap[r]? = some (.cells #[v0, v1, v2, u3, u4, u5, u6, u7] T (0, 0)) := heap_setCell_same _ r 2 _ _ v2 h1
  have h3 : ((((w.setCell ⟨r, 0, none⟩ v0).setCell ⟨r, 1, none⟩ v1).setCell ⟨r, 2, none⟩ v2).setCell ⟨r, 3, none⟩ v3).heap[r]? = some (.cells #[v0, v1, v2, v3, u4, u5, u6, u7] T (0, 0)) := heap_setCell_same _ r 3 _ _ v3 h2
  have h4 : (((((w.setCell ⟨r, 0, none⟩ v0).setCell ⟨r, 1, none⟩ v1).setCell ⟨r, 2, none⟩ v2).setCell ⟨r, 3, none⟩ v3).setCell ⟨r, 4, none⟩ v4).heap[r]? = some (.cells #[v0, v1, v2, v3, v4, u5, u6, u7] T (0, 0)) := heap_setCell_same _ r 4 _ _ v4 h3
  have h5 : ((((((w.setCell ⟨r, 0, none⟩ v0).setCell ⟨r, 1, none⟩ v1).setCell ⟨r, 2, none⟩ v2).setCell ⟨r, 3, none⟩ v3).setCell ⟨r, 4, none⟩ v4).setCell ⟨r, 5, none⟩ v5).heap[r]? = some (.cells #[v0, v1, v2, v3, v4, v5, u6, u7] T (0, 0)) := heap_setCell_same _ r 5 _ _ v5 h4
  have h6 : (((((((w.setCell ⟨r, 0, none⟩ v0).setCell ⟨r, 1, none⟩ v1).setCell ⟨r, 2, none⟩ v2).setCell ⟨r, 3, none⟩ v3).setCell ⟨r, 4, none⟩ v4).setCell ⟨r, 5, none⟩ v5).setCell ⟨r, 6, none⟩ v6).heap[r]? = some (.cells #[v0, v1, v2, v3, v4, v5, v6, u7] T (0, 0)) := heap_setCell_same _ r 6 _ _ v6 h5
  have h7 : ((((((((w.setCell ⟨r, 0, none⟩ v0).setCell ⟨r, 1, none⟩ v1).setCell ⟨r, 2, none⟩ v2).setCell ⟨r, 3, none⟩ v3).setCell ⟨r, 4, none⟩ v4).setCell ⟨r, 5, none⟩ v5).setCell ⟨r, 6, none⟩ v6).setCell ⟨r, 7, none⟩ v7).heap[r]? = some (.cells #[v0, v1, v2, v3, v4, v5, v6, v7] T (0, 0)) := heap_setCell_same _ r 7 _ _ v7 h6
  exact h7
theorem LnG.lt {w : World} (h : LnG w) (k : MX w) : 1 < w.heap.size ∧ 7 < w.heap.size ∧ 8 < w.heap.size ∧ 2 < w.heap.size := by
  obtain ⟨m, hm⟩ := k
  obtain ⟨a, b, hs⟩ := h.syn
  obtain ⟨a', b', hr⟩ := h.rng
  refine ⟨?_, World.block_lt_of_cell? _ _ hs, World.block_lt_of_cell? _ _ hr, World.block_lt_of_cell? _ _ hm⟩
  have ht := h.tab
  unfold tabF Lib.TabIs World.var? at ht
  rw [show Tryz.prog.globalNamed "internal/strconv.uint64pow10" = some 1 by kernel_rfl] at ht
  rcases Nat.lt_or_ge 1 w.heap.size with h' | h'
  · exact h'
  · simp only [Option.bind_some] at ht
    rw [Array.getElem?_eq_none h'] at ht; simp at ht
set_option maxHeartbeats 600000 in
theorem c_splitLine {w : World} (t : ByteArray) (hz : t.size ≤ 20000) (hG : LnG w) (hM : MX w) :
    Calls Tryz.prog 59 #[.string t] w fun e w' => ∃ nm wh kd r ta tc b, e = .returned (.tuple #[linV nm wh kd r.rd r.rt (.slice ta r.tg.length tc) r.td r.ti, .bool b]) ∧ StrsAt w' ta r.tg ∧ (∀ u ∈ r.tg, u.size ≤ 20000) ∧ r.tg.length ≤ 20001 ∧ nm.size ≤ 20000 ∧ wh.size ≤ 20000 ∧ kd.size ≤ 20000 ∧ r.rt.size ≤ 20000 ∧ Below w.heap.size w w' ∧ (b = true → ∃ ps, LP t nm wh kd ps ∧ more 0 pt0 ps = some r) ∧ (b = false → ∀ nm wh kd ps r, LP t nm wh kd ps → more 0 pt0 ps = some r → False) := by
  have HM := hide hM
  have HG := hide hG
  clear hM hG
  go_enter Tryz.func59, Tryz.ntmps59
  go_wp2_with fail
  obtain ⟨W0, hW0⟩ : ∃ W0, W0 = w.alloc (.cells #[.string ⟨#[]⟩, .string ⟨#[]⟩, .string ⟨#[]⟩, .bool false, .string ⟨#[]⟩, .slice none 0 0, .bool false, .int .i64 0] 84) := ⟨_, rfl⟩
  rw [← hW0]
  have HA0 : Hid (Below w.heap.size w W0 ∧ W0.heap[w.heap.size]? = some (.cells #[.string ⟨#[]⟩, .string ⟨#[]⟩, .string ⟨#[]⟩, .bool false, .string ⟨#[]⟩, .slice none 0 0, .bool false, .int .i64 0] 84 (0, 0)) ∧ W0.heap.size = w.heap.size + 1) := (by rw [hW0]; exact ⟨(Below.refl _ _).alloc (Nat.le_refl _) _, heap_alloc_new w _, World.size_alloc _ _⟩ : _ ∧ _ ∧ _)
  clear hW0
  refine (c_CutL t 58 (by omega) W0 (HM.out.past HA0.out.1)).mono ?_
  rintro e w1 ⟨nm, R, b1, rfl, hC1, hb1⟩
  obtain ⟨z1, z2⟩ := hC1.size
  have HC1 := hide hC1
  have HB1 := hide hb1
  clear hC1 hb1
  go_wp2_with fail
  refine (c_CutL R 124 (by omega) w1 (HM.out.past (chain HA0.out.1 HB1.out))).mono ?_
  rintro e w2 ⟨wh, R2, b2, rfl, hC2, hb2⟩
  obtain ⟨z3, z4⟩ := hC2.size
  have HC2 := hide hC2
  have HB2 := hide (chain HB1.out hb2)
  clear hC2 hb2
  go_wp2_with fail
  refine (c_CutL R2 124 (by omega) w2 (HM.out.past (chain HA0.out.1 HB2.out))).mono ?_
  rintro e w3 ⟨kd, R3, b3, rfl, hC3, hb3⟩
  obtain ⟨z5, z6⟩ := hC3.size
  have HC3 := hide hC3
  have HB3 := hide (chain HB2.out hb3)
  clear hC3 hb3
  have hres : w3.heap[w.heap.size]? = some (.cells #[.string ⟨#[]⟩, .string ⟨#[]⟩, .string ⟨#[]⟩, .bool false, .string ⟨#[]⟩, .slice none 0 0, .bool false, .int .i64 0] 84 (0, 0)) := by rw [HB3.out.block _ (by have := HA0.out.2.2; omega)]; exact HA0.out.2.1
  have hlt : w.heap.size < w3.heap.size := by have := HA0.out.2.2; have := HB3.out.size; omega
  cases b3 with
  | false =>
    obtain ⟨r0, r1, r2, r3, r4, r5, r6, r7⟩ := cell8 hres
    obtain ⟨f0, f1, f2, f3, f4, f5, f6, f7⟩ := froz8 hres
    have hs8 := row8 (.string nm) (.string wh) (.string kd) (.bool false) (.string ⟨#[]⟩) (.slice none 0 0) (.bool false) (.int .i64 0) hres
    have hb8 := bel8 (chain HA0.out.1 HB3.out) (Nat.le_refl _) (.string nm) (.string wh) (.string kd) (.bool false) (.string ⟨#[]⟩) (.slice none 0 0) (.bool false) (.int .i64 0)
    have hg8 := bel8 (Below.refl w.heap.size w3) (Nat.le_refl _) (.string nm) (.string wh) (.string kd) (.bool false) (.string ⟨#[]⟩) (.slice none 0 0) (.bool false) (.int .i64 0)
    have hsz := hg8.size
    generalize hW8 : ((((((((w3.setCell ⟨w.heap.size, 0, none⟩ (.string nm)).setCell ⟨w.heap.size, 1, none⟩ (.string wh)).setCell ⟨w.heap.size, 2, none⟩ (.string kd)).setCell ⟨w.heap.size, 3, none⟩ (.bool false)).setCell ⟨w.heap.size, 4, none⟩ (.string ⟨#[]⟩)).setCell ⟨w.heap.size, 5, none⟩ (.slice none 0 0)).setCell ⟨w.heap.size, 6, none⟩ (.bool false)).setCell ⟨w.heap.size, 7, none⟩ (.int .i64 0)) = W8 at hs8 hb8 hg8 hsz
    have HW8 := hide hW8
    have ha8 : (W8.alloc (.cells #[.string nm, .string wh, .string kd, .bool false, .string ⟨#[]⟩, .slice none 0 0, .bool false, .int .i64 0] 84)).heap[w.heap.size]? = some (.cells #[.string nm, .string wh, .string kd, .bool false, .string ⟨#[]⟩, .slice none 0 0, .bool false, .int .i64 0] 84 (0, 0)) := by rw [Below.heap_alloc _ _ _ (by omega)]; exact hs8
    have HB4 : Hid (Below w.heap.size w (W8.alloc (.cells #[.string nm, .string wh, .string kd, .bool false, .string ⟨#[]⟩, .slice none 0 0, .bool false, .int .i64 0] 84))) := (hb8.alloc (by omega) _ : Below w.heap.size w (W8.alloc _))
    have HC8 := hide (cell8 ha8)
    clear hs8 hb8 hg8 hsz hW8 ha8
    clear hres
    have HE := hide (cut_end HC1.out HC2.out HC3.out)
    have HF : Hid (∀ W, Below w.heap.size w W → ∀ b : Bool, b = (b1 && b2) → ∃ nm' wh' kd' r ta tc b', Ending.returned (.tuple #[.agg #[.string nm, .string wh, .string kd, .bool false, .string ⟨#[]⟩, .slice none 0 0, .bool false, .int .i64 0], .bool b]) = .returned (.tuple #[linV nm' wh' kd' r.rd r.rt (.slice ta r.tg.length tc) r.td r.ti, .bool b']) ∧ StrsAt W ta r.tg ∧ (∀ u ∈ r.tg, u.size ≤ 20000) ∧ r.tg.length ≤ 20001 ∧ nm'.size ≤ 20000 ∧ wh'.size ≤ 20000 ∧ kd'.size ≤ 20000 ∧ r.rt.size ≤ 20000 ∧ Below w.heap.size w W ∧ (b' = true → ∃ ps, LP t nm' wh' kd' ps ∧ more 0 pt0 ps = some r) ∧ (b' = false → ∀ nm wh kd ps r, LP t nm wh kd ps → more 0 pt0 ps = some r → False)) :=
      (fun W hW b hb => ⟨nm, wh, kd, pt0, none, 0, b, rfl, fun h => absurd h (Nat.lt_irrefl 0), fun u hu => (by cases hu), Nat.zero_le _, by omega, by omega, by omega, Nat.zero_le _, hW, fun h => ⟨[], HE.out.1 (by rw [← hb]; exact h), rfl⟩, fun h nm wh kd ps r k _ => HE.out.2 (by rw [← hb]; exact h) nm wh kd ps k⟩ : ∀ W, Below w.heap.size w W → ∀ b : Bool, b = (b1 && b2) → _)
    clear HE
    have hsimp := HW8.out
    cases b1 with
    | false =>
      clear hsimp
      go_wp2
      rw [HW8.out]
      obtain ⟨s0, s1, s2, s3, s4, s5, s6, s7⟩ := HC8.out
      refine bodyPost_ret (v := .tuple #[.agg #[.string nm, .string wh, .string kd, .bool false, .string ⟨#[]⟩, .slice none 0 0, .bool false, .int .i64 0], .bool false]) (by simp [results, Tryz.results59, go_sem, s0, s1, s2, s3, s4, s5, s6, s7]) rfl ?_
      exact HF.out _ HB4.out false rfl
    | true =>
      clear hsimp
      go_wp2
      rw [HW8.out]
      obtain ⟨s0, s1, s2, s3, s4, s5, s6, s7⟩ := HC8.out
      refine bodyPost_ret (v := .tuple #[.agg #[.string nm, .string wh, .string kd, .bool false, .string ⟨#[]⟩, .slice none 0 0, .bool false, .int .i64 0], .bool b2]) (by simp [results, Tryz.results59, go_sem, s0, s1, s2, s3, s4, s5, s6, s7]) rfl ?_
      exact HF.out _ HB4.out b2 (by simp)
  | true =>
    obtain ⟨rfl, rfl, hL⟩ := cut_more HC1.out HC2.out HC3.out
    have HL := hide hL
    have HZ : Hid ((∀ u ∈ splL R3 124, u.size ≤ R3.size) ∧ (splL R3 124).length ≤ R3.size + 1) := splL_sizeC R3 124
    have hbl := HG.out.lt HM.out
    clear HC1 HC2 HC3 hL
    go_wp2_with fail
    obtain ⟨W4, hW4⟩ : ∃ W4, W4 = w3.alloc (.cells #[.string nm, .string wh, .string kd, .bool false, .string ⟨#[]⟩, .slice none 0 0, .bool false, .int .i64 0] 84) := ⟨_, rfl⟩
    rw [← hW4]
    have hr4 : W4.heap[w.heap.size]? = some (.cells #[.string ⟨#[]⟩, .string ⟨#[]⟩, .string ⟨#[]⟩, .bool false, .string ⟨#[]⟩, .slice none 0 0, .bool false, .int .i64 0] 84 (0, 0)) := by rw [hW4, Below.heap_alloc _ _ _ hlt]; exact hres
    have hl4 : W4.heap[w3.heap.size]? = some (.cells #[.string nm, .string wh, .string kd, .bool false, .string ⟨#[]⟩, .slice none 0 0, .bool false, .int .i64 0] 84 (0, 0)) := by rw [hW4]; exact heap_alloc_new w3 _
    have hs4 : W4.heap.size = w3.heap.size + 1 := by rw [hW4]; exact World.size_alloc _ _
    have hb4 : Below w.heap.size w W4 := by rw [hW4]; exact (chain HA0.out.1 HB3.out).alloc (by omega) _
    clear hres hW4
    refine (c_SplitL R3 124 (by omega) W4 (HM.out.past hb4)).mono ?_
    rintro e w5 ⟨g, tc, rfl, hg, hS, hb5⟩
    have hT0 : TP w5 w5 w3.heap.size (some ⟨g, 0, none⟩) (splL R3 124) nm wh kd pt0 none 0 := ⟨by rw [hb5.block _ (by omega)]; exact hl4, hS, (fun h => absurd h (Nat.lt_irrefl 0)), (fun x e => by cases e), Below.refl _ _⟩
    have hr5 : w5.heap[w.heap.size]? = some (.cells #[.string ⟨#[]⟩, .string ⟨#[]⟩, .string ⟨#[]⟩, .bool false, .string ⟨#[]⟩, .slice none 0 0, .bool false, .int .i64 0] 84 (0, 0)) := by rw [hb5.block _ (by omega)]; exact hr4
    have HB5 := hide (chain hb4 hb5)
    have HT0 := hide hT0
    have HR5 := hide hr5
    clear hr4 hl4 hb4 hS hb5 hT0 hr5 HB3 HA0
    go_wp2_with fail
    refine (c_takeParts w3.heap.size tc _ (by omega) rfl (by have := HZ.out.2; show (splL R3 124).length ≤ 20100; omega) (fun u hu => by have := HZ.out.1 u hu; omega) (fun x e => by cases e; show g ≠ w3.heap.size; omega) (HG.out.past HB5.out) (HM.out.past HB5.out) HT0.out).mono ?_
    rintro e w6 ⟨r, ta, tc2, rfl, hm1, hT, hq1, hq2, hq3⟩
    have hr6 : w6.heap[w.heap.size]? = some (.cells #[.string ⟨#[]⟩, .string ⟨#[]⟩, .string ⟨#[]⟩, .bool false, .string ⟨#[]⟩, .slice none 0 0, .bool false, .int .i64 0] 84 (0, 0)) := by rw [hT.bel.block _ hlt]; exact HR5.out
    have hb6 : Below w.heap.size w w6 := HB5.out.trans (hT.bel.mono (by omega))
    have HS6 := hide (strs_set8 hT.tags (r := w.heap.size) (fun x e => by have := hT.tne x e; omega) (.string nm) (.string wh) (.string kd) (.bool r.rd) (.string r.rt) (.slice ta r.tg.length tc2) (.bool r.td) (.int .i64 r.ti))
    have HB6 := hide (bel8 hb6 (Nat.le_refl _) (.string nm) (.string wh) (.string kd) (.bool r.rd) (.string r.rt) (.slice ta r.tg.length tc2) (.bool r.td) (.int .i64 r.ti))
    have HC6 := hide (cell8 (row8 (.string nm) (.string wh) (.string kd) (.bool r.rd) (.string r.rt) (.slice ta r.tg.length tc2) (.bool r.td) (.int .i64 r.ti) hr6))
    obtain ⟨r0, r1, r2, r3, r4, r5, r6, r7⟩ := cell8 hr6
    obtain ⟨f0, f1, f2, f3, f4, f5, f6, f7⟩ := froz8 hr6
    obtain ⟨q0, q1, q2, q3, q4, q5, q6, q7⟩ := cell8 hT.box
    have HM1 := hide hm1
    have HQ := hide (And.intro hq1 (And.intro hq2 hq3))
    clear hr6 hb6 hT hm1 hq1 hq2 hq3
    generalize hmo : more 0 pt0 (splL R3 124) = mo at HM1
    have HMo := hide hmo
    clear hmo
    go_wp2
    obtain ⟨s0, s1, s2, s3, s4, s5, s6, s7⟩ := HC6.out
    refine bodyPost_ret (v := .tuple #[.agg #[.string nm, .string wh, .string kd, .bool r.rd, .string r.rt, .slice ta r.tg.length tc2, .bool r.td, .int .i64 r.ti], .bool mo.isSome]) (by simp [results, Tryz.results59, go_sem, s0, s1, s2, s3, s4, s5, s6, s7]) rfl ?_
    refine ⟨nm, wh, kd, r, ta, tc2, mo.isSome, rfl, HS6.out, HQ.out.1, HQ.out.2.1, by omega, by omega, by omega, HQ.out.2.2, HB6.out, fun h => ⟨_, HL.out, ?_⟩, fun h nm' wh' kd' ps' r' k1 k2 => ?_⟩
    · rw [HMo.out]
      cases mo with
      | none => cases h
      | some x => rw [HM1.out x rfl]
    · obtain ⟨_, _, _, e⟩ := HL.out.one k1
      rw [← e, HMo.out] at k2
      rw [k2] at h; cases h
end Go.Proofs.YtnflhahnbdnaoaaGreatDoor

/-
  readLine and LineRead of the program.
-/
namespace Go.Proofs.YtnflhahnbdnaoaaGreatDoor
set_option linter.unusedVariables false
set_option linter.unusedSimpArgs false
open Go.ChangeShapes Go.WideShapes Go.ChangeAt Go.RowKit Go.PlainAid
set_option maxRecDepth 10000

/-- What a line's reading hands back. -/
structure Sm where
  k : Int
  se : ByteArray
  va : Int
  wd : ByteArray
  wt : Int
  td : Bool
  ti : Nat
  c : Int
def illS (c : Int) : Sm := ⟨0, ByteArray.empty, 0, ByteArray.empty, 0, false, 0, c⟩
noncomputable def ansS (nm wh kd : ByteArray) (r : Pt) : Sm :=
  if kndV kd = 0 then illS 9 else
  if whB (kndV kd) wh = false then illS 3 else
  if wtB (kndV kd) r.rd r.rt = false then illS 10 else
  ⟨kndV kd, serW nm r.tg, whV (kndV kd) wh, whW (kndV kd) wh, wtV (kndV kd) r.rd r.rt, r.td, r.ti, 0⟩
def LnR (t : ByteArray) (s : Sm) : Prop := (fitB t = false ∧ s = illS 2) ∨ (fitB t = true ∧ ((∃ nm wh kd ps r, LP t nm wh kd ps ∧ more 0 pt0 ps = some r ∧ serW nm r.tg ≠ ByteArray.empty ∧ s = ansS nm wh kd r) ∨ ((∀ nm wh kd ps r, LP t nm wh kd ps → more 0 pt0 ps = some r → serW nm r.tg = ByteArray.empty) ∧ s = illS 3)))
theorem LnR.one {t : ByteArray} {s s' : Sm} (h : LnR t s) (k : LnR t s') : s = s' := by
  rcases h with ⟨h1, rfl⟩ | ⟨h1, h⟩
  · rcases k with ⟨_, rfl⟩ | ⟨k1, _⟩
    · rfl
    · rw [h1] at k1; cases k1
  · rcases k with ⟨k1, _⟩ | ⟨_, k⟩
    · rw [h1] at k1; cases k1
    · rcases h with ⟨nm, wh, kd, ps, r, a1, a2, a3, rfl⟩ | ⟨a, rfl⟩
      · rcases k with ⟨nm', wh', kd', ps', r', b1, b2, b3, rfl⟩ | ⟨b, rfl⟩
        · obtain ⟨rfl, rfl, rfl, rfl⟩ := a1.one b1
          rw [a2] at b2; cases b2; rfl
        · exact absurd (b _ _ _ _ _ a1 a2) a3
      · rcases k with ⟨nm', wh', kd', ps', r', b1, b2, b3, rfl⟩ | ⟨b, rfl⟩
        · exact absurd (a _ _ _ _ _ b1 b2) b3
        · rfl
def smpL (s : Sm) : Value := .agg #[.int .i64 s.k, .string s.se, .int .i64 s.va, .string s.wd, .int .u64 s.wt, .bool s.td, .int .i64 s.ti]
def outL (s : Sm) : Value := .agg #[.int .i64 s.k, .string s.se, .int .i64 s.va, .string s.wd, .int .u64 s.wt, .bool s.td, .int .i64 s.ti, .int .i64 s.c]
theorem ne_empty {x : ByteArray} (h : x ≠ ByteArray.empty) : x.toList.isEmpty = false := by
  rw [ByteArray.toList_eq]
  cases e : x.data.toList with
  | nil => exact absurd (toL_inj (show toL x = toL ByteArray.empty from e)) h
  | cons a b => rfl
theorem bel7 {B : Nat} {w w' : World} (h : Below B w w') {r : Nat} (hr : B ≤ r) (v0 v1 v2 v3 v4 v5 v6 : Value) : Below B w (((((((w'.setCell ⟨r, 0, none⟩ v0).setCell ⟨r, 1, none⟩ v1).setCell ⟨r, 2, none⟩ v2).setCell ⟨r, 3, none⟩ v3).setCell ⟨r, 4, none⟩ v4).setCell ⟨r, 5, none⟩ v5).setCell ⟨r, 6, none⟩ v6) := (((((((h.setCell (p := ⟨r, 0, none⟩) hr v0).setCell (p := ⟨r, 1, none⟩) hr v1).setCell (p := ⟨r, 2, none⟩) hr v2).setCell (p := ⟨r, 3, none⟩) hr v3).setCell (p := ⟨r, 4, none⟩) hr v4).setCell (p := ⟨r, 5, none⟩) hr v5).setCell (p := ⟨r, 6, none⟩) hr v6)
theorem cell7 {w : World} {r : Nat} {T : TypeId} {u0 u1 u2 u3 u4 u5 u6 : Value} (h : w.heap[r]? = some (.cells #[u0, u1, u2, u3, u4, u5, u6] T (0, 0))) :
    w.cell? ⟨r, 0, none⟩ = some u0 ∧ w.cell? ⟨r, 1, none⟩ = some u1 ∧ w.cell? ⟨r, 2, none⟩ = some u2 ∧ w.cell? ⟨r, 3, none⟩ = some u3 ∧ w.cell? ⟨r, 4, none⟩ = some u4 ∧ w.cell? ⟨r, 5, none⟩ = some u5 ∧ w.cell? ⟨r, 6, none⟩ = some u6 :=
  ⟨by rw [cell_of_row w r 0 _ _ (0, 0) h]; rfl, by rw [cell_of_row w r 1 _ _ (0, 0) h]; rfl, by rw [cell_of_row w r 2 _ _ (0, 0) h]; rfl, by rw [cell_of_row w r 3 _ _ (0, 0) h]; rfl, by rw [cell_of_row w r 4 _ _ (0, 0) h]; rfl, by rw [cell_of_row w r 5 _ _ (0, 0) h]; rfl, by rw [cell_of_row w r 6 _ _ (0, 0) h]; rfl⟩
theorem froz7 {w : World} {r : Nat} {T : TypeId} {cs : Array Value} (h : w.heap[r]? = some (.cells cs T (0, 0))) :
    w.frozen? ⟨r, 0, none⟩ = false ∧ w.frozen? ⟨r, 1, none⟩ = false ∧ w.frozen? ⟨r, 2, none⟩ = false ∧ w.frozen? ⟨r, 3, none⟩ = false ∧ w.frozen? ⟨r, 4, none⟩ = false ∧ w.frozen? ⟨r, 5, none⟩ = false ∧ w.frozen? ⟨r, 6, none⟩ = false :=
  ⟨frozen_of_row w r 0 _ _ h, frozen_of_row w r 1 _ _ h, frozen_of_row w r 2 _ _ h, frozen_of_row w r 3 _ _ h, frozen_of_row w r 4 _ _ h, frozen_of_row w r 5 _ _ h, frozen_of_row w r 6 _ _ h⟩
set_option maxHeartbeats 1000000 in
theorem c_readLine {w : World} (t : ByteArray) (hz : t.size ≤ maxLen) (hG : LnG w) (hM : MX w) :
    Calls Tryz.prog 30 #[.string t] w fun e w' => ∃ s, e = .returned (.tuple #[smpL s, errV s.c]) ∧ LnR t s ∧ Below w.heap.size w w' := by
  have HM := hide hM
  have HG := hide hG
  clear hM hG
  cases hf : fitB t with
  | false =>
    have HR : Hid (LnR t (illS 2)) := (Or.inl ⟨hf, rfl⟩ : LnR t (illS 2))
    go_enter Tryz.func30, Tryz.ntmps30
    go_wp2_with (go_at_call 58; refine (c_textFits t hz _).mono ?_; rw [hf]; rintro e w1 ⟨rfl, hw⟩; obtain rfl := hw.symm)
    refine bodyPost_ret (v := .tuple #[.agg #[.int .i64 0, .string ⟨#[]⟩, .int .i64 0, .string ⟨#[]⟩, .int .u64 0, .bool false, .int .i64 0], .iface 82 (.agg #[.int .i64 2])]) (by simp [results, Tryz.results30, go_sem]) rfl ?_
    exact ⟨illS 2, rfl, HR.out, (Below.refl _ _).alloc (Nat.le_refl _) _⟩
  | true =>
    have hz2 : t.size ≤ 20000 := of_decide_eq_true hf
    go_enter Tryz.func30, Tryz.ntmps30
    go_wp2_with (go_at_call 58; refine (c_textFits t hz _).mono ?_; rw [hf]; rintro e w1 ⟨rfl, hw⟩; obtain rfl := hw.symm)
    obtain ⟨W0, hW0⟩ : ∃ W0, W0 = w.alloc (.cells #[.int .i64 0, .string ⟨#[]⟩, .int .i64 0, .string ⟨#[]⟩, .int .u64 0, .bool false, .int .i64 0] 27) := ⟨_, rfl⟩
    rw [← hW0]
    have HA0 : Hid (Below w.heap.size w W0 ∧ W0.heap[w.heap.size]? = some (.cells #[.int .i64 0, .string ⟨#[]⟩, .int .i64 0, .string ⟨#[]⟩, .int .u64 0, .bool false, .int .i64 0] 27 (0, 0)) ∧ W0.heap.size = w.heap.size + 1) := (by rw [hW0]; exact ⟨(Below.refl _ _).alloc (Nat.le_refl _) _, heap_alloc_new w _, World.size_alloc _ _⟩ : _ ∧ _ ∧ _)
    clear hW0
    refine (c_splitLine t hz2 (HG.out.past HA0.out.1) (HM.out.past HA0.out.1)).mono ?_
    rintro e w1 ⟨nm, wh, kd, r, ta, tc, b, he, hS, hu, hl, z1, z2, z3, z4, hb1, hT, hF⟩
    unfold linV at he
    subst he
    have HT := hide hT
    have HF := hide hF
    have HU := hide hu
    have HSt := hide hS
    have HB1 := hide hb1
    clear hT hF hu hS hb1
    go_wp2_with fail
    obtain ⟨W1, hW1⟩ : ∃ W1, W1 = w1.alloc (.cells #[.string nm, .string wh, .string kd, .bool r.rd, .string r.rt, .slice ta r.tg.length tc, .bool r.td, .int .i64 r.ti] 84) := ⟨_, rfl⟩
    rw [← hW1]
    have hlt1 : w.heap.size < w1.heap.size := by have := HA0.out.2.2; have := HB1.out.size; omega
    generalize hlb : w1.heap.size = lb
    have HS1 : Hid (W1.heap[w.heap.size]? = some (.cells #[.int .i64 0, .string ⟨#[]⟩, .int .i64 0, .string ⟨#[]⟩, .int .u64 0, .bool false, .int .i64 0] 27 (0, 0)) ∧ W1.heap[lb]? = some (.cells #[.string nm, .string wh, .string kd, .bool r.rd, .string r.rt, .slice ta r.tg.length tc, .bool r.td, .int .i64 r.ti] 84 (0, 0)) ∧ Below w.heap.size w W1 ∧ lb < W1.heap.size ∧ w.heap.size < W1.heap.size) := (by subst hlb; rw [hW1]; exact ⟨by rw [Below.heap_alloc _ _ _ hlt1, HB1.out.block _ (by have := HA0.out.2.2; omega)]; exact HA0.out.2.1, heap_alloc_new w1 _, (chain HA0.out.1 HB1.out).alloc (by omega) _, by rw [World.size_alloc]; omega, by rw [World.size_alloc]; omega⟩ : (W1.heap[w.heap.size]? = some (.cells #[.int .i64 0, .string ⟨#[]⟩, .int .i64 0, .string ⟨#[]⟩, .int .u64 0, .bool false, .int .i64 0] 27 (0, 0)) ∧ W1.heap[lb]? = some (.cells #[.string nm, .string wh, .string kd, .bool r.rd, .string r.rt, .slice ta r.tg.length tc, .bool r.td, .int .i64 r.ti] 84 (0, 0)) ∧ Below w.heap.size w W1 ∧ lb < W1.heap.size ∧ w.heap.size < W1.heap.size))
    have HSt1 : Hid (StrsAt W1 ta r.tg) := (by rw [hW1]; exact strs_past HSt.out ((Below.refl _ _).alloc (Nat.le_refl _) _) : StrsAt W1 ta r.tg)
    clear HA0 HB1 HSt hlt1 hlb hW1
    refine (c_i_seriesWith nm tc _ (by unfold maxLen; omega) rfl (by omega) (fun u hu => by have := HU.out u hu; unfold maxLen; omega) HSt1.out).mono ?_
    rintro e w2 ⟨rfl, hb2⟩
    have HS2 : Hid (w2.heap[w.heap.size]? = some (.cells #[.int .i64 0, .string ⟨#[]⟩, .int .i64 0, .string ⟨#[]⟩, .int .u64 0, .bool false, .int .i64 0] 27 (0, 0)) ∧ w2.heap[lb]? = some (.cells #[.string nm, .string wh, .string kd, .bool r.rd, .string r.rt, .slice ta r.tg.length tc, .bool r.td, .int .i64 r.ti] 84 (0, 0)) ∧ Below w.heap.size w w2 ∧ lb < w2.heap.size ∧ w.heap.size < w2.heap.size) := (⟨by rw [hb2.block _ HS1.out.2.2.2.2]; exact HS1.out.1, by rw [hb2.block _ HS1.out.2.2.2.1]; exact HS1.out.2.1, chain HS1.out.2.2.1 hb2, Nat.lt_of_lt_of_le HS1.out.2.2.2.1 hb2.size, Nat.lt_of_lt_of_le HS1.out.2.2.2.2 hb2.size⟩ : (w2.heap[w.heap.size]? = some (.cells #[.int .i64 0, .string ⟨#[]⟩, .int .i64 0, .string ⟨#[]⟩, .int .u64 0, .bool false, .int .i64 0] 27 (0, 0)) ∧ w2.heap[lb]? = some (.cells #[.string nm, .string wh, .string kd, .bool r.rd, .string r.rt, .slice ta r.tg.length tc, .bool r.td, .int .i64 r.ti] 84 (0, 0)) ∧ Below w.heap.size w w2 ∧ lb < w2.heap.size ∧ w.heap.size < w2.heap.size))
    clear hb2
    have hse : serW nm r.tg = ByteArray.empty ∨ serW nm r.tg ≠ ByteArray.empty := Classical.em _
    generalize hsq : serW nm r.tg = se at hse
    have HSq := hide hsq
    clear hsq HS1 HSt1 HU
    obtain ⟨r0, r1, r2, r3, r4, r5, r6⟩ := cell7 HS2.out.1
    obtain ⟨f0, f1, f2, f3, f4, f5, f6⟩ := froz7 HS2.out.1
    obtain ⟨q0, q1, q2, q3, q4, q5, q6, q7⟩ := cell8 HS2.out.2.1
    cases b with
    | false =>
      have HR : Hid (LnR t (illS 3)) := (Or.inr ⟨hf, Or.inr ⟨fun nm' wh' kd' ps' r' k1 k2 => (HF.out rfl _ _ _ _ _ k1 k2).elim, rfl⟩⟩ : LnR t (illS 3))
      go_wp2
      refine bodyPost_ret (v := .tuple #[.agg #[.int .i64 0, .string ⟨#[]⟩, .int .i64 0, .string ⟨#[]⟩, .int .u64 0, .bool false, .int .i64 0], .iface 82 (.agg #[.int .i64 3])]) (by simp [results, Tryz.results30, go_sem, r0, r1, r2, r3, r4, r5, r6]) rfl ?_
      exact ⟨illS 3, rfl, HR.out, bel7 HS2.out.2.2.1 (Nat.le_refl _) _ _ _ _ _ _ _⟩
    | true =>
      obtain ⟨ps, hP, hmo⟩ := HT.out rfl
      rcases hse with hse | hse
      · have HR : Hid (LnR t (illS 3)) := (Or.inr ⟨hf, Or.inr ⟨(fun nm' wh' kd' ps' r' k1 k2 => by obtain ⟨rfl, rfl, rfl, rfl⟩ := hP.one k1; rw [hmo] at k2; cases k2; rw [HSq.out, hse]), rfl⟩⟩ : LnR t (illS 3))
        clear HSq hmo
        subst hse
        go_wp2
        refine bodyPost_ret (v := .tuple #[.agg #[.int .i64 0, .string ⟨#[]⟩, .int .i64 0, .string ⟨#[]⟩, .int .u64 0, .bool false, .int .i64 0], .iface 82 (.agg #[.int .i64 3])]) (by simp [results, Tryz.results30, go_sem, r0, r1, r2, r3, r4, r5, r6]) rfl ?_
        exact ⟨illS 3, rfl, HR.out, bel7 HS2.out.2.2.1 (Nat.le_refl _) _ _ _ _ _ _ _⟩
      · have hi1 : se.toList.isEmpty = false := ne_empty hse
        have HR : Hid (∀ s, s = ansS nm wh kd r → LnR t s) := (fun s hs => Or.inr ⟨hf, Or.inl ⟨nm, wh, kd, ps, r, hP, hmo, by rw [HSq.out]; exact hse, hs⟩⟩ : ∀ s, s = ansS nm wh kd r → LnR t s)
        clear hP hmo HT HF
        have hkb := kndV_bd kd
        by_cases hk : kndV kd = 0
        · have HE : Hid (LnR t (illS 9)) := HR.out _ (by unfold ansS; rw [if_pos hk])
          have hkr : (decide (1 ≤ kndV kd) && decide (kndV kd ≤ 4)) = false := by rw [hk]; rfl
          go_wp2_with (first
            | (go_at_call 60; refine (c_kindOf kd (by omega) _).mono ?_; rintro e w' ⟨rfl, hw⟩; obtain rfl := hw.symm)
            | (go_at_call 22; refine (c_kindRightL _ _).mono ?_; (try rw [hkr]); rintro e w' ⟨rfl, hw⟩; obtain rfl := hw.symm))
          refine bodyPost_ret (v := .tuple #[.agg #[.int .i64 0, .string ⟨#[]⟩, .int .i64 0, .string ⟨#[]⟩, .int .u64 0, .bool false, .int .i64 0], .iface 82 (.agg #[.int .i64 9])]) (by simp [results, Tryz.results30, go_sem, r0, r1, r2, r3, r4, r5, r6]) rfl ?_
          exact ⟨illS 9, rfl, HE.out, bel7 HS2.out.2.2.1 (Nat.le_refl _) _ _ _ _ _ _ _⟩
        · have hkr : (decide (1 ≤ kndV kd) && decide (kndV kd ≤ 4)) = true := by rw [decide_eq_true (by omega : 1 ≤ kndV kd), decide_eq_true (by omega : kndV kd ≤ 4)]; rfl
          have HAn : Hid (ansS nm wh kd r = if whB (kndV kd) wh = false then illS 3 else if wtB (kndV kd) r.rd r.rt = false then illS 10 else ⟨kndV kd, se, whV (kndV kd) wh, whW (kndV kd) wh, wtV (kndV kd) r.rd r.rt, r.td, r.ti, 0⟩) := (by unfold ansS; rw [if_neg hk, HSq.out] : ansS nm wh kd r = _)
          generalize hkv : kndV kd = kv at hkb hk hkr HAn
          have HKv := hide hkv
          clear hkv
          go_wp2_with (first
            | (go_at_call 60; refine (c_kindOf kd (by omega) _).mono ?_; rw [HKv.out]; rintro e w' ⟨rfl, hw⟩; obtain rfl := hw.symm)
            | (go_at_call 22; refine (c_kindRightL _ _).mono ?_; rw [hkr]; rintro e w' ⟨rfl, hw⟩; obtain rfl := hw.symm))
          refine (c_whatOf kv wh (by omega) _).mono ?_
          rintro e w3 ⟨rfl, hb3⟩
          clear r0 r1 r2 r3 r4 r5 r6 f0 f1 f2 f3 f4 f5 f6 q0 q1 q2 q3 q4 q5 q6 q7
          have HS3 : Hid (w3.heap[w.heap.size]? = some (.cells #[.int .i64 0, .string ⟨#[]⟩, .int .i64 0, .string ⟨#[]⟩, .int .u64 0, .bool false, .int .i64 0] 27 (0, 0)) ∧ w3.heap[lb]? = some (.cells #[.string nm, .string wh, .string kd, .bool r.rd, .string r.rt, .slice ta r.tg.length tc, .bool r.td, .int .i64 r.ti] 84 (0, 0)) ∧ Below w.heap.size w w3 ∧ lb < w3.heap.size ∧ w.heap.size < w3.heap.size) := (⟨by rw [hb3.block _ HS2.out.2.2.2.2]; exact HS2.out.1, by rw [hb3.block _ HS2.out.2.2.2.1]; exact HS2.out.2.1, chain HS2.out.2.2.1 hb3, Nat.lt_of_lt_of_le HS2.out.2.2.2.1 hb3.size, Nat.lt_of_lt_of_le HS2.out.2.2.2.2 hb3.size⟩ : (w3.heap[w.heap.size]? = some (.cells #[.int .i64 0, .string ⟨#[]⟩, .int .i64 0, .string ⟨#[]⟩, .int .u64 0, .bool false, .int .i64 0] 27 (0, 0)) ∧ w3.heap[lb]? = some (.cells #[.string nm, .string wh, .string kd, .bool r.rd, .string r.rt, .slice ta r.tg.length tc, .bool r.td, .int .i64 r.ti] 84 (0, 0)) ∧ Below w.heap.size w w3 ∧ lb < w3.heap.size ∧ w.heap.size < w3.heap.size))
          clear hb3
          obtain ⟨r0, r1, r2, r3, r4, r5, r6⟩ := cell7 HS3.out.1
          obtain ⟨f0, f1, f2, f3, f4, f5, f6⟩ := froz7 HS3.out.1
          obtain ⟨q0, q1, q2, q3, q4, q5, q6, q7⟩ := cell8 HS3.out.2.1
          cases hwb : whB kv wh with
          | false =>
            have HE : Hid (LnR t (illS 3)) := HR.out _ (by rw [HAn.out, if_pos hwb])
            go_wp2
            refine bodyPost_ret (v := .tuple #[.agg #[.int .i64 0, .string ⟨#[]⟩, .int .i64 0, .string ⟨#[]⟩, .int .u64 0, .bool false, .int .i64 0], .iface 82 (.agg #[.int .i64 3])]) (by simp [results, Tryz.results30, go_sem, r0, r1, r2, r3, r4, r5, r6]) rfl ?_
            exact ⟨illS 3, rfl, HE.out, bel7 HS3.out.2.2.1 (Nat.le_refl _) _ _ _ _ _ _ _⟩
          | true =>
            go_wp2_with fail
            refine (c_weightFor kv nm wh kd r.rd r.rt (.slice ta r.tg.length tc) r.td r.ti (by omega) _).mono ?_
            rintro e w4 ⟨rfl, hb4⟩
            clear r0 r1 r2 r3 r4 r5 r6 f0 f1 f2 f3 f4 f5 f6 q0 q1 q2 q3 q4 q5 q6 q7
            have HS4 : Hid (w4.heap[w.heap.size]? = some (.cells #[.int .i64 0, .string ⟨#[]⟩, .int .i64 0, .string ⟨#[]⟩, .int .u64 0, .bool false, .int .i64 0] 27 (0, 0)) ∧ w4.heap[lb]? = some (.cells #[.string nm, .string wh, .string kd, .bool r.rd, .string r.rt, .slice ta r.tg.length tc, .bool r.td, .int .i64 r.ti] 84 (0, 0)) ∧ Below w.heap.size w w4 ∧ lb < w4.heap.size ∧ w.heap.size < w4.heap.size) := (⟨by rw [hb4.block _ HS3.out.2.2.2.2]; exact HS3.out.1, by rw [hb4.block _ HS3.out.2.2.2.1]; exact HS3.out.2.1, chain HS3.out.2.2.1 hb4, Nat.lt_of_lt_of_le HS3.out.2.2.2.1 hb4.size, Nat.lt_of_lt_of_le HS3.out.2.2.2.2 hb4.size⟩ : (w4.heap[w.heap.size]? = some (.cells #[.int .i64 0, .string ⟨#[]⟩, .int .i64 0, .string ⟨#[]⟩, .int .u64 0, .bool false, .int .i64 0] 27 (0, 0)) ∧ w4.heap[lb]? = some (.cells #[.string nm, .string wh, .string kd, .bool r.rd, .string r.rt, .slice ta r.tg.length tc, .bool r.td, .int .i64 r.ti] 84 (0, 0)) ∧ Below w.heap.size w w4 ∧ lb < w4.heap.size ∧ w.heap.size < w4.heap.size))
            clear hb4
            obtain ⟨r0, r1, r2, r3, r4, r5, r6⟩ := cell7 HS4.out.1
            obtain ⟨f0, f1, f2, f3, f4, f5, f6⟩ := froz7 HS4.out.1
            obtain ⟨q0, q1, q2, q3, q4, q5, q6, q7⟩ := cell8 HS4.out.2.1
            cases hwt : wtB kv r.rd r.rt with
            | false =>
              have HE : Hid (LnR t (illS 10)) := HR.out _ (by rw [HAn.out, if_neg (by rw [hwb]; simp), if_pos hwt])
              go_wp2
              refine bodyPost_ret (v := .tuple #[.agg #[.int .i64 0, .string ⟨#[]⟩, .int .i64 0, .string ⟨#[]⟩, .int .u64 0, .bool false, .int .i64 0], .iface 82 (.agg #[.int .i64 10])]) (by simp [results, Tryz.results30, go_sem, r0, r1, r2, r3, r4, r5, r6]) rfl ?_
              exact ⟨illS 10, rfl, HE.out, bel7 HS4.out.2.2.1 (Nat.le_refl _) _ _ _ _ _ _ _⟩
            | true =>
              have HE : Hid (LnR t ⟨kv, se, whV kv wh, whW kv wh, wtV kv r.rd r.rt, r.td, r.ti, 0⟩) := HR.out _ (by rw [HAn.out, if_neg (by rw [hwb]; simp), if_neg (by rw [hwt]; simp)])
              generalize whV kv wh = wv at HE
              generalize whW kv wh = ww at HE
              generalize wtV kv r.rd r.rt = wt at HE
              go_wp2
              refine bodyPost_ret (v := .tuple #[.agg #[.int .i64 kv, .string se, .int .i64 wv, .string ww, .int .u64 wt, .bool r.td, .int .i64 r.ti], .nilIface]) (by simp [results, Tryz.results30, go_sem, r0, r1, r2, r3, r4, r5, r6]) rfl ?_
              exact ⟨_, rfl, HE.out, bel7 HS4.out.2.2.1 (Nat.le_refl _) _ _ _ _ _ _ _⟩
end Go.Proofs.YtnflhahnbdnaoaaGreatDoor

/-
  LineRead of the program.
-/
namespace Go.Proofs.YtnflhahnbdnaoaaGreatDoor
set_option linter.unusedVariables false
set_option linter.unusedSimpArgs false
open Go.ChangeShapes Go.WideShapes Go.ChangeAt Go.RowKit Go.PlainAid
set_option maxRecDepth 10000

set_option maxHeartbeats 1000000 in
theorem c_i_LineRead {w : World} (t : ByteArray) (hz : t.size ≤ maxLen) (hG : LnG w) (hM : MX w) (hE : errT w) :
    Calls Tryz.prog 12 #[.string t] w fun e w' => ∃ s, e = .returned (outL s) ∧ LnR t s ∧ Below w.heap.size w w' := by
  have HM := hide hM
  have HG := hide hG
  have HE := hide hE
  clear hM hG hE
  go_enter Tryz.func12, Tryz.ntmps12
  go_wp2_with fail
  obtain ⟨W0, hW0⟩ : ∃ W0, W0 = w.alloc (.cells #[.int .i64 0, .string ⟨#[]⟩, .int .i64 0, .string ⟨#[]⟩, .int .u64 0, .bool false, .int .i64 0, .int .i64 0] 34) := ⟨_, rfl⟩
  rw [← hW0]
  have HA0 : Hid (Below w.heap.size w W0 ∧ W0.heap[w.heap.size]? = some (.cells #[.int .i64 0, .string ⟨#[]⟩, .int .i64 0, .string ⟨#[]⟩, .int .u64 0, .bool false, .int .i64 0, .int .i64 0] 34 (0, 0)) ∧ W0.heap.size = w.heap.size + 1) := (by rw [hW0]; exact ⟨(Below.refl _ _).alloc (Nat.le_refl _) _, heap_alloc_new w _, World.size_alloc _ _⟩ : _ ∧ _ ∧ _)
  clear hW0
  refine (c_readLine t hz (HG.out.past HA0.out.1) (HM.out.past HA0.out.1)).mono ?_
  rintro e w1 ⟨s, he, hL, hb1⟩
  unfold smpL at he
  subst he
  have hr1 : w1.heap[w.heap.size]? = some (.cells #[.int .i64 0, .string ⟨#[]⟩, .int .i64 0, .string ⟨#[]⟩, .int .u64 0, .bool false, .int .i64 0, .int .i64 0] 34 (0, 0)) := by rw [hb1.block _ (by have := HA0.out.2.2; omega)]; exact HA0.out.2.1
  have hb0 := chain HA0.out.1 hb1
  have hE1 : errT w1 := cell_past hb0 HE.out
  have HL := hide hL
  have HB0 := hide hb0
  have HR1 := hide hr1
  have hlt : w.heap.size < w1.heap.size := by have := HA0.out.2.2; have := hb1.size; omega
  clear hb1 hL hb0 HA0 hr1
  go_wp2_with fail
  obtain ⟨W1, hW1⟩ : ∃ W1, W1 = w1.alloc (.cells #[.int .i64 s.k, .string s.se, .int .i64 s.va, .string s.wd, .int .u64 s.wt, .bool s.td, .int .i64 s.ti] 27) := ⟨_, rfl⟩
  rw [← hW1]
  generalize hsb : w1.heap.size = sb
  have HC : Hid (∀ W, Below W1.heap.size W1 W → W.cell? ⟨sb, 0, none⟩ = some (.int .i64 s.k) ∧ W.cell? ⟨sb, 1, none⟩ = some (.string s.se) ∧ W.cell? ⟨sb, 2, none⟩ = some (.int .i64 s.va) ∧ W.cell? ⟨sb, 3, none⟩ = some (.string s.wd) ∧ W.cell? ⟨sb, 4, none⟩ = some (.int .u64 s.wt) ∧ W.cell? ⟨sb, 5, none⟩ = some (.bool s.td) ∧ W.cell? ⟨sb, 6, none⟩ = some (.int .i64 s.ti)) :=
    (fun W hW => by
      refine cell7 (T := 27) ?_
      rw [hW.block _ (by rw [hW1, World.size_alloc, ← hsb]; omega), hW1, ← hsb]
      exact heap_alloc_new w1 _ : ∀ W, Below W1.heap.size W1 W → _)
  have hbA : Below w1.heap.size w1 W1 := by rw [hW1]; exact (Below.refl _ _).alloc (Nat.le_refl _) _
  have HA : Hid (Below w.heap.size w W1 ∧ W1.heap[w.heap.size]? = some (.cells #[.int .i64 0, .string ⟨#[]⟩, .int .i64 0, .string ⟨#[]⟩, .int .u64 0, .bool false, .int .i64 0, .int .i64 0] 34 (0, 0)) ∧ w.heap.size < W1.heap.size) := (⟨chain HB0.out hbA, by rw [hbA.block _ hlt]; exact HR1.out, Nat.lt_of_lt_of_le hlt hbA.size⟩ : _ ∧ _ ∧ _)
  have hE2 : errT W1 := cell_past hbA hE1
  clear hW1 hbA HB0 HR1 hlt hE1 hsb
  have HS0 : (fun W => Below W1.heap.size W1 W) W1.drew := (Below.refl _ _).drew
  refine regionK (fun W => Below W1.heap.size W1 W) 4 (by kernel_rfl) ?_
  refine takeK (i := 0) (d := 10) (v := .agg #[.int .i64 s.k, .string s.se, .int .i64 s.va, .string s.wd, .int .u64 s.wt, .bool s.td, .int .i64 s.ti]) rfl rfl (by kernel_rfl) (by kernel_rfl) (by kernel_rfl) (by decide) (by kernel_rfl) (fun _ _ _ h => h) (Or.inl ⟨by rfl, fun W hW => ?_⟩) HS0 ?_
  · obtain ⟨x0, x1, x2, x3, x4, x5, x6⟩ := HC.out W hW
    go_simp
  simp only [List.setIfInBounds_toArray, List.set_cons_zero, List.set_cons_succ]
  refine takeK (i := 1) (d := 11) (v := errV s.c) rfl rfl (by kernel_rfl) (by kernel_rfl) (by kernel_rfl) (by decide) (by kernel_rfl) (fun _ _ _ h => h) (Or.inl ⟨by rfl, fun W hW => ?_⟩) HS0 ?_
  · obtain ⟨x0, x1, x2, x3, x4, x5, x6⟩ := HC.out W hW
    go_simp
  simp only [List.setIfInBounds_toArray, List.set_cons_zero, List.set_cons_succ]
  refine oneK (i := 2) (by kernel_rfl) rfl (fun K hK => ?_)
  go_simp
  refine (c_codeOf s.c W1.drew (cell_past HS0 hE2)).mono ?_
  rintro e w4 ⟨rfl, hb4⟩
  have HB4 := hide ((HS0 : Below W1.heap.size W1 W1.drew).trans hb4)
  clear hb4
  dsimp only
  refine hK.out _ _ (fun _ => HB4.out) ?_
  clear hK K
  try simp only [Act.put, List.setIfInBounds_toArray, List.set_cons_zero, List.set_cons_succ]
  refine oneK (i := 3) (by kernel_rfl) rfl (fun K hK => ?_)
  go_simp
  refine hK.out _ _ (fun _ => HB4.out) ?_
  clear hK K
  try simp only [Act.put, List.setIfInBounds_toArray, List.set_cons_zero, List.set_cons_succ]
  have hr4 : w4.heap[w.heap.size]? = some (.cells #[.int .i64 0, .string ⟨#[]⟩, .int .i64 0, .string ⟨#[]⟩, .int .u64 0, .bool false, .int .i64 0, .int .i64 0] 34 (0, 0)) := by rw [HB4.out.block _ HA.out.2.2]; exact HA.out.2.1
  obtain ⟨r0, r1, r2, r3, r4, r5, r6, r7⟩ := cell8 hr4
  obtain ⟨f0, f1, f2, f3, f4, f5, f6, f7⟩ := froz8 hr4
  refine oneK (i := 4) (by kernel_rfl) rfl (fun K hK => ?_)
  go_simp
  refine hK.out _ _ (fun h => absurd rfl h) ?_
  clear hK K
  try simp only [Act.put, List.setIfInBounds_toArray, List.set_cons_zero, List.set_cons_succ]
  refine doneK (by kernel_rfl) ?_ _
  go_wp2
  refine bodyPost_ret (v := .agg #[.int .i64 s.k, .string s.se, .int .i64 s.va, .string s.wd, .int .u64 s.wt, .bool s.td, .int .i64 s.ti, .int .i64 s.c]) (by simp [results, Tryz.results12, go_sem, r0, r1, r2, r3, r4, r5, r6, r7]) rfl ?_
  exact ⟨s, rfl, HL.out, bel8 (chain HA.out.1 HB4.out) (Nat.le_refl _) _ _ _ _ _ _ _ _⟩
end Go.Proofs.YtnflhahnbdnaoaaGreatDoor
