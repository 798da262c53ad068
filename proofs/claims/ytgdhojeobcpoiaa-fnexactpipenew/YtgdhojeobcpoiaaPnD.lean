/-
  Contracts of PipeNew, of the program and of its model.
-/
import Derived.Test.YtgdhojeobcpoiaaPnC
import Derived.Deep.DeepCutAuto
namespace Go.Proofs.Ytgdhojeobcpoiaa
set_option linter.unusedVariables false
set_option linter.unusedSimpArgs false
open Go.ChangeShapes Go.WideShapes Go.ChangeAt Go.RowKit Go.PlainAid Go.Lib
set_option maxRecDepth 10000

theorem infoS : (Try.prog.info? 37).map (fun i => (i.zero, i.size, i.bytes)) = some (some (.agg #[.string ByteArray.empty, .slice none 0 0]), 2, 40) := by kernel_rfl
def pnB (L : List ByteArray) (a b : Int) : Bool := membersB L && inB a 1 1000 && inB b 0 1000
/-- What PipeNew answers. -/
def PnA (w : World) (L : List ByteArray) (a b : Int) (e : Ending) (w' : World) : Prop :=
  ∃ v R a' b', e = .returned (.agg #[v, .int .i64 a', .int .i64 b', .int .i64 0, .int .i64 0]) ∧ (R, a', b') = (if pnB L a b then (L, a, b) else ([], 0, 0)) ∧ OwnS w' w.heap.size v R ∧ Below w.heap.size w w'
theorem pn_ill {w w' : World} {L : List ByteArray} {a b : Int} (h : pnB L a b = false) (hb : Below w.heap.size w w') : PnA w L a b (.returned (.agg #[.slice none 0 0, .int .i64 0, .int .i64 0, .int .i64 0, .int .i64 0])) w' :=
  ⟨_, [], 0, 0, rfl, by rw [h]; rfl, World.ownsRow_nil _ _ _ _, hb⟩
/-- Between two rounds. -/
structure PnI (w wr : World) (g B : Nat) (L : List ByteArray) (a b : Int) (k : Nat) (v : Value) : Prop where
  r : wr.ownsRow B 37 2 v k (fl encS (L.take k))
  x : wr.heap[g]? = some (.cells #[v, .int .i64 a, .int .i64 b, .int .i64 0, .int .i64 0] 26 (0, 0))
  y : wr.heap[w.heap.size]? = some (.cells #[.slice none 0 0, .int .i64 0, .int .i64 0, .int .i64 0, .int .i64 0] 26 (0, 0))
  b : Below w.heap.size w wr
  g0 : w.heap.size < g
  g1 : g < B
theorem take_one {L : List ByteArray} {k : Nat} {u : ByteArray} (h : L[k]? = some u) : L.take (k + 1) = L.take k ++ [u] := by rw [List.take_add_one, h]; rfl
theorem PnI.step {w wr w1 : World} {g B : Nat} {L : List ByteArray} {a b : Int} {k : Nat} {v v' : Value} {u : ByteArray} (h : PnI w wr g B L a b k v) (hu : L[k]? = some u) (hk : k ≤ L.length)
    (hown : w1.ownsRow B 37 2 v' (k + 1) (fl encS (L.take k) ++ encS u)) (hg : (wr.alloc (.cells #[.string u, .slice none 0 0] 37)).grownBy w1 v.ownBlock) :
    PnI w (w1.setCell ⟨g, 0, none⟩ v') g B L a b (k + 1) v' ∧ w1.heap[g]? = some (.cells #[v, .int .i64 a, .int .i64 b, .int .i64 0, .int .i64 0] 26 (0, 0)) := by
  have a1 : Below wr.heap.size wr (wr.alloc (.cells #[.string u, .slice none 0 0] 37)) := (Below.refl _ _).alloc (Nat.le_refl _) _
  have hne : ∀ j, v.ownBlock = some j → B ≤ j := fun j hj => (World.ownsRow.lt h.r j hj).1
  have lg := (Array.getElem?_eq_some_iff.1 h.x).1
  have ly := (Array.getElem?_eq_some_iff.1 h.y).1
  have eg := h.g0
  have eg1 := h.g1
  have x1 : w1.heap[g]? = some (.cells #[v, .int .i64 a, .int .i64 b, .int .i64 0, .int .i64 0] 26 (0, 0)) := by
    rw [hg.block g (Nat.lt_of_lt_of_le lg a1.size) (fun e => by have := hne g e.symm; omega), a1.block g lg]; exact h.x
  have y1 : w1.heap[w.heap.size]? = some (.cells #[.slice none 0 0, .int .i64 0, .int .i64 0, .int .i64 0, .int .i64 0] 26 (0, 0)) := by
    rw [hg.block _ (Nat.lt_of_lt_of_le ly a1.size) (fun e => by have := hne _ e.symm; omega), a1.block _ ly]; exact h.y
  have b1 : Below w.heap.size w w1 := (chain h.b a1).grown hg (chain h.b a1).size (fun j hj => by have := hne j hj; omega)
  refine ⟨⟨?_, ?_, ?_, b1.setCell (show w.heap.size ≤ g by omega) _, h.g0, h.g1⟩, x1⟩
  · rw [take_one hu, fl_app, fl_one]
    refine World.ownsRow.kept hown (grown_one _ _ _ _) ?_
    cases q : v'.ownBlock with
    | none => exact .inl rfl
    | some j => exact .inr (fun e => by cases e; have := (World.ownsRow.lt hown g q).1; omega)
  · exact heap_setCell_same _ _ _ _ _ _ x1
  · rw [Below.heap_setCell _ _ _ _ (by show w.heap.size ≠ g; omega)]; exact y1
theorem cellKP {w : World} {r : Nat} {cs : Array Value} {T : TypeId} (h : w.heap[r]? = some (.cells cs T (0, 0))) (j : Nat) {v : Value} (e : cs[j]? = some v) : w.cell? ⟨r, j, none⟩ = some v := by rw [cell_of_row _ _ j _ _ (0, 0) h]; exact e
theorem row5P {w : World} {r : Nat} {T : TypeId} {u0 u1 u2 u3 u4 : Value} (h : w.heap[r]? = some (.cells #[u0, u1, u2, u3, u4] T (0, 0))) (v0 v1 v2 v3 v4 : Value) :
    (((((w.setCell ⟨r, 0, none⟩ v0).setCell ⟨r, 1, none⟩ v1).setCell ⟨r, 2, none⟩ v2).setCell ⟨r, 3, none⟩ v3).setCell ⟨r, 4, none⟩ v4).heap[r]? = some (.cells #[v0, v1, v2, v3, v4] T (0, 0)) :=
  heap_setCell_same _ r 4 _ _ v4 (heap_setCell_same _ r 3 _ _ v3 (heap_setCell_same _ r 2 _ _ v2 (heap_setCell_same _ r 1 _ _ v1 (heap_setCell_same _ r 0 _ _ v0 h))))
theorem block5P {w : World} {r j : Nat} (hj : j ≠ r) (v0 v1 v2 v3 v4 : Value) :
    (((((w.setCell ⟨r, 0, none⟩ v0).setCell ⟨r, 1, none⟩ v1).setCell ⟨r, 2, none⟩ v2).setCell ⟨r, 3, none⟩ v3).setCell ⟨r, 4, none⟩ v4).heap[j]? = w.heap[j]? := by
  rw [Below.heap_setCell _ _ _ _ hj, Below.heap_setCell _ _ _ _ hj, Below.heap_setCell _ _ _ _ hj, Below.heap_setCell _ _ _ _ hj, Below.heap_setCell _ _ _ _ hj]
theorem PnI.fin {w wr : World} {g B : Nat} {L : List ByteArray} {a b : Int} {v : Value} (h : PnI w wr g B L a b L.length v) (hb : pnB L a b = true) {w' : World} (h2 : ∀ j, j ≠ w.heap.size → w'.heap[j]? = wr.heap[j]?) (h3 : Below w.heap.size w w') : PnA w L a b (.returned (.agg #[v, .int .i64 a, .int .i64 b, .int .i64 0, .int .i64 0])) w' := by
  refine ⟨v, L, a, b, rfl, by rw [hb]; rfl, ?_, h3⟩
  have r := h.r
  rw [List.take_of_length_le (Nat.le_refl _)] at r
  have g0 := h.g0
  have g1 := h.g1
  refine OwnS.le (B := B) ?_ (by omega)
  refine ⟨r.1, ?_⟩
  rcases r.2 with h | ⟨g, cap, cur, e, h1, h4, h5⟩
  · exact .inl h
  · exact .inr ⟨g, cap, cur, e, h1, by rw [h2 g (by omega)]; exact h4, h5⟩
set_option maxHeartbeats 4000000 in
theorem c_i_PipeNew {w : World} {ao : Option Addr} {L : List ByteArray} (cap : Nat) (a b : Int) (hl : L.length ≤ 1048576) (hu : ∀ u ∈ L, u.size ≤ 1048576) (hA : StrsAt w ao L) :
    Calls Try.prog 7 #[.slice ao L.length cap, .int .i64 a, .int .i64 b] w (PnA w L a b) := by
  obtain ⟨i0, hi, hz0, hz1, hz2⟩ := info_parts infoS
  have HA := hide hA
  have HU := hide hu
  have Z0 : Hid (((w.alloc (.cells #[.slice none 0 0, .int .i64 0, .int .i64 0, .int .i64 0, .int .i64 0] 26)).alloc (.cells #[.slice none 0 0, .int .i64 a, .int .i64 b, .int .i64 0, .int .i64 0] 26)).heap.size = w.heap.size + 2) := by show _ = _; simp
  have B0 : Hid (Below w.heap.size w ((w.alloc (.cells #[.slice none 0 0, .int .i64 0, .int .i64 0, .int .i64 0, .int .i64 0] 26)).alloc (.cells #[.slice none 0 0, .int .i64 a, .int .i64 b, .int .i64 0, .int .i64 0] 26))) := ((Below.refl _ _).alloc (Nat.le_refl _) _).alloc (by simp) _
  have X0 : Hid (((w.alloc (.cells #[.slice none 0 0, .int .i64 0, .int .i64 0, .int .i64 0, .int .i64 0] 26)).alloc (.cells #[.slice none 0 0, .int .i64 a, .int .i64 b, .int .i64 0, .int .i64 0] 26)).heap[w.heap.size + 1]? = some (.cells #[.slice none 0 0, .int .i64 a, .int .i64 b, .int .i64 0, .int .i64 0] 26 (0, 0))) := by
    have := heap_alloc_new (w.alloc (.cells #[.slice none 0 0, .int .i64 0, .int .i64 0, .int .i64 0, .int .i64 0] 26)) (.cells #[.slice none 0 0, .int .i64 a, .int .i64 b, .int .i64 0, .int .i64 0] 26)
    show _ = _
    simpa using this
  have Y0 : Hid (((w.alloc (.cells #[.slice none 0 0, .int .i64 0, .int .i64 0, .int .i64 0, .int .i64 0] 26)).alloc (.cells #[.slice none 0 0, .int .i64 a, .int .i64 b, .int .i64 0, .int .i64 0] 26)).heap[w.heap.size]? = some (.cells #[.slice none 0 0, .int .i64 0, .int .i64 0, .int .i64 0, .int .i64 0] 26 (0, 0))) := by
    have h1 := heap_alloc_new w (.cells #[.slice none 0 0, .int .i64 0, .int .i64 0, .int .i64 0, .int .i64 0] 26)
    have hb : Below (w.heap.size + 1) (w.alloc (.cells #[.slice none 0 0, .int .i64 0, .int .i64 0, .int .i64 0, .int .i64 0] 26)) _ := (Below.refl _ _).alloc (by simp) (.cells #[.slice none 0 0, .int .i64 a, .int .i64 b, .int .i64 0, .int .i64 0] 26)
    exact (hb.block _ (by omega)).trans h1
  obtain ⟨N, hN⟩ : ∃ N, L.length = N := ⟨_, rfl⟩
  have HN := hide hN
  have HL : Hid (N ≤ 1048576) := by rw [← hN]; exact hl
  rw [hN]
  clear hA hu hN hl
  go_enter Try.func7, Try.ntmps7
  go_wp2_with fail
  generalize (w.alloc (.cells #[.slice none 0 0, .int .i64 0, .int .i64 0, .int .i64 0, .int .i64 0] 26)).alloc (.cells #[.slice none 0 0, .int .i64 a, .int .i64 b, .int .i64 0, .int .i64 0] 26) = W0 at Z0 B0 X0 Y0 ⊢
  rw [← HN.out]
  refine (c_i_MembersRight cap (by rw [HN.out]; exact HL.out) HU.out (strs_past HA.out B0.out)).mono ?_
  rintro e w1 ⟨rfl, hb1⟩
  rw [HN.out]
  have B1 := hide (chain B0.out hb1)
  have X1 : Hid (w1.heap[w.heap.size + 1]? = _) := (hb1.block _ (Array.getElem?_eq_some_iff.1 X0.out).1).trans X0.out
  have Y1 : Hid (w1.heap[w.heap.size]? = _) := (hb1.block _ (Array.getElem?_eq_some_iff.1 Y0.out).1).trans Y0.out
  have Z1 : Hid (w.heap.size + 2 ≤ w1.heap.size) := by show _ ≤ _; have := hb1.size; have := Z0.out; omega
  clear hb1 Z0 B0 X0 Y0
  have ill : ∀ W, Below w1.heap.size w1 W → (∀ v, W.cell? ⟨w.heap.size, 0, none⟩ = v → W.cell? ⟨w.heap.size, 0, none⟩ = some (.slice none 0 0)) := fun W hW v _ => cellKP ((hW.block _ (Array.getElem?_eq_some_iff.1 Y1.out).1).trans Y1.out) 0 rfl
  clear ill
  cases hm : membersB L with
  | false =>
    have HP : Hid (pnB L a b = false) := by show _ = _; unfold pnB; rw [hm]; simp
    have y0 := cellKP Y1.out 0 rfl
    have y1 := cellKP Y1.out 1 rfl
    have y2 := cellKP Y1.out 2 rfl
    have y3 := cellKP Y1.out 3 rfl
    have y4 := cellKP Y1.out 4 rfl
    have f0 := frozen_of_row w1 _ 0 _ _ Y1.out
    have f1 := frozen_of_row w1 _ 1 _ _ Y1.out
    have f2 := frozen_of_row w1 _ 2 _ _ Y1.out
    have f3 := frozen_of_row w1 _ 3 _ _ Y1.out
    have f4 := frozen_of_row w1 _ 4 _ _ Y1.out
    clear hm
    go_wp2_with fail
    have hle := Nat.le_refl w.heap.size
    have R5 := row5P Y1.out (.slice none 0 0) (.int .i64 0) (.int .i64 0) (.int .i64 0) (.int .i64 0)
    have q0 := cellKP R5 0 rfl
    have q1 := cellKP R5 1 rfl
    have q2 := cellKP R5 2 rfl
    have q3 := cellKP R5 3 rfl
    have q4 := cellKP R5 4 rfl
    clear y0 y1 y2 y3 y4 f0 f1 f2 f3 f4
    exact bodyPost_ret (v := .agg #[.slice none 0 0, .int .i64 0, .int .i64 0, .int .i64 0, .int .i64 0]) (by simp [results, Try.results7, go_sem, q0, q1, q2, q3, q4]) rfl (pn_ill HP.out (((((B1.out.setCell hle _).setCell hle _).setCell hle _).setCell hle _).setCell hle _))
  | true =>
    have x0 := cellKP X1.out 0 rfl
    have x1 := cellKP X1.out 1 rfl
    have x2 := cellKP X1.out 2 rfl
    have x3 := cellKP X1.out 3 rfl
    have x4 := cellKP X1.out 4 rfl
    have HM := hide hm
    clear hm
    go_wp2_with fail
    clear x0 x1 x2 x3 x4
    refine (c_clockOf _ none 0 0 rfl a b 0 0 _).mono ?_
    rintro e w2 ⟨rfl, hb2⟩
    have B2 := hide (chain B1.out hb2)
    have X2 : Hid (w2.heap[w.heap.size + 1]? = _) := (hb2.block _ (Array.getElem?_eq_some_iff.1 X1.out).1).trans X1.out
    have Y2 : Hid (w2.heap[w.heap.size]? = _) := (hb2.block _ (Array.getElem?_eq_some_iff.1 Y1.out).1).trans Y1.out
    have Z2 : Hid (w.heap.size + 2 ≤ w2.heap.size) := by show _ ≤ _; have := hb2.size; have := Z1.out; omega
    clear hb2 B1 X1 Y1 Z1
    go_wp2_with fail
    refine (c_clockRight a b 0 0 _).mono ?_
    rintro e w3 ⟨rfl, hb3⟩
    have B3 := hide (chain B2.out hb3)
    have X3 : Hid (w3.heap[w.heap.size + 1]? = _) := (hb3.block _ (Array.getElem?_eq_some_iff.1 X2.out).1).trans X2.out
    have Y3 : Hid (w3.heap[w.heap.size]? = _) := (hb3.block _ (Array.getElem?_eq_some_iff.1 Y2.out).1).trans Y2.out
    have Z3 : Hid (w.heap.size + 2 ≤ w3.heap.size) := by show _ ≤ _; have := hb3.size; have := Z2.out; omega
    clear hb3 B2 X2 Y2 Z2
    have hcb : clkB a b 0 0 = pnB L a b := by unfold clkB pnB; rw [HM.out]; simp [inB]
    rw [hcb]
    clear hcb
    cases hp : pnB L a b with
    | false =>
      have HP := hide hp
      have y0 := cellKP Y3.out 0 rfl
      have y1 := cellKP Y3.out 1 rfl
      have y2 := cellKP Y3.out 2 rfl
      have y3 := cellKP Y3.out 3 rfl
      have y4 := cellKP Y3.out 4 rfl
      have f0 := frozen_of_row w3 _ 0 _ _ Y3.out
      have f1 := frozen_of_row w3 _ 1 _ _ Y3.out
      have f2 := frozen_of_row w3 _ 2 _ _ Y3.out
      have f3 := frozen_of_row w3 _ 3 _ _ Y3.out
      have f4 := frozen_of_row w3 _ 4 _ _ Y3.out
      clear hp
      go_wp2_with fail
      have hle := Nat.le_refl w.heap.size
      have R5 := row5P Y3.out (.slice none 0 0) (.int .i64 0) (.int .i64 0) (.int .i64 0) (.int .i64 0)
      have q0 := cellKP R5 0 rfl
      have q1 := cellKP R5 1 rfl
      have q2 := cellKP R5 2 rfl
      have q3 := cellKP R5 3 rfl
      have q4 := cellKP R5 4 rfl
      clear y0 y1 y2 y3 y4 f0 f1 f2 f3 f4
      exact bodyPost_ret (v := .agg #[.slice none 0 0, .int .i64 0, .int .i64 0, .int .i64 0, .int .i64 0]) (by simp [results, Try.results7, go_sem, q0, q1, q2, q3, q4]) rfl (pn_ill HP.out (((((B3.out.setCell hle _).setCell hle _).setCell hle _).setCell hle _).setCell hle _))
    | true =>
      have HP := hide hp
      have I0 : Hid (PnI w w3 (w.heap.size + 1) (w.heap.size + 2) L a b 0 (.slice none 0 0)) := ⟨World.ownsRow_nil _ _ _ _, X3.out, Y3.out, B3.out, Nat.lt_succ_self _, Nat.lt_succ_self _⟩
      clear hp X3 Y3
      go_wp2
      obtain ⟨g, hg⟩ : ∃ g, g = w.heap.size + 1 := ⟨_, rfl⟩
      rw [← hg] at I0 ⊢
      have HGe := hide hg
      clear hg
      go_loopw [25] (fun i wr => ∃ (k : Nat) (v : Value), k ≤ N ∧ i = .int .i64 k ∧ Hid (PnI w wr g (w.heap.size + 2) L a b k v)) (fun i wr => N - (intOf i).toNat)
      case atStart => exact ⟨0, _, Nat.zero_le _, rfl, I0⟩
      case round =>
        clear I0
        obtain ⟨k, v, hk, rfl, HI⟩ := hrel
        obtain ⟨va, vc, ev⟩ := own_any HI.out.r
        subst ev
        by_cases hkn : k < N
        · obtain ⟨bb, off, e, hcell⟩ := HA.out (by have := HN.out; omega)
          subst e
          obtain ⟨u, hku⟩ : ∃ u, L[k]? = some u := ⟨L[k]'(by have := HN.out; omega), List.getElem?_eq_getElem _⟩
          have hc := cell_past HI.out.b (hcell k u hku)
          have x0 := cellKP HI.out.x 0 rfl
          have hkni : (k : Int) < (N : Int) := by omega
          have HU2 := hide hku
          have HR := hide HI.out.r
          have HS := hide (fun v' w1 => HI.out.step (v' := v') (w1 := w1) hku (by have := HN.out; omega))
          have hz := HI.out.b.size
          have hzl := HL.out
          have hzg : w.heap.size + 2 ≤ wr.heap.size := by have := (Array.getElem?_eq_some_iff.1 HI.out.x).1; have := HGe.out; omega
          clear hku hcell
          go_wp2_with (at_builtin; refine wpList_append_own _ rfl _ _ 24 rfl (w.heap.size + 2) 37 i0 (.agg #[.string ByteArray.empty, .slice none 0 0]) 2 40 Try.underlying24 hi hz0 hz1 hz2 rfl (by decide) _ _ _ rfl (World.ownsRow.alloc HR.out _) ⟨wr.heap.size, 0, none⟩ 1 1 (encS u) rfl rfl ?c1 ?c2 ?c3 ?c4 ?c5 ?_)
          case c1 => exact new_cells (cs := #[.string u, .slice none 0 0]) rfl
          case c2 => exact encS_one _
          case c3 => unfold maxLen; omega
          case c4 => omega
          case c5 => simp; omega
          intro v' w1 hown' hgrow hnil
          obtain ⟨hn, hx1⟩ := HS.out v' w1 hown' hgrow
          have HN1 := hide hn
          have c0 := cellKP hx1 0 rfl
          have f0 := frozen_of_row w1 _ 0 _ _ hx1
          obtain ⟨va', vc', ev'⟩ := own_any hown'
          subst ev'
          clear hown' hgrow hnil hx1 hn x0 hc
          go_wp2
          go_roundw
          case rel => exact ⟨k + 1, _, by omega, by go_num, HN1⟩
          case measure => simp [intOf]; omega
        · obtain rfl : k = N := by omega
          have x0 := cellKP HI.out.x 0 rfl
          have x1 := cellKP HI.out.x 1 rfl
          have x2 := cellKP HI.out.x 2 rfl
          have x3 := cellKP HI.out.x 3 rfl
          have x4 := cellKP HI.out.x 4 rfl
          have y0 := cellKP HI.out.y 0 rfl
          have y1 := cellKP HI.out.y 1 rfl
          have y2 := cellKP HI.out.y 2 rfl
          have y3 := cellKP HI.out.y 3 rfl
          have y4 := cellKP HI.out.y 4 rfl
          have f0 := frozen_of_row wr _ 0 _ _ HI.out.y
          have f1 := frozen_of_row wr _ 1 _ _ HI.out.y
          have f2 := frozen_of_row wr _ 2 _ _ HI.out.y
          have f3 := frozen_of_row wr _ 3 _ _ HI.out.y
          have f4 := frozen_of_row wr _ 4 _ _ HI.out.y
          go_wp2_with fail
          clear x0 x1 x2 x3 x4 y0 y1 y2 y3 y4 f0 f1 f2 f3 f4
          have hle := Nat.le_refl w.heap.size
          have R5 := row5P HI.out.y (.slice va k vc) (.int .i64 a) (.int .i64 b) (.int .i64 0) (.int .i64 0)
          have q0 := cellKP R5 0 rfl
          have q1 := cellKP R5 1 rfl
          have q2 := cellKP R5 2 rfl
          have q3 := cellKP R5 3 rfl
          have q4 := cellKP R5 4 rfl
          refine bodyPost_ret (v := .agg #[.slice va k vc, .int .i64 a, .int .i64 b, .int .i64 0, .int .i64 0]) (by simp [results, Try.results7, go_sem, q0, q1, q2, q3, q4]) rfl ?_
          have HI2 := HI.out
          rw [← HN.out] at HI2 ⊢
          exact HI2.fin HP.out (fun j hj => block5P hj _ _ _ _ _) (((((HI.out.b.setCell hle _).setCell hle _).setCell hle _).setCell hle _).setCell hle _)
set_option maxHeartbeats 4000000 in
theorem c_s_PipeNew {w : World} {ao : Option Addr} {L : List ByteArray} (cap : Nat) (a b : Int) (hl : L.length ≤ 1048576) (hu : ∀ u ∈ L, u.size ≤ 1048576) (hA : StrsAt w ao L) :
    Calls Try.prog 5 #[.slice ao L.length cap, .int .i64 a, .int .i64 b] w (PnA w L a b) := by
  obtain ⟨i0, hi, hz0, hz1, hz2⟩ := info_parts infoS
  have HA := hide hA
  have HU := hide hu
  have B0 : Hid (Below w.heap.size w (w.alloc (.cells #[.slice none 0 0, .int .i64 0, .int .i64 0, .int .i64 0, .int .i64 0] 26))) := (Below.refl _ _).alloc (Nat.le_refl _) _
  have Y0 := hide (heap_alloc_new w (.cells #[.slice none 0 0, .int .i64 0, .int .i64 0, .int .i64 0, .int .i64 0] 26))
  obtain ⟨N, hN⟩ : ∃ N, L.length = N := ⟨_, rfl⟩
  have HN := hide hN
  have HL : Hid (N ≤ 1048576) := by rw [← hN]; exact hl
  rw [hN]
  clear hA hu hN hl
  go_enter Try.func5, Try.ntmps5
  go_wp2_with fail
  generalize w.alloc (.cells #[.slice none 0 0, .int .i64 0, .int .i64 0, .int .i64 0, .int .i64 0] 26) = W0 at B0 Y0 ⊢
  rw [← HN.out]
  refine (c_s_MembersRight cap (by rw [HN.out]; exact HL.out) HU.out (strs_past HA.out B0.out)).mono ?_
  rintro e w1 ⟨rfl, hb1⟩
  rw [HN.out]
  have B1 := hide (chain B0.out hb1)
  have Y1 : Hid (w1.heap[w.heap.size]? = _) := (hb1.block _ (Array.getElem?_eq_some_iff.1 Y0.out).1).trans Y0.out
  clear hb1 B0 Y0
  cases hm : membersB L with
  | false =>
    have HP : Hid (pnB L a b = false) := by show _ = _; unfold pnB; rw [hm]; simp
    clear hm
    have y0 := cellKP Y1.out 0 rfl
    have y1 := cellKP Y1.out 1 rfl
    have y2 := cellKP Y1.out 2 rfl
    have y3 := cellKP Y1.out 3 rfl
    have y4 := cellKP Y1.out 4 rfl
    have f0 := frozen_of_row w1 _ 0 _ _ Y1.out
    have f1 := frozen_of_row w1 _ 1 _ _ Y1.out
    have f2 := frozen_of_row w1 _ 2 _ _ Y1.out
    have f3 := frozen_of_row w1 _ 3 _ _ Y1.out
    have f4 := frozen_of_row w1 _ 4 _ _ Y1.out
    go_wp2_with fail
    have hle := Nat.le_refl w.heap.size
    have R5 := row5P Y1.out (.slice none 0 0) (.int .i64 0) (.int .i64 0) (.int .i64 0) (.int .i64 0)
    have q0 := cellKP R5 0 rfl
    have q1 := cellKP R5 1 rfl
    have q2 := cellKP R5 2 rfl
    have q3 := cellKP R5 3 rfl
    have q4 := cellKP R5 4 rfl
    clear y0 y1 y2 y3 y4 f0 f1 f2 f3 f4
    exact bodyPost_ret (v := .agg #[.slice none 0 0, .int .i64 0, .int .i64 0, .int .i64 0, .int .i64 0]) (by simp [results, Try.results5, go_sem, q0, q1, q2, q3, q4]) rfl (pn_ill HP.out (((((B1.out.setCell hle _).setCell hle _).setCell hle _).setCell hle _).setCell hle _))
  | true =>
    have HM := hide hm
    clear hm
    go_wp2_with fail
    refine (c_l01IsP a 1 1000 _).mono ?_
    rintro e w2 ⟨rfl, hw⟩
    obtain rfl := hw.symm
    rw [show (decide (1 ≤ a) && decide (a ≤ 1000)) = inB a 1 1000 from rfl]
    cases ha : inB a 1 1000 with
    | false =>
      have HP : Hid (pnB L a b = false) := by show _ = _; unfold pnB; rw [ha]; simp
      clear ha
      have y0 := cellKP Y1.out 0 rfl
      have y1 := cellKP Y1.out 1 rfl
      have y2 := cellKP Y1.out 2 rfl
      have y3 := cellKP Y1.out 3 rfl
      have y4 := cellKP Y1.out 4 rfl
      have f0 := frozen_of_row w1 _ 0 _ _ Y1.out
      have f1 := frozen_of_row w1 _ 1 _ _ Y1.out
      have f2 := frozen_of_row w1 _ 2 _ _ Y1.out
      have f3 := frozen_of_row w1 _ 3 _ _ Y1.out
      have f4 := frozen_of_row w1 _ 4 _ _ Y1.out
      go_wp2_with fail
      have hle := Nat.le_refl w.heap.size
      have R5 := row5P Y1.out (.slice none 0 0) (.int .i64 0) (.int .i64 0) (.int .i64 0) (.int .i64 0)
      have q0 := cellKP R5 0 rfl
      have q1 := cellKP R5 1 rfl
      have q2 := cellKP R5 2 rfl
      have q3 := cellKP R5 3 rfl
      have q4 := cellKP R5 4 rfl
      clear y0 y1 y2 y3 y4 f0 f1 f2 f3 f4
      exact bodyPost_ret (v := .agg #[.slice none 0 0, .int .i64 0, .int .i64 0, .int .i64 0, .int .i64 0]) (by simp [results, Try.results5, go_sem, q0, q1, q2, q3, q4]) rfl (pn_ill HP.out (((((B1.out.setCell hle _).setCell hle _).setCell hle _).setCell hle _).setCell hle _))
    | true =>
      have HAa := hide ha
      clear ha
      go_wp2_with fail
      refine (c_l01IsP b 0 1000 _).mono ?_
      rintro e w3 ⟨rfl, hw⟩
      obtain rfl := hw.symm
      rw [show (decide (0 ≤ b) && decide (b ≤ 1000)) = inB b 0 1000 from rfl]
      cases hbb : inB b 0 1000 with
      | false =>
        have HP : Hid (pnB L a b = false) := by show _ = _; unfold pnB; rw [hbb]; simp
        clear hbb
        have y0 := cellKP Y1.out 0 rfl
        have y1 := cellKP Y1.out 1 rfl
        have y2 := cellKP Y1.out 2 rfl
        have y3 := cellKP Y1.out 3 rfl
        have y4 := cellKP Y1.out 4 rfl
        have f0 := frozen_of_row w1 _ 0 _ _ Y1.out
        have f1 := frozen_of_row w1 _ 1 _ _ Y1.out
        have f2 := frozen_of_row w1 _ 2 _ _ Y1.out
        have f3 := frozen_of_row w1 _ 3 _ _ Y1.out
        have f4 := frozen_of_row w1 _ 4 _ _ Y1.out
        go_wp2_with fail
        have hle := Nat.le_refl w.heap.size
        have R5 := row5P Y1.out (.slice none 0 0) (.int .i64 0) (.int .i64 0) (.int .i64 0) (.int .i64 0)
        have q0 := cellKP R5 0 rfl
        have q1 := cellKP R5 1 rfl
        have q2 := cellKP R5 2 rfl
        have q3 := cellKP R5 3 rfl
        have q4 := cellKP R5 4 rfl
        clear y0 y1 y2 y3 y4 f0 f1 f2 f3 f4
        exact bodyPost_ret (v := .agg #[.slice none 0 0, .int .i64 0, .int .i64 0, .int .i64 0, .int .i64 0]) (by simp [results, Try.results5, go_sem, q0, q1, q2, q3, q4]) rfl (pn_ill HP.out (((((B1.out.setCell hle _).setCell hle _).setCell hle _).setCell hle _).setCell hle _))
      | true =>
        have HP : Hid (pnB L a b = true) := by show _ = _; unfold pnB; rw [hbb, HAa.out, HM.out]; rfl
        have lty := (Array.getElem?_eq_some_iff.1 Y1.out).1
        have hb3 : Below w1.heap.size w1 (w1.alloc (.cells #[.slice none 0 0, .int .i64 a, .int .i64 b, .int .i64 0, .int .i64 0] 26)) := (Below.refl _ _).alloc (Nat.le_refl _) _
        have I0 : Hid (PnI w (w1.alloc (.cells #[.slice none 0 0, .int .i64 a, .int .i64 b, .int .i64 0, .int .i64 0] 26)) w1.heap.size (w1.heap.size + 1) L a b 0 (.slice none 0 0)) := ⟨World.ownsRow_nil _ _ _ _, heap_alloc_new w1 _, (hb3.block _ lty).trans Y1.out, chain B1.out hb3, lty, Nat.lt_succ_self _⟩
        clear hbb lty hb3
        go_wp2_with fail
        generalize w1.alloc (.cells #[.slice none 0 0, .int .i64 a, .int .i64 b, .int .i64 0, .int .i64 0] 26) = W3 at I0 ⊢
        generalize w1.heap.size = g at I0 ⊢
        go_loopw [8] (fun i wr => ∃ (k : Nat) (v : Value), k ≤ N ∧ i = .int .i64 k ∧ Hid (PnI w wr g (g + 1) L a b k v)) (fun i wr => N - (intOf i).toNat)
        case atStart => exact ⟨0, _, Nat.zero_le _, rfl, I0⟩
        case round =>
          clear I0
          obtain ⟨k, v, hk, rfl, HI⟩ := hrel
          obtain ⟨va, vc, ev⟩ := own_any HI.out.r
          subst ev
          by_cases hkn : k < N
          · obtain ⟨bb, off, e, hcell⟩ := HA.out (by have := HN.out; omega)
            subst e
            obtain ⟨u, hku⟩ : ∃ u, L[k]? = some u := ⟨L[k]'(by have := HN.out; omega), List.getElem?_eq_getElem _⟩
            have hc := cell_past HI.out.b (hcell k u hku)
            have hbb : bb < g + 1 := by have := World.block_lt_of_cell? _ _ (hcell k u hku); have := HI.out.g0; exact Nat.lt_trans ‹_› (Nat.lt_succ_of_lt ‹_›)
            have x0 := cellKP HI.out.x 0 rfl
            have hkni : (k : Int) < (N : Int) := by omega
            have HR := hide HI.out.r
            have HS := hide (fun v' w1 => HI.out.step (v' := v') (w1 := w1) hku (by have := HN.out; omega))
            have hzl := HL.out
            have hzg : g + 1 ≤ wr.heap.size := (Array.getElem?_eq_some_iff.1 HI.out.x).1
            have HRd := hide (World.ownsRow.drew HR.out)
            clear hku hcell
            go_upto_region 7 with fail
            have HS0 : (fun W => Below (g + 1) wr W) wr.drew := (Below.refl _ _).drew
            refine regionK (fun W => Below (g + 1) wr W) 10 (by kernel_rfl) ?_
            refine takeK (i := 0) (d := 32) (v := .pointer (some ⟨g, 0, none⟩)) rfl rfl (by kernel_rfl) (by kernel_rfl) (by kernel_rfl) (by decide) (by kernel_rfl) (fun _ _ _ h => h) (Or.inl ⟨by rfl, fun W hW => ?_⟩) HS0 ?_
            · clear hW
              go_simp
            simp only [List.setIfInBounds_toArray, List.set_cons_zero, List.set_cons_succ]
            refine takeK (i := 1) (d := 33) (v := .slice va k vc) rfl rfl (by kernel_rfl) (by kernel_rfl) (by kernel_rfl) (by decide) (by kernel_rfl) (fun _ _ _ h => h) (Or.inl ⟨by rfl, fun W hW => ?_⟩) HS0 ?_
            · have q := (hW.cell (p := ⟨g, 0, none⟩) (Nat.lt_succ_self _)).trans x0
              clear hW
              go_simp
            simp only [List.setIfInBounds_toArray, List.set_cons_zero, List.set_cons_succ]
            refine takeK (i := 2) (d := 34) (v := .slice (some ⟨bb, off, none⟩) N cap) rfl rfl (by kernel_rfl) (by kernel_rfl) (by kernel_rfl) (by decide) (by kernel_rfl) (fun _ _ _ h => h) (Or.inl ⟨by rfl, fun W hW => ?_⟩) HS0 ?_
            · clear hW
              go_simp
            simp only [List.setIfInBounds_toArray, List.set_cons_zero, List.set_cons_succ]
            refine takeK (i := 3) (d := 35) (v := .int .i64 k) rfl rfl (by kernel_rfl) (by kernel_rfl) (by kernel_rfl) (by decide) (by kernel_rfl) (fun _ _ _ h => h) (Or.inl ⟨by rfl, fun W hW => ?_⟩) HS0 ?_
            · clear hW
              go_simp
            simp only [List.setIfInBounds_toArray, List.set_cons_zero, List.set_cons_succ]
            refine takeK (i := 4) (d := 36) (v := .pointer (some ⟨bb, off + k, none⟩)) rfl rfl (by kernel_rfl) (by kernel_rfl) (by kernel_rfl) (by decide) (by kernel_rfl) (fun _ _ _ h => h) (Or.inl ⟨by rfl, fun W hW => ?_⟩) HS0 ?_
            · clear hW
              go_simp
            simp only [List.setIfInBounds_toArray, List.set_cons_zero, List.set_cons_succ]
            refine takeK (i := 5) (d := 37) (v := .string u) rfl rfl (by kernel_rfl) (by kernel_rfl) (by kernel_rfl) (by decide) (by kernel_rfl) (fun _ _ _ h => h) (Or.inl ⟨by rfl, fun W hW => ?_⟩) HS0 ?_
            · have q := (hW.cell (p := ⟨bb, off + k, none⟩) hbb).trans hc
              clear hW
              go_simp
            simp only [List.setIfInBounds_toArray, List.set_cons_zero, List.set_cons_succ]
            refine takeK (i := 6) (d := 38) (v := .agg #[.string u, .slice none 0 0]) rfl rfl (by kernel_rfl) (by kernel_rfl) (by kernel_rfl) (by decide) (by kernel_rfl) (fun _ _ _ h => h) (Or.inl ⟨by rfl, fun W hW => ?_⟩) HS0 ?_
            · clear hW
              go_simp
            simp only [List.setIfInBounds_toArray, List.set_cons_zero, List.set_cons_succ]
            have HBs : Hid (Below (g + 1) wr (wr.alloc (.cells #[.string u, .slice none 0 0] 37)).drew) := ((Below.refl _ _).alloc hzg _).drew
            refine oneK (i := 7) (by kernel_rfl) rfl (fun K hK => ?_)
            go_simp
            refine hK.out _ _ (fun _ => HBs.out) ?_
            clear hK K
            try simp only [Act.put, List.setIfInBounds_toArray, List.set_cons_zero, List.set_cons_succ]
            refine oneK (i := 8) (by kernel_rfl) rfl (fun K hK => ?_)
            rw [if_pos (by rfl)]
            refine wp_append_own _ (.tmp 33) (.tmp 39) 24 rfl (g + 1) 37 i0 (.agg #[.string ByteArray.empty, .slice none 0 0]) 2 40 Try.underlying24 hi hz0 hz1 hz2 rfl (by decide) _ _ _ rfl (World.ownsRow.drew (World.ownsRow.alloc HR.out _)) ⟨wr.heap.size, 0, none⟩ 1 1 (encS u) rfl rfl (new_cells (cs := #[.string u, .slice none 0 0]) rfl) (encS_one _) (by unfold maxLen; omega) (by omega) (by simp; omega) ?_
            intro v' w1 hown' hgrow hnil
            obtain ⟨hn, hx1⟩ := HS.out v' w1 hown' ⟨hgrow.os, hgrow.tape, hgrow.output, hgrow.size, hgrow.block⟩
            have HN1 := hide hn
            have c0 := cellKP hx1 0 rfl
            have f0 := frozen_of_row w1 _ 0 _ _ hx1
            have HBw : Hid (Below (g + 1) wr w1) := HBs.out.grown hgrow (Nat.le_trans hzg HBs.out.size) (fun j hj => (World.ownsRow.lt HR.out j hj).1)
            obtain ⟨va', vc', ev'⟩ := own_any hown'
            subst ev'
            clear hown' hgrow hnil hx1 hn hc
            refine hK.out _ _ (fun _ => HBw.out) ?_
            clear hK K
            try simp only [Act.put, List.setIfInBounds_toArray, List.set_cons_zero, List.set_cons_succ]
            refine takeK (i := 9) (d := 41) (v := .pointer (some ⟨g, 0, none⟩)) rfl rfl (by kernel_rfl) (by kernel_rfl) (by kernel_rfl) (by decide) (by kernel_rfl) (fun _ _ _ h => h) (Or.inl ⟨by rfl, fun W hW => ?_⟩) HBw.out ?_
            · clear hW
              go_simp
            simp only [List.setIfInBounds_toArray, List.set_cons_zero, List.set_cons_succ]
            refine oneK (i := 10) (by kernel_rfl) rfl (fun K hK => ?_)
            go_simp
            refine hK.out _ _ (fun h => absurd rfl h) ?_
            clear hK K
            try simp only [Act.put, List.setIfInBounds_toArray, List.set_cons_zero, List.set_cons_succ]
            refine doneK (by kernel_rfl) ?_ _
            clear c0 f0
            go_wp2
            go_roundw
            case rel => exact ⟨k + 1, _, by omega, by go_num, HN1⟩
            case measure => simp [intOf]; omega
          · obtain rfl : k = N := by omega
            have x0 := cellKP HI.out.x 0 rfl
            have x1 := cellKP HI.out.x 1 rfl
            have x2 := cellKP HI.out.x 2 rfl
            have x3 := cellKP HI.out.x 3 rfl
            have x4 := cellKP HI.out.x 4 rfl
            have y0 := cellKP HI.out.y 0 rfl
            have y1 := cellKP HI.out.y 1 rfl
            have y2 := cellKP HI.out.y 2 rfl
            have y3 := cellKP HI.out.y 3 rfl
            have y4 := cellKP HI.out.y 4 rfl
            have f0 := frozen_of_row wr _ 0 _ _ HI.out.y
            have f1 := frozen_of_row wr _ 1 _ _ HI.out.y
            have f2 := frozen_of_row wr _ 2 _ _ HI.out.y
            have f3 := frozen_of_row wr _ 3 _ _ HI.out.y
            have f4 := frozen_of_row wr _ 4 _ _ HI.out.y
            go_wp2_with fail
            clear x0 x1 x2 x3 x4 y0 y1 y2 y3 y4 f0 f1 f2 f3 f4
            have hle := Nat.le_refl w.heap.size
            have R5 := row5P HI.out.y (.slice va k vc) (.int .i64 a) (.int .i64 b) (.int .i64 0) (.int .i64 0)
            have q0 := cellKP R5 0 rfl
            have q1 := cellKP R5 1 rfl
            have q2 := cellKP R5 2 rfl
            have q3 := cellKP R5 3 rfl
            have q4 := cellKP R5 4 rfl
            refine bodyPost_ret (v := .agg #[.slice va k vc, .int .i64 a, .int .i64 b, .int .i64 0, .int .i64 0]) (by simp [results, Try.results5, go_sem, q0, q1, q2, q3, q4]) rfl ?_
            have HI2 := HI.out
            rw [← HN.out] at HI2 ⊢
            exact HI2.fin HP.out (fun j hj => block5P hj _ _ _ _ _) (((((HI.out.b.setCell hle _).setCell hle _).setCell hle _).setCell hle _).setCell hle _)
end Go.Proofs.Ytgdhojeobcpoiaa
