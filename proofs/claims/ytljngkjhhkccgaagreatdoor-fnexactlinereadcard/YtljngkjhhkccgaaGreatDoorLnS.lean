/-
  l06More of the model.
-/
import Derived.Test.YtljngkjhhkccgaaGreatDoorLnQ
import Derived.Test.YtljngkjhhkccgaaGreatDoorSplM
namespace Go.Proofs.YtljngkjhhkccgaaGreatDoor
set_option linter.unusedVariables false
set_option linter.unusedSimpArgs false
open Go.ChangeShapes Go.WideShapes Go.ChangeAt Go.RowKit Go.PlainAid
set_option maxRecDepth 10000

theorem bel5L {B : Nat} {w w' : World} (h : Below B w w') {r : Nat} (hr : B ≤ r) (v0 v1 v2 v3 v4 : Value) : Below B w (((((w'.setCell ⟨r, 0, none⟩ v0).setCell ⟨r, 1, none⟩ v1).setCell ⟨r, 2, none⟩ v2).setCell ⟨r, 3, none⟩ v3).setCell ⟨r, 4, none⟩ v4) := (((((h.setCell (p := ⟨r, 0, none⟩) hr v0).setCell (p := ⟨r, 1, none⟩) hr v1).setCell (p := ⟨r, 2, none⟩) hr v2).setCell (p := ⟨r, 3, none⟩) hr v3).setCell (p := ⟨r, 4, none⟩) hr v4)
theorem strs_set5 {w' : World} {ta : Option Addr} {L : List ByteArray} {r : Nat} (h : StrsAt w' ta L) (hn : ∀ x, ta = some x → x.block ≠ r) (v0 v1 v2 v3 v4 : Value) : StrsAt (((((w'.setCell ⟨r, 0, none⟩ v0).setCell ⟨r, 1, none⟩ v1).setCell ⟨r, 2, none⟩ v2).setCell ⟨r, 3, none⟩ v3).setCell ⟨r, 4, none⟩ v4) ta L := strs_set (strs_set (strs_set (strs_set (strs_set (h) hn) hn) hn) hn) hn
theorem cell5L {w : World} {r : Nat} {T : TypeId} {u0 u1 u2 u3 u4 : Value} (h : w.heap[r]? = some (.cells #[u0, u1, u2, u3, u4] T (0, 0))) :
    w.cell? ⟨r, 0, none⟩ = some u0 ∧ w.cell? ⟨r, 1, none⟩ = some u1 ∧ w.cell? ⟨r, 2, none⟩ = some u2 ∧ w.cell? ⟨r, 3, none⟩ = some u3 ∧ w.cell? ⟨r, 4, none⟩ = some u4 :=
  ⟨by rw [cell_of_row w r 0 _ _ (0, 0) h]; rfl, by rw [cell_of_row w r 1 _ _ (0, 0) h]; rfl, by rw [cell_of_row w r 2 _ _ (0, 0) h]; rfl, by rw [cell_of_row w r 3 _ _ (0, 0) h]; rfl, by rw [cell_of_row w r 4 _ _ (0, 0) h]; rfl⟩
theorem froz5L {w : World} {r : Nat} {T : TypeId} {cs : Array Value} (h : w.heap[r]? = some (.cells cs T (0, 0))) :
    w.frozen? ⟨r, 0, none⟩ = false ∧ w.frozen? ⟨r, 1, none⟩ = false ∧ w.frozen? ⟨r, 2, none⟩ = false ∧ w.frozen? ⟨r, 3, none⟩ = false ∧ w.frozen? ⟨r, 4, none⟩ = false :=
  ⟨frozen_of_row w r 0 _ _ h, frozen_of_row w r 1 _ _ h, frozen_of_row w r 2 _ _ h, frozen_of_row w r 3 _ _ h, frozen_of_row w r 4 _ _ h⟩
/-- The model's rest in its box. -/
structure MS (w wr : World) (r : Pt) (ta : Option Addr) (tc : Nat) : Prop where
  res : wr.heap[w.heap.size]? = some (.cells #[.string ⟨#[]⟩, .bool false, .slice none 0 0, .bool false, .int .i64 0] 34 (0, 0))
  box : wr.heap[w.heap.size + 1]? = some (.cells #[.string r.rt, .bool r.rd, .slice ta r.tg.length tc, .bool r.td, .int .i64 r.ti] 34 (0, 0))
  tags : StrsAt wr ta r.tg
  tne : ∀ x, ta = some x → w.heap.size + 1 < x.block
  bel : Below w.heap.size w wr
theorem MS.lt {w wr : World} {r : Pt} {ta : Option Addr} {tc : Nat} (h : MS w wr r ta tc) : w.heap.size + 1 < wr.heap.size := by
  rcases Nat.lt_or_ge (w.heap.size + 1) wr.heap.size with h' | h'
  · exact h'
  · have := h.box; rw [Array.getElem?_eq_none h'] at this; cases this
theorem MS.past {w wr w2 : World} {r : Pt} {ta : Option Addr} {tc : Nat} (h : MS w wr r ta tc) (hb : Below wr.heap.size wr w2) : MS w w2 r ta tc :=
  ⟨by rw [hb.block _ (by have := h.lt; omega)]; exact h.res, by rw [hb.block _ h.lt]; exact h.box, strs_past h.tags hb, h.tne, chain h.bel hb⟩
theorem MS.set {w wr : World} {r r' : Pt} {ta tb : Option Addr} {tc td i : Nat} {v : Value} (h : MS w wr r ta tc) (hb : (wr.setCell ⟨w.heap.size + 1, i, none⟩ v).heap[w.heap.size + 1]? = some (.cells #[.string r'.rt, .bool r'.rd, .slice tb r'.tg.length td, .bool r'.td, .int .i64 r'.ti] 34 (0, 0))) (hT : StrsAt wr tb r'.tg) (hn : ∀ x, tb = some x → w.heap.size + 1 < x.block) : MS w (wr.setCell ⟨w.heap.size + 1, i, none⟩ v) r' tb td :=
  ⟨by rw [Below.heap_setCell _ _ _ _ (by show w.heap.size ≠ w.heap.size + 1; omega)]; exact h.res, hb, strs_set hT (fun x e => by have := hn x e; omega), hn, h.bel.setCell (by show w.heap.size ≤ w.heap.size + 1; omega) _⟩
theorem MS.fin {w wr : World} {r : Pt} {ta : Option Addr} {tc : Nat} (h : MS w wr r ta tc) (v0 v1 v2 v3 v4 : Value) : StrsAt (((((wr.setCell ⟨w.heap.size, 0, none⟩ v0).setCell ⟨w.heap.size, 1, none⟩ v1).setCell ⟨w.heap.size, 2, none⟩ v2).setCell ⟨w.heap.size, 3, none⟩ v3).setCell ⟨w.heap.size, 4, none⟩ v4) ta r.tg ∧ Below w.heap.size w (((((wr.setCell ⟨w.heap.size, 0, none⟩ v0).setCell ⟨w.heap.size, 1, none⟩ v1).setCell ⟨w.heap.size, 2, none⟩ v2).setCell ⟨w.heap.size, 3, none⟩ v3).setCell ⟨w.heap.size, 4, none⟩ v4) :=
  ⟨strs_set5 h.tags (fun x e => by have := h.tne x e; omega) _ _ _ _ _, bel5L h.bel (Nat.le_refl _) _ _ _ _ _⟩
theorem mark_no {y : ByteArray} (h : markN y = 0) (h0 : ¬ y.size = 0) : ¬ bt y 0 = 64 ∧ ¬ bt y 0 = 35 ∧ ¬ bt y 0 = 84 := by
  unfold markN at h
  rw [if_neg h0] at h
  refine ⟨fun e => ?_, fun e => ?_, fun e => ?_⟩
  · rw [if_pos e] at h; omega
  · rw [if_neg (by omega), if_pos e] at h; omega
  · rw [if_neg (by omega), if_neg (by omega), if_pos e] at h; omega
def MoO (w : World) (L : List ByteArray) (e : Ending) (w' : World) : Prop := ∃ r ta tc, e = .returned (.tuple #[.agg #[.string r.rt, .bool r.rd, .slice ta r.tg.length tc, .bool r.td, .int .i64 r.ti], .bool (moreS 0 pt0 L).isSome]) ∧ (∀ r', moreS 0 pt0 L = some r' → r' = r) ∧ StrsAt w' ta r.tg ∧ (∀ u ∈ r.tg, u.size ≤ 20000) ∧ r.tg.length ≤ 20001 ∧ r.rt.size ≤ 20000 ∧ Below w.heap.size w w'
set_option maxHeartbeats 2000000 in
theorem c_l06More {w : World} {ao : Option Addr} {L : List ByteArray} (c n : Nat) (hn : L.length = n) (hl : n ≤ 20100) (hu : ∀ u ∈ L, u.size ≤ 20000) (hA : StrsAt w ao L) :
    Calls Tryz.prog 10 #[.slice ao n c] w (MoO w L) := by
  have HA := hide hA
  have HN := hide hn
  have HU := hide hu
  clear hA hn hu
  go_enter Tryz.func10, Tryz.ntmps10
  go_wp2
  go_loopw [5, 6] (fun la i wr => ∃ (k a : Nat) (r : Pt) (ta : Option Addr) (tc : Nat), k ≤ n ∧ a ≤ 3 ∧ i = .int .i64 k ∧ la = .int .i64 a ∧ Hid (moreS 0 pt0 L = moreS a r (L.drop k)) ∧ Hid (MS w wr r ta tc) ∧ Hid ((∀ u ∈ r.tg, u.size ≤ 20000) ∧ r.tg.length ≤ 20001 ∧ r.rt.size ≤ 20000)) (fun la i wr => n - (intOf i).toNat)
  case atStart =>
    refine ⟨0, 0, pt0, none, 0, Nat.zero_le _, by omega, rfl, rfl, rfl, ?_, ⟨(fun u hu => by cases hu), (by show 0 ≤ 20001; omega), (by show 0 ≤ 20000; omega)⟩⟩
    have e1 := heap_alloc_new w (.cells #[.string ⟨#[]⟩, .bool false, .slice none 0 0, .bool false, .int .i64 0] 34)
    have e2 := heap_alloc_new (w.alloc (.cells #[.string ⟨#[]⟩, .bool false, .slice none 0 0, .bool false, .int .i64 0] 34)) (.cells #[.string ⟨#[]⟩, .bool false, .slice none 0 0, .bool false, .int .i64 0] 34)
    rw [World.size_alloc] at e2
    exact ⟨by rw [Below.heap_alloc _ _ _ (by rw [World.size_alloc]; omega)]; exact e1, e2, (fun h => absurd h (Nat.lt_irrefl 0)), (fun x e => by cases e), ((Below.refl _ _).alloc (Nat.le_refl _) _).alloc (by rw [World.size_alloc]; omega) _⟩
  case round =>
    obtain ⟨k, a, r, ta, tc, hk, ha, rfl, rfl, HI, HT, HS⟩ := hrel
    by_cases hkn : k < n
    · obtain ⟨b, off, e, hcell⟩ := strs_past HA.out HT.out.bel (by have := HN.out; omega)
      obtain ⟨y, hy⟩ : ∃ y, L[k]? = some y := ⟨L[k]'(by have := HN.out; omega), List.getElem?_eq_getElem _⟩
      subst e
      have hc0 := hcell k y hy
      have HY := hide (drop_at hy)
      have hys := HU.out y (List.mem_of_getElem? hy)
      clear hcell hy
      have hbt := get_bt y
      have hmb := markN_bd y
      obtain ⟨r0, r1, r2, r3, r4⟩ := cell5L HT.out.res
      obtain ⟨f0, f1, f2, f3, f4⟩ := froz5L HT.out.res
      obtain ⟨q0, q1, q2, q3, q4⟩ := cell5L HT.out.box
      obtain ⟨g0, g1, g2, g3, g4⟩ := froz5L HT.out.box
      by_cases hm : markN y ≤ a
      · have HE : Hid (moreS 0 pt0 L = none) := (by rw [HI.out, HY.out, moreS_no hm] : moreS 0 pt0 L = none)
        by_cases h0 : y.size = 0
        · have e : y = ByteArray.empty := toL_inj (List.eq_nil_of_length_eq_zero (by rw [toL_len]; exact h0))
          subst e
          go_wp2
          refine bodyPost_ret (v := .tuple #[.agg #[.string r.rt, .bool r.rd, .slice ta r.tg.length tc, .bool r.td, .int .i64 r.ti], .bool false]) (by simp [results, Tryz.results10, go_sem, r0, r1, r2, r3, r4]) rfl ?_
          unfold MoO
          exact ⟨r, ta, tc, by rw [HE.out]; rfl, (fun r' h => by rw [HE.out] at h; cases h), (HT.out.fin _ _ _ _ _).1, HS.out.1, HS.out.2.1, HS.out.2.2, (HT.out.fin _ _ _ _ _).2⟩
        · have hi1 : y.toList.isEmpty = false := ne_empty (fun e => h0 (by rw [e]; rfl))
          have hy0i : (0 : Int) < (y.size : Int) := by omega
          have hml : markN y = 0 ∨ markN y = 1 ∨ markN y = 2 ∨ markN y = 3 := by omega
          rcases hml with h4 | h1 | h2 | h3
          · obtain ⟨n1, n2, n3⟩ := mark_no h4 h0
            go_wp2
            refine bodyPost_ret (v := .tuple #[.agg #[.string r.rt, .bool r.rd, .slice ta r.tg.length tc, .bool r.td, .int .i64 r.ti], .bool false]) (by simp [results, Tryz.results10, go_sem, r0, r1, r2, r3, r4]) rfl ?_
            unfold MoO
            exact ⟨r, ta, tc, by rw [HE.out]; rfl, (fun r' h => by rw [HE.out] at h; cases h), (HT.out.fin _ _ _ _ _).1, HS.out.1, HS.out.2.1, HS.out.2.2, (HT.out.fin _ _ _ _ _).2⟩
          · have hb0 := (mark_is h1 (by omega)).2.1 rfl
            have hai : ¬ (a : Int) < 1 := by omega
            go_wp2
            refine bodyPost_ret (v := .tuple #[.agg #[.string r.rt, .bool r.rd, .slice ta r.tg.length tc, .bool r.td, .int .i64 r.ti], .bool false]) (by simp [results, Tryz.results10, go_sem, r0, r1, r2, r3, r4]) rfl ?_
            unfold MoO
            exact ⟨r, ta, tc, by rw [HE.out]; rfl, (fun r' h => by rw [HE.out] at h; cases h), (HT.out.fin _ _ _ _ _).1, HS.out.1, HS.out.2.1, HS.out.2.2, (HT.out.fin _ _ _ _ _).2⟩
          · have hb0 := (mark_is h2 (by omega)).2.2.1 rfl
            have hai : ¬ (a : Int) < 2 := by omega
            go_wp2
            refine bodyPost_ret (v := .tuple #[.agg #[.string r.rt, .bool r.rd, .slice ta r.tg.length tc, .bool r.td, .int .i64 r.ti], .bool false]) (by simp [results, Tryz.results10, go_sem, r0, r1, r2, r3, r4]) rfl ?_
            unfold MoO
            exact ⟨r, ta, tc, by rw [HE.out]; rfl, (fun r' h => by rw [HE.out] at h; cases h), (HT.out.fin _ _ _ _ _).1, HS.out.1, HS.out.2.1, HS.out.2.2, (HT.out.fin _ _ _ _ _).2⟩
          · have hb0 := (mark_is h3 (by omega)).2.2.2 rfl
            have hai : ¬ (a : Int) < 3 := by omega
            go_wp2
            refine bodyPost_ret (v := .tuple #[.agg #[.string r.rt, .bool r.rd, .slice ta r.tg.length tc, .bool r.td, .int .i64 r.ti], .bool false]) (by simp [results, Tryz.results10, go_sem, r0, r1, r2, r3, r4]) rfl ?_
            unfold MoO
            exact ⟨r, ta, tc, by rw [HE.out]; rfl, (fun r' h => by rw [HE.out] at h; cases h), (HT.out.fin _ _ _ _ _).1, HS.out.1, HS.out.2.1, HS.out.2.2, (HT.out.fin _ _ _ _ _).2⟩
      · obtain ⟨hy0, p1, p2, p3⟩ := mark_is (y := y) rfl (by omega)
        have hi1 : y.toList.isEmpty = false := ne_empty (fun e => by rw [e] at hy0; exact absurd hy0 (Nat.lt_irrefl 0))
        have hy0i : (0 : Int) < (y.size : Int) := by omega
        have htz := tl1_size y
        have hml : markN y = 1 ∨ markN y = 2 ∨ markN y = 3 := by omega
        rcases hml with h1 | h2 | h3
        · have hb0 := p1 h1
          have hai : (a : Int) < 1 := by omega
          have HX : Hid (moreS 0 pt0 L = moreS 1 { r with rd := true, rt := tl1 y } (L.drop (k + 1))) := (by rw [HI.out, HY.out, moreS_step hm (step1 h1) (fun e => by omega), h1] : moreS 0 pt0 L = moreS 1 { r with rd := true, rt := tl1 y } (L.drop (k + 1)))
          have HM1 := hide (HT.out.set (r' := { r with rd := true }) (tb := ta) (td := tc) (i := 1) (v := .bool true) (heap_setCell_same wr (w.heap.size + 1) 1 _ _ (.bool true) HT.out.box) HT.out.tags HT.out.tne)
          have HM2 := hide (HM1.out.set (r' := { r with rd := true, rt := tl1 y }) (tb := ta) (td := tc) (i := 0) (v := .string (tl1 y)) (heap_setCell_same _ (w.heap.size + 1) 0 _ _ (.string (tl1 y)) HM1.out.box) HM1.out.tags HM1.out.tne)
          go_wp2
          go_roundw
          case rel => exact ⟨k + 1, 1, _, ta, tc, by omega, by omega, by go_num, rfl, HX.out, HM2.out, HS.out.1, HS.out.2.1, (by show (tl1 y).size ≤ 20000; omega)⟩
          case measure => simp [intOf]; omega
        · have hb0 := p2 h2
          have hai : (a : Int) < 2 := by omega
          have HZ := hide (splL_size (tl1 y))
          go_wp2_with fail
          refine (c_l01Split (tl1 y) 44 (by omega) ⟨by omega, by omega⟩ _).mono ?_
          rintro e w2 ⟨g, cap, rfl, hg, hS, hb2⟩
          have HT2 := hide (HT.out.past hb2)
          have hlt2 := HT.out.lt
          have HS2 : Hid (StrsAt w2 (some ⟨g, 0, none⟩) (splL (tl1 y) 44)) := (fun _ => ⟨g, 0, rfl, fun j u hj => by rw [Nat.zero_add]; exact hS j u hj⟩ : StrsAt w2 (some ⟨g, 0, none⟩) (splL (tl1 y) 44))
          have HM3 := hide (HT2.out.set (r' := { r with tg := splL (tl1 y) 44 }) (tb := some ⟨g, 0, none⟩) (td := cap) (i := 2) (v := .slice (some ⟨g, 0, none⟩) (splL (tl1 y) 44).length cap) (heap_setCell_same w2 (w.heap.size + 1) 2 _ _ (.slice (some ⟨g, 0, none⟩) (splL (tl1 y) 44).length cap) HT2.out.box) HS2.out (fun x e => by cases e; show w.heap.size + 1 < g; omega))
          clear hS hb2 r0 r1 r2 r3 r4 f0 f1 f2 f3 f4 q0 q1 q2 q3 q4 g0 g1 g2 g3 g4 hc0
          obtain ⟨q0, q1, q2, q3, q4⟩ := cell5L HT2.out.box
          obtain ⟨g0, g1, g2, g3, g4⟩ := froz5L HT2.out.box
          go_wp2_with fail
          generalize (w2.setCell ⟨w.heap.size + 1, 2, none⟩ (.slice (some ⟨g, 0, none⟩) (splL (tl1 y) 44).length cap)) = w3 at HM3 ⊢
          clear q0 q1 q2 q3 q4 g0 g1 g2 g3 g4 HT2 HS2
          refine (c_s_l06Tags cap _ rfl (by have := HZ.out.2; show (splL (tl1 y) 44).length ≤ 1048576; omega) (fun u hu => by have := HZ.out.1 u hu; unfold maxLen; omega) HM3.out.tags).mono ?_
          rintro e w4 ⟨rfl, hw⟩
          obtain rfl := hw.symm
          obtain ⟨r0, r1, r2, r3, r4⟩ := cell5L HM3.out.res
          obtain ⟨f0, f1, f2, f3, f4⟩ := froz5L HM3.out.res
          obtain ⟨q0, q1, q2, q3, q4⟩ := cell5L HM3.out.box
          cases hta : (splL (tl1 y) 44).all tagB with
          | false =>
            have HE : Hid (moreS 0 pt0 L = none) := (by rw [HI.out, HY.out, moreS_bad (step2 h2) h2 (by rw [hta]; simp)] : moreS 0 pt0 L = none)
            go_wp2
            refine bodyPost_ret (v := .tuple #[.agg #[.string r.rt, .bool r.rd, .slice (some ⟨g, 0, none⟩) (splL (tl1 y) 44).length cap, .bool r.td, .int .i64 r.ti], .bool false]) (by simp [results, Tryz.results10, go_sem, r0, r1, r2, r3, r4]) rfl ?_
            unfold MoO
            exact ⟨{ r with tg := splL (tl1 y) 44 }, some ⟨g, 0, none⟩, cap, by rw [HE.out]; rfl, (fun r' h => by rw [HE.out] at h; cases h), (HM3.out.fin _ _ _ _ _).1, (fun u hu => by have := HZ.out.1 u hu; omega), (by have := HZ.out.2; show (splL (tl1 y) 44).length ≤ 20001; omega), HS.out.2.2, (HM3.out.fin _ _ _ _ _).2⟩
          | true =>
            have HX : Hid (moreS 0 pt0 L = moreS 2 { r with tg := splL (tl1 y) 44 } (L.drop (k + 1))) := (by rw [HI.out, HY.out, moreS_step hm (step2 h2) (fun _ => hta), h2] : moreS 0 pt0 L = moreS 2 { r with tg := splL (tl1 y) 44 } (L.drop (k + 1)))
            go_wp2
            go_roundw
            case rel => exact ⟨k + 1, 2, _, _, cap, by omega, by omega, by go_num, rfl, HX.out, HM3.out, (fun u hu => by have := HZ.out.1 u hu; omega), (by have := HZ.out.2; show (splL (tl1 y) 44).length ≤ 20001; omega), HS.out.2.2⟩
            case measure => simp [intOf]; omega
        · have hb0 := p3 h3
          have hai : (a : Int) < 3 := by omega
          go_wp2_with fail
          refine (c_l06Time (tl1 y) (by omega) _).mono ?_
          rintro e w2 ⟨nn, rfl, hnn, hw⟩
          obtain rfl := hw.symm
          cases ht : timO (tl1 y) with
          | none =>
            have HE : Hid (moreS 0 pt0 L = none) := (by rw [HI.out, HY.out, moreS_ill (by rw [step3 h3, ht]; rfl)] : moreS 0 pt0 L = none)
            go_wp2
            refine bodyPost_ret (v := .tuple #[.agg #[.string r.rt, .bool r.rd, .slice ta r.tg.length tc, .bool r.td, .int .i64 r.ti], .bool false]) (by simp [results, Tryz.results10, go_sem, r0, r1, r2, r3, r4]) rfl ?_
            unfold MoO
            exact ⟨r, ta, tc, by rw [HE.out]; rfl, (fun r' h => by rw [HE.out] at h; cases h), (HT.out.fin _ _ _ _ _).1, HS.out.1, HS.out.2.1, HS.out.2.2, (HT.out.fin _ _ _ _ _).2⟩
          | some m =>
            obtain rfl := hnn m ht
            have HX : Hid (moreS 0 pt0 L = moreS 3 { r with td := true, ti := m } (L.drop (k + 1))) := (by rw [HI.out, HY.out, moreS_step hm (r' := { r with td := true, ti := m }) (by rw [step3 h3, ht]; rfl) (fun e => by omega), h3] : moreS 0 pt0 L = moreS 3 { r with td := true, ti := m } (L.drop (k + 1)))
            have HM1 := hide (HT.out.set (r' := { r with td := true }) (tb := ta) (td := tc) (i := 3) (v := .bool true) (heap_setCell_same wr (w.heap.size + 1) 3 _ _ (.bool true) HT.out.box) HT.out.tags HT.out.tne)
            have HM2 := hide (HM1.out.set (r' := { r with td := true, ti := m }) (tb := ta) (td := tc) (i := 4) (v := .int .i64 m) (heap_setCell_same _ (w.heap.size + 1) 4 _ _ (.int .i64 m) HM1.out.box) HM1.out.tags HM1.out.tne)
            go_wp2
            go_roundw
            case rel => exact ⟨k + 1, 3, _, ta, tc, by omega, by omega, by go_num, rfl, HX.out, HM2.out, HS.out⟩
            case measure => simp [intOf]; omega
    · have HE : Hid (moreS 0 pt0 L = some r) := (by rw [HI.out, List.drop_eq_nil_of_le (by have := HN.out; omega)]; unfold moreS; rfl : moreS 0 pt0 L = some r)
      obtain ⟨r0, r1, r2, r3, r4⟩ := cell5L HT.out.res
      obtain ⟨f0, f1, f2, f3, f4⟩ := froz5L HT.out.res
      obtain ⟨q0, q1, q2, q3, q4⟩ := cell5L HT.out.box
      obtain ⟨g0, g1, g2, g3, g4⟩ := froz5L HT.out.box
      go_wp2
      refine bodyPost_ret (v := .tuple #[.agg #[.string r.rt, .bool r.rd, .slice ta r.tg.length tc, .bool r.td, .int .i64 r.ti], .bool true]) (by simp [results, Tryz.results10, go_sem, r0, r1, r2, r3, r4]) rfl ?_
      unfold MoO
      exact ⟨r, ta, tc, by rw [HE.out]; rfl, (fun r' h => by rw [HE.out] at h; cases h; rfl), (HT.out.fin _ _ _ _ _).1, HS.out.1, HS.out.2.1, HS.out.2.2, (HT.out.fin _ _ _ _ _).2⟩
end Go.Proofs.YtljngkjhhkccgaaGreatDoor
