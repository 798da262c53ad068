/-
  takeParts of the program.
-/
import Derived.Test.YtljngkjhhkccgaaGreatDoorLnP
import Derived.Deep.LoopGhost
namespace Go.Proofs.YtljngkjhhkccgaaGreatDoor
set_option linter.unusedVariables false
set_option linter.unusedSimpArgs false
open Go.ChangeShapes Go.WideShapes Go.ChangeAt Go.RowKit Go.PlainAid
set_option maxRecDepth 10000

theorem tabF.below {w w' : World} {B : Nat} (h : tabF w) (hb : Below B w w') (hB : 6 < B ∧ 4 < B ∧ 5 < B ∧ 1 < B) : tabF w' := by
  unfold tabF Lib.TabIs World.var? at *
  rw [show Tryz.prog.globalNamed "internal/strconv.uint64pow10" = some 6 by kernel_rfl] at *
  simp only [Option.bind_some] at h ⊢
  rw [hb.block _ (by omega)]
  exact h
theorem LnG.below {w w' : World} {B : Nat} (h : LnG w) (hb : Below B w w') (hB : 6 < B ∧ 4 < B ∧ 5 < B ∧ 1 < B) : LnG w' :=
  ⟨h.tab.below hb hB, by obtain ⟨a, b, c⟩ := h.syn; exact ⟨a, b, by rw [hb.cell (show (⟨4, 0, none⟩ : Addr).block < B by show 4 < B; omega)]; exact c⟩, by obtain ⟨a, b, c⟩ := h.rng; exact ⟨a, b, by rw [hb.cell (show (⟨5, 0, none⟩ : Addr).block < B by show 5 < B; omega)]; exact c⟩⟩
theorem MX.below {w w' : World} {B : Nat} (h : MX w) (hb : Below B w w') (hB : 6 < B ∧ 4 < B ∧ 5 < B ∧ 1 < B) : MX w' := by
  obtain ⟨m, hm⟩ := h
  exact ⟨m, by rw [hb.cell (show (⟨1, 0, none⟩ : Addr).block < B by show 1 < B; omega)]; exact hm⟩
/-- The line in its box, while its parts are taken. -/
structure TP (w wr : World) (B : Nat) (ao : Option Addr) (L : List ByteArray) (nm wh kd : ByteArray) (r : Pt) (ta : Option Addr) (tc : Nat) : Prop where
  box : wr.heap[B]? = some (.cells #[.string nm, .string wh, .string kd, .bool r.rd, .string r.rt, .slice ta r.tg.length tc, .bool r.td, .int .i64 r.ti] 57 (0, 0))
  parts : StrsAt wr ao L
  tags : StrsAt wr ta r.tg
  tne : ∀ x, ta = some x → B < x.block
  bel : Below B w wr
theorem strs_set {wr : World} {ta : Option Addr} {L : List ByteArray} {B i : Nat} {v : Value} (h : StrsAt wr ta L) (hne : ∀ x, ta = some x → x.block ≠ B) : StrsAt (wr.setCell ⟨B, i, none⟩ v) ta L := fun h0 => by
  obtain ⟨b, off, e, hc⟩ := h h0
  exact ⟨b, off, e, fun j u hj => by rw [World.cell?_setCell_other _ _ _ _ (by have := hne _ e; intro e2; exact this (congrArg Addr.block e2).symm)]; exact hc j u hj⟩
theorem TP.past {w wr w2 : World} {B : Nat} {ao : Option Addr} {L : List ByteArray} {nm wh kd : ByteArray} {r : Pt} {ta : Option Addr} {tc : Nat} (h : TP w wr B ao L nm wh kd r ta tc) (hb : Below wr.heap.size wr w2) : TP w w2 B ao L nm wh kd r ta tc := by
  have hlt : B < wr.heap.size := by
    rcases Nat.lt_or_ge B wr.heap.size with h' | h'
    · exact h'
    · have := h.box; rw [Array.getElem?_eq_none h'] at this; cases this
  exact ⟨by rw [hb.block B hlt]; exact h.box, strs_past h.parts hb, strs_past h.tags hb, h.tne, h.bel.trans (hb.mono (by omega))⟩
theorem TP.set1 {w wr : World} {B : Nat} {ao : Option Addr} {L : List ByteArray} {nm wh kd : ByteArray} {r : Pt} {ta : Option Addr} {tc : Nat} (h : TP w wr B ao L nm wh kd r ta tc) (hne : ∀ x, ao = some x → x.block ≠ B) (v : ByteArray) :
    TP w ((wr.setCell ⟨B, 3, none⟩ (.bool true)).setCell ⟨B, 4, none⟩ (.string v)) B ao L nm wh kd { r with rd := true, rt := v } ta tc :=
  ⟨heap_setCell_same _ B 4 _ _ (.string v) (heap_setCell_same wr B 3 _ _ (.bool true) h.box), strs_set (strs_set h.parts hne) hne, strs_set (strs_set h.tags (fun x e => Nat.ne_of_gt (h.tne x e))) (fun x e => Nat.ne_of_gt (h.tne x e)), h.tne, (h.bel.setCell (Nat.le_refl _) _).setCell (Nat.le_refl _) _⟩
theorem TP.set2 {w wr : World} {B : Nat} {ao : Option Addr} {L : List ByteArray} {nm wh kd : ByteArray} {r : Pt} {ta : Option Addr} {tc : Nat} (h : TP w wr B ao L nm wh kd r ta tc) (hne : ∀ x, ao = some x → x.block ≠ B) {T : List ByteArray} {n : Nat} (hn : T.length = n) (tb : Option Addr) (td : Nat) (hT : StrsAt wr tb T) (tne : ∀ x, tb = some x → B < x.block) :
    TP w (wr.setCell ⟨B, 5, none⟩ (.slice tb n td)) B ao L nm wh kd { r with tg := T } tb td :=
  ⟨by subst hn; exact heap_setCell_same wr B 5 _ _ (.slice tb T.length td) h.box, strs_set h.parts hne, strs_set hT (fun x e => Nat.ne_of_gt (tne x e)), tne, h.bel.setCell (Nat.le_refl _) _⟩
theorem TP.set3 {w wr : World} {B : Nat} {ao : Option Addr} {L : List ByteArray} {nm wh kd : ByteArray} {r : Pt} {ta : Option Addr} {tc : Nat} (h : TP w wr B ao L nm wh kd r ta tc) (hne : ∀ x, ao = some x → x.block ≠ B) (n : Nat) (b : Bool) :
    TP w ((wr.setCell ⟨B, 7, none⟩ (.int .i64 n)).setCell ⟨B, 6, none⟩ (.bool b)) B ao L nm wh kd { r with td := b, ti := n } ta tc :=
  ⟨heap_setCell_same _ B 6 _ _ (.bool b) (heap_setCell_same wr B 7 _ _ (.int .i64 n) h.box), strs_set (strs_set h.parts hne) hne, strs_set (strs_set h.tags (fun x e => Nat.ne_of_gt (h.tne x e))) (fun x e => Nat.ne_of_gt (h.tne x e)), h.tne, (h.bel.setCell (Nat.le_refl _) _).setCell (Nat.le_refl _) _⟩
theorem TP.lt {w wr : World} {B : Nat} {ao : Option Addr} {L : List ByteArray} {nm wh kd : ByteArray} {r : Pt} {ta : Option Addr} {tc : Nat} (h : TP w wr B ao L nm wh kd r ta tc) : B < wr.heap.size := by
  rcases Nat.lt_or_ge B wr.heap.size with h' | h'
  · exact h'
  · have := h.box; rw [Array.getElem?_eq_none h'] at this; cases this
theorem drop_at {L : List ByteArray} {k : Nat} {y : ByteArray} (h : L[k]? = some y) : L.drop k = y :: L.drop (k + 1) := by
  obtain ⟨hk, e⟩ := List.getElem?_eq_some_iff.1 h
  rw [List.drop_eq_getElem_cons hk, e]
theorem mark_is {y : ByteArray} {m : Nat} (h : markN y = m) (hm : 1 ≤ m) : 0 < y.size ∧ (m = 1 → bt y 0 = 64) ∧ (m = 2 → bt y 0 = 35) ∧ (m = 3 → bt y 0 = 84) := by
  unfold markN at h
  by_cases h0 : y.size = 0
  · rw [if_pos h0] at h; omega
  rw [if_neg h0] at h
  refine ⟨by omega, ?_⟩
  by_cases h1 : bt y 0 = 64
  · rw [if_pos h1] at h; exact ⟨fun _ => h1, fun e => by omega, fun e => by omega⟩
  rw [if_neg h1] at h
  by_cases h2 : bt y 0 = 35
  · rw [if_pos h2] at h; exact ⟨fun e => by omega, fun _ => h2, fun e => by omega⟩
  rw [if_neg h2] at h
  by_cases h3 : bt y 0 = 84
  · rw [if_pos h3] at h; exact ⟨fun e => by omega, fun e => by omega, fun _ => h3⟩
  rw [if_neg h3] at h; omega
theorem tl1_size (y : ByteArray) : (tl1 y).size ≤ y.size := by unfold tl1; rw [ByteArray.size_extract]; omega
theorem splL_size (t : ByteArray) : (∀ u ∈ splL t 44, u.size ≤ t.size) ∧ (splL t 44).length ≤ t.size + 1 := by
  have e : splL t 44 = Lib.splitB ⟨#[44]⟩ 0 (Lib.countB t ⟨#[44]⟩) t := (splitB_splL 44 t).symm
  refine ⟨fun u hu => splitB_size _ _ _ u (by rw [← e]; exact hu), ?_⟩
  have := joinC_long 44 (splL t 44)
  have h2 : joinC 44 (splL t 44) = toL t := (splL_joins (c := 44) t.size t (Nat.le_refl _)).2.2
  rw [h2, toL_len] at this
  exact this
theorem TP.drew {w wr : World} {B : Nat} {ao : Option Addr} {L : List ByteArray} {nm wh kd : ByteArray} {r : Pt} {ta : Option Addr} {tc : Nat} (h : TP w wr B ao L nm wh kd r ta tc) : TP w wr.drew B ao L nm wh kd r ta tc :=
  h.past ⟨rfl, rfl, rfl, Nat.le_refl _, fun _ _ => rfl⟩
theorem MX.drew {w : World} (h : MX w) : MX w.drew := h.past ⟨rfl, rfl, rfl, Nat.le_refl _, fun _ _ => rfl⟩
theorem c_SplitL (t : ByteArray) (c : UInt8) (hz : t.size ≤ 1000000) (w : World) (hM : MX w) :
    Calls Tryz.prog 33 #[.string t, .string ⟨#[c]⟩] w fun e w' => ∃ g tc, e = .returned (.slice (some ⟨g, 0, none⟩) (splL t (c.toNat : Int)).length tc) ∧ w.heap.size ≤ g ∧ StrsAt w' (some ⟨g, 0, none⟩) (splL t (c.toNat : Int)) ∧ Below w.heap.size w w' := by
  obtain ⟨m, hm⟩ := hM
  refine (Tryz.strings_Split t ⟨#[c]⟩ m w (by omega) hm (by show 1 ≤ 1; omega)).mono ?_
  rintro e w' ⟨rfl, rfl⟩
  rw [splitB_splL]
  have hl : (splL t (c.toNat : Int)).length = Lib.countB t ⟨#[c]⟩ + 1 := by rw [← splitB_splL]; exact Lib.splitB_all ⟨#[c]⟩ (by show 1 ≤ 1; omega) 0 _ t rfl
  refine ⟨w.heap.size, _, by rw [hl], Nat.le_refl _, fun _ => ⟨w.heap.size, 0, rfl, fun i u hu => ?_⟩, (Below.refl _ _).alloc (Nat.le_refl _) _⟩
  rw [cell_of_row _ w.heap.size _ _ _ (0, 0) (heap_alloc_new w _), Nat.zero_add]
  simp [hu]
set_option maxHeartbeats 4000000 in
theorem c_takeParts {w : World} {ao : Option Addr} {L : List ByteArray} {nm wh kd : ByteArray} (B c n : Nat) (hB : 6 < B ∧ 4 < B ∧ 5 < B ∧ 1 < B) (hn : L.length = n) (hl : n ≤ 20100) (hu : ∀ u ∈ L, u.size ≤ 20000) (hne : ∀ x, ao = some x → x.block ≠ B) (hG : LnG w) (hM : MX w) (h0 : TP w w B ao L nm wh kd pt0 none 0) :
    Calls Tryz.prog 32 #[.pointer (some ⟨B, 0, none⟩), .slice ao n c] w fun e w' => ∃ r ta tc, e = .returned (.bool (more 0 pt0 L).isSome) ∧ (∀ r', more 0 pt0 L = some r' → r' = r) ∧ TP w w' B ao L nm wh kd r ta tc ∧ (∀ u ∈ r.tg, u.size ≤ 20000) ∧ r.tg.length ≤ 20001 ∧ r.rt.size ≤ 20000 := by
  go_enter Tryz.func32, Tryz.ntmps32
  have HN := hide hn
  have HU := hide hu
  have HG := hide hG
  have HM := hide hM
  have H0 := hide h0
  clear hn hu hG hM h0
  go_wp2
  go_step3
  go_wp2
  go_step3
  go_wp2
  go_loopw [5, 6, 12] (fun ri la i wr => ∃ (k a : Nat) (r : Pt) (ta : Option Addr) (tc : Nat), k ≤ n ∧ a ≤ 3 ∧ i = .int .i64 k ∧ ri = .bool true ∧ la = .int .i64 ((a : Int) - 1) ∧ Hid (more 0 pt0 L = more a r (L.drop k)) ∧ Hid (TP w wr B ao L nm wh kd r ta tc) ∧ Hid ((∀ u ∈ r.tg, u.size ≤ 20000) ∧ r.tg.length ≤ 20001 ∧ r.rt.size ≤ 20000)) (fun ri la i wr => n - (intOf i).toNat)
  case atStart => exact ⟨0, 0, pt0, none, 0, Nat.zero_le _, by omega, rfl, rfl, rfl, rfl, H0.out, ⟨(fun u hu => by cases hu), (by show 0 ≤ 20001; omega), (by show 0 ≤ 20000; omega)⟩⟩
  case round =>
    clear H0
    obtain ⟨k, a, r, ta, tc, hk, ha, rfl, rfl, rfl, HI, HT, HS⟩ := hrel
    by_cases hkn : k < n
    · obtain ⟨b, off, e, hcell⟩ := HT.out.parts (by have := HN.out; omega)
      obtain ⟨y, hy⟩ : ∃ y, L[k]? = some y := ⟨L[k]'(by have := HN.out; omega), List.getElem?_eq_getElem _⟩
      subst e
      have hc0 := hcell k y hy
      have HY := hide (drop_at hy)
      have hys := HU.out y (List.mem_of_getElem? hy)
      clear hcell hy
      have hbt := get_bt y
      have hmb := markN_bd y
      by_cases hm : markN y ≤ a
      · have HE : Hid (more 0 pt0 L = none) := (by rw [HI.out, HY.out, more_no hm] : more 0 pt0 L = none)
        have hmi : (markN y : Int) - 1 ≤ (a : Int) - 1 := by omega
        go_wp2_with (go_at_call 47; refine (c_markPlace y (by omega) _).mono ?_; rintro e w1 ⟨rfl, hw⟩; obtain rfl := hw.symm)
        try rw [Exit.noGoto_ret]
        go_ret
        exact ⟨r, ta, tc, by rw [HE.out]; rfl, (fun r' h => by rw [HE.out] at h; cases h), HT.out, HS.out⟩
      · have hmi : ¬ (markN y : Int) - 1 ≤ (a : Int) - 1 := by omega
        obtain ⟨hy0, g1, g2, g3⟩ := mark_is (y := y) rfl (by omega)
        have hy0i : (0 : Int) < (y.size : Int) := by omega
        have hc3 : wr.cell? ⟨B, 3, none⟩ = some (.bool r.rd) := by rw [cell_of_row wr B 3 _ _ (0, 0) HT.out.box]; rfl
        have hc4 : wr.cell? ⟨B, 4, none⟩ = some (.string r.rt) := by rw [cell_of_row wr B 4 _ _ (0, 0) HT.out.box]; rfl
        have hc5 : wr.cell? ⟨B, 5, none⟩ = some (.slice ta r.tg.length tc) := by rw [cell_of_row wr B 5 _ _ (0, 0) HT.out.box]; rfl
        have hc6 : wr.cell? ⟨B, 6, none⟩ = some (.bool r.td) := by rw [cell_of_row wr B 6 _ _ (0, 0) HT.out.box]; rfl
        have hc7 : wr.cell? ⟨B, 7, none⟩ = some (.int .i64 r.ti) := by rw [cell_of_row wr B 7 _ _ (0, 0) HT.out.box]; rfl
        have hf3 := frozen_of_row wr B 3 _ _ HT.out.box
        have hf4 := frozen_of_row wr B 4 _ _ HT.out.box
        have hf5 := frozen_of_row wr B 5 _ _ HT.out.box
        have hf6 := frozen_of_row wr B 6 _ _ HT.out.box
        have hf7 := frozen_of_row wr B 7 _ _ HT.out.box
        have htz := tl1_size y
        have hml : markN y = 1 ∨ markN y = 2 ∨ markN y = 3 := by omega
        rcases hml with h1 | h2 | h3
        · have hb0 := g1 h1
          clear g1 g2 g3 hc5 hc6 hc7 hf5 hf6 hf7
          have HX : Hid (more 0 pt0 L = more 1 { r with rd := true, rt := tl1 y } (L.drop (k + 1))) := (by rw [HI.out, HY.out, more_step hm (step1 h1), h1] : more 0 pt0 L = more 1 { r with rd := true, rt := tl1 y } (L.drop (k + 1)))
          rw [h1] at hmi
          go_wp2_with (go_at_call 47; refine (c_markPlace y (by omega) _).mono ?_; rw [h1]; rintro e w1 ⟨rfl, hw⟩; obtain rfl := hw.symm)
          go_region
          go_wp2
          go_roundw
          case rel => exact ⟨k + 1, 1, _, ta, tc, by omega, by omega, by go_num, rfl, rfl, HX.out, (HT.out.set1 hne (tl1 y)).drew, HS.out.1, HS.out.2.1, (by show (tl1 y).size ≤ 20000; omega)⟩
          case measure => simp [intOf]; omega
        · have hb0 := g2 h2
          clear g1 g2 g3 hc3 hc4 hc6 hc7 hf3 hf4 hf6 hf7
          have HX : Hid (more 0 pt0 L = more 2 { r with tg := splL (tl1 y) 44 } (L.drop (k + 1))) := (by rw [HI.out, HY.out, more_step hm (step2 h2), h2] : more 0 pt0 L = more 2 { r with tg := splL (tl1 y) 44 } (L.drop (k + 1)))
          have HSp := hide (c_SplitL (tl1 y) 44 (by omega) _ (HM.out.below HT.out.bel hB))
          have HZ := hide (splL_size (tl1 y))
          rw [h2] at hmi
          go_wp2_with (first
            | (go_at_call 47; refine (c_markPlace y (by omega) _).mono ?_; rw [h2]; rintro e w1 ⟨rfl, hw⟩; obtain rfl := hw.symm)
            | (go_at_call 33; refine HSp.out.mono ?_; rintro e w2 ⟨g, tc2, rfl, hg, hS, hb2⟩; have HS2 := hide hS; have HB2 := hide hb2; have hd5 := cell_past hb2 hc5; have hf5' := (frozen_past hb2 hc5).trans hf5; clear hS hb2 hc5 hf5))
          go_roundw
          case rel => exact ⟨k + 1, 2, _, _, tc2, by omega, by omega, by go_num, rfl, rfl, HX.out, (HT.out.past HB2.out).set2 hne rfl (some ⟨g, 0, none⟩) tc2 HS2.out (fun x e => by cases e; have := HT.out.lt; show B < g; omega), ⟨fun u hu => by have := HZ.out.1 u hu; omega, (by have := HZ.out.2; show (splL (tl1 y) 44).length ≤ 20001; omega), HS.out.2.2⟩⟩
          case measure => simp [intOf]; omega
        · have hb0 := g3 h3
          clear g1 g2 g3 hc3 hc4 hc5 hf3 hf4 hf5
          have HRT := hide (c_readTime (tl1 y) (by omega) wr (HG.out.below HT.out.bel hB))
          rw [h3] at hmi
          cases ht : timO (tl1 y) with
          | none =>
            have HE : Hid (more 0 pt0 L = none) := (by rw [HI.out, HY.out, more_ill (by rw [step3 h3, ht]; rfl)] : more 0 pt0 L = none)
            have HR2 := HRT.out
            rw [ht] at HR2
            have HR3 := hide HR2
            clear HRT HR2
            go_wp2_with (first
              | (go_at_call 47; refine (c_markPlace y (by omega) _).mono ?_; rw [h3]; rintro e w1 ⟨rfl, hw⟩; obtain rfl := hw.symm)
              | (go_at_call 48; refine HR3.out.mono ?_; rintro e w2 ⟨rfl, hb2⟩; have HB2 := hide hb2; have hd7 := cell_past hb2 hc7; have hf7' := (frozen_past hb2 hc7).trans hf7; have hd6 := cell_past hb2 hc6; have hf6' := (frozen_past hb2 hc6).trans hf6; clear hb2 hc7 hf7 hc6 hf6))
            try rw [Exit.noGoto_ret]
            go_ret
            exact ⟨_, ta, tc, by rw [HE.out]; rfl, (fun r' h => by rw [HE.out] at h; cases h), (HT.out.past HB2.out).set3 hne 0 false, HS.out⟩
          | some m =>
            have HX : Hid (more 0 pt0 L = more 3 { r with td := true, ti := m } (L.drop (k + 1))) := (by rw [HI.out, HY.out, more_step hm (by rw [step3 h3, ht]; rfl), h3] : more 0 pt0 L = more 3 { r with td := true, ti := m } (L.drop (k + 1)))
            have HR2 := HRT.out
            rw [ht] at HR2
            have HR3 := hide HR2
            clear HRT HR2
            go_wp2_with (first
              | (go_at_call 47; refine (c_markPlace y (by omega) _).mono ?_; rw [h3]; rintro e w1 ⟨rfl, hw⟩; obtain rfl := hw.symm)
              | (go_at_call 48; refine HR3.out.mono ?_; rintro e w2 ⟨rfl, hb2⟩; have HB2 := hide hb2; have hd7 := cell_past hb2 hc7; have hf7' := (frozen_past hb2 hc7).trans hf7; have hd6 := cell_past hb2 hc6; have hf6' := (frozen_past hb2 hc6).trans hf6; clear hb2 hc7 hf7 hc6 hf6))
            go_roundw
            case rel => exact ⟨k + 1, 3, _, ta, tc, by omega, by omega, by go_num, rfl, rfl, HX.out, (HT.out.past HB2.out).set3 hne m true, HS.out⟩
            case measure => simp [intOf]; omega
    · have HE : Hid (more 0 pt0 L = some r) := (by rw [HI.out, List.drop_eq_nil_of_le (by have := HN.out; omega)]; unfold more; rfl : more 0 pt0 L = some r)
      go_wp2
      try rw [Exit.noGoto_ret]
      go_ret
      exact ⟨r, ta, tc, by rw [HE.out]; rfl, (fun r' h => by rw [HE.out] at h; cases h; rfl), HT.out, HS.out⟩
end Go.Proofs.YtljngkjhhkccgaaGreatDoor
