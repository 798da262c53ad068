/-
  Weak contracts of the draws: bytes; members; what is drawn for OwnerOf; a number out of a code.
-/
import Derived.Test.YtkccgjeanehaiaaDoorDrawC
import Derived.Test.YtkccgjeanehaiaaDoorStrsC
import Derived.Test.YtkccgjeanehaiaaDoorRingP
namespace Go.Proofs.YtkccgjeanehaiaaDoor
set_option linter.unusedVariables false
set_option linter.unusedSimpArgs false
open Go.ChangeShapes Go.WideShapes Go.ChangeAt Go.RowKit Go.PlainAid

/-- A change that leaves all blocks below K alone leaves the source alone. -/
theorem src_far {W w w' : World} {B ln cap s K : Nat} {ao : Option Addr} (h : Src W B ao ln cap s w) (hb : Below K w w') (hs : s < K) : Src W B ao ln cap s w' := by
  obtain ⟨a, m, z, hk, h1, h2⟩ := h.blk
  exact ⟨h.bel.trans (hb.mono (Nat.le_trans h.hB (Nat.le_of_lt hs))), h.hB, a, m, z, by rw [hb.block s hs]; exact hk, h1, h2⟩
theorem grown_far {w w1 w2 : World} {r : Option Nat} (h : w.grownBy w1 r) (hb : Below w.heap.size w1 w2) : w.grownBy w2 r :=
  ⟨hb.os.trans h.os, hb.tape.trans h.tape, hb.output.trans h.output, Nat.le_trans h.size hb.size, fun k hk hne => by rw [hb.block k hk]; exact h.block k hk hne⟩

theorem infoB : (Tryd.prog.info? 5).map (fun i => (i.zero, i.size, i.bytes)) = some (some (.int .u8 0), 1, 1) := by kernel_rfl
theorem own_sameN {B : Nat} {w : World} {v : Value} {T : TypeId} {z n n' : Nat} {xs xs' : List Value} (h : w.ownsRow B T z v n xs) (e : n = n') (e2 : xs = xs') : w.ownsRow B T z v n' xs' := by subst e e2; exact h

set_option maxRecDepth 10000 in
set_option maxHeartbeats 1000000 in
theorem c_bytes {W w : World} {B ln cap s : Nat} {ao : Option Addr} (hc : CodeAt W B ao ln) (h : Src W B ao ln cap s w) (n : Nat) (hn : n ≤ 1000) :
    Calls Tryd.prog 23 #[.pointer (some ⟨s, 0, none⟩), .int .i64 n] w fun e w' => ∃ u, e = .returned (.string u) ∧ u.size = n ∧ Src W B ao ln cap s w' ∧ w.grownBy w' (some s) := by
  obtain ⟨i0, hi, hz0, hz1, hz2⟩ := info_parts infoB
  have hs := src_lt h
  have HS := hide h
  clear h
  go_enter Tryd.func23, Tryd.ntmps23
  go_wp2
  go_loopw [5, 6] (fun v i wr => ∃ (k g c : Nat) (ys : List Int), k ≤ n ∧ i = .int .i64 k ∧ v = .slice (some ⟨g, 0, none⟩) k c ∧ ys.length = k ∧ wr.ownsRow w.heap.size 5 1 (.slice (some ⟨g, 0, none⟩) k c) k (ys.map (Value.int .u8)) ∧ Src W B ao ln cap s wr ∧ w.grownBy wr (some s)) (fun v i wr => n - (intOf i).toNat)
  case atStart => exact ⟨0, w.heap.size, 0, [], Nat.zero_le _, rfl, rfl, rfl, World.ownsRow_made w #[] 0 (Nat.le_refl _) (Nat.zero_le _) rfl, src_past HS.out ((Below.refl _ _).alloc (Nat.le_refl _) _), World.grownBy_alloc _ _ _⟩
  case round =>
    obtain ⟨k, g, c, ys, hk, rfl, rfl, hyl, hown, hsr, hgr⟩ := hrel
    have HO := hide hown
    have HR := hide hsr
    have HG := hide hgr
    have HY := hide hyl
    have hgb := (hown.lt g rfl).1
    have hzz := hgr.size
    by_cases hkn : k < n
    · clear hown hsr hgr hyl
      go_wp2_with (first
        | (go_at_call 24; refine (c_n hc HR.out _ (by omega)).mono ?_; rintro e w2 ⟨v, rfl, v0, v1, _, hS2, hg2⟩; have HO2 := hide (HO.out.kept hg2 (.inr (by simp [Value.ownBlock]; omega))); have HR2 := hide hS2; have HG2 := hide (HG.out.trans hg2); have hz2' := hg2.size; clear hS2 hg2 v1)
        | (at_builtin; refine wpList_append_own _ rfl _ _ 22 rfl w.heap.size 5 i0 (.int .u8 0) 1 1 Tryd.underlying22 hi hz0 hz1 hz2 rfl (by decide) _ _ _ rfl (HO2.out.alloc _) ⟨w2.heap.size, 0, none⟩ 1 1 [.int .u8 (IntKind.u8.wrap v)] rfl rfl (new_cells (cs := #[.int .u8 (IntKind.u8.wrap v)]) rfl) (fun u hu => by simp at hu; subst hu; rfl) (by unfold maxLen; omega) (by omega) (by simp; omega) ?_; intro v' w3 hown3 hgrow3 hnil3; have hb3 := (((Below.refl w.heap.size w2).alloc (by omega) _).grown hgrow3 (by simp; omega) (fun j hj => by cases hj; omega)); have HO3 := hide hown3; have HB3 := hide hb3; clear hown3 hgrow3 hnil3 hb3))
      obtain ⟨g3, c3, e3⟩ := own_form HO3.out (by omega)
      subst e3
      go_roundw
      case rel => exact ⟨k + 1, g3, c3, ys ++ [IntKind.u8.wrap v], by omega, by go_num, rfl, by have := HY.out; simp [this], own_sameN HO3.out rfl (by simp), src_far HR2.out HB3.out hs, grown_far HG2.out HB3.out⟩
      case measure => simp [intOf]; omega
    · have e : k = n := by omega
      have kc := run_convert_bytes_arg (P := Tryd.prog) wr 22 5 Tryd.underlying22 Tryd.underlying5 g 0 k c ys hyl (fun i hi => by
        rw [Nat.zero_add, hown.cellAt i (by omega)]
        rw [List.getElem?_map, List.getElem?_eq_getElem (by omega)]
        simp [List.getD, List.getElem?_eq_getElem (show i < ys.length by omega)]) 9 Tryd.underlying9
      have HE : Hid ((strOfNums ys).size = n) := (by rw [strOfNums_size]; omega : (strOfNums ys).size = n)
      clear hown hsr hgr hyl e
      go_wp2
      go_ret
      exact ⟨strOfNums ys, rfl, HE.out, HR.out, HG.out⟩

/-- The members drawn so far. -/
structure Mem (W : World) (B : Nat) (ao : Option Addr) (ln cap s : Nat) (w wr : World) (v : Value) (L : List ByteArray) : Prop where
  own : wr.ownsRow w.heap.size 9 1 v L.length (L.map Value.string)
  sz : ∀ u ∈ L, u.size ≤ 10
  src : Src W B ao ln cap s wr
  gr : w.grownBy wr (some s)
theorem Mem.ne {W : World} {B ln cap s : Nat} {ao : Option Addr} {w wr : World} {v : Value} {L : List ByteArray} (h : Mem W B ao ln cap s w wr v L) (hs : s < w.heap.size) : v.ownBlock = none ∨ v.ownBlock ≠ some s := by
  cases e : v.ownBlock with
  | none => exact .inl rfl
  | some k =>
    right
    have := (h.own.lt k e).1
    intro q; cases q; omega
theorem Mem.call {W : World} {B ln cap s : Nat} {ao : Option Addr} {w wr w2 : World} {v : Value} {L : List ByteArray} (h : Mem W B ao ln cap s w wr v L) (hs : s < w.heap.size) (hS : Src W B ao ln cap s w2) (hg : wr.grownBy w2 (some s)) : Mem W B ao ln cap s w w2 v L :=
  ⟨h.own.kept hg (h.ne hs), h.sz, hS, h.gr.trans hg⟩
theorem Mem.put {W : World} {B ln cap s : Nat} {ao : Option Addr} {w wr w2 : World} {v v' : Value} {L : List ByteArray} {u : ByteArray} (h : Mem W B ao ln cap s w wr v L) (hs : s < w.heap.size) (hu : u.size ≤ 10)
    (ho : w2.ownsRow w.heap.size 9 1 v' (L.length + 1) (L.map Value.string ++ [.string u])) (hb : Below w.heap.size wr w2) : Mem W B ao ln cap s w w2 v' (L ++ [u]) :=
  ⟨own_sameN ho (by simp) (by simp), fun x hx => by rcases List.mem_append.1 hx with h1 | h1; exact h.sz x h1; simp at h1; subst h1; exact hu, src_far h.src hb hs, grown_far h.gr hb⟩

theorem strs_first {w : World} {B g c n : Nat} {L : List ByteArray} {u : ByteArray} (h : w.ownsRow B 9 1 (.slice (some ⟨g, 0, none⟩) n c) n (L.map Value.string)) (hu : L[0]? = some u) : w.cell? ⟨g, 0, none⟩ = some (.string u) := by
  have hl := (List.getElem?_eq_some_iff.1 hu).1
  have hn := h.1
  rw [List.length_map] at hn
  rw [h.cellAt 0 (by omega)]; simp [hu]

set_option maxRecDepth 10000 in
set_option maxHeartbeats 4000000 in
theorem c_l02Members {W w : World} {B ln cap s : Nat} {ao : Option Addr} (hc : CodeAt W B ao ln) (h : Src W B ao ln cap s w) :
    Calls Tryd.prog 22 #[.pointer (some ⟨s, 0, none⟩)] w fun e w' => ∃ v L, e = .returned v ∧ L.length ≤ 14 ∧ Mem W B ao ln cap s w w' v L := by
  obtain ⟨i0, hi, hz0, hz1, hz2⟩ := info_parts infoStr
  have hs := src_lt h
  have HS := hide h
  clear h
  go_enter Tryd.func22, Tryd.ntmps22
  go_wp2
  go_loopw [3, 4] (fun v i wr => ∃ (k : Nat) (L : List ByteArray), k ≤ 6 ∧ i = .int .i64 k ∧ L.length ≤ k ∧ Mem W B ao ln cap s w wr v L) (fun v i wr => 6 - (intOf i).toNat)
  case atStart => exact ⟨0, [], Nat.zero_le _, rfl, Nat.le_refl _, ⟨World.ownsRow_made w #[] 0 (Nat.le_refl _) (Nat.zero_le _) rfl, fun u hu => by simp at hu, src_past HS.out ((Below.refl _ _).alloc (Nat.le_refl _) _), World.grownBy_alloc _ _ _⟩⟩
  case round =>
    obtain ⟨k, L, hk, rfl, hLk, hM⟩ := hrel
    have HM := hide hM
    have hzz := hM.gr.size
    clear hM
    by_cases hk6 : k < 6
    · go_wp2_with (first
        | (go_at_call 34; refine (c_one hc HM.out.src _ (by omega)).mono ?_; rintro e w2 ⟨bb, rfl, hS2, hg2⟩; have HM2 := hide (HM.out.call hs hS2 hg2); have hz2' := hg2.size; obtain ⟨u, hu, huz⟩ := lit_strs (w := w2) (m := 10) (t := 9) (cs := #[.string ⟨#[97]⟩, .string ⟨#[98]⟩, .string ⟨#[110, 49]⟩, .string ⟨#[110, 50]⟩, .string ⟨#[115, 104, 97, 114, 100]⟩, .string ⟨#[122]⟩]) (by decide) k (by simpa using hk6); clear hS2 hg2)
        | (at_builtin; refine wpList_append_own _ rfl (.tmp 13) (.tmp 18) 23 rfl w.heap.size 9 i0 (.string ByteArray.empty) 1 16 Tryd.underlying23 hi hz0 hz1 hz2 rfl (by decide) _ _ _ rfl ((HM2.out.own.alloc _).alloc _) ⟨w2.heap.size + 1, 0, none⟩ 1 1 [.string u] rfl rfl (new_cells (cs := #[.string u]) (by simp)) (fun x hx => by simp at hx; subst hx; rfl) (by unfold maxLen; omega) (by omega) (by simp; omega) ?_; intro v3 w3 ho3 hg3 hn3; have HM3 := hide (HM2.out.put hs huz ho3 ((((Below.refl w.heap.size w2).alloc (by omega) _).alloc (by simp; omega) _).grown hg3 (by simp; omega) (fun j hj => (HM2.out.own.lt j hj).1))); have hn3 := hide hn3; clear ho3 hg3))
      · go_roundw
        case rel => exact ⟨k + 1, L ++ [u], by omega, by go_num, by simp; omega, HM3.out⟩
        case measure => simp [intOf]; omega
      · go_roundw
        case rel => exact ⟨k + 1, L, by omega, by go_num, by omega, HM2.out⟩
        case measure => simp [intOf]; omega
    · obtain ⟨lo, lc, hv⟩ := own_any HM.out.own
      subst hv
      go_wp2_with (first
        | (at_builtin; refine wpList_append_own _ rfl (.tmp 23) (.tmp 24) 23 rfl w.heap.size 9 i0 (.string ByteArray.empty) 1 16 Tryd.underlying23 hi hz0 hz1 hz2 rfl (by decide) _ _ _ rfl (HM.out.own.alloc _) ⟨wr.heap.size, 0, none⟩ 1 1 [.string ⟨#[111, 110, 108, 121]⟩] rfl rfl (new_cells (cs := #[.string ⟨#[111, 110, 108, 121]⟩]) rfl) (fun x hx => by simp at hx; subst hx; rfl) (by unfold maxLen; omega) (by omega) (by simp; omega) ?_; intro v3 w3 ho3 hg3 hn3; have HM3 := hide (HM.out.put hs (by decide) ho3 (((Below.refl w.heap.size wr).alloc (by omega) _).grown hg3 (by simp; omega) (fun j hj => (HM.out.own.lt j hj).1))); clear ho3 hg3 hn3))
      · obtain ⟨g4, c4, e4⟩ := own_form HM3.out.own (by simp)
        obtain ⟨L4, hL4⟩ : ∃ L4, L4 = L ++ [(⟨#[111, 110, 108, 121]⟩ : ByteArray)] := ⟨_, rfl⟩
        rw [← hL4] at e4 HM3
        subst e4
        have hl1 : 1 ≤ L4.length := by rw [hL4]; simp
        have hl7 : L4.length ≤ 7 := by rw [hL4]; simp; omega
        have hz4 := HM3.out.gr.size
        clear hL4 hzz
        obtain ⟨u0, hu0⟩ : ∃ u0, L4[0]? = some u0 := ⟨_, List.getElem?_eq_getElem (by omega)⟩
        have HU0 := hide hu0
        clear hu0
        go_wp2_with (first
          | (go_at_call 34; refine (c_one hc HM3.out.src _ (by omega)).mono ?_; rintro e w5 ⟨bb, rfl, hS5, hg5⟩; have HM5 := hide (HM3.out.call hs hS5 hg5); have hz5 := hg5.size; clear hS5 hg5)
          | (go_at_call 24; refine (c_n hc HM5.out.src _ (by omega)).mono ?_; rintro e w6 ⟨nv, rfl, n0, n1, _, hS6, hg6⟩; have HM6 := hide (HM5.out.call hs hS6 hg6); have hz6 := hg6.size; have hc60 := strs_first HM6.out.own HU0.out; clear hS6 hg6; have n1 := n1 (by omega); have hcs : nv = 0 ∨ nv = 1 ∨ nv = 2 ∨ nv = 3 := (by omega); clear n0 n1; rcases hcs with rfl | rfl | rfl | rfl)
          | (at_builtin; refine wpList_append_own _ rfl (.tmp 49) (.tmp 53) 23 rfl w.heap.size 9 i0 (.string ByteArray.empty) 1 16 Tryd.underlying23 hi hz0 hz1 hz2 rfl (by decide) _ _ _ rfl (HM6.out.own.alloc _) ⟨w6.heap.size, 0, none⟩ 1 1 [.string u0] rfl rfl (new_cells (cs := #[.string u0]) rfl) (fun x hx => by simp at hx; subst hx; rfl) (by unfold maxLen; omega) (by omega) (by simp; omega) ?_; intro v3 w3 ho3 hg3 hn3; have HM7 := hide (HM6.out.put hs (HM6.out.sz u0 (List.mem_of_getElem? HU0.out)) ho3 (((Below.refl w.heap.size w6).alloc (by omega) _).grown hg3 (by simp; omega) (fun j hj => (HM6.out.own.lt j hj).1))); clear ho3 hg3 hn3)
          | (at_builtin; refine wpList_append_own _ rfl (.tmp 57) (.tmp 58) 23 rfl w.heap.size 9 i0 (.string ByteArray.empty) 1 16 Tryd.underlying23 hi hz0 hz1 hz2 rfl (by decide) _ _ _ rfl (HM6.out.own.alloc _) ⟨w6.heap.size, 0, none⟩ 1 1 [.string ⟨#[126]⟩] rfl rfl (new_cells (cs := #[.string ⟨#[126]⟩]) rfl) (fun x hx => by simp at hx; subst hx; rfl) (by unfold maxLen; omega) (by omega) (by simp; omega) ?_; intro v3 w3 ho3 hg3 hn3; have HM7 := hide (HM6.out.put hs (by decide) ho3 (((Below.refl w.heap.size w6).alloc (by omega) _).grown hg3 (by simp; omega) (fun j hj => (HM6.out.own.lt j hj).1))); clear ho3 hg3 hn3))
        all_goals try (go_ret; first
          | exact ⟨_, _, rfl, by simp; omega, HM7.out⟩
          | exact ⟨_, _, rfl, by omega, HM5.out⟩
          | exact ⟨.slice none 0 0, [], rfl, by simp, ⟨World.ownsRow_nil _ _ _ _, fun u hu => by simp at hu, HM6.out.src, HM6.out.gr⟩⟩)
        go_loopw [3, 5] (fun v i wr => ∃ (k : Nat) (L5 : List ByteArray) (g c : Nat), i = .int .i64 k ∧ k ≤ L5.length ∧ 1 ≤ L5.length ∧ L5.length ≤ 13 ∧ v = .slice (some ⟨g, 0, none⟩) L5.length c ∧ Mem W B ao ln cap s w wr v L5) (fun v i wr => 14 - (intOf i).toNat)
        case atStart => exact ⟨0, L4, _, _, rfl, Nat.zero_le _, hl1, by omega, rfl, HM6.out⟩
        case round =>
          obtain ⟨k, L5, g5, c5, rfl, hk5, h15, h135, rfl, hM⟩ := hrel
          have HM8 := hide hM
          have hz8 := hM.gr.size
          clear hM
          obtain ⟨Y, hY⟩ : ∃ Y, strOfNums [97 + (k : Int)] = Y := ⟨_, rfl⟩
          have hYs : Y.size = 1 := by rw [← hY]; rfl
          have ew : IntKind.u8.wrap (97 + (k : Int)) = 97 + (k : Int) := IntWalk.u8_in _ ⟨by omega, by omega⟩
          have hadd : Op.stringOp .add ⟨#[122, 122]⟩ Y = pure (.string ((⟨#[122, 122]⟩ : ByteArray) ++ Y)) := str_add (by rw [hYs]; decide)
          have hZ : ((⟨#[122, 122]⟩ : ByteArray) ++ Y).size ≤ 10 := by rw [ByteArray.size_append, hYs]; decide
          have kc1 := fun W => one_byte W (97 + (k : Int))
          simp only [hY] at kc1
          have HZ := hide hZ
          clear hY hZ hYs
          go_wp2_with (first
            | (go_at_call 24; refine (c_n hc HM8.out.src _ (by omega)).mono ?_; rintro e w9 ⟨nv9, rfl, m0, m1, _, hS9, hg9⟩; have m1 := m1 (by omega); have HM9 := hide (HM8.out.call hs hS9 hg9); have hz9 := hg9.size; clear hS9 hg9)
            | (at_builtin; refine wpList_append_own _ rfl (.tmp 38) (.tmp 45) 23 rfl w.heap.size 9 i0 (.string ByteArray.empty) 1 16 Tryd.underlying23 hi hz0 hz1 hz2 rfl (by decide) _ _ _ rfl ((HM9.out.own.alloc _).alloc _) ⟨w9.heap.size + 1, 0, none⟩ 1 1 [.string (⟨#[122, 122]⟩ ++ Y)] rfl rfl (new_cells (cs := #[.string (⟨#[122, 122]⟩ ++ Y)]) (by simp)) (fun x hx => by simp at hx; subst hx; rfl) (by unfold maxLen; omega) (by omega) (by simp; omega) ?_; intro v3 w3 ho3 hg3 hn3; have HM10 := hide (HM9.out.put hs HZ.out ho3 ((((Below.refl w.heap.size w9).alloc (by omega) _).alloc (by simp; omega) _).grown hg3 (by simp; omega) (fun j hj => (HM9.out.own.lt j hj).1))); clear ho3 hg3 hn3))
          · obtain ⟨g7, c7, e7⟩ := own_form HM10.out.own (by simp)
            subst e7
            have hlt : (L5.length : Int) < 11 + nv9 := by assumption
            go_roundw
            case rel => exact ⟨k + 1, L5 ++ [(⟨#[122, 122]⟩ : ByteArray) ++ Y], g7, c7, by go_num, by simp; omega, by simp, by simp; omega, rfl, HM10.out⟩
            case measure => simp [intOf]; omega
          · go_ret
            exact ⟨_, _, rfl, by omega, HM9.out⟩
      · have hne0 : ((L.length : Int) == 0) = false := by assumption
        have hl1 : 1 ≤ L.length := by have := beq_eq_false_iff_ne.1 hne0; omega
        obtain ⟨g4, c4, e4⟩ := own_form HM.out.own (by omega)
        cases e4
        obtain ⟨L4, hL4⟩ : ∃ L4, L4 = L := ⟨_, rfl⟩
        rw [← hL4] at HM hl1
        have hl7 : L4.length ≤ 7 := by rw [hL4]; omega
        have hz4 := HM.out.gr.size
        rw [← hL4]
        clear hL4 hzz hne0
        obtain ⟨u0, hu0⟩ : ∃ u0, L4[0]? = some u0 := ⟨_, List.getElem?_eq_getElem (by omega)⟩
        have HU0 := hide hu0
        clear hu0
        go_wp2_with (first
          | (go_at_call 34; refine (c_one hc HM.out.src _ (by omega)).mono ?_; rintro e w5 ⟨bb, rfl, hS5, hg5⟩; have HM5 := hide (HM.out.call hs hS5 hg5); have hz5 := hg5.size; clear hS5 hg5)
          | (go_at_call 24; refine (c_n hc HM5.out.src _ (by omega)).mono ?_; rintro e w6 ⟨nv, rfl, n0, n1, _, hS6, hg6⟩; have HM6 := hide (HM5.out.call hs hS6 hg6); have hz6 := hg6.size; have hc60 := strs_first HM6.out.own HU0.out; clear hS6 hg6; have n1 := n1 (by omega); have hcs : nv = 0 ∨ nv = 1 ∨ nv = 2 ∨ nv = 3 := (by omega); clear n0 n1; rcases hcs with rfl | rfl | rfl | rfl)
          | (at_builtin; refine wpList_append_own _ rfl (.tmp 49) (.tmp 53) 23 rfl w.heap.size 9 i0 (.string ByteArray.empty) 1 16 Tryd.underlying23 hi hz0 hz1 hz2 rfl (by decide) _ _ _ rfl (HM6.out.own.alloc _) ⟨w6.heap.size, 0, none⟩ 1 1 [.string u0] rfl rfl (new_cells (cs := #[.string u0]) rfl) (fun x hx => by simp at hx; subst hx; rfl) (by unfold maxLen; omega) (by omega) (by simp; omega) ?_; intro v3 w3 ho3 hg3 hn3; have HM7 := hide (HM6.out.put hs (HM6.out.sz u0 (List.mem_of_getElem? HU0.out)) ho3 (((Below.refl w.heap.size w6).alloc (by omega) _).grown hg3 (by simp; omega) (fun j hj => (HM6.out.own.lt j hj).1))); clear ho3 hg3 hn3)
          | (at_builtin; refine wpList_append_own _ rfl (.tmp 57) (.tmp 58) 23 rfl w.heap.size 9 i0 (.string ByteArray.empty) 1 16 Tryd.underlying23 hi hz0 hz1 hz2 rfl (by decide) _ _ _ rfl (HM6.out.own.alloc _) ⟨w6.heap.size, 0, none⟩ 1 1 [.string ⟨#[126]⟩] rfl rfl (new_cells (cs := #[.string ⟨#[126]⟩]) rfl) (fun x hx => by simp at hx; subst hx; rfl) (by unfold maxLen; omega) (by omega) (by simp; omega) ?_; intro v3 w3 ho3 hg3 hn3; have HM7 := hide (HM6.out.put hs (by decide) ho3 (((Below.refl w.heap.size w6).alloc (by omega) _).grown hg3 (by simp; omega) (fun j hj => (HM6.out.own.lt j hj).1))); clear ho3 hg3 hn3))
        all_goals try (go_ret; first
          | exact ⟨_, _, rfl, by simp; omega, HM7.out⟩
          | exact ⟨_, _, rfl, by omega, HM5.out⟩
          | exact ⟨.slice none 0 0, [], rfl, by simp, ⟨World.ownsRow_nil _ _ _ _, fun u hu => by simp at hu, HM6.out.src, HM6.out.gr⟩⟩)
        go_loopw [3, 5] (fun v i wr => ∃ (k : Nat) (L5 : List ByteArray) (g c : Nat), i = .int .i64 k ∧ k ≤ L5.length ∧ 1 ≤ L5.length ∧ L5.length ≤ 13 ∧ v = .slice (some ⟨g, 0, none⟩) L5.length c ∧ Mem W B ao ln cap s w wr v L5) (fun v i wr => 14 - (intOf i).toNat)
        case atStart => exact ⟨0, L4, _, _, rfl, Nat.zero_le _, hl1, by omega, rfl, HM6.out⟩
        case round =>
          obtain ⟨k, L5, g5, c5, rfl, hk5, h15, h135, rfl, hM⟩ := hrel
          have HM8 := hide hM
          have hz8 := hM.gr.size
          clear hM
          obtain ⟨Y, hY⟩ : ∃ Y, strOfNums [97 + (k : Int)] = Y := ⟨_, rfl⟩
          have hYs : Y.size = 1 := by rw [← hY]; rfl
          have ew : IntKind.u8.wrap (97 + (k : Int)) = 97 + (k : Int) := IntWalk.u8_in _ ⟨by omega, by omega⟩
          have hadd : Op.stringOp .add ⟨#[122, 122]⟩ Y = pure (.string ((⟨#[122, 122]⟩ : ByteArray) ++ Y)) := str_add (by rw [hYs]; decide)
          have hZ : ((⟨#[122, 122]⟩ : ByteArray) ++ Y).size ≤ 10 := by rw [ByteArray.size_append, hYs]; decide
          have kc1 := fun W => one_byte W (97 + (k : Int))
          simp only [hY] at kc1
          have HZ := hide hZ
          clear hY hZ hYs
          go_wp2_with (first
            | (go_at_call 24; refine (c_n hc HM8.out.src _ (by omega)).mono ?_; rintro e w9 ⟨nv9, rfl, m0, m1, _, hS9, hg9⟩; have m1 := m1 (by omega); have HM9 := hide (HM8.out.call hs hS9 hg9); have hz9 := hg9.size; clear hS9 hg9)
            | (at_builtin; refine wpList_append_own _ rfl (.tmp 38) (.tmp 45) 23 rfl w.heap.size 9 i0 (.string ByteArray.empty) 1 16 Tryd.underlying23 hi hz0 hz1 hz2 rfl (by decide) _ _ _ rfl ((HM9.out.own.alloc _).alloc _) ⟨w9.heap.size + 1, 0, none⟩ 1 1 [.string (⟨#[122, 122]⟩ ++ Y)] rfl rfl (new_cells (cs := #[.string (⟨#[122, 122]⟩ ++ Y)]) (by simp)) (fun x hx => by simp at hx; subst hx; rfl) (by unfold maxLen; omega) (by omega) (by simp; omega) ?_; intro v3 w3 ho3 hg3 hn3; have HM10 := hide (HM9.out.put hs HZ.out ho3 ((((Below.refl w.heap.size w9).alloc (by omega) _).alloc (by simp; omega) _).grown hg3 (by simp; omega) (fun j hj => (HM9.out.own.lt j hj).1))); clear ho3 hg3 hn3))
          · obtain ⟨g7, c7, e7⟩ := own_form HM10.out.own (by simp)
            subst e7
            have hlt : (L5.length : Int) < 11 + nv9 := by assumption
            go_roundw
            case rel => exact ⟨k + 1, L5 ++ [(⟨#[122, 122]⟩ : ByteArray) ++ Y], g7, c7, by go_num, by simp; omega, by simp, by simp; omega, rfl, HM10.out⟩
            case measure => simp [intOf]; omega
          · go_ret
            exact ⟨_, _, rfl, by omega, HM9.out⟩
end Go.Proofs.YtkccgjeanehaiaaDoor
