/-
  The contract of impl.RingOf.
-/
import Derived.Test.YtkccgjeanehaiaaDoorRingI
import Derived.Deep.Onto
namespace Go.Proofs.YtkccgjeanehaiaaDoor
set_option linter.unusedVariables false
set_option linter.unusedSimpArgs false
open Go.ChangeShapes Go.WideShapes Go.ChangeAt Go.RowKit Go.PlainAid Go.Lib Go.Shelf
open Go.Sort hiding Below

/-- What RingOf answers. -/
def RingAns (L : List ByteArray) (R : List Mk) : Prop := (membersB L = true ∧ IsRing L R) ∨ (membersB L = false ∧ R = [])
theorem ans_one {L : List ByteArray} {R R' : List Mk} (h : RingAns L R) (k : RingAns L R') : R = R' := by
  rcases h with ⟨h1, h2⟩ | ⟨h1, h2⟩ <;> rcases k with ⟨k1, k2⟩ | ⟨k1, k2⟩
  · exact ring_one h2 k2
  · rw [h1] at k1; cases k1
  · rw [h1] at k1; cases k1
  · rw [h2, k2]
theorem ans_len {L : List ByteArray} {R : List Mk} (h : RingAns L R) : R.length ≤ 96 := by
  rcases h with ⟨h1, h2⟩ | ⟨h1, rfl⟩
  · have := memb_len h1; rw [ring_len h2]; omega
  · simp
/-- The first k stand. -/
def fillR (R : List Mk) (k : Nat) : List Mk := R.take k ++ List.replicate (R.length - k) ((0, ByteArray.empty) : Mk)
theorem fillR_zero (R : List Mk) : fillR R 0 = List.replicate R.length (0, ByteArray.empty) := by simp [fillR]
theorem fillR_all (R : List Mk) : fillR R R.length = R := by simp [fillR]
theorem fillR_len (R : List Mk) (k : Nat) (hk : k ≤ R.length) : (fillR R k).length = R.length := by simp [fillR]; omega
theorem fillR_set {R : List Mk} {u : Mk} {k : Nat} (h : R[k]? = some u) : (fillR R k).set k u = fillR R (k + 1) := by
  have hk := (List.getElem?_eq_some_iff.1 h).1
  have hl : (R.take k).length = k := by simp; omega
  unfold fillR
  rw [List.set_append_right _ _ (by omega), hl, Nat.sub_self, show R.length - k = (R.length - (k + 1)) + 1 by omega, List.replicate_succ, List.set_cons_zero, List.take_add_one, h]
  simp
theorem fillR_at {R : List Mk} {k : Nat} (hk : k < R.length) : (fillR R k)[k]? = some (0, ByteArray.empty) := by
  have hl : (R.take k).length = k := by simp; omega
  unfold fillR
  rw [List.getElem?_append_right (by omega), hl, Nat.sub_self, List.getElem?_replicate, if_pos (by omega)]
theorem made_marks (n : Nat) : (madeCells (Value.agg #[.int .u64 0, .string ByteArray.empty]).cells (n * 2)).toList = fl encM (List.replicate n ((0, ByteArray.empty) : Mk)) := by
  apply List.ext_getElem?
  intro j
  by_cases hj : j < n * 2
  · have h1 := fl_at encM2 (List.replicate n ((0, ByteArray.empty) : Mk)) (j / 2) (0, ByteArray.empty) (j % 2) (by omega) (by rw [List.getElem?_replicate, if_pos (by omega)])
    rw [show j / 2 * 2 + j % 2 = j by omega] at h1
    rw [h1]
    have : j % 2 = 0 ∨ j % 2 = 1 := by omega
    rcases this with e | e <;> simp [madeCells, hj, Value.cells, encM, e]
  · rw [List.getElem?_eq_none (by simp [size_madeCells]; omega), List.getElem?_eq_none (by rw [fl_len encM2]; simp; omega)]
theorem infoM : (Tryd.prog.info? 32).map (fun i => (i.zero, i.size, i.bytes)) = some (some (.agg #[.int .u64 0, .string ByteArray.empty]), 2, 24) := by kernel_rfl

set_option maxRecDepth 10000 in
set_option maxHeartbeats 2000000 in
theorem c_i_RingOf {w : World} {ao : Option Addr} {L : List ByteArray} (cap : Nat) (hl : L.length ≤ 1048576) (hu : ∀ u ∈ L, u.size ≤ 1048576) (hA : StrsAt w ao L) :
    Calls Tryd.prog 11 #[.slice ao L.length cap] w fun e w' => ∃ v R, e = .returned v ∧ RingAns L R ∧ w'.ownsRow w.heap.size 32 2 v R.length (fl encM R) ∧ Below w.heap.size w w' := by
  cases hL : membersB L
  · have hcM := c_i_MembersRight cap hl hu hA
    rw [hL] at hcM
    have HL : Hid (membersB L = false) := hL
    clear hL hA hu
    go_enter Tryd.func11, Tryd.ntmps11
    go_wp2_with (go_at_call 10; refine hcM.mono ?_; rintro e w1 ⟨rfl, hb1⟩)
    go_ret
    exact ⟨.slice none 0 0, [], rfl, .inr ⟨HL.out, rfl⟩, World.ownsRow_nil _ _ _ _, hb1⟩
  · obtain ⟨i0, hi, hz0, hz1, hz2⟩ := info_parts infoM
    have hcM := c_i_MembersRight cap hl hu hA
    rw [hL] at hcM
    have HL : Hid (membersB L = true) := hL
    have hl12 := (memb_len hL).2
    obtain ⟨N, hN⟩ : ∃ N, L.length = N := ⟨_, rfl⟩
    have HN : Hid (L.length = N) := hN
    have hcP := fun W (h : StrsAt W ao L) => parts_loop cap hL h
    rw [hN] at hcM hl12 hcP
    rw [hN]
    clear hL hu hN hl
    go_enter Tryd.func11, Tryd.ntmps11
    go_wp2_with (go_at_call 10; refine hcM.mono ?_; rintro e w1 ⟨rfl, hb1⟩)
    go_wp2_with (first
      | (go_at_call 30; refine (hcP _ (strs_past hA hb1)).mono ?_; rintro e w2 ⟨gp, cp, d, rfl, hg, hgs, hH, hR, hin, hds, hb2⟩; have HR : Hid (IsRing L (d.toList.map (mkOfPr L))) := hR; have HH : Hid (HoldsK encP 2 w2 gp 0 d) := hH; have HI : Hid (∀ x ∈ d.toList, x.2 < N) := hin; clear hH hR hin)
      | (at_make; refine wpList_make_full _ rfl _ _ 28 rfl w2.heap.size 32 i0 (.agg #[.int .u64 0, .string ByteArray.empty]) 2 Tryd.underlying28 hi hz0 hz1 .i64 .i64 _ _ (8 * N) rfl rfl (by omega) (by omega) (by rw [hz2]; omega) (by unfold maxLen; omega) (Nat.le_refl _) ?_; intro w3 hown0 hgrow0))
    have hT2 : Below w.heap.size w w2 := chain hb1 hb2
    clear hcM hcP
    obtain ⟨R, hRd⟩ : ∃ R, R = d.toList.map (mkOfPr L) := ⟨_, rfl⟩
    rw [← hRd] at HR
    have hRl : R.length = 8 * N := by rw [hRd]; simp [hds]
    have hB0 : Below w2.heap.size w2 w3 := (Below.refl _ _).grown hgrow0 (Nat.le_refl _) (fun k e => by cases e)
    have hown1 : w3.ownsRow w2.heap.size 32 2 (.slice (some ⟨w2.heap.size, 0, none⟩) (8 * N) (8 * N)) (8 * N) (fl encM (fillR R 0)) := by
      rw [fillR_zero, hRl, ← made_marks]; exact hown0
    clear hown0 hgrow0
    go_wp2
    go_loopw [17] (fun i wr => ∃ k : Nat, k ≤ 8 * N ∧ i = .int .i64 k ∧ wr.ownsRow w2.heap.size 32 2 (.slice (some ⟨w2.heap.size, 0, none⟩) (8 * N) (8 * N)) (8 * N) (fl encM (fillR R k)) ∧ Below w2.heap.size w2 wr) (fun i wr => 8 * N - (intOf i).toNat)
    case atStart => exact ⟨0, Nat.zero_le _, rfl, hown1, hB0⟩
    case round =>
      clear hown1 hB0
      obtain ⟨k, hk, rfl, hown, hbel⟩ := hrel
      by_cases hkn : k < 8 * N
      · have hki : (k : Int) < 8 * (N : Int) := by omega
        obtain ⟨⟨at_, pl⟩, hxd⟩ : ∃ x : Int × Nat, d[k]! = x := ⟨_, rfl⟩
        have hkd : k < d.size := by omega
        have hmem : ((at_, pl) : Int × Nat) ∈ d.toList := by
          rw [← hxd, ← toList_get d k hkd]; exact List.getElem_mem _
        have hpl := HI.out _ hmem
        have hx0 : wr.cell? ⟨gp, k * 2, none⟩ = some (.int .u64 at_) := by
          have h := (HH.out.cell hkd (show 0 < 2 by omega)).1
          rw [Nat.zero_add, Nat.add_zero, hxd] at h
          exact cell_past hbel h
        have hx1 : wr.cell? ⟨gp, k * 2 + 1, none⟩ = some (.int .u64 pl) := by
          have h := (HH.out.cell hkd (show 1 < 2 by omega)).1
          rw [Nat.zero_add, hxd] at h
          exact cell_past hbel h
        obtain ⟨b, off, rfl, hcell⟩ := hA (by have := HN.out; omega)
        obtain ⟨u, hpu⟩ : ∃ u, L[pl]? = some u := ⟨L[pl]'(by have := HN.out; simp at hpl; omega), List.getElem?_eq_getElem _⟩
        have hcu := cell_past hbel (cell_past hT2 (hcell pl u hpu))
        have hRk : R[k]? = some (at_, u) := by
          rw [hRd, List.getElem?_map, List.getElem?_eq_getElem (by simpa using hkd), toList_get d k hkd, hxd]
          simp [mkOfPr, nth_some hpu]
        have ho0 : wr.cell? ⟨w2.heap.size, k * 2, none⟩ = some (.int .u64 0) := by
          rw [hown.cellAt _ (by omega)]
          have := fl_at encM2 (fillR R k) k (0, ByteArray.empty) 0 (by omega) (fillR_at (by omega))
          rw [Nat.add_zero] at this; rw [this]; rfl
        have ho1 : wr.cell? ⟨w2.heap.size, k * 2 + 1, none⟩ = some (.string ByteArray.empty) := by
          rw [hown.cellAt _ (by omega)]
          rw [fl_at encM2 (fillR R k) k (0, ByteArray.empty) 1 (by omega) (fillR_at (by omega))]; rfl
        have hf0 := hown.frozenAt (k * 2)
        have hf1 := hown.frozenAt (k * 2 + 1)
        have hlt : w2.heap.size < wr.heap.size := World.block_lt_of_cell? _ _ ho0
        have HS : Hid (((fl encM (fillR R k)).set (k * 2) (.int .u64 at_)).set (k * 2 + 1) (.string u) = fl encM (fillR R (k + 1))) := by
          rw [← fillR_set hRk]; exact fl_set encM2 _ k (at_, u) (by rw [fillR_len _ _ (by omega)]; omega) rfl
        have HO : Hid (wr.ownsRow w2.heap.size 32 2 (.slice (some ⟨w2.heap.size, 0, none⟩) (8 * N) (8 * N)) (8 * N) (fl encM (fillR R k))) := hown
        have HB : Hid (Below w2.heap.size w2 wr) := hbel
        have hplN : pl < N := hpl
        have a1 := cell_on hcu
        have a2 := cell_on ho0
        have a3 := cell_on ho1
        have a4 : ∀ o, (wr.alloc o).frozen? ⟨w2.heap.size, k * 2, none⟩ = false := fun o => by rw [frozen_past ((Below.refl _ _).alloc (Nat.le_refl _) o) ho0]; exact hf0
        have a5 : ∀ o, (wr.alloc o).frozen? ⟨w2.heap.size, k * 2 + 1, none⟩ = false := fun o => by rw [frozen_past ((Below.refl _ _).alloc (Nat.le_refl _) o) ho1]; exact hf1
        clear hown hbel hmem hpl hpu hcell hRk hxd hA
        go_wp2
        go_region
        all_goals go_wp2
        go_roundw
        case rel =>
          refine ⟨k + 1, by omega, by go_num, ?_, ?_⟩
          · rw [← HS.out]
            exact (((HO.out.stored _ _).1.stored _ _).1.alloc _).drew
          · exact (((HB.out.setCell (by exact Nat.le_refl _) _).setCell (by exact Nat.le_refl _) _).alloc (by simp; omega) _).drew
        case measure => simp [intOf]; omega
      · have e : k = 8 * N := by omega
        have hki : ¬ (k : Int) < 8 * (N : Int) := by omega
        have HO : Hid (wr.ownsRow w.heap.size 32 2 (.slice (some ⟨w2.heap.size, 0, none⟩) (8 * N) (8 * N)) R.length (fl encM R)) := by
          rw [e, ← hRl, fillR_all] at hown
          rw [← hRl]; exact hown.mono hT2.size
        have HB : Hid (Below w.heap.size w wr) := chain hT2 hbel
        clear hown hbel hA e
        go_wp2
        go_ret
        exact ⟨_, rfl, R, .inl ⟨HL.out, HR.out⟩, HO.out, HB.out⟩
end Go.Proofs.YtkccgjeanehaiaaDoor
