/-
  The walk of the law FnWide.
-/
import Derived.Test.YtohjpaokjhifoaaDoorMathX
import Derived.Test.YtohjpaokjhifoaaDoorDrawW
import Derived.Test.YtohjpaokjhifoaaDoorWTextI
import Derived.Deep.RegionHeld3
namespace Go.Proofs.YtohjpaokjhifoaaDoor
set_option linter.unusedVariables false
set_option linter.unusedSimpArgs false
open Go.ChangeShapes Go.WideShapes Go.ChangeAt Go.RowKit Go.PlainAid

theorem codeAt_later {w w' : World} {B B' : Nat} {ao : Option Addr} {ln : Nat} (h : CodeAt w B ao ln) (hb : Below B w w') (hB : B ≤ B') : CodeAt w' B' ao ln := by
  refine ⟨h.1, fun h0 => ?_⟩
  obtain ⟨b, off, e, hl, hc⟩ := h.2 h0
  exact ⟨b, off, e, by omega, fun i hi => by obtain ⟨x, hx⟩ := hc i hi; exact ⟨x, by rw [hb.cell (by exact hl)]; exact hx⟩⟩

/-- In a region whose order is open: an operation that no other one disturbs is taken first, S being kept; its slot is d. -/
theorem take_S {P : Program} {md : Region.Mode} {ops : Array Oper} {Q : Exit → Act → World → Prop} {S : World → Prop} {i d : Nat} {oi : Oper} {v : Value} {fuel : Nat} {listed : Array Bool} {t : Array Value} {df : List Deferred} {w : World}
    (hi : ops[i]? = some oi) (hd : oi.dst = some d) (hs : Region.noSelect ops = true) (hf : Region.free md ops listed i = true) (hr : (Region.ready md ops listed).contains i = true)
    (hQ : ∀ c a w, Q (.panic c) (a.put oi.dst v) w → Q (.panic c) a w) (hy : YieldsIf P ops S oi v ⟨t, df⟩) (hSw : S w)
    (h : wpAnyH P md ops Q S fuel (listed.setIfInBounds i true) ⟨t.setIfInBounds d v, df⟩ w) : wpAnyH P md ops Q S (fuel + 1) listed ⟨t, df⟩ w := by
  refine wpAnyH_take hi hs hf hr hQ hy hSw ?_
  rw [hd]; exact h
theorem rdC_cases (u : ByteArray) : rdC u = 0 ∨ rdC u = 2 ∨ rdC u = 3 := by
  unfold rdC; cases fitB u <;> cases rdB u <;> simp

set_option maxRecDepth 10000 in
set_option maxHeartbeats 8000000 in
theorem walkWide_in (ao1 ao2 : Option Addr) (l1 c1 l2 c2 : Nat) (w : World) (h1 : CodeAt w w.heap.size ao1 l1) (h2 : CodeAt w w.heap.size ao2 l2) (hE : errT w) :
    Calls Tryd.prog 4 #[.slice ao1 l1 c1, .slice ao2 l2 c2] w fun e w' => e = .returned (.bool true) ∧ Below w.heap.size w w' := by
  have hl1 : ¬ (1048576 : Int) < (l1 : Int) := by have := h1.1; omega
  have hl2 : ¬ (1048576 : Int) < (l2 : Int) := by have := h2.1; omega
  have hB : Below w.heap.size w w := Below.refl _ _
  go_enter Tryd.func4, Tryd.ntmps4
  go_wp2_with (first
    | (go_at_call 11; refine (c_DrawWideAdd _ _ _ _ h1).mono ?_; rintro e w1 ⟨a, b, c, d, rfl, ha, hb, hc, hd, hb1⟩; have hB := hB.trans (hb1.mono hB.size); have hE := cell_past hb1 hE; have hz1 := hB.size; have hC2 : ∀ o o', CodeAt ((w1.alloc o).alloc o') ((w1.alloc o).alloc o').heap.size ao2 l2 := fun o o' => codeAt_later h2 ((hB.alloc hz1 o).alloc (by simp; omega) o') (by simp; omega); have hBa : ∀ o o', Below w.heap.size w ((w1.alloc o).alloc o') := fun o o' => (hB.alloc hz1 o).alloc (by simp; omega) o'; have hEa : ∀ o o', errT ((w1.alloc o).alloc o') := fun o o' => cell_on (cell_on hE o) o'; have hZA : ∀ o', ZB ((w1.alloc (.cells #[.int .i64 a, .int .u64 b] 32)).alloc o') w1.heap.size a b := fun o' => zb_past (zb_new w1 a b) ((Below.refl _ _).alloc (Nat.le_refl _) _); have hZB : ∀ o, ZB ((w1.alloc o).alloc (.cells #[.int .i64 c, .int .u64 d] 32)) (w1.heap.size + 1) c d := fun o => by have := zb_new (w1.alloc o) c d; simpa using this)
    | (go_at_call 12; refine (c_DrawWideText _ _ _ _ (hC2 _ _)).mono ?_; rintro e' w2 ⟨e, f, rfl, he, hf, hb2⟩; have ZA := zb_past (hZA _) hb2; have ZB1 := zb_past (hZB _) hb2; have hB := (hBa _ _).trans (hb2.mono (by simp; omega)); have hE := cell_past hb2 (hEa _ _); have hz2 := hB.size; have hzz := hb2.size; simp at hzz; clear hC2 hBa hEa hZA hZB hb2 hb1))
  have k1 := add_comm2 c d a b
  have k2 := add_assoc2 ha hb hc hd he hf
  have HI : Hid (I64 a ∧ U64 b ∧ I64 c ∧ U64 d ∧ I64 e ∧ U64 f) := ⟨ha, hb, hc, hd, he, hf⟩
  obtain ⟨k1a, k1b⟩ := k1
  obtain ⟨k2a, k2b⟩ := k2
  obtain ⟨A0, A1, _, _⟩ := zb_cells ZA
  obtain ⟨B0, B1, _, _⟩ := zb_cells ZB1
  have A0' := cell_on A0
  have A1' := cell_on A1
  have B0' := cell_on B0
  have B1' := cell_on B1
  have BA : ∀ o, Below w.heap.size w ((w2.alloc o).drew) := fun o => (hB.alloc hz2 o).drew
  have EA : ∀ o, errT ((w2.alloc o).drew) := fun o => cell_on hE o
  clear ZA ZB1 hE
  go_region_held3 (fun w' => w'.cell? ⟨w1.heap.size, 0, none⟩ = some (.int .i64 a) ∧ w'.cell? ⟨w1.heap.size, 1, none⟩ = some (.int .u64 b) ∧ w'.cell? ⟨w1.heap.size + 1, 0, none⟩ = some (.int .i64 c) ∧ w'.cell? ⟨w1.heap.size + 1, 1, none⟩ = some (.int .u64 d) ∧ w'.cell? ⟨w2.heap.size, 0, none⟩ = some (.int .i64 e) ∧ w'.cell? ⟨w2.heap.size, 1, none⟩ = some (.int .u64 f) ∧ Below w.heap.size w w' ∧ errT w')
    (first | exact hS2 | exact ⟨A0' _, A1' _, B0' _, B1' _, by simp, by simp, BA _, EA _⟩)
    (first
      | (go_at_call 13; have hS1 := ‹_ ∧ _ ∧ _ ∧ _ ∧ _ ∧ _ ∧ Below _ _ _ ∧ errT _›; refine (c_i_WideAdd _ _ _ _ _ (by first | exact hb | exact hd | exact hf | exact uw_in _) (by first | exact hb | exact hd | exact hf | exact uw_in _)).mono ?_; rintro e9 w9 ⟨rfl, hb9⟩; have hS2 : w9.cell? ⟨w1.heap.size, 0, none⟩ = some (.int .i64 a) ∧ w9.cell? ⟨w1.heap.size, 1, none⟩ = some (.int .u64 b) ∧ w9.cell? ⟨w1.heap.size + 1, 0, none⟩ = some (.int .i64 c) ∧ w9.cell? ⟨w1.heap.size + 1, 1, none⟩ = some (.int .u64 d) ∧ w9.cell? ⟨w2.heap.size, 0, none⟩ = some (.int .i64 e) ∧ w9.cell? ⟨w2.heap.size, 1, none⟩ = some (.int .u64 f) ∧ Below w.heap.size w w9 ∧ errT w9 := ⟨cell_past hb9 hS1.1, cell_past hb9 hS1.2.1, cell_past hb9 hS1.2.2.1, cell_past hb9 hS1.2.2.2.1, cell_past hb9 hS1.2.2.2.2.1, cell_past hb9 hS1.2.2.2.2.2.1, hS1.2.2.2.2.2.2.1.trans (hb9.mono hS1.2.2.2.2.2.2.1.size), cell_past hb9 hS1.2.2.2.2.2.2.2⟩)
      | (go_at_call 14; have hS1 := ‹_ ∧ _ ∧ _ ∧ _ ∧ _ ∧ _ ∧ Below _ _ _ ∧ errT _›; refine (c_s_WideAdd _ _ _ _ _ (by first | exact hb | exact hd | exact hf | exact uw_in _) (by first | exact hb | exact hd | exact hf | exact uw_in _)).mono ?_; rintro e9 w9 ⟨rfl, hb9⟩; have hS2 : w9.cell? ⟨w1.heap.size, 0, none⟩ = some (.int .i64 a) ∧ w9.cell? ⟨w1.heap.size, 1, none⟩ = some (.int .u64 b) ∧ w9.cell? ⟨w1.heap.size + 1, 0, none⟩ = some (.int .i64 c) ∧ w9.cell? ⟨w1.heap.size + 1, 1, none⟩ = some (.int .u64 d) ∧ w9.cell? ⟨w2.heap.size, 0, none⟩ = some (.int .i64 e) ∧ w9.cell? ⟨w2.heap.size, 1, none⟩ = some (.int .u64 f) ∧ Below w.heap.size w w9 ∧ errT w9 := ⟨cell_past hb9 hS1.1, cell_past hb9 hS1.2.1, cell_past hb9 hS1.2.2.1, cell_past hb9 hS1.2.2.2.1, cell_past hb9 hS1.2.2.2.2.1, cell_past hb9 hS1.2.2.2.2.2.1, hS1.2.2.2.2.2.2.1.trans (hb9.mono hS1.2.2.2.2.2.2.1.size), cell_past hb9 hS1.2.2.2.2.2.2.2⟩))
  have C0 := hS2.2.2.2.2.1
  have C1 := hS2.2.2.2.2.2.1
  have hB5 := hS2.2.2.2.2.2.2.1
  have hE5 := hS2.2.2.2.2.2.2.2
  obtain ⟨q1, q2, q3⟩ := wide_back he hf
  have hts := wtxt_size e f he hf
  clear hS2 BA EA A0 A1 B0 B1 A0' A1' B0' B1' k1a k1b k2a k2b hB
  go_wp2_with (go_at_call 15; refine (c_i_WideText _ _ he hf _).mono ?_; rintro e9 w7 ⟨rfl, hb7⟩; have C0 := cell_past hb7 C0; have C1 := cell_past hb7 C1; have hB7 := hB5.trans (hb7.mono hB5.size); have hE7 := cell_past hb7 hE5)
  go_region_held3 (fun w' => w'.cell? ⟨w2.heap.size, 0, none⟩ = some (.int .i64 e) ∧ w'.cell? ⟨w2.heap.size, 1, none⟩ = some (.int .u64 f) ∧ Below w.heap.size w w' ∧ errT w')
    (first | exact hS3 | exact ⟨C0, C1, hB7.drew, hE7⟩)
    (first
      | (go_at_call 16; have hS1 := ‹_ ∧ _ ∧ Below _ _ _ ∧ errT _›; refine (c_i_WideRead _ (by unfold maxLen; omega) _ hS1.2.2.2).mono ?_; rintro e9 w8 ⟨rfl, hb8⟩; have hS3 : w8.cell? ⟨w2.heap.size, 0, none⟩ = some (.int .i64 e) ∧ w8.cell? ⟨w2.heap.size, 1, none⟩ = some (.int .u64 f) ∧ Below w.heap.size w w8 ∧ errT w8 := ⟨cell_past hb8 hS1.1, cell_past hb8 hS1.2.1, hS1.2.2.1.trans (hb8.mono hS1.2.2.1.size), cell_past hb8 hS1.2.2.2⟩))
  have hB8 := hS3.2.2.1
  have hE8 := hS3.2.2.2
  clear hS3 C0 C1 hB5 hE5 q1 q2 q3 hts
  have hz8 := hB8.size
  go_wp2_with (first
    | (go_at_call 17; (first | (have hJ := hI1; refine (c_DrawWideTimes _ _ _ _ (codeAt_later h2 hB8 hB8.size)).mono ?_; rintro e9 w9 ⟨n2, v, rfl, hI2, hU2, hb9⟩) | (refine (c_DrawWideTimes _ _ _ _ (codeAt_later h1 hB8 hB8.size)).mono ?_; rintro e9 w9 ⟨n, y, rfl, hI1, hU1, hb9⟩)); have hB8 := hB8.trans (hb9.mono hB8.size); have hE8 := cell_past hb9 hE8; clear hb9))
  · have hnw := no_wrap hU1 hU2 (by assumption)
    obtain ⟨t1, t2⟩ := times_add n y v
    have hU3 : U64 (y + v) := by rw [← hnw, IntKind.wrap_u64]; unfold U64; omega
    go_wp2_with (first
      | (go_at_call 18; refine (c_i_WideTimes _ _ hI1 (by first | exact hU1 | exact hU2 | exact hU3) _).mono ?_; rintro e9 w9 ⟨rfl, hb9⟩; have hB8 := hB8.trans (hb9.mono hB8.size); have hE8 := cell_past hb9 hE8; clear hb9)
      | (go_at_call 13; refine (c_i_WideAdd _ _ _ _ _ (uw_in _) (uw_in _)).mono ?_; rintro e9 w9 ⟨rfl, hb9⟩; have hB8 := hB8.trans (hb9.mono hB8.size); have hE8 := cell_past hb9 hE8; clear hb9))
    clear t1 t2 hU3 hnw
    have hz9 := hB8.size
    go_wp2_with (first
      | (go_at_call 19; refine (c_DrawWideRead _ _ _ _ (codeAt_later h2 hB8 hB8.size)).mono ?_; rintro e9 w10 ⟨u, rfl, hu, hb9⟩; have hB8 := hB8.trans (hb9.mono hB8.size); have hE8 := cell_past hb9 hE8; clear hb9)
      | (go_at_call 16; refine (c_i_WideRead _ (by unfold maxLen; omega) _ hE8).mono ?_; rintro e9 w11 ⟨rfl, hb9⟩; have hB8 := hB8.trans (hb9.mono hB8.size); have hE8 := cell_past hb9 hE8; clear hb9))
    have hz11 := hB8.size
    have hrd := rd_in u
    obtain ⟨o1, o2⟩ := times_one hI1
    have wc := wAdd_comm v y
    have BA : ∀ o, Below w.heap.size w ((w11.alloc o).drew) := fun o => (hB8.alloc hz11 o).drew
    by_cases hc0 : rdC u = 0
    · obtain ⟨hsame, _, _⟩ := wide_same hc0
      rw [hc0]
      go_region_held3 (fun w' => w'.cell? ⟨w11.heap.size, 0, none⟩ = some (.int .i64 (rdH u)) ∧ w'.cell? ⟨w11.heap.size, 1, none⟩ = some (.int .u64 (rdL u)) ∧ w'.cell? ⟨w11.heap.size, 2, none⟩ = some (.int .i64 0) ∧ Below w.heap.size w w')
        (first | exact hS5 | exact ⟨by simp, by simp, by simp, BA _⟩)
        (first
          | (go_at_call 20; have hS1 := ‹_ ∧ _ ∧ _ ∧ Below _ _ _›; refine (c_s_WideRead _ (by unfold maxLen; omega) _).mono ?_; rintro e9 w12 ⟨rfl, hb9⟩; have hS5 : w12.cell? ⟨w11.heap.size, 0, none⟩ = some (.int .i64 (rdH u)) ∧ w12.cell? ⟨w11.heap.size, 1, none⟩ = some (.int .u64 (rdL u)) ∧ w12.cell? ⟨w11.heap.size, 2, none⟩ = some (.int .i64 0) ∧ Below w.heap.size w w12 := ⟨cell_past hb9 hS1.1, cell_past hb9 hS1.2.1, cell_past hb9 hS1.2.2.1, hS1.2.2.2.trans (hb9.mono hS1.2.2.2.size)⟩)
          | (go_at_call 15; have hS1 := ‹_ ∧ _ ∧ _ ∧ Below _ _ _›; refine (c_i_WideText _ _ hrd.1 hrd.2 _).mono ?_; rintro e9 w12 ⟨rfl, hb9⟩; have hS5 : w12.cell? ⟨w11.heap.size, 0, none⟩ = some (.int .i64 (rdH u)) ∧ w12.cell? ⟨w11.heap.size, 1, none⟩ = some (.int .u64 (rdL u)) ∧ w12.cell? ⟨w11.heap.size, 2, none⟩ = some (.int .i64 0) ∧ Below w.heap.size w w12 := ⟨cell_past hb9 hS1.1, cell_past hb9 hS1.2.1, cell_past hb9 hS1.2.2.1, hS1.2.2.2.trans (hb9.mono hS1.2.2.2.size)⟩)
          | (go_at_call 18; have hS1 := ‹_ ∧ _ ∧ _ ∧ Below _ _ _›; refine (c_i_WideTimes _ _ hI1 (by unfold U64; omega) _).mono ?_; rintro e9 w12 ⟨rfl, hb9⟩; have hS5 : w12.cell? ⟨w11.heap.size, 0, none⟩ = some (.int .i64 (rdH u)) ∧ w12.cell? ⟨w11.heap.size, 1, none⟩ = some (.int .u64 (rdL u)) ∧ w12.cell? ⟨w11.heap.size, 2, none⟩ = some (.int .i64 0) ∧ Below w.heap.size w w12 := ⟨cell_past hb9 hS1.1, cell_past hb9 hS1.2.1, cell_past hb9 hS1.2.2.1, hS1.2.2.2.trans (hb9.mono hS1.2.2.2.size)⟩)
          | (go_at_call 21; have hS1 := ‹_ ∧ _ ∧ _ ∧ Below _ _ _›; refine (c_i_WideOf _ _).mono ?_; rintro e9 w12 ⟨rfl, hb9⟩; have hS5 : w12.cell? ⟨w11.heap.size, 0, none⟩ = some (.int .i64 (rdH u)) ∧ w12.cell? ⟨w11.heap.size, 1, none⟩ = some (.int .u64 (rdL u)) ∧ w12.cell? ⟨w11.heap.size, 2, none⟩ = some (.int .i64 0) ∧ Below w.heap.size w w12 := ⟨cell_past hb9 hS1.1, cell_past hb9 hS1.2.1, cell_past hb9 hS1.2.2.1, hS1.2.2.2.trans (hb9.mono hS1.2.2.2.size)⟩)
          | (go_at_call 22; have hS1 := ‹_ ∧ _ ∧ _ ∧ Below _ _ _›; refine (c_i_WeightAdd _ _ (by first | exact hU1 | exact hU2) (by first | exact hU1 | exact hU2) _).mono ?_; rintro e9 w12 ⟨rfl, hw9⟩; obtain rfl := hw9.symm; have hS5 := hS1))
      go_wp2
      go_ret
      exact ⟨rfl, hS5.2.2.2⟩
    · have hcn : (rdC u != 0) = true := by simp [hc0]
      have hcn2 : (rdC u == 0) = false := by simp [hc0]
      refine wp_region_held_drew (S := fun w' => w'.cell? ⟨w11.heap.size, 0, none⟩ = some (.int .i64 (rdH u)) ∧ w'.cell? ⟨w11.heap.size, 1, none⟩ = some (.int .u64 (rdL u)) ∧ w'.cell? ⟨w11.heap.size, 2, none⟩ = some (.int .i64 (rdC u)) ∧ Below w.heap.size w w') (by kernel_rfl) ⟨by simp, by simp, by simp, BA _⟩ (fun hHeld => ?_)
      refine take_S (i := 0) (d := 100) (v := .agg #[.int .i64 (rdH u), .int .u64 (rdL u), .int .i64 (rdC u)]) rfl rfl (by kernel_rfl) (by kernel_rfl) (by kernel_rfl) (fun _ _ _ h => h) (Or.inl ⟨by rfl, fun w hSw => ?_⟩) hHeld ?_
      · obtain ⟨g0, g1, g2, _⟩ := hSw; go_simp
      simp only [List.setIfInBounds_toArray, List.set_cons_zero, List.set_cons_succ]
      refine take_S (i := 1) (d := 101) (v := .string u) rfl rfl (by kernel_rfl) (by kernel_rfl) (by kernel_rfl) (fun _ _ _ h => h) (Or.inl ⟨by rfl, fun w hSw => ?_⟩) hHeld ?_
      · obtain ⟨g0, g1, g2, _⟩ := hSw; go_simp
      simp only [List.setIfInBounds_toArray, List.set_cons_zero, List.set_cons_succ]
      refine wpAnyH_ready (rs := [2]) (by kernel_rfl) (by simp) ?_
      refine AllReadyH.cons (i := 2) rfl (fun K hK => ?_) AllReadyH.nil
      go_simp
      refine (c_s_WideRead _ (by unfold maxLen; omega) _).mono ?_
      rintro e9 w12 ⟨rfl, hb9⟩
      dsimp only
      refine hK.out _ _ ⟨cell_past hb9 hHeld.1, cell_past hb9 hHeld.2.1, cell_past hb9 hHeld.2.2.1, hHeld.2.2.2.trans (hb9.mono hHeld.2.2.2.size)⟩ (fun hHeld => ?_)
      clear hK K
      try simp only [Act.put, List.setIfInBounds_toArray, List.set_cons_zero, List.set_cons_succ]
      refine take_S (i := 3) (d := 103) (v := .bool true) rfl rfl (by kernel_rfl) (by kernel_rfl) (by kernel_rfl) (fun _ _ _ h => h) (Or.inl ⟨by rfl, fun w hSw => ?_⟩) hHeld ?_
      · obtain ⟨g0, g1, g2, _⟩ := hSw; go_simp
      simp only [List.setIfInBounds_toArray, List.set_cons_zero, List.set_cons_succ]
      refine take_S (i := 4) (d := 104) (v := .bool true) rfl rfl (by kernel_rfl) (by kernel_rfl) (by kernel_rfl) (fun _ _ _ h => h) (Or.inl ⟨by rfl, fun w hSw => ?_⟩) hHeld ?_
      · obtain ⟨g0, g1, g2, _⟩ := hSw; go_simp
      simp only [List.setIfInBounds_toArray, List.set_cons_zero, List.set_cons_succ]
      refine take_S (i := 5) (d := 105) (v := .pointer (some ⟨w11.heap.size, 2, none⟩)) rfl rfl (by kernel_rfl) (by kernel_rfl) (by kernel_rfl) (fun _ _ _ h => h) (Or.inl ⟨by rfl, fun w hSw => ?_⟩) hHeld ?_
      · obtain ⟨g0, g1, g2, _⟩ := hSw; go_simp
      simp only [List.setIfInBounds_toArray, List.set_cons_zero, List.set_cons_succ]
      refine take_S (i := 6) (d := 106) (v := .int .i64 (rdC u)) rfl rfl (by kernel_rfl) (by kernel_rfl) (by kernel_rfl) (fun _ _ _ h => h) (Or.inl ⟨by rfl, fun w hSw => ?_⟩) hHeld ?_
      · obtain ⟨g0, g1, g2, _⟩ := hSw; go_simp
      simp only [List.setIfInBounds_toArray, List.set_cons_zero, List.set_cons_succ]
      refine take_S (i := 7) (d := 107) (v := .bool true) rfl rfl (by kernel_rfl) (by kernel_rfl) (by kernel_rfl) (fun _ _ _ h => h) (Or.inl ⟨by rfl, fun w hSw => ?_⟩) hHeld ?_
      · obtain ⟨g0, g1, g2, _⟩ := hSw; go_simp
      simp only [List.setIfInBounds_toArray, List.set_cons_zero, List.set_cons_succ]
      refine take_S (i := 8) (d := 108) (v := .bool true) rfl rfl (by kernel_rfl) (by kernel_rfl) (by kernel_rfl) (fun _ _ _ h => h) (Or.inl ⟨by rfl, fun w hSw => ?_⟩) hHeld ?_
      · obtain ⟨g0, g1, g2, _⟩ := hSw; go_simp
      simp only [List.setIfInBounds_toArray, List.set_cons_zero, List.set_cons_succ]
      refine take_S (i := 9) (d := 109) (v := undef) rfl rfl (by kernel_rfl) (by kernel_rfl) (by kernel_rfl) (fun _ _ _ h => h) (Or.inr ⟨by rfl, rfl⟩) hHeld ?_
      simp only [List.setIfInBounds_toArray, List.set_cons_zero, List.set_cons_succ]
      refine take_S (i := 10) (d := 110) (v := undef) rfl rfl (by kernel_rfl) (by kernel_rfl) (by kernel_rfl) (fun _ _ _ h => h) (Or.inr ⟨by rfl, rfl⟩) hHeld ?_
      simp only [List.setIfInBounds_toArray, List.set_cons_zero, List.set_cons_succ]
      refine take_S (i := 11) (d := 111) (v := undef) rfl rfl (by kernel_rfl) (by kernel_rfl) (by kernel_rfl) (fun _ _ _ h => h) (Or.inr ⟨by rfl, rfl⟩) hHeld ?_
      simp only [List.setIfInBounds_toArray, List.set_cons_zero, List.set_cons_succ]
      refine take_S (i := 12) (d := 112) (v := undef) rfl rfl (by kernel_rfl) (by kernel_rfl) (by kernel_rfl) (fun _ _ _ h => h) (Or.inr ⟨by rfl, rfl⟩) hHeld ?_
      simp only [List.setIfInBounds_toArray, List.set_cons_zero, List.set_cons_succ]
      refine take_S (i := 13) (d := 113) (v := undef) rfl rfl (by kernel_rfl) (by kernel_rfl) (by kernel_rfl) (fun _ _ _ h => h) (Or.inr ⟨by rfl, rfl⟩) hHeld ?_
      simp only [List.setIfInBounds_toArray, List.set_cons_zero, List.set_cons_succ]
      refine take_S (i := 14) (d := 114) (v := .bool true) rfl rfl (by kernel_rfl) (by kernel_rfl) (by kernel_rfl) (fun _ _ _ h => h) (Or.inl ⟨by rfl, fun w hSw => ?_⟩) hHeld ?_
      · obtain ⟨g0, g1, g2, _⟩ := hSw; go_simp
      simp only [List.setIfInBounds_toArray, List.set_cons_zero, List.set_cons_succ]
      refine take_S (i := 15) (d := 115) (v := .bool true) rfl rfl (by kernel_rfl) (by kernel_rfl) (by kernel_rfl) (fun _ _ _ h => h) (Or.inl ⟨by rfl, fun w hSw => ?_⟩) hHeld ?_
      · obtain ⟨g0, g1, g2, _⟩ := hSw; go_simp
      simp only [List.setIfInBounds_toArray, List.set_cons_zero, List.set_cons_succ]
      refine take_S (i := 16) (d := 116) (v := .bool true) rfl rfl (by kernel_rfl) (by kernel_rfl) (by kernel_rfl) (fun _ _ _ h => h) (Or.inl ⟨by rfl, fun w hSw => ?_⟩) hHeld ?_
      · obtain ⟨g0, g1, g2, _⟩ := hSw; go_simp
      simp only [List.setIfInBounds_toArray, List.set_cons_zero, List.set_cons_succ]
      refine take_S (i := 17) (d := 117) (v := .int .i64 n) rfl rfl (by kernel_rfl) (by kernel_rfl) (by kernel_rfl) (fun _ _ _ h => h) (Or.inl ⟨by rfl, fun w hSw => ?_⟩) hHeld ?_
      · obtain ⟨g0, g1, g2, _⟩ := hSw; go_simp
      simp only [List.setIfInBounds_toArray, List.set_cons_zero, List.set_cons_succ]
      refine take_S (i := 19) (d := 119) (v := .int .i64 n) rfl rfl (by kernel_rfl) (by kernel_rfl) (by kernel_rfl) (fun _ _ _ h => h) (Or.inl ⟨by rfl, fun w hSw => ?_⟩) hHeld ?_
      · obtain ⟨g0, g1, g2, _⟩ := hSw; go_simp
      simp only [List.setIfInBounds_toArray, List.set_cons_zero, List.set_cons_succ]
      refine wpAnyH_ready (rs := [18]) (by kernel_rfl) (by simp) ?_
      refine AllReadyH.cons (i := 18) rfl (fun K hK => ?_) AllReadyH.nil
      go_simp
      refine (c_i_WideTimes _ _ hI1 (by unfold U64; omega) _).mono ?_
      rintro e9 w12 ⟨rfl, hb9⟩
      dsimp only
      refine hK.out _ _ ⟨cell_past hb9 hHeld.1, cell_past hb9 hHeld.2.1, cell_past hb9 hHeld.2.2.1, hHeld.2.2.2.trans (hb9.mono hHeld.2.2.2.size)⟩ (fun hHeld => ?_)
      clear hK K
      try simp only [Act.put, List.setIfInBounds_toArray, List.set_cons_zero, List.set_cons_succ]
      refine wpAnyH_ready (rs := [20]) (by kernel_rfl) (by simp) ?_
      refine AllReadyH.cons (i := 20) rfl (fun K hK => ?_) AllReadyH.nil
      go_simp
      refine (c_i_WideOf _ _).mono ?_
      rintro e9 w12 ⟨rfl, hb9⟩
      dsimp only
      refine hK.out _ _ ⟨cell_past hb9 hHeld.1, cell_past hb9 hHeld.2.1, cell_past hb9 hHeld.2.2.1, hHeld.2.2.2.trans (hb9.mono hHeld.2.2.2.size)⟩ (fun hHeld => ?_)
      clear hK K
      try simp only [Act.put, List.setIfInBounds_toArray, List.set_cons_zero, List.set_cons_succ]
      refine take_S (i := 21) (d := 121) (v := .bool true) rfl rfl (by kernel_rfl) (by kernel_rfl) (by kernel_rfl) (fun _ _ _ h => h) (Or.inl ⟨by rfl, fun w hSw => ?_⟩) hHeld ?_
      · obtain ⟨g0, g1, g2, _⟩ := hSw; go_simp
      simp only [List.setIfInBounds_toArray, List.set_cons_zero, List.set_cons_succ]
      refine take_S (i := 22) (d := 122) (v := .bool true) rfl rfl (by kernel_rfl) (by kernel_rfl) (by kernel_rfl) (fun _ _ _ h => h) (Or.inl ⟨by rfl, fun w hSw => ?_⟩) hHeld ?_
      · obtain ⟨g0, g1, g2, _⟩ := hSw; go_simp
      simp only [List.setIfInBounds_toArray, List.set_cons_zero, List.set_cons_succ]
      refine take_S (i := 23) (d := 123) (v := .bool true) rfl rfl (by kernel_rfl) (by kernel_rfl) (by kernel_rfl) (fun _ _ _ h => h) (Or.inl ⟨by rfl, fun w hSw => ?_⟩) hHeld ?_
      · obtain ⟨g0, g1, g2, _⟩ := hSw; go_simp
      simp only [List.setIfInBounds_toArray, List.set_cons_zero, List.set_cons_succ]
      refine take_S (i := 24) (d := 124) (v := .int .u64 y) rfl rfl (by kernel_rfl) (by kernel_rfl) (by kernel_rfl) (fun _ _ _ h => h) (Or.inl ⟨by rfl, fun w hSw => ?_⟩) hHeld ?_
      · obtain ⟨g0, g1, g2, _⟩ := hSw; go_simp
      simp only [List.setIfInBounds_toArray, List.set_cons_zero, List.set_cons_succ]
      refine take_S (i := 25) (d := 125) (v := .int .u64 v) rfl rfl (by kernel_rfl) (by kernel_rfl) (by kernel_rfl) (fun _ _ _ h => h) (Or.inl ⟨by rfl, fun w hSw => ?_⟩) hHeld ?_
      · obtain ⟨g0, g1, g2, _⟩ := hSw; go_simp
      simp only [List.setIfInBounds_toArray, List.set_cons_zero, List.set_cons_succ]
      refine take_S (i := 27) (d := 127) (v := .int .u64 v) rfl rfl (by kernel_rfl) (by kernel_rfl) (by kernel_rfl) (fun _ _ _ h => h) (Or.inl ⟨by rfl, fun w hSw => ?_⟩) hHeld ?_
      · obtain ⟨g0, g1, g2, _⟩ := hSw; go_simp
      simp only [List.setIfInBounds_toArray, List.set_cons_zero, List.set_cons_succ]
      refine take_S (i := 28) (d := 128) (v := .int .u64 y) rfl rfl (by kernel_rfl) (by kernel_rfl) (by kernel_rfl) (fun _ _ _ h => h) (Or.inl ⟨by rfl, fun w hSw => ?_⟩) hHeld ?_
      · obtain ⟨g0, g1, g2, _⟩ := hSw; go_simp
      simp only [List.setIfInBounds_toArray, List.set_cons_zero, List.set_cons_succ]
      refine wpAnyH_ready (rs := [26]) (by kernel_rfl) (by simp) ?_
      refine AllReadyH.cons (i := 26) rfl (fun K hK => ?_) AllReadyH.nil
      go_simp
      refine (c_i_WeightAdd _ _ hU1 hU2 _).mono ?_
      rintro e9 w12 ⟨rfl, rfl⟩
      dsimp only
      refine hK.out _ _ hHeld (fun hHeld => ?_)
      clear hK K
      try simp only [Act.put, List.setIfInBounds_toArray, List.set_cons_zero, List.set_cons_succ]
      refine wpAnyH_ready (rs := [29]) (by kernel_rfl) (by simp) ?_
      refine AllReadyH.cons (i := 29) rfl (fun K hK => ?_) AllReadyH.nil
      go_simp
      refine (c_i_WeightAdd _ _ hU2 hU1 _).mono ?_
      rintro e9 w12 ⟨rfl, rfl⟩
      dsimp only
      refine hK.out _ _ hHeld (fun hHeld => ?_)
      clear hK K
      try simp only [Act.put, List.setIfInBounds_toArray, List.set_cons_zero, List.set_cons_succ]
      refine take_S (i := 30) (d := 130) (v := .bool true) rfl rfl (by kernel_rfl) (by kernel_rfl) (by kernel_rfl) (fun _ _ _ h => h) (Or.inl ⟨by rfl, fun w hSw => ?_⟩) hHeld ?_
      · obtain ⟨g0, g1, g2, _⟩ := hSw; go_simp
      simp only [List.setIfInBounds_toArray, List.set_cons_zero, List.set_cons_succ]
      refine take_S (i := 31) (d := 131) (v := .bool true) rfl rfl (by kernel_rfl) (by kernel_rfl) (by kernel_rfl) (fun _ _ _ h => h) (Or.inl ⟨by rfl, fun w hSw => ?_⟩) hHeld ?_
      · obtain ⟨g0, g1, g2, _⟩ := hSw; go_simp
      simp only [List.setIfInBounds_toArray, List.set_cons_zero, List.set_cons_succ]
      refine take_S (i := 32) (d := 4) (v := .bool true) rfl rfl (by kernel_rfl) (by kernel_rfl) (by kernel_rfl) (fun _ _ _ h => h) (Or.inl ⟨by rfl, fun w hSw => ?_⟩) hHeld ?_
      · obtain ⟨g0, g1, g2, _⟩ := hSw; go_simp
      simp only [List.setIfInBounds_toArray, List.set_cons_zero, List.set_cons_succ]
      refine wpAnyH_done (by kernel_rfl) ?_ _
      go_wp2
      go_ret
      exact ⟨rfl, hHeld.2.2.2⟩
  · have hz9 := hB8.size
    go_wp2_with (first
      | (go_at_call 19; refine (c_DrawWideRead _ _ _ _ (codeAt_later h2 hB8 hB8.size)).mono ?_; rintro e9 w10 ⟨u, rfl, hu, hb9⟩; have hB8 := hB8.trans (hb9.mono hB8.size); have hE8 := cell_past hb9 hE8; clear hb9)
      | (go_at_call 16; refine (c_i_WideRead _ (by unfold maxLen; omega) _ hE8).mono ?_; rintro e9 w11 ⟨rfl, hb9⟩; have hB8 := hB8.trans (hb9.mono hB8.size); have hE8 := cell_past hb9 hE8; clear hb9))
    have hz11 := hB8.size
    have hrd := rd_in u
    obtain ⟨o1, o2⟩ := times_one hI1
    have wc := wAdd_comm v y
    have BA : ∀ o, Below w.heap.size w ((w11.alloc o).drew) := fun o => (hB8.alloc hz11 o).drew
    by_cases hc0 : rdC u = 0
    · obtain ⟨hsame, _, _⟩ := wide_same hc0
      rw [hc0]
      go_region_held3 (fun w' => w'.cell? ⟨w11.heap.size, 0, none⟩ = some (.int .i64 (rdH u)) ∧ w'.cell? ⟨w11.heap.size, 1, none⟩ = some (.int .u64 (rdL u)) ∧ w'.cell? ⟨w11.heap.size, 2, none⟩ = some (.int .i64 0) ∧ Below w.heap.size w w')
        (first | exact hS5 | exact ⟨by simp, by simp, by simp, BA _⟩)
        (first
          | (go_at_call 20; have hS1 := ‹_ ∧ _ ∧ _ ∧ Below _ _ _›; refine (c_s_WideRead _ (by unfold maxLen; omega) _).mono ?_; rintro e9 w12 ⟨rfl, hb9⟩; have hS5 : w12.cell? ⟨w11.heap.size, 0, none⟩ = some (.int .i64 (rdH u)) ∧ w12.cell? ⟨w11.heap.size, 1, none⟩ = some (.int .u64 (rdL u)) ∧ w12.cell? ⟨w11.heap.size, 2, none⟩ = some (.int .i64 0) ∧ Below w.heap.size w w12 := ⟨cell_past hb9 hS1.1, cell_past hb9 hS1.2.1, cell_past hb9 hS1.2.2.1, hS1.2.2.2.trans (hb9.mono hS1.2.2.2.size)⟩)
          | (go_at_call 15; have hS1 := ‹_ ∧ _ ∧ _ ∧ Below _ _ _›; refine (c_i_WideText _ _ hrd.1 hrd.2 _).mono ?_; rintro e9 w12 ⟨rfl, hb9⟩; have hS5 : w12.cell? ⟨w11.heap.size, 0, none⟩ = some (.int .i64 (rdH u)) ∧ w12.cell? ⟨w11.heap.size, 1, none⟩ = some (.int .u64 (rdL u)) ∧ w12.cell? ⟨w11.heap.size, 2, none⟩ = some (.int .i64 0) ∧ Below w.heap.size w w12 := ⟨cell_past hb9 hS1.1, cell_past hb9 hS1.2.1, cell_past hb9 hS1.2.2.1, hS1.2.2.2.trans (hb9.mono hS1.2.2.2.size)⟩)
          | (go_at_call 18; have hS1 := ‹_ ∧ _ ∧ _ ∧ Below _ _ _›; refine (c_i_WideTimes _ _ hI1 (by unfold U64; omega) _).mono ?_; rintro e9 w12 ⟨rfl, hb9⟩; have hS5 : w12.cell? ⟨w11.heap.size, 0, none⟩ = some (.int .i64 (rdH u)) ∧ w12.cell? ⟨w11.heap.size, 1, none⟩ = some (.int .u64 (rdL u)) ∧ w12.cell? ⟨w11.heap.size, 2, none⟩ = some (.int .i64 0) ∧ Below w.heap.size w w12 := ⟨cell_past hb9 hS1.1, cell_past hb9 hS1.2.1, cell_past hb9 hS1.2.2.1, hS1.2.2.2.trans (hb9.mono hS1.2.2.2.size)⟩)
          | (go_at_call 21; have hS1 := ‹_ ∧ _ ∧ _ ∧ Below _ _ _›; refine (c_i_WideOf _ _).mono ?_; rintro e9 w12 ⟨rfl, hb9⟩; have hS5 : w12.cell? ⟨w11.heap.size, 0, none⟩ = some (.int .i64 (rdH u)) ∧ w12.cell? ⟨w11.heap.size, 1, none⟩ = some (.int .u64 (rdL u)) ∧ w12.cell? ⟨w11.heap.size, 2, none⟩ = some (.int .i64 0) ∧ Below w.heap.size w w12 := ⟨cell_past hb9 hS1.1, cell_past hb9 hS1.2.1, cell_past hb9 hS1.2.2.1, hS1.2.2.2.trans (hb9.mono hS1.2.2.2.size)⟩)
          | (go_at_call 22; have hS1 := ‹_ ∧ _ ∧ _ ∧ Below _ _ _›; refine (c_i_WeightAdd _ _ (by first | exact hU1 | exact hU2) (by first | exact hU1 | exact hU2) _).mono ?_; rintro e9 w12 ⟨rfl, hw9⟩; obtain rfl := hw9.symm; have hS5 := hS1))
      go_wp2
      go_ret
      exact ⟨rfl, hS5.2.2.2⟩
    · have hcn : (rdC u != 0) = true := by simp [hc0]
      have hcn2 : (rdC u == 0) = false := by simp [hc0]
      refine wp_region_held_drew (S := fun w' => w'.cell? ⟨w11.heap.size, 0, none⟩ = some (.int .i64 (rdH u)) ∧ w'.cell? ⟨w11.heap.size, 1, none⟩ = some (.int .u64 (rdL u)) ∧ w'.cell? ⟨w11.heap.size, 2, none⟩ = some (.int .i64 (rdC u)) ∧ Below w.heap.size w w') (by kernel_rfl) ⟨by simp, by simp, by simp, BA _⟩ (fun hHeld => ?_)
      refine take_S (i := 0) (d := 100) (v := .agg #[.int .i64 (rdH u), .int .u64 (rdL u), .int .i64 (rdC u)]) rfl rfl (by kernel_rfl) (by kernel_rfl) (by kernel_rfl) (fun _ _ _ h => h) (Or.inl ⟨by rfl, fun w hSw => ?_⟩) hHeld ?_
      · obtain ⟨g0, g1, g2, _⟩ := hSw; go_simp
      simp only [List.setIfInBounds_toArray, List.set_cons_zero, List.set_cons_succ]
      refine take_S (i := 1) (d := 101) (v := .string u) rfl rfl (by kernel_rfl) (by kernel_rfl) (by kernel_rfl) (fun _ _ _ h => h) (Or.inl ⟨by rfl, fun w hSw => ?_⟩) hHeld ?_
      · obtain ⟨g0, g1, g2, _⟩ := hSw; go_simp
      simp only [List.setIfInBounds_toArray, List.set_cons_zero, List.set_cons_succ]
      refine wpAnyH_ready (rs := [2]) (by kernel_rfl) (by simp) ?_
      refine AllReadyH.cons (i := 2) rfl (fun K hK => ?_) AllReadyH.nil
      go_simp
      refine (c_s_WideRead _ (by unfold maxLen; omega) _).mono ?_
      rintro e9 w12 ⟨rfl, hb9⟩
      dsimp only
      refine hK.out _ _ ⟨cell_past hb9 hHeld.1, cell_past hb9 hHeld.2.1, cell_past hb9 hHeld.2.2.1, hHeld.2.2.2.trans (hb9.mono hHeld.2.2.2.size)⟩ (fun hHeld => ?_)
      clear hK K
      try simp only [Act.put, List.setIfInBounds_toArray, List.set_cons_zero, List.set_cons_succ]
      refine take_S (i := 3) (d := 103) (v := .bool true) rfl rfl (by kernel_rfl) (by kernel_rfl) (by kernel_rfl) (fun _ _ _ h => h) (Or.inl ⟨by rfl, fun w hSw => ?_⟩) hHeld ?_
      · obtain ⟨g0, g1, g2, _⟩ := hSw; go_simp
      simp only [List.setIfInBounds_toArray, List.set_cons_zero, List.set_cons_succ]
      refine take_S (i := 4) (d := 104) (v := .bool true) rfl rfl (by kernel_rfl) (by kernel_rfl) (by kernel_rfl) (fun _ _ _ h => h) (Or.inl ⟨by rfl, fun w hSw => ?_⟩) hHeld ?_
      · obtain ⟨g0, g1, g2, _⟩ := hSw; go_simp
      simp only [List.setIfInBounds_toArray, List.set_cons_zero, List.set_cons_succ]
      refine take_S (i := 5) (d := 105) (v := .pointer (some ⟨w11.heap.size, 2, none⟩)) rfl rfl (by kernel_rfl) (by kernel_rfl) (by kernel_rfl) (fun _ _ _ h => h) (Or.inl ⟨by rfl, fun w hSw => ?_⟩) hHeld ?_
      · obtain ⟨g0, g1, g2, _⟩ := hSw; go_simp
      simp only [List.setIfInBounds_toArray, List.set_cons_zero, List.set_cons_succ]
      refine take_S (i := 6) (d := 106) (v := .int .i64 (rdC u)) rfl rfl (by kernel_rfl) (by kernel_rfl) (by kernel_rfl) (fun _ _ _ h => h) (Or.inl ⟨by rfl, fun w hSw => ?_⟩) hHeld ?_
      · obtain ⟨g0, g1, g2, _⟩ := hSw; go_simp
      simp only [List.setIfInBounds_toArray, List.set_cons_zero, List.set_cons_succ]
      refine take_S (i := 7) (d := 107) (v := .bool true) rfl rfl (by kernel_rfl) (by kernel_rfl) (by kernel_rfl) (fun _ _ _ h => h) (Or.inl ⟨by rfl, fun w hSw => ?_⟩) hHeld ?_
      · obtain ⟨g0, g1, g2, _⟩ := hSw; go_simp
      simp only [List.setIfInBounds_toArray, List.set_cons_zero, List.set_cons_succ]
      refine take_S (i := 8) (d := 108) (v := .bool true) rfl rfl (by kernel_rfl) (by kernel_rfl) (by kernel_rfl) (fun _ _ _ h => h) (Or.inl ⟨by rfl, fun w hSw => ?_⟩) hHeld ?_
      · obtain ⟨g0, g1, g2, _⟩ := hSw; go_simp
      simp only [List.setIfInBounds_toArray, List.set_cons_zero, List.set_cons_succ]
      refine take_S (i := 9) (d := 109) (v := undef) rfl rfl (by kernel_rfl) (by kernel_rfl) (by kernel_rfl) (fun _ _ _ h => h) (Or.inr ⟨by rfl, rfl⟩) hHeld ?_
      simp only [List.setIfInBounds_toArray, List.set_cons_zero, List.set_cons_succ]
      refine take_S (i := 10) (d := 110) (v := undef) rfl rfl (by kernel_rfl) (by kernel_rfl) (by kernel_rfl) (fun _ _ _ h => h) (Or.inr ⟨by rfl, rfl⟩) hHeld ?_
      simp only [List.setIfInBounds_toArray, List.set_cons_zero, List.set_cons_succ]
      refine take_S (i := 11) (d := 111) (v := undef) rfl rfl (by kernel_rfl) (by kernel_rfl) (by kernel_rfl) (fun _ _ _ h => h) (Or.inr ⟨by rfl, rfl⟩) hHeld ?_
      simp only [List.setIfInBounds_toArray, List.set_cons_zero, List.set_cons_succ]
      refine take_S (i := 12) (d := 112) (v := undef) rfl rfl (by kernel_rfl) (by kernel_rfl) (by kernel_rfl) (fun _ _ _ h => h) (Or.inr ⟨by rfl, rfl⟩) hHeld ?_
      simp only [List.setIfInBounds_toArray, List.set_cons_zero, List.set_cons_succ]
      refine take_S (i := 13) (d := 113) (v := undef) rfl rfl (by kernel_rfl) (by kernel_rfl) (by kernel_rfl) (fun _ _ _ h => h) (Or.inr ⟨by rfl, rfl⟩) hHeld ?_
      simp only [List.setIfInBounds_toArray, List.set_cons_zero, List.set_cons_succ]
      refine take_S (i := 14) (d := 114) (v := .bool true) rfl rfl (by kernel_rfl) (by kernel_rfl) (by kernel_rfl) (fun _ _ _ h => h) (Or.inl ⟨by rfl, fun w hSw => ?_⟩) hHeld ?_
      · obtain ⟨g0, g1, g2, _⟩ := hSw; go_simp
      simp only [List.setIfInBounds_toArray, List.set_cons_zero, List.set_cons_succ]
      refine take_S (i := 15) (d := 115) (v := .bool true) rfl rfl (by kernel_rfl) (by kernel_rfl) (by kernel_rfl) (fun _ _ _ h => h) (Or.inl ⟨by rfl, fun w hSw => ?_⟩) hHeld ?_
      · obtain ⟨g0, g1, g2, _⟩ := hSw; go_simp
      simp only [List.setIfInBounds_toArray, List.set_cons_zero, List.set_cons_succ]
      refine take_S (i := 16) (d := 116) (v := .bool true) rfl rfl (by kernel_rfl) (by kernel_rfl) (by kernel_rfl) (fun _ _ _ h => h) (Or.inl ⟨by rfl, fun w hSw => ?_⟩) hHeld ?_
      · obtain ⟨g0, g1, g2, _⟩ := hSw; go_simp
      simp only [List.setIfInBounds_toArray, List.set_cons_zero, List.set_cons_succ]
      refine take_S (i := 17) (d := 117) (v := .int .i64 n) rfl rfl (by kernel_rfl) (by kernel_rfl) (by kernel_rfl) (fun _ _ _ h => h) (Or.inl ⟨by rfl, fun w hSw => ?_⟩) hHeld ?_
      · obtain ⟨g0, g1, g2, _⟩ := hSw; go_simp
      simp only [List.setIfInBounds_toArray, List.set_cons_zero, List.set_cons_succ]
      refine take_S (i := 19) (d := 119) (v := .int .i64 n) rfl rfl (by kernel_rfl) (by kernel_rfl) (by kernel_rfl) (fun _ _ _ h => h) (Or.inl ⟨by rfl, fun w hSw => ?_⟩) hHeld ?_
      · obtain ⟨g0, g1, g2, _⟩ := hSw; go_simp
      simp only [List.setIfInBounds_toArray, List.set_cons_zero, List.set_cons_succ]
      refine wpAnyH_ready (rs := [18]) (by kernel_rfl) (by simp) ?_
      refine AllReadyH.cons (i := 18) rfl (fun K hK => ?_) AllReadyH.nil
      go_simp
      refine (c_i_WideTimes _ _ hI1 (by unfold U64; omega) _).mono ?_
      rintro e9 w12 ⟨rfl, hb9⟩
      dsimp only
      refine hK.out _ _ ⟨cell_past hb9 hHeld.1, cell_past hb9 hHeld.2.1, cell_past hb9 hHeld.2.2.1, hHeld.2.2.2.trans (hb9.mono hHeld.2.2.2.size)⟩ (fun hHeld => ?_)
      clear hK K
      try simp only [Act.put, List.setIfInBounds_toArray, List.set_cons_zero, List.set_cons_succ]
      refine wpAnyH_ready (rs := [20]) (by kernel_rfl) (by simp) ?_
      refine AllReadyH.cons (i := 20) rfl (fun K hK => ?_) AllReadyH.nil
      go_simp
      refine (c_i_WideOf _ _).mono ?_
      rintro e9 w12 ⟨rfl, hb9⟩
      dsimp only
      refine hK.out _ _ ⟨cell_past hb9 hHeld.1, cell_past hb9 hHeld.2.1, cell_past hb9 hHeld.2.2.1, hHeld.2.2.2.trans (hb9.mono hHeld.2.2.2.size)⟩ (fun hHeld => ?_)
      clear hK K
      try simp only [Act.put, List.setIfInBounds_toArray, List.set_cons_zero, List.set_cons_succ]
      refine take_S (i := 21) (d := 121) (v := .bool true) rfl rfl (by kernel_rfl) (by kernel_rfl) (by kernel_rfl) (fun _ _ _ h => h) (Or.inl ⟨by rfl, fun w hSw => ?_⟩) hHeld ?_
      · obtain ⟨g0, g1, g2, _⟩ := hSw; go_simp
      simp only [List.setIfInBounds_toArray, List.set_cons_zero, List.set_cons_succ]
      refine take_S (i := 22) (d := 122) (v := .bool true) rfl rfl (by kernel_rfl) (by kernel_rfl) (by kernel_rfl) (fun _ _ _ h => h) (Or.inl ⟨by rfl, fun w hSw => ?_⟩) hHeld ?_
      · obtain ⟨g0, g1, g2, _⟩ := hSw; go_simp
      simp only [List.setIfInBounds_toArray, List.set_cons_zero, List.set_cons_succ]
      refine take_S (i := 23) (d := 123) (v := .bool true) rfl rfl (by kernel_rfl) (by kernel_rfl) (by kernel_rfl) (fun _ _ _ h => h) (Or.inl ⟨by rfl, fun w hSw => ?_⟩) hHeld ?_
      · obtain ⟨g0, g1, g2, _⟩ := hSw; go_simp
      simp only [List.setIfInBounds_toArray, List.set_cons_zero, List.set_cons_succ]
      refine take_S (i := 24) (d := 124) (v := .int .u64 y) rfl rfl (by kernel_rfl) (by kernel_rfl) (by kernel_rfl) (fun _ _ _ h => h) (Or.inl ⟨by rfl, fun w hSw => ?_⟩) hHeld ?_
      · obtain ⟨g0, g1, g2, _⟩ := hSw; go_simp
      simp only [List.setIfInBounds_toArray, List.set_cons_zero, List.set_cons_succ]
      refine take_S (i := 25) (d := 125) (v := .int .u64 v) rfl rfl (by kernel_rfl) (by kernel_rfl) (by kernel_rfl) (fun _ _ _ h => h) (Or.inl ⟨by rfl, fun w hSw => ?_⟩) hHeld ?_
      · obtain ⟨g0, g1, g2, _⟩ := hSw; go_simp
      simp only [List.setIfInBounds_toArray, List.set_cons_zero, List.set_cons_succ]
      refine take_S (i := 27) (d := 127) (v := .int .u64 v) rfl rfl (by kernel_rfl) (by kernel_rfl) (by kernel_rfl) (fun _ _ _ h => h) (Or.inl ⟨by rfl, fun w hSw => ?_⟩) hHeld ?_
      · obtain ⟨g0, g1, g2, _⟩ := hSw; go_simp
      simp only [List.setIfInBounds_toArray, List.set_cons_zero, List.set_cons_succ]
      refine take_S (i := 28) (d := 128) (v := .int .u64 y) rfl rfl (by kernel_rfl) (by kernel_rfl) (by kernel_rfl) (fun _ _ _ h => h) (Or.inl ⟨by rfl, fun w hSw => ?_⟩) hHeld ?_
      · obtain ⟨g0, g1, g2, _⟩ := hSw; go_simp
      simp only [List.setIfInBounds_toArray, List.set_cons_zero, List.set_cons_succ]
      refine wpAnyH_ready (rs := [26]) (by kernel_rfl) (by simp) ?_
      refine AllReadyH.cons (i := 26) rfl (fun K hK => ?_) AllReadyH.nil
      go_simp
      refine (c_i_WeightAdd _ _ hU1 hU2 _).mono ?_
      rintro e9 w12 ⟨rfl, rfl⟩
      dsimp only
      refine hK.out _ _ hHeld (fun hHeld => ?_)
      clear hK K
      try simp only [Act.put, List.setIfInBounds_toArray, List.set_cons_zero, List.set_cons_succ]
      refine wpAnyH_ready (rs := [29]) (by kernel_rfl) (by simp) ?_
      refine AllReadyH.cons (i := 29) rfl (fun K hK => ?_) AllReadyH.nil
      go_simp
      refine (c_i_WeightAdd _ _ hU2 hU1 _).mono ?_
      rintro e9 w12 ⟨rfl, rfl⟩
      dsimp only
      refine hK.out _ _ hHeld (fun hHeld => ?_)
      clear hK K
      try simp only [Act.put, List.setIfInBounds_toArray, List.set_cons_zero, List.set_cons_succ]
      refine take_S (i := 30) (d := 130) (v := .bool true) rfl rfl (by kernel_rfl) (by kernel_rfl) (by kernel_rfl) (fun _ _ _ h => h) (Or.inl ⟨by rfl, fun w hSw => ?_⟩) hHeld ?_
      · obtain ⟨g0, g1, g2, _⟩ := hSw; go_simp
      simp only [List.setIfInBounds_toArray, List.set_cons_zero, List.set_cons_succ]
      refine take_S (i := 31) (d := 131) (v := .bool true) rfl rfl (by kernel_rfl) (by kernel_rfl) (by kernel_rfl) (fun _ _ _ h => h) (Or.inl ⟨by rfl, fun w hSw => ?_⟩) hHeld ?_
      · obtain ⟨g0, g1, g2, _⟩ := hSw; go_simp
      simp only [List.setIfInBounds_toArray, List.set_cons_zero, List.set_cons_succ]
      refine take_S (i := 32) (d := 4) (v := .bool true) rfl rfl (by kernel_rfl) (by kernel_rfl) (by kernel_rfl) (fun _ _ _ h => h) (Or.inl ⟨by rfl, fun w hSw => ?_⟩) hHeld ?_
      · obtain ⟨g0, g1, g2, _⟩ := hSw; go_simp
      simp only [List.setIfInBounds_toArray, List.set_cons_zero, List.set_cons_succ]
      refine wpAnyH_done (by kernel_rfl) ?_ _
      go_wp2
      go_ret
      exact ⟨rfl, hHeld.2.2.2⟩

theorem walkWide_long (ao1 ao2 : Option Addr) (l1 c1 l2 c2 : Nat) (w : World) (h9 : l1 ≤ maxLen) (h8 : l2 ≤ maxLen) (h : 1048576 < l1 ∨ 1048576 < l2) :
    Calls Tryd.prog 4 #[.slice ao1 l1 c1, .slice ao2 l2 c2] w fun e w' => e = .returned (.bool true) ∧ Below w.heap.size w w' := by
  unfold maxLen at h9 h8
  have hc : ((1048576 : Int) < (l1 : Int)) ∨ ((¬ (1048576 : Int) < (l1 : Int)) ∧ (1048576 : Int) < (l2 : Int)) := by omega
  clear h
  rcases hc with h | ⟨h, h'⟩
  · go_enter Tryd.func4, Tryd.ntmps4
    go_wp2
    go_ret
    exact ⟨rfl, Below.refl _ _⟩
  · go_enter Tryd.func4, Tryd.ntmps4
    go_wp2
    go_ret
    exact ⟨rfl, Below.refl _ _⟩
end Go.Proofs.YtohjpaokjhifoaaDoor
