/-
  A drawn put.
-/
import Derived.Test.YtmhojmgemiphkaaDrawQ
import Derived.Test.YtmhojmgemiphkaaDrawN
namespace Go.Proofs.Ytmhojmgemiphkaa
set_option linter.unusedVariables false
set_option linter.unusedSimpArgs false
open Go.ChangeShapes Go.WideShapes Go.ChangeAt Go.RowKit Go.PlainAid
set_option maxRecDepth 10000
theorem infoU8T : (Try.prog.info? 5).map (fun i => (i.zero, i.size, i.bytes)) = some (some (.int .u8 0), 1, 1) := by kernel_rfl

def DoneT (w w2 X : World) (pa : Option Addr) (n pc : Nat) (d t : Int) (L : List Hv) : Prop := OwnH X 0 (.slice pa n pc) L ∧ Below w.heap.size w X ∧ X.heap[w.heap.size]? = some (.cells #[.slice pa n pc, .int .i64 d, .int .i64 t] 28 (0, 0)) ∧ X.heap[w2.heap.size]? = some (.cells #[.slice pa n pc, .int .i64 d, .int .i64 t] 28 (0, 0))
theorem DoneT.past {w w2 X Y : World} {pa : Option Addr} {n pc : Nat} {d t : Int} {L : List Hv} (k : DoneT w w2 X pa n pc d t L) (hb : Below X.heap.size X Y) : DoneT w w2 Y pa n pc d t L :=
  ⟨k.1.past hb, k.2.1.trans (hb.mono k.2.1.size), by rw [hb.block _ (Array.getElem?_eq_some_iff.1 k.2.2.1).1]; exact k.2.2.1, by rw [hb.block _ (Array.getElem?_eq_some_iff.1 k.2.2.2).1]; exact k.2.2.2⟩
theorem dput_facts {w w2 X : World} {ln cap n pc B : Nat} {ao pa : Option Addr} {d t : Int} {L : List Hv} (hB : w.heap.size + 1 < B) (hw : B ≤ w2.heap.size) (own : OwnH w2 B (.slice pa n pc) L)
    (hg : (w2.alloc (.cells #[.slice pa n pc, .int .i64 d, .int .i64 t] 28)).grownBy X (some (w.heap.size + 1))) (hs : Src (w.alloc (.cells zeroTp 28)) (w.heap.size + 1) ao ln cap (w.heap.size + 1) X) :
    X.heap[w2.heap.size]? = some (.cells #[.slice pa n pc, .int .i64 d, .int .i64 t] 28 (0, 0)) ∧ X.heap[w.heap.size]? = some (.cells zeroTp 28 (0, 0)) ∧
    DoneT w w2 (((X.setCell ⟨w.heap.size, 0, none⟩ (.slice pa n pc)).setCell ⟨w.heap.size, 1, none⟩ (.int .i64 d)).setCell ⟨w.heap.size, 2, none⟩ (.int .i64 t)) pa n pc d t L := by
  have h1 : X.heap[w2.heap.size]? = some (.cells #[.slice pa n pc, .int .i64 d, .int .i64 t] 28 (0, 0)) := by
    rw [hg.block _ (by simp) (fun e => by have := Option.some.inj e; omega)]; exact heap_alloc_new w2 _
  have h2 : X.heap[w.heap.size]? = some (.cells zeroTp 28 (0, 0)) := by rw [hs.bel.block _ (by omega)]; exact heap_alloc_new w _
  have o2 : OwnH X B (.slice pa n pc) L := (own.past ((Below.refl _ _).alloc (Nat.le_refl _) _)).kept hg (fun k e e2 => by have := (own.lt k e).1; cases e2; omega)
  have q := o2.ne h2 (by decide)
  have bel : Below w.heap.size w X := ((Below.refl _ _).alloc (Nat.le_refl _) _).trans (hs.bel.mono (by omega))
  refine ⟨h1, h2, (((o2.le (Nat.zero_le _)).set q _).set q _).set q _, ((bel.setCell (Nat.le_refl _) _).setCell (Nat.le_refl _) _).setCell (Nat.le_refl _) _, row3 h2, ?_⟩
  rw [Below.heap_setCell _ _ _ _ (by simp; omega), Below.heap_setCell _ _ _ _ (by simp; omega), Below.heap_setCell _ _ _ _ (by simp; omega)]; exact h1
/-- What a drawn put is. -/
def DrawnPut (w : World) (e : Ending) (w' : World) : Prop := ∃ pa n pc d t L key wt, e = .returned (.tuple #[.agg #[.slice pa n pc, .int .i64 d, .int .i64 t], .string key, .int .i64 wt]) ∧ L.length = n ∧ OwnH w' 0 (.slice pa n pc) L ∧ I64 d ∧ I64 t ∧ (∀ x ∈ L, HvOk x) ∧ n ≤ 60 ∧ key.size ≤ 1048576 ∧ I64 wt ∧ Below w.heap.size w w'
theorem zero_conv {w0 : World} {g m : Nat} (h : w0.ownsRow 0 5 1 (.slice (some ⟨g, 0, none⟩) m m) m (madeCells (Value.int .u8 0).cells (m * 1)).toList) : (convert 36 9 (.slice (some ⟨g, 0, none⟩) m m)).run Try.prog w0 = .ok (.string (strOfNums (List.replicate m 0))) w0 :=
  run_convert_bytes_arg (P := Try.prog) w0 36 5 Try.underlying36 Try.underlying5 g 0 m m (List.replicate m 0) (by simp) (fun i hi => by
    rw [Nat.zero_add, h.cellAt i (by omega), Nat.mul_one, show (Value.int .u8 0).cells = #[Value.int .u8 0] from rfl, toList_madeCells_one]
    simp [hi]) 9 Try.underlying9
theorem str_size (l : List Int) : (strOfNums l).size = l.length := by simp [strOfNums, ByteArray.size]

theorem lit_past {X : World} {a lb k : Nat} {u0 u1 u2 v : Value} (h : X.cell? ⟨lb, k, none⟩ = some v) (hne : lb ≠ a) : (((X.setCell ⟨a, 0, none⟩ u0).setCell ⟨a, 1, none⟩ u1).setCell ⟨a, 2, none⟩ u2).cell? ⟨lb, k, none⟩ = some v := by
  have e : ∀ (Y : World) (j : Nat) (u : Value), (Y.setCell ⟨a, j, none⟩ u).cell? ⟨lb, k, none⟩ = Y.cell? ⟨lb, k, none⟩ := fun Y j u => by
    unfold World.cell?
    rw [Below.heap_setCell _ _ _ _ hne]
  rw [e, e, e]; exact h
set_option maxHeartbeats 2000000 in
theorem c_DrawTopPut {w : World} {ln cap : Nat} {ao : Option Addr} (hc : CodeAt w w.heap.size ao ln) :
    Calls Try.prog 18 #[.slice ao ln cap] w fun e w' => DrawnPut w e w' := by
  have HC := hide hc
  clear hc
  go_enter Try.func18, Try.ntmps18
  go_wp2_with fail
  refine (c_source_at (K := w.heap.size + 1) _ _ _ _ (by simp) (codeAt_on1 HC.out _)).mono ?_
  rintro e w1 ⟨rfl, hS1⟩
  go_wp2_with fail
  refine (c_l05Top (codeAt_on1 HC.out _) hS1).mono ?_
  rintro e w2 ⟨v, L, d, t, rfl, ⟨p, rfl, o1⟩, hd, ht, ok, len, hS2, hg2⟩
  obtain ⟨pa, pc, rfl⟩ := o1.any
  obtain ⟨n, hn⟩ : ∃ n, L.length = n := ⟨_, rfl⟩
  rw [hn] at o1 len
  rw [hn]
  have HN := hide hn
  clear hn
  go_wp2_with fail
  have bB : Below w2.heap.size w2 (w2.alloc (.cells #[.slice pa n pc, .int .i64 d, .int .i64 t] 28)) := (Below.refl _ _).alloc (Nat.le_refl _) _
  have HS3 := hide (src_past hS2 bB)
  have HF : Hid (∀ X, (w2.alloc (.cells #[.slice pa n pc, .int .i64 d, .int .i64 t] 28)).grownBy X (some (w.heap.size + 1)) → Src (w.alloc (.cells zeroTp 28)) (w.heap.size + 1) ao ln cap (w.heap.size + 1) X → X.heap[w2.heap.size]? = some (.cells #[.slice pa n pc, .int .i64 d, .int .i64 t] 28 (0, 0)) ∧ X.heap[w.heap.size]? = some (.cells zeroTp 28 (0, 0)) ∧
    DoneT w w2 (((X.setCell ⟨w.heap.size, 0, none⟩ (.slice pa n pc)).setCell ⟨w.heap.size, 1, none⟩ (.int .i64 d)).setCell ⟨w.heap.size, 2, none⟩ (.int .i64 t)) pa n pc d t L) := fun X hg hs => dput_facts (src_lt hS1) hg2.size o1 hg hs
  have HW := hide (src_lt HS3.out)
  have HD : Hid (I64 d ∧ I64 t ∧ (∀ x ∈ L, HvOk x) ∧ n ≤ 60) := (⟨hd, ht, ok, len⟩ : I64 d ∧ I64 t ∧ (∀ x ∈ L, HvOk x) ∧ n ≤ 60)
  clear bB hS2 hd ht ok len hg2 o1 hS1
  obtain ⟨W3, hW3⟩ : ∃ W3, w2.alloc (.cells #[.slice pa n pc, .int .i64 d, .int .i64 t] 28) = W3 := ⟨_, rfl⟩
  rw [hW3] at HS3 HW HF ⊢
  clear hW3
  refine (c_l05AnyKey (codeAt_on1 HC.out _) HS3.out).mono ?_
  rintro e w3 ⟨u, rfl, hu, hS4, hg4⟩
  have HG := hide hg4
  have HS := hide hS4
  have HU : Hid (u.size ≤ 1048576) := (by omega : u.size ≤ 1048576)
  clear hg4 hS4 HS3 hu
  go_wp2_with fail
  refine (c_one (codeAt_on1 HC.out _) HS.out _ (by omega)).mono ?_
  rintro e w4 ⟨bb, rfl, hS5, hg5⟩
  replace HG := hide (HG.out.trans hg5)
  replace HS := hide hS5
  clear hg5 hS5
  cases bb with
  | true =>
    go_wp2_with fail
    refine (c_n (codeAt_on1 HC.out _) HS.out _ (by omega)).mono ?_
    rintro e w5 ⟨x, rfl, x0, x1, _, hS6, hg6⟩
    have x1 := x1 (by omega)
    replace HG := hide (HG.out.trans hg6)
    replace HS := hide hS6
    clear hg6 hS6
    go_wp2_with fail
    refine (c_n (codeAt_on1 HC.out _) HS.out _ (by omega)).mono ?_
    rintro e w5' ⟨y, rfl, y0, y1, _, hS6, hg6⟩
    have y1 := y1 (by omega)
    replace HG := hide (HG.out.trans hg6)
    replace HS := hide hS6
    clear hg6 hS6
    obtain ⟨m, hm, hm1⟩ : ∃ m : Nat, wrap64 (x * (99 + y)) = (m : Int) ∧ m ≤ 101 := by
      have : x = 0 ∨ x = 1 := by omega
      rcases this with rfl | rfl
      · exact ⟨0, by simp [wrap64], by omega⟩
      · exact ⟨(99 + y).toNat, by rw [Int.one_mul, w64_id (by unfold I64; omega)]; omega, by omega⟩
    have hy9 : IntKind.i64.wrap (99 + y) = 99 + y := IntWalk.i64_in _ ⟨by omega, by omega⟩
    clear HU
    obtain ⟨i0, hi, hz0, hz1, hz2⟩ := info_parts infoU8T
    go_wp2_with (at_make; refine wpList_make_full _ rfl _ _ 36 rfl 0 5 i0 (.int .u8 0) 1 Try.underlying36 hi hz0 hz1 .i64 .i64 _ _ m rfl rfl hm hm (by rw [hz2]; omega) (by unfold maxLen; omega) (Nat.zero_le _) ?_; intro w0 hown0 hgrow0; have kc := zero_conv hown0; clear hown0)
    clear kc
    replace HG := hide (HG.out.trans (⟨hgrow0.os, hgrow0.tape, hgrow0.output, hgrow0.size, fun k hk _ => hgrow0.block k hk (by simp)⟩ : w5'.grownBy w0 (some (w.heap.size + 1))))
    replace HS := hide (src_past HS.out ((Below.refl _ _).grown hgrow0 (Nat.le_refl _) (fun k e => by cases e)))
    have HU : Hid ((strOfNums (List.replicate m 0)).size ≤ 1048576) := (by rw [str_size, List.length_replicate]; omega : (strOfNums (List.replicate m 0)).size ≤ 1048576)
    generalize strOfNums (List.replicate m 0) = u2 at HU ⊢
    clear hgrow0 hi hz0 hz1 hz2 hm hm1 x0 x1 y0 y1 hy9
    refine (c_one (codeAt_on1 HC.out _) HS.out _ (by omega)).mono ?_
    rintro e w6 ⟨bb, rfl, hS6, hg6⟩
    replace HG := hide (HG.out.trans hg6)
    replace HS := hide hS6
    clear hg6 hS6
    cases bb with
    | true =>
      go_wp2_with fail
      replace HG := hide (HG.out.trans (grown_drews w6 1 _))
      replace HS := hide (src_drews (k := 1) HS.out)
      refine regionK (fun W' => W'.heap[w2.heap.size]? = some (.cells #[.slice pa n pc, .int .i64 d, .int .i64 t] 28 (0, 0))) 10 (by rfl) ?_
      refine takeK (i := 0) (d := 26) (v := .agg #[.slice pa n pc, .int .i64 d, .int .i64 t]) rfl rfl (by kernel_rfl) (by kernel_rfl) (by kernel_rfl) (by decide) (by kernel_rfl) (fun _ _ _ h => h) (Or.inl ⟨by rfl, fun W hW => ?_⟩) (HF.out _ HG.out HS.out).1 ?_
      · obtain ⟨x0, x1, x2⟩ := cell3 hW
        go_simp
      simp only [List.setIfInBounds_toArray, List.set_cons_zero, List.set_cons_succ]
      refine takeK (i := 1) (d := 27) (v := .string u2) rfl rfl (by kernel_rfl) (by kernel_rfl) (by kernel_rfl) (by decide) (by kernel_rfl) (fun _ _ _ h => h) (Or.inl ⟨by rfl, fun W hW => ?_⟩) (HF.out _ HG.out HS.out).1 ?_
      · clear hW
        go_simp
      simp only [List.setIfInBounds_toArray, List.set_cons_zero, List.set_cons_succ]
      refine takeK (i := 3) (d := 29) (v := .pointer (some ⟨w.heap.size + 1, 0, none⟩)) rfl rfl (by kernel_rfl) (by kernel_rfl) (by kernel_rfl) (by decide) (by kernel_rfl) (fun _ _ _ h => h) (Or.inl ⟨by rfl, fun W hW => ?_⟩) (HF.out _ HG.out HS.out).1 ?_
      · clear hW
        go_simp
      simp only [List.setIfInBounds_toArray, List.set_cons_zero, List.set_cons_succ]
      refine twoK (i := 2) (j := 4) (by kernel_rfl) rfl rfl (fun K hK => ?_) (fun K hK => ?_)
      · go_simp
        have hlt6 := src_lt HS.out
        have hne6 : w6.heap.size ≠ w.heap.size := (by have : w.heap.size + 1 < w6.heap.size := hlt6; omega)
        replace HG := hide (HG.out.trans (World.grownBy_alloc _ (.cells #[.int .i64 0, .int .i64 (-1), .int .i64 1000000, .int .i64 1000001] 2) _))
        replace HS := hide (src_past HS.out ((Below.refl _ _).alloc (Nat.le_refl _) (.cells #[.int .i64 0, .int .i64 (-1), .int .i64 1000000, .int .i64 1000001] 2)))
        refine hK.out _ _ (fun _ => (HF.out _ HG.out HS.out).1) ?_
        clear hK K
        try simp only [Act.put, List.setIfInBounds_toArray, List.set_cons_zero, List.set_cons_succ]
        refine oneK (i := 4) (by kernel_rfl) rfl (fun K hK => ?_)
        go_simp
        refine (c_n (codeAt_on1 HC.out _) HS.out _ (by omega)).mono ?_
        rintro e w7 ⟨c, rfl, c0, c1, _, hS7, hg7⟩
        have c1 := c1 (by omega)
        obtain ⟨y, hy, hI⟩ := lit_cell hg7 hlt6 (by decide) c0 c1
        replace HG := hide (HG.out.trans hg7)
        replace HS := hide hS7
        clear hg7 hS7 hlt6
        dsimp only
        refine hK.out _ _ (fun _ => (HF.out _ HG.out HS.out).1) ?_
        clear hK K
        try simp only [Act.put, List.setIfInBounds_toArray, List.set_cons_zero, List.set_cons_succ]
        have hy : w7.cell? ⟨w6.heap.size, c.toNat, none⟩ = some (.int .i64 y) := hy
        have hne : w6.heap.size ≠ w.heap.size := hne6
        generalize w6.heap.size = lb at hy hne ⊢
        refine takeK (i := 5) (d := 31) (v := .pointer (some ⟨lb, c.toNat, none⟩)) rfl rfl (by kernel_rfl) (by kernel_rfl) (by kernel_rfl) (by decide) (by kernel_rfl) (fun _ _ _ h => h) (Or.inl ⟨by rfl, fun W hW => ?_⟩) (HF.out _ HG.out HS.out).1 ?_
        · clear hW
          go_simp
        simp only [List.setIfInBounds_toArray, List.set_cons_zero, List.set_cons_succ]
        refine twoK (i := 6) (j := 7) (by kernel_rfl) rfl rfl (fun K hK => ?_) (fun K hK => ?_)
        · go_simp
          refine hK.out _ _ (fun _ => (HF.out _ HG.out HS.out).1) ?_
          clear hK K
          try simp only [Act.put, List.setIfInBounds_toArray, List.set_cons_zero, List.set_cons_succ]
          obtain ⟨f1, f2, f3⟩ := HF.out _ HG.out HS.out
          have HI := hide f3
          obtain ⟨r0, r1, r2⟩ := cell3 f2
          have e0 := frozen_of_row w7 w.heap.size 0 _ _ f2
          have e1 := frozen_of_row w7 w.heap.size 1 _ _ f2
          have e2 := frozen_of_row w7 w.heap.size 2 _ _ f2
          clear f1 f2 f3
          refine oneK (i := 7) (by kernel_rfl) rfl (fun K hK => ?_)
          go_simp
          refine hK.out _ _ (fun _ => HI.out.2.2.2) ?_
          clear hK K r0 r1 r2 e0 e1 e2
          try simp only [Act.put, List.setIfInBounds_toArray, List.set_cons_zero, List.set_cons_succ]
          generalize (((w7.setCell ⟨w.heap.size, 0, none⟩ (.slice pa n pc)).setCell ⟨w.heap.size, 1, none⟩ (.int .i64 d)).setCell ⟨w.heap.size, 2, none⟩ (.int .i64 t)) = X7 at HI ⊢
          refine oneK (i := 8) (by kernel_rfl) rfl (fun K hK => ?_)
          go_simp
          refine hK.out _ _ (fun _ => HI.out.2.2.2) ?_
          clear hK K
          try simp only [Act.put, List.setIfInBounds_toArray, List.set_cons_zero, List.set_cons_succ]
          refine oneK (i := 9) (by kernel_rfl) rfl (fun K hK => ?_)
          go_simp
          refine hK.out _ _ (fun _ => HI.out.2.2.2) ?_
          clear hK K
          try simp only [Act.put, List.setIfInBounds_toArray, List.set_cons_zero, List.set_cons_succ]
          refine doneK (by kernel_rfl) ?_ _
          obtain ⟨r0, r1, r2⟩ := cell3 HI.out.2.2.1
          have HI2 : Hid (I64 y) := hI
          go_wp2
          refine bodyPost_ret (v := .tuple #[.agg #[.slice pa n pc, .int .i64 d, .int .i64 t], .string u2, .int .i64 y]) (by simp [results, Try.results18, go_sem, r0, r1, r2]) rfl ⟨pa, n, pc, d, t, L, u2, y, rfl, HN.out, HI.out.1, HD.out.1, HD.out.2.1, HD.out.2.2.1, HD.out.2.2.2, HU.out, HI2.out, HI.out.2.1⟩
        · have hyk := hy
          obtain ⟨f1, f2, f3⟩ := HF.out _ HG.out HS.out
          have HI := hide f3
          obtain ⟨r0, r1, r2⟩ := cell3 f2
          have e0 := frozen_of_row w7 w.heap.size 0 _ _ f2
          have e1 := frozen_of_row w7 w.heap.size 1 _ _ f2
          have e2 := frozen_of_row w7 w.heap.size 2 _ _ f2
          clear f1 f2 f3
          go_simp
          refine hK.out _ _ (fun _ => HI.out.2.2.2) ?_
          clear hK K r0 r1 r2 e0 e1 e2
          try simp only [Act.put, List.setIfInBounds_toArray, List.set_cons_zero, List.set_cons_succ]
          have hy7 : (((w7.setCell ⟨w.heap.size, 0, none⟩ (.slice pa n pc)).setCell ⟨w.heap.size, 1, none⟩ (.int .i64 d)).setCell ⟨w.heap.size, 2, none⟩ (.int .i64 t)).cell? ⟨lb, c.toNat, none⟩ = some (.int .i64 y) := lit_past hyk hne
          generalize (((w7.setCell ⟨w.heap.size, 0, none⟩ (.slice pa n pc)).setCell ⟨w.heap.size, 1, none⟩ (.int .i64 d)).setCell ⟨w.heap.size, 2, none⟩ (.int .i64 t)) = X7 at HI hy7 ⊢
          refine takeK (i := 8) (d := 3) (v := .string u2) rfl rfl (by kernel_rfl) (by kernel_rfl) (by kernel_rfl) (by decide) (by kernel_rfl) (fun _ _ _ h => h) (Or.inl ⟨by rfl, fun W hW => ?_⟩) HI.out.2.2.2 ?_
          · clear hW
            go_simp
          simp only [List.setIfInBounds_toArray, List.set_cons_zero, List.set_cons_succ]
          refine oneK (i := 6) (by kernel_rfl) rfl (fun K hK => ?_)
          go_simp
          refine hK.out _ _ (fun _ => HI.out.2.2.2) ?_
          clear hK K
          try simp only [Act.put, List.setIfInBounds_toArray, List.set_cons_zero, List.set_cons_succ]
          refine oneK (i := 9) (by kernel_rfl) rfl (fun K hK => ?_)
          go_simp
          refine hK.out _ _ (fun _ => HI.out.2.2.2) ?_
          clear hK K
          try simp only [Act.put, List.setIfInBounds_toArray, List.set_cons_zero, List.set_cons_succ]
          refine doneK (by kernel_rfl) ?_ _
          obtain ⟨r0, r1, r2⟩ := cell3 HI.out.2.2.1
          have HI2 : Hid (I64 y) := hI
          go_wp2
          refine bodyPost_ret (v := .tuple #[.agg #[.slice pa n pc, .int .i64 d, .int .i64 t], .string u2, .int .i64 y]) (by simp [results, Try.results18, go_sem, r0, r1, r2]) rfl ⟨pa, n, pc, d, t, L, u2, y, rfl, HN.out, HI.out.1, HD.out.1, HD.out.2.1, HD.out.2.2.1, HD.out.2.2.2, HU.out, HI2.out, HI.out.2.1⟩
      · go_simp
        refine (c_n (codeAt_on1 HC.out _) HS.out _ (by omega)).mono ?_
        rintro e w7 ⟨c, rfl, c0, c1, _, hS7, hg7⟩
        have c1 := c1 (by omega)
        replace HG := hide (HG.out.trans hg7)
        replace HS := hide hS7
        clear hg7 hS7
        dsimp only
        refine hK.out _ _ (fun _ => (HF.out _ HG.out HS.out).1) ?_
        clear hK K
        try simp only [Act.put, List.setIfInBounds_toArray, List.set_cons_zero, List.set_cons_succ]
        refine twoK (i := 2) (j := 7) (by kernel_rfl) rfl rfl (fun K hK => ?_) (fun K hK => ?_)
        · go_simp
          have hne : w7.heap.size ≠ w.heap.size := (by have := src_lt HS.out; omega)
          obtain ⟨y, hy, hI⟩ := lit_cell (w := w7) (cs := #[.int .i64 0, .int .i64 (-1), .int .i64 1000000, .int .i64 1000001]) (t := 2) (World.grownBy.refl _ (some (w.heap.size + 1))) (src_lt HS.out) (by decide) c0 c1
          replace HG := hide (HG.out.trans (World.grownBy_alloc _ (.cells #[.int .i64 0, .int .i64 (-1), .int .i64 1000000, .int .i64 1000001] 2) _))
          replace HS := hide (src_past HS.out ((Below.refl _ _).alloc (Nat.le_refl _) (.cells #[.int .i64 0, .int .i64 (-1), .int .i64 1000000, .int .i64 1000001] 2)))
          refine hK.out _ _ (fun _ => (HF.out _ HG.out HS.out).1) ?_
          clear hK K
          try simp only [Act.put, List.setIfInBounds_toArray, List.set_cons_zero, List.set_cons_succ]
          generalize (w7.alloc (.cells #[.int .i64 0, .int .i64 (-1), .int .i64 1000000, .int .i64 1000001] 2)) = w8 at HG HS hy ⊢
          generalize w7.heap.size = lb at hy hne ⊢
          refine takeK (i := 5) (d := 31) (v := .pointer (some ⟨lb, c.toNat, none⟩)) rfl rfl (by kernel_rfl) (by kernel_rfl) (by kernel_rfl) (by decide) (by kernel_rfl) (fun _ _ _ h => h) (Or.inl ⟨by rfl, fun W hW => ?_⟩) (HF.out _ HG.out HS.out).1 ?_
          · clear hW
            go_simp
          simp only [List.setIfInBounds_toArray, List.set_cons_zero, List.set_cons_succ]
          refine twoK (i := 6) (j := 7) (by kernel_rfl) rfl rfl (fun K hK => ?_) (fun K hK => ?_)
          · go_simp
            refine hK.out _ _ (fun _ => (HF.out _ HG.out HS.out).1) ?_
            clear hK K
            try simp only [Act.put, List.setIfInBounds_toArray, List.set_cons_zero, List.set_cons_succ]
            obtain ⟨f1, f2, f3⟩ := HF.out _ HG.out HS.out
            have HI := hide f3
            obtain ⟨r0, r1, r2⟩ := cell3 f2
            have e0 := frozen_of_row w8 w.heap.size 0 _ _ f2
            have e1 := frozen_of_row w8 w.heap.size 1 _ _ f2
            have e2 := frozen_of_row w8 w.heap.size 2 _ _ f2
            clear f1 f2 f3
            refine oneK (i := 7) (by kernel_rfl) rfl (fun K hK => ?_)
            go_simp
            refine hK.out _ _ (fun _ => HI.out.2.2.2) ?_
            clear hK K r0 r1 r2 e0 e1 e2
            try simp only [Act.put, List.setIfInBounds_toArray, List.set_cons_zero, List.set_cons_succ]
            generalize (((w8.setCell ⟨w.heap.size, 0, none⟩ (.slice pa n pc)).setCell ⟨w.heap.size, 1, none⟩ (.int .i64 d)).setCell ⟨w.heap.size, 2, none⟩ (.int .i64 t)) = X7 at HI ⊢
            refine oneK (i := 8) (by kernel_rfl) rfl (fun K hK => ?_)
            go_simp
            refine hK.out _ _ (fun _ => HI.out.2.2.2) ?_
            clear hK K
            try simp only [Act.put, List.setIfInBounds_toArray, List.set_cons_zero, List.set_cons_succ]
            refine oneK (i := 9) (by kernel_rfl) rfl (fun K hK => ?_)
            go_simp
            refine hK.out _ _ (fun _ => HI.out.2.2.2) ?_
            clear hK K
            try simp only [Act.put, List.setIfInBounds_toArray, List.set_cons_zero, List.set_cons_succ]
            refine doneK (by kernel_rfl) ?_ _
            obtain ⟨r0, r1, r2⟩ := cell3 HI.out.2.2.1
            have HI2 : Hid (I64 y) := hI
            go_wp2
            refine bodyPost_ret (v := .tuple #[.agg #[.slice pa n pc, .int .i64 d, .int .i64 t], .string u2, .int .i64 y]) (by simp [results, Try.results18, go_sem, r0, r1, r2]) rfl ⟨pa, n, pc, d, t, L, u2, y, rfl, HN.out, HI.out.1, HD.out.1, HD.out.2.1, HD.out.2.2.1, HD.out.2.2.2, HU.out, HI2.out, HI.out.2.1⟩
          · have hyk := hy
            obtain ⟨f1, f2, f3⟩ := HF.out _ HG.out HS.out
            have HI := hide f3
            obtain ⟨r0, r1, r2⟩ := cell3 f2
            have e0 := frozen_of_row w8 w.heap.size 0 _ _ f2
            have e1 := frozen_of_row w8 w.heap.size 1 _ _ f2
            have e2 := frozen_of_row w8 w.heap.size 2 _ _ f2
            clear f1 f2 f3
            go_simp
            refine hK.out _ _ (fun _ => HI.out.2.2.2) ?_
            clear hK K r0 r1 r2 e0 e1 e2
            try simp only [Act.put, List.setIfInBounds_toArray, List.set_cons_zero, List.set_cons_succ]
            have hy7 : (((w8.setCell ⟨w.heap.size, 0, none⟩ (.slice pa n pc)).setCell ⟨w.heap.size, 1, none⟩ (.int .i64 d)).setCell ⟨w.heap.size, 2, none⟩ (.int .i64 t)).cell? ⟨lb, c.toNat, none⟩ = some (.int .i64 y) := lit_past hyk hne
            generalize (((w8.setCell ⟨w.heap.size, 0, none⟩ (.slice pa n pc)).setCell ⟨w.heap.size, 1, none⟩ (.int .i64 d)).setCell ⟨w.heap.size, 2, none⟩ (.int .i64 t)) = X7 at HI hy7 ⊢
            refine takeK (i := 8) (d := 3) (v := .string u2) rfl rfl (by kernel_rfl) (by kernel_rfl) (by kernel_rfl) (by decide) (by kernel_rfl) (fun _ _ _ h => h) (Or.inl ⟨by rfl, fun W hW => ?_⟩) HI.out.2.2.2 ?_
            · clear hW
              go_simp
            simp only [List.setIfInBounds_toArray, List.set_cons_zero, List.set_cons_succ]
            refine oneK (i := 6) (by kernel_rfl) rfl (fun K hK => ?_)
            go_simp
            refine hK.out _ _ (fun _ => HI.out.2.2.2) ?_
            clear hK K
            try simp only [Act.put, List.setIfInBounds_toArray, List.set_cons_zero, List.set_cons_succ]
            refine oneK (i := 9) (by kernel_rfl) rfl (fun K hK => ?_)
            go_simp
            refine hK.out _ _ (fun _ => HI.out.2.2.2) ?_
            clear hK K
            try simp only [Act.put, List.setIfInBounds_toArray, List.set_cons_zero, List.set_cons_succ]
            refine doneK (by kernel_rfl) ?_ _
            obtain ⟨r0, r1, r2⟩ := cell3 HI.out.2.2.1
            have HI2 : Hid (I64 y) := hI
            go_wp2
            refine bodyPost_ret (v := .tuple #[.agg #[.slice pa n pc, .int .i64 d, .int .i64 t], .string u2, .int .i64 y]) (by simp [results, Try.results18, go_sem, r0, r1, r2]) rfl ⟨pa, n, pc, d, t, L, u2, y, rfl, HN.out, HI.out.1, HD.out.1, HD.out.2.1, HD.out.2.2.1, HD.out.2.2.2, HU.out, HI2.out, HI.out.2.1⟩
        · obtain ⟨f1, f2, f3⟩ := HF.out _ HG.out HS.out
          have HI := hide f3
          obtain ⟨r0, r1, r2⟩ := cell3 f2
          have e0 := frozen_of_row w7 w.heap.size 0 _ _ f2
          have e1 := frozen_of_row w7 w.heap.size 1 _ _ f2
          have e2 := frozen_of_row w7 w.heap.size 2 _ _ f2
          clear f1 f2 f3
          go_simp
          refine hK.out _ _ (fun _ => HI.out.2.2.2) ?_
          clear hK K r0 r1 r2 e0 e1 e2
          try simp only [Act.put, List.setIfInBounds_toArray, List.set_cons_zero, List.set_cons_succ]
          have hsz : w.heap.size + 1 < (((w7.setCell ⟨w.heap.size, 0, none⟩ (.slice pa n pc)).setCell ⟨w.heap.size, 1, none⟩ (.int .i64 d)).setCell ⟨w.heap.size, 2, none⟩ (.int .i64 t)).heap.size := (by simpa using src_lt HS.out)
          generalize (((w7.setCell ⟨w.heap.size, 0, none⟩ (.slice pa n pc)).setCell ⟨w.heap.size, 1, none⟩ (.int .i64 d)).setCell ⟨w.heap.size, 2, none⟩ (.int .i64 t)) = X7 at HI hsz ⊢
          refine takeK (i := 8) (d := 3) (v := .string u2) rfl rfl (by kernel_rfl) (by kernel_rfl) (by kernel_rfl) (by decide) (by kernel_rfl) (fun _ _ _ h => h) (Or.inl ⟨by rfl, fun W hW => ?_⟩) HI.out.2.2.2 ?_
          · clear hW
            go_simp
          simp only [List.setIfInBounds_toArray, List.set_cons_zero, List.set_cons_succ]
          refine oneK (i := 2) (by kernel_rfl) rfl (fun K hK => ?_)
          go_simp
          obtain ⟨y, hy, hI⟩ := lit_cell (w := X7) (cs := #[.int .i64 0, .int .i64 (-1), .int .i64 1000000, .int .i64 1000001]) (t := 2) (World.grownBy.refl _ (some (w.heap.size + 1))) hsz (by decide) c0 c1
          replace HI := hide (HI.out.past ((Below.refl _ _).alloc (Nat.le_refl _) (.cells #[.int .i64 0, .int .i64 (-1), .int .i64 1000000, .int .i64 1000001] 2)))
          refine hK.out _ _ (fun _ => HI.out.2.2.2) ?_
          clear hK K hsz
          try simp only [Act.put, List.setIfInBounds_toArray, List.set_cons_zero, List.set_cons_succ]
          generalize (X7.alloc (.cells #[.int .i64 0, .int .i64 (-1), .int .i64 1000000, .int .i64 1000001] 2)) = X8 at HI hy ⊢
          generalize X7.heap.size = lb at hy ⊢
          refine takeK (i := 5) (d := 31) (v := .pointer (some ⟨lb, c.toNat, none⟩)) rfl rfl (by kernel_rfl) (by kernel_rfl) (by kernel_rfl) (by decide) (by kernel_rfl) (fun _ _ _ h => h) (Or.inl ⟨by rfl, fun W hW => ?_⟩) HI.out.2.2.2 ?_
          · clear hW
            go_simp
          simp only [List.setIfInBounds_toArray, List.set_cons_zero, List.set_cons_succ]
          refine oneK (i := 6) (by kernel_rfl) rfl (fun K hK => ?_)
          go_simp
          refine hK.out _ _ (fun _ => HI.out.2.2.2) ?_
          clear hK K
          try simp only [Act.put, List.setIfInBounds_toArray, List.set_cons_zero, List.set_cons_succ]
          refine oneK (i := 9) (by kernel_rfl) rfl (fun K hK => ?_)
          go_simp
          refine hK.out _ _ (fun _ => HI.out.2.2.2) ?_
          clear hK K
          try simp only [Act.put, List.setIfInBounds_toArray, List.set_cons_zero, List.set_cons_succ]
          refine doneK (by kernel_rfl) ?_ _
          obtain ⟨r0, r1, r2⟩ := cell3 HI.out.2.2.1
          have HI2 : Hid (I64 y) := hI
          go_wp2
          refine bodyPost_ret (v := .tuple #[.agg #[.slice pa n pc, .int .i64 d, .int .i64 t], .string u2, .int .i64 y]) (by simp [results, Try.results18, go_sem, r0, r1, r2]) rfl ⟨pa, n, pc, d, t, L, u2, y, rfl, HN.out, HI.out.1, HD.out.1, HD.out.2.1, HD.out.2.2.1, HD.out.2.2.2, HU.out, HI2.out, HI.out.2.1⟩
    | false =>
      go_wp2_with fail
      replace HG := hide (HG.out.trans (grown_drews w6 1 _))
      replace HS := hide (src_drews (k := 1) HS.out)
      refine regionK (fun W' => W'.heap[w2.heap.size]? = some (.cells #[.slice pa n pc, .int .i64 d, .int .i64 t] 28 (0, 0))) 8 (by rfl) ?_
      refine takeK (i := 0) (d := 33) (v := .agg #[.slice pa n pc, .int .i64 d, .int .i64 t]) rfl rfl (by kernel_rfl) (by kernel_rfl) (by kernel_rfl) (by decide) (by kernel_rfl) (fun _ _ _ h => h) (Or.inl ⟨by rfl, fun W hW => ?_⟩) (HF.out _ HG.out HS.out).1 ?_
      · obtain ⟨x0, x1, x2⟩ := cell3 hW
        go_simp
      simp only [List.setIfInBounds_toArray, List.set_cons_zero, List.set_cons_succ]
      refine takeK (i := 1) (d := 34) (v := .string u2) rfl rfl (by kernel_rfl) (by kernel_rfl) (by kernel_rfl) (by decide) (by kernel_rfl) (fun _ _ _ h => h) (Or.inl ⟨by rfl, fun W hW => ?_⟩) (HF.out _ HG.out HS.out).1 ?_
      · clear hW
        go_simp
      simp only [List.setIfInBounds_toArray, List.set_cons_zero, List.set_cons_succ]
      refine takeK (i := 2) (d := 35) (v := .pointer (some ⟨w.heap.size + 1, 0, none⟩)) rfl rfl (by kernel_rfl) (by kernel_rfl) (by kernel_rfl) (by decide) (by kernel_rfl) (fun _ _ _ h => h) (Or.inl ⟨by rfl, fun W hW => ?_⟩) (HF.out _ HG.out HS.out).1 ?_
      · clear hW
        go_simp
      simp only [List.setIfInBounds_toArray, List.set_cons_zero, List.set_cons_succ]
      refine oneK (i := 3) (by kernel_rfl) rfl (fun K hK => ?_)
      go_simp
      refine (c_n (codeAt_on1 HC.out _) HS.out _ (by omega)).mono ?_
      rintro e w7 ⟨c, rfl, c0, c1, _, hS7, hg7⟩
      have c1 := c1 (by omega)
      replace HG := hide (HG.out.trans hg7)
      replace HS := hide hS7
      clear hg7 hS7
      dsimp only
      refine hK.out _ _ (fun _ => (HF.out _ HG.out HS.out).1) ?_
      clear hK K
      try simp only [Act.put, List.setIfInBounds_toArray, List.set_cons_zero, List.set_cons_succ]
      have w1c : IntKind.i64.wrap (1 + c) = 1 + c := IntWalk.i64_in _ ⟨by omega, by omega⟩
      refine takeK (i := 4) (d := 37) (v := .int .i64 (1 + c)) rfl rfl (by kernel_rfl) (by kernel_rfl) (by kernel_rfl) (by decide) (by kernel_rfl) (fun _ _ _ h => h) (Or.inl ⟨by rfl, fun W hW => ?_⟩) (HF.out _ HG.out HS.out).1 ?_
      · clear hW
        go_simp
      simp only [List.setIfInBounds_toArray, List.set_cons_zero, List.set_cons_succ]
      obtain ⟨f1, f2, f3⟩ := HF.out _ HG.out HS.out
      have HI := hide f3
      obtain ⟨r0, r1, r2⟩ := cell3 f2
      have e0 := frozen_of_row w7 w.heap.size 0 _ _ f2
      have e1 := frozen_of_row w7 w.heap.size 1 _ _ f2
      have e2 := frozen_of_row w7 w.heap.size 2 _ _ f2
      clear f1 f2 f3
      refine oneK (i := 5) (by kernel_rfl) rfl (fun K hK => ?_)
      go_simp
      refine hK.out _ _ (fun _ => HI.out.2.2.2) ?_
      clear hK K r0 r1 r2 e0 e1 e2
      try simp only [Act.put, List.setIfInBounds_toArray, List.set_cons_zero, List.set_cons_succ]
      generalize (((w7.setCell ⟨w.heap.size, 0, none⟩ (.slice pa n pc)).setCell ⟨w.heap.size, 1, none⟩ (.int .i64 d)).setCell ⟨w.heap.size, 2, none⟩ (.int .i64 t)) = X7 at HI ⊢
      refine oneK (i := 6) (by kernel_rfl) rfl (fun K hK => ?_)
      go_simp
      refine hK.out _ _ (fun _ => HI.out.2.2.2) ?_
      clear hK K
      try simp only [Act.put, List.setIfInBounds_toArray, List.set_cons_zero, List.set_cons_succ]
      refine oneK (i := 7) (by kernel_rfl) rfl (fun K hK => ?_)
      go_simp
      refine hK.out _ _ (fun _ => HI.out.2.2.2) ?_
      clear hK K
      try simp only [Act.put, List.setIfInBounds_toArray, List.set_cons_zero, List.set_cons_succ]
      refine doneK (by kernel_rfl) ?_ _
      obtain ⟨r0, r1, r2⟩ := cell3 HI.out.2.2.1
      have HI2 : Hid (I64 (1 + c)) := (by unfold I64; omega : I64 (1 + c))
      go_wp2
      refine bodyPost_ret (v := .tuple #[.agg #[.slice pa n pc, .int .i64 d, .int .i64 t], .string u2, .int .i64 (1 + c)]) (by simp [results, Try.results18, go_sem, r0, r1, r2]) rfl ⟨pa, n, pc, d, t, L, u2, (1 + c), rfl, HN.out, HI.out.1, HD.out.1, HD.out.2.1, HD.out.2.2.1, HD.out.2.2.2, HU.out, HI2.out, HI.out.2.1⟩
  | false =>
    go_wp2_with fail
    refine (c_one (codeAt_on1 HC.out _) HS.out _ (by omega)).mono ?_
    rintro e w6 ⟨bb, rfl, hS6, hg6⟩
    replace HG := hide (HG.out.trans hg6)
    replace HS := hide hS6
    clear hg6 hS6
    cases bb with
    | true =>
      go_wp2_with fail
      replace HG := hide (HG.out.trans (grown_drews w6 1 _))
      replace HS := hide (src_drews (k := 1) HS.out)
      refine regionK (fun W' => W'.heap[w2.heap.size]? = some (.cells #[.slice pa n pc, .int .i64 d, .int .i64 t] 28 (0, 0))) 10 (by rfl) ?_
      refine takeK (i := 0) (d := 26) (v := .agg #[.slice pa n pc, .int .i64 d, .int .i64 t]) rfl rfl (by kernel_rfl) (by kernel_rfl) (by kernel_rfl) (by decide) (by kernel_rfl) (fun _ _ _ h => h) (Or.inl ⟨by rfl, fun W hW => ?_⟩) (HF.out _ HG.out HS.out).1 ?_
      · obtain ⟨x0, x1, x2⟩ := cell3 hW
        go_simp
      simp only [List.setIfInBounds_toArray, List.set_cons_zero, List.set_cons_succ]
      refine takeK (i := 1) (d := 27) (v := .string u) rfl rfl (by kernel_rfl) (by kernel_rfl) (by kernel_rfl) (by decide) (by kernel_rfl) (fun _ _ _ h => h) (Or.inl ⟨by rfl, fun W hW => ?_⟩) (HF.out _ HG.out HS.out).1 ?_
      · clear hW
        go_simp
      simp only [List.setIfInBounds_toArray, List.set_cons_zero, List.set_cons_succ]
      refine takeK (i := 3) (d := 29) (v := .pointer (some ⟨w.heap.size + 1, 0, none⟩)) rfl rfl (by kernel_rfl) (by kernel_rfl) (by kernel_rfl) (by decide) (by kernel_rfl) (fun _ _ _ h => h) (Or.inl ⟨by rfl, fun W hW => ?_⟩) (HF.out _ HG.out HS.out).1 ?_
      · clear hW
        go_simp
      simp only [List.setIfInBounds_toArray, List.set_cons_zero, List.set_cons_succ]
      refine twoK (i := 2) (j := 4) (by kernel_rfl) rfl rfl (fun K hK => ?_) (fun K hK => ?_)
      · go_simp
        have hlt6 := src_lt HS.out
        have hne6 : w6.heap.size ≠ w.heap.size := (by have : w.heap.size + 1 < w6.heap.size := hlt6; omega)
        replace HG := hide (HG.out.trans (World.grownBy_alloc _ (.cells #[.int .i64 0, .int .i64 (-1), .int .i64 1000000, .int .i64 1000001] 2) _))
        replace HS := hide (src_past HS.out ((Below.refl _ _).alloc (Nat.le_refl _) (.cells #[.int .i64 0, .int .i64 (-1), .int .i64 1000000, .int .i64 1000001] 2)))
        refine hK.out _ _ (fun _ => (HF.out _ HG.out HS.out).1) ?_
        clear hK K
        try simp only [Act.put, List.setIfInBounds_toArray, List.set_cons_zero, List.set_cons_succ]
        refine oneK (i := 4) (by kernel_rfl) rfl (fun K hK => ?_)
        go_simp
        refine (c_n (codeAt_on1 HC.out _) HS.out _ (by omega)).mono ?_
        rintro e w7 ⟨c, rfl, c0, c1, _, hS7, hg7⟩
        have c1 := c1 (by omega)
        obtain ⟨y, hy, hI⟩ := lit_cell hg7 hlt6 (by decide) c0 c1
        replace HG := hide (HG.out.trans hg7)
        replace HS := hide hS7
        clear hg7 hS7 hlt6
        dsimp only
        refine hK.out _ _ (fun _ => (HF.out _ HG.out HS.out).1) ?_
        clear hK K
        try simp only [Act.put, List.setIfInBounds_toArray, List.set_cons_zero, List.set_cons_succ]
        have hy : w7.cell? ⟨w6.heap.size, c.toNat, none⟩ = some (.int .i64 y) := hy
        have hne : w6.heap.size ≠ w.heap.size := hne6
        generalize w6.heap.size = lb at hy hne ⊢
        refine takeK (i := 5) (d := 31) (v := .pointer (some ⟨lb, c.toNat, none⟩)) rfl rfl (by kernel_rfl) (by kernel_rfl) (by kernel_rfl) (by decide) (by kernel_rfl) (fun _ _ _ h => h) (Or.inl ⟨by rfl, fun W hW => ?_⟩) (HF.out _ HG.out HS.out).1 ?_
        · clear hW
          go_simp
        simp only [List.setIfInBounds_toArray, List.set_cons_zero, List.set_cons_succ]
        refine twoK (i := 6) (j := 7) (by kernel_rfl) rfl rfl (fun K hK => ?_) (fun K hK => ?_)
        · go_simp
          refine hK.out _ _ (fun _ => (HF.out _ HG.out HS.out).1) ?_
          clear hK K
          try simp only [Act.put, List.setIfInBounds_toArray, List.set_cons_zero, List.set_cons_succ]
          obtain ⟨f1, f2, f3⟩ := HF.out _ HG.out HS.out
          have HI := hide f3
          obtain ⟨r0, r1, r2⟩ := cell3 f2
          have e0 := frozen_of_row w7 w.heap.size 0 _ _ f2
          have e1 := frozen_of_row w7 w.heap.size 1 _ _ f2
          have e2 := frozen_of_row w7 w.heap.size 2 _ _ f2
          clear f1 f2 f3
          refine oneK (i := 7) (by kernel_rfl) rfl (fun K hK => ?_)
          go_simp
          refine hK.out _ _ (fun _ => HI.out.2.2.2) ?_
          clear hK K r0 r1 r2 e0 e1 e2
          try simp only [Act.put, List.setIfInBounds_toArray, List.set_cons_zero, List.set_cons_succ]
          generalize (((w7.setCell ⟨w.heap.size, 0, none⟩ (.slice pa n pc)).setCell ⟨w.heap.size, 1, none⟩ (.int .i64 d)).setCell ⟨w.heap.size, 2, none⟩ (.int .i64 t)) = X7 at HI ⊢
          refine oneK (i := 8) (by kernel_rfl) rfl (fun K hK => ?_)
          go_simp
          refine hK.out _ _ (fun _ => HI.out.2.2.2) ?_
          clear hK K
          try simp only [Act.put, List.setIfInBounds_toArray, List.set_cons_zero, List.set_cons_succ]
          refine oneK (i := 9) (by kernel_rfl) rfl (fun K hK => ?_)
          go_simp
          refine hK.out _ _ (fun _ => HI.out.2.2.2) ?_
          clear hK K
          try simp only [Act.put, List.setIfInBounds_toArray, List.set_cons_zero, List.set_cons_succ]
          refine doneK (by kernel_rfl) ?_ _
          obtain ⟨r0, r1, r2⟩ := cell3 HI.out.2.2.1
          have HI2 : Hid (I64 y) := hI
          go_wp2
          refine bodyPost_ret (v := .tuple #[.agg #[.slice pa n pc, .int .i64 d, .int .i64 t], .string u, .int .i64 y]) (by simp [results, Try.results18, go_sem, r0, r1, r2]) rfl ⟨pa, n, pc, d, t, L, u, y, rfl, HN.out, HI.out.1, HD.out.1, HD.out.2.1, HD.out.2.2.1, HD.out.2.2.2, HU.out, HI2.out, HI.out.2.1⟩
        · have hyk := hy
          obtain ⟨f1, f2, f3⟩ := HF.out _ HG.out HS.out
          have HI := hide f3
          obtain ⟨r0, r1, r2⟩ := cell3 f2
          have e0 := frozen_of_row w7 w.heap.size 0 _ _ f2
          have e1 := frozen_of_row w7 w.heap.size 1 _ _ f2
          have e2 := frozen_of_row w7 w.heap.size 2 _ _ f2
          clear f1 f2 f3
          go_simp
          refine hK.out _ _ (fun _ => HI.out.2.2.2) ?_
          clear hK K r0 r1 r2 e0 e1 e2
          try simp only [Act.put, List.setIfInBounds_toArray, List.set_cons_zero, List.set_cons_succ]
          have hy7 : (((w7.setCell ⟨w.heap.size, 0, none⟩ (.slice pa n pc)).setCell ⟨w.heap.size, 1, none⟩ (.int .i64 d)).setCell ⟨w.heap.size, 2, none⟩ (.int .i64 t)).cell? ⟨lb, c.toNat, none⟩ = some (.int .i64 y) := lit_past hyk hne
          generalize (((w7.setCell ⟨w.heap.size, 0, none⟩ (.slice pa n pc)).setCell ⟨w.heap.size, 1, none⟩ (.int .i64 d)).setCell ⟨w.heap.size, 2, none⟩ (.int .i64 t)) = X7 at HI hy7 ⊢
          refine takeK (i := 8) (d := 3) (v := .string u) rfl rfl (by kernel_rfl) (by kernel_rfl) (by kernel_rfl) (by decide) (by kernel_rfl) (fun _ _ _ h => h) (Or.inl ⟨by rfl, fun W hW => ?_⟩) HI.out.2.2.2 ?_
          · clear hW
            go_simp
          simp only [List.setIfInBounds_toArray, List.set_cons_zero, List.set_cons_succ]
          refine oneK (i := 6) (by kernel_rfl) rfl (fun K hK => ?_)
          go_simp
          refine hK.out _ _ (fun _ => HI.out.2.2.2) ?_
          clear hK K
          try simp only [Act.put, List.setIfInBounds_toArray, List.set_cons_zero, List.set_cons_succ]
          refine oneK (i := 9) (by kernel_rfl) rfl (fun K hK => ?_)
          go_simp
          refine hK.out _ _ (fun _ => HI.out.2.2.2) ?_
          clear hK K
          try simp only [Act.put, List.setIfInBounds_toArray, List.set_cons_zero, List.set_cons_succ]
          refine doneK (by kernel_rfl) ?_ _
          obtain ⟨r0, r1, r2⟩ := cell3 HI.out.2.2.1
          have HI2 : Hid (I64 y) := hI
          go_wp2
          refine bodyPost_ret (v := .tuple #[.agg #[.slice pa n pc, .int .i64 d, .int .i64 t], .string u, .int .i64 y]) (by simp [results, Try.results18, go_sem, r0, r1, r2]) rfl ⟨pa, n, pc, d, t, L, u, y, rfl, HN.out, HI.out.1, HD.out.1, HD.out.2.1, HD.out.2.2.1, HD.out.2.2.2, HU.out, HI2.out, HI.out.2.1⟩
      · go_simp
        refine (c_n (codeAt_on1 HC.out _) HS.out _ (by omega)).mono ?_
        rintro e w7 ⟨c, rfl, c0, c1, _, hS7, hg7⟩
        have c1 := c1 (by omega)
        replace HG := hide (HG.out.trans hg7)
        replace HS := hide hS7
        clear hg7 hS7
        dsimp only
        refine hK.out _ _ (fun _ => (HF.out _ HG.out HS.out).1) ?_
        clear hK K
        try simp only [Act.put, List.setIfInBounds_toArray, List.set_cons_zero, List.set_cons_succ]
        refine twoK (i := 2) (j := 7) (by kernel_rfl) rfl rfl (fun K hK => ?_) (fun K hK => ?_)
        · go_simp
          have hne : w7.heap.size ≠ w.heap.size := (by have := src_lt HS.out; omega)
          obtain ⟨y, hy, hI⟩ := lit_cell (w := w7) (cs := #[.int .i64 0, .int .i64 (-1), .int .i64 1000000, .int .i64 1000001]) (t := 2) (World.grownBy.refl _ (some (w.heap.size + 1))) (src_lt HS.out) (by decide) c0 c1
          replace HG := hide (HG.out.trans (World.grownBy_alloc _ (.cells #[.int .i64 0, .int .i64 (-1), .int .i64 1000000, .int .i64 1000001] 2) _))
          replace HS := hide (src_past HS.out ((Below.refl _ _).alloc (Nat.le_refl _) (.cells #[.int .i64 0, .int .i64 (-1), .int .i64 1000000, .int .i64 1000001] 2)))
          refine hK.out _ _ (fun _ => (HF.out _ HG.out HS.out).1) ?_
          clear hK K
          try simp only [Act.put, List.setIfInBounds_toArray, List.set_cons_zero, List.set_cons_succ]
          generalize (w7.alloc (.cells #[.int .i64 0, .int .i64 (-1), .int .i64 1000000, .int .i64 1000001] 2)) = w8 at HG HS hy ⊢
          generalize w7.heap.size = lb at hy hne ⊢
          refine takeK (i := 5) (d := 31) (v := .pointer (some ⟨lb, c.toNat, none⟩)) rfl rfl (by kernel_rfl) (by kernel_rfl) (by kernel_rfl) (by decide) (by kernel_rfl) (fun _ _ _ h => h) (Or.inl ⟨by rfl, fun W hW => ?_⟩) (HF.out _ HG.out HS.out).1 ?_
          · clear hW
            go_simp
          simp only [List.setIfInBounds_toArray, List.set_cons_zero, List.set_cons_succ]
          refine twoK (i := 6) (j := 7) (by kernel_rfl) rfl rfl (fun K hK => ?_) (fun K hK => ?_)
          · go_simp
            refine hK.out _ _ (fun _ => (HF.out _ HG.out HS.out).1) ?_
            clear hK K
            try simp only [Act.put, List.setIfInBounds_toArray, List.set_cons_zero, List.set_cons_succ]
            obtain ⟨f1, f2, f3⟩ := HF.out _ HG.out HS.out
            have HI := hide f3
            obtain ⟨r0, r1, r2⟩ := cell3 f2
            have e0 := frozen_of_row w8 w.heap.size 0 _ _ f2
            have e1 := frozen_of_row w8 w.heap.size 1 _ _ f2
            have e2 := frozen_of_row w8 w.heap.size 2 _ _ f2
            clear f1 f2 f3
            refine oneK (i := 7) (by kernel_rfl) rfl (fun K hK => ?_)
            go_simp
            refine hK.out _ _ (fun _ => HI.out.2.2.2) ?_
            clear hK K r0 r1 r2 e0 e1 e2
            try simp only [Act.put, List.setIfInBounds_toArray, List.set_cons_zero, List.set_cons_succ]
            generalize (((w8.setCell ⟨w.heap.size, 0, none⟩ (.slice pa n pc)).setCell ⟨w.heap.size, 1, none⟩ (.int .i64 d)).setCell ⟨w.heap.size, 2, none⟩ (.int .i64 t)) = X7 at HI ⊢
            refine oneK (i := 8) (by kernel_rfl) rfl (fun K hK => ?_)
            go_simp
            refine hK.out _ _ (fun _ => HI.out.2.2.2) ?_
            clear hK K
            try simp only [Act.put, List.setIfInBounds_toArray, List.set_cons_zero, List.set_cons_succ]
            refine oneK (i := 9) (by kernel_rfl) rfl (fun K hK => ?_)
            go_simp
            refine hK.out _ _ (fun _ => HI.out.2.2.2) ?_
            clear hK K
            try simp only [Act.put, List.setIfInBounds_toArray, List.set_cons_zero, List.set_cons_succ]
            refine doneK (by kernel_rfl) ?_ _
            obtain ⟨r0, r1, r2⟩ := cell3 HI.out.2.2.1
            have HI2 : Hid (I64 y) := hI
            go_wp2
            refine bodyPost_ret (v := .tuple #[.agg #[.slice pa n pc, .int .i64 d, .int .i64 t], .string u, .int .i64 y]) (by simp [results, Try.results18, go_sem, r0, r1, r2]) rfl ⟨pa, n, pc, d, t, L, u, y, rfl, HN.out, HI.out.1, HD.out.1, HD.out.2.1, HD.out.2.2.1, HD.out.2.2.2, HU.out, HI2.out, HI.out.2.1⟩
          · have hyk := hy
            obtain ⟨f1, f2, f3⟩ := HF.out _ HG.out HS.out
            have HI := hide f3
            obtain ⟨r0, r1, r2⟩ := cell3 f2
            have e0 := frozen_of_row w8 w.heap.size 0 _ _ f2
            have e1 := frozen_of_row w8 w.heap.size 1 _ _ f2
            have e2 := frozen_of_row w8 w.heap.size 2 _ _ f2
            clear f1 f2 f3
            go_simp
            refine hK.out _ _ (fun _ => HI.out.2.2.2) ?_
            clear hK K r0 r1 r2 e0 e1 e2
            try simp only [Act.put, List.setIfInBounds_toArray, List.set_cons_zero, List.set_cons_succ]
            have hy7 : (((w8.setCell ⟨w.heap.size, 0, none⟩ (.slice pa n pc)).setCell ⟨w.heap.size, 1, none⟩ (.int .i64 d)).setCell ⟨w.heap.size, 2, none⟩ (.int .i64 t)).cell? ⟨lb, c.toNat, none⟩ = some (.int .i64 y) := lit_past hyk hne
            generalize (((w8.setCell ⟨w.heap.size, 0, none⟩ (.slice pa n pc)).setCell ⟨w.heap.size, 1, none⟩ (.int .i64 d)).setCell ⟨w.heap.size, 2, none⟩ (.int .i64 t)) = X7 at HI hy7 ⊢
            refine takeK (i := 8) (d := 3) (v := .string u) rfl rfl (by kernel_rfl) (by kernel_rfl) (by kernel_rfl) (by decide) (by kernel_rfl) (fun _ _ _ h => h) (Or.inl ⟨by rfl, fun W hW => ?_⟩) HI.out.2.2.2 ?_
            · clear hW
              go_simp
            simp only [List.setIfInBounds_toArray, List.set_cons_zero, List.set_cons_succ]
            refine oneK (i := 6) (by kernel_rfl) rfl (fun K hK => ?_)
            go_simp
            refine hK.out _ _ (fun _ => HI.out.2.2.2) ?_
            clear hK K
            try simp only [Act.put, List.setIfInBounds_toArray, List.set_cons_zero, List.set_cons_succ]
            refine oneK (i := 9) (by kernel_rfl) rfl (fun K hK => ?_)
            go_simp
            refine hK.out _ _ (fun _ => HI.out.2.2.2) ?_
            clear hK K
            try simp only [Act.put, List.setIfInBounds_toArray, List.set_cons_zero, List.set_cons_succ]
            refine doneK (by kernel_rfl) ?_ _
            obtain ⟨r0, r1, r2⟩ := cell3 HI.out.2.2.1
            have HI2 : Hid (I64 y) := hI
            go_wp2
            refine bodyPost_ret (v := .tuple #[.agg #[.slice pa n pc, .int .i64 d, .int .i64 t], .string u, .int .i64 y]) (by simp [results, Try.results18, go_sem, r0, r1, r2]) rfl ⟨pa, n, pc, d, t, L, u, y, rfl, HN.out, HI.out.1, HD.out.1, HD.out.2.1, HD.out.2.2.1, HD.out.2.2.2, HU.out, HI2.out, HI.out.2.1⟩
        · obtain ⟨f1, f2, f3⟩ := HF.out _ HG.out HS.out
          have HI := hide f3
          obtain ⟨r0, r1, r2⟩ := cell3 f2
          have e0 := frozen_of_row w7 w.heap.size 0 _ _ f2
          have e1 := frozen_of_row w7 w.heap.size 1 _ _ f2
          have e2 := frozen_of_row w7 w.heap.size 2 _ _ f2
          clear f1 f2 f3
          go_simp
          refine hK.out _ _ (fun _ => HI.out.2.2.2) ?_
          clear hK K r0 r1 r2 e0 e1 e2
          try simp only [Act.put, List.setIfInBounds_toArray, List.set_cons_zero, List.set_cons_succ]
          have hsz : w.heap.size + 1 < (((w7.setCell ⟨w.heap.size, 0, none⟩ (.slice pa n pc)).setCell ⟨w.heap.size, 1, none⟩ (.int .i64 d)).setCell ⟨w.heap.size, 2, none⟩ (.int .i64 t)).heap.size := (by simpa using src_lt HS.out)
          generalize (((w7.setCell ⟨w.heap.size, 0, none⟩ (.slice pa n pc)).setCell ⟨w.heap.size, 1, none⟩ (.int .i64 d)).setCell ⟨w.heap.size, 2, none⟩ (.int .i64 t)) = X7 at HI hsz ⊢
          refine takeK (i := 8) (d := 3) (v := .string u) rfl rfl (by kernel_rfl) (by kernel_rfl) (by kernel_rfl) (by decide) (by kernel_rfl) (fun _ _ _ h => h) (Or.inl ⟨by rfl, fun W hW => ?_⟩) HI.out.2.2.2 ?_
          · clear hW
            go_simp
          simp only [List.setIfInBounds_toArray, List.set_cons_zero, List.set_cons_succ]
          refine oneK (i := 2) (by kernel_rfl) rfl (fun K hK => ?_)
          go_simp
          obtain ⟨y, hy, hI⟩ := lit_cell (w := X7) (cs := #[.int .i64 0, .int .i64 (-1), .int .i64 1000000, .int .i64 1000001]) (t := 2) (World.grownBy.refl _ (some (w.heap.size + 1))) hsz (by decide) c0 c1
          replace HI := hide (HI.out.past ((Below.refl _ _).alloc (Nat.le_refl _) (.cells #[.int .i64 0, .int .i64 (-1), .int .i64 1000000, .int .i64 1000001] 2)))
          refine hK.out _ _ (fun _ => HI.out.2.2.2) ?_
          clear hK K hsz
          try simp only [Act.put, List.setIfInBounds_toArray, List.set_cons_zero, List.set_cons_succ]
          generalize (X7.alloc (.cells #[.int .i64 0, .int .i64 (-1), .int .i64 1000000, .int .i64 1000001] 2)) = X8 at HI hy ⊢
          generalize X7.heap.size = lb at hy ⊢
          refine takeK (i := 5) (d := 31) (v := .pointer (some ⟨lb, c.toNat, none⟩)) rfl rfl (by kernel_rfl) (by kernel_rfl) (by kernel_rfl) (by decide) (by kernel_rfl) (fun _ _ _ h => h) (Or.inl ⟨by rfl, fun W hW => ?_⟩) HI.out.2.2.2 ?_
          · clear hW
            go_simp
          simp only [List.setIfInBounds_toArray, List.set_cons_zero, List.set_cons_succ]
          refine oneK (i := 6) (by kernel_rfl) rfl (fun K hK => ?_)
          go_simp
          refine hK.out _ _ (fun _ => HI.out.2.2.2) ?_
          clear hK K
          try simp only [Act.put, List.setIfInBounds_toArray, List.set_cons_zero, List.set_cons_succ]
          refine oneK (i := 9) (by kernel_rfl) rfl (fun K hK => ?_)
          go_simp
          refine hK.out _ _ (fun _ => HI.out.2.2.2) ?_
          clear hK K
          try simp only [Act.put, List.setIfInBounds_toArray, List.set_cons_zero, List.set_cons_succ]
          refine doneK (by kernel_rfl) ?_ _
          obtain ⟨r0, r1, r2⟩ := cell3 HI.out.2.2.1
          have HI2 : Hid (I64 y) := hI
          go_wp2
          refine bodyPost_ret (v := .tuple #[.agg #[.slice pa n pc, .int .i64 d, .int .i64 t], .string u, .int .i64 y]) (by simp [results, Try.results18, go_sem, r0, r1, r2]) rfl ⟨pa, n, pc, d, t, L, u, y, rfl, HN.out, HI.out.1, HD.out.1, HD.out.2.1, HD.out.2.2.1, HD.out.2.2.2, HU.out, HI2.out, HI.out.2.1⟩
    | false =>
      go_wp2_with fail
      replace HG := hide (HG.out.trans (grown_drews w6 1 _))
      replace HS := hide (src_drews (k := 1) HS.out)
      refine regionK (fun W' => W'.heap[w2.heap.size]? = some (.cells #[.slice pa n pc, .int .i64 d, .int .i64 t] 28 (0, 0))) 8 (by rfl) ?_
      refine takeK (i := 0) (d := 33) (v := .agg #[.slice pa n pc, .int .i64 d, .int .i64 t]) rfl rfl (by kernel_rfl) (by kernel_rfl) (by kernel_rfl) (by decide) (by kernel_rfl) (fun _ _ _ h => h) (Or.inl ⟨by rfl, fun W hW => ?_⟩) (HF.out _ HG.out HS.out).1 ?_
      · obtain ⟨x0, x1, x2⟩ := cell3 hW
        go_simp
      simp only [List.setIfInBounds_toArray, List.set_cons_zero, List.set_cons_succ]
      refine takeK (i := 1) (d := 34) (v := .string u) rfl rfl (by kernel_rfl) (by kernel_rfl) (by kernel_rfl) (by decide) (by kernel_rfl) (fun _ _ _ h => h) (Or.inl ⟨by rfl, fun W hW => ?_⟩) (HF.out _ HG.out HS.out).1 ?_
      · clear hW
        go_simp
      simp only [List.setIfInBounds_toArray, List.set_cons_zero, List.set_cons_succ]
      refine takeK (i := 2) (d := 35) (v := .pointer (some ⟨w.heap.size + 1, 0, none⟩)) rfl rfl (by kernel_rfl) (by kernel_rfl) (by kernel_rfl) (by decide) (by kernel_rfl) (fun _ _ _ h => h) (Or.inl ⟨by rfl, fun W hW => ?_⟩) (HF.out _ HG.out HS.out).1 ?_
      · clear hW
        go_simp
      simp only [List.setIfInBounds_toArray, List.set_cons_zero, List.set_cons_succ]
      refine oneK (i := 3) (by kernel_rfl) rfl (fun K hK => ?_)
      go_simp
      refine (c_n (codeAt_on1 HC.out _) HS.out _ (by omega)).mono ?_
      rintro e w7 ⟨c, rfl, c0, c1, _, hS7, hg7⟩
      have c1 := c1 (by omega)
      replace HG := hide (HG.out.trans hg7)
      replace HS := hide hS7
      clear hg7 hS7
      dsimp only
      refine hK.out _ _ (fun _ => (HF.out _ HG.out HS.out).1) ?_
      clear hK K
      try simp only [Act.put, List.setIfInBounds_toArray, List.set_cons_zero, List.set_cons_succ]
      have w1c : IntKind.i64.wrap (1 + c) = 1 + c := IntWalk.i64_in _ ⟨by omega, by omega⟩
      refine takeK (i := 4) (d := 37) (v := .int .i64 (1 + c)) rfl rfl (by kernel_rfl) (by kernel_rfl) (by kernel_rfl) (by decide) (by kernel_rfl) (fun _ _ _ h => h) (Or.inl ⟨by rfl, fun W hW => ?_⟩) (HF.out _ HG.out HS.out).1 ?_
      · clear hW
        go_simp
      simp only [List.setIfInBounds_toArray, List.set_cons_zero, List.set_cons_succ]
      obtain ⟨f1, f2, f3⟩ := HF.out _ HG.out HS.out
      have HI := hide f3
      obtain ⟨r0, r1, r2⟩ := cell3 f2
      have e0 := frozen_of_row w7 w.heap.size 0 _ _ f2
      have e1 := frozen_of_row w7 w.heap.size 1 _ _ f2
      have e2 := frozen_of_row w7 w.heap.size 2 _ _ f2
      clear f1 f2 f3
      refine oneK (i := 5) (by kernel_rfl) rfl (fun K hK => ?_)
      go_simp
      refine hK.out _ _ (fun _ => HI.out.2.2.2) ?_
      clear hK K r0 r1 r2 e0 e1 e2
      try simp only [Act.put, List.setIfInBounds_toArray, List.set_cons_zero, List.set_cons_succ]
      generalize (((w7.setCell ⟨w.heap.size, 0, none⟩ (.slice pa n pc)).setCell ⟨w.heap.size, 1, none⟩ (.int .i64 d)).setCell ⟨w.heap.size, 2, none⟩ (.int .i64 t)) = X7 at HI ⊢
      refine oneK (i := 6) (by kernel_rfl) rfl (fun K hK => ?_)
      go_simp
      refine hK.out _ _ (fun _ => HI.out.2.2.2) ?_
      clear hK K
      try simp only [Act.put, List.setIfInBounds_toArray, List.set_cons_zero, List.set_cons_succ]
      refine oneK (i := 7) (by kernel_rfl) rfl (fun K hK => ?_)
      go_simp
      refine hK.out _ _ (fun _ => HI.out.2.2.2) ?_
      clear hK K
      try simp only [Act.put, List.setIfInBounds_toArray, List.set_cons_zero, List.set_cons_succ]
      refine doneK (by kernel_rfl) ?_ _
      obtain ⟨r0, r1, r2⟩ := cell3 HI.out.2.2.1
      have HI2 : Hid (I64 (1 + c)) := (by unfold I64; omega : I64 (1 + c))
      go_wp2
      refine bodyPost_ret (v := .tuple #[.agg #[.slice pa n pc, .int .i64 d, .int .i64 t], .string u, .int .i64 (1 + c)]) (by simp [results, Try.results18, go_sem, r0, r1, r2]) rfl ⟨pa, n, pc, d, t, L, u, (1 + c), rfl, HN.out, HI.out.1, HD.out.1, HD.out.2.1, HD.out.2.2.1, HD.out.2.2.2, HU.out, HI2.out, HI.out.2.1⟩
end Go.Proofs.Ytmhojmgemiphkaa
