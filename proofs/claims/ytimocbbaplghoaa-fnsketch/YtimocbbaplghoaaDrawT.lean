/-
  The draws of chapter 4.
-/
import Derived.Test.YtimocbbaplghoaaDrawS
namespace Go.Proofs.Ytimocbbaplghoaa
set_option linter.unusedVariables false
set_option linter.unusedSimpArgs false
open Go.ChangeShapes Go.WideShapes Go.ChangeAt Go.RowKit Go.PlainAid Go.Lib
set_option maxRecDepth 10000

/-- A sketch with valid bins in memory. -/
structure SkI (w : World) (z h l : Int) (pa : Option Addr) (pn pc : Nat) (na : Option Addr) (nn nc : Nat) (P N : List Bn) : Prop where
  lp : P.length = pn
  ln : N.length = nn
  hP : BinsAt w pa P
  hN : BinsAt w na N
  kP : ∀ x ∈ P, BnOk x
  kN : ∀ x ∈ N, BnOk x
  hz : U64 z
  hl : U64 l
  cA : pa = none → pc = 0
  cA' : na = none → nc = 0
  lP : pn ≤ 60
  lN : nn ≤ 60
theorem SkI.past {w w' : World} {z h l : Int} {pa na : Option Addr} {pn pc nn nc : Nat} {P N : List Bn} (k : SkI w z h l pa pn pc na nn nc P N) (hb : Below w.heap.size w w') : SkI w' z h l pa pn pc na nn nc P N :=
  ⟨k.lp, k.ln, bins_past k.hP hb, bins_past k.hN hb, k.kP, k.kN, k.hz, k.hl, k.cA, k.cA', k.lP, k.lN⟩
theorem codeAt_in {w w' : World} {ao : Option Addr} {ln K B : Nat} (h : CodeAt w K ao ln) (hb : Below K w w') (hw : K ≤ w.heap.size) (hK : K ≤ B) : CodeAt w' B ao ln := by
  refine ⟨h.1, fun h0 => ?_⟩
  obtain ⟨b, off, e, hlt, hc⟩ := h.2 h0
  exact ⟨b, off, e, by omega, fun i hi => by
    obtain ⟨x, hx, h1, h2⟩ := hc i hi
    refine ⟨x, ?_, h1, h2⟩
    rw [show w'.cell? ⟨b, off + i, none⟩ = w.cell? ⟨b, off + i, none⟩ from ?_]; exact hx
    unfold World.cell?
    rw [hb.block b hlt]⟩
theorem codeAt_on1 {w : World} {ao : Option Addr} {ln : Nat} (h : CodeAt w w.heap.size ao ln) (o : Obj) : CodeAt (w.alloc o) (w.heap.size + 1) ao ln := codeAt_in h ((Below.refl _ _).alloc (Nat.le_refl _) _) (Nat.le_refl _) (by omega)
theorem codeAt_on22 {w : World} {ao : Option Addr} {ln : Nat} (h : CodeAt w w.heap.size ao ln) (o o' : Obj) : CodeAt ((w.alloc o).alloc o') (w.heap.size + 2) ao ln := codeAt_in h (((Below.refl _ _).alloc (Nat.le_refl _) _).alloc (by simp) _) (Nat.le_refl _) (by omega)
theorem c_source_at (ao : Option Addr) (ln cap : Nat) (w : World) {K : Nat} (hK : w.heap.size = K) (hc : CodeAt w K ao ln) :
    Calls Try.prog 19 #[.slice ao ln cap] w fun e w' => e = .returned (.pointer (some ⟨K, 0, none⟩)) ∧ Src w K ao ln cap K w' := by
  subst hK; exact c_l01Source ao ln cap w hc
theorem bel5 {w w2 : World} {K r : Nat} {z h l : Int} {p n : Value} (hb : Below K w w2) (hr : K ≤ r) : Below K w (sk5 w2 r z p n h l) :=
  ((((hb.setCell hr _).setCell hr _).setCell hr _).setCell hr _).setCell hr _
theorem own5 {w2 : World} {K r k : Nat} {v p n : Value} {z h l : Int} {L : List Bn} {cs : Array Value} (ho : OwnB w2 K v k L) (hr : w2.heap[r]? = some (.cells cs 28 (0, 0))) : OwnB (sk5 w2 r z p n h l) K v k L := by
  have q := ho.ne hr (by decide)
  exact ((((ho.set q _).set q _).set q _).set q _).set q _
theorem own55 {w2 : World} {K r r' k : Nat} {v p n p' n' : Value} {z h l z' h' l' : Int} {L : List Bn} {cs cs' : Array Value} (ho : OwnB w2 K v k L) (hr : w2.heap[r]? = some (.cells cs 28 (0, 0))) (hr' : w2.heap[r']? = some (.cells cs' 28 (0, 0))) : OwnB (sk5 (sk5 w2 r z p n h l) r' z' p' n' h' l') K v k L := by
  have q := ho.ne hr (by decide)
  have q' := ho.ne hr' (by decide)
  exact (((((((((ho.set q _).set q _).set q _).set q _).set q _).set q' _).set q' _).set q' _).set q' _).set q' _
set_option maxHeartbeats 1000000 in
theorem c_DrawSketchWeight {w : World} {ln cap : Nat} {ao : Option Addr} (hc : CodeAt w w.heap.size ao ln) :
    Calls Try.prog 14 #[.slice ao ln cap] w fun e w' => ∃ z h l pa pn pc na nn nc P N, e = .returned (.agg #[.int .u64 z, .slice pa pn pc, .slice na nn nc, .int .i64 h, .int .u64 l]) ∧ SkI w' z h l pa pn pc na nn nc P N ∧ Below w.heap.size w w' := by
  have HC := hide hc
  clear hc
  go_enter Try.func14, Try.ntmps14
  go_wp2_with fail
  refine (c_source_at (K := w.heap.size + 1) _ _ _ _ (by simp) (codeAt_on1 HC.out _)).mono ?_
  rintro e w1 ⟨rfl, hS1⟩
  go_wp2_with fail
  refine (c_l03Sketch (codeAt_on1 HC.out _) hS1).mono ?_
  rintro e w2 ⟨v, z, h, l, P, N, rfl, ⟨p, n, pn, nn, rfl, o1, o2, hap⟩, hz, hl, kP, kN, lP, lN, hS2, hg2⟩
  obtain ⟨pa, pc, rfl⟩ := o1.any
  obtain ⟨na, nc, rfl⟩ := o2.any
  have res : w2.heap[w.heap.size]? = some (.cells zeroSk 28 (0, 0)) := by rw [hS2.bel.block _ (by omega)]; exact heap_alloc_new w _
  obtain ⟨r0, r1, r2, r3, r4⟩ := cell5 res
  have e0 := frozen_of_row w2 w.heap.size 0 _ _ res
  have e1 := frozen_of_row w2 w.heap.size 1 _ _ res
  have e2 := frozen_of_row w2 w.heap.size 2 _ _ res
  have e3 := frozen_of_row w2 w.heap.size 3 _ _ res
  have e4 := frozen_of_row w2 w.heap.size 4 _ _ res
  have q1 := o1.ne res (by decide)
  have q2 := o2.ne res (by decide)
  have HI : Hid (SkI (sk5 w2 w.heap.size z (.slice pa pn pc) (.slice na nn nc) h l) z h l pa pn pc na nn nc P N) := (⟨o1.1.symm, o2.1.symm, (((((o1.set q1 _).set q1 _).set q1 _).set q1 _).set q1 _).at, (((((o2.set q2 _).set q2 _).set q2 _).set q2 _).set q2 _).at, kP, kN, hz, hl, o1.nil0, o2.nil0, by rw [o1.1]; exact lP, by rw [o2.1]; exact lN⟩ : SkI (sk5 w2 w.heap.size z (.slice pa pn pc) (.slice na nn nc) h l) z h l pa pn pc na nn nc P N)
  have bel : Below w.heap.size w w2 := ((Below.refl _ _).alloc (Nat.le_refl _) _).trans (hS2.bel.mono (by omega))
  have HB : Hid (Below w.heap.size w (sk5 w2 w.heap.size z (.slice pa pn pc) (.slice na nn nc) h l)) := (bel5 bel (Nat.le_refl _) : Below w.heap.size w (sk5 w2 w.heap.size z (.slice pa pn pc) (.slice na nn nc) h l))
  clear hS1 hS2 hg2 o1 o2 hap kP kN res bel q1 q2 lP lN hz hl
  go_wp2
  refine bodyPost_ret (v := .agg #[.int .u64 z, .slice pa pn pc, .slice na nn nc, .int .i64 h, .int .u64 l]) (by simp [results, Try.results14, go_sem, r0, r1, r2, r3, r4]) rfl ⟨z, h, l, pa, pn, pc, na, nn, nc, P, N, rfl, HI.out, HB.out⟩
set_option maxHeartbeats 1000000 in
theorem c_DrawSketchMerge {w : World} {ln cap : Nat} {ao : Option Addr} (hc : CodeAt w w.heap.size ao ln) :
    Calls Try.prog 13 #[.slice ao ln cap] w fun e w' => ∃ z h l pa pn pc na nn nc P N z' h' l' pa' pn' pc' na' nn' nc' P' N', e = .returned (.tuple #[.agg #[.int .u64 z, .slice pa pn pc, .slice na nn nc, .int .i64 h, .int .u64 l], .agg #[.int .u64 z', .slice pa' pn' pc', .slice na' nn' nc', .int .i64 h', .int .u64 l']]) ∧ SkI w' z h l pa pn pc na nn nc P N ∧ SkI w' z' h' l' pa' pn' pc' na' nn' nc' P' N' ∧ Below w.heap.size w w' := by
  have HC := hide hc
  clear hc
  go_enter Try.func13, Try.ntmps13
  go_wp2_with fail
  refine (c_source_at (K := w.heap.size + 2) _ _ _ _ (by simp) (codeAt_on22 HC.out _ _)).mono ?_
  rintro e w1 ⟨rfl, hS1⟩
  go_wp2_with fail
  refine (c_l03Sketch (codeAt_on22 HC.out _ _) hS1).mono ?_
  rintro e w2 ⟨v, z, h, l, P, N, rfl, ⟨p, n, pn, nn, rfl, o1, o2, hap⟩, hz, hl, kP, kN, lP, lN, hS2, hg2⟩
  obtain ⟨pa, pc, rfl⟩ := o1.any
  obtain ⟨na, nc, rfl⟩ := o2.any
  go_wp2_with fail
  have row3 : ((w2.alloc (.cells #[.int .u64 z, .slice pa pn pc, .slice na nn nc, .int .i64 h, .int .u64 l] 28)).drew).heap[w2.heap.size]? = some (.cells #[.int .u64 z, .slice pa pn pc, .slice na nn nc, .int .i64 h, .int .u64 l] 28 (0, 0)) := heap_alloc_new w2 _
  have hs1 := src_lt hS1
  have hs2 := hg2.size
  have bB : Below w2.heap.size w2 ((w2.alloc (.cells #[.int .u64 z, .slice pa pn pc, .slice na nn nc, .int .i64 h, .int .u64 l] 28)).drew) := ((Below.refl _ _).alloc (Nat.le_refl _) _).drew
  have S3 := src_past hS2 bB
  refine regionK (fun W' => W'.heap[w2.heap.size]? = some (.cells #[.int .u64 z, .slice pa pn pc, .slice na nn nc, .int .i64 h, .int .u64 l] 28 (0, 0))) 4 (by rfl) ?_
  refine takeK (i := 0) (d := 10) (v := .agg #[.int .u64 z, .slice pa pn pc, .slice na nn nc, .int .i64 h, .int .u64 l]) rfl rfl (by kernel_rfl) (by kernel_rfl) (by kernel_rfl) (by decide) (by kernel_rfl) (fun _ _ _ h => h) (Or.inl ⟨by rfl, fun W hW => ?_⟩) row3 ?_
  · obtain ⟨x0, x1, x2, x3, x4⟩ := cell5 hW
    go_simp
  simp only [List.setIfInBounds_toArray, List.set_cons_zero, List.set_cons_succ]
  refine takeK (i := 1) (d := 11) (v := .pointer (some ⟨w.heap.size + 2, 0, none⟩)) rfl rfl (by kernel_rfl) (by kernel_rfl) (by kernel_rfl) (by decide) (by kernel_rfl) (fun _ _ _ h => h) (Or.inl ⟨by rfl, fun W hW => ?_⟩) row3 ?_
  · clear hW
    go_simp
  simp only [List.setIfInBounds_toArray, List.set_cons_zero, List.set_cons_succ]
  refine oneK (i := 2) (by kernel_rfl) rfl (fun K hK => ?_)
  go_simp
  refine (c_l03Sketch (codeAt_on22 HC.out _ _) S3).mono ?_
  rintro e w4 ⟨v', z', h', l', P', N', rfl, ⟨p', n', pn', nn', rfl, o3, o4, hap'⟩, hz', hl', kP', kN', lP', lN', hS4, hg4⟩
  obtain ⟨pa', pc', rfl⟩ := o3.any
  obtain ⟨na', nc', rfl⟩ := o4.any
  have row4 : w4.heap[w2.heap.size]? = some (.cells #[.int .u64 z, .slice pa pn pc, .slice na nn nc, .int .i64 h, .int .u64 l] 28 (0, 0)) := by rw [hg4.block _ (by simp) (fun e => by have := Option.some.inj e; omega)]; exact row3
  have hne : ∀ {v : Value} {k : Nat} {L : List Bn}, OwnB ((w2.alloc (.cells #[.int .u64 z, .slice pa pn pc, .slice na nn nc, .int .i64 h, .int .u64 l] 28)).drew) w1.heap.size v k L → v.ownBlock = none ∨ v.ownBlock ≠ some (w.heap.size + 2) := fun {v k L} ho => .inr (fun e => by have := (ho.lt _ e).1; omega)
  have t1 := (o1.past bB).kept hg4 (hne (o1.past bB))
  have t2 := (o2.past bB).kept hg4 (hne (o2.past bB))
  have res1 : w4.heap[w.heap.size]? = some (.cells zeroSk 28 (0, 0)) := by rw [hS4.bel.block _ (by omega)]; rw [heap_alloc_old _ _ (by simp)]; exact heap_alloc_new w _
  have res2 : w4.heap[w.heap.size + 1]? = some (.cells zeroSk 28 (0, 0)) := by rw [hS4.bel.block _ (by omega)]; simpa using heap_alloc_new (w.alloc (.cells zeroSk 28)) (.cells zeroSk 28)
  have bel : Below w.heap.size w w4 := (((Below.refl _ _).alloc (Nat.le_refl _) _).alloc (by simp) _).trans (hS4.bel.mono (by omega))
  have row5' : ∀ u0 u1 u2 u3 u4, (((((w4.setCell ⟨w.heap.size, 0, none⟩ u0).setCell ⟨w.heap.size, 1, none⟩ u1).setCell ⟨w.heap.size, 2, none⟩ u2).setCell ⟨w.heap.size, 3, none⟩ u3).setCell ⟨w.heap.size, 4, none⟩ u4).heap[w2.heap.size]? = some (.cells #[.int .u64 z, .slice pa pn pc, .slice na nn nc, .int .i64 h, .int .u64 l] 28 (0, 0)) := fun u0 u1 u2 u3 u4 => by
    rw [Below.heap_setCell _ _ _ _ (by simp; omega), Below.heap_setCell _ _ _ _ (by simp; omega), Below.heap_setCell _ _ _ _ (by simp; omega), Below.heap_setCell _ _ _ _ (by simp; omega), Below.heap_setCell _ _ _ _ (by simp; omega)]; exact row4
  have HR5 := hide row5'
  have HI : Hid (SkI (sk5 (sk5 w4 w.heap.size z (.slice pa pn pc) (.slice na nn nc) h l) (w.heap.size + 1) z' (.slice pa' pn' pc') (.slice na' nn' nc') h' l') z h l pa pn pc na nn nc P N ∧ SkI (sk5 (sk5 w4 w.heap.size z (.slice pa pn pc) (.slice na nn nc) h l) (w.heap.size + 1) z' (.slice pa' pn' pc') (.slice na' nn' nc') h' l') z' h' l' pa' pn' pc' na' nn' nc' P' N' ∧ Below w.heap.size w (sk5 (sk5 w4 w.heap.size z (.slice pa pn pc) (.slice na nn nc) h l) (w.heap.size + 1) z' (.slice pa' pn' pc') (.slice na' nn' nc') h' l')) :=
    (⟨⟨t1.1.symm, t2.1.symm, (own55 t1 res1 res2).at, (own55 t2 res1 res2).at, kP, kN, hz, hl, t1.nil0, t2.nil0, by rw [t1.1]; exact lP, by rw [t2.1]; exact lN⟩, ⟨o3.1.symm, o4.1.symm, (own55 o3 res1 res2).at, (own55 o4 res1 res2).at, kP', kN', hz', hl', o3.nil0, o4.nil0, by rw [o3.1]; exact lP', by rw [o4.1]; exact lN'⟩, bel5 (bel5 bel (Nat.le_refl _)) (Nat.le_succ _)⟩ : SkI (sk5 (sk5 w4 w.heap.size z (.slice pa pn pc) (.slice na nn nc) h l) (w.heap.size + 1) z' (.slice pa' pn' pc') (.slice na' nn' nc') h' l') z h l pa pn pc na nn nc P N ∧ SkI (sk5 (sk5 w4 w.heap.size z (.slice pa pn pc) (.slice na nn nc) h l) (w.heap.size + 1) z' (.slice pa' pn' pc') (.slice na' nn' nc') h' l') z' h' l' pa' pn' pc' na' nn' nc' P' N' ∧ Below w.heap.size w (sk5 (sk5 w4 w.heap.size z (.slice pa pn pc) (.slice na nn nc) h l) (w.heap.size + 1) z' (.slice pa' pn' pc') (.slice na' nn' nc') h' l'))
  obtain ⟨r0, r1, r2, r3, r4⟩ := cell5 res1
  obtain ⟨y0, y1, y2, y3, y4⟩ := cell5 res2
  have e0 := frozen_of_row w4 w.heap.size 0 _ _ res1
  have f0 := frozen_of_row w4 (w.heap.size + 1) 0 _ _ res2
  have e1 := frozen_of_row w4 w.heap.size 1 _ _ res1
  have f1 := frozen_of_row w4 (w.heap.size + 1) 1 _ _ res2
  have e2 := frozen_of_row w4 w.heap.size 2 _ _ res1
  have f2 := frozen_of_row w4 (w.heap.size + 1) 2 _ _ res2
  have e3 := frozen_of_row w4 w.heap.size 3 _ _ res1
  have f3 := frozen_of_row w4 (w.heap.size + 1) 3 _ _ res2
  have e4 := frozen_of_row w4 w.heap.size 4 _ _ res1
  have f4 := frozen_of_row w4 (w.heap.size + 1) 4 _ _ res2
  have R4 := hide row4
  clear row3 row4 row5' hs1 hs2 S3 o1 o2 o3 o4 hap hap' hz hl hz' hl' kP kN kP' kN' lP lN lP' lN' hS4 hg4 hne t1 t2 res1 res2 bel bB hS1 hS2 hg2
  dsimp only
  refine hK.out _ _ (fun _ => R4.out) ?_
  clear hK K
  try simp only [Act.put, List.setIfInBounds_toArray, List.set_cons_zero, List.set_cons_succ]
  refine oneK (i := 3) (by kernel_rfl) rfl (fun K hK => ?_)
  go_simp
  refine hK.out _ _ (fun _ => HR5.out _ _ _ _ _) ?_
  clear hK K
  try simp only [Act.put, List.setIfInBounds_toArray, List.set_cons_zero, List.set_cons_succ]
  refine oneK (i := 4) (by kernel_rfl) rfl (fun K hK => ?_)
  go_simp
  refine hK.out _ _ (fun h => absurd rfl h) ?_
  clear hK K
  try simp only [Act.put, List.setIfInBounds_toArray, List.set_cons_zero, List.set_cons_succ]
  refine doneK (by kernel_rfl) ?_ _
  go_wp2
  refine bodyPost_ret (v := .tuple #[.agg #[.int .u64 z, .slice pa pn pc, .slice na nn nc, .int .i64 h, .int .u64 l], .agg #[.int .u64 z', .slice pa' pn' pc', .slice na' nn' nc', .int .i64 h', .int .u64 l']]) (by simp [results, Try.results13, go_sem, r0, r1, r2, r3, r4, y0, y1, y2, y3, y4]) rfl ⟨z, h, l, pa, pn, pc, na, nn, nc, P, N, z', h', l', pa', pn', pc', na', nn', nc', P', N', rfl, HI.out⟩
set_option maxHeartbeats 1000000 in
theorem c_DrawSketchPut {w : World} {ln cap : Nat} {ao : Option Addr} (hc : CodeAt w w.heap.size ao ln) :
    Calls Try.prog 5 #[.slice ao ln cap] w fun e w' => ∃ z h l pa pn pc na nn nc P N v wt, e = .returned (.tuple #[.agg #[.int .u64 z, .slice pa pn pc, .slice na nn nc, .int .i64 h, .int .u64 l], .int .i64 v, .int .u64 wt]) ∧ I64 v ∧ U64 wt ∧ SkI w' z h l pa pn pc na nn nc P N ∧ Below w.heap.size w w' := by
  have HC := hide hc
  clear hc
  go_enter Try.func5, Try.ntmps5
  go_wp2_with fail
  refine (c_source_at (K := w.heap.size + 1) _ _ _ _ (by simp) (codeAt_on1 HC.out _)).mono ?_
  rintro e w1 ⟨rfl, hS1⟩
  go_wp2_with fail
  refine (c_l03Sketch (codeAt_on1 HC.out _) hS1).mono ?_
  rintro e w2 ⟨v, z, h, l, P, N, rfl, ⟨p, n, pn, nn, rfl, o1, o2, hap⟩, hz, hl, kP, kN, lP, lN, hS2, hg2⟩
  obtain ⟨pa, pc, rfl⟩ := o1.any
  obtain ⟨na, nc, rfl⟩ := o2.any
  go_wp2_with fail
  have bB : Below w2.heap.size w2 (w2.alloc (.cells #[.int .u64 z, .slice pa pn pc, .slice na nn nc, .int .i64 h, .int .u64 l] 28)) := (Below.refl _ _).alloc (Nat.le_refl _) _
  have S3 := src_past hS2 bB
  refine (c_l03Any (codeAt_on1 HC.out _) S3).mono ?_
  rintro e w3 ⟨v, rfl, hv, hS3, hg3⟩
  go_wp2_with fail
  have hs1 := src_lt hS1
  have hs2 := hg2.size
  have row3 : w3.drew.heap[w2.heap.size]? = some (.cells #[.int .u64 z, .slice pa pn pc, .slice na nn nc, .int .i64 h, .int .u64 l] 28 (0, 0)) := by
    show w3.heap[w2.heap.size]? = _
    rw [hg3.block _ (by simp) (fun e => by have := Option.some.inj e; omega)]; exact heap_alloc_new w2 _
  refine regionK (fun W' => W'.heap[w2.heap.size]? = some (.cells #[.int .u64 z, .slice pa pn pc, .slice na nn nc, .int .i64 h, .int .u64 l] 28 (0, 0))) 6 (by rfl) ?_
  refine takeK (i := 0) (d := 14) (v := .agg #[.int .u64 z, .slice pa pn pc, .slice na nn nc, .int .i64 h, .int .u64 l]) rfl rfl (by kernel_rfl) (by kernel_rfl) (by kernel_rfl) (by decide) (by kernel_rfl) (fun _ _ _ h => h) (Or.inl ⟨by rfl, fun W hW => ?_⟩) row3 ?_
  · obtain ⟨x0, x1, x2, x3, x4⟩ := cell5 hW
    go_simp
  simp only [List.setIfInBounds_toArray, List.set_cons_zero, List.set_cons_succ]
  refine takeK (i := 1) (d := 15) (v := .int .i64 v) rfl rfl (by kernel_rfl) (by kernel_rfl) (by kernel_rfl) (by decide) (by kernel_rfl) (fun _ _ _ h => h) (Or.inl ⟨by rfl, fun W hW => ?_⟩) row3 ?_
  · clear hW
    go_simp
  simp only [List.setIfInBounds_toArray, List.set_cons_zero, List.set_cons_succ]
  refine takeK (i := 2) (d := 16) (v := .pointer (some ⟨w.heap.size + 1, 0, none⟩)) rfl rfl (by kernel_rfl) (by kernel_rfl) (by kernel_rfl) (by decide) (by kernel_rfl) (fun _ _ _ h => h) (Or.inl ⟨by rfl, fun W hW => ?_⟩) row3 ?_
  · clear hW
    go_simp
  simp only [List.setIfInBounds_toArray, List.set_cons_zero, List.set_cons_succ]
  refine oneK (i := 3) (by kernel_rfl) rfl (fun K hK => ?_)
  go_simp
  refine (c_l01Weight (codeAt_on1 HC.out _) (src_drews (k := 1) hS3)).mono ?_
  rintro e w4 ⟨wt, rfl, hwt, hS4, hg4⟩
  have row4 : w4.heap[w2.heap.size]? = some (.cells #[.int .u64 z, .slice pa pn pc, .slice na nn nc, .int .i64 h, .int .u64 l] 28 (0, 0)) := by rw [hg4.block _ (Array.getElem?_eq_some_iff.1 row3).1 (fun e => by have := Option.some.inj e; omega)]; exact row3
  have hg34 : (w2.alloc (.cells #[.int .u64 z, .slice pa pn pc, .slice na nn nc, .int .i64 h, .int .u64 l] 28)).grownBy w4 (some (w.heap.size + 1)) := (hg3.trans (grown_drews w3 1 _)).trans hg4
  have hne : ∀ {v : Value} {k : Nat} {L : List Bn}, OwnB (w2.alloc (.cells #[.int .u64 z, .slice pa pn pc, .slice na nn nc, .int .i64 h, .int .u64 l] 28)) w1.heap.size v k L → v.ownBlock = none ∨ v.ownBlock ≠ some (w.heap.size + 1) := fun {v k L} ho => .inr (fun e => by have := (ho.lt _ e).1; omega)
  have t1 := (o1.past bB).kept hg34 (hne (o1.past bB))
  have t2 := (o2.past bB).kept hg34 (hne (o2.past bB))
  have res1 : w4.heap[w.heap.size]? = some (.cells zeroSk 28 (0, 0)) := by rw [hS4.bel.block _ (by omega)]; exact heap_alloc_new w _
  have bel : Below w.heap.size w w4 := ((Below.refl _ _).alloc (Nat.le_refl _) _).trans (hS4.bel.mono (by omega))
  have row5' : ∀ u0 u1 u2 u3 u4, (((((w4.setCell ⟨w.heap.size, 0, none⟩ u0).setCell ⟨w.heap.size, 1, none⟩ u1).setCell ⟨w.heap.size, 2, none⟩ u2).setCell ⟨w.heap.size, 3, none⟩ u3).setCell ⟨w.heap.size, 4, none⟩ u4).heap[w2.heap.size]? = some (.cells #[.int .u64 z, .slice pa pn pc, .slice na nn nc, .int .i64 h, .int .u64 l] 28 (0, 0)) := fun u0 u1 u2 u3 u4 => by
    rw [Below.heap_setCell _ _ _ _ (by simp; omega), Below.heap_setCell _ _ _ _ (by simp; omega), Below.heap_setCell _ _ _ _ (by simp; omega), Below.heap_setCell _ _ _ _ (by simp; omega), Below.heap_setCell _ _ _ _ (by simp; omega)]; exact row4
  have HR5 := hide row5'
  have HI : Hid (SkI (sk5 w4 w.heap.size z (.slice pa pn pc) (.slice na nn nc) h l) z h l pa pn pc na nn nc P N ∧ Below w.heap.size w (sk5 w4 w.heap.size z (.slice pa pn pc) (.slice na nn nc) h l)) := (⟨⟨t1.1.symm, t2.1.symm, (own5 t1 res1).at, (own5 t2 res1).at, kP, kN, hz, hl, t1.nil0, t2.nil0, by rw [t1.1]; exact lP, by rw [t2.1]; exact lN⟩, bel5 bel (Nat.le_refl _)⟩ : SkI (sk5 w4 w.heap.size z (.slice pa pn pc) (.slice na nn nc) h l) z h l pa pn pc na nn nc P N ∧ Below w.heap.size w (sk5 w4 w.heap.size z (.slice pa pn pc) (.slice na nn nc) h l))
  obtain ⟨r0, r1, r2, r3, r4⟩ := cell5 res1
  have e0 := frozen_of_row w4 w.heap.size 0 _ _ res1
  have e1 := frozen_of_row w4 w.heap.size 1 _ _ res1
  have e2 := frozen_of_row w4 w.heap.size 2 _ _ res1
  have e3 := frozen_of_row w4 w.heap.size 3 _ _ res1
  have e4 := frozen_of_row w4 w.heap.size 4 _ _ res1
  have R4 := hide row4
  clear row3 row4 row5' hs1 hs2 S3 o1 o2 hap hz hl kP kN lP lN hS3 hg3 hg34 hS4 hg4 hne t1 t2 res1 bel bB hS1 hS2 hg2
  dsimp only
  refine hK.out _ _ (fun _ => R4.out) ?_
  clear hK K
  try simp only [Act.put, List.setIfInBounds_toArray, List.set_cons_zero, List.set_cons_succ]
  refine oneK (i := 4) (by kernel_rfl) rfl (fun K hK => ?_)
  go_simp
  refine hK.out _ _ (fun _ => HR5.out _ _ _ _ _) ?_
  clear hK K
  try simp only [Act.put, List.setIfInBounds_toArray, List.set_cons_zero, List.set_cons_succ]
  refine oneK (i := 5) (by kernel_rfl) rfl (fun K hK => ?_)
  go_simp
  refine hK.out _ _ (fun _ => HR5.out _ _ _ _ _) ?_
  clear hK K
  try simp only [Act.put, List.setIfInBounds_toArray, List.set_cons_zero, List.set_cons_succ]
  refine oneK (i := 6) (by kernel_rfl) rfl (fun K hK => ?_)
  go_simp
  refine hK.out _ _ (fun h => absurd rfl h) ?_
  clear hK K
  try simp only [Act.put, List.setIfInBounds_toArray, List.set_cons_zero, List.set_cons_succ]
  refine doneK (by kernel_rfl) ?_ _
  go_wp2
  refine bodyPost_ret (v := .tuple #[.agg #[.int .u64 z, .slice pa pn pc, .slice na nn nc, .int .i64 h, .int .u64 l], .int .i64 v, .int .u64 wt]) (by simp [results, Try.results5, go_sem, r0, r1, r2, r3, r4]) rfl ⟨z, h, l, pa, pn, pc, na, nn, nc, P, N, v, wt, rfl, hv, hwt, HI.out⟩
end Go.Proofs.Ytimocbbaplghoaa
