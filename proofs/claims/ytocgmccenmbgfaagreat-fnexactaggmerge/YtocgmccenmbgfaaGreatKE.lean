/-
  The law FnExactAggMerge: at every two Aggs the program brings them together as the model does, every field; it writes into no argument; its answer owns its memory. No condition.
-/
import Derived.Test.YtocgmccenmbgfaaGreatKC
import Derived.Test.YtocgmccenmbgfaaGreatKD
import Derived.Test.YtocgmccenmbgfaaGreatJE
import Derived.Test.YtocgmccenmbgfaaGreatJN
import Derived.Lib.SmallJoins
import Derived.Carry
import Derived.Deep.RegionHeld3
import Derived.Deep.DeepCutAuto
import Derived.ShutString
import Derived.ChangeOld
namespace Go.Proofs.YtocgmccenmbgfaaGreat
set_option linter.unusedVariables false
set_option linter.unusedSimpArgs false
open Go.ChangeMaps (open_string shut_string)
open Go.ChangeShapes Go.WideShapes Go.ChangeAt Go.RowKit Go.Joins
set_option maxRecDepth 10000

theorem keepL_len (L : List Bn) : (keepL L).length ≤ 30 := by
  unfold keepL
  split
  · assumption
  · have hd : (L.drop (L.length - 30)).length = 30 := by rw [List.length_drop]; omega
    split
    · rename_i h; rw [h] at hd; simp at hd
    · rename_i h; rw [h] at hd; simp at hd ⊢; omega
theorem mrg_sm {g g' o : Ag} (h : AgMrg g g' o) : AgSm o := by
  unfold AgMrg at h
  split at h
  · rename_i hg
    obtain ⟨E, R, m, rfl⟩ := h
    have n := agB_no hg.1
    have n' := agB_no hg.2.1
    have m' : MrgH g.E g.R g'.E g'.R E R := by unfold MrgH; rw [if_pos ⟨n.hl, n'.hl⟩]; exact m
    have l := hlB_len (mrg_right n.hl n'.hl m')
    exact ⟨Nat.le_trans (keepL_len _) (by omega), Nat.le_trans (keepL_len _) (by omega), by show E.length ≤ _; omega, by show R.length ≤ _; omega⟩
  · subst h
    exact ⟨by simp [agZero], by simp [agZero], by simp [agZero], by simp [agZero]⟩
theorem agc_two (w : World) (t : TypeId) (g g' : Ag) (p p' : Pl) : AgCell ((w.alloc (.cells (agArr g p) t)).alloc (.cells (agArr g' p') t)) w.heap.size g p ∧ AgCell ((w.alloc (.cells (agArr g p) t)).alloc (.cells (agArr g' p') t)) (w.heap.size + 1) g' p' := by
  refine ⟨agc_past (agc_new w t g p) ((Below.refl _ _).alloc (Nat.le_refl _) _), ?_⟩
  have := agc_new (w.alloc (.cells (agArr g p) t)) t g' p'
  simpa using this
theorem agc_row {w : World} {r : Nat} {T : TypeId} {o : Ag} {q : Pl} (h : w.heap[r]? = some (.cells (agArr o q) T (0, 0))) : AgCell w r o q :=
  ⟨cellK h 0 rfl, cellK h 1 rfl, cellK h 2 rfl, cellK h 3 rfl, cellK h 4 rfl, cellK h 5 rfl, cellK h 6 rfl, cellK h 7 rfl, cellK h 8 rfl, cellK h 9 rfl, cellK h 10 rfl, cellK h 11 rfl, cellK h 12 rfl⟩
def st13 (w : World) (r : Nat) (o : Ag) (q : Pl) : World := (((((((((((((w.setCell ⟨r, 0, none⟩ (.int .i64 o.k)).setCell ⟨r, 1, none⟩ (.int .u64 o.s)).setCell ⟨r, 2, none⟩ (.int .i64 o.h)).setCell ⟨r, 3, none⟩ (.int .u64 o.l)).setCell ⟨r, 4, none⟩ (.int .i64 o.a)).setCell ⟨r, 5, none⟩ (.int .i64 o.t)).setCell ⟨r, 6, none⟩ (.int .u64 o.z)).setCell ⟨r, 7, none⟩ (.slice q.pa o.P.length q.pc)).setCell ⟨r, 8, none⟩ (.slice q.na o.N.length q.nc)).setCell ⟨r, 9, none⟩ (.int .i64 o.x)).setCell ⟨r, 10, none⟩ (.int .u64 o.y)).setCell ⟨r, 11, none⟩ (.slice q.ea o.E.length q.ec)).setCell ⟨r, 12, none⟩ (.slice q.ra o.R.length q.rc))
theorem st13_ok {w w0 : World} {K B r : Nat} {o : Ag} {q : Pl} (h : w.heap[r]? = some (.cells #[.int .i64 0, .int .u64 0, .int .i64 0, .int .u64 0, .int .i64 0, .int .i64 0, .int .u64 0, .slice none 0 0, .slice none 0 0, .int .i64 0, .int .u64 0, .slice none 0 0, .slice none 0 0] 41 (0, 0))) (hb : Below K w0 w) (hr : K ≤ r) (ho : AgO w B o q) (hrB : r < B) (hKB : K ≤ B) :
    (st13 w r o q).heap[r]? = some (.cells (agArr o q) 41 (0, 0)) ∧ Below K w0 (st13 w r o q) ∧ AgO (st13 w r o q) K o q := by
  refine ⟨row13 h, ?_, AgO.le ?_ hKB⟩
  · unfold st13
    repeat (refine Below.setCell ?_ (by exact hr) _)
    exact hb
  · unfold st13
    repeat (refine AgO.below ?_ hrB _)
    exact ho
set_option maxHeartbeats 16000000 in
theorem regS {K' : Act → World → Prop} {Qp : Ending → World → Prop} {g g' : Ag} {p p' : Pl} {w w2 : World} {x0 x1 x4 x5 x6 x7 x8 x9 x10 x11 x12 x13 x14 x15 x16 x17 x18 x19 x20 x21 x22 x23 x24 x25 x26 x27 x28 x29 x30 x31 x32 x33 x34 x35 x36 x37 x38 x39 x40 x41 x42 x43 x44 x45 x46 x47 x48 x49 x50 x51 x52 x53 x54 x55 x56 x57 x58 x59 x60 x61 x62 x63 x64 x65 x66 x67 x68 x69 x70 x71 x72 x73 x74 x75 x76 x77 x78 x79 x80 x81 x82 x83 x84 x85 x86 x87 x88 x89 x90 x91 : Value} (ok : AgOk g) (ok' : AgOk g') (sm : AgSm g) (sm' : AgSm g') (hA : AgAt w g p) (hA' : AgAt w g' p') (hT : Below w.heap.size w w2)
    (hK : ∀ W, Below w2.heap.size w2 W → AgCell W w.heap.size g p ∧ AgCell W (w.heap.size + 1) g' p')
    (hQ : ∀ (b : Nat) (o : Ag) (q : Pl) (X : World) (y0 y1 y2 y3 y4 : Value), AgMrg g g' o → X.heap[b]? = some (.cells (agArr o q) 41 (0, 0)) → AgO X w2.heap.size o q → w2.heap.size ≤ b → Below w2.heap.size w2 X →
      K' { tmps := #[x0, x1, .pointer (some ⟨w.heap.size, 0, none⟩), .pointer (some ⟨w.heap.size + 1, 0, none⟩), x4, x5, .pointer (some ⟨b, 0, none⟩), x7, x8, x9, x10, x11, x12, x13, x14, x15, x16, x17, x18, x19, x20, x21, x22, x23, y0, y1, y2, y3, y4, x29, x30, x31, x32, x33, x34, x35, x36, x37, x38, x39, x40, x41, x42, x43, x44, x45, x46, x47, x48, x49, x50, x51, x52, x53, x54, x55, x56, x57, x58, x59, x60, x61, x62, x63, x64, x65, x66, x67, x68, x69, x70, x71, x72, x73, x74, x75, x76, x77, x78, x79, x80, x81, x82, x83, x84, x85, x86, x87, x88, x89, x90, x91], defers := [] } X) :
    Code.wp Tryz.prog (Code.region 8 #[{ dst := some 24, op := Op.load 33 (Operand.tmp 2), type := 33, pos := "exact.go:2327", after := #[], guard := none }, { dst := some 25, op := Op.call { callee := Callee.value (Operand.func 6), args := #[Operand.tmp 24], argTypes := #[33] }, type := 41, pos := "exact.go:2327", after := #[{ on := 0, ground := Ground.data }], guard := none }, { dst := some 26, op := Op.load 33 (Operand.tmp 3), type := 33, pos := "exact.go:2327", after := #[], guard := none }, { dst := some 27, op := Op.call { callee := Callee.value (Operand.func 6), args := #[Operand.tmp 26], argTypes := #[33] }, type := 41, pos := "exact.go:2327", after := #[{ on := 2, ground := Ground.data }, { on := 1, ground := Ground.chain }], guard := none }, { dst := some 28, op := Op.call { callee := Callee.value (Operand.func 5), args := #[Operand.tmp 25, Operand.tmp 27], argTypes := #[41, 41] }, type := 41, pos := "exact.go:2327", after := #[{ on := 1, ground := Ground.data }, { on := 3, ground := Ground.data }, { on := 3, ground := Ground.chain }], guard := none }, { dst := some 6, op := Op.alloc 41, type := 0, pos := "exact.go:2327", after := #[], guard := none }, { dst := none, op := Op.store 41 (Operand.tmp 6) (Operand.tmp 28), type := 0, pos := "exact.go:2327", after := #[{ on := 5, ground := Ground.data }, { on := 4, ground := Ground.data }, { on := 4, ground := Ground.chain }, { on := 0, ground := Ground.phase }, { on := 1, ground := Ground.phase }, { on := 2, ground := Ground.phase }, { on := 3, ground := Ground.phase }, { on := 4, ground := Ground.phase }, { on := 5, ground := Ground.phase }], guard := none }] true) (Exit.then K' (bodyPost Tryz.prog Tryz.f3 Qp)) { tmps := #[x0, x1, .pointer (some ⟨w.heap.size, 0, none⟩), .pointer (some ⟨w.heap.size + 1, 0, none⟩), x4, x5, x6, x7, x8, x9, x10, x11, x12, x13, x14, x15, x16, x17, x18, x19, x20, x21, x22, x23, x24, x25, x26, x27, x28, x29, x30, x31, x32, x33, x34, x35, x36, x37, x38, x39, x40, x41, x42, x43, x44, x45, x46, x47, x48, x49, x50, x51, x52, x53, x54, x55, x56, x57, x58, x59, x60, x61, x62, x63, x64, x65, x66, x67, x68, x69, x70, x71, x72, x73, x74, x75, x76, x77, x78, x79, x80, x81, x82, x83, x84, x85, x86, x87, x88, x89, x90, x91], defers := [] } w2 := by
  have OK := hide ok
  have OK' := hide ok'
  have SM := hide sm
  have SM' := hide sm'
  have HA := hide hA
  have HA' := hide hA'
  have HT2 := hide hT
  have HK2 := hide hK
  have HQ := hide hQ
  clear ok ok' sm sm' hA hA' hT hK hQ
  have HS0 : (fun Y => Below w2.heap.size w2 Y) w2.drew := (Below.refl _ _).drew
  refine regionK (fun Y => Below w2.heap.size w2 Y) 6 (by kernel_rfl) ?_
  refine takeK (i := 0) (d := 24) (v := .agg (agArr g p)) rfl rfl (by kernel_rfl) (by kernel_rfl) (by kernel_rfl) (by decide) (by kernel_rfl) (fun _ _ _ h => h) (Or.inl ⟨by rfl, fun Y hY => ?_⟩) HS0 ?_
  · obtain ⟨⟨x0, x1, x2, x3, x4, x5, x6, x7, x8, x9, x10, x11, x12⟩, ⟨y0, y1, y2, y3, y4, y5, y6, y7, y8, y9, y10, y11, y12⟩⟩ := HK2.out Y hY
    clear hY
    go_simp
  simp only [List.setIfInBounds_toArray, List.set_cons_zero, List.set_cons_succ]
  refine takeK (i := 2) (d := 26) (v := .agg (agArr g' p')) rfl rfl (by kernel_rfl) (by kernel_rfl) (by kernel_rfl) (by decide) (by kernel_rfl) (fun _ _ _ h => h) (Or.inl ⟨by rfl, fun Y hY => ?_⟩) HS0 ?_
  · obtain ⟨⟨x0, x1, x2, x3, x4, x5, x6, x7, x8, x9, x10, x11, x12⟩, ⟨y0, y1, y2, y3, y4, y5, y6, y7, y8, y9, y10, y11, y12⟩⟩ := HK2.out Y hY
    clear hY
    go_simp
  simp only [List.setIfInBounds_toArray, List.set_cons_zero, List.set_cons_succ]
  refine twoK (i := 1) (j := 5) (by kernel_rfl) rfl rfl (fun K hK => ?_) (fun K hK => ?_)
  · go_simp
    refine (c_toAgg SM.out (ag_past HA.out (chain HT2.out HS0))).mono ?_
    rintro e W3 ⟨gp3, gn3, ge3, gr3, rfl, _, _, _, _, _, ow, hb⟩
    have HBW3 : Hid (Below w2.heap.size w2 W3) := (HS0 : Below w2.heap.size w2 _).trans (hb.mono (HS0 : Below w2.heap.size w2 _).size)
    have X3 := hide ow.at
    clear ow hb
    try dsimp only
    refine hK.out _ _ (fun _ => HBW3.out) ?_
    clear hK K
    try simp only [Act.put, List.setIfInBounds_toArray, List.set_cons_zero, List.set_cons_succ]
    refine twoK (i := 3) (j := 5) (by kernel_rfl) rfl rfl (fun K hK => ?_) (fun K hK => ?_)
    · go_simp
      refine (c_toAgg SM'.out (ag_past HA'.out (chain HT2.out HBW3.out))).mono ?_
      rintro e W4 ⟨gp4, gn4, ge4, gr4, rfl, _, _, _, _, _, ow, hb⟩
      have HBW4 : Hid (Below w2.heap.size w2 W4) := (HBW3.out : Below w2.heap.size w2 _).trans (hb.mono (HBW3.out : Below w2.heap.size w2 _).size)
      have X4 := hide ow.at
      have X3b := hide (ag_past X3.out hb)
      clear ow hb
      try dsimp only
      refine hK.out _ _ (fun _ => HBW4.out) ?_
      clear hK K
      try simp only [Act.put, List.setIfInBounds_toArray, List.set_cons_zero, List.set_cons_succ]
      refine twoK (i := 4) (j := 5) (by kernel_rfl) rfl rfl (fun K hK => ?_) (fun K hK => ?_)
      · go_simp
        refine (c_s_AggMerge OK.out OK'.out SM.out SM'.out X3b.out X4.out (fun e => by cases e)).mono ?_
        rintro e W5 ⟨v5, o, rfl, hM, ⟨q, rfl, hO⟩, hb⟩
        have HBW5 : Hid (Below w2.heap.size w2 W5) := (HBW4.out : Below w2.heap.size w2 _).trans (hb.mono (HBW4.out : Below w2.heap.size w2 _).size)
        have HM := hide hM
        have HO := hide hO
        have hbs := (HBW4.out : Below w2.heap.size w2 _).size
        clear hM hO hb
        try dsimp only
        refine hK.out _ _ (fun _ => HBW5.out) ?_
        clear hK K
        try simp only [Act.put, List.setIfInBounds_toArray, List.set_cons_zero, List.set_cons_succ]
        refine oneK (i := 5) (by kernel_rfl) rfl (fun K hK => ?_)
        go_simp
        have a3 : Below W5.heap.size W5 (W5.alloc (.cells #[.int .i64 0, .int .u64 0, .int .i64 0, .int .u64 0, .int .i64 0, .int .i64 0, .int .u64 0, .slice none 0 0, .slice none 0 0, .int .i64 0, .int .u64 0, .slice none 0 0, .slice none 0 0] 41)) := (Below.refl _ _).alloc (Nat.le_refl _) _
        have HBa : Hid (Below w2.heap.size w2 (W5.alloc (.cells #[.int .i64 0, .int .u64 0, .int .i64 0, .int .u64 0, .int .i64 0, .int .i64 0, .int .u64 0, .slice none 0 0, .slice none 0 0, .int .i64 0, .int .u64 0, .slice none 0 0, .slice none 0 0] 41))) := ((HBW5.out : Below w2.heap.size w2 _).trans (a3.mono (HBW5.out : Below w2.heap.size w2 _).size))
        have HRa : Hid ((W5.alloc (.cells #[.int .i64 0, .int .u64 0, .int .i64 0, .int .u64 0, .int .i64 0, .int .i64 0, .int .u64 0, .slice none 0 0, .slice none 0 0, .int .i64 0, .int .u64 0, .slice none 0 0, .slice none 0 0] 41)).heap[W5.heap.size]? = some (.cells #[.int .i64 0, .int .u64 0, .int .i64 0, .int .u64 0, .int .i64 0, .int .i64 0, .int .u64 0, .slice none 0 0, .slice none 0 0, .int .i64 0, .int .u64 0, .slice none 0 0, .slice none 0 0] 41 (0, 0))) := (heap_alloc_new W5 (.cells #[.int .i64 0, .int .u64 0, .int .i64 0, .int .u64 0, .int .i64 0, .int .i64 0, .int .u64 0, .slice none 0 0, .slice none 0 0, .int .i64 0, .int .u64 0, .slice none 0 0, .slice none 0 0] 41) : _)
        have hra : w2.heap.size ≤ W5.heap.size := (HBW5.out : Below w2.heap.size w2 _).size
        have hrb : W5.heap.size < (W5.alloc (.cells #[.int .i64 0, .int .u64 0, .int .i64 0, .int .u64 0, .int .i64 0, .int .i64 0, .int .u64 0, .slice none 0 0, .slice none 0 0, .int .i64 0, .int .u64 0, .slice none 0 0, .slice none 0 0] 41)).heap.size := by simp
        have HOa := hide (HO.out.past a3)
        clear a3
        try dsimp only
        refine hK.out _ _ (fun _ => HBa.out) ?_
        clear hK K
        try simp only [Act.put, List.setIfInBounds_toArray, List.set_cons_zero, List.set_cons_succ]
        have R5 := HRa.out
        have q0 := cellK R5 0 rfl
        have q1 := cellK R5 1 rfl
        have q2 := cellK R5 2 rfl
        have q3 := cellK R5 3 rfl
        have q4 := cellK R5 4 rfl
        have q5 := cellK R5 5 rfl
        have q6 := cellK R5 6 rfl
        have q7 := cellK R5 7 rfl
        have q8 := cellK R5 8 rfl
        have q9 := cellK R5 9 rfl
        have q10 := cellK R5 10 rfl
        have q11 := cellK R5 11 rfl
        have q12 := cellK R5 12 rfl
        have f0 := frozen_of_row (W5.alloc (.cells #[.int .i64 0, .int .u64 0, .int .i64 0, .int .u64 0, .int .i64 0, .int .i64 0, .int .u64 0, .slice none 0 0, .slice none 0 0, .int .i64 0, .int .u64 0, .slice none 0 0, .slice none 0 0] 41)) (W5.heap.size) 0 _ _ R5
        have f1 := frozen_of_row (W5.alloc (.cells #[.int .i64 0, .int .u64 0, .int .i64 0, .int .u64 0, .int .i64 0, .int .i64 0, .int .u64 0, .slice none 0 0, .slice none 0 0, .int .i64 0, .int .u64 0, .slice none 0 0, .slice none 0 0] 41)) (W5.heap.size) 1 _ _ R5
        have f2 := frozen_of_row (W5.alloc (.cells #[.int .i64 0, .int .u64 0, .int .i64 0, .int .u64 0, .int .i64 0, .int .i64 0, .int .u64 0, .slice none 0 0, .slice none 0 0, .int .i64 0, .int .u64 0, .slice none 0 0, .slice none 0 0] 41)) (W5.heap.size) 2 _ _ R5
        have f3 := frozen_of_row (W5.alloc (.cells #[.int .i64 0, .int .u64 0, .int .i64 0, .int .u64 0, .int .i64 0, .int .i64 0, .int .u64 0, .slice none 0 0, .slice none 0 0, .int .i64 0, .int .u64 0, .slice none 0 0, .slice none 0 0] 41)) (W5.heap.size) 3 _ _ R5
        have f4 := frozen_of_row (W5.alloc (.cells #[.int .i64 0, .int .u64 0, .int .i64 0, .int .u64 0, .int .i64 0, .int .i64 0, .int .u64 0, .slice none 0 0, .slice none 0 0, .int .i64 0, .int .u64 0, .slice none 0 0, .slice none 0 0] 41)) (W5.heap.size) 4 _ _ R5
        have f5 := frozen_of_row (W5.alloc (.cells #[.int .i64 0, .int .u64 0, .int .i64 0, .int .u64 0, .int .i64 0, .int .i64 0, .int .u64 0, .slice none 0 0, .slice none 0 0, .int .i64 0, .int .u64 0, .slice none 0 0, .slice none 0 0] 41)) (W5.heap.size) 5 _ _ R5
        have f6 := frozen_of_row (W5.alloc (.cells #[.int .i64 0, .int .u64 0, .int .i64 0, .int .u64 0, .int .i64 0, .int .i64 0, .int .u64 0, .slice none 0 0, .slice none 0 0, .int .i64 0, .int .u64 0, .slice none 0 0, .slice none 0 0] 41)) (W5.heap.size) 6 _ _ R5
        have f7 := frozen_of_row (W5.alloc (.cells #[.int .i64 0, .int .u64 0, .int .i64 0, .int .u64 0, .int .i64 0, .int .i64 0, .int .u64 0, .slice none 0 0, .slice none 0 0, .int .i64 0, .int .u64 0, .slice none 0 0, .slice none 0 0] 41)) (W5.heap.size) 7 _ _ R5
        have f8 := frozen_of_row (W5.alloc (.cells #[.int .i64 0, .int .u64 0, .int .i64 0, .int .u64 0, .int .i64 0, .int .i64 0, .int .u64 0, .slice none 0 0, .slice none 0 0, .int .i64 0, .int .u64 0, .slice none 0 0, .slice none 0 0] 41)) (W5.heap.size) 8 _ _ R5
        have f9 := frozen_of_row (W5.alloc (.cells #[.int .i64 0, .int .u64 0, .int .i64 0, .int .u64 0, .int .i64 0, .int .i64 0, .int .u64 0, .slice none 0 0, .slice none 0 0, .int .i64 0, .int .u64 0, .slice none 0 0, .slice none 0 0] 41)) (W5.heap.size) 9 _ _ R5
        have f10 := frozen_of_row (W5.alloc (.cells #[.int .i64 0, .int .u64 0, .int .i64 0, .int .u64 0, .int .i64 0, .int .i64 0, .int .u64 0, .slice none 0 0, .slice none 0 0, .int .i64 0, .int .u64 0, .slice none 0 0, .slice none 0 0] 41)) (W5.heap.size) 10 _ _ R5
        have f11 := frozen_of_row (W5.alloc (.cells #[.int .i64 0, .int .u64 0, .int .i64 0, .int .u64 0, .int .i64 0, .int .i64 0, .int .u64 0, .slice none 0 0, .slice none 0 0, .int .i64 0, .int .u64 0, .slice none 0 0, .slice none 0 0] 41)) (W5.heap.size) 11 _ _ R5
        have f12 := frozen_of_row (W5.alloc (.cells #[.int .i64 0, .int .u64 0, .int .i64 0, .int .u64 0, .int .i64 0, .int .i64 0, .int .u64 0, .slice none 0 0, .slice none 0 0, .int .i64 0, .int .u64 0, .slice none 0 0, .slice none 0 0] 41)) (W5.heap.size) 12 _ _ R5
        refine oneK (i := 6) (by kernel_rfl) rfl (fun K hK => ?_)
        go_simp
        refine hK.out _ _ (fun h => absurd rfl h) ?_
        clear hK K
        try simp only [Act.put, List.setIfInBounds_toArray, List.set_cons_zero, List.set_cons_succ]
        refine doneK (by kernel_rfl) ?_ _
        clear q0 f0 q1 f1 q2 f2 q3 f3 q4 f4 q5 f5 q6 f6 q7 f7 q8 f8 q9 f9 q10 f10 q11 f11 q12 f12
        go_wp2
        exact HQ.out W5.heap.size o q _ _ _ _ _ _ HM.out (heap_alloc_new W5 _) ((HO.out.past ((Below.refl _ _).alloc (Nat.le_refl _) _)).le hbs) HBW5.out.size (Below.alloc HBW5.out HBW5.out.size _)
      · go_simp
        have a3 : Below W4.heap.size W4 (W4.alloc (.cells #[.int .i64 0, .int .u64 0, .int .i64 0, .int .u64 0, .int .i64 0, .int .i64 0, .int .u64 0, .slice none 0 0, .slice none 0 0, .int .i64 0, .int .u64 0, .slice none 0 0, .slice none 0 0] 41)) := (Below.refl _ _).alloc (Nat.le_refl _) _
        have HBa : Hid (Below w2.heap.size w2 (W4.alloc (.cells #[.int .i64 0, .int .u64 0, .int .i64 0, .int .u64 0, .int .i64 0, .int .i64 0, .int .u64 0, .slice none 0 0, .slice none 0 0, .int .i64 0, .int .u64 0, .slice none 0 0, .slice none 0 0] 41))) := ((HBW4.out : Below w2.heap.size w2 _).trans (a3.mono (HBW4.out : Below w2.heap.size w2 _).size))
        have HRa : Hid ((W4.alloc (.cells #[.int .i64 0, .int .u64 0, .int .i64 0, .int .u64 0, .int .i64 0, .int .i64 0, .int .u64 0, .slice none 0 0, .slice none 0 0, .int .i64 0, .int .u64 0, .slice none 0 0, .slice none 0 0] 41)).heap[W4.heap.size]? = some (.cells #[.int .i64 0, .int .u64 0, .int .i64 0, .int .u64 0, .int .i64 0, .int .i64 0, .int .u64 0, .slice none 0 0, .slice none 0 0, .int .i64 0, .int .u64 0, .slice none 0 0, .slice none 0 0] 41 (0, 0))) := (heap_alloc_new W4 (.cells #[.int .i64 0, .int .u64 0, .int .i64 0, .int .u64 0, .int .i64 0, .int .i64 0, .int .u64 0, .slice none 0 0, .slice none 0 0, .int .i64 0, .int .u64 0, .slice none 0 0, .slice none 0 0] 41) : _)
        have hra : w2.heap.size ≤ W4.heap.size := (HBW4.out : Below w2.heap.size w2 _).size
        have hrb : W4.heap.size < (W4.alloc (.cells #[.int .i64 0, .int .u64 0, .int .i64 0, .int .u64 0, .int .i64 0, .int .i64 0, .int .u64 0, .slice none 0 0, .slice none 0 0, .int .i64 0, .int .u64 0, .slice none 0 0, .slice none 0 0] 41)).heap.size := by simp
        have X3a := hide (ag_past X3b.out a3)
        have X4a := hide (ag_past X4.out a3)
        clear a3
        try dsimp only
        refine hK.out _ _ (fun _ => HBa.out) ?_
        clear hK K
        try simp only [Act.put, List.setIfInBounds_toArray, List.set_cons_zero, List.set_cons_succ]
        refine oneK (i := 4) (by kernel_rfl) rfl (fun K hK => ?_)
        go_simp
        refine (c_s_AggMerge OK.out OK'.out SM.out SM'.out X3a.out X4a.out (fun e => by cases e)).mono ?_
        rintro e W5 ⟨v5, o, rfl, hM, ⟨q, rfl, hO⟩, hb⟩
        have HBW5 : Hid (Below w2.heap.size w2 W5) := (HBa.out : Below w2.heap.size w2 _).trans (hb.mono (HBa.out : Below w2.heap.size w2 _).size)
        have HM := hide hM
        have HO := hide hO
        have HRW5 : Hid (W5.heap[W4.heap.size]? = some (.cells #[.int .i64 0, .int .u64 0, .int .i64 0, .int .u64 0, .int .i64 0, .int .i64 0, .int .u64 0, .slice none 0 0, .slice none 0 0, .int .i64 0, .int .u64 0, .slice none 0 0, .slice none 0 0] 41 (0, 0))) := (hb.block _ hrb).trans HRa.out
        have hrc := (Array.getElem?_eq_some_iff.1 HRa.out).1
        have hbs := (HBa.out : Below w2.heap.size w2 _).size
        clear hM hO hb
        try dsimp only
        refine hK.out _ _ (fun _ => HBW5.out) ?_
        clear hK K
        try simp only [Act.put, List.setIfInBounds_toArray, List.set_cons_zero, List.set_cons_succ]
        have R5 := HRW5.out
        have q0 := cellK R5 0 rfl
        have q1 := cellK R5 1 rfl
        have q2 := cellK R5 2 rfl
        have q3 := cellK R5 3 rfl
        have q4 := cellK R5 4 rfl
        have q5 := cellK R5 5 rfl
        have q6 := cellK R5 6 rfl
        have q7 := cellK R5 7 rfl
        have q8 := cellK R5 8 rfl
        have q9 := cellK R5 9 rfl
        have q10 := cellK R5 10 rfl
        have q11 := cellK R5 11 rfl
        have q12 := cellK R5 12 rfl
        have f0 := frozen_of_row W5 (W4.heap.size) 0 _ _ R5
        have f1 := frozen_of_row W5 (W4.heap.size) 1 _ _ R5
        have f2 := frozen_of_row W5 (W4.heap.size) 2 _ _ R5
        have f3 := frozen_of_row W5 (W4.heap.size) 3 _ _ R5
        have f4 := frozen_of_row W5 (W4.heap.size) 4 _ _ R5
        have f5 := frozen_of_row W5 (W4.heap.size) 5 _ _ R5
        have f6 := frozen_of_row W5 (W4.heap.size) 6 _ _ R5
        have f7 := frozen_of_row W5 (W4.heap.size) 7 _ _ R5
        have f8 := frozen_of_row W5 (W4.heap.size) 8 _ _ R5
        have f9 := frozen_of_row W5 (W4.heap.size) 9 _ _ R5
        have f10 := frozen_of_row W5 (W4.heap.size) 10 _ _ R5
        have f11 := frozen_of_row W5 (W4.heap.size) 11 _ _ R5
        have f12 := frozen_of_row W5 (W4.heap.size) 12 _ _ R5
        refine oneK (i := 6) (by kernel_rfl) rfl (fun K hK => ?_)
        go_simp
        refine hK.out _ _ (fun h => absurd rfl h) ?_
        clear hK K
        try simp only [Act.put, List.setIfInBounds_toArray, List.set_cons_zero, List.set_cons_succ]
        refine doneK (by kernel_rfl) ?_ _
        clear q0 f0 q1 f1 q2 f2 q3 f3 q4 f4 q5 f5 q6 f6 q7 f7 q8 f8 q9 f9 q10 f10 q11 f11 q12 f12
        have HS13 := hide (st13_ok R5 HBW5.out hra HO.out hrc hbs)
        clear R5
        go_wp2
        exact HQ.out (W4.heap.size) o q _ _ _ _ _ _ HM.out HS13.out.1 HS13.out.2.2 hra HS13.out.2.1
    · go_simp
      have a3 : Below W3.heap.size W3 (W3.alloc (.cells #[.int .i64 0, .int .u64 0, .int .i64 0, .int .u64 0, .int .i64 0, .int .i64 0, .int .u64 0, .slice none 0 0, .slice none 0 0, .int .i64 0, .int .u64 0, .slice none 0 0, .slice none 0 0] 41)) := (Below.refl _ _).alloc (Nat.le_refl _) _
      have HBa : Hid (Below w2.heap.size w2 (W3.alloc (.cells #[.int .i64 0, .int .u64 0, .int .i64 0, .int .u64 0, .int .i64 0, .int .i64 0, .int .u64 0, .slice none 0 0, .slice none 0 0, .int .i64 0, .int .u64 0, .slice none 0 0, .slice none 0 0] 41))) := ((HBW3.out : Below w2.heap.size w2 _).trans (a3.mono (HBW3.out : Below w2.heap.size w2 _).size))
      have HRa : Hid ((W3.alloc (.cells #[.int .i64 0, .int .u64 0, .int .i64 0, .int .u64 0, .int .i64 0, .int .i64 0, .int .u64 0, .slice none 0 0, .slice none 0 0, .int .i64 0, .int .u64 0, .slice none 0 0, .slice none 0 0] 41)).heap[W3.heap.size]? = some (.cells #[.int .i64 0, .int .u64 0, .int .i64 0, .int .u64 0, .int .i64 0, .int .i64 0, .int .u64 0, .slice none 0 0, .slice none 0 0, .int .i64 0, .int .u64 0, .slice none 0 0, .slice none 0 0] 41 (0, 0))) := (heap_alloc_new W3 (.cells #[.int .i64 0, .int .u64 0, .int .i64 0, .int .u64 0, .int .i64 0, .int .i64 0, .int .u64 0, .slice none 0 0, .slice none 0 0, .int .i64 0, .int .u64 0, .slice none 0 0, .slice none 0 0] 41) : _)
      have hra : w2.heap.size ≤ W3.heap.size := (HBW3.out : Below w2.heap.size w2 _).size
      have hrb : W3.heap.size < (W3.alloc (.cells #[.int .i64 0, .int .u64 0, .int .i64 0, .int .u64 0, .int .i64 0, .int .i64 0, .int .u64 0, .slice none 0 0, .slice none 0 0, .int .i64 0, .int .u64 0, .slice none 0 0, .slice none 0 0] 41)).heap.size := by simp
      have X3a := hide (ag_past X3.out a3)
      clear a3
      try dsimp only
      refine hK.out _ _ (fun _ => HBa.out) ?_
      clear hK K
      try simp only [Act.put, List.setIfInBounds_toArray, List.set_cons_zero, List.set_cons_succ]
      refine oneK (i := 3) (by kernel_rfl) rfl (fun K hK => ?_)
      go_simp
      refine (c_toAgg SM'.out (ag_past HA'.out (chain HT2.out HBa.out))).mono ?_
      rintro e W4 ⟨gp4, gn4, ge4, gr4, rfl, _, _, _, _, _, ow, hb⟩
      have HBW4 : Hid (Below w2.heap.size w2 W4) := (HBa.out : Below w2.heap.size w2 _).trans (hb.mono (HBa.out : Below w2.heap.size w2 _).size)
      have X4 := hide ow.at
      have X3b := hide (ag_past X3a.out hb)
      have HRW4 : Hid (W4.heap[W3.heap.size]? = some (.cells #[.int .i64 0, .int .u64 0, .int .i64 0, .int .u64 0, .int .i64 0, .int .i64 0, .int .u64 0, .slice none 0 0, .slice none 0 0, .int .i64 0, .int .u64 0, .slice none 0 0, .slice none 0 0] 41 (0, 0))) := (hb.block _ hrb).trans HRa.out
      clear ow hb
      try dsimp only
      refine hK.out _ _ (fun _ => HBW4.out) ?_
      clear hK K
      try simp only [Act.put, List.setIfInBounds_toArray, List.set_cons_zero, List.set_cons_succ]
      refine oneK (i := 4) (by kernel_rfl) rfl (fun K hK => ?_)
      go_simp
      refine (c_s_AggMerge OK.out OK'.out SM.out SM'.out X3b.out X4.out (fun e => by cases e)).mono ?_
      rintro e W5 ⟨v5, o, rfl, hM, ⟨q, rfl, hO⟩, hb⟩
      have HBW5 : Hid (Below w2.heap.size w2 W5) := (HBW4.out : Below w2.heap.size w2 _).trans (hb.mono (HBW4.out : Below w2.heap.size w2 _).size)
      have HM := hide hM
      have HO := hide hO
      have HRW5 : Hid (W5.heap[W3.heap.size]? = some (.cells #[.int .i64 0, .int .u64 0, .int .i64 0, .int .u64 0, .int .i64 0, .int .i64 0, .int .u64 0, .slice none 0 0, .slice none 0 0, .int .i64 0, .int .u64 0, .slice none 0 0, .slice none 0 0] 41 (0, 0))) := (hb.block _ (Array.getElem?_eq_some_iff.1 HRW4.out).1).trans HRW4.out
      have hrc := (Array.getElem?_eq_some_iff.1 HRW4.out).1
      have hbs := (HBW4.out : Below w2.heap.size w2 _).size
      clear hM hO hb
      try dsimp only
      refine hK.out _ _ (fun _ => HBW5.out) ?_
      clear hK K
      try simp only [Act.put, List.setIfInBounds_toArray, List.set_cons_zero, List.set_cons_succ]
      have R5 := HRW5.out
      have q0 := cellK R5 0 rfl
      have q1 := cellK R5 1 rfl
      have q2 := cellK R5 2 rfl
      have q3 := cellK R5 3 rfl
      have q4 := cellK R5 4 rfl
      have q5 := cellK R5 5 rfl
      have q6 := cellK R5 6 rfl
      have q7 := cellK R5 7 rfl
      have q8 := cellK R5 8 rfl
      have q9 := cellK R5 9 rfl
      have q10 := cellK R5 10 rfl
      have q11 := cellK R5 11 rfl
      have q12 := cellK R5 12 rfl
      have f0 := frozen_of_row W5 (W3.heap.size) 0 _ _ R5
      have f1 := frozen_of_row W5 (W3.heap.size) 1 _ _ R5
      have f2 := frozen_of_row W5 (W3.heap.size) 2 _ _ R5
      have f3 := frozen_of_row W5 (W3.heap.size) 3 _ _ R5
      have f4 := frozen_of_row W5 (W3.heap.size) 4 _ _ R5
      have f5 := frozen_of_row W5 (W3.heap.size) 5 _ _ R5
      have f6 := frozen_of_row W5 (W3.heap.size) 6 _ _ R5
      have f7 := frozen_of_row W5 (W3.heap.size) 7 _ _ R5
      have f8 := frozen_of_row W5 (W3.heap.size) 8 _ _ R5
      have f9 := frozen_of_row W5 (W3.heap.size) 9 _ _ R5
      have f10 := frozen_of_row W5 (W3.heap.size) 10 _ _ R5
      have f11 := frozen_of_row W5 (W3.heap.size) 11 _ _ R5
      have f12 := frozen_of_row W5 (W3.heap.size) 12 _ _ R5
      refine oneK (i := 6) (by kernel_rfl) rfl (fun K hK => ?_)
      go_simp
      refine hK.out _ _ (fun h => absurd rfl h) ?_
      clear hK K
      try simp only [Act.put, List.setIfInBounds_toArray, List.set_cons_zero, List.set_cons_succ]
      refine doneK (by kernel_rfl) ?_ _
      clear q0 f0 q1 f1 q2 f2 q3 f3 q4 f4 q5 f5 q6 f6 q7 f7 q8 f8 q9 f9 q10 f10 q11 f11 q12 f12
      have HS13 := hide (st13_ok R5 HBW5.out hra HO.out hrc hbs)
      clear R5
      go_wp2
      exact HQ.out (W3.heap.size) o q _ _ _ _ _ _ HM.out HS13.out.1 HS13.out.2.2 hra HS13.out.2.1
  · go_simp
    have a3 : Below w2.drew.heap.size w2.drew (w2.drew.alloc (.cells #[.int .i64 0, .int .u64 0, .int .i64 0, .int .u64 0, .int .i64 0, .int .i64 0, .int .u64 0, .slice none 0 0, .slice none 0 0, .int .i64 0, .int .u64 0, .slice none 0 0, .slice none 0 0] 41)) := (Below.refl _ _).alloc (Nat.le_refl _) _
    have HBa : Hid (Below w2.heap.size w2 (w2.drew.alloc (.cells #[.int .i64 0, .int .u64 0, .int .i64 0, .int .u64 0, .int .i64 0, .int .i64 0, .int .u64 0, .slice none 0 0, .slice none 0 0, .int .i64 0, .int .u64 0, .slice none 0 0, .slice none 0 0] 41))) := ((HS0 : Below w2.heap.size w2 _).trans (a3.mono (HS0 : Below w2.heap.size w2 _).size))
    have HRa : Hid ((w2.drew.alloc (.cells #[.int .i64 0, .int .u64 0, .int .i64 0, .int .u64 0, .int .i64 0, .int .i64 0, .int .u64 0, .slice none 0 0, .slice none 0 0, .int .i64 0, .int .u64 0, .slice none 0 0, .slice none 0 0] 41)).heap[w2.heap.size]? = some (.cells #[.int .i64 0, .int .u64 0, .int .i64 0, .int .u64 0, .int .i64 0, .int .i64 0, .int .u64 0, .slice none 0 0, .slice none 0 0, .int .i64 0, .int .u64 0, .slice none 0 0, .slice none 0 0] 41 (0, 0))) := (heap_alloc_new w2.drew (.cells #[.int .i64 0, .int .u64 0, .int .i64 0, .int .u64 0, .int .i64 0, .int .i64 0, .int .u64 0, .slice none 0 0, .slice none 0 0, .int .i64 0, .int .u64 0, .slice none 0 0, .slice none 0 0] 41) : _)
    have hra : w2.heap.size ≤ w2.heap.size := (HS0 : Below w2.heap.size w2 _).size
    have hrb : w2.heap.size < (w2.drew.alloc (.cells #[.int .i64 0, .int .u64 0, .int .i64 0, .int .u64 0, .int .i64 0, .int .i64 0, .int .u64 0, .slice none 0 0, .slice none 0 0, .int .i64 0, .int .u64 0, .slice none 0 0, .slice none 0 0] 41)).heap.size := by simp
    clear a3
    try dsimp only
    refine hK.out _ _ (fun _ => HBa.out) ?_
    clear hK K
    try simp only [Act.put, List.setIfInBounds_toArray, List.set_cons_zero, List.set_cons_succ]
    refine oneK (i := 1) (by kernel_rfl) rfl (fun K hK => ?_)
    go_simp
    refine (c_toAgg SM.out (ag_past HA.out (chain HT2.out HBa.out))).mono ?_
    rintro e W3 ⟨gp3, gn3, ge3, gr3, rfl, _, _, _, _, _, ow, hb⟩
    have HBW3 : Hid (Below w2.heap.size w2 W3) := (HBa.out : Below w2.heap.size w2 _).trans (hb.mono (HBa.out : Below w2.heap.size w2 _).size)
    have X3 := hide ow.at
    have HRW3 : Hid (W3.heap[w2.heap.size]? = some (.cells #[.int .i64 0, .int .u64 0, .int .i64 0, .int .u64 0, .int .i64 0, .int .i64 0, .int .u64 0, .slice none 0 0, .slice none 0 0, .int .i64 0, .int .u64 0, .slice none 0 0, .slice none 0 0] 41 (0, 0))) := (hb.block _ hrb).trans HRa.out
    clear ow hb
    try dsimp only
    refine hK.out _ _ (fun _ => HBW3.out) ?_
    clear hK K
    try simp only [Act.put, List.setIfInBounds_toArray, List.set_cons_zero, List.set_cons_succ]
    refine oneK (i := 3) (by kernel_rfl) rfl (fun K hK => ?_)
    go_simp
    refine (c_toAgg SM'.out (ag_past HA'.out (chain HT2.out HBW3.out))).mono ?_
    rintro e W4 ⟨gp4, gn4, ge4, gr4, rfl, _, _, _, _, _, ow, hb⟩
    have HBW4 : Hid (Below w2.heap.size w2 W4) := (HBW3.out : Below w2.heap.size w2 _).trans (hb.mono (HBW3.out : Below w2.heap.size w2 _).size)
    have X4 := hide ow.at
    have X3b := hide (ag_past X3.out hb)
    have HRW4 : Hid (W4.heap[w2.heap.size]? = some (.cells #[.int .i64 0, .int .u64 0, .int .i64 0, .int .u64 0, .int .i64 0, .int .i64 0, .int .u64 0, .slice none 0 0, .slice none 0 0, .int .i64 0, .int .u64 0, .slice none 0 0, .slice none 0 0] 41 (0, 0))) := (hb.block _ (Array.getElem?_eq_some_iff.1 HRW3.out).1).trans HRW3.out
    clear ow hb
    try dsimp only
    refine hK.out _ _ (fun _ => HBW4.out) ?_
    clear hK K
    try simp only [Act.put, List.setIfInBounds_toArray, List.set_cons_zero, List.set_cons_succ]
    refine oneK (i := 4) (by kernel_rfl) rfl (fun K hK => ?_)
    go_simp
    refine (c_s_AggMerge OK.out OK'.out SM.out SM'.out X3b.out X4.out (fun e => by cases e)).mono ?_
    rintro e W5 ⟨v5, o, rfl, hM, ⟨q, rfl, hO⟩, hb⟩
    have HBW5 : Hid (Below w2.heap.size w2 W5) := (HBW4.out : Below w2.heap.size w2 _).trans (hb.mono (HBW4.out : Below w2.heap.size w2 _).size)
    have HM := hide hM
    have HO := hide hO
    have HRW5 : Hid (W5.heap[w2.heap.size]? = some (.cells #[.int .i64 0, .int .u64 0, .int .i64 0, .int .u64 0, .int .i64 0, .int .i64 0, .int .u64 0, .slice none 0 0, .slice none 0 0, .int .i64 0, .int .u64 0, .slice none 0 0, .slice none 0 0] 41 (0, 0))) := (hb.block _ (Array.getElem?_eq_some_iff.1 HRW4.out).1).trans HRW4.out
    have hrc := (Array.getElem?_eq_some_iff.1 HRW4.out).1
    have hbs := (HBW4.out : Below w2.heap.size w2 _).size
    clear hM hO hb
    try dsimp only
    refine hK.out _ _ (fun _ => HBW5.out) ?_
    clear hK K
    try simp only [Act.put, List.setIfInBounds_toArray, List.set_cons_zero, List.set_cons_succ]
    have R5 := HRW5.out
    have q0 := cellK R5 0 rfl
    have q1 := cellK R5 1 rfl
    have q2 := cellK R5 2 rfl
    have q3 := cellK R5 3 rfl
    have q4 := cellK R5 4 rfl
    have q5 := cellK R5 5 rfl
    have q6 := cellK R5 6 rfl
    have q7 := cellK R5 7 rfl
    have q8 := cellK R5 8 rfl
    have q9 := cellK R5 9 rfl
    have q10 := cellK R5 10 rfl
    have q11 := cellK R5 11 rfl
    have q12 := cellK R5 12 rfl
    have f0 := frozen_of_row W5 (w2.heap.size) 0 _ _ R5
    have f1 := frozen_of_row W5 (w2.heap.size) 1 _ _ R5
    have f2 := frozen_of_row W5 (w2.heap.size) 2 _ _ R5
    have f3 := frozen_of_row W5 (w2.heap.size) 3 _ _ R5
    have f4 := frozen_of_row W5 (w2.heap.size) 4 _ _ R5
    have f5 := frozen_of_row W5 (w2.heap.size) 5 _ _ R5
    have f6 := frozen_of_row W5 (w2.heap.size) 6 _ _ R5
    have f7 := frozen_of_row W5 (w2.heap.size) 7 _ _ R5
    have f8 := frozen_of_row W5 (w2.heap.size) 8 _ _ R5
    have f9 := frozen_of_row W5 (w2.heap.size) 9 _ _ R5
    have f10 := frozen_of_row W5 (w2.heap.size) 10 _ _ R5
    have f11 := frozen_of_row W5 (w2.heap.size) 11 _ _ R5
    have f12 := frozen_of_row W5 (w2.heap.size) 12 _ _ R5
    refine oneK (i := 6) (by kernel_rfl) rfl (fun K hK => ?_)
    go_simp
    refine hK.out _ _ (fun h => absurd rfl h) ?_
    clear hK K
    try simp only [Act.put, List.setIfInBounds_toArray, List.set_cons_zero, List.set_cons_succ]
    refine doneK (by kernel_rfl) ?_ _
    clear q0 f0 q1 f1 q2 f2 q3 f3 q4 f4 q5 f5 q6 f6 q7 f7 q8 f8 q9 f9 q10 f10 q11 f11 q12 f12
    have HS13 := hide (st13_ok R5 HBW5.out hra HO.out hrc hbs)
    clear R5
    go_wp2
    exact HQ.out (w2.heap.size) o q _ _ _ _ _ _ HM.out HS13.out.1 HS13.out.2.2 hra HS13.out.2.1
set_option maxHeartbeats 16000000 in
theorem regI {K' : Act → World → Prop} {Qp : Ending → World → Prop} {g g' : Ag} {p p' : Pl} {w w2 : World} {x0 x1 x4 x5 x6 x7 x8 x9 x10 x11 x12 x13 x14 x15 x16 x17 x18 x19 x20 x21 x22 x23 x24 x25 x26 x27 x28 x29 x30 x31 x32 x33 x34 x35 x36 x37 x38 x39 x40 x41 x42 x43 x44 x45 x46 x47 x48 x49 x50 x51 x52 x53 x54 x55 x56 x57 x58 x59 x60 x61 x62 x63 x64 x65 x66 x67 x68 x69 x70 x71 x72 x73 x74 x75 x76 x77 x78 x79 x80 x81 x82 x83 x84 x85 x86 x87 x88 x89 x90 x91 : Value} (ok : AgOk g) (ok' : AgOk g') (sm : AgSm g) (sm' : AgSm g') (hA : AgAt w g p) (hA' : AgAt w g' p') (hT : Below w.heap.size w w2)
    (hK : ∀ W, Below w2.heap.size w2 W → AgCell W w.heap.size g p ∧ AgCell W (w.heap.size + 1) g' p')
    (hQ : ∀ (b : Nat) (o : Ag) (q : Pl) (X : World) (y0 y1 y2 y3 y4 : Value), AgMrg g g' o → X.heap[b]? = some (.cells (agArr o q) 41 (0, 0)) → AgO X w2.heap.size o q → w2.heap.size ≤ b → Below w2.heap.size w2 X →
      K' { tmps := #[x0, x1, .pointer (some ⟨w.heap.size, 0, none⟩), .pointer (some ⟨w.heap.size + 1, 0, none⟩), x4, x5, x6, x7, x8, x9, x10, x11, x12, .pointer (some ⟨b, 0, none⟩), x14, x15, x16, x17, x18, x19, x20, x21, x22, x23, x24, x25, x26, x27, x28, x29, x30, x31, x32, x33, x34, x35, x36, x37, x38, x39, x40, x41, x42, x43, x44, x45, x46, x47, x48, x49, x50, x51, x52, x53, x54, x55, x56, x57, x58, x59, x60, x61, x62, x63, x64, x65, x66, x67, x68, x69, x70, x71, x72, x73, x74, y0, y1, y2, y3, y4, x80, x81, x82, x83, x84, x85, x86, x87, x88, x89, x90, x91], defers := [] } X) :
    Code.wp Tryz.prog (Code.region 31 #[{ dst := some 75, op := Op.load 33 (Operand.tmp 2), type := 33, pos := "exact.go:2356", after := #[], guard := none }, { dst := some 76, op := Op.call { callee := Callee.value (Operand.func 6), args := #[Operand.tmp 75], argTypes := #[33] }, type := 41, pos := "exact.go:2356", after := #[{ on := 0, ground := Ground.data }], guard := none }, { dst := some 77, op := Op.load 33 (Operand.tmp 3), type := 33, pos := "exact.go:2356", after := #[], guard := none }, { dst := some 78, op := Op.call { callee := Callee.value (Operand.func 6), args := #[Operand.tmp 77], argTypes := #[33] }, type := 41, pos := "exact.go:2356", after := #[{ on := 2, ground := Ground.data }, { on := 1, ground := Ground.chain }], guard := none }, { dst := some 79, op := Op.call { callee := Callee.value (Operand.func 7), args := #[Operand.tmp 76, Operand.tmp 78], argTypes := #[41, 41] }, type := 41, pos := "exact.go:2356", after := #[{ on := 1, ground := Ground.data }, { on := 3, ground := Ground.data }, { on := 3, ground := Ground.chain }], guard := none }, { dst := some 13, op := Op.alloc 41, type := 0, pos := "exact.go:2356", after := #[], guard := none }, { dst := none, op := Op.store 41 (Operand.tmp 13) (Operand.tmp 79), type := 0, pos := "exact.go:2356", after := #[{ on := 5, ground := Ground.data }, { on := 4, ground := Ground.data }, { on := 4, ground := Ground.chain }, { on := 0, ground := Ground.phase }, { on := 1, ground := Ground.phase }, { on := 2, ground := Ground.phase }, { on := 3, ground := Ground.phase }, { on := 4, ground := Ground.phase }, { on := 5, ground := Ground.phase }], guard := none }] true) (Exit.then K' (bodyPost Tryz.prog Tryz.f3 Qp)) { tmps := #[x0, x1, .pointer (some ⟨w.heap.size, 0, none⟩), .pointer (some ⟨w.heap.size + 1, 0, none⟩), x4, x5, x6, x7, x8, x9, x10, x11, x12, x13, x14, x15, x16, x17, x18, x19, x20, x21, x22, x23, x24, x25, x26, x27, x28, x29, x30, x31, x32, x33, x34, x35, x36, x37, x38, x39, x40, x41, x42, x43, x44, x45, x46, x47, x48, x49, x50, x51, x52, x53, x54, x55, x56, x57, x58, x59, x60, x61, x62, x63, x64, x65, x66, x67, x68, x69, x70, x71, x72, x73, x74, x75, x76, x77, x78, x79, x80, x81, x82, x83, x84, x85, x86, x87, x88, x89, x90, x91], defers := [] } w2 := by
  have OK := hide ok
  have OK' := hide ok'
  have SM := hide sm
  have SM' := hide sm'
  have HA := hide hA
  have HA' := hide hA'
  have HT2 := hide hT
  have HK2 := hide hK
  have HQ := hide hQ
  clear ok ok' sm sm' hA hA' hT hK hQ
  have HS0 : (fun Y => Below w2.heap.size w2 Y) w2.drew := (Below.refl _ _).drew
  refine regionK (fun Y => Below w2.heap.size w2 Y) 6 (by kernel_rfl) ?_
  refine takeK (i := 0) (d := 75) (v := .agg (agArr g p)) rfl rfl (by kernel_rfl) (by kernel_rfl) (by kernel_rfl) (by decide) (by kernel_rfl) (fun _ _ _ h => h) (Or.inl ⟨by rfl, fun Y hY => ?_⟩) HS0 ?_
  · obtain ⟨⟨x0, x1, x2, x3, x4, x5, x6, x7, x8, x9, x10, x11, x12⟩, ⟨y0, y1, y2, y3, y4, y5, y6, y7, y8, y9, y10, y11, y12⟩⟩ := HK2.out Y hY
    clear hY
    go_simp
  simp only [List.setIfInBounds_toArray, List.set_cons_zero, List.set_cons_succ]
  refine takeK (i := 2) (d := 77) (v := .agg (agArr g' p')) rfl rfl (by kernel_rfl) (by kernel_rfl) (by kernel_rfl) (by decide) (by kernel_rfl) (fun _ _ _ h => h) (Or.inl ⟨by rfl, fun Y hY => ?_⟩) HS0 ?_
  · obtain ⟨⟨x0, x1, x2, x3, x4, x5, x6, x7, x8, x9, x10, x11, x12⟩, ⟨y0, y1, y2, y3, y4, y5, y6, y7, y8, y9, y10, y11, y12⟩⟩ := HK2.out Y hY
    clear hY
    go_simp
  simp only [List.setIfInBounds_toArray, List.set_cons_zero, List.set_cons_succ]
  refine twoK (i := 1) (j := 5) (by kernel_rfl) rfl rfl (fun K hK => ?_) (fun K hK => ?_)
  · go_simp
    refine (c_toAgg SM.out (ag_past HA.out (chain HT2.out HS0))).mono ?_
    rintro e W3 ⟨gp3, gn3, ge3, gr3, rfl, _, _, _, _, _, ow, hb⟩
    have HBW3 : Hid (Below w2.heap.size w2 W3) := (HS0 : Below w2.heap.size w2 _).trans (hb.mono (HS0 : Below w2.heap.size w2 _).size)
    have X3 := hide ow.at
    clear ow hb
    try dsimp only
    refine hK.out _ _ (fun _ => HBW3.out) ?_
    clear hK K
    try simp only [Act.put, List.setIfInBounds_toArray, List.set_cons_zero, List.set_cons_succ]
    refine twoK (i := 3) (j := 5) (by kernel_rfl) rfl rfl (fun K hK => ?_) (fun K hK => ?_)
    · go_simp
      refine (c_toAgg SM'.out (ag_past HA'.out (chain HT2.out HBW3.out))).mono ?_
      rintro e W4 ⟨gp4, gn4, ge4, gr4, rfl, _, _, _, _, _, ow, hb⟩
      have HBW4 : Hid (Below w2.heap.size w2 W4) := (HBW3.out : Below w2.heap.size w2 _).trans (hb.mono (HBW3.out : Below w2.heap.size w2 _).size)
      have X4 := hide ow.at
      have X3b := hide (ag_past X3.out hb)
      clear ow hb
      try dsimp only
      refine hK.out _ _ (fun _ => HBW4.out) ?_
      clear hK K
      try simp only [Act.put, List.setIfInBounds_toArray, List.set_cons_zero, List.set_cons_succ]
      refine twoK (i := 4) (j := 5) (by kernel_rfl) rfl rfl (fun K hK => ?_) (fun K hK => ?_)
      · go_simp
        refine (c_i_AggMerge OK.out OK'.out SM.out SM'.out X3b.out X4.out).mono ?_
        rintro e W5 ⟨v5, o, rfl, hM, ⟨q, rfl, hO⟩, hb⟩
        have HBW5 : Hid (Below w2.heap.size w2 W5) := (HBW4.out : Below w2.heap.size w2 _).trans (hb.mono (HBW4.out : Below w2.heap.size w2 _).size)
        have HM := hide hM
        have HO := hide hO
        have hbs := (HBW4.out : Below w2.heap.size w2 _).size
        clear hM hO hb
        try dsimp only
        refine hK.out _ _ (fun _ => HBW5.out) ?_
        clear hK K
        try simp only [Act.put, List.setIfInBounds_toArray, List.set_cons_zero, List.set_cons_succ]
        refine oneK (i := 5) (by kernel_rfl) rfl (fun K hK => ?_)
        go_simp
        have a3 : Below W5.heap.size W5 (W5.alloc (.cells #[.int .i64 0, .int .u64 0, .int .i64 0, .int .u64 0, .int .i64 0, .int .i64 0, .int .u64 0, .slice none 0 0, .slice none 0 0, .int .i64 0, .int .u64 0, .slice none 0 0, .slice none 0 0] 41)) := (Below.refl _ _).alloc (Nat.le_refl _) _
        have HBa : Hid (Below w2.heap.size w2 (W5.alloc (.cells #[.int .i64 0, .int .u64 0, .int .i64 0, .int .u64 0, .int .i64 0, .int .i64 0, .int .u64 0, .slice none 0 0, .slice none 0 0, .int .i64 0, .int .u64 0, .slice none 0 0, .slice none 0 0] 41))) := ((HBW5.out : Below w2.heap.size w2 _).trans (a3.mono (HBW5.out : Below w2.heap.size w2 _).size))
        have HRa : Hid ((W5.alloc (.cells #[.int .i64 0, .int .u64 0, .int .i64 0, .int .u64 0, .int .i64 0, .int .i64 0, .int .u64 0, .slice none 0 0, .slice none 0 0, .int .i64 0, .int .u64 0, .slice none 0 0, .slice none 0 0] 41)).heap[W5.heap.size]? = some (.cells #[.int .i64 0, .int .u64 0, .int .i64 0, .int .u64 0, .int .i64 0, .int .i64 0, .int .u64 0, .slice none 0 0, .slice none 0 0, .int .i64 0, .int .u64 0, .slice none 0 0, .slice none 0 0] 41 (0, 0))) := (heap_alloc_new W5 (.cells #[.int .i64 0, .int .u64 0, .int .i64 0, .int .u64 0, .int .i64 0, .int .i64 0, .int .u64 0, .slice none 0 0, .slice none 0 0, .int .i64 0, .int .u64 0, .slice none 0 0, .slice none 0 0] 41) : _)
        have hra : w2.heap.size ≤ W5.heap.size := (HBW5.out : Below w2.heap.size w2 _).size
        have hrb : W5.heap.size < (W5.alloc (.cells #[.int .i64 0, .int .u64 0, .int .i64 0, .int .u64 0, .int .i64 0, .int .i64 0, .int .u64 0, .slice none 0 0, .slice none 0 0, .int .i64 0, .int .u64 0, .slice none 0 0, .slice none 0 0] 41)).heap.size := by simp
        have HOa := hide (HO.out.past a3)
        clear a3
        try dsimp only
        refine hK.out _ _ (fun _ => HBa.out) ?_
        clear hK K
        try simp only [Act.put, List.setIfInBounds_toArray, List.set_cons_zero, List.set_cons_succ]
        have R5 := HRa.out
        have q0 := cellK R5 0 rfl
        have q1 := cellK R5 1 rfl
        have q2 := cellK R5 2 rfl
        have q3 := cellK R5 3 rfl
        have q4 := cellK R5 4 rfl
        have q5 := cellK R5 5 rfl
        have q6 := cellK R5 6 rfl
        have q7 := cellK R5 7 rfl
        have q8 := cellK R5 8 rfl
        have q9 := cellK R5 9 rfl
        have q10 := cellK R5 10 rfl
        have q11 := cellK R5 11 rfl
        have q12 := cellK R5 12 rfl
        have f0 := frozen_of_row (W5.alloc (.cells #[.int .i64 0, .int .u64 0, .int .i64 0, .int .u64 0, .int .i64 0, .int .i64 0, .int .u64 0, .slice none 0 0, .slice none 0 0, .int .i64 0, .int .u64 0, .slice none 0 0, .slice none 0 0] 41)) (W5.heap.size) 0 _ _ R5
        have f1 := frozen_of_row (W5.alloc (.cells #[.int .i64 0, .int .u64 0, .int .i64 0, .int .u64 0, .int .i64 0, .int .i64 0, .int .u64 0, .slice none 0 0, .slice none 0 0, .int .i64 0, .int .u64 0, .slice none 0 0, .slice none 0 0] 41)) (W5.heap.size) 1 _ _ R5
        have f2 := frozen_of_row (W5.alloc (.cells #[.int .i64 0, .int .u64 0, .int .i64 0, .int .u64 0, .int .i64 0, .int .i64 0, .int .u64 0, .slice none 0 0, .slice none 0 0, .int .i64 0, .int .u64 0, .slice none 0 0, .slice none 0 0] 41)) (W5.heap.size) 2 _ _ R5
        have f3 := frozen_of_row (W5.alloc (.cells #[.int .i64 0, .int .u64 0, .int .i64 0, .int .u64 0, .int .i64 0, .int .i64 0, .int .u64 0, .slice none 0 0, .slice none 0 0, .int .i64 0, .int .u64 0, .slice none 0 0, .slice none 0 0] 41)) (W5.heap.size) 3 _ _ R5
        have f4 := frozen_of_row (W5.alloc (.cells #[.int .i64 0, .int .u64 0, .int .i64 0, .int .u64 0, .int .i64 0, .int .i64 0, .int .u64 0, .slice none 0 0, .slice none 0 0, .int .i64 0, .int .u64 0, .slice none 0 0, .slice none 0 0] 41)) (W5.heap.size) 4 _ _ R5
        have f5 := frozen_of_row (W5.alloc (.cells #[.int .i64 0, .int .u64 0, .int .i64 0, .int .u64 0, .int .i64 0, .int .i64 0, .int .u64 0, .slice none 0 0, .slice none 0 0, .int .i64 0, .int .u64 0, .slice none 0 0, .slice none 0 0] 41)) (W5.heap.size) 5 _ _ R5
        have f6 := frozen_of_row (W5.alloc (.cells #[.int .i64 0, .int .u64 0, .int .i64 0, .int .u64 0, .int .i64 0, .int .i64 0, .int .u64 0, .slice none 0 0, .slice none 0 0, .int .i64 0, .int .u64 0, .slice none 0 0, .slice none 0 0] 41)) (W5.heap.size) 6 _ _ R5
        have f7 := frozen_of_row (W5.alloc (.cells #[.int .i64 0, .int .u64 0, .int .i64 0, .int .u64 0, .int .i64 0, .int .i64 0, .int .u64 0, .slice none 0 0, .slice none 0 0, .int .i64 0, .int .u64 0, .slice none 0 0, .slice none 0 0] 41)) (W5.heap.size) 7 _ _ R5
        have f8 := frozen_of_row (W5.alloc (.cells #[.int .i64 0, .int .u64 0, .int .i64 0, .int .u64 0, .int .i64 0, .int .i64 0, .int .u64 0, .slice none 0 0, .slice none 0 0, .int .i64 0, .int .u64 0, .slice none 0 0, .slice none 0 0] 41)) (W5.heap.size) 8 _ _ R5
        have f9 := frozen_of_row (W5.alloc (.cells #[.int .i64 0, .int .u64 0, .int .i64 0, .int .u64 0, .int .i64 0, .int .i64 0, .int .u64 0, .slice none 0 0, .slice none 0 0, .int .i64 0, .int .u64 0, .slice none 0 0, .slice none 0 0] 41)) (W5.heap.size) 9 _ _ R5
        have f10 := frozen_of_row (W5.alloc (.cells #[.int .i64 0, .int .u64 0, .int .i64 0, .int .u64 0, .int .i64 0, .int .i64 0, .int .u64 0, .slice none 0 0, .slice none 0 0, .int .i64 0, .int .u64 0, .slice none 0 0, .slice none 0 0] 41)) (W5.heap.size) 10 _ _ R5
        have f11 := frozen_of_row (W5.alloc (.cells #[.int .i64 0, .int .u64 0, .int .i64 0, .int .u64 0, .int .i64 0, .int .i64 0, .int .u64 0, .slice none 0 0, .slice none 0 0, .int .i64 0, .int .u64 0, .slice none 0 0, .slice none 0 0] 41)) (W5.heap.size) 11 _ _ R5
        have f12 := frozen_of_row (W5.alloc (.cells #[.int .i64 0, .int .u64 0, .int .i64 0, .int .u64 0, .int .i64 0, .int .i64 0, .int .u64 0, .slice none 0 0, .slice none 0 0, .int .i64 0, .int .u64 0, .slice none 0 0, .slice none 0 0] 41)) (W5.heap.size) 12 _ _ R5
        refine oneK (i := 6) (by kernel_rfl) rfl (fun K hK => ?_)
        go_simp
        refine hK.out _ _ (fun h => absurd rfl h) ?_
        clear hK K
        try simp only [Act.put, List.setIfInBounds_toArray, List.set_cons_zero, List.set_cons_succ]
        refine doneK (by kernel_rfl) ?_ _
        clear q0 f0 q1 f1 q2 f2 q3 f3 q4 f4 q5 f5 q6 f6 q7 f7 q8 f8 q9 f9 q10 f10 q11 f11 q12 f12
        go_wp2
        exact HQ.out W5.heap.size o q _ _ _ _ _ _ HM.out (heap_alloc_new W5 _) ((HO.out.past ((Below.refl _ _).alloc (Nat.le_refl _) _)).le hbs) HBW5.out.size (Below.alloc HBW5.out HBW5.out.size _)
      · go_simp
        have a3 : Below W4.heap.size W4 (W4.alloc (.cells #[.int .i64 0, .int .u64 0, .int .i64 0, .int .u64 0, .int .i64 0, .int .i64 0, .int .u64 0, .slice none 0 0, .slice none 0 0, .int .i64 0, .int .u64 0, .slice none 0 0, .slice none 0 0] 41)) := (Below.refl _ _).alloc (Nat.le_refl _) _
        have HBa : Hid (Below w2.heap.size w2 (W4.alloc (.cells #[.int .i64 0, .int .u64 0, .int .i64 0, .int .u64 0, .int .i64 0, .int .i64 0, .int .u64 0, .slice none 0 0, .slice none 0 0, .int .i64 0, .int .u64 0, .slice none 0 0, .slice none 0 0] 41))) := ((HBW4.out : Below w2.heap.size w2 _).trans (a3.mono (HBW4.out : Below w2.heap.size w2 _).size))
        have HRa : Hid ((W4.alloc (.cells #[.int .i64 0, .int .u64 0, .int .i64 0, .int .u64 0, .int .i64 0, .int .i64 0, .int .u64 0, .slice none 0 0, .slice none 0 0, .int .i64 0, .int .u64 0, .slice none 0 0, .slice none 0 0] 41)).heap[W4.heap.size]? = some (.cells #[.int .i64 0, .int .u64 0, .int .i64 0, .int .u64 0, .int .i64 0, .int .i64 0, .int .u64 0, .slice none 0 0, .slice none 0 0, .int .i64 0, .int .u64 0, .slice none 0 0, .slice none 0 0] 41 (0, 0))) := (heap_alloc_new W4 (.cells #[.int .i64 0, .int .u64 0, .int .i64 0, .int .u64 0, .int .i64 0, .int .i64 0, .int .u64 0, .slice none 0 0, .slice none 0 0, .int .i64 0, .int .u64 0, .slice none 0 0, .slice none 0 0] 41) : _)
        have hra : w2.heap.size ≤ W4.heap.size := (HBW4.out : Below w2.heap.size w2 _).size
        have hrb : W4.heap.size < (W4.alloc (.cells #[.int .i64 0, .int .u64 0, .int .i64 0, .int .u64 0, .int .i64 0, .int .i64 0, .int .u64 0, .slice none 0 0, .slice none 0 0, .int .i64 0, .int .u64 0, .slice none 0 0, .slice none 0 0] 41)).heap.size := by simp
        have X3a := hide (ag_past X3b.out a3)
        have X4a := hide (ag_past X4.out a3)
        clear a3
        try dsimp only
        refine hK.out _ _ (fun _ => HBa.out) ?_
        clear hK K
        try simp only [Act.put, List.setIfInBounds_toArray, List.set_cons_zero, List.set_cons_succ]
        refine oneK (i := 4) (by kernel_rfl) rfl (fun K hK => ?_)
        go_simp
        refine (c_i_AggMerge OK.out OK'.out SM.out SM'.out X3a.out X4a.out).mono ?_
        rintro e W5 ⟨v5, o, rfl, hM, ⟨q, rfl, hO⟩, hb⟩
        have HBW5 : Hid (Below w2.heap.size w2 W5) := (HBa.out : Below w2.heap.size w2 _).trans (hb.mono (HBa.out : Below w2.heap.size w2 _).size)
        have HM := hide hM
        have HO := hide hO
        have HRW5 : Hid (W5.heap[W4.heap.size]? = some (.cells #[.int .i64 0, .int .u64 0, .int .i64 0, .int .u64 0, .int .i64 0, .int .i64 0, .int .u64 0, .slice none 0 0, .slice none 0 0, .int .i64 0, .int .u64 0, .slice none 0 0, .slice none 0 0] 41 (0, 0))) := (hb.block _ hrb).trans HRa.out
        have hrc := (Array.getElem?_eq_some_iff.1 HRa.out).1
        have hbs := (HBa.out : Below w2.heap.size w2 _).size
        clear hM hO hb
        try dsimp only
        refine hK.out _ _ (fun _ => HBW5.out) ?_
        clear hK K
        try simp only [Act.put, List.setIfInBounds_toArray, List.set_cons_zero, List.set_cons_succ]
        have R5 := HRW5.out
        have q0 := cellK R5 0 rfl
        have q1 := cellK R5 1 rfl
        have q2 := cellK R5 2 rfl
        have q3 := cellK R5 3 rfl
        have q4 := cellK R5 4 rfl
        have q5 := cellK R5 5 rfl
        have q6 := cellK R5 6 rfl
        have q7 := cellK R5 7 rfl
        have q8 := cellK R5 8 rfl
        have q9 := cellK R5 9 rfl
        have q10 := cellK R5 10 rfl
        have q11 := cellK R5 11 rfl
        have q12 := cellK R5 12 rfl
        have f0 := frozen_of_row W5 (W4.heap.size) 0 _ _ R5
        have f1 := frozen_of_row W5 (W4.heap.size) 1 _ _ R5
        have f2 := frozen_of_row W5 (W4.heap.size) 2 _ _ R5
        have f3 := frozen_of_row W5 (W4.heap.size) 3 _ _ R5
        have f4 := frozen_of_row W5 (W4.heap.size) 4 _ _ R5
        have f5 := frozen_of_row W5 (W4.heap.size) 5 _ _ R5
        have f6 := frozen_of_row W5 (W4.heap.size) 6 _ _ R5
        have f7 := frozen_of_row W5 (W4.heap.size) 7 _ _ R5
        have f8 := frozen_of_row W5 (W4.heap.size) 8 _ _ R5
        have f9 := frozen_of_row W5 (W4.heap.size) 9 _ _ R5
        have f10 := frozen_of_row W5 (W4.heap.size) 10 _ _ R5
        have f11 := frozen_of_row W5 (W4.heap.size) 11 _ _ R5
        have f12 := frozen_of_row W5 (W4.heap.size) 12 _ _ R5
        refine oneK (i := 6) (by kernel_rfl) rfl (fun K hK => ?_)
        go_simp
        refine hK.out _ _ (fun h => absurd rfl h) ?_
        clear hK K
        try simp only [Act.put, List.setIfInBounds_toArray, List.set_cons_zero, List.set_cons_succ]
        refine doneK (by kernel_rfl) ?_ _
        clear q0 f0 q1 f1 q2 f2 q3 f3 q4 f4 q5 f5 q6 f6 q7 f7 q8 f8 q9 f9 q10 f10 q11 f11 q12 f12
        have HS13 := hide (st13_ok R5 HBW5.out hra HO.out hrc hbs)
        clear R5
        go_wp2
        exact HQ.out (W4.heap.size) o q _ _ _ _ _ _ HM.out HS13.out.1 HS13.out.2.2 hra HS13.out.2.1
    · go_simp
      have a3 : Below W3.heap.size W3 (W3.alloc (.cells #[.int .i64 0, .int .u64 0, .int .i64 0, .int .u64 0, .int .i64 0, .int .i64 0, .int .u64 0, .slice none 0 0, .slice none 0 0, .int .i64 0, .int .u64 0, .slice none 0 0, .slice none 0 0] 41)) := (Below.refl _ _).alloc (Nat.le_refl _) _
      have HBa : Hid (Below w2.heap.size w2 (W3.alloc (.cells #[.int .i64 0, .int .u64 0, .int .i64 0, .int .u64 0, .int .i64 0, .int .i64 0, .int .u64 0, .slice none 0 0, .slice none 0 0, .int .i64 0, .int .u64 0, .slice none 0 0, .slice none 0 0] 41))) := ((HBW3.out : Below w2.heap.size w2 _).trans (a3.mono (HBW3.out : Below w2.heap.size w2 _).size))
      have HRa : Hid ((W3.alloc (.cells #[.int .i64 0, .int .u64 0, .int .i64 0, .int .u64 0, .int .i64 0, .int .i64 0, .int .u64 0, .slice none 0 0, .slice none 0 0, .int .i64 0, .int .u64 0, .slice none 0 0, .slice none 0 0] 41)).heap[W3.heap.size]? = some (.cells #[.int .i64 0, .int .u64 0, .int .i64 0, .int .u64 0, .int .i64 0, .int .i64 0, .int .u64 0, .slice none 0 0, .slice none 0 0, .int .i64 0, .int .u64 0, .slice none 0 0, .slice none 0 0] 41 (0, 0))) := (heap_alloc_new W3 (.cells #[.int .i64 0, .int .u64 0, .int .i64 0, .int .u64 0, .int .i64 0, .int .i64 0, .int .u64 0, .slice none 0 0, .slice none 0 0, .int .i64 0, .int .u64 0, .slice none 0 0, .slice none 0 0] 41) : _)
      have hra : w2.heap.size ≤ W3.heap.size := (HBW3.out : Below w2.heap.size w2 _).size
      have hrb : W3.heap.size < (W3.alloc (.cells #[.int .i64 0, .int .u64 0, .int .i64 0, .int .u64 0, .int .i64 0, .int .i64 0, .int .u64 0, .slice none 0 0, .slice none 0 0, .int .i64 0, .int .u64 0, .slice none 0 0, .slice none 0 0] 41)).heap.size := by simp
      have X3a := hide (ag_past X3.out a3)
      clear a3
      try dsimp only
      refine hK.out _ _ (fun _ => HBa.out) ?_
      clear hK K
      try simp only [Act.put, List.setIfInBounds_toArray, List.set_cons_zero, List.set_cons_succ]
      refine oneK (i := 3) (by kernel_rfl) rfl (fun K hK => ?_)
      go_simp
      refine (c_toAgg SM'.out (ag_past HA'.out (chain HT2.out HBa.out))).mono ?_
      rintro e W4 ⟨gp4, gn4, ge4, gr4, rfl, _, _, _, _, _, ow, hb⟩
      have HBW4 : Hid (Below w2.heap.size w2 W4) := (HBa.out : Below w2.heap.size w2 _).trans (hb.mono (HBa.out : Below w2.heap.size w2 _).size)
      have X4 := hide ow.at
      have X3b := hide (ag_past X3a.out hb)
      have HRW4 : Hid (W4.heap[W3.heap.size]? = some (.cells #[.int .i64 0, .int .u64 0, .int .i64 0, .int .u64 0, .int .i64 0, .int .i64 0, .int .u64 0, .slice none 0 0, .slice none 0 0, .int .i64 0, .int .u64 0, .slice none 0 0, .slice none 0 0] 41 (0, 0))) := (hb.block _ hrb).trans HRa.out
      clear ow hb
      try dsimp only
      refine hK.out _ _ (fun _ => HBW4.out) ?_
      clear hK K
      try simp only [Act.put, List.setIfInBounds_toArray, List.set_cons_zero, List.set_cons_succ]
      refine oneK (i := 4) (by kernel_rfl) rfl (fun K hK => ?_)
      go_simp
      refine (c_i_AggMerge OK.out OK'.out SM.out SM'.out X3b.out X4.out).mono ?_
      rintro e W5 ⟨v5, o, rfl, hM, ⟨q, rfl, hO⟩, hb⟩
      have HBW5 : Hid (Below w2.heap.size w2 W5) := (HBW4.out : Below w2.heap.size w2 _).trans (hb.mono (HBW4.out : Below w2.heap.size w2 _).size)
      have HM := hide hM
      have HO := hide hO
      have HRW5 : Hid (W5.heap[W3.heap.size]? = some (.cells #[.int .i64 0, .int .u64 0, .int .i64 0, .int .u64 0, .int .i64 0, .int .i64 0, .int .u64 0, .slice none 0 0, .slice none 0 0, .int .i64 0, .int .u64 0, .slice none 0 0, .slice none 0 0] 41 (0, 0))) := (hb.block _ (Array.getElem?_eq_some_iff.1 HRW4.out).1).trans HRW4.out
      have hrc := (Array.getElem?_eq_some_iff.1 HRW4.out).1
      have hbs := (HBW4.out : Below w2.heap.size w2 _).size
      clear hM hO hb
      try dsimp only
      refine hK.out _ _ (fun _ => HBW5.out) ?_
      clear hK K
      try simp only [Act.put, List.setIfInBounds_toArray, List.set_cons_zero, List.set_cons_succ]
      have R5 := HRW5.out
      have q0 := cellK R5 0 rfl
      have q1 := cellK R5 1 rfl
      have q2 := cellK R5 2 rfl
      have q3 := cellK R5 3 rfl
      have q4 := cellK R5 4 rfl
      have q5 := cellK R5 5 rfl
      have q6 := cellK R5 6 rfl
      have q7 := cellK R5 7 rfl
      have q8 := cellK R5 8 rfl
      have q9 := cellK R5 9 rfl
      have q10 := cellK R5 10 rfl
      have q11 := cellK R5 11 rfl
      have q12 := cellK R5 12 rfl
      have f0 := frozen_of_row W5 (W3.heap.size) 0 _ _ R5
      have f1 := frozen_of_row W5 (W3.heap.size) 1 _ _ R5
      have f2 := frozen_of_row W5 (W3.heap.size) 2 _ _ R5
      have f3 := frozen_of_row W5 (W3.heap.size) 3 _ _ R5
      have f4 := frozen_of_row W5 (W3.heap.size) 4 _ _ R5
      have f5 := frozen_of_row W5 (W3.heap.size) 5 _ _ R5
      have f6 := frozen_of_row W5 (W3.heap.size) 6 _ _ R5
      have f7 := frozen_of_row W5 (W3.heap.size) 7 _ _ R5
      have f8 := frozen_of_row W5 (W3.heap.size) 8 _ _ R5
      have f9 := frozen_of_row W5 (W3.heap.size) 9 _ _ R5
      have f10 := frozen_of_row W5 (W3.heap.size) 10 _ _ R5
      have f11 := frozen_of_row W5 (W3.heap.size) 11 _ _ R5
      have f12 := frozen_of_row W5 (W3.heap.size) 12 _ _ R5
      refine oneK (i := 6) (by kernel_rfl) rfl (fun K hK => ?_)
      go_simp
      refine hK.out _ _ (fun h => absurd rfl h) ?_
      clear hK K
      try simp only [Act.put, List.setIfInBounds_toArray, List.set_cons_zero, List.set_cons_succ]
      refine doneK (by kernel_rfl) ?_ _
      clear q0 f0 q1 f1 q2 f2 q3 f3 q4 f4 q5 f5 q6 f6 q7 f7 q8 f8 q9 f9 q10 f10 q11 f11 q12 f12
      have HS13 := hide (st13_ok R5 HBW5.out hra HO.out hrc hbs)
      clear R5
      go_wp2
      exact HQ.out (W3.heap.size) o q _ _ _ _ _ _ HM.out HS13.out.1 HS13.out.2.2 hra HS13.out.2.1
  · go_simp
    have a3 : Below w2.drew.heap.size w2.drew (w2.drew.alloc (.cells #[.int .i64 0, .int .u64 0, .int .i64 0, .int .u64 0, .int .i64 0, .int .i64 0, .int .u64 0, .slice none 0 0, .slice none 0 0, .int .i64 0, .int .u64 0, .slice none 0 0, .slice none 0 0] 41)) := (Below.refl _ _).alloc (Nat.le_refl _) _
    have HBa : Hid (Below w2.heap.size w2 (w2.drew.alloc (.cells #[.int .i64 0, .int .u64 0, .int .i64 0, .int .u64 0, .int .i64 0, .int .i64 0, .int .u64 0, .slice none 0 0, .slice none 0 0, .int .i64 0, .int .u64 0, .slice none 0 0, .slice none 0 0] 41))) := ((HS0 : Below w2.heap.size w2 _).trans (a3.mono (HS0 : Below w2.heap.size w2 _).size))
    have HRa : Hid ((w2.drew.alloc (.cells #[.int .i64 0, .int .u64 0, .int .i64 0, .int .u64 0, .int .i64 0, .int .i64 0, .int .u64 0, .slice none 0 0, .slice none 0 0, .int .i64 0, .int .u64 0, .slice none 0 0, .slice none 0 0] 41)).heap[w2.heap.size]? = some (.cells #[.int .i64 0, .int .u64 0, .int .i64 0, .int .u64 0, .int .i64 0, .int .i64 0, .int .u64 0, .slice none 0 0, .slice none 0 0, .int .i64 0, .int .u64 0, .slice none 0 0, .slice none 0 0] 41 (0, 0))) := (heap_alloc_new w2.drew (.cells #[.int .i64 0, .int .u64 0, .int .i64 0, .int .u64 0, .int .i64 0, .int .i64 0, .int .u64 0, .slice none 0 0, .slice none 0 0, .int .i64 0, .int .u64 0, .slice none 0 0, .slice none 0 0] 41) : _)
    have hra : w2.heap.size ≤ w2.heap.size := (HS0 : Below w2.heap.size w2 _).size
    have hrb : w2.heap.size < (w2.drew.alloc (.cells #[.int .i64 0, .int .u64 0, .int .i64 0, .int .u64 0, .int .i64 0, .int .i64 0, .int .u64 0, .slice none 0 0, .slice none 0 0, .int .i64 0, .int .u64 0, .slice none 0 0, .slice none 0 0] 41)).heap.size := by simp
    clear a3
    try dsimp only
    refine hK.out _ _ (fun _ => HBa.out) ?_
    clear hK K
    try simp only [Act.put, List.setIfInBounds_toArray, List.set_cons_zero, List.set_cons_succ]
    refine oneK (i := 1) (by kernel_rfl) rfl (fun K hK => ?_)
    go_simp
    refine (c_toAgg SM.out (ag_past HA.out (chain HT2.out HBa.out))).mono ?_
    rintro e W3 ⟨gp3, gn3, ge3, gr3, rfl, _, _, _, _, _, ow, hb⟩
    have HBW3 : Hid (Below w2.heap.size w2 W3) := (HBa.out : Below w2.heap.size w2 _).trans (hb.mono (HBa.out : Below w2.heap.size w2 _).size)
    have X3 := hide ow.at
    have HRW3 : Hid (W3.heap[w2.heap.size]? = some (.cells #[.int .i64 0, .int .u64 0, .int .i64 0, .int .u64 0, .int .i64 0, .int .i64 0, .int .u64 0, .slice none 0 0, .slice none 0 0, .int .i64 0, .int .u64 0, .slice none 0 0, .slice none 0 0] 41 (0, 0))) := (hb.block _ hrb).trans HRa.out
    clear ow hb
    try dsimp only
    refine hK.out _ _ (fun _ => HBW3.out) ?_
    clear hK K
    try simp only [Act.put, List.setIfInBounds_toArray, List.set_cons_zero, List.set_cons_succ]
    refine oneK (i := 3) (by kernel_rfl) rfl (fun K hK => ?_)
    go_simp
    refine (c_toAgg SM'.out (ag_past HA'.out (chain HT2.out HBW3.out))).mono ?_
    rintro e W4 ⟨gp4, gn4, ge4, gr4, rfl, _, _, _, _, _, ow, hb⟩
    have HBW4 : Hid (Below w2.heap.size w2 W4) := (HBW3.out : Below w2.heap.size w2 _).trans (hb.mono (HBW3.out : Below w2.heap.size w2 _).size)
    have X4 := hide ow.at
    have X3b := hide (ag_past X3.out hb)
    have HRW4 : Hid (W4.heap[w2.heap.size]? = some (.cells #[.int .i64 0, .int .u64 0, .int .i64 0, .int .u64 0, .int .i64 0, .int .i64 0, .int .u64 0, .slice none 0 0, .slice none 0 0, .int .i64 0, .int .u64 0, .slice none 0 0, .slice none 0 0] 41 (0, 0))) := (hb.block _ (Array.getElem?_eq_some_iff.1 HRW3.out).1).trans HRW3.out
    clear ow hb
    try dsimp only
    refine hK.out _ _ (fun _ => HBW4.out) ?_
    clear hK K
    try simp only [Act.put, List.setIfInBounds_toArray, List.set_cons_zero, List.set_cons_succ]
    refine oneK (i := 4) (by kernel_rfl) rfl (fun K hK => ?_)
    go_simp
    refine (c_i_AggMerge OK.out OK'.out SM.out SM'.out X3b.out X4.out).mono ?_
    rintro e W5 ⟨v5, o, rfl, hM, ⟨q, rfl, hO⟩, hb⟩
    have HBW5 : Hid (Below w2.heap.size w2 W5) := (HBW4.out : Below w2.heap.size w2 _).trans (hb.mono (HBW4.out : Below w2.heap.size w2 _).size)
    have HM := hide hM
    have HO := hide hO
    have HRW5 : Hid (W5.heap[w2.heap.size]? = some (.cells #[.int .i64 0, .int .u64 0, .int .i64 0, .int .u64 0, .int .i64 0, .int .i64 0, .int .u64 0, .slice none 0 0, .slice none 0 0, .int .i64 0, .int .u64 0, .slice none 0 0, .slice none 0 0] 41 (0, 0))) := (hb.block _ (Array.getElem?_eq_some_iff.1 HRW4.out).1).trans HRW4.out
    have hrc := (Array.getElem?_eq_some_iff.1 HRW4.out).1
    have hbs := (HBW4.out : Below w2.heap.size w2 _).size
    clear hM hO hb
    try dsimp only
    refine hK.out _ _ (fun _ => HBW5.out) ?_
    clear hK K
    try simp only [Act.put, List.setIfInBounds_toArray, List.set_cons_zero, List.set_cons_succ]
    have R5 := HRW5.out
    have q0 := cellK R5 0 rfl
    have q1 := cellK R5 1 rfl
    have q2 := cellK R5 2 rfl
    have q3 := cellK R5 3 rfl
    have q4 := cellK R5 4 rfl
    have q5 := cellK R5 5 rfl
    have q6 := cellK R5 6 rfl
    have q7 := cellK R5 7 rfl
    have q8 := cellK R5 8 rfl
    have q9 := cellK R5 9 rfl
    have q10 := cellK R5 10 rfl
    have q11 := cellK R5 11 rfl
    have q12 := cellK R5 12 rfl
    have f0 := frozen_of_row W5 (w2.heap.size) 0 _ _ R5
    have f1 := frozen_of_row W5 (w2.heap.size) 1 _ _ R5
    have f2 := frozen_of_row W5 (w2.heap.size) 2 _ _ R5
    have f3 := frozen_of_row W5 (w2.heap.size) 3 _ _ R5
    have f4 := frozen_of_row W5 (w2.heap.size) 4 _ _ R5
    have f5 := frozen_of_row W5 (w2.heap.size) 5 _ _ R5
    have f6 := frozen_of_row W5 (w2.heap.size) 6 _ _ R5
    have f7 := frozen_of_row W5 (w2.heap.size) 7 _ _ R5
    have f8 := frozen_of_row W5 (w2.heap.size) 8 _ _ R5
    have f9 := frozen_of_row W5 (w2.heap.size) 9 _ _ R5
    have f10 := frozen_of_row W5 (w2.heap.size) 10 _ _ R5
    have f11 := frozen_of_row W5 (w2.heap.size) 11 _ _ R5
    have f12 := frozen_of_row W5 (w2.heap.size) 12 _ _ R5
    refine oneK (i := 6) (by kernel_rfl) rfl (fun K hK => ?_)
    go_simp
    refine hK.out _ _ (fun h => absurd rfl h) ?_
    clear hK K
    try simp only [Act.put, List.setIfInBounds_toArray, List.set_cons_zero, List.set_cons_succ]
    refine doneK (by kernel_rfl) ?_ _
    clear q0 f0 q1 f1 q2 f2 q3 f3 q4 f4 q5 f5 q6 f6 q7 f7 q8 f8 q9 f9 q10 f10 q11 f11 q12 f12
    have HS13 := hide (st13_ok R5 HBW5.out hra HO.out hrc hbs)
    clear R5
    go_wp2
    exact HQ.out (w2.heap.size) o q _ _ _ _ _ _ HM.out HS13.out.1 HS13.out.2.2 hra HS13.out.2.1
set_option maxHeartbeats 16000000 in
theorem walkAggMerge (g : Ag) (p : Pl) (g' : Ag) (p' : Pl) (w : World) (ok : AgOk g) (ln : AgLen g) (hA : AgAt w g p) (ok' : AgOk g') (ln' : AgLen g') (hA' : AgAt w g' p') :
    Calls Tryz.prog 3 #[.agg (agArr g p), .agg (agArr g' p')] w fun e w' => e = .returned (.bool true) ∧ Below w.heap.size w w' := by
  have HA := hide hA
  have HA' := hide hA'
  have OK := hide ok
  have OK' := hide ok'
  have LN := hide ln
  have LN' := hide ln'
  have HAl : Hid (∀ (W : World) x, Below W.heap.size W (W.alloc x)) := fun W x => (Below.refl _ _).alloc (Nat.le_refl _) _
  clear hA hA' ok ok' ln ln'
  go_enter Tryz.func3, Tryz.ntmps3
  go_wp2_with fail
  generalize hW0 : (w.alloc (Obj.cells (agArr g p) 33)).alloc (Obj.cells (agArr g' p') 33) = W0
  have T0 : Below w.heap.size w W0 := by rw [← hW0]; exact ((Below.refl _ _).alloc (Nat.le_refl _) _).alloc (by simp) _
  have KJ := agc_two w 33 g g' p p'
  rw [hW0] at KJ
  have hsz0 : W0.heap.size = w.heap.size + 2 := by rw [← hW0]; simp
  have HSZ := hide hsz0
  have HT0 := hide T0
  obtain ⟨K0, J0⟩ := KJ
  clear hW0 T0 hsz0
  refine (c_szAgg g p _ (by omega) (by omega) LN.out _).mono ?_
  rintro e w1 ⟨v, rfl, hv, hsm, hb1⟩
  have HT1 := hide (chain HT0.out hb1)
  have K1 := agc_past K0 hb1
  have J1 := agc_past J0 hb1
  have HS1 : Hid (w.heap.size + 2 ≤ w1.heap.size) := by have := hb1.size; have := HSZ.out; show _ ≤ _; omega
  clear hb1 K0 J0
  by_cases hv0 : v < 0
  · clear hsm
    go_wp2
    go_ret
    exact ⟨rfl, HT1.out⟩
  obtain ⟨v0, sm⟩ := hsm hv0
  have SM := hide sm
  clear hsm sm
  go_wp2_with fail
  refine (c_szAgg g' p' _ (by omega) (by omega) LN'.out _).mono ?_
  rintro e w2 ⟨v', rfl, hv', hsm, hb2⟩
  have HT2 := hide (chain HT1.out hb2)
  have K2 := agc_past K1 hb2
  have J2 := agc_past J1 hb2
  have HS2 : Hid (w.heap.size + 2 ≤ w2.heap.size) := by have := hb2.size; have := HS1.out; show _ ≤ _; omega
  clear hb2 K1 J1
  by_cases hv0' : v' < 0
  · clear hsm
    go_wp2
    go_ret
    exact ⟨rfl, HT2.out⟩
  obtain ⟨v0', sm'⟩ := hsm hv0'
  have SM' := hide sm'
  clear hsm sm'
  have hK2 : ∀ W, Below w2.heap.size w2 W → AgCell W w.heap.size g p ∧ AgCell W (w.heap.size + 1) g' p' := fun W hW => ⟨agc_past K2 hW, agc_past J2 hW⟩
  have HK2 := hide hK2
  clear hK2 K2 J2
  go_upto_region 8 with fail
  go_cut [6] (fun v w' => ∃ (b : Nat) (o : Ag) (q : Pl), v = .pointer (some ⟨b, 0, none⟩) ∧ Hid (AgMrg g g' o) ∧ Hid (w'.heap[b]? = some (.cells (agArr o q) 41 (0, 0))) ∧ Hid (AgO w' w2.heap.size o q) ∧ w2.heap.size ≤ b ∧ Hid (Below w2.heap.size w2 w'))
  case first =>
    refine regS OK.out OK'.out SM.out SM'.out HA.out HA'.out HT2.out HK2.out (fun b o q X y0 y1 y2 y3 y4 hM hR hO hb hB => ?_)
    go_wp2
    go_meet
    exact ⟨b, o, q, rfl, hide hM, hide hR, hide hO, hb, hide hB⟩
  case rest =>
    obtain ⟨b0, o, q0, rfl, HM, HRw, HOw, hb0, HBX⟩ := hcut
    obtain ⟨X, hXX⟩ : ∃ X, wc = X := ⟨_, rfl⟩
    rw [hXX] at HRw HOw HBX ⊢
    clear hXX
    have SO := hide (mrg_sm HM.out)
    have HTX := hide (chain HT2.out HBX.out)
    have zX := HBX.out.size
    have zb0 := (Array.getElem?_eq_some_iff.1 HRw.out).1
    obtain ⟨K3, J3⟩ := HK2.out X HBX.out
    go_wp2_with fail
    refine (c_toAgg SM.out (ag_past HA.out HTX.out)).mono ?_
    rintro e w4 ⟨gp, gn, ge, gr, rfl, q1, q2, q3, q4, q5, ow, hb4⟩
    have HB4 := hide hb4
    have HT4 := hide (chain HTX.out hb4)
    have K4 := agc_past K3 hb4
    have J4 := agc_past J3 hb4
    have HX4 := hide (ow.o q2)
    have z34 := hb4.size
    obtain ⟨px, hpx⟩ : ∃ px, plNew g gp gn ge gr = px := ⟨_, rfl⟩
    have epx : Value.agg (agArr g (plNew g gp gn ge gr)) = .agg (agArr g px) := by rw [hpx]
    rw [hpx] at HX4
    rw [epx]
    have KA4 : ∀ x, AgCell (w4.alloc x) w.heap.size g p := fun x => agc_past K4 (HAl.out _ x)
    have JA4 : ∀ x, AgCell (w4.alloc x) (w.heap.size + 1) g' p' := fun x => agc_past J4 (HAl.out _ x)
    clear hb4 ow K3 J3 hpx epx q1 q2 q3 q4 q5
    go_wp2_with fail
    refine (c_toAgg SM'.out (ag_past HA'.out (chain HT4.out (HAl.out _ _)))).mono ?_
    rintro e w5 ⟨gp', gn', ge', gr', rfl, q1, q2, q3, q4, q5, ow, hb5⟩
    have HB5 := hide (chain (HAl.out _ _) hb5)
    have HT5 := hide (chain HT4.out HB5.out)
    have K5 := agc_past K4 HB5.out
    have J5 := agc_past J4 HB5.out
    have X5 := agc_past (agc_new w4 _ _ _) hb5
    have HX5 := hide (ow.o q2)
    have z45 := hb5.size
    simp only [World.size_alloc] at z45 HX5
    obtain ⟨py, hpy⟩ : ∃ py, plNew g' gp' gn' ge' gr' = py := ⟨_, rfl⟩
    have epy : Value.agg (agArr g' (plNew g' gp' gn' ge' gr')) = .agg (agArr g' py) := by rw [hpy]
    rw [hpy] at HX5
    rw [epy]
    have XA5 : ∀ x, AgCell (w5.alloc x) w4.heap.size g px := fun x => agc_past X5 (HAl.out _ x)
    clear hb5 ow K4 J4 KA4 JA4 hpy epy q1 q2 q3 q4 q5
    go_wp2_with fail
    refine (c_i_AggMerge OK.out OK'.out SM.out SM'.out (ag_past HX4.out.at (chain HB5.out (HAl.out _ _))) (ag_past HX5.out.at (HAl.out _ _))).mono ?_
    rintro e w6 ⟨v6, o6, rfl, hM6, ⟨qg, rfl, hO6⟩, hb6⟩
    obtain rfl := hM6.one HM.out
    have HB6 := hide (chain (HAl.out _ _) hb6)
    have HT6 := hide (chain HT5.out HB6.out)
    have K6 := agc_past K5 HB6.out
    have J6 := agc_past J5 HB6.out
    have X6 := agc_past X5 HB6.out
    have Y6 := agc_past (agc_new w5 _ _ _) hb6
    have HG6 := hide hO6
    have z56 := hb6.size
    simp only [World.size_alloc] at z56 HG6
    have HW6 := hide (agc_past (agc_row HRw.out) (chain (chain HB4.out HB5.out) HB6.out))
    have WA6 : ∀ x, AgCell (w6.alloc x) b0 o6 q0 := fun x => agc_past HW6.out (HAl.out _ x)
    clear hb6 hM6 hO6 K5 J5 X5 XA5
    go_wp2_with fail
    refine (c_eqAgg (g := o6) SO.out (ag_past HG6.out.at (HAl.out _ _)) (ag_past HOw.out.at (chain (chain (chain HB4.out HB5.out) HB6.out) (HAl.out _ _)))).mono ?_
    rintro e w7 ⟨rfl, hb7⟩
    have HB7 := hide (chain (HAl.out _ _) hb7)
    have HT7 := hide (chain HT6.out HB7.out)
    have K7 := agc_past K6 HB7.out
    have J7 := agc_past J6 HB7.out
    have X7 := agc_past X6 HB7.out
    have Y7 := agc_past Y6 HB7.out
    have HV7 := hide (agc_past HW6.out HB7.out)
    have HZ7 := hide (agc_past (agc_new w6 _ _ _) hb7)
    have z67 := hb7.size
    simp only [World.size_alloc] at z67
    have hK7 : ∀ W, Below w7.heap.size w7 W → AgCell W w.heap.size g p ∧ AgCell W (w.heap.size + 1) g' p' ∧ AgCell W w4.heap.size g px ∧ AgCell W w5.heap.size g' py := fun W hW => ⟨agc_past K7 hW, agc_past J7 hW, agc_past X7 hW, agc_past Y7 hW⟩
    have HK7 := hide hK7
    have HC7 := hide (chain HB6.out HB7.out)
    have HC57 := hide (chain HB5.out HC7.out)
    clear hb7 K6 J6 X6 Y6 WA6 hK7 K7 J7 X7 Y7
    go_upto_region 14 with fail
    go_cut [44] (fun v w' => v = .bool false ∧ Hid (Below w7.heap.size w7 w'))
    case first =>
      have HS0 : (fun Y => Below w7.heap.size w7 Y) w7.drew := (Below.refl _ _).drew
      refine regionK (fun Y => Below w7.heap.size w7 Y) 5 (by kernel_rfl) ?_
      refine takeK (i := 0) (d := 40) (v := .agg (agArr g px)) rfl rfl (by kernel_rfl) (by kernel_rfl) (by kernel_rfl) (by decide) (by kernel_rfl) (fun _ _ _ h => h) (Or.inl ⟨by rfl, fun Y hY => ?_⟩) HS0 ?_
      · obtain ⟨⟨x0, x1, x2, x3, x4, x5, x6, x7, x8, x9, x10, x11, x12⟩, ⟨y0, y1, y2, y3, y4, y5, y6, y7, y8, y9, y10, y11, y12⟩, ⟨a0, a1, a2, a3, a4, a5, a6, a7, a8, a9, a10, a11, a12⟩, ⟨c0, c1, c2, c3, c4, c5, c6, c7, c8, c9, c10, c11, c12⟩⟩ := HK7.out Y hY
        clear hY
        go_simp
      simp only [List.setIfInBounds_toArray, List.set_cons_zero, List.set_cons_succ]
      refine takeK (i := 1) (d := 41) (v := .agg (agArr g p)) rfl rfl (by kernel_rfl) (by kernel_rfl) (by kernel_rfl) (by decide) (by kernel_rfl) (fun _ _ _ h => h) (Or.inl ⟨by rfl, fun Y hY => ?_⟩) HS0 ?_
      · obtain ⟨⟨x0, x1, x2, x3, x4, x5, x6, x7, x8, x9, x10, x11, x12⟩, ⟨y0, y1, y2, y3, y4, y5, y6, y7, y8, y9, y10, y11, y12⟩, ⟨a0, a1, a2, a3, a4, a5, a6, a7, a8, a9, a10, a11, a12⟩, ⟨c0, c1, c2, c3, c4, c5, c6, c7, c8, c9, c10, c11, c12⟩⟩ := HK7.out Y hY
        clear hY
        go_simp
      simp only [List.setIfInBounds_toArray, List.set_cons_zero, List.set_cons_succ]
      refine oneK (i := 2) (by kernel_rfl) rfl (fun K hK => ?_)
      go_simp
      refine (c_toAgg SM.out (ag_past HA.out (chain HT7.out HS0))).mono ?_
      rintro e Y3 ⟨_, _, _, _, rfl, _, _, _, _, _, ow, hb⟩
      have HB3 : Hid (Below w7.heap.size w7 Y3) := (HS0 : Below w7.heap.size w7 _).trans (hb.mono (Nat.le_refl _))
      have X3 := hide ow.at
      clear ow hb
      try dsimp only
      refine hK.out _ _ (fun _ => HB3.out) ?_
      clear hK K
      try simp only [Act.put, List.setIfInBounds_toArray, List.set_cons_zero, List.set_cons_succ]
      refine oneK (i := 3) (by kernel_rfl) rfl (fun K hK => ?_)
      go_simp
      refine (c_eqAgg (g := g) SM.out (ag_past HX4.out.at (chain HC57.out HB3.out)) X3.out).mono ?_
      rintro e Y4 ⟨rfl, hb⟩
      have HBe := hide (chain HB3.out hb)
      clear hb
      try dsimp only
      refine hK.out _ _ (fun _ => HBe.out) ?_
      clear hK K
      try simp only [Act.put, List.setIfInBounds_toArray, List.set_cons_zero, List.set_cons_succ]
      refine takeK (i := 4) (d := 44) (v := .bool false) rfl rfl (by kernel_rfl) (by kernel_rfl) (by kernel_rfl) (by decide) (by kernel_rfl) (fun _ _ _ h => h) (Or.inl ⟨by rfl, fun Y hY => ?_⟩) HBe.out ?_
      · clear hY
        go_simp
      simp only [List.setIfInBounds_toArray, List.set_cons_zero, List.set_cons_succ]
      refine doneK (by kernel_rfl) ?_ _
      go_wp2
      go_meet
      exact ⟨rfl, HBe⟩
    case rest =>
      obtain ⟨rfl, HB8⟩ := hcut
      obtain ⟨w8, hw8⟩ : ∃ w8, wc = w8 := ⟨_, rfl⟩
      rw [hw8] at HB8 ⊢
      clear hw8
      have HK8 : Hid (∀ W, Below w8.heap.size w8 W → AgCell W w.heap.size g p ∧ AgCell W (w.heap.size + 1) g' p' ∧ AgCell W w4.heap.size g px ∧ AgCell W w5.heap.size g' py) := fun W hW => HK7.out W (chain HB8.out hW)
      have HT8 := hide (chain HT7.out HB8.out)
      have HC8 := hide (chain HC7.out HB8.out)
      have z78 := HB8.out.size
      go_upto_region 16 with fail
      go_cut [49] (fun v w' => v = .bool false ∧ Hid (Below w8.heap.size w8 w'))
      case first =>
        have HS0 : (fun Y => Below w8.heap.size w8 Y) w8.drew := (Below.refl _ _).drew
        refine regionK (fun Y => Below w8.heap.size w8 Y) 5 (by kernel_rfl) ?_
        refine takeK (i := 0) (d := 45) (v := .agg (agArr g' py)) rfl rfl (by kernel_rfl) (by kernel_rfl) (by kernel_rfl) (by decide) (by kernel_rfl) (fun _ _ _ h => h) (Or.inl ⟨by rfl, fun Y hY => ?_⟩) HS0 ?_
        · obtain ⟨⟨x0, x1, x2, x3, x4, x5, x6, x7, x8, x9, x10, x11, x12⟩, ⟨y0, y1, y2, y3, y4, y5, y6, y7, y8, y9, y10, y11, y12⟩, ⟨a0, a1, a2, a3, a4, a5, a6, a7, a8, a9, a10, a11, a12⟩, ⟨c0, c1, c2, c3, c4, c5, c6, c7, c8, c9, c10, c11, c12⟩⟩ := HK8.out Y hY
          clear hY
          go_simp
        simp only [List.setIfInBounds_toArray, List.set_cons_zero, List.set_cons_succ]
        refine takeK (i := 1) (d := 46) (v := .agg (agArr g' p')) rfl rfl (by kernel_rfl) (by kernel_rfl) (by kernel_rfl) (by decide) (by kernel_rfl) (fun _ _ _ h => h) (Or.inl ⟨by rfl, fun Y hY => ?_⟩) HS0 ?_
        · obtain ⟨⟨x0, x1, x2, x3, x4, x5, x6, x7, x8, x9, x10, x11, x12⟩, ⟨y0, y1, y2, y3, y4, y5, y6, y7, y8, y9, y10, y11, y12⟩, ⟨a0, a1, a2, a3, a4, a5, a6, a7, a8, a9, a10, a11, a12⟩, ⟨c0, c1, c2, c3, c4, c5, c6, c7, c8, c9, c10, c11, c12⟩⟩ := HK8.out Y hY
          clear hY
          go_simp
        simp only [List.setIfInBounds_toArray, List.set_cons_zero, List.set_cons_succ]
        refine oneK (i := 2) (by kernel_rfl) rfl (fun K hK => ?_)
        go_simp
        refine (c_toAgg SM'.out (ag_past HA'.out (chain HT8.out HS0))).mono ?_
        rintro e Y3 ⟨_, _, _, _, rfl, _, _, _, _, _, ow, hb⟩
        have HB3 : Hid (Below w8.heap.size w8 Y3) := (HS0 : Below w8.heap.size w8 _).trans (hb.mono (Nat.le_refl _))
        have X3 := hide ow.at
        clear ow hb
        try dsimp only
        refine hK.out _ _ (fun _ => HB3.out) ?_
        clear hK K
        try simp only [Act.put, List.setIfInBounds_toArray, List.set_cons_zero, List.set_cons_succ]
        refine oneK (i := 3) (by kernel_rfl) rfl (fun K hK => ?_)
        go_simp
        refine (c_eqAgg (g := g') SM'.out (ag_past HX5.out.at (chain HC8.out HB3.out)) X3.out).mono ?_
        rintro e Y4 ⟨rfl, hb⟩
        have HBe := hide (chain HB3.out hb)
        clear hb
        try dsimp only
        refine hK.out _ _ (fun _ => HBe.out) ?_
        clear hK K
        try simp only [Act.put, List.setIfInBounds_toArray, List.set_cons_zero, List.set_cons_succ]
        refine takeK (i := 4) (d := 49) (v := .bool false) rfl rfl (by kernel_rfl) (by kernel_rfl) (by kernel_rfl) (by decide) (by kernel_rfl) (fun _ _ _ h => h) (Or.inl ⟨by rfl, fun Y hY => ?_⟩) HBe.out ?_
        · clear hY
          go_simp
        simp only [List.setIfInBounds_toArray, List.set_cons_zero, List.set_cons_succ]
        refine doneK (by kernel_rfl) ?_ _
        go_wp2
        go_meet
        exact ⟨rfl, HBe⟩
      case rest =>
        obtain ⟨rfl, HB9⟩ := hcut
        obtain ⟨w9, hw9⟩ : ∃ w9, wc = w9 := ⟨_, rfl⟩
        rw [hw9] at HB9 ⊢
        clear hw9
        obtain ⟨K9, J9, X9, Y9⟩ := HK8.out w9 HB9.out
        have HB79 := hide (chain HB8.out HB9.out)
        have V9 := agc_past HV7.out HB79.out
        have Z9 := agc_past HZ7.out HB79.out
        have HT9 := hide (chain HT8.out HB9.out)
        have HC9 := hide (chain HC7.out HB79.out)
        have HC59 := hide (chain HC57.out HB79.out)
        have HD9 := hide (chain HB7.out HB79.out)
        have HE9 := hide (chain HB4.out HC59.out)
        have z89 := HB9.out.size
        have zT := HT2.out.size
        have zS := HS2.out
        clear HK7 HK8 HV7 HZ7
        have bX : ∀ k, AgBlk g px k → X.heap.size ≤ k ∧ k < w4.heap.size := fun k e => HX4.out.lt e
        have bY : ∀ k, AgBlk g' py k → w4.heap.size + 1 ≤ k ∧ k < w5.heap.size := fun k e => HX5.out.lt e
        have bW : ∀ k, AgBlk o6 q0 k → w2.heap.size ≤ k ∧ k < X.heap.size := fun k e => HOw.out.lt e
        have bG : ∀ k, AgBlk o6 qg k → w5.heap.size + 1 ≤ k ∧ k < w6.heap.size := fun k e => HG6.out.lt e
        have HbX := hide bX
        have HbY := hide bY
        have HbW := hide bW
        have HbG := hide bG
        have hLx : mkL g ≤ 4194304 * 2 := by have := SM.out; unfold mkL; have := this.P; have := SM.out.N; have := SM.out.E; have := SM.out.R; omega
        clear bX bY bW bG hLx
        go_wp2_with fail
        refine (c_markAgg 1 (by omega) (by omega) SM.out (HX4.out.past HC59.out)).mono ?_
        rintro e w10 ⟨rfl, _, hg10⟩
        obtain ⟨k10, hk10⟩ : ∃ k, 1 + mkL g = k := ⟨_, rfl⟩
        rw [hk10]
        have hk10a : 1 ≤ k10 := by omega
        have hk10b : k10 ≤ 20000000 := by have s := SM.out; have := s.P; have := s.N; have := s.E; have := s.R; unfold mkL at hk10; omega
        have zwX := HTX.out.size
        have K10 := agc_keptS K9 hg10 (fun e => by have := HbX.out _ e; omega)
        have J10 := agc_keptS J9 hg10 (fun e => by have := HbX.out _ e; omega)
        have V10 := agc_keptS V9 hg10 (fun e => by have := HbX.out _ e; omega)
        have Y10 := agc_keptS Y9 hg10 (fun e => by have := HbX.out _ e; omega)
        have Z10 := agc_keptS Z9 hg10 (fun e => by have := HbX.out _ e; omega)
        have HW10 := hide ((HOw.out.past HE9.out).keptS hg10 (fun k e q => by have := HbW.out k e; have := HbX.out k q; omega))
        have HY10 := hide ((HX5.out.past HC9.out).keptS hg10 (fun k e q => by have := HbY.out k e; have := HbX.out k q; omega))
        have HG10 := hide ((HG6.out.past HD9.out).keptS hg10 (fun k e q => by have := HbG.out k e; have := HbX.out k q; omega))
        have HT10 := hide (GrownS.below HT9.out HT9.out.size hg10 (fun k e => by have := HbX.out k e; omega))
        have z910 := hg10.size
        clear hg10 hk10 K9 J9 V9 X9 Y9 Z9
        go_wp2_with fail
        refine (c_markAgg k10 hk10a hk10b SM'.out HY10.out).mono ?_
        rintro e w11 ⟨rfl, _, hg11⟩
        obtain ⟨k11, hk11⟩ : ∃ k, k10 + mkL g' = k := ⟨_, rfl⟩
        rw [hk11]
        have d11 : decide ((k11 : Int) < 0) = false := decide_eq_false (by omega)
        have K11 := agc_keptS K10 hg11 (fun e => by have := HbY.out _ e; omega)
        have J11 := agc_keptS J10 hg11 (fun e => by have := HbY.out _ e; omega)
        have V11 := agc_keptS V10 hg11 (fun e => by have := HbY.out _ e; omega)
        have Z11 := agc_keptS Z10 hg11 (fun e => by have := HbY.out _ e; omega)
        have HW11 := hide (HW10.out.keptS hg11 (fun k e q => by have := HbW.out k e; have := HbY.out k q; omega))
        have HG11 := hide (HG10.out.keptS hg11 (fun k e q => by have := HbG.out k e; have := HbY.out k q; omega))
        have HT11 := hide (GrownS.below HT10.out HT10.out.size hg11 (fun k e => by have := HbY.out k e; omega))
        have z1011 := hg11.size
        clear hg11 hk11 K10 J10 V10 Y10 Z10 HW10 HY10 HG10
        go_wp2_with fail
        refine (c_eqAgg (g := o6) SO.out HG11.out.at HW11.out.at).mono ?_
        rintro e w12 ⟨rfl, hb12⟩
        have HB12 := hide hb12
        have HT12 := hide (chain HT11.out hb12)
        have K12 := agc_past K11 hb12
        have J12 := agc_past J11 hb12
        have V12 := agc_past V11 hb12
        have Z12 := agc_past Z11 hb12
        have z1112 := hb12.size
        clear hb12 K11 J11 V11 Z11
        go_wp2_with fail
        refine (c_markAgg 1 (by omega) (by omega) SO.out (HG11.out.past HB12.out)).mono ?_
        rintro e w13 ⟨rfl, hm13, hg13⟩
        obtain ⟨k13, hk13⟩ : ∃ k, 1 + mkL o6 = k := ⟨_, rfl⟩
        rw [hk13]
        have HK13 := hide hk13
        have d13 : decide ((k13 : Int) < 0) = false := decide_eq_false (by omega)
        have K13 := agc_keptS K12 hg13 (fun e => by have := HbG.out _ e; omega)
        have J13 := agc_keptS J12 hg13 (fun e => by have := HbG.out _ e; omega)
        have V13 := agc_keptS V12 hg13 (fun e => by have := HbG.out _ e; omega)
        have Z13 := agc_keptS Z12 hg13 (fun e => by have := HbG.out _ e; omega)
        have HW13 := hide ((HW11.out.past HB12.out).keptS hg13 (fun k e q => by have := HbW.out k e; have := HbG.out k q; omega))
        have HT13 := hide (GrownS.below HT12.out HT12.out.size hg13 (fun k e => by have := HbG.out k e; omega))
        have HM13 := hide hm13
        have z1213 := hg13.size
        clear hg13 hk13 hm13 K12 J12 V12 Z12 HG11
        go_wp2_with fail
        refine (c_heldAgg 1 (by omega) (by omega) SO.out HM13.out).mono ?_
        rintro e w14 ⟨rfl, hb14⟩
        rw [HK13.out]
        have HB14 := hide hb14
        have HT14 := hide (chain HT13.out hb14)
        have HV14 := hide (agc_past V13 hb14)
        have HZ14 := hide (agc_past Z13 hb14)
        have K14 := agc_past K13 hb14
        have J14 := agc_past J13 hb14
        have HK14 : Hid (∀ W, Below w14.heap.size w14 W → AgCell W w.heap.size g p ∧ AgCell W (w.heap.size + 1) g' p') := fun W hW => ⟨agc_past K14 hW, agc_past J14 hW⟩
        clear hb14 K13 J13 V13 Z13 K14 J14
        go_upto_region 31 with fail
        go_cut [13] (fun v w' => ∃ (b : Nat) (o : Ag) (q : Pl), v = .pointer (some ⟨b, 0, none⟩) ∧ Hid (AgMrg g g' o) ∧ Hid (w'.heap[b]? = some (.cells (agArr o q) 41 (0, 0))) ∧ Hid (AgO w' w14.heap.size o q) ∧ w14.heap.size ≤ b ∧ Hid (Below w14.heap.size w14 w'))
        case first =>
          refine regI OK.out OK'.out SM.out SM'.out HA.out HA'.out HT14.out HK14.out (fun b o q X y0 y1 y2 y3 y4 hM hR hO hb hB => ?_)
          go_wp2
          go_meet
          exact ⟨b, o, q, rfl, hide hM, hide hR, hide hO, hb, hide hB⟩
        case rest =>
          obtain ⟨b1, o1, q1, rfl, HM1, HR1, HO1, hb1, HB15⟩ := hcut
          obtain rfl := HM1.out.one HM.out
          have V15 := agc_past HV14.out HB15.out
          have Z15 := agc_past HZ14.out HB15.out
          have H15 := agc_row HR1.out
          have HT15 := hide (chain HT14.out HB15.out)
          go_wp2_with fail
          refine (c_eqAgg (g := o1) SO.out HO1.out.at ((HW13.out.past (chain HB14.out HB15.out))).at).mono ?_
          rintro e w16 ⟨rfl, hb16⟩
          have HT16 := hide (chain HT15.out hb16)
          have HB16 := hide (chain (chain HB14.out HB15.out) hb16)
          have Z16 := agc_past Z15 hb16
          clear hb16 V15 Z15 H15
          go_wp2_with fail
          refine (c_heldAgg 1 (by omega) (by omega) SO.out (HM13.out.past HB16.out)).mono ?_
          rintro e w17 ⟨rfl, hb17⟩
          rw [HK13.out]
          have HT17 := hide (chain HT16.out hb17)
          clear hb17
          go_wp2
          go_ret
          exact ⟨rfl, HT17.out⟩
theorem own : ownKnob Tryz.prog.godebug = none := by kernel_rfl
theorem laidOut : laidOutB Tryz.prog = true := by kernel_rfl

set_option maxRecDepth 100000 in
theorem liftedAggMerge (os : Os) (started : os.Started) (H : Type) (enc : TypeId × Value → H) :
    ReturnsInHanded {} Tryz.checked os 3 .any (Rows.fnExactAggMergeSpec.pre6 enc Tryz.prog Tryz.f3 Rows.fnExactAggMergeRow.domain false) (Rows.fnExactAggMergeSpec.post enc Tryz.prog Tryz.f3 false true false false) := by
  refine returnsInHanded_of_change (C := Tryz.checked) own started (by kernel_rfl) Tryz.func3
    (ChangeSpec.witness6 (enc := enc) (C := Tryz.checked) false ⟨#[], #[.agg #[.int .i64 0, .int .u64 0, .int .i64 0, .int .u64 0, .int .i64 0, .int .i64 0, .int .u64 0, .slice none 0 0, .slice none 0 0, .int .i64 0, .int .u64 0, .slice none 0 0, .slice none 0 0], .agg #[.int .i64 0, .int .u64 0, .int .i64 0, .int .u64 0, .int .i64 0, .int .i64 0, .int .u64 0, .slice none 0 0, .slice none 0 0, .int .i64 0, .int .u64 0, .slice none 0 0, .slice none 0 0]], []⟩ 8 (by kernel_rfl) (by kernel_rfl) (by kernel_rfl) (by kernel_rfl)) ?_
  intro W base args ds gs before hval0 hW hcnd _
  have hval : ∀ (j : Nat) t v, Tryz.f3.params[j]? = some t → args[j]? = some v → Value.okWide Tryz.prog W .any base t v := hval0
  have hW' := hW
  obtain ⟨p, q, hA0, hV, rfl, hfz, hnd⟩ := hW
  have hA : DataW.TrodAll enc Tryz.prog W 0 (fun _ => true) true Tryz.f3.params.toList args.toList ds p := hA0
  rw [Tryz.params3] at hA hval
  obtain ⟨v0, vs0, d0, ds0, p0, q0, hargs, rfl, rfl, h0, r0⟩ := trodAll_cons hA
  obtain ⟨v1, vs1, d1, ds1, p1, q1, rfl, rfl, rfl, h1, r1⟩ := trodAll_cons r0
  obtain ⟨rfl, rfl, rfl⟩ := trodAll_nil r1
  obtain rfl : args = #[v0, v1] := by cases args; simp_all
  obtain ⟨rfl, rfl⟩ := trodVars_none hV
  have k0 := h0
  have lt0 : ∀ x ∈ p0, x.block < W.heap.size := by obtain ⟨m, hm⟩ := k0; exact DataW.trod_lt m _ _ _ hm
  obtain ⟨g0, pl0, rfl, ok0, ln0, at0⟩ := open_agg (hval 0 33 v0 rfl rfl) h0
  have k1 := h1
  have lt1 : ∀ x ∈ p1, x.block < W.heap.size := by obtain ⟨m, hm⟩ := k1; exact DataW.trod_lt m _ _ _ hm
  obtain ⟨g1, pl1, rfl, ok1, ln1, at1⟩ := open_agg (hval 1 33 v1 rfl rfl) h1
  clear hA0 hval0
  refine (walkAggMerge g0 pl0 g1 pl1 W ok0 ln0 at0 ok1 ln1 at1).mono fun e W' ⟨he, bel⟩ => ?_
  subst he
  exact ⟨_, rfl, _, _, _, [], _, [], hW', trodAll_mk1 (shut_bool Tryz.underlying4 _), (trodAll_cons_mk (Below.trod laidOut (by kernel_rfl) (of_decide_eq_true (by kernel_rfl)) k0 bel lt0) (trodAll_cons_mk (Below.trod laidOut (by kernel_rfl) (of_decide_eq_true (by kernel_rfl)) k1 bel lt1) trodAll_mk0)), rfl, bel.frame _, fun h => by cases h⟩

theorem overAggMerge : Rows.fnExactAggMergeRow.holds Tryz.pinned (OpenSpec.ofChange Rows.fnExactAggMergeSpec) :=
  OpenClaim.holds_of_wide 3 Tryz.f3 rfl rfl rfl rfl rfl rfl rfl ⟨rfl, rfl, rfl, rfl, rfl⟩ rfl rfl rfl rfl rfl (by kernel_rfl) Tryz.func3 (by kernel_rfl)
    (of_decide_eq_true (by kernel_rfl)) (by unfold Func.isWrapper; first | (rw [if_pos (by decide +kernel)]; kernel_rfl) | (rw [if_neg (by decide +kernel)]; exact ⟨rfl, rfl⟩))
    (fun os started H enc _ => liftedAggMerge os started H enc)

theorem fnExactAggMerge_holds : Rows.FnExactAggMergeSaid := overAggMerge
#print axioms fnExactAggMerge_holds
end Go.Proofs.YtocgmccenmbgfaaGreat
