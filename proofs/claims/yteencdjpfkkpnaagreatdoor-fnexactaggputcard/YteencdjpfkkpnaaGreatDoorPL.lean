/-
  The law FnExactAggPut: at every Agg and every sample the program puts as the model does, every field; it writes into no argument; its answer owns its memory. Condition: the library's tables as the program's text lays them (the card ties them).
-/
import Derived.Test.YteencdjpfkkpnaaGreatDoorPE
import Derived.Test.YteencdjpfkkpnaaGreatDoorPD
import Derived.Test.YteencdjpfkkpnaaGreatDoorKD
import Derived.Test.YteencdjpfkkpnaaGreatDoorPA
import Derived.Test.YteencdjpfkkpnaaGreatDoorJE
import Derived.Test.YteencdjpfkkpnaaGreatDoorJN
import Derived.Test.YteencdjpfkkpnaaGreatDoorSE
import Derived.Test.YteencdjpfkkpnaaGreatDoorTie
import Derived.Test.YteencdjpfkkpnaaGreatDoorCards
import Derived.Deep.RegionHeld3
import Derived.Deep.DeepCutAuto
import Derived.Lib.SmallJoins
import Derived.Carry
import Derived.ShutString
import Derived.ChangeOld
import Derived.ChangeSame
import Derived.ChangeVars
import Derived.JoinedOf
import Derived.LaidLaws
import Derived.LaidHandle
import Derived.LaidSub
import Derived.Lib.LaidTab
import Derived.Lay
import Derived.MakeChecks
import Derived.Stop.Joined
import Derived.SevenTiedAt
import Derived.Deep.DeepHandedRow
import Derived.WalkKit
import Derived.ProofKit
import Derived.OpenShut
namespace Go.Proofs.YteencdjpfkkpnaaGreatDoor
set_option linter.unusedVariables false
set_option linter.unusedSimpArgs false
open Go.ChangeMaps (open_string shut_string)
open Go.ChangeShapes Go.WideShapes Go.ChangeAt Go.RowKit Go.Joins
set_option maxRecDepth 10000

theorem keepL_len (L : List Bn) : (keepL L).length ≤ 30 := by
  unfold keepL
  split
  · assumption
  · have hd : (L.drop (L.length - 30)).length = 30 := by rw [List.length_drop]; omega
    split
    · rename_i h; rw [h] at hd; simp at hd
    · rename_i h; rw [h] at hd; simp at hd ⊢; omega
theorem mrg_sm {g g' o : Ag} (h : AgMrg g g' o) : AgSm o := by
  unfold AgMrg at h
  split at h
  · rename_i hg
    obtain ⟨E, R, m, rfl⟩ := h
    have n := agB_no hg.1
    have n' := agB_no hg.2.1
    have m' : MrgH g.E g.R g'.E g'.R E R := by unfold MrgH; rw [if_pos ⟨n.hl, n'.hl⟩]; exact m
    have l := hlB_len (mrg_right n.hl n'.hl m')
    exact ⟨Nat.le_trans (keepL_len _) (by omega), Nat.le_trans (keepL_len _) (by omega), by show E.length ≤ _; omega, by show R.length ≤ _; omega⟩
  · subst h
    exact ⟨by simp [agZero], by simp [agZero], by simp [agZero], by simp [agZero]⟩
theorem agc_row {w : World} {r : Nat} {T : TypeId} {o : Ag} {q : Pl} (h : w.heap[r]? = some (.cells (agArr o q) T (0, 0))) : AgCell w r o q :=
  ⟨cellK h 0 rfl, cellK h 1 rfl, cellK h 2 rfl, cellK h 3 rfl, cellK h 4 rfl, cellK h 5 rfl, cellK h 6 rfl, cellK h 7 rfl, cellK h 8 rfl, cellK h 9 rfl, cellK h 10 rfl, cellK h 11 rfl, cellK h 12 rfl⟩
def st13 (w : World) (r : Nat) (o : Ag) (q : Pl) : World := (((((((((((((w.setCell ⟨r, 0, none⟩ (.int .i64 o.k)).setCell ⟨r, 1, none⟩ (.int .u64 o.s)).setCell ⟨r, 2, none⟩ (.int .i64 o.h)).setCell ⟨r, 3, none⟩ (.int .u64 o.l)).setCell ⟨r, 4, none⟩ (.int .i64 o.a)).setCell ⟨r, 5, none⟩ (.int .i64 o.t)).setCell ⟨r, 6, none⟩ (.int .u64 o.z)).setCell ⟨r, 7, none⟩ (.slice q.pa o.P.length q.pc)).setCell ⟨r, 8, none⟩ (.slice q.na o.N.length q.nc)).setCell ⟨r, 9, none⟩ (.int .i64 o.x)).setCell ⟨r, 10, none⟩ (.int .u64 o.y)).setCell ⟨r, 11, none⟩ (.slice q.ea o.E.length q.ec)).setCell ⟨r, 12, none⟩ (.slice q.ra o.R.length q.rc))
theorem st13_ok {w w0 : World} {K B r : Nat} {o : Ag} {q : Pl} (h : w.heap[r]? = some (.cells #[.int .i64 0, .int .u64 0, .int .i64 0, .int .u64 0, .int .i64 0, .int .i64 0, .int .u64 0, .slice none 0 0, .slice none 0 0, .int .i64 0, .int .u64 0, .slice none 0 0, .slice none 0 0] 44 (0, 0))) (hb : Below K w0 w) (hr : K ≤ r) (ho : AgO w B o q) (hrB : r < B) (hKB : K ≤ B) :
    (st13 w r o q).heap[r]? = some (.cells (agArr o q) 44 (0, 0)) ∧ Below K w0 (st13 w r o q) ∧ AgO (st13 w r o q) K o q := by
  refine ⟨row13 h, ?_, AgO.le ?_ hKB⟩
  · unfold st13
    repeat (refine Below.setCell ?_ (by exact hr) _)
    exact hb
  · unfold st13
    repeat (refine AgO.below ?_ hrB _)
    exact ho
theorem put_sm {g o : Ag} {x : Sx} (h : AgPut g x o) (sm : AgSm g) : AgSm o := by
  unfold AgPut at h
  split at h
  · exact mrg_sm h
  · rw [h]; exact sm
theorem plg_new {g : Ag} {gp gn ge gr : Nat} (sm : AgSm g) : PlG g (plNew g gp gn ge gr) :=
  ⟨(fun e => by cases e), (fun e => by cases e), (fun e => by cases e), (fun e => by cases e), .inr ⟨_, _, rfl⟩, .inr ⟨_, _, rfl⟩, Nat.le_refl _, Nat.le_trans sm.E (by unfold maxLen; omega)⟩
theorem box_law (w : World) (g : Ag) (p : Pl) (x : Sx) : Hid (Below w.heap.size w ((w.alloc (.cells (agArr g p) 33)).alloc (.cells (sxArr x) 35))) ∧ AgCell ((w.alloc (.cells (agArr g p) 33)).alloc (.cells (sxArr x) 35)) w.heap.size g p ∧ Hid (((w.alloc (.cells (agArr g p) 33)).alloc (.cells (sxArr x) 35)).heap[w.heap.size + 1]? = some (.cells (sxArr x) 35 (0, 0))) ∧ Hid (((w.alloc (.cells (agArr g p) 33)).alloc (.cells (sxArr x) 35)).heap.size = w.heap.size + 2) := by
  have a1 : ∀ (W : World) o, Below W.heap.size W (W.alloc o) := fun W o => (Below.refl _ _).alloc (Nat.le_refl _) _
  have k1 := heap_alloc_new (w.alloc (.cells (agArr g p) 33)) (.cells (sxArr x) 35)
  simp only [World.size_alloc] at k1
  exact ⟨hide (chain (a1 _ _) (a1 _ _)), agc_past (agc_new w _ g p) (a1 _ _), hide k1, (by simp; exact hide trivial)⟩
set_option maxHeartbeats 16000000 in
theorem regPS {K' : Act → World → Prop} {Qp : Ending → World → Prop} {g : Ag} {p : Pl} {x : Sx} {w w2 : World} {x0 x1 x4 x5 x6 x7 x8 x9 x10 x11 x12 x13 x14 x15 x16 x17 x18 x19 x20 x21 x22 x23 x24 x25 x26 x27 x28 x29 x30 x31 x32 x33 x34 x35 x36 x37 x38 x39 x40 x41 x42 x43 x44 x45 x46 x47 x48 x49 x50 x51 x52 x53 x54 x55 x56 x57 x58 x59 x60 x61 x62 x63 x64 x65 x66 x67 x68 x69 x70 x71 x72 x73 x74 x75 x76 x77 x78 x79 x80 x81 : Value} (ok : AgOk g) (ox : x.Ok) (sm : AgSm g) (hA : AgAt w g p) (hT : Below w.heap.size w w2) (hm : MX w)
    (hK : ∀ W, Below w2.heap.size w2 W → AgCell W w.heap.size g p ∧ W.heap[w.heap.size + 1]? = some (.cells (sxArr x) 35 (0, 0)))
    (hQ : ∀ (b : Nat) (o : Ag) (q : Pl) (X : World) (y0 y1 y2 y3 y4 : Value), AgPut g x o → X.heap[b]? = some (.cells (agArr o q) 44 (0, 0)) → AgO X w2.heap.size o q → w2.heap.size ≤ b → Below w2.heap.size w2 X → (∀ k, AgBlk o q k → k ≠ b) →
      K' { tmps := #[x0, x1, .pointer (some ⟨w.heap.size, 0, none⟩), .pointer (some ⟨w.heap.size + 1, 0, none⟩), x4, x5, .pointer (some ⟨b, 0, none⟩), x7, x8, x9, x10, x11, x12, x13, x14, x15, x16, x17, x18, x19, x20, x21, x22, y0, y1, y2, y3, y4, x28, x29, x30, x31, x32, x33, x34, x35, x36, x37, x38, x39, x40, x41, x42, x43, x44, x45, x46, x47, x48, x49, x50, x51, x52, x53, x54, x55, x56, x57, x58, x59, x60, x61, x62, x63, x64, x65, x66, x67, x68, x69, x70, x71, x72, x73, x74, x75, x76, x77, x78, x79, x80, x81], defers := [] } X) :
    Code.wp Tryz.prog (Code.region 8 #[{ dst := some 23, op := Op.load 33 (Operand.tmp 2), type := 33, pos := "exact.go:2277", after := #[], guard := none }, { dst := some 24, op := Op.call { callee := Callee.value (Operand.func 8), args := #[Operand.tmp 23], argTypes := #[33] }, type := 44, pos := "exact.go:2277", after := #[{ on := 0, ground := Ground.data }], guard := none }, { dst := some 25, op := Op.load 35 (Operand.tmp 3), type := 35, pos := "exact.go:2277", after := #[], guard := none }, { dst := some 26, op := Op.call { callee := Callee.value (Operand.func 9), args := #[Operand.tmp 25], argTypes := #[35] }, type := 47, pos := "exact.go:2277", after := #[{ on := 2, ground := Ground.data }, { on := 1, ground := Ground.chain }], guard := none }, { dst := some 27, op := Op.call { callee := Callee.value (Operand.func 7), args := #[Operand.tmp 24, Operand.tmp 26], argTypes := #[44, 47] }, type := 44, pos := "exact.go:2277", after := #[{ on := 1, ground := Ground.data }, { on := 3, ground := Ground.data }, { on := 3, ground := Ground.chain }], guard := none }, { dst := some 6, op := Op.alloc 44, type := 0, pos := "exact.go:2277", after := #[], guard := none }, { dst := none, op := Op.store 44 (Operand.tmp 6) (Operand.tmp 27), type := 0, pos := "exact.go:2277", after := #[{ on := 5, ground := Ground.data }, { on := 4, ground := Ground.data }, { on := 4, ground := Ground.chain }, { on := 0, ground := Ground.phase }, { on := 1, ground := Ground.phase }, { on := 2, ground := Ground.phase }, { on := 3, ground := Ground.phase }, { on := 4, ground := Ground.phase }, { on := 5, ground := Ground.phase }], guard := none }] true) (Exit.then K' (bodyPost Tryz.prog Tryz.f3 Qp)) { tmps := #[x0, x1, .pointer (some ⟨w.heap.size, 0, none⟩), .pointer (some ⟨w.heap.size + 1, 0, none⟩), x4, x5, x6, x7, x8, x9, x10, x11, x12, x13, x14, x15, x16, x17, x18, x19, x20, x21, x22, x23, x24, x25, x26, x27, x28, x29, x30, x31, x32, x33, x34, x35, x36, x37, x38, x39, x40, x41, x42, x43, x44, x45, x46, x47, x48, x49, x50, x51, x52, x53, x54, x55, x56, x57, x58, x59, x60, x61, x62, x63, x64, x65, x66, x67, x68, x69, x70, x71, x72, x73, x74, x75, x76, x77, x78, x79, x80, x81], defers := [] } w2 := by
  have OK := hide ok
  have OX := hide ox
  have SM := hide sm
  have HT2 := hide hT
  have HK2 := hide hK
  have HQ := hide hQ
  have HMx := hide hm
  have HA := hide hA
  clear ok ox sm hA hT hK hQ hm
  have HS0 : (fun Y => Below w2.heap.size w2 Y) w2.drew := (Below.refl _ _).drew
  refine regionK (fun Y => Below w2.heap.size w2 Y) 6 (by kernel_rfl) ?_
  refine takeK (i := 0) (d := 23) (v := .agg (agArr g p)) rfl rfl (by kernel_rfl) (by kernel_rfl) (by kernel_rfl) (by decide) (by kernel_rfl) (fun _ _ _ h => h) (Or.inl ⟨by rfl, fun Y hY => ?_⟩) HS0 ?_
  · obtain ⟨⟨x0, x1, x2, x3, x4, x5, x6, x7, x8, x9, x10, x11, x12⟩, hrx⟩ := HK2.out Y hY
    obtain ⟨y0, y1, y2, y3, y4, y5, y6⟩ := sx_cells hrx
    clear hY hrx
    go_simp
  simp only [List.setIfInBounds_toArray, List.set_cons_zero, List.set_cons_succ]
  refine takeK (i := 2) (d := 25) (v := .agg (sxArr x)) rfl rfl (by kernel_rfl) (by kernel_rfl) (by kernel_rfl) (by decide) (by kernel_rfl) (fun _ _ _ h => h) (Or.inl ⟨by rfl, fun Y hY => ?_⟩) HS0 ?_
  · obtain ⟨⟨x0, x1, x2, x3, x4, x5, x6, x7, x8, x9, x10, x11, x12⟩, hrx⟩ := HK2.out Y hY
    obtain ⟨y0, y1, y2, y3, y4, y5, y6⟩ := sx_cells hrx
    clear hY hrx
    go_simp
  simp only [List.setIfInBounds_toArray, List.set_cons_zero, List.set_cons_succ]
  refine twoK (i := 1) (j := 5) (by kernel_rfl) rfl rfl (fun K hK => ?_) (fun K hK => ?_)
  · go_simp
    refine (c_toAgg SM.out (ag_past HA.out (chain HT2.out HS0))).mono ?_
    rintro e W3 ⟨gp, gn, ge, gr, rfl, _, _, _, _, _, ow, hb⟩
    have HBW3 : Hid (Below w2.heap.size w2 W3) := (HS0 : Below w2.heap.size w2 _).trans (hb.mono (HS0 : Below w2.heap.size w2 _).size)
    have X3 := hide ow.at
    have HPL := hide (plg_new (gp := gp) (gn := gn) (ge := ge) (gr := gr) SM.out)
    clear ow hb
    try dsimp only
    refine hK.out _ _ (fun _ => HBW3.out) ?_
    clear hK K
    try simp only [Act.put, List.setIfInBounds_toArray, List.set_cons_zero, List.set_cons_succ]
    refine twoK (i := 3) (j := 5) (by kernel_rfl) rfl rfl (fun K hK => ?_) (fun K hK => ?_)
    · go_simp
      refine (c_toSampleX x).mono ?_
      rintro e W4 ⟨rfl, hb⟩
      have HBW4 : Hid (Below w2.heap.size w2 W4) := (HBW3.out : Below w2.heap.size w2 _).trans (hb.mono (HBW3.out : Below w2.heap.size w2 _).size)
      have X3b := hide (ag_past X3.out hb)
      clear hb
      try dsimp only
      refine hK.out _ _ (fun _ => HBW4.out) ?_
      clear hK K
      try simp only [Act.put, List.setIfInBounds_toArray, List.set_cons_zero, List.set_cons_succ]
      refine twoK (i := 4) (j := 5) (by kernel_rfl) rfl rfl (fun K hK => ?_) (fun K hK => ?_)
      · go_simp
        refine (c_s_AggPut x OK.out OX.out SM.out HPL.out X3b.out).mono ?_
        rintro e W5 ⟨v5, o, rfl, hM, ⟨q, rfl, hO⟩, hb⟩
        have HBW5 : Hid (Below w2.heap.size w2 W5) := (HBW4.out : Below w2.heap.size w2 _).trans (hb.mono (HBW4.out : Below w2.heap.size w2 _).size)
        have HM := hide hM
        have HO := hide hO
        have hbs := (HBW4.out : Below w2.heap.size w2 _).size
        clear hM hO hb
        try dsimp only
        refine hK.out _ _ (fun _ => HBW5.out) ?_
        clear hK K
        try simp only [Act.put, List.setIfInBounds_toArray, List.set_cons_zero, List.set_cons_succ]
        refine oneK (i := 5) (by kernel_rfl) rfl (fun K hK => ?_)
        go_simp
        have a3 : Below W5.heap.size W5 (W5.alloc (.cells #[.int .i64 0, .int .u64 0, .int .i64 0, .int .u64 0, .int .i64 0, .int .i64 0, .int .u64 0, .slice none 0 0, .slice none 0 0, .int .i64 0, .int .u64 0, .slice none 0 0, .slice none 0 0] 44)) := (Below.refl _ _).alloc (Nat.le_refl _) _
        have HBa : Hid (Below w2.heap.size w2 (W5.alloc (.cells #[.int .i64 0, .int .u64 0, .int .i64 0, .int .u64 0, .int .i64 0, .int .i64 0, .int .u64 0, .slice none 0 0, .slice none 0 0, .int .i64 0, .int .u64 0, .slice none 0 0, .slice none 0 0] 44))) := ((HBW5.out : Below w2.heap.size w2 _).trans (a3.mono (HBW5.out : Below w2.heap.size w2 _).size))
        have HRa : Hid ((W5.alloc (.cells #[.int .i64 0, .int .u64 0, .int .i64 0, .int .u64 0, .int .i64 0, .int .i64 0, .int .u64 0, .slice none 0 0, .slice none 0 0, .int .i64 0, .int .u64 0, .slice none 0 0, .slice none 0 0] 44)).heap[W5.heap.size]? = some (.cells #[.int .i64 0, .int .u64 0, .int .i64 0, .int .u64 0, .int .i64 0, .int .i64 0, .int .u64 0, .slice none 0 0, .slice none 0 0, .int .i64 0, .int .u64 0, .slice none 0 0, .slice none 0 0] 44 (0, 0))) := (heap_alloc_new W5 (.cells #[.int .i64 0, .int .u64 0, .int .i64 0, .int .u64 0, .int .i64 0, .int .i64 0, .int .u64 0, .slice none 0 0, .slice none 0 0, .int .i64 0, .int .u64 0, .slice none 0 0, .slice none 0 0] 44) : _)
        have hra : w2.heap.size ≤ W5.heap.size := (HBW5.out : Below w2.heap.size w2 _).size
        have hrb : W5.heap.size < (W5.alloc (.cells #[.int .i64 0, .int .u64 0, .int .i64 0, .int .u64 0, .int .i64 0, .int .i64 0, .int .u64 0, .slice none 0 0, .slice none 0 0, .int .i64 0, .int .u64 0, .slice none 0 0, .slice none 0 0] 44)).heap.size := by simp
        have HOa := hide (HO.out.past a3)
        clear a3
        try dsimp only
        refine hK.out _ _ (fun _ => HBa.out) ?_
        clear hK K
        try simp only [Act.put, List.setIfInBounds_toArray, List.set_cons_zero, List.set_cons_succ]
        have R5 := HRa.out
        have q0 := cellK R5 0 rfl
        have q1 := cellK R5 1 rfl
        have q2 := cellK R5 2 rfl
        have q3 := cellK R5 3 rfl
        have q4 := cellK R5 4 rfl
        have q5 := cellK R5 5 rfl
        have q6 := cellK R5 6 rfl
        have q7 := cellK R5 7 rfl
        have q8 := cellK R5 8 rfl
        have q9 := cellK R5 9 rfl
        have q10 := cellK R5 10 rfl
        have q11 := cellK R5 11 rfl
        have q12 := cellK R5 12 rfl
        have f0 := frozen_of_row (W5.alloc (.cells #[.int .i64 0, .int .u64 0, .int .i64 0, .int .u64 0, .int .i64 0, .int .i64 0, .int .u64 0, .slice none 0 0, .slice none 0 0, .int .i64 0, .int .u64 0, .slice none 0 0, .slice none 0 0] 44)) (W5.heap.size) 0 _ _ R5
        have f1 := frozen_of_row (W5.alloc (.cells #[.int .i64 0, .int .u64 0, .int .i64 0, .int .u64 0, .int .i64 0, .int .i64 0, .int .u64 0, .slice none 0 0, .slice none 0 0, .int .i64 0, .int .u64 0, .slice none 0 0, .slice none 0 0] 44)) (W5.heap.size) 1 _ _ R5
        have f2 := frozen_of_row (W5.alloc (.cells #[.int .i64 0, .int .u64 0, .int .i64 0, .int .u64 0, .int .i64 0, .int .i64 0, .int .u64 0, .slice none 0 0, .slice none 0 0, .int .i64 0, .int .u64 0, .slice none 0 0, .slice none 0 0] 44)) (W5.heap.size) 2 _ _ R5
        have f3 := frozen_of_row (W5.alloc (.cells #[.int .i64 0, .int .u64 0, .int .i64 0, .int .u64 0, .int .i64 0, .int .i64 0, .int .u64 0, .slice none 0 0, .slice none 0 0, .int .i64 0, .int .u64 0, .slice none 0 0, .slice none 0 0] 44)) (W5.heap.size) 3 _ _ R5
        have f4 := frozen_of_row (W5.alloc (.cells #[.int .i64 0, .int .u64 0, .int .i64 0, .int .u64 0, .int .i64 0, .int .i64 0, .int .u64 0, .slice none 0 0, .slice none 0 0, .int .i64 0, .int .u64 0, .slice none 0 0, .slice none 0 0] 44)) (W5.heap.size) 4 _ _ R5
        have f5 := frozen_of_row (W5.alloc (.cells #[.int .i64 0, .int .u64 0, .int .i64 0, .int .u64 0, .int .i64 0, .int .i64 0, .int .u64 0, .slice none 0 0, .slice none 0 0, .int .i64 0, .int .u64 0, .slice none 0 0, .slice none 0 0] 44)) (W5.heap.size) 5 _ _ R5
        have f6 := frozen_of_row (W5.alloc (.cells #[.int .i64 0, .int .u64 0, .int .i64 0, .int .u64 0, .int .i64 0, .int .i64 0, .int .u64 0, .slice none 0 0, .slice none 0 0, .int .i64 0, .int .u64 0, .slice none 0 0, .slice none 0 0] 44)) (W5.heap.size) 6 _ _ R5
        have f7 := frozen_of_row (W5.alloc (.cells #[.int .i64 0, .int .u64 0, .int .i64 0, .int .u64 0, .int .i64 0, .int .i64 0, .int .u64 0, .slice none 0 0, .slice none 0 0, .int .i64 0, .int .u64 0, .slice none 0 0, .slice none 0 0] 44)) (W5.heap.size) 7 _ _ R5
        have f8 := frozen_of_row (W5.alloc (.cells #[.int .i64 0, .int .u64 0, .int .i64 0, .int .u64 0, .int .i64 0, .int .i64 0, .int .u64 0, .slice none 0 0, .slice none 0 0, .int .i64 0, .int .u64 0, .slice none 0 0, .slice none 0 0] 44)) (W5.heap.size) 8 _ _ R5
        have f9 := frozen_of_row (W5.alloc (.cells #[.int .i64 0, .int .u64 0, .int .i64 0, .int .u64 0, .int .i64 0, .int .i64 0, .int .u64 0, .slice none 0 0, .slice none 0 0, .int .i64 0, .int .u64 0, .slice none 0 0, .slice none 0 0] 44)) (W5.heap.size) 9 _ _ R5
        have f10 := frozen_of_row (W5.alloc (.cells #[.int .i64 0, .int .u64 0, .int .i64 0, .int .u64 0, .int .i64 0, .int .i64 0, .int .u64 0, .slice none 0 0, .slice none 0 0, .int .i64 0, .int .u64 0, .slice none 0 0, .slice none 0 0] 44)) (W5.heap.size) 10 _ _ R5
        have f11 := frozen_of_row (W5.alloc (.cells #[.int .i64 0, .int .u64 0, .int .i64 0, .int .u64 0, .int .i64 0, .int .i64 0, .int .u64 0, .slice none 0 0, .slice none 0 0, .int .i64 0, .int .u64 0, .slice none 0 0, .slice none 0 0] 44)) (W5.heap.size) 11 _ _ R5
        have f12 := frozen_of_row (W5.alloc (.cells #[.int .i64 0, .int .u64 0, .int .i64 0, .int .u64 0, .int .i64 0, .int .i64 0, .int .u64 0, .slice none 0 0, .slice none 0 0, .int .i64 0, .int .u64 0, .slice none 0 0, .slice none 0 0] 44)) (W5.heap.size) 12 _ _ R5
        refine oneK (i := 6) (by kernel_rfl) rfl (fun K hK => ?_)
        go_simp
        refine hK.out _ _ (fun h => absurd rfl h) ?_
        clear hK K
        try simp only [Act.put, List.setIfInBounds_toArray, List.set_cons_zero, List.set_cons_succ]
        refine doneK (by kernel_rfl) ?_ _
        clear q0 f0 q1 f1 q2 f2 q3 f3 q4 f4 q5 f5 q6 f6 q7 f7 q8 f8 q9 f9 q10 f10 q11 f11 q12 f12
        go_wp2
        exact HQ.out W5.heap.size o q _ _ _ _ _ _ HM.out (heap_alloc_new W5 _) ((HO.out.past ((Below.refl _ _).alloc (Nat.le_refl _) _)).le hbs) HBW5.out.size (Below.alloc HBW5.out HBW5.out.size _) (fun k e => Nat.ne_of_lt (HO.out.lt e).2)
      · go_simp
        have a3 : Below W4.heap.size W4 (W4.alloc (.cells #[.int .i64 0, .int .u64 0, .int .i64 0, .int .u64 0, .int .i64 0, .int .i64 0, .int .u64 0, .slice none 0 0, .slice none 0 0, .int .i64 0, .int .u64 0, .slice none 0 0, .slice none 0 0] 44)) := (Below.refl _ _).alloc (Nat.le_refl _) _
        have HBa : Hid (Below w2.heap.size w2 (W4.alloc (.cells #[.int .i64 0, .int .u64 0, .int .i64 0, .int .u64 0, .int .i64 0, .int .i64 0, .int .u64 0, .slice none 0 0, .slice none 0 0, .int .i64 0, .int .u64 0, .slice none 0 0, .slice none 0 0] 44))) := ((HBW4.out : Below w2.heap.size w2 _).trans (a3.mono (HBW4.out : Below w2.heap.size w2 _).size))
        have HRa : Hid ((W4.alloc (.cells #[.int .i64 0, .int .u64 0, .int .i64 0, .int .u64 0, .int .i64 0, .int .i64 0, .int .u64 0, .slice none 0 0, .slice none 0 0, .int .i64 0, .int .u64 0, .slice none 0 0, .slice none 0 0] 44)).heap[W4.heap.size]? = some (.cells #[.int .i64 0, .int .u64 0, .int .i64 0, .int .u64 0, .int .i64 0, .int .i64 0, .int .u64 0, .slice none 0 0, .slice none 0 0, .int .i64 0, .int .u64 0, .slice none 0 0, .slice none 0 0] 44 (0, 0))) := (heap_alloc_new W4 (.cells #[.int .i64 0, .int .u64 0, .int .i64 0, .int .u64 0, .int .i64 0, .int .i64 0, .int .u64 0, .slice none 0 0, .slice none 0 0, .int .i64 0, .int .u64 0, .slice none 0 0, .slice none 0 0] 44) : _)
        have hra : w2.heap.size ≤ W4.heap.size := (HBW4.out : Below w2.heap.size w2 _).size
        have hrb : W4.heap.size < (W4.alloc (.cells #[.int .i64 0, .int .u64 0, .int .i64 0, .int .u64 0, .int .i64 0, .int .i64 0, .int .u64 0, .slice none 0 0, .slice none 0 0, .int .i64 0, .int .u64 0, .slice none 0 0, .slice none 0 0] 44)).heap.size := by simp
        have X3a := hide (ag_past X3b.out a3)
        clear a3
        try dsimp only
        refine hK.out _ _ (fun _ => HBa.out) ?_
        clear hK K
        try simp only [Act.put, List.setIfInBounds_toArray, List.set_cons_zero, List.set_cons_succ]
        refine oneK (i := 4) (by kernel_rfl) rfl (fun K hK => ?_)
        go_simp
        refine (c_s_AggPut x OK.out OX.out SM.out HPL.out X3a.out).mono ?_
        rintro e W5 ⟨v5, o, rfl, hM, ⟨q, rfl, hO⟩, hb⟩
        have HBW5 : Hid (Below w2.heap.size w2 W5) := (HBa.out : Below w2.heap.size w2 _).trans (hb.mono (HBa.out : Below w2.heap.size w2 _).size)
        have HM := hide hM
        have HO := hide hO
        have HRW5 : Hid (W5.heap[W4.heap.size]? = some (.cells #[.int .i64 0, .int .u64 0, .int .i64 0, .int .u64 0, .int .i64 0, .int .i64 0, .int .u64 0, .slice none 0 0, .slice none 0 0, .int .i64 0, .int .u64 0, .slice none 0 0, .slice none 0 0] 44 (0, 0))) := (hb.block _ hrb).trans HRa.out
        have hrc := (Array.getElem?_eq_some_iff.1 HRa.out).1
        have hbs := (HBa.out : Below w2.heap.size w2 _).size
        clear hM hO hb
        try dsimp only
        refine hK.out _ _ (fun _ => HBW5.out) ?_
        clear hK K
        try simp only [Act.put, List.setIfInBounds_toArray, List.set_cons_zero, List.set_cons_succ]
        have R5 := HRW5.out
        have q0 := cellK R5 0 rfl
        have q1 := cellK R5 1 rfl
        have q2 := cellK R5 2 rfl
        have q3 := cellK R5 3 rfl
        have q4 := cellK R5 4 rfl
        have q5 := cellK R5 5 rfl
        have q6 := cellK R5 6 rfl
        have q7 := cellK R5 7 rfl
        have q8 := cellK R5 8 rfl
        have q9 := cellK R5 9 rfl
        have q10 := cellK R5 10 rfl
        have q11 := cellK R5 11 rfl
        have q12 := cellK R5 12 rfl
        have f0 := frozen_of_row W5 (W4.heap.size) 0 _ _ R5
        have f1 := frozen_of_row W5 (W4.heap.size) 1 _ _ R5
        have f2 := frozen_of_row W5 (W4.heap.size) 2 _ _ R5
        have f3 := frozen_of_row W5 (W4.heap.size) 3 _ _ R5
        have f4 := frozen_of_row W5 (W4.heap.size) 4 _ _ R5
        have f5 := frozen_of_row W5 (W4.heap.size) 5 _ _ R5
        have f6 := frozen_of_row W5 (W4.heap.size) 6 _ _ R5
        have f7 := frozen_of_row W5 (W4.heap.size) 7 _ _ R5
        have f8 := frozen_of_row W5 (W4.heap.size) 8 _ _ R5
        have f9 := frozen_of_row W5 (W4.heap.size) 9 _ _ R5
        have f10 := frozen_of_row W5 (W4.heap.size) 10 _ _ R5
        have f11 := frozen_of_row W5 (W4.heap.size) 11 _ _ R5
        have f12 := frozen_of_row W5 (W4.heap.size) 12 _ _ R5
        refine oneK (i := 6) (by kernel_rfl) rfl (fun K hK => ?_)
        go_simp
        refine hK.out _ _ (fun h => absurd rfl h) ?_
        clear hK K
        try simp only [Act.put, List.setIfInBounds_toArray, List.set_cons_zero, List.set_cons_succ]
        refine doneK (by kernel_rfl) ?_ _
        clear q0 f0 q1 f1 q2 f2 q3 f3 q4 f4 q5 f5 q6 f6 q7 f7 q8 f8 q9 f9 q10 f10 q11 f11 q12 f12
        have HS13 := hide (st13_ok R5 HBW5.out hra HO.out hrc hbs)
        clear R5
        go_wp2
        exact HQ.out (W4.heap.size) o q _ _ _ _ _ _ HM.out HS13.out.1 HS13.out.2.2 hra HS13.out.2.1 (fun k e => Nat.ne_of_gt (Nat.lt_of_lt_of_le hrc (HO.out.lt e).1))
    · go_simp
      have a3 : Below W3.heap.size W3 (W3.alloc (.cells #[.int .i64 0, .int .u64 0, .int .i64 0, .int .u64 0, .int .i64 0, .int .i64 0, .int .u64 0, .slice none 0 0, .slice none 0 0, .int .i64 0, .int .u64 0, .slice none 0 0, .slice none 0 0] 44)) := (Below.refl _ _).alloc (Nat.le_refl _) _
      have HBa : Hid (Below w2.heap.size w2 (W3.alloc (.cells #[.int .i64 0, .int .u64 0, .int .i64 0, .int .u64 0, .int .i64 0, .int .i64 0, .int .u64 0, .slice none 0 0, .slice none 0 0, .int .i64 0, .int .u64 0, .slice none 0 0, .slice none 0 0] 44))) := ((HBW3.out : Below w2.heap.size w2 _).trans (a3.mono (HBW3.out : Below w2.heap.size w2 _).size))
      have HRa : Hid ((W3.alloc (.cells #[.int .i64 0, .int .u64 0, .int .i64 0, .int .u64 0, .int .i64 0, .int .i64 0, .int .u64 0, .slice none 0 0, .slice none 0 0, .int .i64 0, .int .u64 0, .slice none 0 0, .slice none 0 0] 44)).heap[W3.heap.size]? = some (.cells #[.int .i64 0, .int .u64 0, .int .i64 0, .int .u64 0, .int .i64 0, .int .i64 0, .int .u64 0, .slice none 0 0, .slice none 0 0, .int .i64 0, .int .u64 0, .slice none 0 0, .slice none 0 0] 44 (0, 0))) := (heap_alloc_new W3 (.cells #[.int .i64 0, .int .u64 0, .int .i64 0, .int .u64 0, .int .i64 0, .int .i64 0, .int .u64 0, .slice none 0 0, .slice none 0 0, .int .i64 0, .int .u64 0, .slice none 0 0, .slice none 0 0] 44) : _)
      have hra : w2.heap.size ≤ W3.heap.size := (HBW3.out : Below w2.heap.size w2 _).size
      have hrb : W3.heap.size < (W3.alloc (.cells #[.int .i64 0, .int .u64 0, .int .i64 0, .int .u64 0, .int .i64 0, .int .i64 0, .int .u64 0, .slice none 0 0, .slice none 0 0, .int .i64 0, .int .u64 0, .slice none 0 0, .slice none 0 0] 44)).heap.size := by simp
      have X3a := hide (ag_past X3.out a3)
      clear a3
      try dsimp only
      refine hK.out _ _ (fun _ => HBa.out) ?_
      clear hK K
      try simp only [Act.put, List.setIfInBounds_toArray, List.set_cons_zero, List.set_cons_succ]
      refine oneK (i := 3) (by kernel_rfl) rfl (fun K hK => ?_)
      go_simp
      refine (c_toSampleX x).mono ?_
      rintro e W4 ⟨rfl, hb⟩
      have HBW4 : Hid (Below w2.heap.size w2 W4) := (HBa.out : Below w2.heap.size w2 _).trans (hb.mono (HBa.out : Below w2.heap.size w2 _).size)
      have X3b := hide (ag_past X3a.out hb)
      have HRW4 : Hid (W4.heap[W3.heap.size]? = some (.cells #[.int .i64 0, .int .u64 0, .int .i64 0, .int .u64 0, .int .i64 0, .int .i64 0, .int .u64 0, .slice none 0 0, .slice none 0 0, .int .i64 0, .int .u64 0, .slice none 0 0, .slice none 0 0] 44 (0, 0))) := (hb.block _ hrb).trans HRa.out
      clear hb
      try dsimp only
      refine hK.out _ _ (fun _ => HBW4.out) ?_
      clear hK K
      try simp only [Act.put, List.setIfInBounds_toArray, List.set_cons_zero, List.set_cons_succ]
      refine oneK (i := 4) (by kernel_rfl) rfl (fun K hK => ?_)
      go_simp
      refine (c_s_AggPut x OK.out OX.out SM.out HPL.out X3b.out).mono ?_
      rintro e W5 ⟨v5, o, rfl, hM, ⟨q, rfl, hO⟩, hb⟩
      have HBW5 : Hid (Below w2.heap.size w2 W5) := (HBW4.out : Below w2.heap.size w2 _).trans (hb.mono (HBW4.out : Below w2.heap.size w2 _).size)
      have HM := hide hM
      have HO := hide hO
      have HRW5 : Hid (W5.heap[W3.heap.size]? = some (.cells #[.int .i64 0, .int .u64 0, .int .i64 0, .int .u64 0, .int .i64 0, .int .i64 0, .int .u64 0, .slice none 0 0, .slice none 0 0, .int .i64 0, .int .u64 0, .slice none 0 0, .slice none 0 0] 44 (0, 0))) := (hb.block _ (Array.getElem?_eq_some_iff.1 HRW4.out).1).trans HRW4.out
      have hrc := (Array.getElem?_eq_some_iff.1 HRW4.out).1
      have hbs := (HBW4.out : Below w2.heap.size w2 _).size
      clear hM hO hb
      try dsimp only
      refine hK.out _ _ (fun _ => HBW5.out) ?_
      clear hK K
      try simp only [Act.put, List.setIfInBounds_toArray, List.set_cons_zero, List.set_cons_succ]
      have R5 := HRW5.out
      have q0 := cellK R5 0 rfl
      have q1 := cellK R5 1 rfl
      have q2 := cellK R5 2 rfl
      have q3 := cellK R5 3 rfl
      have q4 := cellK R5 4 rfl
      have q5 := cellK R5 5 rfl
      have q6 := cellK R5 6 rfl
      have q7 := cellK R5 7 rfl
      have q8 := cellK R5 8 rfl
      have q9 := cellK R5 9 rfl
      have q10 := cellK R5 10 rfl
      have q11 := cellK R5 11 rfl
      have q12 := cellK R5 12 rfl
      have f0 := frozen_of_row W5 (W3.heap.size) 0 _ _ R5
      have f1 := frozen_of_row W5 (W3.heap.size) 1 _ _ R5
      have f2 := frozen_of_row W5 (W3.heap.size) 2 _ _ R5
      have f3 := frozen_of_row W5 (W3.heap.size) 3 _ _ R5
      have f4 := frozen_of_row W5 (W3.heap.size) 4 _ _ R5
      have f5 := frozen_of_row W5 (W3.heap.size) 5 _ _ R5
      have f6 := frozen_of_row W5 (W3.heap.size) 6 _ _ R5
      have f7 := frozen_of_row W5 (W3.heap.size) 7 _ _ R5
      have f8 := frozen_of_row W5 (W3.heap.size) 8 _ _ R5
      have f9 := frozen_of_row W5 (W3.heap.size) 9 _ _ R5
      have f10 := frozen_of_row W5 (W3.heap.size) 10 _ _ R5
      have f11 := frozen_of_row W5 (W3.heap.size) 11 _ _ R5
      have f12 := frozen_of_row W5 (W3.heap.size) 12 _ _ R5
      refine oneK (i := 6) (by kernel_rfl) rfl (fun K hK => ?_)
      go_simp
      refine hK.out _ _ (fun h => absurd rfl h) ?_
      clear hK K
      try simp only [Act.put, List.setIfInBounds_toArray, List.set_cons_zero, List.set_cons_succ]
      refine doneK (by kernel_rfl) ?_ _
      clear q0 f0 q1 f1 q2 f2 q3 f3 q4 f4 q5 f5 q6 f6 q7 f7 q8 f8 q9 f9 q10 f10 q11 f11 q12 f12
      have HS13 := hide (st13_ok R5 HBW5.out hra HO.out hrc hbs)
      clear R5
      go_wp2
      exact HQ.out (W3.heap.size) o q _ _ _ _ _ _ HM.out HS13.out.1 HS13.out.2.2 hra HS13.out.2.1 (fun k e => Nat.ne_of_gt (Nat.lt_of_lt_of_le hrc (HO.out.lt e).1))
  · go_simp
    have a3 : Below w2.drew.heap.size w2.drew (w2.drew.alloc (.cells #[.int .i64 0, .int .u64 0, .int .i64 0, .int .u64 0, .int .i64 0, .int .i64 0, .int .u64 0, .slice none 0 0, .slice none 0 0, .int .i64 0, .int .u64 0, .slice none 0 0, .slice none 0 0] 44)) := (Below.refl _ _).alloc (Nat.le_refl _) _
    have HBa : Hid (Below w2.heap.size w2 (w2.drew.alloc (.cells #[.int .i64 0, .int .u64 0, .int .i64 0, .int .u64 0, .int .i64 0, .int .i64 0, .int .u64 0, .slice none 0 0, .slice none 0 0, .int .i64 0, .int .u64 0, .slice none 0 0, .slice none 0 0] 44))) := ((HS0 : Below w2.heap.size w2 _).trans (a3.mono (HS0 : Below w2.heap.size w2 _).size))
    have HRa : Hid ((w2.drew.alloc (.cells #[.int .i64 0, .int .u64 0, .int .i64 0, .int .u64 0, .int .i64 0, .int .i64 0, .int .u64 0, .slice none 0 0, .slice none 0 0, .int .i64 0, .int .u64 0, .slice none 0 0, .slice none 0 0] 44)).heap[w2.heap.size]? = some (.cells #[.int .i64 0, .int .u64 0, .int .i64 0, .int .u64 0, .int .i64 0, .int .i64 0, .int .u64 0, .slice none 0 0, .slice none 0 0, .int .i64 0, .int .u64 0, .slice none 0 0, .slice none 0 0] 44 (0, 0))) := (heap_alloc_new w2.drew (.cells #[.int .i64 0, .int .u64 0, .int .i64 0, .int .u64 0, .int .i64 0, .int .i64 0, .int .u64 0, .slice none 0 0, .slice none 0 0, .int .i64 0, .int .u64 0, .slice none 0 0, .slice none 0 0] 44) : _)
    have hra : w2.heap.size ≤ w2.heap.size := (HS0 : Below w2.heap.size w2 _).size
    have hrb : w2.heap.size < (w2.drew.alloc (.cells #[.int .i64 0, .int .u64 0, .int .i64 0, .int .u64 0, .int .i64 0, .int .i64 0, .int .u64 0, .slice none 0 0, .slice none 0 0, .int .i64 0, .int .u64 0, .slice none 0 0, .slice none 0 0] 44)).heap.size := by simp
    clear a3
    try dsimp only
    refine hK.out _ _ (fun _ => HBa.out) ?_
    clear hK K
    try simp only [Act.put, List.setIfInBounds_toArray, List.set_cons_zero, List.set_cons_succ]
    refine oneK (i := 1) (by kernel_rfl) rfl (fun K hK => ?_)
    go_simp
    refine (c_toAgg SM.out (ag_past HA.out (chain HT2.out HBa.out))).mono ?_
    rintro e W3 ⟨gp, gn, ge, gr, rfl, _, _, _, _, _, ow, hb⟩
    have HBW3 : Hid (Below w2.heap.size w2 W3) := (HBa.out : Below w2.heap.size w2 _).trans (hb.mono (HBa.out : Below w2.heap.size w2 _).size)
    have X3 := hide ow.at
    have HPL := hide (plg_new (gp := gp) (gn := gn) (ge := ge) (gr := gr) SM.out)
    have HRW3 : Hid (W3.heap[w2.heap.size]? = some (.cells #[.int .i64 0, .int .u64 0, .int .i64 0, .int .u64 0, .int .i64 0, .int .i64 0, .int .u64 0, .slice none 0 0, .slice none 0 0, .int .i64 0, .int .u64 0, .slice none 0 0, .slice none 0 0] 44 (0, 0))) := (hb.block _ hrb).trans HRa.out
    clear ow hb
    try dsimp only
    refine hK.out _ _ (fun _ => HBW3.out) ?_
    clear hK K
    try simp only [Act.put, List.setIfInBounds_toArray, List.set_cons_zero, List.set_cons_succ]
    refine oneK (i := 3) (by kernel_rfl) rfl (fun K hK => ?_)
    go_simp
    refine (c_toSampleX x).mono ?_
    rintro e W4 ⟨rfl, hb⟩
    have HBW4 : Hid (Below w2.heap.size w2 W4) := (HBW3.out : Below w2.heap.size w2 _).trans (hb.mono (HBW3.out : Below w2.heap.size w2 _).size)
    have X3b := hide (ag_past X3.out hb)
    have HRW4 : Hid (W4.heap[w2.heap.size]? = some (.cells #[.int .i64 0, .int .u64 0, .int .i64 0, .int .u64 0, .int .i64 0, .int .i64 0, .int .u64 0, .slice none 0 0, .slice none 0 0, .int .i64 0, .int .u64 0, .slice none 0 0, .slice none 0 0] 44 (0, 0))) := (hb.block _ (Array.getElem?_eq_some_iff.1 HRW3.out).1).trans HRW3.out
    clear hb
    try dsimp only
    refine hK.out _ _ (fun _ => HBW4.out) ?_
    clear hK K
    try simp only [Act.put, List.setIfInBounds_toArray, List.set_cons_zero, List.set_cons_succ]
    refine oneK (i := 4) (by kernel_rfl) rfl (fun K hK => ?_)
    go_simp
    refine (c_s_AggPut x OK.out OX.out SM.out HPL.out X3b.out).mono ?_
    rintro e W5 ⟨v5, o, rfl, hM, ⟨q, rfl, hO⟩, hb⟩
    have HBW5 : Hid (Below w2.heap.size w2 W5) := (HBW4.out : Below w2.heap.size w2 _).trans (hb.mono (HBW4.out : Below w2.heap.size w2 _).size)
    have HM := hide hM
    have HO := hide hO
    have HRW5 : Hid (W5.heap[w2.heap.size]? = some (.cells #[.int .i64 0, .int .u64 0, .int .i64 0, .int .u64 0, .int .i64 0, .int .i64 0, .int .u64 0, .slice none 0 0, .slice none 0 0, .int .i64 0, .int .u64 0, .slice none 0 0, .slice none 0 0] 44 (0, 0))) := (hb.block _ (Array.getElem?_eq_some_iff.1 HRW4.out).1).trans HRW4.out
    have hrc := (Array.getElem?_eq_some_iff.1 HRW4.out).1
    have hbs := (HBW4.out : Below w2.heap.size w2 _).size
    clear hM hO hb
    try dsimp only
    refine hK.out _ _ (fun _ => HBW5.out) ?_
    clear hK K
    try simp only [Act.put, List.setIfInBounds_toArray, List.set_cons_zero, List.set_cons_succ]
    have R5 := HRW5.out
    have q0 := cellK R5 0 rfl
    have q1 := cellK R5 1 rfl
    have q2 := cellK R5 2 rfl
    have q3 := cellK R5 3 rfl
    have q4 := cellK R5 4 rfl
    have q5 := cellK R5 5 rfl
    have q6 := cellK R5 6 rfl
    have q7 := cellK R5 7 rfl
    have q8 := cellK R5 8 rfl
    have q9 := cellK R5 9 rfl
    have q10 := cellK R5 10 rfl
    have q11 := cellK R5 11 rfl
    have q12 := cellK R5 12 rfl
    have f0 := frozen_of_row W5 (w2.heap.size) 0 _ _ R5
    have f1 := frozen_of_row W5 (w2.heap.size) 1 _ _ R5
    have f2 := frozen_of_row W5 (w2.heap.size) 2 _ _ R5
    have f3 := frozen_of_row W5 (w2.heap.size) 3 _ _ R5
    have f4 := frozen_of_row W5 (w2.heap.size) 4 _ _ R5
    have f5 := frozen_of_row W5 (w2.heap.size) 5 _ _ R5
    have f6 := frozen_of_row W5 (w2.heap.size) 6 _ _ R5
    have f7 := frozen_of_row W5 (w2.heap.size) 7 _ _ R5
    have f8 := frozen_of_row W5 (w2.heap.size) 8 _ _ R5
    have f9 := frozen_of_row W5 (w2.heap.size) 9 _ _ R5
    have f10 := frozen_of_row W5 (w2.heap.size) 10 _ _ R5
    have f11 := frozen_of_row W5 (w2.heap.size) 11 _ _ R5
    have f12 := frozen_of_row W5 (w2.heap.size) 12 _ _ R5
    refine oneK (i := 6) (by kernel_rfl) rfl (fun K hK => ?_)
    go_simp
    refine hK.out _ _ (fun h => absurd rfl h) ?_
    clear hK K
    try simp only [Act.put, List.setIfInBounds_toArray, List.set_cons_zero, List.set_cons_succ]
    refine doneK (by kernel_rfl) ?_ _
    clear q0 f0 q1 f1 q2 f2 q3 f3 q4 f4 q5 f5 q6 f6 q7 f7 q8 f8 q9 f9 q10 f10 q11 f11 q12 f12
    have HS13 := hide (st13_ok R5 HBW5.out hra HO.out hrc hbs)
    clear R5
    go_wp2
    exact HQ.out (w2.heap.size) o q _ _ _ _ _ _ HM.out HS13.out.1 HS13.out.2.2 hra HS13.out.2.1 (fun k e => Nat.ne_of_gt (Nat.lt_of_lt_of_le hrc (HO.out.lt e).1))
set_option maxHeartbeats 16000000 in
theorem regPG {K' : Act → World → Prop} {Qp : Ending → World → Prop} {g : Ag} {p : Pl} {x : Sx} {w w2 : World} {bx : Nat} {x0 x1 x2 x4 x5 x6 x8 x9 x10 x11 x12 x13 x14 x15 x16 x17 x18 x19 x20 x21 x22 x23 x24 x25 x26 x27 x28 x29 x30 x31 x32 x33 x34 x35 x36 x37 x38 x39 x40 x41 x42 x43 x44 x45 x46 x47 x48 x49 x50 x51 x52 x53 x54 x55 x56 x57 x58 x59 x60 x61 x62 x63 x64 x65 x66 x67 x68 x69 x70 x71 x72 x73 x74 x75 x76 x77 x78 x79 x80 x81 : Value} (ok : AgOk g) (ox : x.Ok) (sm : AgSm g) (hX : AgAt w2 g p) (hPL : PlG g p) (hT : Below w.heap.size w w2) (hm : MX w)
    (hK : ∀ W, Below w2.heap.size w2 W → AgCell W bx g p ∧ W.heap[w.heap.size + 1]? = some (.cells (sxArr x) 35 (0, 0)))
    (hQ : ∀ (b : Nat) (o : Ag) (q : Pl) (X : World) (y0 y1 y2 y3 : Value), AgPut g x o → X.heap[b]? = some (.cells (agArr o q) 44 (0, 0)) → AgO X w2.heap.size o q → w2.heap.size ≤ b → Below w2.heap.size w2 X → (∀ k, AgBlk o q k → k ≠ b) →
      K' { tmps := #[x0, x1, x2, .pointer (some ⟨w.heap.size + 1, 0, none⟩), x4, x5, x6, .pointer (some ⟨bx, 0, none⟩), .pointer (some ⟨b, 0, none⟩), x9, x10, x11, x12, x13, x14, x15, x16, x17, x18, x19, x20, x21, x22, x23, x24, x25, x26, x27, x28, x29, y0, y1, y2, y3, x34, x35, x36, x37, x38, x39, x40, x41, x42, x43, x44, x45, x46, x47, x48, x49, x50, x51, x52, x53, x54, x55, x56, x57, x58, x59, x60, x61, x62, x63, x64, x65, x66, x67, x68, x69, x70, x71, x72, x73, x74, x75, x76, x77, x78, x79, x80, x81], defers := [] } X) :
    Code.wp Tryz.prog (Code.region 10 #[{ dst := some 30, op := Op.load 44 (Operand.tmp 7), type := 44, pos := "exact.go:2279", after := #[], guard := none }, { dst := some 31, op := Op.load 35 (Operand.tmp 3), type := 35, pos := "exact.go:2279", after := #[], guard := none }, { dst := some 32, op := Op.call { callee := Callee.value (Operand.func 9), args := #[Operand.tmp 31], argTypes := #[35] }, type := 47, pos := "exact.go:2279", after := #[{ on := 1, ground := Ground.data }], guard := none }, { dst := some 33, op := Op.call { callee := Callee.value (Operand.func 10), args := #[Operand.tmp 30, Operand.tmp 32], argTypes := #[44, 47] }, type := 44, pos := "exact.go:2279", after := #[{ on := 0, ground := Ground.data }, { on := 2, ground := Ground.data }, { on := 2, ground := Ground.chain }], guard := none }, { dst := some 8, op := Op.alloc 44, type := 0, pos := "exact.go:2279", after := #[], guard := none }, { dst := none, op := Op.store 44 (Operand.tmp 8) (Operand.tmp 33), type := 0, pos := "exact.go:2279", after := #[{ on := 4, ground := Ground.data }, { on := 3, ground := Ground.data }, { on := 3, ground := Ground.chain }, { on := 0, ground := Ground.phase }, { on := 1, ground := Ground.phase }, { on := 2, ground := Ground.phase }, { on := 3, ground := Ground.phase }, { on := 4, ground := Ground.phase }], guard := none }] true) (Exit.then K' (bodyPost Tryz.prog Tryz.f3 Qp)) { tmps := #[x0, x1, x2, .pointer (some ⟨w.heap.size + 1, 0, none⟩), x4, x5, x6, .pointer (some ⟨bx, 0, none⟩), x8, x9, x10, x11, x12, x13, x14, x15, x16, x17, x18, x19, x20, x21, x22, x23, x24, x25, x26, x27, x28, x29, x30, x31, x32, x33, x34, x35, x36, x37, x38, x39, x40, x41, x42, x43, x44, x45, x46, x47, x48, x49, x50, x51, x52, x53, x54, x55, x56, x57, x58, x59, x60, x61, x62, x63, x64, x65, x66, x67, x68, x69, x70, x71, x72, x73, x74, x75, x76, x77, x78, x79, x80, x81], defers := [] } w2 := by
  have OK := hide ok
  have OX := hide ox
  have SM := hide sm
  have HT2 := hide hT
  have HK2 := hide hK
  have HQ := hide hQ
  have HMx := hide hm
  have HX0 : Hid (AgAt w2.drew g p) := ag_past hX (Below.refl _ _).drew
  have HPL := hide hPL
  clear ok ox sm hX hPL hT hK hQ hm
  have HS0 : (fun Y => Below w2.heap.size w2 Y) w2.drew := (Below.refl _ _).drew
  refine regionK (fun Y => Below w2.heap.size w2 Y) 5 (by kernel_rfl) ?_
  refine takeK (i := 0) (d := 30) (v := .agg (agArr g p)) rfl rfl (by kernel_rfl) (by kernel_rfl) (by kernel_rfl) (by decide) (by kernel_rfl) (fun _ _ _ h => h) (Or.inl ⟨by rfl, fun Y hY => ?_⟩) HS0 ?_
  · obtain ⟨⟨x0, x1, x2, x3, x4, x5, x6, x7, x8, x9, x10, x11, x12⟩, hrx⟩ := HK2.out Y hY
    obtain ⟨y0, y1, y2, y3, y4, y5, y6⟩ := sx_cells hrx
    clear hY hrx
    go_simp
  simp only [List.setIfInBounds_toArray, List.set_cons_zero, List.set_cons_succ]
  refine takeK (i := 1) (d := 31) (v := .agg (sxArr x)) rfl rfl (by kernel_rfl) (by kernel_rfl) (by kernel_rfl) (by decide) (by kernel_rfl) (fun _ _ _ h => h) (Or.inl ⟨by rfl, fun Y hY => ?_⟩) HS0 ?_
  · obtain ⟨⟨x0, x1, x2, x3, x4, x5, x6, x7, x8, x9, x10, x11, x12⟩, hrx⟩ := HK2.out Y hY
    obtain ⟨y0, y1, y2, y3, y4, y5, y6⟩ := sx_cells hrx
    clear hY hrx
    go_simp
  simp only [List.setIfInBounds_toArray, List.set_cons_zero, List.set_cons_succ]
  refine twoK (i := 2) (j := 4) (by kernel_rfl) rfl rfl (fun K hK => ?_) (fun K hK => ?_)
  · go_simp
    refine (c_toSampleX x).mono ?_
    rintro e W4 ⟨rfl, hb⟩
    have HBW4 : Hid (Below w2.heap.size w2 W4) := (HS0 : Below w2.heap.size w2 _).trans (hb.mono (HS0 : Below w2.heap.size w2 _).size)
    have X3b := hide (ag_past HX0.out hb)
    clear hb
    try dsimp only
    refine hK.out _ _ (fun _ => HBW4.out) ?_
    clear hK K
    try simp only [Act.put, List.setIfInBounds_toArray, List.set_cons_zero, List.set_cons_succ]
    refine twoK (i := 3) (j := 4) (by kernel_rfl) rfl rfl (fun K hK => ?_) (fun K hK => ?_)
    · go_simp
      refine (c_i_AggPut x OK.out OX.out SM.out HPL.out (HMx.out.past (chain HT2.out HBW4.out)) X3b.out).mono ?_
      rintro e W5 ⟨v5, o, rfl, hM, ⟨q, rfl, hO⟩, hb⟩
      have HBW5 : Hid (Below w2.heap.size w2 W5) := (HBW4.out : Below w2.heap.size w2 _).trans (hb.mono (HBW4.out : Below w2.heap.size w2 _).size)
      have HM := hide hM
      have HO := hide hO
      have hbs := (HBW4.out : Below w2.heap.size w2 _).size
      clear hM hO hb
      try dsimp only
      refine hK.out _ _ (fun _ => HBW5.out) ?_
      clear hK K
      try simp only [Act.put, List.setIfInBounds_toArray, List.set_cons_zero, List.set_cons_succ]
      refine oneK (i := 4) (by kernel_rfl) rfl (fun K hK => ?_)
      go_simp
      have a3 : Below W5.heap.size W5 (W5.alloc (.cells #[.int .i64 0, .int .u64 0, .int .i64 0, .int .u64 0, .int .i64 0, .int .i64 0, .int .u64 0, .slice none 0 0, .slice none 0 0, .int .i64 0, .int .u64 0, .slice none 0 0, .slice none 0 0] 44)) := (Below.refl _ _).alloc (Nat.le_refl _) _
      have HBa : Hid (Below w2.heap.size w2 (W5.alloc (.cells #[.int .i64 0, .int .u64 0, .int .i64 0, .int .u64 0, .int .i64 0, .int .i64 0, .int .u64 0, .slice none 0 0, .slice none 0 0, .int .i64 0, .int .u64 0, .slice none 0 0, .slice none 0 0] 44))) := ((HBW5.out : Below w2.heap.size w2 _).trans (a3.mono (HBW5.out : Below w2.heap.size w2 _).size))
      have HRa : Hid ((W5.alloc (.cells #[.int .i64 0, .int .u64 0, .int .i64 0, .int .u64 0, .int .i64 0, .int .i64 0, .int .u64 0, .slice none 0 0, .slice none 0 0, .int .i64 0, .int .u64 0, .slice none 0 0, .slice none 0 0] 44)).heap[W5.heap.size]? = some (.cells #[.int .i64 0, .int .u64 0, .int .i64 0, .int .u64 0, .int .i64 0, .int .i64 0, .int .u64 0, .slice none 0 0, .slice none 0 0, .int .i64 0, .int .u64 0, .slice none 0 0, .slice none 0 0] 44 (0, 0))) := (heap_alloc_new W5 (.cells #[.int .i64 0, .int .u64 0, .int .i64 0, .int .u64 0, .int .i64 0, .int .i64 0, .int .u64 0, .slice none 0 0, .slice none 0 0, .int .i64 0, .int .u64 0, .slice none 0 0, .slice none 0 0] 44) : _)
      have hra : w2.heap.size ≤ W5.heap.size := (HBW5.out : Below w2.heap.size w2 _).size
      have hrb : W5.heap.size < (W5.alloc (.cells #[.int .i64 0, .int .u64 0, .int .i64 0, .int .u64 0, .int .i64 0, .int .i64 0, .int .u64 0, .slice none 0 0, .slice none 0 0, .int .i64 0, .int .u64 0, .slice none 0 0, .slice none 0 0] 44)).heap.size := by simp
      have HOa := hide (HO.out.past a3)
      clear a3
      try dsimp only
      refine hK.out _ _ (fun _ => HBa.out) ?_
      clear hK K
      try simp only [Act.put, List.setIfInBounds_toArray, List.set_cons_zero, List.set_cons_succ]
      have R5 := HRa.out
      have q0 := cellK R5 0 rfl
      have q1 := cellK R5 1 rfl
      have q2 := cellK R5 2 rfl
      have q3 := cellK R5 3 rfl
      have q4 := cellK R5 4 rfl
      have q5 := cellK R5 5 rfl
      have q6 := cellK R5 6 rfl
      have q7 := cellK R5 7 rfl
      have q8 := cellK R5 8 rfl
      have q9 := cellK R5 9 rfl
      have q10 := cellK R5 10 rfl
      have q11 := cellK R5 11 rfl
      have q12 := cellK R5 12 rfl
      have f0 := frozen_of_row (W5.alloc (.cells #[.int .i64 0, .int .u64 0, .int .i64 0, .int .u64 0, .int .i64 0, .int .i64 0, .int .u64 0, .slice none 0 0, .slice none 0 0, .int .i64 0, .int .u64 0, .slice none 0 0, .slice none 0 0] 44)) (W5.heap.size) 0 _ _ R5
      have f1 := frozen_of_row (W5.alloc (.cells #[.int .i64 0, .int .u64 0, .int .i64 0, .int .u64 0, .int .i64 0, .int .i64 0, .int .u64 0, .slice none 0 0, .slice none 0 0, .int .i64 0, .int .u64 0, .slice none 0 0, .slice none 0 0] 44)) (W5.heap.size) 1 _ _ R5
      have f2 := frozen_of_row (W5.alloc (.cells #[.int .i64 0, .int .u64 0, .int .i64 0, .int .u64 0, .int .i64 0, .int .i64 0, .int .u64 0, .slice none 0 0, .slice none 0 0, .int .i64 0, .int .u64 0, .slice none 0 0, .slice none 0 0] 44)) (W5.heap.size) 2 _ _ R5
      have f3 := frozen_of_row (W5.alloc (.cells #[.int .i64 0, .int .u64 0, .int .i64 0, .int .u64 0, .int .i64 0, .int .i64 0, .int .u64 0, .slice none 0 0, .slice none 0 0, .int .i64 0, .int .u64 0, .slice none 0 0, .slice none 0 0] 44)) (W5.heap.size) 3 _ _ R5
      have f4 := frozen_of_row (W5.alloc (.cells #[.int .i64 0, .int .u64 0, .int .i64 0, .int .u64 0, .int .i64 0, .int .i64 0, .int .u64 0, .slice none 0 0, .slice none 0 0, .int .i64 0, .int .u64 0, .slice none 0 0, .slice none 0 0] 44)) (W5.heap.size) 4 _ _ R5
      have f5 := frozen_of_row (W5.alloc (.cells #[.int .i64 0, .int .u64 0, .int .i64 0, .int .u64 0, .int .i64 0, .int .i64 0, .int .u64 0, .slice none 0 0, .slice none 0 0, .int .i64 0, .int .u64 0, .slice none 0 0, .slice none 0 0] 44)) (W5.heap.size) 5 _ _ R5
      have f6 := frozen_of_row (W5.alloc (.cells #[.int .i64 0, .int .u64 0, .int .i64 0, .int .u64 0, .int .i64 0, .int .i64 0, .int .u64 0, .slice none 0 0, .slice none 0 0, .int .i64 0, .int .u64 0, .slice none 0 0, .slice none 0 0] 44)) (W5.heap.size) 6 _ _ R5
      have f7 := frozen_of_row (W5.alloc (.cells #[.int .i64 0, .int .u64 0, .int .i64 0, .int .u64 0, .int .i64 0, .int .i64 0, .int .u64 0, .slice none 0 0, .slice none 0 0, .int .i64 0, .int .u64 0, .slice none 0 0, .slice none 0 0] 44)) (W5.heap.size) 7 _ _ R5
      have f8 := frozen_of_row (W5.alloc (.cells #[.int .i64 0, .int .u64 0, .int .i64 0, .int .u64 0, .int .i64 0, .int .i64 0, .int .u64 0, .slice none 0 0, .slice none 0 0, .int .i64 0, .int .u64 0, .slice none 0 0, .slice none 0 0] 44)) (W5.heap.size) 8 _ _ R5
      have f9 := frozen_of_row (W5.alloc (.cells #[.int .i64 0, .int .u64 0, .int .i64 0, .int .u64 0, .int .i64 0, .int .i64 0, .int .u64 0, .slice none 0 0, .slice none 0 0, .int .i64 0, .int .u64 0, .slice none 0 0, .slice none 0 0] 44)) (W5.heap.size) 9 _ _ R5
      have f10 := frozen_of_row (W5.alloc (.cells #[.int .i64 0, .int .u64 0, .int .i64 0, .int .u64 0, .int .i64 0, .int .i64 0, .int .u64 0, .slice none 0 0, .slice none 0 0, .int .i64 0, .int .u64 0, .slice none 0 0, .slice none 0 0] 44)) (W5.heap.size) 10 _ _ R5
      have f11 := frozen_of_row (W5.alloc (.cells #[.int .i64 0, .int .u64 0, .int .i64 0, .int .u64 0, .int .i64 0, .int .i64 0, .int .u64 0, .slice none 0 0, .slice none 0 0, .int .i64 0, .int .u64 0, .slice none 0 0, .slice none 0 0] 44)) (W5.heap.size) 11 _ _ R5
      have f12 := frozen_of_row (W5.alloc (.cells #[.int .i64 0, .int .u64 0, .int .i64 0, .int .u64 0, .int .i64 0, .int .i64 0, .int .u64 0, .slice none 0 0, .slice none 0 0, .int .i64 0, .int .u64 0, .slice none 0 0, .slice none 0 0] 44)) (W5.heap.size) 12 _ _ R5
      refine oneK (i := 5) (by kernel_rfl) rfl (fun K hK => ?_)
      go_simp
      refine hK.out _ _ (fun h => absurd rfl h) ?_
      clear hK K
      try simp only [Act.put, List.setIfInBounds_toArray, List.set_cons_zero, List.set_cons_succ]
      refine doneK (by kernel_rfl) ?_ _
      clear q0 f0 q1 f1 q2 f2 q3 f3 q4 f4 q5 f5 q6 f6 q7 f7 q8 f8 q9 f9 q10 f10 q11 f11 q12 f12
      go_wp2
      exact HQ.out W5.heap.size o q _ _ _ _ _ HM.out (heap_alloc_new W5 _) ((HO.out.past ((Below.refl _ _).alloc (Nat.le_refl _) _)).le hbs) HBW5.out.size (Below.alloc HBW5.out HBW5.out.size _) (fun k e => Nat.ne_of_lt (HO.out.lt e).2)
    · go_simp
      have a3 : Below W4.heap.size W4 (W4.alloc (.cells #[.int .i64 0, .int .u64 0, .int .i64 0, .int .u64 0, .int .i64 0, .int .i64 0, .int .u64 0, .slice none 0 0, .slice none 0 0, .int .i64 0, .int .u64 0, .slice none 0 0, .slice none 0 0] 44)) := (Below.refl _ _).alloc (Nat.le_refl _) _
      have HBa : Hid (Below w2.heap.size w2 (W4.alloc (.cells #[.int .i64 0, .int .u64 0, .int .i64 0, .int .u64 0, .int .i64 0, .int .i64 0, .int .u64 0, .slice none 0 0, .slice none 0 0, .int .i64 0, .int .u64 0, .slice none 0 0, .slice none 0 0] 44))) := ((HBW4.out : Below w2.heap.size w2 _).trans (a3.mono (HBW4.out : Below w2.heap.size w2 _).size))
      have HRa : Hid ((W4.alloc (.cells #[.int .i64 0, .int .u64 0, .int .i64 0, .int .u64 0, .int .i64 0, .int .i64 0, .int .u64 0, .slice none 0 0, .slice none 0 0, .int .i64 0, .int .u64 0, .slice none 0 0, .slice none 0 0] 44)).heap[W4.heap.size]? = some (.cells #[.int .i64 0, .int .u64 0, .int .i64 0, .int .u64 0, .int .i64 0, .int .i64 0, .int .u64 0, .slice none 0 0, .slice none 0 0, .int .i64 0, .int .u64 0, .slice none 0 0, .slice none 0 0] 44 (0, 0))) := (heap_alloc_new W4 (.cells #[.int .i64 0, .int .u64 0, .int .i64 0, .int .u64 0, .int .i64 0, .int .i64 0, .int .u64 0, .slice none 0 0, .slice none 0 0, .int .i64 0, .int .u64 0, .slice none 0 0, .slice none 0 0] 44) : _)
      have hra : w2.heap.size ≤ W4.heap.size := (HBW4.out : Below w2.heap.size w2 _).size
      have hrb : W4.heap.size < (W4.alloc (.cells #[.int .i64 0, .int .u64 0, .int .i64 0, .int .u64 0, .int .i64 0, .int .i64 0, .int .u64 0, .slice none 0 0, .slice none 0 0, .int .i64 0, .int .u64 0, .slice none 0 0, .slice none 0 0] 44)).heap.size := by simp
      have X3a := hide (ag_past X3b.out a3)
      clear a3
      try dsimp only
      refine hK.out _ _ (fun _ => HBa.out) ?_
      clear hK K
      try simp only [Act.put, List.setIfInBounds_toArray, List.set_cons_zero, List.set_cons_succ]
      refine oneK (i := 3) (by kernel_rfl) rfl (fun K hK => ?_)
      go_simp
      refine (c_i_AggPut x OK.out OX.out SM.out HPL.out (HMx.out.past (chain HT2.out HBa.out)) X3a.out).mono ?_
      rintro e W5 ⟨v5, o, rfl, hM, ⟨q, rfl, hO⟩, hb⟩
      have HBW5 : Hid (Below w2.heap.size w2 W5) := (HBa.out : Below w2.heap.size w2 _).trans (hb.mono (HBa.out : Below w2.heap.size w2 _).size)
      have HM := hide hM
      have HO := hide hO
      have HRW5 : Hid (W5.heap[W4.heap.size]? = some (.cells #[.int .i64 0, .int .u64 0, .int .i64 0, .int .u64 0, .int .i64 0, .int .i64 0, .int .u64 0, .slice none 0 0, .slice none 0 0, .int .i64 0, .int .u64 0, .slice none 0 0, .slice none 0 0] 44 (0, 0))) := (hb.block _ hrb).trans HRa.out
      have hrc := (Array.getElem?_eq_some_iff.1 HRa.out).1
      have hbs := (HBa.out : Below w2.heap.size w2 _).size
      clear hM hO hb
      try dsimp only
      refine hK.out _ _ (fun _ => HBW5.out) ?_
      clear hK K
      try simp only [Act.put, List.setIfInBounds_toArray, List.set_cons_zero, List.set_cons_succ]
      have R5 := HRW5.out
      have q0 := cellK R5 0 rfl
      have q1 := cellK R5 1 rfl
      have q2 := cellK R5 2 rfl
      have q3 := cellK R5 3 rfl
      have q4 := cellK R5 4 rfl
      have q5 := cellK R5 5 rfl
      have q6 := cellK R5 6 rfl
      have q7 := cellK R5 7 rfl
      have q8 := cellK R5 8 rfl
      have q9 := cellK R5 9 rfl
      have q10 := cellK R5 10 rfl
      have q11 := cellK R5 11 rfl
      have q12 := cellK R5 12 rfl
      have f0 := frozen_of_row W5 (W4.heap.size) 0 _ _ R5
      have f1 := frozen_of_row W5 (W4.heap.size) 1 _ _ R5
      have f2 := frozen_of_row W5 (W4.heap.size) 2 _ _ R5
      have f3 := frozen_of_row W5 (W4.heap.size) 3 _ _ R5
      have f4 := frozen_of_row W5 (W4.heap.size) 4 _ _ R5
      have f5 := frozen_of_row W5 (W4.heap.size) 5 _ _ R5
      have f6 := frozen_of_row W5 (W4.heap.size) 6 _ _ R5
      have f7 := frozen_of_row W5 (W4.heap.size) 7 _ _ R5
      have f8 := frozen_of_row W5 (W4.heap.size) 8 _ _ R5
      have f9 := frozen_of_row W5 (W4.heap.size) 9 _ _ R5
      have f10 := frozen_of_row W5 (W4.heap.size) 10 _ _ R5
      have f11 := frozen_of_row W5 (W4.heap.size) 11 _ _ R5
      have f12 := frozen_of_row W5 (W4.heap.size) 12 _ _ R5
      refine oneK (i := 5) (by kernel_rfl) rfl (fun K hK => ?_)
      go_simp
      refine hK.out _ _ (fun h => absurd rfl h) ?_
      clear hK K
      try simp only [Act.put, List.setIfInBounds_toArray, List.set_cons_zero, List.set_cons_succ]
      refine doneK (by kernel_rfl) ?_ _
      clear q0 f0 q1 f1 q2 f2 q3 f3 q4 f4 q5 f5 q6 f6 q7 f7 q8 f8 q9 f9 q10 f10 q11 f11 q12 f12
      have HS13 := hide (st13_ok R5 HBW5.out hra HO.out hrc hbs)
      clear R5
      go_wp2
      exact HQ.out (W4.heap.size) o q _ _ _ _ _ HM.out HS13.out.1 HS13.out.2.2 hra HS13.out.2.1 (fun k e => Nat.ne_of_gt (Nat.lt_of_lt_of_le hrc (HO.out.lt e).1))
  · go_simp
    have a3 : Below w2.drew.heap.size w2.drew (w2.drew.alloc (.cells #[.int .i64 0, .int .u64 0, .int .i64 0, .int .u64 0, .int .i64 0, .int .i64 0, .int .u64 0, .slice none 0 0, .slice none 0 0, .int .i64 0, .int .u64 0, .slice none 0 0, .slice none 0 0] 44)) := (Below.refl _ _).alloc (Nat.le_refl _) _
    have HBa : Hid (Below w2.heap.size w2 (w2.drew.alloc (.cells #[.int .i64 0, .int .u64 0, .int .i64 0, .int .u64 0, .int .i64 0, .int .i64 0, .int .u64 0, .slice none 0 0, .slice none 0 0, .int .i64 0, .int .u64 0, .slice none 0 0, .slice none 0 0] 44))) := ((HS0 : Below w2.heap.size w2 _).trans (a3.mono (HS0 : Below w2.heap.size w2 _).size))
    have HRa : Hid ((w2.drew.alloc (.cells #[.int .i64 0, .int .u64 0, .int .i64 0, .int .u64 0, .int .i64 0, .int .i64 0, .int .u64 0, .slice none 0 0, .slice none 0 0, .int .i64 0, .int .u64 0, .slice none 0 0, .slice none 0 0] 44)).heap[w2.heap.size]? = some (.cells #[.int .i64 0, .int .u64 0, .int .i64 0, .int .u64 0, .int .i64 0, .int .i64 0, .int .u64 0, .slice none 0 0, .slice none 0 0, .int .i64 0, .int .u64 0, .slice none 0 0, .slice none 0 0] 44 (0, 0))) := (heap_alloc_new w2.drew (.cells #[.int .i64 0, .int .u64 0, .int .i64 0, .int .u64 0, .int .i64 0, .int .i64 0, .int .u64 0, .slice none 0 0, .slice none 0 0, .int .i64 0, .int .u64 0, .slice none 0 0, .slice none 0 0] 44) : _)
    have hra : w2.heap.size ≤ w2.heap.size := (HS0 : Below w2.heap.size w2 _).size
    have hrb : w2.heap.size < (w2.drew.alloc (.cells #[.int .i64 0, .int .u64 0, .int .i64 0, .int .u64 0, .int .i64 0, .int .i64 0, .int .u64 0, .slice none 0 0, .slice none 0 0, .int .i64 0, .int .u64 0, .slice none 0 0, .slice none 0 0] 44)).heap.size := by simp
    have X3a := hide (ag_past HX0.out a3)
    clear a3
    try dsimp only
    refine hK.out _ _ (fun _ => HBa.out) ?_
    clear hK K
    try simp only [Act.put, List.setIfInBounds_toArray, List.set_cons_zero, List.set_cons_succ]
    refine oneK (i := 2) (by kernel_rfl) rfl (fun K hK => ?_)
    go_simp
    refine (c_toSampleX x).mono ?_
    rintro e W4 ⟨rfl, hb⟩
    have HBW4 : Hid (Below w2.heap.size w2 W4) := (HBa.out : Below w2.heap.size w2 _).trans (hb.mono (HBa.out : Below w2.heap.size w2 _).size)
    have X3b := hide (ag_past X3a.out hb)
    have HRW4 : Hid (W4.heap[w2.heap.size]? = some (.cells #[.int .i64 0, .int .u64 0, .int .i64 0, .int .u64 0, .int .i64 0, .int .i64 0, .int .u64 0, .slice none 0 0, .slice none 0 0, .int .i64 0, .int .u64 0, .slice none 0 0, .slice none 0 0] 44 (0, 0))) := (hb.block _ hrb).trans HRa.out
    clear hb
    try dsimp only
    refine hK.out _ _ (fun _ => HBW4.out) ?_
    clear hK K
    try simp only [Act.put, List.setIfInBounds_toArray, List.set_cons_zero, List.set_cons_succ]
    refine oneK (i := 3) (by kernel_rfl) rfl (fun K hK => ?_)
    go_simp
    refine (c_i_AggPut x OK.out OX.out SM.out HPL.out (HMx.out.past (chain HT2.out HBW4.out)) X3b.out).mono ?_
    rintro e W5 ⟨v5, o, rfl, hM, ⟨q, rfl, hO⟩, hb⟩
    have HBW5 : Hid (Below w2.heap.size w2 W5) := (HBW4.out : Below w2.heap.size w2 _).trans (hb.mono (HBW4.out : Below w2.heap.size w2 _).size)
    have HM := hide hM
    have HO := hide hO
    have HRW5 : Hid (W5.heap[w2.heap.size]? = some (.cells #[.int .i64 0, .int .u64 0, .int .i64 0, .int .u64 0, .int .i64 0, .int .i64 0, .int .u64 0, .slice none 0 0, .slice none 0 0, .int .i64 0, .int .u64 0, .slice none 0 0, .slice none 0 0] 44 (0, 0))) := (hb.block _ (Array.getElem?_eq_some_iff.1 HRW4.out).1).trans HRW4.out
    have hrc := (Array.getElem?_eq_some_iff.1 HRW4.out).1
    have hbs := (HBW4.out : Below w2.heap.size w2 _).size
    clear hM hO hb
    try dsimp only
    refine hK.out _ _ (fun _ => HBW5.out) ?_
    clear hK K
    try simp only [Act.put, List.setIfInBounds_toArray, List.set_cons_zero, List.set_cons_succ]
    have R5 := HRW5.out
    have q0 := cellK R5 0 rfl
    have q1 := cellK R5 1 rfl
    have q2 := cellK R5 2 rfl
    have q3 := cellK R5 3 rfl
    have q4 := cellK R5 4 rfl
    have q5 := cellK R5 5 rfl
    have q6 := cellK R5 6 rfl
    have q7 := cellK R5 7 rfl
    have q8 := cellK R5 8 rfl
    have q9 := cellK R5 9 rfl
    have q10 := cellK R5 10 rfl
    have q11 := cellK R5 11 rfl
    have q12 := cellK R5 12 rfl
    have f0 := frozen_of_row W5 (w2.heap.size) 0 _ _ R5
    have f1 := frozen_of_row W5 (w2.heap.size) 1 _ _ R5
    have f2 := frozen_of_row W5 (w2.heap.size) 2 _ _ R5
    have f3 := frozen_of_row W5 (w2.heap.size) 3 _ _ R5
    have f4 := frozen_of_row W5 (w2.heap.size) 4 _ _ R5
    have f5 := frozen_of_row W5 (w2.heap.size) 5 _ _ R5
    have f6 := frozen_of_row W5 (w2.heap.size) 6 _ _ R5
    have f7 := frozen_of_row W5 (w2.heap.size) 7 _ _ R5
    have f8 := frozen_of_row W5 (w2.heap.size) 8 _ _ R5
    have f9 := frozen_of_row W5 (w2.heap.size) 9 _ _ R5
    have f10 := frozen_of_row W5 (w2.heap.size) 10 _ _ R5
    have f11 := frozen_of_row W5 (w2.heap.size) 11 _ _ R5
    have f12 := frozen_of_row W5 (w2.heap.size) 12 _ _ R5
    refine oneK (i := 5) (by kernel_rfl) rfl (fun K hK => ?_)
    go_simp
    refine hK.out _ _ (fun h => absurd rfl h) ?_
    clear hK K
    try simp only [Act.put, List.setIfInBounds_toArray, List.set_cons_zero, List.set_cons_succ]
    refine doneK (by kernel_rfl) ?_ _
    clear q0 f0 q1 f1 q2 f2 q3 f3 q4 f4 q5 f5 q6 f6 q7 f7 q8 f8 q9 f9 q10 f10 q11 f11 q12 f12
    have HS13 := hide (st13_ok R5 HBW5.out hra HO.out hrc hbs)
    clear R5
    go_wp2
    exact HQ.out (w2.heap.size) o q _ _ _ _ _ HM.out HS13.out.1 HS13.out.2.2 hra HS13.out.2.1 (fun k e => Nat.ne_of_gt (Nat.lt_of_lt_of_le hrc (HO.out.lt e).1))
set_option maxHeartbeats 16000000 in
theorem regPI {K' : Act → World → Prop} {Qp : Ending → World → Prop} {g : Ag} {p : Pl} {x : Sx} {w w2 : World} {x0 x1 x4 x5 x6 x7 x8 x9 x10 x11 x12 x13 x14 x15 x16 x17 x18 x19 x20 x21 x22 x23 x24 x25 x26 x27 x28 x29 x30 x31 x32 x33 x34 x35 x36 x37 x38 x39 x40 x41 x42 x43 x44 x45 x46 x47 x48 x49 x50 x51 x52 x53 x54 x55 x56 x57 x58 x59 x60 x61 x62 x63 x64 x65 x66 x67 x68 x69 x70 x71 x72 x73 x74 x75 x76 x77 x78 x79 x80 x81 : Value} (ok : AgOk g) (ox : x.Ok) (sm : AgSm g) (hA : AgAt w g p) (hT : Below w.heap.size w w2) (hm : MX w)
    (hK : ∀ W, Below w2.heap.size w2 W → AgCell W w.heap.size g p ∧ W.heap[w.heap.size + 1]? = some (.cells (sxArr x) 35 (0, 0)))
    (hQ : ∀ (b : Nat) (o : Ag) (q : Pl) (X : World) (y0 y1 y2 y3 y4 : Value), AgPut g x o → X.heap[b]? = some (.cells (agArr o q) 44 (0, 0)) → AgO X w2.heap.size o q → w2.heap.size ≤ b → Below w2.heap.size w2 X → (∀ k, AgBlk o q k → k ≠ b) →
      K' { tmps := #[x0, x1, .pointer (some ⟨w.heap.size, 0, none⟩), .pointer (some ⟨w.heap.size + 1, 0, none⟩), x4, x5, x6, x7, x8, x9, x10, x11, .pointer (some ⟨b, 0, none⟩), x13, x14, x15, x16, x17, x18, x19, x20, x21, x22, x23, x24, x25, x26, x27, x28, x29, x30, x31, x32, x33, x34, x35, x36, x37, x38, x39, x40, x41, x42, x43, x44, x45, x46, x47, x48, x49, x50, x51, x52, x53, x54, x55, x56, x57, x58, x59, x60, x61, x62, x63, x64, y0, y1, y2, y3, y4, x70, x71, x72, x73, x74, x75, x76, x77, x78, x79, x80, x81], defers := [] } X) :
    Code.wp Tryz.prog (Code.region 27 #[{ dst := some 65, op := Op.load 33 (Operand.tmp 2), type := 33, pos := "exact.go:2301", after := #[], guard := none }, { dst := some 66, op := Op.call { callee := Callee.value (Operand.func 8), args := #[Operand.tmp 65], argTypes := #[33] }, type := 44, pos := "exact.go:2301", after := #[{ on := 0, ground := Ground.data }], guard := none }, { dst := some 67, op := Op.load 35 (Operand.tmp 3), type := 35, pos := "exact.go:2301", after := #[], guard := none }, { dst := some 68, op := Op.call { callee := Callee.value (Operand.func 9), args := #[Operand.tmp 67], argTypes := #[35] }, type := 47, pos := "exact.go:2301", after := #[{ on := 2, ground := Ground.data }, { on := 1, ground := Ground.chain }], guard := none }, { dst := some 69, op := Op.call { callee := Callee.value (Operand.func 10), args := #[Operand.tmp 66, Operand.tmp 68], argTypes := #[44, 47] }, type := 44, pos := "exact.go:2301", after := #[{ on := 1, ground := Ground.data }, { on := 3, ground := Ground.data }, { on := 3, ground := Ground.chain }], guard := none }, { dst := some 12, op := Op.alloc 44, type := 0, pos := "exact.go:2301", after := #[], guard := none }, { dst := none, op := Op.store 44 (Operand.tmp 12) (Operand.tmp 69), type := 0, pos := "exact.go:2301", after := #[{ on := 5, ground := Ground.data }, { on := 4, ground := Ground.data }, { on := 4, ground := Ground.chain }, { on := 0, ground := Ground.phase }, { on := 1, ground := Ground.phase }, { on := 2, ground := Ground.phase }, { on := 3, ground := Ground.phase }, { on := 4, ground := Ground.phase }, { on := 5, ground := Ground.phase }], guard := none }] true) (Exit.then K' (bodyPost Tryz.prog Tryz.f3 Qp)) { tmps := #[x0, x1, .pointer (some ⟨w.heap.size, 0, none⟩), .pointer (some ⟨w.heap.size + 1, 0, none⟩), x4, x5, x6, x7, x8, x9, x10, x11, x12, x13, x14, x15, x16, x17, x18, x19, x20, x21, x22, x23, x24, x25, x26, x27, x28, x29, x30, x31, x32, x33, x34, x35, x36, x37, x38, x39, x40, x41, x42, x43, x44, x45, x46, x47, x48, x49, x50, x51, x52, x53, x54, x55, x56, x57, x58, x59, x60, x61, x62, x63, x64, x65, x66, x67, x68, x69, x70, x71, x72, x73, x74, x75, x76, x77, x78, x79, x80, x81], defers := [] } w2 := by
  have OK := hide ok
  have OX := hide ox
  have SM := hide sm
  have HT2 := hide hT
  have HK2 := hide hK
  have HQ := hide hQ
  have HMx := hide hm
  have HA := hide hA
  clear ok ox sm hA hT hK hQ hm
  have HS0 : (fun Y => Below w2.heap.size w2 Y) w2.drew := (Below.refl _ _).drew
  refine regionK (fun Y => Below w2.heap.size w2 Y) 6 (by kernel_rfl) ?_
  refine takeK (i := 0) (d := 65) (v := .agg (agArr g p)) rfl rfl (by kernel_rfl) (by kernel_rfl) (by kernel_rfl) (by decide) (by kernel_rfl) (fun _ _ _ h => h) (Or.inl ⟨by rfl, fun Y hY => ?_⟩) HS0 ?_
  · obtain ⟨⟨x0, x1, x2, x3, x4, x5, x6, x7, x8, x9, x10, x11, x12⟩, hrx⟩ := HK2.out Y hY
    obtain ⟨y0, y1, y2, y3, y4, y5, y6⟩ := sx_cells hrx
    clear hY hrx
    go_simp
  simp only [List.setIfInBounds_toArray, List.set_cons_zero, List.set_cons_succ]
  refine takeK (i := 2) (d := 67) (v := .agg (sxArr x)) rfl rfl (by kernel_rfl) (by kernel_rfl) (by kernel_rfl) (by decide) (by kernel_rfl) (fun _ _ _ h => h) (Or.inl ⟨by rfl, fun Y hY => ?_⟩) HS0 ?_
  · obtain ⟨⟨x0, x1, x2, x3, x4, x5, x6, x7, x8, x9, x10, x11, x12⟩, hrx⟩ := HK2.out Y hY
    obtain ⟨y0, y1, y2, y3, y4, y5, y6⟩ := sx_cells hrx
    clear hY hrx
    go_simp
  simp only [List.setIfInBounds_toArray, List.set_cons_zero, List.set_cons_succ]
  refine twoK (i := 1) (j := 5) (by kernel_rfl) rfl rfl (fun K hK => ?_) (fun K hK => ?_)
  · go_simp
    refine (c_toAgg SM.out (ag_past HA.out (chain HT2.out HS0))).mono ?_
    rintro e W3 ⟨gp, gn, ge, gr, rfl, _, _, _, _, _, ow, hb⟩
    have HBW3 : Hid (Below w2.heap.size w2 W3) := (HS0 : Below w2.heap.size w2 _).trans (hb.mono (HS0 : Below w2.heap.size w2 _).size)
    have X3 := hide ow.at
    have HPL := hide (plg_new (gp := gp) (gn := gn) (ge := ge) (gr := gr) SM.out)
    clear ow hb
    try dsimp only
    refine hK.out _ _ (fun _ => HBW3.out) ?_
    clear hK K
    try simp only [Act.put, List.setIfInBounds_toArray, List.set_cons_zero, List.set_cons_succ]
    refine twoK (i := 3) (j := 5) (by kernel_rfl) rfl rfl (fun K hK => ?_) (fun K hK => ?_)
    · go_simp
      refine (c_toSampleX x).mono ?_
      rintro e W4 ⟨rfl, hb⟩
      have HBW4 : Hid (Below w2.heap.size w2 W4) := (HBW3.out : Below w2.heap.size w2 _).trans (hb.mono (HBW3.out : Below w2.heap.size w2 _).size)
      have X3b := hide (ag_past X3.out hb)
      clear hb
      try dsimp only
      refine hK.out _ _ (fun _ => HBW4.out) ?_
      clear hK K
      try simp only [Act.put, List.setIfInBounds_toArray, List.set_cons_zero, List.set_cons_succ]
      refine twoK (i := 4) (j := 5) (by kernel_rfl) rfl rfl (fun K hK => ?_) (fun K hK => ?_)
      · go_simp
        refine (c_i_AggPut x OK.out OX.out SM.out HPL.out (HMx.out.past (chain HT2.out HBW4.out)) X3b.out).mono ?_
        rintro e W5 ⟨v5, o, rfl, hM, ⟨q, rfl, hO⟩, hb⟩
        have HBW5 : Hid (Below w2.heap.size w2 W5) := (HBW4.out : Below w2.heap.size w2 _).trans (hb.mono (HBW4.out : Below w2.heap.size w2 _).size)
        have HM := hide hM
        have HO := hide hO
        have hbs := (HBW4.out : Below w2.heap.size w2 _).size
        clear hM hO hb
        try dsimp only
        refine hK.out _ _ (fun _ => HBW5.out) ?_
        clear hK K
        try simp only [Act.put, List.setIfInBounds_toArray, List.set_cons_zero, List.set_cons_succ]
        refine oneK (i := 5) (by kernel_rfl) rfl (fun K hK => ?_)
        go_simp
        have a3 : Below W5.heap.size W5 (W5.alloc (.cells #[.int .i64 0, .int .u64 0, .int .i64 0, .int .u64 0, .int .i64 0, .int .i64 0, .int .u64 0, .slice none 0 0, .slice none 0 0, .int .i64 0, .int .u64 0, .slice none 0 0, .slice none 0 0] 44)) := (Below.refl _ _).alloc (Nat.le_refl _) _
        have HBa : Hid (Below w2.heap.size w2 (W5.alloc (.cells #[.int .i64 0, .int .u64 0, .int .i64 0, .int .u64 0, .int .i64 0, .int .i64 0, .int .u64 0, .slice none 0 0, .slice none 0 0, .int .i64 0, .int .u64 0, .slice none 0 0, .slice none 0 0] 44))) := ((HBW5.out : Below w2.heap.size w2 _).trans (a3.mono (HBW5.out : Below w2.heap.size w2 _).size))
        have HRa : Hid ((W5.alloc (.cells #[.int .i64 0, .int .u64 0, .int .i64 0, .int .u64 0, .int .i64 0, .int .i64 0, .int .u64 0, .slice none 0 0, .slice none 0 0, .int .i64 0, .int .u64 0, .slice none 0 0, .slice none 0 0] 44)).heap[W5.heap.size]? = some (.cells #[.int .i64 0, .int .u64 0, .int .i64 0, .int .u64 0, .int .i64 0, .int .i64 0, .int .u64 0, .slice none 0 0, .slice none 0 0, .int .i64 0, .int .u64 0, .slice none 0 0, .slice none 0 0] 44 (0, 0))) := (heap_alloc_new W5 (.cells #[.int .i64 0, .int .u64 0, .int .i64 0, .int .u64 0, .int .i64 0, .int .i64 0, .int .u64 0, .slice none 0 0, .slice none 0 0, .int .i64 0, .int .u64 0, .slice none 0 0, .slice none 0 0] 44) : _)
        have hra : w2.heap.size ≤ W5.heap.size := (HBW5.out : Below w2.heap.size w2 _).size
        have hrb : W5.heap.size < (W5.alloc (.cells #[.int .i64 0, .int .u64 0, .int .i64 0, .int .u64 0, .int .i64 0, .int .i64 0, .int .u64 0, .slice none 0 0, .slice none 0 0, .int .i64 0, .int .u64 0, .slice none 0 0, .slice none 0 0] 44)).heap.size := by simp
        have HOa := hide (HO.out.past a3)
        clear a3
        try dsimp only
        refine hK.out _ _ (fun _ => HBa.out) ?_
        clear hK K
        try simp only [Act.put, List.setIfInBounds_toArray, List.set_cons_zero, List.set_cons_succ]
        have R5 := HRa.out
        have q0 := cellK R5 0 rfl
        have q1 := cellK R5 1 rfl
        have q2 := cellK R5 2 rfl
        have q3 := cellK R5 3 rfl
        have q4 := cellK R5 4 rfl
        have q5 := cellK R5 5 rfl
        have q6 := cellK R5 6 rfl
        have q7 := cellK R5 7 rfl
        have q8 := cellK R5 8 rfl
        have q9 := cellK R5 9 rfl
        have q10 := cellK R5 10 rfl
        have q11 := cellK R5 11 rfl
        have q12 := cellK R5 12 rfl
        have f0 := frozen_of_row (W5.alloc (.cells #[.int .i64 0, .int .u64 0, .int .i64 0, .int .u64 0, .int .i64 0, .int .i64 0, .int .u64 0, .slice none 0 0, .slice none 0 0, .int .i64 0, .int .u64 0, .slice none 0 0, .slice none 0 0] 44)) (W5.heap.size) 0 _ _ R5
        have f1 := frozen_of_row (W5.alloc (.cells #[.int .i64 0, .int .u64 0, .int .i64 0, .int .u64 0, .int .i64 0, .int .i64 0, .int .u64 0, .slice none 0 0, .slice none 0 0, .int .i64 0, .int .u64 0, .slice none 0 0, .slice none 0 0] 44)) (W5.heap.size) 1 _ _ R5
        have f2 := frozen_of_row (W5.alloc (.cells #[.int .i64 0, .int .u64 0, .int .i64 0, .int .u64 0, .int .i64 0, .int .i64 0, .int .u64 0, .slice none 0 0, .slice none 0 0, .int .i64 0, .int .u64 0, .slice none 0 0, .slice none 0 0] 44)) (W5.heap.size) 2 _ _ R5
        have f3 := frozen_of_row (W5.alloc (.cells #[.int .i64 0, .int .u64 0, .int .i64 0, .int .u64 0, .int .i64 0, .int .i64 0, .int .u64 0, .slice none 0 0, .slice none 0 0, .int .i64 0, .int .u64 0, .slice none 0 0, .slice none 0 0] 44)) (W5.heap.size) 3 _ _ R5
        have f4 := frozen_of_row (W5.alloc (.cells #[.int .i64 0, .int .u64 0, .int .i64 0, .int .u64 0, .int .i64 0, .int .i64 0, .int .u64 0, .slice none 0 0, .slice none 0 0, .int .i64 0, .int .u64 0, .slice none 0 0, .slice none 0 0] 44)) (W5.heap.size) 4 _ _ R5
        have f5 := frozen_of_row (W5.alloc (.cells #[.int .i64 0, .int .u64 0, .int .i64 0, .int .u64 0, .int .i64 0, .int .i64 0, .int .u64 0, .slice none 0 0, .slice none 0 0, .int .i64 0, .int .u64 0, .slice none 0 0, .slice none 0 0] 44)) (W5.heap.size) 5 _ _ R5
        have f6 := frozen_of_row (W5.alloc (.cells #[.int .i64 0, .int .u64 0, .int .i64 0, .int .u64 0, .int .i64 0, .int .i64 0, .int .u64 0, .slice none 0 0, .slice none 0 0, .int .i64 0, .int .u64 0, .slice none 0 0, .slice none 0 0] 44)) (W5.heap.size) 6 _ _ R5
        have f7 := frozen_of_row (W5.alloc (.cells #[.int .i64 0, .int .u64 0, .int .i64 0, .int .u64 0, .int .i64 0, .int .i64 0, .int .u64 0, .slice none 0 0, .slice none 0 0, .int .i64 0, .int .u64 0, .slice none 0 0, .slice none 0 0] 44)) (W5.heap.size) 7 _ _ R5
        have f8 := frozen_of_row (W5.alloc (.cells #[.int .i64 0, .int .u64 0, .int .i64 0, .int .u64 0, .int .i64 0, .int .i64 0, .int .u64 0, .slice none 0 0, .slice none 0 0, .int .i64 0, .int .u64 0, .slice none 0 0, .slice none 0 0] 44)) (W5.heap.size) 8 _ _ R5
        have f9 := frozen_of_row (W5.alloc (.cells #[.int .i64 0, .int .u64 0, .int .i64 0, .int .u64 0, .int .i64 0, .int .i64 0, .int .u64 0, .slice none 0 0, .slice none 0 0, .int .i64 0, .int .u64 0, .slice none 0 0, .slice none 0 0] 44)) (W5.heap.size) 9 _ _ R5
        have f10 := frozen_of_row (W5.alloc (.cells #[.int .i64 0, .int .u64 0, .int .i64 0, .int .u64 0, .int .i64 0, .int .i64 0, .int .u64 0, .slice none 0 0, .slice none 0 0, .int .i64 0, .int .u64 0, .slice none 0 0, .slice none 0 0] 44)) (W5.heap.size) 10 _ _ R5
        have f11 := frozen_of_row (W5.alloc (.cells #[.int .i64 0, .int .u64 0, .int .i64 0, .int .u64 0, .int .i64 0, .int .i64 0, .int .u64 0, .slice none 0 0, .slice none 0 0, .int .i64 0, .int .u64 0, .slice none 0 0, .slice none 0 0] 44)) (W5.heap.size) 11 _ _ R5
        have f12 := frozen_of_row (W5.alloc (.cells #[.int .i64 0, .int .u64 0, .int .i64 0, .int .u64 0, .int .i64 0, .int .i64 0, .int .u64 0, .slice none 0 0, .slice none 0 0, .int .i64 0, .int .u64 0, .slice none 0 0, .slice none 0 0] 44)) (W5.heap.size) 12 _ _ R5
        refine oneK (i := 6) (by kernel_rfl) rfl (fun K hK => ?_)
        go_simp
        refine hK.out _ _ (fun h => absurd rfl h) ?_
        clear hK K
        try simp only [Act.put, List.setIfInBounds_toArray, List.set_cons_zero, List.set_cons_succ]
        refine doneK (by kernel_rfl) ?_ _
        clear q0 f0 q1 f1 q2 f2 q3 f3 q4 f4 q5 f5 q6 f6 q7 f7 q8 f8 q9 f9 q10 f10 q11 f11 q12 f12
        go_wp2
        exact HQ.out W5.heap.size o q _ _ _ _ _ _ HM.out (heap_alloc_new W5 _) ((HO.out.past ((Below.refl _ _).alloc (Nat.le_refl _) _)).le hbs) HBW5.out.size (Below.alloc HBW5.out HBW5.out.size _) (fun k e => Nat.ne_of_lt (HO.out.lt e).2)
      · go_simp
        have a3 : Below W4.heap.size W4 (W4.alloc (.cells #[.int .i64 0, .int .u64 0, .int .i64 0, .int .u64 0, .int .i64 0, .int .i64 0, .int .u64 0, .slice none 0 0, .slice none 0 0, .int .i64 0, .int .u64 0, .slice none 0 0, .slice none 0 0] 44)) := (Below.refl _ _).alloc (Nat.le_refl _) _
        have HBa : Hid (Below w2.heap.size w2 (W4.alloc (.cells #[.int .i64 0, .int .u64 0, .int .i64 0, .int .u64 0, .int .i64 0, .int .i64 0, .int .u64 0, .slice none 0 0, .slice none 0 0, .int .i64 0, .int .u64 0, .slice none 0 0, .slice none 0 0] 44))) := ((HBW4.out : Below w2.heap.size w2 _).trans (a3.mono (HBW4.out : Below w2.heap.size w2 _).size))
        have HRa : Hid ((W4.alloc (.cells #[.int .i64 0, .int .u64 0, .int .i64 0, .int .u64 0, .int .i64 0, .int .i64 0, .int .u64 0, .slice none 0 0, .slice none 0 0, .int .i64 0, .int .u64 0, .slice none 0 0, .slice none 0 0] 44)).heap[W4.heap.size]? = some (.cells #[.int .i64 0, .int .u64 0, .int .i64 0, .int .u64 0, .int .i64 0, .int .i64 0, .int .u64 0, .slice none 0 0, .slice none 0 0, .int .i64 0, .int .u64 0, .slice none 0 0, .slice none 0 0] 44 (0, 0))) := (heap_alloc_new W4 (.cells #[.int .i64 0, .int .u64 0, .int .i64 0, .int .u64 0, .int .i64 0, .int .i64 0, .int .u64 0, .slice none 0 0, .slice none 0 0, .int .i64 0, .int .u64 0, .slice none 0 0, .slice none 0 0] 44) : _)
        have hra : w2.heap.size ≤ W4.heap.size := (HBW4.out : Below w2.heap.size w2 _).size
        have hrb : W4.heap.size < (W4.alloc (.cells #[.int .i64 0, .int .u64 0, .int .i64 0, .int .u64 0, .int .i64 0, .int .i64 0, .int .u64 0, .slice none 0 0, .slice none 0 0, .int .i64 0, .int .u64 0, .slice none 0 0, .slice none 0 0] 44)).heap.size := by simp
        have X3a := hide (ag_past X3b.out a3)
        clear a3
        try dsimp only
        refine hK.out _ _ (fun _ => HBa.out) ?_
        clear hK K
        try simp only [Act.put, List.setIfInBounds_toArray, List.set_cons_zero, List.set_cons_succ]
        refine oneK (i := 4) (by kernel_rfl) rfl (fun K hK => ?_)
        go_simp
        refine (c_i_AggPut x OK.out OX.out SM.out HPL.out (HMx.out.past (chain HT2.out HBa.out)) X3a.out).mono ?_
        rintro e W5 ⟨v5, o, rfl, hM, ⟨q, rfl, hO⟩, hb⟩
        have HBW5 : Hid (Below w2.heap.size w2 W5) := (HBa.out : Below w2.heap.size w2 _).trans (hb.mono (HBa.out : Below w2.heap.size w2 _).size)
        have HM := hide hM
        have HO := hide hO
        have HRW5 : Hid (W5.heap[W4.heap.size]? = some (.cells #[.int .i64 0, .int .u64 0, .int .i64 0, .int .u64 0, .int .i64 0, .int .i64 0, .int .u64 0, .slice none 0 0, .slice none 0 0, .int .i64 0, .int .u64 0, .slice none 0 0, .slice none 0 0] 44 (0, 0))) := (hb.block _ hrb).trans HRa.out
        have hrc := (Array.getElem?_eq_some_iff.1 HRa.out).1
        have hbs := (HBa.out : Below w2.heap.size w2 _).size
        clear hM hO hb
        try dsimp only
        refine hK.out _ _ (fun _ => HBW5.out) ?_
        clear hK K
        try simp only [Act.put, List.setIfInBounds_toArray, List.set_cons_zero, List.set_cons_succ]
        have R5 := HRW5.out
        have q0 := cellK R5 0 rfl
        have q1 := cellK R5 1 rfl
        have q2 := cellK R5 2 rfl
        have q3 := cellK R5 3 rfl
        have q4 := cellK R5 4 rfl
        have q5 := cellK R5 5 rfl
        have q6 := cellK R5 6 rfl
        have q7 := cellK R5 7 rfl
        have q8 := cellK R5 8 rfl
        have q9 := cellK R5 9 rfl
        have q10 := cellK R5 10 rfl
        have q11 := cellK R5 11 rfl
        have q12 := cellK R5 12 rfl
        have f0 := frozen_of_row W5 (W4.heap.size) 0 _ _ R5
        have f1 := frozen_of_row W5 (W4.heap.size) 1 _ _ R5
        have f2 := frozen_of_row W5 (W4.heap.size) 2 _ _ R5
        have f3 := frozen_of_row W5 (W4.heap.size) 3 _ _ R5
        have f4 := frozen_of_row W5 (W4.heap.size) 4 _ _ R5
        have f5 := frozen_of_row W5 (W4.heap.size) 5 _ _ R5
        have f6 := frozen_of_row W5 (W4.heap.size) 6 _ _ R5
        have f7 := frozen_of_row W5 (W4.heap.size) 7 _ _ R5
        have f8 := frozen_of_row W5 (W4.heap.size) 8 _ _ R5
        have f9 := frozen_of_row W5 (W4.heap.size) 9 _ _ R5
        have f10 := frozen_of_row W5 (W4.heap.size) 10 _ _ R5
        have f11 := frozen_of_row W5 (W4.heap.size) 11 _ _ R5
        have f12 := frozen_of_row W5 (W4.heap.size) 12 _ _ R5
        refine oneK (i := 6) (by kernel_rfl) rfl (fun K hK => ?_)
        go_simp
        refine hK.out _ _ (fun h => absurd rfl h) ?_
        clear hK K
        try simp only [Act.put, List.setIfInBounds_toArray, List.set_cons_zero, List.set_cons_succ]
        refine doneK (by kernel_rfl) ?_ _
        clear q0 f0 q1 f1 q2 f2 q3 f3 q4 f4 q5 f5 q6 f6 q7 f7 q8 f8 q9 f9 q10 f10 q11 f11 q12 f12
        have HS13 := hide (st13_ok R5 HBW5.out hra HO.out hrc hbs)
        clear R5
        go_wp2
        exact HQ.out (W4.heap.size) o q _ _ _ _ _ _ HM.out HS13.out.1 HS13.out.2.2 hra HS13.out.2.1 (fun k e => Nat.ne_of_gt (Nat.lt_of_lt_of_le hrc (HO.out.lt e).1))
    · go_simp
      have a3 : Below W3.heap.size W3 (W3.alloc (.cells #[.int .i64 0, .int .u64 0, .int .i64 0, .int .u64 0, .int .i64 0, .int .i64 0, .int .u64 0, .slice none 0 0, .slice none 0 0, .int .i64 0, .int .u64 0, .slice none 0 0, .slice none 0 0] 44)) := (Below.refl _ _).alloc (Nat.le_refl _) _
      have HBa : Hid (Below w2.heap.size w2 (W3.alloc (.cells #[.int .i64 0, .int .u64 0, .int .i64 0, .int .u64 0, .int .i64 0, .int .i64 0, .int .u64 0, .slice none 0 0, .slice none 0 0, .int .i64 0, .int .u64 0, .slice none 0 0, .slice none 0 0] 44))) := ((HBW3.out : Below w2.heap.size w2 _).trans (a3.mono (HBW3.out : Below w2.heap.size w2 _).size))
      have HRa : Hid ((W3.alloc (.cells #[.int .i64 0, .int .u64 0, .int .i64 0, .int .u64 0, .int .i64 0, .int .i64 0, .int .u64 0, .slice none 0 0, .slice none 0 0, .int .i64 0, .int .u64 0, .slice none 0 0, .slice none 0 0] 44)).heap[W3.heap.size]? = some (.cells #[.int .i64 0, .int .u64 0, .int .i64 0, .int .u64 0, .int .i64 0, .int .i64 0, .int .u64 0, .slice none 0 0, .slice none 0 0, .int .i64 0, .int .u64 0, .slice none 0 0, .slice none 0 0] 44 (0, 0))) := (heap_alloc_new W3 (.cells #[.int .i64 0, .int .u64 0, .int .i64 0, .int .u64 0, .int .i64 0, .int .i64 0, .int .u64 0, .slice none 0 0, .slice none 0 0, .int .i64 0, .int .u64 0, .slice none 0 0, .slice none 0 0] 44) : _)
      have hra : w2.heap.size ≤ W3.heap.size := (HBW3.out : Below w2.heap.size w2 _).size
      have hrb : W3.heap.size < (W3.alloc (.cells #[.int .i64 0, .int .u64 0, .int .i64 0, .int .u64 0, .int .i64 0, .int .i64 0, .int .u64 0, .slice none 0 0, .slice none 0 0, .int .i64 0, .int .u64 0, .slice none 0 0, .slice none 0 0] 44)).heap.size := by simp
      have X3a := hide (ag_past X3.out a3)
      clear a3
      try dsimp only
      refine hK.out _ _ (fun _ => HBa.out) ?_
      clear hK K
      try simp only [Act.put, List.setIfInBounds_toArray, List.set_cons_zero, List.set_cons_succ]
      refine oneK (i := 3) (by kernel_rfl) rfl (fun K hK => ?_)
      go_simp
      refine (c_toSampleX x).mono ?_
      rintro e W4 ⟨rfl, hb⟩
      have HBW4 : Hid (Below w2.heap.size w2 W4) := (HBa.out : Below w2.heap.size w2 _).trans (hb.mono (HBa.out : Below w2.heap.size w2 _).size)
      have X3b := hide (ag_past X3a.out hb)
      have HRW4 : Hid (W4.heap[W3.heap.size]? = some (.cells #[.int .i64 0, .int .u64 0, .int .i64 0, .int .u64 0, .int .i64 0, .int .i64 0, .int .u64 0, .slice none 0 0, .slice none 0 0, .int .i64 0, .int .u64 0, .slice none 0 0, .slice none 0 0] 44 (0, 0))) := (hb.block _ hrb).trans HRa.out
      clear hb
      try dsimp only
      refine hK.out _ _ (fun _ => HBW4.out) ?_
      clear hK K
      try simp only [Act.put, List.setIfInBounds_toArray, List.set_cons_zero, List.set_cons_succ]
      refine oneK (i := 4) (by kernel_rfl) rfl (fun K hK => ?_)
      go_simp
      refine (c_i_AggPut x OK.out OX.out SM.out HPL.out (HMx.out.past (chain HT2.out HBW4.out)) X3b.out).mono ?_
      rintro e W5 ⟨v5, o, rfl, hM, ⟨q, rfl, hO⟩, hb⟩
      have HBW5 : Hid (Below w2.heap.size w2 W5) := (HBW4.out : Below w2.heap.size w2 _).trans (hb.mono (HBW4.out : Below w2.heap.size w2 _).size)
      have HM := hide hM
      have HO := hide hO
      have HRW5 : Hid (W5.heap[W3.heap.size]? = some (.cells #[.int .i64 0, .int .u64 0, .int .i64 0, .int .u64 0, .int .i64 0, .int .i64 0, .int .u64 0, .slice none 0 0, .slice none 0 0, .int .i64 0, .int .u64 0, .slice none 0 0, .slice none 0 0] 44 (0, 0))) := (hb.block _ (Array.getElem?_eq_some_iff.1 HRW4.out).1).trans HRW4.out
      have hrc := (Array.getElem?_eq_some_iff.1 HRW4.out).1
      have hbs := (HBW4.out : Below w2.heap.size w2 _).size
      clear hM hO hb
      try dsimp only
      refine hK.out _ _ (fun _ => HBW5.out) ?_
      clear hK K
      try simp only [Act.put, List.setIfInBounds_toArray, List.set_cons_zero, List.set_cons_succ]
      have R5 := HRW5.out
      have q0 := cellK R5 0 rfl
      have q1 := cellK R5 1 rfl
      have q2 := cellK R5 2 rfl
      have q3 := cellK R5 3 rfl
      have q4 := cellK R5 4 rfl
      have q5 := cellK R5 5 rfl
      have q6 := cellK R5 6 rfl
      have q7 := cellK R5 7 rfl
      have q8 := cellK R5 8 rfl
      have q9 := cellK R5 9 rfl
      have q10 := cellK R5 10 rfl
      have q11 := cellK R5 11 rfl
      have q12 := cellK R5 12 rfl
      have f0 := frozen_of_row W5 (W3.heap.size) 0 _ _ R5
      have f1 := frozen_of_row W5 (W3.heap.size) 1 _ _ R5
      have f2 := frozen_of_row W5 (W3.heap.size) 2 _ _ R5
      have f3 := frozen_of_row W5 (W3.heap.size) 3 _ _ R5
      have f4 := frozen_of_row W5 (W3.heap.size) 4 _ _ R5
      have f5 := frozen_of_row W5 (W3.heap.size) 5 _ _ R5
      have f6 := frozen_of_row W5 (W3.heap.size) 6 _ _ R5
      have f7 := frozen_of_row W5 (W3.heap.size) 7 _ _ R5
      have f8 := frozen_of_row W5 (W3.heap.size) 8 _ _ R5
      have f9 := frozen_of_row W5 (W3.heap.size) 9 _ _ R5
      have f10 := frozen_of_row W5 (W3.heap.size) 10 _ _ R5
      have f11 := frozen_of_row W5 (W3.heap.size) 11 _ _ R5
      have f12 := frozen_of_row W5 (W3.heap.size) 12 _ _ R5
      refine oneK (i := 6) (by kernel_rfl) rfl (fun K hK => ?_)
      go_simp
      refine hK.out _ _ (fun h => absurd rfl h) ?_
      clear hK K
      try simp only [Act.put, List.setIfInBounds_toArray, List.set_cons_zero, List.set_cons_succ]
      refine doneK (by kernel_rfl) ?_ _
      clear q0 f0 q1 f1 q2 f2 q3 f3 q4 f4 q5 f5 q6 f6 q7 f7 q8 f8 q9 f9 q10 f10 q11 f11 q12 f12
      have HS13 := hide (st13_ok R5 HBW5.out hra HO.out hrc hbs)
      clear R5
      go_wp2
      exact HQ.out (W3.heap.size) o q _ _ _ _ _ _ HM.out HS13.out.1 HS13.out.2.2 hra HS13.out.2.1 (fun k e => Nat.ne_of_gt (Nat.lt_of_lt_of_le hrc (HO.out.lt e).1))
  · go_simp
    have a3 : Below w2.drew.heap.size w2.drew (w2.drew.alloc (.cells #[.int .i64 0, .int .u64 0, .int .i64 0, .int .u64 0, .int .i64 0, .int .i64 0, .int .u64 0, .slice none 0 0, .slice none 0 0, .int .i64 0, .int .u64 0, .slice none 0 0, .slice none 0 0] 44)) := (Below.refl _ _).alloc (Nat.le_refl _) _
    have HBa : Hid (Below w2.heap.size w2 (w2.drew.alloc (.cells #[.int .i64 0, .int .u64 0, .int .i64 0, .int .u64 0, .int .i64 0, .int .i64 0, .int .u64 0, .slice none 0 0, .slice none 0 0, .int .i64 0, .int .u64 0, .slice none 0 0, .slice none 0 0] 44))) := ((HS0 : Below w2.heap.size w2 _).trans (a3.mono (HS0 : Below w2.heap.size w2 _).size))
    have HRa : Hid ((w2.drew.alloc (.cells #[.int .i64 0, .int .u64 0, .int .i64 0, .int .u64 0, .int .i64 0, .int .i64 0, .int .u64 0, .slice none 0 0, .slice none 0 0, .int .i64 0, .int .u64 0, .slice none 0 0, .slice none 0 0] 44)).heap[w2.heap.size]? = some (.cells #[.int .i64 0, .int .u64 0, .int .i64 0, .int .u64 0, .int .i64 0, .int .i64 0, .int .u64 0, .slice none 0 0, .slice none 0 0, .int .i64 0, .int .u64 0, .slice none 0 0, .slice none 0 0] 44 (0, 0))) := (heap_alloc_new w2.drew (.cells #[.int .i64 0, .int .u64 0, .int .i64 0, .int .u64 0, .int .i64 0, .int .i64 0, .int .u64 0, .slice none 0 0, .slice none 0 0, .int .i64 0, .int .u64 0, .slice none 0 0, .slice none 0 0] 44) : _)
    have hra : w2.heap.size ≤ w2.heap.size := (HS0 : Below w2.heap.size w2 _).size
    have hrb : w2.heap.size < (w2.drew.alloc (.cells #[.int .i64 0, .int .u64 0, .int .i64 0, .int .u64 0, .int .i64 0, .int .i64 0, .int .u64 0, .slice none 0 0, .slice none 0 0, .int .i64 0, .int .u64 0, .slice none 0 0, .slice none 0 0] 44)).heap.size := by simp
    clear a3
    try dsimp only
    refine hK.out _ _ (fun _ => HBa.out) ?_
    clear hK K
    try simp only [Act.put, List.setIfInBounds_toArray, List.set_cons_zero, List.set_cons_succ]
    refine oneK (i := 1) (by kernel_rfl) rfl (fun K hK => ?_)
    go_simp
    refine (c_toAgg SM.out (ag_past HA.out (chain HT2.out HBa.out))).mono ?_
    rintro e W3 ⟨gp, gn, ge, gr, rfl, _, _, _, _, _, ow, hb⟩
    have HBW3 : Hid (Below w2.heap.size w2 W3) := (HBa.out : Below w2.heap.size w2 _).trans (hb.mono (HBa.out : Below w2.heap.size w2 _).size)
    have X3 := hide ow.at
    have HPL := hide (plg_new (gp := gp) (gn := gn) (ge := ge) (gr := gr) SM.out)
    have HRW3 : Hid (W3.heap[w2.heap.size]? = some (.cells #[.int .i64 0, .int .u64 0, .int .i64 0, .int .u64 0, .int .i64 0, .int .i64 0, .int .u64 0, .slice none 0 0, .slice none 0 0, .int .i64 0, .int .u64 0, .slice none 0 0, .slice none 0 0] 44 (0, 0))) := (hb.block _ hrb).trans HRa.out
    clear ow hb
    try dsimp only
    refine hK.out _ _ (fun _ => HBW3.out) ?_
    clear hK K
    try simp only [Act.put, List.setIfInBounds_toArray, List.set_cons_zero, List.set_cons_succ]
    refine oneK (i := 3) (by kernel_rfl) rfl (fun K hK => ?_)
    go_simp
    refine (c_toSampleX x).mono ?_
    rintro e W4 ⟨rfl, hb⟩
    have HBW4 : Hid (Below w2.heap.size w2 W4) := (HBW3.out : Below w2.heap.size w2 _).trans (hb.mono (HBW3.out : Below w2.heap.size w2 _).size)
    have X3b := hide (ag_past X3.out hb)
    have HRW4 : Hid (W4.heap[w2.heap.size]? = some (.cells #[.int .i64 0, .int .u64 0, .int .i64 0, .int .u64 0, .int .i64 0, .int .i64 0, .int .u64 0, .slice none 0 0, .slice none 0 0, .int .i64 0, .int .u64 0, .slice none 0 0, .slice none 0 0] 44 (0, 0))) := (hb.block _ (Array.getElem?_eq_some_iff.1 HRW3.out).1).trans HRW3.out
    clear hb
    try dsimp only
    refine hK.out _ _ (fun _ => HBW4.out) ?_
    clear hK K
    try simp only [Act.put, List.setIfInBounds_toArray, List.set_cons_zero, List.set_cons_succ]
    refine oneK (i := 4) (by kernel_rfl) rfl (fun K hK => ?_)
    go_simp
    refine (c_i_AggPut x OK.out OX.out SM.out HPL.out (HMx.out.past (chain HT2.out HBW4.out)) X3b.out).mono ?_
    rintro e W5 ⟨v5, o, rfl, hM, ⟨q, rfl, hO⟩, hb⟩
    have HBW5 : Hid (Below w2.heap.size w2 W5) := (HBW4.out : Below w2.heap.size w2 _).trans (hb.mono (HBW4.out : Below w2.heap.size w2 _).size)
    have HM := hide hM
    have HO := hide hO
    have HRW5 : Hid (W5.heap[w2.heap.size]? = some (.cells #[.int .i64 0, .int .u64 0, .int .i64 0, .int .u64 0, .int .i64 0, .int .i64 0, .int .u64 0, .slice none 0 0, .slice none 0 0, .int .i64 0, .int .u64 0, .slice none 0 0, .slice none 0 0] 44 (0, 0))) := (hb.block _ (Array.getElem?_eq_some_iff.1 HRW4.out).1).trans HRW4.out
    have hrc := (Array.getElem?_eq_some_iff.1 HRW4.out).1
    have hbs := (HBW4.out : Below w2.heap.size w2 _).size
    clear hM hO hb
    try dsimp only
    refine hK.out _ _ (fun _ => HBW5.out) ?_
    clear hK K
    try simp only [Act.put, List.setIfInBounds_toArray, List.set_cons_zero, List.set_cons_succ]
    have R5 := HRW5.out
    have q0 := cellK R5 0 rfl
    have q1 := cellK R5 1 rfl
    have q2 := cellK R5 2 rfl
    have q3 := cellK R5 3 rfl
    have q4 := cellK R5 4 rfl
    have q5 := cellK R5 5 rfl
    have q6 := cellK R5 6 rfl
    have q7 := cellK R5 7 rfl
    have q8 := cellK R5 8 rfl
    have q9 := cellK R5 9 rfl
    have q10 := cellK R5 10 rfl
    have q11 := cellK R5 11 rfl
    have q12 := cellK R5 12 rfl
    have f0 := frozen_of_row W5 (w2.heap.size) 0 _ _ R5
    have f1 := frozen_of_row W5 (w2.heap.size) 1 _ _ R5
    have f2 := frozen_of_row W5 (w2.heap.size) 2 _ _ R5
    have f3 := frozen_of_row W5 (w2.heap.size) 3 _ _ R5
    have f4 := frozen_of_row W5 (w2.heap.size) 4 _ _ R5
    have f5 := frozen_of_row W5 (w2.heap.size) 5 _ _ R5
    have f6 := frozen_of_row W5 (w2.heap.size) 6 _ _ R5
    have f7 := frozen_of_row W5 (w2.heap.size) 7 _ _ R5
    have f8 := frozen_of_row W5 (w2.heap.size) 8 _ _ R5
    have f9 := frozen_of_row W5 (w2.heap.size) 9 _ _ R5
    have f10 := frozen_of_row W5 (w2.heap.size) 10 _ _ R5
    have f11 := frozen_of_row W5 (w2.heap.size) 11 _ _ R5
    have f12 := frozen_of_row W5 (w2.heap.size) 12 _ _ R5
    refine oneK (i := 6) (by kernel_rfl) rfl (fun K hK => ?_)
    go_simp
    refine hK.out _ _ (fun h => absurd rfl h) ?_
    clear hK K
    try simp only [Act.put, List.setIfInBounds_toArray, List.set_cons_zero, List.set_cons_succ]
    refine doneK (by kernel_rfl) ?_ _
    clear q0 f0 q1 f1 q2 f2 q3 f3 q4 f4 q5 f5 q6 f6 q7 f7 q8 f8 q9 f9 q10 f10 q11 f11 q12 f12
    have HS13 := hide (st13_ok R5 HBW5.out hra HO.out hrc hbs)
    clear R5
    go_wp2
    exact HQ.out (w2.heap.size) o q _ _ _ _ _ _ HM.out HS13.out.1 HS13.out.2.2 hra HS13.out.2.1 (fun k e => Nat.ne_of_gt (Nat.lt_of_lt_of_le hrc (HO.out.lt e).1))
set_option maxHeartbeats 16000000 in
theorem walkAggPut (g : Ag) (p : Pl) (x : Sx) (w : World) (ok : AgOk g) (ln : AgLen g) (hA : AgAt w g p) (ox : x.Ok) (hm : MX w) :
    Calls Tryz.prog 3 #[.agg (agArr g p), .agg (sxArr x)] w fun e w' => e = .returned (.bool true) ∧ Below w.heap.size w w' := by
  have HA := hide hA
  have OK := hide ok
  have OX := hide ox
  have LN := hide ln
  have HMx := hide hm
  have HAl : Hid (∀ (W : World) x, Below W.heap.size W (W.alloc x)) := fun W x => (Below.refl _ _).alloc (Nat.le_refl _) _
  clear hA ok ox ln hm
  obtain ⟨HT0, K0, HJ0, HSZ⟩ := box_law w g p x
  go_enter Tryz.func3, Tryz.ntmps3
  go_wp2_with fail
  generalize (w.alloc (Obj.cells (agArr g p) 33)).alloc (Obj.cells (sxArr x) 35) = W0 at HT0 K0 HJ0 HSZ ⊢
  refine (c_szAgg g p _ (by omega) (by omega) LN.out _).mono ?_
  rintro e w1 ⟨v, rfl, hv, hsm, hb1⟩
  have HT1 := hide (chain HT0.out hb1)
  have K1 := agc_past K0 hb1
  have HJ1 := hide ((hb1.block (w.heap.size + 1) (by have := HSZ.out; omega)).trans HJ0.out)
  have HS1 : Hid (w.heap.size + 2 ≤ w1.heap.size) := by have := hb1.size; have := HSZ.out; show _ ≤ _; omega
  clear hb1 K0 HJ0
  by_cases hv0 : v < 0
  · clear hsm
    go_wp2
    go_ret
    exact ⟨rfl, HT1.out⟩
  obtain ⟨v0, sm⟩ := hsm hv0
  have SM := hide sm
  clear hsm sm
  obtain ⟨y0, y1, y2, y3, y4, y5, y6⟩ := sx_cells HJ1.out
  go_wp2_with fail
  clear y0 y1 y2 y3 y4 y5 y6
  refine (c_szSampleX x OX.out v (by omega) (by omega)).mono ?_
  rintro e w2 ⟨v', rfl, hb2⟩
  have HT2 := hide (chain HT1.out hb2)
  have K2 := agc_past K1 hb2
  have HJ2 := hide ((hb2.block (w.heap.size + 1) (by have := HS1.out; omega)).trans HJ1.out)
  have HS2 : Hid (w.heap.size + 2 ≤ w2.heap.size) := by have := hb2.size; have := HS1.out; show _ ≤ _; omega
  clear hb2 K1 HJ1
  by_cases hv0' : v' < 0
  · go_wp2
    go_ret
    exact ⟨rfl, HT2.out⟩
  have hK2 : ∀ W, Below w2.heap.size w2 W → AgCell W w.heap.size g p ∧ W.heap[w.heap.size + 1]? = some (.cells (sxArr x) 35 (0, 0)) := fun W hW => ⟨agc_past K2 hW, (hW.block _ (by have := HS2.out; omega)).trans HJ2.out⟩
  have HK2 := hide hK2
  clear hK2 K2 HJ2
  go_upto_region 8 with fail
  go_cut [6] (fun v w' => ∃ (b : Nat) (o : Ag) (q : Pl), v = .pointer (some ⟨b, 0, none⟩) ∧ Hid (AgPut g x o) ∧ Hid (w'.heap[b]? = some (.cells (agArr o q) 44 (0, 0))) ∧ Hid (AgO w' w2.heap.size o q) ∧ w2.heap.size ≤ b ∧ Hid (Below w2.heap.size w2 w') ∧ Hid (∀ k, AgBlk o q k → k ≠ b))
  case first =>
    refine regPS OK.out OX.out SM.out HA.out HT2.out HMx.out HK2.out (fun b o q X y0 y1 y2 y3 y4 hM hR hO hb hB hN => ?_)
    go_wp2
    go_meet
    exact ⟨b, o, q, rfl, hide hM, hide hR, hide hO, hb, hide hB, hide hN⟩
  case rest =>
    obtain ⟨b0, o, q0, rfl, HM, HRw, HOw, hb0, HBX, _⟩ := hcut
    obtain ⟨X, hXX⟩ : ∃ X, wc = X := ⟨_, rfl⟩
    rw [hXX] at HRw HOw HBX ⊢
    clear hXX
    have SO := hide (put_sm HM.out SM.out)
    have HTX := hide (chain HT2.out HBX.out)
    have zX := HBX.out.size
    have zb0 := (Array.getElem?_eq_some_iff.1 HRw.out).1
    obtain ⟨K3, _⟩ := HK2.out X HBX.out
    go_wp2_with fail
    refine (c_toAgg SM.out (ag_past HA.out HTX.out)).mono ?_
    rintro e w4 ⟨gp, gn, ge, gr, rfl, q1, q2, q3, q4, q5, ow, hb4⟩
    have HB4 := hide hb4
    have HT4 := hide (chain HTX.out hb4)
    have HX4 := hide (ow.o q2)
    have HPL : Hid (PlG g (plNew g gp gn ge gr)) := plg_new SM.out
    have z34 := hb4.size
    obtain ⟨px, hpx⟩ : ∃ px, plNew g gp gn ge gr = px := ⟨_, rfl⟩
    have epx : Value.agg (agArr g (plNew g gp gn ge gr)) = .agg (agArr g px) := by rw [hpx]
    rw [hpx] at HX4 HPL
    rw [epx]
    have hK4 : ∀ W, Below (w4.alloc (.cells (agArr g px) 44)).heap.size (w4.alloc (.cells (agArr g px) 44)) W → AgCell W w4.heap.size g px ∧ W.heap[w.heap.size + 1]? = some (.cells (sxArr x) 35 (0, 0)) := fun W hW => ⟨agc_past (agc_new w4 _ _ _) hW, (HK2.out W (chain HBX.out (chain (chain hb4 (HAl.out _ _)) hW))).2⟩
    have HK4 := hide hK4
    have HA4 := hide (HAl.out w4 (.cells (agArr g px) 44))
    have HKg : Hid (∀ W, Below (w4.alloc (.cells (agArr g px) 44)).heap.size (w4.alloc (.cells (agArr g px) 44)) W → AgCell W w.heap.size g p) := fun W hW => (HK2.out W (chain HBX.out (chain (chain hb4 (HAl.out _ _)) hW))).1
    have z4z : (w4.alloc (.cells (agArr g px) 44)).heap.size = w4.heap.size + 1 := by simp
    clear hb4 ow K3 hpx epx q1 q2 q3 q4 q5 hK4
    go_upto_region 10 with fail
    generalize w4.alloc (.cells (agArr g px) 44) = w5 at HK4 HA4 HKg z4z ⊢
    have HT5 := hide (chain HT4.out HA4.out)
    go_cut [8] (fun v w' => ∃ (b : Nat) (o : Ag) (q : Pl), v = .pointer (some ⟨b, 0, none⟩) ∧ Hid (AgPut g x o) ∧ Hid (w'.heap[b]? = some (.cells (agArr o q) 44 (0, 0))) ∧ Hid (AgO w' w5.heap.size o q) ∧ w5.heap.size ≤ b ∧ Hid (Below w5.heap.size w5 w') ∧ Hid (∀ k, AgBlk o q k → k ≠ b))
    case first =>
      refine regPG OK.out OX.out SM.out (ag_past HX4.out.at HA4.out) HPL.out HT5.out HMx.out HK4.out (fun b o q X y0 y1 y2 y3 hM hR hO hb hB hN => ?_)
      go_wp2
      go_meet
      exact ⟨b, o, q, rfl, hide hM, hide hR, hide hO, hb, hide hB, hide hN⟩
    case rest =>
      obtain ⟨b8, o8, qg, rfl, HM8, HR8, HO8, hb8, HB6, HN8⟩ := hcut
      obtain ⟨w6, hw6⟩ : ∃ w6, wc = w6 := ⟨_, rfl⟩
      rw [hw6] at HR8 HO8 HB6 ⊢
      clear hw6
      obtain rfl := HM8.out.one HM.out
      have HT6 := hide (chain HT5.out HB6.out)
      have z56 := HB6.out.size
      have zb8 := (Array.getElem?_eq_some_iff.1 HR8.out).1
      have HB46 := hide (chain HA4.out HB6.out)
      have HBX6 := hide (chain HB4.out HB46.out)
      have V6 := agc_past (agc_row HRw.out) HBX6.out
      have Z6 := agc_row HR8.out
      go_wp2_with fail
      refine (c_eqAgg (g := o8) SO.out HO8.out.at (ag_past HOw.out.at HBX6.out)).mono ?_
      rintro e w7 ⟨rfl, hb7⟩
      have HB7 := hide hb7
      have HT7 := hide (chain HT6.out hb7)
      have HV7 := hide (agc_past V6 hb7)
      have HZ7 := hide (agc_past Z6 hb7)
      have HB67 := hide (chain HB6.out hb7)
      have HC57 := hide (chain HB46.out hb7)
      have z67 := hb7.size
      have HK7 : Hid (∀ W, Below w7.heap.size w7 W → AgCell W w.heap.size g p ∧ AgCell W w4.heap.size g px) := fun W hW => ⟨HKg.out W (chain HB67.out hW), (HK4.out W (chain HB67.out hW)).1⟩
      clear hb7 V6 Z6
      go_upto_region 13 with fail
      go_cut [42] (fun v w' => v = .bool false ∧ Hid (Below w7.heap.size w7 w'))
      case first =>
        have HS0 : (fun Y => Below w7.heap.size w7 Y) w7.drew := (Below.refl _ _).drew
        refine regionK (fun Y => Below w7.heap.size w7 Y) 5 (by kernel_rfl) ?_
        refine takeK (i := 0) (d := 38) (v := .agg (agArr g px)) rfl rfl (by kernel_rfl) (by kernel_rfl) (by kernel_rfl) (by decide) (by kernel_rfl) (fun _ _ _ h => h) (Or.inl ⟨by rfl, fun Y hY => ?_⟩) HS0 ?_
        · obtain ⟨⟨x0, x1, x2, x3, x4, x5, x6, x7, x8, x9, x10, x11, x12⟩, ⟨a0, a1, a2, a3, a4, a5, a6, a7, a8, a9, a10, a11, a12⟩⟩ := HK7.out Y hY
          clear hY
          go_simp
        simp only [List.setIfInBounds_toArray, List.set_cons_zero, List.set_cons_succ]
        refine takeK (i := 1) (d := 39) (v := .agg (agArr g p)) rfl rfl (by kernel_rfl) (by kernel_rfl) (by kernel_rfl) (by decide) (by kernel_rfl) (fun _ _ _ h => h) (Or.inl ⟨by rfl, fun Y hY => ?_⟩) HS0 ?_
        · obtain ⟨⟨x0, x1, x2, x3, x4, x5, x6, x7, x8, x9, x10, x11, x12⟩, ⟨a0, a1, a2, a3, a4, a5, a6, a7, a8, a9, a10, a11, a12⟩⟩ := HK7.out Y hY
          clear hY
          go_simp
        simp only [List.setIfInBounds_toArray, List.set_cons_zero, List.set_cons_succ]
        refine oneK (i := 2) (by kernel_rfl) rfl (fun K hK => ?_)
        go_simp
        refine (c_toAgg SM.out (ag_past HA.out (chain HT7.out HS0))).mono ?_
        rintro e Y3 ⟨_, _, _, _, rfl, _, _, _, _, _, ow, hb⟩
        have HB3 : Hid (Below w7.heap.size w7 Y3) := (HS0 : Below w7.heap.size w7 _).trans (hb.mono (Nat.le_refl _))
        have X3 := hide ow.at
        clear ow hb
        try dsimp only
        refine hK.out _ _ (fun _ => HB3.out) ?_
        clear hK K
        try simp only [Act.put, List.setIfInBounds_toArray, List.set_cons_zero, List.set_cons_succ]
        refine oneK (i := 3) (by kernel_rfl) rfl (fun K hK => ?_)
        go_simp
        refine (c_eqAgg (g := g) SM.out (ag_past HX4.out.at (chain HC57.out HB3.out)) X3.out).mono ?_
        rintro e Y4 ⟨rfl, hb⟩
        have HBe := hide (chain HB3.out hb)
        clear hb
        try dsimp only
        refine hK.out _ _ (fun _ => HBe.out) ?_
        clear hK K
        try simp only [Act.put, List.setIfInBounds_toArray, List.set_cons_zero, List.set_cons_succ]
        refine takeK (i := 4) (d := 42) (v := .bool false) rfl rfl (by kernel_rfl) (by kernel_rfl) (by kernel_rfl) (by decide) (by kernel_rfl) (fun _ _ _ h => h) (Or.inl ⟨by rfl, fun Y hY => ?_⟩) HBe.out ?_
        · clear hY
          go_simp
        simp only [List.setIfInBounds_toArray, List.set_cons_zero, List.set_cons_succ]
        refine doneK (by kernel_rfl) ?_ _
        go_wp2
        go_meet
        exact ⟨rfl, HBe⟩
      case rest =>
        obtain ⟨rfl, HB8⟩ := hcut
        obtain ⟨w9, hw9⟩ : ∃ w9, wc = w9 := ⟨_, rfl⟩
        rw [hw9] at HB8 ⊢
        clear hw9
        obtain ⟨K9, X9⟩ := HK7.out w9 HB8.out
        have J9 := (HK4.out w9 (chain HB67.out HB8.out)).2
        have V9 := agc_past HV7.out HB8.out
        have Z9 := agc_past HZ7.out HB8.out
        have HT9 := hide (chain HT7.out HB8.out)
        have HC59 := hide (chain HC57.out HB8.out)
        have HE9 := hide (chain HB4.out HC59.out)
        have HD9 := hide (chain HB7.out HB8.out)
        have z89 := HB8.out.size
        have zT := HT2.out.size
        have zS := HS2.out
        have zwX := HTX.out.size
        clear HK7 HV7 HZ7 HK4 HKg
        have HbX : Hid (∀ k, AgBlk g px k → X.heap.size ≤ k ∧ k < w4.heap.size) := fun k e => HX4.out.lt e
        have HbW : Hid (∀ k, AgBlk o8 q0 k → w2.heap.size ≤ k ∧ k < X.heap.size) := fun k e => HOw.out.lt e
        have HbG : Hid (∀ k, AgBlk o8 qg k → w5.heap.size ≤ k ∧ k < w6.heap.size) := fun k e => HO8.out.lt e
        have HnG : Hid (∀ k, AgBlk o8 qg k → k ≠ b8) := HN8
        go_wp2_with fail
        refine (c_markAgg 1 (by omega) (by omega) SM.out (HX4.out.past HC59.out)).mono ?_
        rintro e w10 ⟨rfl, _, hg10⟩
        obtain ⟨k10, hk10⟩ : ∃ k, 1 + mkL g = k := ⟨_, rfl⟩
        rw [hk10]
        have d10 : decide ((k10 : Int) < 0) = false := decide_eq_false (by omega)
        have K10 := agc_keptS K9 hg10 (fun e => by have := HbX.out _ e; omega)
        have HJ10 := hide (hg10.row J9 (fun e => by have := HbX.out _ e; omega))
        have V10 := agc_keptS V9 hg10 (fun e => by have := HbX.out _ e; omega)
        have Z10 := agc_keptS Z9 hg10 (fun e => by have := HbX.out _ e; omega)
        have HW10 := hide ((HOw.out.past HE9.out).keptS hg10 (fun k e q => by have := HbW.out k e; have := HbX.out k q; omega))
        have HG10 := hide ((HO8.out.past HD9.out).keptS hg10 (fun k e q => by have := HbG.out k e; have := HbX.out k q; omega))
        have HT10 := hide (GrownS.below HT9.out HT9.out.size hg10 (fun k e => by have := HbX.out k e; omega))
        have z910 := hg10.size
        clear hg10 hk10 K9 J9 V9 X9 Z9
        go_wp2_with fail
        refine (c_eqAgg (g := o8) SO.out HG10.out.at HW10.out.at).mono ?_
        rintro e w12 ⟨rfl, hb12⟩
        have HB12 := hide hb12
        have HT12 := hide (chain HT10.out hb12)
        have K12 := agc_past K10 hb12
        have HJ12 := hide ((hb12.block _ (Array.getElem?_eq_some_iff.1 HJ10.out).1).trans HJ10.out)
        have V12 := agc_past V10 hb12
        have Z12 := agc_past Z10 hb12
        have z1112 := hb12.size
        clear hb12 K10 V10 Z10 HJ10
        go_wp2_with fail
        refine (c_markAgg 1 (by omega) (by omega) SO.out (HG10.out.past HB12.out)).mono ?_
        rintro e w13 ⟨rfl, hm13, hg13⟩
        obtain ⟨k13, hk13⟩ : ∃ k, 1 + mkL o8 = k := ⟨_, rfl⟩
        rw [hk13]
        have HK13 := hide hk13
        have d13 : decide ((k13 : Int) < 0) = false := decide_eq_false (by omega)
        have K13 := agc_keptS K12 hg13 (fun e => by have := HbG.out _ e; omega)
        have HJ13 := hide (hg13.row HJ12.out (fun e => by have := HbG.out _ e; omega))
        have V13 := agc_keptS V12 hg13 (fun e => by have := HbG.out _ e; omega)
        have Z13 := agc_keptS Z12 hg13 (fun e => absurd rfl (HnG.out _ e))
        have HW13 := hide ((HW10.out.past HB12.out).keptS hg13 (fun k e q => by have := HbW.out k e; have := HbG.out k q; omega))
        have HT13 := hide (GrownS.below HT12.out HT12.out.size hg13 (fun k e => by have := HbG.out k e; omega))
        have HM13 := hide hm13
        have z1213 := hg13.size
        clear hg13 hk13 hm13 K12 V12 Z12 HG10 HJ12
        go_wp2_with fail
        refine (c_heldAgg 1 (by omega) (by omega) SO.out HM13.out).mono ?_
        rintro e w14 ⟨rfl, hb14⟩
        rw [HK13.out]
        have HB14 := hide hb14
        have HT14 := hide (chain HT13.out hb14)
        have HV14 := hide (agc_past V13 hb14)
        have HZ14 := hide (agc_past Z13 hb14)
        have K14 := agc_past K13 hb14
        have HJ14 := hide ((hb14.block _ (Array.getElem?_eq_some_iff.1 HJ13.out).1).trans HJ13.out)
        have zJ := (Array.getElem?_eq_some_iff.1 HJ14.out).1
        have HK14 : Hid (∀ W, Below w14.heap.size w14 W → AgCell W w.heap.size g p ∧ W.heap[w.heap.size + 1]? = some (.cells (sxArr x) 35 (0, 0))) := fun W hW => ⟨agc_past K14 hW, (hW.block _ zJ).trans HJ14.out⟩
        clear hb14 K13 V13 Z13 K14 HJ13 zJ
        go_upto_region 27 with fail
        go_cut [12] (fun v w' => ∃ (b : Nat) (o : Ag) (q : Pl), v = .pointer (some ⟨b, 0, none⟩) ∧ Hid (AgPut g x o) ∧ Hid (w'.heap[b]? = some (.cells (agArr o q) 44 (0, 0))) ∧ Hid (AgO w' w14.heap.size o q) ∧ w14.heap.size ≤ b ∧ Hid (Below w14.heap.size w14 w') ∧ Hid (∀ k, AgBlk o q k → k ≠ b))
        case first =>
          refine regPI OK.out OX.out SM.out HA.out HT14.out HMx.out HK14.out (fun b o q X y0 y1 y2 y3 y4 hM hR hO hb hB hN => ?_)
          go_wp2
          go_meet
          exact ⟨b, o, q, rfl, hide hM, hide hR, hide hO, hb, hide hB, hide hN⟩
        case rest =>
          obtain ⟨b1, o1, q1, rfl, HM1, HR1, HO1, hb1, HB15, _⟩ := hcut
          obtain rfl := HM1.out.one HM.out
          have V15 := agc_past HV14.out HB15.out
          have Z15 := agc_past HZ14.out HB15.out
          have H15 := agc_row HR1.out
          have HT15 := hide (chain HT14.out HB15.out)
          go_wp2_with fail
          refine (c_eqAgg (g := o1) SO.out HO1.out.at ((HW13.out.past (chain HB14.out HB15.out))).at).mono ?_
          rintro e w16 ⟨rfl, hb16⟩
          have HT16 := hide (chain HT15.out hb16)
          have HB16 := hide (chain (chain HB14.out HB15.out) hb16)
          have Z16 := agc_past Z15 hb16
          clear hb16 V15 Z15 H15
          go_wp2_with fail
          refine (c_heldAgg 1 (by omega) (by omega) SO.out (HM13.out.past HB16.out)).mono ?_
          rintro e w17 ⟨rfl, hb17⟩
          rw [HK13.out]
          have HT17 := hide (chain HT16.out hb17)
          clear hb17
          go_wp2
          go_ret
          exact ⟨rfl, HT17.out⟩

set_option maxRecDepth 100000
theorem own : ownKnob Tryz.prog.godebug = none := by kernel_rfl
theorem laidOut : laidOutB Tryz.prog = true := by kernel_rfl
theorem liftedAggPut (os : Os) (started : os.Started) (H : Type) (enc : TypeId × Value → H) :
    ReturnsInHanded {} Tryz.checked os 3 .any (fun w args => (Rows.fnExactAggPutSpec.pre enc Tryz.prog Tryz.f3 [] false w args ∧ laidMetH Tryz.prog Rows.fnExactAggPutRow.laid w) ∧ sizedMet enc Tryz.prog Tryz.f3 (OpenSpec.ofChange Rows.fnExactAggPutSpec) false w args)
      (Rows.fnExactAggPutSpec.post enc Tryz.prog Tryz.f3 false true false false) := by
  refine handed_shaped (C := Tryz.checked) (L := Rows.fnExactAggPutRow.laid) own started (by kernel_rfl) Tryz.func3
    (ChangeSpec.witness_shaped (enc := enc) (C := Tryz.checked) (os := os) (X := fun w _ => laidMetH Tryz.prog Rows.fnExactAggPutRow.laid w) false (World.laidAll Tryz.prog os Rows.fnExactAggPutRow.laid) #[.agg #[.int .i64 0, .int .u64 0, .int .i64 0, .int .u64 0, .int .i64 0, .int .i64 0, .int .u64 0, .slice none 0 0, .slice none 0 0, .int .i64 0, .int .u64 0, .slice none 0 0, .slice none 0 0], .agg #[.int .i64 0, .string ByteArray.empty, .int .i64 0, .string ByteArray.empty, .int .u64 0, .bool false, .int .i64 0]] 8 (World.laidAll_os _ _ _)
      (World.shaped_of_ZipB (by kernel_rfl) (by kernel_rfl)) (by kernel_rfl) (by kernel_rfl) (by kernel_rfl)
      (by rw [MakeChecks.laidMetH_plain _ _ _ (by kernel_rfl)]; exact laidMet_laidAll _ (by kernel_rfl) (by kernel_rfl))) ?_
  intro W base args ds gs before hval0 hW hL hsh
  have hval : ∀ (j : Nat) t v, Tryz.f3.params[j]? = some t → args[j]? = some v → Value.okWide Tryz.prog W .any base t v := hval0
  have hW' := hW
  obtain ⟨p, q, hA0, hV, rfl, hfz, hnd⟩ := hW
  have hA : DataW.TrodAll enc Tryz.prog W 0 (fun _ => true) true Tryz.f3.params.toList args.toList ds p := hA0
  rw [Tryz.params3] at hA hval
  obtain ⟨v0, vs0, d0, ds0, p0, q0, hargs, rfl, rfl, h0, r0⟩ := trodAll_cons hA
  obtain ⟨v1, vs1, d1, ds1, p1, q1, rfl, rfl, rfl, h1, r1⟩ := trodAll_cons r0
  obtain ⟨rfl, rfl, rfl⟩ := trodAll_nil r1
  obtain rfl : args = #[v0, v1] := by cases args; simp_all
  obtain ⟨rfl, rfl⟩ := trodVars_none hV
  have k0 := h0
  have lt0 : ∀ x ∈ p0, x.block < W.heap.size := by obtain ⟨m, hm⟩ := k0; exact DataW.trod_lt m _ _ _ hm
  obtain ⟨g0, pl0, rfl, ok0, ln0, at0⟩ := open_agg (hval 0 33 v0 rfl rfl) h0
  have k1 := h1
  have lt1 : ∀ x ∈ p1, x.block < W.heap.size := by obtain ⟨m, hm⟩ := k1; exact DataW.trod_lt m _ _ _ hm
  obtain ⟨x1, rfl, ox1⟩ := open_sampleX (hval 1 35 v1 rfl rfl) h1
  clear hA0 hval0
  refine (walkAggPut g0 pl0 x1 W ok0 ln0 at0 ox1 (mx_of hsh)).mono fun e W' ⟨he, bel⟩ => ?_
  subst he
  exact ⟨_, rfl, _, _, _, [], _, [], hW', trodAll_mk1 (shut_bool Tryz.underlying4 _), (trodAll_cons_mk (Below.trod laidOut (by kernel_rfl) (of_decide_eq_true (by kernel_rfl)) k0 bel lt0) (trodAll_cons_mk (Below.trod laidOut (by kernel_rfl) (of_decide_eq_true (by kernel_rfl)) k1 bel lt1) trodAll_mk0)), rfl, bel.frame _, fun h => by cases h⟩

theorem saidAggPut : Rows.FnExactAggPutSaid :=
  OpenClaim.holds_of_wide 3 Tryz.f3 rfl rfl rfl rfl rfl rfl rfl ⟨rfl, rfl, rfl, rfl, rfl⟩ rfl rfl rfl rfl rfl (by kernel_rfl) Tryz.func3 (by kernel_rfl)
    (of_decide_eq_true (by kernel_rfl)) (by unfold Func.isWrapper; first | (rw [if_pos (by decide +kernel)]; kernel_rfl) | (rw [if_neg (by decide +kernel)]; exact ⟨rfl, rfl⟩))
    (fun os started H enc _ => liftedAggPut os started H enc)

/-- No parameter wants a stand-in; the program's own looks are off. -/
theorem plainAggPut (f : FuncId) (fn : Func) (hf : Tryz.pinned.checked.prog.funcNamed Rows.fnExactAggPutRow.func = some f) (hfn : Tryz.pinned.checked.prog.funcs[f]? = some fn) :
    Rows.fnExactAggPutCard.stood.looks = Tryz.pinned.checked.prog.looks [] ∧ ∀ (j : Nat) t, fn.params[j]? = some t → Tryz.pinned.checked.prog.wantsStandIn t = false := by
  obtain rfl : f = 3 := Option.some.inj ((show Tryz.prog.funcNamed Rows.fnExactAggPutRow.func = some 3 by kernel_rfl).symm.trans hf) |>.symm
  obtain rfl : fn = Tryz.f3 := (Option.some.inj (Tryz.func3.symm.trans hfn)).symm
  refine ⟨by kernel_rfl, fun j t ht => ?_⟩
  rw [Tryz.params3] at ht
  have ht2 := Array.mem_of_getElem? ht
  simp only [List.mem_toArray, List.mem_cons, List.not_mem_nil, or_false] at ht2
  rcases ht2 with rfl | rfl
  · exact (show Tryz.prog.wantsStandIn 33 = false by kernel_rfl)
  · exact (show Tryz.prog.wantsStandIn 35 = false by kernel_rfl)

theorem fnExactAggPut_card : Rows.FnExactAggPutCardSaid :=
  Claim7.holds_tied_plain_at .later [] _ _ _ _ saidAggPut (fun _ h => by cases h) (by kernel_rfl) (fun _ h => by cases h) fnExactAggPut_row_tie rfl ⟨rfl, rfl⟩ (by kernel_rfl) rfl plainAggPut (by kernel_rfl)
#print axioms fnExactAggPut_card
end Go.Proofs.YteencdjpfkkpnaaGreatDoor
