/-
  The walk of the law FnExactShardTake.
-/
import Derived.Test.YthpilcoklapooaaGreatDoorCR
import Derived.Test.YthpilcoklapooaaGreatDoorKG
import Derived.Deep.DeepCutAuto
namespace Go.Proofs.YthpilcoklapooaaGreatDoor
set_option linter.unusedVariables false
set_option linter.unusedSimpArgs false
open Go.ChangeShapes Go.WideShapes Go.ChangeAt Go.RowKit Go.PlainAid Go.Lib
set_option maxRecDepth 10000

/-- Lists that are owned lie as both sides ask. -/
theorem AgO.plgX {w : World} {B : Nat} {g : Ag} {p : Pl} (h : AgO w B g p) : PlG g p := by
  have fb : ∀ {ao : Option Addr} {n c : Nat} {L : List Bn}, OwnB w B (.slice ao n c) n L → ao = none → c = 0 := fun {ao n c L} o e => by
    rcases o.2 with ⟨q, _⟩ | ⟨b, off, c', cur, q, _⟩
    · cases q; rfl
    · cases q; cases e
  have fn : ∀ {kd : IntKind} {T : TypeId} {ao : Option Addr} {n c : Nat} {L : List Int}, OwnN kd T w B (.slice ao n c) n L → (ao = none → c = 0) ∧ Flat ao ∧ n ≤ c ∧ c ≤ maxLen := fun {kd T ao n c L} o => by
    rcases o.2.2 with ⟨q, q0⟩ | ⟨b, c', cur, q, _, _, q1, q2, _⟩
    · cases q; exact ⟨fun _ => rfl, .inl rfl, Nat.le_refl _, Nat.zero_le _⟩
    · cases q; exact ⟨(fun e => by cases e), .inr ⟨_, _, rfl⟩, q1, q2⟩
  exact ⟨fb h.P, fb h.N, (fn h.E).1, (fn h.R).1, (fn h.E).2.1, (fn h.R).2.1, (fn h.E).2.2.1, (fn h.E).2.2.2⟩
/-- What is asked of cells, whichever copy. -/
structure CeQ (L : List Ce) : Prop where
  ok : ∀ c ∈ L, AgOk c.g
  sm : ∀ c ∈ L, AgSm c.g
  ss : ∀ c ∈ L, c.s.size ≤ maxLen
theorem CeQ.key {L M : List Ce} (h : CeQ L) (k : M.map Ce.key = L.map Ce.key) : CeQ M := by
  refine ⟨fun c hc => ?_, fun c hc => ?_, fun c hc => ?_⟩
  · obtain ⟨d, hd, e1, e2, e3⟩ := key_mem k hc
    rw [← e3]; exact h.ok d hd
  · obtain ⟨d, hd, e1, e2, e3⟩ := key_mem k hc
    rw [← e3]; exact h.sm d hd
  · obtain ⟨d, hd, e1, e2, e3⟩ := key_mem k hc
    rw [← e2]; exact h.ss d hd
theorem ShI.of {w : World} {g N : Nat} {L M : List Ce} (q : CeQ L) (k : M.map Ce.key = L.map Ce.key) (hN : M.length = N) (lN : N ≤ 1048576) (r : OwnC w g (.slice (some ⟨g, 0, none⟩) N N) M) (o : CesO w g M) : ShI w (some ⟨g, 0, none⟩) N M := by
  have q2 := q.key k
  exact ⟨hN, lN, q2.ok, q2.sm, q2.ss, fun c hc => (o.o c hc).plgX, OwnC.at r o.at⟩
theorem totC_key : ∀ {L M : List Ce}, M.map Ce.key = L.map Ce.key → totC M = totC L
  | [], [], _ => rfl
  | c :: L, d :: M, h => by
    simp only [List.map_cons, List.cons.injEq] at h
    obtain ⟨q, rfl⟩ := key_eq h.1
    unfold totC
    rw [totC_key h.2]
    rfl
  | [], _ :: _, h => by simp at h
  | _ :: _, [], h => by simp at h
theorem totC_parts (L : List Ce) (f : Ce → Bool) : totC (L.filter (fun c => !f c)) + totC (L.filter f) = totC L := by
  induction L with
  | nil => rfl
  | cons c L ih =>
    cases q : f c <;> simp [List.filter_cons, q, totC] <;> omega
theorem shB_key {nm : ByteArray} {L M : List Ce} (k : M.map Ce.key = L.map Ce.key) : shB nm M = shB nm L := by
  unfold shB; rw [csR_key k]
theorem TkA.key {nm nm' : ByteArray} {L M R O : List Ce} {win code : Int} (h : TkA nm M win nm' R O code) (k : M.map Ce.key = L.map Ce.key) : TkA nm L win nm' R O code := by
  obtain ⟨q1, q2⟩ := filter_key (win := win) k
  unfold TkA at h ⊢
  rw [shB_key k, q1, q2] at h
  exact h
theorem TkA.same {nm n1 n2 : ByteArray} {L R1 O1 R2 O2 : List Ce} {win c1 c2 : Int} (h : TkA nm L win n1 R1 O1 c1) (k : TkA nm L win n2 R2 O2 c2) : n1 = n2 ∧ R1.map Ce.key = R2.map Ce.key ∧ O1.map Ce.key = O2.map Ce.key ∧ c1 = c2 := by
  unfold TkA at h k
  split at h
  · rename_i q
    rw [if_pos q] at k
    exact ⟨h.1.trans k.1.symm, h.2.1.trans k.2.1.symm, h.2.2.1.trans k.2.2.1.symm, h.2.2.2.trans k.2.2.2.symm⟩
  · rename_i q
    rw [if_neg q] at k
    exact ⟨h.1.trans k.1.symm, by rw [h.2.1, k.2.1], by rw [h.2.2.1, k.2.2.1], h.2.2.2.trans k.2.2.2.symm⟩
structure AnB (R O : List Ce) : Prop where
  l1 : R.length ≤ 1048576
  l2 : O.length ≤ 1048576
  s1 : ∀ c ∈ R, AgSm c.g
  s2 : ∀ c ∈ O, AgSm c.g
  t : 1 + totC R + totC O ≤ 50000000
theorem TkA.bounds {nm nm' : ByteArray} {L R O : List Ce} {win code : Int} (h : TkA nm L win nm' R O code) (hl : L.length + ceTot L ≤ 1048576) (q : CeQ L) : AnB R O := by
  unfold TkA at h
  split at h
  · obtain ⟨_, h1, h2, _⟩ := h
    have sub : ∀ f : Ce → Bool, CeQ (L.filter f) := fun f => ⟨fun c hc => q.ok c ((List.mem_filter.1 hc).1), fun c hc => q.sm c ((List.mem_filter.1 hc).1), fun c hc => q.ss c ((List.mem_filter.1 hc).1)⟩
    have e1 := map_len h1
    have e2 := map_len h2
    have f1 := List.length_filter_le (fun c => !isW win c) L
    have f2 := List.length_filter_le (isW win) L
    have t1 := totC_key h1
    have t2 := totC_key h2
    have t3 := totC_parts L (isW win)
    have t4 := totC_le hl
    exact ⟨by omega, by omega, ((sub _).key h1).sm, ((sub _).key h2).sm, by omega⟩
  · obtain ⟨_, rfl, rfl, _⟩ := h
    exact ⟨by simp, by simp, (by simp), (by simp), by simp [totC]⟩
/-- An answer in the world, its blocks between two bounds. -/
structure ShR (w : World) (lo hi : Nat) (ar ap : Option Addr) (n1 n2 c1 c2 : Nat) (R O : List Ce) : Prop where
  l1 : R.length = n1
  l2 : O.length = n2
  r : OwnC w lo (.slice ar n1 c1) R
  o : OwnC w lo (.slice ap n2 c2) O
  av : ApV (.slice ar n1 c1) (.slice ap n2 c2)
  c : CesO w lo (R ++ O)
  hi : ∀ k, ShBlk (.slice ar n1 c1) (.slice ap n2 c2) R O k → lo ≤ k ∧ k < hi
section
variable {w w' : World} {lo hi : Nat} {ar ap : Option Addr} {n1 n2 c1 c2 : Nat} {R O : List Ce}
theorem ShR.past (h : ShR w lo hi ar ap n1 n2 c1 c2 R O) (hb : Below w.heap.size w w') : ShR w' lo hi ar ap n1 n2 c1 c2 R O := ⟨h.l1, h.l2, h.r.past hb, h.o.past hb, h.av, h.c.past hb, h.hi⟩
theorem ShR.keptS {S : Nat → Prop} (h : ShR w lo hi ar ap n1 n2 c1 c2 R O) (hg : GrownS w w' S) (hS : ∀ k, lo ≤ k → k < hi → ¬ S k) : ShR w' lo hi ar ap n1 n2 c1 c2 R O := by
  refine ⟨h.l1, h.l2, h.r.keptS hg (fun k q => ?_), h.o.keptS hg (fun k q => ?_), h.av, h.c.keptS hg (fun c m k q => ?_), h.hi⟩
  · obtain ⟨a, b⟩ := h.hi k (.inl (.inl q)); exact hS k a b
  · obtain ⟨a, b⟩ := h.hi k (.inr (.inl q)); exact hS k a b
  · rcases List.mem_append.1 m with m | m
    · obtain ⟨a, b⟩ := h.hi k (.inl (.inr ⟨c, m, q⟩)); exact hS k a b
    · obtain ⟨a, b⟩ := h.hi k (.inr (.inr ⟨c, m, q⟩)); exact hS k a b
theorem ShR.at1 (h : ShR w lo hi ar ap n1 n2 c1 c2 R O) : CesAt w ar R := OwnC.at h.r (fun c m => (h.c.o c (List.mem_append_left _ m)).at)
theorem ShR.at2 (h : ShR w lo hi ar ap n1 n2 c1 c2 R O) : CesAt w ap O := OwnC.at h.o (fun c m => (h.c.o c (List.mem_append_right _ m)).at)
end
theorem ShO.open {w : World} {B : Nat} {v : Value} {nm : ByteArray} {R O : List Ce} {code : Int} (h : ShO w B v nm R O code) : ∃ ar ap n1 n2 c1 c2, v = .agg #[.string nm, .slice ar n1 c1, .slice ap n2 c2, .int .i64 code] ∧ ShR w B w.heap.size ar ap n1 n2 c1 c2 R O := by
  obtain ⟨⟨vr, vo, e, h1, h2, h3⟩, h4⟩ := h
  obtain ⟨ar, c1, rfl, _⟩ := h1.form
  obtain ⟨ap, c2, rfl, _⟩ := h2.form
  refine ⟨ar, ap, _, _, c1, c2, e, rfl, rfl, h1, h2, h3, h4, fun k q => ?_⟩
  rcases q with (q | ⟨c, m, q⟩) | (q | ⟨c, m, q⟩)
  · exact World.ownsRow.lt h1 k q
  · exact (h4.o c (List.mem_append_left _ m)).lt q
  · exact World.ownsRow.lt h2 k q
  · exact (h4.o c (List.mem_append_right _ m)).lt q
theorem c_eqSO {w : World} {lo hi lo' hi' : Nat} {ar ap br bp : Option Addr} {n1 n2 c1 c2 m1 m2 d1 d2 : Nat} {R O R' O' : List Ce} {nm nm' : ByteArray} {code code' : Int} (h : ShR w lo hi ar ap n1 n2 c1 c2 R O) (k : ShR w lo' hi' br bp m1 m2 d1 d2 R' O') (b : AnB R O) (e : nm = nm' ∧ R.map Ce.key = R'.map Ce.key ∧ O.map Ce.key = O'.map Ce.key ∧ code = code') :
    Calls Tryz.prog 24 #[.agg #[.string nm, .slice ar n1 c1, .slice ap n2 c2, .int .i64 code], .agg #[.string nm', .slice br m1 d1, .slice bp m2 d2, .int .i64 code']] w fun e w' => e = .returned (.bool true) ∧ Below w.heap.size w w' := by
  obtain ⟨rfl, e1, e2, rfl⟩ := e
  obtain rfl : n1 = m1 := by rw [← h.l1, ← k.l1]; exact map_len e1
  obtain rfl : n2 = m2 := by rw [← h.l2, ← k.l2]; exact map_len e2
  exact c_eqShardOut nm code h.l1 k.l1 h.l2 k.l2 e1 e2 (by rw [← h.l1]; exact b.l1) (by rw [← h.l2]; exact b.l2) b.s1 b.s2 h.at1 h.at2 k.at1 k.at2
theorem box4 {w : World} {r : Nat} {a b c d : Value} {T : TypeId} (h : w.heap[r]? = some (.cells #[a, b, c, d] T (0, 0))) : w.cell? ⟨r, 0, none⟩ = some a ∧ w.cell? ⟨r, 1, none⟩ = some b ∧ w.cell? ⟨r, 2, none⟩ = some c ∧ w.cell? ⟨r, 3, none⟩ = some d := ⟨cellKC h 0 rfl, cellKC h 1 rfl, cellKC h 2 rfl, cellKC h 3 rfl⟩
theorem box2 {w : World} {r : Nat} {a b : Value} {T : TypeId} (h : w.heap[r]? = some (.cells #[a, b] T (0, 0))) : w.cell? ⟨r, 0, none⟩ = some a ∧ w.cell? ⟨r, 1, none⟩ = some b := ⟨cellKC h 0 rfl, cellKC h 1 rfl⟩
theorem row_pastS {w w' : World} {r : Nat} {b : Obj} (h : w.heap[r]? = some b) (hb : Below w.heap.size w w') : w'.heap[r]? = some b := (hb.block _ (Array.getElem?_eq_some_iff.1 h).1).trans h
set_option maxHeartbeats 8000000 in
theorem walkShardTake (nm : ByteArray) (ao : Option Addr) (ca : Nat) (L : List Ce) (win : Int) (w : World) (hs : nm.size ≤ maxLen) (hl : CesLen L) (hA : CesAt w ao L) (ok : ∀ c ∈ L, AgOk c.g) (hwn : I64 win) (hm : MX w) :
    Calls Tryz.prog 4 #[.agg #[.string nm, .slice ao L.length ca], .int .i64 win] w fun e w' => e = .returned (.bool true) ∧ Below w.heap.size w w' := by
  obtain ⟨N, hN⟩ : ∃ N, L.length = N := ⟨_, rfl⟩
  rw [hN]
  have HN := hide hN
  have HA := hide hA
  have HL := hide hl
  have OK := hide ok
  have HMx := hide hm
  have HAl : Hid (∀ (X : World) o, Below X.heap.size X (X.alloc o)) := fun X o => (Below.refl _ _).alloc (Nat.le_refl _) _
  have HT0 := hide (HAl.out w (.cells #[.string nm, .slice ao N ca] 49))
  have HX0 := hide (heap_alloc_new w (.cells #[.string nm, .slice ao N ca] 49))
  clear hN hA hl ok hm hwn
  obtain ⟨x0, x1⟩ := box2 HX0.out
  go_enter Tryz.func4, Tryz.ntmps4
  go_wp2_with fail
  clear x0 x1
  generalize w.alloc (.cells #[.string nm, .slice ao N ca] 49) = W0 at HT0 HX0 ⊢
  generalize hb0 : w.heap.size = B0 at HX0 ⊢
  have HB0 := hide hb0
  clear hb0
  refine (c_szShardT nm ca _ (by omega) (by omega) hs HN.out HL.out (ces_past HA.out HT0.out)).mono ?_
  rintro e w1 ⟨v, rfl, hv, hsm, hb1⟩
  have HT1 := hide (chain HT0.out hb1)
  have HX1 := hide (row_pastS HX0.out hb1)
  clear hb1 HX0 HT0
  by_cases hv0 : v < 0
  · clear hsm
    go_wp2
    go_ret
    exact ⟨rfl, HB0.out ▸ HT1.out⟩
  obtain ⟨v0, hTot⟩ := hsm hv0
  have hTot2 : L.length + ceTot L ≤ 1048576 := by have := HN.out; omega
  have lN : N ≤ 1048576 := by omega
  have HTot := hide hTot2
  have hQ : CeQ L := ⟨OK.out, fun c hc => agTot_sm (by have := ceTot_mem hc; omega), HL.out.s⟩
  have HQ := hide hQ
  clear hsm hTot hTot2 hQ
  obtain ⟨x0, x1⟩ := box2 HX1.out
  go_wp2_with fail
  clear x0 x1
  refine (c_toShardX nm ca HN.out lN HQ.out.sm (ces_past HA.out HT1.out)).mono ?_
  rintro e w3 ⟨M3, g3, rfl, hg3, l3, k3, r3, hb3⟩
  obtain ⟨r3a, r3b⟩ := r3.own_all l3 lN
  have I3 := hide (ShI.of HQ.out k3 l3 lN r3a r3b)
  have K3 := hide k3
  have HT3 := hide (chain HT1.out hb3)
  have HX3 := hide (row_pastS HX1.out hb3)
  clear hg3 l3 k3 r3 r3a r3b hb3 HX1
  go_wp2_with fail
  refine (c_s_ShardTake nm win hs I3.out).mono ?_
  rintro e w4 ⟨v4, nm4, R4, O4, code4, rfl, hA4, hO4, hb4⟩
  obtain ⟨ar4, ap4, n41, n42, c41, c42, rfl, hR4⟩ := hO4.open
  have A4 := hide (hA4.key K3.out)
  have HW4 := hide (hR4.past (HAl.out w4 (.cells #[.string nm4, .slice ar4 n41 c41, .slice ap4 n42 c42, .int .i64 code4] 55)))
  have HY4 := hide (heap_alloc_new w4 (.cells #[.string nm4, .slice ar4 n41 c41, .slice ap4 n42 c42, .int .i64 code4] 55))
  have hb4' := chain hb4 (HAl.out w4 (.cells #[.string nm4, .slice ar4 n41 c41, .slice ap4 n42 c42, .int .i64 code4] 55))
  have HT4 := hide (chain HT3.out hb4')
  have HX4 := hide (row_pastS HX3.out hb4')
  have hz4 : w4.heap.size < (w4.alloc (.cells #[.string nm4, .slice ar4 n41 c41, .slice ap4 n42 c42, .int .i64 code4] 55)).heap.size := by simp
  have HZ4 := hide hz4
  have HBZ : Hid (B0 < w4.heap.size) := Nat.lt_of_lt_of_le (Array.getElem?_eq_some_iff.1 HX3.out).1 hb4.size
  clear hA4 hO4 hR4 hb4 hb4' hz4 HX3 K3 I3
  obtain ⟨x0, x1⟩ := box2 HX4.out
  go_wp2_with fail
  clear x0 x1
  generalize w4.alloc (.cells #[.string nm4, .slice ar4 n41 c41, .slice ap4 n42 c42, .int .i64 code4] 55) = W4 at HW4 HY4 HT4 HX4 HZ4 ⊢
  generalize w4.heap.size = b4 at HW4 HY4 HZ4 HBZ ⊢
  refine (c_toShardX nm ca HN.out lN HQ.out.sm (ces_past HA.out HT4.out)).mono ?_
  rintro e w5 ⟨M5, g5, rfl, hg5, l5, k5, r5, hb5⟩
  obtain ⟨r5a, r5b⟩ := r5.own_all l5 lN
  have hb5' := chain hb5 (HAl.out w5 (.cells #[.string nm, .slice (some ⟨g5, 0, none⟩) N N] 53))
  have R5 := hide (r5a.past (HAl.out w5 (.cells #[.string nm, .slice (some ⟨g5, 0, none⟩) N N] 53)))
  have C5 := hide (r5b.past (HAl.out w5 (.cells #[.string nm, .slice (some ⟨g5, 0, none⟩) N N] 53)))
  have U5 : Hid (∀ k, CBlk (.slice (some ⟨g5, 0, none⟩) N N) M5 k → W4.heap.size ≤ k ∧ k < w5.heap.size) := fun k q => by
    rcases q with q | ⟨c, m, q⟩
    · have := World.ownsRow.lt r5a k q; omega
    · have := (r5b.o c m).lt q; omega
  have K5 := hide k5
  have L5 := hide l5
  have HY5 := hide (heap_alloc_new w5 (.cells #[.string nm, .slice (some ⟨g5, 0, none⟩) N N] 53))
  have HT5 := hide (chain HT4.out hb5')
  have HX5 := hide (row_pastS HX4.out hb5')
  have HYw5 := hide (row_pastS HY4.out hb5')
  have HW5 := hide (HW4.out.past hb5')
  have hz5 : w5.heap.size < (w5.alloc (.cells #[.string nm, .slice (some ⟨g5, 0, none⟩) N N] 53)).heap.size := by simp
  have HZ5 := hide hz5
  have HZ45 := hide hb5.size
  clear hg5 l5 k5 r5 r5a r5b hb5 hb5' hz5 HX4 HY4 HW4
  obtain ⟨x0, x1⟩ := box2 HY5.out
  go_wp2_with fail
  clear x0 x1
  generalize w5.alloc (.cells #[.string nm, .slice (some ⟨g5, 0, none⟩) N N] 53) = W5 at R5 C5 HY5 HT5 HX5 HYw5 HW5 HZ5 ⊢
  generalize w5.heap.size = b5 at HY5 HZ5 HZ45 U5 ⊢
  have I5 := hide (ShI.of HQ.out K5.out L5.out lN R5.out C5.out)
  refine (c_i_ShardTake nm win hs (HMx.out.past (HB0.out ▸ HT5.out)) I5.out).mono ?_
  rintro e w6 ⟨v6, nm6, R6, O6, code6, rfl, hA6, hO6, hb6⟩
  obtain ⟨ar6, ap6, n61, n62, c61, c62, rfl, hR6⟩ := hO6.open
  have A6 := hide (hA6.key K5.out)
  have hb6' := chain hb6 (HAl.out w6 (.cells #[.string nm6, .slice ar6 n61 c61, .slice ap6 n62 c62, .int .i64 code6] 55))
  have HG6 := hide (hR6.past (HAl.out w6 (.cells #[.string nm6, .slice ar6 n61 c61, .slice ap6 n62 c62, .int .i64 code6] 55)))
  have HY6 := hide (heap_alloc_new w6 (.cells #[.string nm6, .slice ar6 n61 c61, .slice ap6 n62 c62, .int .i64 code6] 55))
  have HT6 := hide (chain HT5.out hb6')
  have HX6 := hide (row_pastS HX5.out hb6')
  have HYw6 := hide (row_pastS HYw5.out hb6')
  have HYx6 := hide (row_pastS HY5.out hb6')
  have HW6 := hide (HW5.out.past hb6')
  have R6x := hide (R5.out.past hb6')
  have C6x := hide (C5.out.past hb6')
  have hz6 : w6.heap.size < (w6.alloc (.cells #[.string nm6, .slice ar6 n61 c61, .slice ap6 n62 c62, .int .i64 code6] 55)).heap.size := by simp
  have HZ6 := hide hz6
  have HZ56 := hide hb6.size
  have BA := hide (A6.out.bounds HTot.out HQ.out)
  have EQ := hide (A6.out.same A4.out)
  clear hA6 hO6 hR6 hb6 hb6' hz6 I5 HX5 HYw5 HY5 HW5 R5 C5
  obtain ⟨x0, x1, x2, x3⟩ := box4 HY6.out
  obtain ⟨y0, y1, y2, y3⟩ := box4 HYw6.out
  go_wp2_with fail
  clear x0 x1 x2 x3 y0 y1 y2 y3
  generalize w6.alloc (.cells #[.string nm6, .slice ar6 n61 c61, .slice ap6 n62 c62, .int .i64 code6] 55) = W6 at HG6 HY6 HT6 HX6 HYw6 HYx6 HW6 R6x C6x HZ6 ⊢
  generalize w6.heap.size = b6 at HG6 HY6 HZ6 HZ56 ⊢
  refine (c_eqSO HG6.out HW6.out BA.out EQ.out).mono ?_
  rintro e w7 ⟨rfl, hb7⟩
  have HT7 := hide (chain HT6.out hb7)
  have HX7 := hide (row_pastS HX6.out hb7)
  have HYg7 := hide (row_pastS HY6.out hb7)
  have HYw7 := hide (row_pastS HYw6.out hb7)
  have HYx7 := hide (row_pastS HYx6.out hb7)
  have HW7 := hide (HW6.out.past hb7)
  have HG7 := hide (HG6.out.past hb7)
  have R7 := hide (R6x.out.past hb7)
  have C7 := hide (C6x.out.past hb7)
  have HZ67 := hide hb7.size
  clear hb7 HX6 HY6 HYw6 HYx6 HW6 HG6 R6x C6x
  go_upto_region 10 with fail
  go_cut [35] (fun v w' => v = .bool false ∧ Hid (Below w7.heap.size w7 w'))
  case first =>
    have HS0 : (fun W => Below w7.heap.size w7 W) w7.drew := (Below.refl _ _).drew
    refine regionK (fun W => Below w7.heap.size w7 W) 99 (by kernel_rfl) ?_
    refine takeK (i := 0) (d := 31) (v := .agg #[.string nm, .slice (some ⟨g5, 0, none⟩) N N]) rfl rfl (by kernel_rfl) (by kernel_rfl) (by kernel_rfl) (by decide) (by kernel_rfl) (fun _ _ _ h => h) (Or.inl ⟨by rfl, fun W hW => ?_⟩) HS0 ?_
    · obtain ⟨x0, x1⟩ := box2 (row_pastS HYx7.out hW)
      clear hW
      go_simp
    simp only [List.setIfInBounds_toArray, List.set_cons_zero, List.set_cons_succ]
    refine takeK (i := 1) (d := 32) (v := .agg #[.string nm, .slice ao N ca]) rfl rfl (by kernel_rfl) (by kernel_rfl) (by kernel_rfl) (by decide) (by kernel_rfl) (fun _ _ _ h => h) (Or.inl ⟨by rfl, fun W hW => ?_⟩) HS0 ?_
    · obtain ⟨x0, x1⟩ := box2 (row_pastS HX7.out hW)
      clear hW
      go_simp
    simp only [List.setIfInBounds_toArray, List.set_cons_zero, List.set_cons_succ]
    refine oneK (i := 2) (by kernel_rfl) rfl (fun K hK => ?_)
    go_simp
    refine (c_toShardX nm ca HN.out lN HQ.out.sm (ces_past HA.out (chain (HB0.out ▸ HT7.out) HS0))).mono ?_
    rintro e w8 ⟨M8, g8, rfl, hg8, l8, k8, r8, hb8⟩
    obtain ⟨r8a, r8b⟩ := r8.own_all l8 lN
    have HB8 : Hid (Below w7.heap.size w7 w8) := (HS0 : Below w7.heap.size w7 w7.drew).trans (hb8.mono (Nat.le_refl _))
    have R8 := hide (OwnC.at r8a r8b.at)
    have K8 := hide k8
    have L8 := hide l8
    clear hg8 l8 k8 r8 r8a r8b hb8
    dsimp only
    refine hK.out _ _ (fun _ => HB8.out) ?_
    clear hK K
    try simp only [Act.put, List.setIfInBounds_toArray, List.set_cons_zero, List.set_cons_succ]
    refine oneK (i := 3) (by kernel_rfl) rfl (fun K hK => ?_)
    go_simp
    refine (c_eqShard nm L5.out L8.out (K5.out.trans K8.out.symm) lN (HQ.out.key K5.out).sm (OwnC.at (R7.out.past HB8.out) (C7.out.past HB8.out).at) R8.out).mono ?_
    rintro e w9 ⟨rfl, hb9⟩
    have HB9 : Hid (Below w7.heap.size w7 w9) := chain HB8.out hb9
    clear hb9
    dsimp only
    refine hK.out _ _ (fun _ => HB9.out) ?_
    clear hK K
    try simp only [Act.put, List.setIfInBounds_toArray, List.set_cons_zero, List.set_cons_succ]
    refine takeK (i := 4) (d := 35) (v := .bool false) rfl rfl (by kernel_rfl) (by kernel_rfl) (by kernel_rfl) (by decide) (by kernel_rfl) (fun _ _ _ h => h) (Or.inl ⟨by rfl, fun W hW => ?_⟩) HB9.out ?_
    · clear hW
      go_simp
    simp only [List.setIfInBounds_toArray, List.set_cons_zero, List.set_cons_succ]
    refine doneK (by kernel_rfl) ?_ _
    go_wp2
    go_meet
    exact ⟨rfl, HB9⟩
  case rest =>
  obtain ⟨rfl, HB9⟩ := hcut
  obtain ⟨w9, hw9⟩ : ∃ X, wc = X := ⟨_, rfl⟩
  rw [hw9] at HB9 ⊢
  clear hw9
  have HT9 := hide (chain HT7.out HB9.out)
  have HX9 := hide (row_pastS HX7.out HB9.out)
  have HYg9 := hide (row_pastS HYg7.out HB9.out)
  have HYw9 := hide (row_pastS HYw7.out HB9.out)
  have HYx9 := hide (row_pastS HYx7.out HB9.out)
  have HW9 := hide (HW7.out.past HB9.out)
  have HG9 := hide (HG7.out.past HB9.out)
  have R9 := hide (R7.out.past HB9.out)
  have C9 := hide (C7.out.past HB9.out)
  have HZ79 := hide HB9.out.size
  clear HB9 HX7 HYg7 HYw7 HYx7 HW7 HG7 R7 C7 HT7
  obtain ⟨x0, x1⟩ := box2 HYx9.out
  go_wp2_with fail
  clear x0 x1
  have hT5 : 1 + totC M5 ≤ 50000000 := by
    rw [totC_key K5.out]
    have := totC_le HTot.out
    have := HTot.out
    omega
  refine (c_markShard nm 1 (Nat.le_refl _) hT5 L5.out lN (HQ.out.key K5.out).sm R9.out C9.out).mono ?_
  rintro e w10 ⟨rfl, hM⟩
  have hS5 : ∀ k, CBlk (.slice (some ⟨g5, 0, none⟩) N N) M5 k → W4.heap.size ≤ k ∧ k < b5 := U5.out
  have z4 := HZ4.out
  have z45 := HZ45.out
  have z5 := HZ5.out
  have z56 := HZ56.out
  have z6 := HZ6.out
  have zb := HBZ.out
  have HYg10 := hide (hM.g.row HYg9.out (fun q => by have := hS5 _ q; omega))
  have HYw10 := hide (hM.g.row HYw9.out (fun q => by have := hS5 _ q; omega))
  have HX10 := hide (hM.g.row HX9.out (fun q => by have := hS5 _ q; omega))
  have HW10 := hide (HW9.out.keptS hM.g (fun k a b q => by have := hS5 _ q; omega))
  have HG10 := hide (HG9.out.keptS hM.g (fun k a b q => by have := hS5 _ q; omega))
  have HT10 : Hid (Below B0 w w10) := hM.g.below (HB0.out ▸ HT9.out) (by have := HT9.out.size; have := HB0.out; omega) (fun k q => by have := hS5 _ q; omega)
  have HZ910 := hide hM.g.size
  have hn : ¬ (((1 + totC M5 : Nat) : Int) < 0) := by omega
  clear hM hT5 hS5 z4 z45 z5 z56 z6 zb HYg9 HYw9 HYx9 HX9 HW9 HG9 HT9 R9 C9
  obtain ⟨x0, x1, x2, x3⟩ := box4 HYg10.out
  obtain ⟨y0, y1, y2, y3⟩ := box4 HYw10.out
  go_wp2_with fail
  clear x0 x1 x2 x3 y0 y1 y2 y3 hn
  refine (c_eqSO HG10.out HW10.out BA.out EQ.out).mono ?_
  rintro e w11 ⟨rfl, hb11⟩
  have HYg11 := hide (row_pastS HYg10.out hb11)
  have HYw11 := hide (row_pastS HYw10.out hb11)
  have HX11 := hide (row_pastS HX10.out hb11)
  have HW11 := hide (HW10.out.past hb11)
  have HG11 := hide (HG10.out.past hb11)
  have HT11 : Hid (Below B0 w w11) := HT10.out.trans (hb11.mono (by have := HT10.out.size; have := HB0.out; omega))
  have HZ1011 := hide hb11.size
  clear hb11 HYg10 HYw10 HX10 HW10 HG10 HT10
  obtain ⟨x0, x1, x2, x3⟩ := box4 HYg11.out
  go_wp2_with fail
  clear x0 x1 x2 x3
  refine (c_markShardOut nm6 code6 1 (Nat.le_refl _) BA.out.t HG11.out.l1 HG11.out.l2 (by rw [← HG11.out.l1]; exact BA.out.l1) (by rw [← HG11.out.l2]; exact BA.out.l2) BA.out.s1 BA.out.s2 HG11.out.r HG11.out.o HG11.out.av HG11.out.c).mono ?_
  rintro e w12 ⟨rfl, hM12, hG12⟩
  obtain ⟨T, hT⟩ : ∃ T, 1 + totC R6 + totC O6 = T := ⟨_, rfl⟩
  have HTT := hide hT
  rw [hT]
  clear hT
  have hi6 := HG11.out.hi
  have z4 := HZ4.out
  have z45 := HZ45.out
  have z5 := HZ5.out
  have z56 := HZ56.out
  have z6 := HZ6.out
  have zb := HBZ.out
  have HM12 := hide hM12
  have HYg12 := hide (hG12.row HYg11.out (fun q => by have := hi6 _ q; omega))
  have HYw12 := hide (hG12.row HYw11.out (fun q => by have := hi6 _ q; omega))
  have HX12 := hide (hG12.row HX11.out (fun q => by have := hi6 _ q; omega))
  have HW12 := hide (HW11.out.keptS hG12 (fun k a b q => by have := hi6 _ q; omega))
  have HT12 : Hid (Below B0 w w12) := hG12.below HT11.out (by have := HT11.out.size; have := HB0.out; omega) (fun k q => by have := hi6 _ q; omega)
  have L12 := hide (And.intro HG11.out.l1 HG11.out.l2)
  clear hM12 hG12 hi6 z4 z45 z5 z56 z6 zb HYg11 HYw11 HX11 HW11 HG11 HT11
  obtain ⟨x0, x1, x2, x3⟩ := box4 HYg12.out
  go_wp2_with fail
  clear x0 x1 x2 x3
  refine (c_heldShardOut nm6 code6 1 (Nat.le_refl _) BA.out.t L12.out.1 L12.out.2 (by rw [← L12.out.1]; exact BA.out.l1) (by rw [← L12.out.2]; exact BA.out.l2) BA.out.s1 BA.out.s2 HM12.out).mono ?_
  rintro e w13 ⟨rfl, hb13⟩
  have HM13 := hide (HM12.out.past hb13)
  have HYg13 := hide (row_pastS HYg12.out hb13)
  have HYw13 := hide (row_pastS HYw12.out hb13)
  have HX13 := hide (row_pastS HX12.out hb13)
  have HW13 := hide (HW12.out.past hb13)
  have HT13 : Hid (Below B0 w w13) := HT12.out.trans (hb13.mono (by have := HT12.out.size; have := HB0.out; omega))
  rw [HTT.out]
  have hn : ¬ ((T : Int) < 0) := by omega
  clear hb13 HYg12 HYw12 HX12 HW12 HT12 HM12
  obtain ⟨x0, x1⟩ := box2 HX13.out
  go_wp2_with fail
  clear x0 x1
  refine (c_toShardX nm ca HN.out lN HQ.out.sm (ces_past HA.out (HB0.out ▸ HT13.out))).mono ?_
  rintro e w14 ⟨M14, g14, rfl, hg14, l14, k14, r14, hb14⟩
  obtain ⟨r14a, r14b⟩ := r14.own_all l14 lN
  have I14 := hide (ShI.of HQ.out k14 l14 lN r14a r14b)
  have K14 := hide k14
  have HM14 := hide (HM13.out.past hb14)
  have HYg14 := hide (row_pastS HYg13.out hb14)
  have HYw14 := hide (row_pastS HYw13.out hb14)
  have HW14 := hide (HW13.out.past hb14)
  have HT14 : Hid (Below B0 w w14) := HT13.out.trans (hb14.mono (by have := HT13.out.size; have := HB0.out; omega))
  clear hg14 l14 k14 r14 r14a r14b hb14 HYg13 HYw13 HX13 HW13 HT13 HM13
  go_wp2_with fail
  refine (c_i_ShardTake nm win hs (HMx.out.past (HB0.out ▸ HT14.out)) I14.out).mono ?_
  rintro e w15 ⟨v15, nm15, R15, O15, code15, rfl, hA15, hO15, hb15⟩
  obtain ⟨ar15, ap15, n151, n152, c151, c152, rfl, hR15⟩ := hO15.open
  have A15 := hA15.key K14.out
  have hb15' := chain hb15 (HAl.out w15 (.cells #[.string nm15, .slice ar15 n151 c151, .slice ap15 n152 c152, .int .i64 code15] 55))
  have HH15 := hide (hR15.past (HAl.out w15 (.cells #[.string nm15, .slice ar15 n151 c151, .slice ap15 n152 c152, .int .i64 code15] 55)))
  have HY15 := hide (heap_alloc_new w15 (.cells #[.string nm15, .slice ar15 n151 c151, .slice ap15 n152 c152, .int .i64 code15] 55))
  have BA15 := hide (A15.bounds HTot.out HQ.out)
  have EQ15 := hide (A15.same A4.out)
  have HM15 := hide (HM14.out.past hb15')
  have HYg15 := hide (row_pastS HYg14.out hb15')
  have HYw15 := hide (row_pastS HYw14.out hb15')
  have HW15 := hide (HW14.out.past hb15')
  have HT15 : Hid (Below B0 w (w15.alloc (.cells #[.string nm15, .slice ar15 n151 c151, .slice ap15 n152 c152, .int .i64 code15] 55))) := HT14.out.trans (hb15'.mono (by have := HT14.out.size; have := HB0.out; omega))
  clear hA15 hO15 hR15 hb15 hb15' A15 I14 K14 HYg14 HYw14 HW14 HT14 HM14
  obtain ⟨x0, x1, x2, x3⟩ := box4 HY15.out
  obtain ⟨y0, y1, y2, y3⟩ := box4 HYw15.out
  go_wp2_with fail
  clear x0 x1 x2 x3 y0 y1 y2 y3
  generalize w15.alloc (.cells #[.string nm15, .slice ar15 n151 c151, .slice ap15 n152 c152, .int .i64 code15] 55) = W15 at HH15 HY15 HM15 HYg15 HYw15 HW15 HT15 ⊢
  refine (c_eqSO HH15.out HW15.out BA15.out EQ15.out).mono ?_
  rintro e w16 ⟨rfl, hb16⟩
  have HM16 := hide (HM15.out.past hb16)
  have HYg16 := hide (row_pastS HYg15.out hb16)
  have HT16 : Hid (Below B0 w w16) := HT15.out.trans (hb16.mono (by have := HT15.out.size; have := HB0.out; omega))
  clear hb16 HH15 HY15 HM15 HYg15 HYw15 HW15 HT15
  obtain ⟨x0, x1, x2, x3⟩ := box4 HYg16.out
  go_wp2_with fail
  clear x0 x1 x2 x3
  refine (c_heldShardOut nm6 code6 1 (Nat.le_refl _) BA.out.t L12.out.1 L12.out.2 (by rw [← L12.out.1]; exact BA.out.l1) (by rw [← L12.out.2]; exact BA.out.l2) BA.out.s1 BA.out.s2 HM16.out).mono ?_
  rintro e w17 ⟨rfl, hb17⟩
  rw [HTT.out]
  have HT17 : Hid (Below B0 w w17) := HT16.out.trans (hb17.mono (by have := HT16.out.size; have := HB0.out; omega))
  clear hb17
  go_wp2
  go_ret
  exact ⟨rfl, HB0.out ▸ HT17.out⟩
end Go.Proofs.YthpilcoklapooaaGreatDoor
