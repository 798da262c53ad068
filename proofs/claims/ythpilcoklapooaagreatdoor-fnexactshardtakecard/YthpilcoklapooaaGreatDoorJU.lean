/-
  The contract of spec.l03Gather: the bins of both lists, gathered.
-/
import Derived.Test.YthpilcoklapooaaGreatDoorJT
import Derived.Laws.OwnMore
namespace Go.Proofs.YthpilcoklapooaaGreatDoor
set_option linter.unusedVariables false
set_option linter.unusedSimpArgs false
open Go.ChangeShapes Go.WideShapes Go.ChangeAt Go.RowKit Go.PlainAid Go.Lib
set_option maxRecDepth 10000

end Go.Proofs.YthpilcoklapooaaGreatDoor

/-
  Contracts of the model's copy of a sketch.
-/
namespace Go.Proofs.YthpilcoklapooaaGreatDoor
set_option linter.unusedVariables false
set_option linter.unusedSimpArgs false
open Go.ChangeShapes Go.WideShapes Go.ChangeAt Go.RowKit Go.PlainAid Go.Lib
set_option maxRecDepth 10000

theorem bins_list {w : World} {A : Addr} {L : List Bn} (hA : BinsAt w (some A) L) : ∀ j z, (fl encB L)[j]? = some z → w.cell? (A.add j) = some z := fun j z hz => by
  have hj := (List.getElem?_eq_some_iff.1 hz).1
  rw [fl_len encB2] at hj
  obtain ⟨b, off, e, hcell⟩ := hA (by omega)
  cases e
  obtain ⟨x, hx⟩ : ∃ x, L[j / 2]? = some x := ⟨L[j / 2]'(by omega), List.getElem?_eq_getElem (by omega)⟩
  have h1 := fl_at encB2 L (j / 2) x (j % 2) (by omega) hx
  rw [show j / 2 * 2 + j % 2 = j by omega, hz] at h1
  have hc := hcell (j / 2) x hx
  rw [Addr.add_lit]
  have : j % 2 = 0 ∨ j % 2 = 1 := by omega
  rcases this with e | e
  · rw [e] at h1; rw [show off + j = off + j / 2 * 2 by omega, hc.1]; simpa [encB] using h1.symm
  · rw [e] at h1; rw [show off + j = off + j / 2 * 2 + 1 by omega, hc.2]; simpa [encB] using h1.symm

theorem bins_nil {w : World} {L : List Bn} {n : Nat} (h : BinsAt w none L) (hn : L.length = n) : n = 0 := by
  rcases Nat.eq_zero_or_pos n with e | e
  · exact e
  · obtain ⟨b, off, e1, _⟩ := h (by omega); cases e1
/-- A list is appended, or nil. -/
theorem wpList_append_nil {P : Program} (w : World) {ops : Array Oper} {rest : List Oper} {o : Oper} {a : Act} {Q : Exit → Act → World → Prop} (hgd : o.guard = none) (s x : Operand) (t : TypeId)
    (ho : o.op = .call { callee := .builtin .append, args := #[s, x], argTypes := #[t, t] })
    (base : Nat) (e : TypeId) (i : TypeInfo) (z : Value) (size bytes : Nat) (ht : P.underlying t = some (.slice e)) (hi : P.info? e = some i) (hz : i.zero = some z)
    (hsize : i.size = size) (hby : i.bytes = bytes) (hzs : z.cells.size = size) (hsz : 0 < size)
    (v : Value) (n : Nat) (xs : List Value) (hs : a.eval s = v) (hown : w.ownsRow base e size v n xs)
    (xo : Option Addr) (m c : Nat) (news : List Value) (hx : a.eval x = .slice xo m c) (hl : news.length = m * size) (hno : xo = none → m = 0 ∧ c = 0) (hnews : ∀ ad, xo = some ad → ∀ j u, news[j]? = some u → w.cell? (ad.add j) = some u) (h1 : ∀ u ∈ news, u.oneCell' = true)
    (h63 : n + m ≤ maxLen) (hbytes : (n + m) * bytes ≤ 140737488355328) (hbase : base ≤ w.heap.size)
    (h : ∀ v' w', w'.ownsRow base e size v' (n + m) (xs ++ news) → w.grownBy w' v.ownBlock → (v' = .slice none 0 0 ↔ v = .slice none 0 0 ∧ m = 0) → wpList P ops Q rest (a.put o.dst v') w') : wpList P ops Q (o :: rest) a w := by
  cases xo with
  | some ad => exact wpList_append_own w hgd s x t ho base e i z size bytes ht hi hz hsize hby hzs hsz v n xs hs hown ad m c news hx hl (hnews ad rfl) h1 h63 hbytes hbase h
  | none =>
    obtain ⟨rfl, rfl⟩ := hno rfl
    obtain rfl : news = [] := List.eq_nil_of_length_eq_zero (by rw [hl, Nat.zero_mul])
    refine wpList_plain hgd fun _ hK => ?_
    have hr := run_append_owned_none (P := P) (w := w) base t o.type e i size ht hi v n xs hown
    unfold Oper.wp execOp
    simp only [ho, resolve, invoke, builtin, Sem.run_bind, Sem.run_pure, Result.andThen_ok, List.map_toArray, List.map_cons, List.map_nil, hs, hx, hr]
    exact hK _ _ (h v w (by rw [Nat.add_zero, List.append_nil]; exact hown) (World.grownBy.refl _ _) (by simp))
/-- Behind the first list's copy: what the second one's needs. -/
structure CopyAt (w w1 : World) (z h l : Int) (n1 n : Value) (pn : Nat) (P : List Bn) : Prop where
  bel : ∀ o, Below w.heap.size w ((w1.setCell ⟨w.heap.size, 1, none⟩ n1).alloc o)
  made : ((w1.setCell ⟨w.heap.size, 1, none⟩ n1).alloc (.cells #[] 188)).ownsRow w1.heap.size 188 2 (.slice (some ⟨w1.heap.size, 0, none⟩) 0 0) 0 []
  grow : ∀ {o W}, ((w1.setCell ⟨w.heap.size, 1, none⟩ n1).alloc o).grownBy W (some w1.heap.size) → Below w.heap.size w W ∧ W.heap[w.heap.size]? = some (.cells #[.int .u64 z, n1, n, .int .i64 h, .int .u64 l] 28 (0, 0)) ∧ W.heap[w.heap.size + 1]? = some (.cells zeroSk 28 (0, 0)) ∧ OwnB W w.heap.size n1 pn P
  lt : ∀ k, n1.ownBlock = some k → k < w1.heap.size
  le : w.heap.size ≤ w1.heap.size
theorem copy_step {w w1 : World} {z h l : Int} {p n1 n : Value} {pn : Nat} {P : List Bn} (hT : Below w.heap.size w w1) (hR : w1.heap[w.heap.size]? = some (.cells #[.int .u64 z, p, n, .int .i64 h, .int .u64 l] 28 (0, 0))) (hS : w1.heap[w.heap.size + 1]? = some (.cells zeroSk 28 (0, 0))) (hO : OwnB w1 w.heap.size n1 pn P) (hz : w.heap.size + 1 + 1 < w1.heap.size) : CopyAt w w1 z h l n1 n pn P := by
  have hB : Below w.heap.size w (w1.setCell ⟨w.heap.size, 1, none⟩ n1) := hT.setCell (Nat.le_refl _) _
  refine ⟨fun o => hB.alloc (by simp; omega) o, ?_, fun {o W} hg => ?_, fun k e => (hO.lt k e).2, by omega⟩
  · have := World.ownsRow_made (base := w1.heap.size) (e := 188) (size := 2) (w1.setCell ⟨w.heap.size, 1, none⟩ n1) #[] 0 (by simp) (Nat.zero_le _) rfl
    simpa using this
  · have hb : Below w1.heap.size (w1.setCell ⟨w.heap.size, 1, none⟩ n1) W := ((Below.refl _ _).alloc (by simp) o).grown hg (by simp) (fun k e => by cases e; exact Nat.le_refl _)
    have hb' : Below (w1.setCell ⟨w.heap.size, 1, none⟩ n1).heap.size (w1.setCell ⟨w.heap.size, 1, none⟩ n1) W := hb.mono (by simp)
    refine ⟨hB.trans (hb.mono (by omega)), ?_, ?_, (hO.set (hO.ne hR (by decide)) _).past hb'⟩
    · rw [hb.block _ (by omega)]; exact heap_setCell_same w1 w.heap.size 1 _ _ _ hR
    · rw [hb.block _ (by omega), heap_setCell_other _ _ _ _ (by simp)]; exact hS

set_option maxHeartbeats 2000000 in
theorem c_s_l03Copy {w : World} {z h l : Int} {pa na : Option Addr} {pn pc nn nc : Nat} {P N : List Bn} (hp : P.length = pn) (hn : N.length = nn) (lp : pn ≤ 1048576) (ln : nn ≤ 1048576) (hP : BinsAt w pa P) (hN : BinsAt w na N) (cA : pa = none → pc = 0) (cA' : na = none → nc = 0) :
    Calls Tryz.prog 128 #[.agg #[.int .u64 z, .slice pa pn pc, .slice na nn nc, .int .i64 h, .int .u64 l]] w fun e w' => ∃ v, e = .returned v ∧ SkOut w' w.heap.size v z P N h l ∧ Below w.heap.size w w' := by
  obtain ⟨i0, hi, hz0, hz1, hz2⟩ := info_parts infoBin
  have HP := hide hP
  have HN := hide hN
  have EP := hide hp
  have EN := hide hn
  have CA := hide cA
  have CA' := hide cA'
  clear hP hN hp hn cA cA'
  have hW : ∀ o1 o2 o3, Below w.heap.size w (((w.alloc o1).alloc o2).alloc o3) := fun o1 o2 o3 => (((Below.refl _ _).alloc (Nat.le_refl _) _).alloc (by simp) _).alloc (by simp; omega) _
  have HW := hide hW
  have hM : ∀ o1 o2, (((w.alloc o1).alloc o2).alloc (.cells #[] 188)).ownsRow w.heap.size 188 2 (.slice (some ⟨w.heap.size + 1 + 1, 0, none⟩) 0 0) 0 [] := fun o1 o2 => by
    have := World.ownsRow_made (base := w.heap.size) (e := 188) (size := 2) ((w.alloc o1).alloc o2) #[] 0 (by simp; omega) (Nat.zero_le _) rfl
    simpa using this
  have HM := hide hM
  have hG : ∀ o3 W, (((w.alloc (.cells #[.int .u64 z, .slice pa pn pc, .slice na nn nc, .int .i64 h, .int .u64 l] 28)).alloc (.cells zeroSk 28)).alloc o3).grownBy W (some (w.heap.size + 1 + 1)) → Below w.heap.size w W ∧ W.heap[w.heap.size]? = some (.cells #[.int .u64 z, .slice pa pn pc, .slice na nn nc, .int .i64 h, .int .u64 l] 28 (0, 0)) ∧ W.heap[w.heap.size + 1]? = some (.cells zeroSk 28 (0, 0)) ∧ w.heap.size + 1 + 1 < W.heap.size := fun o3 W hg => by
    have hb : Below (w.heap.size + 1 + 1) (((w.alloc (.cells #[.int .u64 z, .slice pa pn pc, .slice na nn nc, .int .i64 h, .int .u64 l] 28)).alloc (.cells zeroSk 28)).alloc o3) W := (Below.refl _ _).grown hg (by simp) (fun k e => by cases e; exact Nat.le_refl _)
    refine ⟨(hW _ _ _).grown hg (by simp; omega) (fun k e => by cases e; omega), ?_, ?_, by have := hg.size; simp at this; omega⟩
    · rw [hb.block _ (by omega)]
      have h2 : Below (w.heap.size + 1) (w.alloc (.cells #[.int .u64 z, .slice pa pn pc, .slice na nn nc, .int .i64 h, .int .u64 l] 28)) (((w.alloc (.cells #[.int .u64 z, .slice pa pn pc, .slice na nn nc, .int .i64 h, .int .u64 l] 28)).alloc (.cells zeroSk 28)).alloc o3) := ((Below.refl _ _).alloc (by simp) _).alloc (by simp) _
      rw [h2.block _ (by omega)]
      exact heap_alloc_new w _
    · rw [hb.block _ (by omega)]
      exact mid_row w _ _ _ _
  have HG := hide hG
  clear hW hM hG
  go_enter Tryz.func128, Tryz.ntmps128
  go_wp2_with (first
    | (at_builtin; refine wpList_append_nil _ rfl (.tmp 3) (.tmp 5) 26 rfl w.heap.size 188 i0 (.agg #[.int .i64 0, .int .u64 0]) 2 16 Tryz.underlying26 hi hz0 hz1 hz2 rfl (by decide) _ _ _ rfl (HM.out _ _) pa pn pc (fl encB P) rfl (by rw [fl_len encB2, EP.out]) (fun e => ⟨bins_nil (e ▸ HP.out) EP.out, CA.out e⟩) (fun A e => bins_list (e ▸ bins_past HP.out (HW.out _ _ _))) (fl_oneB _) (by unfold maxLen; omega) (by omega) (by simp; omega) ?_; intro v1 w1 hown1 hgrow1 hnil1; simp only [Nat.zero_add, List.nil_append] at hown1; obtain ⟨ao1, c1, rfl⟩ := own_any hown1; obtain ⟨hT1, hR1, hS1, hz1'⟩ := HG.out _ _ hgrow1; obtain ⟨k0, k1, k2, k3, k4⟩ := cell5 hR1; have f1 := frozen_of_row w1 w.heap.size 1 _ _ hR1; have hO1 := OwnB.of hown1 EP.out.symm; have L1 := hide (copy_step hT1 hR1 hS1 hO1 hz1'); have hk2 : ∀ o, ((w1.setCell ⟨w.heap.size, 1, none⟩ (.slice ao1 pn c1)).alloc o).cell? ⟨w.heap.size, 2, none⟩ = some (.slice na nn nc) := (fun o => cell_on (by rw [World.cell?_setCell_other _ _ _ _ (by simp)]; exact k2) o); clear hown1 hgrow1 hnil1 hT1 hR1 hS1 hO1)
    | (at_builtin; refine wpList_append_nil _ rfl (.tmp 8) (.tmp 10) 26 rfl w1.heap.size 188 i0 (.agg #[.int .i64 0, .int .u64 0]) 2 16 Tryz.underlying26 hi hz0 hz1 hz2 rfl (by decide) _ _ _ rfl L1.out.made na nn nc (fl encB N) rfl (by rw [fl_len encB2, EN.out]) (fun e => ⟨bins_nil (e ▸ HN.out) EN.out, CA'.out e⟩) (fun A e => bins_list (e ▸ bins_past HN.out (L1.out.bel _))) (fl_oneB _) (by unfold maxLen; omega) (by omega) (by simp) ?_; intro v2 w2 hown2 hgrow2 hnil2; simp only [Nat.zero_add, List.nil_append] at hown2; obtain ⟨ao2, c2, rfl⟩ := own_any hown2; obtain ⟨hT2, hR2, hS2, hP2⟩ := L1.out.grow hgrow2; obtain ⟨y0, y1, y2, y3, y4⟩ := cell5 hR2; have f2 := frozen_of_row w2 w.heap.size 2 _ _ hR2; have hO2' := OwnB.of hown2 EN.out.symm; have hO2 := hO2'.le (B' := w.heap.size) L1.out.le; obtain ⟨r0, r1, r2, r3, r4⟩ := cell5 hS2; have e0 := frozen_of_row w2 (w.heap.size + 1) 0 _ _ hS2; have e1 := frozen_of_row w2 (w.heap.size + 1) 1 _ _ hS2; have e2 := frozen_of_row w2 (w.heap.size + 1) 2 _ _ hS2; have e3 := frozen_of_row w2 (w.heap.size + 1) 3 _ _ hS2; have e4 := frozen_of_row w2 (w.heap.size + 1) 4 _ _ hS2; have hap3 : Apart (.slice ao1 pn c1) (.slice ao2 nn c2) := (fun k a1 a2 => by have q1 := L1.out.lt k a1; have q2 := (hO2'.lt k a2).1; omega); have T2 := hide hT2; have S2 := hide hS2; have R2 := hide hR2; have P2 := hide hP2; have O2 := hide hO2; have Ap := hide hap3; clear hown2 hgrow2 hnil2 hT2 hS2 hR2 hP2 hO2 hO2' hap3))
  refine bodyPost_ret (v := .agg #[.int .u64 z, .slice ao1 pn c1, .slice ao2 nn c2, .int .i64 h, .int .u64 l]) (by simp [results, Tryz.results128, go_sem, r0, r1, r2, r3, r4]) rfl ⟨_, rfl, ⟨_, _, pn, nn, rfl, ?_, ?_, Ap.out⟩, ?_⟩
  · have n1 := P2.out.ne S2.out (by decide)
    have n2 := P2.out.ne R2.out (by decide)
    exact (((((P2.out.set n2 _).set n1 _).set n1 _).set n1 _).set n1 _).set n1 _
  · have n1 := O2.out.ne S2.out (by decide)
    have n2 := O2.out.ne R2.out (by decide)
    exact (((((O2.out.set n2 _).set n1 _).set n1 _).set n1 _).set n1 _).set n1 _
  · repeat (refine Below.setCell ?_ (by simp <;> omega) _)
    exact T2.out
end Go.Proofs.YthpilcoklapooaaGreatDoor
