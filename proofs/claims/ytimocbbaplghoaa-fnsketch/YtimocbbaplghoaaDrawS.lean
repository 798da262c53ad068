/-
  A drawn sketch.
-/
import Derived.Test.YtimocbbaplghoaaDrawK
import Derived.Test.YtimocbbaplghoaaAppB
import Derived.Test.YtimocbbaplghoaaSkU
import Derived.Test.YtimocbbaplghoaaMrgP
import Derived.Test.YtimocbbaplghoaaKeepK
import Derived.Test.YtimocbbaplghoaaKeepT
namespace Go.Proofs.Ytimocbbaplghoaa
set_option linter.unusedVariables false
set_option linter.unusedSimpArgs false
open Go.ChangeShapes Go.WideShapes Go.ChangeAt Go.RowKit Go.PlainAid Go.Lib
set_option maxRecDepth 10000

structure DS (W w : World) (B : Nat) (ao : Option Addr) (ln cap s : Nat) (wr : World) (z h l : Int) (p n : Value) (a b : Nat) (P N : List Bn) : Prop where
  src : Src W B ao ln cap s wr
  lt : s < w.heap.size
  gr : w.grownBy wr (some s)
  row : wr.heap[w.heap.size + 1]? = some (.cells #[.int .u64 z, p, n, .int .i64 h, .int .u64 l] 28 (0, 0))
  res : wr.heap[w.heap.size]? = some (.cells zeroSk 28 (0, 0))
  oP : OwnB wr w.heap.size p a P
  oN : OwnB wr w.heap.size n b N
  ap : Apart p n
  hz : U64 z
  hl : U64 l
  kP : ∀ x ∈ P, BnOk x
  kN : ∀ x ∈ N, BnOk x
  lP : a ≤ 60
  lN : b ≤ 60
section
variable {W w : World} {B : Nat} {ao : Option Addr} {ln cap s : Nat} {wr : World} {z h l : Int} {p n : Value} {a b : Nat} {P N : List Bn}
theorem DS.step (d : DS W w B ao ln cap s wr z h l p n a b P N) {w1 : World} (hS : Src W B ao ln cap s w1) (hg : wr.grownBy w1 (some s)) : DS W w B ao ln cap s w1 z h l p n a b P N := by
  have hne : ∀ {v : Value} {k : Nat} {L : List Bn}, OwnB wr w.heap.size v k L → v.ownBlock = none ∨ v.ownBlock ≠ some s := fun {v k L} ho => .inr (fun e => by have := (ho.lt s e).1; have := d.lt; omega)
  have hz := d.lt
  exact ⟨hS, d.lt, d.gr.trans hg, by rw [hg.block _ (Array.getElem?_eq_some_iff.1 d.row).1 (fun e => by cases e; omega)]; exact d.row, by rw [hg.block _ (Array.getElem?_eq_some_iff.1 d.res).1 (fun e => by cases e; omega)]; exact d.res, d.oP.kept hg (hne d.oP), d.oN.kept hg (hne d.oN), d.ap, d.hz, d.hl, d.kP, d.kN, d.lP, d.lN⟩
theorem DS.drew (d : DS W w B ao ln cap s wr z h l p n a b P N) : DS W w B ao ln cap s wr.drew z h l p n a b P N :=
  d.step (src_drews (k := 1) d.src) (grown_drews wr 1 _)
theorem DS.past (d : DS W w B ao ln cap s wr z h l p n a b P N) {w1 : World} (hb : Below wr.heap.size wr w1) : DS W w B ao ln cap s w1 z h l p n a b P N :=
  d.step (src_past d.src hb) ⟨hb.os, hb.tape, hb.output, hb.size, fun k hk _ => hb.block k hk⟩
theorem DS.cells (d : DS W w B ao ln cap s wr z h l p n a b P N) : wr.cell? ⟨w.heap.size + 1, 0, none⟩ = some (.int .u64 z) ∧ wr.cell? ⟨w.heap.size + 1, 1, none⟩ = some p ∧ wr.cell? ⟨w.heap.size + 1, 2, none⟩ = some n ∧ wr.cell? ⟨w.heap.size + 1, 3, none⟩ = some (.int .i64 h) ∧ wr.cell? ⟨w.heap.size + 1, 4, none⟩ = some (.int .u64 l) := cell5 d.row
theorem OwnB.nil0 {w : World} {B n c : Nat} {ao : Option Addr} {L : List Bn} (h : OwnB w B (.slice ao n c) n L) : ao = none → c = 0 := fun e => by
  subst e
  rcases h.2 with ⟨e, _⟩ | ⟨b, off, c', cur, e, _⟩
  · cases e; rfl
  · cases e
theorem DS.far (d : DS W w B ao ln cap s wr z h l p n a b P N) : w.heap.size ≤ wr.heap.size := d.gr.size
theorem grown_setS {w w1 : World} {r : Option Nat} {a : Addr} {u : Value} (h : w.grownBy w1 r) (ha : w.heap.size ≤ a.block) : w.grownBy (w1.setCell a u) r :=
  ⟨h.os, h.tape, h.output, by simpa using h.size, fun k hk hne => by rw [Below.heap_setCell _ _ _ _ (by omega)]; exact h.block k hk hne⟩
theorem src_setS {w1 : World} (h : Src W B ao ln cap s w1) {a : Addr} {u : Value} (ha : s < a.block) : Src W B ao ln cap s (w1.setCell a u) := by
  obtain ⟨x, m, y, hk, h1, h2⟩ := h.blk
  exact ⟨h.bel.setCell (Nat.le_of_lt (Nat.lt_of_le_of_lt h.hB ha)) u, h.hB, x, m, y, by rw [Below.heap_setCell _ _ _ _ (by omega)]; exact hk, h1, h2⟩
theorem DS.put (d : DS W w B ao ln cap s wr z h l p n a b P N) {w1 : World} (hb : Below wr.heap.size wr w1) {z' h' l' : Int} {p' n' : Value} {a' b' : Nat} {P' N' : List Bn} (o1 : OwnB w1 wr.heap.size p' a' P') (o2 : OwnB w1 wr.heap.size n' b' N') (hap : Apart p' n') (hz : U64 z') (hl : U64 l') (kP : ∀ x ∈ P', BnOk x) (kN : ∀ x ∈ N', BnOk x) (lP : a' ≤ 60) (lN : b' ≤ 60) :
    DS W w B ao ln cap s (sk5 w1 (w.heap.size + 1) z' p' n' h' l') z' h' l' p' n' a' b' P' N' := by
  have d1 := d.past hb
  have hlt := d.lt
  have q1 := o1.ne d1.row (by decide)
  have q2 := o2.ne d1.row (by decide)
  refine ⟨?_, d.lt, ?_, row5 d1.row, ?_, ((((((o1.le d.far).set q1 _).set q1 _).set q1 _).set q1 _).set q1 _), ((((((o2.le d.far).set q2 _).set q2 _).set q2 _).set q2 _).set q2 _), hap, hz, hl, kP, kN, lP, lN⟩
  · exact src_setS (src_setS (src_setS (src_setS (src_setS d1.src (by exact Nat.lt_succ_of_lt hlt)) (by exact Nat.lt_succ_of_lt hlt)) (by exact Nat.lt_succ_of_lt hlt)) (by exact Nat.lt_succ_of_lt hlt)) (by exact Nat.lt_succ_of_lt hlt)
  · exact grown_setS (grown_setS (grown_setS (grown_setS (grown_setS d1.gr (by simp)) (by simp)) (by simp)) (by simp)) (by simp)
  · rw [Below.heap_setCell _ _ _ _ (by simp), Below.heap_setCell _ _ _ _ (by simp), Below.heap_setCell _ _ _ _ (by simp), Below.heap_setCell _ _ _ _ (by simp), Below.heap_setCell _ _ _ _ (by simp)]; exact d1.res
/-- What a drawn sketch is. -/
def DrawnSk (W : World) (B : Nat) (ao : Option Addr) (ln cap s : Nat) (w : World) (e : Ending) (w' : World) : Prop := ∃ v z' h' l' P' N', e = .returned v ∧ SkOut w' w.heap.size v z' P' N' h' l' ∧ U64 z' ∧ U64 l' ∧ (∀ x ∈ P', BnOk x) ∧ (∀ x ∈ N', BnOk x) ∧ P'.length ≤ 60 ∧ N'.length ≤ 60 ∧ Src W B ao ln cap s w' ∧ w.grownBy w' (some s)
theorem DS.fin (d : DS W w B ao ln cap s wr z h l p n a b P N) : DrawnSk W B ao ln cap s w (.returned (.agg #[.int .u64 z, p, n, .int .i64 h, .int .u64 l])) (sk5 wr w.heap.size z p n h l) := by
  have hlt := d.lt
  have q1 := d.oP.ne d.res (by decide)
  have q2 := d.oN.ne d.res (by decide)
  refine ⟨_, z, h, l, P, N, rfl, ⟨p, n, a, b, rfl, (((((d.oP.set q1 _).set q1 _).set q1 _).set q1 _).set q1 _), (((((d.oN.set q2 _).set q2 _).set q2 _).set q2 _).set q2 _), d.ap⟩, d.hz, d.hl, d.kP, d.kN, by rw [← d.oP.1]; exact d.lP, by rw [← d.oN.1]; exact d.lN, ?_, ?_⟩
  · exact src_setS (src_setS (src_setS (src_setS (src_setS d.src (by exact hlt)) (by exact hlt)) (by exact hlt)) (by exact hlt)) (by exact hlt)
  · exact grown_setS (grown_setS (grown_setS (grown_setS (grown_setS d.gr (by exact Nat.le_refl _)) (by exact Nat.le_refl _)) (by exact Nat.le_refl _)) (by exact Nat.le_refl _)) (by exact Nat.le_refl _)
theorem DS.appP (d : DS W w B ao ln cap s wr z h l p n a b P N) {w1 : World} {v : Value} {x : Bn} (hO : OwnB w1 w.heap.size v (a + 1) (P ++ [x])) (hg : wr.grownBy w1 p.ownBlock) (hk : ∀ k, v.ownBlock = some k → p.ownBlock = some k ∨ wr.heap.size ≤ k) (hx : BnOk x) (h60 : a + 1 ≤ 60) :
    w1.heap[w.heap.size + 1]? = some (.cells #[.int .u64 z, p, n, .int .i64 h, .int .u64 l] 28 (0, 0)) ∧ DS W w B ao ln cap s (w1.setCell ⟨w.heap.size + 1, 1, none⟩ v) z h l v n (a + 1) b (P ++ [x]) N := by
  have hlt := d.lt
  have hf := d.far
  have b1 : p.ownBlock ≠ some (w.heap.size + 1) := d.oP.ne d.row (by decide)
  have b2 : p.ownBlock ≠ some w.heap.size := d.oP.ne d.res (by decide)
  have row1 : w1.heap[w.heap.size + 1]? = some (.cells #[.int .u64 z, p, n, .int .i64 h, .int .u64 l] 28 (0, 0)) := by rw [hg.block _ (Array.getElem?_eq_some_iff.1 d.row).1 (fun e => b1 e.symm)]; exact d.row
  have res1 : w1.heap[w.heap.size]? = some (.cells zeroSk 28 (0, 0)) := by rw [hg.block _ (Array.getElem?_eq_some_iff.1 d.res).1 (fun e => b2 e.symm)]; exact d.res
  have oN1 : OwnB w1 w.heap.size n b N := d.oN.kept hg (by
    cases hb : n.ownBlock with
    | none => exact .inl rfl
    | some k => exact .inr (fun e => d.ap k e.symm hb))
  have bel : Below w.heap.size wr w1 := ⟨hg.os, hg.tape, hg.output, hg.size, fun k hk => hg.block k (by omega) (fun e => by have := (d.oP.lt k e.symm).1; omega)⟩
  have src1 : Src W B ao ln cap s w1 := by
    obtain ⟨x, m, y, h0, h1, h2⟩ := d.src.blk
    exact ⟨d.src.bel.trans (bel.mono (Nat.le_trans d.src.hB (Nat.le_of_lt hlt))), d.src.hB, x, m, y, by rw [bel.block s hlt]; exact h0, h1, h2⟩
  have gr1 : w.grownBy w1 (some s) := ⟨hg.os.trans d.gr.os, hg.tape.trans d.gr.tape, hg.output.trans d.gr.output, Nat.le_trans hf hg.size, fun k hk hne => by rw [bel.block k hk]; exact d.gr.block k hk hne⟩
  refine ⟨row1, src_setS src1 (by exact Nat.lt_succ_of_lt hlt), hlt, grown_setS gr1 (by exact Nat.le_succ _), heap_setCell_same w1 _ 1 _ _ _ row1, by rw [Below.heap_setCell _ _ _ _ (by simp)]; exact res1, hO.set (hO.ne row1 (by decide)) _, oN1.set (oN1.ne row1 (by decide)) _, ?_, d.hz, d.hl, ?_, d.kN, h60, d.lN⟩
  · intro k e1 e2
    rcases hk k e1 with e | e
    · exact d.ap k e e2
    · have := (d.oN.lt k e2).2; omega
  · intro y hy
    rcases List.mem_append.1 hy with hy | hy
    · exact d.kP y hy
    · obtain rfl := List.mem_singleton.1 hy; exact hx
theorem DS.setW {g off c : Nat} {x : Bn} {P1 : List Bn} (d : DS W w B ao ln cap s wr z h l (.slice (some ⟨g, off, none⟩) a c) n a b (x :: P1) N) :
    wr.cell? ⟨g, off + 1, none⟩ = some (.int .u64 x.2) ∧ wr.frozen? ⟨g, off + 1, none⟩ = false ∧ g ≠ w.heap.size ∧ g ≠ w.heap.size + 1 ∧ DS W w B ao ln cap s (wr.setCell ⟨g, off + 1, none⟩ (.int .u64 0)) z h l (.slice (some ⟨g, off, none⟩) a c) n a b ((x.1, 0) :: P1) N := by
  have hlt := d.lt
  have hf := d.far
  have b1 : g ≠ w.heap.size + 1 := fun e => d.oP.ne d.row (by decide) (by rw [e]; rfl)
  have b2 : g ≠ w.heap.size := fun e => d.oP.ne d.res (by decide) (by rw [e]; rfl)
  rcases d.oP.2 with ⟨e, _⟩ | ⟨g', off', c', cur, e, h1, h2, h3, h4, h5, h6⟩
  · cases e
  cases e
  have hl := d.oP.1
  have k1 := h3 1 (.int .u64 x.2) (by simp [fl, encB])
  refine ⟨by rw [cell_of_row wr g _ _ _ (0, 0) h2]; exact k1, frozen_of_row wr g _ _ _ h2, b2, b1, src_setS d.src (by show s < g; omega), hlt, grown_setS d.gr h1, by rw [Below.heap_setCell _ _ _ _ (by simpa using fun e => b1 e.symm)]; exact d.row, by rw [Below.heap_setCell _ _ _ _ (by simpa using fun e => b2 e.symm)]; exact d.res, ⟨by simpa using hl, .inr ⟨g, off, c, _, rfl, h1, heap_setCell_same wr g _ _ _ _ h2, fun j q hq => ?_, h4, h5, by simpa using h6⟩⟩, ?_, d.ap, d.hz, d.hl, ?_, d.kN, d.lP, d.lN⟩
  · rw [Array.getElem?_setIfInBounds]
    by_cases hj : j = 1
    · subst hj
      have hs := (Array.getElem?_eq_some_iff.1 k1).1
      rw [if_pos rfl, if_pos hs]
      simpa [fl, encB] using hq
    · rw [if_neg (by omega)]
      refine h3 j q ?_
      match j, hj with
      | 0, _ => simpa [fl, encB] using hq
      | 1, hj => exact absurd rfl hj
      | j + 2, _ => simpa [fl, encB] using hq
  · exact d.oN.set (fun e => d.ap g rfl e) _
  · intro y hy
    rcases List.mem_cons.1 hy with rfl | hy
    · exact ⟨(d.kP x List.mem_cons_self).1, by unfold U64; omega⟩
    · exact d.kP y (List.mem_cons_of_mem _ hy)
theorem DS.appN (d : DS W w B ao ln cap s wr z h l p n a b P N) {w1 : World} {v : Value} {x : Bn} (hO : OwnB w1 w.heap.size v (b + 1) (N ++ [x])) (hg : wr.grownBy w1 n.ownBlock) (hk : ∀ k, v.ownBlock = some k → n.ownBlock = some k ∨ wr.heap.size ≤ k) (hx : BnOk x) (h60 : b + 1 ≤ 60) :
    w1.heap[w.heap.size + 1]? = some (.cells #[.int .u64 z, p, n, .int .i64 h, .int .u64 l] 28 (0, 0)) ∧ DS W w B ao ln cap s (w1.setCell ⟨w.heap.size + 1, 2, none⟩ v) z h l p v a (b + 1) P (N ++ [x]) := by
  have hlt := d.lt
  have hf := d.far
  have b1 : n.ownBlock ≠ some (w.heap.size + 1) := d.oN.ne d.row (by decide)
  have b2 : n.ownBlock ≠ some w.heap.size := d.oN.ne d.res (by decide)
  have row1 : w1.heap[w.heap.size + 1]? = some (.cells #[.int .u64 z, p, n, .int .i64 h, .int .u64 l] 28 (0, 0)) := by rw [hg.block _ (Array.getElem?_eq_some_iff.1 d.row).1 (fun e => b1 e.symm)]; exact d.row
  have res1 : w1.heap[w.heap.size]? = some (.cells zeroSk 28 (0, 0)) := by rw [hg.block _ (Array.getElem?_eq_some_iff.1 d.res).1 (fun e => b2 e.symm)]; exact d.res
  have oP1 : OwnB w1 w.heap.size p a P := d.oP.kept hg (by
    cases hb : p.ownBlock with
    | none => exact .inl rfl
    | some k => exact .inr (fun e => d.ap k hb e.symm))
  have bel : Below w.heap.size wr w1 := ⟨hg.os, hg.tape, hg.output, hg.size, fun k hk => hg.block k (by omega) (fun e => by have := (d.oN.lt k e.symm).1; omega)⟩
  have src1 : Src W B ao ln cap s w1 := by
    obtain ⟨x, m, y, h0, h1, h2⟩ := d.src.blk
    exact ⟨d.src.bel.trans (bel.mono (Nat.le_trans d.src.hB (Nat.le_of_lt hlt))), d.src.hB, x, m, y, by rw [bel.block s hlt]; exact h0, h1, h2⟩
  have gr1 : w.grownBy w1 (some s) := ⟨hg.os.trans d.gr.os, hg.tape.trans d.gr.tape, hg.output.trans d.gr.output, Nat.le_trans hf hg.size, fun k hk hne => by rw [bel.block k hk]; exact d.gr.block k hk hne⟩
  refine ⟨row1, src_setS src1 (by exact Nat.lt_succ_of_lt hlt), hlt, grown_setS gr1 (by exact Nat.le_succ _), heap_setCell_same w1 _ 2 _ _ _ row1, by rw [Below.heap_setCell _ _ _ _ (by simp)]; exact res1, oP1.set (oP1.ne row1 (by decide)) _, hO.set (hO.ne row1 (by decide)) _, ?_, d.hz, d.hl, d.kP, ?_, d.lP, h60⟩
  · intro k e1 e2
    rcases hk k e2 with e | e
    · exact d.ap k e1 e
    · have := (d.oP.lt k e1).2; omega
  · intro y hy
    rcases List.mem_append.1 hy with hy | hy
    · exact d.kN y hy
    · obtain rfl := List.mem_singleton.1 hy; exact hx
end
theorem keepL_lenS (L : List Bn) : (keepL L).length ≤ 30 := by
  unfold keepL
  split
  · assumption
  · have hd : (L.drop (L.length - 30)).length = 30 := by rw [List.length_drop]; omega
    split
    · rename_i h; rw [h] at hd; simp at hd
    · rename_i h; rw [h] at hd; simp at hd ⊢; omega
theorem gat_in {P : List Bn} {u wt : Int} (hP : Rise P) (kP : ∀ x ∈ P, BnOk x) (hw : U64 wt) : (∀ x ∈ keepL (mrg P [(binI u, wt)]), BnOk x) ∧ (keepL (mrg P [(binI u, wt)])).length ≤ 30 := by
  have hb := binI_in u
  have k1 : ∀ x ∈ [(binI u, wt)], BnOk x := fun x hx => by
    obtain rfl := List.mem_singleton.1 hx
    exact ⟨by unfold I64; omega, hw⟩
  exact ⟨(keep_good (mrg_rise hP (rise_one _)) (mrg_ok kP k1)).2, keepL_lenS _⟩
theorem put_outS {w' : World} {B : Nat} {v : Value} {z h l vv wt : Int} {P N : List Bn} (hz : U64 z) (hl : U64 l) (hwt : U64 wt) (kP : ∀ x ∈ P, BnOk x) (kN : ∀ x ∈ N, BnOk x) (lP : P.length ≤ 30) (lN : N.length ≤ 30)
    (hq : (putOk P N vv wt ∧ SkOut w' B v (putZ z vv wt) (putPS P vv wt) (putNS N vv wt) (addH h l (thH vv wt) (thL vv wt)) (addL l (thL vv wt))) ∨ (¬ putOk P N vv wt ∧ SkOut w' B v z P N h l)) :
    ∃ z' h' l' P' N', SkOut w' B v z' P' N' h' l' ∧ U64 z' ∧ U64 l' ∧ (∀ x ∈ P', BnOk x) ∧ (∀ x ∈ N', BnOk x) ∧ P'.length ≤ 30 ∧ N'.length ≤ 30 := by
  rcases hq with ⟨ok, ho⟩ | ⟨_, ho⟩
  · refine ⟨_, _, _, _, _, ho, ?_, uw_in _, ?_, ?_, ?_, ?_⟩
    · unfold putZ; split
      · exact wAdd_ok hz hwt
      · exact hz
    · unfold putPS; split
      · exact (gat_in (sk_rise ok.1).1.1 kP hwt).1
      · exact kP
    · unfold putNS; split
      · exact (gat_in (sk_rise ok.1).2.1 kN hwt).1
      · exact kN
    · unfold putPS; split
      · exact (gat_in (sk_rise ok.1).1.1 kP hwt).2
      · exact lP
    · unfold putNS; split
      · exact (gat_in (sk_rise ok.1).2.1 kN hwt).2
      · exact lN
  · exact ⟨_, _, _, _, _, ho, hz, hl, kP, kN, lP, lN⟩

set_option maxHeartbeats 2000000 in
theorem c_l03Sketch {W w : World} {B ln cap s : Nat} {ao : Option Addr} (hc : CodeAt W B ao ln) (h : Src W B ao ln cap s w) :
    Calls Try.prog 20 #[.pointer (some ⟨s, 0, none⟩)] w fun e w' => DrawnSk W B ao ln cap s w e w' := by
  have HC := hide hc
  have hS0 : ∀ o1 o2, Src W B ao ln cap s ((w.alloc o1).alloc o2) := fun o1 o2 => src_past (src_past h ((Below.refl _ _).alloc (Nat.le_refl _) _)) ((Below.refl _ _).alloc (Nat.le_refl _) _)
  have HS0 := hide hS0
  have hlt := src_lt h
  obtain ⟨at_, mix, sz, hblk, _, _⟩ := h.blk
  have hs3 : ∀ o1 o2, ((w.alloc o1).alloc o2).cell? ⟨s, 3, none⟩ = some (.int .i64 sz) := fun o1 o2 => cell_on (cell_on (by rw [cell_of_row w s 3 _ _ (0, 0) hblk]; rfl) o1) o2
  clear hc hS0 hblk h
  have hw9 := w64_in (6 + wrap64 (3 * sz))
  go_enter Try.func20, Try.ntmps20
  go_wp2_with fail
  refine (c_n HC.out (HS0.out _ _) _ hw9.2).mono ?_
  rintro e w1 ⟨k, rfl, k0, k1, k2, hS1, hg1⟩
  have hk9 : I64 k := by
    by_cases hm : wrap64 (6 + wrap64 (3 * sz)) ≤ 1
    · rw [k2 hm]; unfold I64; omega
    · have := k1 (by omega); unfold I64 at *; omega
  clear k1 k2
  have D0 : DS W w B ao ln cap s w1 0 0 0 (.slice none 0 0) (.slice none 0 0) 0 0 [] [] := by
    refine DS.step (z := 0) (h := 0) (l := 0) (p := .slice none 0 0) (n := .slice none 0 0) (a := 0) (b := 0) (P := []) (N := []) (wr := (w.alloc (.cells zeroSk 28)).alloc (.cells zeroSk 28)) ⟨HS0.out _ _, hlt, (World.grownBy_alloc _ _ _).trans (World.grownBy_alloc _ _ _), by simpa using heap_alloc_new (w.alloc (.cells zeroSk 28)) (.cells zeroSk 28), ?_, ⟨rfl, .inl ⟨rfl, rfl⟩⟩, ⟨rfl, .inl ⟨rfl, rfl⟩⟩, (fun k e => by cases e), (by unfold U64; omega), (by unfold U64; omega), (fun x hx => by simp at hx), (fun x hx => by simp at hx), (by omega), (by omega)⟩ hS1 hg1
    rw [heap_alloc_old _ _ (by simp)]; exact heap_alloc_new w _
  have HD0 := hide D0
  obtain ⟨k, rfl⟩ := Int.eq_ofNat_of_zero_le k0
  clear D0 hS1 hg1 HS0 hs3 hw9 k0
  go_wp2_with fail
  go_loopw [4] (fun kv wr => ∃ (j : Nat) (z h l : Int) (p n : Value) (a b : Nat) (P N : List Bn), kv = .int .i64 j ∧ I64 j ∧ Hid (DS W w B ao ln cap s wr z h l p n a b P N) ∧ Hid (a ≤ 30 ∧ b ≤ 30)) (fun kv wr => (RowKit.intOf kv).toNat)
  case atStart => exact ⟨k, 0, 0, 0, _, _, 0, 0, [], [], rfl, hk9, HD0, (⟨by omega, by omega⟩ : 0 ≤ 30 ∧ 0 ≤ 30)⟩
  case round =>
    clear HD0
    obtain ⟨j, z, h, l, p, n, a, b, P, N, rfl, hj, HD, H30⟩ := hrel
    rcases Nat.eq_zero_or_pos j with h0 | h0
    · subst h0
      obtain ⟨pa, pc, rfl⟩ := HD.out.oP.any
      obtain ⟨na, nc, rfl⟩ := HD.out.oN.any
      go_wp2_with fail
      refine (c_one HC.out HD.out.src _ (by omega)).mono ?_
      rintro e w2 ⟨bb, rfl, hS2, hg2⟩
      have HD2 := hide (HD.out.step hS2 hg2)
      clear HD hS2 hg2
      cases bb with
      | false =>
        obtain ⟨q0, q1, q2, q3, q4⟩ := HD2.out.cells
        obtain ⟨r0, r1, r2, r3, r4⟩ := cell5 HD2.out.res
        have e0 := frozen_of_row w2 w.heap.size 0 _ _ HD2.out.res
        have e1 := frozen_of_row w2 w.heap.size 1 _ _ HD2.out.res
        have e2 := frozen_of_row w2 w.heap.size 2 _ _ HD2.out.res
        have e3 := frozen_of_row w2 w.heap.size 3 _ _ HD2.out.res
        have e4 := frozen_of_row w2 w.heap.size 4 _ _ HD2.out.res
        go_wp2
        refine bodyPost_ret (v := .agg #[.int .u64 z, .slice pa a pc, .slice na b nc, .int .i64 h, .int .u64 l]) (by simp [results, Try.results20, go_sem, q0, q1, q2, q3, q4, r0, r1, r2, r3, r4]) rfl HD2.out.fin
      | true =>
        go_wp2_with fail
        refine (c_n HC.out HD2.out.src _ (by omega)).mono ?_
        rintro e w3 ⟨c, rfl, c0, c1, _, hS3, hg3⟩
        have c1 := c1 (by omega)
        have HD3 := hide (HD2.out.step hS3 hg3)
        clear HD2 hS3 hg3
        obtain ⟨i0, hi, hz0, hz1, hz2⟩ := info_parts infoBin
        have hc4 : c = 0 ∨ c = 1 ∨ c = 2 ∨ c = 3 := by omega
        clear c0 c1
        rcases hc4 with rfl | rfl | rfl | rfl
        · go_wp2_with fail
          refine regionK (fun W' => W'.heap[w.heap.size + 1]? = some (.cells #[.int .u64 z, .slice pa a pc, .slice na b nc, .int .i64 h, .int .u64 l] 28 (0, 0))) 8 (by rfl) ?_
          refine takeK (i := 0) (d := 49) (v := .pointer (some ⟨w.heap.size + 1, 1, none⟩)) rfl rfl (by kernel_rfl) (by kernel_rfl) (by kernel_rfl) (by decide) (by kernel_rfl) (fun _ _ _ h => h) (Or.inl ⟨by rfl, fun W hW => ?_⟩) HD3.out.row ?_
          · clear hW
            go_simp
          simp only [List.setIfInBounds_toArray, List.set_cons_zero, List.set_cons_succ]
          refine takeK (i := 1) (d := 50) (v := .slice pa a pc) rfl rfl (by kernel_rfl) (by kernel_rfl) (by kernel_rfl) (by decide) (by kernel_rfl) (fun _ _ _ h => h) (Or.inl ⟨by rfl, fun W hW => ?_⟩) HD3.out.row ?_
          · obtain ⟨x0, x1, x2, x3, x4⟩ := cell5 hW
            go_simp
          simp only [List.setIfInBounds_toArray, List.set_cons_zero, List.set_cons_succ]
          refine takeK (i := 2) (d := 51) (v := .pointer (some ⟨s, 0, none⟩)) rfl rfl (by kernel_rfl) (by kernel_rfl) (by kernel_rfl) (by decide) (by kernel_rfl) (fun _ _ _ h => h) (Or.inl ⟨by rfl, fun W hW => ?_⟩) HD3.out.row ?_
          · clear hW
            go_simp
          simp only [List.setIfInBounds_toArray, List.set_cons_zero, List.set_cons_succ]
          refine oneK (i := 3) (by kernel_rfl) rfl (fun K hK => ?_)
          go_simp
          refine (c_n HC.out HD3.out.drew.src _ (by omega)).mono ?_
          rintro e w4 ⟨c, rfl, c0, c1, _, hS4, hg4⟩
          have c1 := c1 (by omega)
          have HD4 := hide (HD3.out.drew.step hS4 hg4)
          dsimp only
          refine hK.out _ _ (fun _ => HD4.out.row) ?_
          clear hK K hS4 hg4
          try simp only [Act.put, List.setIfInBounds_toArray, List.set_cons_zero, List.set_cons_succ]
          refine takeK (i := 4) (d := 53) (v := .agg #[.int .i64 c, .int .u64 1]) rfl rfl (by kernel_rfl) (by kernel_rfl) (by kernel_rfl) (by decide) (by kernel_rfl) (fun _ _ _ h => h) (Or.inl ⟨by rfl, fun W hW => ?_⟩) HD4.out.row ?_
          · clear hW
            go_simp
          simp only [List.setIfInBounds_toArray, List.set_cons_zero, List.set_cons_succ]
          have HD5 := hide (HD4.out.past ((Below.refl _ _).alloc (Nat.le_refl _) (.cells #[.int .i64 ((c, 1)).1, .int .u64 ((c, 1)).2] 50)))
          refine oneK (i := 5) (by kernel_rfl) rfl (fun K hK => ?_)
          go_simp
          refine hK.out _ _ (fun _ => HD5.out.row) ?_
          clear hK K
          try simp only [Act.put, List.setIfInBounds_toArray, List.set_cons_zero, List.set_cons_succ]
          refine oneK (i := 6) (by kernel_rfl) rfl (fun K hK => ?_)
          rw [if_pos (by rfl)]
          refine wp_append_B (x := (c, 1)) (.tmp 50) (.tmp 54) rfl hi hz0 hz1 hz2 rfl HD5.out.oP (by have := H30.out; omega) HD5.out.far ⟨w4.heap.size, 0, none⟩ 1 rfl (new_cells (cs := #[.int .i64 ((c, 1)).1, .int .u64 ((c, 1)).2]) rfl) ?_
          intro v6 w6 hO6 hg6 hk6
          obtain ⟨row6, hd6⟩ := HD5.out.appP hO6 hg6 hk6 (⟨by unfold I64; omega, by unfold U64; omega⟩ : BnOk ((c, 1))) (by have := H30.out; omega)
          obtain ⟨ao6, c6, rfl⟩ := hO6.any
          have HD6 := hide hd6
          refine hK.out _ _ (fun _ => row6) ?_
          clear hK K hO6 hg6 hk6 hd6
          try simp only [Act.put, List.setIfInBounds_toArray, List.set_cons_zero, List.set_cons_succ]
          refine oneK (i := 7) (by kernel_rfl) rfl (fun K hK => ?_)
          go_simp
          refine hK.out _ _ (fun _ => row6) ?_
          clear hK K
          try simp only [Act.put, List.setIfInBounds_toArray, List.set_cons_zero, List.set_cons_succ]
          refine oneK (i := 8) (by kernel_rfl) rfl (fun K hK => ?_)
          obtain ⟨q0, q1, q2, q3, q4⟩ := cell5 row6
          have fr := frozen_of_row w6 (w.heap.size + 1) 1 _ _ row6
          go_simp
          refine hK.out _ _ (fun h => absurd rfl h) ?_
          clear hK K q0 q1 q2 q3 q4 fr row6
          try simp only [Act.put, List.setIfInBounds_toArray, List.set_cons_zero, List.set_cons_succ]
          refine doneK (by kernel_rfl) ?_ _
          generalize (w6.setCell ⟨w.heap.size + 1, 1, none⟩ (.slice ao6 (a + 1) c6)) = w7 at HD6 ⊢
          obtain ⟨q0, q1, q2, q3, q4⟩ := HD6.out.cells
          obtain ⟨r0, r1, r2, r3, r4⟩ := cell5 HD6.out.res
          have e0 := frozen_of_row w7 w.heap.size 0 _ _ HD6.out.res
          have e1 := frozen_of_row w7 w.heap.size 1 _ _ HD6.out.res
          have e2 := frozen_of_row w7 w.heap.size 2 _ _ HD6.out.res
          have e3 := frozen_of_row w7 w.heap.size 3 _ _ HD6.out.res
          have e4 := frozen_of_row w7 w.heap.size 4 _ _ HD6.out.res
          go_wp2
          refine bodyPost_ret (v := .agg #[.int .u64 z, .slice ao6 (a + 1) c6, .slice na b nc, .int .i64 h, .int .u64 l]) (by simp [results, Try.results20, go_sem, q0, q1, q2, q3, q4, r0, r1, r2, r3, r4]) rfl HD6.out.fin
        · obtain ⟨q0, q1, q2, q3, q4⟩ := HD3.out.cells
          have HD5 := hide (HD3.out.past ((Below.refl _ _).alloc (Nat.le_refl _) (.cells #[.int .i64 6990, .int .u64 1] 50)))
          go_wp2_with (at_builtin; refine wpList_append_B (x := (6990, 1)) rfl (.tmp 60) (.tmp 62) rfl hi hz0 hz1 hz2 rfl HD5.out.oN (by have := H30.out; omega) HD5.out.far ⟨w3.heap.size, 0, none⟩ 1 rfl (new_cells (cs := #[.int .i64 6990, .int .u64 1]) rfl) ?_; intro v6 w6 hO6 hg6 hk6; obtain ⟨row6, hd6⟩ := HD5.out.appN hO6 hg6 hk6 (⟨by unfold I64; omega, by unfold U64; omega⟩ : BnOk (6990, 1)) (by have := H30.out; omega); have res6 := hd6.res; rw [Below.heap_setCell _ _ _ _ (by simp)] at res6; obtain ⟨ao6, c6, rfl⟩ := hO6.any; have HD6 := hide hd6; obtain ⟨q0, q1, q2, q3, q4⟩ := cell5 row6; have fr := frozen_of_row w6 (w.heap.size + 1) 2 _ _ row6; obtain ⟨r0, r1, r2, r3, r4⟩ := cell5 res6; have e0 := frozen_of_row w6 w.heap.size 0 _ _ res6; have e1 := frozen_of_row w6 w.heap.size 1 _ _ res6; have e2 := frozen_of_row w6 w.heap.size 2 _ _ res6; have e3 := frozen_of_row w6 w.heap.size 3 _ _ res6; have e4 := frozen_of_row w6 w.heap.size 4 _ _ res6; clear hd6 hO6 hg6 hk6 row6 res6)
          refine bodyPost_ret (v := .agg #[.int .u64 z, .slice pa a pc, .slice ao6 (b + 1) c6, .int .i64 h, .int .u64 l]) (by simp [results, Try.results20, go_sem, q0, q1, q2, q3, q4, r0, r1, r2, r3, r4]) rfl HD6.out.fin
        · obtain ⟨q0, q1, q2, q3, q4⟩ := HD3.out.cells
          obtain ⟨r0, r1, r2, r3, r4⟩ := cell5 HD3.out.res
          have e0 := frozen_of_row w3 w.heap.size 0 _ _ HD3.out.res
          have e1 := frozen_of_row w3 w.heap.size 1 _ _ HD3.out.res
          have e2 := frozen_of_row w3 w.heap.size 2 _ _ HD3.out.res
          have e3 := frozen_of_row w3 w.heap.size 3 _ _ HD3.out.res
          have e4 := frozen_of_row w3 w.heap.size 4 _ _ HD3.out.res
          cases P with
          | nil =>
            have ha : a = 0 := HD3.out.oP.1
            subst ha
            go_wp2
            refine bodyPost_ret (v := .agg #[.int .u64 z, .slice pa 0 pc, .slice na b nc, .int .i64 h, .int .u64 l]) (by simp [results, Try.results20, go_sem, q0, q1, q2, q3, q4, r0, r1, r2, r3, r4]) rfl HD3.out.fin
          | cons x P1 =>
            have ha : (0 : Int) < (a : Int) := by have := HD3.out.oP.1; simp at this; omega
            have ha2 : 0 < a := by omega
            obtain ⟨g, off, hpa⟩ : ∃ g off, pa = some ⟨g, off, none⟩ := by
              rcases HD3.out.oP.2 with ⟨_, e0⟩ | ⟨g, off, c', cur, e, _⟩
              · omega
              · cases e; exact ⟨g, off, rfl⟩
            subst hpa
            obtain ⟨s1, s2, s3, s4, hd6⟩ := HD3.out.setW
            have HD6 := hide hd6
            clear hd6
            go_wp2
            refine bodyPost_ret (v := .agg #[.int .u64 z, .slice (some ⟨g, off, none⟩) a pc, .slice na b nc, .int .i64 h, .int .u64 l]) (by simp [results, Try.results20, go_sem, q0, q1, q2, q3, q4, r0, r1, r2, r3, r4]) rfl HD6.out.fin
        · clear hj
          go_wp2_with fail
          go_loopw [6] (fun iv wr => ∃ (i : Nat) (pa : Option Addr) (a pc : Nat) (P : List Bn), iv = .int .i64 i ∧ i ≤ 6000 + a ∧ Hid (DS W w B ao ln cap s wr z h l (.slice pa a pc) (.slice na b nc) a b P N) ∧ Hid (a ≤ 31)) (fun iv wr => 6100 - (RowKit.intOf iv).toNat)
          case atStart => exact ⟨6000, pa, a, pc, P, rfl, by omega, HD3, (by have := H30.out; omega : a ≤ 31)⟩
          case round =>
            clear HD3 H30
            obtain ⟨i, pa, a, pc, P, rfl, hia, HD3, H31⟩ := hrel
            go_wp2_with fail
            refine regionK (fun W' => W'.heap[w.heap.size + 1]? = some (.cells #[.int .u64 z, .slice pa a pc, .slice na b nc, .int .i64 h, .int .u64 l] 28 (0, 0))) 7 (by rfl) ?_
            refine takeK (i := 0) (d := 31) (v := .pointer (some ⟨w.heap.size + 1, 1, none⟩)) rfl rfl (by kernel_rfl) (by kernel_rfl) (by kernel_rfl) (by decide) (by kernel_rfl) (fun _ _ _ h => h) (Or.inl ⟨by rfl, fun W hW => ?_⟩) HD3.out.row ?_
            · clear hW
              go_simp
            simp only [List.setIfInBounds_toArray, List.set_cons_zero, List.set_cons_succ]
            refine takeK (i := 1) (d := 32) (v := .slice pa a pc) rfl rfl (by kernel_rfl) (by kernel_rfl) (by kernel_rfl) (by decide) (by kernel_rfl) (fun _ _ _ h => h) (Or.inl ⟨by rfl, fun W hW => ?_⟩) HD3.out.row ?_
            · obtain ⟨x0, x1, x2, x3, x4⟩ := cell5 hW
              go_simp
            simp only [List.setIfInBounds_toArray, List.set_cons_zero, List.set_cons_succ]
            refine takeK (i := 2) (d := 33) (v := .int .i64 a) rfl rfl (by kernel_rfl) (by kernel_rfl) (by kernel_rfl) (by decide) (by kernel_rfl) (fun _ _ _ h => h) (Or.inl ⟨by rfl, fun W hW => ?_⟩) HD3.out.row ?_
            · clear hW
              go_simp
            simp only [List.setIfInBounds_toArray, List.set_cons_zero, List.set_cons_succ]
            refine takeK (i := 3) (d := 34) (v := .pointer (some ⟨s, 0, none⟩)) rfl rfl (by kernel_rfl) (by kernel_rfl) (by kernel_rfl) (by decide) (by kernel_rfl) (fun _ _ _ h => h) (Or.inl ⟨by rfl, fun W hW => ?_⟩) HD3.out.row ?_
            · clear hW
              go_simp
            simp only [List.setIfInBounds_toArray, List.set_cons_zero, List.set_cons_succ]
            refine oneK (i := 4) (by kernel_rfl) rfl (fun K hK => ?_)
            go_simp
            refine (c_n HC.out HD3.out.drew.src _ (by omega)).mono ?_
            rintro e w4 ⟨c, rfl, c0, c1, _, hS4, hg4⟩
            have c1 := c1 (by omega)
            have HD4 := hide (HD3.out.drew.step hS4 hg4)
            dsimp only
            refine hK.out _ _ (fun _ => HD4.out.row) ?_
            clear hK K hS4 hg4 HD3
            have w29 : IntKind.i64.wrap (29 + c) = 29 + c := IntWalk.i64_in _ ⟨by omega, by omega⟩
            try simp only [Act.put, List.setIfInBounds_toArray, List.set_cons_zero, List.set_cons_succ]
            refine takeK (i := 5) (d := 36) (v := .int .i64 (29 + c)) rfl rfl (by kernel_rfl) (by kernel_rfl) (by kernel_rfl) (by decide) (by kernel_rfl) (fun _ _ _ h => h) (Or.inl ⟨by rfl, fun W hW => ?_⟩) HD4.out.row ?_
            · clear hW
              go_simp
            simp only [List.setIfInBounds_toArray, List.set_cons_zero, List.set_cons_succ]
            refine takeK (i := 6) (d := 37) (v := .bool (decide ((a : Int) < 29 + c))) rfl rfl (by kernel_rfl) (by kernel_rfl) (by kernel_rfl) (by decide) (by kernel_rfl) (fun _ _ _ h => h) (Or.inl ⟨by rfl, fun W hW => ?_⟩) HD4.out.row ?_
            · clear hW
              go_simp
            simp only [List.setIfInBounds_toArray, List.set_cons_zero, List.set_cons_succ]
            refine doneK (by kernel_rfl) ?_ _
            by_cases hac : (a : Int) < 29 + c
            · have da : decide ((a : Int) < 29 + c) = true := decide_eq_true hac
              rw [da]
              have h30 : a + 1 ≤ 31 := by omega
              clear da hac H31 c0 c1
              obtain ⟨q0, q1, q2, q3, q4⟩ := HD4.out.cells
              have HD5 := hide (HD4.out.past ((Below.refl _ _).alloc (Nat.le_refl _) (.cells #[.int .i64 i, .int .u64 2] 50)))
              go_wp2_with (at_builtin; refine wpList_append_B (x := ((i : Int), 2)) rfl (.tmp 41) (.tmp 44) rfl hi hz0 hz1 hz2 rfl HD5.out.oP (by omega) HD5.out.far ⟨w4.heap.size, 0, none⟩ 1 rfl (new_cells (cs := #[.int .i64 i, .int .u64 2]) rfl) ?_; intro v6 w6 hO6 hg6 hk6; obtain ⟨row6, hd6⟩ := HD5.out.appP hO6 hg6 hk6 (⟨by unfold I64; omega, by unfold U64; omega⟩ : BnOk ((i : Int), 2)) (by omega); obtain ⟨ao6, c6, rfl⟩ := hO6.any; have HD6 := hide hd6; obtain ⟨q0, q1, q2, q3, q4⟩ := cell5 row6; have fr := frozen_of_row w6 (w.heap.size + 1) 1 _ _ row6; clear hd6 hO6 hg6 hk6 row6)
              go_roundw
              case rel => exact ⟨i + 1, ao6, a + 1, c6, P ++ [((i : Int), 2)], by simp, by omega, HD6, (h30 : a + 1 ≤ 31)⟩
              case measure => simp [RowKit.intOf]; omega
            · have da : decide ((a : Int) < 29 + c) = false := decide_eq_false hac
              rw [da]
              clear da hac c0 c1 H31
              obtain ⟨q0, q1, q2, q3, q4⟩ := HD4.out.cells
              obtain ⟨r0, r1, r2, r3, r4⟩ := cell5 HD4.out.res
              have e0 := frozen_of_row w4 w.heap.size 0 _ _ HD4.out.res
              have e1 := frozen_of_row w4 w.heap.size 1 _ _ HD4.out.res
              have e2 := frozen_of_row w4 w.heap.size 2 _ _ HD4.out.res
              have e3 := frozen_of_row w4 w.heap.size 3 _ _ HD4.out.res
              have e4 := frozen_of_row w4 w.heap.size 4 _ _ HD4.out.res
              go_wp2
              refine bodyPost_ret (v := .agg #[.int .u64 z, .slice pa a pc, .slice na b nc, .int .i64 h, .int .u64 l]) (by simp [results, Try.results20, go_sem, q0, q1, q2, q3, q4, r0, r1, r2, r3, r4]) rfl HD4.out.fin

    · have hj0 : (0 : Int) < (j : Int) := by omega
      have hj9 : (j : Int) ≤ 9223372036854775807 := hj.2
      go_wp2_with fail
      refine (c_l03Any HC.out HD.out.src).mono ?_
      rintro e w2 ⟨v, rfl, hv, hS2, hg2⟩
      have HD2 := hide (HD.out.step hS2 hg2)
      clear HD hS2 hg2
      go_wp2_with fail
      obtain ⟨pa, pc, rfl⟩ := HD2.out.oP.any
      obtain ⟨na, nc, rfl⟩ := HD2.out.oN.any
      refine regionK (fun W' => DS W w B ao ln cap s W' z h l (.slice pa a pc) (.slice na b nc) a b P N) 5 (by rfl) ?_
      refine takeK (i := 0) (d := 22) (v := .agg #[.int .u64 z, .slice pa a pc, .slice na b nc, .int .i64 h, .int .u64 l]) rfl rfl (by kernel_rfl) (by kernel_rfl) (by kernel_rfl) (by decide) (by kernel_rfl) (fun _ _ _ h => h) (Or.inl ⟨by rfl, fun W hW => ?_⟩) HD2.out.drew ?_
      · obtain ⟨x0, x1, x2, x3, x4⟩ := hW.cells
        go_simp
      simp only [List.setIfInBounds_toArray, List.set_cons_zero, List.set_cons_succ]
      refine takeK (i := 1) (d := 23) (v := .int .i64 v) rfl rfl (by kernel_rfl) (by kernel_rfl) (by kernel_rfl) (by decide) (by kernel_rfl) (fun _ _ _ h => h) (Or.inl ⟨by rfl, fun W hW => ?_⟩) HD2.out.drew ?_
      · clear hW
        go_simp
      simp only [List.setIfInBounds_toArray, List.set_cons_zero, List.set_cons_succ]
      refine takeK (i := 2) (d := 24) (v := .pointer (some ⟨s, 0, none⟩)) rfl rfl (by kernel_rfl) (by kernel_rfl) (by kernel_rfl) (by decide) (by kernel_rfl) (fun _ _ _ h => h) (Or.inl ⟨by rfl, fun W hW => ?_⟩) HD2.out.drew ?_
      · clear hW
        go_simp
      simp only [List.setIfInBounds_toArray, List.set_cons_zero, List.set_cons_succ]
      refine oneK (i := 3) (by kernel_rfl) rfl (fun K hK => ?_)
      go_simp
      refine (c_l01Weight HC.out HD2.out.drew.src).mono ?_
      rintro e w3 ⟨wt, rfl, hwt, hS3, hg3⟩
      have HD3 := hide (HD2.out.drew.step hS3 hg3)
      dsimp only
      refine hK.out _ _ (fun _ => HD3.out) ?_
      clear hK K hS3 hg3
      try simp only [Act.put, List.setIfInBounds_toArray, List.set_cons_zero, List.set_cons_succ]
      refine oneK (i := 4) (by kernel_rfl) rfl (fun K hK => ?_)
      go_simp
      refine (c_s_SketchPut HD3.out.hz HD3.out.hl hv hwt HD3.out.oP.1.symm HD3.out.oN.1.symm (by have := H30.out; omega) (by have := H30.out; omega) HD3.out.oP.at HD3.out.oN.at HD3.out.kP HD3.out.kN HD3.out.oP.nil0 HD3.out.oN.nil0).mono ?_
      rintro e w4 ⟨v4, rfl, hb4, hq4⟩
      obtain ⟨z', h', l', P', N', ho, hz', hl', kP', kN', lP', lN'⟩ := put_outS HD3.out.hz HD3.out.hl hwt HD3.out.kP HD3.out.kN (by have := H30.out; have := HD3.out.oP.1; omega) (by have := H30.out; have := HD3.out.oN.1; omega) hq4
      obtain ⟨p', n', a', b', rfl, o1, o2, hap⟩ := ho
      obtain ⟨ao1, c1, rfl⟩ := o1.any
      obtain ⟨ao2, c2, rfl⟩ := o2.any
      have la' := o1.1
      have lb' := o2.1
      have HD4 := hide (HD3.out.past hb4)
      have HD5 := hide (HD3.out.put (h' := h') hb4 o1 o2 hap hz' hl' kP' kN' (by omega) (by omega))
      have H5 : Hid (a' ≤ 30 ∧ b' ≤ 30) := (⟨by omega, by omega⟩ : a' ≤ 30 ∧ b' ≤ 30)
      dsimp only
      refine hK.out _ _ (fun _ => HD4.out) ?_
      clear hK K hb4 hq4 o1 o2 hap hz' hl' kP' kN' la' lb' lP' lN'
      try simp only [Act.put, List.setIfInBounds_toArray, List.set_cons_zero, List.set_cons_succ]
      refine oneK (i := 5) (by kernel_rfl) rfl (fun K hK => ?_)
      obtain ⟨q0, q1, q2, q3, q4⟩ := HD4.out.cells
      have fr0 := frozen_of_row w4 (w.heap.size + 1) 0 _ _ HD4.out.row
      have fr1 := frozen_of_row w4 (w.heap.size + 1) 1 _ _ HD4.out.row
      have fr2 := frozen_of_row w4 (w.heap.size + 1) 2 _ _ HD4.out.row
      have fr3 := frozen_of_row w4 (w.heap.size + 1) 3 _ _ HD4.out.row
      have fr4 := frozen_of_row w4 (w.heap.size + 1) 4 _ _ HD4.out.row
      go_simp
      refine hK.out _ _ (fun h => absurd rfl h) ?_
      clear hK K
      try simp only [Act.put, List.setIfInBounds_toArray, List.set_cons_zero, List.set_cons_succ]
      refine doneK (by kernel_rfl) ?_ _
      clear q0 q1 q2 q3 q4 fr0 fr1 fr2 fr3 fr4
      go_wp2
      go_roundw
      case rel => exact ⟨j - 1, z', h', l', _, _, _, _, _, _, by congr 1; omega, by unfold I64 at *; omega, HD5, H5⟩
      case measure => simp [RowKit.intOf]; omega
end Go.Proofs.Ytimocbbaplghoaa
