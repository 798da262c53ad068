/-
  A drawn Top.
-/
import Derived.Test.YtmhojmgemiphkaaDrawC
import Derived.Test.YtmhojmgemiphkaaTopL
import Derived.Test.YtmhojmgemiphkaaTopX
import Derived.Test.YtmhojmgemiphkaaTopM
namespace Go.Proofs.Ytmhojmgemiphkaa
set_option linter.unusedVariables false
set_option linter.unusedSimpArgs false
open Go.ChangeShapes Go.WideShapes Go.ChangeAt Go.RowKit Go.PlainAid
set_option maxRecDepth 10000

set_option maxHeartbeats 1000000 in
theorem c_l05AnyKey {W w : World} {B ln cap s : Nat} {ao : Option Addr} (hc : CodeAt W B ao ln) (h : Src W B ao ln cap s w) :
    Calls Try.prog 39 #[.pointer (some ⟨s, 0, none⟩)] w fun e w' => ∃ u, e = .returned (.string u) ∧ u.size ≤ 1 ∧ Src W B ao ln cap s w' ∧ w.grownBy w' (some s) := by
  go_enter Try.func39, Try.ntmps39
  go_wp2_with (go_at_call 54; refine (c_pick_lit hc h 1 (by rfl) (by omega) (by omega) (by decide)).mono ?_; rintro e w2 ⟨u, rfl, hu, hS2, hg2⟩)
  go_ret
  exact ⟨u, rfl, hu, hS2, hg2⟩
structure DT (W w : World) (B : Nat) (ao : Option Addr) (ln cap s : Nat) (wr : World) (p : Value) (d t : Int) (L : List Hv) : Prop where
  src : Src W B ao ln cap s wr
  lt : s < w.heap.size
  gr : w.grownBy wr (some s)
  row : wr.heap[w.heap.size + 1]? = some (.cells #[p, .int .i64 d, .int .i64 t] 28 (0, 0))
  res : wr.heap[w.heap.size]? = some (.cells zeroTp 28 (0, 0))
  own : OwnH wr w.heap.size p L
  hd : I64 d
  ht : I64 t
  ok : ∀ x ∈ L, HvOk x
  len : L.length ≤ 60
section
variable {W w : World} {B : Nat} {ao : Option Addr} {ln cap s : Nat} {wr : World} {p : Value} {d t : Int} {L : List Hv}
theorem DT.step (k : DT W w B ao ln cap s wr p d t L) {w1 : World} (hS : Src W B ao ln cap s w1) (hg : wr.grownBy w1 (some s)) : DT W w B ao ln cap s w1 p d t L := by
  have hz := k.lt
  exact ⟨hS, k.lt, k.gr.trans hg, by rw [hg.block _ (Array.getElem?_eq_some_iff.1 k.row).1 (fun e => by cases e; omega)]; exact k.row, by rw [hg.block _ (Array.getElem?_eq_some_iff.1 k.res).1 (fun e => by cases e; omega)]; exact k.res, k.own.kept hg (fun j e e2 => by have := (k.own.lt j e).1; cases e2; omega), k.hd, k.ht, k.ok, k.len⟩
theorem DT.drew (k : DT W w B ao ln cap s wr p d t L) : DT W w B ao ln cap s wr.drew p d t L := k.step (src_drews (k := 1) k.src) (grown_drews wr 1 _)
theorem DT.past (k : DT W w B ao ln cap s wr p d t L) {w1 : World} (hb : Below wr.heap.size wr w1) : DT W w B ao ln cap s w1 p d t L :=
  k.step (src_past k.src hb) ⟨hb.os, hb.tape, hb.output, hb.size, fun j hj _ => hb.block j hj⟩
theorem DT.far (k : DT W w B ao ln cap s wr p d t L) : w.heap.size ≤ wr.heap.size := k.gr.size
theorem grown_setP {w w1 : World} {r : Option Nat} {a : Addr} {u : Value} (h : w.grownBy w1 r) (ha : w.heap.size ≤ a.block) : w.grownBy (w1.setCell a u) r :=
  ⟨h.os, h.tape, h.output, by simpa using h.size, fun k hk hne => by rw [Below.heap_setCell _ _ _ _ (by omega)]; exact h.block k hk hne⟩
theorem src_setP {w1 : World} (h : Src W B ao ln cap s w1) {a : Addr} {u : Value} (ha : s < a.block) : Src W B ao ln cap s (w1.setCell a u) := by
  obtain ⟨x, m, y, hk, h1, h2⟩ := h.blk
  exact ⟨h.bel.setCell (Nat.le_of_lt (Nat.lt_of_le_of_lt h.hB ha)) u, h.hB, x, m, y, by rw [Below.heap_setCell _ _ _ _ (by omega)]; exact hk, h1, h2⟩
theorem DT.put (k : DT W w B ao ln cap s wr p d t L) {w1 : World} (hb : Below wr.heap.size wr w1) {p' : Value} {d' t' : Int} {L' : List Hv} (o1 : OwnH w1 wr.heap.size p' L') (hd : I64 d') (ht : I64 t') (ok : ∀ x ∈ L', HvOk x) (len : L'.length ≤ 60) :
    DT W w B ao ln cap s (tp3 w1 (w.heap.size + 1) p' d' t') p' d' t' L' := by
  have d1 := k.past hb
  have hlt := k.lt
  have q1 := o1.ne d1.row (by decide)
  refine ⟨?_, k.lt, ?_, row3 d1.row, ?_, ((((o1.le k.far).set q1 _).set q1 _).set q1 _), hd, ht, ok, len⟩
  · exact src_setP (src_setP (src_setP d1.src (by exact Nat.lt_succ_of_lt hlt)) (by exact Nat.lt_succ_of_lt hlt)) (by exact Nat.lt_succ_of_lt hlt)
  · exact grown_setP (grown_setP (grown_setP d1.gr (by simp)) (by simp)) (by simp)
  · rw [Below.heap_setCell _ _ _ _ (by simp), Below.heap_setCell _ _ _ _ (by simp), Below.heap_setCell _ _ _ _ (by simp)]; exact d1.res
theorem DT.set (k : DT W w B ao ln cap s wr p d t L) {d' t' : Int} {j : Nat} {u : Value} (hj : j = 1 ∧ u = .int .i64 d' ∧ t' = t ∨ j = 2 ∧ u = .int .i64 t' ∧ d' = d) (hd : I64 d') (ht : I64 t') : DT W w B ao ln cap s (wr.setCell ⟨w.heap.size + 1, j, none⟩ u) p d' t' L := by
  have hlt := k.lt
  have q1 := k.own.ne k.row (by decide)
  refine ⟨src_setP k.src (by exact Nat.lt_succ_of_lt hlt), k.lt, grown_setP k.gr (by exact Nat.le_succ _), ?_, by rw [Below.heap_setCell _ _ _ _ (by simp)]; exact k.res, k.own.set q1 _, hd, ht, k.ok, k.len⟩
  rcases hj with ⟨rfl, rfl, rfl⟩ | ⟨rfl, rfl, rfl⟩
  · exact heap_setCell_same wr _ 1 _ _ _ k.row
  · exact heap_setCell_same wr _ 2 _ _ _ k.row
theorem DT.app (k : DT W w B ao ln cap s wr p d t L) {w1 : World} {v : Value} {x : Hv} (hO : OwnH w1 w.heap.size v (L ++ [x])) (hg : wr.grownBy w1 p.ownBlock) (hx : HvOk x) (h60 : L.length + 1 ≤ 60) :
    w1.heap[w.heap.size + 1]? = some (.cells #[p, .int .i64 d, .int .i64 t] 28 (0, 0)) ∧ w1.heap[w.heap.size]? = some (.cells zeroTp 28 (0, 0)) ∧ DT W w B ao ln cap s (w1.setCell ⟨w.heap.size + 1, 0, none⟩ v) v d t (L ++ [x]) := by
  have hlt := k.lt
  have hf := k.far
  have b1 : p.ownBlock ≠ some (w.heap.size + 1) := k.own.ne k.row (by decide)
  have b2 : p.ownBlock ≠ some w.heap.size := k.own.ne k.res (by decide)
  have row1 : w1.heap[w.heap.size + 1]? = some (.cells #[p, .int .i64 d, .int .i64 t] 28 (0, 0)) := by rw [hg.block _ (Array.getElem?_eq_some_iff.1 k.row).1 (fun e => b1 e.symm)]; exact k.row
  have res1 : w1.heap[w.heap.size]? = some (.cells zeroTp 28 (0, 0)) := by rw [hg.block _ (Array.getElem?_eq_some_iff.1 k.res).1 (fun e => b2 e.symm)]; exact k.res
  have bel : Below w.heap.size wr w1 := ⟨hg.os, hg.tape, hg.output, hg.size, fun j hj => hg.block j (by omega) (fun e => by have := (k.own.lt j e.symm).1; omega)⟩
  have src1 : Src W B ao ln cap s w1 := by
    obtain ⟨x, m, y, h0, h1, h2⟩ := k.src.blk
    exact ⟨k.src.bel.trans (bel.mono (Nat.le_trans k.src.hB (Nat.le_of_lt hlt))), k.src.hB, x, m, y, by rw [bel.block s hlt]; exact h0, h1, h2⟩
  have gr1 : w.grownBy w1 (some s) := ⟨hg.os.trans k.gr.os, hg.tape.trans k.gr.tape, hg.output.trans k.gr.output, Nat.le_trans hf hg.size, fun j hj hne => by rw [bel.block j hj]; exact k.gr.block j hj hne⟩
  refine ⟨row1, res1, src_setP src1 (by exact Nat.lt_succ_of_lt hlt), hlt, grown_setP gr1 (by exact Nat.le_succ _), heap_setCell_same w1 _ 0 _ _ _ row1, by rw [Below.heap_setCell _ _ _ _ (by simp)]; exact res1, hO.set (hO.ne row1 (by decide)) _, k.hd, k.ht, ?_, by rw [List.length_append]; exact h60⟩
  intro y hy
  rcases List.mem_append.1 hy with hy | hy
  · exact k.ok y hy
  · obtain rfl := List.mem_singleton.1 hy; exact hx
/-- What a drawn Top is. -/
def DrawnTp (W : World) (B : Nat) (ao : Option Addr) (ln cap s : Nat) (w : World) (e : Ending) (w' : World) : Prop := ∃ v L d t, e = .returned v ∧ TopOut w' w.heap.size v L d t ∧ I64 d ∧ I64 t ∧ (∀ x ∈ L, HvOk x) ∧ L.length ≤ 60 ∧ Src W B ao ln cap s w' ∧ w.grownBy w' (some s)
theorem DT.fin (k : DT W w B ao ln cap s wr p d t L) : DrawnTp W B ao ln cap s w (.returned (.agg #[p, .int .i64 d, .int .i64 t])) (tp3 wr w.heap.size p d t) := by
  have hlt := k.lt
  have q1 := k.own.ne k.res (by decide)
  refine ⟨_, L, d, t, rfl, ⟨p, rfl, (((k.own.set q1 _).set q1 _).set q1 _)⟩, k.hd, k.ht, k.ok, k.len, ?_, ?_⟩
  · exact src_setP (src_setP (src_setP k.src (by exact hlt)) (by exact hlt)) (by exact hlt)
  · exact grown_setP (grown_setP (grown_setP k.gr (by exact Nat.le_refl _)) (by exact Nat.le_refl _)) (by exact Nat.le_refl _)
end
/-- A put hands back valid heavies. -/
theorem put_outT {w' : World} {B : Nat} {v : Value} {da ta wt : Int} {key : ByteArray} {P : List Hv} (hkz : key.size ≤ 1) (hd : I64 da) (ht : I64 ta) (kP : ∀ x ∈ P, HvOk x) (lP : P.length ≤ 30)
    (hq : (tpOk P da ta key wt ∧ ∃ d, DebtV (hvAdd P (key, wt)) d ∧ TopOut w' B v (lessH (hvAdd P (key, wt)) d) (da + d) (ta + wt)) ∨ (¬ tpOk P da ta key wt ∧ TopOut w' B v P da ta)) :
    ∃ L d t, TopOut w' B v L d t ∧ I64 d ∧ I64 t ∧ (∀ x ∈ L, HvOk x) ∧ L.length ≤ 30 := by
  rcases hq with ⟨ok, d, hv, ho⟩ | ⟨_, ho⟩
  · obtain ⟨_, h0, _, h2, h3, h4, h5⟩ := topB_iff.1 ok.1
    have hs := sumH_nn (fun x hx => (h4 x hx).2.1)
    obtain ⟨hd0, ht0⟩ := less_top (add_rise (x := (key, wt)) h3) (fun z hz => by
      rcases add_mem hz with rfl | hz | ⟨y, hy, e, rfl⟩
      · exact ⟨ok.2.1, ok.2.2.1⟩
      · exact ⟨(h4 z hz).1, (h4 z hz).2.1⟩
      · have q := h4 y hy; have q2 := ok.2.2.1; exact ⟨q.1, by show 1 ≤ y.2 + wt; omega⟩) h0 hv ok.2.2.2.2 (by rw [sum_addH]; show 6 * da + (sumH P + wt) ≤ _; omega)
    obtain ⟨g1, g2, g3, g4, g5, g6, g7⟩ := topB_iff.1 ht0
    have q2 := ok.2.2.1
    have q3 := ok.2.2.2.2
    refine ⟨_, _, _, ho, by unfold I64; omega, by unfold I64; omega, fun x hx => ?_, by omega⟩
    have gx := g6 x hx
    have gk := gx.1
    unfold keyB at gk
    simp only [Bool.and_eq_true, decide_eq_true_eq] at gk
    exact ⟨by omega, by unfold I64; omega⟩
  · exact ⟨P, da, ta, ho, hd, ht, kP, lP⟩

end Go.Proofs.Ytmhojmgemiphkaa
