/-
  The law FnExactPipeNew: at every list of texts and every width and grace the program makes the pipe that the model makes, in memory of its own; nothing that was there has turned. No condition.
-/
import Derived.Test.YtgdhojeobcpoiaaPnB
import Derived.Test.YtgdhojeobcpoiaaPnD
import Derived.Test.YtgdhojeobcpoiaaOpenS
import Derived.Lib.SmallJoins
import Derived.Carry
import Derived.Deep.RegionHeld3
import Derived.Deep.DeepCutAuto
import Derived.ShutString
import Derived.ChangeOld
namespace Go.Proofs.Ytgdhojeobcpoiaa
set_option linter.unusedVariables false
set_option linter.unusedSimpArgs false
open Go.ChangeMaps (open_string shut_string)
open Go.ChangeShapes Go.WideShapes Go.ChangeAt Go.RowKit Go.Joins
set_option maxRecDepth 10000

theorem ne_blockP {w : World} {B g : Nat} {v : Value} {L : List ByteArray} (h : OwnS w B v L) (hg : g < B ∨ w.heap.size ≤ g) : v.ownBlock = none ∨ v.ownBlock ≠ some g := by
  cases e : v.ownBlock with
  | none => exact .inl rfl
  | some k =>
    right
    have := World.ownsRow.lt h k e
    intro q
    cases q
    omega
theorem row_pastQ {w w' : World} {r : Nat} {b : Obj} (h : w.heap[r]? = some b) (hb : Below w.heap.size w w') : w'.heap[r]? = some b := (hb.block _ (Array.getElem?_eq_some_iff.1 h).1).trans h
theorem row_grownQ {w w' : World} {r : Nat} {b : Obj} {s : Option Nat} (h : w.heap[r]? = some b) (hg : w.grownBy w' s) (hn : s = none ∨ s ≠ some r) : w'.heap[r]? = some b :=
  (hg.block r (Array.getElem?_eq_some_iff.1 h).1 (fun e => by rcases hn with h | h; · rw [h] at e; cases e
                                                              · exact h e.symm)).trans h
theorem members_len {L : List ByteArray} (h : membersB L = true) : L.length ≤ 12 := by
  unfold membersB at h
  simp at h
  exact h.1.2
theorem pn_len {L R : List ByteArray} {a b a' b' : Int} (h : (R, a', b') = (if pnB L a b then (L, a, b) else ([], 0, 0))) : R.length ≤ 96 := by
  cases q : pnB L a b with
  | false => rw [q] at h; simp at h; rw [h.1]; simp
  | true =>
    rw [q] at h; simp at h; rw [h.1]
    have : membersB L = true := by unfold pnB at q; simp at q; exact q.1.1
    have := members_len this; omega
set_option maxHeartbeats 1500000 in
theorem walkPipeNew (ao : Option Addr) (cap : Nat) (L : List ByteArray) (a b : Int) (w : World) (hl : L.length ≤ maxLen) (hu : ∀ u ∈ L, u.size ≤ maxLen) (hS : StrsAt w ao L) (_ : I64 a) (_ : I64 b) :
    Calls Try.prog 3 #[.slice ao L.length cap, .int .i64 a, .int .i64 b] w fun e w' => e = .returned (.bool true) ∧ Below w.heap.size w w' := by
  have HAl : Hid (∀ (W : World) o, Below W.heap.size W (W.alloc o)) := fun W o => (Below.refl _ _).alloc (Nat.le_refl _) _
  go_enter Try.func3, Try.ntmps3
  go_wp2_with (go_at_call 4; refine (c_szStringS _ _ (by omega) (by omega) hl hu hS).mono ?_; rintro e w1 ⟨v, rfl, hv, hn, hw⟩; obtain rfl := hw.symm)
  · go_ret
    exact ⟨rfl, Below.refl _ _⟩
  obtain ⟨hl, hu⟩ := hn ‹_›
  clear hn
  go_wp2_with (go_at_call 6; refine (c_toStringS _ hl hS).mono ?_; rintro e w1 ⟨g1, rfl, ho1, hb1⟩)
  refine (c_s_PipeNew _ a b hl hu (strs_owned ho1)).mono ?_
  rintro e w2 ⟨v2, R, a2, b2, rfl, hq, ho2, hb2⟩
  obtain ⟨ao2, cp2, ev⟩ := own_any ho2
  subst ev
  have hRl := pn_len hq
  have HQ := hide hq
  have T2 := hide (chain hb1 hb2)
  have O2 := hide ho2
  have SS := hide hS
  have z12 := hb1.size
  clear ho1 ho2 hq hb1 hb2 hS
  obtain ⟨N, hN⟩ : ∃ N, R.length = N := ⟨_, rfl⟩
  have HN := hide hN
  rw [hN] at O2 hRl ⊢
  clear hN
  have X2 := hide (heap_alloc_new w2 (.cells #[.slice ao2 N cp2, .int .i64 a2, .int .i64 b2, .int .i64 0, .int .i64 0] 26))
  have B2 := HAl.out w2 (.cells #[.slice ao2 N cp2, .int .i64 a2, .int .i64 b2, .int .i64 0, .int .i64 0] 26)
  have T2' := hide (chain T2.out B2)
  have O2' := hide (O2.out.past B2)
  clear B2
  go_wp2_with fail
  generalize w2.alloc (.cells #[.slice ao2 N cp2, .int .i64 a2, .int .i64 b2, .int .i64 0, .int .i64 0] 26) = W2 at X2 T2' O2' ⊢
  have r0lt : Hid (w2.heap.size < W2.heap.size) := (Array.getElem?_eq_some_iff.1 X2.out).1
  have O2lt : Hid (∀ k, (Value.slice ao2 N cp2).ownBlock = some k → w1.heap.size ≤ k ∧ k < w2.heap.size) := fun k hk => World.ownsRow.lt O2.out k hk
  generalize w2.heap.size = r0 at X2 r0lt O2lt ⊢
  have T2s : Hid (w.heap.size ≤ W2.heap.size) := T2'.out.size
  clear O2 T2
  refine (c_toStringS _ hl (strs_past SS.out T2'.out)).mono ?_
  rintro e w3 ⟨g3, rfl, ho3, hb3⟩
  have T3 := hide (chain T2'.out hb3)
  have X3 := hide (row_pastQ X2.out hb3)
  have P3 := hide (O2'.out.past hb3)
  have O3 := hide ho3
  have g3lt := hide (World.ownsRow.lt ho3 g3 rfl)
  clear X2 T2' O2' ho3 hb3
  go_wp2_with fail
  refine (c_i_PipeNew _ a b hl hu (strs_owned O3.out)).mono ?_
  rintro e w4 ⟨v4, R4, a4, b4, rfl, hq4, ho4, hb4⟩
  obtain ⟨rfl, rfl, rfl⟩ : R = R4 ∧ a2 = a4 ∧ b2 = b4 := by have := HQ.out.trans hq4.symm; simpa using this
  obtain ⟨ao4, cp4, ev⟩ := own_any ho4
  subst ev
  rw [HN.out] at ho4 ⊢
  have T4 := hide (chain T3.out hb4)
  have X4 := hide (row_pastQ X3.out hb4)
  have P4 := hide (P3.out.past hb4)
  have O4 := hide (own_past O3.out hb4)
  have Q4 := hide ho4
  have Q4lt : Hid (∀ k, (Value.slice ao4 N cp4).ownBlock = some k → w3.heap.size ≤ k ∧ k < w4.heap.size) := fun k hk => World.ownsRow.lt ho4 k hk
  have z34 := hb4.size
  have g3l3 : Hid (g3 < w3.heap.size) := g3lt.out.2
  clear X3 T3 P3 O3 ho4 hq4 hb4
  have Y5 := hide (heap_alloc_new w4 (.cells #[.slice ao4 N cp4, .int .i64 a2, .int .i64 b2, .int .i64 0, .int .i64 0] 26))
  have B5 := HAl.out w4 (.cells #[.slice ao4 N cp4, .int .i64 a2, .int .i64 b2, .int .i64 0, .int .i64 0] 26)
  have T5 := hide (chain T4.out B5)
  have X5 := hide (row_pastQ X4.out B5)
  have P5 := hide (P4.out.past B5)
  have O5 := hide (own_past O4.out B5)
  have Q5 := hide (Q4.out.past B5)
  clear B5 T4 X4 P4 O4 Q4
  have x0 := cellKP X5.out 0 rfl
  have x1 := cellKP X5.out 1 rfl
  have x2 := cellKP X5.out 2 rfl
  have x3 := cellKP X5.out 3 rfl
  have x4 := cellKP X5.out 4 rfl
  have y0 := cellKP Y5.out 0 rfl
  have y1 := cellKP Y5.out 1 rfl
  have y2 := cellKP Y5.out 2 rfl
  have y3 := cellKP Y5.out 3 rfl
  have y4 := cellKP Y5.out 4 rfl
  have r1lt : Hid (r0 < w4.heap.size) := by show _ < _; have := g3lt.out.1; have := r0lt.out; have := g3l3.out; omega
  go_upto_region 8 with fail
  generalize w4.alloc (.cells #[.slice ao4 N cp4, .int .i64 a2, .int .i64 b2, .int .i64 0, .int .i64 0] 26) = W4 at Y5 T5 X5 P5 O5 Q5 x0 x1 x2 x3 x4 y0 y1 y2 y3 y4 ⊢
  generalize w4.heap.size = r1 at Y5 r1lt Q4lt z34 y0 y1 y2 y3 y4 ⊢
  go_wp2_with fail
  clear x0 x1 x2 x3 x4
  clear y0 y1 y2 y3 y4
  refine (c_eqPipe0 a2 b2 0 0 (by rw [HN.out]; exact hRl) Q5.out P5.out).mono ?_
  rintro e w5 ⟨rfl, hb5⟩
  have T6 := hide (chain T5.out hb5)
  have X6 := hide (row_pastQ X5.out hb5)
  have Y6 := hide (row_pastQ Y5.out hb5)
  have P6 := hide (P5.out.past hb5)
  have O6 := hide (own_past O5.out hb5)
  have Q6 := hide (Q5.out.past hb5)
  clear hb5 T5 X5 Y5 P5 O5 Q5
  go_wp2_with fail
  refine (c_toStringS _ hl (strs_past SS.out T6.out)).mono ?_
  rintro e w6 ⟨g6, rfl, ho6, hb6⟩
  have T7 := hide (chain T6.out hb6)
  have X7 := hide (row_pastQ X6.out hb6)
  have Y7 := hide (row_pastQ Y6.out hb6)
  have P7 := hide (P6.out.past hb6)
  have O7 := hide (own_past O6.out hb6)
  have Q7 := hide (Q6.out.past hb6)
  have O6n := hide ho6
  clear hb6 T6 X6 Y6 P6 O6 Q6 ho6
  go_wp2_with fail
  refine (c_eqStringS _ _ hl (strs_owned O7.out) (strs_owned O6n.out)).mono ?_
  rintro e w7 ⟨rfl, hb7⟩
  have T8 := hide (chain T7.out hb7)
  have X8 := hide (row_pastQ X7.out hb7)
  have Y8 := hide (row_pastQ Y7.out hb7)
  have P8 := hide (P7.out.past hb7)
  have O8 := hide (own_past O7.out hb7)
  have Q8 := hide (Q7.out.past hb7)
  clear hb7 T7 X7 Y7 P7 O7 Q7 O6n
  go_wp2_with fail
  refine (c_markStrP 1 (by omega) (by omega) hl O8.out).mono ?_
  rintro e w8 ⟨rfl, hg8⟩
  have n3 : ∀ r, r ≠ g3 → (some g3 : Option Nat) = none ∨ (some g3 : Option Nat) ≠ some r := fun r hr => .inr (fun e => by cases e; exact hr rfl)
  have T9 : Hid (Below w.heap.size w w8) := T8.out.grown hg8 T8.out.size (fun k e => by cases e; have := g3lt.out.1; have := T2s.out; omega)
  have X9 := hide (row_grownQ X8.out hg8 (n3 _ (by have := g3lt.out.1; have := r0lt.out; omega)))
  have Y9 := hide (row_grownQ Y8.out hg8 (n3 _ (by have := g3l3.out; omega)))
  have P9 : Hid (OwnS w8 w1.heap.size (.slice ao2 N cp2) R) := World.ownsRow.kept P8.out hg8 (by
    cases q : (Value.slice ao2 N cp2).ownBlock with
    | none => exact .inl rfl
    | some j => exact .inr (fun e => by cases e; have := (O2lt.out _ q).2; have := g3lt.out.1; have := r0lt.out; omega))
  have Q9 : Hid (OwnS w8 w3.heap.size (.slice ao4 N cp4) R) := World.ownsRow.kept Q8.out hg8 (by
    cases q : (Value.slice ao4 N cp4).ownBlock with
    | none => exact .inl rfl
    | some j => exact .inr (fun e => by cases e; have := (Q4lt.out _ q).1; have := g3l3.out; omega))
  clear hg8 n3 T8 X8 Y8 P8 O8 Q8
  have x0 := cellKP X9.out 0 rfl
  have x1 := cellKP X9.out 1 rfl
  have x2 := cellKP X9.out 2 rfl
  have x3 := cellKP X9.out 3 rfl
  have x4 := cellKP X9.out 4 rfl
  have y0 := cellKP Y9.out 0 rfl
  have y1 := cellKP Y9.out 1 rfl
  have y2 := cellKP Y9.out 2 rfl
  have y3 := cellKP Y9.out 3 rfl
  have y4 := cellKP Y9.out 4 rfl
  go_wp2_with fail
  clear x0 x1 x2 x3 x4
  clear y0 y1 y2 y3 y4
  refine (c_eqPipe0 a2 b2 0 0 (by rw [HN.out]; exact hRl) Q9.out P9.out).mono ?_
  rintro e w9 ⟨rfl, hb9⟩
  have T10 := hide (chain T9.out hb9)
  have X10 := hide (row_pastQ X9.out hb9)
  have Y10 := hide (row_pastQ Y9.out hb9)
  have P10 := hide (P9.out.past hb9)
  have Q10 := hide (Q9.out.past hb9)
  clear hb9 T9 X9 Y9 P9 Q9
  have y0 := cellKP Y10.out 0 rfl
  have y1 := cellKP Y10.out 1 rfl
  have y2 := cellKP Y10.out 2 rfl
  have y3 := cellKP Y10.out 3 rfl
  have y4 := cellKP Y10.out 4 rfl
  go_wp2_with fail
  clear y0 y1 y2 y3 y4
  refine (c_markPipe0 a2 b2 0 0 (by rw [HN.out]; exact hRl) Q10.out).mono ?_
  rintro e w10 ⟨rfl, hq11, hg10⟩
  rw [HN.out] at hq11 ⊢
  have n4 : ∀ r, r < w3.heap.size ∨ r1 ≤ r → (Value.slice ao4 N cp4).ownBlock = none ∨ (Value.slice ao4 N cp4).ownBlock ≠ some r := fun r hr => by
    cases q : (Value.slice ao4 N cp4).ownBlock with
    | none => exact .inl rfl
    | some j => exact .inr (fun e => by cases e; have := Q4lt.out _ q; omega)
  have T11 : Hid (Below w.heap.size w w10) := T10.out.grown hg10 T10.out.size (fun k e => by have := (Q4lt.out k e).1; have := T2s.out; have := g3lt.out.1; have := g3l3.out; omega)
  have X11 := hide (row_grownQ X10.out hg10 (n4 _ (.inl (by have := g3lt.out.1; have := r0lt.out; have := g3l3.out; omega))))
  have Y11 := hide (row_grownQ Y10.out hg10 (n4 _ (.inr (Nat.le_refl _))))
  have P11 : Hid (OwnS w10 w1.heap.size (.slice ao2 N cp2) R) := World.ownsRow.kept P10.out hg10 (by
    cases q : (Value.slice ao2 N cp2).ownBlock with
    | none => exact .inl rfl
    | some j => exact .inr (fun e => by have h1 := (O2lt.out _ q).2; have h2 := (Q4lt.out j e.symm).1; have := g3lt.out.1; have := r0lt.out; have := g3l3.out; omega))
  have Q11 := hide hq11
  clear hg10 n4 T10 X10 Y10 P10 Q10 hq11
  have y0 := cellKP Y11.out 0 rfl
  have y1 := cellKP Y11.out 1 rfl
  have y2 := cellKP Y11.out 2 rfl
  have y3 := cellKP Y11.out 3 rfl
  have y4 := cellKP Y11.out 4 rfl
  go_wp2_with fail
  clear y0 y1 y2 y3 y4
  refine (c_heldPipe0 a2 b2 0 0 hRl Q11.out).mono ?_
  rintro e w11 ⟨rfl, hb11⟩
  have T12 := hide (chain T11.out hb11)
  have X12 := hide (row_pastQ X11.out hb11)
  have Y12 := hide (row_pastQ Y11.out hb11)
  have P12 := hide (P11.out.past hb11)
  have Q12 := hide (Q11.out.past hb11)
  clear hb11 T11 X11 Y11 P11 Q11
  go_wp2_with fail
  refine (c_toStringS _ hl (strs_past SS.out T12.out)).mono ?_
  rintro e w12 ⟨g12, rfl, ho12, hb12⟩
  have T13 := hide (chain T12.out hb12)
  have X13 := hide (row_pastQ X12.out hb12)
  have Y13 := hide (row_pastQ Y12.out hb12)
  have P13 := hide (P12.out.past hb12)
  have Q13 := hide (Q12.out.past hb12)
  have O12 := hide ho12
  clear hb12 T12 X12 Y12 P12 Q12 ho12
  go_wp2_with fail
  refine (c_i_PipeNew _ a b hl hu (strs_owned O12.out)).mono ?_
  rintro e w13 ⟨v13, R13, a13, b13, rfl, hq13, ho13, hb13⟩
  obtain ⟨rfl, rfl, rfl⟩ : R = R13 ∧ a2 = a13 ∧ b2 = b13 := by have := HQ.out.trans hq13.symm; simpa using this
  obtain ⟨ao13, cp13, ev⟩ := own_any ho13
  subst ev
  rw [HN.out] at ho13 ⊢
  have Z14 := hide (heap_alloc_new w13 (.cells #[.slice ao13 N cp13, .int .i64 a2, .int .i64 b2, .int .i64 0, .int .i64 0] 26))
  have B14 := HAl.out w13 (.cells #[.slice ao13 N cp13, .int .i64 a2, .int .i64 b2, .int .i64 0, .int .i64 0] 26)
  have T14 := hide (chain (chain T13.out hb13) B14)
  have X14 := hide (row_pastQ (row_pastQ X13.out hb13) B14)
  have Y14 := hide (row_pastQ (row_pastQ Y13.out hb13) B14)
  have P14 := hide ((P13.out.past hb13).past B14)
  have Q14 := hide ((Q13.out.past hb13).past B14)
  have S14 := hide (OwnS.past ho13 B14)
  clear B14 hb13 hq13 ho13 T13 X13 Y13 P13 Q13 O12
  have x0 := cellKP X14.out 0 rfl
  have x1 := cellKP X14.out 1 rfl
  have x2 := cellKP X14.out 2 rfl
  have x3 := cellKP X14.out 3 rfl
  have x4 := cellKP X14.out 4 rfl
  have y0 := cellKP Z14.out 0 rfl
  have y1 := cellKP Z14.out 1 rfl
  have y2 := cellKP Z14.out 2 rfl
  have y3 := cellKP Z14.out 3 rfl
  have y4 := cellKP Z14.out 4 rfl
  go_upto_region 25 with fail
  generalize w13.alloc (.cells #[.slice ao13 N cp13, .int .i64 a2, .int .i64 b2, .int .i64 0, .int .i64 0] 26) = W13 at Z14 T14 X14 Y14 P14 Q14 S14 x0 x1 x2 x3 x4 y0 y1 y2 y3 y4 ⊢
  generalize w13.heap.size = r2 at Z14 S14 y0 y1 y2 y3 y4 ⊢
  go_wp2_with fail
  clear x0 x1 x2 x3 x4
  clear y0 y1 y2 y3 y4
  refine (c_eqPipe0 a2 b2 0 0 (by rw [HN.out]; exact hRl) S14.out P14.out).mono ?_
  rintro e w14 ⟨rfl, hb14⟩
  have T15 := hide (chain T14.out hb14)
  have Y15 := hide (row_pastQ Y14.out hb14)
  have Q15 := hide (Q14.out.past hb14)
  clear hb14 T14 X14 Y14 P14 Q14 S14
  have y0 := cellKP Y15.out 0 rfl
  have y1 := cellKP Y15.out 1 rfl
  have y2 := cellKP Y15.out 2 rfl
  have y3 := cellKP Y15.out 3 rfl
  have y4 := cellKP Y15.out 4 rfl
  go_wp2_with fail
  clear y0 y1 y2 y3 y4
  refine (c_heldPipe0 a2 b2 0 0 hRl Q15.out).mono ?_
  rintro e w15 ⟨rfl, hb15⟩
  have T16 := hide (chain T15.out hb15)
  clear hb15 T15 Y15 Q15
  go_wp2
  go_ret
  exact ⟨rfl, T16.out⟩

theorem own : ownKnob Try.prog.godebug = none := by kernel_rfl
theorem laidOut : laidOutB Try.prog = true := by kernel_rfl

set_option maxRecDepth 100000 in
theorem liftedPipeNew (os : Os) (started : os.Started) (H : Type) (enc : TypeId × Value → H) :
    ReturnsInHanded {} Try.checked os 3 .any (Rows.fnExactPipeNewSpec.pre6 enc Try.prog Try.f3 Rows.fnExactPipeNewRow.domain false) (Rows.fnExactPipeNewSpec.post enc Try.prog Try.f3 false true false false) := by
  refine returnsInHanded_of_change (C := Try.checked) own started (by kernel_rfl) Try.func3
    (ChangeSpec.witness6 (enc := enc) (C := Try.checked) false ⟨#[], #[.slice none 0 0, .int .i64 0, .int .i64 0], []⟩ 8 (by kernel_rfl) (by kernel_rfl) (by kernel_rfl) (by kernel_rfl)) ?_
  intro W base args ds gs before hval0 hW hcnd _
  have hval : ∀ (j : Nat) t v, Try.f3.params[j]? = some t → args[j]? = some v → Value.okWide Try.prog W .any base t v := hval0
  have hW' := hW
  obtain ⟨p, q, hA0, hV, rfl, hfz, hnd⟩ := hW
  have hA : DataW.TrodAll enc Try.prog W 0 (fun _ => true) true Try.f3.params.toList args.toList ds p := hA0
  rw [Try.params3] at hA hval
  obtain ⟨v0, vs0, d0, ds0, p0, q0, hargs, rfl, rfl, h0, r0⟩ := trodAll_cons hA
  obtain ⟨v1, vs1, d1, ds1, p1, q1, rfl, rfl, rfl, h1, r1⟩ := trodAll_cons r0
  obtain ⟨v2, vs2, d2, ds2, p2, q2, rfl, rfl, rfl, h2, r2⟩ := trodAll_cons r1
  obtain ⟨rfl, rfl, rfl⟩ := trodAll_nil r2
  obtain rfl : args = #[v0, v1, v2] := by cases args; simp_all
  obtain ⟨rfl, rfl⟩ := trodVars_none hV
  have k0 := h0
  have lt0 : ∀ x ∈ p0, x.block < W.heap.size := by obtain ⟨m, hm⟩ := k0; exact DataW.trod_lt m _ _ _ hm
  obtain ⟨a0, c0, l0, rfl, m0, u0, s0⟩ := open_strs (hval 0 22 v0 rfl rfl) h0
  have k1 := h1
  have lt1 : ∀ x ∈ p1, x.block < W.heap.size := by obtain ⟨m, hm⟩ := k1; exact DataW.trod_lt m _ _ _ hm
  obtain ⟨a1, rfl, rfl, rfl, w1⟩ := open_int Try.underlying2 (hval 1 2 v1 rfl rfl) h1
  have k2 := h2
  have lt2 : ∀ x ∈ p2, x.block < W.heap.size := by obtain ⟨m, hm⟩ := k2; exact DataW.trod_lt m _ _ _ hm
  obtain ⟨a2, rfl, rfl, rfl, w2⟩ := open_int Try.underlying2 (hval 2 2 v2 rfl rfl) h2
  clear hA0 hval0
  refine (walkPipeNew a0 c0 l0 a1 a2 W m0 u0 s0 (bounds_i64 w1) (bounds_i64 w2)).mono fun e W' ⟨he, bel⟩ => ?_
  subst he
  exact ⟨_, rfl, _, _, _, [], _, [], hW', trodAll_mk1 (shut_bool Try.underlying4 _), (trodAll_cons_mk (Below.trod laidOut (by kernel_rfl) (of_decide_eq_true (by kernel_rfl)) k0 bel lt0) (trodAll_cons_mk (Below.trod laidOut (by kernel_rfl) (of_decide_eq_true (by kernel_rfl)) k1 bel lt1) (trodAll_cons_mk (Below.trod laidOut (by kernel_rfl) (of_decide_eq_true (by kernel_rfl)) k2 bel lt2) trodAll_mk0))), rfl, bel.frame _, fun h => by cases h⟩

theorem overPipeNew : Rows.fnExactPipeNewRow.holds Try.pinned (OpenSpec.ofChange Rows.fnExactPipeNewSpec) :=
  OpenClaim.holds_of_wide 3 Try.f3 rfl rfl rfl rfl rfl rfl rfl ⟨rfl, rfl, rfl, rfl, rfl⟩ rfl rfl rfl rfl rfl (by kernel_rfl) Try.func3 (by kernel_rfl)
    (of_decide_eq_true (by kernel_rfl)) (by unfold Func.isWrapper; first | (rw [if_pos (by decide +kernel)]; kernel_rfl) | (rw [if_neg (by decide +kernel)]; exact ⟨rfl, rfl⟩))
    (fun os started H enc _ => liftedPipeNew os started H enc)

theorem fnExactPipeNew_holds : Rows.FnExactPipeNewSaid := overPipeNew
#print axioms fnExactPipeNew_holds


end Go.Proofs.Ytgdhojeobcpoiaa
