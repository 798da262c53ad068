/-
  Contract of the model's SketchPut, and that both put the same.
-/
import Derived.Test.YtimocbbaplghoaaSkT
namespace Go.Proofs.Ytimocbbaplghoaa
set_option linter.unusedVariables false
set_option linter.unusedSimpArgs false
open Go.ChangeShapes Go.WideShapes Go.ChangeAt Go.RowKit Go.PlainAid Go.Lib
set_option maxRecDepth 10000

theorem rise_of : ∀ {L : List Bn} {q : Int}, riseB q L = true → Rise L ∧ ∀ x ∈ L, q < x.1
  | [], _, _ => ⟨rise_nil, fun x hx => by simp at hx⟩
  | y :: r, q, h => by
    simp only [riseB, Bool.and_eq_true, decide_eq_true_eq] at h
    obtain ⟨⟨⟨h1, h2⟩, h3⟩, h4⟩ := h
    obtain ⟨k1, k2⟩ := rise_of h4
    refine ⟨rise_cons.2 ⟨k2, k1⟩, fun x hx => ?_⟩
    rcases List.mem_cons.1 hx with rfl | hx
    · exact h1
    · have := k2 x hx; omega
theorem bins_rise {L : List Bn} (h : binsB L = true) : Rise L ∧ L.length ≤ 30 := by
  unfold binsB at h
  simp only [Bool.and_eq_true, decide_eq_true_eq] at h
  exact ⟨(rise_of h.2).1, h.1⟩
theorem sk_rise {P N : List Bn} (h : skB P N = true) : (Rise P ∧ P.length ≤ 30) ∧ Rise N ∧ N.length ≤ 30 := by
  unfold skB at h
  simp only [Bool.and_eq_true] at h
  exact ⟨bins_rise h.1, bins_rise h.2⟩
theorem rise_one (x : Bn) : Rise [x] := rise_cons.2 ⟨fun y hy => by simp at hy, rise_nil⟩
theorem gat_mrg {P N : List Bn} (hP : Rise P) (hN : Rise N) : gatL P N = keepL (mrg P N) := by
  unfold gatL
  rw [insAll_nil hP, insAll_mrg hN]
theorem put_sameP {P N : List Bn} {v wt : Int} (h : skB P N = true) : putP P v wt = putPS P v wt := by
  unfold putP putPS
  rw [gat_mrg (sk_rise h).1.1 (rise_one _)]
theorem put_sameN {P N : List Bn} {v wt : Int} (h : skB P N = true) : putN N v wt = putNS N v wt := by
  unfold putN putNS
  rw [gat_mrg (sk_rise h).2.1 (rise_one _)]

theorem c_s_l01Value (v : Int) (w : World) (hv : I64 v) :
    Calls Try.prog 31 #[.int .i64 v] w fun e w' => e = .returned (.bool (decide (-999999999999999999 ≤ v ∧ v ≤ 999999999999999999))) ∧ w' = w := by
  unfold I64 at hv
  by_cases h1 : -999999999999999999 ≤ v
  · by_cases h2 : v ≤ 999999999999999999
    · rw [decide_eq_true ⟨h1, h2⟩]
      go_enter Try.func31, Try.ntmps31
      go_wp2
      go_ret
      exact ⟨rfl, rfl⟩
    · rw [decide_eq_false (fun h => h2 h.2)]
      go_enter Try.func31, Try.ntmps31
      go_wp2
      go_ret
      exact ⟨rfl, rfl⟩
  · rw [decide_eq_false (fun h => h1 h.1)]
    go_enter Try.func31, Try.ntmps31
    go_wp2
    go_ret
    exact ⟨rfl, rfl⟩

/-- A sketch laid into the row of an answer. -/
abbrev sk5 (w : World) (r : Nat) (Z : Int) (p n : Value) (H L : Int) : World := ((((w.setCell ⟨r, 0, none⟩ (.int .u64 Z)).setCell ⟨r, 1, none⟩ p).setCell ⟨r, 2, none⟩ n).setCell ⟨r, 3, none⟩ (.int .i64 H)).setCell ⟨r, 4, none⟩ (.int .u64 L)
theorem sk_store {w w2 : World} {r a b : Nat} {Z H L : Int} {p n : Value} {P N : List Bn} (hT : Below w.heap.size w w2) (hr : w2.heap[r]? = some (.cells zeroSk 28 (0, 0))) (hwr : w.heap.size ≤ r) (hp : OwnB w2 w.heap.size p a P) (hn : OwnB w2 w.heap.size n b N) (hap : Apart p n) :
    SkOut (sk5 w2 r Z p n H L) w.heap.size (.agg #[.int .u64 Z, p, n, .int .i64 H, .int .u64 L]) Z P N H L ∧ Below w.heap.size w (sk5 w2 r Z p n H L) := by
  have q1 := hp.ne hr (by decide)
  have q2 := hn.ne hr (by decide)
  refine ⟨⟨p, n, a, b, rfl, ((((hp.set q1 _).set q1 _).set q1 _).set q1 _).set q1 _, ((((hn.set q2 _).set q2 _).set q2 _).set q2 _).set q2 _, hap⟩, ?_⟩
  repeat (refine Below.setCell ?_ hwr _)
  exact hT

set_option maxHeartbeats 2000000 in
theorem c_s_SketchPut {w : World} {z h l vv wt : Int} {pa na : Option Addr} {pn pc nn nc : Nat} {P N : List Bn} (hz : U64 z) (hl0 : U64 l) (hvv : I64 vv) (hwt : U64 wt) (hp : P.length = pn) (hn : N.length = nn) (lp : pn ≤ 1048576) (ln : nn ≤ 1048576) (hP : BinsAt w pa P) (hN : BinsAt w na N) (kP : ∀ x ∈ P, BnOk x) (kN : ∀ x ∈ N, BnOk x) (cA : pa = none → pc = 0) (cA' : na = none → nc = 0) :
    Calls Try.prog 8 #[.agg #[.int .u64 z, .slice pa pn pc, .slice na nn nc, .int .i64 h, .int .u64 l], .int .i64 vv, .int .u64 wt] w fun e w' => ∃ v, e = .returned v ∧ Below w.heap.size w w' ∧ ((putOk P N vv wt ∧ SkOut w' w.heap.size v (putZ z vv wt) (putPS P vv wt) (putNS N vv wt) (addH h l (thH vv wt) (thL vv wt)) (addL l (thL vv wt))) ∨ (¬ putOk P N vv wt ∧ SkOut w' w.heap.size v z P N h l)) := by
  have HP := hide hP
  have HN := hide hN
  have KP := hide kP
  have KN := hide kN
  have CA := hide cA
  have CA' := hide cA'
  clear hP hN kP kN cA cA'
  cases hs : skB P N with
  | false =>
    have HNo : Hid (¬ putOk P N vv wt) := fun h => by rw [h.1] at hs; cases hs
    go_enter Try.func8, Try.ntmps8
    go_wp2_with fail
    generalize hW0 : (w.alloc (Obj.cells #[.int .u64 z, .slice pa pn pc, .slice na nn nc, .int .i64 h, .int .u64 l] 28)).alloc (Obj.cells zeroSk 28) = W0
    have T0 : Below w.heap.size w W0 := by rw [← hW0]; exact ((Below.refl _ _).alloc (Nat.le_refl _) _).alloc (by simp) _
    have K0 : SkCell W0 w.heap.size z (.slice pa pn pc) (.slice na nn nc) h l := by rw [← hW0]; exact sk_past (sk_new w _ _ _ _ _ _) ((Below.refl _ _).alloc (Nat.le_refl _) _)
    have R0 : W0.heap[w.heap.size + 1]? = some (.cells zeroSk 28 (0, 0)) := by rw [← hW0]; simpa using heap_alloc_new (w.alloc (Obj.cells #[.int .u64 z, .slice pa pn pc, .slice na nn nc, .int .i64 h, .int .u64 l] 28)) (Obj.cells zeroSk 28)
    have hsz0 : W0.heap.size = w.heap.size + 2 := by rw [← hW0]; simp
    clear hW0
    have HT0 := hide T0
    clear T0
    refine (c_s_SketchRight hp hn lp ln (bins_past HP.out HT0.out) (bins_past HN.out HT0.out) KP.out KN.out).mono ?_
    rintro e w1 ⟨rfl, hb1⟩
    rw [hs]
    have HT1 := hide (chain HT0.out hb1)
    obtain ⟨x0, x1, x2, x3, x4⟩ := sk_past K0 hb1
    have HR1 : Hid (w1.heap[w.heap.size + 1]? = some (.cells zeroSk 28 (0, 0))) := by
      refine (?_ : w1.heap[w.heap.size + 1]? = some (.cells zeroSk 28 (0, 0)))
      rw [hb1.block _ (by omega)]; exact R0
    have hs1 : w.heap.size + 1 < w1.heap.size := (Array.getElem?_eq_some_iff.1 HR1.out).1
    clear hb1 hs K0 R0 hsz0
    go_wp2_with fail
    refine (c_s_l03Copy hp hn lp ln (bins_past HP.out HT1.out) (bins_past HN.out HT1.out) CA.out CA'.out).mono ?_
    rintro e w2 ⟨v, rfl, hq, hb⟩
    obtain ⟨p2, n2, m1, m2, rfl, ho1, ho2, hap⟩ := hq
    obtain ⟨ao1, c1, rfl⟩ := ho1.any
    obtain ⟨ao2, c2, rfl⟩ := ho2.any
    have R2 : w2.heap[w.heap.size + 1]? = some (.cells zeroSk 28 (0, 0)) := by rw [hb.block _ hs1]; exact HR1.out
    have HF := hide (sk_store (Z := z) (H := h) (L := l) (chain HT1.out hb) R2 (by omega) (ho1.le (B' := w.heap.size) HT1.out.size) (ho2.le (B' := w.heap.size) HT1.out.size) hap)
    obtain ⟨q0, q1, q2, q3, q4⟩ := cell5 R2
    have fr0 := frozen_of_row w2 (w.heap.size + 1) 0 _ _ R2
    have fr1 := frozen_of_row w2 (w.heap.size + 1) 1 _ _ R2
    have fr2 := frozen_of_row w2 (w.heap.size + 1) 2 _ _ R2
    have fr3 := frozen_of_row w2 (w.heap.size + 1) 3 _ _ R2
    have fr4 := frozen_of_row w2 (w.heap.size + 1) 4 _ _ R2
    clear R2 ho1 ho2 hap hb
    go_wp2
    refine bodyPost_ret (v := .agg #[.int .u64 (z), .slice ao1 m1 c1, .slice ao2 m2 c2, .int .i64 (h), .int .u64 (l)]) (by simp [results, Try.results8, go_sem, q0, q1, q2, q3, q4]) rfl ⟨_, rfl, HF.out.2, .inr ⟨HNo.out, HF.out.1⟩⟩
  | true =>
    have hr := sk_rise hs
    have hp30 := hr.1.2
    have hn30 := hr.2.2
    clear hr
    cases hd : decide (-999999999999999999 ≤ vv ∧ vv ≤ 999999999999999999) with
    | false =>
      have HNo : Hid (¬ putOk P N vv wt) := fun h => by rw [decide_eq_true h.2.1] at hd; cases hd
      have HD := hide hd
      clear hd
      go_enter Try.func8, Try.ntmps8
      go_wp2_with fail
      generalize hW0 : (w.alloc (Obj.cells #[.int .u64 z, .slice pa pn pc, .slice na nn nc, .int .i64 h, .int .u64 l] 28)).alloc (Obj.cells zeroSk 28) = W0
      have T0 : Below w.heap.size w W0 := by rw [← hW0]; exact ((Below.refl _ _).alloc (Nat.le_refl _) _).alloc (by simp) _
      have K0 : SkCell W0 w.heap.size z (.slice pa pn pc) (.slice na nn nc) h l := by rw [← hW0]; exact sk_past (sk_new w _ _ _ _ _ _) ((Below.refl _ _).alloc (Nat.le_refl _) _)
      have R0 : W0.heap[w.heap.size + 1]? = some (.cells zeroSk 28 (0, 0)) := by rw [← hW0]; simpa using heap_alloc_new (w.alloc (Obj.cells #[.int .u64 z, .slice pa pn pc, .slice na nn nc, .int .i64 h, .int .u64 l] 28)) (Obj.cells zeroSk 28)
      have hsz0 : W0.heap.size = w.heap.size + 2 := by rw [← hW0]; simp
      clear hW0
      have HT0 := hide T0
      clear T0
      refine (c_s_SketchRight hp hn lp ln (bins_past HP.out HT0.out) (bins_past HN.out HT0.out) KP.out KN.out).mono ?_
      rintro e w1 ⟨rfl, hb1⟩
      rw [hs]
      have HT1 := hide (chain HT0.out hb1)
      obtain ⟨x0, x1, x2, x3, x4⟩ := sk_past K0 hb1
      have HR1 : Hid (w1.heap[w.heap.size + 1]? = some (.cells zeroSk 28 (0, 0))) := by
        refine (?_ : w1.heap[w.heap.size + 1]? = some (.cells zeroSk 28 (0, 0)))
        rw [hb1.block _ (by omega)]; exact R0
      have hs1 : w.heap.size + 1 < w1.heap.size := (Array.getElem?_eq_some_iff.1 HR1.out).1
      clear hb1 hs K0 R0 hsz0
      go_wp2_with (go_at_call 31; refine (c_s_l01Value _ _ hvv).mono ?_; rintro e w2 ⟨rfl, hw⟩; obtain rfl := hw.symm; rw [HD.out])
      refine (c_s_l03Copy hp hn lp ln (bins_past HP.out HT1.out) (bins_past HN.out HT1.out) CA.out CA'.out).mono ?_
      rintro e w2 ⟨v, rfl, hq, hb⟩
      obtain ⟨p2, n2, m1, m2, rfl, ho1, ho2, hap⟩ := hq
      obtain ⟨ao1, c1, rfl⟩ := ho1.any
      obtain ⟨ao2, c2, rfl⟩ := ho2.any
      have R2 : w2.heap[w.heap.size + 1]? = some (.cells zeroSk 28 (0, 0)) := by rw [hb.block _ hs1]; exact HR1.out
      have HF := hide (sk_store (Z := z) (H := h) (L := l) (chain HT1.out hb) R2 (by omega) (ho1.le (B' := w.heap.size) HT1.out.size) (ho2.le (B' := w.heap.size) HT1.out.size) hap)
      obtain ⟨q0, q1, q2, q3, q4⟩ := cell5 R2
      have fr0 := frozen_of_row w2 (w.heap.size + 1) 0 _ _ R2
      have fr1 := frozen_of_row w2 (w.heap.size + 1) 1 _ _ R2
      have fr2 := frozen_of_row w2 (w.heap.size + 1) 2 _ _ R2
      have fr3 := frozen_of_row w2 (w.heap.size + 1) 3 _ _ R2
      have fr4 := frozen_of_row w2 (w.heap.size + 1) 4 _ _ R2
      clear R2 ho1 ho2 hap hb
      go_wp2
      refine bodyPost_ret (v := .agg #[.int .u64 (z), .slice ao1 m1 c1, .slice ao2 m2 c2, .int .i64 (h), .int .u64 (l)]) (by simp [results, Try.results8, go_sem, q0, q1, q2, q3, q4]) rfl ⟨_, rfl, HF.out.2, .inr ⟨HNo.out, HF.out.1⟩⟩
    | true =>
      have HD := hide hd
      have HD2 := hide (of_decide_eq_true hd)
      clear hd
      by_cases hw0 : wt = 0
      · have HNo : Hid (¬ putOk P N vv wt) := fun h => h.2.2 hw0
        have dw : (wt == 0) = true := beq_iff_eq.2 hw0
        clear hw0
        go_enter Try.func8, Try.ntmps8
        go_wp2_with fail
        generalize hW0 : (w.alloc (Obj.cells #[.int .u64 z, .slice pa pn pc, .slice na nn nc, .int .i64 h, .int .u64 l] 28)).alloc (Obj.cells zeroSk 28) = W0
        have T0 : Below w.heap.size w W0 := by rw [← hW0]; exact ((Below.refl _ _).alloc (Nat.le_refl _) _).alloc (by simp) _
        have K0 : SkCell W0 w.heap.size z (.slice pa pn pc) (.slice na nn nc) h l := by rw [← hW0]; exact sk_past (sk_new w _ _ _ _ _ _) ((Below.refl _ _).alloc (Nat.le_refl _) _)
        have R0 : W0.heap[w.heap.size + 1]? = some (.cells zeroSk 28 (0, 0)) := by rw [← hW0]; simpa using heap_alloc_new (w.alloc (Obj.cells #[.int .u64 z, .slice pa pn pc, .slice na nn nc, .int .i64 h, .int .u64 l] 28)) (Obj.cells zeroSk 28)
        have hsz0 : W0.heap.size = w.heap.size + 2 := by rw [← hW0]; simp
        clear hW0
        have HT0 := hide T0
        clear T0
        refine (c_s_SketchRight hp hn lp ln (bins_past HP.out HT0.out) (bins_past HN.out HT0.out) KP.out KN.out).mono ?_
        rintro e w1 ⟨rfl, hb1⟩
        rw [hs]
        have HT1 := hide (chain HT0.out hb1)
        obtain ⟨x0, x1, x2, x3, x4⟩ := sk_past K0 hb1
        have HR1 : Hid (w1.heap[w.heap.size + 1]? = some (.cells zeroSk 28 (0, 0))) := by
          refine (?_ : w1.heap[w.heap.size + 1]? = some (.cells zeroSk 28 (0, 0)))
          rw [hb1.block _ (by omega)]; exact R0
        have hs1 : w.heap.size + 1 < w1.heap.size := (Array.getElem?_eq_some_iff.1 HR1.out).1
        clear hb1 hs K0 R0 hsz0
        go_wp2_with (go_at_call 31; refine (c_s_l01Value _ _ hvv).mono ?_; rintro e w2 ⟨rfl, hw⟩; obtain rfl := hw.symm; rw [HD.out])
        refine (c_s_l03Copy hp hn lp ln (bins_past HP.out HT1.out) (bins_past HN.out HT1.out) CA.out CA'.out).mono ?_
        rintro e w2 ⟨v, rfl, hq, hb⟩
        obtain ⟨p2, n2, m1, m2, rfl, ho1, ho2, hap⟩ := hq
        obtain ⟨ao1, c1, rfl⟩ := ho1.any
        obtain ⟨ao2, c2, rfl⟩ := ho2.any
        have R2 : w2.heap[w.heap.size + 1]? = some (.cells zeroSk 28 (0, 0)) := by rw [hb.block _ hs1]; exact HR1.out
        have HF := hide (sk_store (Z := z) (H := h) (L := l) (chain HT1.out hb) R2 (by omega) (ho1.le (B' := w.heap.size) HT1.out.size) (ho2.le (B' := w.heap.size) HT1.out.size) hap)
        obtain ⟨q0, q1, q2, q3, q4⟩ := cell5 R2
        have fr0 := frozen_of_row w2 (w.heap.size + 1) 0 _ _ R2
        have fr1 := frozen_of_row w2 (w.heap.size + 1) 1 _ _ R2
        have fr2 := frozen_of_row w2 (w.heap.size + 1) 2 _ _ R2
        have fr3 := frozen_of_row w2 (w.heap.size + 1) 3 _ _ R2
        have fr4 := frozen_of_row w2 (w.heap.size + 1) 4 _ _ R2
        clear R2 ho1 ho2 hap hb
        go_wp2
        refine bodyPost_ret (v := .agg #[.int .u64 (z), .slice ao1 m1 c1, .slice ao2 m2 c2, .int .i64 (h), .int .u64 (l)]) (by simp [results, Try.results8, go_sem, q0, q1, q2, q3, q4]) rfl ⟨_, rfl, HF.out.2, .inr ⟨HNo.out, HF.out.1⟩⟩
      · have HYes : Hid (putOk P N vv wt) := (⟨hs, HD2.out, hw0⟩ : putOk P N vv wt)
        have dw : (wt == 0) = false := beq_eq_false_iff_ne.2 hw0
        clear hw0
        go_enter Try.func8, Try.ntmps8
        go_wp2_with fail
        generalize hW0 : (w.alloc (Obj.cells #[.int .u64 z, .slice pa pn pc, .slice na nn nc, .int .i64 h, .int .u64 l] 28)).alloc (Obj.cells zeroSk 28) = W0
        have T0 : Below w.heap.size w W0 := by rw [← hW0]; exact ((Below.refl _ _).alloc (Nat.le_refl _) _).alloc (by simp) _
        have K0 : SkCell W0 w.heap.size z (.slice pa pn pc) (.slice na nn nc) h l := by rw [← hW0]; exact sk_past (sk_new w _ _ _ _ _ _) ((Below.refl _ _).alloc (Nat.le_refl _) _)
        have R0 : W0.heap[w.heap.size + 1]? = some (.cells zeroSk 28 (0, 0)) := by rw [← hW0]; simpa using heap_alloc_new (w.alloc (Obj.cells #[.int .u64 z, .slice pa pn pc, .slice na nn nc, .int .i64 h, .int .u64 l] 28)) (Obj.cells zeroSk 28)
        have hsz0 : W0.heap.size = w.heap.size + 2 := by rw [← hW0]; simp
        clear hW0
        have HT0 := hide T0
        clear T0
        refine (c_s_SketchRight hp hn lp ln (bins_past HP.out HT0.out) (bins_past HN.out HT0.out) KP.out KN.out).mono ?_
        rintro e w1 ⟨rfl, hb1⟩
        rw [hs]
        have HT1 := hide (chain HT0.out hb1)
        obtain ⟨x0, x1, x2, x3, x4⟩ := sk_past K0 hb1
        have HR1 : Hid (w1.heap[w.heap.size + 1]? = some (.cells zeroSk 28 (0, 0))) := by
          refine (?_ : w1.heap[w.heap.size + 1]? = some (.cells zeroSk 28 (0, 0)))
          rw [hb1.block _ (by omega)]; exact R0
        have hs1 : w.heap.size + 1 < w1.heap.size := (Array.getElem?_eq_some_iff.1 HR1.out).1
        clear hb1 hs K0 R0 hsz0
        go_wp2_with (go_at_call 31; refine (c_s_l01Value _ _ hvv).mono ?_; rintro e w2 ⟨rfl, hw⟩; obtain rfl := hw.symm; rw [HD.out])
        refine (c_s_l03Put hz hl0 hvv hwt hp hn (by omega) (by omega) (bins_past HP.out HT1.out) (bins_past HN.out HT1.out) KP.out KN.out HD2.out CA.out CA'.out).mono ?_
        rintro e w2 ⟨v, rfl, hq, hb⟩
        obtain ⟨Z2, hZ2⟩ : ∃ X, putZ z vv wt = X := ⟨_, rfl⟩
        obtain ⟨H2, hH2⟩ : ∃ X, addH h l (thH vv wt) (thL vv wt) = X := ⟨_, rfl⟩
        obtain ⟨L2, hL2⟩ : ∃ X, addL l (thL vv wt) = X := ⟨_, rfl⟩
        rw [hZ2, hH2, hL2] at hq
        have HE := hide (And.intro hZ2 (And.intro hH2 hL2))
        clear hZ2 hH2 hL2
        obtain ⟨p2, n2, m1, m2, rfl, ho1, ho2, hap⟩ := hq
        obtain ⟨ao1, c1, rfl⟩ := ho1.any
        obtain ⟨ao2, c2, rfl⟩ := ho2.any
        have R2 : w2.heap[w.heap.size + 1]? = some (.cells zeroSk 28 (0, 0)) := by rw [hb.block _ hs1]; exact HR1.out
        have HF := hide (sk_store (Z := Z2) (H := H2) (L := L2) (chain HT1.out hb) R2 (by omega) (ho1.le (B' := w.heap.size) HT1.out.size) (ho2.le (B' := w.heap.size) HT1.out.size) hap)
        obtain ⟨q0, q1, q2, q3, q4⟩ := cell5 R2
        have fr0 := frozen_of_row w2 (w.heap.size + 1) 0 _ _ R2
        have fr1 := frozen_of_row w2 (w.heap.size + 1) 1 _ _ R2
        have fr2 := frozen_of_row w2 (w.heap.size + 1) 2 _ _ R2
        have fr3 := frozen_of_row w2 (w.heap.size + 1) 3 _ _ R2
        have fr4 := frozen_of_row w2 (w.heap.size + 1) 4 _ _ R2
        clear R2 ho1 ho2 hap hb
        go_wp2
        refine bodyPost_ret (v := .agg #[.int .u64 (Z2), .slice ao1 m1 c1, .slice ao2 m2 c2, .int .i64 (H2), .int .u64 (L2)]) (by simp [results, Try.results8, go_sem, q0, q1, q2, q3, q4]) rfl ⟨_, rfl, HF.out.2, .inl ⟨HYes.out, by rw [HE.out.1, HE.out.2.1, HE.out.2.2]; exact HF.out.1⟩⟩
end Go.Proofs.Ytimocbbaplghoaa
