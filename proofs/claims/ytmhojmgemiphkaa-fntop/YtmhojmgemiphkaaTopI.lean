/-
  Contracts of the program's TopMerge and TopPut.
-/
import Derived.Test.YtmhojmgemiphkaaMergeC
namespace Go.Proofs.Ytmhojmgemiphkaa
set_option linter.unusedVariables false
set_option linter.unusedSimpArgs false
open Go.ChangeShapes Go.WideShapes Go.ChangeAt Go.RowKit Go.PlainAid
set_option maxRecDepth 10000

def tmOk (P : List Hv) (da ta : Int) (M : List Hv) (db tb : Int) : Prop := topB P da ta = true ∧ topB M db tb = true ∧ ta + tb ≤ 1000000000000000
theorem top_nums {P : List Hv} {d t : Int} (h : topB P d t = true) : (0 ≤ d ∧ d ≤ 1000000000000000) ∧ (0 ≤ t ∧ t ≤ 1000000000000000) := by
  unfold topB at h
  simp only [Bool.and_eq_true, decide_eq_true_eq] at h
  obtain ⟨⟨⟨⟨h1, h2⟩, h3⟩, h4⟩, h5⟩ := h
  have := it_le h5
  omega
theorem top_cnt {P : List Hv} {d t : Int} (h : topB P d t = true) : ∀ x ∈ P, 1 ≤ x.2 ∧ x.2 ≤ 1000000000000000 := fun x hx => (top_key h x hx).2

theorem zero_topout {w w1 : World} {r : Nat} (hT : Below w.heap.size w w1) (hr : w1.heap[r]? = some (.cells zeroTp 28 (0, 0))) (hwr : w.heap.size ≤ r) :
    TopOut (tp3 w1 r (.slice none 0 0) 0 0) w.heap.size (.agg #[.slice none 0 0, .int .i64 0, .int .i64 0]) [] 0 0 ∧ Below w.heap.size w (tp3 w1 r (.slice none 0 0) 0 0) :=
  tp_store hT hr hwr (ownH_nil _ _)

set_option maxHeartbeats 4000000 in
theorem c_i_TopMerge {w : World} {da ta db tb : Int} {pa pb : Option Addr} {pn pc pm pd : Nat} {P M : List Hv} (hp : P.length = pn) (hm : M.length = pm) (lp : pn ≤ 1048576) (lm : pm ≤ 1048576) (hP : HvsAt w pa P) (hM : HvsAt w pb M) (kP : ∀ x ∈ P, HvOk x) (kM : ∀ x ∈ M, HvOk x) (ha : I64 da) (hta : I64 ta) (hb : I64 db) (htb : I64 tb) :
    Calls Try.prog 14 #[.agg #[.slice pa pn pc, .int .i64 da, .int .i64 ta], .agg #[.slice pb pm pd, .int .i64 db, .int .i64 tb]] w fun e w' => ∃ v, e = .returned v ∧ Below w.heap.size w w' ∧ ((tmOk P da ta M db tb ∧ ∃ d, DebtV (addAll P M) d ∧ TopOut w' w.heap.size v (lessH (addAll P M) d) (da + db + d) (ta + tb)) ∨ (¬ tmOk P da ta M db tb ∧ TopOut w' w.heap.size v [] 0 0)) := by
  have HP := hide hP
  have HM := hide hM
  have EP := hide hp
  have EM := hide hm
  have KP := hide kP
  have KM := hide kM
  have HA := hide ha
  have HTA := hide hta
  have HBb := hide hb
  have HTB := hide htb
  clear hP hM hp hm kP kM ha hta hb htb
  go_enter Try.func14, Try.ntmps14
  go_wp2_with fail
  generalize hW0 : ((w.alloc (Obj.cells #[.slice pa pn pc, .int .i64 da, .int .i64 ta] 28)).alloc (Obj.cells #[.slice pb pm pd, .int .i64 db, .int .i64 tb] 28)).alloc (Obj.cells zeroTp 28) = W0
  have T0 : Below w.heap.size w W0 := by rw [← hW0]; exact (((Below.refl _ _).alloc (Nat.le_refl _) _).alloc (by simp) _).alloc (by simp; omega) _
  have K0 : TpCell W0 w.heap.size (.slice pa pn pc) da ta := by rw [← hW0]; exact tp_past (tp_new w _ _ _ _) (((Below.refl _ _).alloc (Nat.le_refl _) _).alloc (by simp) _)
  have J0 : TpCell W0 (w.heap.size + 1) (.slice pb pm pd) db tb := by
    rw [← hW0]
    have := tp_new (w.alloc (Obj.cells #[.slice pa pn pc, .int .i64 da, .int .i64 ta] 28)) 28 (.slice pb pm pd) db tb
    exact tp_past (by simpa using this) ((Below.refl _ _).alloc (Nat.le_refl _) _)
  have R0 : W0.heap[w.heap.size + 1 + 1]? = some (.cells zeroTp 28 (0, 0)) := by rw [← hW0]; simpa using heap_alloc_new ((w.alloc (Obj.cells #[.slice pa pn pc, .int .i64 da, .int .i64 ta] 28)).alloc (Obj.cells #[.slice pb pm pd, .int .i64 db, .int .i64 tb] 28)) (Obj.cells zeroTp 28)
  have hsz0 : W0.heap.size = w.heap.size + 3 := by rw [← hW0]; simp
  clear hW0
  have HT0 := hide T0
  clear T0
  refine (c_i_TopRight _ _ EP.out lp (hvs_past HP.out HT0.out) KP.out HA.out HTA.out).mono ?_
  rintro e w1 ⟨rfl, hb1⟩
  have HT1 := hide (chain HT0.out hb1)
  have K1 := tp_past K0 hb1
  have J1 := tp_past J0 hb1
  have R1 : w1.heap[w.heap.size + 1 + 1]? = some (.cells zeroTp 28 (0, 0)) := by rw [hb1.block _ (by omega)]; exact R0
  have hs1 := hb1.size
  clear hb1 K0 J0 R0
  cases hs : topB P da ta with
  | false =>
    have HNo : Hid (¬ tmOk P da ta M db tb) := fun h => by rw [h.1] at hs; cases hs
    clear hs
    have HF := hide (zero_topout HT1.out R1 (by omega))
    obtain ⟨q0, q1, q2⟩ := cell3 R1
    have f0 := frozen_of_row w1 (w.heap.size + 1 + 1) 0 _ _ R1
    have f1 := frozen_of_row w1 (w.heap.size + 1 + 1) 1 _ _ R1
    have f2 := frozen_of_row w1 (w.heap.size + 1 + 1) 2 _ _ R1
    clear R1
    go_wp2
    refine bodyPost_ret (v := .agg #[.slice none 0 0, .int .i64 0, .int .i64 0]) (by simp [results, Try.results14, go_sem, q0, q1, q2]) rfl ⟨_, rfl, HF.out.2, .inr ⟨HNo.out, HF.out.1⟩⟩
  | true =>
    have HSa := hide hs
    have na := top_nums hs
    clear hs
    have HK1 := hide K1
    have HJ1 := hide J1
    have HR1 := hide R1
    clear R1
    obtain ⟨x0, x1, x2⟩ := K1
    obtain ⟨y0, y1, y2⟩ := J1
    go_wp2_with fail
    refine (c_i_TopRight _ _ EM.out lm (hvs_past HM.out HT1.out) KM.out HBb.out HTB.out).mono ?_
    rintro e w2 ⟨rfl, hb2⟩
    have HT2 := hide (chain HT1.out hb2)
    have K2 := tp_past HK1.out hb2
    have J2 := tp_past HJ1.out hb2
    have R2 : w2.heap[w.heap.size + 1 + 1]? = some (.cells zeroTp 28 (0, 0)) := by rw [hb2.block _ (by omega)]; exact HR1.out
    have hs2 := hb2.size
    clear hb2 x0 x1 x2 y0 y1 y2 HK1 HJ1 HR1
    cases hs : topB M db tb with
    | false =>
      have HNo : Hid (¬ tmOk P da ta M db tb) := fun h => by rw [h.2.1] at hs; cases hs
      clear hs
      have HF := hide (zero_topout HT2.out R2 (by omega))
      obtain ⟨q0, q1, q2⟩ := cell3 R2
      have f0 := frozen_of_row w2 (w.heap.size + 1 + 1) 0 _ _ R2
      have f1 := frozen_of_row w2 (w.heap.size + 1 + 1) 1 _ _ R2
      have f2 := frozen_of_row w2 (w.heap.size + 1 + 1) 2 _ _ R2
      clear R2
      go_wp2
      refine bodyPost_ret (v := .agg #[.slice none 0 0, .int .i64 0, .int .i64 0]) (by simp [results, Try.results14, go_sem, q0, q1, q2]) rfl ⟨_, rfl, HF.out.2, .inr ⟨HNo.out, HF.out.1⟩⟩
    | true =>
      have HSb := hide hs
      have nb := top_nums hs
      clear hs
      have HR2 := hide R2
      clear R2
      obtain ⟨x0, x1, x2⟩ := K2
      obtain ⟨y0, y1, y2⟩ := J2
      by_cases hsum : ta + tb ≤ 1000000000000000
      · have HYes : Hid (tmOk P da ta M db tb) := (⟨HSa.out, HSb.out, hsum⟩ : tmOk P da ta M db tb)
        have p5 := (top_rise HSa.out).2
        have m5 := (top_rise HSb.out).2
        have hpn : pn ≤ 5 := by have := EP.out; omega
        have hpm : pm ≤ 5 := by have := EM.out; omega
        clear p5 m5
        have hdc : decide (1000000000000000 < ta + tb) = false := decide_eq_false (by omega)
        go_wp2_with fail
        refine (c_merge EP.out EM.out hpn hpm (hvs_past HP.out HT2.out) (hvs_past HM.out HT2.out) (top_rise HSa.out).1 (top_cnt HSa.out) (top_cnt HSb.out) na.1 nb.1 na.2 nb.2).mono ?_
        rintro e w3 ⟨v, d, rfl, hd, hq, hb3⟩
        obtain ⟨p3, rfl, ho3⟩ := hq
        obtain ⟨ao3, c3, rfl⟩ := ho3.any
        have R3 : w3.heap[w.heap.size + 1 + 1]? = some (.cells zeroTp 28 (0, 0)) := by rw [hb3.block _ (by omega)]; exact HR2.out
        obtain ⟨q0, q1, q2⟩ := cell3 R3
        have f0 := frozen_of_row w3 (w.heap.size + 1 + 1) 0 _ _ R3
        have f1 := frozen_of_row w3 (w.heap.size + 1 + 1) 1 _ _ R3
        have f2 := frozen_of_row w3 (w.heap.size + 1 + 1) 2 _ _ R3
        have HF := hide (tp_store (D := da + db + d) (T := ta + tb) (chain HT2.out hb3) R3 (by omega) (ho3.le (B' := w.heap.size) (by omega)))
        have HD := hide hd
        obtain ⟨n3, hn3⟩ : ∃ n3, (lessH (addAll P M) d).length = n3 := ⟨_, rfl⟩
        rw [hn3] at HF
        rw [hn3]
        clear hn3 R3 ho3 hb3 hd x0 x1 x2 y0 y1 y2
        go_wp2
        refine bodyPost_ret (v := .agg #[.slice ao3 n3 c3, .int .i64 (da + db + d), .int .i64 (ta + tb)]) (by simp [results, Try.results14, go_sem, q0, q1, q2]) rfl ⟨_, rfl, HF.out.2, .inl ⟨HYes.out, d, HD.out, HF.out.1⟩⟩
      · have HNo : Hid (¬ tmOk P da ta M db tb) := fun h => hsum h.2.2
        have hdc : decide (1000000000000000 < ta + tb) = true := decide_eq_true (by omega)
        have R2 := HR2.out
        have HF := hide (zero_topout HT2.out R2 (by omega))
        obtain ⟨q0, q1, q2⟩ := cell3 R2
        have f0 := frozen_of_row w2 (w.heap.size + 1 + 1) 0 _ _ R2
        have f1 := frozen_of_row w2 (w.heap.size + 1 + 1) 1 _ _ R2
        have f2 := frozen_of_row w2 (w.heap.size + 1 + 1) 2 _ _ R2
        clear R2
        go_wp2
        refine bodyPost_ret (v := .agg #[.slice none 0 0, .int .i64 0, .int .i64 0]) (by simp [results, Try.results14, go_sem, q0, q1, q2]) rfl ⟨_, rfl, HF.out.2, .inr ⟨HNo.out, HF.out.1⟩⟩
end Go.Proofs.Ytmhojmgemiphkaa
