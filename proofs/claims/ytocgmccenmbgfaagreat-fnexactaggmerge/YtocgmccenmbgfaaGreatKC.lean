/-
  AggMerge of the model.
-/
import Derived.Test.YtocgmccenmbgfaaGreatKB
namespace Go.Proofs.YtocgmccenmbgfaaGreat
set_option linter.unusedVariables false
set_option linter.unusedSimpArgs false
open Go.ChangeShapes Go.WideShapes Go.ChangeAt Go.RowKit Go.PlainAid Go.Lib
set_option maxRecDepth 10000

set_option maxHeartbeats 16000000 in
theorem c_s_AggMerge {w : World} {g g' : Ag} {p p' : Pl} (ok : AgOk g) (ok' : AgOk g') (sm : AgSm g) (sm' : AgSm g') (hA : AgAt w g p) (hA' : AgAt w g' p') (ce : p.ea = none → p.ec = 0) :
    Calls Tryz.prog 5 #[.agg (agArr g p), .agg (agArr g' p')] w fun e w' => AgRes w (AgMrg g g') e w' := by
  have HA := hide hA
  have HA' := hide hA'
  have OK := hide ok
  have OK' := hide ok'
  have SM := hide sm
  have SM' := hide sm'
  have HBa : Hid (∀ o1 o2 o3, Below w.heap.size w (((w.alloc o1).alloc o2).alloc o3)) := fun o1 o2 o3 => (((Below.refl _ _).alloc (Nat.le_refl _) _).alloc (by simp) _).alloc (by simp; omega) _
  have CE := hide ce
  clear ok ok' sm sm' hA hA' ce
  go_enter Tryz.func5, Tryz.ntmps5
  go_wp2_with fail
  refine (c_s_AggRight (g := g) (p := p) OK.out SM.out (ag_past HA.out (HBa.out _ _ _))).mono ?_
  rintro e w1 ⟨rfl, hb1⟩
  obtain ⟨K1, K2, hres⟩ := agc_three w g g' p p' w1 hb1
  have hz1 := hb1.size
  have hT1 : Below w.heap.size w w1 := (HBa.out _ _ _).trans (hb1.mono (by simp; omega))
  simp only [World.size_alloc] at hz1
  have HT1 := hide hT1
  have HRs := hide hres
  have HK1 := hide K1
  have HK2 := hide K2
  clear hb1 hT1 hres K1 K2
  cases hq : agB g with
  | false =>
    have HQ : Hid (AgMrg g g' agZero) := mrg_no (fun h => by rw [hq] at h; cases h.1)
    clear hq
    have q0 := cellK HRs.out 0 rfl
    have q1 := cellK HRs.out 1 rfl
    have q2 := cellK HRs.out 2 rfl
    have q3 := cellK HRs.out 3 rfl
    have q4 := cellK HRs.out 4 rfl
    have q5 := cellK HRs.out 5 rfl
    have q6 := cellK HRs.out 6 rfl
    have q7 := cellK HRs.out 7 rfl
    have q8 := cellK HRs.out 8 rfl
    have q9 := cellK HRs.out 9 rfl
    have q10 := cellK HRs.out 10 rfl
    have q11 := cellK HRs.out 11 rfl
    have q12 := cellK HRs.out 12 rfl
    have f0 := frozen_of_row w1 (w.heap.size + 1 + 1) 0 _ _ HRs.out
    have f1 := frozen_of_row w1 (w.heap.size + 1 + 1) 1 _ _ HRs.out
    have f2 := frozen_of_row w1 (w.heap.size + 1 + 1) 2 _ _ HRs.out
    have f3 := frozen_of_row w1 (w.heap.size + 1 + 1) 3 _ _ HRs.out
    have f4 := frozen_of_row w1 (w.heap.size + 1 + 1) 4 _ _ HRs.out
    have f5 := frozen_of_row w1 (w.heap.size + 1 + 1) 5 _ _ HRs.out
    have f6 := frozen_of_row w1 (w.heap.size + 1 + 1) 6 _ _ HRs.out
    have f7 := frozen_of_row w1 (w.heap.size + 1 + 1) 7 _ _ HRs.out
    have f8 := frozen_of_row w1 (w.heap.size + 1 + 1) 8 _ _ HRs.out
    have f9 := frozen_of_row w1 (w.heap.size + 1 + 1) 9 _ _ HRs.out
    have f10 := frozen_of_row w1 (w.heap.size + 1 + 1) 10 _ _ HRs.out
    have f11 := frozen_of_row w1 (w.heap.size + 1 + 1) 11 _ _ HRs.out
    have f12 := frozen_of_row w1 (w.heap.size + 1 + 1) 12 _ _ HRs.out
    go_wp2
    refine bodyPost_ret (v := .agg zeroAg) (by simp [results, Tryz.results5, go_sem, agZero, q0, q1, q2, q3, q4, q5, q6, q7, q8, q9, q10, q11, q12]) rfl (AgRes.mk (o := agZero) (p := pl0) HQ.out (AgO.nil _ _ rfl rfl rfl rfl) ?_)
    repeat (refine Below.setCell ?_ (by simp <;> omega) _)
    exact HT1.out
  | true =>
    obtain ⟨y0, y1, y2, y3, y4, y5, y6, y7, y8, y9, y10, y11, y12⟩ := HK2.out
    go_wp2_with fail
    clear y0 y1 y2 y3 y4 y5 y6 y7 y8 y9 y10 y11 y12
    refine (c_s_AggRight (g := g') (p := p') OK'.out SM'.out (ag_past HA'.out HT1.out)).mono ?_
    rintro e w2 ⟨rfl, hb2⟩
    have HT2 := hide (chain HT1.out hb2)
    have hz2 := hb2.size
    have hC : ∀ W, Below w2.heap.size w2 W → AgCell W w.heap.size g p ∧ AgCell W (w.heap.size + 1) g' p' ∧ W.heap[w.heap.size + 1 + 1]? = some (.cells zeroAg 41 (0, 0)) := fun W hW => ⟨agc_past HK1.out (chain hb2 hW), agc_past HK2.out (chain hb2 hW), ((chain hb2 hW).block _ (by omega)).trans HRs.out⟩
    have HC := hide hC
    clear hb2 hC HK1 HK2 HRs
    cases hq' : agB g' with
    | false =>
      have HQ : Hid (AgMrg g g' agZero) := mrg_no (fun h => by rw [hq'] at h; cases h.2.1)
      have HR2 := hide (HC.out _ (Below.refl _ _)).2.2
      clear hq hq'
      have q0 := cellK HR2.out 0 rfl
      have q1 := cellK HR2.out 1 rfl
      have q2 := cellK HR2.out 2 rfl
      have q3 := cellK HR2.out 3 rfl
      have q4 := cellK HR2.out 4 rfl
      have q5 := cellK HR2.out 5 rfl
      have q6 := cellK HR2.out 6 rfl
      have q7 := cellK HR2.out 7 rfl
      have q8 := cellK HR2.out 8 rfl
      have q9 := cellK HR2.out 9 rfl
      have q10 := cellK HR2.out 10 rfl
      have q11 := cellK HR2.out 11 rfl
      have q12 := cellK HR2.out 12 rfl
      have f0 := frozen_of_row w2 (w.heap.size + 1 + 1) 0 _ _ HR2.out
      have f1 := frozen_of_row w2 (w.heap.size + 1 + 1) 1 _ _ HR2.out
      have f2 := frozen_of_row w2 (w.heap.size + 1 + 1) 2 _ _ HR2.out
      have f3 := frozen_of_row w2 (w.heap.size + 1 + 1) 3 _ _ HR2.out
      have f4 := frozen_of_row w2 (w.heap.size + 1 + 1) 4 _ _ HR2.out
      have f5 := frozen_of_row w2 (w.heap.size + 1 + 1) 5 _ _ HR2.out
      have f6 := frozen_of_row w2 (w.heap.size + 1 + 1) 6 _ _ HR2.out
      have f7 := frozen_of_row w2 (w.heap.size + 1 + 1) 7 _ _ HR2.out
      have f8 := frozen_of_row w2 (w.heap.size + 1 + 1) 8 _ _ HR2.out
      have f9 := frozen_of_row w2 (w.heap.size + 1 + 1) 9 _ _ HR2.out
      have f10 := frozen_of_row w2 (w.heap.size + 1 + 1) 10 _ _ HR2.out
      have f11 := frozen_of_row w2 (w.heap.size + 1 + 1) 11 _ _ HR2.out
      have f12 := frozen_of_row w2 (w.heap.size + 1 + 1) 12 _ _ HR2.out
      go_wp2
      refine bodyPost_ret (v := .agg zeroAg) (by simp [results, Tryz.results5, go_sem, agZero, q0, q1, q2, q3, q4, q5, q6, q7, q8, q9, q10, q11, q12]) rfl (AgRes.mk (o := agZero) (p := pl0) HQ.out (AgO.nil _ _ rfl rfl rfl rfl) ?_)
      repeat (refine Below.setCell ?_ (by simp <;> omega) _)
      exact HT2.out
    | true =>
      by_cases hk : g.k = g'.k
      · have HG : Hid (agB g = true ∧ agB g' = true ∧ g.k = g'.k) := ⟨hq, hq', hk⟩
        have NO := hide (agB_no hq)
        have NO' := hide (agB_no hq')
        have HR2 := hide (HC.out _ (Below.refl _ _)).2.2
        have hb : (g.k != g'.k) = false := by simp [hk]
        obtain ⟨⟨x0, x1, x2, x3, x4, x5, x6, x7, x8, x9, x10, x11, x12⟩, ⟨y0, y1, y2, y3, y4, y5, y6, y7, y8, y9, y10, y11, y12⟩, _⟩ := HC.out _ (Below.refl _ _)
        clear hq hq' hk
        go_wp2_with fail
        clear x0 x1 x2 x3 x4 x5 x6 x7 x8 x9 x10 x11 x12 y0 y1 y2 y3 y4 y5 y6 y7 y8 y9 y10 y11 y12 hb
        refine (c_s_AggM HG.out OK.out OK'.out (ag_past HA.out HT2.out) (ag_past HA'.out HT2.out) CE.out).mono ?_
        rintro e w3 ⟨v3, o, rfl, hM, ⟨po, rfl, hO⟩, hb3⟩
        have RR := (HC.out _ hb3).2.2
        have HT3 := hide (chain HT2.out hb3)
        have HM := hide hM
        have HO := hide hO
        have q0 := cellK RR 0 rfl
        have q1 := cellK RR 1 rfl
        have q2 := cellK RR 2 rfl
        have q3 := cellK RR 3 rfl
        have q4 := cellK RR 4 rfl
        have q5 := cellK RR 5 rfl
        have q6 := cellK RR 6 rfl
        have q7 := cellK RR 7 rfl
        have q8 := cellK RR 8 rfl
        have q9 := cellK RR 9 rfl
        have q10 := cellK RR 10 rfl
        have q11 := cellK RR 11 rfl
        have q12 := cellK RR 12 rfl
        have f0 := frozen_of_row w3 (w.heap.size + 1 + 1) 0 _ _ RR
        have f1 := frozen_of_row w3 (w.heap.size + 1 + 1) 1 _ _ RR
        have f2 := frozen_of_row w3 (w.heap.size + 1 + 1) 2 _ _ RR
        have f3 := frozen_of_row w3 (w.heap.size + 1 + 1) 3 _ _ RR
        have f4 := frozen_of_row w3 (w.heap.size + 1 + 1) 4 _ _ RR
        have f5 := frozen_of_row w3 (w.heap.size + 1 + 1) 5 _ _ RR
        have f6 := frozen_of_row w3 (w.heap.size + 1 + 1) 6 _ _ RR
        have f7 := frozen_of_row w3 (w.heap.size + 1 + 1) 7 _ _ RR
        have f8 := frozen_of_row w3 (w.heap.size + 1 + 1) 8 _ _ RR
        have f9 := frozen_of_row w3 (w.heap.size + 1 + 1) 9 _ _ RR
        have f10 := frozen_of_row w3 (w.heap.size + 1 + 1) 10 _ _ RR
        have f11 := frozen_of_row w3 (w.heap.size + 1 + 1) 11 _ _ RR
        have f12 := frozen_of_row w3 (w.heap.size + 1 + 1) 12 _ _ RR
        clear hM hO hb3 RR
        go_wp2
        refine bodyPost_ret (v := .agg (agArr o po)) (by simp [results, Tryz.results5, go_sem, q0, q1, q2, q3, q4, q5, q6, q7, q8, q9, q10, q11, q12]) rfl (AgRes.mk (o := o) (p := po) HM.out ?_ ?_)
        · refine AgO.le (B := w2.heap.size) ?_ (by omega)
          repeat (refine AgO.below ?_ (by omega) _)
          exact HO.out
        · repeat (refine Below.setCell ?_ (by simp <;> omega) _)
          exact HT3.out
      · have HQ : Hid (AgMrg g g' agZero) := mrg_no (fun h => hk h.2.2)
        have HR2 := hide (HC.out _ (Below.refl _ _)).2.2
        have hb : (g.k != g'.k) = true := by simp [hk]
        obtain ⟨⟨x0, _⟩, ⟨y0, _⟩, _⟩ := HC.out _ (Below.refl _ _)
        clear hq hq' hk
        have q0 := cellK HR2.out 0 rfl
        have q1 := cellK HR2.out 1 rfl
        have q2 := cellK HR2.out 2 rfl
        have q3 := cellK HR2.out 3 rfl
        have q4 := cellK HR2.out 4 rfl
        have q5 := cellK HR2.out 5 rfl
        have q6 := cellK HR2.out 6 rfl
        have q7 := cellK HR2.out 7 rfl
        have q8 := cellK HR2.out 8 rfl
        have q9 := cellK HR2.out 9 rfl
        have q10 := cellK HR2.out 10 rfl
        have q11 := cellK HR2.out 11 rfl
        have q12 := cellK HR2.out 12 rfl
        have f0 := frozen_of_row w2 (w.heap.size + 1 + 1) 0 _ _ HR2.out
        have f1 := frozen_of_row w2 (w.heap.size + 1 + 1) 1 _ _ HR2.out
        have f2 := frozen_of_row w2 (w.heap.size + 1 + 1) 2 _ _ HR2.out
        have f3 := frozen_of_row w2 (w.heap.size + 1 + 1) 3 _ _ HR2.out
        have f4 := frozen_of_row w2 (w.heap.size + 1 + 1) 4 _ _ HR2.out
        have f5 := frozen_of_row w2 (w.heap.size + 1 + 1) 5 _ _ HR2.out
        have f6 := frozen_of_row w2 (w.heap.size + 1 + 1) 6 _ _ HR2.out
        have f7 := frozen_of_row w2 (w.heap.size + 1 + 1) 7 _ _ HR2.out
        have f8 := frozen_of_row w2 (w.heap.size + 1 + 1) 8 _ _ HR2.out
        have f9 := frozen_of_row w2 (w.heap.size + 1 + 1) 9 _ _ HR2.out
        have f10 := frozen_of_row w2 (w.heap.size + 1 + 1) 10 _ _ HR2.out
        have f11 := frozen_of_row w2 (w.heap.size + 1 + 1) 11 _ _ HR2.out
        have f12 := frozen_of_row w2 (w.heap.size + 1 + 1) 12 _ _ HR2.out
        go_wp2
        refine bodyPost_ret (v := .agg zeroAg) (by simp [results, Tryz.results5, go_sem, agZero, q0, q1, q2, q3, q4, q5, q6, q7, q8, q9, q10, q11, q12]) rfl (AgRes.mk (o := agZero) (p := pl0) HQ.out (AgO.nil _ _ rfl rfl rfl rfl) ?_)
        repeat (refine Below.setCell ?_ (by simp <;> omega) _)
        exact HT2.out
end Go.Proofs.YtocgmccenmbgfaaGreat
