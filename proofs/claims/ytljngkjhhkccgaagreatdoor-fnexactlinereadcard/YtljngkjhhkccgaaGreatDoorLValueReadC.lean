/-
  The contract of spec.ValueRead at every text.
-/
import Derived.Test.YtljngkjhhkccgaaGreatDoorReadY
namespace Go.Proofs.YtljngkjhhkccgaaGreatDoor
set_option linter.unusedVariables false
set_option linter.unusedSimpArgs false
open Go.ChangeShapes Go.WideShapes Go.ChangeAt Go.RowKit Go.PlainAid

theorem c_s_ValueRead (s : ByteArray) (hs : s.size ≤ maxLen) (w : World) :
    Calls Tryz.prog 14 #[.string s] w fun e w' => e = .returned (.agg #[.int .i64 (rvV s), .int .i64 (rvC s)]) ∧ Below w.heap.size w w' := by
  cases hf : fitB s
  · exact c_s_ValueRead_size s hs hf w
  · obtain ⟨u0, u1, n, S⟩ := sp_all (tailS s)
    have hz' : s.size ≤ 20000 := of_decide_eq_true hf
    have hz : ¬ (20000 : Int) < (s.size : Int) := by omega
    have hTz : (tailS s).size ≤ 20000 := by have := (shift_tail s).size; omega
    have h0z : u0.size ≤ 20000 := Nat.le_trans S.le0 hTz
    have h1z : u1.size ≤ 20000 := Nat.le_trans S.le1 hTz
    have hp := S.pos
    have hn1 : (0 : Int) < (n : Int) := by omega
    have hsp := c_split S hTz
    by_cases hm : 2 < n
    · have hn : (2 : Int) < (n : Int) := by omega
      have hR := rv_no hf (S.many hm)
      cases hneg : negB s
      · exact vr_pos_many hz hneg rfl hTz h0z h1z hsp hn hR w
      · exact vr_neg_many hz hneg rfl hTz h0z h1z hsp hn hR w
    have hn : ¬ (2 : Int) < (n : Int) := by omega
    have hn2 : n ≤ 2 := by omega
    by_cases hl : 12 < u0.size
    · have hli : (12 : Int) < (u0.size : Int) := by omega
      have hR := rv_no hf (S.long hn2 hl)
      cases hneg : negB s
      · exact vr_pos_long hz hneg rfl hTz h0z h1z hsp hn hn1 hli hR w
      · exact vr_neg_long hz hneg rfl hTz h0z h1z hsp hn hn1 hli hR w
    have hli : ¬ (12 : Int) < (u0.size : Int) := by omega
    have hl12 : u0.size ≤ 12 := by omega
    by_cases hq : 1 < u0.size ∧ bt u0 0 = 48
    · have hl1 : (1 : Int) < (u0.size : Int) := by omega
      have h48 : (bt u0 0 == 48) = true := by simp [hq.2]
      have hR := rv_no hf (S.lead hn2 hq.1 hq.2)
      cases hneg : negB s
      · exact vr_pos_lead hz hneg rfl hTz h0z h1z hsp hn hn1 hli hl1 h48 hR w
      · exact vr_neg_lead hz hneg rfl hTz h0z h1z hsp hn hn1 hli hl1 h48 hR w
    have hq0 : (¬ (1 : Int) < (u0.size : Int)) ∨ ((1 : Int) < (u0.size : Int) ∧ (bt u0 0 == 48) = false) := by
      by_cases h1 : 1 < u0.size
      · exact .inr ⟨by omega, beq_eq_false_iff_ne.2 (fun h => hq ⟨h1, h⟩)⟩
      · exact .inl (by omega)
    obtain ⟨hv0, hv1⟩ := dgV_bd hl12
    cases hb0 : dgB u0
    · have hR := rv_no hf (S.bad0 hn2 hb0)
      cases hneg : negB s
      · exact vr_pos_bad0 hz hneg rfl hTz h0z h1z hsp hn hn1 hli hq0 hv0 hv1 hb0 hR w
      · exact vr_neg_bad0 hz hneg rfl hTz h0z h1z hsp hn hn1 hli hq0 hv0 hv1 hb0 hR w
    by_cases e1 : n = 1
    · have hR := rv_yes hf (S.good1 e1 hl12 hq hb0)
      cases hneg : negB s
      · exact vr_pos_good1 hz hneg rfl hTz h0z h1z hsp e1 hli hq0 hv0 hv1 hb0 (by simpa [hneg] using hR) w
      · exact vr_neg_good1 hz hneg rfl hTz h0z h1z hsp e1 hli hq0 hv0 hv1 hb0 (by rw [hneg, if_pos rfl] at hR; exact hR) w
    have e2 : n = 2 := by omega
    by_cases h6 : 6 < u1.size
    · have hl6 : ¬ (u1.size : Int) ≤ 6 := by omega
      have hR := rv_no hf (S.long1 e2 h6)
      cases hneg : negB s
      · exact vr_pos_long1 hz hneg rfl hTz h0z h1z hsp e2 hli hq0 hv0 hv1 hb0 hl6 hR w
      · exact vr_neg_long1 hz hneg rfl hTz h0z h1z hsp e2 hli hq0 hv0 hv1 hb0 hl6 hR w
    have hl6 : (u1.size : Int) ≤ 6 := by omega
    have h6' : u1.size ≤ 6 := by omega
    have hX : Scal (dgV u1) u1.size (dgV u1 * 10 ^ (6 - u1.size)) := ⟨h6', rfl⟩
    obtain ⟨hx0, hx1⟩ := dgV_6 h6'
    cases hb1 : dgB u1
    · have hR := rv_no hf (S.bad1 e2 hb1)
      cases hneg : negB s
      · exact vr_pos_bad1 hz hneg rfl hTz h0z h1z hsp e2 hli hq0 hv0 hv1 hb0 hl6 hb1 hX hx0 hx1 hR w
      · exact vr_neg_bad1 hz hneg rfl hTz h0z h1z hsp e2 hli hq0 hv0 hv1 hb0 hl6 hb1 hX hx0 hx1 hR w
    · have hR := rv_yes hf (S.good2 e2 hl12 hq hb0 h6' hb1)
      cases hneg : negB s
      · exact vr_pos_good2 hz hneg rfl hTz h0z h1z hsp e2 hli hq0 hv0 hv1 hb0 hl6 hb1 hX hx0 hx1 (by rw [hneg, if_neg (by simp)] at hR; exact hR) w
      · exact vr_neg_good2 hz hneg rfl hTz h0z h1z hsp e2 hli hq0 hv0 hv1 hb0 hl6 hb1 hX hx0 hx1 (by rw [hneg, if_pos rfl] at hR; exact hR) w

end Go.Proofs.YtljngkjhhkccgaaGreatDoor
