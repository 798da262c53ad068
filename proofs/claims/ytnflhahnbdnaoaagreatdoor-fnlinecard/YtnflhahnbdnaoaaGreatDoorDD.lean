/-
  Drawn lines and samples.
-/
import Derived.Test.YtnflhahnbdnaoaaGreatDoorDC
import Derived.Test.YtnflhahnbdnaoaaGreatDoorLT
import Derived.Test.YtnflhahnbdnaoaaGreatDoorLJ
import Derived.Test.YtnflhahnbdnaoaaGreatDoorLQ
import Derived.Test.YtnflhahnbdnaoaaGreatDoorDA
import Derived.Test.YtnflhahnbdnaoaaGreatDoorLR
import Derived.Carry
import Derived.ChangeOld
import Derived.ChangeSame
import Derived.ChangeVars
import Derived.ChangeSlices
import Derived.JoinedOf
import Derived.LaidLaws
import Derived.LaidHandle
import Derived.LaidSub
import Derived.Lay
import Derived.MakeChecks
import Derived.Stop.Joined
import Derived.WalkKit
import Derived.ProofKit
import Derived.OpenShut
namespace Go.Proofs.YtnflhahnbdnaoaaGreatDoor
set_option linter.unusedVariables false
set_option linter.unusedSimpArgs false
open Go.ChangeShapes Go.WideShapes Go.ChangeAt Go.RowKit Go.PlainAid
set_option maxRecDepth 10000

theorem LxA.size {k : Int} {se : ByteArray} {v : Int} {wd : ByteArray} {wt : Int} {tm : Bool} {ti : Int} {r : ByteArray} (h : LxA k se v wd wt tm ti r) : r.size ≤ 500 := by
  rcases h with ⟨_, rfl⟩ | ⟨h1, nm, K, hs, s, _, rfl⟩
  · decide
  · have x := lx_of h1 hs
    have := lnX_size (k := k) (v := v) (wt := wt) (tm := tm) x.nm x.wd x.K x.n x.ti.2
    split
    · exact this
    · decide
set_option maxHeartbeats 1000000 in
theorem c_DrawLineText {w : World} {ln cap : Nat} {ao : Option Addr} (hc : CodeAt w w.heap.size ao ln) :
    Calls Tryz.prog 9 #[.slice ao ln cap] w fun e w' => ∃ x : Sx, e = .returned (.agg (sxArr x)) ∧ x.Ok ∧ Below w.heap.size w w' := by
  have a0 : Below w.heap.size w (w.alloc (.cells #[.int .i64 0, .string ⟨#[]⟩, .int .i64 0, .string ⟨#[]⟩, .int .u64 0, .bool false, .int .i64 0] 27)) := (Below.refl _ _).alloc (Nat.le_refl _) _
  have HC := hide (codeAt_in (B := (w.alloc (.cells #[.int .i64 0, .string ⟨#[]⟩, .int .i64 0, .string ⟨#[]⟩, .int .u64 0, .bool false, .int .i64 0] 27)).heap.size) hc a0 (Nat.le_refl _) a0.size)
  have HR0 := hide (heap_alloc_new w (.cells #[.int .i64 0, .string ⟨#[]⟩, .int .i64 0, .string ⟨#[]⟩, .int .u64 0, .bool false, .int .i64 0] 27))
  have HT0 := hide a0
  have hz0 : (w.alloc (.cells #[.int .i64 0, .string ⟨#[]⟩, .int .i64 0, .string ⟨#[]⟩, .int .u64 0, .bool false, .int .i64 0] 27)).heap.size = w.heap.size + 1 := by simp
  have HZ0 := hide hz0
  clear hc a0 hz0
  go_enter Tryz.func9, Tryz.ntmps9
  go_wp2_with fail
  generalize w.alloc (.cells #[.int .i64 0, .string ⟨#[]⟩, .int .i64 0, .string ⟨#[]⟩, .int .u64 0, .bool false, .int .i64 0] 27) = W0 at HC HR0 HT0 HZ0 ⊢
  refine (c_source_at (K := W0.heap.size) _ _ _ _ rfl HC.out).mono ?_
  rintro e w1 ⟨rfl, hS1⟩
  have HS1 := hide hS1
  clear hS1
  go_wp2_with fail
  refine (c_l06Sample HC.out HS1.out).mono ?_
  rintro e w2 ⟨x, rfl, ok, hS2, hg2⟩
  have HB2 := hide hS2.bel
  have HR2 := hide ((HB2.out.block w.heap.size (by have := HZ0.out; omega)).trans HR0.out)
  have OK := hide ok
  have HT2 := hide (chain HT0.out HB2.out)
  clear hS2 hg2 ok HS1
  have z0 := cellKX HR2.out 0 rfl
  have f0 := frozen_of_row w2 w.heap.size 0 _ _ HR2.out
  have z1 := cellKX HR2.out 1 rfl
  have f1 := frozen_of_row w2 w.heap.size 1 _ _ HR2.out
  have z2 := cellKX HR2.out 2 rfl
  have f2 := frozen_of_row w2 w.heap.size 2 _ _ HR2.out
  have z3 := cellKX HR2.out 3 rfl
  have f3 := frozen_of_row w2 w.heap.size 3 _ _ HR2.out
  have z4 := cellKX HR2.out 4 rfl
  have f4 := frozen_of_row w2 w.heap.size 4 _ _ HR2.out
  have z5 := cellKX HR2.out 5 rfl
  have f5 := frozen_of_row w2 w.heap.size 5 _ _ HR2.out
  have z6 := cellKX HR2.out 6 rfl
  have f6 := frozen_of_row w2 w.heap.size 6 _ _ HR2.out
  go_wp2
  refine bodyPost_ret (v := .agg (sxArr x)) (by simp [results, Tryz.results9, go_sem, z0, z1, z2, z3, z4, z5, z6]) rfl ⟨x, rfl, OK.out, ?_⟩
  repeat (refine Below.setCell ?_ (by simp) _)
  exact HT2.out
set_option maxHeartbeats 1000000 in
theorem c_DrawLineRead {w : World} {ln cap : Nat} {ao : Option Addr} (hc : CodeAt w w.heap.size ao ln) :
    Calls Tryz.prog 13 #[.slice ao ln cap] w fun e w' => ∃ u, e = .returned (.string u) ∧ u.size ≤ 1000 ∧ Below w.heap.size w w' := by
  have HC := hide hc
  clear hc
  go_enter Tryz.func13, Tryz.ntmps13
  go_wp2_with fail
  refine (c_source_at (K := w.heap.size) _ _ _ _ rfl HC.out).mono ?_
  rintro e w1 ⟨rfl, hS1⟩
  have HS1 := hide hS1
  clear hS1
  go_wp2_with fail
  refine (c_l06Sample HC.out HS1.out).mono ?_
  rintro e w2 ⟨x, rfl, ok, hS2, hg2⟩
  have HS2 := hide hS2
  have OK := hide ok
  clear hS2 hg2 ok HS1
  go_wp2_with fail
  refine (c_s_LineText x.k x.se x.v x.wd x.wt x.tm x.ti OK.out.se OK.out.wd).mono ?_
  rintro e w3 ⟨r, rfl, hA, hb3⟩
  have hr := hA.size
  have HS3 := hide (src_past HS2.out hb3)
  clear hb3 hA HS2
  go_wp2_with fail
  refine (c_n HC.out HS3.out 5 (by omega)).mono ?_
  rintro e w4 ⟨v4, rfl, a4, c4, _, hS4, _⟩
  have c4 := c4 (by omega)
  have HS4 := hide hS4
  clear hS4 HS3
  by_cases h0 : v4 = 0
  · subst h0
    go_wp2_with fail
    refine (c_spoil HC.out HS4.out r (by omega)).mono ?_
    rintro e w5 ⟨u, rfl, hu, hS5, _⟩
    have HB5 := hide hS5.bel
    clear hS5
    go_wp2
    go_ret
    exact ⟨u, rfl, by omega, HB5.out⟩
  · have b0 : (v4 == 0) = false := beq_eq_false_iff_ne.2 h0
    by_cases h1 : v4 = 1
    · subst h1
      go_wp2_with fail
      refine (c_pick_lit HC.out HS4.out 200 (by rfl) (by omega) (by omega) (by decide)).mono ?_
      rintro e w5 ⟨u, rfl, hu, hS5, _⟩
      have HB5 := hide hS5.bel
      clear hS5
      go_wp2
      go_ret
      exact ⟨u, rfl, by omega, HB5.out⟩
    · have b1 : (v4 == 1) = false := beq_eq_false_iff_ne.2 h1
      have HB5 := hide HS4.out.bel
      go_wp2
      go_ret
      exact ⟨r, rfl, by omega, HB5.out⟩
end Go.Proofs.YtnflhahnbdnaoaaGreatDoor

/-
  What is read of a line is a right sample. The mathematics.
-/
namespace Go.Proofs.YtnflhahnbdnaoaaGreatDoor
set_option linter.unusedVariables false
set_option linter.unusedSimpArgs false
open Go.ChangeShapes Go.WideShapes Go.ChangeAt Go.RowKit Go.PlainAid
set_option maxRecDepth 10000

theorem rv_bd (s : ByteArray) : -999999999999999999 ≤ rvV s ∧ rvV s ≤ 999999999999999999 := by
  cases hf : fitB s with
  | false => rw [(rv_size hf).1]; omega
  | true =>
    by_cases h : ∃ V, Parse s (fst1 s) V
    · obtain ⟨V, hV⟩ := h
      have b := parse_bd hV
      rw [(rv_ok hf hV).1]
      split <;> omega
    · rw [(rv_bad hf (fun V hV => h ⟨V, hV⟩)).1]; omega
/-- A time that is in its bounds, or none. -/
def PtT (r : Pt) : Prop := (r.td = true ∧ r.ti ≤ 1000000000) ∨ (r.td = false ∧ r.ti = 0)
theorem timO_le {t : ByteArray} {n : Nat} (h : timO t = some n) : n ≤ 1000000000 := by
  unfold timO at h
  split at h
  · split at h
    · cases h; assumption
    · cases h
  · cases h
theorem step_time {r r' : Pt} {p : ByteArray} (h : PtT r) (e : stepP r p = some r') : PtT r' := by
  unfold stepP at e
  split at e
  · cases e; exact h
  split at e
  · cases e; exact h
  split at e
  · obtain ⟨n, hn, rfl⟩ := Option.map_eq_some_iff.1 e
    exact .inl ⟨rfl, timO_le hn⟩
  · cases e
theorem more_time : ∀ (ps : List ByteArray) (a : Nat) (r r' : Pt), PtT r → more a r ps = some r' → PtT r'
  | [], a, r, r', h, e => by cases e; exact h
  | p :: ps, a, r, r', h, e => by
    unfold more at e
    split at e
    · cases e
    · cases hs : stepP r p with
      | none => rw [hs] at e; cases e
      | some q => rw [hs] at e; exact more_time ps _ q r' (step_time h hs) e
theorem wtV_right {k : Int} {rd : Bool} {r : ByteArray} (h : wtB k rd r = true) : weightB k (wtV k rd r) = true := by
  unfold wtB at h
  unfold wtV weightB
  cases rd with
  | false => simp
  | true =>
    rw [if_pos rfl] at h
    rw [if_pos rfl]
    split at h
    · rename_i hr
      rw [if_pos hr]
      obtain ⟨_, h1, h2, h3⟩ := hr
      have q1 : 1 ≤ 1000000 / rvV r := Int.le_ediv_of_mul_le (by omega) (by omega)
      have q2 : 1000000 / rvV r ≤ 1000000 := Int.ediv_le_self _ (by omega)
      simp only [Bool.or_eq_true, Bool.and_eq_true, decide_eq_true_eq]
      exact .inr ⟨⟨h3, by omega⟩, q2⟩
    · cases h
theorem size_pos {u : ByteArray} (h : u ≠ ByteArray.empty) : 0 < u.size := by
  rcases Nat.eq_zero_or_pos u.size with q | q
  · exact absurd (toL_inj (List.eq_nil_of_length_eq_zero (by rw [toL_len]; exact q))) h
  · exact q
theorem LnR.right {t : ByteArray} {s : Sm} (h : LnR t s) (hc : s.c = 0) : smpB s.k s.se s.va s.wd s.wt s.td (s.ti : Int) = true ∧ serRB s.se = true := by
  rcases h with ⟨_, rfl⟩ | ⟨_, ⟨nm, wh, kd, ps, r, hl, hm, hne, rfl⟩ | ⟨_, rfl⟩⟩
  · cases hc
  · have ht := more_time ps 0 pt0 r (.inr ⟨rfl, rfl⟩) hm
    unfold ansS at hc ⊢
    split at hc
    · cases hc
    rename_i hk
    rw [if_neg hk]
    split at hc
    · cases hc
    rename_i hw
    rw [if_neg hw]
    split at hc
    · cases hc
    rename_i hb
    rw [if_neg hb]
    have hw : whB (kndV kd) wh = true := by simpa using hw
    have hb : wtB (kndV kd) r.rd r.rt = true := by simpa using hb
    have hs : serRB (serW nm r.tg) = true := serRB_t (of_serW rfl (size_pos hne))
    refine ⟨?_, hs⟩
    have a1 : kindB (kndV kd) = true := by
      unfold kindB
      rcases kndV_bd kd with e | e | e | e | e
      · exact absurd e hk
      all_goals rw [e]; decide
    have a2 : whatB (kndV kd) (whV (kndV kd) wh) (whW (kndV kd) wh) = true := by
      unfold whatB whV whW
      unfold whB at hw
      by_cases h4 : kndV kd = 4
      · rw [if_pos h4] at hw
        rw [if_pos h4, if_pos h4, if_pos h4, hw]
        rfl
      · rw [if_neg h4, if_neg h4, if_neg h4]
        have := rv_bd wh
        unfold valB
        simp only [Bool.and_eq_true, decide_eq_true_eq]
        exact ⟨this, rfl⟩
    have a4 : timeB r.td (r.ti : Int) = true := by
      unfold timeB
      rcases ht with ⟨e, q⟩ | ⟨e, q⟩
      · rw [if_pos e]; simp; omega
      · rw [e, q]; rfl
    show smpB (kndV kd) (serW nm r.tg) (whV (kndV kd) wh) (whW (kndV kd) wh) (wtV (kndV kd) r.rd r.rt) r.td (r.ti : Int) = true
    unfold smpB
    rw [a1, hs, a2, wtV_right hb, a4]
    rfl
  · cases hc
end Go.Proofs.YtnflhahnbdnaoaaGreatDoor

/-
  An argument that is a slice of bytes, opened; the listed variables' world with a handle among them.
-/
namespace Go.Proofs.YtnflhahnbdnaoaaGreatDoor
set_option linter.unusedVariables false
set_option linter.unusedSimpArgs false
open Go.ChangeMaps (open_string shut_string)
open Go.ChangeShapes Go.WideShapes Go.ChangeAt Go.RowKit Go.PlainAid

set_option maxRecDepth 100000 in
theorem open_code {H : Type} {enc : TypeId × Value → H} {W : World} {r : Reach} {b0 base : Nat} {sp : Nat → Bool} {held : Bool} {v : Value} {d : DataW H} {ps : List MemPlace}
    (hval : Value.okWide Tryz.prog W r b0 30 v) (hd : DataW.Trod enc Tryz.prog W base sp held 30 v d ps) : ∃ ao ln cap, v = .slice ao ln cap ∧ ln ≤ maxLen ∧ (ln ≤ 1048576 → CodeAt W W.heap.size ao ln) := by
  obtain ⟨ao, ln, cap, rfl⟩ := okWide_slice Tryz.underlying30 hval
  obtain ⟨fuel, hf⟩ := hd
  rcases open_ints Tryz.underlying30 Tryz.underlying5 (show Tryz.prog.cellsOf 5 = 1 by kernel_rfl) hf with ⟨hcs, hx⟩ | ⟨a, len', cap', zs, hcs, _, hl, hm, hz, hx, hcell, hwz⟩
  · simp [Value.cells] at hcs
    obtain ⟨rfl, rfl, rfl⟩ := hcs
    exact ⟨none, 0, 0, rfl, Nat.zero_le _, fun _ => ⟨by omega, fun h => absurd h (by omega)⟩⟩
  · simp [Value.cells] at hcs
    obtain ⟨rfl, rfl, rfl⟩ := hcs
    refine ⟨some a, ln, cap, rfl, Nat.le_trans hl hm, fun h => ⟨h, fun h0 => ?_⟩⟩
    have hzl : ln ≤ zs.length := by rw [hz]; split <;> omega
    have g0 := hcell 0 (by omega)
    obtain ⟨b, off, spot⟩ := a
    have hspot : spot = none := by simpa [Addr.add] using World.cell?_spot g0
    subst hspot
    refine ⟨b, off, rfl, by have := World.block_lt_of_cell? W _ g0; simpa [Addr.add] using this, fun i hi => ⟨zs.getD i 0, ?_, by have := range_u8 hwz i; simpa [List.getD] using this⟩⟩
    have := hcell i (by omega)
    by_cases hi0 : i = 0
    · subst hi0; simpa [Addr.add] using this
    · simpa [Addr.add, hi0] using this
end Go.Proofs.YtnflhahnbdnaoaaGreatDoor
