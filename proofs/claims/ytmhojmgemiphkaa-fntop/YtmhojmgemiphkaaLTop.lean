/-
  The law FnTop: of keys and weights that are drawn the Count of each is no more than all its weights together, and with the Debt no less; the Debt is at most a sixth of all; likewise if two such are brought together; and a drawn put is the model's. No condition.
-/
import Derived.Test.YtmhojmgemiphkaaDrawR
import Derived.Test.YtmhojmgemiphkaaTopB
import Derived.Test.YtmhojmgemiphkaaLwC
import Derived.Test.YtmhojmgemiphkaaOpenC
namespace Go.Proofs.Ytmhojmgemiphkaa
set_option linter.unusedVariables false
set_option linter.unusedSimpArgs false
open Go.ChangeShapes Go.WideShapes Go.ChangeAt Go.RowKit Go.PlainAid
set_option maxRecDepth 10000
theorem infoI64T : (Try.prog.info? 2).map (fun i => (i.zero, i.size, i.bytes)) = some (some (.int .i64 0), 1, 8) := by kernel_rfl

theorem two_byte (w : World) (y : Int) : (convert 36 9 (.slice (some ⟨w.heap.size, 0, none⟩) 2 2)).run Try.prog (w.alloc (.cells #[.int .u8 107, .int .u8 y] 5)) = .ok (.string (strOfNums [107, y])) (w.alloc (.cells #[.int .u8 107, .int .u8 y] 5)) :=
  run_convert_bytes_arg (P := Try.prog) (w.alloc (.cells #[.int .u8 107, .int .u8 y] 5)) 36 5 Try.underlying36 Try.underlying5 w.heap.size 0 2 2 [107, y] rfl (fun i hi => by
    have : i = 0 ∨ i = 1 := by omega
    rcases this with rfl | rfl <;> simp) 9 Try.underlying9
theorem chainT {w W X : World} (h : Below w.heap.size w W) (hb : Below W.heap.size W X) : Below w.heap.size w X := h.trans (hb.mono h.size)
theorem chainS {w X : World} {g j : Nat} {u : Value} (h : Below w.heap.size w X) (hg : w.heap.size ≤ g) : Below w.heap.size w (X.setCell ⟨g, j, none⟩ u) := h.setCell hg u
/-- What the loop keeps. -/
def TopInv (w W : World) (rf : Nat) (i : Nat) (all : Int) : Prop := ∃ pt Lt Dt Tt ft pu Lu Du Tu fu F, TpL W w.heap.size pt Lt Dt Tt ft ∧ TpL W (w.heap.size + 1) pu Lu Du Tu fu ∧ FL W rf F ∧ (∀ k : Nat, k < 12 → F k = ft (keyOf k) + fu (keyOf k)) ∧ Tt + Tu = all ∧ 0 ≤ Tt ∧ 0 ≤ Tu ∧ all ≤ 20 * i ∧ (∀ k : Nat, k < 12 → 0 ≤ F k ∧ F k ≤ 20 * i) ∧ Below w.heap.size w W ∧ rf = w.heap.size + 2
theorem topInv_start {w w0 : World} (hown : w0.ownsRow 0 2 1 (.slice (some ⟨((w.alloc (.cells #[.slice none 0 0, .int .i64 0, .int .i64 0] 28)).alloc (.cells #[.slice none 0 0, .int .i64 0, .int .i64 0] 28)).heap.size, 0, none⟩) 12 12) 12 (madeCells (Value.int .i64 0).cells (12 * 1)).toList) (hg : ((w.alloc (.cells #[.slice none 0 0, .int .i64 0, .int .i64 0] 28)).alloc (.cells #[.slice none 0 0, .int .i64 0, .int .i64 0] 28)).grownBy w0 none) : TopInv w w0 (w.heap.size + 2) 0 0 := by
  have b1 : w0.heap[w.heap.size]? = some (.cells #[.slice none 0 0, .int .i64 0, .int .i64 0] 28 (0, 0)) := by
    rw [hg.block _ (by simp; omega) (by simp), heap_alloc_old _ _ (by simp)]; exact heap_alloc_new w _
  have b2 : w0.heap[w.heap.size + 1]? = some (.cells #[.slice none 0 0, .int .i64 0, .int .i64 0] 28 (0, 0)) := by
    rw [hg.block _ (by simp) (by simp)]; simpa using heap_alloc_new (w.alloc (.cells #[.slice none 0 0, .int .i64 0, .int .i64 0] 28)) (.cells #[.slice none 0 0, .int .i64 0, .int .i64 0] 28)
  have hsz : ((w.alloc (.cells #[.slice none 0 0, .int .i64 0, .int .i64 0] 28)).alloc (.cells #[.slice none 0 0, .int .i64 0, .int .i64 0] 28)).heap.size = w.heap.size + 2 := by simp
  rw [hsz] at hown
  refine ⟨_, [], 0, 0, fun _ => 0, _, [], 0, 0, fun _ => 0, fun _ => 0, ⟨b1, ownH_nil _ _, TI.nil⟩, ⟨b2, ownH_nil _ _, TI.nil⟩, ⟨?_⟩, fun k _ => rfl, rfl, Int.le_refl _, Int.le_refl _, by simp, fun k _ => ⟨Int.le_refl _, by simp⟩, ?_, rfl⟩
  · rcases hown.2 with ⟨e, _⟩ | ⟨g', cap', cur, e, _, hg', _, _, hcs, htake⟩
    · cases e
    · simp only [Value.slice.injEq, Option.some.injEq, Addr.mk.injEq, and_true, true_and] at e
      obtain ⟨rfl, rfl⟩ := e
      refine ⟨cur, hg', by omega, fun k hk => ?_⟩
      have h2 := hown.cellAt k (by omega)
      rw [cell_of_row w0 _ k cur _ (0, 0) hg'] at h2
      rw [h2, show (Value.int .i64 0).cells = #[Value.int .i64 0] from rfl, Nat.mul_one, toList_madeCells_one, List.getElem?_replicate, if_pos hk]
  · exact (((Below.refl _ _).alloc (Nat.le_refl _) _).alloc (by simp) _).grown hg (by simp; omega) (fun k e => by cases e)

theorem step_F {kn : Nat} {F : Nat → Int} {vn : Int} {ft fu : ByteArray → Int} {i : Nat} (hk : kn < 12) (v0 : 0 ≤ vn) (v1 : vn < 20) (hM : (∀ k : Nat, k < 12 → F k = ft (keyOf k) + fu (keyOf k)) ∧ (∀ k : Nat, k < 12 → 0 ≤ F k ∧ F k ≤ 20 * i)) (k : Nat) (h12 : k < 12) :
    ((fun j => if j = kn then F kn + (1 + vn) else F j) k = ft (keyOf k) + (fu (keyOf k) + if keyOf kn = keyOf k then 1 + vn else 0)) ∧ ((fun j => if j = kn then F kn + (1 + vn) else F j) k = (ft (keyOf k) + if keyOf kn = keyOf k then 1 + vn else 0) + fu (keyOf k)) ∧ 0 ≤ (fun j => if j = kn then F kn + (1 + vn) else F j) k ∧ (fun j => if j = kn then F kn + (1 + vn) else F j) k ≤ 20 * ((i + 1 : Nat) : Int) := by
  have h1 := hM.1 k h12
  have h2 := hM.2 k h12
  have hin := keyOf_inj (j := (kn : Int)) (k := (k : Int)) (by omega) (by omega) (by omega) (by omega)
  show ((if k = kn then F kn + (1 + vn) else F k) = _) ∧ ((if k = kn then F kn + (1 + vn) else F k) = _) ∧ 0 ≤ (if k = kn then F kn + (1 + vn) else F k) ∧ (if k = kn then F kn + (1 + vn) else F k) ≤ _
  by_cases e : k = kn
  · subst e
    rw [if_pos rfl, if_pos rfl]
    refine ⟨by omega, by omega, by omega, by omega⟩
  · rw [if_neg e, if_neg (fun h => e (by have := hin.1 h; omega))]
    refine ⟨by omega, by omega, by omega, by omega⟩
section
variable {w W5 w6 : World} {i kn B : Nat} {all vn : Int} {pt : Value} {Lt : List Hv} {Dt Tt : Int} {ft : ByteArray → Int} {pu : Value} {Lu : List Hv} {Du Tu : Int} {fu : ByteArray → Int} {F : Nat → Int} {p' : Value} {L' : List Hv} {D' : Int}
theorem topInv_u (kt : TpL W5 w.heap.size pt Lt Dt Tt ft) (ku : TpL W5 (w.heap.size + 1) pu Lu Du Tu fu) (kf : FL W5 (w.heap.size + 1 + 1) (fun j => if j = kn then F kn + (1 + vn) else F j)) (hM : (∀ k : Nat, k < 12 → F k = ft (keyOf k) + fu (keyOf k)) ∧ (∀ k : Nat, k < 12 → 0 ≤ F k ∧ F k ≤ 20 * i)) (hS : Tt + Tu = all ∧ 0 ≤ Tt ∧ 0 ≤ Tu ∧ all ≤ 20 * i) (hk : kn < 12) (v0 : 0 ≤ vn) (v1 : vn < 20) (bel : Below w.heap.size w W5) (hb : Below W5.heap.size W5 w6) (o : OwnH w6 B p' L') (ti : TI L' D' (Tu + (1 + vn)) (fun p => fu p + if keyOf kn = p then 1 + vn else 0)) :
    TopInv w (tp3 w6 (w.heap.size + 1) p' D' (Tu + (1 + vn))) (w.heap.size + 1 + 1) (i + 1) (all + (1 + vn)) := by
  obtain ⟨s1, s2, s3, s4⟩ := hS
  refine ⟨pt, Lt, Dt, Tt, ft, p', L', D', Tu + (1 + vn), _, _, kt.put2 hb (ku.past hb).row (by omega) _ _ _ rfl, ku.put hb o ti, (kf.past hb).tp3 (by omega) _ _ _, fun k h12 => (step_F hk v0 v1 hM k h12).1, by omega, s2, by omega, by omega, fun k h12 => (step_F hk v0 v1 hM k h12).2.2, ?_, rfl⟩
  exact ((((bel.trans (hb.mono bel.size)).setCell (by simp) _).setCell (by simp) _).setCell (by simp) _)
theorem topInv_t (kt : TpL W5 w.heap.size pt Lt Dt Tt ft) (ku : TpL W5 (w.heap.size + 1) pu Lu Du Tu fu) (kf : FL W5 (w.heap.size + 1 + 1) (fun j => if j = kn then F kn + (1 + vn) else F j)) (hM : (∀ k : Nat, k < 12 → F k = ft (keyOf k) + fu (keyOf k)) ∧ (∀ k : Nat, k < 12 → 0 ≤ F k ∧ F k ≤ 20 * i)) (hS : Tt + Tu = all ∧ 0 ≤ Tt ∧ 0 ≤ Tu ∧ all ≤ 20 * i) (hk : kn < 12) (v0 : 0 ≤ vn) (v1 : vn < 20) (bel : Below w.heap.size w W5) (hb : Below W5.heap.size W5 w6) (o : OwnH w6 B p' L') (ti : TI L' D' (Tt + (1 + vn)) (fun p => ft p + if keyOf kn = p then 1 + vn else 0)) :
    TopInv w (tp3 w6 w.heap.size p' D' (Tt + (1 + vn))) (w.heap.size + 1 + 1) (i + 1) (all + (1 + vn)) := by
  obtain ⟨s1, s2, s3, s4⟩ := hS
  refine ⟨p', L', D', Tt + (1 + vn), _, pu, Lu, Du, Tu, fu, _, kt.put hb o ti, ku.put2 hb (kt.past hb).row (by omega) _ _ _ rfl, (kf.past hb).tp3 (by omega) _ _ _, fun k h12 => (step_F hk v0 v1 hM k h12).2.1, by omega, by omega, s3, by omega, fun k h12 => (step_F hk v0 v1 hM k h12).2.2, ?_, rfl⟩
  exact ((((bel.trans (hb.mono bel.size)).setCell (Nat.le_refl _) _).setCell (Nat.le_refl _) _).setCell (Nat.le_refl _) _)
end
/-- A put of the law. -/
theorem put_ti {w' : World} {B : Nat} {v : Value} {L : List Hv} {D T : Int} {f : ByteArray → Int} {kn : Nat} {vn : Int} (h : TI L D T f) (hk : kn < 12) (v0 : 0 ≤ vn) (v1 : vn < 20) (hT : T ≤ 1000)
    (hq : (tpOk L D T (keyOf kn) (1 + vn) ∧ ∃ d, DebtV (hvAdd L (keyOf kn, 1 + vn)) d ∧ TopOut w' B v (lessH (hvAdd L (keyOf kn, 1 + vn)) d) (D + d) (T + (1 + vn))) ∨ (¬ tpOk L D T (keyOf kn) (1 + vn) ∧ TopOut w' B v L D T)) :
    ∃ p' L' D', v = .agg #[p', .int .i64 D', .int .i64 (T + (1 + vn))] ∧ OwnH w' B p' L' ∧ TI L' D' (T + (1 + vn)) (fun p => f p + if keyOf kn = p then 1 + vn else 0) := by
  have ok : tpOk L D T (keyOf kn) (1 + vn) := ⟨h.top, keyOf_key _, by omega, by omega, by omega⟩
  rcases hq with ⟨_, d, hv, p', e, o⟩ | ⟨hn, _⟩
  · exact ⟨p', _, _, e, o, h.put ok hv⟩
  · exact absurd ok hn

theorem mrg_ti {w' : World} {B : Nat} {v : Value} {L M : List Hv} {D T E U : Int} {f g : ByteArray → Int} (h : TI L D T f) (k : TI M E U g) (hT : T + U ≤ 1000)
    (hq : (tmOk L D T M E U ∧ ∃ d, DebtV (addAll L M) d ∧ TopOut w' B v (lessH (addAll L M) d) (D + E + d) (T + U)) ∨ (¬ tmOk L D T M E U ∧ TopOut w' B v [] 0 0)) :
    ∃ p' L' D', v = .agg #[p', .int .i64 D', .int .i64 (T + U)] ∧ OwnH w' B p' L' ∧ TI L' D' (T + U) (fun p => f p + g p) := by
  have ok : tmOk L D T M E U := ⟨h.top, k.top, by omega⟩
  rcases hq with ⟨_, d, hv, p', e, o⟩ | ⟨hn, _⟩
  · exact ⟨p', _, _, e, o, h.merge k ok hv⟩
  · exact absurd ok hn
theorem TpL.made {w : World} {B : Nat} {p : Value} {L : List Hv} {D T : Int} {f : ByteArray → Int} (o : OwnH w B p L) (ti : TI L D T f) : TpL (w.alloc (.cells #[p, .int .i64 D, .int .i64 T] 28)) w.heap.size p L D T f :=
  ⟨heap_alloc_new w _, (o.le (Nat.zero_le _)).past ((Below.refl _ _).alloc (Nat.le_refl _) _), ti⟩

set_option maxHeartbeats 2000000 in
theorem walkTop (ao : Option Addr) (ln cap : Nat) (bo : Option Addr) (lm cbp : Nat) (w : World) (hl : ln ≤ maxLen) (ha : ln ≤ 1048576 → CodeAt w w.heap.size ao ln) (hm : lm ≤ maxLen) (hb : lm ≤ 1048576 → CodeAt w w.heap.size bo lm) :
    Calls Try.prog 5 #[.slice ao ln cap, .slice bo lm cbp] w fun e w' => e = .returned (.bool true) ∧ Below w.heap.size w w' := by
  have hlz : ln ≤ 9223372036854775807 := hl
  have hmz : lm ≤ 9223372036854775807 := hm
  by_cases hl1 : 1048576 < ln
  · have hl1i : (1048576 : Int) < (ln : Int) := by omega
    clear ha hb
    go_enter Try.func5, Try.ntmps5
    go_wp2
    go_ret
    exact ⟨rfl, Below.refl _ _⟩
  have hl1i : ¬ (1048576 : Int) < (ln : Int) := by omega
  by_cases hm1 : 1048576 < lm
  · have hm1i : (1048576 : Int) < (lm : Int) := by omega
    clear ha hb
    go_enter Try.func5, Try.ntmps5
    go_wp2
    go_ret
    exact ⟨rfl, Below.refl _ _⟩
  have hm1i : ¬ (1048576 : Int) < (lm : Int) := by omega
  have HA := hide (ha (by omega))
  have HB := hide (hb (by omega))
  clear ha hb
  obtain ⟨i0, hi, hz0, hz1, hz2⟩ := info_parts infoI64T
  go_enter Try.func5, Try.ntmps5
  go_wp2_with (at_make; refine wpList_make_full _ rfl _ _ 37 rfl 0 2 i0 (.int .i64 0) 1 Try.underlying37 hi hz0 hz1 .i64 .i64 _ _ 12 rfl rfl rfl rfl (by rw [hz2]; omega) (by unfold maxLen; omega) (Nat.zero_le _) ?_; intro w0 hown0 hgrow0)
  have inv0 := topInv_start hown0 hgrow0
  have INV0 := hide inv0
  clear inv0 hown0 hgrow0 hi hz0 hz1 hz2
  go_wp2_with fail
  go_loopw [8, 9] (fun av iv wr => ∃ (i : Nat) (all : Int), av = .int .i64 all ∧ iv = .int .i64 i ∧ i ≤ 30 ∧ Hid (TopInv w wr (w.heap.size + 1 + 1) i all)) (fun av iv wr => 30 - (RowKit.intOf iv).toNat)
  case atStart => exact ⟨0, 0, rfl, rfl, by omega, INV0⟩
  case round =>
    clear INV0
    obtain ⟨i, all, rfl, rfl, hi30, INV⟩ := hrel
    by_cases hlt : i < 30
    · have hlti : (i : Int) < 30 := by omega
      obtain ⟨pt, Lt, Dt, Tt, ft, pu, Lu, Du, Tu, fu, F, kt, ku, kf, hF, hall, hT0, hU0, hal, hFb, hbel, hrf⟩ := INV.out
      have HBl := hide hbel
      have HT := hide kt
      have HU := hide ku
      have HFL := hide kf
      have HM : Hid ((∀ k : Nat, k < 12 → F k = ft (keyOf k) + fu (keyOf k)) ∧ (∀ k : Nat, k < 12 → 0 ≤ F k ∧ F k ≤ 20 * i)) := (⟨hF, hFb⟩ : (∀ k : Nat, k < 12 → F k = ft (keyOf k) + fu (keyOf k)) ∧ (∀ k : Nat, k < 12 → 0 ≤ F k ∧ F k ≤ 20 * i))
      have HS : Hid (Tt + Tu = all ∧ 0 ≤ Tt ∧ 0 ≤ Tu ∧ all ≤ 20 * i) := (⟨hall, hT0, hU0, hal⟩ : Tt + Tu = all ∧ 0 ≤ Tt ∧ 0 ≤ Tu ∧ all ≤ 20 * i)
      clear INV kt ku kf hF hall hT0 hU0 hal hFb hbel hrf
      go_wp2_with fail
      refine (c_lwAtF ao ln cap i 12 (by omega) (by omega) (by omega) _ w HA.out HBl.out).mono ?_
      rintro e wr' ⟨rfl, hwr⟩
      obtain rfl := hwr.symm
      obtain ⟨k0, k1⟩ := lwF_in HA.out (show (0 : Int) < 12 by omega) i
      obtain ⟨kn, hkn⟩ := Int.eq_ofNat_of_zero_le k0
      rw [hkn] at k1 ⊢
      have hk12 : kn < 12 := by omega
      clear hkn k0 k1
      go_wp2_with fail
      refine (c_lwAtF bo lm cbp i 20 (by omega) (by omega) (by omega) _ w HB.out HBl.out).mono ?_
      rintro e wr' ⟨rfl, hwr⟩
      obtain rfl := hwr.symm
      obtain ⟨v0, v1⟩ := lwF_in HB.out (show (0 : Int) < 20 by omega) i
      obtain ⟨vn, hvn⟩ : ∃ vn, lwF w bo lm i 20 = vn := ⟨_, rfl⟩
      rw [hvn] at v0 v1 ⊢
      clear hvn
      have ew1 : IntKind.i64.wrap (1 + vn) = 1 + vn := IntWalk.i64_in _ ⟨by omega, by omega⟩
      have ew2 : IntKind.i64.wrap (97 + (kn : Int)) = 97 + (kn : Int) := IntWalk.i64_in _ ⟨by omega, by omega⟩
      have ew3 : IntKind.u8.wrap (97 + (kn : Int)) = 97 + (kn : Int) := IntWalk.u8_in _ ⟨by omega, by omega⟩
      have kc := two_byte wr (97 + (kn : Int))
      have hk12i : (kn : Int) < 12 := by omega
      have HFL1 := hide (HFL.out.past ((Below.refl _ _).alloc (Nat.le_refl _) (.cells #[.int .u8 107, .int .u8 (97 + (kn : Int))] 5)))
      obtain ⟨fc, ff⟩ := HFL1.out.cell hk12
      have fb := HM.out.2 kn hk12
      have fi : F kn ≤ 600 := by omega
      have f0 : 0 ≤ F kn := fb.1
      clear fb
      have ew4 : IntKind.i64.wrap (F kn + (1 + vn)) = F kn + (1 + vn) := IntWalk.i64_in _ ⟨by omega, by omega⟩
      have hall := HS.out
      have ew5 : IntKind.i64.wrap (all + (1 + vn)) = all + (1 + vn) := IntWalk.i64_in _ ⟨by omega, by omega⟩
      clear hall
      have e3 : Int.tmod (i : Int) 3 = ((i % 3 : Nat) : Int) := rfl
      obtain ⟨r, hr⟩ : ∃ r, i % 3 = r := ⟨_, rfl⟩
      rw [hr] at e3
      clear hr
      rcases Nat.eq_zero_or_pos r with h0 | h0
      · subst h0
        obtain ⟨fcs, hfcs, _, _⟩ := HFL1.out.row
        have ba : Below wr.heap.size wr (wr.alloc (.cells #[.int .u8 107, .int .u8 (97 + (kn : Int))] 5)) := (Below.refl _ _).alloc (Nat.le_refl _) _
        have HT5 := hide ((HT.out.past ba).set (j := kn) hfcs (by decide) (by omega) (.int .i64 (F kn + (1 + vn))))
        have HU5 := hide ((HU.out.past ba).set (j := kn) hfcs (by decide) (by omega) (.int .i64 (F kn + (1 + vn))))
        have HF5 := hide (HFL1.out.set hk12 (F kn + (1 + vn)))
        have HB5 := hide (chainS (g := w.heap.size + 1 + 1) (j := kn) (u := .int .i64 (F kn + (1 + vn))) (chainT HBl.out ba) (by omega))
        clear ba hfcs
        obtain ⟨pa, pc, rfl⟩ := HU5.out.own.any
        obtain ⟨n, hn⟩ : ∃ n, Lu.length = n := ⟨_, rfl⟩
        rw [hn] at HU5
        have HN := hide hn
        clear hn
        obtain ⟨q0, q1, q2⟩ := cell3 HU5.out.row
        go_wp2_with fail
        clear q0 q1 q2 fc ff kc
        generalize ((wr.alloc (.cells #[.int .u8 107, .int .u8 (97 + (kn : Int))] 5)).setCell ⟨w.heap.size + 1 + 1, kn, none⟩ (.int .i64 (F kn + (1 + vn)))) = W5 at HT5 HU5 HF5 HB5 ⊢
        obtain ⟨ok, l5, iD, iT, _⟩ := HU5.out.ti.ok
        refine (c_i_TopPut (P := Lu) (key := keyOf kn) (by rw [keyOf_size]; omega) HN.out (by have := HN.out; omega) HU5.out.own.at ok iD iT (by unfold I64; omega)).mono ?_
        rintro e w6 ⟨v6, rfl, hb6, hq6⟩
        obtain ⟨p', L', D', rfl, o', ti'⟩ := put_ti HU5.out.ti hk12 v0 v1 (by have := HS.out; omega) hq6
        have INV1 := hide (topInv_u HT5.out HU5.out HF5.out HM.out HS.out hk12 v0 v1 HB5.out hb6 o' ti')
        obtain ⟨pa', pc', rfl⟩ := o'.any
        have row6 := (HU5.out.past hb6).row
        obtain ⟨q0, q1, q2⟩ := cell3 row6
        have e0 := frozen_of_row w6 (w.heap.size + 1) 0 _ _ row6
        have e1 := frozen_of_row w6 (w.heap.size + 1) 1 _ _ row6
        have e2 := frozen_of_row w6 (w.heap.size + 1) 2 _ _ row6
        clear hq6 o' ti' row6 ok l5 iD iT HT5 HU5 HF5 HB5 HM HS HT HU HFL HFL1 hb6 HBl
        obtain ⟨n', hn'⟩ : ∃ n', L'.length = n' := ⟨_, rfl⟩
        rw [hn'] at INV1 ⊢
        clear hn'
        go_wp2
        go_roundw
        case rel => exact ⟨i + 1, all + (1 + vn), rfl, by go_num, by omega, INV1⟩
        case measure => simp [RowKit.intOf]; omega
      · have h0i : ((r : Int) == 0) = false := by simp; omega
        obtain ⟨fcs, hfcs, _, _⟩ := HFL1.out.row
        have ba : Below wr.heap.size wr (wr.alloc (.cells #[.int .u8 107, .int .u8 (97 + (kn : Int))] 5)) := (Below.refl _ _).alloc (Nat.le_refl _) _
        have HT5 := hide ((HT.out.past ba).set (j := kn) hfcs (by decide) (by omega) (.int .i64 (F kn + (1 + vn))))
        have HU5 := hide ((HU.out.past ba).set (j := kn) hfcs (by decide) (by omega) (.int .i64 (F kn + (1 + vn))))
        have HF5 := hide (HFL1.out.set hk12 (F kn + (1 + vn)))
        have HB5 := hide (chainS (g := w.heap.size + 1 + 1) (j := kn) (u := .int .i64 (F kn + (1 + vn))) (chainT HBl.out ba) (by omega))
        clear ba hfcs
        obtain ⟨pa, pc, rfl⟩ := HT5.out.own.any
        obtain ⟨n, hn⟩ : ∃ n, Lt.length = n := ⟨_, rfl⟩
        rw [hn] at HT5
        have HN := hide hn
        clear hn
        obtain ⟨q0, q1, q2⟩ := cell3 HT5.out.row
        go_wp2_with fail
        clear q0 q1 q2 fc ff kc
        generalize ((wr.alloc (.cells #[.int .u8 107, .int .u8 (97 + (kn : Int))] 5)).setCell ⟨w.heap.size + 1 + 1, kn, none⟩ (.int .i64 (F kn + (1 + vn)))) = W5 at HT5 HU5 HF5 HB5 ⊢
        obtain ⟨ok, l5, iD, iT, _⟩ := HT5.out.ti.ok
        refine (c_i_TopPut (P := Lt) (key := keyOf kn) (by rw [keyOf_size]; omega) HN.out (by have := HN.out; omega) HT5.out.own.at ok iD iT (by unfold I64; omega)).mono ?_
        rintro e w6 ⟨v6, rfl, hb6, hq6⟩
        obtain ⟨p', L', D', rfl, o', ti'⟩ := put_ti HT5.out.ti hk12 v0 v1 (by have := HS.out; omega) hq6
        have INV1 := hide (topInv_t HT5.out HU5.out HF5.out HM.out HS.out hk12 v0 v1 HB5.out hb6 o' ti')
        obtain ⟨pa', pc', rfl⟩ := o'.any
        have row6 := (HT5.out.past hb6).row
        obtain ⟨q0, q1, q2⟩ := cell3 row6
        have e0 := frozen_of_row w6 w.heap.size 0 _ _ row6
        have e1 := frozen_of_row w6 w.heap.size 1 _ _ row6
        have e2 := frozen_of_row w6 w.heap.size 2 _ _ row6
        clear hq6 o' ti' row6 ok l5 iD iT HT5 HU5 HF5 HB5 HM HS HT HU HFL HFL1 hb6 HBl
        obtain ⟨n', hn'⟩ : ∃ n', L'.length = n' := ⟨_, rfl⟩
        rw [hn'] at INV1 ⊢
        clear hn'
        go_wp2
        go_roundw
        case rel => exact ⟨i + 1, all + (1 + vn), rfl, by go_num, by omega, INV1⟩
        case measure => simp [RowKit.intOf]; omega
    · have e : i = 30 := by omega
      subst e
      obtain ⟨pt, Lt, Dt, Tt, ft, pu, Lu, Du, Tu, fu, F, kt, ku, kf, hF, hall, hT0, hU0, hal, hFb, hbel, hrf⟩ := INV.out
      have HBl := hide hbel
      obtain ⟨ta, tc, rfl⟩ := kt.own.any
      obtain ⟨ua, uc, rfl⟩ := ku.own.any
      obtain ⟨nt, hnt⟩ : ∃ n, Lt.length = n := ⟨_, rfl⟩
      obtain ⟨nu, hnu⟩ : ∃ n, Lu.length = n := ⟨_, rfl⟩
      rw [hnt] at kt
      rw [hnu] at ku
      have HNT := hide hnt
      have HNU := hide hnu
      have HT := hide kt
      have HU := hide ku
      have HFL := hide kf
      have HM : Hid ((∀ k : Nat, k < 12 → F k = ft (keyOf k) + fu (keyOf k)) ∧ (∀ k : Nat, k < 12 → 0 ≤ F k ∧ F k ≤ 600)) := (⟨hF, fun k hk => ⟨(hFb k hk).1, by have := (hFb k hk).2; omega⟩⟩ : (∀ k : Nat, k < 12 → F k = ft (keyOf k) + fu (keyOf k)) ∧ (∀ k : Nat, k < 12 → 0 ≤ F k ∧ F k ≤ 600))
      have HS : Hid (Tt + Tu = all ∧ 0 ≤ Tt ∧ 0 ≤ Tu ∧ all ≤ 600) := (⟨hall, hT0, hU0, by omega⟩ : Tt + Tu = all ∧ 0 ≤ Tt ∧ 0 ≤ Tu ∧ all ≤ 600)
      clear INV kt ku kf hF hall hT0 hU0 hal hFb hbel hrf hnt hnu
      obtain ⟨q0, q1, q2⟩ := cell3 HT.out.row
      obtain ⟨r0, r1, r2⟩ := cell3 HU.out.row
      go_wp2_with fail
      clear q0 q1 q2 r0 r1 r2
      obtain ⟨okt, lt5, iDt, iTt, _⟩ := HT.out.ti.ok
      obtain ⟨oku, lu5, iDu, iTu, _⟩ := HU.out.ti.ok
      refine (c_i_TopMerge HNT.out HNU.out (by have := HNT.out; omega) (by have := HNU.out; omega) HT.out.own.at HU.out.own.at okt oku iDt iTt iDu iTu).mono ?_
      rintro e w6 ⟨v6, rfl, hb6, hq6⟩
      obtain ⟨pm, Lm, Dm, rfl, om, tim⟩ := mrg_ti HT.out.ti HU.out.ti (by have := HS.out; omega) hq6
      obtain ⟨ma, mc, rfl⟩ := om.any
      obtain ⟨nm, hnm⟩ : ∃ n, Lm.length = n := ⟨_, rfl⟩
      rw [hnm] at om ⊢
      have HNM := hide hnm
      have hbx : Below wr.heap.size wr (w6.alloc (.cells #[.slice ma nm mc, .int .i64 Dm, .int .i64 (Tt + Tu)] 28)) := hb6.alloc hb6.size _
      have HM6 := hide (TpL.made om tim)
      replace HT := hide (HT.out.past hbx)
      replace HU := hide (HU.out.past hbx)
      replace HFL := hide (HFL.out.past hbx)
      replace HBl := hide (chainT HBl.out hbx)
      clear hnm hbx hb6 hq6 om tim okt oku lt5 lu5 iDt iTt iDu iTu
      obtain ⟨q0, q1, q2⟩ := cell3 HT.out.row
      obtain ⟨r0, r1, r2⟩ := cell3 HU.out.row
      obtain ⟨s0, s1, s2⟩ := cell3 HM6.out.row
      go_wp2_with fail
      clear q0 q1 q2 r0 r1 r2 s0 s1 s2
      obtain ⟨ok, l5, iD, iT, _⟩ := HT.out.ti.ok
      refine (c_s_TopRight _ nt HNT.out (by have := HNT.out; omega) HT.out.own.at ok iD iT).mono ?_
      rintro e w7 ⟨rfl, hb7⟩
      rw [HT.out.ti.top]
      clear ok l5 iD iT
      replace HT := hide (HT.out.past hb7)
      replace HU := hide (HU.out.past hb7)
      replace HM6 := hide (HM6.out.past hb7)
      replace HFL := hide (HFL.out.past hb7)
      replace HBl := hide (chainT HBl.out hb7)
      clear hb7
      obtain ⟨q0, q1, q2⟩ := cell3 HT.out.row
      obtain ⟨r0, r1, r2⟩ := cell3 HU.out.row
      obtain ⟨s0, s1, s2⟩ := cell3 HM6.out.row
      go_wp2_with fail
      clear q0 q1 q2 r0 r1 r2 s0 s1 s2
      obtain ⟨ok, l5, iD, iT, _⟩ := HU.out.ti.ok
      refine (c_s_TopRight _ nu HNU.out (by have := HNU.out; omega) HU.out.own.at ok iD iT).mono ?_
      rintro e w8 ⟨rfl, hb7⟩
      rw [HU.out.ti.top]
      clear ok l5 iD iT
      replace HT := hide (HT.out.past hb7)
      replace HU := hide (HU.out.past hb7)
      replace HM6 := hide (HM6.out.past hb7)
      replace HFL := hide (HFL.out.past hb7)
      replace HBl := hide (chainT HBl.out hb7)
      clear hb7
      obtain ⟨q0, q1, q2⟩ := cell3 HT.out.row
      obtain ⟨r0, r1, r2⟩ := cell3 HU.out.row
      obtain ⟨s0, s1, s2⟩ := cell3 HM6.out.row
      go_wp2_with fail
      clear q0 q1 q2 r0 r1 r2 s0 s1 s2
      obtain ⟨ok, l5, iD, iT, _⟩ := HM6.out.ti.ok
      refine (c_s_TopRight _ nm HNM.out (by have := HNM.out; omega) HM6.out.own.at ok iD iT).mono ?_
      rintro e w9 ⟨rfl, hb7⟩
      rw [HM6.out.ti.top]
      clear ok l5 iD iT
      replace HT := hide (HT.out.past hb7)
      replace HU := hide (HU.out.past hb7)
      replace HM6 := hide (HM6.out.past hb7)
      replace HFL := hide (HFL.out.past hb7)
      replace HBl := hide (chainT HBl.out hb7)
      clear hb7
      have hall := HS.out.1
      have h6 := HM6.out.ti.sixth
      have h60 : IntKind.i64.wrap (6 * Dm) = 6 * Dm := IntWalk.i64_in _ ⟨by have := HM6.out.ti.ok.2.2.2.2; omega, by have := HS.out; omega⟩
      rw [hall] at h6
      have h61 : ¬ all < 6 * Dm := by omega
      have hne : (Tt + Tu != all) = false := by simp; exact hall
      obtain ⟨q0, q1, q2⟩ := cell3 HT.out.row
      obtain ⟨r0, r1, r2⟩ := cell3 HU.out.row
      obtain ⟨s0, s1, s2⟩ := cell3 HM6.out.row
      go_wp2_with fail
      clear q0 q1 q2 r0 r1 r2 s0 s1 s2
      have HL0 : Hid (TpL w9 w6.heap.size (.slice ma nm mc) Lm Dm (Tt + Tu) (fun p => ft p + fu p) ∧ FL w9 (w.heap.size + 1 + 1) F ∧ Below w.heap.size w w9) := (⟨HM6.out, HFL.out, HBl.out⟩ : TpL w9 w6.heap.size (.slice ma nm mc) Lm Dm (Tt + Tu) (fun p => ft p + fu p) ∧ FL w9 (w.heap.size + 1 + 1) F ∧ Below w.heap.size w w9)
      clear HT HU HM6 HFL HBl h6 h60 h61 hne
      rw [hall] at HL0
      go_loopw [14] (fun kv wr => ∃ k : Nat, kv = .int .i64 k ∧ k ≤ 12 ∧ Hid (TpL wr w6.heap.size (.slice ma nm mc) Lm Dm all (fun p => ft p + fu p) ∧ FL wr (w.heap.size + 1 + 1) F ∧ Below w.heap.size w wr)) (fun kv wr => 12 - (RowKit.intOf kv).toNat)
      case atStart => exact ⟨0, rfl, by omega, HL0⟩
      case round =>
        clear HL0
        obtain ⟨k, rfl, hk, HL⟩ := hrel
        by_cases hlt : k < 12
        · have hlti : (k : Int) < 12 := by omega
          have ew2 : IntKind.i64.wrap (97 + (k : Int)) = 97 + (k : Int) := IntWalk.i64_in _ ⟨by omega, by omega⟩
          have ew3 : IntKind.u8.wrap (97 + (k : Int)) = 97 + (k : Int) := IntWalk.u8_in _ ⟨by omega, by omega⟩
          have kc := two_byte wr (97 + (k : Int))
          have ba : Below wr.heap.size wr (wr.alloc (.cells #[.int .u8 107, .int .u8 (97 + (k : Int))] 5)) := (Below.refl _ _).alloc (Nat.le_refl _) _
          have HL1 : Hid (TpL (wr.alloc (.cells #[.int .u8 107, .int .u8 (97 + (k : Int))] 5)) w6.heap.size (.slice ma nm mc) Lm Dm all (fun p => ft p + fu p) ∧ FL (wr.alloc (.cells #[.int .u8 107, .int .u8 (97 + (k : Int))] 5)) (w.heap.size + 1 + 1) F ∧ Below w.heap.size w (wr.alloc (.cells #[.int .u8 107, .int .u8 (97 + (k : Int))] 5))) := ⟨HL.out.1.past ba, HL.out.2.1.past ba, chainT HL.out.2.2 ba⟩
          clear ba
          obtain ⟨s0, s1, s2⟩ := cell3 HL1.out.1.row
          go_wp2_with fail
          clear s0 s1 s2 kc
          generalize (wr.alloc (.cells #[.int .u8 107, .int .u8 (97 + (k : Int))] 5)) = W1 at HL1 ⊢
          obtain ⟨ok, l5, iD, iT, _⟩ := HL1.out.1.ti.ok
          refine (c_i_TopCount _ nm (keyOf k) HNM.out (by have := HNM.out; omega) HL1.out.1.own.at ok iD iT).mono ?_
          rintro e w10 ⟨rfl, hb10⟩
          have HL2 : Hid (TpL w10 w6.heap.size (.slice ma nm mc) Lm Dm all (fun p => ft p + fu p) ∧ FL w10 (w.heap.size + 1 + 1) F ∧ Below w.heap.size w w10) := ⟨HL1.out.1.past hb10, HL1.out.2.1.past hb10, chainT HL1.out.2.2 hb10⟩
          clear hb10 ok l5 iD iT HL1 HL
          have etn : topN Lm Dm all (keyOf k) = cntH Lm (keyOf k) := by unfold topN; rw [if_pos HL2.out.1.ti.top]
          rw [etn]
          clear etn
          have c1 := HL2.out.1.ti.lo (keyOf k)
          have c2 := HL2.out.1.ti.hi (keyOf k)
          have c0 := cnt_nn (fun x hx => ((topB_iff.1 HL2.out.1.ti.top).2.2.2.2.2.1 x hx).2.1) (keyOf k)
          have hFk := HM.out.1 k hlt
          have hFb := HM.out.2 k hlt
          have hD0 := HL2.out.1.ti.ok.2.2.2.2
          have h6 := HL2.out.1.ti.sixth
          obtain ⟨cv, hcv⟩ : ∃ cv, cntH Lm (keyOf k) = cv := ⟨_, rfl⟩
          rw [hcv] at c0 c1 c2 ⊢
          clear hcv
          have c1 : cv ≤ ft (keyOf k) + fu (keyOf k) := c1
          have c2 : ft (keyOf k) + fu (keyOf k) ≤ cv + Dm := c2
          rw [← hFk] at c1 c2
          clear hFk
          obtain ⟨fc, ff⟩ := HL2.out.2.1.cell hlt
          obtain ⟨fk, hfk⟩ : ∃ fk, F k = fk := ⟨_, rfl⟩
          rw [hfk] at fc c1 c2 hFb
          clear hfk
          obtain ⟨s0, s1, s2⟩ := cell3 HL2.out.1.row
          have hsum := HS.out
          obtain ⟨q, hq⟩ : ∃ q, Int.tdiv all 6 = q := ⟨_, rfl⟩
          have hq6 : 6 * q ≤ all ∧ all < 6 * q + 6 := by
            rw [Int.tdiv_eq_ediv_of_nonneg (by omega)] at hq; omega
          have wq : IntKind.i64.wrap q = q := IntWalk.i64_in _ ⟨by omega, by omega⟩
          have wcd : IntKind.i64.wrap (cv + Dm) = cv + Dm := IntWalk.i64_in _ ⟨by omega, by omega⟩
          have t1 : ¬ fk < cv := by omega
          have t2 : ¬ cv + Dm < fk := by omega
          have t3 : (q < fk ∧ (cv == 0) = false) ∨ ¬ q < fk := by
            by_cases h : q < fk
            · exact .inl ⟨h, by simp; omega⟩
            · exact .inr h
          clear hsum hq6 h6 hD0 hFb c0 c1 c2
          go_wp2_with fail
          clear s0 s2
          replace fc : w10.drew.cell? ⟨w.heap.size + 1 + 1, k, none⟩ = some (.int .i64 fk) := fc
          replace s1 : w10.drew.cell? ⟨w6.heap.size, 1, none⟩ = some (.int .i64 Dm) := s1
          replace HL2 : Hid (TpL w10.drew w6.heap.size (.slice ma nm mc) Lm Dm all (fun p => ft p + fu p) ∧ FL w10.drew (w.heap.size + 1 + 1) F ∧ Below w.heap.size w w10.drew) := (⟨HL2.out.1.drew, HL2.out.2.1.drew, HL2.out.2.2.drew⟩ : TpL w10.drew w6.heap.size (.slice ma nm mc) Lm Dm all (fun p => ft p + fu p) ∧ FL w10.drew (w.heap.size + 1 + 1) F ∧ Below w.heap.size w w10.drew)
          rcases t3 with ⟨t3, t4⟩ | t3
          · skip
            refine regionK (fun W' => W'.cell? ⟨w.heap.size + 1 + 1, k, none⟩ = some (.int .i64 fk) ∧ W'.cell? ⟨w6.heap.size, 1, none⟩ = some (.int .i64 Dm)) 30 (by rfl) ?_
            refine takeK (i := 0) (d := 113) (v := .int .i64 cv) rfl rfl (by kernel_rfl) (by kernel_rfl) (by kernel_rfl) (by decide) (by kernel_rfl) (fun _ _ _ h => h) (Or.inl ⟨by rfl, fun W hW => ?_⟩) ⟨fc, s1⟩ ?_
            · clear hW
              go_simp
            simp only [List.setIfInBounds_toArray, List.set_cons_zero, List.set_cons_succ]
            refine takeK (i := 1) (d := 114) (v := .slice (some ⟨w.heap.size + 1 + 1, 0, none⟩) 12 12) rfl rfl (by kernel_rfl) (by kernel_rfl) (by kernel_rfl) (by decide) (by kernel_rfl) (fun _ _ _ h => h) (Or.inl ⟨by rfl, fun W hW => ?_⟩) ⟨fc, s1⟩ ?_
            · clear hW
              go_simp
            simp only [List.setIfInBounds_toArray, List.set_cons_zero, List.set_cons_succ]
            refine takeK (i := 2) (d := 115) (v := .int .i64 k) rfl rfl (by kernel_rfl) (by kernel_rfl) (by kernel_rfl) (by decide) (by kernel_rfl) (fun _ _ _ h => h) (Or.inl ⟨by rfl, fun W hW => ?_⟩) ⟨fc, s1⟩ ?_
            · clear hW
              go_simp
            simp only [List.setIfInBounds_toArray, List.set_cons_zero, List.set_cons_succ]
            refine takeK (i := 3) (d := 116) (v := .pointer (some ⟨w.heap.size + 1 + 1, k, none⟩)) rfl rfl (by kernel_rfl) (by kernel_rfl) (by kernel_rfl) (by decide) (by kernel_rfl) (fun _ _ _ h => h) (Or.inl ⟨by rfl, fun W hW => ?_⟩) ⟨fc, s1⟩ ?_
            · clear hW
              go_simp
            simp only [List.setIfInBounds_toArray, List.set_cons_zero, List.set_cons_succ]
            refine takeK (i := 4) (d := 117) (v := .int .i64 fk) rfl rfl (by kernel_rfl) (by kernel_rfl) (by kernel_rfl) (by decide) (by kernel_rfl) (fun _ _ _ h => h) (Or.inl ⟨by rfl, fun W hW => ?_⟩) ⟨fc, s1⟩ ?_
            · obtain ⟨x0, x1⟩ := hW
              go_simp
            simp only [List.setIfInBounds_toArray, List.set_cons_zero, List.set_cons_succ]
            refine takeK (i := 5) (d := 118) (v := .bool false) rfl rfl (by kernel_rfl) (by kernel_rfl) (by kernel_rfl) (by decide) (by kernel_rfl) (fun _ _ _ h => h) (Or.inl ⟨by rfl, fun W hW => ?_⟩) ⟨fc, s1⟩ ?_
            · clear hW
              go_simp
            simp only [List.setIfInBounds_toArray, List.set_cons_zero, List.set_cons_succ]
            refine takeK (i := 6) (d := 119) (v := .bool false) rfl rfl (by kernel_rfl) (by kernel_rfl) (by kernel_rfl) (by decide) (by kernel_rfl) (fun _ _ _ h => h) (Or.inl ⟨by rfl, fun W hW => ?_⟩) ⟨fc, s1⟩ ?_
            · clear hW
              go_simp
            simp only [List.setIfInBounds_toArray, List.set_cons_zero, List.set_cons_succ]
            refine takeK (i := 7) (d := 120) (v := .slice (some ⟨w.heap.size + 1 + 1, 0, none⟩) 12 12) rfl rfl (by kernel_rfl) (by kernel_rfl) (by kernel_rfl) (by decide) (by kernel_rfl) (fun _ _ _ h => h) (Or.inl ⟨by rfl, fun W hW => ?_⟩) ⟨fc, s1⟩ ?_
            · clear hW
              go_simp
            simp only [List.setIfInBounds_toArray, List.set_cons_zero, List.set_cons_succ]
            refine takeK (i := 8) (d := 121) (v := .int .i64 k) rfl rfl (by kernel_rfl) (by kernel_rfl) (by kernel_rfl) (by decide) (by kernel_rfl) (fun _ _ _ h => h) (Or.inl ⟨by rfl, fun W hW => ?_⟩) ⟨fc, s1⟩ ?_
            · clear hW
              go_simp
            simp only [List.setIfInBounds_toArray, List.set_cons_zero, List.set_cons_succ]
            refine takeK (i := 9) (d := 122) (v := .pointer (some ⟨w.heap.size + 1 + 1, k, none⟩)) rfl rfl (by kernel_rfl) (by kernel_rfl) (by kernel_rfl) (by decide) (by kernel_rfl) (fun _ _ _ h => h) (Or.inl ⟨by rfl, fun W hW => ?_⟩) ⟨fc, s1⟩ ?_
            · clear hW
              go_simp
            simp only [List.setIfInBounds_toArray, List.set_cons_zero, List.set_cons_succ]
            refine takeK (i := 10) (d := 123) (v := .int .i64 fk) rfl rfl (by kernel_rfl) (by kernel_rfl) (by kernel_rfl) (by decide) (by kernel_rfl) (fun _ _ _ h => h) (Or.inl ⟨by rfl, fun W hW => ?_⟩) ⟨fc, s1⟩ ?_
            · obtain ⟨x0, x1⟩ := hW
              go_simp
            simp only [List.setIfInBounds_toArray, List.set_cons_zero, List.set_cons_succ]
            refine takeK (i := 11) (d := 124) (v := .int .i64 cv) rfl rfl (by kernel_rfl) (by kernel_rfl) (by kernel_rfl) (by decide) (by kernel_rfl) (fun _ _ _ h => h) (Or.inl ⟨by rfl, fun W hW => ?_⟩) ⟨fc, s1⟩ ?_
            · clear hW
              go_simp
            simp only [List.setIfInBounds_toArray, List.set_cons_zero, List.set_cons_succ]
            refine takeK (i := 12) (d := 125) (v := .pointer (some ⟨w6.heap.size, 1, none⟩)) rfl rfl (by kernel_rfl) (by kernel_rfl) (by kernel_rfl) (by decide) (by kernel_rfl) (fun _ _ _ h => h) (Or.inl ⟨by rfl, fun W hW => ?_⟩) ⟨fc, s1⟩ ?_
            · clear hW
              go_simp
            simp only [List.setIfInBounds_toArray, List.set_cons_zero, List.set_cons_succ]
            refine takeK (i := 13) (d := 126) (v := .int .i64 Dm) rfl rfl (by kernel_rfl) (by kernel_rfl) (by kernel_rfl) (by decide) (by kernel_rfl) (fun _ _ _ h => h) (Or.inl ⟨by rfl, fun W hW => ?_⟩) ⟨fc, s1⟩ ?_
            · obtain ⟨x0, x1⟩ := hW
              go_simp
            simp only [List.setIfInBounds_toArray, List.set_cons_zero, List.set_cons_succ]
            refine takeK (i := 14) (d := 127) (v := .int .i64 (cv + Dm)) rfl rfl (by kernel_rfl) (by kernel_rfl) (by kernel_rfl) (by decide) (by kernel_rfl) (fun _ _ _ h => h) (Or.inl ⟨by rfl, fun W hW => ?_⟩) ⟨fc, s1⟩ ?_
            · clear hW
              go_simp
            simp only [List.setIfInBounds_toArray, List.set_cons_zero, List.set_cons_succ]
            refine takeK (i := 15) (d := 128) (v := .bool false) rfl rfl (by kernel_rfl) (by kernel_rfl) (by kernel_rfl) (by decide) (by kernel_rfl) (fun _ _ _ h => h) (Or.inl ⟨by rfl, fun W hW => ?_⟩) ⟨fc, s1⟩ ?_
            · clear hW
              go_simp
            simp only [List.setIfInBounds_toArray, List.set_cons_zero, List.set_cons_succ]
            refine takeK (i := 16) (d := 129) (v := .bool false) rfl rfl (by kernel_rfl) (by kernel_rfl) (by kernel_rfl) (by decide) (by kernel_rfl) (fun _ _ _ h => h) (Or.inl ⟨by rfl, fun W hW => ?_⟩) ⟨fc, s1⟩ ?_
            · clear hW
              go_simp
            simp only [List.setIfInBounds_toArray, List.set_cons_zero, List.set_cons_succ]
            refine takeK (i := 17) (d := 130) (v := .bool false) rfl rfl (by kernel_rfl) (by kernel_rfl) (by kernel_rfl) (by decide) (by kernel_rfl) (fun _ _ _ h => h) (Or.inl ⟨by rfl, fun W hW => ?_⟩) ⟨fc, s1⟩ ?_
            · clear hW
              go_simp
            simp only [List.setIfInBounds_toArray, List.set_cons_zero, List.set_cons_succ]
            refine takeK (i := 18) (d := 131) (v := .slice (some ⟨w.heap.size + 1 + 1, 0, none⟩) 12 12) rfl rfl (by kernel_rfl) (by kernel_rfl) (by kernel_rfl) (by decide) (by kernel_rfl) (fun _ _ _ h => h) (Or.inl ⟨by rfl, fun W hW => ?_⟩) ⟨fc, s1⟩ ?_
            · clear hW
              go_simp
            simp only [List.setIfInBounds_toArray, List.set_cons_zero, List.set_cons_succ]
            refine takeK (i := 19) (d := 132) (v := .int .i64 k) rfl rfl (by kernel_rfl) (by kernel_rfl) (by kernel_rfl) (by decide) (by kernel_rfl) (fun _ _ _ h => h) (Or.inl ⟨by rfl, fun W hW => ?_⟩) ⟨fc, s1⟩ ?_
            · clear hW
              go_simp
            simp only [List.setIfInBounds_toArray, List.set_cons_zero, List.set_cons_succ]
            refine takeK (i := 20) (d := 133) (v := .pointer (some ⟨w.heap.size + 1 + 1, k, none⟩)) rfl rfl (by kernel_rfl) (by kernel_rfl) (by kernel_rfl) (by decide) (by kernel_rfl) (fun _ _ _ h => h) (Or.inl ⟨by rfl, fun W hW => ?_⟩) ⟨fc, s1⟩ ?_
            · clear hW
              go_simp
            simp only [List.setIfInBounds_toArray, List.set_cons_zero, List.set_cons_succ]
            refine takeK (i := 21) (d := 134) (v := .int .i64 fk) rfl rfl (by kernel_rfl) (by kernel_rfl) (by kernel_rfl) (by decide) (by kernel_rfl) (fun _ _ _ h => h) (Or.inl ⟨by rfl, fun W hW => ?_⟩) ⟨fc, s1⟩ ?_
            · obtain ⟨x0, x1⟩ := hW
              go_simp
            simp only [List.setIfInBounds_toArray, List.set_cons_zero, List.set_cons_succ]
            refine takeK (i := 22) (d := 135) (v := .int .i64 all) rfl rfl (by kernel_rfl) (by kernel_rfl) (by kernel_rfl) (by decide) (by kernel_rfl) (fun _ _ _ h => h) (Or.inl ⟨by rfl, fun W hW => ?_⟩) ⟨fc, s1⟩ ?_
            · clear hW
              go_simp
            simp only [List.setIfInBounds_toArray, List.set_cons_zero, List.set_cons_succ]
            refine takeK (i := 23) (d := 136) (v := .int .i64 q) rfl rfl (by kernel_rfl) (by kernel_rfl) (by kernel_rfl) (by decide) (by kernel_rfl) (fun _ _ _ h => h) (Or.inl ⟨by rfl, fun W hW => ?_⟩) ⟨fc, s1⟩ ?_
            · clear hW
              go_simp
            simp only [List.setIfInBounds_toArray, List.set_cons_zero, List.set_cons_succ]
            refine takeK (i := 24) (d := 137) (v := .bool true) rfl rfl (by kernel_rfl) (by kernel_rfl) (by kernel_rfl) (by decide) (by kernel_rfl) (fun _ _ _ h => h) (Or.inl ⟨by rfl, fun W hW => ?_⟩) ⟨fc, s1⟩ ?_
            · clear hW
              go_simp
            simp only [List.setIfInBounds_toArray, List.set_cons_zero, List.set_cons_succ]
            refine takeK (i := 25) (d := 138) (v := .bool true) rfl rfl (by kernel_rfl) (by kernel_rfl) (by kernel_rfl) (by decide) (by kernel_rfl) (fun _ _ _ h => h) (Or.inl ⟨by rfl, fun W hW => ?_⟩) ⟨fc, s1⟩ ?_
            · clear hW
              go_simp
            simp only [List.setIfInBounds_toArray, List.set_cons_zero, List.set_cons_succ]
            refine takeK (i := 26) (d := 139) (v := .int .i64 cv) rfl rfl (by kernel_rfl) (by kernel_rfl) (by kernel_rfl) (by decide) (by kernel_rfl) (fun _ _ _ h => h) (Or.inl ⟨by rfl, fun W hW => ?_⟩) ⟨fc, s1⟩ ?_
            · clear hW
              go_simp
            simp only [List.setIfInBounds_toArray, List.set_cons_zero, List.set_cons_succ]
            refine takeK (i := 27) (d := 140) (v := .bool false) rfl rfl (by kernel_rfl) (by kernel_rfl) (by kernel_rfl) (by decide) (by kernel_rfl) (fun _ _ _ h => h) (Or.inl ⟨by rfl, fun W hW => ?_⟩) ⟨fc, s1⟩ ?_
            · clear hW
              go_simp
            simp only [List.setIfInBounds_toArray, List.set_cons_zero, List.set_cons_succ]
            refine takeK (i := 28) (d := 141) (v := .bool false) rfl rfl (by kernel_rfl) (by kernel_rfl) (by kernel_rfl) (by decide) (by kernel_rfl) (fun _ _ _ h => h) (Or.inl ⟨by rfl, fun W hW => ?_⟩) ⟨fc, s1⟩ ?_
            · clear hW
              go_simp
            simp only [List.setIfInBounds_toArray, List.set_cons_zero, List.set_cons_succ]
            refine takeK (i := 29) (d := 142) (v := .bool false) rfl rfl (by kernel_rfl) (by kernel_rfl) (by kernel_rfl) (by decide) (by kernel_rfl) (fun _ _ _ h => h) (Or.inl ⟨by rfl, fun W hW => ?_⟩) ⟨fc, s1⟩ ?_
            · clear hW
              go_simp
            simp only [List.setIfInBounds_toArray, List.set_cons_zero, List.set_cons_succ]
            refine doneK (by kernel_rfl) ?_ _
            go_wp2
            go_roundw
            case rel => exact ⟨k + 1, by go_num, by omega, HL2⟩
            case measure => simp [RowKit.intOf]; omega
          · skip
            refine regionK (fun W' => W'.cell? ⟨w.heap.size + 1 + 1, k, none⟩ = some (.int .i64 fk) ∧ W'.cell? ⟨w6.heap.size, 1, none⟩ = some (.int .i64 Dm)) 30 (by rfl) ?_
            refine takeK (i := 0) (d := 113) (v := .int .i64 cv) rfl rfl (by kernel_rfl) (by kernel_rfl) (by kernel_rfl) (by decide) (by kernel_rfl) (fun _ _ _ h => h) (Or.inl ⟨by rfl, fun W hW => ?_⟩) ⟨fc, s1⟩ ?_
            · clear hW
              go_simp
            simp only [List.setIfInBounds_toArray, List.set_cons_zero, List.set_cons_succ]
            refine takeK (i := 1) (d := 114) (v := .slice (some ⟨w.heap.size + 1 + 1, 0, none⟩) 12 12) rfl rfl (by kernel_rfl) (by kernel_rfl) (by kernel_rfl) (by decide) (by kernel_rfl) (fun _ _ _ h => h) (Or.inl ⟨by rfl, fun W hW => ?_⟩) ⟨fc, s1⟩ ?_
            · clear hW
              go_simp
            simp only [List.setIfInBounds_toArray, List.set_cons_zero, List.set_cons_succ]
            refine takeK (i := 2) (d := 115) (v := .int .i64 k) rfl rfl (by kernel_rfl) (by kernel_rfl) (by kernel_rfl) (by decide) (by kernel_rfl) (fun _ _ _ h => h) (Or.inl ⟨by rfl, fun W hW => ?_⟩) ⟨fc, s1⟩ ?_
            · clear hW
              go_simp
            simp only [List.setIfInBounds_toArray, List.set_cons_zero, List.set_cons_succ]
            refine takeK (i := 3) (d := 116) (v := .pointer (some ⟨w.heap.size + 1 + 1, k, none⟩)) rfl rfl (by kernel_rfl) (by kernel_rfl) (by kernel_rfl) (by decide) (by kernel_rfl) (fun _ _ _ h => h) (Or.inl ⟨by rfl, fun W hW => ?_⟩) ⟨fc, s1⟩ ?_
            · clear hW
              go_simp
            simp only [List.setIfInBounds_toArray, List.set_cons_zero, List.set_cons_succ]
            refine takeK (i := 4) (d := 117) (v := .int .i64 fk) rfl rfl (by kernel_rfl) (by kernel_rfl) (by kernel_rfl) (by decide) (by kernel_rfl) (fun _ _ _ h => h) (Or.inl ⟨by rfl, fun W hW => ?_⟩) ⟨fc, s1⟩ ?_
            · obtain ⟨x0, x1⟩ := hW
              go_simp
            simp only [List.setIfInBounds_toArray, List.set_cons_zero, List.set_cons_succ]
            refine takeK (i := 5) (d := 118) (v := .bool false) rfl rfl (by kernel_rfl) (by kernel_rfl) (by kernel_rfl) (by decide) (by kernel_rfl) (fun _ _ _ h => h) (Or.inl ⟨by rfl, fun W hW => ?_⟩) ⟨fc, s1⟩ ?_
            · clear hW
              go_simp
            simp only [List.setIfInBounds_toArray, List.set_cons_zero, List.set_cons_succ]
            refine takeK (i := 6) (d := 119) (v := .bool false) rfl rfl (by kernel_rfl) (by kernel_rfl) (by kernel_rfl) (by decide) (by kernel_rfl) (fun _ _ _ h => h) (Or.inl ⟨by rfl, fun W hW => ?_⟩) ⟨fc, s1⟩ ?_
            · clear hW
              go_simp
            simp only [List.setIfInBounds_toArray, List.set_cons_zero, List.set_cons_succ]
            refine takeK (i := 7) (d := 120) (v := .slice (some ⟨w.heap.size + 1 + 1, 0, none⟩) 12 12) rfl rfl (by kernel_rfl) (by kernel_rfl) (by kernel_rfl) (by decide) (by kernel_rfl) (fun _ _ _ h => h) (Or.inl ⟨by rfl, fun W hW => ?_⟩) ⟨fc, s1⟩ ?_
            · clear hW
              go_simp
            simp only [List.setIfInBounds_toArray, List.set_cons_zero, List.set_cons_succ]
            refine takeK (i := 8) (d := 121) (v := .int .i64 k) rfl rfl (by kernel_rfl) (by kernel_rfl) (by kernel_rfl) (by decide) (by kernel_rfl) (fun _ _ _ h => h) (Or.inl ⟨by rfl, fun W hW => ?_⟩) ⟨fc, s1⟩ ?_
            · clear hW
              go_simp
            simp only [List.setIfInBounds_toArray, List.set_cons_zero, List.set_cons_succ]
            refine takeK (i := 9) (d := 122) (v := .pointer (some ⟨w.heap.size + 1 + 1, k, none⟩)) rfl rfl (by kernel_rfl) (by kernel_rfl) (by kernel_rfl) (by decide) (by kernel_rfl) (fun _ _ _ h => h) (Or.inl ⟨by rfl, fun W hW => ?_⟩) ⟨fc, s1⟩ ?_
            · clear hW
              go_simp
            simp only [List.setIfInBounds_toArray, List.set_cons_zero, List.set_cons_succ]
            refine takeK (i := 10) (d := 123) (v := .int .i64 fk) rfl rfl (by kernel_rfl) (by kernel_rfl) (by kernel_rfl) (by decide) (by kernel_rfl) (fun _ _ _ h => h) (Or.inl ⟨by rfl, fun W hW => ?_⟩) ⟨fc, s1⟩ ?_
            · obtain ⟨x0, x1⟩ := hW
              go_simp
            simp only [List.setIfInBounds_toArray, List.set_cons_zero, List.set_cons_succ]
            refine takeK (i := 11) (d := 124) (v := .int .i64 cv) rfl rfl (by kernel_rfl) (by kernel_rfl) (by kernel_rfl) (by decide) (by kernel_rfl) (fun _ _ _ h => h) (Or.inl ⟨by rfl, fun W hW => ?_⟩) ⟨fc, s1⟩ ?_
            · clear hW
              go_simp
            simp only [List.setIfInBounds_toArray, List.set_cons_zero, List.set_cons_succ]
            refine takeK (i := 12) (d := 125) (v := .pointer (some ⟨w6.heap.size, 1, none⟩)) rfl rfl (by kernel_rfl) (by kernel_rfl) (by kernel_rfl) (by decide) (by kernel_rfl) (fun _ _ _ h => h) (Or.inl ⟨by rfl, fun W hW => ?_⟩) ⟨fc, s1⟩ ?_
            · clear hW
              go_simp
            simp only [List.setIfInBounds_toArray, List.set_cons_zero, List.set_cons_succ]
            refine takeK (i := 13) (d := 126) (v := .int .i64 Dm) rfl rfl (by kernel_rfl) (by kernel_rfl) (by kernel_rfl) (by decide) (by kernel_rfl) (fun _ _ _ h => h) (Or.inl ⟨by rfl, fun W hW => ?_⟩) ⟨fc, s1⟩ ?_
            · obtain ⟨x0, x1⟩ := hW
              go_simp
            simp only [List.setIfInBounds_toArray, List.set_cons_zero, List.set_cons_succ]
            refine takeK (i := 14) (d := 127) (v := .int .i64 (cv + Dm)) rfl rfl (by kernel_rfl) (by kernel_rfl) (by kernel_rfl) (by decide) (by kernel_rfl) (fun _ _ _ h => h) (Or.inl ⟨by rfl, fun W hW => ?_⟩) ⟨fc, s1⟩ ?_
            · clear hW
              go_simp
            simp only [List.setIfInBounds_toArray, List.set_cons_zero, List.set_cons_succ]
            refine takeK (i := 15) (d := 128) (v := .bool false) rfl rfl (by kernel_rfl) (by kernel_rfl) (by kernel_rfl) (by decide) (by kernel_rfl) (fun _ _ _ h => h) (Or.inl ⟨by rfl, fun W hW => ?_⟩) ⟨fc, s1⟩ ?_
            · clear hW
              go_simp
            simp only [List.setIfInBounds_toArray, List.set_cons_zero, List.set_cons_succ]
            refine takeK (i := 16) (d := 129) (v := .bool false) rfl rfl (by kernel_rfl) (by kernel_rfl) (by kernel_rfl) (by decide) (by kernel_rfl) (fun _ _ _ h => h) (Or.inl ⟨by rfl, fun W hW => ?_⟩) ⟨fc, s1⟩ ?_
            · clear hW
              go_simp
            simp only [List.setIfInBounds_toArray, List.set_cons_zero, List.set_cons_succ]
            refine takeK (i := 17) (d := 130) (v := .bool false) rfl rfl (by kernel_rfl) (by kernel_rfl) (by kernel_rfl) (by decide) (by kernel_rfl) (fun _ _ _ h => h) (Or.inl ⟨by rfl, fun W hW => ?_⟩) ⟨fc, s1⟩ ?_
            · clear hW
              go_simp
            simp only [List.setIfInBounds_toArray, List.set_cons_zero, List.set_cons_succ]
            refine takeK (i := 18) (d := 131) (v := .slice (some ⟨w.heap.size + 1 + 1, 0, none⟩) 12 12) rfl rfl (by kernel_rfl) (by kernel_rfl) (by kernel_rfl) (by decide) (by kernel_rfl) (fun _ _ _ h => h) (Or.inl ⟨by rfl, fun W hW => ?_⟩) ⟨fc, s1⟩ ?_
            · clear hW
              go_simp
            simp only [List.setIfInBounds_toArray, List.set_cons_zero, List.set_cons_succ]
            refine takeK (i := 19) (d := 132) (v := .int .i64 k) rfl rfl (by kernel_rfl) (by kernel_rfl) (by kernel_rfl) (by decide) (by kernel_rfl) (fun _ _ _ h => h) (Or.inl ⟨by rfl, fun W hW => ?_⟩) ⟨fc, s1⟩ ?_
            · clear hW
              go_simp
            simp only [List.setIfInBounds_toArray, List.set_cons_zero, List.set_cons_succ]
            refine takeK (i := 20) (d := 133) (v := .pointer (some ⟨w.heap.size + 1 + 1, k, none⟩)) rfl rfl (by kernel_rfl) (by kernel_rfl) (by kernel_rfl) (by decide) (by kernel_rfl) (fun _ _ _ h => h) (Or.inl ⟨by rfl, fun W hW => ?_⟩) ⟨fc, s1⟩ ?_
            · clear hW
              go_simp
            simp only [List.setIfInBounds_toArray, List.set_cons_zero, List.set_cons_succ]
            refine takeK (i := 21) (d := 134) (v := .int .i64 fk) rfl rfl (by kernel_rfl) (by kernel_rfl) (by kernel_rfl) (by decide) (by kernel_rfl) (fun _ _ _ h => h) (Or.inl ⟨by rfl, fun W hW => ?_⟩) ⟨fc, s1⟩ ?_
            · obtain ⟨x0, x1⟩ := hW
              go_simp
            simp only [List.setIfInBounds_toArray, List.set_cons_zero, List.set_cons_succ]
            refine takeK (i := 22) (d := 135) (v := .int .i64 all) rfl rfl (by kernel_rfl) (by kernel_rfl) (by kernel_rfl) (by decide) (by kernel_rfl) (fun _ _ _ h => h) (Or.inl ⟨by rfl, fun W hW => ?_⟩) ⟨fc, s1⟩ ?_
            · clear hW
              go_simp
            simp only [List.setIfInBounds_toArray, List.set_cons_zero, List.set_cons_succ]
            refine takeK (i := 23) (d := 136) (v := .int .i64 q) rfl rfl (by kernel_rfl) (by kernel_rfl) (by kernel_rfl) (by decide) (by kernel_rfl) (fun _ _ _ h => h) (Or.inl ⟨by rfl, fun W hW => ?_⟩) ⟨fc, s1⟩ ?_
            · clear hW
              go_simp
            simp only [List.setIfInBounds_toArray, List.set_cons_zero, List.set_cons_succ]
            refine takeK (i := 24) (d := 137) (v := .bool false) rfl rfl (by kernel_rfl) (by kernel_rfl) (by kernel_rfl) (by decide) (by kernel_rfl) (fun _ _ _ h => h) (Or.inl ⟨by rfl, fun W hW => ?_⟩) ⟨fc, s1⟩ ?_
            · clear hW
              go_simp
            simp only [List.setIfInBounds_toArray, List.set_cons_zero, List.set_cons_succ]
            refine takeK (i := 25) (d := 138) (v := .bool false) rfl rfl (by kernel_rfl) (by kernel_rfl) (by kernel_rfl) (by decide) (by kernel_rfl) (fun _ _ _ h => h) (Or.inl ⟨by rfl, fun W hW => ?_⟩) ⟨fc, s1⟩ ?_
            · clear hW
              go_simp
            simp only [List.setIfInBounds_toArray, List.set_cons_zero, List.set_cons_succ]
            refine takeK (i := 26) (d := 139) (v := undef) rfl rfl (by kernel_rfl) (by kernel_rfl) (by kernel_rfl) (by decide) (by kernel_rfl) (fun _ _ _ h => h) (Or.inr ⟨by rfl, rfl⟩) ⟨fc, s1⟩ ?_
            simp only [List.setIfInBounds_toArray, List.set_cons_zero, List.set_cons_succ]
            refine takeK (i := 27) (d := 140) (v := undef) rfl rfl (by kernel_rfl) (by kernel_rfl) (by kernel_rfl) (by decide) (by kernel_rfl) (fun _ _ _ h => h) (Or.inr ⟨by rfl, rfl⟩) ⟨fc, s1⟩ ?_
            simp only [List.setIfInBounds_toArray, List.set_cons_zero, List.set_cons_succ]
            refine takeK (i := 28) (d := 141) (v := .bool false) rfl rfl (by kernel_rfl) (by kernel_rfl) (by kernel_rfl) (by decide) (by kernel_rfl) (fun _ _ _ h => h) (Or.inl ⟨by rfl, fun W hW => ?_⟩) ⟨fc, s1⟩ ?_
            · clear hW
              go_simp
            simp only [List.setIfInBounds_toArray, List.set_cons_zero, List.set_cons_succ]
            refine takeK (i := 29) (d := 142) (v := .bool false) rfl rfl (by kernel_rfl) (by kernel_rfl) (by kernel_rfl) (by decide) (by kernel_rfl) (fun _ _ _ h => h) (Or.inl ⟨by rfl, fun W hW => ?_⟩) ⟨fc, s1⟩ ?_
            · clear hW
              go_simp
            simp only [List.setIfInBounds_toArray, List.set_cons_zero, List.set_cons_succ]
            refine doneK (by kernel_rfl) ?_ _
            go_wp2
            go_roundw
            case rel => exact ⟨k + 1, by go_num, by omega, HL2⟩
            case measure => simp [RowKit.intOf]; omega
        · have e : k = 12 := by omega
          subst e
          go_wp2_with fail
          refine (c_DrawTopPut (codeAt_in HA.out HL.out.2.2 (Nat.le_refl _) HL.out.2.2.size)).mono ?_
          rintro e w11 ⟨pa, n, pc, d, t, L, key, wt, rfl, hn, own, hd, ht, ok, n60, kz, hwt, hb11⟩
          have HX := hide (chainT HL.out.2.2 hb11)
          clear HL hb11
          go_wp2_with fail
          have HOK := hide ok
          have HN9 := hide hn
          have O1 := hide (own.past ((Below.refl _ _).alloc (Nat.le_refl _) (.cells #[.slice pa n pc, .int .i64 d, .int .i64 t] 28)))
          have R1 := hide (heap_alloc_new w11 (.cells #[.slice pa n pc, .int .i64 d, .int .i64 t] 28))
          replace HX := hide (chainT HX.out ((Below.refl _ _).alloc (Nat.le_refl _) (.cells #[.slice pa n pc, .int .i64 d, .int .i64 t] 28)))
          clear ok hn own
          generalize (w11.alloc (.cells #[.slice pa n pc, .int .i64 d, .int .i64 t] 28)) = W12 at O1 R1 HX ⊢
          generalize w11.heap.size = rx at R1 ⊢
          obtain ⟨L', D', T', lL', hfix⟩ := put_fixT L d t wt key (by have := HN9.out; omega)
          have FIX := hide hfix
          clear hfix
          refine (c_i_TopPut kz HN9.out (by omega) O1.out.at HOK.out hd ht hwt).mono ?_
          rintro e w13 ⟨v13, rfl, hb13, hq13⟩
          obtain ⟨py, rfl, oy⟩ := FIX.out _ _ _ hq13
          obtain ⟨ya, yc, rfl⟩ := oy.any
          obtain ⟨ny, hny⟩ : ∃ n, L'.length = n := ⟨_, rfl⟩
          rw [hny] at oy ⊢
          have HNY := hide hny
          clear hny oy hq13
          have hbx : Below W12.heap.size W12 (w13.alloc (.cells #[.slice ya ny yc, .int .i64 D', .int .i64 T'] 28)) := hb13.alloc hb13.size _
          have O2 := hide (O1.out.past hbx)
          have R2 : Hid ((w13.alloc (.cells #[.slice ya ny yc, .int .i64 D', .int .i64 T'] 28)).heap[rx]? = some (.cells #[.slice pa n pc, .int .i64 d, .int .i64 t] 28 (0, 0))) := (by rw [hbx.block _ (Array.getElem?_eq_some_iff.1 R1.out).1]; exact R1.out : (w13.alloc (.cells #[.slice ya ny yc, .int .i64 D', .int .i64 T'] 28)).heap[rx]? = some (.cells #[.slice pa n pc, .int .i64 d, .int .i64 t] 28 (0, 0)))
          have Y2 := hide (heap_alloc_new w13 (.cells #[.slice ya ny yc, .int .i64 D', .int .i64 T'] 28))
          replace HX := hide (chainT HX.out hbx)
          obtain ⟨q0, q1, q2⟩ := cell3 R2.out
          go_wp2_with fail
          clear q0 q1 q2 hbx hb13 R1 O1
          generalize (w13.alloc (.cells #[.slice ya ny yc, .int .i64 D', .int .i64 T'] 28)) = W14 at O2 R2 Y2 HX ⊢
          generalize w13.heap.size = ry at Y2 ⊢
          obtain ⟨g1, g2, g3, g4⟩ := O2.out.cap
          refine (c_s_TopPut kz HN9.out (by omega) g2 g3 O2.out.at g4 HOK.out hd ht hwt).mono ?_
          rintro e w15 ⟨v15, rfl, hb15, hq15⟩
          obtain ⟨pz, rfl, oz⟩ := FIX.out _ _ _ hq15
          obtain ⟨za, zc, rfl⟩ := oz.any
          rw [HNY.out]
          clear oz hq15
          have hby : Below W14.heap.size W14 (w15.alloc (.cells #[.slice za ny zc, .int .i64 D', .int .i64 T'] 28)) := hb15.alloc hb15.size _
          have Y3 : Hid ((w15.alloc (.cells #[.slice za ny zc, .int .i64 D', .int .i64 T'] 28)).heap[ry]? = some (.cells #[.slice ya ny yc, .int .i64 D', .int .i64 T'] 28 (0, 0))) := (by rw [hby.block _ (Array.getElem?_eq_some_iff.1 Y2.out).1]; exact Y2.out : (w15.alloc (.cells #[.slice za ny zc, .int .i64 D', .int .i64 T'] 28)).heap[ry]? = some (.cells #[.slice ya ny yc, .int .i64 D', .int .i64 T'] 28 (0, 0)))
          have Z3 := hide (heap_alloc_new w15 (.cells #[.slice za ny zc, .int .i64 D', .int .i64 T'] 28))
          replace HX := hide (chainT HX.out hby)
          clear hby hb15 Y2 R2 O2 FIX g1 g2 g3 g4
          obtain ⟨q0, q1, q2⟩ := cell3 Y3.out
          obtain ⟨r0, r1, r2⟩ := cell3 Z3.out
          go_wp2
          go_ret
          exact ⟨by simp, HX.out⟩
theorem own : ownKnob Try.prog.godebug = none := by kernel_rfl
theorem laidOut : laidOutB Try.prog = true := by kernel_rfl

set_option maxRecDepth 100000 in
theorem liftedTop (os : Os) (started : os.Started) (H : Type) (enc : TypeId × Value → H) :
    ReturnsInHanded {} Try.checked os 5 .any (Rows.fnTopSpec.pre6 enc Try.prog Try.f5 Rows.fnTopRow.domain false) (Rows.fnTopSpec.post enc Try.prog Try.f5 false true false false) := by
  refine returnsInHanded_of_change (C := Try.checked) own started (by kernel_rfl) Try.func5
    (ChangeSpec.witness6 (enc := enc) (C := Try.checked) false ⟨#[], #[.slice none 0 0, .slice none 0 0], []⟩ 8 (by kernel_rfl) (by kernel_rfl) (by kernel_rfl) (by kernel_rfl)) ?_
  intro W base args ds gs before hval0 hW hcnd _
  have hval : ∀ (j : Nat) t v, Try.f5.params[j]? = some t → args[j]? = some v → Value.okWide Try.prog W .any base t v := hval0
  have hW' := hW
  obtain ⟨p, q, hA0, hV, rfl, hfz, hnd⟩ := hW
  have hA : DataW.TrodAll enc Try.prog W 0 (fun _ => true) true Try.f5.params.toList args.toList ds p := hA0
  rw [Try.params5] at hA hval
  obtain ⟨v0, vs0, d0, ds0, p0, q0, hargs, rfl, rfl, h0, r0⟩ := trodAll_cons hA
  obtain ⟨v1, vs1, d1, ds1, p1, q1, rfl, rfl, rfl, h1, r1⟩ := trodAll_cons r0
  obtain ⟨rfl, rfl, rfl⟩ := trodAll_nil r1
  obtain rfl : args = #[v0, v1] := by cases args; simp_all
  obtain ⟨rfl, rfl⟩ := trodVars_none hV
  have k0 := h0
  have lt0 : ∀ x ∈ p0, x.block < W.heap.size := by obtain ⟨m, hm⟩ := k0; exact DataW.trod_lt m _ _ _ hm
  obtain ⟨a0, n0, c0, rfl, m0, s0⟩ := open_code (hval 0 36 v0 rfl rfl) h0
  have k1 := h1
  have lt1 : ∀ x ∈ p1, x.block < W.heap.size := by obtain ⟨m, hm⟩ := k1; exact DataW.trod_lt m _ _ _ hm
  obtain ⟨a1, n1, c1, rfl, m1, s1⟩ := open_code (hval 1 36 v1 rfl rfl) h1
  clear hA0 hval0
  refine (walkTop a0 n0 c0 a1 n1 c1 W m0 s0 m1 s1).mono fun e W' ⟨he, bel⟩ => ?_
  subst he
  exact ⟨_, rfl, _, _, _, [], _, [], hW', trodAll_mk1 (shut_bool Try.underlying4 _), (trodAll_cons_mk (Below.trod laidOut (by kernel_rfl) (of_decide_eq_true (by kernel_rfl)) k0 bel lt0) (trodAll_cons_mk (Below.trod laidOut (by kernel_rfl) (of_decide_eq_true (by kernel_rfl)) k1 bel lt1) trodAll_mk0)), rfl, bel.frame _, fun h => by cases h⟩

theorem overTop : Rows.fnTopRow.holds Try.pinned (OpenSpec.ofChange Rows.fnTopSpec) :=
  OpenClaim.holds_of_wide 5 Try.f5 rfl rfl rfl rfl rfl rfl rfl ⟨rfl, rfl, rfl, rfl, rfl⟩ rfl rfl rfl rfl rfl (by kernel_rfl) Try.func5 (by kernel_rfl)
    (of_decide_eq_true (by kernel_rfl)) (by unfold Func.isWrapper; first | (rw [if_pos (by decide +kernel)]; kernel_rfl) | (rw [if_neg (by decide +kernel)]; exact ⟨rfl, rfl⟩))
    (fun os started H enc _ => liftedTop os started H enc)

theorem fnTop_holds : Rows.FnTopSaid := overTop
#print axioms fnTop_holds
end Go.Proofs.Ytmhojmgemiphkaa
