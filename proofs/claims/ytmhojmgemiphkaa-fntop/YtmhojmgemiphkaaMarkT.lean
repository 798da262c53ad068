/-
  What the laws lay into a Top to see whose memory it is: texts of marks; heavies that are written over, and held.
-/
import Derived.Test.YtmhojmgemiphkaaDecM
import Derived.Test.YtmhojmgemiphkaaMergeC
import Derived.Laws.BytesArg
namespace Go.Proofs.Ytmhojmgemiphkaa
set_option linter.unusedVariables false
set_option linter.unusedSimpArgs false
open Go.ChangeShapes Go.WideShapes Go.ChangeAt Go.RowKit Go.PlainAid
set_option maxRecDepth 10000

theorem str_addH {a b : ByteArray} (h : a.size + b.size ≤ 1000000) : Op.stringOp .add a b = pure (.string (a ++ b)) := by
  unfold Op.stringOp
  have : ¬ (((a.size + b.size : Nat) : Int) > IntKind.i64.max) := by
    have e : IntKind.i64.max = 9223372036854775807 := by decide
    rw [e]; omega
  simp only [if_neg this]
def mtx (k : Nat) : ByteArray := ⟨#[109]⟩ ++ ⟨(Lib.decDigits k).toArray⟩
set_option maxRecDepth 10000 in
set_option maxHeartbeats 1000000 in
theorem c_markText (N : Nat) (hN0 : 1 ≤ N) (hN : N ≤ 100000000) (w : World) :
    Calls Try.prog 50 #[.int .i64 N] w fun e w' => e = .returned (.string (mtx N)) ∧ Below w.heap.size w w' := by
  have hb1 : ¬ ((N : Int) ≤ 0) := by omega
  go_enter Try.func50, Try.ntmps50
  go_wp2
  go_loopw [0, 3] (fun n o wr => ∃ (m : Nat) (D : List UInt8), m ≤ N ∧ n = .int .i64 m ∧ o = .string ⟨D.toArray⟩ ∧ DecR N m D ∧ Below w.heap.size w wr) (fun n o wr => (intOf n).toNat)
  case atStart => exact ⟨N, [], Nat.le_refl _, rfl, rfl, ⟨fun h => absurd h (by omega), fun _ => by simp⟩, Below.refl _ _⟩
  case round =>
    obtain ⟨m, D, hm, rfl, rfl, hR, hbel⟩ := hrel
    have hln := decR_len hR (dec_len N (by omega))
    have hD : (⟨D.toArray⟩ : ByteArray).size = D.length := rfl
    by_cases k : m = 0
    · subst k
      have HR : Hid (DecR N 0 D) := hR
      have hadd : Op.stringOp .add ⟨#[109]⟩ ⟨D.toArray⟩ = pure (.string ((⟨#[109]⟩ : ByteArray) ++ ⟨D.toArray⟩)) := str_addH (by rw [hD]; show 1 + _ ≤ _; omega)
      clear hR
      go_wp2
      go_ret
      exact ⟨ret_str (by rw [HR.out.1 rfl]; rfl), hbel⟩
    · obtain ⟨d, hd⟩ : ∃ d, d = m % 10 := ⟨_, rfl⟩
      obtain ⟨q, hq⟩ : ∃ q, q = m / 10 := ⟨_, rfl⟩
      have HR : Hid (DecR N q (UInt8.ofNat (48 + d) :: D)) := by rw [hd, hq]; exact decR_step hR k
      have e1 : Int.tmod (m : Int) 10 = (d : Int) := by rw [hd]; rfl
      have e2 : Int.tdiv (m : Int) 10 = (q : Int) := by rw [hq]; rfl
      have hk : (0 : Int) < (m : Int) := by omega
      have hd9 : d < 10 := by omega
      have hqm : q < m := by omega
      have e4 : IntKind.u8.wrap (48 + (d : Int)) = 48 + (d : Int) := IntWalk.u8_in _ ⟨by omega, by omega⟩
      obtain ⟨B, hB⟩ : ∃ B, B = strOfNums [48 + (d : Int)] := ⟨_, rfl⟩
      have kc := run_convert_bytes_arg (P := Try.prog) (wr.alloc (.cells #[.int .u8 (48 + (d : Int))] 5)) 36 5 Try.underlying36 Try.underlying5 wr.heap.size 0 1 1 [48 + (d : Int)] rfl (fun i hi => by
            obtain rfl : i = 0 := by omega
            simp) 9 Try.underlying9
      rw [← hB] at kc
      have hB1 : B.size = 1 := by rw [hB]; rfl
      have HB : Hid (B ++ ⟨D.toArray⟩ = (⟨(UInt8.ofNat (48 + d) :: D).toArray⟩ : ByteArray)) := (by
        rw [hB, ← str_cat]; congr 1; : B ++ ⟨D.toArray⟩ = (⟨(UInt8.ofNat (48 + d) :: D).toArray⟩ : ByteArray))
      have HL : Hid (Below w.heap.size w wr) := hbel
      have hz := hbel.size
      clear hR hd hq k hB hbel
      go_wp2
      go_roundw
      case rel => exact ⟨q, UInt8.ofNat (48 + d) :: D, by omega, rfl, by rw [HB.out], HR.out, HL.out.alloc (by omega) _⟩
      case measure => simp [intOf]; omega


theorem grown_pastH {w w1 w2 : World} {r : Option Nat} (h : w.grownBy w1 r) (hb : Below w1.heap.size w1 w2) : w.grownBy w2 r :=
  ⟨hb.os.trans h.os, hb.tape.trans h.tape, hb.output.trans h.output, Nat.le_trans h.size hb.size, fun k hk hne => by rw [hb.block k (Nat.lt_of_lt_of_le hk h.size)]; exact h.block k hk hne⟩
theorem grown_oneH (w : World) (g o : Nat) (u : Value) : w.grownBy (w.setCell ⟨g, o, none⟩ u) (some g) :=
  ⟨rfl, rfl, rfl, by simp [World.setCell], fun k hk hne => Below.heap_setCell _ _ _ _ (fun e => hne (by rw [e]))⟩
/-- The marks of heavies. -/
def mkh (k0 : Nat) (i : Nat) : Hv := (mtx (k0 + 2 * i), ((k0 + 2 * i + 1 : Nat) : Int))
def mkhs (k0 n : Nat) : List Hv := (List.range n).map (mkh k0)
theorem mkhs_len (k0 n : Nat) : (mkhs k0 n).length = n := by simp [mkhs]
theorem mkhs_at {k0 n i : Nat} (h : i < n) : (mkhs k0 n)[i]? = some (mkh k0 i) := by simp [mkhs, h]
/-- The first k are written over. -/
def ovh (k0 : Nat) (R : List Hv) (k : Nat) : List Hv := mkhs k0 k ++ R.drop k
theorem ovh_len (k0 : Nat) (R : List Hv) (k : Nat) (hk : k ≤ R.length) : (ovh k0 R k).length = R.length := by simp [ovh, mkhs_len]; omega
theorem ovh_set (k0 : Nat) {R : List Hv} {k : Nat} (hk : k < R.length) : (ovh k0 R k).set k (mkh k0 k) = ovh k0 R (k + 1) := by
  unfold ovh
  rw [List.set_append_right _ _ (by rw [mkhs_len]; omega), mkhs_len, Nat.sub_self]
  have e : R.drop k = R[k] :: R.drop (k + 1) := List.drop_eq_getElem_cons hk
  rw [e, List.set_cons_zero]
  show mkhs k0 k ++ mkh k0 k :: R.drop (k + 1) = (List.range (k + 1)).map (mkh k0) ++ R.drop (k + 1)
  rw [List.range_succ, List.map_append, List.append_assoc]; rfl
theorem ovh_all (k0 : Nat) (R : List Hv) : ovh k0 R R.length = mkhs k0 R.length := by simp [ovh]

set_option maxHeartbeats 1000000 in
theorem c_markHeavyS {w : World} {B N : Nat} {v : Value} {R : List Hv} (k0 : Nat) (h0 : 1 ≤ k0) (h1 : k0 ≤ 10000000) (hl : N ≤ 1048576) (hn : N = R.length) (h : w.ownsRow B 52 2 v N (fl encH R)) :
    Calls Try.prog 33 #[v, .int .i64 k0] w fun e w' => e = .returned (.int .i64 ((k0 + 2 * N : Nat) : Int)) ∧ w'.ownsRow B 52 2 v N (fl encH (mkhs k0 N)) ∧ w.grownBy w' v.ownBlock := by
  obtain ⟨ao, c, rfl⟩ := own_any h
  have HO := hide h
  have HN := hide hn
  clear h hn
  go_enter Try.func33, Try.ntmps33
  go_wp2
  go_loopw [1, 5] (fun m i wr => w.grownBy wr (Value.slice ao N c).ownBlock ∧ ∃ (k : Nat), k ≤ N ∧ i = .int .i64 k ∧ m = .int .i64 ((k0 + 2 * k : Nat) : Int) ∧ wr.ownsRow B 52 2 (.slice ao N c) N (fl encH (ovh k0 R k))) (fun m i wr => N - (intOf i).toNat)
  case atStart => exact ⟨World.grownBy.refl _ _, 0, Nat.zero_le _, rfl, rfl, HO.out⟩
  case round =>
    obtain ⟨hg, k, hk, rfl, rfl, hown⟩ := hrel
    have HG := hide hg
    have HW := hide hown
    obtain ⟨K, hK⟩ : ∃ K, k0 + 2 * k = K := ⟨_, rfl⟩
    rw [hK]
    have HK := hide hK
    have hKb : K ≤ 13000000 := by omega
    have hK1 : 1 ≤ K := by omega
    by_cases hkn : k < N
    · obtain ⟨⟨a, u⟩, hRk⟩ : ∃ a, (ovh k0 R k)[k]? = some a := ⟨(ovh k0 R k)[k]'(by have := HN.out; rw [ovh_len _ _ _ (by omega)]; omega), List.getElem?_eq_getElem _⟩
      obtain ⟨g, cc, e, hc0, hc1, hf0, hf1, hgz⟩ := own_hv hown (by have := HN.out; rw [ovh_len _ _ _ (by omega)]; omega) hRk
      cases e
      have ewk : IntKind.i64.wrap ((K : Int) + 1) = (K : Int) + 1 := by rw [IntKind.wrap_i64]; omega
      have hp1 : ∀ W, Below wr.heap.size wr W → W.cell? ⟨g, k * 2, none⟩ = some (.string a) ∧ W.cell? ⟨g, k * 2 + 1, none⟩ = some (.int .i64 u) ∧ W.frozen? ⟨g, k * 2, none⟩ = false ∧ W.frozen? ⟨g, k * 2 + 1, none⟩ = false := fun W hW => ⟨cell_past hW hc0, cell_past hW hc1, by rw [frozen_past hW hc0]; exact hf0, by rw [frozen_past hW hc1]; exact hf1⟩
      have HP := hide hp1
      have hfz : ∀ W, Below wr.heap.size wr W → ∀ x, (W.setCell ⟨g, k * 2, none⟩ x).frozen? ⟨g, k * 2 + 1, none⟩ = false := fun W hW x => ((own_past HW.out hW).stored (k * 2) x).1.frozenAt _
      have HFz := hide hfz
      clear hg hown hK hRk hp1 hfz hc0 hc1 hf0 hf1
      go_wp2_with (go_at_call 50; refine (c_markText K (by omega) (by omega) _).mono ?_; rintro e w1 ⟨rfl, hb1⟩; obtain ⟨hx, hy, hfx, hfy⟩ := HP.out _ hb1; have hfy2 := HFz.out _ hb1; have HB := hide hb1; clear hb1)
      go_roundw
      case rel =>
        have e1 := HK.out
        have e2 := HN.out
        have ho := ((((own_past HW.out HB.out).stored (k * 2) (.string (mtx K))).1).stored (k * 2 + 1) (.int .i64 ((K : Int) + 1))).1
        rw [fl_set encH2 (ovh k0 R k) k (mkh k0 k) (by rw [ovh_len _ _ _ (by omega)]; omega) (by unfold mkh; rw [e1]; rfl), ovh_set k0 (by omega)] at ho
        exact ⟨((grown_pastH HG.out HB.out).trans (grown_oneH _ _ _ _)).trans (grown_oneH _ _ _ _), k + 1, by omega, by go_num, by go_num, ho⟩
      case measure => simp [intOf]; omega
    · have e : k = N := by omega
      have HE : Hid ((K : Int) = ((k0 + 2 * N : Nat) : Int)) := (by omega : (K : Int) = ((k0 + 2 * N : Nat) : Int))
      have HF : Hid (wr.ownsRow B 52 2 (.slice ao N c) N (fl encH (mkhs k0 N))) := by
        rw [e, show ovh k0 R N = mkhs k0 N by rw [HN.out]; exact ovh_all _ _] at hown; exact hown
      clear hg hown hK e
      go_wp2
      go_ret
      exact ⟨by rw [← HE.out]; rfl, HF.out, HG.out⟩

set_option maxHeartbeats 1000000 in
theorem c_heldHeavyS {w : World} {B N : Nat} {v : Value} (k0 : Nat) (h0 : 1 ≤ k0) (h1 : k0 ≤ 10000000) (hl : N ≤ 1048576) (h : w.ownsRow B 52 2 v N (fl encH (mkhs k0 N))) :
    Calls Try.prog 34 #[v, .int .i64 k0] w fun e w' => e = .returned (.int .i64 ((k0 + 2 * N : Nat) : Int)) ∧ Below w.heap.size w w' := by
  obtain ⟨ao, c, rfl⟩ := own_any h
  have HO := hide h
  clear h
  go_enter Try.func34, Try.ntmps34
  go_wp2
  go_loopw [1, 5] (fun m i wr => Below w.heap.size w wr ∧ ∃ (k : Nat), k ≤ N ∧ i = .int .i64 k ∧ m = .int .i64 ((k0 + 2 * k : Nat) : Int)) (fun m i wr => N - (intOf i).toNat)
  case atStart => exact ⟨Below.refl _ _, 0, Nat.zero_le _, rfl, rfl⟩
  case round =>
    obtain ⟨hbel, k, hk, rfl, rfl⟩ := hrel
    have HB := hide hbel
    obtain ⟨K, hK⟩ : ∃ K, k0 + 2 * k = K := ⟨_, rfl⟩
    rw [hK]
    have HK := hide hK
    have hKb : K ≤ 13000000 := by omega
    have hK1 : 1 ≤ K := by omega
    by_cases hkn : k < N
    · have hRk : (mkhs k0 N)[k]? = some (mtx K, (K : Int) + 1) := by rw [mkhs_at hkn]; unfold mkh; rw [hK]; rfl
      obtain ⟨g, cc, e, hc0, hc1, _, _, hgz⟩ := own_hv (own_past HO.out hbel) (mkhs_len k0 N).symm hRk
      cases e
      have ewk : IntKind.i64.wrap ((K : Int) + 1) = (K : Int) + 1 := by rw [IntKind.wrap_i64]; omega
      have hp1 : ∀ W, Below wr.heap.size wr W → W.cell? ⟨g, k * 2, none⟩ = some (.string (mtx K)) ∧ W.cell? ⟨g, k * 2 + 1, none⟩ = some (.int .i64 ((K : Int) + 1)) := fun W hW => ⟨cell_past hW hc0, cell_past hW hc1⟩
      have HP := hide hp1
      simp only at hc0 hc1
      clear hbel hRk hK hp1
      go_wp2_with fail
      go_region_held3 (fun W => Kept wr.heap.size wr W ∧ W.cell? ⟨g, k * 2, none⟩ = some (.string (mtx K)) ∧ W.cell? ⟨g, k * 2 + 1, none⟩ = some (.int .i64 ((K : Int) + 1)))
        (first | exact hS3 | exact ⟨held (Below.refl _ _).drew (by simp), HP.out _ (Below.refl _ _).drew⟩)
        (first | (go_at_call 50; have hS := (‹Kept _ _ _ ∧ _›).1; refine (c_markText K (by omega) (by omega) _).mono ?_; rintro e w7 ⟨rfl, hb7⟩; have hS1 := (held_call hb7 hS).1; have hS3 : Kept wr.heap.size wr w7 ∧ _ := ⟨held hS1 (Nat.le_refl _), HP.out _ hS1⟩; clear hb7))
      have HB7 := hide hS3.1.1
      obtain ⟨_, hx, hy⟩ := hS3
      go_wp2
      go_roundw
      case rel => have := HK.out; exact ⟨chain HB.out HB7.out, k + 1, by omega, by go_num, by go_num⟩
      case measure => simp [intOf]; omega
    · have e : k = N := by omega
      have HE : Hid ((K : Int) = ((k0 + 2 * N : Nat) : Int)) := (by omega : (K : Int) = ((k0 + 2 * N : Nat) : Int))
      clear hbel hK e
      go_wp2
      go_ret
      exact ⟨by rw [← HE.out]; rfl, HB.out⟩

theorem c_markTop {w : World} {B N c : Nat} {ao : Option Addr} {R : List Hv} {d t : Int} (k0 : Nat) (h0 : 1 ≤ k0) (h1 : k0 ≤ 10000000) (hl : N ≤ 1048576) (hn : N = R.length) (h : w.ownsRow B 52 2 (.slice ao N c) N (fl encH R)) :
    Calls Try.prog 11 #[.agg #[.slice ao N c, .int .i64 d, .int .i64 t], .int .i64 k0] w fun e w' => e = .returned (.int .i64 ((k0 + 2 * N : Nat) : Int)) ∧ w'.ownsRow B 52 2 (.slice ao N c) N (fl encH (mkhs k0 N)) ∧ w.grownBy w' (Value.slice ao N c).ownBlock := by
  have HO : Hid (∀ o, (w.alloc o).ownsRow B 52 2 (.slice ao N c) N (fl encH R)) := (fun o => own_past h ((Below.refl _ _).alloc (Nat.le_refl _) o) : ∀ o, (w.alloc o).ownsRow B 52 2 (.slice ao N c) N (fl encH R))
  have HN := hide hn
  obtain ⟨bk, hbk⟩ : ∃ bk, (Value.slice ao N c).ownBlock = bk := ⟨_, rfl⟩
  rw [hbk]
  have HBk := hide hbk
  clear h hn hbk
  go_enter Try.func11, Try.ntmps11
  go_wp2_with fail
  refine (c_markHeavyS k0 h0 h1 hl HN.out (HO.out _)).mono ?_
  rintro e w1 ⟨rfl, ho, hg⟩
  rw [HBk.out] at hg
  have HF : Hid (w1.ownsRow B 52 2 (.slice ao N c) N (fl encH (mkhs k0 N)) ∧ w.grownBy w1 bk) := (⟨ho, (World.grownBy_alloc _ _ _).trans hg⟩ : w1.ownsRow B 52 2 (.slice ao N c) N (fl encH (mkhs k0 N)) ∧ w.grownBy w1 bk)
  clear ho hg
  go_wp2
  go_ret
  exact ⟨rfl, HF.out.1, HF.out.2⟩
theorem c_heldTop {w : World} {B N c : Nat} {ao : Option Addr} {d t : Int} (k0 : Nat) (h0 : 1 ≤ k0) (h1 : k0 ≤ 10000000) (hl : N ≤ 1048576) (h : w.ownsRow B 52 2 (.slice ao N c) N (fl encH (mkhs k0 N))) :
    Calls Try.prog 12 #[.agg #[.slice ao N c, .int .i64 d, .int .i64 t], .int .i64 k0] w fun e w' => e = .returned (.int .i64 ((k0 + 2 * N : Nat) : Int)) ∧ Below w.heap.size w w' := by
  have HO : Hid (∀ o, (w.alloc o).ownsRow B 52 2 (.slice ao N c) N (fl encH (mkhs k0 N))) := (fun o => own_past h ((Below.refl _ _).alloc (Nat.le_refl _) o) : ∀ o, (w.alloc o).ownsRow B 52 2 (.slice ao N c) N (fl encH (mkhs k0 N)))
  have HAl : Hid (∀ o, Below w.heap.size w (w.alloc o)) := (fun o => (Below.refl _ _).alloc (Nat.le_refl _) o : ∀ o, Below w.heap.size w (w.alloc o))
  clear h
  obtain ⟨K, hK⟩ : ∃ K, k0 + 2 * N = K := ⟨_, rfl⟩
  have HK := hide hK
  rw [hK]
  clear hK
  go_enter Try.func12, Try.ntmps12
  go_wp2_with fail
  refine (c_heldHeavyS k0 h0 h1 hl (HO.out _)).mono ?_
  rintro e w1 ⟨rfl, hb⟩
  rw [HK.out]
  have HT := hide (chain (HAl.out _) hb)
  have hk0 : ¬ ((K : Int) < 0) := by omega
  clear hb
  go_wp2
  go_ret
  exact ⟨rfl, HT.out⟩
end Go.Proofs.Ytmhojmgemiphkaa
