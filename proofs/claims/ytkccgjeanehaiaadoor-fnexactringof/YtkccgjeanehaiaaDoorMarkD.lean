/-
  Strings and marks of a ring that are written over, and held.
-/
import Derived.Test.YtkccgjeanehaiaaDoorMarkC
namespace Go.Proofs.YtkccgjeanehaiaaDoor
set_option linter.unusedVariables false
set_option linter.unusedSimpArgs false
open Go.ChangeShapes Go.WideShapes Go.ChangeAt Go.RowKit Go.PlainAid Go.Lib Go.Shelf
open Go.Sort hiding Below

theorem grown_past {w w1 w2 : World} {r : Option Nat} (h : w.grownBy w1 r) (hb : Below w1.heap.size w1 w2) : w.grownBy w2 r :=
  ⟨hb.os.trans h.os, hb.tape.trans h.tape, hb.output.trans h.output, Nat.le_trans h.size hb.size, fun k hk hne => by rw [hb.block k (Nat.lt_of_lt_of_le hk h.size)]; exact h.block k hk hne⟩
theorem grown_one (w : World) (g o : Nat) (u : Value) : w.grownBy (w.setCell ⟨g, o, none⟩ u) (some g) :=
  ⟨rfl, rfl, rfl, by simp [World.setCell], fun k hk hne => Below.heap_setCell _ _ _ _ (fun e => hne (by rw [e]))⟩

set_option maxRecDepth 10000 in
set_option maxHeartbeats 1000000 in
theorem c_markStringS {w : World} {B g c N : Nat} {xs : List Value} (k0 : Nat) (h0 : 1 ≤ k0) (h1 : k0 ≤ 10000000) (hl : N ≤ 1048576) (h : w.ownsRow B 9 1 (.slice (some ⟨g, 0, none⟩) N c) N xs) :
    Calls Tryd.prog 18 #[.slice (some ⟨g, 0, none⟩) N c, .int .i64 k0] w fun e w' => e = .returned (.int .i64 ((k0 + N : Nat) : Int)) ∧ w.grownBy w' (some g) := by
  have HO := hide h
  clear h
  go_enter Tryd.func18, Tryd.ntmps18
  go_wp2
  go_loopw [1, 5] (fun m i wr => w.grownBy wr (some g) ∧ ∃ (k : Nat) (ys : List Value), k ≤ N ∧ i = .int .i64 k ∧ m = .int .i64 ((k0 + k : Nat) : Int) ∧ wr.ownsRow B 9 1 (.slice (some ⟨g, 0, none⟩) N c) N ys) (fun m i wr => N - (intOf i).toNat)
  case atStart => exact ⟨World.grownBy.refl _ _, 0, xs, Nat.zero_le _, rfl, rfl, HO.out⟩
  case round =>
    obtain ⟨hg, k, ys, hk, rfl, rfl, hown⟩ := hrel
    have HG := hide hg
    have HW := hide hown
    obtain ⟨K, hK⟩ : ∃ K, k0 + k = K := ⟨_, rfl⟩
    rw [hK]
    have HK := hide hK
    have hKb : K ≤ 12000000 := by omega
    have hK1 : 1 ≤ K := by omega
    by_cases hkn : k < N
    · have hyl : ys.length = N := by have := hown.1; omega
      have hcc : ∀ W, Below wr.heap.size wr W → (∃ x, W.cell? ⟨g, k, none⟩ = some x) ∧ W.frozen? ⟨g, k, none⟩ = false := fun W hW => by
        have ho := own_past hown hW
        refine ⟨⟨ys[k]'(by omega), ?_⟩, ho.frozenAt k⟩
        rw [ho.cellAt k (by omega), List.getElem?_eq_getElem]
      have HC := hide hcc
      clear hg hown hK hcc
      go_wp2_with (go_at_call 33; refine (c_markText K hK1 (by omega) _).mono ?_; rintro e w1 ⟨rfl, hb1⟩; obtain ⟨⟨x, hx⟩, hf⟩ := HC.out _ hb1; have HB := hide hb1; clear hb1)
      go_roundw
      case rel =>
        have ho := (own_past HW.out HB.out).stored k (.string (mtx K))
        have := HK.out
        exact ⟨(grown_past HG.out HB.out).trans (grown_one _ _ _ _), k + 1, _, by omega, by go_num, by go_num, ho.1⟩
      case measure => simp [intOf]; omega
    · have e : k = N := by omega
      have HE : Hid ((K : Int) = ((k0 + N : Nat) : Int)) := (by omega : (K : Int) = ((k0 + N : Nat) : Int))
      clear hg hown hK e
      go_wp2
      go_ret
      exact ⟨by rw [← HE.out]; rfl, HG.out⟩

/-- The marks' own marks. -/
def mkd (k0 : Nat) (i : Nat) : Mk := (((k0 + 2 * i : Nat) : Int), mtx (k0 + 2 * i + 1))
def mkds (k0 n : Nat) : List Mk := (List.range n).map (mkd k0)
theorem mkds_len (k0 n : Nat) : (mkds k0 n).length = n := by simp [mkds]
theorem mkds_at {k0 n i : Nat} (h : i < n) : (mkds k0 n)[i]? = some (mkd k0 i) := by simp [mkds, h]
/-- The first k are written over. -/
def ovr (k0 : Nat) (R : List Mk) (k : Nat) : List Mk := mkds k0 k ++ R.drop k
theorem ovr_len (k0 : Nat) (R : List Mk) (k : Nat) (hk : k ≤ R.length) : (ovr k0 R k).length = R.length := by simp [ovr, mkds_len]; omega
theorem ovr_set (k0 : Nat) {R : List Mk} {k : Nat} (hk : k < R.length) : (ovr k0 R k).set k (mkd k0 k) = ovr k0 R (k + 1) := by
  unfold ovr
  rw [List.set_append_right _ _ (by rw [mkds_len]; omega), mkds_len, Nat.sub_self]
  have e : R.drop k = R[k] :: R.drop (k + 1) := List.drop_eq_getElem_cons hk
  rw [e, List.set_cons_zero]
  show mkds k0 k ++ mkd k0 k :: R.drop (k + 1) = (List.range (k + 1)).map (mkd k0) ++ R.drop (k + 1)
  rw [List.range_succ, List.map_append, List.append_assoc]; rfl
theorem ovr_all (k0 : Nat) (R : List Mk) : ovr k0 R R.length = mkds k0 R.length := by simp [ovr]

set_option maxRecDepth 10000 in
set_option maxHeartbeats 1000000 in
theorem c_markMarkS {w : World} {B N : Nat} {v : Value} {R : List Mk} (k0 : Nat) (h0 : 1 ≤ k0) (h1 : k0 ≤ 1000) (hn : N = R.length) (hl : N ≤ 96) (h : w.ownsRow B 32 2 v N (fl encM R)) :
    Calls Tryd.prog 19 #[v, .int .i64 k0] w fun e w' => e = .returned (.int .i64 ((k0 + 2 * N : Nat) : Int)) ∧ w'.ownsRow B 32 2 v N (fl encM (mkds k0 N)) ∧ w.grownBy w' v.ownBlock := by
  obtain ⟨ao, c, rfl⟩ := own_any h
  have HO := hide h
  have HN := hide hn
  clear h hn
  go_enter Tryd.func19, Tryd.ntmps19
  go_wp2
  go_loopw [1, 5] (fun m i wr => w.grownBy wr (Value.slice ao N c).ownBlock ∧ ∃ (k : Nat), k ≤ N ∧ i = .int .i64 k ∧ m = .int .i64 ((k0 + 2 * k : Nat) : Int) ∧ wr.ownsRow B 32 2 (.slice ao N c) N (fl encM (ovr k0 R k))) (fun m i wr => N - (intOf i).toNat)
  case atStart => exact ⟨World.grownBy.refl _ _, 0, Nat.zero_le _, rfl, rfl, HO.out⟩
  case round =>
    obtain ⟨hg, k, hk, rfl, rfl, hown⟩ := hrel
    have HG := hide hg
    have HW := hide hown
    obtain ⟨K, hK⟩ : ∃ K, k0 + 2 * k = K := ⟨_, rfl⟩
    rw [hK]
    have HK := hide hK
    have hKb : K ≤ 2000 := by omega
    have hK1 : 1 ≤ K := by omega
    by_cases hkn : k < N
    · obtain ⟨⟨a, u⟩, hRk⟩ : ∃ a, (ovr k0 R k)[k]? = some a := ⟨(ovr k0 R k)[k]'(by have := HN.out; rw [ovr_len _ _ _ (by omega)]; omega), List.getElem?_eq_getElem _⟩
      obtain ⟨g, cc, e, hc0, hc1, hf0, hf1, hgz⟩ := own_mark hown (by have := HN.out; rw [ovr_len _ _ _ (by omega)]; omega) hRk
      cases e
      have ewk : IntKind.u64.wrap (K : Int) = K := by rw [IntKind.wrap_u64]; omega
      have hp1 : ∀ W, Below wr.heap.size (wr.setCell ⟨g, k * 2, none⟩ (.int .u64 K)) W → W.cell? ⟨g, k * 2 + 1, none⟩ = some (.string u) ∧ W.frozen? ⟨g, k * 2 + 1, none⟩ = false := fun W hW => by
        have h2 : (wr.setCell ⟨g, k * 2, none⟩ (.int .u64 K)).cell? ⟨g, k * 2 + 1, none⟩ = some (.string u) := by rw [World.cell?_setCell_other _ _ _ _ (by simp)]; exact hc1
        have hW' : Below (wr.setCell ⟨g, k * 2, none⟩ (.int .u64 K)).heap.size (wr.setCell ⟨g, k * 2, none⟩ (.int .u64 K)) W := hW.mono (by simp [World.setCell])
        refine ⟨cell_past hW' h2, ?_⟩
        rw [frozen_past hW' h2]
        exact ((hown.stored (k * 2) (.int .u64 K)).1).frozenAt _
      have HP := hide hp1
      clear hg hown hK hRk hp1
      go_wp2_with (go_at_call 33; refine (c_markText (K + 1) (by omega) (by omega) _).mono ?_; rintro e w1 ⟨rfl, hb1⟩; have hb1 : Below wr.heap.size (wr.setCell ⟨g, k * 2, none⟩ (.int .u64 K)) w1 := hb1.mono (by simp [World.setCell]); obtain ⟨hx, hf⟩ := HP.out _ hb1; have HB := hide hb1; clear hb1)
      go_roundw
      case rel =>
        have e1 := HK.out
        have e2 := HN.out
        have hs := (HW.out.stored (k * 2) (.int .u64 K)).1
        have hb' : Below (wr.setCell ⟨g, k * 2, none⟩ (.int .u64 K)).heap.size (wr.setCell ⟨g, k * 2, none⟩ (.int .u64 K)) w1 := HB.out.mono (by simp [World.setCell])
        have ho := ((own_past hs hb').stored (k * 2 + 1) (.string (mtx (K + 1)))).1
        rw [fl_set encM2 (ovr k0 R k) k (mkd k0 k) (by rw [ovr_len _ _ _ (by omega)]; omega) (by rw [← e1]; rfl), ovr_set k0 (by omega)] at ho
        exact ⟨(grown_past (HG.out.trans (grown_one _ _ _ _)) hb').trans (grown_one _ _ _ _), k + 1, by omega, by go_num, by go_num, ho⟩
      case measure => simp [intOf]; omega
    · have e : k = N := by omega
      have HE : Hid ((K : Int) = ((k0 + 2 * N : Nat) : Int)) := (by omega : (K : Int) = ((k0 + 2 * N : Nat) : Int))
      have HF : Hid (wr.ownsRow B 32 2 (.slice ao N c) N (fl encM (mkds k0 N))) := by
        rw [e, show ovr k0 R N = mkds k0 N by rw [HN.out]; exact ovr_all _ _] at hown; exact hown
      clear hg hown hK e
      go_wp2
      go_ret
      exact ⟨by rw [← HE.out]; rfl, HF.out, HG.out⟩

set_option maxRecDepth 10000 in
set_option maxHeartbeats 1000000 in
theorem c_heldMarkS {w : World} {B N : Nat} {v : Value} (k0 : Nat) (h0 : 1 ≤ k0) (h1 : k0 ≤ 1000) (hl : N ≤ 96) (h : w.ownsRow B 32 2 v N (fl encM (mkds k0 N))) :
    Calls Tryd.prog 20 #[v, .int .i64 k0] w fun e w' => e = .returned (.int .i64 ((k0 + 2 * N : Nat) : Int)) ∧ Below w.heap.size w w' := by
  obtain ⟨ao, c, rfl⟩ := own_any h
  have HO := hide h
  clear h
  go_enter Tryd.func20, Tryd.ntmps20
  go_wp2
  go_loopw [1, 5] (fun m i wr => Below w.heap.size w wr ∧ ∃ (k : Nat), k ≤ N ∧ i = .int .i64 k ∧ m = .int .i64 ((k0 + 2 * k : Nat) : Int)) (fun m i wr => N - (intOf i).toNat)
  case atStart => exact ⟨Below.refl _ _, 0, Nat.zero_le _, rfl, rfl⟩
  case round =>
    obtain ⟨hbel, k, hk, rfl, rfl⟩ := hrel
    have HB := hide hbel
    obtain ⟨K, hK⟩ : ∃ K, k0 + 2 * k = K := ⟨_, rfl⟩
    rw [hK]
    have HK := hide hK
    have hKb : K ≤ 2000 := by omega
    have hK1 : 1 ≤ K := by omega
    by_cases hkn : k < N
    · have hRk : (mkds k0 N)[k]? = some ((K : Int), mtx (K + 1)) := by rw [mkds_at hkn]; unfold mkd; rw [hK]
      obtain ⟨g, cc, e, hc0, hc1, hf0, hf1, hgz⟩ := own_mark (own_past HO.out hbel) (mkds_len _ _).symm hRk
      cases e
      have ewk : IntKind.u64.wrap (K : Int) = K := by rw [IntKind.wrap_u64]; omega
      obtain ⟨X, hX⟩ : ∃ X, mtx (K + 1) = X := ⟨_, rfl⟩
      have hcT := fun W => c_markText (K + 1) (by omega) (by omega) W
      rw [hX] at hc1 hcT
      clear hbel hRk hK hX
      go_wp2_with fail
      go_region_held3 (Kept wr.heap.size wr)
        (refine held ?_ (by simp) <;> first | exact (Below.refl _ _).drew | exact hS1)
        (first | (go_at_call 33; refine (hcT _).mono ?_; rintro e w1 ⟨rfl, hb1⟩; obtain ⟨hS1, hS2⟩ := held_call hb1 ‹Kept _ _ _›; obtain ⟨hc2, hf2⟩ := bcell hb1; clear hb1))
      all_goals go_wp2
      all_goals go_roundw
      case rel => have := HK.out; exact ⟨HB.out.trans (hS1.mono HB.out.size), k + 1, by omega, by go_num, by go_num⟩
      case measure => simp [intOf]; omega
    · have e : k = N := by omega
      have HE : Hid ((K : Int) = ((k0 + 2 * N : Nat) : Int)) := (by omega : (K : Int) = ((k0 + 2 * N : Nat) : Int))
      clear hbel hK e
      go_wp2
      go_ret
      exact ⟨by rw [← HE.out]; rfl, HB.out⟩
end Go.Proofs.YtkccgjeanehaiaaDoor
