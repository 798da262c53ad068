/-
  Shards without cells that are written over, and held; texts likewise.
-/
import Derived.Test.YtgdhojeobcpoiaaPnA
namespace Go.Proofs.Ytgdhojeobcpoiaa
set_option linter.unusedVariables false
set_option linter.unusedSimpArgs false
open Go.ChangeShapes Go.WideShapes Go.ChangeAt Go.RowKit Go.PlainAid Go.Lib
set_option maxRecDepth 10000

set_option maxRecDepth 10000 in
set_option maxHeartbeats 1000000 in
theorem c_markStrP {w : World} {B g c N : Nat} {xs : List Value} (k0 : Nat) (h0 : 1 ≤ k0) (h1 : k0 ≤ 10000000) (hl : N ≤ 1048576) (h : w.ownsRow B 9 1 (.slice (some ⟨g, 0, none⟩) N c) N xs) :
    Calls Try.prog 10 #[.slice (some ⟨g, 0, none⟩) N c, .int .i64 k0] w fun e w' => e = .returned (.int .i64 ((k0 + N : Nat) : Int)) ∧ w.grownBy w' (some g) := by
  have HO := hide h
  clear h
  go_enter Try.func10, Try.ntmps10
  go_wp2
  go_loopw [1, 5] (fun m i wr => w.grownBy wr (some g) ∧ ∃ (k : Nat) (ys : List Value), k ≤ N ∧ i = .int .i64 k ∧ m = .int .i64 ((k0 + k : Nat) : Int) ∧ wr.ownsRow B 9 1 (.slice (some ⟨g, 0, none⟩) N c) N ys) (fun m i wr => N - (intOf i).toNat)
  case atStart => exact ⟨World.grownBy.refl _ _, 0, xs, Nat.zero_le _, rfl, rfl, HO.out⟩
  case round =>
    obtain ⟨hg, k, ys, hk, rfl, rfl, hown⟩ := hrel
    have HG := hide hg
    have HW := hide hown
    obtain ⟨K, hK⟩ : ∃ K, k0 + k = K := ⟨_, rfl⟩
    rw [hK]
    have HK := hide hK
    have hKb : K ≤ 12000000 := by omega
    have hK1 : 1 ≤ K := by omega
    by_cases hkn : k < N
    · have hyl : ys.length = N := by have := hown.1; omega
      have hcc : ∀ W, Below wr.heap.size wr W → (∃ x, W.cell? ⟨g, k, none⟩ = some x) ∧ W.frozen? ⟨g, k, none⟩ = false := fun W hW => by
        have ho := own_past hown hW
        refine ⟨⟨ys[k]'(by omega), ?_⟩, ho.frozenAt k⟩
        rw [ho.cellAt k (by omega), List.getElem?_eq_getElem]
      have HC := hide hcc
      clear hg hown hK hcc
      go_wp2_with (go_at_call 19; refine (c_markText K hK1 (by omega) _).mono ?_; rintro e w1 ⟨rfl, hb1⟩; obtain ⟨⟨x, hx⟩, hf⟩ := HC.out _ hb1; have HB := hide hb1; clear hb1)
      go_roundw
      case rel =>
        have ho := (own_past HW.out HB.out).stored k (.string (mtx K))
        have := HK.out
        exact ⟨(grown_past HG.out HB.out).trans (grown_one _ _ _ _), k + 1, _, by omega, by go_num, by go_num, ho.1⟩
      case measure => simp [intOf]; omega
    · have e : k = N := by omega
      have HE : Hid ((K : Int) = ((k0 + N : Nat) : Int)) := (by omega : (K : Int) = ((k0 + N : Nat) : Int))
      clear hg hown hK e
      go_wp2
      go_ret
      exact ⟨by rw [← HE.out]; rfl, HG.out⟩


/-- The names that are laid. -/
def mkN (k0 n : Nat) : List ByteArray := (List.range n).map (fun i => mtx (k0 + i))
theorem mkN_len (k0 n : Nat) : (mkN k0 n).length = n := by simp [mkN]
theorem mkN_at {k0 n i : Nat} (h : i < n) : (mkN k0 n)[i]? = some (mtx (k0 + i)) := by simp [mkN, h]
def ovN (k0 : Nat) (R : List ByteArray) (k : Nat) : List ByteArray := mkN k0 k ++ R.drop k
theorem ovN_len (k0 : Nat) (R : List ByteArray) (k : Nat) (hk : k ≤ R.length) : (ovN k0 R k).length = R.length := by simp [ovN, mkN_len]; omega
theorem ovN_set (k0 : Nat) {R : List ByteArray} {k : Nat} (hk : k < R.length) : (ovN k0 R k).set k (mtx (k0 + k)) = ovN k0 R (k + 1) := by
  unfold ovN
  rw [List.set_append_right _ _ (by rw [mkN_len]; omega), mkN_len, Nat.sub_self]
  have e : R.drop k = R[k] :: R.drop (k + 1) := List.drop_eq_getElem_cons hk
  rw [e, List.set_cons_zero]
  show mkN k0 k ++ mtx (k0 + k) :: R.drop (k + 1) = (List.range (k + 1)).map (fun i => mtx (k0 + i)) ++ R.drop (k + 1)
  rw [List.range_succ, List.map_append, List.append_assoc]; rfl
theorem ovN_all (k0 : Nat) (R : List ByteArray) : ovN k0 R R.length = mkN k0 R.length := by simp [ovN]
theorem fl_setS {u : ByteArray} : ∀ (xs : List ByteArray) (i : Nat), i < xs.length → (fl encS xs).set (i * 2) (.string u) = fl encS (xs.set i u)
  | [], i, h => by simp at h
  | x :: xs, 0, h => rfl
  | x :: xs, i + 1, h => by
    have h' : i < xs.length := by simpa using h
    rw [fl_cons, List.set_cons_succ, fl_cons, ← fl_setS xs i h']
    rw [List.set_append_right _ _ (by rw [encS2]; omega), encS2, show (i + 1) * 2 - 2 = i * 2 by omega]
theorem OwnS.put {w : World} {B : Nat} {ao : Option Addr} {c : Nat} {L : List ByteArray} {k g : Nat} {u : ByteArray} (h : OwnS w B (.slice (some ⟨g, 0, none⟩) L.length c) L) (hk : k < L.length) : OwnS (w.setCell ⟨g, k * 2, none⟩ (.string u)) B (.slice (some ⟨g, 0, none⟩) L.length c) (L.set k u) := by
  have := (World.ownsRow.stored h (k * 2) (.string u)).1
  rw [fl_setS L k hk] at this
  show World.ownsRow _ _ _ _ _ _ _
  rw [List.length_set]; exact this
set_option maxHeartbeats 1000000 in
theorem c_markShardS0 {w : World} {B : Nat} {v : Value} {L : List ByteArray} (hl : L.length ≤ 96) (h : OwnS w B v L) :
    Calls Try.prog 20 #[v, .int .i64 1] w fun e w' => e = .returned (.int .i64 ((1 + L.length : Nat) : Int)) ∧ OwnS w' B v (mkN 1 L.length) ∧ w.grownBy w' v.ownBlock := by
  obtain ⟨N, hN⟩ : ∃ N, L.length = N := ⟨_, rfl⟩
  obtain ⟨ao, c, rfl⟩ := own_any h
  have HO := hide h
  have HN := hide hN
  rw [hN] at hl ⊢
  clear h hN
  go_enter Try.func20, Try.ntmps20
  go_wp2
  go_loopw [1, 5] (fun m i wr => w.grownBy wr (Value.slice ao N c).ownBlock ∧ ∃ (k : Nat), k ≤ N ∧ i = .int .i64 k ∧ m = .int .i64 ((1 + k : Nat) : Int) ∧ OwnS wr B (.slice ao N c) (ovN 1 L k)) (fun m i wr => N - (intOf i).toNat)
  case atStart => exact ⟨World.grownBy.refl _ _, 0, Nat.zero_le _, rfl, rfl, by rw [← HN.out]; exact HO.out⟩
  case round =>
    obtain ⟨hg, k, hk, rfl, rfl, hown⟩ := hrel
    have HG := hide hg
    have HW := hide hown
    obtain ⟨K, hK⟩ : ∃ K, 1 + k = K := ⟨_, rfl⟩
    rw [hK]
    have HK := hide hK
    have hKb : K ≤ 2000 := by omega
    have hK1 : 1 ≤ K := by omega
    by_cases hkn : k < N
    · have hlk : (ovN 1 L k).length = N := by have := HN.out; rw [ovN_len _ _ _ (by omega)]; omega
      obtain ⟨u, hRk⟩ : ∃ a, (ovN 1 L k)[k]? = some a := ⟨(ovN 1 L k)[k]'(by omega), List.getElem?_eq_getElem _⟩
      obtain ⟨g, cc, e, hc0, hc1, hf0, hgz⟩ := hown.at hRk
      rw [hlk] at e
      cases e
      have hcc : ∀ W, Below wr.heap.size wr W → W.cell? ⟨g, k * 2, none⟩ = some (.string u) ∧ W.frozen? ⟨g, k * 2, none⟩ = false ∧ W.cell? ⟨g, k * 2 + 1, none⟩ = some (.slice none 0 0) := fun W hW => ⟨cell_past hW hc0, by rw [frozen_past hW hc0]; exact hf0, cell_past hW hc1⟩
      have HC := hide hcc
      have HL := hide hlk
      clear hg hown hK hRk hc0 hc1 hf0 hcc hlk
      go_wp2_with (go_at_call 19; refine (c_markText K (by omega) (by omega) _).mono ?_; rintro e w1 ⟨rfl, hb1⟩; obtain ⟨hx, hf, hy⟩ := HC.out _ hb1; have HB := hide hb1; clear hb1)
      refine (c_markCellS0 _ _).mono ?_
      rintro e w2 ⟨rfl, hb2⟩
      have HB2 : Hid (Below (w1.setCell ⟨g, k * 2, none⟩ (.string (mtx K))).heap.size (w1.setCell ⟨g, k * 2, none⟩ (.string (mtx K))) w2) := hb2
      clear hb2
      go_wp2
      go_roundw
      case rel =>
        have e1 := HK.out
        have e2 := HN.out
        have e3 := HL.out
        have hs := HW.out.past HB.out
        rw [← e3] at hs
        have h2 := ((hs.put (ao := none) (u := mtx K) (k := k) (by omega)).past HB2.out)
        rw [← e1, ovN_set 1 (by omega), e3] at h2
        exact ⟨(grown_past ((grown_past HG.out HB.out).trans (grown_one _ _ _ _)) HB2.out), k + 1, by omega, by go_num, by go_num, h2⟩
      case measure => simp [intOf]; omega
    · have e : k = N := by omega
      have HE : Hid ((K : Int) = ((1 + N : Nat) : Int)) := (by omega : (K : Int) = ((1 + N : Nat) : Int))
      have HF : Hid (OwnS wr B (.slice ao N c) (mkN 1 N)) := by
        rw [e, show ovN 1 L N = mkN 1 N by rw [← HN.out]; exact ovN_all _ _] at hown; exact hown
      clear hg hown hK e
      go_wp2
      go_ret
      exact ⟨by rw [← HE.out]; rfl, HF.out, HG.out⟩
set_option maxHeartbeats 1000000 in
theorem c_heldShardS0 {w : World} {B N : Nat} {v : Value} (hl : N ≤ 96) (h : OwnS w B v (mkN 1 N)) :
    Calls Try.prog 21 #[v, .int .i64 1] w fun e w' => e = .returned (.int .i64 ((1 + N : Nat) : Int)) ∧ Below w.heap.size w w' := by
  obtain ⟨ao, c, rfl⟩ := own_any h
  have HO := hide h
  rw [mkN_len]
  clear h
  go_enter Try.func21, Try.ntmps21
  go_wp2
  go_loopw [1, 5] (fun m i wr => Below w.heap.size w wr ∧ ∃ (k : Nat), k ≤ N ∧ i = .int .i64 k ∧ m = .int .i64 ((1 + k : Nat) : Int)) (fun m i wr => N - (intOf i).toNat)
  case atStart => exact ⟨Below.refl _ _, 0, Nat.zero_le _, rfl, rfl⟩
  case round =>
    obtain ⟨hbel, k, hk, rfl, rfl⟩ := hrel
    have HB := hide hbel
    obtain ⟨K, hK⟩ : ∃ K, 1 + k = K := ⟨_, rfl⟩
    rw [hK]
    have HK := hide hK
    have hKb : K ≤ 2000 := by omega
    have hK1 : 1 ≤ K := by omega
    by_cases hkn : k < N
    · have hRk : (mkN 1 N)[k]? = some (mtx K) := by rw [mkN_at hkn, hK]
      obtain ⟨g, cc, e, hc0, hc1, hf0, hgz⟩ := (HO.out.past hbel).at hRk
      rw [mkN_len] at e
      cases e
      obtain ⟨X, hX⟩ : ∃ X, mtx K = X := ⟨_, rfl⟩
      have hcT := fun W => c_markText K (by omega) (by omega) W
      rw [hX] at hc0 hcT
      clear hbel hRk hK hX
      go_wp2_with fail
      go_region_held3 (Kept wr.heap.size wr)
        (refine held ?_ (by simp) <;> first | exact (Below.refl _ _).drew | exact hS1)
        (first | (go_at_call 19; refine (hcT _).mono ?_; rintro e w1 ⟨rfl, hb1⟩; obtain ⟨hS1, hS2⟩ := held_call hb1 ‹Kept _ _ _›; obtain ⟨hc2, hf2⟩ := bcell hb1; clear hb1))
      all_goals go_wp2_with fail
      refine (c_heldCellS0 _ _).mono ?_
      rintro e w2 ⟨rfl, hb2⟩
      have HB2 := hide hb2
      clear hb2
      go_wp2
      go_roundw
      case rel => have := HK.out; exact ⟨chain (HB.out.trans (hS1.mono HB.out.size)) HB2.out, k + 1, by omega, by go_num, by go_num⟩
      case measure => simp [intOf]; omega
    · have e : k = N := by omega
      have HE : Hid ((K : Int) = ((1 + N : Nat) : Int)) := (by omega : (K : Int) = ((1 + N : Nat) : Int))
      clear hbel hK e
      go_wp2
      go_ret
      exact ⟨by rw [← HE.out]; rfl, HB.out⟩
theorem c_markPipe0 {w : World} {B : Nat} {v : Value} {L : List ByteArray} (a b c d : Int) (hl : L.length ≤ 96) (h : OwnS w B v L) :
    Calls Try.prog 11 #[.agg #[v, .int .i64 a, .int .i64 b, .int .i64 c, .int .i64 d], .int .i64 1] w fun e w' => e = .returned (.int .i64 ((1 + L.length : Nat) : Int)) ∧ OwnS w' B v (mkN 1 L.length) ∧ w.grownBy w' v.ownBlock := by
  obtain ⟨N, hN⟩ : ∃ N, L.length = N := ⟨_, rfl⟩
  obtain ⟨ao, cp, rfl⟩ := own_any h
  have HG : ∀ o, Hid (w.grownBy (w.alloc o) (Value.slice ao L.length cp).ownBlock) := fun o => ⟨rfl, rfl, rfl, by simp, fun k hk hn => (((Below.refl w.heap.size w).alloc (Nat.le_refl _) o).block k hk)⟩
  have H0 : ∀ o, Hid (Below w.heap.size w (w.alloc o)) := fun o => (Below.refl _ _).alloc (Nat.le_refl _) _
  have HG := hide HG
  have H0 := hide H0
  have HO := hide h
  have HN := hide hN
  rw [hN]
  clear h hN
  go_enter Try.func11, Try.ntmps11
  go_wp2_with (go_at_call 20; rw [← HN.out]; refine (c_markShardS0 hl (HO.out.past (H0.out _).out)).mono ?_; rintro e w1 ⟨rfl, ho1, hg1⟩; have H1 := hide ho1; have H2 := hide ((HG.out _).out.trans hg1); clear ho1 hg1)
  go_ret
  obtain rfl := HN.out
  exact ⟨rfl, H1.out, H2.out⟩
theorem c_heldPipe0 {w : World} {B N : Nat} {v : Value} (a b c d : Int) (hl : N ≤ 96) (h : OwnS w B v (mkN 1 N)) :
    Calls Try.prog 12 #[.agg #[v, .int .i64 a, .int .i64 b, .int .i64 c, .int .i64 d], .int .i64 1] w fun e w' => e = .returned (.int .i64 ((1 + N : Nat) : Int)) ∧ Below w.heap.size w w' := by
  obtain ⟨ao, cp, rfl⟩ := own_any h
  have H0 : ∀ o, Hid (Below w.heap.size w (w.alloc o)) := fun o => (Below.refl _ _).alloc (Nat.le_refl _) _
  have H0 := hide H0
  have HO := hide h
  clear h
  go_enter Try.func12, Try.ntmps12
  go_wp2_with (go_at_call 21; refine (c_heldShardS0 hl (HO.out.past (H0.out _).out)).mono ?_; rintro e w1 ⟨rfl, hb1⟩; have H1 := hide (chain (H0.out _).out hb1); clear hb1)
  go_ret
  exact ⟨rfl, H1.out⟩
end Go.Proofs.Ytgdhojeobcpoiaa
