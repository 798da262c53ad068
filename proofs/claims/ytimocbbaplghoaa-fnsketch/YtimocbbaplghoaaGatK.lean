/-
  Keeping the greatest bins; the others join the least of these.
-/
import Derived.Test.YtimocbbaplghoaaGatP
namespace Go.Proofs.Ytimocbbaplghoaa
set_option linter.unusedVariables false
set_option linter.unusedSimpArgs false
open Go.ChangeShapes Go.WideShapes Go.ChangeAt Go.RowKit Go.PlainAid Go.Lib
set_option maxRecDepth 10000

/-- The weights of some bins, put to a weight one by one. -/
def foldW (x : Int) (L : List Bn) : Int := L.foldl (fun s y => wAdd s y.2) x
theorem foldW_in {x : Int} (hx : U64 x) : ∀ {L : List Bn}, (∀ y ∈ L, BnOk y) → U64 (foldW x L)
  | [], _ => hx
  | y :: r, h => by
    have hy := (h y (List.mem_cons_self ..)).2
    have : U64 (wAdd x y.2) := by unfold wAdd; unfold U64 at *; split <;> omega
    exact foldW_in this (fun z hz => h z (List.mem_cons_of_mem _ hz))
theorem foldW_take {x : Int} {L : List Bn} {j : Nat} {y : Bn} (h : L[j]? = some y) : foldW x (L.take (j + 1)) = wAdd (foldW x (L.take j)) y.2 := by
  rw [List.take_add_one, h]; simp [foldW, List.foldl_append]
/-- The greatest thirty; the others join the least of these. -/
def keepL (L : List Bn) : List Bn := if L.length ≤ 30 then L else match L.drop (L.length - 30) with
  | [] => []
  | x :: r => (x.1, foldW x.2 (L.take (L.length - 30))) :: r

/-- A slice of bins in a block of one's own, from whatever place on. -/
def OwnB (w : World) (B : Nat) (v : Value) (n : Nat) (L : List Bn) : Prop := n = L.length ∧ ((v = .slice none 0 0 ∧ n = 0) ∨ ∃ b off c cur, v = .slice (some ⟨b, off, none⟩) n c ∧ B ≤ b ∧ w.heap[b]? = some (.cells cur 50 (0, 0)) ∧ (∀ (j : Nat) (q : Value), (fl encB L)[j]? = some q → cur[off + j]? = some q) ∧ n ≤ c ∧ c ≤ maxLen ∧ off + c * 2 ≤ cur.size)
theorem OwnB.past {w w' : World} {B : Nat} {v : Value} {n : Nat} {L : List Bn} (h : OwnB w B v n L) (hb : Below w.heap.size w w') : OwnB w' B v n L := by
  refine ⟨h.1, ?_⟩
  rcases h.2 with h | ⟨b, off, c, cur, e, h1, h2, h3⟩
  · exact .inl h
  · exact .inr ⟨b, off, c, cur, e, h1, by rw [hb.block b (Array.getElem?_eq_some_iff.1 h2).1]; exact h2, h3⟩
theorem OwnB.any {w : World} {B : Nat} {v : Value} {n : Nat} {L : List Bn} (h : OwnB w B v n L) : ∃ ao c, v = .slice ao n c := by
  rcases h.2 with ⟨e, e2⟩ | ⟨b, off, c, cur, e, _⟩
  · subst e2; exact ⟨_, _, e⟩
  · exact ⟨_, _, e⟩
theorem OwnB.at {w : World} {B : Nat} {n c : Nat} {ao : Option Addr} {L : List Bn} (h : OwnB w B (.slice ao n c) n L) : BinsAt w ao L := fun h0 => by
  rcases h.2 with ⟨e, e2⟩ | ⟨b, off, c, cur, e, h1, h2, h3⟩
  · have := h.1; omega
  · cases e
    refine ⟨b, off, rfl, fun i x hx => ?_⟩
    have e0 := fl_at encB2 L i x 0 (by omega) hx
    have e1 := fl_at encB2 L i x 1 (by omega) hx
    rw [Nat.add_zero] at e0
    exact ⟨by rw [cell_of_row w b _ _ _ (0, 0) h2]; exact h3.1 _ _ e0, by rw [cell_of_row w b _ _ _ (0, 0) h2, Nat.add_assoc]; exact h3.1 _ _ e1⟩
theorem OwnB.of {w : World} {B : Nat} {v : Value} {n : Nat} {L : List Bn} (h : w.ownsRow B 50 2 v n (fl encB L)) (hn : n = L.length) : OwnB w B v n L := by
  refine ⟨hn, ?_⟩
  rcases h.2 with ⟨e, e2⟩ | ⟨g, cap, cur, e, h1, h2, h3, h4, h5, h6⟩
  · exact .inl ⟨e, e2⟩
  · refine .inr ⟨g, 0, cap, cur, e, h1, h2, fun j q hq => ?_, h3, h4, by omega⟩
    rw [← h6, List.getElem?_take] at hq
    split at hq
    · rw [Nat.zero_add]; rwa [Array.getElem?_toList] at hq
    · cases hq

theorem set_same {L : List Bn} {k : Nat} {x : Bn} (h : L[k]? = some x) : L.set k x = L := by
  refine List.ext_getElem? fun j => ?_
  by_cases e : k = j
  · subst e; rw [List.getElem?_set_self (List.getElem?_eq_some_iff.1 h).1, h]
  · rw [List.getElem?_set_ne e]

set_option maxHeartbeats 2000000 in
theorem c_keep {w : World} {B g n : Nat} {v : Value} {L : List Bn} (hok : ∀ x ∈ L, BnOk x) (hl : n ≤ 500) (h : Gat w B g v n L) :
    Calls Try.prog 48 #[.pointer (some ⟨g, 0, none⟩), .int .i64 30] w fun e w' => ∃ r v' n', e = .returned r ∧ w'.heap[g]? = some (.cells #[v', fnPl, fnJo] 67 (0, 0)) ∧ OwnB w' B v' n' (keepL L) ∧ Below B w w' := by
  obtain ⟨c0, cG⟩ := h.cells
  have HH := hide h
  have HK := hide hok
  obtain ⟨ao, cc, rfl⟩ := own_any h.own
  clear h hok
  by_cases h30 : n ≤ 30
  · have HE : Hid (keepL L = L) := (if_pos (by have := HH.out.len; omega) : keepL L = L)
    go_enter Try.func48, Try.ntmps48
    go_wp2
    refine bodyPost_ret (v := .tuple #[]) (by simp [results, Try.results48, go_sem]) rfl ?_
    exact ⟨_, _, _, rfl, HH.out.blk, by rw [HE.out]; exact OwnB.of HH.out.own HH.out.len, Below.refl _ _⟩
  · obtain ⟨go, cc', e⟩ := own_form HH.out.own (by omega)
    cases e
    obtain ⟨k, hk⟩ : ∃ k, n = k + 30 := ⟨n - 30, by omega⟩
    have hlen := HH.out.len
    obtain ⟨⟨p, x0⟩, hRk⟩ : ∃ a, L[k]? = some a := ⟨L[k]'(by omega), List.getElem?_eq_getElem (by omega)⟩
    obtain ⟨_, hx0⟩ := HK.out _ (List.mem_of_getElem? hRk)
    simp only at hx0
    have hcap := own_cap HH.out.own
    have hcapm := own_capm HH.out.own
    have hgo : go ≠ g := fun e => HH.out.ne (by rw [e]; rfl)
    have HRk := hide hRk
    have HLn := hide hlen
    clear hRk hlen
    subst hk
    have e1 : ((k + 30 : Nat) : Int) - 30 = (k : Int) := by omega
    go_enter Try.func48, Try.ntmps48
    go_wp2
    go_quiet (fail)
    go_wp2
    simp only [Nat.add_sub_cancel_left]
    go_loopw [40] (fun i wr => ∃ j : Nat, j ≤ k ∧ i = .int .i64 j ∧ Gat wr B g (.slice (some ⟨go, 0, none⟩) (k + 30) cc) (k + 30) (L.set k (p, foldW x0 (L.take j))) ∧ Below B w wr) (fun i wr => k - (RowKit.intOf i).toNat)
    case atStart => exact ⟨0, Nat.zero_le _, rfl, by rw [show foldW x0 (L.take 0) = x0 from rfl, set_same HRk.out]; exact HH.out.past (bel_drews (Below.refl _ _) _), (bel_drews (Below.refl _ _) _)⟩
    case round =>
      obtain ⟨j, hj, rfl, hG, hbel⟩ := hrel
      obtain ⟨x, hx⟩ : ∃ x, foldW x0 (L.take j) = x := ⟨_, rfl⟩
      rw [hx] at hG
      have hux : U64 x := by rw [← hx]; exact foldW_in hx0 (fun y hy => HK.out y (List.mem_of_mem_take hy))
      have HX := hide hx
      have HG := hide hG
      have HB := hide hbel
      have HLen := HLn.out
      have hkL : k < L.length := by omega
      obtain ⟨kc0, kc1⟩ := bin_cells hG.own hG.len (k := k) (x := (p, x)) (by simp [hkL])
      have kf0 := hG.own.frozenAt (k * 2)
      have kf1 := hG.own.frozenAt (k * 2 + 1)
      have cG7 := hG.cells.2
      have cv7 := hG.cells.1
      have hf7 := hG.frozen 0
      have HLe2 := hide HLen
      clear hx hG hbel HLen
      by_cases hjk : j < k
      · obtain ⟨⟨b, y⟩, hRj⟩ : ∃ a, L[j]? = some a := ⟨L[j]'(by omega), List.getElem?_eq_getElem (by omega)⟩
        obtain ⟨_, hy⟩ := HK.out _ (List.mem_of_getElem? hRj)
        simp only at hy
        obtain ⟨jc0, jc1⟩ := bin_cells HG.out.own HG.out.len (k := j) (x := (b, y)) (by rw [List.getElem?_set_ne (by omega)]; exact hRj)
        have HW : Hid (wAdd x y = foldW x0 (L.take (j + 1))) := by
          refine (?_ : wAdd x y = foldW x0 (L.take (j + 1)))
          rw [foldW_take hRj, HX.out]
        have hT : ∀ o, Below wr.heap.size wr (wr.alloc o) := fun o => (Below.refl _ _).alloc (Nat.le_refl _) o
        have hS : ∀ W t, Below (wr.heap.size + 1) (wr.alloc (.cells #[.int .i64 b, .int .u64 y] t)) W → (fun W => BinCell W wr.heap.size b y ∧ GatC W g ∧ W.cell? ⟨go, k * 2, none⟩ = some (.int .i64 p) ∧ W.cell? ⟨go, k * 2 + 1, none⟩ = some (.int .u64 x) ∧ W.frozen? ⟨go, k * 2, none⟩ = false ∧ W.frozen? ⟨go, k * 2 + 1, none⟩ = false) W := fun W t hW => by
          have hW' : Below wr.heap.size wr W := (hT _).trans (hW.mono (by omega))
          have hn := bc_new wr t b y
          exact ⟨⟨by rw [hW.cell (by exact Nat.lt_succ_self _)]; exact hn.1, by rw [hW.cell (by exact Nat.lt_succ_self _)]; exact hn.2⟩, gat_past cG7 hW', cell_past hW' kc0, cell_past hW' kc1, by rw [frozen_past hW' kc0]; exact kf0, by rw [frozen_past hW' kc1]; exact kf1⟩
        have HS := hide hS
        have HT := hide hT
        clear hRj hT hS kc0 kc1 kf0 kf1 cv7 hf7
        go_wp2_with fail
        have HS0 := HS.out _ 50 ((Below.refl _ _).drew)
        refine regionK (fun W => BinCell W wr.heap.size b y ∧ GatC W g ∧ W.cell? ⟨go, k * 2, none⟩ = some (.int .i64 p) ∧ W.cell? ⟨go, k * 2 + 1, none⟩ = some (.int .u64 x) ∧ W.frozen? ⟨go, k * 2, none⟩ = false ∧ W.frozen? ⟨go, k * 2 + 1, none⟩ = false) 11 (by kernel_rfl) ?_
        refine takeK (i := 0) (d := 44) (v := .slice (some ⟨go, k * 2, none⟩) 30 30) rfl rfl (by kernel_rfl) (by kernel_rfl) (by kernel_rfl) (by decide) (by kernel_rfl) (fun _ _ _ h => h) (Or.inl ⟨by rfl, fun W hW => ?_⟩) HS0 ?_
        · obtain ⟨⟨x0, x1⟩, ⟨x2, x3⟩, x4, x5, x6, x7⟩ := hW
          go_simp
        simp only [List.setIfInBounds_toArray, List.set_cons_zero, List.set_cons_succ]
        refine takeK (i := 1) (d := 45) (v := .pointer (some ⟨g, 0, none⟩)) rfl rfl (by kernel_rfl) (by kernel_rfl) (by kernel_rfl) (by decide) (by kernel_rfl) (fun _ _ _ h => h) (Or.inl ⟨by rfl, fun W hW => ?_⟩) HS0 ?_
        · obtain ⟨⟨x0, x1⟩, ⟨x2, x3⟩, x4, x5, x6, x7⟩ := hW
          go_simp
        simp only [List.setIfInBounds_toArray, List.set_cons_zero, List.set_cons_succ]
        refine takeK (i := 2) (d := 46) (v := .pointer (some ⟨g, 0, none⟩)) rfl rfl (by kernel_rfl) (by kernel_rfl) (by kernel_rfl) (by decide) (by kernel_rfl) (fun _ _ _ h => h) (Or.inl ⟨by rfl, fun W hW => ?_⟩) HS0 ?_
        · obtain ⟨⟨x0, x1⟩, ⟨x2, x3⟩, x4, x5, x6, x7⟩ := hW
          go_simp
        simp only [List.setIfInBounds_toArray, List.set_cons_zero, List.set_cons_succ]
        refine takeK (i := 3) (d := 47) (v := .pointer (some ⟨g, 2, none⟩)) rfl rfl (by kernel_rfl) (by kernel_rfl) (by kernel_rfl) (by decide) (by kernel_rfl) (fun _ _ _ h => h) (Or.inl ⟨by rfl, fun W hW => ?_⟩) HS0 ?_
        · obtain ⟨⟨x0, x1⟩, ⟨x2, x3⟩, x4, x5, x6, x7⟩ := hW
          go_simp
        simp only [List.setIfInBounds_toArray, List.set_cons_zero, List.set_cons_succ]
        refine takeK (i := 4) (d := 48) (v := fnJo) rfl rfl (by kernel_rfl) (by kernel_rfl) (by kernel_rfl) (by decide) (by kernel_rfl) (fun _ _ _ h => h) (Or.inl ⟨by rfl, fun W hW => ?_⟩) HS0 ?_
        · obtain ⟨⟨x0, x1⟩, ⟨x2, x3⟩, x4, x5, x6, x7⟩ := hW
          go_simp
        simp only [List.setIfInBounds_toArray, List.set_cons_zero, List.set_cons_succ]
        refine takeK (i := 5) (d := 49) (v := .slice (some ⟨go, k * 2, none⟩) 30 30) rfl rfl (by kernel_rfl) (by kernel_rfl) (by kernel_rfl) (by decide) (by kernel_rfl) (fun _ _ _ h => h) (Or.inl ⟨by rfl, fun W hW => ?_⟩) HS0 ?_
        · obtain ⟨⟨x0, x1⟩, ⟨x2, x3⟩, x4, x5, x6, x7⟩ := hW
          go_simp
        simp only [List.setIfInBounds_toArray, List.set_cons_zero, List.set_cons_succ]
        refine takeK (i := 6) (d := 50) (v := .pointer (some ⟨go, k * 2, none⟩)) rfl rfl (by kernel_rfl) (by kernel_rfl) (by kernel_rfl) (by decide) (by kernel_rfl) (fun _ _ _ h => h) (Or.inl ⟨by rfl, fun W hW => ?_⟩) HS0 ?_
        · obtain ⟨⟨x0, x1⟩, ⟨x2, x3⟩, x4, x5, x6, x7⟩ := hW
          go_simp
        simp only [List.setIfInBounds_toArray, List.set_cons_zero, List.set_cons_succ]
        refine takeK (i := 7) (d := 51) (v := .agg #[.int .i64 p, .int .u64 x]) rfl rfl (by kernel_rfl) (by kernel_rfl) (by kernel_rfl) (by decide) (by kernel_rfl) (fun _ _ _ h => h) (Or.inl ⟨by rfl, fun W hW => ?_⟩) HS0 ?_
        · obtain ⟨⟨x0, x1⟩, ⟨x2, x3⟩, x4, x5, x6, x7⟩ := hW
          go_simp
        simp only [List.setIfInBounds_toArray, List.set_cons_zero, List.set_cons_succ]
        refine takeK (i := 8) (d := 52) (v := .agg #[.int .i64 b, .int .u64 y]) rfl rfl (by kernel_rfl) (by kernel_rfl) (by kernel_rfl) (by decide) (by kernel_rfl) (fun _ _ _ h => h) (Or.inl ⟨by rfl, fun W hW => ?_⟩) HS0 ?_
        · obtain ⟨⟨x0, x1⟩, ⟨x2, x3⟩, x4, x5, x6, x7⟩ := hW
          go_simp
        simp only [List.setIfInBounds_toArray, List.set_cons_zero, List.set_cons_succ]
        refine oneK (i := 9) (by kernel_rfl) rfl (fun K hK => ?_)
        go_simp
        refine (c_join _ _ _ _ hux hy _).mono ?_
        rintro e w8 ⟨rfl, hb8⟩
        dsimp only
        have hb9 : Below (wr.heap.size + 1) (wr.alloc (.cells #[.int .i64 b, .int .u64 y] 50)) w8 := ((Below.refl _ _).drew).trans (hb8.mono (by simp))
        have HS8 := hide (HS.out _ 50 hb9)
        have HB8 := hide ((HT.out _).trans (hb9.mono (by omega)))
        clear hb8 hb9
        refine hK.out _ _ (fun _ => HS8.out) ?_
        clear hK K
        try simp only [Act.put, List.setIfInBounds_toArray, List.set_cons_zero, List.set_cons_succ]
        refine oneK (i := 10) (by kernel_rfl) rfl (fun K hK => ?_)
        go_simp
        refine hK.out _ _ (fun _ => HS8.out) ?_
        clear hK K
        try simp only [Act.put, List.setIfInBounds_toArray, List.set_cons_zero, List.set_cons_succ]
        obtain ⟨_, _, x4, x5, x6, x7⟩ := HS8.out
        have H8 := HG.out.past HB8.out
        have fin : Gat ((w8.setCell ⟨go, k * 2, none⟩ (.int .i64 p)).setCell ⟨go, k * 2 + 1, none⟩ (.int .u64 (wAdd x y))) B g (.slice (some ⟨go, 0, none⟩) (k + 30) cc) (k + 30) (L.set k (p, foldW x0 (L.take (j + 1)))) ∧ Below B w ((w8.setCell ⟨go, k * 2, none⟩ (.int .i64 p)).setCell ⟨go, k * 2 + 1, none⟩ (.int .u64 (wAdd x y))) := by
          refine ⟨⟨?_, ?_, by rw [List.length_set]; exact HLe2.out, H8.hB⟩, ?_⟩
          · rw [heap_setCell_other _ _ _ _ (by simpa using hgo.symm), heap_setCell_other _ _ _ _ (by simpa using hgo.symm)]; exact H8.blk
          · have := (((H8.own.stored (k * 2) (.int .i64 p)).1).stored (k * 2 + 1) (.int .u64 (wAdd x y))).1
            rw [← HW.out]
            rwa [fl_set encB2 _ k (p, wAdd x y) (by rw [List.length_set]; exact hkL) rfl, List.set_set] at this
          · have hBg := (own_lt H8.own).1
            have hBs : B ≤ wr.heap.size := by have := H8.hB; have := HG.out.lt; omega
            exact ((HB.out.trans (HB8.out.mono hBs)).setCell hBg _).setCell hBg _
        have FIN := hide fin
        clear fin H8
        refine oneK (i := 11) (by kernel_rfl) rfl (fun K hK => ?_)
        go_simp
        refine hK.out _ _ (fun h => absurd rfl h) ?_
        clear hK K
        try simp only [Act.put, List.setIfInBounds_toArray, List.set_cons_zero, List.set_cons_succ]
        refine doneK (by kernel_rfl) ?_ _
        go_wp2
        go_roundw
        case rel => exact ⟨j + 1, by omega, by go_num, FIN.out.1, FIN.out.2⟩
        case measure => simp [RowKit.intOf]; omega
      · have ejk : j = k := by omega
        have hLL := HLe2.out
        have fin : (wr.setCell ⟨g, 0, none⟩ (.slice (some ⟨go, k * 2, none⟩) 30 30)).heap[g]? = some (.cells #[.slice (some ⟨go, k * 2, none⟩) 30 30, fnPl, fnJo] 67 (0, 0)) ∧ OwnB (wr.setCell ⟨g, 0, none⟩ (.slice (some ⟨go, k * 2, none⟩) 30 30)) B (.slice (some ⟨go, k * 2, none⟩) 30 30) 30 (keepL L) ∧ Below B w (wr.setCell ⟨g, 0, none⟩ (.slice (some ⟨go, k * 2, none⟩) 30 30)) := by
          refine ⟨heap_setCell_same wr g 0 _ _ _ HG.out.blk, ?_, HB.out.setCell HG.out.hB _⟩
          have ek : keepL L = (L.set k (p, x)).drop k := by
            unfold keepL
            rw [if_neg (by omega), show L.length - 30 = k by omega, List.drop_eq_getElem_cons hkL]
            have hd : (L.set k (p, x)).drop k = (p, x) :: L.drop (k + 1) := by
              rw [List.drop_eq_getElem_cons (by rw [List.length_set]; exact hkL)]
              rw [show (L.set k (p, x)).drop (k + 1) = L.drop (k + 1) from List.ext_getElem? fun q => by rw [List.getElem?_drop, List.getElem?_drop, List.getElem?_set_ne (by omega)]]
              simp
            rw [hd]
            have := (List.getElem?_eq_some_iff.1 HRk.out).2
            rw [this, ← HX.out, ejk]
          rcases HG.out.own.2 with ⟨e, _⟩ | ⟨g', cap, cur, e, h1, h2, h3, h4, h5, h6⟩
          · cases e
          cases e
          refine ⟨by rw [ek, List.length_drop, List.length_set]; omega, .inr ⟨go, k * 2, 30, cur, rfl, h1, ?_, fun q v hq => ?_, Nat.le_refl _, by unfold maxLen; omega, by omega⟩⟩
          · rw [heap_setCell_other _ _ _ _ (by simpa using hgo)]; exact h2
          · rw [ek, fl_drop encB2, List.getElem?_drop, ← h6, List.getElem?_take] at hq
            split at hq
            · rwa [Array.getElem?_toList] at hq
            · cases hq
        have FIN := hide fin
        clear fin hLL ejk kc0 kc1 kf0 kf1
        go_wp2
        exact bodyPost_end (v := .tuple #[]) (by simp [results, Try.results48, go_sem]) rfl ⟨_, _, _, rfl, FIN.out.1, FIN.out.2.1, FIN.out.2.2⟩
end Go.Proofs.Ytimocbbaplghoaa
