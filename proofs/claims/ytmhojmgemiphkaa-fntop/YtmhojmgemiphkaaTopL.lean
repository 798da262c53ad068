/-
  Contract of the model's TopPut.
-/
import Derived.Test.YtmhojmgemiphkaaPlaceS
import Derived.Test.YtmhojmgemiphkaaTopJ
import Derived.Test.YtmhojmgemiphkaaTopK
namespace Go.Proofs.Ytmhojmgemiphkaa
set_option linter.unusedVariables false
set_option linter.unusedSimpArgs false
open Go.ChangeShapes Go.WideShapes Go.ChangeAt Go.RowKit Go.PlainAid
set_option maxRecDepth 10000

theorem c_s_l01IsT (n lo hi : Int) (w : World) (hn : I64 n) :
    Calls Try.prog 22 #[.int .i64 n, .int .i64 lo, .int .i64 hi] w fun e w' => e = .returned (.bool (decide (lo ≤ n) && decide (n ≤ hi))) ∧ w' = w := by
  by_cases h : lo ≤ n
  · have d1 : decide (lo ≤ n) = true := decide_eq_true h
    go_enter Try.func22, Try.ntmps22
    go_wp2
    go_ret
    exact ⟨ret_bt (by rw [d1, Bool.true_and]), rfl⟩
  · have d1 : decide (lo ≤ n) = false := decide_eq_false h
    go_enter Try.func22, Try.ntmps22
    go_wp2
    go_ret
    exact ⟨rfl, rfl⟩
theorem has_len {p : ByteArray} {u : Int} : ∀ {L : List Hv}, RiseH L → hasH L p = true → (hvAdd L (p, u)).length = L.length
  | [], _, h => by simp [hasH] at h
  | y :: r, hr, h => by
    obtain ⟨h1, h2⟩ := riseH_cons.1 hr
    unfold hvAdd
    by_cases hy : strLt y.1 p = true
    · rw [if_pos hy]
      have : hasH r p = true := by
        unfold hasH at h ⊢
        rw [List.any_cons] at h
        have hne : decide (y.1 = p) = false := decide_eq_false (fun e => by rw [e, strLt_irr] at hy; cases hy)
        rw [hne, Bool.false_or] at h
        exact h
      rw [List.length_cons, has_len h2 this, List.length_cons]
    · rw [if_neg hy]
      by_cases he : y.1 = p
      · rw [if_pos he]; simp
      · exfalso
        have hpy : strLt p y.1 = true := by
          rcases strLt_tot (by simpa using hy) with h | h
          · exact h
          · exact absurd h he
        unfold hasH at h
        rw [List.any_eq_true] at h
        obtain ⟨x, hx, hxp⟩ := h
        have hxp : x.1 = p := by simpa using hxp
        rcases List.mem_cons.1 hx with rfl | hx
        · exact he hxp
        · have := strLt_trans hpy (h1 x hx)
          rw [hxp, strLt_irr] at this; cases this
theorem has_not {L : List Hv} {p : ByteArray} (h : hasH L p = false) : ∀ x ∈ L, x.1 ≠ p := fun x hx e => by
  have : hasH L p = true := by unfold hasH; rw [List.any_eq_true]; exact ⟨x, hx, by simp [e]⟩
  rw [this] at h; cases h
theorem new_mem {x : Hv} : ∀ {L : List Hv}, (∀ y ∈ L, y.1 ≠ x.1) → (∀ z, z ∈ hvAdd L x ↔ z = x ∨ z ∈ L) ∧ (hvAdd L x).length = L.length + 1
  | [], _ => by simp [hvAdd]
  | y :: r, h => by
    have ih := new_mem (L := r) (fun z hz => h z (List.mem_cons_of_mem _ hz))
    have hne := h y (List.mem_cons_self ..)
    unfold hvAdd
    split
    · refine ⟨fun z => ?_, by rw [List.length_cons, ih.2, List.length_cons]⟩
      rw [List.mem_cons, ih.1, List.mem_cons]
      constructor
      · rintro (h | h | h)
        · exact .inr (.inl h)
        · exact .inl h
        · exact .inr (.inr h)
      · rintro (h | h | h)
        · exact .inr (.inl h)
        · exact .inl h
        · exact .inr (.inr h)
    · exact ⟨fun z => List.mem_cons, rfl⟩
/-- The least of six stands at the place 5. -/
theorem place_min {A : List Hv} {d : Int} (h6 : A.length = 6) (hall : ∀ x ∈ A, d ≤ x.2) (hex : ∃ x ∈ A, x.2 = d) : PlaceV (cntsH A) d := by
  have hl : (cntsH A).length = 6 := by simp [cntsH, h6]
  refine ⟨?_, ?_⟩
  · have : (cntsH A).countP (fun x => decide (d < x)) ≠ (cntsH A).length := fun e => by
      rw [List.countP_eq_length] at e
      obtain ⟨x, hx, hd⟩ := hex
      have := e x.2 (List.mem_map.2 ⟨x, hx, rfl⟩)
      simp [hd] at this
    have h2 := countP_le_len (fun x => decide (d < x)) (cntsH A)
    omega
  · have : (cntsH A).countP (fun x => decide (d ≤ x)) = (cntsH A).length := by
      rw [List.countP_eq_length]
      intro x hx
      obtain ⟨y, hy, rfl⟩ := List.mem_map.1 hx
      simpa using hall y hy
    omega
/-- The least of a number and the counts. -/
def minH : Int → List Hv → Int
  | d, [] => d
  | d, x :: r => minH (if d < x.2 then d else x.2) r
theorem minH_le : ∀ (d : Int) (L : List Hv), minH d L ≤ d ∧ ∀ x ∈ L, minH d L ≤ x.2
  | d, [] => ⟨Int.le_refl _, fun x hx => absurd hx List.not_mem_nil⟩
  | d, x :: r => by
    have ih := minH_le (if d < x.2 then d else x.2) r
    have h1 : (if d < x.2 then d else x.2) ≤ d ∧ (if d < x.2 then d else x.2) ≤ x.2 := by split <;> omega
    refine ⟨by unfold minH; omega, fun y hy => ?_⟩
    unfold minH
    rcases List.mem_cons.1 hy with rfl | hy
    · omega
    · exact ih.2 y hy
theorem minH_is : ∀ (d : Int) (L : List Hv), minH d L = d ∨ ∃ x ∈ L, x.2 = minH d L
  | d, [] => .inl rfl
  | d, x :: r => by
    unfold minH
    rcases minH_is (if d < x.2 then d else x.2) r with h | ⟨y, hy, h⟩
    · rw [h]
      split
      · exact .inl rfl
      · exact .inr ⟨x, List.mem_cons_self .., rfl⟩
    · exact .inr ⟨y, List.mem_cons_of_mem _ hy, h⟩
theorem min_debt {P : List Hv} {key : ByteArray} {wt : Int} (h5 : P.length = 5) (hn : hasH P key = false) : DebtV (hvAdd P (key, wt)) (minH wt P) := by
  obtain ⟨hm, hl⟩ := new_mem (x := (key, wt)) (has_not hn)
  have hle := minH_le wt P
  have hall : ∀ x ∈ hvAdd P (key, wt), minH wt P ≤ x.2 := fun x hx => by
    rcases (hm x).1 hx with rfl | h
    · exact hle.1
    · exact hle.2 x h
  have hex : ∃ x ∈ hvAdd P (key, wt), x.2 = minH wt P := by
    rcases minH_is wt P with h | ⟨x, hx, h⟩
    · exact ⟨(key, wt), (hm _).2 (.inl rfl), h.symm⟩
    · exact ⟨x, (hm _).2 (.inr hx), h⟩
  exact .inr ⟨by omega, place_min (by omega) hall hex, hex⟩

theorem min_drop {L : List Hv} {k : Nat} {x : Hv} (h : L[k]? = some x) (d : Int) : minH d (L.drop k) = minH (if d < x.2 then d else x.2) (L.drop (k + 1)) := by
  have hk := (List.getElem?_eq_some_iff.1 h).1
  rw [List.drop_eq_getElem_cons hk, (List.getElem?_eq_some_iff.1 h).2]; rfl

/-- What the walk knows of the boxes: the argument's, the answer's, and out. -/
structure OB (w : World) (b0 : Value) (da ta : Int) (ob : Nat) (W : World) (p : Value) (D T : Int) : Prop where
  bel : Below w.heap.size w W
  arg : W.heap[w.heap.size]? = some (.cells #[b0, .int .i64 da, .int .i64 ta] 28 (0, 0))
  res : W.heap[w.heap.size + 1]? = some (.cells zeroTp 28 (0, 0))
  out : W.heap[ob]? = some (.cells #[p, .int .i64 D, .int .i64 T] 28 (0, 0))
  ge : w.heap.size + 1 < ob
theorem OB.past {w W W' : World} {b0 p : Value} {da ta D T : Int} {ob : Nat} (h : OB w b0 da ta ob W p D T) (hb : Below W.heap.size W W') : OB w b0 da ta ob W' p D T :=
  ⟨chain h.bel hb, by rw [hb.block _ (Array.getElem?_eq_some_iff.1 h.arg).1]; exact h.arg, by rw [hb.block _ (Array.getElem?_eq_some_iff.1 h.res).1]; exact h.res, by rw [hb.block _ (Array.getElem?_eq_some_iff.1 h.out).1]; exact h.out, h.ge⟩
theorem OB.set0 {w W : World} {b0 p : Value} {da ta D T : Int} {ob : Nat} (h : OB w b0 da ta ob W p D T) (q : Value) : OB w b0 da ta ob (W.setCell ⟨ob, 0, none⟩ q) q D T :=
  ⟨h.bel.setCell (by have := h.ge; show w.heap.size ≤ ob; omega) _, by rw [heap_setCell_other _ _ _ _ (by have := h.ge; simp; omega)]; exact h.arg, by rw [heap_setCell_other _ _ _ _ (by have := h.ge; simp; omega)]; exact h.res, heap_setCell_same W ob 0 _ _ q h.out, h.ge⟩
theorem OB.set1 {w W : World} {b0 p : Value} {da ta D T : Int} {ob : Nat} (h : OB w b0 da ta ob W p D T) (D' : Int) : OB w b0 da ta ob (W.setCell ⟨ob, 1, none⟩ (.int .i64 D')) p D' T :=
  ⟨h.bel.setCell (by have := h.ge; show w.heap.size ≤ ob; omega) _, by rw [heap_setCell_other _ _ _ _ (by have := h.ge; simp; omega)]; exact h.arg, by rw [heap_setCell_other _ _ _ _ (by have := h.ge; simp; omega)]; exact h.res, heap_setCell_same W ob 1 _ _ _ h.out, h.ge⟩
theorem OB.set2 {w W : World} {b0 p : Value} {da ta D T : Int} {ob : Nat} (h : OB w b0 da ta ob W p D T) (T' : Int) : OB w b0 da ta ob (W.setCell ⟨ob, 2, none⟩ (.int .i64 T')) p D T' :=
  ⟨h.bel.setCell (by have := h.ge; show w.heap.size ≤ ob; omega) _, by rw [heap_setCell_other _ _ _ _ (by have := h.ge; simp; omega)]; exact h.arg, by rw [heap_setCell_other _ _ _ _ (by have := h.ge; simp; omega)]; exact h.res, heap_setCell_same W ob 2 _ _ _ h.out, h.ge⟩
theorem OB.cells {w W : World} {b0 p : Value} {da ta D T : Int} {ob : Nat} (h : OB w b0 da ta ob W p D T) : (TpCell W w.heap.size b0 da ta ∧ TpCell W ob p D T ∧ TpCell W (w.heap.size + 1) (.slice none 0 0) 0 0) ∧ (∀ j, W.frozen? ⟨ob, j, none⟩ = false) ∧ ∀ j, W.frozen? ⟨w.heap.size + 1, j, none⟩ = false :=
  ⟨⟨cell3 h.arg, cell3 h.out, cell3 h.res⟩, fun j => frozen_of_row W ob j _ _ h.out, fun j => frozen_of_row W (w.heap.size + 1) j _ _ h.res⟩
/-- Laid into the answer. -/
theorem OB.answer {w W : World} {b0 p q : Value} {da ta D T D' T' : Int} {ob : Nat} {L : List Hv} (h : OB w b0 da ta ob W p D T) (ho : OwnH W w.heap.size q L) : TopOut (tp3 W (w.heap.size + 1) q D' T') w.heap.size (.agg #[q, .int .i64 D', .int .i64 T']) L D' T' ∧ Below w.heap.size w (tp3 W (w.heap.size + 1) q D' T') :=
  tp_store h.bel h.res (by omega) ho
theorem OB.ne {w W : World} {b0 p q : Value} {da ta D T : Int} {ob : Nat} {L : List Hv} {B : Nat} (h : OB w b0 da ta ob W p D T) (ho : OwnH W B q L) : q.ownBlock ≠ some ob := ho.ne h.out (by decide)

set_option maxHeartbeats 8000000 in
theorem c_s_TopPut {w : World} {da ta wt : Int} {pa : Option Addr} {pn pc : Nat} {P : List Hv} {key : ByteArray} (hkz : key.size ≤ 1048576) (hp : P.length = pn) (lp : pn ≤ 1048576) (hcap : pn ≤ pc) (hcm : pc ≤ maxLen) (hP : HvsAt w pa P) (cA : pa = none → pc = 0) (kP : ∀ x ∈ P, HvOk x) (ha : I64 da) (hta : I64 ta) (hwt : I64 wt) :
    Calls Try.prog 7 #[.agg #[.slice pa pn pc, .int .i64 da, .int .i64 ta], .string key, .int .i64 wt] w fun e w' => ∃ v, e = .returned v ∧ Below w.heap.size w w' ∧ ((tpOk P da ta key wt ∧ ∃ d, DebtV (hvAdd P (key, wt)) d ∧ TopOut w' w.heap.size v (lessH (hvAdd P (key, wt)) d) (da + d) (ta + wt)) ∨ (¬ tpOk P da ta key wt ∧ TopOut w' w.heap.size v P da ta)) := by
  have HP := hide hP
  have EP := hide hp
  have KP := hide kP
  have HA := hide ha
  have HTA := hide hta
  have HWT := hide hwt
  have CA := hide cA
  have HCM := hide hcm
  unfold I64 at hwt
  clear hP hp kP ha hta cA hcm
  go_enter Try.func7, Try.ntmps7
  go_wp2_with fail
  generalize hW0 : (w.alloc (Obj.cells #[.slice pa pn pc, .int .i64 da, .int .i64 ta] 28)).alloc (Obj.cells zeroTp 28) = W0
  have T0 : Below w.heap.size w W0 := by rw [← hW0]; exact ((Below.refl _ _).alloc (Nat.le_refl _) _).alloc (by simp) _
  have K0 : TpCell W0 w.heap.size (.slice pa pn pc) da ta := by rw [← hW0]; exact tp_past (tp_new w _ _ _ _) ((Below.refl _ _).alloc (Nat.le_refl _) _)
  have R0 : W0.heap[w.heap.size + 1]? = some (.cells zeroTp 28 (0, 0)) := by rw [← hW0]; simpa using heap_alloc_new (w.alloc (Obj.cells #[.slice pa pn pc, .int .i64 da, .int .i64 ta] 28)) (Obj.cells zeroTp 28)
  have hsz0 : W0.heap.size = w.heap.size + 2 := by rw [← hW0]; simp
  have A0 : W0.heap[w.heap.size]? = some (.cells #[.slice pa pn pc, .int .i64 da, .int .i64 ta] 28 (0, 0)) := by
    rw [← hW0]
    have hb : Below (w.heap.size + 1) (w.alloc (Obj.cells #[.slice pa pn pc, .int .i64 da, .int .i64 ta] 28)) ((w.alloc (Obj.cells #[.slice pa pn pc, .int .i64 da, .int .i64 ta] 28)).alloc (Obj.cells zeroTp 28)) := (Below.refl _ _).alloc (by simp) _
    rw [hb.block _ (by omega)]
    exact heap_alloc_new w _
  clear hW0
  have HT0 := hide T0
  clear T0
  refine (c_s_l05Copy EP.out lp (hvs_past HP.out HT0.out) CA.out).mono ?_
  rintro e w1 ⟨v1, rfl, hq, hb1⟩
  obtain ⟨p1, rfl, ho1⟩ := hq
  obtain ⟨ao1, c1, rfl⟩ := ho1.any
  rw [EP.out] at ho1
  rw [EP.out]
  have HT1 := hide (chain HT0.out hb1)
  have hC : ∀ W, Below w1.heap.size w1 W → TpCell W w.heap.size (.slice pa pn pc) da ta ∧ W.heap[w.heap.size + 1]? = some (.cells zeroTp 28 (0, 0)) ∧ OwnH W w.heap.size (.slice ao1 pn c1) P := fun W hW => ⟨tp_past (tp_past K0 hb1) hW, by rw [hW.block _ (by have := hb1.size; omega), hb1.block _ (by omega)]; exact R0, (ho1.le (by omega)).past hW⟩
  have HC := hide hC
  have hCarg : ∀ W, Below w1.heap.size w1 W → W.heap[w.heap.size]? = some (.cells #[.slice pa pn pc, .int .i64 da, .int .i64 ta] 28 (0, 0)) := fun W hW => by rw [hW.block _ (by have := hb1.size; omega), hb1.block _ (by omega)]; exact A0
  have HCarg := hide hCarg
  have hs1 := hb1.size
  clear hb1 K0 R0 hC ho1 A0 hCarg
  obtain ⟨x0, x1, x2⟩ := (HC.out _ (Below.refl _ _)).1
  have hHD : ∀ W, Below (w1.alloc (Obj.cells #[.slice ao1 pn c1, .int .i64 da, .int .i64 ta] 28)).heap.size (w1.alloc (Obj.cells #[.slice ao1 pn c1, .int .i64 da, .int .i64 ta] 28)) W → TpCell W w.heap.size (.slice pa pn pc) da ta ∧ W.heap[w.heap.size + 1]? = some (.cells zeroTp 28 (0, 0)) ∧ OwnH W w.heap.size (.slice ao1 pn c1) P ∧ W.heap[w1.heap.size]? = some (.cells #[.slice ao1 pn c1, .int .i64 da, .int .i64 ta] 28 (0, 0)) := fun W hW => by
    have hA : Below w1.heap.size w1 (w1.alloc (Obj.cells #[.slice ao1 pn c1, .int .i64 da, .int .i64 ta] 28)) := (Below.refl _ _).alloc (Nat.le_refl _) _
    obtain ⟨c1, c2, c3⟩ := HC.out W (chain hA hW)
    exact ⟨c1, c2, c3, by rw [hW.block _ (by simp)]; exact heap_alloc_new w1 _⟩
  have HTW : Hid (Below w.heap.size w (w1.alloc (Obj.cells #[.slice ao1 pn c1, .int .i64 da, .int .i64 ta] 28))) := (HT1.out.alloc HT1.out.size _ : _)
  have HD := hide hHD
  have hArg : ∀ W, Below (w1.alloc (Obj.cells #[.slice ao1 pn c1, .int .i64 da, .int .i64 ta] 28)).heap.size (w1.alloc (Obj.cells #[.slice ao1 pn c1, .int .i64 da, .int .i64 ta] 28)) W → W.heap[w.heap.size]? = some (.cells #[.slice pa pn pc, .int .i64 da, .int .i64 ta] 28 (0, 0)) := fun W hW => by
    have hA : Below w1.heap.size w1 (w1.alloc (Obj.cells #[.slice ao1 pn c1, .int .i64 da, .int .i64 ta] 28)) := (Below.refl _ _).alloc (Nat.le_refl _) _
    exact HCarg.out W (chain hA hW)
  have HDarg := hide hArg
  clear hHD hArg
  by_cases h20 : 20000 < key.size
  · have HNo : Hid (¬ tpOk P da ta key wt) := fun h => by have h2 := h.2.1; unfold keyB at h2; simp at h2; omega
    have hlt1 : w.heap.size + 1 < w1.heap.size := by omega
    have R := (HC.out _ (Below.refl _ _)).2.1
    obtain ⟨q0, q1', q2'⟩ := cell3 R
    have f0 := frozen_of_row w1 (w.heap.size + 1) 0 _ _ R
    have f1 := frozen_of_row w1 (w.heap.size + 1) 1 _ _ R
    have f2 := frozen_of_row w1 (w.heap.size + 1) 2 _ _ R
    have hF := tp_store (D := da) (T := ta) HT1.out R (by omega) (HC.out _ (Below.refl _ _)).2.2
    have hal : ∀ o, Below (tp3 w1 (w.heap.size + 1) (.slice ao1 pn c1) da ta).heap.size (tp3 w1 (w.heap.size + 1) (.slice ao1 pn c1) da ta) ((tp3 w1 (w.heap.size + 1) (.slice ao1 pn c1) da ta).alloc o) := fun o => (Below.refl _ _).alloc (Nat.le_refl _) o
    have hrow : ∀ o, ((tp3 w1 (w.heap.size + 1) (.slice ao1 pn c1) da ta).alloc o).heap[w.heap.size + 1]? = some (.cells #[.slice ao1 pn c1, .int .i64 da, .int .i64 ta] 28 (0, 0)) := fun o => by
      have h3 := row3 (v0 := .slice ao1 pn c1) (v1 := .int .i64 da) (v2 := .int .i64 ta) R
      rw [(hal o).block _ (Array.getElem?_eq_some_iff.1 h3).1]
      exact h3
    obtain ⟨k0, k1, k2⟩ := cell3 (hrow (Obj.cells #[.slice ao1 pn c1, .int .i64 da, .int .i64 ta] 28))
    have HF : Hid (∀ o, TopOut ((tp3 w1 (w.heap.size + 1) (.slice ao1 pn c1) da ta).alloc o) w.heap.size (.agg #[.slice ao1 pn c1, .int .i64 da, .int .i64 ta]) P da ta ∧ Below w.heap.size w ((tp3 w1 (w.heap.size + 1) (.slice ao1 pn c1) da ta).alloc o)) := (fun o => ⟨hF.1.past (hal o), hF.2.alloc hF.2.size o⟩ : _)
    clear R hF hrow hal
    go_wp2
    refine bodyPost_ret (v := .agg #[.slice ao1 pn c1, .int .i64 da, .int .i64 ta]) (by simp [results, Try.results7, go_sem, k0, k1, k2]) rfl ⟨_, rfl, (HF.out _).2, .inr ⟨HNo.out, (HF.out _).1⟩⟩
  · have hlt0 : w.heap.size < w1.heap.size := by omega
    go_wp2_with fail
    generalize hW1 : w1.alloc (Obj.cells #[.slice ao1 pn c1, .int .i64 da, .int .i64 ta] 28) = W1
    have hob : W1.heap.size = w1.heap.size + 1 := by rw [← hW1]; simp
    rw [hW1] at HD HTW HDarg
    clear hW1 HC HCarg x0 x1 x2
    refine (c_s_TopRight _ _ EP.out lp (hvs_past HP.out HTW.out) KP.out HA.out HTA.out).mono ?_
    rintro e w2 ⟨rfl, hb2⟩
    have HB2 := hide hb2
    have hs2 := hb2.size
    clear hb2
    obtain ⟨x0, x1, x2⟩ := (HD.out _ HB2.out).1
    cases hs : topB P da ta with
    | false =>
      have HNo : Hid (¬ tpOk P da ta key wt) := fun h => by rw [h.1] at hs; cases hs
      clear hs
      have R := (HD.out _ HB2.out).2.1
      obtain ⟨q0, q1', q2'⟩ := cell3 R
      have f0 := frozen_of_row w2 (w.heap.size + 1) 0 _ _ R
      have f1 := frozen_of_row w2 (w.heap.size + 1) 1 _ _ R
      have f2 := frozen_of_row w2 (w.heap.size + 1) 2 _ _ R
      obtain ⟨z0, z1, z2⟩ := cell3 (HD.out _ HB2.out).2.2.2
      have HF := hide (tp_store (D := da) (T := ta) (chain HTW.out HB2.out) R (by omega) (HD.out _ HB2.out).2.2.1)
      clear R
      go_wp2
      refine bodyPost_ret (v := .agg #[.slice ao1 pn c1, .int .i64 da, .int .i64 ta]) (by simp [results, Try.results7, go_sem, q0, q1', q2']) rfl ⟨_, rfl, HF.out.2, .inr ⟨HNo.out, HF.out.1⟩⟩
    | true =>
      have HSa := hide hs
      have na := top_nums hs
      clear hs
      have hcs : keyB key = false ∨ (keyB key = true ∧ (decide (1 ≤ wt) && decide (wt ≤ 1000000)) = false) ∨ (keyB key = true ∧ (decide (1 ≤ wt) && decide (wt ≤ 1000000)) = true ∧ 1000000000000000 < ta + wt) ∨ (keyB key = true ∧ (decide (1 ≤ wt) && decide (wt ≤ 1000000)) = true ∧ ¬ 1000000000000000 < ta + wt) := by
        cases keyB key <;> cases (decide (1 ≤ wt) && decide (wt ≤ 1000000)) <;> simp <;> omega
      rcases hcs with q1 | ⟨q1, q2⟩ | ⟨q1, q2, q3⟩ | ⟨q1, q2, q3⟩
      · have HNo : Hid (¬ tpOk P da ta key wt) := fun h => by rw [h.2.1] at q1; cases q1
        have R := (HD.out _ HB2.out).2.1
        obtain ⟨q0, q1', q2'⟩ := cell3 R
        have f0 := frozen_of_row w2 (w.heap.size + 1) 0 _ _ R
        have f1 := frozen_of_row w2 (w.heap.size + 1) 1 _ _ R
        have f2 := frozen_of_row w2 (w.heap.size + 1) 2 _ _ R
        obtain ⟨z0, z1, z2⟩ := cell3 (HD.out _ HB2.out).2.2.2
        have HF := hide (tp_store (D := da) (T := ta) (chain HTW.out HB2.out) R (by omega) (HD.out _ HB2.out).2.2.1)
        clear R
        go_wp2_with (go_at_call 21; refine (c_s_l05Key _ _ hkz).mono ?_; rintro e w3 ⟨rfl, hw⟩; obtain rfl := hw.symm; rw [q1])
        refine bodyPost_ret (v := .agg #[.slice ao1 pn c1, .int .i64 da, .int .i64 ta]) (by simp [results, Try.results7, go_sem, q0, q1', q2']) rfl ⟨_, rfl, HF.out.2, .inr ⟨HNo.out, HF.out.1⟩⟩
      · have HNo : Hid (¬ tpOk P da ta key wt) := fun h => by
          have h1 := decide_eq_true h.2.2.1
          have h2 := decide_eq_true h.2.2.2.1
          rw [h1, h2] at q2; cases q2
        have R := (HD.out _ HB2.out).2.1
        obtain ⟨q0, q1', q2'⟩ := cell3 R
        have f0 := frozen_of_row w2 (w.heap.size + 1) 0 _ _ R
        have f1 := frozen_of_row w2 (w.heap.size + 1) 1 _ _ R
        have f2 := frozen_of_row w2 (w.heap.size + 1) 2 _ _ R
        obtain ⟨z0, z1, z2⟩ := cell3 (HD.out _ HB2.out).2.2.2
        have HF := hide (tp_store (D := da) (T := ta) (chain HTW.out HB2.out) R (by omega) (HD.out _ HB2.out).2.2.1)
        clear R
        go_wp2_with (first | (go_at_call 21; refine (c_s_l05Key _ _ hkz).mono ?_; rintro e w3 ⟨rfl, hw⟩; obtain rfl := hw.symm; rw [q1]) | (go_at_call 22; refine (c_s_l01IsT _ _ _ _ HWT.out).mono ?_; rintro e w3 ⟨rfl, hw⟩; obtain rfl := hw.symm; rw [q2]))
        refine bodyPost_ret (v := .agg #[.slice ao1 pn c1, .int .i64 da, .int .i64 ta]) (by simp [results, Try.results7, go_sem, q0, q1', q2']) rfl ⟨_, rfl, HF.out.2, .inr ⟨HNo.out, HF.out.1⟩⟩
      · have HNo : Hid (¬ tpOk P da ta key wt) := fun h => absurd h.2.2.2.2 (by omega)
        have hw12 : 1 ≤ wt ∧ wt ≤ 1000000 := by simpa using q2
        have d4 : decide (1000000000000000 < ta + wt) = true := decide_eq_true q3
        have hw1 : IntKind.i64.wrap (ta + wt) = ta + wt := IntWalk.i64_in _ ⟨by omega, by omega⟩
        have R := (HD.out _ HB2.out).2.1
        obtain ⟨q0, q1', q2'⟩ := cell3 R
        have f0 := frozen_of_row w2 (w.heap.size + 1) 0 _ _ R
        have f1 := frozen_of_row w2 (w.heap.size + 1) 1 _ _ R
        have f2 := frozen_of_row w2 (w.heap.size + 1) 2 _ _ R
        obtain ⟨z0, z1, z2⟩ := cell3 (HD.out _ HB2.out).2.2.2
        have HF := hide (tp_store (D := da) (T := ta) (chain HTW.out HB2.out) R (by omega) (HD.out _ HB2.out).2.2.1)
        clear R
        go_wp2_with (first | (go_at_call 21; refine (c_s_l05Key _ _ hkz).mono ?_; rintro e w3 ⟨rfl, hw⟩; obtain rfl := hw.symm; rw [q1]) | (go_at_call 22; refine (c_s_l01IsT _ _ _ _ HWT.out).mono ?_; rintro e w3 ⟨rfl, hw⟩; obtain rfl := hw.symm; rw [q2]))
        refine bodyPost_ret (v := .agg #[.slice ao1 pn c1, .int .i64 da, .int .i64 ta]) (by simp [results, Try.results7, go_sem, q0, q1', q2']) rfl ⟨_, rfl, HF.out.2, .inr ⟨HNo.out, HF.out.1⟩⟩
      · have hw12 : 1 ≤ wt ∧ wt ≤ 1000000 := by simpa using q2
        have HYes : Hid (tpOk P da ta key wt) := (⟨HSa.out, q1, hw12.1, hw12.2, by omega⟩ : tpOk P da ta key wt)
        have d4 : decide (1000000000000000 < ta + wt) = false := decide_eq_false q3
        have hw1 : IntKind.i64.wrap (ta + wt) = ta + wt := IntWalk.i64_in _ ⟨by omega, by omega⟩
        have hpn : pn ≤ 5 := by have := (top_rise HSa.out).2; have := EP.out; omega
        have hOB2 : OB w (.slice pa pn pc) da ta w1.heap.size w2 (.slice ao1 pn c1) da ta := ⟨chain HTW.out HB2.out, by
          have h := HDarg.out _ HB2.out
          exact h, (HD.out _ HB2.out).2.1, (HD.out _ HB2.out).2.2.2, by omega⟩
        have HB5 := hide (hOB2.set2 (ta + wt))
        obtain ⟨⟨⟨x0, x1, x2⟩, ⟨z0, z1, z2⟩, _⟩, hfo, _⟩ := hOB2.cells
        have g2 := hfo 2
        have g0 := hfo 0
        have g1 := hfo 1
        clear hfo hOB2
        have hHP2 : HvsAt (w2.setCell ⟨w1.heap.size, 2, none⟩ (.int .i64 (ta + wt))) pa P := hvs_past HP.out HB5.out.bel
        have HHP2 := hide hHP2
        have hne0 : ¬ (w1.heap.size = w.heap.size) := by omega
        clear hHP2
        have hcnt : ∀ x ∈ hvAdd P (key, wt), 1 ≤ x.2 := fun x hx => by
          rcases add_mem hx with rfl | h | ⟨y, hy, _, rfl⟩
          · exact hw12.1
          · exact (top_cnt HSa.out x h).1
          · have := (top_cnt HSa.out y hy).1; show 1 ≤ y.2 + wt; omega
        have HZ : Hid (lessH (hvAdd P (key, wt)) 0 = hvAdd P (key, wt)) := (less_zero hcnt : lessH (hvAdd P (key, wt)) 0 = hvAdd P (key, wt))
        clear hcnt
        cases hhas : hasH P key with
        | true =>
          have HD0 : Hid (DebtV (hvAdd P (key, wt)) 0) := (.inl ⟨by rw [has_len (top_rise HSa.out).1 hhas]; have := EP.out; omega, rfl⟩ : DebtV (hvAdd P (key, wt)) 0)
          go_wp2_with (first | (go_at_call 21; refine (c_s_l05Key _ _ hkz).mono ?_; rintro e w3 ⟨rfl, hw⟩; obtain rfl := hw.symm; rw [q1]) | (go_at_call 22; refine (c_s_l01IsT _ _ _ _ HWT.out).mono ?_; rintro e w3 ⟨rfl, hw⟩; obtain rfl := hw.symm; rw [q2]) | (go_at_call 23; refine (c_s_l05Has _ EP.out lp HHP2.out).mono ?_; rintro e w3 ⟨rfl, hw⟩; obtain rfl := hw.symm; rw [hhas]))
          generalize hW5 : w2.setCell ⟨w1.heap.size, 2, none⟩ (.int .i64 (ta + wt)) = W5
          rw [hW5] at HB5 HHP2
          clear hW5 z0 z1 z2 g0 g1 g2 x0 x1 x2
          refine (c_s_l05Add _ _ EP.out (by omega) hcap HCM.out CA.out (fun x hx => by have := top_cnt HSa.out x hx; unfold I64; omega) HHP2.out).mono ?_
          rintro e w6 ⟨v6, rfl, ho6, hb6⟩
          have HB6 := hide (HB5.out.past hb6)
          have HO6 := hide (ho6.le (B' := w.heap.size) HB5.out.bel.size)
          obtain ⟨ao6, c6, rfl⟩ := ho6.any
          obtain ⟨n6, hn6⟩ : ∃ n6, (hvAdd P (key, wt)).length = n6 := ⟨_, rfl⟩
          rw [hn6] at HO6
          rw [hn6]
          clear hn6 ho6 hb6
          obtain ⟨⟨⟨x0, x1, x2⟩, ⟨z0, z1, z2⟩, ⟨q0, q1', q2'⟩⟩, hfo, hfr⟩ := HB6.out.cells
          have g0 := hfo 0
          have f0 := hfr 0
          have f1 := hfr 1
          have f2 := hfr 2
          have HF := hide ((HB6.out.set0 (.slice ao6 n6 c6)).answer (D' := da) (T' := ta + wt) (HO6.out.set (HB6.out.ne HO6.out) _))
          have hge := HB6.out.ge
          clear hfo hfr
          go_wp2
          refine bodyPost_ret (v := .agg #[.slice ao6 n6 c6, .int .i64 da, .int .i64 (ta + wt)]) (by simp [results, Try.results7, go_sem, q0, q1', q2']) rfl ⟨_, rfl, HF.out.2, .inl ⟨HYes.out, 0, HD0.out, ?_⟩⟩
          rw [HZ.out, Int.add_zero]
          exact HF.out.1
        | false =>
          by_cases h5 : pn < 5
          · have HD0 : Hid (DebtV (hvAdd P (key, wt)) 0) := (.inl ⟨by have := (add_len (key, wt) P).2; have := EP.out; omega, rfl⟩ : DebtV (hvAdd P (key, wt)) 0)
            go_wp2_with (first | (go_at_call 21; refine (c_s_l05Key _ _ hkz).mono ?_; rintro e w3 ⟨rfl, hw⟩; obtain rfl := hw.symm; rw [q1]) | (go_at_call 22; refine (c_s_l01IsT _ _ _ _ HWT.out).mono ?_; rintro e w3 ⟨rfl, hw⟩; obtain rfl := hw.symm; rw [q2]) | (go_at_call 23; refine (c_s_l05Has _ EP.out lp HHP2.out).mono ?_; rintro e w3 ⟨rfl, hw⟩; obtain rfl := hw.symm; rw [hhas]))
            generalize hW5 : w2.setCell ⟨w1.heap.size, 2, none⟩ (.int .i64 (ta + wt)) = W5
            rw [hW5] at HB5 HHP2
            clear hW5 z0 z1 z2 g0 g1 g2 x0 x1 x2
            refine (c_s_l05Add _ _ EP.out (by omega) hcap HCM.out CA.out (fun x hx => by have := top_cnt HSa.out x hx; unfold I64; omega) HHP2.out).mono ?_
            rintro e w6 ⟨v6, rfl, ho6, hb6⟩
            have HB6 := hide (HB5.out.past hb6)
            have HO6 := hide (ho6.le (B' := w.heap.size) HB5.out.bel.size)
            obtain ⟨ao6, c6, rfl⟩ := ho6.any
            obtain ⟨n6, hn6⟩ : ∃ n6, (hvAdd P (key, wt)).length = n6 := ⟨_, rfl⟩
            rw [hn6] at HO6
            rw [hn6]
            clear hn6 ho6 hb6
            obtain ⟨⟨⟨x0, x1, x2⟩, ⟨z0, z1, z2⟩, ⟨q0, q1', q2'⟩⟩, hfo, hfr⟩ := HB6.out.cells
            have g0 := hfo 0
            have f0 := hfr 0
            have f1 := hfr 1
            have f2 := hfr 2
            have HF := hide ((HB6.out.set0 (.slice ao6 n6 c6)).answer (D' := da) (T' := ta + wt) (HO6.out.set (HB6.out.ne HO6.out) _))
            have hge := HB6.out.ge
            clear hfo hfr
            go_wp2
            refine bodyPost_ret (v := .agg #[.slice ao6 n6 c6, .int .i64 da, .int .i64 (ta + wt)]) (by simp [results, Try.results7, go_sem, q0, q1', q2']) rfl ⟨_, rfl, HF.out.2, .inl ⟨HYes.out, 0, HD0.out, ?_⟩⟩
            rw [HZ.out, Int.add_zero]
            exact HF.out.1
          · have HDm : Hid (DebtV (hvAdd P (key, wt)) (minH wt P)) := (min_debt (by have := EP.out; omega) hhas : DebtV (hvAdd P (key, wt)) (minH wt P))
            have HNew : Hid (∀ y ∈ P, y.1 ≠ key) := (has_not hhas : ∀ y ∈ P, y.1 ≠ key)
            go_wp2_with (first | (go_at_call 21; refine (c_s_l05Key _ _ hkz).mono ?_; rintro e w3 ⟨rfl, hw⟩; obtain rfl := hw.symm; rw [q1]) | (go_at_call 22; refine (c_s_l01IsT _ _ _ _ HWT.out).mono ?_; rintro e w3 ⟨rfl, hw⟩; obtain rfl := hw.symm; rw [q2]) | (go_at_call 23; refine (c_s_l05Has _ EP.out lp HHP2.out).mono ?_; rintro e w3 ⟨rfl, hw⟩; obtain rfl := hw.symm; rw [hhas]))
            generalize hW5 : w2.setCell ⟨w1.heap.size, 2, none⟩ (.int .i64 (ta + wt)) = W5
            rw [hW5] at HB5 HHP2
            clear hW5 z0 z1 z2 g0 g1 g2 x0 x1 x2
            obtain ⟨⟨⟨x0, x1, x2⟩, ⟨z0, z1, z2⟩, _⟩, hfo, _⟩ := HB5.out.cells
            have g0 := hfo 0
            have g1 := hfo 1
            clear hfo
            go_loop [8, 9] (fun dv iv => ∃ (k : Nat) (dk : Int), k ≤ pn ∧ iv = .int .i64 k ∧ dv = .int .i64 dk ∧ 1 ≤ dk ∧ dk ≤ 1000000 ∧ Hid (minH wt P = minH dk (P.drop k))) (fun dv iv => pn - (intOf iv).toNat)
            case atStart => exact ⟨0, wt, Nat.zero_le _, rfl, rfl, by omega, by omega, (rfl : minH wt P = minH wt (P.drop 0))⟩
            case round =>
              obtain ⟨k, dk, hk, rfl, rfl, hd1, hd2, HR⟩ := hrel
              by_cases hkn : k < pn
              · obtain ⟨⟨u, x⟩, hRk⟩ : ∃ a, P[k]? = some a := ⟨P[k]'(by have := EP.out; omega), List.getElem?_eq_getElem _⟩
                have hx1 := (top_cnt HSa.out _ (List.mem_of_getElem? hRk)).1
                obtain ⟨b, off, rfl, hcell⟩ := HHP2.out (by have := EP.out; omega)
                have hc0 := (hcell k _ hRk).1
                have hc1 := (hcell k _ hRk).2
                have HE : Hid (minH wt P = minH (if dk < x then dk else x) (P.drop (k + 1))) := (by rw [HR.out, min_drop hRk] : minH wt P = minH (if dk < x then dk else x) (P.drop (k + 1)))
                have hd3 : 1 ≤ (if dk < x then dk else x) ∧ (if dk < x then dk else x) ≤ 1000000 := by
                  simp only at hx1
                  split <;> omega
                simp only at hc0 hc1
                clear hcell hRk hx1
                obtain ⟨dn, hdn⟩ : ∃ dn, (if dk < x then dk else x) = dn := ⟨_, rfl⟩
                rw [hdn] at HE hd3
                go_wp2_with (go_at_call 25; refine (c_s_l01Min _ _ _).mono ?_; rintro e w3 ⟨rfl, hw⟩; obtain rfl := hw.symm; rw [hdn])
                go_round
                case rel => exact ⟨k + 1, dn, by omega, by go_num, rfl, hd3.1, hd3.2, HE⟩
                case measure => simp [intOf]; omega
              · have hdm : dk = minH wt P := by rw [HR.out, List.drop_eq_nil_of_le (by have := EP.out; omega)]; rfl
                have HDk : Hid (DebtV (hvAdd P (key, wt)) dk) := (by rw [hdm]; exact HDm.out : DebtV (hvAdd P (key, wt)) dk)
                have HLA := hide (less_add (x := (key, wt)) (d := dk) (top_rise HSa.out).1 HNew.out)
                clear hdm HR HDm
                have hw4 : IntKind.i64.wrap (da + dk) = da + dk := IntWalk.i64_in _ ⟨by omega, by omega⟩
                go_wp2_with fail
                generalize hW6 : W5.setCell ⟨w1.heap.size, 1, none⟩ (.int .i64 (da + dk)) = W6
                have HB6 := hide (HB5.out.set1 (da + dk))
                rw [hW6] at HB6
                clear hW6 x0 x1 x2 z0 z1 z2 g0 g1
                refine (c_s_l05Less dk (by omega) (by omega) (fun x hx => by have := top_cnt HSa.out x hx; omega) EP.out (by omega) (hvs_past HP.out HB6.out.bel)).mono ?_
                rintro e w7 ⟨v7, rfl, ho7, hb7⟩
                have HB7 := hide (HB6.out.past hb7)
                have HO7 := hide (ho7.le (B' := w.heap.size) HB6.out.bel.size)
                obtain ⟨ao7, c7, rfl⟩ := ho7.any
                have hcap7 := HO7.out.cap
                obtain ⟨n7, hn7⟩ : ∃ n7, (lessH P dk).length = n7 := ⟨_, rfl⟩
                have hl7 : n7 ≤ 5 := by
                  have : (lessH P dk).length ≤ P.length := List.length_filterMap_le _ _
                  have := EP.out
                  omega
                rw [hn7] at HO7 hcap7
                rw [hn7]
                have HN7 := hide hn7
                have HCap := hide hcap7
                clear hn7 ho7 hb7 hcap7
                obtain ⟨⟨⟨x0, x1, x2⟩, ⟨z0, z1, z2⟩, ⟨q0, q1', q2'⟩⟩, hfo, hfr⟩ := HB7.out.cells
                have g0 := hfo 0
                have f0 := hfr 0
                have f1 := hfr 1
                have f2 := hfr 2
                have hge := HB7.out.ge
                clear hfo hfr
                by_cases hgt : dk < wt
                · have hww : IntKind.i64.wrap (wt - dk) = wt - dk := IntWalk.i64_in _ ⟨by omega, by omega⟩
                  go_wp2_with fail
                  generalize hW8 : w7.setCell ⟨w1.heap.size, 0, none⟩ (.slice ao7 n7 c7) = W8
                  have HB8 := hide (HB7.out.set0 (.slice ao7 n7 c7))
                  have HO8 := hide (HO7.out.set (HB7.out.ne HO7.out) (a := ⟨w1.heap.size, 0, none⟩) (.slice ao7 n7 c7))
                  rw [hW8] at HB8 HO8
                  clear hW8 x0 x1 x2 z0 z1 z2 q0 q1' q2' g0 f0 f1 f2
                  refine (c_s_l05Add _ _ HN7.out (by omega) HCap.out.2.1 HCap.out.2.2.1 HCap.out.2.2.2 (fun x hx => by
                    obtain ⟨y, hy, rfl, _⟩ := less_mem hx
                    have := top_cnt HSa.out y hy
                    unfold I64
                    show -9223372036854775808 ≤ y.2 - dk + (wt - dk) ∧ y.2 - dk + (wt - dk) ≤ 9223372036854775807
                    omega) HO8.out.at).mono ?_
                  rintro e w9 ⟨v9, rfl, ho9, hb9⟩
                  have HB9 := hide (HB8.out.past hb9)
                  have HO9 := hide (ho9.le (B' := w.heap.size) HB8.out.bel.size)
                  obtain ⟨ao9, c9, rfl⟩ := ho9.any
                  obtain ⟨n9, hn9⟩ : ∃ n9, (hvAdd (lessH P dk) (key, wt - dk)).length = n9 := ⟨_, rfl⟩
                  rw [hn9] at HO9
                  rw [hn9]
                  clear hn9 ho9 hb9
                  obtain ⟨⟨⟨x0, x1, x2⟩, ⟨z0, z1, z2⟩, ⟨q0, q1', q2'⟩⟩, hfo, hfr⟩ := HB9.out.cells
                  have g0 := hfo 0
                  have f0 := hfr 0
                  have f1 := hfr 1
                  have f2 := hfr 2
                  have HF := hide ((HB9.out.set0 (.slice ao9 n9 c9)).answer (D' := da + dk) (T' := ta + wt) (HO9.out.set (HB9.out.ne HO9.out) _))
                  have HE : Hid (lessH (hvAdd P (key, wt)) dk = hvAdd (lessH P dk) (key, wt - dk)) := (by rw [HLA.out, if_pos hgt] : lessH (hvAdd P (key, wt)) dk = hvAdd (lessH P dk) (key, wt - dk))
                  clear hfo hfr
                  go_wp2
                  refine bodyPost_ret (v := .agg #[.slice ao9 n9 c9, .int .i64 (da + dk), .int .i64 (ta + wt)]) (by simp [results, Try.results7, go_sem, q0, q1', q2']) rfl ⟨_, rfl, HF.out.2, .inl ⟨HYes.out, dk, HDk.out, ?_⟩⟩
                  rw [HE.out]
                  exact HF.out.1
                · have HF := hide ((HB7.out.set0 (.slice ao7 n7 c7)).answer (D' := da + dk) (T' := ta + wt) (HO7.out.set (HB7.out.ne HO7.out) _))
                  have HE : Hid (lessH (hvAdd P (key, wt)) dk = lessH P dk) := (by rw [HLA.out, if_neg hgt] : lessH (hvAdd P (key, wt)) dk = lessH P dk)
                  go_wp2
                  refine bodyPost_ret (v := .agg #[.slice ao7 n7 c7, .int .i64 (da + dk), .int .i64 (ta + wt)]) (by simp [results, Try.results7, go_sem, q0, q1', q2']) rfl ⟨_, rfl, HF.out.2, .inl ⟨HYes.out, dk, HDk.out, ?_⟩⟩
                  rw [HE.out]
                  exact HF.out.1
end Go.Proofs.Ytmhojmgemiphkaa
