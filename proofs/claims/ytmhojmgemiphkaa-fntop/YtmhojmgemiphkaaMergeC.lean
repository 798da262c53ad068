/-
  Two right Tops brought together, as the program does.
-/
import Derived.Test.YtmhojmgemiphkaaLessC
import Derived.Test.YtmhojmgemiphkaaTopN
import Derived.Lib.OwnKind
namespace Go.Proofs.Ytmhojmgemiphkaa
set_option linter.unusedVariables false
set_option linter.unusedSimpArgs false
open Go.ChangeShapes Go.WideShapes Go.ChangeAt Go.RowKit Go.PlainAid
set_option maxRecDepth 10000

/-- The debt that comes of so many. -/
def DebtV (A : List Hv) (d : Int) : Prop := (A.length ≤ 5 ∧ d = 0) ∨ (6 ≤ A.length ∧ PlaceV (cntsH A) d ∧ ∃ x ∈ A, x.2 = d)
theorem debt_one {A : List Hv} {d d' : Int} (h : DebtV A d) (h' : DebtV A d') : d = d' := by
  rcases h with ⟨h1, h2⟩ | ⟨h1, h2, _⟩ <;> rcases h' with ⟨k1, k2⟩ | ⟨k1, k2, _⟩
  · omega
  · omega
  · omega
  · exact place_one h2 k2
/-- A Top that is one's own. -/
def TopOut (w : World) (B : Nat) (v : Value) (L : List Hv) (d t : Int) : Prop := ∃ p, v = .agg #[p, .int .i64 d, .int .i64 t] ∧ OwnH w B p L
theorem TopOut.past {w w' : World} {B : Nat} {v : Value} {L : List Hv} {d t : Int} (k : TopOut w B v L d t) (hb : Below w.heap.size w w') : TopOut w' B v L d t := by
  obtain ⟨p, e, h⟩ := k
  exact ⟨p, e, h.past hb⟩
theorem TopOut.le {w : World} {B B' : Nat} {v : Value} {L : List Hv} {d t : Int} (k : TopOut w B v L d t) (hb : B' ≤ B) : TopOut w B' v L d t := by
  obtain ⟨p, e, h⟩ := k
  exact ⟨p, e, h.le hb⟩

theorem c_debtOf {w : World} {n c : Nat} {ao : Option Addr} {L : List Hv} (hn : L.length = n) (hl : n ≤ 12) (hA : HvsAt w ao L) :
    Calls Try.prog 46 #[.int .i64 n, .func (.func 47) #[.slice ao n c] #[]] w fun e w' => ∃ d, e = .returned (.int .i64 d) ∧ DebtV L d ∧ Below w.heap.size w w' := by
  have HA := hide hA
  have HN := hide hn
  clear hA hn
  by_cases h : n ≤ 5
  · have HD : Hid (DebtV L 0) := (.inl ⟨by have := HN.out; omega, rfl⟩ : DebtV L 0)
    go_enter Try.func46, Try.ntmps46
    go_wp2
    go_ret
    exact ⟨0, rfl, HD.out, Below.refl _ _⟩
  · go_enter Try.func46, Try.ntmps46
    go_wp2_with fail
    refine (c_least HN.out (by omega) hl HA.out).mono ?_
    rintro e w1 ⟨v, rfl, h1, h2, hb⟩
    have HF : Hid (DebtV L v ∧ Below w.heap.size w w1) := (⟨.inr ⟨by have := HN.out; omega, h1, h2⟩, hb⟩ : DebtV L v ∧ Below w.heap.size w w1)
    clear h1 h2 hb
    go_wp2
    go_ret
    exact ⟨v, rfl, HF.out.1, HF.out.2⟩

/-- A Top laid into the row of an answer. -/
abbrev tp3 (w : World) (r : Nat) (p : Value) (D T : Int) : World := ((w.setCell ⟨r, 0, none⟩ p).setCell ⟨r, 1, none⟩ (.int .i64 D)).setCell ⟨r, 2, none⟩ (.int .i64 T)
abbrev zeroTp : Array Value := #[.slice none 0 0, .int .i64 0, .int .i64 0]
theorem cell3 {w : World} {r : Nat} {T : TypeId} {u0 u1 u2 : Value} (h : w.heap[r]? = some (.cells #[u0, u1, u2] T (0, 0))) :
    w.cell? ⟨r, 0, none⟩ = some u0 ∧ w.cell? ⟨r, 1, none⟩ = some u1 ∧ w.cell? ⟨r, 2, none⟩ = some u2 :=
  ⟨by rw [cell_of_row w r 0 _ _ (0, 0) h]; rfl, by rw [cell_of_row w r 1 _ _ (0, 0) h]; rfl, by rw [cell_of_row w r 2 _ _ (0, 0) h]; rfl⟩
theorem OwnH.ne {w : World} {B : Nat} {v : Value} {L : List Hv} (h : OwnH w B v L) {r : Nat} {cs : Array Value} {T : TypeId} {fz : Nat × Nat} (hr : w.heap[r]? = some (.cells cs T fz)) (hT : T ≠ 52) : v.ownBlock ≠ some r := fun e => by
  obtain ⟨c, fz', hc⟩ := Lib.ownsRow_kind h r e
  rw [hr] at hc
  cases hc
  exact hT rfl
theorem OwnH.set {w : World} {B : Nat} {v : Value} {L : List Hv} (h : OwnH w B v L) {a : Addr} (hne : v.ownBlock ≠ some a.block) (u : Value) : OwnH (w.setCell a u) B v L := ownsRow_setCell_other h hne u
theorem tp_store {w w2 : World} {r : Nat} {D T : Int} {p : Value} {P : List Hv} (hT : Below w.heap.size w w2) (hr : w2.heap[r]? = some (.cells zeroTp 28 (0, 0))) (hwr : w.heap.size ≤ r) (hp : OwnH w2 w.heap.size p P) :
    TopOut (tp3 w2 r p D T) w.heap.size (.agg #[p, .int .i64 D, .int .i64 T]) P D T ∧ Below w.heap.size w (tp3 w2 r p D T) := by
  have q1 := hp.ne hr (by decide)
  refine ⟨⟨p, rfl, ((hp.set q1 _).set q1 _).set q1 _⟩, ?_⟩
  repeat (refine Below.setCell ?_ hwr _)
  exact hT

set_option maxHeartbeats 4000000 in
theorem c_merge {w : World} {da ta db tb : Int} {pa pb : Option Addr} {pn pc pm pd : Nat} {P M : List Hv} (hp : P.length = pn) (hm : M.length = pm) (lp : pn ≤ 5) (lm : pm ≤ 5) (hP : HvsAt w pa P) (hM : HvsAt w pb M) (rP : RiseH P) (kP : ∀ x ∈ P, 1 ≤ x.2 ∧ x.2 ≤ 1000000000000000) (kM : ∀ x ∈ M, 1 ≤ x.2 ∧ x.2 ≤ 1000000000000000)
    (ha : 0 ≤ da ∧ da ≤ 1000000000000000) (hb : 0 ≤ db ∧ db ≤ 1000000000000000) (hta : 0 ≤ ta ∧ ta ≤ 1000000000000000) (htb : 0 ≤ tb ∧ tb ≤ 1000000000000000) :
    Calls Try.prog 31 #[.agg #[.slice pa pn pc, .int .i64 da, .int .i64 ta], .agg #[.slice pb pm pd, .int .i64 db, .int .i64 tb]] w fun e w' => ∃ v d, e = .returned v ∧ DebtV (addAll P M) d ∧ TopOut w' w.heap.size v (lessH (addAll P M) d) (da + db + d) (ta + tb) ∧ Below w.heap.size w w' := by
  have HP := hide hP
  have HM := hide hM
  have EP := hide hp
  have EM := hide hm
  have RP := hide rP
  have KP := hide kP
  have KM := hide kM
  clear hP hM hp hm rP kP kM
  go_enter Try.func31, Try.ntmps31
  go_wp2_with fail
  generalize hW0 : ((w.alloc (Obj.cells #[.slice pa pn pc, .int .i64 da, .int .i64 ta] 28)).alloc (Obj.cells #[.slice pb pm pd, .int .i64 db, .int .i64 tb] 28)).alloc (Obj.cells zeroTp 28) = W0
  have T0 : Below w.heap.size w W0 := by rw [← hW0]; exact (((Below.refl _ _).alloc (Nat.le_refl _) _).alloc (by simp) _).alloc (by simp; omega) _
  have K0 : TpCell W0 w.heap.size (.slice pa pn pc) da ta := by rw [← hW0]; exact tp_past (tp_new w _ _ _ _) (((Below.refl _ _).alloc (Nat.le_refl _) _).alloc (by simp) _)
  have J0 : TpCell W0 (w.heap.size + 1) (.slice pb pm pd) db tb := by
    rw [← hW0]
    have := tp_new (w.alloc (Obj.cells #[.slice pa pn pc, .int .i64 da, .int .i64 ta] 28)) 28 (.slice pb pm pd) db tb
    exact tp_past (by simpa using this) ((Below.refl _ _).alloc (Nat.le_refl _) _)
  have R0 : W0.heap[w.heap.size + 1 + 1]? = some (.cells zeroTp 28 (0, 0)) := by rw [← hW0]; simpa using heap_alloc_new ((w.alloc (Obj.cells #[.slice pa pn pc, .int .i64 da, .int .i64 ta] 28)).alloc (Obj.cells #[.slice pb pm pd, .int .i64 db, .int .i64 tb] 28)) (Obj.cells zeroTp 28)
  have hsz0 : W0.heap.size = w.heap.size + 3 := by rw [← hW0]; simp
  clear hW0
  have HT0 := hide T0
  have hC : ∀ W, Below W0.heap.size W0 W → TpCell W w.heap.size (.slice pa pn pc) da ta ∧ TpCell W (w.heap.size + 1) (.slice pb pm pd) db tb ∧ W.heap[w.heap.size + 1 + 1]? = some (.cells zeroTp 28 (0, 0)) := fun W hW => ⟨tp_past K0 hW, tp_past J0 hW, by rw [hW.block _ (by omega)]; exact R0⟩
  have HC := hide hC
  clear T0 hC K0 J0 R0
  refine (c_CloneH _ _ EP.out (by omega) (hvs_past HP.out HT0.out)).mono ?_
  rintro e w1 ⟨v1, rfl, ho1, hb1⟩
  have HO1 := hide ho1
  have HB1 := hide hb1
  obtain ⟨ao1, c1, rfl⟩ := ho1.any
  obtain ⟨⟨x0, x1, x2⟩, ⟨y0, y1, y2⟩, _⟩ := HC.out _ hb1
  clear ho1 hb1
  go_wp2
  go_loopw [5, 15] (fun sv i wr => Below W0.heap.size W0 wr ∧ ∃ k : Nat, k ≤ pm ∧ i = .int .i64 k ∧ (∃ ao' n' c', sv = .slice ao' n' c' ∧ n' ≤ 5 + k) ∧ Hid (OwnH wr W0.heap.size sv (addAll P (M.take k)) ∧ RiseH (addAll P (M.take k)) ∧ ∀ x ∈ addAll P (M.take k), 1 ≤ x.2 ∧ x.2 ≤ 1000000000000000 * (k + 1))) (fun sv i wr => pm - (intOf i).toNat)
  case atStart => exact ⟨HB1.out, 0, Nat.zero_le _, rfl, ⟨_, _, _, rfl, by have := EP.out; omega⟩, (⟨HO1.out, RP.out, fun x hx => by have := KP.out x hx; omega⟩ : OwnH w1 W0.heap.size _ (addAll P (M.take 0)) ∧ RiseH (addAll P (M.take 0)) ∧ ∀ x ∈ addAll P (M.take 0), 1 ≤ x.2 ∧ x.2 ≤ 1000000000000000 * (((0 : Nat) : Int) + 1))⟩
  case round =>
    obtain ⟨hbel, k, hk, rfl, ⟨ao', n', c', rfl, hn'⟩, HK⟩ := hrel
    have HB := hide hbel
    clear x0 x1 x2 y0 y1 y2
    obtain ⟨⟨x0, x1, x2⟩, ⟨y0, y1, y2⟩, hR⟩ := HC.out _ hbel
    have hz := hbel.size
    have hnn : n' = (addAll P (M.take k)).length := by obtain ⟨a1, c2, e⟩ := HK.out.1.any; cases e; rfl
    have HNN := hide hnn
    clear hnn
    by_cases hkn : k < pm
    · obtain ⟨⟨u, x⟩, hRk⟩ : ∃ a, M[k]? = some a := ⟨M[k]'(by have := EM.out; omega), List.getElem?_eq_getElem _⟩
      have hxk := KM.out _ (List.mem_of_getElem? hRk)
      obtain ⟨b, off, rfl, hcell⟩ := HM.out (by have := EM.out; omega)
      have hbw := chain HT0.out hbel
      have hc0 := cell_past hbw (hcell k _ hRk).1
      have hc1 := cell_past hbw (hcell k _ hRk).2
      have HE : Hid (addAll P (M.take (k + 1)) = hvAdd (addAll P (M.take k)) (u, x)) := (by rw [List.take_add_one, hRk]; simp [addAll] : addAll P (M.take (k + 1)) = hvAdd (addAll P (M.take k)) (u, x))
      simp only at hxk
      clear hbel hcell hRk hbw hR
      have HO2 : Hid (∀ o, (wr.alloc o).ownsRow W0.heap.size 52 2 (.slice ao' n' c') n' (fl encH (addAll P (M.take k)))) := (fun o => by have := HK.out.1.past ((Below.refl _ _).alloc (Nat.le_refl _) o); unfold OwnH at this; rw [← HNN.out] at this; exact this : ∀ o, (wr.alloc o).ownsRow W0.heap.size 52 2 (.slice ao' n' c') n' (fl encH (addAll P (M.take k))))
      have HB2 : Hid (∀ o, Below W0.heap.size W0 (wr.alloc o)) := (fun o => HB.out.alloc hz o : ∀ o, Below W0.heap.size W0 (wr.alloc o))
      go_wp2_with (go_at_call 45; refine (c_add _ _ HK.out.2.1 (fun z hz => by have := HK.out.2.2 z hz; unfold I64; omega) (by omega) HNN.out (HO2.out _) (by simp; omega)).mono ?_; rintro e w2 ⟨v2, rfl, ho2, hb2⟩; obtain ⟨ao2, c2, rfl⟩ := own_any ho2; have O2 := hide ho2; have B2 := hide ((HB2.out _).trans hb2); clear ho2 hb2)
      go_roundw
      case rel =>
        have hlen := (add_len (u, x) (addAll P (M.take k))).2
        refine ⟨B2.out, k + 1, by omega, by go_num, ⟨_, _, _, rfl, by have := HNN.out; omega⟩, (?_ : OwnH w2 W0.heap.size _ (addAll P (M.take (k + 1))) ∧ RiseH (addAll P (M.take (k + 1))) ∧ ∀ x ∈ addAll P (M.take (k + 1)), 1 ≤ x.2 ∧ x.2 ≤ 1000000000000000 * (((k + 1 : Nat) : Int) + 1))⟩
        rw [HE.out]
        refine ⟨O2.out, add_rise HK.out.2.1, fun z hz => ?_⟩
        rcases add_mem hz with rfl | h | ⟨y, hy, _, rfl⟩
        · show 1 ≤ x ∧ x ≤ _; omega
        · have := HK.out.2.2 z h; omega
        · have := HK.out.2.2 y hy; show 1 ≤ y.2 + x ∧ y.2 + x ≤ _; omega
      case measure => simp [intOf]; omega
    · have e : k = pm := by omega
      subst e
      have HL : Hid (OwnH wr W0.heap.size (.slice ao' n' c') (addAll P M) ∧ RiseH (addAll P M) ∧ (∀ x ∈ addAll P M, 1 ≤ x.2 ∧ x.2 ≤ 6000000000000000) ∧ n' = (addAll P M).length) := by
        have h := HK.out
        have hl := HNN.out
        rw [List.take_of_length_le (by have := EM.out; omega)] at h hl
        exact (⟨h.1, h.2.1, fun x hx => by have := h.2.2 x hx; omega, hl⟩ : OwnH wr W0.heap.size (.slice ao' n' c') (addAll P M) ∧ RiseH (addAll P M) ∧ (∀ x ∈ addAll P M, 1 ≤ x.2 ∧ x.2 ≤ 6000000000000000) ∧ n' = (addAll P M).length)
      clear HK HNN hbel
      go_wp2_with fail
      refine (c_debtOf HL.out.2.2.2.symm (by omega) HL.out.1.at).mono ?_
      rintro e w2 ⟨d, rfl, hd, hb2⟩
      have HD := hide hd
      have hd0 : 0 ≤ d ∧ d ≤ 6000000000000000 := by
        rcases hd with ⟨_, h⟩ | ⟨_, _, x, hx, h⟩
        · omega
        · have := HL.out.2.2.1 x hx; omega
      have HB2 := hide (chain HB.out hb2)
      have HO2 := hide (HL.out.1.past hb2)
      clear hd hb2 x0 x1 x2 y0 y1 y2 hR
      go_wp2_with fail
      have hw1 : IntKind.i64.wrap (da + db) = da + db := IntWalk.i64_in _ ⟨by omega, by omega⟩
      have hw2 : IntKind.i64.wrap (da + db + d) = da + db + d := IntWalk.i64_in _ ⟨by omega, by omega⟩
      have hw3 : IntKind.i64.wrap (ta + tb) = ta + tb := IntWalk.i64_in _ ⟨by omega, by omega⟩
      have hC2 : ∀ W, Below w2.heap.size w2 W → TpCell W w.heap.size (.slice pa pn pc) da ta ∧ TpCell W (w.heap.size + 1) (.slice pb k pd) db tb ∧ W.heap[w.heap.size + 1 + 1]? = some (.cells zeroTp 28 (0, 0)) := fun W hW => HC.out W (chain HB2.out hW)
      have HC2 := hide hC2
      clear hC2
      have HS0 : (fun W => Below w2.heap.size w2 W) w2.drew := (Below.refl _ _).drew
      refine regionK (fun W => Below w2.heap.size w2 W) 16 (by kernel_rfl) ?_
      refine takeK (i := 0) (d := 28) (v := .slice ao' n' c') rfl rfl (by kernel_rfl) (by kernel_rfl) (by kernel_rfl) (by decide) (by kernel_rfl) (fun _ _ _ h => h) (Or.inl ⟨by rfl, fun W hW => ?_⟩) HS0 ?_
      · obtain ⟨⟨x0, x1, x2⟩, ⟨y0, y1, y2⟩, _⟩ := HC2.out W hW
        go_simp
      simp only [List.setIfInBounds_toArray, List.set_cons_zero, List.set_cons_succ]
      refine takeK (i := 1) (d := 29) (v := .int .i64 d) rfl rfl (by kernel_rfl) (by kernel_rfl) (by kernel_rfl) (by decide) (by kernel_rfl) (fun _ _ _ h => h) (Or.inl ⟨by rfl, fun W hW => ?_⟩) HS0 ?_
      · obtain ⟨⟨x0, x1, x2⟩, ⟨y0, y1, y2⟩, _⟩ := HC2.out W hW
        go_simp
      simp only [List.setIfInBounds_toArray, List.set_cons_zero, List.set_cons_succ]
      refine takeK (i := 3) (d := 31) (v := .pointer (some ⟨w.heap.size, 1, none⟩)) rfl rfl (by kernel_rfl) (by kernel_rfl) (by kernel_rfl) (by decide) (by kernel_rfl) (fun _ _ _ h => h) (Or.inl ⟨by rfl, fun W hW => ?_⟩) HS0 ?_
      · obtain ⟨⟨x0, x1, x2⟩, ⟨y0, y1, y2⟩, _⟩ := HC2.out W hW
        go_simp
      simp only [List.setIfInBounds_toArray, List.set_cons_zero, List.set_cons_succ]
      refine takeK (i := 4) (d := 32) (v := .int .i64 da) rfl rfl (by kernel_rfl) (by kernel_rfl) (by kernel_rfl) (by decide) (by kernel_rfl) (fun _ _ _ h => h) (Or.inl ⟨by rfl, fun W hW => ?_⟩) HS0 ?_
      · obtain ⟨⟨x0, x1, x2⟩, ⟨y0, y1, y2⟩, _⟩ := HC2.out W hW
        go_simp
      simp only [List.setIfInBounds_toArray, List.set_cons_zero, List.set_cons_succ]
      refine takeK (i := 5) (d := 33) (v := .pointer (some ⟨w.heap.size + 1, 1, none⟩)) rfl rfl (by kernel_rfl) (by kernel_rfl) (by kernel_rfl) (by decide) (by kernel_rfl) (fun _ _ _ h => h) (Or.inl ⟨by rfl, fun W hW => ?_⟩) HS0 ?_
      · obtain ⟨⟨x0, x1, x2⟩, ⟨y0, y1, y2⟩, _⟩ := HC2.out W hW
        go_simp
      simp only [List.setIfInBounds_toArray, List.set_cons_zero, List.set_cons_succ]
      refine takeK (i := 6) (d := 34) (v := .int .i64 db) rfl rfl (by kernel_rfl) (by kernel_rfl) (by kernel_rfl) (by decide) (by kernel_rfl) (fun _ _ _ h => h) (Or.inl ⟨by rfl, fun W hW => ?_⟩) HS0 ?_
      · obtain ⟨⟨x0, x1, x2⟩, ⟨y0, y1, y2⟩, _⟩ := HC2.out W hW
        go_simp
      simp only [List.setIfInBounds_toArray, List.set_cons_zero, List.set_cons_succ]
      refine takeK (i := 7) (d := 35) (v := .int .i64 (da + db)) rfl rfl (by kernel_rfl) (by kernel_rfl) (by kernel_rfl) (by decide) (by kernel_rfl) (fun _ _ _ h => h) (Or.inl ⟨by rfl, fun W hW => ?_⟩) HS0 ?_
      · obtain ⟨⟨x0, x1, x2⟩, ⟨y0, y1, y2⟩, _⟩ := HC2.out W hW
        go_simp
      simp only [List.setIfInBounds_toArray, List.set_cons_zero, List.set_cons_succ]
      refine takeK (i := 8) (d := 36) (v := .int .i64 d) rfl rfl (by kernel_rfl) (by kernel_rfl) (by kernel_rfl) (by decide) (by kernel_rfl) (fun _ _ _ h => h) (Or.inl ⟨by rfl, fun W hW => ?_⟩) HS0 ?_
      · obtain ⟨⟨x0, x1, x2⟩, ⟨y0, y1, y2⟩, _⟩ := HC2.out W hW
        go_simp
      simp only [List.setIfInBounds_toArray, List.set_cons_zero, List.set_cons_succ]
      refine takeK (i := 9) (d := 37) (v := .int .i64 (da + db + d)) rfl rfl (by kernel_rfl) (by kernel_rfl) (by kernel_rfl) (by decide) (by kernel_rfl) (fun _ _ _ h => h) (Or.inl ⟨by rfl, fun W hW => ?_⟩) HS0 ?_
      · obtain ⟨⟨x0, x1, x2⟩, ⟨y0, y1, y2⟩, _⟩ := HC2.out W hW
        go_simp
      simp only [List.setIfInBounds_toArray, List.set_cons_zero, List.set_cons_succ]
      refine takeK (i := 10) (d := 38) (v := .pointer (some ⟨w.heap.size, 2, none⟩)) rfl rfl (by kernel_rfl) (by kernel_rfl) (by kernel_rfl) (by decide) (by kernel_rfl) (fun _ _ _ h => h) (Or.inl ⟨by rfl, fun W hW => ?_⟩) HS0 ?_
      · obtain ⟨⟨x0, x1, x2⟩, ⟨y0, y1, y2⟩, _⟩ := HC2.out W hW
        go_simp
      simp only [List.setIfInBounds_toArray, List.set_cons_zero, List.set_cons_succ]
      refine takeK (i := 11) (d := 39) (v := .int .i64 ta) rfl rfl (by kernel_rfl) (by kernel_rfl) (by kernel_rfl) (by decide) (by kernel_rfl) (fun _ _ _ h => h) (Or.inl ⟨by rfl, fun W hW => ?_⟩) HS0 ?_
      · obtain ⟨⟨x0, x1, x2⟩, ⟨y0, y1, y2⟩, _⟩ := HC2.out W hW
        go_simp
      simp only [List.setIfInBounds_toArray, List.set_cons_zero, List.set_cons_succ]
      refine takeK (i := 12) (d := 40) (v := .pointer (some ⟨w.heap.size + 1, 2, none⟩)) rfl rfl (by kernel_rfl) (by kernel_rfl) (by kernel_rfl) (by decide) (by kernel_rfl) (fun _ _ _ h => h) (Or.inl ⟨by rfl, fun W hW => ?_⟩) HS0 ?_
      · obtain ⟨⟨x0, x1, x2⟩, ⟨y0, y1, y2⟩, _⟩ := HC2.out W hW
        go_simp
      simp only [List.setIfInBounds_toArray, List.set_cons_zero, List.set_cons_succ]
      refine takeK (i := 13) (d := 41) (v := .int .i64 tb) rfl rfl (by kernel_rfl) (by kernel_rfl) (by kernel_rfl) (by decide) (by kernel_rfl) (fun _ _ _ h => h) (Or.inl ⟨by rfl, fun W hW => ?_⟩) HS0 ?_
      · obtain ⟨⟨x0, x1, x2⟩, ⟨y0, y1, y2⟩, _⟩ := HC2.out W hW
        go_simp
      simp only [List.setIfInBounds_toArray, List.set_cons_zero, List.set_cons_succ]
      refine takeK (i := 14) (d := 42) (v := .int .i64 (ta + tb)) rfl rfl (by kernel_rfl) (by kernel_rfl) (by kernel_rfl) (by decide) (by kernel_rfl) (fun _ _ _ h => h) (Or.inl ⟨by rfl, fun W hW => ?_⟩) HS0 ?_
      · obtain ⟨⟨x0, x1, x2⟩, ⟨y0, y1, y2⟩, _⟩ := HC2.out W hW
        go_simp
      simp only [List.setIfInBounds_toArray, List.set_cons_zero, List.set_cons_succ]
      refine oneK (i := 2) (by kernel_rfl) rfl (fun K hK => ?_)
      go_simp
      refine (c_lessBy d hd0.1 (by omega) (fun x hx => by have := HL.out.2.2.1 x hx; omega) HL.out.2.2.2.symm (by omega) (hvs_past HO2.out.at (Below.refl _ _).drew)).mono ?_
      rintro e w3 ⟨v3, rfl, ho3, hb3⟩
      dsimp only
      have HB3 := hide ((HS0 : Below w2.heap.size w2 w2.drew).trans hb3)
      have HO3 := hide (ho3.le (B' := w.heap.size) (by show w.heap.size ≤ w2.heap.size; have := HB2.out.size; omega))
      obtain ⟨ao3, c3, rfl⟩ := ho3.any
      clear ho3 hb3
      refine hK.out _ _ (fun _ => HB3.out) ?_
      clear hK K
      try simp only [Act.put, List.setIfInBounds_toArray, List.set_cons_zero, List.set_cons_succ]
      obtain ⟨n3, hn3⟩ : ∃ n3, (lessH (addAll P M) d).length = n3 := ⟨_, rfl⟩
      rw [hn3] at HO3
      rw [hn3]
      clear hn3
      refine takeK (i := 15) (d := 43) (v := .agg #[.slice ao3 n3 c3, .int .i64 (da + db + d), .int .i64 (ta + tb)]) rfl rfl (by kernel_rfl) (by kernel_rfl) (by kernel_rfl) (by decide) (by kernel_rfl) (fun _ _ _ h => h) (Or.inl ⟨by rfl, fun W hW => ?_⟩) HB3.out ?_
      · clear hW
        go_simp
      simp only [List.setIfInBounds_toArray, List.set_cons_zero, List.set_cons_succ]
      have R3 := (HC2.out _ HB3.out).2.2
      obtain ⟨q0, q1, q2⟩ := cell3 R3
      have f0 := frozen_of_row w3 (w.heap.size + 1 + 1) 0 _ _ R3
      have f1 := frozen_of_row w3 (w.heap.size + 1 + 1) 1 _ _ R3
      have f2 := frozen_of_row w3 (w.heap.size + 1 + 1) 2 _ _ R3
      have HF := hide (tp_store (D := da + db + d) (T := ta + tb) (chain HT0.out (chain HB2.out HB3.out)) R3 (by omega) HO3.out)
      have HDx := hide HD.out
      refine oneK (i := 16) (by kernel_rfl) rfl (fun K hK => ?_)
      go_simp
      refine hK.out _ _ (fun h => absurd rfl h) ?_
      clear hK K
      try simp only [Act.put, List.setIfInBounds_toArray, List.set_cons_zero, List.set_cons_succ]
      refine doneK (by kernel_rfl) ?_ _
      clear R3 HC HC2
      go_wp2
      refine bodyPost_ret (v := .agg #[.slice ao3 n3 c3, .int .i64 (da + db + d), .int .i64 (ta + tb)]) (by simp [results, Try.results31, go_sem, q0, q1, q2]) rfl ⟨_, rfl, d, HDx.out, HF.out.1, HF.out.2⟩
end Go.Proofs.Ytmhojmgemiphkaa
