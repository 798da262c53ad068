/-
  Contract of the model's TopMerge.
-/
import Derived.Test.YtmhojmgemiphkaaPlaceS
import Derived.Test.YtmhojmgemiphkaaTopI
import Derived.Test.YtmhojmgemiphkaaKeepT
namespace Go.Proofs.Ytmhojmgemiphkaa
set_option linter.unusedVariables false
set_option linter.unusedSimpArgs false
open Go.ChangeShapes Go.WideShapes Go.ChangeAt Go.RowKit Go.PlainAid
set_option maxRecDepth 10000

theorem OwnH.cap {w : World} {B n c : Nat} {ao : Option Addr} {L : List Hv} (h : OwnH w B (.slice ao n c) L) : n = L.length ∧ n ≤ c ∧ c ≤ maxLen ∧ (ao = none → c = 0) := by
  rcases h.2 with ⟨e, e0⟩ | ⟨g, cap, cur, e, h1, h2, h3, h4, h5, h6⟩
  · cases e; exact ⟨e0.symm, Nat.le_refl _, Nat.zero_le _, fun _ => rfl⟩
  · cases e; exact ⟨rfl, h3, h4, fun e => by cases e⟩

theorem wp_append_nilH {P : Program} (w : World) {o : Oper} {a : Act} {K : Act → World → Prop} {Q : Exit → Act → World → Prop} (s x : Operand) (t : TypeId)
    (ho : o.op = .call { callee := .builtin .append, args := #[s, x], argTypes := #[t, t] })
    (base : Nat) (e : TypeId) (i : TypeInfo) (z : Value) (size bytes : Nat) (ht : P.underlying t = some (.slice e)) (hi : P.info? e = some i) (hz : i.zero = some z)
    (hsize : i.size = size) (hby : i.bytes = bytes) (hzs : z.cells.size = size) (hsz : 0 < size)
    (v : Value) (n : Nat) (xs : List Value) (hs : a.eval s = v) (hown : w.ownsRow base e size v n xs)
    (xo : Option Addr) (m c : Nat) (news : List Value) (hx : a.eval x = .slice xo m c) (hl : news.length = m * size) (hno : xo = none → m = 0 ∧ c = 0) (hnews : ∀ ad, xo = some ad → ∀ j u, news[j]? = some u → w.cell? (ad.add j) = some u) (h1 : ∀ u ∈ news, u.oneCell' = true)
    (h63 : n + m ≤ maxLen) (hbytes : (n + m) * bytes ≤ 140737488355328) (hbase : base ≤ w.heap.size)
    (h : ∀ v' w', w'.ownsRow base e size v' (n + m) (xs ++ news) → w.grownBy w' v.ownBlock → (v' = .slice none 0 0 ↔ v = .slice none 0 0 ∧ m = 0) → K (a.put o.dst v') w') : o.wp P a w K Q := by
  cases xo with
  | some ad => exact wp_append_own w s x t ho base e i z size bytes ht hi hz hsize hby hzs hsz v n xs hs hown ad m c news hx hl (hnews ad rfl) h1 h63 hbytes hbase h
  | none =>
    obtain ⟨rfl, rfl⟩ := hno rfl
    obtain rfl : news = [] := List.eq_nil_of_length_eq_zero (by rw [hl, Nat.zero_mul])
    have hr := run_append_owned_none (P := P) (w := w) base t o.type e i size ht hi v n xs hown
    unfold Oper.wp execOp
    simp only [ho, resolve, invoke, builtin, Sem.run_bind, Sem.run_pure, Result.andThen_ok, List.map_toArray, List.map_cons, List.map_nil, hs, hx, hr]
    exact h v w (by rw [Nat.add_zero, List.append_nil]; exact hown) (World.grownBy.refl _ _) (by simp)
theorem row3 {w : World} {r : Nat} {T : TypeId} {u0 u1 u2 v0 v1 v2 : Value} (h : w.heap[r]? = some (.cells #[u0, u1, u2] T (0, 0))) :
    (((w.setCell ⟨r, 0, none⟩ v0).setCell ⟨r, 1, none⟩ v1).setCell ⟨r, 2, none⟩ v2).heap[r]? = some (.cells #[v0, v1, v2] T (0, 0)) := by
  have h0 := heap_setCell_same w r 0 _ _ v0 h
  have h1 := heap_setCell_same _ r 1 _ _ v1 h0
  exact heap_setCell_same _ r 2 _ _ v2 h1
theorem bel3 {w w1 : World} {B r : Nat} {v0 v1 v2 : Value} (h : Below B w w1) (hr : B ≤ r) : Below B w (((w1.setCell ⟨r, 0, none⟩ v0).setCell ⟨r, 1, none⟩ v1).setCell ⟨r, 2, none⟩ v2) := ((h.setCell hr _).setCell hr _).setCell hr _
set_option maxHeartbeats 8000000 in
theorem c_s_TopMerge {w : World} {da ta db tb : Int} {pa pb : Option Addr} {pn pc pm pd : Nat} {P M : List Hv} (hp : P.length = pn) (hm : M.length = pm) (lp : pn ≤ 1048576) (lm : pm ≤ 1048576) (hP : HvsAt w pa P) (hM : HvsAt w pb M) (cA : pa = none → pc = 0) (kP : ∀ x ∈ P, HvOk x) (kM : ∀ x ∈ M, HvOk x) (ha : I64 da) (hta : I64 ta) (hb : I64 db) (htb : I64 tb) :
    Calls Try.prog 13 #[.agg #[.slice pa pn pc, .int .i64 da, .int .i64 ta], .agg #[.slice pb pm pd, .int .i64 db, .int .i64 tb]] w fun e w' => ∃ v, e = .returned v ∧ Below w.heap.size w w' ∧ ((tmOk P da ta M db tb ∧ ∃ d, DebtV (addAll P M) d ∧ TopOut w' w.heap.size v (lessH (addAll P M) d) (da + db + d) (ta + tb)) ∨ (¬ tmOk P da ta M db tb ∧ TopOut w' w.heap.size v [] 0 0)) := by
  have HP := hide hP
  have HM := hide hM
  have EP := hide hp
  have EM := hide hm
  have KP := hide kP
  have KM := hide kM
  have HA := hide ha
  have HTA := hide hta
  have HBb := hide hb
  have HTB := hide htb
  have CA := hide cA
  clear hP hM hp hm kP kM ha hta hb htb cA
  go_enter Try.func13, Try.ntmps13
  go_wp2_with fail
  generalize hW0 : ((w.alloc (Obj.cells #[.slice pa pn pc, .int .i64 da, .int .i64 ta] 28)).alloc (Obj.cells #[.slice pb pm pd, .int .i64 db, .int .i64 tb] 28)).alloc (Obj.cells zeroTp 28) = W0
  have T0 : Below w.heap.size w W0 := by rw [← hW0]; exact (((Below.refl _ _).alloc (Nat.le_refl _) _).alloc (by simp) _).alloc (by simp; omega) _
  have K0 : TpCell W0 w.heap.size (.slice pa pn pc) da ta := by rw [← hW0]; exact tp_past (tp_new w _ _ _ _) (((Below.refl _ _).alloc (Nat.le_refl _) _).alloc (by simp) _)
  have J0 : TpCell W0 (w.heap.size + 1) (.slice pb pm pd) db tb := by
    rw [← hW0]
    have := tp_new (w.alloc (Obj.cells #[.slice pa pn pc, .int .i64 da, .int .i64 ta] 28)) 28 (.slice pb pm pd) db tb
    exact tp_past (by simpa using this) ((Below.refl _ _).alloc (Nat.le_refl _) _)
  have R0 : W0.heap[w.heap.size + 1 + 1]? = some (.cells zeroTp 28 (0, 0)) := by rw [← hW0]; simpa using heap_alloc_new ((w.alloc (Obj.cells #[.slice pa pn pc, .int .i64 da, .int .i64 ta] 28)).alloc (Obj.cells #[.slice pb pm pd, .int .i64 db, .int .i64 tb] 28)) (Obj.cells zeroTp 28)
  have hsz0 : W0.heap.size = w.heap.size + 3 := by rw [← hW0]; simp
  clear hW0
  have HT0 := hide T0
  clear T0
  refine (c_s_TopRight _ _ EP.out lp (hvs_past HP.out HT0.out) KP.out HA.out HTA.out).mono ?_
  rintro e w1 ⟨rfl, hb1⟩
  have HT1 := hide (chain HT0.out hb1)
  have K1 := tp_past K0 hb1
  have J1 := tp_past J0 hb1
  have R1 : w1.heap[w.heap.size + 1 + 1]? = some (.cells zeroTp 28 (0, 0)) := by rw [hb1.block _ (by omega)]; exact R0
  have hs1 := hb1.size
  clear hb1 K0 J0 R0
  cases hs : topB P da ta with
  | false =>
    have HNo : Hid (¬ tmOk P da ta M db tb) := fun h => by rw [h.1] at hs; cases hs
    clear hs
    have HF := hide (zero_topout HT1.out R1 (by omega))
    obtain ⟨q0, q1, q2⟩ := cell3 R1
    have f0 := frozen_of_row w1 (w.heap.size + 1 + 1) 0 _ _ R1
    have f1 := frozen_of_row w1 (w.heap.size + 1 + 1) 1 _ _ R1
    have f2 := frozen_of_row w1 (w.heap.size + 1 + 1) 2 _ _ R1
    clear R1
    go_wp2
    refine bodyPost_ret (v := .agg #[.slice none 0 0, .int .i64 0, .int .i64 0]) (by simp [results, Try.results13, go_sem, q0, q1, q2]) rfl ⟨_, rfl, HF.out.2, .inr ⟨HNo.out, HF.out.1⟩⟩
  | true =>
    have HSa := hide hs
    have na := top_nums hs
    clear hs
    have HK1 := hide K1
    have HJ1 := hide J1
    have HR1 := hide R1
    clear R1
    obtain ⟨x0, x1, x2⟩ := K1
    obtain ⟨y0, y1, y2⟩ := J1
    go_wp2_with fail
    refine (c_s_TopRight _ _ EM.out lm (hvs_past HM.out HT1.out) KM.out HBb.out HTB.out).mono ?_
    rintro e w2 ⟨rfl, hb2⟩
    have HT2 := hide (chain HT1.out hb2)
    have K2 := tp_past HK1.out hb2
    have J2 := tp_past HJ1.out hb2
    have R2 : w2.heap[w.heap.size + 1 + 1]? = some (.cells zeroTp 28 (0, 0)) := by rw [hb2.block _ (by omega)]; exact HR1.out
    have hs2 := hb2.size
    clear hb2 x0 x1 x2 y0 y1 y2 HK1 HJ1 HR1
    cases hs : topB M db tb with
    | false =>
      have HNo : Hid (¬ tmOk P da ta M db tb) := fun h => by rw [h.2.1] at hs; cases hs
      clear hs
      have HF := hide (zero_topout HT2.out R2 (by omega))
      obtain ⟨q0, q1, q2⟩ := cell3 R2
      have f0 := frozen_of_row w2 (w.heap.size + 1 + 1) 0 _ _ R2
      have f1 := frozen_of_row w2 (w.heap.size + 1 + 1) 1 _ _ R2
      have f2 := frozen_of_row w2 (w.heap.size + 1 + 1) 2 _ _ R2
      clear R2
      go_wp2
      refine bodyPost_ret (v := .agg #[.slice none 0 0, .int .i64 0, .int .i64 0]) (by simp [results, Try.results13, go_sem, q0, q1, q2]) rfl ⟨_, rfl, HF.out.2, .inr ⟨HNo.out, HF.out.1⟩⟩
    | true =>
      have HSb := hide hs
      have nb := top_nums hs
      clear hs
      have HR2 := hide R2
      clear R2
      obtain ⟨x0, x1, x2⟩ := K2
      obtain ⟨y0, y1, y2⟩ := J2
      by_cases hsum : ta + tb ≤ 1000000000000000
      · have HYes : Hid (tmOk P da ta M db tb) := (⟨HSa.out, HSb.out, hsum⟩ : tmOk P da ta M db tb)
        have p5 := (top_rise HSa.out).2
        have m5 := (top_rise HSb.out).2
        have hpn : pn ≤ 5 := by have := EP.out; omega
        have hpm : pm ≤ 5 := by have := EM.out; omega
        clear p5 m5
        have hdc : decide (1000000000000000 < ta + tb) = false := decide_eq_false (by omega)
        have hw1 : IntKind.i64.wrap (da + db) = da + db := IntWalk.i64_in _ ⟨by omega, by omega⟩
        have hw3 : IntKind.i64.wrap (ta + tb) = ta + tb := IntWalk.i64_in _ ⟨by omega, by omega⟩
        obtain ⟨i0, hi, hz0, hz1, hz2⟩ := info_parts infoHeavy
        have hC2 : ∀ W, Below w2.heap.size w2 W → TpCell W w.heap.size (.slice pa pn pc) da ta ∧ TpCell W (w.heap.size + 1) (.slice pb pm pd) db tb ∧ W.heap[w.heap.size + 1 + 1]? = some (.cells zeroTp 28 (0, 0)) := fun W hW => ⟨tp_past ⟨x0, x1, x2⟩ hW, tp_past ⟨y0, y1, y2⟩ hW, by rw [hW.block _ (by omega)]; exact HR2.out⟩
        have HC2 := hide hC2
        clear hC2
        go_wp2_with fail
        clear x0 x1 x2 y0 y1 y2
        rename_i Q1 K1 A1
        have REST : ∀ (X : World) (ob eb : Nat) (ao1 : Option Addr) (c1 : Nat), Below w2.heap.size w2 X → w2.heap.size ≤ ob → X.heap[ob]? = some (.cells #[.slice ao1 pn c1, .int .i64 (da + db), .int .i64 (ta + tb)] 28 (0, 0)) → OwnH X w2.heap.size (.slice ao1 pn c1) P → Exit.then K1 Q1 .normal ⟨#[.agg #[.slice pa pn pc, .int .i64 da, .int .i64 ta], .agg #[.slice pb pm pd, .int .i64 db, .int .i64 tb], .pointer (some ⟨w.heap.size, 0, none⟩), .pointer (some ⟨w.heap.size + 1, 0, none⟩), .pointer (some ⟨w.heap.size + 1 + 1, 0, none⟩), .pointer (some ⟨ob, 0, none⟩), undef, undef, .agg #[.slice pa pn pc, .int .i64 da, .int .i64 ta], .bool true, .bool false, .bool false, .agg #[.slice pb pm pd, .int .i64 db, .int .i64 tb], .bool true, .bool false, .bool false, .bool false, .pointer (some ⟨w.heap.size, 2, none⟩), .int .i64 ta, .pointer (some ⟨w.heap.size + 1, 2, none⟩), .int .i64 tb, .int .i64 (ta + tb), .bool false, .bool false, undef, .slice (some ⟨eb, 0, none⟩) 0 0, .pointer (some ⟨w.heap.size, 0, none⟩), .slice pa pn pc, .slice ao1 pn c1, .pointer (some ⟨w.heap.size, 1, none⟩), .int .i64 da, .pointer (some ⟨w.heap.size + 1, 1, none⟩), .int .i64 db, .int .i64 (da + db), .pointer (some ⟨w.heap.size, 2, none⟩), .int .i64 ta, .pointer (some ⟨w.heap.size + 1, 2, none⟩), .int .i64 tb, .int .i64 (ta + tb), .agg #[.slice ao1 pn c1, .int .i64 (da + db), .int .i64 (ta + tb)], undef, undef, undef, undef, undef, undef, undef, undef, undef, undef, undef, undef, undef, undef, undef, undef, undef, undef, undef, undef, undef, undef, undef, undef, undef, undef, undef, undef, undef, undef, undef, undef, undef, undef, undef, undef, undef, undef, undef, undef, undef], []⟩ X := by
          intro X ob eb ao1 c1 hX hob hbox hown
          have HTX := hide hX
          have HBX := hide hbox
          have HOX := hide hown
          clear hX hbox hown
          go_wp2
          go_loopw [6] (fun i wr => Below w2.heap.size w2 wr ∧ ∃ (k n' c' : Nat) (ao' : Option Addr), k ≤ pm ∧ n' ≤ 5 + k ∧ i = .int .i64 k ∧ Hid (wr.heap[ob]? = some (.cells #[.slice ao' n' c', .int .i64 (da + db), .int .i64 (ta + tb)] 28 (0, 0)) ∧ OwnH wr w2.heap.size (.slice ao' n' c') (addAll P (M.take k)) ∧ RiseH (addAll P (M.take k)) ∧ ∀ x ∈ addAll P (M.take k), 1 ≤ x.2 ∧ x.2 ≤ 1000000000000000 * (k + 1))) (fun i wr => pm - (intOf i).toNat)
          case atStart => exact ⟨HTX.out, 0, pn, c1, ao1, Nat.zero_le _, by omega, rfl, (⟨HBX.out, HOX.out, (top_rise HSa.out).1, fun x hx => by have := top_cnt HSa.out x hx; omega⟩ : X.heap[ob]? = some (.cells #[.slice ao1 pn c1, .int .i64 (da + db), .int .i64 (ta + tb)] 28 (0, 0)) ∧ OwnH X w2.heap.size (.slice ao1 pn c1) (addAll P (M.take 0)) ∧ RiseH (addAll P (M.take 0)) ∧ ∀ x ∈ addAll P (M.take 0), 1 ≤ x.2 ∧ x.2 ≤ 1000000000000000 * (((0 : Nat) : Int) + 1))⟩
          case round =>
            obtain ⟨hbel, k, n', c', ao', hk, hn', rfl, HK⟩ := hrel
            have HB := hide hbel
            have hz := hbel.size
            obtain ⟨hn1, hn2, hn3, hn4⟩ := HK.out.2.1.cap
            have HNN := hide hn1
            have HN4 := hide hn4
            clear hn1 hn4
            have hlt : ob < wr.heap.size := (Array.getElem?_eq_some_iff.1 HK.out.1).1
            have hC3 : ∀ W, Below wr.heap.size wr W → (TpCell W (w.heap.size + 1) (.slice pb pm pd) db tb) ∧ W.heap[ob]? = some (.cells #[.slice ao' n' c', .int .i64 (da + db), .int .i64 (ta + tb)] 28 (0, 0)) ∧ W.heap[w.heap.size + 1 + 1]? = some (.cells zeroTp 28 (0, 0)) := fun W hW => ⟨(HC2.out W (chain HB.out hW)).2.1, by rw [hW.block _ hlt]; exact HK.out.1, (HC2.out W (chain HB.out hW)).2.2⟩
            have HC3 := hide hC3
            clear hC3 hbel
            obtain ⟨⟨y0, y1, y2⟩, hR, _⟩ := HC3.out _ (Below.refl _ _)
            obtain ⟨z0, z1, z2⟩ := cell3 hR
            clear hR
            by_cases hkn : k < pm
            · obtain ⟨⟨u, x⟩, hRk⟩ : ∃ a, M[k]? = some a := ⟨M[k]'(by have := EM.out; omega), List.getElem?_eq_getElem _⟩
              have hxk := top_cnt HSb.out _ (List.mem_of_getElem? hRk)
              obtain ⟨b, off, rfl, hcell⟩ := HM.out (by have := EM.out; omega)
              have hCM : ∀ W, Below wr.heap.size wr W → W.cell? ⟨b, off + k * 2, none⟩ = some (.string u) ∧ W.cell? ⟨b, off + k * 2 + 1, none⟩ = some (.int .i64 x) := fun W hW => ⟨cell_past (chain HT2.out (chain HB.out hW)) (hcell k _ hRk).1, cell_past (chain HT2.out (chain HB.out hW)) (hcell k _ hRk).2⟩
              have HCM := hide hCM
              have HE : Hid (addAll P (M.take (k + 1)) = hvAdd (addAll P (M.take k)) (u, x)) := (by rw [List.take_add_one, hRk]; simp [addAll] : addAll P (M.take (k + 1)) = hvAdd (addAll P (M.take k)) (u, x))
              simp only at hxk
              clear hcell hRk hCM
              go_wp2_with fail
              clear y0 y1 y2 z0 z1 z2
              have HS0 : (fun W => Below wr.heap.size wr W) wr.drew := (Below.refl _ _).drew
              refine regionK (fun W => Below wr.heap.size wr W) 16 (by kernel_rfl) ?_
              refine takeK (i := 0) (d := 47) (v := .pointer (some ⟨ob, 0, none⟩)) rfl rfl (by kernel_rfl) (by kernel_rfl) (by kernel_rfl) (by decide) (by kernel_rfl) (fun _ _ _ h => h) (Or.inl ⟨by rfl, fun W hW => ?_⟩) HS0 ?_
              · obtain ⟨⟨y0, y1, y2⟩, hR, _⟩ := HC3.out W hW
                obtain ⟨z0, z1, z2⟩ := cell3 hR
                obtain ⟨g0, g1⟩ := HCM.out W hW
                clear hR hW
                go_simp
              simp only [List.setIfInBounds_toArray, List.set_cons_zero, List.set_cons_succ]
              refine takeK (i := 1) (d := 48) (v := .slice ao' n' c') rfl rfl (by kernel_rfl) (by kernel_rfl) (by kernel_rfl) (by decide) (by kernel_rfl) (fun _ _ _ h => h) (Or.inl ⟨by rfl, fun W hW => ?_⟩) HS0 ?_
              · obtain ⟨⟨y0, y1, y2⟩, hR, _⟩ := HC3.out W hW
                obtain ⟨z0, z1, z2⟩ := cell3 hR
                obtain ⟨g0, g1⟩ := HCM.out W hW
                clear hR hW
                go_simp
              simp only [List.setIfInBounds_toArray, List.set_cons_zero, List.set_cons_succ]
              refine takeK (i := 2) (d := 49) (v := .pointer (some ⟨w.heap.size + 1, 0, none⟩)) rfl rfl (by kernel_rfl) (by kernel_rfl) (by kernel_rfl) (by decide) (by kernel_rfl) (fun _ _ _ h => h) (Or.inl ⟨by rfl, fun W hW => ?_⟩) HS0 ?_
              · obtain ⟨⟨y0, y1, y2⟩, hR, _⟩ := HC3.out W hW
                obtain ⟨z0, z1, z2⟩ := cell3 hR
                obtain ⟨g0, g1⟩ := HCM.out W hW
                clear hR hW
                go_simp
              simp only [List.setIfInBounds_toArray, List.set_cons_zero, List.set_cons_succ]
              refine takeK (i := 3) (d := 50) (v := .slice (some ⟨b, off, none⟩) pm pd) rfl rfl (by kernel_rfl) (by kernel_rfl) (by kernel_rfl) (by decide) (by kernel_rfl) (fun _ _ _ h => h) (Or.inl ⟨by rfl, fun W hW => ?_⟩) HS0 ?_
              · obtain ⟨⟨y0, y1, y2⟩, hR, _⟩ := HC3.out W hW
                obtain ⟨z0, z1, z2⟩ := cell3 hR
                obtain ⟨g0, g1⟩ := HCM.out W hW
                clear hR hW
                go_simp
              simp only [List.setIfInBounds_toArray, List.set_cons_zero, List.set_cons_succ]
              refine takeK (i := 4) (d := 51) (v := .int .i64 k) rfl rfl (by kernel_rfl) (by kernel_rfl) (by kernel_rfl) (by decide) (by kernel_rfl) (fun _ _ _ h => h) (Or.inl ⟨by rfl, fun W hW => ?_⟩) HS0 ?_
              · obtain ⟨⟨y0, y1, y2⟩, hR, _⟩ := HC3.out W hW
                obtain ⟨z0, z1, z2⟩ := cell3 hR
                obtain ⟨g0, g1⟩ := HCM.out W hW
                clear hR hW
                go_simp
              simp only [List.setIfInBounds_toArray, List.set_cons_zero, List.set_cons_succ]
              refine takeK (i := 5) (d := 52) (v := .pointer (some ⟨b, off + k * 2, none⟩)) rfl rfl (by kernel_rfl) (by kernel_rfl) (by kernel_rfl) (by decide) (by kernel_rfl) (fun _ _ _ h => h) (Or.inl ⟨by rfl, fun W hW => ?_⟩) HS0 ?_
              · obtain ⟨⟨y0, y1, y2⟩, hR, _⟩ := HC3.out W hW
                obtain ⟨z0, z1, z2⟩ := cell3 hR
                obtain ⟨g0, g1⟩ := HCM.out W hW
                clear hR hW
                go_simp
              simp only [List.setIfInBounds_toArray, List.set_cons_zero, List.set_cons_succ]
              refine takeK (i := 6) (d := 53) (v := .pointer (some ⟨b, off + k * 2, none⟩)) rfl rfl (by kernel_rfl) (by kernel_rfl) (by kernel_rfl) (by decide) (by kernel_rfl) (fun _ _ _ h => h) (Or.inl ⟨by rfl, fun W hW => ?_⟩) HS0 ?_
              · obtain ⟨⟨y0, y1, y2⟩, hR, _⟩ := HC3.out W hW
                obtain ⟨z0, z1, z2⟩ := cell3 hR
                obtain ⟨g0, g1⟩ := HCM.out W hW
                clear hR hW
                go_simp
              simp only [List.setIfInBounds_toArray, List.set_cons_zero, List.set_cons_succ]
              refine takeK (i := 7) (d := 54) (v := .string u) rfl rfl (by kernel_rfl) (by kernel_rfl) (by kernel_rfl) (by decide) (by kernel_rfl) (fun _ _ _ h => h) (Or.inl ⟨by rfl, fun W hW => ?_⟩) HS0 ?_
              · obtain ⟨⟨y0, y1, y2⟩, hR, _⟩ := HC3.out W hW
                obtain ⟨z0, z1, z2⟩ := cell3 hR
                obtain ⟨g0, g1⟩ := HCM.out W hW
                clear hR hW
                go_simp
              simp only [List.setIfInBounds_toArray, List.set_cons_zero, List.set_cons_succ]
              refine takeK (i := 8) (d := 55) (v := .pointer (some ⟨w.heap.size + 1, 0, none⟩)) rfl rfl (by kernel_rfl) (by kernel_rfl) (by kernel_rfl) (by decide) (by kernel_rfl) (fun _ _ _ h => h) (Or.inl ⟨by rfl, fun W hW => ?_⟩) HS0 ?_
              · obtain ⟨⟨y0, y1, y2⟩, hR, _⟩ := HC3.out W hW
                obtain ⟨z0, z1, z2⟩ := cell3 hR
                obtain ⟨g0, g1⟩ := HCM.out W hW
                clear hR hW
                go_simp
              simp only [List.setIfInBounds_toArray, List.set_cons_zero, List.set_cons_succ]
              refine takeK (i := 9) (d := 56) (v := .slice (some ⟨b, off, none⟩) pm pd) rfl rfl (by kernel_rfl) (by kernel_rfl) (by kernel_rfl) (by decide) (by kernel_rfl) (fun _ _ _ h => h) (Or.inl ⟨by rfl, fun W hW => ?_⟩) HS0 ?_
              · obtain ⟨⟨y0, y1, y2⟩, hR, _⟩ := HC3.out W hW
                obtain ⟨z0, z1, z2⟩ := cell3 hR
                obtain ⟨g0, g1⟩ := HCM.out W hW
                clear hR hW
                go_simp
              simp only [List.setIfInBounds_toArray, List.set_cons_zero, List.set_cons_succ]
              refine takeK (i := 10) (d := 57) (v := .int .i64 k) rfl rfl (by kernel_rfl) (by kernel_rfl) (by kernel_rfl) (by decide) (by kernel_rfl) (fun _ _ _ h => h) (Or.inl ⟨by rfl, fun W hW => ?_⟩) HS0 ?_
              · obtain ⟨⟨y0, y1, y2⟩, hR, _⟩ := HC3.out W hW
                obtain ⟨z0, z1, z2⟩ := cell3 hR
                obtain ⟨g0, g1⟩ := HCM.out W hW
                clear hR hW
                go_simp
              simp only [List.setIfInBounds_toArray, List.set_cons_zero, List.set_cons_succ]
              refine takeK (i := 11) (d := 58) (v := .pointer (some ⟨b, off + k * 2, none⟩)) rfl rfl (by kernel_rfl) (by kernel_rfl) (by kernel_rfl) (by decide) (by kernel_rfl) (fun _ _ _ h => h) (Or.inl ⟨by rfl, fun W hW => ?_⟩) HS0 ?_
              · obtain ⟨⟨y0, y1, y2⟩, hR, _⟩ := HC3.out W hW
                obtain ⟨z0, z1, z2⟩ := cell3 hR
                obtain ⟨g0, g1⟩ := HCM.out W hW
                clear hR hW
                go_simp
              simp only [List.setIfInBounds_toArray, List.set_cons_zero, List.set_cons_succ]
              refine takeK (i := 12) (d := 59) (v := .pointer (some ⟨b, off + k * 2 + 1, none⟩)) rfl rfl (by kernel_rfl) (by kernel_rfl) (by kernel_rfl) (by decide) (by kernel_rfl) (fun _ _ _ h => h) (Or.inl ⟨by rfl, fun W hW => ?_⟩) HS0 ?_
              · obtain ⟨⟨y0, y1, y2⟩, hR, _⟩ := HC3.out W hW
                obtain ⟨z0, z1, z2⟩ := cell3 hR
                obtain ⟨g0, g1⟩ := HCM.out W hW
                clear hR hW
                go_simp
              simp only [List.setIfInBounds_toArray, List.set_cons_zero, List.set_cons_succ]
              refine takeK (i := 13) (d := 60) (v := .int .i64 x) rfl rfl (by kernel_rfl) (by kernel_rfl) (by kernel_rfl) (by decide) (by kernel_rfl) (fun _ _ _ h => h) (Or.inl ⟨by rfl, fun W hW => ?_⟩) HS0 ?_
              · obtain ⟨⟨y0, y1, y2⟩, hR, _⟩ := HC3.out W hW
                obtain ⟨z0, z1, z2⟩ := cell3 hR
                obtain ⟨g0, g1⟩ := HCM.out W hW
                clear hR hW
                go_simp
              simp only [List.setIfInBounds_toArray, List.set_cons_zero, List.set_cons_succ]
              refine oneK (i := 14) (by kernel_rfl) rfl (fun K hK => ?_)
              go_simp
              refine (c_s_l05Add _ _ HNN.out.symm (by omega) hn2 hn3 HN4.out (fun z hz => by have := HK.out.2.2.2 z hz; unfold I64; omega) (hvs_past HK.out.2.1.at (Below.refl _ _).drew)).mono ?_
              rintro e w3 ⟨v3, rfl, ho3, hb3⟩
              dsimp only
              have HB3 := hide ((HS0 : Below wr.heap.size wr wr.drew).trans hb3)
              have HO3 := hide (ho3.le (B' := w2.heap.size) (by show w2.heap.size ≤ wr.heap.size; omega))
              obtain ⟨ao3, c3, rfl⟩ := ho3.any
              clear ho3 hb3
              refine hK.out _ _ (fun _ => HB3.out) ?_
              clear hK K
              try simp only [Act.put, List.setIfInBounds_toArray, List.set_cons_zero, List.set_cons_succ]
              have hlen3 := (add_len (u, x) (addAll P (M.take k))).2
              obtain ⟨n3, hn3'⟩ : ∃ n3, (hvAdd (addAll P (M.take k)) (u, x)).length = n3 := ⟨_, rfl⟩
              rw [hn3'] at HO3 hlen3
              rw [hn3']
              have hn3le : n3 ≤ 5 + (k + 1) := by have := HNN.out; omega
              clear hn3' hlen3
              have R3 := (HC3.out _ HB3.out).2.1
              obtain ⟨q0, q1, q2⟩ := cell3 R3
              have f0 := frozen_of_row w3 ob 0 _ _ R3
              have HF : Hid ((w3.setCell ⟨ob, 0, none⟩ (.slice ao3 n3 c3)).heap[ob]? = some (.cells #[.slice ao3 n3 c3, .int .i64 (da + db), .int .i64 (ta + tb)] 28 (0, 0)) ∧ OwnH (w3.setCell ⟨ob, 0, none⟩ (.slice ao3 n3 c3)) w2.heap.size (.slice ao3 n3 c3) (hvAdd (addAll P (M.take k)) (u, x)) ∧ Below w2.heap.size w2 (w3.setCell ⟨ob, 0, none⟩ (.slice ao3 n3 c3))) := by
                refine (⟨heap_setCell_same w3 ob 0 _ _ (.slice ao3 n3 c3) R3, HO3.out.set (HO3.out.ne R3 (by decide)) _, (chain HB.out HB3.out).setCell hob _⟩ : (w3.setCell ⟨ob, 0, none⟩ (.slice ao3 n3 c3)).heap[ob]? = some (.cells #[.slice ao3 n3 c3, .int .i64 (da + db), .int .i64 (ta + tb)] 28 (0, 0)) ∧ OwnH (w3.setCell ⟨ob, 0, none⟩ (.slice ao3 n3 c3)) w2.heap.size (.slice ao3 n3 c3) (hvAdd (addAll P (M.take k)) (u, x)) ∧ Below w2.heap.size w2 (w3.setCell ⟨ob, 0, none⟩ (.slice ao3 n3 c3)))
              refine oneK (i := 15) (by kernel_rfl) rfl (fun K hK => ?_)
              go_simp
              refine hK.out _ _ (fun _ => HB3.out) ?_
              clear hK K
              try simp only [Act.put, List.setIfInBounds_toArray, List.set_cons_zero, List.set_cons_succ]
              refine oneK (i := 16) (by kernel_rfl) rfl (fun K hK => ?_)
              go_simp
              refine hK.out _ _ (fun h => absurd rfl h) ?_
              clear hK K
              try simp only [Act.put, List.setIfInBounds_toArray, List.set_cons_zero, List.set_cons_succ]
              refine doneK (by kernel_rfl) ?_ _
              clear R3 q0 q1 q2 f0
              go_wp2
              go_roundw
              case rel =>
                refine ⟨HF.out.2.2, k + 1, n3, c3, ao3, by omega, hn3le, by go_num, (?_ : _ ∧ _ ∧ _ ∧ _)⟩
                rw [HE.out]
                refine ⟨HF.out.1, HF.out.2.1, add_rise HK.out.2.2.1, fun z hz => ?_⟩
                rcases add_mem hz with rfl | h | ⟨y, hy, _, rfl⟩
                · show 1 ≤ x ∧ x ≤ _; omega
                · have := HK.out.2.2.2 z h; omega
                · have := HK.out.2.2.2 y hy; show 1 ≤ y.2 + x ∧ y.2 + x ≤ _; omega
              case measure => simp [intOf]; omega
            · have e : k = pm := by omega
              subst e
              have HL : Hid (OwnH wr w2.heap.size (.slice ao' n' c') (addAll P M) ∧ RiseH (addAll P M) ∧ (∀ x ∈ addAll P M, 1 ≤ x.2 ∧ x.2 ≤ 6000000000000000) ∧ n' = (addAll P M).length) := by
                have h := HK.out.2
                have hl := HNN.out
                rw [List.take_of_length_le (by have := EM.out; omega)] at h hl
                exact (⟨h.1, h.2.1, fun x hx => by have := h.2.2 x hx; omega, hl⟩ : OwnH wr w2.heap.size (.slice ao' n' c') (addAll P M) ∧ RiseH (addAll P M) ∧ (∀ x ∈ addAll P M, 1 ≤ x.2 ∧ x.2 ≤ 6000000000000000) ∧ n' = (addAll P M).length)
              clear HK HNN
              by_cases h5 : n' ≤ 5
              · have R3 := (HC3.out _ (Below.refl _ _)).2.2
                obtain ⟨q0, q1, q2⟩ := cell3 R3
                have f0 := frozen_of_row wr (w.heap.size + 1 + 1) 0 _ _ R3
                have f1 := frozen_of_row wr (w.heap.size + 1 + 1) 1 _ _ R3
                have f2 := frozen_of_row wr (w.heap.size + 1 + 1) 2 _ _ R3
                have HF := hide (tp_store (D := da + db) (T := ta + tb) (chain HT2.out HB.out) R3 (by omega) (HL.out.1.le (B' := w.heap.size) (by omega)))
                have HD : Hid (DebtV (addAll P M) 0) := (.inl ⟨by have := HL.out.2.2.2; omega, rfl⟩ : DebtV (addAll P M) 0)
                have HZ : Hid (lessH (addAll P M) 0 = addAll P M) := (less_zero (fun x hx => (HL.out.2.2.1 x hx).1) : lessH (addAll P M) 0 = addAll P M)
                clear R3
                go_wp2
                refine bodyPost_ret (v := .agg #[.slice ao' n' c', .int .i64 (da + db), .int .i64 (ta + tb)]) (by simp [results, Try.results13, go_sem, q0, q1, q2]) rfl ⟨_, rfl, HF.out.2, .inl ⟨HYes.out, 0, HD.out, ?_⟩⟩
                rw [HZ.out, Int.add_zero]
                exact HF.out.1
              · go_wp2_with fail
                refine (c_s_l05Place HL.out.2.2.2.symm (by omega) (by omega) HL.out.1.at).mono ?_
                rintro e w3 ⟨d, rfl, hd, ⟨xd, hxd, hxd2⟩, hb3⟩
                have hd0 : 0 ≤ d ∧ d ≤ 6000000000000000 := by have := HL.out.2.2.1 xd hxd; omega
                have HD : Hid (DebtV (addAll P M) d) := (.inr ⟨by have := HL.out.2.2.2; omega, hd, xd, hxd, hxd2⟩ : DebtV (addAll P M) d)
                have HB3 := hide hb3
                have HO3 := hide (HL.out.1.past hb3)
                have hw5 : IntKind.i64.wrap (da + db + d) = da + db + d := IntWalk.i64_in _ ⟨by omega, by omega⟩
                clear hd hxd hxd2 y0 y1 y2 z0 z1 z2
                obtain ⟨⟨y0, y1, y2⟩, hR, _⟩ := HC3.out _ hb3
                obtain ⟨z0, z1, z2⟩ := cell3 hR
                clear hR hb3
                go_wp2_with fail
                refine (c_s_l05Less d hd0.1 (by omega) (fun x hx => by have := HL.out.2.2.1 x hx; omega) HL.out.2.2.2.symm (by omega) HO3.out.at).mono ?_
                rintro e w4 ⟨v4, rfl, ho4, hb4⟩
                have HB4 := hide (chain HB3.out hb4)
                have HO4 := hide (ho4.le (B' := w.heap.size) (by have := HB3.out.size; omega))
                obtain ⟨ao4, c4, rfl⟩ := ho4.any
                obtain ⟨n4, hn4⟩ : ∃ n4, (lessH (addAll P M) d).length = n4 := ⟨_, rfl⟩
                rw [hn4] at HO4
                rw [hn4]
                clear hn4 ho4 hb4 y0 y1 y2 z0 z1 z2
                obtain ⟨_, hR, hR2⟩ := HC3.out _ HB4.out
                obtain ⟨z0, z1, z2⟩ := cell3 hR
                obtain ⟨q0, q1, q2⟩ := cell3 hR2
                have f0 := frozen_of_row w4 (w.heap.size + 1 + 1) 0 _ _ hR2
                have f1 := frozen_of_row w4 (w.heap.size + 1 + 1) 1 _ _ hR2
                have f2 := frozen_of_row w4 (w.heap.size + 1 + 1) 2 _ _ hR2
                have e0 := frozen_of_row w4 ob 0 _ _ hR
                have e1 := frozen_of_row w4 ob 1 _ _ hR
                have N1 := hide (HO4.out.ne hR (by decide))
                have N2 := hide (HO4.out.ne hR2 (by decide))
                have hobr : ¬ (ob = w.heap.size + 1 + 1) := by omega
                clear hR hR2
                go_wp2
                refine bodyPost_ret (v := .agg #[.slice ao4 n4 c4, .int .i64 (da + db + d), .int .i64 (ta + tb)]) (by simp [results, Try.results13, go_sem, q0, q1, q2]) rfl ⟨_, rfl, ?_, .inl ⟨HYes.out, d, HD.out, ⟨_, rfl, ?_⟩⟩⟩
                · repeat (refine Below.setCell ?_ (by simp <;> omega) _)
                  exact chain HT2.out (chain HB.out HB4.out)
                · exact ((((HO4.out.set N1.out _).set N1.out _).set N2.out _).set N2.out _).set N2.out _
        have HS0 : (fun W => Below w2.heap.size w2 W) w2.drew := (Below.refl _ _).drew
        refine regionK (fun W => Below w2.heap.size w2 W) 16 (by kernel_rfl) ?_
        refine takeK (i := 1) (d := 26) (v := .pointer (some ⟨w.heap.size, 0, none⟩)) rfl rfl (by kernel_rfl) (by kernel_rfl) (by kernel_rfl) (by decide) (by kernel_rfl) (fun _ _ _ h => h) (Or.inl ⟨by rfl, fun W hW => ?_⟩) HS0 ?_
        · obtain ⟨⟨x0, x1, x2⟩, ⟨y0, y1, y2⟩, _⟩ := HC2.out W hW
          go_simp
        simp only [List.setIfInBounds_toArray, List.set_cons_zero, List.set_cons_succ]
        refine takeK (i := 2) (d := 27) (v := .slice pa pn pc) rfl rfl (by kernel_rfl) (by kernel_rfl) (by kernel_rfl) (by decide) (by kernel_rfl) (fun _ _ _ h => h) (Or.inl ⟨by rfl, fun W hW => ?_⟩) HS0 ?_
        · obtain ⟨⟨x0, x1, x2⟩, ⟨y0, y1, y2⟩, _⟩ := HC2.out W hW
          go_simp
        simp only [List.setIfInBounds_toArray, List.set_cons_zero, List.set_cons_succ]
        refine takeK (i := 4) (d := 29) (v := .pointer (some ⟨w.heap.size, 1, none⟩)) rfl rfl (by kernel_rfl) (by kernel_rfl) (by kernel_rfl) (by decide) (by kernel_rfl) (fun _ _ _ h => h) (Or.inl ⟨by rfl, fun W hW => ?_⟩) HS0 ?_
        · obtain ⟨⟨x0, x1, x2⟩, ⟨y0, y1, y2⟩, _⟩ := HC2.out W hW
          go_simp
        simp only [List.setIfInBounds_toArray, List.set_cons_zero, List.set_cons_succ]
        refine takeK (i := 5) (d := 30) (v := .int .i64 da) rfl rfl (by kernel_rfl) (by kernel_rfl) (by kernel_rfl) (by decide) (by kernel_rfl) (fun _ _ _ h => h) (Or.inl ⟨by rfl, fun W hW => ?_⟩) HS0 ?_
        · obtain ⟨⟨x0, x1, x2⟩, ⟨y0, y1, y2⟩, _⟩ := HC2.out W hW
          go_simp
        simp only [List.setIfInBounds_toArray, List.set_cons_zero, List.set_cons_succ]
        refine takeK (i := 6) (d := 31) (v := .pointer (some ⟨w.heap.size + 1, 1, none⟩)) rfl rfl (by kernel_rfl) (by kernel_rfl) (by kernel_rfl) (by decide) (by kernel_rfl) (fun _ _ _ h => h) (Or.inl ⟨by rfl, fun W hW => ?_⟩) HS0 ?_
        · obtain ⟨⟨x0, x1, x2⟩, ⟨y0, y1, y2⟩, _⟩ := HC2.out W hW
          go_simp
        simp only [List.setIfInBounds_toArray, List.set_cons_zero, List.set_cons_succ]
        refine takeK (i := 7) (d := 32) (v := .int .i64 db) rfl rfl (by kernel_rfl) (by kernel_rfl) (by kernel_rfl) (by decide) (by kernel_rfl) (fun _ _ _ h => h) (Or.inl ⟨by rfl, fun W hW => ?_⟩) HS0 ?_
        · obtain ⟨⟨x0, x1, x2⟩, ⟨y0, y1, y2⟩, _⟩ := HC2.out W hW
          go_simp
        simp only [List.setIfInBounds_toArray, List.set_cons_zero, List.set_cons_succ]
        refine takeK (i := 8) (d := 33) (v := .int .i64 (da + db)) rfl rfl (by kernel_rfl) (by kernel_rfl) (by kernel_rfl) (by decide) (by kernel_rfl) (fun _ _ _ h => h) (Or.inl ⟨by rfl, fun W hW => ?_⟩) HS0 ?_
        · obtain ⟨⟨x0, x1, x2⟩, ⟨y0, y1, y2⟩, _⟩ := HC2.out W hW
          go_simp
        simp only [List.setIfInBounds_toArray, List.set_cons_zero, List.set_cons_succ]
        refine takeK (i := 9) (d := 34) (v := .pointer (some ⟨w.heap.size, 2, none⟩)) rfl rfl (by kernel_rfl) (by kernel_rfl) (by kernel_rfl) (by decide) (by kernel_rfl) (fun _ _ _ h => h) (Or.inl ⟨by rfl, fun W hW => ?_⟩) HS0 ?_
        · obtain ⟨⟨x0, x1, x2⟩, ⟨y0, y1, y2⟩, _⟩ := HC2.out W hW
          go_simp
        simp only [List.setIfInBounds_toArray, List.set_cons_zero, List.set_cons_succ]
        refine takeK (i := 10) (d := 35) (v := .int .i64 ta) rfl rfl (by kernel_rfl) (by kernel_rfl) (by kernel_rfl) (by decide) (by kernel_rfl) (fun _ _ _ h => h) (Or.inl ⟨by rfl, fun W hW => ?_⟩) HS0 ?_
        · obtain ⟨⟨x0, x1, x2⟩, ⟨y0, y1, y2⟩, _⟩ := HC2.out W hW
          go_simp
        simp only [List.setIfInBounds_toArray, List.set_cons_zero, List.set_cons_succ]
        refine takeK (i := 11) (d := 36) (v := .pointer (some ⟨w.heap.size + 1, 2, none⟩)) rfl rfl (by kernel_rfl) (by kernel_rfl) (by kernel_rfl) (by decide) (by kernel_rfl) (fun _ _ _ h => h) (Or.inl ⟨by rfl, fun W hW => ?_⟩) HS0 ?_
        · obtain ⟨⟨x0, x1, x2⟩, ⟨y0, y1, y2⟩, _⟩ := HC2.out W hW
          go_simp
        simp only [List.setIfInBounds_toArray, List.set_cons_zero, List.set_cons_succ]
        refine takeK (i := 12) (d := 37) (v := .int .i64 tb) rfl rfl (by kernel_rfl) (by kernel_rfl) (by kernel_rfl) (by decide) (by kernel_rfl) (fun _ _ _ h => h) (Or.inl ⟨by rfl, fun W hW => ?_⟩) HS0 ?_
        · obtain ⟨⟨x0, x1, x2⟩, ⟨y0, y1, y2⟩, _⟩ := HC2.out W hW
          go_simp
        simp only [List.setIfInBounds_toArray, List.set_cons_zero, List.set_cons_succ]
        refine takeK (i := 13) (d := 38) (v := .int .i64 (ta + tb)) rfl rfl (by kernel_rfl) (by kernel_rfl) (by kernel_rfl) (by decide) (by kernel_rfl) (fun _ _ _ h => h) (Or.inl ⟨by rfl, fun W hW => ?_⟩) HS0 ?_
        · obtain ⟨⟨x0, x1, x2⟩, ⟨y0, y1, y2⟩, _⟩ := HC2.out W hW
          go_simp
        simp only [List.setIfInBounds_toArray, List.set_cons_zero, List.set_cons_succ]
        refine twoK (i := 0) (j := 15) (by kernel_rfl) rfl rfl (fun K hK => ?_) (fun K hK => ?_)
        · go_simp
          have HBe := hide (Below.alloc (HS0 : Below w2.heap.size w2 w2.drew) (Nat.le_refl _) (.cells #[] 52))
          refine hK.out _ _ (fun _ => HBe.out) ?_
          clear hK K
          try simp only [Act.put, List.setIfInBounds_toArray, List.set_cons_zero, List.set_cons_succ]
          refine twoK (i := 3) (j := 15) (by kernel_rfl) rfl rfl (fun K hK => ?_) (fun K hK => ?_)
          · rw [if_pos (by rfl)]
            refine wp_append_nilH _ (.tmp 25) (.tmp 27) 26 rfl w2.heap.size 52 i0 (.agg #[.string ByteArray.empty, .int .i64 0]) 2 24 Try.underlying26 hi hz0 hz1 hz2 rfl (by decide) _ _ _ rfl (World.ownsRow_made w2 #[] 0 (Nat.le_refl _) (Nat.zero_le _) rfl) pa pn pc (fl encH P) rfl (by rw [fl_len encH2, EP.out]) (fun e => ⟨by have := hvs_nil (e ▸ HP.out); rw [← EP.out, this]; rfl, CA.out e⟩) (fun A e => hvs_list (e ▸ hvs_past HP.out (chain HT2.out HBe.out))) (fl_oneH _) (by unfold maxLen; omega) (by omega) (by simp) ?_
            intro v1 w4 hown1 hgrow1 hnil1
            simp only [Nat.zero_add, List.nil_append] at hown1
            obtain ⟨ao1, c1, rfl⟩ := own_any hown1
            have O1 : Hid (OwnH w4 w2.heap.size (.slice ao1 pn c1) P) := (by unfold OwnH; rw [EP.out]; exact hown1 : OwnH w4 w2.heap.size (.slice ao1 pn c1) P)
            have B1 := hide (Below.grown HBe.out hgrow1 (by simp) (fun j hj => by cases hj; exact Nat.le_refl _))
            clear hown1 hgrow1 hnil1
            refine hK.out _ _ (fun _ => B1.out) ?_
            clear hK K
            try simp only [Act.put, List.setIfInBounds_toArray, List.set_cons_zero, List.set_cons_succ]
            refine takeK (i := 14) (d := 39) (v := .agg #[.slice ao1 pn c1, .int .i64 (da + db), .int .i64 (ta + tb)]) rfl rfl (by kernel_rfl) (by kernel_rfl) (by kernel_rfl) (by decide) (by kernel_rfl) (fun _ _ _ h => h) (Or.inl ⟨by rfl, fun W hW => ?_⟩) B1.out ?_
            · clear hW
              go_simp
            simp only [List.setIfInBounds_toArray, List.set_cons_zero, List.set_cons_succ]
            refine oneK (i := 15) (by kernel_rfl) rfl (fun K hK => ?_)
            go_simp
            have HBa := hide (Below.alloc B1.out B1.out.size (.cells zeroTp 28))
            have HAl : Hid (∀ o, Below w4.heap.size w4 (w4.alloc o)) := (fun o => (Below.refl _ _).alloc (Nat.le_refl _) o : ∀ o, Below w4.heap.size w4 (w4.alloc o))
            have z4 := B1.out.size
            refine hK.out _ _ (fun _ => HBa.out) ?_
            clear hK K
            try simp only [Act.put, List.setIfInBounds_toArray, List.set_cons_zero, List.set_cons_succ]
            refine oneK (i := 16) (by kernel_rfl) rfl (fun K hK => ?_)
            go_simp
            refine hK.out _ _ (fun h => absurd rfl h) ?_
            clear hK K
            try simp only [Act.put, List.setIfInBounds_toArray, List.set_cons_zero, List.set_cons_succ]
            refine doneK (by kernel_rfl) ?_ _
            exact REST _ _ _ _ _ (Below.alloc B1.out B1.out.size _) z4 (heap_alloc_new w4 _) (O1.out.past (HAl.out _))
          · go_simp
            have HBa := hide (Below.alloc HBe.out (by simp) (.cells zeroTp 28))
            refine hK.out _ _ (fun _ => HBa.out) ?_
            clear hK K
            try simp only [Act.put, List.setIfInBounds_toArray, List.set_cons_zero, List.set_cons_succ]
            refine oneK (i := 3) (by kernel_rfl) rfl (fun K hK => ?_)
            rw [if_pos (by rfl)]
            refine wp_append_nilH _ (.tmp 25) (.tmp 27) 26 rfl w2.heap.size 52 i0 (.agg #[.string ByteArray.empty, .int .i64 0]) 2 24 Try.underlying26 hi hz0 hz1 hz2 rfl (by decide) _ _ _ rfl (own_past (World.ownsRow_made w2 #[] 0 (Nat.le_refl _) (Nat.zero_le _) rfl) (((Below.refl _ _).alloc (Nat.le_refl _) _).drew)) pa pn pc (fl encH P) rfl (by rw [fl_len encH2, EP.out]) (fun e => ⟨by have := hvs_nil (e ▸ HP.out); rw [← EP.out, this]; rfl, CA.out e⟩) (fun A e => hvs_list (e ▸ hvs_past HP.out (chain HT2.out HBa.out))) (fl_oneH _) (by unfold maxLen; omega) (by omega) (by simp; omega) ?_
            intro v1 w4 hown1 hgrow1 hnil1
            simp only [Nat.zero_add, List.nil_append] at hown1
            obtain ⟨ao1, c1, rfl⟩ := own_any hown1
            have O1 : Hid (OwnH w4 w2.heap.size (.slice ao1 pn c1) P) := (by unfold OwnH; rw [EP.out]; exact hown1 : OwnH w4 w2.heap.size (.slice ao1 pn c1) P)
            have B1 := hide (Below.grown HBa.out hgrow1 (by simp; omega) (fun j hj => by cases hj; exact Nat.le_refl _))
            have R5 : Hid (w4.heap[w2.heap.size + 1]? = some (.cells zeroTp 28 (0, 0))) := by
              refine (?_ : w4.heap[w2.heap.size + 1]? = some (.cells zeroTp 28 (0, 0)))
              rw [hgrow1.block (w2.heap.size + 1) (by simp) (fun e => by have := Option.some.inj e; simp at this)]
              have hh : ((w2.alloc (.cells #[] 52)).alloc (.cells zeroTp 28)).heap[w2.heap.size + 1]? = some (.cells zeroTp 28 (0, 0)) := by simpa using heap_alloc_new (w2.alloc (.cells #[] 52)) (.cells zeroTp 28)
              exact hh
            clear hown1 hgrow1 hnil1
            refine hK.out _ _ (fun _ => B1.out) ?_
            clear hK K
            try simp only [Act.put, List.setIfInBounds_toArray, List.set_cons_zero, List.set_cons_succ]
            refine takeK (i := 14) (d := 39) (v := .agg #[.slice ao1 pn c1, .int .i64 (da + db), .int .i64 (ta + tb)]) rfl rfl (by kernel_rfl) (by kernel_rfl) (by kernel_rfl) (by decide) (by kernel_rfl) (fun _ _ _ h => h) (Or.inl ⟨by rfl, fun W hW => ?_⟩) B1.out ?_
            · clear hW
              go_simp
            simp only [List.setIfInBounds_toArray, List.set_cons_zero, List.set_cons_succ]
            obtain ⟨q0, q1, q2⟩ := cell3 R5.out
            have f0 := frozen_of_row w4 (w2.heap.size + 1) 0 _ _ R5.out
            have f1 := frozen_of_row w4 (w2.heap.size + 1) 1 _ _ R5.out
            have f2 := frozen_of_row w4 (w2.heap.size + 1) 2 _ _ R5.out
            have N1 := hide (O1.out.ne R5.out (by decide))
            refine oneK (i := 16) (by kernel_rfl) rfl (fun K hK => ?_)
            go_simp
            refine hK.out _ _ (fun h => absurd rfl h) ?_
            clear hK K
            try simp only [Act.put, List.setIfInBounds_toArray, List.set_cons_zero, List.set_cons_succ]
            refine doneK (by kernel_rfl) ?_ _
            exact REST _ _ _ _ _ (bel3 B1.out (by omega)) (by omega) (row3 R5.out) (((O1.out.set N1.out _).set N1.out _).set N1.out _)
        · go_simp
          have HBa := hide (Below.alloc (HS0 : Below w2.heap.size w2 w2.drew) (Nat.le_refl _) (.cells zeroTp 28))
          refine hK.out _ _ (fun _ => HBa.out) ?_
          clear hK K
          try simp only [Act.put, List.setIfInBounds_toArray, List.set_cons_zero, List.set_cons_succ]
          refine oneK (i := 0) (by kernel_rfl) rfl (fun K hK => ?_)
          go_simp
          have HMd : Hid (((w2.alloc (.cells zeroTp 28)).alloc (.cells #[] 52)).ownsRow w2.heap.size 52 2 (.slice (some ⟨w2.heap.size + 1, 0, none⟩) 0 0) 0 []) := by
            refine (?_ : ((w2.alloc (.cells zeroTp 28)).alloc (.cells #[] 52)).ownsRow w2.heap.size 52 2 (.slice (some ⟨w2.heap.size + 1, 0, none⟩) 0 0) 0 [])
            have h : ((w2.alloc (.cells zeroTp 28)).alloc (.cells #[] 52)).ownsRow w2.heap.size 52 2 (.slice (some ⟨(w2.alloc (.cells zeroTp 28)).heap.size, 0, none⟩) 0 0) 0 [] := World.ownsRow_made _ #[] 0 (by simp) (Nat.zero_le _) rfl
            simpa using h
          have HBe := hide (Below.alloc HBa.out (by simp) (.cells #[] 52))
          refine hK.out _ _ (fun _ => HBe.out) ?_
          clear hK K
          try simp only [Act.put, List.setIfInBounds_toArray, List.set_cons_zero, List.set_cons_succ]
          refine oneK (i := 3) (by kernel_rfl) rfl (fun K hK => ?_)
          rw [if_pos (by rfl)]
          refine wp_append_nilH _ (.tmp 25) (.tmp 27) 26 rfl w2.heap.size 52 i0 (.agg #[.string ByteArray.empty, .int .i64 0]) 2 24 Try.underlying26 hi hz0 hz1 hz2 rfl (by decide) _ _ _ rfl (HMd.out) pa pn pc (fl encH P) rfl (by rw [fl_len encH2, EP.out]) (fun e => ⟨by have := hvs_nil (e ▸ HP.out); rw [← EP.out, this]; rfl, CA.out e⟩) (fun A e => hvs_list (e ▸ hvs_past HP.out (chain HT2.out HBe.out))) (fl_oneH _) (by unfold maxLen; omega) (by omega) (by simp; omega) ?_
          intro v1 w4 hown1 hgrow1 hnil1
          simp only [Nat.zero_add, List.nil_append] at hown1
          obtain ⟨ao1, c1, rfl⟩ := own_any hown1
          have O1 : Hid (OwnH w4 w2.heap.size (.slice ao1 pn c1) P) := (by unfold OwnH; rw [EP.out]; exact hown1 : OwnH w4 w2.heap.size (.slice ao1 pn c1) P)
          have B1 := hide (Below.grown HBe.out hgrow1 (by simp; omega) (fun j hj => by cases hj; simp))
          have R5 : Hid (w4.heap[w2.heap.size]? = some (.cells zeroTp 28 (0, 0))) := by
            refine (?_ : w4.heap[w2.heap.size]? = some (.cells zeroTp 28 (0, 0)))
            rw [hgrow1.block w2.heap.size (by simp; omega) (fun e => by have := Option.some.inj e; simp at this)]
            have hbz : Below (w2.heap.size + 1) (w2.alloc (.cells zeroTp 28)) ((w2.alloc (.cells zeroTp 28)).alloc (.cells #[] 52)) := (Below.refl _ _).alloc (by simp) _
            have := hbz.block w2.heap.size (by omega)
            exact this.trans (heap_alloc_new w2 _)
          clear hown1 hgrow1 hnil1
          refine hK.out _ _ (fun _ => B1.out) ?_
          clear hK K
          try simp only [Act.put, List.setIfInBounds_toArray, List.set_cons_zero, List.set_cons_succ]
          refine takeK (i := 14) (d := 39) (v := .agg #[.slice ao1 pn c1, .int .i64 (da + db), .int .i64 (ta + tb)]) rfl rfl (by kernel_rfl) (by kernel_rfl) (by kernel_rfl) (by decide) (by kernel_rfl) (fun _ _ _ h => h) (Or.inl ⟨by rfl, fun W hW => ?_⟩) B1.out ?_
          · clear hW
            go_simp
          simp only [List.setIfInBounds_toArray, List.set_cons_zero, List.set_cons_succ]
          obtain ⟨q0, q1, q2⟩ := cell3 R5.out
          have f0 := frozen_of_row w4 w2.heap.size 0 _ _ R5.out
          have f1 := frozen_of_row w4 w2.heap.size 1 _ _ R5.out
          have f2 := frozen_of_row w4 w2.heap.size 2 _ _ R5.out
          have N1 := hide (O1.out.ne R5.out (by decide))
          refine oneK (i := 16) (by kernel_rfl) rfl (fun K hK => ?_)
          go_simp
          refine hK.out _ _ (fun h => absurd rfl h) ?_
          clear hK K
          try simp only [Act.put, List.setIfInBounds_toArray, List.set_cons_zero, List.set_cons_succ]
          refine doneK (by kernel_rfl) ?_ _
          exact REST _ _ _ _ _ (bel3 B1.out (Nat.le_refl _)) (Nat.le_refl _) (row3 R5.out) (((O1.out.set N1.out _).set N1.out _).set N1.out _)
      · have HNo : Hid (¬ tmOk P da ta M db tb) := fun h => hsum h.2.2
        have hdc : decide (1000000000000000 < ta + tb) = true := decide_eq_true (by omega)
        have R2 := HR2.out
        have HF := hide (zero_topout HT2.out R2 (by omega))
        obtain ⟨q0, q1, q2⟩ := cell3 R2
        have f0 := frozen_of_row w2 (w.heap.size + 1 + 1) 0 _ _ R2
        have f1 := frozen_of_row w2 (w.heap.size + 1 + 1) 1 _ _ R2
        have f2 := frozen_of_row w2 (w.heap.size + 1 + 1) 2 _ _ R2
        clear R2
        go_wp2
        refine bodyPost_ret (v := .agg #[.slice none 0 0, .int .i64 0, .int .i64 0]) (by simp [results, Try.results13, go_sem, q0, q1, q2]) rfl ⟨_, rfl, HF.out.2, .inr ⟨HNo.out, HF.out.1⟩⟩
end Go.Proofs.Ytmhojmgemiphkaa
