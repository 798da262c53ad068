/-
  A heavy put among heavies, as the model does.
-/
import Derived.Test.YtmhojmgemiphkaaLessC
namespace Go.Proofs.Ytmhojmgemiphkaa
set_option linter.unusedVariables false
set_option linter.unusedSimpArgs false
open Go.ChangeShapes Go.WideShapes Go.ChangeAt Go.RowKit Go.PlainAid
set_option maxRecDepth 10000

theorem wpList_append_nilH {P : Program} (w : World) {ops : Array Oper} {rest : List Oper} {o : Oper} {a : Act} {Q : Exit → Act → World → Prop} (hgd : o.guard = none) (s x : Operand) (t : TypeId)
    (ho : o.op = .call { callee := .builtin .append, args := #[s, x], argTypes := #[t, t] })
    (base : Nat) (e : TypeId) (i : TypeInfo) (z : Value) (size bytes : Nat) (ht : P.underlying t = some (.slice e)) (hi : P.info? e = some i) (hz : i.zero = some z)
    (hsize : i.size = size) (hby : i.bytes = bytes) (hzs : z.cells.size = size) (hsz : 0 < size)
    (v : Value) (n : Nat) (xs : List Value) (hs : a.eval s = v) (hown : w.ownsRow base e size v n xs)
    (xo : Option Addr) (m c : Nat) (news : List Value) (hx : a.eval x = .slice xo m c) (hl : news.length = m * size) (hno : xo = none → m = 0 ∧ c = 0) (hnews : ∀ ad, xo = some ad → ∀ j u, news[j]? = some u → w.cell? (ad.add j) = some u) (h1 : ∀ u ∈ news, u.oneCell' = true)
    (h63 : n + m ≤ maxLen) (hbytes : (n + m) * bytes ≤ 140737488355328) (hbase : base ≤ w.heap.size)
    (h : ∀ v' w', w'.ownsRow base e size v' (n + m) (xs ++ news) → w.grownBy w' v.ownBlock → (v' = .slice none 0 0 ↔ v = .slice none 0 0 ∧ m = 0) → wpList P ops Q rest (a.put o.dst v') w') : wpList P ops Q (o :: rest) a w := by
  cases xo with
  | some ad => exact wpList_append_own w hgd s x t ho base e i z size bytes ht hi hz hsize hby hzs hsz v n xs hs hown ad m c news hx hl (hnews ad rfl) h1 h63 hbytes hbase h
  | none =>
    obtain ⟨rfl, rfl⟩ := hno rfl
    obtain rfl : news = [] := List.eq_nil_of_length_eq_zero (by rw [hl, Nat.zero_mul])
    refine wpList_plain hgd fun _ hK => ?_
    have hr := run_append_owned_none (P := P) (w := w) base t o.type e i size ht hi v n xs hown
    unfold Oper.wp execOp
    simp only [ho, resolve, invoke, builtin, Sem.run_bind, Sem.run_pure, Result.andThen_ok, List.map_toArray, List.map_cons, List.map_nil, hs, hx, hr]
    exact hK _ _ (h v w (by rw [Nat.add_zero, List.append_nil]; exact hown) (World.grownBy.refl _ _) (by simp))

theorem op_lssH (t : TypeId) (a b : ByteArray) : binOp .lss t (.string a) (.string b) = pure (.bool (strLt a b)) := by simp [binOp, Op.stringOp, strLt]
theorem hvs_take {w : World} {b off : Nat} {L : List Hv} (k : Nat) (h : HvsAt w (some ⟨b, off, none⟩) L) : HvsAt w (some ⟨b, off, none⟩) (L.take k) := fun h0 => by
  obtain ⟨b', off', e, hc⟩ := h (by rw [List.length_take] at h0; omega)
  exact ⟨b', off', e, fun i x hx => hc i x (by rw [List.getElem?_take] at hx; split at hx; exact hx; cases hx)⟩
theorem hvs_drop {w : World} {b off : Nat} {L : List Hv} (k : Nat) (h : HvsAt w (some ⟨b, off, none⟩) L) : HvsAt w (some ⟨b, off + k * 2, none⟩) (L.drop k) := fun h0 => by
  obtain ⟨b', off', e, hc⟩ := h (by rw [List.length_drop] at h0; omega)
  cases e
  exact ⟨b, off + k * 2, rfl, fun i x hx => by
    rw [List.getElem?_drop] at hx
    have := hc (k + i) x hx
    rw [show off + k * 2 + i * 2 = off + (k + i) * 2 by rw [Nat.add_mul]; omega]
    exact this⟩
/-- The place of a key: all ahead of it stand ahead of the key, and what stands there does not. -/
def FirstK (L : List Hv) (p : ByteArray) (k : Nat) : Prop := k ≤ L.length ∧ (∀ (t : Nat) (x : Hv), L[t]? = some x → t < k → strLt x.1 p = true) ∧ ∀ x, L[k]? = some x → strLt x.1 p = false
theorem firstK_tail {y : Hv} {r : List Hv} {p : ByteArray} {k : Nat} (h : FirstK (y :: r) p (k + 1)) : FirstK r p k :=
  ⟨by have := h.1; simp at this; exact this, fun t x hx ht => h.2.1 (t + 1) x (by simpa using hx) (by omega), fun x hx => h.2.2 x (by simpa using hx)⟩
theorem add_eqK {a : ByteArray} {u c : Int} : ∀ (L : List Hv) (k : Nat), FirstK L a k → L[k]? = some (a, c) → hvAdd L (a, u) = L.take k ++ (a, c + u) :: L.drop (k + 1)
  | [], k, _, h => by simp at h
  | y :: r, 0, hp, h => by
    obtain rfl : y = (a, c) := by simpa using h
    have : strLt a a = false := strLt_irr a
    simp [hvAdd, this]
  | y :: r, k + 1, hp, h => by
    have hy := hp.2.1 0 y rfl (by omega)
    rw [hvAdd, if_pos hy, add_eqK r k (firstK_tail hp) (by simpa using h)]; rfl
theorem add_newK {a : ByteArray} {u : Int} : ∀ (L : List Hv) (k : Nat), FirstK L a k → (∀ x, L[k]? = some x → x.1 ≠ a) → hvAdd L (a, u) = L.take k ++ (a, u) :: L.drop k
  | [], k, hp, h => by have := hp.1; simp at this; subst this; rfl
  | y :: r, 0, hp, h => by
    have hy := hp.2.2 y rfl
    have hne : y.1 ≠ a := h y rfl
    rw [hvAdd, if_neg (by show ¬ strLt y.1 a = true; rw [hy]; decide), if_neg hne]; rfl
  | y :: r, k + 1, hp, h => by
    have hy := hp.2.1 0 y rfl (by omega)
    rw [hvAdd, if_pos hy, add_newK r k (firstK_tail hp) (fun x hx => h x (by simpa using hx))]; rfl

set_option maxHeartbeats 4000000 in
theorem c_s_l05Add {w : World} {n c : Nat} {ao : Option Addr} {L : List Hv} (a : ByteArray) (u : Int) (hn : L.length = n) (hl : n ≤ 1000) (hcap : n ≤ c) (hcm : c ≤ maxLen) (hno : ao = none → c = 0) (hs : ∀ x ∈ L, I64 (x.2 + u)) (hA : HvsAt w ao L) :
    Calls Try.prog 24 #[.slice ao n c, .string a, .int .i64 u] w fun e w' => ∃ v, e = .returned v ∧ OwnH w' w.heap.size v (hvAdd L (a, u)) ∧ Below w.heap.size w w' := by
  obtain ⟨i0, hi, hz0, hz1, hz2⟩ := info_parts infoHeavy
  have hls := op_lssH 9
  have HA := hide hA
  have HN := hide hn
  have HS := hide hs
  have HNo := hide hno
  unfold maxLen at hcm
  clear hA hn hs hno
  go_enter Try.func24, Try.ntmps24
  go_wp2
  go_loop [7] (fun i => ∃ k : Nat, k ≤ n ∧ i = .int .i64 k ∧ Hid (∀ (t : Nat) (x : Hv), L[t]? = some x → t < k → strLt x.1 a = true)) (fun i => n - (intOf i).toNat)
  case atStart => exact ⟨0, Nat.zero_le _, rfl, (fun t x _ h => absurd h (by omega) : ∀ (t : Nat) (x : Hv), L[t]? = some x → t < 0 → strLt x.1 a = true)⟩
  case round =>
    obtain ⟨k, hk, rfl, HF⟩ := hrel
    have hrest : k < n → ∃ b off y, ao = some ⟨b, off, none⟩ ∧ L[k]? = some y ∧ w.cell? ⟨b, off + k * 2, none⟩ = some (.string y.1) ∧ w.cell? ⟨b, off + k * 2 + 1, none⟩ = some (.int .i64 y.2) := fun h => by
      obtain ⟨b, off, e, hcell⟩ := HA.out (by have := HN.out; omega)
      obtain ⟨y, hy⟩ : ∃ y, L[k]? = some y := ⟨L[k]'(by have := HN.out; omega), List.getElem?_eq_getElem _⟩
      exact ⟨b, off, y, e, hy, (hcell k y hy).1, (hcell k y hy).2⟩
    by_cases hkn : k < n
    · obtain ⟨b, off, ⟨q, x⟩, rfl, hRk, hc0, hc1⟩ := hrest hkn
      simp only at hc0 hc1
      cases hlt : strLt q a with
      | true =>
        have HF2 : Hid (∀ (t : Nat) (x : Hv), L[t]? = some x → t < k + 1 → strLt x.1 a = true) := (fun t z hz ht => by
          by_cases e : t = k
          · subst e; rw [hRk] at hz; obtain rfl := Option.some.inj hz; exact hlt
          · exact HF.out t z hz (by omega) : ∀ (t : Nat) (x : Hv), L[t]? = some x → t < k + 1 → strLt x.1 a = true)
        clear hRk hrest
        go_wp2
        go_round
        case rel => exact ⟨k + 1, by omega, by go_num, HF2⟩
        case measure => simp [intOf]; omega
      | false =>
        have HK : Hid (FirstK L a k) := (⟨by have := HN.out; omega, HF.out, fun z hz => by rw [hRk] at hz; obtain rfl := Option.some.inj hz; exact hlt⟩ : FirstK L a k)
        have HRk := hide hRk
        clear hRk hrest HF
        cases heq : (q.toList == a.toList) with
        | true =>
          have heq2 : a = q := (str_ext heq).symm
          subst heq2
          have hxu : I64 (x + u) := HS.out _ (List.mem_of_getElem? HRk.out)
          unfold I64 at hxu
          have hw : IntKind.i64.wrap (x + u) = x + u := IntWalk.i64_in _ ⟨by omega, by omega⟩
          have hw1 : IntKind.i64.wrap ((k : Int) + 1) = (k : Int) + 1 := by rw [IntKind.wrap_i64]; omega
          have htn : ((k : Int) + 1).toNat = k + 1 := by omega
          have hb1 : (0 : Int) ≤ (k : Int) + 1 := by omega
          have hb3 : (k : Int) + 1 ≤ (n : Int) := by omega
          by_cases hce : c = k + 1
          · subst hce
            have hn1 : n = k + 1 := by omega
            have hn0 : k + 1 - (k + 1) = 0 := by omega
            subst hn1
            go_wp2_with (first
              | (at_builtin; refine wpList_append_own _ rfl (.tmp 24) (.tmp 27) 26 rfl w.heap.size 52 i0 (.agg #[.string ByteArray.empty, .int .i64 0]) 2 24 Try.underlying26 hi hz0 hz1 hz2 rfl (by decide) _ _ _ rfl (World.ownsRow_made _ #[] 0 (Nat.le_refl _) (Nat.zero_le _) rfl) ⟨b, off, none⟩ k (k + 1) (fl encH (L.take k)) rfl (by rw [fl_len encH2, List.length_take]; have := HN.out; omega) (hvs_list (hvs_past (hvs_take k HA.out) ((Below.refl _ _).alloc (Nat.le_refl _) _))) (fl_oneH _) (by unfold maxLen; omega) (by omega) (by simp) ?_; intro v1 w1 hown hgrow hnil; simp only [Nat.zero_add, List.nil_append] at hown; obtain ⟨ao1, c1, rfl⟩ := own_any hown; have O1 := hide hown; have B1 := hide (((Below.refl w.heap.size w).alloc (Nat.le_refl _) _).grown hgrow (by simp) (fun j hj => by cases hj; exact Nat.le_refl _)); have y0 := cell_past B1.out hc0; have y1 := cell_past B1.out hc1; clear hown hgrow hnil)
              | (at_builtin; refine wpList_append_own _ rfl (.tmp 42) (.tmp 52) 26 rfl w.heap.size 52 i0 (.agg #[.string ByteArray.empty, .int .i64 0]) 2 24 Try.underlying26 hi hz0 hz1 hz2 rfl (by decide) _ _ _ rfl (own_past O1.out ((Below.refl _ _).alloc (Nat.le_refl _) _)) ⟨w1.heap.size, 0, none⟩ 1 1 (encH (a, x + u)) rfl rfl (new_cells (cs := #[.string a, .int .i64 (x + u)]) rfl) (encH_one _) (by unfold maxLen; omega) (by omega) (by simp; have := B1.out.size; omega) ?_; intro v2 w2 hown hgrow hnil; obtain ⟨ao2, c2, rfl⟩ := own_any hown; have O2 := hide hown; have B2 := hide ((B1.out.alloc B1.out.size _).grown hgrow (by simp; have := B1.out.size; omega) (fun j hj => (O1.out.lt j hj).1)); clear hown hgrow hnil)
              | (at_builtin; refine wpList_append_nilH _ rfl (.tmp 54) (.tmp 58) 26 rfl w.heap.size 52 i0 (.agg #[.string ByteArray.empty, .int .i64 0]) 2 24 Try.underlying26 hi hz0 hz1 hz2 rfl (by decide) _ _ _ rfl O2.out (some ⟨b, off, none⟩) 0 0 [] rfl rfl (fun e => by cases e) (fun A _ j z hz => by simp at hz) (fun u hu => absurd hu List.not_mem_nil) (by unfold maxLen; omega) (by omega) (by have := B2.out.size; omega) ?_; intro v3 w3 hown hgrow hnil; obtain ⟨ao3, c3, rfl⟩ := own_any hown; have O3 := hide hown; have B3 := hide (B2.out.grown hgrow B2.out.size (fun j hj => (O2.out.lt j hj).1)); clear hown hgrow hnil))
            go_ret
            refine ⟨_, rfl, ?_, B3.out⟩
            unfold OwnH
            have hdr : L.drop (k + 1) = [] := List.drop_eq_nil_of_le (by have := HN.out; omega)
            have e : fl encH (L.take k) ++ encH (a, x + u) ++ [] = fl encH (hvAdd L (a, u)) := by
              rw [add_eqK L k HK.out HRk.out, fl_app, fl_cons, hdr]; simp [fl]
            have el : (hvAdd L (a, u)).length = k + 1 + 0 := by
              rw [add_eqK L k HK.out HRk.out]
              have := HN.out
              simp
              omega
            rw [← e, el]
            exact O3.out
          · go_wp2_with (first
              | (at_builtin; refine wpList_append_own _ rfl (.tmp 24) (.tmp 27) 26 rfl w.heap.size 52 i0 (.agg #[.string ByteArray.empty, .int .i64 0]) 2 24 Try.underlying26 hi hz0 hz1 hz2 rfl (by decide) _ _ _ rfl (World.ownsRow_made _ #[] 0 (Nat.le_refl _) (Nat.zero_le _) rfl) ⟨b, off, none⟩ k c (fl encH (L.take k)) rfl (by rw [fl_len encH2, List.length_take]; have := HN.out; omega) (hvs_list (hvs_past (hvs_take k HA.out) ((Below.refl _ _).alloc (Nat.le_refl _) _))) (fl_oneH _) (by unfold maxLen; omega) (by omega) (by simp) ?_; intro v1 w1 hown hgrow hnil; simp only [Nat.zero_add, List.nil_append] at hown; obtain ⟨ao1, c1, rfl⟩ := own_any hown; have O1 := hide hown; have B1 := hide (((Below.refl w.heap.size w).alloc (Nat.le_refl _) _).grown hgrow (by simp) (fun j hj => by cases hj; exact Nat.le_refl _)); have y0 := cell_past B1.out hc0; have y1 := cell_past B1.out hc1; clear hown hgrow hnil)
              | (at_builtin; refine wpList_append_own _ rfl (.tmp 42) (.tmp 52) 26 rfl w.heap.size 52 i0 (.agg #[.string ByteArray.empty, .int .i64 0]) 2 24 Try.underlying26 hi hz0 hz1 hz2 rfl (by decide) _ _ _ rfl (own_past O1.out ((Below.refl _ _).alloc (Nat.le_refl _) _)) ⟨w1.heap.size, 0, none⟩ 1 1 (encH (a, x + u)) rfl rfl (new_cells (cs := #[.string a, .int .i64 (x + u)]) rfl) (encH_one _) (by unfold maxLen; omega) (by omega) (by simp; have := B1.out.size; omega) ?_; intro v2 w2 hown hgrow hnil; obtain ⟨ao2, c2, rfl⟩ := own_any hown; have O2 := hide hown; have B2 := hide ((B1.out.alloc B1.out.size _).grown hgrow (by simp; have := B1.out.size; omega) (fun j hj => (O1.out.lt j hj).1)); clear hown hgrow hnil)
              | (at_builtin; refine wpList_append_nilH _ rfl (.tmp 54) (.tmp 58) 26 rfl w.heap.size 52 i0 (.agg #[.string ByteArray.empty, .int .i64 0]) 2 24 Try.underlying26 hi hz0 hz1 hz2 rfl (by decide) _ _ _ rfl O2.out (some ⟨b, off + (k + 1) * 2, none⟩) (n - (k + 1)) (c - (k + 1)) (fl encH (L.drop (k + 1))) rfl (by rw [fl_len encH2, List.length_drop]; have := HN.out; omega) (fun e => by cases e) (fun A e => by cases e; exact hvs_list (hvs_past (hvs_drop (k + 1) HA.out) B2.out)) (fl_oneH _) (by unfold maxLen; omega) (by omega) (by have := B2.out.size; omega) ?_; intro v3 w3 hown hgrow hnil; obtain ⟨ao3, c3, rfl⟩ := own_any hown; have O3 := hide hown; have B3 := hide (B2.out.grown hgrow B2.out.size (fun j hj => (O2.out.lt j hj).1)); clear hown hgrow hnil))
            all_goals
              go_ret
              refine ⟨_, rfl, ?_, B3.out⟩
              unfold OwnH
              have e : fl encH (L.take k) ++ encH (a, x + u) ++ fl encH (L.drop (k + 1)) = fl encH (hvAdd L (a, u)) := by
                rw [add_eqK L k HK.out HRk.out, fl_app, fl_cons, List.append_assoc]
              have el : (hvAdd L (a, u)).length = k + 1 + (n - (k + 1)) := by
                rw [add_eqK L k HK.out HRk.out]
                have := HN.out
                simp
                omega
              rw [← e, el]
              exact O3.out
        | false =>
          have hne : ∀ z, L[k]? = some z → z.1 ≠ a := fun z hz e => by
            rw [HRk.out] at hz; obtain rfl := Option.some.inj hz
            have e : q = a := e
            subst e
            simp at heq
          have HNe := hide hne
          clear hne
          have hck : ¬ (c = k) := by omega
          go_wp2_with (first
            | (at_builtin; refine wpList_append_own _ rfl (.tmp 24) (.tmp 27) 26 rfl w.heap.size 52 i0 (.agg #[.string ByteArray.empty, .int .i64 0]) 2 24 Try.underlying26 hi hz0 hz1 hz2 rfl (by decide) _ _ _ rfl (World.ownsRow_made _ #[] 0 (Nat.le_refl _) (Nat.zero_le _) rfl) ⟨b, off, none⟩ k c (fl encH (L.take k)) rfl (by rw [fl_len encH2, List.length_take]; have := HN.out; omega) (hvs_list (hvs_past (hvs_take k HA.out) ((Below.refl _ _).alloc (Nat.le_refl _) _))) (fl_oneH _) (by unfold maxLen; omega) (by omega) (by simp) ?_; intro v1 w1 hown hgrow hnil; simp only [Nat.zero_add, List.nil_append] at hown; obtain ⟨ao1, c1, rfl⟩ := own_any hown; have O1 := hide hown; have B1 := hide (((Below.refl w.heap.size w).alloc (Nat.le_refl _) _).grown hgrow (by simp) (fun j hj => by cases hj; exact Nat.le_refl _)); have y0 := cell_past B1.out hc0; have y1 := cell_past B1.out hc1; clear hown hgrow hnil)
            | (at_builtin; refine wpList_append_own _ rfl (.tmp 60) (.tmp 64) 26 rfl w.heap.size 52 i0 (.agg #[.string ByteArray.empty, .int .i64 0]) 2 24 Try.underlying26 hi hz0 hz1 hz2 rfl (by decide) _ _ _ rfl (own_past O1.out ((Below.refl _ _).alloc (Nat.le_refl _) _)) ⟨w1.heap.size, 0, none⟩ 1 1 (encH (a, u)) rfl rfl (new_cells (cs := #[.string a, .int .i64 (u)]) rfl) (encH_one _) (by unfold maxLen; omega) (by omega) (by simp; have := B1.out.size; omega) ?_; intro v2 w2 hown hgrow hnil; obtain ⟨ao2, c2, rfl⟩ := own_any hown; have O2 := hide hown; have B2 := hide ((B1.out.alloc B1.out.size _).grown hgrow (by simp; have := B1.out.size; omega) (fun j hj => (O1.out.lt j hj).1)); clear hown hgrow hnil)
            | (at_builtin; refine wpList_append_nilH _ rfl (.tmp 66) (.tmp 69) 26 rfl w.heap.size 52 i0 (.agg #[.string ByteArray.empty, .int .i64 0]) 2 24 Try.underlying26 hi hz0 hz1 hz2 rfl (by decide) _ _ _ rfl O2.out (some ⟨b, off + k * 2, none⟩) (n - k) (c - k) (fl encH (L.drop k)) rfl (by rw [fl_len encH2, List.length_drop]; have := HN.out; omega) (fun e => by cases e) (fun A e => by cases e; exact hvs_list (hvs_past (hvs_drop k HA.out) B2.out)) (fl_oneH _) (by unfold maxLen; omega) (by omega) (by have := B2.out.size; omega) ?_; intro v3 w3 hown hgrow hnil; obtain ⟨ao3, c3, rfl⟩ := own_any hown; have O3 := hide hown; have B3 := hide (B2.out.grown hgrow B2.out.size (fun j hj => (O2.out.lt j hj).1)); clear hown hgrow hnil))
          all_goals
            go_ret
            refine ⟨_, rfl, ?_, B3.out⟩
            unfold OwnH
            have e : fl encH (L.take k) ++ encH (a, u) ++ fl encH (L.drop k) = fl encH (hvAdd L (a, u)) := by
              rw [add_newK L k HK.out HNe.out, fl_app, fl_cons, List.append_assoc]
            have el : (hvAdd L (a, u)).length = k + 1 + (n - k) := by
              rw [add_newK L k HK.out HNe.out]
              have := HN.out
              simp
              omega
            rw [← e, el]
            exact O3.out
    · have hkn2 : k = n := by omega
      subst hkn2
      have HK : Hid (FirstK L a k) := (⟨by have := HN.out; omega, HF.out, fun z hz => absurd (List.getElem?_eq_some_iff.1 hz).1 (by have := HN.out; omega)⟩ : FirstK L a k)
      have hnew : hvAdd L (a, u) = L ++ [(a, u)] := by
        rw [add_newK L k HK.out (fun z hz => absurd (List.getElem?_eq_some_iff.1 hz).1 (by have := HN.out; omega)), List.take_of_length_le (by have := HN.out; omega), List.drop_eq_nil_of_le (by have := HN.out; omega)]
      have HE : Hid (fl encH (hvAdd L (a, u)) = fl encH L ++ encH (a, u)) := (by rw [hnew, fl_app, fl_one] : fl encH (hvAdd L (a, u)) = fl encH L ++ encH (a, u))
      have HEl : Hid ((hvAdd L (a, u)).length = k + 1) := (by rw [hnew]; have := HN.out; simp; omega : (hvAdd L (a, u)).length = k + 1)
      clear hnew hrest HK HF
      cases ao with
      | none =>
        have h0 : c = 0 := HNo.out rfl
        subst h0
        have hk0 : k = 0 := by omega
        subst hk0
        go_wp2_with (first
          | (at_builtin; refine wpList_append_nilH _ rfl (.tmp 24) (.tmp 27) 26 rfl w.heap.size 52 i0 (.agg #[.string ByteArray.empty, .int .i64 0]) 2 24 Try.underlying26 hi hz0 hz1 hz2 rfl (by decide) _ _ _ rfl (World.ownsRow_made _ #[] 0 (Nat.le_refl _) (Nat.zero_le _) rfl) none 0 0 (fl encH L) rfl (by rw [fl_len encH2]; have := HN.out; omega) (fun e => ⟨rfl, rfl⟩) (fun A e => by cases e) (fl_oneH _) (by unfold maxLen; omega) (by omega) (by simp) ?_; intro v1 w1 hown hgrow hnil; simp only [Nat.zero_add, List.nil_append] at hown; obtain ⟨ao1, c1, rfl⟩ := own_any hown; have O1 := hide hown; have B1 := hide (((Below.refl w.heap.size w).alloc (Nat.le_refl _) _).grown hgrow (by simp) (fun j hj => by cases hj; exact Nat.le_refl _)); clear hown hgrow hnil)
          | (at_builtin; refine wpList_append_own _ rfl (.tmp 60) (.tmp 64) 26 rfl w.heap.size 52 i0 (.agg #[.string ByteArray.empty, .int .i64 0]) 2 24 Try.underlying26 hi hz0 hz1 hz2 rfl (by decide) _ _ _ rfl (own_past O1.out ((Below.refl _ _).alloc (Nat.le_refl _) _)) ⟨w1.heap.size, 0, none⟩ 1 1 (encH (a, u)) rfl rfl (new_cells (cs := #[.string a, .int .i64 (u)]) rfl) (encH_one _) (by unfold maxLen; omega) (by omega) (by simp; have := B1.out.size; omega) ?_; intro v2 w2 hown hgrow hnil; obtain ⟨ao2, c2, rfl⟩ := own_any hown; have O2 := hide hown; have B2 := hide ((B1.out.alloc B1.out.size _).grown hgrow (by simp; have := B1.out.size; omega) (fun j hj => (O1.out.lt j hj).1)); clear hown hgrow hnil)
          | (at_builtin; refine wpList_append_nilH _ rfl (.tmp 66) (.tmp 69) 26 rfl w.heap.size 52 i0 (.agg #[.string ByteArray.empty, .int .i64 0]) 2 24 Try.underlying26 hi hz0 hz1 hz2 rfl (by decide) _ _ _ rfl O2.out none 0 0 [] rfl rfl (fun e => ⟨rfl, rfl⟩) (fun A e => by cases e) (fun u hu => absurd hu List.not_mem_nil) (by unfold maxLen; omega) (by omega) (by have := B2.out.size; omega) ?_; intro v3 w3 hown hgrow hnil; obtain ⟨ao3, c3, rfl⟩ := own_any hown; have O3 := hide hown; have B3 := hide (B2.out.grown hgrow B2.out.size (fun j hj => (O2.out.lt j hj).1)); clear hown hgrow hnil))
        all_goals
          go_ret
          refine ⟨_, rfl, ?_, B3.out⟩
          unfold OwnH
          have e : fl encH L ++ encH (a, u) ++ [] = fl encH (hvAdd L (a, u)) := by rw [HE.out, List.append_nil]
          have el : (hvAdd L (a, u)).length = 0 + 1 + 0 := by rw [HEl.out]
          rw [← e, el]
          exact O3.out
      | some A =>
        by_cases hck : c = k
        · subst hck
          go_wp2_with (first
            | (at_builtin; refine wpList_append_nilH _ rfl (.tmp 24) (.tmp 27) 26 rfl w.heap.size 52 i0 (.agg #[.string ByteArray.empty, .int .i64 0]) 2 24 Try.underlying26 hi hz0 hz1 hz2 rfl (by decide) _ _ _ rfl (World.ownsRow_made _ #[] 0 (Nat.le_refl _) (Nat.zero_le _) rfl) (some A) c c (fl encH L) rfl (by rw [fl_len encH2]; have := HN.out; omega) (fun e => by cases e) (fun A e => by cases e; exact hvs_list (hvs_past HA.out ((Below.refl _ _).alloc (Nat.le_refl _) _))) (fl_oneH _) (by unfold maxLen; omega) (by omega) (by simp) ?_; intro v1 w1 hown hgrow hnil; simp only [Nat.zero_add, List.nil_append] at hown; obtain ⟨ao1, c1, rfl⟩ := own_any hown; have O1 := hide hown; have B1 := hide (((Below.refl w.heap.size w).alloc (Nat.le_refl _) _).grown hgrow (by simp) (fun j hj => by cases hj; exact Nat.le_refl _)); clear hown hgrow hnil)
            | (at_builtin; refine wpList_append_own _ rfl (.tmp 60) (.tmp 64) 26 rfl w.heap.size 52 i0 (.agg #[.string ByteArray.empty, .int .i64 0]) 2 24 Try.underlying26 hi hz0 hz1 hz2 rfl (by decide) _ _ _ rfl (own_past O1.out ((Below.refl _ _).alloc (Nat.le_refl _) _)) ⟨w1.heap.size, 0, none⟩ 1 1 (encH (a, u)) rfl rfl (new_cells (cs := #[.string a, .int .i64 (u)]) rfl) (encH_one _) (by unfold maxLen; omega) (by omega) (by simp; have := B1.out.size; omega) ?_; intro v2 w2 hown hgrow hnil; obtain ⟨ao2, c2, rfl⟩ := own_any hown; have O2 := hide hown; have B2 := hide ((B1.out.alloc B1.out.size _).grown hgrow (by simp; have := B1.out.size; omega) (fun j hj => (O1.out.lt j hj).1)); clear hown hgrow hnil)
            | (at_builtin; refine wpList_append_nilH _ rfl (.tmp 66) (.tmp 69) 26 rfl w.heap.size 52 i0 (.agg #[.string ByteArray.empty, .int .i64 0]) 2 24 Try.underlying26 hi hz0 hz1 hz2 rfl (by decide) _ _ _ rfl O2.out _ 0 _ [] rfl rfl (fun e => by cases e) (fun A _ j z hz => by simp at hz) (fun u hu => absurd hu List.not_mem_nil) (by unfold maxLen; omega) (by omega) (by have := B2.out.size; omega) ?_; intro v3 w3 hown hgrow hnil; obtain ⟨ao3, c3, rfl⟩ := own_any hown; have O3 := hide hown; have B3 := hide (B2.out.grown hgrow B2.out.size (fun j hj => (O2.out.lt j hj).1)); clear hown hgrow hnil))
          all_goals
            go_ret
            refine ⟨_, rfl, ?_, B3.out⟩
            unfold OwnH
            have e : fl encH L ++ encH (a, u) ++ [] = fl encH (hvAdd L (a, u)) := by rw [HE.out, List.append_nil]
            have el : (hvAdd L (a, u)).length = c + 1 + 0 := by rw [HEl.out]
            rw [← e, el]
            exact O3.out
        · go_wp2_with (first
            | (at_builtin; refine wpList_append_nilH _ rfl (.tmp 24) (.tmp 27) 26 rfl w.heap.size 52 i0 (.agg #[.string ByteArray.empty, .int .i64 0]) 2 24 Try.underlying26 hi hz0 hz1 hz2 rfl (by decide) _ _ _ rfl (World.ownsRow_made _ #[] 0 (Nat.le_refl _) (Nat.zero_le _) rfl) (some A) k c (fl encH L) rfl (by rw [fl_len encH2]; have := HN.out; omega) (fun e => by cases e) (fun A e => by cases e; exact hvs_list (hvs_past HA.out ((Below.refl _ _).alloc (Nat.le_refl _) _))) (fl_oneH _) (by unfold maxLen; omega) (by omega) (by simp) ?_; intro v1 w1 hown hgrow hnil; simp only [Nat.zero_add, List.nil_append] at hown; obtain ⟨ao1, c1, rfl⟩ := own_any hown; have O1 := hide hown; have B1 := hide (((Below.refl w.heap.size w).alloc (Nat.le_refl _) _).grown hgrow (by simp) (fun j hj => by cases hj; exact Nat.le_refl _)); clear hown hgrow hnil)
            | (at_builtin; refine wpList_append_own _ rfl (.tmp 60) (.tmp 64) 26 rfl w.heap.size 52 i0 (.agg #[.string ByteArray.empty, .int .i64 0]) 2 24 Try.underlying26 hi hz0 hz1 hz2 rfl (by decide) _ _ _ rfl (own_past O1.out ((Below.refl _ _).alloc (Nat.le_refl _) _)) ⟨w1.heap.size, 0, none⟩ 1 1 (encH (a, u)) rfl rfl (new_cells (cs := #[.string a, .int .i64 (u)]) rfl) (encH_one _) (by unfold maxLen; omega) (by omega) (by simp; have := B1.out.size; omega) ?_; intro v2 w2 hown hgrow hnil; obtain ⟨ao2, c2, rfl⟩ := own_any hown; have O2 := hide hown; have B2 := hide ((B1.out.alloc B1.out.size _).grown hgrow (by simp; have := B1.out.size; omega) (fun j hj => (O1.out.lt j hj).1)); clear hown hgrow hnil)
            | (at_builtin; refine wpList_append_nilH _ rfl (.tmp 66) (.tmp 69) 26 rfl w.heap.size 52 i0 (.agg #[.string ByteArray.empty, .int .i64 0]) 2 24 Try.underlying26 hi hz0 hz1 hz2 rfl (by decide) _ _ _ rfl O2.out _ 0 _ [] rfl rfl (fun e => by cases e) (fun A _ j z hz => by simp at hz) (fun u hu => absurd hu List.not_mem_nil) (by unfold maxLen; omega) (by omega) (by have := B2.out.size; omega) ?_; intro v3 w3 hown hgrow hnil; obtain ⟨ao3, c3, rfl⟩ := own_any hown; have O3 := hide hown; have B3 := hide (B2.out.grown hgrow B2.out.size (fun j hj => (O2.out.lt j hj).1)); clear hown hgrow hnil))
          all_goals
            go_ret
            refine ⟨_, rfl, ?_, B3.out⟩
            unfold OwnH
            have e : fl encH L ++ encH (a, u) ++ [] = fl encH (hvAdd L (a, u)) := by rw [HE.out, List.append_nil]
            have el : (hvAdd L (a, u)).length = k + 1 + 0 := by rw [HEl.out]
            rw [← e, el]
            exact O3.out
end Go.Proofs.Ytmhojmgemiphkaa
