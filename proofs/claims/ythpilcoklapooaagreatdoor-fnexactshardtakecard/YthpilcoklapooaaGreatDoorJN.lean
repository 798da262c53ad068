/-
  A drawn region where one of two may come up.
-/
import Derived.Test.YthpilcoklapooaaGreatDoorKG
import Derived.Test.YthpilcoklapooaaGreatDoorJM
namespace Go.Proofs.YthpilcoklapooaaGreatDoor
set_option linter.unusedVariables false
theorem twoK {P : Program} {md : Region.Mode} {ops : Array Oper} {Q : Exit → Act → World → Prop} {S : World → Prop} {k i j : Nat} {oi oj : Oper} {fuel : Nat} {listed : Array Bool} {a : Act} {w : World} (hr : Region.ready md ops listed = [i, j]) (hi : ops[i]? = some oi) (hj : ops[j]? = some oj)
    (h : ∀ K' : Act → World → Prop, Shut (∀ a w, (i ≠ k → S w) → wpAnyK P md ops Q S k fuel (listed.setIfInBounds i true) a w → K' a w) → if Region.wanted oi (yielded ops a.tmps) = true then Oper.wp P oi a w K' Q else K' (a.put oi.dst undef) w)
    (h' : ∀ K' : Act → World → Prop, Shut (∀ a w, (j ≠ k → S w) → wpAnyK P md ops Q S k fuel (listed.setIfInBounds j true) a w → K' a w) → if Region.wanted oj (yielded ops a.tmps) = true then Oper.wp P oj a w K' Q else K' (a.put oj.dst undef) w) :
    wpAnyK P md ops Q S k (fuel + 1) listed a w := by
  refine ⟨fun h0 => (by rw [hr] at h0; cases h0), fun q hq => ?_⟩
  rw [hr] at hq
  have : q = i ∨ q = j := by simpa using hq
  rcases this with rfl | rfl
  · exact wpOp_step hi (fun K' hK => h K' (fun a w hS hW => hK a w ⟨hS, hW⟩))
  · exact wpOp_step hj (fun K' hK => h' K' (fun a w hS hW => hK a w ⟨hS, hW⟩))
end Go.Proofs.YthpilcoklapooaaGreatDoor

/-
  The model's sketch of how many: a hash put among rising ones (l04Exact). (Written by tools/gen_hmc.py.)
-/
namespace Go.Proofs.YthpilcoklapooaaGreatDoor
set_option linter.unusedVariables false
set_option linter.unusedSimpArgs false
open Go.ChangeShapes Go.WideShapes Go.ChangeAt Go.RowKit Go.PlainAid Go.Maps
set_option maxRecDepth 10000

/-- The place of a hash among rising ones. -/
def FirstU (L : List Int) (p : Int) (k : Nat) : Prop := k ≤ L.length ∧ (∀ (t : Nat) (x : Int), L[t]? = some x → t < k → x < p) ∧ ∀ x, L[k]? = some x → ¬ x < p
theorem nums_nw {kd : IntKind} {w : World} {ao : Option Addr} {L : List Int} (h : NumsAt kd w ao L) : ∀ ad, ao = some ad → ∀ j u, (L.map (Value.int kd))[j]? = some u → w.cell? (ad.add j) = some u := fun ad e j u hu => by
  rw [List.getElem?_map] at hu
  obtain ⟨x, hx, rfl⟩ := Option.map_eq_some_iff.1 hu
  obtain ⟨b, off, e2, hc⟩ := h (by have := (List.getElem?_eq_some_iff.1 hx).1; omega)
  rw [e] at e2; cases e2
  rw [Addr.add_lit]; exact hc j x hx
theorem one_map (kd : IntKind) (L : List Int) : ∀ u ∈ L.map (Value.int kd), u.oneCell' = true := fun u hu => by
  simp at hu; obtain ⟨x, _, rfl⟩ := hu; rfl
theorem own_ltB {w : World} {B n : Nat} {e : TypeId} {s : Nat} {v : Value} {xs : List Value} (h : w.ownsRow B e s v n xs) : ∀ k, v.ownBlock = some k → B ≤ k := fun k hk => by
  rcases h.2 with ⟨rfl, _⟩ | ⟨g, c, _, rfl, h1, _⟩
  · cases hk
  · have : g = k := Option.some.inj hk
    omega
end Go.Proofs.YthpilcoklapooaaGreatDoor

/-
  The model's sketch of how many: l04Copy. (Written by tools/gen_hmd.py.)
-/
namespace Go.Proofs.YthpilcoklapooaaGreatDoor
set_option linter.unusedVariables false
set_option linter.unusedSimpArgs false
open Go.ChangeShapes Go.WideShapes Go.ChangeAt Go.RowKit Go.PlainAid Go.Maps
set_option maxRecDepth 10000

theorem nil_len {kd : IntKind} {w : World} {ao : Option Addr} {L : List Int} {n : Nat} (h : NumsAt kd w ao L) (hn : L.length = n) (e : ao = none) : n = 0 := by
  subst e; rw [← hn, nums_nil h]; rfl
theorem wp_append_nilN {P : Program} (w : World) {o : Oper} {a : Act} {K : Act → World → Prop} {Q : Exit → Act → World → Prop} (s x : Operand) (t : TypeId)
    (ho : o.op = .call { callee := .builtin .append, args := #[s, x], argTypes := #[t, t] })
    (base : Nat) (e : TypeId) (i : TypeInfo) (z : Value) (size bytes : Nat) (ht : P.underlying t = some (.slice e)) (hi : P.info? e = some i) (hz : i.zero = some z)
    (hsize : i.size = size) (hby : i.bytes = bytes) (hzs : z.cells.size = size) (hsz : 0 < size)
    (v : Value) (n : Nat) (xs : List Value) (hs : a.eval s = v) (hown : w.ownsRow base e size v n xs)
    (xo : Option Addr) (m c : Nat) (news : List Value) (hx : a.eval x = .slice xo m c) (hl : news.length = m * size) (hno : xo = none → m = 0 ∧ c = 0) (hnews : ∀ ad, xo = some ad → ∀ j u, news[j]? = some u → w.cell? (ad.add j) = some u) (h1 : ∀ u ∈ news, u.oneCell' = true)
    (h63 : n + m ≤ maxLen) (hbytes : (n + m) * bytes ≤ 140737488355328) (hbase : base ≤ w.heap.size)
    (h : ∀ v' w', w'.ownsRow base e size v' (n + m) (xs ++ news) → w.grownBy w' v.ownBlock → K (a.put o.dst v') w') : o.wp P a w K Q := by
  cases xo with
  | some ad => exact wp_append_own w s x t ho base e i z size bytes ht hi hz hsize hby hzs hsz v n xs hs hown ad m c news hx hl (hnews ad rfl) h1 h63 hbytes hbase (fun v' w' q1 q2 _ => h v' w' q1 q2)
  | none =>
    obtain ⟨rfl, rfl⟩ := hno rfl
    obtain rfl : news = [] := List.eq_nil_of_length_eq_zero (by rw [hl, Nat.zero_mul])
    have hr := run_append_owned_none (P := P) (w := w) base t o.type e i size ht hi v n xs hown
    unfold Oper.wp execOp
    simp only [ho, resolve, invoke, builtin, Sem.run_bind, Sem.run_pure, Result.andThen_ok, List.map_toArray, List.map_cons, List.map_nil, hs, hx, hr]
    exact h v w (by rw [Nat.add_zero, List.append_nil]; exact hown) (World.grownBy.refl _ _)
/-- Rows of two kinds lie apart. -/
theorem own_apart {w : World} {B B' s s' n n' : Nat} {T T' : TypeId} {v v' : Value} {xs xs' : List Value} (h : w.ownsRow B T s v n xs) (g : w.ownsRow B' T' s' v' n' xs') (hT : T ≠ T') : v.ownBlock = none ∨ v.ownBlock ≠ v'.ownBlock := by
  rcases h.2 with ⟨rfl, _⟩ | ⟨b, c, cur, rfl, _, h2, _⟩
  · exact .inl rfl
  · rcases g.2 with ⟨rfl, _⟩ | ⟨b', c', cur', rfl, _, g2, _⟩
    · exact .inr (by simp [Value.ownBlock])
    · refine .inr (fun e => ?_)
      have e : b = b' := Option.some.inj e
      subst e
      rw [h2] at g2
      injection g2 with g2
      injection g2 with _ g3 _
      exact hT g3
set_option maxHeartbeats 4000000 in
theorem c_s_CopyH {w : World} {ea ra : Option Addr} {n c m d : Nat} {E R : List Int} (h1 : E.length = n) (h2 : R.length = m) (l1 : n ≤ 1048576) (l2 : m ≤ 1048576) (c1 : ea = none → c = 0) (c2 : ra = none → d = 0) (hE : NumsAt .u64 w ea E) (hR : NumsAt .i64 w ra R) :
    Calls Tryz.prog 129 #[.agg #[.slice ea n c, .slice ra m d]] w fun e w' => ∃ v, e = .returned v ∧ HlOut w' w.heap.size v E R ∧ Below w.heap.size w w' := by
  obtain ⟨i0, hi, hz0, hz1, hz2⟩ := info_parts infoUint64S
  obtain ⟨j0, hj, hy0, hy1, hy2⟩ := info_parts infoInt64S
  have HE := hide hE
  have HR := hide hR
  have H1 := hide h1
  have H2 := hide h2
  have C1 := hide c1
  have C2 := hide c2
  have HBa : Hid (∀ o1 o2, Below w.heap.size w ((w.alloc o1).alloc o2)) := fun o1 o2 => ((Below.refl _ _).alloc (Nat.le_refl _) _).alloc (by simp) _
  clear hE hR h1 h2 c1 c2
  go_enter Tryz.func129, Tryz.ntmps129
  go_wp2_with fail
  generalize hW0 : (w.alloc (Obj.cells #[.slice ea n c, .slice ra m d] 32)).alloc (Obj.cells #[.slice none 0 0, .slice none 0 0] 32) = W0
  have T0 : Below w.heap.size w W0 := by rw [← hW0]; exact HBa.out _ _
  have KR := two_cell w 32 32 (.slice ea n c) (.slice ra m d) (.slice none 0 0) (.slice none 0 0) W0 (by rw [hW0]; exact Below.refl _ _)
  have hsz0 : W0.heap.size = w.heap.size + 2 := by rw [← hW0]; simp
  clear hW0
  have HT0 := hide T0
  have hC : ∀ W, Below W0.heap.size W0 W → HlCell W w.heap.size (.slice ea n c) (.slice ra m d) ∧ W.heap[w.heap.size + 1]? = some (.cells #[.slice none 0 0, .slice none 0 0] 32 (0, 0)) := fun W hW => ⟨hl_past KR.1 hW, by rw [hW.block _ (by omega)]; exact KR.2⟩
  have HC := hide hC
  clear T0 hC KR
  have HSd : Hid (Below W0.heap.size W0 W0.drew) := (Below.refl _ _).drew
  refine regionK (fun W => Below W0.heap.size W0 W) 9 (by kernel_rfl) ?_
  generalize W0.drew = Wd at HSd ⊢
  refine takeK (i := 1) (d := 4) (v := .pointer (some ⟨w.heap.size, 0, none⟩)) rfl rfl (by kernel_rfl) (by kernel_rfl) (by kernel_rfl) (by decide) (by kernel_rfl) (fun _ _ _ h => h) (Or.inl ⟨by rfl, fun W hW => ?_⟩) HSd.out ?_
  · obtain ⟨⟨x0, x1⟩, _⟩ := HC.out W hW
    clear hW
    go_simp
  try simp only [List.setIfInBounds_toArray, List.set_cons_zero, List.set_cons_succ]
  refine takeK (i := 2) (d := 5) (v := .slice ea n c) rfl rfl (by kernel_rfl) (by kernel_rfl) (by kernel_rfl) (by decide) (by kernel_rfl) (fun _ _ _ h => h) (Or.inl ⟨by rfl, fun W hW => ?_⟩) HSd.out ?_
  · obtain ⟨⟨x0, x1⟩, _⟩ := HC.out W hW
    clear hW
    go_simp
  try simp only [List.setIfInBounds_toArray, List.set_cons_zero, List.set_cons_succ]
  refine takeK (i := 5) (d := 8) (v := .pointer (some ⟨w.heap.size, 1, none⟩)) rfl rfl (by kernel_rfl) (by kernel_rfl) (by kernel_rfl) (by decide) (by kernel_rfl) (fun _ _ _ h => h) (Or.inl ⟨by rfl, fun W hW => ?_⟩) HSd.out ?_
  · obtain ⟨⟨x0, x1⟩, _⟩ := HC.out W hW
    clear hW
    go_simp
  try simp only [List.setIfInBounds_toArray, List.set_cons_zero, List.set_cons_succ]
  refine takeK (i := 6) (d := 9) (v := .slice ra m d) rfl rfl (by kernel_rfl) (by kernel_rfl) (by kernel_rfl) (by decide) (by kernel_rfl) (fun _ _ _ h => h) (Or.inl ⟨by rfl, fun W hW => ?_⟩) HSd.out ?_
  · obtain ⟨⟨x0, x1⟩, _⟩ := HC.out W hW
    clear hW
    go_simp
  try simp only [List.setIfInBounds_toArray, List.set_cons_zero, List.set_cons_succ]
  refine twoK (i := 0) (j := 4) (by kernel_rfl) rfl rfl (fun K hK => ?_) (fun K hK => ?_)
  · go_simp
    refine hK.out _ _ (fun _ => HSd.out.alloc HSd.out.size _) ?_
    clear hK K
    try simp only [Act.put, List.setIfInBounds_toArray, List.set_cons_zero, List.set_cons_succ]
    obtain ⟨s1, es1⟩ : ∃ s, s = Wd.heap.size := ⟨_, rfl⟩
    have M1 : (Wd.alloc (.cells #[] 23)).ownsRow W0.heap.size 23 1 (.slice (some ⟨s1, 0, none⟩) 0 0) 0 [] := by rw [es1]; exact World.ownsRow_made Wd #[] 0 HSd.out.size (Nat.zero_le _) rfl
    have S1 : Hid (Below W0.heap.size W0 (Wd.alloc (.cells #[] 23))) := HSd.out.alloc HSd.out.size _
    have O1 := hide M1
    rw [← es1]
    generalize Wd.alloc (.cells #[] 23) = Wa1 at *
    clear M1 es1
    refine twoK (i := 3) (j := 4) (by kernel_rfl) rfl rfl (fun K hK => ?_) (fun K hK => ?_)
    · rw [if_pos (by rfl)]
      refine wp_append_nilN _ (.tmp 3) (.tmp 5) 29 rfl W0.heap.size 23 i0 (.int .u64 0) 1 8 Tryz.underlying29 hi hz0 hz1 hz2 rfl (by decide) _ _ _ rfl O1.out ea n c (E.map (Value.int .u64)) rfl (by simp [H1.out]) (fun e => ⟨nil_len HE.out H1.out e, C1.out e⟩) (nums_nw (nums_past HE.out (chain HT0.out S1.out))) (one_map _ _) (by unfold maxLen; omega) (by omega) S1.out.size ?_
      intro v2 wb2 hown2 hgrow2
      simp only [Nat.zero_add, List.nil_append] at hown2
      obtain ⟨a2, b2, rfl⟩ := own_any hown2
      have O2 := hide hown2
      have S2 := hide (S1.out.grown hgrow2 S1.out.size (fun j hj => own_ltB O1.out j hj))
      refine hK.out _ _ (fun _ => S2.out) ?_
      clear hK K
      try simp only [Act.put, List.setIfInBounds_toArray, List.set_cons_zero, List.set_cons_succ]
      clear hown2 hgrow2
      refine oneK (i := 4) (by kernel_rfl) rfl (fun K hK => ?_)
      go_simp
      refine hK.out _ _ (fun _ => S2.out.alloc S2.out.size _) ?_
      clear hK K
      try simp only [Act.put, List.setIfInBounds_toArray, List.set_cons_zero, List.set_cons_succ]
      obtain ⟨s3, es3⟩ : ∃ s, s = wb2.heap.size := ⟨_, rfl⟩
      have M3 : (wb2.alloc (.cells #[] 2)).ownsRow W0.heap.size 2 1 (.slice (some ⟨s3, 0, none⟩) 0 0) 0 [] := by rw [es3]; exact World.ownsRow_made wb2 #[] 0 S2.out.size (Nat.zero_le _) rfl
      have S3 : Hid (Below W0.heap.size W0 (wb2.alloc (.cells #[] 2))) := S2.out.alloc S2.out.size _
      have Q3u := hide (O2.out.alloc (.cells #[] 2))
      have O3 := hide M3
      rw [← es3]
      generalize wb2.alloc (.cells #[] 2) = Wa3 at *
      clear M3 es3
      refine oneK (i := 7) (by kernel_rfl) rfl (fun K hK => ?_)
      rw [if_pos (by rfl)]
      refine wp_append_nilN _ (.tmp 7) (.tmp 9) 30 rfl W0.heap.size 2 j0 (.int .i64 0) 1 8 Tryz.underlying30 hj hy0 hy1 hy2 rfl (by decide) _ _ _ rfl O3.out ra m d (R.map (Value.int .i64)) rfl (by simp [H2.out]) (fun e => ⟨nil_len HR.out H2.out e, C2.out e⟩) (nums_nw (nums_past HR.out (chain HT0.out S3.out))) (one_map _ _) (by unfold maxLen; omega) (by omega) S3.out.size ?_
      intro v4 wb4 hown4 hgrow4
      simp only [Nat.zero_add, List.nil_append] at hown4
      obtain ⟨a4, b4, rfl⟩ := own_any hown4
      have O4 := hide hown4
      have S4 := hide (S3.out.grown hgrow4 S3.out.size (fun j hj => own_ltB O3.out j hj))
      have Q4u := hide (Q3u.out.kept hgrow4 (own_apart Q3u.out O3.out (by decide)))
      refine hK.out _ _ (fun _ => S4.out) ?_
      clear hK K
      try simp only [Act.put, List.setIfInBounds_toArray, List.set_cons_zero, List.set_cons_succ]
      clear hown4 hgrow4
      refine takeK (i := 8) (d := 11) (v := .agg #[.slice a2 n b2, .slice a4 m b4]) rfl rfl (by kernel_rfl) (by kernel_rfl) (by kernel_rfl) (by decide) (by kernel_rfl) (fun _ _ _ h => h) (Or.inl ⟨by rfl, fun W hW => ?_⟩) S4.out ?_
      · obtain ⟨⟨x0, x1⟩, _⟩ := HC.out W hW
        clear hW
        go_simp
      try simp only [List.setIfInBounds_toArray, List.set_cons_zero, List.set_cons_succ]
      have R2 := (HC.out _ S4.out).2
      have q0 : wb4.cell? ⟨w.heap.size + 1, 0, none⟩ = some (.slice none 0 0) := by rw [cell_of_row _ _ 0 _ _ (0, 0) R2]; rfl
      have q1 : wb4.cell? ⟨w.heap.size + 1, 1, none⟩ = some (.slice none 0 0) := by rw [cell_of_row _ _ 1 _ _ (0, 0) R2]; rfl
      have f0 := frozen_of_row wb4 (w.heap.size + 1) 0 _ _ R2
      have f1 := frozen_of_row wb4 (w.heap.size + 1) 1 _ _ R2
      refine oneK (i := 9) (by kernel_rfl) rfl (fun K hK => ?_)
      go_simp
      refine hK.out _ _ (fun h => absurd rfl h) ?_
      clear hK K
      try simp only [Act.put, List.setIfInBounds_toArray, List.set_cons_zero, List.set_cons_succ]
      refine doneK (by kernel_rfl) ?_ _
      go_wp2
      refine bodyPost_ret (v := .agg #[.slice a2 n b2, .slice a4 m b4]) (by simp [results, Tryz.results129, go_sem, q0, q1]) rfl ⟨_, rfl, ⟨_, _, rfl, ?_, ?_⟩, ?_⟩
      · refine own_le (B := W0.heap.size) ?_ (by omega)
        repeat (refine ownsRow_setCell_below ?_ (by simp; omega) _)
        rw [H1.out]; exact Q4u.out
      · refine own_le (B := W0.heap.size) ?_ (by omega)
        repeat (refine ownsRow_setCell_below ?_ (by simp; omega) _)
        rw [H2.out]; exact O4.out
      · repeat (refine Below.setCell ?_ (by simp <;> omega) _)
        exact chain HT0.out S4.out
    · go_simp
      refine hK.out _ _ (fun _ => S1.out.alloc S1.out.size _) ?_
      clear hK K
      try simp only [Act.put, List.setIfInBounds_toArray, List.set_cons_zero, List.set_cons_succ]
      obtain ⟨s2, es2⟩ : ∃ s, s = Wa1.heap.size := ⟨_, rfl⟩
      have M2 : (Wa1.alloc (.cells #[] 2)).ownsRow W0.heap.size 2 1 (.slice (some ⟨s2, 0, none⟩) 0 0) 0 [] := by rw [es2]; exact World.ownsRow_made Wa1 #[] 0 S1.out.size (Nat.zero_le _) rfl
      have S2 : Hid (Below W0.heap.size W0 (Wa1.alloc (.cells #[] 2))) := S1.out.alloc S1.out.size _
      have Q2u := hide (O1.out.alloc (.cells #[] 2))
      have O2 := hide M2
      rw [← es2]
      generalize Wa1.alloc (.cells #[] 2) = Wa2 at *
      clear M2 es2
      refine oneK (i := 3) (by kernel_rfl) rfl (fun K hK => ?_)
      rw [if_pos (by rfl)]
      refine wp_append_nilN _ (.tmp 3) (.tmp 5) 29 rfl W0.heap.size 23 i0 (.int .u64 0) 1 8 Tryz.underlying29 hi hz0 hz1 hz2 rfl (by decide) _ _ _ rfl Q2u.out ea n c (E.map (Value.int .u64)) rfl (by simp [H1.out]) (fun e => ⟨nil_len HE.out H1.out e, C1.out e⟩) (nums_nw (nums_past HE.out (chain HT0.out S2.out))) (one_map _ _) (by unfold maxLen; omega) (by omega) S2.out.size ?_
      intro v3 wb3 hown3 hgrow3
      simp only [Nat.zero_add, List.nil_append] at hown3
      obtain ⟨a3, b3, rfl⟩ := own_any hown3
      have O3 := hide hown3
      have S3 := hide (S2.out.grown hgrow3 S2.out.size (fun j hj => own_ltB Q2u.out j hj))
      have Q3i := hide (O2.out.kept hgrow3 (own_apart O2.out Q2u.out (by decide)))
      refine hK.out _ _ (fun _ => S3.out) ?_
      clear hK K
      try simp only [Act.put, List.setIfInBounds_toArray, List.set_cons_zero, List.set_cons_succ]
      clear hown3 hgrow3
      refine oneK (i := 7) (by kernel_rfl) rfl (fun K hK => ?_)
      rw [if_pos (by rfl)]
      refine wp_append_nilN _ (.tmp 7) (.tmp 9) 30 rfl W0.heap.size 2 j0 (.int .i64 0) 1 8 Tryz.underlying30 hj hy0 hy1 hy2 rfl (by decide) _ _ _ rfl Q3i.out ra m d (R.map (Value.int .i64)) rfl (by simp [H2.out]) (fun e => ⟨nil_len HR.out H2.out e, C2.out e⟩) (nums_nw (nums_past HR.out (chain HT0.out S3.out))) (one_map _ _) (by unfold maxLen; omega) (by omega) S3.out.size ?_
      intro v4 wb4 hown4 hgrow4
      simp only [Nat.zero_add, List.nil_append] at hown4
      obtain ⟨a4, b4, rfl⟩ := own_any hown4
      have O4 := hide hown4
      have S4 := hide (S3.out.grown hgrow4 S3.out.size (fun j hj => own_ltB Q3i.out j hj))
      have Q4u := hide (O3.out.kept hgrow4 (own_apart O3.out Q3i.out (by decide)))
      refine hK.out _ _ (fun _ => S4.out) ?_
      clear hK K
      try simp only [Act.put, List.setIfInBounds_toArray, List.set_cons_zero, List.set_cons_succ]
      clear hown4 hgrow4
      refine takeK (i := 8) (d := 11) (v := .agg #[.slice a3 n b3, .slice a4 m b4]) rfl rfl (by kernel_rfl) (by kernel_rfl) (by kernel_rfl) (by decide) (by kernel_rfl) (fun _ _ _ h => h) (Or.inl ⟨by rfl, fun W hW => ?_⟩) S4.out ?_
      · obtain ⟨⟨x0, x1⟩, _⟩ := HC.out W hW
        clear hW
        go_simp
      try simp only [List.setIfInBounds_toArray, List.set_cons_zero, List.set_cons_succ]
      have R2 := (HC.out _ S4.out).2
      have q0 : wb4.cell? ⟨w.heap.size + 1, 0, none⟩ = some (.slice none 0 0) := by rw [cell_of_row _ _ 0 _ _ (0, 0) R2]; rfl
      have q1 : wb4.cell? ⟨w.heap.size + 1, 1, none⟩ = some (.slice none 0 0) := by rw [cell_of_row _ _ 1 _ _ (0, 0) R2]; rfl
      have f0 := frozen_of_row wb4 (w.heap.size + 1) 0 _ _ R2
      have f1 := frozen_of_row wb4 (w.heap.size + 1) 1 _ _ R2
      refine oneK (i := 9) (by kernel_rfl) rfl (fun K hK => ?_)
      go_simp
      refine hK.out _ _ (fun h => absurd rfl h) ?_
      clear hK K
      try simp only [Act.put, List.setIfInBounds_toArray, List.set_cons_zero, List.set_cons_succ]
      refine doneK (by kernel_rfl) ?_ _
      go_wp2
      refine bodyPost_ret (v := .agg #[.slice a3 n b3, .slice a4 m b4]) (by simp [results, Tryz.results129, go_sem, q0, q1]) rfl ⟨_, rfl, ⟨_, _, rfl, ?_, ?_⟩, ?_⟩
      · refine own_le (B := W0.heap.size) ?_ (by omega)
        repeat (refine ownsRow_setCell_below ?_ (by simp; omega) _)
        rw [H1.out]; exact Q4u.out
      · refine own_le (B := W0.heap.size) ?_ (by omega)
        repeat (refine ownsRow_setCell_below ?_ (by simp; omega) _)
        rw [H2.out]; exact O4.out
      · repeat (refine Below.setCell ?_ (by simp <;> omega) _)
        exact chain HT0.out S4.out
  · go_simp
    refine hK.out _ _ (fun _ => HSd.out.alloc HSd.out.size _) ?_
    clear hK K
    try simp only [Act.put, List.setIfInBounds_toArray, List.set_cons_zero, List.set_cons_succ]
    obtain ⟨s1, es1⟩ : ∃ s, s = Wd.heap.size := ⟨_, rfl⟩
    have M1 : (Wd.alloc (.cells #[] 2)).ownsRow W0.heap.size 2 1 (.slice (some ⟨s1, 0, none⟩) 0 0) 0 [] := by rw [es1]; exact World.ownsRow_made Wd #[] 0 HSd.out.size (Nat.zero_le _) rfl
    have S1 : Hid (Below W0.heap.size W0 (Wd.alloc (.cells #[] 2))) := HSd.out.alloc HSd.out.size _
    have O1 := hide M1
    rw [← es1]
    generalize Wd.alloc (.cells #[] 2) = Wa1 at *
    clear M1 es1
    refine oneK (i := 0) (by kernel_rfl) rfl (fun K hK => ?_)
    go_simp
    refine hK.out _ _ (fun _ => S1.out.alloc S1.out.size _) ?_
    clear hK K
    try simp only [Act.put, List.setIfInBounds_toArray, List.set_cons_zero, List.set_cons_succ]
    obtain ⟨s2, es2⟩ : ∃ s, s = Wa1.heap.size := ⟨_, rfl⟩
    have M2 : (Wa1.alloc (.cells #[] 23)).ownsRow W0.heap.size 23 1 (.slice (some ⟨s2, 0, none⟩) 0 0) 0 [] := by rw [es2]; exact World.ownsRow_made Wa1 #[] 0 S1.out.size (Nat.zero_le _) rfl
    have S2 : Hid (Below W0.heap.size W0 (Wa1.alloc (.cells #[] 23))) := S1.out.alloc S1.out.size _
    have Q2i := hide (O1.out.alloc (.cells #[] 23))
    have O2 := hide M2
    rw [← es2]
    generalize Wa1.alloc (.cells #[] 23) = Wa2 at *
    clear M2 es2
    refine oneK (i := 3) (by kernel_rfl) rfl (fun K hK => ?_)
    rw [if_pos (by rfl)]
    refine wp_append_nilN _ (.tmp 3) (.tmp 5) 29 rfl W0.heap.size 23 i0 (.int .u64 0) 1 8 Tryz.underlying29 hi hz0 hz1 hz2 rfl (by decide) _ _ _ rfl O2.out ea n c (E.map (Value.int .u64)) rfl (by simp [H1.out]) (fun e => ⟨nil_len HE.out H1.out e, C1.out e⟩) (nums_nw (nums_past HE.out (chain HT0.out S2.out))) (one_map _ _) (by unfold maxLen; omega) (by omega) S2.out.size ?_
    intro v3 wb3 hown3 hgrow3
    simp only [Nat.zero_add, List.nil_append] at hown3
    obtain ⟨a3, b3, rfl⟩ := own_any hown3
    have O3 := hide hown3
    have S3 := hide (S2.out.grown hgrow3 S2.out.size (fun j hj => own_ltB O2.out j hj))
    have Q3i := hide (Q2i.out.kept hgrow3 (own_apart Q2i.out O2.out (by decide)))
    refine hK.out _ _ (fun _ => S3.out) ?_
    clear hK K
    try simp only [Act.put, List.setIfInBounds_toArray, List.set_cons_zero, List.set_cons_succ]
    clear hown3 hgrow3
    refine oneK (i := 7) (by kernel_rfl) rfl (fun K hK => ?_)
    rw [if_pos (by rfl)]
    refine wp_append_nilN _ (.tmp 7) (.tmp 9) 30 rfl W0.heap.size 2 j0 (.int .i64 0) 1 8 Tryz.underlying30 hj hy0 hy1 hy2 rfl (by decide) _ _ _ rfl Q3i.out ra m d (R.map (Value.int .i64)) rfl (by simp [H2.out]) (fun e => ⟨nil_len HR.out H2.out e, C2.out e⟩) (nums_nw (nums_past HR.out (chain HT0.out S3.out))) (one_map _ _) (by unfold maxLen; omega) (by omega) S3.out.size ?_
    intro v4 wb4 hown4 hgrow4
    simp only [Nat.zero_add, List.nil_append] at hown4
    obtain ⟨a4, b4, rfl⟩ := own_any hown4
    have O4 := hide hown4
    have S4 := hide (S3.out.grown hgrow4 S3.out.size (fun j hj => own_ltB Q3i.out j hj))
    have Q4u := hide (O3.out.kept hgrow4 (own_apart O3.out Q3i.out (by decide)))
    refine hK.out _ _ (fun _ => S4.out) ?_
    clear hK K
    try simp only [Act.put, List.setIfInBounds_toArray, List.set_cons_zero, List.set_cons_succ]
    clear hown4 hgrow4
    refine takeK (i := 8) (d := 11) (v := .agg #[.slice a3 n b3, .slice a4 m b4]) rfl rfl (by kernel_rfl) (by kernel_rfl) (by kernel_rfl) (by decide) (by kernel_rfl) (fun _ _ _ h => h) (Or.inl ⟨by rfl, fun W hW => ?_⟩) S4.out ?_
    · obtain ⟨⟨x0, x1⟩, _⟩ := HC.out W hW
      clear hW
      go_simp
    try simp only [List.setIfInBounds_toArray, List.set_cons_zero, List.set_cons_succ]
    have R2 := (HC.out _ S4.out).2
    have q0 : wb4.cell? ⟨w.heap.size + 1, 0, none⟩ = some (.slice none 0 0) := by rw [cell_of_row _ _ 0 _ _ (0, 0) R2]; rfl
    have q1 : wb4.cell? ⟨w.heap.size + 1, 1, none⟩ = some (.slice none 0 0) := by rw [cell_of_row _ _ 1 _ _ (0, 0) R2]; rfl
    have f0 := frozen_of_row wb4 (w.heap.size + 1) 0 _ _ R2
    have f1 := frozen_of_row wb4 (w.heap.size + 1) 1 _ _ R2
    refine oneK (i := 9) (by kernel_rfl) rfl (fun K hK => ?_)
    go_simp
    refine hK.out _ _ (fun h => absurd rfl h) ?_
    clear hK K
    try simp only [Act.put, List.setIfInBounds_toArray, List.set_cons_zero, List.set_cons_succ]
    refine doneK (by kernel_rfl) ?_ _
    go_wp2
    refine bodyPost_ret (v := .agg #[.slice a3 n b3, .slice a4 m b4]) (by simp [results, Tryz.results129, go_sem, q0, q1]) rfl ⟨_, rfl, ⟨_, _, rfl, ?_, ?_⟩, ?_⟩
    · refine own_le (B := W0.heap.size) ?_ (by omega)
      repeat (refine ownsRow_setCell_below ?_ (by simp; omega) _)
      rw [H1.out]; exact Q4u.out
    · refine own_le (B := W0.heap.size) ?_ (by omega)
      repeat (refine ownsRow_setCell_below ?_ (by simp; omega) _)
      rw [H2.out]; exact O4.out
    · repeat (refine Below.setCell ?_ (by simp <;> omega) _)
      exact chain HT0.out S4.out
end Go.Proofs.YthpilcoklapooaaGreatDoor

/-
  The model's sketch of how many: l04Put.
-/
namespace Go.Proofs.YthpilcoklapooaaGreatDoor
set_option linter.unusedVariables false
set_option linter.unusedSimpArgs false
open Go.ChangeShapes Go.WideShapes Go.ChangeAt Go.RowKit Go.PlainAid Go.Maps
set_option maxRecDepth 10000

theorem nums_own {kd : IntKind} {w : World} {B n c : Nat} {ao : Option Addr} {T : TypeId} {L : List Int} (h : w.ownsRow B T 1 (.slice ao n c) L.length (L.map (Value.int kd))) : NumsAt kd w ao L ∧ Flat ao ∧ n = L.length ∧ n ≤ c ∧ c ≤ maxLen ∧ (ao = none → c = 0) := by
  rcases h.2 with ⟨e, h0⟩ | ⟨g, cap, cur, e, h1, h2, h3, h4, h5, h6⟩
  · cases e
    exact ⟨fun h => by omega, .inl rfl, h0.symm, Nat.le_refl _, Nat.zero_le _, fun _ => rfl⟩
  · cases e
    refine ⟨fun _ => ⟨g, 0, rfl, fun i x hx => ?_⟩, .inr ⟨g, 0, rfl⟩, rfl, h3, h4, fun e => by cases e⟩
    have hi := (List.getElem?_eq_some_iff.1 hx).1
    rw [Nat.zero_add, h.cellAt i (by omega), List.getElem?_map, hx]; rfl
end Go.Proofs.YthpilcoklapooaaGreatDoor

/-
  HllPut of the model.
-/
namespace Go.Proofs.YthpilcoklapooaaGreatDoor
set_option linter.unusedVariables false
set_option linter.unusedSimpArgs false
open Go.ChangeShapes Go.WideShapes Go.ChangeAt Go.RowKit Go.PlainAid Go.Maps
set_option maxRecDepth 10000

end Go.Proofs.YthpilcoklapooaaGreatDoor
