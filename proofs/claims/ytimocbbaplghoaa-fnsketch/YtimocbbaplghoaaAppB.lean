/-
  One bin more behind a list of bins in a block of one's own: at whatever place it begins, with room or without.
-/
import Derived.Test.YtimocbbaplghoaaMarkB
import Derived.Deep.AppendSrc
namespace Go.Proofs.Ytimocbbaplghoaa
set_option linter.unusedVariables false
set_option linter.unusedSimpArgs false
open Go.ChangeShapes Go.WideShapes Go.ChangeAt Go.RowKit Go.PlainAid Go.Lib

theorem fl_snocB (L : List Bn) (x : Bn) : fl encB (L ++ [x]) = fl encB L ++ [.int .i64 x.1, .int .u64 x.2] := by simp [fl, encB]
theorem run_append_B {w : World} {B n : Nat} {v : Value} {L : List Bn} {x : Bn} {i0 : TypeInfo} {ty : TypeId} (hi : Try.prog.info? 50 = some i0) (hz0 : i0.zero = some (.agg #[.int .i64 0, .int .u64 0])) (hz1 : i0.size = 2) (hz2 : i0.bytes = 16)
    (h : OwnB w B v n L) (hn : n ≤ 1048576) (hB : B ≤ w.heap.size) (a : Addr) (c : Nat) (hsrc : ∀ (j : Nat) (u : Value), ([.int .i64 x.1, .int .u64 x.2] : List Value)[j]? = some u → w.cell? (a.add j) = some u) :
    ∃ v' w', (Builtin.append_ #[24, 24] ty #[v, .slice (some a) 1 c]).run Try.prog w = .ok v' w' ∧ OwnB w' B v' (n + 1) (L ++ [x]) ∧ w.grownBy w' v.ownBlock ∧ ∀ k, v'.ownBlock = some k → v.ownBlock = some k ∨ w.heap.size ≤ k := by
  have hone : ∀ u ∈ ([.int .i64 x.1, .int .u64 x.2] : List Value), u.oneCell' = true := fun u hu => by simp at hu; rcases hu with rfl | rfl <;> rfl
  have hl : ([.int .i64 x.1, .int .u64 x.2] : List Value).length = 1 * i0.size := by rw [hz1]; rfl
  have hnl := h.1
  rcases h.2 with ⟨rfl, hn0⟩ | ⟨b, off, cp, cur, rfl, h1, h2, h3, h4, h5, h6⟩
  · subst hn0
    have e : L = [] := List.eq_nil_of_length_eq_zero h.1.symm
    subst e
    obtain ⟨v', w', hr, ho, hg, _⟩ := run_append_own (P := Try.prog) w w.heap.size 24 ty 50 i0 (.agg #[.int .i64 0, .int .u64 0]) 2 16 Try.underlying24 hi hz0 hz1 hz2 rfl (by decide) (.slice none 0 0) 0 [] (World.ownsRow_nil w w.heap.size 50 2) a 1 c [.int .i64 x.1, .int .u64 x.2] rfl hsrc hone (by unfold maxLen; omega) (by omega) (Nat.le_refl _)
    have ho' : w'.ownsRow w.heap.size 50 2 v' (0 + 1) (fl encB ([] ++ [x])) := by rw [fl_snocB]; exact ho
    have hO := OwnB.of ho' rfl
    refine ⟨v', w', hr, hO.le hB, hg, fun k e => .inr (hO.lt k e).1⟩
  · have hlt : b < w.heap.size := (Array.getElem?_eq_some_iff.1 h2).1
    by_cases hroom : n + 1 ≤ cp
    · have hr := run_append_room_src (P := Try.prog) w 24 24 ty 50 i0 Try.underlying24 hi b off n cp (.slice (some a) 1 c) 1 [.int .i64 x.1, .int .u64 x.2] (Src.ofSlice w Try.underlying24 a 1 c _ hl hsrc hone) hroom
        (fun j hj => by
          rw [cell_of_row w b _ _ _ (0, 0) h2, Array.getElem?_eq_getElem (by simp at hj; rw [hz1]; omega)]; rfl)
        (fun j hj => frozen_of_row w b _ _ _ h2)
      rw [hz1] at hr
      refine ⟨_, _, hr, ⟨by rw [List.length_append, hnl]; rfl, .inr ⟨b, off, cp, _, rfl, h1, heap_setCell_same _ b _ _ _ _ (heap_setCell_same w b _ _ _ _ h2), fun j q hq => ?_, hroom, h5, by simpa using h6⟩⟩, ?_, fun k e => .inl e⟩
      · rw [fl_snocB] at hq
        rw [Array.getElem?_setIfInBounds, Array.getElem?_setIfInBounds]
        have hfl : (fl encB L).length = n * 2 := by rw [fl_len encB2]; omega
        by_cases c1 : j < n * 2
        · rw [List.getElem?_append_left (by omega)] at hq
          rw [if_neg (by omega), if_neg (by omega)]; exact h3 j q hq
        · rw [List.getElem?_append_right (by omega), hfl] at hq
          have hj2 := (List.getElem?_eq_some_iff.1 hq).1
          simp at hj2
          by_cases c2 : j = n * 2
          · subst c2
            rw [if_neg (by omega), if_pos rfl, if_pos (by omega)]; simpa using hq
          · have c3 : j = n * 2 + 1 := by omega
            subst c3
            rw [if_pos (by omega), if_pos (by simp; omega)]; simpa using hq
      · refine ⟨rfl, rfl, rfl, by simp [World.setCells], fun k hk hne => ?_⟩
        have hkb : k ≠ b := fun e => hne (by rw [e]; rfl)
        show ((w.setCell ⟨b, off + n * 2, none⟩ _).setCell ⟨b, off + n * 2 + 1, none⟩ _).heap[k]? = _
        rw [Below.heap_setCell _ _ _ _ hkb, Below.heap_setCell _ _ _ _ hkb]
    · have hcp : cp = n := by omega
      have holds : ∀ j u, (fl encB L)[j]? = some u → w.cell? ((⟨b, off, none⟩ : Addr).add j) = some u := fun j u hu => by
        rw [Addr.add_lit, cell_of_row w b _ _ _ (0, 0) h2]; exact h3 j u hu
      have hr := run_append_grow (P := Try.prog) w 24 ty 50 i0 (.agg #[.int .i64 0, .int .u64 0]) Try.underlying24 hi hz0 ⟨b, off, none⟩ n cp (fl encB L) (by rw [fl_len encB2, hz1, hnl]) holds a 1 c [.int .i64 x.1, .int .u64 x.2] hl hsrc (by omega) (by omega) (growslice_fits (by omega) (by rw [hz2]; omega))
      refine ⟨_, _, hr, ⟨by rw [List.length_append, hnl]; rfl, .inr ⟨w.heap.size, 0, _, _, rfl, hB, heap_alloc_new w.drew _, fun j q hq => ?_, grownCap_ge w (n + 1) cp _, grownCap_le_maxLen w (n + 1) cp _ (by unfold maxLen; omega), ?_⟩⟩, ⟨rfl, rfl, rfl, by simp, fun k hk _ => heap_alloc_old w.drew _ hk⟩, fun k e => .inr (by cases e; exact Nat.le_refl _)⟩
      · rw [fl_snocB] at hq
        have hj := (List.getElem?_eq_some_iff.1 hq).1
        rw [Nat.zero_add, ← Array.getElem?_toList]
        simp only [Array.toList_append]
        rw [List.getElem?_append_left (by simpa using hj)]
        simpa using hq
      · have := grownCap_ge w (n + 1) cp 50
        have hfl : (fl encB L).length = n * 2 := by rw [fl_len encB2]; omega
        have hsz : (Value.agg #[.int .i64 0, .int .u64 0]).cells.size = 2 := rfl
        simp only [Array.size_append, List.size_toArray, size_zeroCells, hsz, hfl, List.length_cons, List.length_nil]
        omega
theorem wp_append_B {w : World} {B n : Nat} {v : Value} {L : List Bn} {x : Bn} {i0 : TypeInfo} {o : Oper} {a : Act} {K : Act → World → Prop} {Q : Exit → Act → World → Prop} (s y : Operand)
    (ho : o.op = .call { callee := .builtin .append, args := #[s, y], argTypes := #[24, 24] })
    (hi : Try.prog.info? 50 = some i0) (hz0 : i0.zero = some (.agg #[.int .i64 0, .int .u64 0])) (hz1 : i0.size = 2) (hz2 : i0.bytes = 16)
    (hs : a.eval s = v) (h : OwnB w B v n L) (hn : n ≤ 1048576) (hB : B ≤ w.heap.size) (ad : Addr) (c : Nat) (hy : a.eval y = .slice (some ad) 1 c) (hsrc : ∀ (j : Nat) (u : Value), ([.int .i64 x.1, .int .u64 x.2] : List Value)[j]? = some u → w.cell? (ad.add j) = some u)
    (hh : ∀ v' w', OwnB w' B v' (n + 1) (L ++ [x]) → w.grownBy w' v.ownBlock → (∀ k, v'.ownBlock = some k → v.ownBlock = some k ∨ w.heap.size ≤ k) → K (a.put o.dst v') w') : o.wp Try.prog a w K Q := by
  obtain ⟨v', w', hr, h1, h2, h3⟩ := run_append_B (ty := o.type) hi hz0 hz1 hz2 h hn hB ad c hsrc
  unfold Oper.wp execOp
  simp only [ho, resolve, invoke, builtin, Sem.run_bind, Sem.run_pure, Result.andThen_ok, List.map_toArray, List.map_cons, List.map_nil, hs, hy, hr]
  exact hh v' w' h1 h2 h3
theorem wpList_append_B {w : World} {B n : Nat} {v : Value} {L : List Bn} {x : Bn} {i0 : TypeInfo} {ops : Array Oper} {rest : List Oper} {o : Oper} {a : Act} {Q : Exit → Act → World → Prop} (hgd : o.guard = none) (s y : Operand)
    (ho : o.op = .call { callee := .builtin .append, args := #[s, y], argTypes := #[24, 24] })
    (hi : Try.prog.info? 50 = some i0) (hz0 : i0.zero = some (.agg #[.int .i64 0, .int .u64 0])) (hz1 : i0.size = 2) (hz2 : i0.bytes = 16)
    (hs : a.eval s = v) (h : OwnB w B v n L) (hn : n ≤ 1048576) (hB : B ≤ w.heap.size) (ad : Addr) (c : Nat) (hy : a.eval y = .slice (some ad) 1 c) (hsrc : ∀ (j : Nat) (u : Value), ([.int .i64 x.1, .int .u64 x.2] : List Value)[j]? = some u → w.cell? (ad.add j) = some u)
    (hh : ∀ v' w', OwnB w' B v' (n + 1) (L ++ [x]) → w.grownBy w' v.ownBlock → (∀ k, v'.ownBlock = some k → v.ownBlock = some k ∨ w.heap.size ≤ k) → wpList Try.prog ops Q rest (a.put o.dst v') w') : wpList Try.prog ops Q (o :: rest) a w := by
  refine wpList_plain hgd fun _ hK => ?_
  refine wp_append_B s y ho hi hz0 hz1 hz2 hs h hn hB ad c hy hsrc ?_
  intro v' w' h1 h2 h3
  exact hK _ _ (hh v' w' h1 h2 h3)
end Go.Proofs.Ytimocbbaplghoaa
