/-
  Contracts of TopCount, of the program and of its model: one number.
-/
import Derived.Test.YtmhojmgemiphkaaFindH
import Derived.Test.YtmhojmgemiphkaaTopS
namespace Go.Proofs.Ytmhojmgemiphkaa
set_option linter.unusedVariables false
set_option linter.unusedSimpArgs false
open Go.ChangeShapes Go.WideShapes Go.ChangeAt Go.RowKit Go.PlainAid
set_option maxRecDepth 10000

theorem it_rise : ∀ {L : List Hv} {t : Int} {p : Option ByteArray} {n : Int}, itB t p n L = true → (∀ q, p = some q → ∀ x ∈ L, strLt q x.1 = true) ∧ RiseH L
  | [], t, p, n, h => ⟨fun q _ x hx => absurd hx List.not_mem_nil, fun i j x y hx => by simp at hx⟩
  | z :: r, t, p, n, h => by
    simp only [itB, Bool.and_eq_true, decide_eq_true_eq] at h
    obtain ⟨⟨⟨⟨h1, h2⟩, h3⟩, h4⟩, h5⟩ := h
    obtain ⟨k1, k2⟩ := it_rise h5
    have k1 := k1 _ rfl
    refine ⟨fun q hq x hx => ?_, fun i j x y hx hy hij => ?_⟩
    · subst hq
      rcases List.mem_cons.1 hx with rfl | hx
      · exact h2
      · exact strLt_trans h2 (k1 x hx)
    · obtain ⟨j, rfl⟩ : ∃ m, j = m + 1 := ⟨j - 1, by omega⟩
      rw [List.getElem?_cons_succ] at hy
      cases i with
      | zero =>
        obtain rfl : z = x := by simpa using hx
        exact k1 y (List.mem_of_getElem? hy)
      | succ i =>
        rw [List.getElem?_cons_succ] at hx
        exact k2 i j x y hx hy (by omega)
theorem top_rise {L : List Hv} {d t : Int} (h : topB L d t = true) : RiseH L ∧ L.length ≤ 5 := by
  unfold topB at h
  simp only [Bool.and_eq_true, decide_eq_true_eq] at h
  exact ⟨(it_rise h.2).2, h.1.1.1.1⟩
theorem it_key : ∀ {L : List Hv} {t : Int} {p : Option ByteArray} {n : Int}, itB t p n L = true → ∀ x ∈ L, keyB x.1 = true ∧ 1 ≤ x.2 ∧ x.2 ≤ 1000000000000000
  | [], t, p, n, h, x, hx => absurd hx List.not_mem_nil
  | z :: r, t, p, n, h, x, hx => by
    simp only [itB, Bool.and_eq_true, decide_eq_true_eq] at h
    obtain ⟨⟨⟨⟨h1, h2⟩, h3⟩, h4⟩, h5⟩ := h
    rcases List.mem_cons.1 hx with rfl | hx
    · exact ⟨h1, h3, h4⟩
    · exact it_key h5 x hx
theorem top_key {L : List Hv} {d t : Int} (h : topB L d t = true) : ∀ x ∈ L, keyB x.1 = true ∧ 1 ≤ x.2 ∧ x.2 ≤ 1000000000000000 := by
  unfold topB at h
  exact it_key (Bool.and_eq_true_iff.1 h).2

/-- The count of a key, 0 if there is none. -/
def cntH (L : List Hv) (p : ByteArray) : Int := match L.find? (fun x => decide (x.1 = p)) with
  | some x => x.2
  | none => 0
def topN (L : List Hv) (d t : Int) (p : ByteArray) : Int := if topB L d t = true then cntH L p else 0
theorem cnt_none {L : List Hv} {p : ByteArray} (h : ∀ x ∈ L, x.1 ≠ p) : cntH L p = 0 := by
  unfold cntH
  rw [List.find?_eq_none.2 (fun x hx => by simp; exact h x hx)]
theorem cnt_at {L : List Hv} {p : ByteArray} {k : Nat} {x : Hv} (h : L[k]? = some x) (hx : x.1 = p) (hb : ∀ j y, L[j]? = some y → j < k → y.1 ≠ p) : cntH L p = x.2 := by
  unfold cntH
  have e : L.find? (fun x => decide (x.1 = p)) = some x := by
    rw [List.find?_eq_some_iff_append]
    refine ⟨by simp [hx], L.take k, L.drop (k + 1), ?_, fun y hy => ?_⟩
    · have hk := (List.getElem?_eq_some_iff.1 h).1
      have hv := (List.getElem?_eq_some_iff.1 h).2
      rw [← hv, ← List.drop_eq_getElem_cons hk, List.take_append_drop]
    · obtain ⟨j, hj⟩ := List.getElem?_of_mem hy
      rw [List.getElem?_take] at hj
      split at hj
      · simp; exact hb j y hj (by assumption)
      · cases hj
  rw [e]
theorem ret_iT {a b : Int} (h : a = b) : Ending.returned (.int .i64 a) = .returned (.int .i64 b) := by rw [h]

set_option maxHeartbeats 2000000 in
theorem c_i_TopCount {w : World} {d t : Int} {ao : Option Addr} {L : List Hv} (cap N : Nat) (p : ByteArray) (hn : L.length = N) (hl : N ≤ 1048576) (hA : HvsAt w ao L) (hok : ∀ x ∈ L, HvOk x) (hd : I64 d) (ht : I64 t) :
    Calls Try.prog 17 #[.agg #[.slice ao N cap, .int .i64 d, .int .i64 t], .string p] w fun e w' => e = .returned (.int .i64 (topN L d t p)) ∧ Below w.heap.size w w' := by
  have HA := hide hA
  have HK := hide hok
  have HN := hide hn
  have HD := hide hd
  have HTt := hide ht
  have hW : ∀ o1, Below w.heap.size w (w.alloc o1) := fun o1 => (Below.refl _ _).alloc (Nat.le_refl _) _
  have HW := hide hW
  clear hA hok hn hW hd ht
  go_enter Try.func17, Try.ntmps17
  go_wp2_with fail
  refine (c_i_TopRight _ _ HN.out hl (hvs_past HA.out (HW.out _)) HK.out HD.out HTt.out).mono ?_
  rintro e w1 ⟨rfl, hb1⟩
  have HT1 := hide (chain (HW.out _) hb1)
  have K1 := tp_past (tp_new w _ _ _ _) hb1
  clear hb1
  cases hr : topB L d t with
  | false =>
    have HE : Hid (0 = topN L d t p) := (by unfold topN; rw [hr]; rfl : 0 = topN L d t p)
    clear K1 hr
    go_wp2
    go_ret
    exact ⟨ret_iT HE.out, HT1.out⟩
  | true =>
    have hr5 := top_rise hr
    have HR := hide hr5.1
    have h5 : N ≤ 5 := by have := hr5.2; have := HN.out; omega
    have HE : Hid (cntH L p = topN L d t p) := (by unfold topN; rw [hr]; rfl : cntH L p = topN L d t p)
    have HK1 := hide K1
    obtain ⟨x0, x1, x2⟩ := K1
    clear hr hr5
    go_wp2_with fail
    refine (c_find p HN.out.symm (by omega) HR.out (hvs_past HA.out HT1.out)).mono ?_
    rintro e w2 ⟨i, f, rfl, hp, hf, hb2⟩
    have HT2 := hide (chain HT1.out hb2)
    obtain ⟨y0, y1, y2⟩ := tp_past HK1.out hb2
    have HP := hide hp
    have HF := hide hf
    clear hb2 x0 x1 x2 HK1 hp hf
    cases f with
    | false =>
      have HC : Hid (0 = topN L d t p) := by
        refine (?_ : 0 = topN L d t p)
        rw [← HE.out]
        refine (cnt_none fun x hx e => ?_).symm
        obtain ⟨j, hj⟩ := List.getElem?_of_mem hx
        have hlt : strLt x.1 p = false := by rw [e]; exact strLt_irr _
        by_cases hji : j < i
        · rw [HP.out.2.1 j x hj hji] at hlt; cases hlt
        · rcases Nat.lt_or_ge i j with h | h
          · have hi : i < L.length := by have := (List.getElem?_eq_some_iff.1 hj).1; omega
            have h1 := HP.out.2.2 i _ (List.getElem?_eq_getElem hi) (Nat.le_refl _)
            have h2 := HR.out i j _ x (List.getElem?_eq_getElem hi) hj h
            rw [e] at h2
            rw [h2] at h1; cases h1
          · obtain rfl : j = i := by omega
            have := HF.out.2 ⟨x, hj, e⟩
            cases this
      go_wp2
      go_ret
      exact ⟨ret_iT HC.out, HT2.out⟩
    | true =>
      obtain ⟨⟨u, c⟩, hx, hxe⟩ := HF.out.1 rfl
      have hi := (List.getElem?_eq_some_iff.1 hx).1
      have hiN : i < N := by have := HN.out; omega
      obtain ⟨b, off, rfl, hcell⟩ := HA.out (by have := HN.out; omega)
      have hc0 := cell_past HT2.out (hcell i _ hx).1
      have hc1 := cell_past HT2.out (hcell i _ hx).2
      have HC : Hid (c = topN L d t p) := by
        refine (?_ : c = topN L d t p)
        rw [← HE.out]
        refine (cnt_at hx hxe fun j y hj hji e => ?_).symm
        have := HP.out.2.1 j y hj hji
        rw [e, strLt_irr] at this; cases this
      clear hcell hx hxe hi
      go_wp2
      go_ret
      exact ⟨ret_iT HC.out, HT2.out⟩
end Go.Proofs.Ytmhojmgemiphkaa
