/-
  The count at a place, the greatest first, as the program asks for it.
-/
import Derived.Test.YtmhojmgemiphkaaSortC
import Derived.Test.YtmhojmgemiphkaaAddM
import Derived.Test.YtmhojmgemiphkaaHvC
namespace Go.Proofs.Ytmhojmgemiphkaa
set_option linter.unusedVariables false
set_option linter.unusedSimpArgs false
open Go.ChangeShapes Go.WideShapes Go.ChangeAt Go.RowKit Go.PlainAid
set_option maxRecDepth 10000

/-- v stands at the place 5, the greatest first. -/
def PlaceV (C : List Int) (v : Int) : Prop := C.countP (fun x => decide (v < x)) ≤ 5 ∧ 6 ≤ C.countP (fun x => decide (v ≤ x))
theorem place_one {C : List Int} {v v' : Int} (h : PlaceV C v) (h' : PlaceV C v') : v = v' := by
  have key : ∀ a b, PlaceV C a → PlaceV C b → ¬ a < b := fun a b ha hb hlt => by
    have : C.countP (fun x => decide (b ≤ x)) ≤ C.countP (fun x => decide (a < x)) := List.countP_mono_left fun x _ hx => by
      simp at hx ⊢; omega
    have := ha.1; have := hb.2; omega
  have h1 := key v v' h h'
  have h2 := key v' v h' h
  omega
theorem place_perm {C D : List Int} {v : Int} (h : PlaceV C v) (hp : C.Perm D) : PlaceV D v := by
  unfold PlaceV at *
  rw [← hp.countP_eq, ← hp.countP_eq]; exact h
theorem countP_le_len {α : Type} (p : α → Bool) (l : List α) : l.countP p ≤ l.length := List.countP_le_length
theorem place_sorted {M : List Int} {n : Nat} {v : Int} (hn : M.length = n) (h6 : 6 ≤ n) (hs : sortedTo M n) (hv : M[n - 6]? = some v) : PlaceV M v := by
  have h1 : M.countP (fun x => decide (v < x)) = (M.take (n - 5)).countP (fun x => decide (v < x)) + (M.drop (n - 5)).countP (fun x => decide (v < x)) := by
    rw [← List.countP_append, List.take_append_drop]
  have h2 : M.countP (fun x => decide (v ≤ x)) = (M.take (n - 6)).countP (fun x => decide (v ≤ x)) + (M.drop (n - 6)).countP (fun x => decide (v ≤ x)) := by
    rw [← List.countP_append, List.take_append_drop]
  have h3 : (M.take (n - 5)).countP (fun x => decide (v < x)) = 0 := by
    rw [List.countP_eq_zero]
    intro x hx
    obtain ⟨j, hj⟩ := List.getElem?_of_mem hx
    rw [List.getElem?_take] at hj
    split at hj
    · rename_i hjl
      by_cases e : j = n - 6
      · rw [e, hv] at hj; obtain rfl := Option.some.inj hj; simp
      · have := hs j (n - 6) x v hj hv (by omega) (by omega)
        simp; omega
    · cases hj
  have h4 : (M.drop (n - 6)).countP (fun x => decide (v ≤ x)) = (M.drop (n - 6)).length := by
    rw [List.countP_eq_length]
    intro x hx
    obtain ⟨j, hj⟩ := List.getElem?_of_mem hx
    rw [List.getElem?_drop] at hj
    have hjl := (List.getElem?_eq_some_iff.1 hj).1
    by_cases e : j = 0
    · subst e; rw [Nat.add_zero, hv] at hj; obtain rfl := Option.some.inj hj; simp
    · have := hs (n - 6) (n - 6 + j) v x hv hj (by omega) (by omega)
      simpa using this
  have h5 := countP_le_len (fun x => decide (v < x)) (M.drop (n - 5))
  rw [List.length_drop] at h4 h5
  exact ⟨by omega, by omega⟩
def cntsH (L : List Hv) : List Int := L.map Prod.snd
theorem place_least {L : List Hv} {v : Int} (h6 : L.length = 6) (h : PlaceV (cntsH L) v) : ∀ x ∈ L, v ≤ x.2 := by
  have hl : (cntsH L).length = 6 := by simp [cntsH, h6]
  have h2 := countP_le_len (fun x => decide (v ≤ x)) (cntsH L)
  have h3 := h.2
  have e : (cntsH L).countP (fun x => decide (v ≤ x)) = (cntsH L).length := by omega
  rw [List.countP_eq_length] at e
  intro x hx
  have := e x.2 (List.mem_map.2 ⟨x, hx, rfl⟩)
  simpa using this

theorem infoI64 : (Try.prog.info? 2).map (fun i => (i.zero, i.size, i.bytes)) = some (some (.int .i64 0), 1, 8) := by kernel_rfl

set_option maxHeartbeats 2000000 in
theorem c_least {w : World} {n c : Nat} {ao : Option Addr} {L : List Hv} (hn : L.length = n) (h6 : 6 ≤ n) (hl : n ≤ 12) (hA : HvsAt w ao L) :
    Calls Try.prog 47 #[.slice ao n c] w fun e w' => ∃ v, e = .returned (.int .i64 v) ∧ PlaceV (cntsH L) v ∧ (∃ x ∈ L, x.2 = v) ∧ Below w.heap.size w w' := by
  obtain ⟨i0, hi, hz0, hz1, hz2⟩ := info_parts infoI64
  have HA := hide hA
  have HN := hide hn
  clear hA hn
  go_enter Try.func47, Try.ntmps47
  go_wp2_with (at_make; refine wpList_make_own _ rfl _ _ 37 rfl w.heap.size 2 i0 (.int .i64 0) 1 Try.underlying37 hi hz0 hz1 .i64 .i64 _ n rfl rfl rfl (by rw [hz2]; omega) (by unfold maxLen; omega) (Nat.le_refl _) ?_; intro w0 hown0 hgrow0)
  have hB0 : Below w.heap.size w w0 := (Below.refl _ _).grown hgrow0 (Nat.le_refl _) (fun k e => by cases e)
  have HB0 := hide hB0
  have HO0 := hide hown0
  clear hown0 hgrow0 hB0
  go_loopw [3, 11] (fun sv i wr => Below w.heap.size w wr ∧ ∃ k : Nat, k ≤ n ∧ i = .int .i64 k ∧ (∃ ao' c', sv = .slice ao' k c') ∧ Hid (wr.ownsRow w.heap.size 2 1 sv k ((cntsH (L.take k)).map (Value.int .i64)))) (fun sv i wr => n - (intOf i).toNat)
  case atStart => exact ⟨HB0.out, 0, Nat.zero_le _, rfl, ⟨_, _, rfl⟩, HO0⟩
  case round =>
    obtain ⟨hbel, k, hk, rfl, ⟨ao', c', rfl⟩, HK⟩ := hrel
    have HB := hide hbel
    have hz := hbel.size
    by_cases hkn : k < n
    · obtain ⟨⟨u, x⟩, hRk⟩ : ∃ a, L[k]? = some a := ⟨L[k]'(by have := HN.out; omega), List.getElem?_eq_getElem _⟩
      obtain ⟨b, off, rfl, hcell⟩ := HA.out (by have := HN.out; omega)
      have hc0 := cell_past hbel (hcell k _ hRk).1
      have hc1 := cell_past hbel (hcell k _ hRk).2
      have HE : Hid ((cntsH (L.take k)).map (Value.int .i64) ++ [.int .i64 x] = (cntsH (L.take (k + 1))).map (Value.int .i64)) := by
        refine (?_ : (cntsH (L.take k)).map (Value.int .i64) ++ [.int .i64 x] = (cntsH (L.take (k + 1))).map (Value.int .i64))
        rw [List.take_add_one, hRk]; simp [cntsH]
      clear hbel hcell hRk
      have HK2 : Hid (∀ o1 o2, ((wr.alloc o1).alloc o2).ownsRow w.heap.size 2 1 (.slice ao' k c') k ((cntsH (L.take k)).map (Value.int .i64))) := (fun o1 o2 => own_past HK.out (((Below.refl _ _).alloc (Nat.le_refl _) o1).alloc (by simp) o2) : ∀ o1 o2, ((wr.alloc o1).alloc o2).ownsRow w.heap.size 2 1 (.slice ao' k c') k ((cntsH (L.take k)).map (Value.int .i64)))
      have HB2 : Hid (∀ o1 o2, Below w.heap.size w ((wr.alloc o1).alloc o2)) := (fun o1 o2 => (HB.out.alloc hz o1).alloc (by simp; omega) o2 : ∀ o1 o2, Below w.heap.size w ((wr.alloc o1).alloc o2))
      go_wp2_with (at_builtin; refine wpList_append_own _ rfl (.tmp 15) (.tmp 18) 37 rfl w.heap.size 2 i0 (.int .i64 0) 1 8 Try.underlying37 hi hz0 hz1 hz2 rfl (by decide) _ _ _ rfl (HK2.out _ _) ⟨wr.heap.size + 1, 0, none⟩ 1 1 [.int .i64 x] rfl rfl (new_cells (cs := #[.int .i64 x]) (by simp)) (fun u hu => by simp at hu; subst hu; rfl) (by unfold maxLen; omega) (by omega) (by simp; omega) ?_; intro v1 w1 hown1 hgrow1 hnil1; obtain ⟨ao1, c1, rfl⟩ := own_any hown1; have O1 := hide hown1; have B1 := hide ((HB2.out _ _).grown hgrow1 (by simp; omega) (fun j hj => (HK.out.lt j hj).1)); clear hown1 hgrow1 hnil1)
      go_roundw
      case rel => exact ⟨B1.out, k + 1, by omega, by go_num, ⟨_, _, rfl⟩, (by rw [← HE.out]; exact O1.out : _)⟩
      case measure => simp [intOf]; omega
    · have e : k = n := by omega
      subst e
      have HL : Hid (wr.ownsRow w.heap.size 2 1 (.slice ao' k c') k ((cntsH L).map (Value.int .i64))) := by
        refine (?_ : wr.ownsRow w.heap.size 2 1 (.slice ao' k c') k ((cntsH L).map (Value.int .i64)))
        have := HK.out
        rw [List.take_of_length_le (by have := HN.out; omega)] at this
        exact this
      obtain ⟨g, c2, e2⟩ := own_form HL.out (by omega)
      cases e2
      clear hbel HK
      go_wp2_with fail
      refine (c_SortI (L := cntsH L) (by simp [cntsH]; exact HN.out) hl (by omega) HL.out).mono ?_
      rintro e w2 ⟨r, rfl, M, hp, hs, ho, hb⟩
      have hMl : M.length = k := by rw [hp.length_eq]; simp [cntsH]; exact HN.out
      obtain ⟨v, hv⟩ : ∃ v, M[k - 6]? = some v := ⟨M[k - 6]'(by omega), List.getElem?_eq_getElem _⟩
      have hcv : w2.cell? ⟨g, k - 6, none⟩ = some (.int .i64 v) := by rw [ho.cellAt (k - 6) (by omega)]; simp [hv]
      have HF : Hid (PlaceV (cntsH L) v ∧ (∃ x ∈ L, x.2 = v) ∧ Below w.heap.size w w2) := by
        refine (⟨place_perm (place_sorted hMl h6 hs hv) hp, ?_, HB.out.trans (hb)⟩ : PlaceV (cntsH L) v ∧ (∃ x ∈ L, x.2 = v) ∧ Below w.heap.size w w2)
        have := hp.mem_iff.1 (List.mem_of_getElem? hv)
        obtain ⟨x, hx, e⟩ := List.mem_map.1 this
        exact ⟨x, hx, e⟩
      have e1 : (k : Int) - 1 - 5 = ((k - 6 : Nat) : Int) := by omega
      have ew : IntKind.i64.wrap ((k - 6 : Nat) : Int) = ((k - 6 : Nat) : Int) := IntWalk.i64_in _ ⟨by omega, by omega⟩
      have ew1 : IntKind.i64.wrap ((k : Int) - 1) = (k : Int) - 1 := IntWalk.i64_in _ ⟨by omega, by omega⟩
      have hlt6 : k - 6 < k := by omega
      clear hp hs ho hb hv hMl
      go_wp2
      go_ret
      exact ⟨v, rfl, HF.out.1, HF.out.2.1, HF.out.2.2⟩
end Go.Proofs.Ytmhojmgemiphkaa
