/-
  What the model does with heavies: lessened, copied, asked for; the count at a place.
-/
import Derived.Test.YtmhojmgemiphkaaMergeC
import Derived.Test.YtmhojmgemiphkaaAddS
namespace Go.Proofs.Ytmhojmgemiphkaa
set_option linter.unusedVariables false
set_option linter.unusedSimpArgs false
open Go.ChangeShapes Go.WideShapes Go.ChangeAt Go.RowKit Go.PlainAid
set_option maxRecDepth 10000

theorem place_ex {L : List Hv} (h : 6 ≤ L.length) : ∃ v, PlaceV (cntsH L) v ∧ v ∈ cntsH L := by
  obtain ⟨S, hS⟩ : ∃ S, S = (cntsH L).mergeSort (fun a b => decide (a ≤ b)) := ⟨_, rfl⟩
  have hp : S.Perm (cntsH L) := by rw [hS]; exact List.mergeSort_perm _ _
  have hs : S.Pairwise (fun a b => decide (a ≤ b) = true) := by
    rw [hS]
    exact List.pairwise_mergeSort (fun a b c h1 h2 => by simp at *; omega) (fun a b => by simp; omega) _
  have hl : S.length = L.length := by rw [hp.length_eq]; simp [cntsH]
  obtain ⟨v, hv⟩ : ∃ v, S[L.length - 6]? = some v := ⟨S[L.length - 6]'(by omega), List.getElem?_eq_getElem _⟩
  refine ⟨v, place_perm (place_sorted hl h (fun p q x y hx hy hpq _ => ?_) hv) hp, hp.mem_iff.1 (List.mem_of_getElem? hv)⟩
  have hq := (List.getElem?_eq_some_iff.1 hy)
  have hpp := (List.getElem?_eq_some_iff.1 hx)
  obtain ⟨l1, e1⟩ := hq
  obtain ⟨l2, e2⟩ := hpp
  have := List.pairwise_iff_getElem.1 hs p q l2 l1 hpq
  rw [e1, e2] at this
  simpa using this

theorem c_s_l01Min (x y : Int) (w : World) :
    Calls Try.prog 25 #[.int .i64 x, .int .i64 y] w fun e w' => e = .returned (.int .i64 (if x < y then x else y)) ∧ w' = w := by
  by_cases h : x < y
  · rw [if_pos h]
    go_enter Try.func25, Try.ntmps25
    go_wp2
    go_ret
    exact ⟨rfl, rfl⟩
  · rw [if_neg h]
    go_enter Try.func25, Try.ntmps25
    go_wp2
    go_ret
    exact ⟨rfl, rfl⟩
def hasH (L : List Hv) (p : ByteArray) : Bool := L.any (fun x => decide (x.1 = p))
theorem has_drop {L : List Hv} {k : Nat} {x : Hv} (h : L[k]? = some x) (p : ByteArray) : hasH (L.drop k) p = (decide (x.1 = p) || hasH (L.drop (k + 1)) p) := by
  have hk := (List.getElem?_eq_some_iff.1 h).1
  rw [List.drop_eq_getElem_cons hk, (List.getElem?_eq_some_iff.1 h).2]; rfl
theorem c_s_l05Has {w : World} {n c : Nat} {ao : Option Addr} {L : List Hv} (p : ByteArray) (hn : L.length = n) (hl : n ≤ 1048576) (hA : HvsAt w ao L) :
    Calls Try.prog 23 #[.slice ao n c, .string p] w fun e w' => e = .returned (.bool (hasH L p)) ∧ w' = w := by
  have HA := hide hA
  have HN := hide hn
  clear hA hn
  go_enter Try.func23, Try.ntmps23
  go_wp2
  go_loop [5] (fun i => ∃ k : Nat, k ≤ n ∧ i = .int .i64 k ∧ Hid (hasH L p = hasH (L.drop k) p)) (fun i => n - (intOf i).toNat)
  case atStart => exact ⟨0, Nat.zero_le _, rfl, (rfl : hasH L p = hasH (L.drop 0) p)⟩
  case round =>
    obtain ⟨k, hk, rfl, HR⟩ := hrel
    by_cases hkn : k < n
    · obtain ⟨⟨u, x⟩, hRk⟩ : ∃ a, L[k]? = some a := ⟨L[k]'(by have := HN.out; omega), List.getElem?_eq_getElem _⟩
      obtain ⟨b, off, rfl, hcell⟩ := HA.out (by have := HN.out; omega)
      have hc0 := (hcell k _ hRk).1
      have hc1 := (hcell k _ hRk).2
      have HD := hide (has_drop hRk p)
      clear hcell hRk
      cases heq : (u.toList == p.toList) with
      | true =>
        have HE : Hid (true = hasH L p) := (by rw [HR.out, HD.out, decide_eq_true (show (u, x).1 = p from str_ext heq)]; rfl : true = hasH L p)
        go_wp2
        go_ret
        exact ⟨ret_bt HE.out, rfl⟩
      | false =>
        have HE : Hid (hasH L p = hasH (L.drop (k + 1)) p) := (by rw [HR.out, HD.out, decide_eq_false (show ¬ (u, x).1 = p from fun e => by have e : u = p := e; rw [e] at heq; simp at heq), Bool.false_or] : hasH L p = hasH (L.drop (k + 1)) p)
        go_wp2
        go_round
        case rel => exact ⟨k + 1, by omega, by go_num, HE⟩
        case measure => simp [intOf]; omega
    · have HE : Hid (false = hasH L p) := (by rw [HR.out, List.drop_eq_nil_of_le (by have := HN.out; omega)]; rfl : false = hasH L p)
      go_wp2
      go_ret
      exact ⟨ret_bt HE.out, rfl⟩

set_option maxHeartbeats 2000000 in
theorem c_s_l05Less {w : World} {n c : Nat} {ao : Option Addr} {L : List Hv} (d : Int) (hd : 0 ≤ d) (hd2 : d ≤ 9000000000000000) (hk : ∀ x ∈ L, 0 ≤ x.2 ∧ x.2 ≤ 9000000000000000) (hn : L.length = n) (hl : n ≤ 1000) (hA : HvsAt w ao L) :
    Calls Try.prog 26 #[.slice ao n c, .int .i64 d] w fun e w' => ∃ v, e = .returned v ∧ OwnH w' w.heap.size v (lessH L d) ∧ Below w.heap.size w w' := by
  obtain ⟨i0, hi, hz0, hz1, hz2⟩ := info_parts infoHeavy
  have HA := hide hA
  have HN := hide hn
  have HK := hide hk
  clear hA hn hk
  go_enter Try.func26, Try.ntmps26
  go_wp2
  have hmade : OwnH (w.alloc (Obj.cells #[] 52)) w.heap.size (.slice (some ⟨w.heap.size, 0, none⟩) 0 0) [] := World.ownsRow_made w #[] 0 (Nat.le_refl _) (Nat.zero_le _) rfl
  go_loopw [5, 6] (fun sv i wr => Below w.heap.size w wr ∧ ∃ k : Nat, k ≤ n ∧ i = .int .i64 k ∧ (∃ ao' n' c', sv = .slice ao' n' c' ∧ n' ≤ k) ∧ Hid (OwnH wr w.heap.size sv (lessH (L.take k) d))) (fun sv i wr => n - (intOf i).toNat)
  case atStart => exact ⟨(Below.refl _ _).alloc (Nat.le_refl _) _, 0, Nat.zero_le _, rfl, ⟨_, _, _, rfl, Nat.le_refl _⟩, (hmade : OwnH _ w.heap.size (.slice (some ⟨w.heap.size, 0, none⟩) 0 0) (lessH (L.take 0) d))⟩
  case round =>
    clear hmade
    obtain ⟨hbel, k, hk, rfl, ⟨ao', n', c', rfl, hn'⟩, HK1⟩ := hrel
    have HB := hide hbel
    have hz := hbel.size
    by_cases hkn : k < n
    · obtain ⟨⟨u, x⟩, hRk⟩ : ∃ a, L[k]? = some a := ⟨L[k]'(by have := HN.out; omega), List.getElem?_eq_getElem _⟩
      obtain ⟨hx0, hx1⟩ := HK.out _ (List.mem_of_getElem? hRk)
      obtain ⟨b, off, rfl, hcell⟩ := HA.out (by have := HN.out; omega)
      have HCw := hide (hcell k _ hRk)
      have hc0 := cell_past hbel (hcell k _ hRk).1
      have hc1 := cell_past hbel (hcell k _ hRk).2
      have HE := hide (less_step hRk d)
      simp only at hx0 hx1
      clear hbel hcell hRk
      by_cases hlt : d < x
      · have hwx : IntKind.i64.wrap (x - d) = x - d := IntWalk.i64_in _ ⟨by omega, by omega⟩
        have HO2 : Hid (lessH (L.take (k + 1)) d = lessH (L.take k) d ++ [(u, x - d)]) := (by rw [HE.out, if_pos hlt] : lessH (L.take (k + 1)) d = lessH (L.take k) d ++ [(u, x - d)])
        have HK2 : Hid (∀ o1, (((wr.alloc o1).drew).ownsRow w.heap.size 52 2 (.slice ao' n' c') (lessH (L.take k) d).length (fl encH (lessH (L.take k) d)))) := (fun o1 => own_past HK1.out (((Below.refl _ _).alloc (Nat.le_refl _) o1).drew) : ∀ o1, (((wr.alloc o1).drew).ownsRow w.heap.size 52 2 (.slice ao' n' c') (lessH (L.take k) d).length (fl encH (lessH (L.take k) d))))
        have HB2 : Hid (∀ o1, Below w.heap.size w (wr.alloc o1).drew) := (fun o1 => (HB.out.alloc hz o1).drew : ∀ o1, Below w.heap.size w (wr.alloc o1).drew)
        have hn2 : n' = (lessH (L.take k) d).length := by obtain ⟨a1, c1, e⟩ := HK1.out.any; cases e; rfl
        have HN2 := hide hn2
        clear hn2
        go_wp2_with fail
        have HSz := hide (fun (W : World) (hW : Below w.heap.size w W) => (⟨cell_past hW HCw.out.1, cell_past hW HCw.out.2⟩ : (fun W => W.cell? ⟨b, off + k * 2, none⟩ = some (.string u) ∧ W.cell? ⟨b, off + k * 2 + 1, none⟩ = some (.int .i64 x)) W))
        have HS0 : (fun W => W.cell? ⟨b, off + k * 2, none⟩ = some (.string u) ∧ W.cell? ⟨b, off + k * 2 + 1, none⟩ = some (.int .i64 x)) wr.drew := ⟨hc0, hc1⟩
        refine regionK (fun W => W.cell? ⟨b, off + k * 2, none⟩ = some (.string u) ∧ W.cell? ⟨b, off + k * 2 + 1, none⟩ = some (.int .i64 x)) 16 (by kernel_rfl) ?_
        refine takeK (i := 0) (d := 21) (v := .slice ao' n' c') rfl rfl (by kernel_rfl) (by kernel_rfl) (by kernel_rfl) (by decide) (by kernel_rfl) (fun _ _ _ h => h) (Or.inl ⟨by rfl, fun W hW => ?_⟩) HS0 ?_
        · obtain ⟨x0, x1⟩ := hW
          go_simp
        simp only [List.setIfInBounds_toArray, List.set_cons_zero, List.set_cons_succ]
        refine takeK (i := 1) (d := 22) (v := .slice (some ⟨b, off, none⟩) n c) rfl rfl (by kernel_rfl) (by kernel_rfl) (by kernel_rfl) (by decide) (by kernel_rfl) (fun _ _ _ h => h) (Or.inl ⟨by rfl, fun W hW => ?_⟩) HS0 ?_
        · obtain ⟨x0, x1⟩ := hW
          go_simp
        simp only [List.setIfInBounds_toArray, List.set_cons_zero, List.set_cons_succ]
        refine takeK (i := 2) (d := 23) (v := .int .i64 k) rfl rfl (by kernel_rfl) (by kernel_rfl) (by kernel_rfl) (by decide) (by kernel_rfl) (fun _ _ _ h => h) (Or.inl ⟨by rfl, fun W hW => ?_⟩) HS0 ?_
        · obtain ⟨x0, x1⟩ := hW
          go_simp
        simp only [List.setIfInBounds_toArray, List.set_cons_zero, List.set_cons_succ]
        refine takeK (i := 3) (d := 24) (v := .pointer (some ⟨b, off + k * 2, none⟩)) rfl rfl (by kernel_rfl) (by kernel_rfl) (by kernel_rfl) (by decide) (by kernel_rfl) (fun _ _ _ h => h) (Or.inl ⟨by rfl, fun W hW => ?_⟩) HS0 ?_
        · obtain ⟨x0, x1⟩ := hW
          go_simp
        simp only [List.setIfInBounds_toArray, List.set_cons_zero, List.set_cons_succ]
        refine takeK (i := 4) (d := 25) (v := .pointer (some ⟨b, off + k * 2, none⟩)) rfl rfl (by kernel_rfl) (by kernel_rfl) (by kernel_rfl) (by decide) (by kernel_rfl) (fun _ _ _ h => h) (Or.inl ⟨by rfl, fun W hW => ?_⟩) HS0 ?_
        · obtain ⟨x0, x1⟩ := hW
          go_simp
        simp only [List.setIfInBounds_toArray, List.set_cons_zero, List.set_cons_succ]
        refine takeK (i := 5) (d := 26) (v := .string u) rfl rfl (by kernel_rfl) (by kernel_rfl) (by kernel_rfl) (by decide) (by kernel_rfl) (fun _ _ _ h => h) (Or.inl ⟨by rfl, fun W hW => ?_⟩) HS0 ?_
        · obtain ⟨x0, x1⟩ := hW
          go_simp
        simp only [List.setIfInBounds_toArray, List.set_cons_zero, List.set_cons_succ]
        refine takeK (i := 6) (d := 27) (v := .slice (some ⟨b, off, none⟩) n c) rfl rfl (by kernel_rfl) (by kernel_rfl) (by kernel_rfl) (by decide) (by kernel_rfl) (fun _ _ _ h => h) (Or.inl ⟨by rfl, fun W hW => ?_⟩) HS0 ?_
        · obtain ⟨x0, x1⟩ := hW
          go_simp
        simp only [List.setIfInBounds_toArray, List.set_cons_zero, List.set_cons_succ]
        refine takeK (i := 7) (d := 28) (v := .int .i64 k) rfl rfl (by kernel_rfl) (by kernel_rfl) (by kernel_rfl) (by decide) (by kernel_rfl) (fun _ _ _ h => h) (Or.inl ⟨by rfl, fun W hW => ?_⟩) HS0 ?_
        · obtain ⟨x0, x1⟩ := hW
          go_simp
        simp only [List.setIfInBounds_toArray, List.set_cons_zero, List.set_cons_succ]
        refine takeK (i := 8) (d := 29) (v := .pointer (some ⟨b, off + k * 2, none⟩)) rfl rfl (by kernel_rfl) (by kernel_rfl) (by kernel_rfl) (by decide) (by kernel_rfl) (fun _ _ _ h => h) (Or.inl ⟨by rfl, fun W hW => ?_⟩) HS0 ?_
        · obtain ⟨x0, x1⟩ := hW
          go_simp
        simp only [List.setIfInBounds_toArray, List.set_cons_zero, List.set_cons_succ]
        refine takeK (i := 9) (d := 30) (v := .pointer (some ⟨b, off + k * 2 + 1, none⟩)) rfl rfl (by kernel_rfl) (by kernel_rfl) (by kernel_rfl) (by decide) (by kernel_rfl) (fun _ _ _ h => h) (Or.inl ⟨by rfl, fun W hW => ?_⟩) HS0 ?_
        · obtain ⟨x0, x1⟩ := hW
          go_simp
        simp only [List.setIfInBounds_toArray, List.set_cons_zero, List.set_cons_succ]
        refine takeK (i := 10) (d := 31) (v := .int .i64 x) rfl rfl (by kernel_rfl) (by kernel_rfl) (by kernel_rfl) (by decide) (by kernel_rfl) (fun _ _ _ h => h) (Or.inl ⟨by rfl, fun W hW => ?_⟩) HS0 ?_
        · obtain ⟨x0, x1⟩ := hW
          go_simp
        simp only [List.setIfInBounds_toArray, List.set_cons_zero, List.set_cons_succ]
        refine takeK (i := 11) (d := 32) (v := .int .i64 d) rfl rfl (by kernel_rfl) (by kernel_rfl) (by kernel_rfl) (by decide) (by kernel_rfl) (fun _ _ _ h => h) (Or.inl ⟨by rfl, fun W hW => ?_⟩) HS0 ?_
        · obtain ⟨x0, x1⟩ := hW
          go_simp
        simp only [List.setIfInBounds_toArray, List.set_cons_zero, List.set_cons_succ]
        refine takeK (i := 12) (d := 33) (v := .int .i64 (x - d)) rfl rfl (by kernel_rfl) (by kernel_rfl) (by kernel_rfl) (by decide) (by kernel_rfl) (fun _ _ _ h => h) (Or.inl ⟨by rfl, fun W hW => ?_⟩) HS0 ?_
        · obtain ⟨x0, x1⟩ := hW
          go_simp
        simp only [List.setIfInBounds_toArray, List.set_cons_zero, List.set_cons_succ]
        refine takeK (i := 13) (d := 34) (v := .agg #[.string u, .int .i64 (x - d)]) rfl rfl (by kernel_rfl) (by kernel_rfl) (by kernel_rfl) (by decide) (by kernel_rfl) (fun _ _ _ h => h) (Or.inl ⟨by rfl, fun W hW => ?_⟩) HS0 ?_
        · obtain ⟨x0, x1⟩ := hW
          go_simp
        simp only [List.setIfInBounds_toArray, List.set_cons_zero, List.set_cons_succ]
        refine oneK (i := 14) (by kernel_rfl) rfl (fun K hK => ?_)
        go_simp
        refine hK.out _ _ (fun _ => HSz.out _ (HB2.out _)) ?_
        clear hK K
        try simp only [Act.put, List.setIfInBounds_toArray, List.set_cons_zero, List.set_cons_succ]
        refine oneK (i := 15) (by kernel_rfl) rfl (fun K hK => ?_)
        rw [if_pos (by rfl)]
        refine wp_append_own _ (.tmp 21) (.tmp 35) 26 rfl w.heap.size 52 i0 (.agg #[.string ByteArray.empty, .int .i64 0]) 2 24 Try.underlying26 hi hz0 hz1 hz2 rfl (by decide) _ _ _ rfl (HK2.out _) ⟨wr.heap.size, 0, none⟩ 1 1 (encH (u, x - d)) rfl rfl (new_cells (cs := #[.string u, .int .i64 (x - d)]) rfl) (encH_one _) (by rw [← HN2.out]; unfold maxLen; omega) (by rw [← HN2.out]; omega) (by simp; omega) ?_
        intro v1 w1 hown1 hgrow1 hnil1
        have O1 := hide hown1
        have B1 := hide ((HB2.out _).grown hgrow1 (by simp; omega) (fun j hj => (HK1.out.lt j hj).1))
        clear hown1 hgrow1 hnil1
        refine hK.out _ _ (fun _ => HSz.out _ B1.out) ?_
        clear hK K
        obtain ⟨ao1, c1, e1⟩ := own_any O1.out
        subst e1
        try simp only [Act.put, List.setIfInBounds_toArray, List.set_cons_zero, List.set_cons_succ]
        refine oneK (i := 16) (by kernel_rfl) rfl (fun K hK => ?_)
        go_simp
        refine hK.out _ _ (fun _ => HSz.out _ B1.out) ?_
        clear hK K
        try simp only [Act.put, List.setIfInBounds_toArray, List.set_cons_zero, List.set_cons_succ]
        refine doneK (by kernel_rfl) ?_ _
        go_wp2
        go_roundw
        case rel =>
          refine ⟨B1.out, k + 1, by omega, by go_num, ⟨_, _, _, rfl, by rw [← HN2.out]; omega⟩, (?_ : OwnH w1 w.heap.size _ (lessH (L.take (k + 1)) d))⟩
          unfold OwnH
          rw [HO2.out, fl_app, fl_one, List.length_append]
          exact O1.out
        case measure => simp [intOf]; omega
      · have HO2 : Hid (lessH (L.take (k + 1)) d = lessH (L.take k) d) := (by rw [HE.out, if_neg hlt, List.append_nil] : lessH (L.take (k + 1)) d = lessH (L.take k) d)
        go_wp2
        go_roundw
        case rel => exact ⟨HB.out, k + 1, by omega, by go_num, ⟨_, _, _, rfl, by omega⟩, (by rw [HO2.out]; exact HK1.out : OwnH _ w.heap.size _ (lessH (L.take (k + 1)) d))⟩
        case measure => simp [intOf]; omega
    · have HF : Hid (OwnH wr w.heap.size (.slice ao' n' c') (lessH L d)) := by
        refine (?_ : OwnH wr w.heap.size (.slice ao' n' c') (lessH L d))
        have := HK1.out
        rw [List.take_of_length_le (by have := HN.out; omega)] at this
        exact this
      clear hbel HK1
      go_wp2
      go_ret
      exact ⟨_, rfl, HF.out, HB.out⟩
end Go.Proofs.Ytmhojmgemiphkaa
