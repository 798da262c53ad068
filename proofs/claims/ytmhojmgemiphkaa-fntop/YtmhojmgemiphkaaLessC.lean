/-
  Counts taken away; a list of heavies cloned; the debt asked for: as the program does.
-/
import Derived.Test.YtmhojmgemiphkaaLeastC
import Derived.Test.YtmhojmgemiphkaaAddC
namespace Go.Proofs.Ytmhojmgemiphkaa
set_option linter.unusedVariables false
set_option linter.unusedSimpArgs false
open Go.ChangeShapes Go.WideShapes Go.ChangeAt Go.RowKit Go.PlainAid
set_option maxRecDepth 10000

/-- A list of heavies of one's own. -/
def OwnH (w : World) (B : Nat) (v : Value) (L : List Hv) : Prop := w.ownsRow B 52 2 v L.length (fl encH L)
theorem OwnH.past {w w' : World} {B : Nat} {v : Value} {L : List Hv} (h : OwnH w B v L) (hb : Below w.heap.size w w') : OwnH w' B v L := own_past h hb
theorem OwnH.le {w : World} {B B' : Nat} {v : Value} {L : List Hv} (h : OwnH w B v L) (hb : B' ≤ B) : OwnH w B' v L := own_le h hb
theorem OwnH.any {w : World} {B : Nat} {v : Value} {L : List Hv} (h : OwnH w B v L) : ∃ ao c, v = .slice ao L.length c := own_any h
theorem OwnH.at {w : World} {B n c : Nat} {ao : Option Addr} {L : List Hv} (h : OwnH w B (.slice ao n c) L) : HvsAt w ao L := by
  obtain ⟨ao', c', e⟩ := h.any
  cases e
  exact hvs_owned h rfl rfl
theorem ownH_nil (w : World) (B : Nat) : OwnH w B (.slice none 0 0) [] := World.ownsRow_nil w B 52 2

theorem c_takeAway (x y : Int) (w : World) (hx : 0 ≤ x) (hx2 : x ≤ 9000000000000000) (hy : 0 ≤ y) (hy2 : y ≤ 9000000000000000) :
    Calls Try.prog 57 #[.int .i64 x, .int .i64 y] w fun e w' => e = .returned (.int .i64 (if y < x then x - y else 0)) ∧ w' = w := by
  by_cases h : y < x
  · rw [if_pos h]
    go_enter Try.func57, Try.ntmps57
    go_wp2
    go_ret
    exact ⟨by have e : x - min x y = x - y := by omega
              rw [e]; rfl, rfl⟩
  · rw [if_neg h]
    go_enter Try.func57, Try.ntmps57
    go_wp2
    go_ret
    exact ⟨by have e : x - min x y = 0 := by omega
              rw [e]; rfl, rfl⟩

theorem hvs_list {w : World} {A : Addr} {L : List Hv} (hA : HvsAt w (some A) L) : ∀ j z, (fl encH L)[j]? = some z → w.cell? (A.add j) = some z := fun j z hz => by
  have hj := (List.getElem?_eq_some_iff.1 hz).1
  rw [fl_len encH2] at hj
  obtain ⟨b, off, e, hcell⟩ := hA (by omega)
  cases e
  obtain ⟨x, hx⟩ : ∃ x, L[j / 2]? = some x := ⟨L[j / 2]'(by omega), List.getElem?_eq_getElem (by omega)⟩
  have h1 := fl_at encH2 L (j / 2) x (j % 2) (by omega) hx
  rw [show j / 2 * 2 + j % 2 = j by omega, hz] at h1
  have hc := hcell (j / 2) x hx
  rw [Addr.add_lit]
  have : j % 2 = 0 ∨ j % 2 = 1 := by omega
  rcases this with e | e
  · rw [e] at h1; rw [show off + j = off + j / 2 * 2 by omega, hc.1]; simpa [encH] using h1.symm
  · rw [e] at h1; rw [show off + j = off + j / 2 * 2 + 1 by omega, hc.2]; simpa [encH] using h1.symm
theorem hvs_nil {w : World} {L : List Hv} (h : HvsAt w none L) : L = [] := by
  rcases Nat.eq_zero_or_pos L.length with h0 | h0
  · exact List.eq_nil_of_length_eq_zero h0
  · obtain ⟨b, off, e, _⟩ := h h0; cases e

theorem c_CloneH {w : World} {ao : Option Addr} {L : List Hv} (c n : Nat) (hn : L.length = n) (hl : n ≤ 1048576) (hA : HvsAt w ao L) :
    Calls Try.prog 30 #[.slice ao n c] w fun e w' => ∃ v, e = .returned v ∧ OwnH w' w.heap.size v L ∧ Below w.heap.size w w' := by
  obtain ⟨i0, hi, hz0, hz1, hz2⟩ := info_parts infoHeavy
  cases ao with
  | none =>
    obtain rfl := hvs_nil hA
    obtain rfl : n = 0 := hn.symm
    have hq := fun W => Lib.run_eql_slice_nil (P := Try.prog) W 26 52 none 0 c 0 0 Try.underlying26
    clear hA hn
    go_enter Try.func30, Try.ntmps30
    go_wp2
    go_ret
    exact ⟨_, rfl, ownH_nil _ _, Below.refl _ _⟩
  | some A =>
    have HCs := hide (hvs_list hA)
    have hq := fun W => Lib.run_eql_slice_nil (P := Try.prog) W 26 52 (some A) n c 0 0 Try.underlying26
    have HN := hide hn
    clear hA hn
    go_enter Try.func30, Try.ntmps30
    go_wp2_with (at_builtin; refine wpList_append_own _ rfl (.tmp 5) (.tmp 6) 26 rfl w.heap.size 52 i0 (.agg #[.string ByteArray.empty, .int .i64 0]) 2 24 Try.underlying26 hi hz0 hz1 hz2 rfl (by decide) _ _ _ rfl (World.ownsRow_made _ #[] 0 (Nat.le_refl _) (Nat.zero_le _) rfl) A n c (fl encH L) rfl (by rw [fl_len encH2, HN.out]) (fun j z hz => by have := HCs.out j z hz; exact cell_on this _) (fl_oneH _) (by unfold maxLen; omega) (by omega) (by simp) ?_; intro v1 w1 hown1 hgrow1 hnil1; simp only [Nat.zero_add, List.nil_append] at hown1; have O1 := hide hown1; have B1 := hide (((Below.refl _ _).alloc (Nat.le_refl _) _).grown hgrow1 (by simp) (fun j hj => by cases hj; exact Nat.le_refl _)); clear hown1 hgrow1 hnil1)
    go_ret
    refine ⟨_, rfl, ?_, B1.out⟩
    unfold OwnH
    rw [HN.out]; exact O1.out

theorem less_step {L : List Hv} {k : Nat} {x : Hv} (h : L[k]? = some x) (d : Int) : lessH (L.take (k + 1)) d = lessH (L.take k) d ++ (if d < x.2 then [(x.1, x.2 - d)] else []) := by
  rw [List.take_add_one, h]
  unfold lessH
  rw [List.filterMap_append]
  congr 1
  simp only [Option.toList, List.filterMap_cons, List.filterMap_nil]
  split <;> rename_i h <;> split at h <;> simp_all
set_option maxHeartbeats 2000000 in
theorem c_lessBy {w : World} {n c : Nat} {ao : Option Addr} {L : List Hv} (d : Int) (hd : 0 ≤ d) (hd2 : d ≤ 9000000000000000) (hk : ∀ x ∈ L, 0 ≤ x.2 ∧ x.2 ≤ 9000000000000000) (hn : L.length = n) (hl : n ≤ 1000) (hA : HvsAt w ao L) :
    Calls Try.prog 48 #[.slice ao n c, .int .i64 d] w fun e w' => ∃ v, e = .returned v ∧ OwnH w' w.heap.size v (lessH L d) ∧ Below w.heap.size w w' := by
  obtain ⟨i0, hi, hz0, hz1, hz2⟩ := info_parts infoHeavy
  have HA := hide hA
  have HN := hide hn
  have HK := hide hk
  clear hA hn hk
  go_enter Try.func48, Try.ntmps48
  go_wp2
  go_loopw [5, 10] (fun sv i wr => Below w.heap.size w wr ∧ ∃ k : Nat, k ≤ n ∧ i = .int .i64 k ∧ (∃ ao' n' c', sv = .slice ao' n' c' ∧ n' ≤ k) ∧ Hid (OwnH wr w.heap.size sv (lessH (L.take k) d))) (fun sv i wr => n - (intOf i).toNat)
  case atStart => exact ⟨Below.refl _ _, 0, Nat.zero_le _, rfl, ⟨_, _, _, rfl, Nat.le_refl _⟩, (ownH_nil _ _ : OwnH w w.heap.size (.slice none 0 0) (lessH (L.take 0) d))⟩
  case round =>
    obtain ⟨hbel, k, hk, rfl, ⟨ao', n', c', rfl, hn'⟩, HK1⟩ := hrel
    have HB := hide hbel
    have hz := hbel.size
    by_cases hkn : k < n
    · obtain ⟨⟨u, x⟩, hRk⟩ : ∃ a, L[k]? = some a := ⟨L[k]'(by have := HN.out; omega), List.getElem?_eq_getElem _⟩
      obtain ⟨hx0, hx1⟩ := HK.out _ (List.mem_of_getElem? hRk)
      obtain ⟨b, off, rfl, hcell⟩ := HA.out (by have := HN.out; omega)
      have hc0 := cell_past hbel (hcell k _ hRk).1
      have hc1 := cell_past hbel (hcell k _ hRk).2
      have HE := hide (less_step hRk d)
      have HBn : Hid (∀ o, Below w.heap.size w (wr.alloc o)) := (fun o => HB.out.alloc hz o : ∀ o, Below w.heap.size w (wr.alloc o))
      simp only at hx0 hx1
      clear hbel hcell hRk
      by_cases hlt : d < x
      · have hpos : 0 < x - d := by omega
        have d1 : (if d < x then x - d else 0) = x - d := if_pos hlt
        have HO2 : Hid (lessH (L.take (k + 1)) d = lessH (L.take k) d ++ [(u, x - d)]) := (by rw [HE.out, if_pos hlt] : lessH (L.take (k + 1)) d = lessH (L.take k) d ++ [(u, x - d)])
        have HK2 : Hid (∀ o1 o2, (((wr.alloc o1).alloc o2).ownsRow w.heap.size 52 2 (.slice ao' n' c') (lessH (L.take k) d).length (fl encH (lessH (L.take k) d)))) := (fun o1 o2 => own_past HK1.out (((Below.refl _ _).alloc (Nat.le_refl _) o1).alloc (by simp) o2) : ∀ o1 o2, (((wr.alloc o1).alloc o2).ownsRow w.heap.size 52 2 (.slice ao' n' c') (lessH (L.take k) d).length (fl encH (lessH (L.take k) d))))
        have HB2 : Hid (∀ o1 o2, Below w.heap.size w ((wr.alloc o1).alloc o2)) := (fun o1 o2 => (HB.out.alloc hz o1).alloc (by simp; omega) o2 : ∀ o1 o2, Below w.heap.size w ((wr.alloc o1).alloc o2))
        have hn2 : n' = (lessH (L.take k) d).length := by obtain ⟨a1, c1, e⟩ := HK1.out.any; cases e; rfl
        have HN2 := hide hn2
        clear hn2
        go_wp2_with (first
          | (go_at_call 57; refine (c_takeAway _ _ _ hx0 hx1 hd hd2).mono ?_; rintro e w2 ⟨rfl, hw⟩; obtain rfl := hw.symm; rw [d1])
          | (at_builtin; refine wpList_append_own _ rfl (.tmp 22) (.tmp 24) 26 rfl w.heap.size 52 i0 (.agg #[.string ByteArray.empty, .int .i64 0]) 2 24 Try.underlying26 hi hz0 hz1 hz2 rfl (by decide) _ _ _ rfl (HK2.out _ _) ⟨wr.heap.size + 1, 0, none⟩ 1 1 (encH (u, x - d)) rfl rfl (new_cells (cs := #[.string u, .int .i64 (x - d)]) (by simp)) (encH_one _) (by rw [← HN2.out]; unfold maxLen; omega) (by rw [← HN2.out]; omega) (by simp; omega) ?_; intro v1 w1 hown1 hgrow1 hnil1; obtain ⟨ao1, c1, rfl⟩ := own_any hown1; have O1 := hide hown1; have B1 := hide ((HB2.out _ _).grown hgrow1 (by simp; omega) (fun j hj => (HK1.out.lt j hj).1)); clear hown1 hgrow1 hnil1))
        go_roundw
        case rel =>
          refine ⟨B1.out, k + 1, by omega, by go_num, ⟨_, _, _, rfl, by rw [← HN2.out]; omega⟩, (?_ : OwnH w1 w.heap.size _ (lessH (L.take (k + 1)) d))⟩
          unfold OwnH
          rw [HO2.out, fl_app, fl_one, List.length_append]
          exact O1.out
        case measure => simp [intOf]; omega
      · have d1 : (if d < x then x - d else 0) = 0 := if_neg hlt
        have HO2 : Hid (lessH (L.take (k + 1)) d = lessH (L.take k) d) := (by rw [HE.out, if_neg hlt, List.append_nil] : lessH (L.take (k + 1)) d = lessH (L.take k) d)
        have HK2 : Hid (∀ o1, OwnH (wr.alloc o1) w.heap.size (.slice ao' n' c') (lessH (L.take k) d)) := (fun o1 => HK1.out.past ((Below.refl _ _).alloc (Nat.le_refl _) o1) : ∀ o1, OwnH (wr.alloc o1) w.heap.size (.slice ao' n' c') (lessH (L.take k) d))
        go_wp2_with (go_at_call 57; refine (c_takeAway _ _ _ hx0 hx1 hd hd2).mono ?_; rintro e w2 ⟨rfl, hw⟩; obtain rfl := hw.symm; rw [d1])
        go_roundw
        case rel => exact ⟨HBn.out _, k + 1, by omega, by go_num, ⟨_, _, _, rfl, by omega⟩, (by rw [HO2.out]; exact HK2.out _ : OwnH _ w.heap.size _ (lessH (L.take (k + 1)) d))⟩
        case measure => simp [intOf]; omega
    · have HF : Hid (OwnH wr w.heap.size (.slice ao' n' c') (lessH L d)) := by
        refine (?_ : OwnH wr w.heap.size (.slice ao' n' c') (lessH L d))
        have := HK1.out
        rw [List.take_of_length_le (by have := HN.out; omega)] at this
        exact this
      clear hbel HK1
      go_wp2
      go_ret
      exact ⟨_, rfl, HF.out, HB.out⟩
end Go.Proofs.Ytmhojmgemiphkaa
