/-
  The law FnSeries: a drawn name and tags make one series in whatever order, and however often, the tags come; the program's series are the model's, and a text that is one is right. Condition: the library's tables as the program's text lays them (the card ties them).
-/
import Derived.Test.YtiafgcppidmoiaaDoorDrawL
import Derived.Test.YtiafgcppidmoiaaDoorSrtT
import Derived.Test.YtiafgcppidmoiaaDoorLwC
import Derived.Test.YtiafgcppidmoiaaDoorOpenC
import Derived.Test.YtiafgcppidmoiaaDoorShp
import Derived.Test.YtiafgcppidmoiaaDoorTie
import Derived.Test.YtiafgcppidmoiaaDoorCards
import Derived.Carry
import Derived.ShutString
import Derived.ChangeOld
import Derived.ChangeSame
import Derived.ChangeVars
import Derived.JoinedOf
import Derived.LaidLaws
import Derived.LaidHandle
import Derived.LaidSub
import Derived.Lib.LaidTab
import Derived.Lay
import Derived.MakeChecks
import Derived.Stop.Joined
import Derived.SevenTiedAt
import Derived.Deep.DeepHandedRow
import Derived.WalkKit
import Derived.ProofKit
import Derived.OpenShut
namespace Go.Proofs.YtiafgcppidmoiaaDoor
set_option linter.unusedVariables false
set_option linter.unusedSimpArgs false
open Go.ChangeMaps (open_string shut_string)
open Go.ChangeShapes Go.WideShapes Go.ChangeAt Go.RowKit Go.PlainAid

set_option maxRecDepth 10000

theorem c_lwAtN (ao : Option Addr) (ln cap k m : Nat) (hk : k ≤ 1000) (hm : 1 ≤ m) (hm9 : m ≤ 1000) (w w0 : World) (hc : CodeAt w0 w0.heap.size ao ln) (hb : Below w0.heap.size w0 w) :
    Calls Tryd.prog 15 #[.slice ao ln cap, .int .i64 k, .int .i64 m] w fun e w' => ∃ r : Nat, e = .returned (.int .i64 r) ∧ r < m ∧ w' = w := by
  by_cases h1 : m = 1
  · subst h1
    go_enter Tryd.func15, Tryd.ntmps15
    go_wp2
    go_ret
    exact ⟨0, rfl, by omega, rfl⟩
  · refine (c_lwAtF ao ln cap k m hk (by omega) (by omega) w w0 hc hb).mono ?_
    rintro e w' ⟨rfl, rfl⟩
    obtain ⟨r0, r1⟩ := lwF_in hc (show (0 : Int) < (m : Int) by omega) k
    obtain ⟨r, hr⟩ := Int.eq_ofNat_of_zero_le r0
    exact ⟨r, by rw [hr], by omega, rfl⟩
theorem serO_emp {name : ByteArray} {L : List ByteArray} : serRB (serO name L) = !(serO name L).toList.isEmpty := by
  by_cases h : (serO name L).size = 0
  · rw [isE0 h]
    refine serRB_f (fun ⟨nm, K, hs⟩ => ?_)
    have e := congrArg ByteArray.size hs.2.2.2.2.2
    rw [serT_size] at e; omega
  · rw [isE h]
    refine serRB_t ?_
    unfold serO at h ⊢
    split at h
    · exact absurd rfl h
    · rename_i h4
      rw [if_neg h4]
      exact of_serW rfl (by omega)
theorem serO_same {name : ByteArray} {L M : List ByteArray} (h : ∀ x, x ∈ L ↔ x ∈ M) (hl : L.length ≤ 400) (hm : M.length ≤ 400) : serO name M = serO name L := by
  unfold serO
  rw [if_neg (by omega), if_neg (by omega)]
  have ha : M.all tagB = L.all tagB := by
    rw [Bool.eq_iff_iff, List.all_eq_true, List.all_eq_true]
    exact ⟨fun k x hx => k x ((h x).1 hx), fun k x hx => k x ((h x).2 hx)⟩
  unfold serW serF
  rw [ha, serK_same (fun x => (h x).symm)]
theorem serO_size {name : ByteArray} {L : List ByteArray} (h : name.size ≤ maxLen) : (serO name L).size ≤ maxLen := by
  unfold serO
  split
  · decide
  · unfold serW
    split
    · unfold serF
      split
      · decide
      · unfold maxLen; omega
    · decide
theorem mem_rot {L : List ByteArray} {k j : Nat} {x : ByteArray} (hx : L[j]? = some x) : ∀ u, u ∈ L ↔ u ∈ L.drop k ++ L.take k ++ [x] := fun u => by
  have e : u ∈ L ↔ u ∈ L.take k ++ L.drop k := by rw [List.take_append_drop]
  simp only [List.mem_append, List.mem_singleton] at e ⊢
  constructor
  · intro h
    rcases e.1 h with h | h
    · exact .inl (.inr h)
    · exact .inl (.inl h)
  · rintro ((h | h) | rfl)
    · exact e.2 (.inr h)
    · exact e.2 (.inl h)
    · exact List.mem_of_getElem? hx
/-- What an append turns lies behind all that was there, and behind the list itself. -/
theorem below_of {w w1 w2 : World} {v : Value} {n : Nat} {xs : List Value} (h : Below w.heap.size w w1) (hg : w1.grownBy w2 v.ownBlock) (ho : w1.ownsRow w.heap.size 9 1 v n xs) : Below w.heap.size w w2 := h.grown hg h.size (fun j hj => (ho.lt j hj).1)
set_option maxHeartbeats 2000000 in
theorem walkSeries (ao : Option Addr) (ln cap : Nat) (bo : Option Addr) (lm cbp : Nat) (w : World) (hl : ln ≤ maxLen) (ha : ln ≤ 1048576 → CodeAt w w.heap.size ao ln) (hm : lm ≤ maxLen) (hb : lm ≤ 1048576 → CodeAt w w.heap.size bo lm) (hx : MX w) :
    Calls Tryd.prog 5 #[.slice ao ln cap, .slice bo lm cbp] w fun e w' => e = .returned (.bool true) ∧ Below w.heap.size w w' := by
  have hlz : ln ≤ 9223372036854775807 := hl
  have hmz : lm ≤ 9223372036854775807 := hm
  by_cases hl1 : 1048576 < ln
  · have hl1i : (1048576 : Int) < (ln : Int) := by omega
    clear ha hb
    go_enter Tryd.func5, Tryd.ntmps5
    go_wp2
    go_ret
    exact ⟨rfl, Below.refl _ _⟩
  have hl1i : ¬ (1048576 : Int) < (ln : Int) := by omega
  by_cases hm1 : 1048576 < lm
  · have hm1i : (1048576 : Int) < (lm : Int) := by omega
    clear ha hb
    go_enter Tryd.func5, Tryd.ntmps5
    go_wp2
    go_ret
    exact ⟨rfl, Below.refl _ _⟩
  have hm1i : ¬ (1048576 : Int) < (lm : Int) := by omega
  have HA := hide (ha (by omega))
  have HBm := hide (hb (by omega))
  have HX := hide hx
  clear ha hb hx
  obtain ⟨i0, hi, hz0, hz1, hz2⟩ := info_parts infoStr
  go_enter Tryd.func5, Tryd.ntmps5
  go_wp2_with fail
  refine (c_DrawSeriesOf HA.out).mono ?_
  rintro e w1 ⟨name, lo, n, lc, L, rfl, hn, hn40, own, sz, hnm, hb1⟩
  have HN := hide hn
  have HO := hide own
  have HZ : Hid (∀ u ∈ L, u.size ≤ maxLen) := ((fun u hu => by have := sz u hu; unfold maxLen; omega) : ∀ u ∈ L, u.size ≤ maxLen)
  have HB := hide hb1
  have hnm9 : name.size ≤ maxLen := by unfold maxLen; omega
  clear hn own sz hb1
  go_wp2_with fail
  refine (c_i_SeriesOf name lc n hnm9 HN.out (by omega) HZ.out HO.out.at).mono ?_
  rintro e w2 ⟨rfl, hb2⟩
  replace HO := hide (HO.out.past hb2)
  replace HB := hide (HB.out.trans (hb2.mono HB.out.size))
  clear hb2
  obtain ⟨T, hT⟩ : ∃ T, serO name L = T := ⟨_, rfl⟩
  have HT := hide hT
  have hE : serRB T = !T.toList.isEmpty := by rw [← hT]; exact serO_emp
  have HE := hide hE
  rw [hT]
  clear hT hE
  go_wp2_with fail
  refine (c_s_SeriesOf name lc n hnm9 HN.out (by omega) HZ.out HO.out.at).mono ?_
  rintro e w3 ⟨rfl, hb3⟩
  rw [HT.out]
  replace HO := hide (HO.out.past hb3)
  replace HB := hide (HB.out.trans (hb3.mono HB.out.size))
  clear hb3
  go_wp2_with fail
  refine (c_i_SeriesRight T (HX.out.past HB.out) ?_).mono ?_
  · rw [← HT.out]; exact serO_size hnm9
  rintro e w4 ⟨rfl, hb4⟩
  rw [HE.out]
  replace HO := hide (HO.out.past hb4)
  replace HB := hide (HB.out.trans (hb4.mono HB.out.size))
  clear hb4
  rcases Nat.eq_zero_or_pos n with h0 | h0
  · subst h0
    cases hTe : T.toList.isEmpty <;> (go_wp2; go_ret; exact ⟨rfl, HB.out⟩)
  have hn0 : ((n : Int) == 0) = false := by simp; omega
  have hMAIN : Hid True := trivial
  cases hTe : T.toList.isEmpty with
  | true =>
    go_wp2_with fail
    refine (c_lwAtN bo lm cbp 0 n (by omega) (by omega) (by omega) _ w HBm.out HB.out).mono ?_
    rintro e w5 ⟨k, rfl, hk, hw5⟩
    obtain rfl := hw5
    obtain ⟨g, hg⟩ : ∃ g, lo = some ⟨g, 0, none⟩ := by
      rcases HO.out.2 with ⟨e, _⟩ | ⟨g, c', cur, e, _⟩
      · cases e; omega
      · cases e; exact ⟨g, rfl⟩
    subst hg
    have G := hide HO.out.cap
    have hlc : n ≤ lc := G.out.2.1
    have hlm9 : lc ≤ 9223372036854775807 := G.out.2.2.1
    have hck : ¬ lc = k := by omega
    have hkn : (k : Int) ≤ (n : Int) := by omega
    have hkl : (k : Int) ≤ (lc : Int) := by omega
    go_wp2_with fail
    replace HO : Hid (OwnT w5.drew 0 (.slice (some ⟨g, 0, none⟩) n lc) L) := HO.out.past ⟨rfl, rfl, rfl, Nat.le_refl _, fun _ _ => rfl⟩
    replace HB : Hid (Below w.heap.size w w5.drew) := HB.out.drew
    have HBw := hide HB.out
    have hgl : g < w5.heap.size := (World.ownsRow.lt HO.out g rfl).2
    refine regionK (fun W' => True) 10 (by rfl) ?_
    refine takeK (i := 1) (d := 46) (v := .slice (some ⟨g, 0, none⟩) n lc) rfl rfl (by kernel_rfl) (by kernel_rfl) (by kernel_rfl) (by decide) (by kernel_rfl) (fun _ _ _ h => h) (Or.inl ⟨by rfl, fun W hW => ?_⟩) trivial ?_
    · clear hW
      go_simp
    simp only [List.setIfInBounds_toArray, List.set_cons_zero, List.set_cons_succ]
    refine takeK (i := 2) (d := 47) (v := .int .i64 k) rfl rfl (by kernel_rfl) (by kernel_rfl) (by kernel_rfl) (by decide) (by kernel_rfl) (fun _ _ _ h => h) (Or.inl ⟨by rfl, fun W hW => ?_⟩) trivial ?_
    · clear hW
      go_simp
    simp only [List.setIfInBounds_toArray, List.set_cons_zero, List.set_cons_succ]
    refine takeK (i := 3) (d := 48) (v := .slice (some ⟨g, k, none⟩) (n - k) (lc - k)) rfl rfl (by kernel_rfl) (by kernel_rfl) (by kernel_rfl) (by decide) (by kernel_rfl) (fun _ _ _ h => h) (Or.inl ⟨by rfl, fun W hW => ?_⟩) trivial ?_
    · clear hW
      go_simp
    simp only [List.setIfInBounds_toArray, List.set_cons_zero, List.set_cons_succ]
    refine takeK (i := 5) (d := 50) (v := .slice (some ⟨g, 0, none⟩) n lc) rfl rfl (by kernel_rfl) (by kernel_rfl) (by kernel_rfl) (by decide) (by kernel_rfl) (fun _ _ _ h => h) (Or.inl ⟨by rfl, fun W hW => ?_⟩) trivial ?_
    · clear hW
      go_simp
    simp only [List.setIfInBounds_toArray, List.set_cons_zero, List.set_cons_succ]
    refine takeK (i := 6) (d := 51) (v := .int .i64 k) rfl rfl (by kernel_rfl) (by kernel_rfl) (by kernel_rfl) (by decide) (by kernel_rfl) (fun _ _ _ h => h) (Or.inl ⟨by rfl, fun W hW => ?_⟩) trivial ?_
    · clear hW
      go_simp
    simp only [List.setIfInBounds_toArray, List.set_cons_zero, List.set_cons_succ]
    refine takeK (i := 7) (d := 52) (v := .slice (some ⟨g, 0, none⟩) k lc) rfl rfl (by kernel_rfl) (by kernel_rfl) (by kernel_rfl) (by decide) (by kernel_rfl) (fun _ _ _ h => h) (Or.inl ⟨by rfl, fun W hW => ?_⟩) trivial ?_
    · clear hW
      go_simp
    simp only [List.setIfInBounds_toArray, List.set_cons_zero, List.set_cons_succ]
    refine oneK (i := 0) (by kernel_rfl) rfl (fun K hK => ?_)
    go_simp
    refine hK.out _ _ (fun _ => trivial) ?_
    clear hK K
    try simp only [Act.put, List.setIfInBounds_toArray, List.set_cons_zero, List.set_cons_succ]
    have O0 : (w5.drew.alloc (.cells #[] 9)).ownsRow w5.heap.size 9 1 (.slice (some ⟨w5.heap.size, 0, none⟩) 0 0) 0 [] := World.ownsRow_made w5.drew #[] 0 (Nat.le_refl _) (Nat.zero_le _) rfl
    have HOa := hide (HO.out.past ((Below.refl _ _).alloc (Nat.le_refl _) (.cells #[] 9)))
    refine oneK (i := 4) (by kernel_rfl) rfl (fun K hK => ?_)
    rw [if_pos (by rfl)]
    refine wp_append_own _ (.tmp 45) (.tmp 48) 32 rfl w5.heap.size 9 i0 (.string ByteArray.empty) 1 16 Tryd.underlying32 hi hz0 hz1 hz2 rfl (by decide) _ _ _ rfl O0 ⟨g, k, none⟩ (n - k) (lc - k) ((L.drop k).map Value.string) rfl (by rw [List.length_map, List.length_drop]; have := HN.out; omega) (strs_list (by have h := strs_drop k HOa.out.at; rwa [Nat.zero_add] at h)) (strs_one _) (by unfold maxLen; omega) (by omega) (by simp) ?_
    intro v6 w6 hown hgrow hnil
    simp only [Nat.zero_add, List.nil_append] at hown
    obtain ⟨ao6, c6, rfl⟩ := own_any hown
    have O6 := hide hown
    have B6 := hide (((Below.refl w5.drew.heap.size w5.drew).alloc (Nat.le_refl _) _).grown hgrow (by simp) (fun j hj => by cases hj; exact Nat.le_refl _))
    replace HO := hide (HO.out.past B6.out)
    clear hown hgrow hnil O0 HOa
    refine hK.out _ _ (fun _ => trivial) ?_
    clear hK K
    try simp only [Act.put, List.setIfInBounds_toArray, List.set_cons_zero, List.set_cons_succ]
    refine oneK (i := 8) (by kernel_rfl) rfl (fun K hK => ?_)
    rw [if_pos (by rfl)]
    refine wp_append_own _ (.tmp 49) (.tmp 52) 32 rfl w5.heap.size 9 i0 (.string ByteArray.empty) 1 16 Tryd.underlying32 hi hz0 hz1 hz2 rfl (by decide) _ _ _ rfl O6.out ⟨g, 0, none⟩ k lc ((L.take k).map Value.string) rfl (by rw [List.length_map, List.length_take]; have := HN.out; omega) (strs_list (strs_take k HO.out.at)) (strs_one _) (by unfold maxLen; omega) (by omega) (by exact B6.out.size) ?_
    intro v7 w7 hown hgrow hnil
    obtain ⟨ao7, c7, rfl⟩ := own_any hown
    have B7 := hide (B6.out.grown hgrow B6.out.size (fun j hj => (O6.out.lt j hj).1))
    replace HO : Hid (OwnT w7 0 (.slice (some ⟨g, 0, none⟩) n lc) L) := (World.ownsRow.kept HO.out hgrow (.inr (fun e => by have := (O6.out.lt g e.symm).1; omega)) : OwnT w7 0 (.slice (some ⟨g, 0, none⟩) n lc) L)
    have O7 : Hid (w7.ownsRow w5.heap.size 9 1 (.slice ao7 n c7) n ((L.drop k ++ L.take k).map Value.string)) := (by rw [List.map_append]; have h := hown; rwa [show n - k + k = n by omega] at h : w7.ownsRow w5.heap.size 9 1 (.slice ao7 n c7) n ((L.drop k ++ L.take k).map Value.string))
    rw [show n - k + k = n by omega]
    clear hown hgrow hnil O6
    refine hK.out _ _ (fun _ => trivial) ?_
    clear hK K
    try simp only [Act.put, List.setIfInBounds_toArray, List.set_cons_zero, List.set_cons_succ]
    refine oneK (i := 9) (by kernel_rfl) rfl (fun K hK => ?_)
    go_simp
    refine hK.out _ _ (fun _ => trivial) ?_
    clear hK K
    try simp only [Act.put, List.setIfInBounds_toArray, List.set_cons_zero, List.set_cons_succ]
    refine doneK (by kernel_rfl) ?_ _
    replace HB := hide (HB.out.trans (B7.out.mono HB.out.size))
    go_wp2_with fail
    refine (c_lwAtN bo lm cbp 1 n (by omega) (by omega) (by omega) _ w HBm.out HB.out).mono ?_
    rintro e w8 ⟨j, rfl, hj, hw8⟩
    obtain rfl := hw8
    obtain ⟨x, hx⟩ : ∃ x, L[j]? = some x := ⟨L[j]'(by have := HN.out; omega), List.getElem?_eq_getElem _⟩
    have hcx : w8.cell? ⟨g, j, none⟩ = some (.string x) := by
      obtain ⟨b', off', e', hcc⟩ := HO.out.at (by have := HN.out; omega)
      cases e'
      have := hcc j x hx
      rwa [Nat.zero_add] at this
    have HMx := hide (mem_rot (k := k) hx)
    have HLen : Hid ((L.drop k ++ L.take k ++ [x]).length = n + 1) := (by have := HN.out; simp; omega : (L.drop k ++ L.take k ++ [x]).length = n + 1)
    have HZx : Hid (∀ u ∈ L.drop k ++ L.take k ++ [x], u.size ≤ maxLen) := ((fun u hu => HZ.out u ((HMx.out u).2 hu)) : ∀ u ∈ L.drop k ++ L.take k ++ [x], u.size ≤ maxLen)
    clear hx
    have O8 := hide (own_past O7.out ((Below.refl _ _).alloc (Nat.le_refl _) (.cells #[.string x] 9)))
    have hn9 : n ≤ 40 := hn40
    have hsz8 : w5.heap.size ≤ w8.heap.size := B7.out.size
    go_wp2_with (at_builtin; refine wpList_append_own _ rfl (.tmp 54) (.tmp 62) 32 rfl w5.heap.size 9 i0 (.string ByteArray.empty) 1 16 Tryd.underlying32 hi hz0 hz1 hz2 rfl (by decide) _ _ _ rfl O8.out ⟨w8.heap.size, 0, none⟩ 1 1 [.string x] rfl rfl (new_cells (cs := #[.string x]) rfl) (strs_one [x]) (by unfold maxLen; omega) (by omega) (by simp; omega) ?_; intro v9 w9 hown hgrow hnil; obtain ⟨ao9, c9, rfl⟩ := own_any hown; have O9 := hide (OwnT.of (L := L.drop k ++ L.take k ++ [x]) hown (by simp)); have B9 := hide ((B7.out.alloc B7.out.size (.cells #[.string x] 9)).grown hgrow (by simp; omega) (fun j hj => (O7.out.lt j hj).1)); clear hown hgrow hnil)
    refine (c_i_SeriesOf name c9 (n + 1) hnm9 HLen.out (by omega) HZx.out O9.out.at).mono ?_
    rintro e w10 ⟨rfl, hb10⟩
    have eT : serO name (L.drop k ++ L.take k ++ [x]) = T := by rw [← HT.out]; exact serO_same HMx.out (by have := HN.out; omega) (by rw [HLen.out]; omega)
    rw [eT]
    clear eT
    replace HB := hide ((HBw.out.trans (B9.out.mono HBw.out.size)).trans (hb10.mono (HBw.out.trans (B9.out.mono HBw.out.size)).size))
    clear hb10
    go_wp2
    go_ret
    exact ⟨by simp, HB.out⟩
  | false =>
    go_wp2_with fail
    refine (c_lwAtN bo lm cbp 0 n (by omega) (by omega) (by omega) _ w HBm.out HB.out).mono ?_
    rintro e w5 ⟨k, rfl, hk, hw5⟩
    obtain rfl := hw5
    obtain ⟨g, hg⟩ : ∃ g, lo = some ⟨g, 0, none⟩ := by
      rcases HO.out.2 with ⟨e, _⟩ | ⟨g, c', cur, e, _⟩
      · cases e; omega
      · cases e; exact ⟨g, rfl⟩
    subst hg
    have G := hide HO.out.cap
    have hlc : n ≤ lc := G.out.2.1
    have hlm9 : lc ≤ 9223372036854775807 := G.out.2.2.1
    have hck : ¬ lc = k := by omega
    have hkn : (k : Int) ≤ (n : Int) := by omega
    have hkl : (k : Int) ≤ (lc : Int) := by omega
    go_wp2_with fail
    replace HO : Hid (OwnT w5.drew 0 (.slice (some ⟨g, 0, none⟩) n lc) L) := HO.out.past ⟨rfl, rfl, rfl, Nat.le_refl _, fun _ _ => rfl⟩
    replace HB : Hid (Below w.heap.size w w5.drew) := HB.out.drew
    have HBw := hide HB.out
    have hgl : g < w5.heap.size := (World.ownsRow.lt HO.out g rfl).2
    refine regionK (fun W' => True) 10 (by rfl) ?_
    refine takeK (i := 1) (d := 46) (v := .slice (some ⟨g, 0, none⟩) n lc) rfl rfl (by kernel_rfl) (by kernel_rfl) (by kernel_rfl) (by decide) (by kernel_rfl) (fun _ _ _ h => h) (Or.inl ⟨by rfl, fun W hW => ?_⟩) trivial ?_
    · clear hW
      go_simp
    simp only [List.setIfInBounds_toArray, List.set_cons_zero, List.set_cons_succ]
    refine takeK (i := 2) (d := 47) (v := .int .i64 k) rfl rfl (by kernel_rfl) (by kernel_rfl) (by kernel_rfl) (by decide) (by kernel_rfl) (fun _ _ _ h => h) (Or.inl ⟨by rfl, fun W hW => ?_⟩) trivial ?_
    · clear hW
      go_simp
    simp only [List.setIfInBounds_toArray, List.set_cons_zero, List.set_cons_succ]
    refine takeK (i := 3) (d := 48) (v := .slice (some ⟨g, k, none⟩) (n - k) (lc - k)) rfl rfl (by kernel_rfl) (by kernel_rfl) (by kernel_rfl) (by decide) (by kernel_rfl) (fun _ _ _ h => h) (Or.inl ⟨by rfl, fun W hW => ?_⟩) trivial ?_
    · clear hW
      go_simp
    simp only [List.setIfInBounds_toArray, List.set_cons_zero, List.set_cons_succ]
    refine takeK (i := 5) (d := 50) (v := .slice (some ⟨g, 0, none⟩) n lc) rfl rfl (by kernel_rfl) (by kernel_rfl) (by kernel_rfl) (by decide) (by kernel_rfl) (fun _ _ _ h => h) (Or.inl ⟨by rfl, fun W hW => ?_⟩) trivial ?_
    · clear hW
      go_simp
    simp only [List.setIfInBounds_toArray, List.set_cons_zero, List.set_cons_succ]
    refine takeK (i := 6) (d := 51) (v := .int .i64 k) rfl rfl (by kernel_rfl) (by kernel_rfl) (by kernel_rfl) (by decide) (by kernel_rfl) (fun _ _ _ h => h) (Or.inl ⟨by rfl, fun W hW => ?_⟩) trivial ?_
    · clear hW
      go_simp
    simp only [List.setIfInBounds_toArray, List.set_cons_zero, List.set_cons_succ]
    refine takeK (i := 7) (d := 52) (v := .slice (some ⟨g, 0, none⟩) k lc) rfl rfl (by kernel_rfl) (by kernel_rfl) (by kernel_rfl) (by decide) (by kernel_rfl) (fun _ _ _ h => h) (Or.inl ⟨by rfl, fun W hW => ?_⟩) trivial ?_
    · clear hW
      go_simp
    simp only [List.setIfInBounds_toArray, List.set_cons_zero, List.set_cons_succ]
    refine oneK (i := 0) (by kernel_rfl) rfl (fun K hK => ?_)
    go_simp
    refine hK.out _ _ (fun _ => trivial) ?_
    clear hK K
    try simp only [Act.put, List.setIfInBounds_toArray, List.set_cons_zero, List.set_cons_succ]
    have O0 : (w5.drew.alloc (.cells #[] 9)).ownsRow w5.heap.size 9 1 (.slice (some ⟨w5.heap.size, 0, none⟩) 0 0) 0 [] := World.ownsRow_made w5.drew #[] 0 (Nat.le_refl _) (Nat.zero_le _) rfl
    have HOa := hide (HO.out.past ((Below.refl _ _).alloc (Nat.le_refl _) (.cells #[] 9)))
    refine oneK (i := 4) (by kernel_rfl) rfl (fun K hK => ?_)
    rw [if_pos (by rfl)]
    refine wp_append_own _ (.tmp 45) (.tmp 48) 32 rfl w5.heap.size 9 i0 (.string ByteArray.empty) 1 16 Tryd.underlying32 hi hz0 hz1 hz2 rfl (by decide) _ _ _ rfl O0 ⟨g, k, none⟩ (n - k) (lc - k) ((L.drop k).map Value.string) rfl (by rw [List.length_map, List.length_drop]; have := HN.out; omega) (strs_list (by have h := strs_drop k HOa.out.at; rwa [Nat.zero_add] at h)) (strs_one _) (by unfold maxLen; omega) (by omega) (by simp) ?_
    intro v6 w6 hown hgrow hnil
    simp only [Nat.zero_add, List.nil_append] at hown
    obtain ⟨ao6, c6, rfl⟩ := own_any hown
    have O6 := hide hown
    have B6 := hide (((Below.refl w5.drew.heap.size w5.drew).alloc (Nat.le_refl _) _).grown hgrow (by simp) (fun j hj => by cases hj; exact Nat.le_refl _))
    replace HO := hide (HO.out.past B6.out)
    clear hown hgrow hnil O0 HOa
    refine hK.out _ _ (fun _ => trivial) ?_
    clear hK K
    try simp only [Act.put, List.setIfInBounds_toArray, List.set_cons_zero, List.set_cons_succ]
    refine oneK (i := 8) (by kernel_rfl) rfl (fun K hK => ?_)
    rw [if_pos (by rfl)]
    refine wp_append_own _ (.tmp 49) (.tmp 52) 32 rfl w5.heap.size 9 i0 (.string ByteArray.empty) 1 16 Tryd.underlying32 hi hz0 hz1 hz2 rfl (by decide) _ _ _ rfl O6.out ⟨g, 0, none⟩ k lc ((L.take k).map Value.string) rfl (by rw [List.length_map, List.length_take]; have := HN.out; omega) (strs_list (strs_take k HO.out.at)) (strs_one _) (by unfold maxLen; omega) (by omega) (by exact B6.out.size) ?_
    intro v7 w7 hown hgrow hnil
    obtain ⟨ao7, c7, rfl⟩ := own_any hown
    have B7 := hide (B6.out.grown hgrow B6.out.size (fun j hj => (O6.out.lt j hj).1))
    replace HO : Hid (OwnT w7 0 (.slice (some ⟨g, 0, none⟩) n lc) L) := (World.ownsRow.kept HO.out hgrow (.inr (fun e => by have := (O6.out.lt g e.symm).1; omega)) : OwnT w7 0 (.slice (some ⟨g, 0, none⟩) n lc) L)
    have O7 : Hid (w7.ownsRow w5.heap.size 9 1 (.slice ao7 n c7) n ((L.drop k ++ L.take k).map Value.string)) := (by rw [List.map_append]; have h := hown; rwa [show n - k + k = n by omega] at h : w7.ownsRow w5.heap.size 9 1 (.slice ao7 n c7) n ((L.drop k ++ L.take k).map Value.string))
    rw [show n - k + k = n by omega]
    clear hown hgrow hnil O6
    refine hK.out _ _ (fun _ => trivial) ?_
    clear hK K
    try simp only [Act.put, List.setIfInBounds_toArray, List.set_cons_zero, List.set_cons_succ]
    refine oneK (i := 9) (by kernel_rfl) rfl (fun K hK => ?_)
    go_simp
    refine hK.out _ _ (fun _ => trivial) ?_
    clear hK K
    try simp only [Act.put, List.setIfInBounds_toArray, List.set_cons_zero, List.set_cons_succ]
    refine doneK (by kernel_rfl) ?_ _
    replace HB := hide (HB.out.trans (B7.out.mono HB.out.size))
    go_wp2_with fail
    refine (c_lwAtN bo lm cbp 1 n (by omega) (by omega) (by omega) _ w HBm.out HB.out).mono ?_
    rintro e w8 ⟨j, rfl, hj, hw8⟩
    obtain rfl := hw8
    obtain ⟨x, hx⟩ : ∃ x, L[j]? = some x := ⟨L[j]'(by have := HN.out; omega), List.getElem?_eq_getElem _⟩
    have hcx : w8.cell? ⟨g, j, none⟩ = some (.string x) := by
      obtain ⟨b', off', e', hcc⟩ := HO.out.at (by have := HN.out; omega)
      cases e'
      have := hcc j x hx
      rwa [Nat.zero_add] at this
    have HMx := hide (mem_rot (k := k) hx)
    have HLen : Hid ((L.drop k ++ L.take k ++ [x]).length = n + 1) := (by have := HN.out; simp; omega : (L.drop k ++ L.take k ++ [x]).length = n + 1)
    have HZx : Hid (∀ u ∈ L.drop k ++ L.take k ++ [x], u.size ≤ maxLen) := ((fun u hu => HZ.out u ((HMx.out u).2 hu)) : ∀ u ∈ L.drop k ++ L.take k ++ [x], u.size ≤ maxLen)
    clear hx
    have O8 := hide (own_past O7.out ((Below.refl _ _).alloc (Nat.le_refl _) (.cells #[.string x] 9)))
    have hn9 : n ≤ 40 := hn40
    have hsz8 : w5.heap.size ≤ w8.heap.size := B7.out.size
    go_wp2_with (at_builtin; refine wpList_append_own _ rfl (.tmp 54) (.tmp 62) 32 rfl w5.heap.size 9 i0 (.string ByteArray.empty) 1 16 Tryd.underlying32 hi hz0 hz1 hz2 rfl (by decide) _ _ _ rfl O8.out ⟨w8.heap.size, 0, none⟩ 1 1 [.string x] rfl rfl (new_cells (cs := #[.string x]) rfl) (strs_one [x]) (by unfold maxLen; omega) (by omega) (by simp; omega) ?_; intro v9 w9 hown hgrow hnil; obtain ⟨ao9, c9, rfl⟩ := own_any hown; have O9 := hide (OwnT.of (L := L.drop k ++ L.take k ++ [x]) hown (by simp)); have B9 := hide ((B7.out.alloc B7.out.size (.cells #[.string x] 9)).grown hgrow (by simp; omega) (fun j hj => (O7.out.lt j hj).1)); clear hown hgrow hnil)
    refine (c_i_SeriesOf name c9 (n + 1) hnm9 HLen.out (by omega) HZx.out O9.out.at).mono ?_
    rintro e w10 ⟨rfl, hb10⟩
    have eT : serO name (L.drop k ++ L.take k ++ [x]) = T := by rw [← HT.out]; exact serO_same HMx.out (by have := HN.out; omega) (by rw [HLen.out]; omega)
    rw [eT]
    clear eT
    replace HB := hide ((HBw.out.trans (B9.out.mono HBw.out.size)).trans (hb10.mono (HBw.out.trans (B9.out.mono HBw.out.size)).size))
    clear hb10
    go_wp2
    go_ret
    exact ⟨by simp, HB.out⟩

set_option maxRecDepth 100000
theorem own : ownKnob Tryd.prog.godebug = none := by kernel_rfl
theorem laidOut : laidOutB Tryd.prog = true := by kernel_rfl
theorem liftedSeries (os : Os) (started : os.Started) (H : Type) (enc : TypeId × Value → H) :
    ReturnsInHanded {} Tryd.checked os 5 .any (fun w args => (Rows.fnSeriesSpec.pre enc Tryd.prog Tryd.f5 [] false w args ∧ laidMetH Tryd.prog Rows.fnSeriesRow.laid w) ∧ sizedMet enc Tryd.prog Tryd.f5 (OpenSpec.ofChange Rows.fnSeriesSpec) false w args)
      (Rows.fnSeriesSpec.post enc Tryd.prog Tryd.f5 false true false false) := by
  refine handed_shaped (C := Tryd.checked) (L := Rows.fnSeriesRow.laid) own started (by kernel_rfl) Tryd.func5
    (ChangeSpec.witness_shaped (enc := enc) (C := Tryd.checked) (os := os) (X := fun w _ => laidMetH Tryd.prog Rows.fnSeriesRow.laid w) false (World.laidAll Tryd.prog os Rows.fnSeriesRow.laid) #[.slice none 0 0, .slice none 0 0] 8 (World.laidAll_os _ _ _)
      (World.shaped_of_ZipB (by kernel_rfl) (by kernel_rfl)) (by kernel_rfl) (by kernel_rfl) (by kernel_rfl)
      (by rw [MakeChecks.laidMetH_plain _ _ _ (by kernel_rfl)]; exact laidMet_laidAll _ (by kernel_rfl) (by kernel_rfl))) ?_
  intro W base args ds gs before hval0 hW hL hsh
  have hval : ∀ (j : Nat) t v, Tryd.f5.params[j]? = some t → args[j]? = some v → Value.okWide Tryd.prog W .any base t v := hval0
  have hW' := hW
  obtain ⟨p, q, hA0, hV, rfl, hfz, hnd⟩ := hW
  have hA : DataW.TrodAll enc Tryd.prog W 0 (fun _ => true) true Tryd.f5.params.toList args.toList ds p := hA0
  rw [Tryd.params5] at hA hval
  obtain ⟨v0, vs0, d0, ds0, p0, q0, hargs, rfl, rfl, h0, r0⟩ := trodAll_cons hA
  obtain ⟨v1, vs1, d1, ds1, p1, q1, rfl, rfl, rfl, h1, r1⟩ := trodAll_cons r0
  obtain ⟨rfl, rfl, rfl⟩ := trodAll_nil r1
  obtain rfl : args = #[v0, v1] := by cases args; simp_all
  obtain ⟨rfl, rfl⟩ := trodVars_none hV
  have k0 := h0
  have lt0 : ∀ x ∈ p0, x.block < W.heap.size := by obtain ⟨m, hm⟩ := k0; exact DataW.trod_lt m _ _ _ hm
  obtain ⟨a0, n0, c0, rfl, m0, s0⟩ := open_code (hval 0 31 v0 rfl rfl) h0
  have k1 := h1
  have lt1 : ∀ x ∈ p1, x.block < W.heap.size := by obtain ⟨m, hm⟩ := k1; exact DataW.trod_lt m _ _ _ hm
  obtain ⟨a1, n1, c1, rfl, m1, s1⟩ := open_code (hval 1 31 v1 rfl rfl) h1
  clear hA0 hval0
  refine (walkSeries a0 n0 c0 a1 n1 c1 W m0 s0 m1 s1 (mx_of hsh)).mono fun e W' ⟨he, bel⟩ => ?_
  subst he
  exact ⟨_, rfl, _, _, _, [], _, [], hW', trodAll_mk1 (shut_bool Tryd.underlying4 _), (trodAll_cons_mk (Below.trod laidOut (by kernel_rfl) (of_decide_eq_true (by kernel_rfl)) k0 bel lt0) (trodAll_cons_mk (Below.trod laidOut (by kernel_rfl) (of_decide_eq_true (by kernel_rfl)) k1 bel lt1) trodAll_mk0)), rfl, bel.frame _, fun h => by cases h⟩

theorem saidSeries : Rows.FnSeriesSaid :=
  OpenClaim.holds_of_wide 5 Tryd.f5 rfl rfl rfl rfl rfl rfl rfl ⟨rfl, rfl, rfl, rfl, rfl⟩ rfl rfl rfl rfl rfl (by kernel_rfl) Tryd.func5 (by kernel_rfl)
    (of_decide_eq_true (by kernel_rfl)) (by unfold Func.isWrapper; first | (rw [if_pos (by decide +kernel)]; kernel_rfl) | (rw [if_neg (by decide +kernel)]; exact ⟨rfl, rfl⟩))
    (fun os started H enc _ => liftedSeries os started H enc)

/-- No parameter wants a stand-in; the program's own looks are off. -/
theorem plainSeries (f : FuncId) (fn : Func) (hf : Tryd.pinned.checked.prog.funcNamed Rows.fnSeriesRow.func = some f) (hfn : Tryd.pinned.checked.prog.funcs[f]? = some fn) :
    Rows.fnSeriesCard.stood.looks = Tryd.pinned.checked.prog.looks [] ∧ ∀ (j : Nat) t, fn.params[j]? = some t → Tryd.pinned.checked.prog.wantsStandIn t = false := by
  obtain rfl : f = 5 := Option.some.inj ((show Tryd.prog.funcNamed Rows.fnSeriesRow.func = some 5 by kernel_rfl).symm.trans hf) |>.symm
  obtain rfl : fn = Tryd.f5 := (Option.some.inj (Tryd.func5.symm.trans hfn)).symm
  refine ⟨by kernel_rfl, fun j t ht => ?_⟩
  rw [Tryd.params5] at ht
  have ht2 := Array.mem_of_getElem? ht
  simp only [List.mem_toArray, List.mem_cons, List.not_mem_nil, or_false] at ht2
  rcases ht2 with rfl | rfl
  · exact (show Tryd.prog.wantsStandIn 31 = false by kernel_rfl)
  · exact (show Tryd.prog.wantsStandIn 31 = false by kernel_rfl)

theorem fnSeries_card : Rows.FnSeriesCardSaid :=
  Claim7.holds_tied_plain_at .later [] _ _ _ _ saidSeries (fun _ h => by cases h) (by kernel_rfl) (fun _ h => by cases h) fnSeries_row_tie rfl ⟨rfl, rfl⟩ (by kernel_rfl) rfl plainSeries (by kernel_rfl)
#print axioms fnSeries_card

end Go.Proofs.YtiafgcppidmoiaaDoor
