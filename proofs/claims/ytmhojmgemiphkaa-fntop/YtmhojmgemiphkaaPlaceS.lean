/-
  The count at a place, as the model asks for it; a Top copied.
-/
import Derived.Test.YtmhojmgemiphkaaLessS
namespace Go.Proofs.Ytmhojmgemiphkaa
set_option linter.unusedVariables false
set_option linter.unusedSimpArgs false
open Go.ChangeShapes Go.WideShapes Go.ChangeAt Go.RowKit Go.PlainAid
set_option maxRecDepth 10000

theorem cnt_like (C : List Int) (v : Int) : C.countP (fun x => decide (v ≤ x)) = C.countP (fun x => decide (v < x)) + C.countP (fun x => x == v) := by
  induction C with
  | nil => rfl
  | cons y r ih =>
    simp only [List.countP_cons, ih]
    by_cases h1 : v < y
    · have : v ≤ y := by omega
      have : y ≠ v := by omega
      simp_all
      omega
    · by_cases h2 : y = v
      · subst h2; simp; omega
      · have a1 : decide (v ≤ y) = false := decide_eq_false (by omega)
        have a2 : decide (v < y) = false := decide_eq_false h1
        have a3 : (y == v) = false := beq_eq_false_iff_ne.2 h2
        rw [a1, a2, a3]; simp
theorem cnts_at {L : List Hv} {k : Nat} {x : Hv} (h : L[k]? = some x) : (cntsH L)[k]? = some x.2 := by simp [cntsH, h]
theorem cnt_take (p : Int → Bool) {C : List Int} {k : Nat} {x : Int} (h : C[k]? = some x) : (C.take (k + 1)).countP p = (C.take k).countP p + if p x = true then 1 else 0 := by
  rw [List.take_add_one, h]; simp [List.countP_append, List.countP_cons]

set_option maxHeartbeats 4000000 in
theorem c_s_l05Place {w : World} {n c : Nat} {ao : Option Addr} {L : List Hv} (hn : L.length = n) (h6 : 6 ≤ n) (hl : n ≤ 1000) (hA : HvsAt w ao L) :
    Calls Try.prog 35 #[.slice ao n c, .int .i64 5] w fun e w' => ∃ v, e = .returned (.int .i64 v) ∧ PlaceV (cntsH L) v ∧ (∃ x ∈ L, x.2 = v) ∧ Below w.heap.size w w' := by
  obtain ⟨b, off, rfl, hcell⟩ := hA (by omega)
  have HA := hide hcell
  have HN := hide hn
  clear hA hn hcell
  go_enter Try.func35, Try.ntmps35
  go_wp2
  go_loopw [5] (fun vi wr => Below w.heap.size w wr ∧ ∃ i : Nat, i ≤ n ∧ vi = .int .i64 i ∧ Hid (∀ (j : Nat) (x : Hv), L[j]? = some x → j < i → ¬ PlaceV (cntsH L) x.2)) (fun vi wr => n - (intOf vi).toNat)
  case atStart => exact ⟨Below.refl _ _, 0, Nat.zero_le _, rfl, (fun j x _ h => absurd h (by omega) : ∀ (j : Nat) (x : Hv), L[j]? = some x → j < 0 → ¬ PlaceV (cntsH L) x.2)⟩
  case round =>
    obtain ⟨hbel, i, hi, rfl, HF⟩ := hrel
    have HB := hide hbel
    clear hbel
    by_cases hin : i < n
    · obtain ⟨⟨u, x⟩, hRi⟩ : ∃ a, L[i]? = some a := ⟨L[i]'(by have := HN.out; omega), List.getElem?_eq_getElem _⟩
      have HRi := hide hRi
      have HCi := hide (HA.out i _ hRi).2
      clear hRi
      go_wp2
      go_loopw [6, 7, 8] (fun vm vl vk wr2 => Below w.heap.size w wr2 ∧ ∃ k a l : Nat, k ≤ n ∧ a ≤ k ∧ l ≤ k ∧ vk = .int .i64 k ∧ vm = .int .i64 a ∧ vl = .int .i64 l ∧ Hid (a = ((cntsH L).take k).countP (fun y => decide (x < y)) ∧ l = ((cntsH L).take k).countP (fun y => y == x))) (fun vm vl vk wr2 => n - (intOf vk).toNat)
      case atStart => exact ⟨HB.out, 0, 0, 0, Nat.zero_le _, Nat.le_refl _, Nat.le_refl _, rfl, rfl, rfl, (⟨rfl, rfl⟩ : 0 = ((cntsH L).take 0).countP (fun y => decide (x < y)) ∧ 0 = ((cntsH L).take 0).countP (fun y => y == x))⟩
      case round =>
        obtain ⟨hbel2, k, a, l, hk, hak, hlk, rfl, rfl, rfl, HC⟩ := hrel
        have HB2 := hide hbel2
        have hci := cell_past hbel2 HCi.out
        by_cases hkn : k < n
        · obtain ⟨⟨u', y⟩, hRk⟩ : ∃ a, L[k]? = some a := ⟨L[k]'(by have := HN.out; omega), List.getElem?_eq_getElem _⟩
          have hck := cell_past hbel2 (HA.out k _ hRk).2
          have HS1 := hide (cnt_take (fun y => decide (x < y)) (cnts_at hRk))
          have HS2 := hide (cnt_take (fun y => y == x) (cnts_at hRk))
          simp only at hck hci
          clear hbel2 hRk
          have hcs : x < y ∨ y = x ∨ y < x := by omega
          rcases hcs with q | q | q
          · have d1 : decide (x < y) = true := decide_eq_true q
            have d2 : (y == x) = false := beq_eq_false_iff_ne.2 (by omega)
            have HN2 : Hid (a + 1 = ((cntsH L).take (k + 1)).countP (fun y => decide (x < y)) ∧ l = ((cntsH L).take (k + 1)).countP (fun y => y == x)) := (⟨by rw [HS1.out, ← HC.out.1]; simp [d1], by rw [HS2.out, ← HC.out.2]; simp [d2]⟩ : a + 1 = ((cntsH L).take (k + 1)).countP (fun y => decide (x < y)) ∧ l = ((cntsH L).take (k + 1)).countP (fun y => y == x))
            go_wp2
            go_quiet (fail)
            go_wp2
            go_quiet (fail)
            go_wp2
            go_roundw
            case rel => exact ⟨bel_drews HB2.out _, k + 1, a + 1, l, by omega, by omega, by omega, by go_num, by go_num, rfl, HN2⟩
            case measure => simp [intOf]; omega
          · have d1 : decide (x < y) = false := decide_eq_false (by omega)
            have d2 : (y == x) = true := beq_iff_eq.2 q
            have HN2 : Hid (a = ((cntsH L).take (k + 1)).countP (fun y => decide (x < y)) ∧ l + 1 = ((cntsH L).take (k + 1)).countP (fun y => y == x)) := (⟨by rw [HS1.out, ← HC.out.1]; simp [d1], by rw [HS2.out, ← HC.out.2]; simp [d2]⟩ : a = ((cntsH L).take (k + 1)).countP (fun y => decide (x < y)) ∧ l + 1 = ((cntsH L).take (k + 1)).countP (fun y => y == x))
            clear q
            go_wp2
            go_quiet (fail)
            go_wp2
            go_quiet (fail)
            go_wp2
            go_roundw
            case rel => exact ⟨bel_drews HB2.out _, k + 1, a, l + 1, by omega, by omega, by omega, by go_num, rfl, by go_num, HN2⟩
            case measure => simp [intOf]; omega
          · have d1 : decide (x < y) = false := decide_eq_false (by omega)
            have d2 : (y == x) = false := beq_eq_false_iff_ne.2 (by omega)
            have HN2 : Hid (a = ((cntsH L).take (k + 1)).countP (fun y => decide (x < y)) ∧ l = ((cntsH L).take (k + 1)).countP (fun y => y == x)) := (⟨by rw [HS1.out, ← HC.out.1]; simp [d1], by rw [HS2.out, ← HC.out.2]; simp [d2]⟩ : a = ((cntsH L).take (k + 1)).countP (fun y => decide (x < y)) ∧ l = ((cntsH L).take (k + 1)).countP (fun y => y == x))
            go_wp2
            go_quiet (fail)
            go_wp2
            go_quiet (fail)
            go_wp2
            go_roundw
            case rel => exact ⟨bel_drews HB2.out _, k + 1, a, l, by omega, by omega, by omega, by go_num, rfl, rfl, HN2⟩
            case measure => simp [intOf]; omega
        · have hall : (cntsH L).take k = cntsH L := List.take_of_length_le (by have := HN.out; simp [cntsH]; omega)
          have HP : Hid (PlaceV (cntsH L) x ↔ a ≤ 5 ∧ 6 ≤ a + l) := by
            have h1 := HC.out.1
            have h2 := HC.out.2
            rw [hall] at h1 h2
            refine (?_ : PlaceV (cntsH L) x ↔ a ≤ 5 ∧ 6 ≤ a + l)
            unfold PlaceV
            rw [cnt_like, ← h1, ← h2]
          clear hbel2 hall HC
          by_cases q1 : a ≤ 5
          · by_cases q2 : 5 < a + l
            · have HY : Hid (PlaceV (cntsH L) x ∧ ∃ z ∈ L, z.2 = x) := (⟨HP.out.2 ⟨q1, by omega⟩, (u, x), List.mem_of_getElem? HRi.out, rfl⟩ : PlaceV (cntsH L) x ∧ ∃ z ∈ L, z.2 = x)
              have q3 : (5 : Int) < (a : Int) + (l : Int) := by omega
              have q4 : (a : Int) ≤ 5 := by omega
              go_wp2
              go_ret
              exact ⟨x, rfl, HY.out.1, HY.out.2, HB2.out⟩
            · have HF2 : Hid (∀ (j : Nat) (z : Hv), L[j]? = some z → j < i + 1 → ¬ PlaceV (cntsH L) z.2) := (fun j z hz hj => by
                by_cases e : j = i
                · subst e; rw [HRi.out] at hz; obtain rfl := Option.some.inj hz; intro h; have := HP.out.1 h; omega
                · exact HF.out j z hz (by omega) : ∀ (j : Nat) (z : Hv), L[j]? = some z → j < i + 1 → ¬ PlaceV (cntsH L) z.2)
              have q3 : ¬ (5 : Int) < (a : Int) + (l : Int) := by omega
              have q4 : (a : Int) ≤ 5 := by omega
              go_wp2
              go_roundw
              case rel => exact ⟨HB2.out, i + 1, by omega, by go_num, HF2⟩
              case measure => simp [intOf]; omega
          · have HF2 : Hid (∀ (j : Nat) (z : Hv), L[j]? = some z → j < i + 1 → ¬ PlaceV (cntsH L) z.2) := (fun j z hz hj => by
              by_cases e : j = i
              · subst e; rw [HRi.out] at hz; obtain rfl := Option.some.inj hz; intro h; have := HP.out.1 h; omega
              · exact HF.out j z hz (by omega) : ∀ (j : Nat) (z : Hv), L[j]? = some z → j < i + 1 → ¬ PlaceV (cntsH L) z.2)
            have q4 : ¬ (a : Int) ≤ 5 := by omega
            go_wp2
            go_roundw
            case rel => exact ⟨HB2.out, i + 1, by omega, by go_num, HF2⟩
            case measure => simp [intOf]; omega
    · exfalso
      obtain ⟨v, hv, hm⟩ := place_ex (L := L) (by have := HN.out; omega)
      obtain ⟨x, hx, e⟩ := List.mem_map.1 hm
      obtain ⟨j, hj⟩ := List.getElem?_of_mem hx
      have := (List.getElem?_eq_some_iff.1 hj).1
      exact HF.out j x hj (by have := HN.out; omega) (by rw [e]; exact hv)
set_option maxHeartbeats 2000000 in
theorem c_s_l05Copy {w : World} {d t : Int} {pa : Option Addr} {pn pc : Nat} {P : List Hv} (hp : P.length = pn) (lp : pn ≤ 1048576) (hP : HvsAt w pa P) (cA : pa = none → pc = 0) :
    Calls Try.prog 20 #[.agg #[.slice pa pn pc, .int .i64 d, .int .i64 t]] w fun e w' => ∃ v, e = .returned v ∧ TopOut w' w.heap.size v P d t ∧ Below w.heap.size w w' := by
  obtain ⟨i0, hi, hz0, hz1, hz2⟩ := info_parts infoHeavy
  have HP := hide hP
  have EP := hide hp
  have CA := hide cA
  clear hP hp cA
  have hW : ∀ o1 o2 o3, Below w.heap.size w (((w.alloc o1).alloc o2).alloc o3) := fun o1 o2 o3 => (((Below.refl _ _).alloc (Nat.le_refl _) _).alloc (by simp) _).alloc (by simp; omega) _
  have HW := hide hW
  clear hW
  have hM : ∀ o1 o2, (((w.alloc o1).alloc o2).alloc (.cells #[] 52)).ownsRow (w.heap.size + 1 + 1) 52 2 (.slice (some ⟨w.heap.size + 1 + 1, 0, none⟩) 0 0) 0 [] := fun o1 o2 => by
    have h : (((w.alloc o1).alloc o2).alloc (.cells #[] 52)).ownsRow ((w.alloc o1).alloc o2).heap.size 52 2 (.slice (some ⟨((w.alloc o1).alloc o2).heap.size, 0, none⟩) 0 0) 0 [] := World.ownsRow_made _ #[] 0 (Nat.le_refl _) (Nat.zero_le _) rfl
    simpa using h
  have HMd := hide hM
  clear hM
  have hR : ∀ o3 W, (((w.alloc (Obj.cells #[.slice pa pn pc, .int .i64 d, .int .i64 t] 28)).alloc (Obj.cells zeroTp 28)).alloc o3).grownBy W (some (w.heap.size + 1 + 1)) → Below w.heap.size w W ∧ W.heap[w.heap.size]? = some (.cells #[.slice pa pn pc, .int .i64 d, .int .i64 t] 28 (0, 0)) ∧ W.heap[w.heap.size + 1]? = some (.cells zeroTp 28 (0, 0)) := fun o3 W hg => by
    have h0 : Below w.heap.size w W := (HW.out _ _ _).grown hg (by simp; omega) (fun j hj => by cases hj; omega)
    refine ⟨h0, ?_, ?_⟩
    · rw [hg.block w.heap.size (by simp; omega) (fun e => by have := Option.some.inj e; omega)]
      have hb : Below (w.heap.size + 1) (w.alloc (Obj.cells #[.slice pa pn pc, .int .i64 d, .int .i64 t] 28)) (((w.alloc (Obj.cells #[.slice pa pn pc, .int .i64 d, .int .i64 t] 28)).alloc (Obj.cells zeroTp 28)).alloc o3) := ((Below.refl _ _).alloc (by simp) _).alloc (by simp) _
      rw [hb.block _ (by omega)]
      exact heap_alloc_new w _
    · rw [hg.block (w.heap.size + 1) (by simp) (fun e => by have := Option.some.inj e; omega)]
      exact mid_row w _ _ _ _
  have HR := hide hR
  clear hR
  go_enter Try.func20, Try.ntmps20
  go_wp2_with (at_builtin; refine wpList_append_nilH _ rfl (.tmp 3) (.tmp 5) 26 rfl (w.heap.size + 1 + 1) 52 i0 (.agg #[.string ByteArray.empty, .int .i64 0]) 2 24 Try.underlying26 hi hz0 hz1 hz2 rfl (by decide) _ _ _ rfl (HMd.out _ _) pa pn pc (fl encH P) rfl (by rw [fl_len encH2, EP.out]) (fun e => ⟨by have := hvs_nil (e ▸ HP.out); rw [← EP.out, this]; rfl, CA.out e⟩) (fun A e => hvs_list (e ▸ hvs_past HP.out (HW.out _ _ _))) (fl_oneH _) (by unfold maxLen; omega) (by omega) (by simp) ?_; intro v1 w1 hown1 hgrow1 hnil1; simp only [Nat.zero_add, List.nil_append] at hown1; obtain ⟨ao1, c1, rfl⟩ := own_any hown1; obtain ⟨hT1, hR1, hS1⟩ := HR.out _ _ hgrow1; obtain ⟨k0, k1, k2⟩ := cell3 hR1; obtain ⟨r0, r1, r2⟩ := cell3 hS1; have f0 := frozen_of_row w1 w.heap.size 0 _ _ hR1; have e0 := frozen_of_row w1 (w.heap.size + 1) 0 _ _ hS1; have e1 := frozen_of_row w1 (w.heap.size + 1) 1 _ _ hS1; have e2 := frozen_of_row w1 (w.heap.size + 1) 2 _ _ hS1; have O1 := hide hown1; have T1 := hide hT1; have S1 := hide hS1; have R1 := hide hR1; clear hown1 hgrow1 hnil1 hT1 hS1 hR1)
  refine bodyPost_ret (v := .agg #[.slice ao1 pn c1, .int .i64 d, .int .i64 t]) (by simp [results, Try.results20, go_sem, r0, r1, r2]) rfl ⟨_, rfl, ⟨_, rfl, ?_⟩, ?_⟩
  · have ho : OwnH w1 w.heap.size (.slice ao1 pn c1) P := by unfold OwnH; rw [EP.out]; exact own_le O1.out (by omega)
    have n1 := ho.ne S1.out (by decide)
    have n2 := ho.ne R1.out (by decide)
    exact (((ho.set n2 _).set n1 _).set n1 _).set n1 _
  · repeat (refine Below.setCell ?_ (by simp <;> omega) _)
    exact T1.out
end Go.Proofs.Ytmhojmgemiphkaa
