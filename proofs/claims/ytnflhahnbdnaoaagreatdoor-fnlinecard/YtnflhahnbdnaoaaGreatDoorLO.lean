/-
  l01Split, its room told too.
-/
import Derived.Test.YtnflhahnbdnaoaaGreatDoorLD
import Derived.Test.YtnflhahnbdnaoaaGreatDoorLN
import Derived.Test.YtnflhahnbdnaoaaGreatDoorLB
import Derived.Deep.DeepCutAuto
import Derived.Deep.CutBlock
namespace Go.Proofs.YtnflhahnbdnaoaaGreatDoor
set_option linter.unusedVariables false
set_option linter.unusedSimpArgs false
open Go.ChangeShapes Go.WideShapes Go.ChangeAt Go.RowKit Go.PlainAid

theorem own_outC {B : Nat} {w : World} {v : Value} {L : List ByteArray} (h : w.ownsRow B 9 1 v L.length (L.map Value.string)) (hne : 0 < L.length) :
    ∃ g cap, v = .slice (some ⟨g, 0, none⟩) L.length cap ∧ B ≤ g ∧ L.length ≤ cap ∧ ∀ j u, L[j]? = some u → w.cell? ⟨g, j, none⟩ = some (.string u) := by
  obtain ⟨g, cap, e, hb, hc⟩ := own_out h hne
  refine ⟨g, cap, e, hb, ?_, hc⟩
  rcases h.2 with ⟨_, e2⟩ | ⟨g2, cap2, cur, e2, hb2, h1, h2, h3, h4⟩
  · omega
  · rw [e] at e2
    cases e2
    omega
set_option maxHeartbeats 2000000 in
theorem c_l01SplitC (t : ByteArray) (b : Int) (ht : t.size ≤ 1048576) (hb : 0 ≤ b ∧ b ≤ 255) (w : World) :
    Calls Tryz.prog 37 #[.string t, .int .u8 b] w fun e w' => ∃ g cap, e = .returned (.slice (some ⟨g, 0, none⟩) (splL t b).length cap) ∧ w.heap.size ≤ g ∧ (splL t b).length ≤ cap ∧ (∀ j u, (splL t b)[j]? = some u → w'.cell? ⟨g, j, none⟩ = some (.string u)) ∧ Below w.heap.size w w' := by
  obtain ⟨i0, hi, hz0, hz1, hz2⟩ := info_parts infoS
  have hbt := get_bt t
  go_enter Tryz.func37, Tryz.ntmps37
  go_wp2
  go_loopw [5, 6, 7] (fun v f i wr => ∃ k : Nat, k ≤ t.size ∧ i = .int .i64 k ∧ f = .int .i64 ((spl t b k).2 : Nat) ∧ wr.ownsRow w.heap.size 9 1 v (spl t b k).1.length ((spl t b k).1.map Value.string) ∧ Below w.heap.size w wr) (fun v f i wr => t.size - (Go.RowKit.intOf i).toNat)
  case atStart => exact ⟨0, Nat.zero_le _, rfl, rfl, World.ownsRow_made w #[] 0 (Nat.le_refl _) (Nat.zero_le _) rfl, (Below.refl _ _).alloc (Nat.le_refl _) _⟩
  case round =>
    obtain ⟨k, hk, rfl, rfl, hown, hbel⟩ := hrel
    have hsz := hbel.size
    obtain ⟨hf, hln⟩ := spl_le t b k
    obtain ⟨F, hF⟩ : ∃ F, F = (spl t b k).2 := ⟨_, rfl⟩
    rw [← hF] at hf
    rw [← hF]
    by_cases hlt : k < t.size
    · have hki : (k : Int) < (t.size : Int) := by omega
      by_cases hh : bt t k = b
      · have hh' : (bt t k == b) = true := by simp [hh]
        have HS : Hid (spl t b (k + 1) = ((spl t b k).1 ++ [t.extract F k], k + 1)) := (by rw [spl_hit hh, hF] : spl t b (k + 1) = ((spl t b k).1 ++ [t.extract F k], k + 1))
        have HF : Hid (F = (spl t b k).2) := hF
        have HB : Hid (Below w.heap.size w wr) := hbel
        have HO : Hid (wr.ownsRow w.heap.size 9 1 u5 (spl t b k).1.length ((spl t b k).1.map Value.string)) := hown
        clear hF hh hown hbel
        go_wp2_with (first
          | (at_builtin; refine wpList_append_own _ rfl _ _ 39 rfl w.heap.size 9 i0 (.string ByteArray.empty) 1 16 Tryz.underlying39 hi hz0 hz1 hz2 rfl (by decide) _ _ _ rfl (HO.out.alloc _) ⟨wr.heap.size, 0, none⟩ 1 1 [.string (t.extract F k)] rfl rfl ?c1 ?c2 ?c3 ?c4 ?c5 ?_))
        case c1 =>
          intro j u hj
          match j, hj with
          | 0, hj => simp at hj; subst hj; simp [Addr.add]
        case c2 => intro u hu; simp at hu; subst hu; rfl
        case c3 => unfold maxLen; omega
        case c4 => omega
        case c5 => simp; omega
        · intro v' w1 hown' hgrow _
          have R := spl_step (t := t) (b := b) (k := k) hsz HO.out HB.out hgrow
          have R2 : w1.ownsRow w.heap.size 9 1 v' (spl t b (k + 1)).1.length ((spl t b (k + 1)).1.map Value.string) := own_cast hown' (by rw [HS.out]; simp) (by rw [HS.out]; simp)
          clear hown' hgrow HO HB
          go_wp2
          go_roundw
          case rel => exact ⟨k + 1, by omega, by go_num, by rw [HS.out]; go_num, R2, R⟩
          case measure => simp [Go.RowKit.intOf]; omega
      · have hh' : (bt t k == b) = false := beq_eq_false_iff_ne.2 hh
        have HS : Hid (spl t b (k + 1) = spl t b k) := spl_miss hh
        have HF : Hid (F = (spl t b k).2) := hF
        have HB : Hid (Below w.heap.size w wr) := hbel
        have HO : Hid (wr.ownsRow w.heap.size 9 1 u5 (spl t b k).1.length ((spl t b k).1.map Value.string)) := hown
        clear hF hh hown hbel
        go_wp2
        go_roundw
        case rel => exact ⟨k + 1, by omega, by go_num, by rw [HS.out, HF.out], by rw [HS.out]; exact HO.out, HB.out⟩
        case measure => simp [Go.RowKit.intOf]; omega
    · have e : k = t.size := by omega
      subst e
      have hki : ¬ (t.size : Int) < (t.size : Int) := by omega
      have hfi : (F : Int) ≤ (t.size : Int) := by omega
      have HF : Hid (F = (spl t b t.size).2) := hF
      have HB : Hid (Below w.heap.size w wr) := hbel
      have HO : Hid (wr.ownsRow w.heap.size 9 1 u5 (spl t b t.size).1.length ((spl t b t.size).1.map Value.string)) := hown
      clear hF hown hbel
      go_wp2_with (first
          | (at_builtin; refine wpList_append_own _ rfl _ _ 39 rfl w.heap.size 9 i0 (.string ByteArray.empty) 1 16 Tryz.underlying39 hi hz0 hz1 hz2 rfl (by decide) _ _ _ rfl (HO.out.alloc _) ⟨wr.heap.size, 0, none⟩ 1 1 [.string (t.extract F t.size)] rfl rfl ?d1 ?d2 ?d3 ?d4 ?d5 ?_))
      case d2 => first | rfl | simp [Value.oneCell'] | (intro u hu; simp at hu; subst hu; rfl)
      case d3 => unfold maxLen; omega
      case d4 => omega
      case d5 => first | omega | (simp; omega)
      · intro v' w1 hown' hgrow _
        have R := spl_step (t := t) (b := b) (k := t.size) hsz HO.out HB.out hgrow
        have R2 : w1.ownsRow w.heap.size 9 1 v' (splL t b).length ((splL t b).map Value.string) := own_cast hown' (by rw [splL_len]) (by unfold splL; rw [← HF.out]; simp)
        obtain ⟨g, cap, rfl, hg, hnc, hcell⟩ := own_outC R2 (by rw [splL_len]; omega)
        clear hown' hgrow HO HB
        go_wp2
        go_ret
        exact ⟨g, cap, rfl, hg, hnc, hcell, R⟩
end Go.Proofs.YtnflhahnbdnaoaaGreatDoor

/-
  LineRead of the model.
-/
namespace Go.Proofs.YtnflhahnbdnaoaaGreatDoor
set_option linter.unusedVariables false
set_option linter.unusedSimpArgs false
open Go.ChangeShapes Go.WideShapes Go.ChangeAt Go.RowKit Go.PlainAid
set_option maxRecDepth 10000

theorem no_btL {t : ByteArray} {b : UInt8} (h : ∀ j, j < t.size → ¬ bt t j = (b.toNat : Int)) : b ∉ toL t := fun hm => by
  obtain ⟨j, hj, e⟩ := List.mem_iff_getElem.1 hm
  refine h j (by rw [← toL_len]; exact hj) ?_
  rw [bt_get hj, e]
theorem at_bt {t : ByteArray} {k : Nat} (hk : k < t.size) (hb : bt t k = 58) (h : ∀ j, j < k → ¬ bt t j = 58) : toL t = toL (t.extract 0 k) ++ 58 :: toL (t.extract (k + 1) t.size) ∧ (58 : UInt8) ∉ toL (t.extract 0 k) := by
  have hl : k < (toL t).length := by rw [toL_len]; exact hk
  have e58 : (toL t)[k] = 58 := by
    rw [bt_get hl] at hb
    refine UInt8.toNat_inj.1 ?_
    have : (58 : UInt8).toNat = 58 := rfl
    omega
  constructor
  · have e1 : toL (t.extract 0 k) = (toL t).take k := by rw [toL_extract, List.drop_zero]
    have e2 : toL (t.extract (k + 1) t.size) = (toL t).drop (k + 1) := by rw [toL_extract, List.take_of_length_le (by rw [toL_len]; exact Nat.le_refl _)]
    rw [e1, e2, ← e58, ← List.drop_eq_getElem_cons hl]
    exact (List.take_append_drop k (toL t)).symm
  · refine no_btL (fun j hj => ?_)
    rw [ByteArray.size_extract] at hj
    rw [bt_extract t 0 k j (by omega) (by omega), Nat.zero_add]
    exact h j (by omega)
theorem c_l06IllV (c : Int) (w : World) :
    Calls Tryz.prog 35 #[.int .i64 c] w fun e w' => e = .returned (.agg #[.int .i64 0, .string ⟨#[]⟩, .int .i64 0, .string ⟨#[]⟩, .int .u64 0, .bool false, .int .i64 0, .int .i64 c]) ∧ Below w.heap.size w w' := c_l06Ill c w
theorem row7 {w : World} {r : Nat} {T : TypeId} {u0 u1 u2 u3 u4 u5 u6 : Value} (v0 v1 v2 v3 v4 v5 v6 : Value) (h : w.heap[r]? = some (.cells #[u0, u1, u2, u3, u4, u5, u6] T (0, 0))) :
    (((((((w.setCell ⟨r, 0, none⟩ v0).setCell ⟨r, 1, none⟩ v1).setCell ⟨r, 2, none⟩ v2).setCell ⟨r, 3, none⟩ v3).setCell ⟨r, 4, none⟩ v4).setCell ⟨r, 5, none⟩ v5).setCell ⟨r, 6, none⟩ v6).heap[r]? = some (.cells #[v0, v1, v2, v3, v4, v5, v6] T (0, 0)) := by
  have h0 : (w.setCell ⟨r, 0, none⟩ v0).heap[r]? = some (.cells #[v0, u1, u2, u3, u4, u5, u6] T (0, 0)) := heap_setCell_same _ r 0 _ _ v0 h
  have h1 : ((w.setCell ⟨r, 0, none⟩ v0).setCell ⟨r, 1, none⟩ v1).heap[r]? = some (.cells #[v0, v1, u2, u3, u4, u5, u6] T (0, 0)) := heap_setCell_same _ r 1 _ _ v1 h0
  have h2 := heap_setCell_same _ r 2 _ _ v2 h1
  have h3 := heap_setCell_same _ r 3 _ _ v3 h2
  have h4 := heap_setCell_same _ r 4 _ _ v4 h3
  have h5 := heap_setCell_same _ r 5 _ _ v5 h4
  exact heap_setCell_same _ r 6 _ _ v6 h5
theorem emptyL : ByteArray.empty.toList.isEmpty = true := by rw [ByteArray.toList_eq]; rfl
theorem ans_k {nm wh kd : ByteArray} {r : Pt} (h : kndV kd = 0) : ansS nm wh kd r = illS 9 := by unfold ansS; rw [if_pos h]
theorem ans_w {nm wh kd : ByteArray} {r : Pt} (h : ¬ kndV kd = 0) (h1 : whB (kndV kd) wh = false) : ansS nm wh kd r = illS 3 := by unfold ansS; rw [if_neg h, if_pos h1]
theorem ans_r {nm wh kd : ByteArray} {r : Pt} (h : ¬ kndV kd = 0) (h1 : whB (kndV kd) wh = true) (h2 : wtB (kndV kd) r.rd r.rt = false) : ansS nm wh kd r = illS 10 := by unfold ansS; rw [if_neg h, if_neg (by rw [h1]; simp), if_pos h2]
theorem ans_ok {nm wh kd : ByteArray} {r : Pt} (h : ¬ kndV kd = 0) (h1 : whB (kndV kd) wh = true) (h2 : wtB (kndV kd) r.rd r.rt = true) : ansS nm wh kd r = ⟨kndV kd, serW nm r.tg, whV (kndV kd) wh, whW (kndV kd) wh, wtV (kndV kd) r.rd r.rt, r.td, r.ti, 0⟩ := by unfold ansS; rw [if_neg h, if_neg (by rw [h1]; simp), if_neg (by rw [h2]; simp)]
theorem knd_range (t : ByteArray) : 0 ≤ kndV t ∧ kndV t ≤ 4 := by unfold kndV; split <;> (try split) <;> (try split) <;> (try split) <;> omega
theorem wt_no {k : Int} {rd : Bool} {r : ByteArray} (h : rd = true) (h2 : ¬ raP k r) : wtB k rd r = false := by unfold wtB; rw [if_pos h, if_neg h2]
theorem wt_yes {k : Int} {rd : Bool} {r : ByteArray} (h : rd = true) (h2 : raP k r) : wtB k rd r = true ∧ wtV k rd r = 1000000 / rvV r := by unfold wtB wtV; rw [if_pos h, if_pos h2, if_pos h, if_pos h2]; exact ⟨rfl, rfl⟩
theorem wt_none {k : Int} {rd : Bool} {r : ByteArray} (h : rd = false) : wtB k rd r = true ∧ wtV k rd r = 1 := by unfold wtB wtV; rw [if_neg (by rw [h]; simp), if_neg (by rw [h]; simp)]; exact ⟨rfl, rfl⟩
/-- The result's box, as yet empty. -/
def RS (w W : World) : Prop := W.heap[w.heap.size]? = some (.cells #[.int .i64 0, .string ⟨#[]⟩, .int .i64 0, .string ⟨#[]⟩, .int .u64 0, .bool false, .int .i64 0, .int .i64 0] 34 (0, 0)) ∧ Below w.heap.size w W
theorem RS.lt {w W : World} (h : RS w W) : w.heap.size < W.heap.size := by
  rcases Nat.lt_or_ge w.heap.size W.heap.size with h' | h'
  · exact h'
  · have := h.1; rw [Array.getElem?_eq_none h'] at this; cases this
theorem RS.past {w W W' : World} (h : RS w W) (hb : Below W.heap.size W W') : RS w W' := ⟨by rw [hb.block _ h.lt]; exact h.1, chain h.2 hb⟩
theorem no_step {t : ByteArray} {k : Nat} (h : ∀ j, j < k → ¬ bt t j = 58) (hb : ¬ bt t k = 58) : ∀ j, j < k + 1 → ¬ bt t j = 58 := fun j hj => by
  by_cases e : j = k
  · rw [e]; exact hb
  · exact h j (by omega)
theorem two_of {L : List ByteArray} (h : 2 ≤ L.length) : ∃ a b l, L = a :: b :: l := by
  match L, h with
  | a :: b :: l, _ => exact ⟨a, b, l, rfl⟩
theorem splL_pos (t : ByteArray) (b : Int) : 1 ≤ (splL t b).length := by rw [splL_len]; omega
theorem LP.len {t nm wh kd nm' R : ByteArray} {ps : List ByteArray} (ht : toL t = toL nm' ++ 58 :: toL R) (hp : (58 : UInt8) ∉ toL nm') (h : LP t nm wh kd ps) : nm = nm' ∧ splL R 124 = wh :: kd :: ps := by
  obtain ⟨R', h1, h2, h3⟩ := h
  obtain ⟨e1, e2⟩ := first_one (ht.symm.trans h1) hp h2
  have e3 := toL_inj e2
  subst e3
  exact ⟨(toL_inj e1).symm, h3⟩
set_option maxHeartbeats 2000000 in
theorem c_s_LineRead {w : World} (t : ByteArray) (hz : t.size ≤ maxLen) :
    Calls Tryz.prog 14 #[.string t] w fun e w' => ∃ s, e = .returned (outL s) ∧ LnR t s ∧ Below w.heap.size w w' := by
  have hbt := get_bt t
  have hzm : t.size ≤ 9223372036854775807 := hz
  have HS0 : Hid (RS w (w.alloc (.cells #[.int .i64 0, .string ⟨#[]⟩, .int .i64 0, .string ⟨#[]⟩, .int .u64 0, .bool false, .int .i64 0, .int .i64 0] 34))) := (⟨heap_alloc_new w _, (Below.refl _ _).alloc (Nat.le_refl _) _⟩ : RS w _)
  cases hf : fitB t with
  | false =>
    have hz2 : (20000 : Int) < (t.size : Int) := by have : ¬ t.size ≤ 20000 := of_decide_eq_false hf; omega
    have HR : Hid (LnR t (illS 2)) := (Or.inl ⟨hf, rfl⟩ : LnR t (illS 2))
    go_enter Tryz.func14, Tryz.ntmps14
    go_wp2_with fail
    refine (c_l06IllV 2 _).mono ?_
    rintro e wz ⟨rfl, hbz⟩
    have HZ9 := hide (HS0.out.past hbz)
    clear hbz
    obtain ⟨r0, r1, r2, r3, r4, r5, r6, r7⟩ := cell8 HZ9.out.1
    obtain ⟨f0, f1, f2, f3, f4, f5, f6, f7⟩ := froz8 HZ9.out.1
    go_wp2
    refine bodyPost_ret (v := .agg #[.int .i64 0, .string ⟨#[]⟩, .int .i64 0, .string ⟨#[]⟩, .int .u64 0, .bool false, .int .i64 0, .int .i64 2]) (by simp [results, Tryz.results14, go_sem, r0, r1, r2, r3, r4, r5, r6, r7]) rfl ?_
    exact ⟨illS 2, rfl, HR.out, bel8 HZ9.out.2 (Nat.le_refl _) _ _ _ _ _ _ _ _⟩
  | true =>
    have hz2 : t.size ≤ 20000 := of_decide_eq_true hf
    have hz2i : ¬ (20000 : Int) < (t.size : Int) := by omega
    go_enter Tryz.func14, Tryz.ntmps14
    go_wp2_with fail
    generalize (w.alloc (.cells #[.int .i64 0, .string ⟨#[]⟩, .int .i64 0, .string ⟨#[]⟩, .int .u64 0, .bool false, .int .i64 0, .int .i64 0] 34)) = W0 at HS0 ⊢
    go_loopw [3] (fun kv wr => wr = W0 ∧ ∃ k : Nat, k ≤ t.size ∧ kv = .int .i64 k ∧ Hid (∀ j, j < k → ¬ bt t j = 58)) (fun kv wr => t.size - (Go.RowKit.intOf kv).toNat)
    case atStart => exact ⟨rfl, 0, Nat.zero_le _, rfl, fun j hj => absurd hj (by omega)⟩
    case round =>
      obtain ⟨rfl, k, hk, rfl, HI⟩ := hrel
      by_cases hks : k < t.size
      · have hki : (k : Int) < (t.size : Int) := by omega
        by_cases hb58 : bt t k = 58
        · obtain ⟨hAt, hNo⟩ := at_bt hks hb58 HI.out
          have hkne : ¬ (k : Int) = (t.size : Int) := by omega
          have HAt := hide hAt
          have HNo := hide hNo
          clear hAt hNo HI
          have hnz : (t.extract 0 k).size ≤ 20000 := by rw [ByteArray.size_extract]; omega
          have hRz : (t.extract (k + 1) t.size).size ≤ 20000 := by rw [ByteArray.size_extract]; omega
          go_wp2_with fail
          generalize hNm : t.extract 0 k = nm at HAt HNo hnz ⊢
          refine (c_s_NameRight nm _ (by unfold maxLen; omega)).mono ?_
          rintro e w1 ⟨rfl, hw⟩
          obtain rfl := hw.symm
          cases hnb : nameB nm with
          | false =>
            have HR : Hid (LnR t (illS 3)) := LnR.bad hf (fun nm' wh kd ps r k1 _ => by obtain ⟨rfl, _⟩ := LP.len HAt.out HNo.out k1; exact serW_no1 hnb)
            go_wp2_with fail
            refine (c_l06IllV 3 _).mono ?_
            rintro e wz ⟨rfl, hbz⟩
            have HZ9 := hide (HS0.out.past hbz)
            clear hbz
            obtain ⟨r0, r1, r2, r3, r4, r5, r6, r7⟩ := cell8 HZ9.out.1
            obtain ⟨f0, f1, f2, f3, f4, f5, f6, f7⟩ := froz8 HZ9.out.1
            go_wp2
            refine bodyPost_ret (v := .agg #[.int .i64 0, .string ⟨#[]⟩, .int .i64 0, .string ⟨#[]⟩, .int .u64 0, .bool false, .int .i64 0, .int .i64 3]) (by simp [results, Tryz.results14, go_sem, r0, r1, r2, r3, r4, r5, r6, r7]) rfl ?_
            exact ⟨illS 3, rfl, HR.out, bel8 HZ9.out.2 (Nat.le_refl _) _ _ _ _ _ _ _ _⟩
          | true =>
            go_wp2_with fail
            generalize t.extract (k + 1) t.size = R at HAt hRz ⊢
            refine (c_l01SplitC R 124 (by omega) ⟨by omega, by omega⟩ _).mono ?_
            rintro e w2 ⟨g, cap, rfl, hg, hnc, hS, hb2⟩
            have HS2 := hide (HS0.out.past hb2)
            have HZs : Hid ((∀ u ∈ splL R 124, u.size ≤ R.size) ∧ (splL R 124).length ≤ R.size + 1) := splL_sizeC R 124
            have HSt := hide hS
            clear hb2 HS0 hS
            generalize hll : (splL R 124).length = ln at HZs HSt hnc
            have HLn := hide hll
            clear hll
            by_cases hlen : ln < 2
            · have hli : (ln : Int) < 2 := by omega
              have HR : Hid (LnR t (illS 3)) := LnR.bad hf (fun nm' wh kd ps r k1 _ => by obtain ⟨_, e⟩ := LP.len HAt.out HNo.out k1; have e2 := HLn.out; rw [e] at e2; simp at e2; omega)
              go_wp2_with fail
              refine (c_l06IllV 3 _).mono ?_
              rintro e wz ⟨rfl, hbz⟩
              have HZ9 := hide (HS2.out.past hbz)
              clear hbz
              obtain ⟨r0, r1, r2, r3, r4, r5, r6, r7⟩ := cell8 HZ9.out.1
              obtain ⟨f0, f1, f2, f3, f4, f5, f6, f7⟩ := froz8 HZ9.out.1
              go_wp2
              refine bodyPost_ret (v := .agg #[.int .i64 0, .string ⟨#[]⟩, .int .i64 0, .string ⟨#[]⟩, .int .u64 0, .bool false, .int .i64 0, .int .i64 3]) (by simp [results, Tryz.results14, go_sem, r0, r1, r2, r3, r4, r5, r6, r7]) rfl ?_
              exact ⟨illS 3, rfl, HR.out, bel8 HZ9.out.2 (Nat.le_refl _) _ _ _ _ _ _ _ _⟩
            · have hli : ¬ (ln : Int) < 2 := by omega
              obtain ⟨wh, kd, ps, hsp⟩ := two_of (L := splL R 124) (by have := HLn.out; omega)
              have hP : LP t nm wh kd ps := ⟨R, HAt.out, HNo.out, hsp⟩
              have hpl : ps.length = ln - 2 := by have := HLn.out; rw [hsp] at this; simp at this; omega
              have hpz : ∀ u ∈ ps, u.size ≤ 20000 := fun u hu => by have := HZs.out.1 u (by rw [hsp]; exact List.mem_cons_of_mem _ (List.mem_cons_of_mem _ hu)); omega
              have hwz : wh.size ≤ 20000 := by have := HZs.out.1 wh (by rw [hsp]; exact List.mem_cons_self); omega
              have hkz : kd.size ≤ 20000 := by have := HZs.out.1 kd (by rw [hsp]; exact List.mem_cons_of_mem _ List.mem_cons_self); omega
              have hlz : ln ≤ 20001 := by have := HZs.out.2; omega
              have hc0 := HSt.out 0 wh (by rw [hsp]; rfl)
              have hc1 := HSt.out 1 kd (by rw [hsp]; rfl)
              go_upto_region 11 with fail
              go_cut [5, 6] (fun v5 v6 w' => ∃ (b5 : Nat) (r : Pt) (ta : Option Addr) (tc : Nat), v5 = .pointer (some ⟨b5, 0, none⟩) ∧ v6 = .bool (moreS 0 pt0 ps).isSome ∧ (∀ r', moreS 0 pt0 ps = some r' → r' = r) ∧ StrsAt w' ta r.tg ∧ r.tg.length ≤ 20001 ∧ r.rt.size ≤ 20000 ∧ w'.heap[b5]? = some (.cells #[.string r.rt, .bool r.rd, .slice ta r.tg.length tc, .bool r.td, .int .i64 r.ti] 59 (0, 0)) ∧ Below w2.heap.size w2 w')
              case first =>
                by_cases hc2 : cap = 2
                · have hln2 : ln = 2 := by omega
                  subst hc2
                  subst hln2
                  have hps := hide (List.eq_nil_of_length_eq_zero hpl)
                  go_wp2_with fail
                  refine (c_l06More _ _ hpl (by omega) hpz (fun h => by rw [hps.out] at h; exact absurd h (Nat.lt_irrefl 0))).mono ?_
                  intro e w3 hMo
                  unfold MoO at hMo
                  obtain ⟨r, ta, tc, rfl, hm1, hT, hq1, hq2, hq3, hb3⟩ := hMo
                  have HF := hide (And.intro hm1 (And.intro hT (And.intro hq2 (And.intro hq3 hb3))))
                  clear hm1 hT hq1 hq2 hq3 hb3
                  go_wp2_with fail
                  go_meet
                  exact ⟨w3.heap.size, r, ta, tc, rfl, rfl, HF.out.1, strs_past HF.out.2.1 ((Below.refl _ _).alloc (Nat.le_refl _) _), HF.out.2.2.1, HF.out.2.2.2.1, heap_alloc_new w3 _, HF.out.2.2.2.2.alloc HF.out.2.2.2.2.size _⟩
                · have HS4 : Hid (StrsAt w2 (some ⟨g, 2, none⟩) ps) := (fun _ => ⟨g, 2, rfl, fun j u hj => by have := HSt.out (j + 2) u (by rw [hsp]; exact hj); rwa [Nat.add_comm] at this⟩ : StrsAt w2 (some ⟨g, 2, none⟩) ps)
                  go_wp2_with fail
                  refine (c_l06More _ _ hpl (by omega) hpz HS4.out).mono ?_
                  intro e w3 hMo
                  unfold MoO at hMo
                  obtain ⟨r, ta, tc, rfl, hm1, hT, hq1, hq2, hq3, hb3⟩ := hMo
                  have HF := hide (And.intro hm1 (And.intro hT (And.intro hq2 (And.intro hq3 hb3))))
                  clear hm1 hT hq1 hq2 hq3 hb3
                  go_wp2_with fail
                  go_meet
                  exact ⟨w3.heap.size, r, ta, tc, rfl, rfl, HF.out.1, strs_past HF.out.2.1 ((Below.refl _ _).alloc (Nat.le_refl _) _), HF.out.2.2.1, HF.out.2.2.2.1, heap_alloc_new w3 _, HF.out.2.2.2.2.alloc HF.out.2.2.2.2.size _⟩
              case rest =>
                obtain ⟨b5, r, ta, tc, rfl, rfl, hm1, hT, hq2, hq3, hR5, hB5⟩ := hcut
                obtain ⟨W5, rfl⟩ : ∃ W, W = wc := ⟨_, rfl⟩
                have HS5 := hide (HS2.out.past hB5)
                have HT5 := hide hT
                have he0 := cell_past hB5 hc0
                have he1 := cell_past hB5 hc1
                have hlt5 : b5 < W5.heap.size := (Array.getElem?_eq_some_iff.1 hR5).1
                have HQ := hide (And.intro hq2 (And.intro hq2 hq3))
                clear hB5 hT hc0 hc1 hq2 hq3 HS2
                cases hmo : moreS 0 pt0 ps with
                | none =>
                  have HR : Hid (LnR t (illS 3)) := LnR.bad2 hf hP hmo
                  clear hR5
                  go_wp2_with fail
                  refine (c_l06IllV 3 _).mono ?_
                  rintro e wz ⟨rfl, hbz⟩
                  have HZ9 := hide (HS5.out.past hbz)
                  clear hbz
                  obtain ⟨r0, r1, r2, r3, r4, r5, r6, r7⟩ := cell8 HZ9.out.1
                  obtain ⟨f0, f1, f2, f3, f4, f5, f6, f7⟩ := froz8 HZ9.out.1
                  go_wp2
                  refine bodyPost_ret (v := .agg #[.int .i64 0, .string ⟨#[]⟩, .int .i64 0, .string ⟨#[]⟩, .int .u64 0, .bool false, .int .i64 0, .int .i64 3]) (by simp [results, Tryz.results14, go_sem, r0, r1, r2, r3, r4, r5, r6, r7]) rfl ?_
                  exact ⟨illS 3, rfl, HR.out, bel8 HZ9.out.2 (Nat.le_refl _) _ _ _ _ _ _ _ _⟩
                | some r' =>
                  obtain rfl := hm1 r' hmo
                  go_upto_region 14 with fail
                  have hall := (moreS_all hmo).2
                  have hn4 := name_size hnb
                  have HTZ := hide (all_size hall)
                  have HWhole := hide (And.intro hP (And.intro hmo hnb))
                  obtain ⟨y0, y1, y2, y3, y4⟩ := cell5L hR5
                  have hl1 : (1 : Int) < (ln : Int) := by omega
                  have hl1N : 1 < ln := by omega
                  have hl0 : (0 : Int) < (ln : Int) := by omega
                  have hkz : (k : Int) ≤ (t.size : Int) := by omega
                  have hkzN : k ≤ t.size := by omega
                  clear hR5
                  have hg5 : g < W5.heap.size := World.block_lt_of_cell? _ _ he0
                  generalize hN5 : r'.tg.length = n5 at y2 ⊢
                  have HN5 := hide hN5
                  have hn5 : n5 ≤ 20001 := by rw [← hN5]; exact HQ.out.2.1
                  clear hN5
                  have HKC : Hid (∀ W, Below W5.heap.size W5 W → W.cell? ⟨g, 1, none⟩ = some (.string kd) ∧ W.cell? ⟨b5, 0, none⟩ = some (.string r'.rt) ∧ W.cell? ⟨b5, 1, none⟩ = some (.bool r'.rd) ∧ W.cell? ⟨b5, 2, none⟩ = some (.slice ta n5 tc) ∧ W.cell? ⟨b5, 3, none⟩ = some (.bool r'.td) ∧ W.cell? ⟨b5, 4, none⟩ = some (.int .i64 r'.ti)) := fun W hW => ⟨cell_past hW he1, cell_past hW y0, cell_past hW y1, cell_past hW y2, cell_past hW y3, cell_past hW y4⟩
                  go_cut [7] (fun v w' => ∃ g5 : Nat, v = .pointer (some ⟨g5, 0, none⟩) ∧ SmB w' g5 (kndV kd) (serF nm r'.tg) 0 ByteArray.empty 1 r'.td r'.ti ∧ W5.heap.size ≤ g5 ∧ Below W5.heap.size W5 w')
                  case first =>
                    have HS0 : (fun W => Below W5.heap.size W5 W) W5.drew := (Below.refl _ _).drew
                    refine regionK (fun W => Below W5.heap.size W5 W) 17 (by kernel_rfl) ?_
                    refine takeK (i := 0) (d := 56) (v := .slice (some ⟨g, 0, none⟩) ln cap) rfl rfl (by kernel_rfl) (by kernel_rfl) (by kernel_rfl) (by decide) (by kernel_rfl) (fun _ _ _ h => h) (Or.inl ⟨by rfl, fun W hW => ?_⟩) HS0 ?_
                    · obtain ⟨z0, z1, z2, z3, z4, z5⟩ := HKC.out W hW
                      go_simp
                    simp only [List.setIfInBounds_toArray, List.set_cons_zero, List.set_cons_succ]
                    refine takeK (i := 1) (d := 57) (v := .pointer (some ⟨g, 1, none⟩)) rfl rfl (by kernel_rfl) (by kernel_rfl) (by kernel_rfl) (by decide) (by kernel_rfl) (fun _ _ _ h => h) (Or.inl ⟨by rfl, fun W hW => ?_⟩) HS0 ?_
                    · obtain ⟨z0, z1, z2, z3, z4, z5⟩ := HKC.out W hW
                      go_simp
                    simp only [List.setIfInBounds_toArray, List.set_cons_zero, List.set_cons_succ]
                    refine takeK (i := 2) (d := 58) (v := .string kd) rfl rfl (by kernel_rfl) (by kernel_rfl) (by kernel_rfl) (by decide) (by kernel_rfl) (fun _ _ _ h => h) (Or.inl ⟨by rfl, fun W hW => ?_⟩) HS0 ?_
                    · obtain ⟨z0, z1, z2, z3, z4, z5⟩ := HKC.out W hW
                      go_simp
                    simp only [List.setIfInBounds_toArray, List.set_cons_zero, List.set_cons_succ]
                    refine takeK (i := 4) (d := 60) (v := .string t) rfl rfl (by kernel_rfl) (by kernel_rfl) (by kernel_rfl) (by decide) (by kernel_rfl) (fun _ _ _ h => h) (Or.inl ⟨by rfl, fun W hW => ?_⟩) HS0 ?_
                    · obtain ⟨z0, z1, z2, z3, z4, z5⟩ := HKC.out W hW
                      go_simp
                    simp only [List.setIfInBounds_toArray, List.set_cons_zero, List.set_cons_succ]
                    refine takeK (i := 5) (d := 61) (v := .int .i64 k) rfl rfl (by kernel_rfl) (by kernel_rfl) (by kernel_rfl) (by decide) (by kernel_rfl) (fun _ _ _ h => h) (Or.inl ⟨by rfl, fun W hW => ?_⟩) HS0 ?_
                    · obtain ⟨z0, z1, z2, z3, z4, z5⟩ := HKC.out W hW
                      go_simp
                    simp only [List.setIfInBounds_toArray, List.set_cons_zero, List.set_cons_succ]
                    refine takeK (i := 6) (d := 62) (v := .string nm) rfl rfl (by kernel_rfl) (by kernel_rfl) (by kernel_rfl) (by decide) (by kernel_rfl) (fun _ _ _ h => h) (Or.inl ⟨by rfl, fun W hW => ?_⟩) HS0 ?_
                    · obtain ⟨z0, z1, z2, z3, z4, z5⟩ := HKC.out W hW
                      go_simp
                    simp only [List.setIfInBounds_toArray, List.set_cons_zero, List.set_cons_succ]
                    refine takeK (i := 7) (d := 63) (v := .pointer (some ⟨b5, 2, none⟩)) rfl rfl (by kernel_rfl) (by kernel_rfl) (by kernel_rfl) (by decide) (by kernel_rfl) (fun _ _ _ h => h) (Or.inl ⟨by rfl, fun W hW => ?_⟩) HS0 ?_
                    · obtain ⟨z0, z1, z2, z3, z4, z5⟩ := HKC.out W hW
                      go_simp
                    simp only [List.setIfInBounds_toArray, List.set_cons_zero, List.set_cons_succ]
                    refine takeK (i := 8) (d := 64) (v := .slice ta n5 tc) rfl rfl (by kernel_rfl) (by kernel_rfl) (by kernel_rfl) (by decide) (by kernel_rfl) (fun _ _ _ h => h) (Or.inl ⟨by rfl, fun W hW => ?_⟩) HS0 ?_
                    · obtain ⟨z0, z1, z2, z3, z4, z5⟩ := HKC.out W hW
                      go_simp
                    simp only [List.setIfInBounds_toArray, List.set_cons_zero, List.set_cons_succ]
                    refine takeK (i := 10) (d := 66) (v := .pointer (some ⟨b5, 3, none⟩)) rfl rfl (by kernel_rfl) (by kernel_rfl) (by kernel_rfl) (by decide) (by kernel_rfl) (fun _ _ _ h => h) (Or.inl ⟨by rfl, fun W hW => ?_⟩) HS0 ?_
                    · obtain ⟨z0, z1, z2, z3, z4, z5⟩ := HKC.out W hW
                      go_simp
                    simp only [List.setIfInBounds_toArray, List.set_cons_zero, List.set_cons_succ]
                    refine takeK (i := 11) (d := 67) (v := .bool r'.td) rfl rfl (by kernel_rfl) (by kernel_rfl) (by kernel_rfl) (by decide) (by kernel_rfl) (fun _ _ _ h => h) (Or.inl ⟨by rfl, fun W hW => ?_⟩) HS0 ?_
                    · obtain ⟨z0, z1, z2, z3, z4, z5⟩ := HKC.out W hW
                      go_simp
                    simp only [List.setIfInBounds_toArray, List.set_cons_zero, List.set_cons_succ]
                    refine takeK (i := 12) (d := 68) (v := .pointer (some ⟨b5, 4, none⟩)) rfl rfl (by kernel_rfl) (by kernel_rfl) (by kernel_rfl) (by decide) (by kernel_rfl) (fun _ _ _ h => h) (Or.inl ⟨by rfl, fun W hW => ?_⟩) HS0 ?_
                    · obtain ⟨z0, z1, z2, z3, z4, z5⟩ := HKC.out W hW
                      go_simp
                    simp only [List.setIfInBounds_toArray, List.set_cons_zero, List.set_cons_succ]
                    refine takeK (i := 13) (d := 69) (v := .int .i64 r'.ti) rfl rfl (by kernel_rfl) (by kernel_rfl) (by kernel_rfl) (by decide) (by kernel_rfl) (fun _ _ _ h => h) (Or.inl ⟨by rfl, fun W hW => ?_⟩) HS0 ?_
                    · obtain ⟨z0, z1, z2, z3, z4, z5⟩ := HKC.out W hW
                      go_simp
                    simp only [List.setIfInBounds_toArray, List.set_cons_zero, List.set_cons_succ]
                    refine twoK (i := 3) (j := 15) (by kernel_rfl) rfl rfl (fun K hK => ?_) (fun K hK => ?_)
                    · go_simp
                      refine (c_l06Kind kd _).mono ?_
                      rintro e Wk ⟨rfl, hwk⟩
                      subst hwk
                      dsimp only
                      refine hK.out _ _ (fun _ => HS0) ?_
                      clear hK K
                      try simp only [Act.put, List.setIfInBounds_toArray, List.set_cons_zero, List.set_cons_succ]
                      refine twoK (i := 9) (j := 15) (by kernel_rfl) rfl rfl (fun K hK => ?_) (fun K hK => ?_)
                      · go_simp
                        refine (c_s_l06Series nm _ _ (by omega) HN5.out (by omega) HTZ.out (strs_past HT5.out (HS0 : Below W5.heap.size W5 _))).mono ?_
                        rintro e W6 ⟨rfl, hb⟩
                        dsimp only
                        have HBW6 := hide ((HS0 : Below W5.heap.size W5 _).trans (hb.mono (HS0 : Below W5.heap.size W5 _).size))
                        have HCW6 := hide hb
                        clear hb
                        refine hK.out _ _ (fun _ => HBW6.out) ?_
                        clear hK K
                        try simp only [Act.put, List.setIfInBounds_toArray, List.set_cons_zero, List.set_cons_succ]
                        refine takeK (i := 14) (d := 70) (v := .agg #[.int .i64 (kndV kd), .string (serF nm r'.tg), .int .i64 0, .string ⟨#[]⟩, .int .u64 1, .bool r'.td, .int .i64 r'.ti]) rfl rfl (by kernel_rfl) (by kernel_rfl) (by kernel_rfl) (by decide) (by kernel_rfl) (fun _ _ _ h => h) (Or.inl ⟨by rfl, fun W hW => ?_⟩) HBW6.out ?_
                        · obtain ⟨z0, z1, z2, z3, z4, z5⟩ := HKC.out W hW
                          go_simp
                        simp only [List.setIfInBounds_toArray, List.set_cons_zero, List.set_cons_succ]
                        refine oneK (i := 15) (by kernel_rfl) rfl (fun K hK => ?_)
                        go_simp
                        have HBWa := hide (Below.alloc (HBW6.out : Below W5.heap.size W5 W6) (HBW6.out : Below W5.heap.size W5 W6).size (.cells #[.int .i64 0, .string ⟨#[]⟩, .int .i64 0, .string ⟨#[]⟩, .int .u64 0, .bool false, .int .i64 0] 27))
                        refine hK.out _ _ (fun _ => HBWa.out) ?_
                        clear hK K
                        try simp only [Act.put, List.setIfInBounds_toArray, List.set_cons_zero, List.set_cons_succ]
                        have R5 := heap_alloc_new W6 (.cells #[.int .i64 0, .string ⟨#[]⟩, .int .i64 0, .string ⟨#[]⟩, .int .u64 0, .bool false, .int .i64 0] 27)
                        obtain ⟨q0, q1, q2, q3, q4, q5, q6⟩ := cell7 R5
                        obtain ⟨f0, f1, f2, f3, f4, f5, f6⟩ := froz7 R5
                        refine oneK (i := 16) (by kernel_rfl) rfl (fun K hK => ?_)
                        go_simp
                        refine hK.out _ _ (fun _ => Below.alloc HBW6.out HBW6.out.size _) ?_
                        clear hK K
                        try simp only [Act.put, List.setIfInBounds_toArray, List.set_cons_zero, List.set_cons_succ]
                        refine doneK (by kernel_rfl) ?_ _
                        go_wp2
                        go_meet
                        exact ⟨W6.heap.size, rfl, heap_alloc_new W6 _, HBW6.out.size, Below.alloc HBW6.out HBW6.out.size _⟩
                      · go_simp
                        have HBWa := hide (Below.alloc (HS0 : Below W5.heap.size W5 W5.drew) (HS0 : Below W5.heap.size W5 W5.drew).size (.cells #[.int .i64 0, .string ⟨#[]⟩, .int .i64 0, .string ⟨#[]⟩, .int .u64 0, .bool false, .int .i64 0] 27))
                        refine hK.out _ _ (fun _ => HBWa.out) ?_
                        clear hK K
                        try simp only [Act.put, List.setIfInBounds_toArray, List.set_cons_zero, List.set_cons_succ]
                        refine oneK (i := 9) (by kernel_rfl) rfl (fun K hK => ?_)
                        go_simp
                        refine (c_s_l06Series nm _ _ (by omega) HN5.out (by omega) HTZ.out (strs_past HT5.out (HBWa.out : Below W5.heap.size W5 _))).mono ?_
                        rintro e W6 ⟨rfl, hb⟩
                        dsimp only
                        have HBW6 := hide ((HBWa.out : Below W5.heap.size W5 _).trans (hb.mono (HBWa.out : Below W5.heap.size W5 _).size))
                        have HCW6 := hide hb
                        clear hb
                        refine hK.out _ _ (fun _ => HBW6.out) ?_
                        clear hK K
                        try simp only [Act.put, List.setIfInBounds_toArray, List.set_cons_zero, List.set_cons_succ]
                        have R5 : W6.heap[W5.heap.size]? = some (.cells #[.int .i64 0, .string ⟨#[]⟩, .int .i64 0, .string ⟨#[]⟩, .int .u64 0, .bool false, .int .i64 0] 27 (0, 0)) := by rw [HCW6.out.block _ (by simp)]; exact heap_alloc_new W5.drew _
                        obtain ⟨q0, q1, q2, q3, q4, q5, q6⟩ := cell7 R5
                        obtain ⟨f0, f1, f2, f3, f4, f5, f6⟩ := froz7 R5
                        refine oneK (i := 14) (by kernel_rfl) rfl (fun K hK => ?_)
                        go_simp
                        refine hK.out _ _ (fun _ => HBW6.out) ?_
                        clear hK K
                        try simp only [Act.put, List.setIfInBounds_toArray, List.set_cons_zero, List.set_cons_succ]
                        refine oneK (i := 16) (by kernel_rfl) rfl (fun K hK => ?_)
                        go_simp
                        refine hK.out _ _ (fun _ => (((((((HBW6.out.setCell (p := ⟨W5.heap.size, 0, none⟩) (Nat.le_refl _) _).setCell (p := ⟨W5.heap.size, 1, none⟩) (Nat.le_refl _) _).setCell (p := ⟨W5.heap.size, 2, none⟩) (Nat.le_refl _) _).setCell (p := ⟨W5.heap.size, 3, none⟩) (Nat.le_refl _) _).setCell (p := ⟨W5.heap.size, 4, none⟩) (Nat.le_refl _) _).setCell (p := ⟨W5.heap.size, 5, none⟩) (Nat.le_refl _) _).setCell (p := ⟨W5.heap.size, 6, none⟩) (Nat.le_refl _) _)) ?_
                        clear hK K
                        try simp only [Act.put, List.setIfInBounds_toArray, List.set_cons_zero, List.set_cons_succ]
                        refine doneK (by kernel_rfl) ?_ _
                        go_wp2
                        go_meet
                        exact ⟨W5.heap.size, rfl, row7 _ _ _ _ _ _ _ R5, Nat.le_refl _, (((((((HBW6.out.setCell (p := ⟨W5.heap.size, 0, none⟩) (Nat.le_refl _) _).setCell (p := ⟨W5.heap.size, 1, none⟩) (Nat.le_refl _) _).setCell (p := ⟨W5.heap.size, 2, none⟩) (Nat.le_refl _) _).setCell (p := ⟨W5.heap.size, 3, none⟩) (Nat.le_refl _) _).setCell (p := ⟨W5.heap.size, 4, none⟩) (Nat.le_refl _) _).setCell (p := ⟨W5.heap.size, 5, none⟩) (Nat.le_refl _) _).setCell (p := ⟨W5.heap.size, 6, none⟩) (Nat.le_refl _) _)⟩
                    · go_simp
                      have HBWa := hide (Below.alloc (HS0 : Below W5.heap.size W5 W5.drew) (HS0 : Below W5.heap.size W5 W5.drew).size (.cells #[.int .i64 0, .string ⟨#[]⟩, .int .i64 0, .string ⟨#[]⟩, .int .u64 0, .bool false, .int .i64 0] 27))
                      refine hK.out _ _ (fun _ => HBWa.out) ?_
                      clear hK K
                      try simp only [Act.put, List.setIfInBounds_toArray, List.set_cons_zero, List.set_cons_succ]
                      refine oneK (i := 3) (by kernel_rfl) rfl (fun K hK => ?_)
                      go_simp
                      refine (c_l06Kind kd _).mono ?_
                      rintro e Wk ⟨rfl, hwk⟩
                      subst hwk
                      dsimp only
                      refine hK.out _ _ (fun _ => HBWa.out) ?_
                      clear hK K
                      try simp only [Act.put, List.setIfInBounds_toArray, List.set_cons_zero, List.set_cons_succ]
                      refine oneK (i := 9) (by kernel_rfl) rfl (fun K hK => ?_)
                      go_simp
                      refine (c_s_l06Series nm _ _ (by omega) HN5.out (by omega) HTZ.out (strs_past HT5.out (HBWa.out : Below W5.heap.size W5 _))).mono ?_
                      rintro e W6 ⟨rfl, hb⟩
                      dsimp only
                      have HBW6 := hide ((HBWa.out : Below W5.heap.size W5 _).trans (hb.mono (HBWa.out : Below W5.heap.size W5 _).size))
                      have HCW6 := hide hb
                      clear hb
                      refine hK.out _ _ (fun _ => HBW6.out) ?_
                      clear hK K
                      try simp only [Act.put, List.setIfInBounds_toArray, List.set_cons_zero, List.set_cons_succ]
                      have R5 : W6.heap[W5.heap.size]? = some (.cells #[.int .i64 0, .string ⟨#[]⟩, .int .i64 0, .string ⟨#[]⟩, .int .u64 0, .bool false, .int .i64 0] 27 (0, 0)) := by rw [HCW6.out.block _ (by simp)]; exact heap_alloc_new W5.drew _
                      obtain ⟨q0, q1, q2, q3, q4, q5, q6⟩ := cell7 R5
                      obtain ⟨f0, f1, f2, f3, f4, f5, f6⟩ := froz7 R5
                      refine oneK (i := 14) (by kernel_rfl) rfl (fun K hK => ?_)
                      go_simp
                      refine hK.out _ _ (fun _ => HBW6.out) ?_
                      clear hK K
                      try simp only [Act.put, List.setIfInBounds_toArray, List.set_cons_zero, List.set_cons_succ]
                      refine oneK (i := 16) (by kernel_rfl) rfl (fun K hK => ?_)
                      go_simp
                      refine hK.out _ _ (fun _ => (((((((HBW6.out.setCell (p := ⟨W5.heap.size, 0, none⟩) (Nat.le_refl _) _).setCell (p := ⟨W5.heap.size, 1, none⟩) (Nat.le_refl _) _).setCell (p := ⟨W5.heap.size, 2, none⟩) (Nat.le_refl _) _).setCell (p := ⟨W5.heap.size, 3, none⟩) (Nat.le_refl _) _).setCell (p := ⟨W5.heap.size, 4, none⟩) (Nat.le_refl _) _).setCell (p := ⟨W5.heap.size, 5, none⟩) (Nat.le_refl _) _).setCell (p := ⟨W5.heap.size, 6, none⟩) (Nat.le_refl _) _)) ?_
                      clear hK K
                      try simp only [Act.put, List.setIfInBounds_toArray, List.set_cons_zero, List.set_cons_succ]
                      refine doneK (by kernel_rfl) ?_ _
                      go_wp2
                      go_meet
                      exact ⟨W5.heap.size, rfl, row7 _ _ _ _ _ _ _ R5, Nat.le_refl _, (((((((HBW6.out.setCell (p := ⟨W5.heap.size, 0, none⟩) (Nat.le_refl _) _).setCell (p := ⟨W5.heap.size, 1, none⟩) (Nat.le_refl _) _).setCell (p := ⟨W5.heap.size, 2, none⟩) (Nat.le_refl _) _).setCell (p := ⟨W5.heap.size, 3, none⟩) (Nat.le_refl _) _).setCell (p := ⟨W5.heap.size, 4, none⟩) (Nat.le_refl _) _).setCell (p := ⟨W5.heap.size, 5, none⟩) (Nat.le_refl _) _).setCell (p := ⟨W5.heap.size, 6, none⟩) (Nat.le_refl _) _)⟩
                  case rest =>
                    obtain ⟨g5, rfl, hSm, hgl, hB⟩ := hcut
                    have HS6 := hide (HS5.out.past hB)
                    obtain ⟨_, x0, x1, _, _, _⟩ := HKC.out _ hB
                    have hx0 := cell_past hB he0
                    have hb5 : b5 < g5 := by omega
                    have hgg : g < g5 := by omega
                    have hwg : w.heap.size < g5 := Nat.lt_of_lt_of_le HS5.out.lt hgl
                    have HSm := hide hSm
                    unfold SmB at hSm
                    obtain ⟨s0, s1, s2, s3, s4, s5, s6⟩ := cell7 hSm
                    clear hSm hB y0 y1 y2 y3 y4 he0 he1 HS5
                    by_cases hse : serF nm r'.tg = ByteArray.empty
                    · have hem : (serF nm r'.tg).toList.isEmpty = true := by rw [hse]; exact emptyL
                      have HR : Hid (LnR t (illS 3)) := LnR.bad3 hf HWhole.out.1 HWhole.out.2.1 HWhole.out.2.2 hse
                      clear hse
                      go_wp2_with fail
                      refine (c_l06IllV 3 _).mono ?_
                      rintro e wz ⟨rfl, hbz⟩
                      have HZ9 := hide (HS6.out.past hbz)
                      clear hbz
                      obtain ⟨r0, r1, r2, r3, r4, r5, r6, r7⟩ := cell8 HZ9.out.1
                      obtain ⟨f0, f1, f2, f3, f4, f5, f6, f7⟩ := froz8 HZ9.out.1
                      go_wp2
                      refine bodyPost_ret (v := .agg #[.int .i64 0, .string ⟨#[]⟩, .int .i64 0, .string ⟨#[]⟩, .int .u64 0, .bool false, .int .i64 0, .int .i64 3]) (by simp [results, Tryz.results14, go_sem, r0, r1, r2, r3, r4, r5, r6, r7]) rfl ?_
                      exact ⟨illS 3, rfl, HR.out, bel8 HZ9.out.2 (Nat.le_refl _) _ _ _ _ _ _ _ _⟩
                    · have hem : (serF nm r'.tg).toList.isEmpty = false := ne_empty hse
                      obtain ⟨hgood, hsw⟩ := LnR.good hf HWhole.out.1 HWhole.out.2.1 HWhole.out.2.2 hse
                      have HG := hide (And.intro hgood hsw)
                      clear hgood hsw hse
                      by_cases hk0 : kndV kd = 0
                      · have hkb : (kndV kd == 0) = true := by simp [hk0]
                        have HR : Hid (LnR t (illS 9)) := by rw [← ans_k (nm := nm) (wh := wh) (r := r') hk0]; exact HG.out.1
                        clear hk0
                        go_wp2_with fail
                        refine (c_l06IllV 9 _).mono ?_
                        rintro e wz ⟨rfl, hbz⟩
                        have HZ9 := hide (HS6.out.past hbz)
                        clear hbz
                        obtain ⟨r0, r1, r2, r3, r4, r5, r6, r7⟩ := cell8 HZ9.out.1
                        obtain ⟨f0, f1, f2, f3, f4, f5, f6, f7⟩ := froz8 HZ9.out.1
                        go_wp2
                        refine bodyPost_ret (v := .agg #[.int .i64 0, .string ⟨#[]⟩, .int .i64 0, .string ⟨#[]⟩, .int .u64 0, .bool false, .int .i64 0, .int .i64 9]) (by simp [results, Tryz.results14, go_sem, r0, r1, r2, r3, r4, r5, r6, r7]) rfl ?_
                        exact ⟨illS 9, rfl, HR.out, bel8 HZ9.out.2 (Nat.le_refl _) _ _ _ _ _ _ _ _⟩
                      · have hkb : (kndV kd == 0) = false := beq_eq_false_iff_ne.2 hk0
                        have HK0 := hide hk0
                        clear hk0
                        go_wp2_with fail
                        refine (c_l06What g5 wh (by omega) HSm.out).mono ?_
                        rintro e w7 ⟨c, rfl, hc0, hsm7, hoth, hb7⟩
                        have HS7 : Hid (RS w w7) := ⟨by rw [hoth _ (by omega) HS6.out.lt]; exact HS6.out.1, HS6.out.2.trans (hb7.mono (Nat.le_of_lt hwg))⟩
                        have v0 : w7.cell? ⟨b5, 0, none⟩ = some (.string r'.rt) := by rw [hb7.cell (p := ⟨b5, 0, none⟩) hb5]; exact x0
                        have v1 : w7.cell? ⟨b5, 1, none⟩ = some (.bool r'.rd) := by rw [hb7.cell (p := ⟨b5, 1, none⟩) hb5]; exact x1
                        clear hoth hb7 x0 x1 hx0 s0 s1 s2 s3 s4 s5 s6 HS6
                        cases hwh : whB (kndV kd) wh with
                        | false =>
                          have hcz : ¬ c = 0 := fun e => by rw [hwh] at hc0; exact absurd (hc0.1 e) (by simp)
                          have hcb : (c == 0) = false := beq_eq_false_iff_ne.2 hcz
                          have HR : Hid (LnR t (illS 3)) := by rw [← ans_w (nm := nm) (r := r') HK0.out hwh]; exact HG.out.1
                          clear hc0 hsm7
                          go_wp2_with fail
                          refine (c_l06IllV 3 _).mono ?_
                          rintro e wz ⟨rfl, hbz⟩
                          have HZ9 := hide (HS7.out.past hbz)
                          clear hbz
                          obtain ⟨r0, r1, r2, r3, r4, r5, r6, r7⟩ := cell8 HZ9.out.1
                          obtain ⟨f0, f1, f2, f3, f4, f5, f6, f7⟩ := froz8 HZ9.out.1
                          go_wp2
                          refine bodyPost_ret (v := .agg #[.int .i64 0, .string ⟨#[]⟩, .int .i64 0, .string ⟨#[]⟩, .int .u64 0, .bool false, .int .i64 0, .int .i64 3]) (by simp [results, Tryz.results14, go_sem, r0, r1, r2, r3, r4, r5, r6, r7]) rfl ?_
                          exact ⟨illS 3, rfl, HR.out, bel8 HZ9.out.2 (Nat.le_refl _) _ _ _ _ _ _ _ _⟩
                        | true =>
                          obtain rfl : c = 0 := hc0.2 hwh
                          have hSm7 := hsm7 hwh
                          have HSm7 := hide hSm7
                          unfold SmB at hSm7
                          obtain ⟨s0, s1, s2, s3, s4, s5, s6⟩ := cell7 hSm7
                          obtain ⟨t0, t1, t2, t3, t4, t5, t6⟩ := froz7 hSm7
                          have HWh := hide hwh
                          clear hsm7 hc0 hSm7 hwh
                          cases hrd : r'.rd with
                          | false =>
                            rw [hrd] at v1
                            have HV : Hid (Ending.returned (.agg #[.int .i64 (kndV kd), .string (serF nm r'.tg), .int .i64 (whV (kndV kd) wh), .string (whW (kndV kd) wh), .int .u64 1, .bool r'.td, .int .i64 r'.ti, .int .i64 0]) = .returned (outL (ansS nm wh kd r'))) := by
                              rw [ans_ok HK0.out HWh.out (wt_none hrd).1, (wt_none hrd).2, HG.out.2]; rfl
                            have HR := hide HG.out.1
                            have HSz := HS7
                            obtain ⟨r0, r1, r2, r3, r4, r5, r6, r7⟩ := cell8 HSz.out.1
                            obtain ⟨f0, f1, f2, f3, f4, f5, f6, f7⟩ := froz8 HSz.out.1
                            go_wp2
                            refine bodyPost_ret (v := .agg #[.int .i64 (kndV kd), .string (serF nm r'.tg), .int .i64 (whV (kndV kd) wh), .string (whW (kndV kd) wh), .int .u64 1, .bool r'.td, .int .i64 r'.ti, .int .i64 0]) (by simp [results, Tryz.results14, go_sem, r0, r1, r2, r3, r4, r5, r6, r7]) rfl ?_
                            exact ⟨_, HV.out, HR.out, bel8 HSz.out.2 (Nat.le_refl _) _ _ _ _ _ _ _ _⟩
                          | true =>
                            rw [hrd] at v1
                            have hrz : r'.rt.size ≤ maxLen := by have := HQ.out.2.2; unfold maxLen; omega
                            go_wp2_with fail
                            refine (c_s_ValueRead r'.rt hrz _).mono ?_
                            rintro e w8 ⟨rfl, hb8⟩
                            have HS8 := hide (HS7.out.past hb8)
                            have hg7 : g5 < w7.heap.size := World.block_lt_of_cell? _ _ s0
                            have HSm8 : Hid (SmB w8 g5 (kndV kd) (serF nm r'.tg) (whV (kndV kd) wh) (whW (kndV kd) wh) 1 r'.td r'.ti) := by
                              unfold SmB; rw [hb8.block _ hg7]; exact HSm7.out
                            clear hb8 s0 s1 s2 s3 s4 s5 s6 t0 t1 t2 t3 t4 t5 t6 v0 v1 HS7 HSm7
                            have hSm8 := HSm8.out
                            unfold SmB at hSm8
                            obtain ⟨s0, s1, s2, s3, s4, s5, s6⟩ := cell7 hSm8
                            obtain ⟨t0, t1, t2, t3, t4, t5, t6⟩ := froz7 hSm8
                            have hg8 : g5 < w8.heap.size := World.block_lt_of_cell? _ _ s0
                            have hne1 : ¬ w.heap.size = g5 := by omega
                            have hne2 : ¬ g5 = w.heap.size := by omega
                            have hne3 : ¬ g5 = w8.heap.size := by omega
                            have hne4 : ¬ w8.heap.size = g5 := by omega
                            have HSa : Hid (∀ o, RS w (w8.alloc o)) := fun o => HS8.out.past ((Below.refl _ _).alloc (Nat.le_refl _) o)
                            obtain ⟨hk1, hk4⟩ := knd_range kd
                            by_cases hra : raP (kndV kd) r'.rt
                            · obtain ⟨c1, c2, c3, c4⟩ := hra
                              have HWt := hide (wt_yes hrd (show raP (kndV kd) r'.rt from ⟨c1, c2, c3, c4⟩))
                              obtain ⟨q, hq⟩ : ∃ q, q = 1000000 / rvV r'.rt := ⟨_, rfl⟩
                              have hq0 : 0 ≤ q := by rw [hq]; exact Int.ediv_nonneg (by omega) (by omega)
                              have hq1 : q ≤ 1000000 := by rw [hq]; exact Int.ediv_le_self _ (by omega)
                              have eq1 : (1000000 : Int).tdiv (rvV r'.rt) = q := by rw [hq, Int.tdiv_eq_ediv_of_nonneg (by omega)]
                              have uq1 : IntKind.i64.wrap q = q := IntWalk.i64_in _ ⟨by omega, by omega⟩
                              have uq2 : IntKind.u64.wrap q = q := IntWalk.u64_in _ ⟨by omega, by omega⟩
                              have bz : (rvV r'.rt == 0) = false := beq_eq_false_iff_ne.2 (by omega)
                              have bzn : ¬ rvV r'.rt = 0 := by omega
                              have dl : decide (rvV r'.rt < 1) = false := decide_eq_false (by omega)
                              have dgt : decide (1000000 < rvV r'.rt) = false := decide_eq_false (by omega)
                              have bk2 : (kndV kd == 2) = false := beq_eq_false_iff_ne.2 (by omega)
                              have bk4 : (kndV kd == 4) = false := beq_eq_false_iff_ne.2 (by omega)
                              have bc : (rvC r'.rt == 0) = true := by simp [c1]
                              have HV : Hid (Ending.returned (.agg #[.int .i64 (kndV kd), .string (serF nm r'.tg), .int .i64 (whV (kndV kd) wh), .string (whW (kndV kd) wh), .int .u64 q, .bool r'.td, .int .i64 r'.ti, .int .i64 0]) = .returned (outL (ansS nm wh kd r'))) := by
                                rw [ans_ok HK0.out HWh.out HWt.out.1, HWt.out.2, HG.out.2, hq]; rfl
                              have HR := hide HG.out.1
                              have HC1 := hide c1
                              clear hq c1 c4
                              obtain ⟨r0, r1, r2, r3, r4, r5, r6, r7⟩ := cell8 HS8.out.1
                              obtain ⟨f0, f1, f2, f3, f4, f5, f6, f7⟩ := froz8 HS8.out.1
                              have hws : w.heap.size < w8.heap.size := by omega
                              go_wp2
                              have R9 : (w8.setCell ⟨g5, 4, none⟩ (.int .u64 q)).heap[w.heap.size]? = some (.cells #[.int .i64 0, .string ⟨#[]⟩, .int .i64 0, .string ⟨#[]⟩, .int .u64 0, .bool false, .int .i64 0, .int .i64 0] 34 (0, 0)) := by
                                rw [Below.heap_setCell w8 ⟨g5, 4, none⟩ _ _ (by show w.heap.size ≠ g5; omega)]; exact HS8.out.1
                              have R10 := row8 (.int .i64 (kndV kd)) (.string (serF nm r'.tg)) (.int .i64 (whV (kndV kd) wh)) (.string (whW (kndV kd) wh)) (.int .u64 q) (.bool r'.td) (.int .i64 r'.ti) (.int .i64 0) R9
                              have hl10 := (Array.getElem?_eq_some_iff.1 R10).1
                              refine bodyPost_ret (v := .agg #[.int .i64 (kndV kd), .string (serF nm r'.tg), .int .i64 (whV (kndV kd) wh), .string (whW (kndV kd) wh), .int .u64 q, .bool r'.td, .int .i64 r'.ti, .int .i64 0]) (by
                                obtain ⟨z0, z1, z2, z3, z4, z5, z6, z7⟩ := cell8 ((Below.heap_alloc _ (.cells #[.int .i64 (rvV r'.rt), .int .i64 0] 67) _ hl10).trans R10)
                                simp [results, Tryz.results14, go_sem, z0, z1, z2, z3, z4, z5, z6, z7]) rfl ?_
                              have hb9 := bel8 (HS8.out.2.setCell (p := ⟨g5, 4, none⟩) (Nat.le_of_lt hwg) (.int .u64 q)) (Nat.le_refl _) (.int .i64 (kndV kd)) (.string (serF nm r'.tg)) (.int .i64 (whV (kndV kd) wh)) (.string (whW (kndV kd) wh)) (.int .u64 q) (.bool r'.td) (.int .i64 r'.ti) (.int .i64 0)
                              exact ⟨_, HV.out, HR.out, hb9.alloc hb9.size _⟩
                            · have HR : Hid (LnR t (illS 10)) := by rw [← ans_r (nm := nm) (r := r') HK0.out HWh.out (wt_no hrd hra)]; exact HG.out.1
                              by_cases c1 : rvC r'.rt = 0
                              · have bc : (rvC r'.rt == 0) = true := by simp [c1]
                                by_cases c2 : rvV r'.rt < 1
                                · have dl : decide (rvV r'.rt < 1) = true := decide_eq_true c2
                                  clear hra
                                  go_wp2_with fail
                                  refine (c_l06IllV 10 _).mono ?_
                                  rintro e wz ⟨rfl, hbz⟩
                                  have HZ9 := hide ((HSa.out _).past hbz)
                                  clear hbz
                                  obtain ⟨r0, r1, r2, r3, r4, r5, r6, r7⟩ := cell8 HZ9.out.1
                                  obtain ⟨f0, f1, f2, f3, f4, f5, f6, f7⟩ := froz8 HZ9.out.1
                                  go_wp2
                                  refine bodyPost_ret (v := .agg #[.int .i64 0, .string ⟨#[]⟩, .int .i64 0, .string ⟨#[]⟩, .int .u64 0, .bool false, .int .i64 0, .int .i64 10]) (by simp [results, Tryz.results14, go_sem, r0, r1, r2, r3, r4, r5, r6, r7]) rfl ?_
                                  exact ⟨illS 10, rfl, HR.out, bel8 HZ9.out.2 (Nat.le_refl _) _ _ _ _ _ _ _ _⟩
                                · have dl : decide (rvV r'.rt < 1) = false := decide_eq_false c2
                                  by_cases c3 : 1000000 < rvV r'.rt
                                  · have dgt : decide (1000000 < rvV r'.rt) = true := decide_eq_true c3
                                    clear hra
                                    go_wp2_with fail
                                    refine (c_l06IllV 10 _).mono ?_
                                    rintro e wz ⟨rfl, hbz⟩
                                    have HZ9 := hide ((HSa.out _).past hbz)
                                    clear hbz
                                    obtain ⟨r0, r1, r2, r3, r4, r5, r6, r7⟩ := cell8 HZ9.out.1
                                    obtain ⟨f0, f1, f2, f3, f4, f5, f6, f7⟩ := froz8 HZ9.out.1
                                    go_wp2
                                    refine bodyPost_ret (v := .agg #[.int .i64 0, .string ⟨#[]⟩, .int .i64 0, .string ⟨#[]⟩, .int .u64 0, .bool false, .int .i64 0, .int .i64 10]) (by simp [results, Tryz.results14, go_sem, r0, r1, r2, r3, r4, r5, r6, r7]) rfl ?_
                                    exact ⟨illS 10, rfl, HR.out, bel8 HZ9.out.2 (Nat.le_refl _) _ _ _ _ _ _ _ _⟩
                                  · have dgt : decide (1000000 < rvV r'.rt) = false := decide_eq_false c3
                                    by_cases c4 : kndV kd = 2
                                    · have bk2 : (kndV kd == 2) = true := by simp [c4]
                                      clear hra
                                      go_wp2_with fail
                                      refine (c_l06IllV 10 _).mono ?_
                                      rintro e wz ⟨rfl, hbz⟩
                                      have HZ9 := hide ((HSa.out _).past hbz)
                                      clear hbz
                                      obtain ⟨r0, r1, r2, r3, r4, r5, r6, r7⟩ := cell8 HZ9.out.1
                                      obtain ⟨f0, f1, f2, f3, f4, f5, f6, f7⟩ := froz8 HZ9.out.1
                                      go_wp2
                                      refine bodyPost_ret (v := .agg #[.int .i64 0, .string ⟨#[]⟩, .int .i64 0, .string ⟨#[]⟩, .int .u64 0, .bool false, .int .i64 0, .int .i64 10]) (by simp [results, Tryz.results14, go_sem, r0, r1, r2, r3, r4, r5, r6, r7]) rfl ?_
                                      exact ⟨illS 10, rfl, HR.out, bel8 HZ9.out.2 (Nat.le_refl _) _ _ _ _ _ _ _ _⟩
                                    · have bk2 : (kndV kd == 2) = false := beq_eq_false_iff_ne.2 c4
                                      have bk4 : (kndV kd == 4) = true := by
                                        have : kndV kd = 4 := by
                                          have h0 := HK0.out
                                          have : ¬ (kndV kd = 1 ∨ kndV kd = 3) := fun h => hra ⟨c1, by omega, by omega, h⟩
                                          omega
                                        simp [this]
                                      clear hra
                                      go_wp2_with fail
                                      refine (c_l06IllV 10 _).mono ?_
                                      rintro e wz ⟨rfl, hbz⟩
                                      have HZ9 := hide ((HSa.out _).past hbz)
                                      clear hbz
                                      obtain ⟨r0, r1, r2, r3, r4, r5, r6, r7⟩ := cell8 HZ9.out.1
                                      obtain ⟨f0, f1, f2, f3, f4, f5, f6, f7⟩ := froz8 HZ9.out.1
                                      go_wp2
                                      refine bodyPost_ret (v := .agg #[.int .i64 0, .string ⟨#[]⟩, .int .i64 0, .string ⟨#[]⟩, .int .u64 0, .bool false, .int .i64 0, .int .i64 10]) (by simp [results, Tryz.results14, go_sem, r0, r1, r2, r3, r4, r5, r6, r7]) rfl ?_
                                      exact ⟨illS 10, rfl, HR.out, bel8 HZ9.out.2 (Nat.le_refl _) _ _ _ _ _ _ _ _⟩
                              · have bc : (rvC r'.rt == 0) = false := beq_eq_false_iff_ne.2 c1
                                clear hra
                                go_wp2_with fail
                                refine (c_l06IllV 10 _).mono ?_
                                rintro e wz ⟨rfl, hbz⟩
                                have HZ9 := hide ((HSa.out _).past hbz)
                                clear hbz
                                obtain ⟨r0, r1, r2, r3, r4, r5, r6, r7⟩ := cell8 HZ9.out.1
                                obtain ⟨f0, f1, f2, f3, f4, f5, f6, f7⟩ := froz8 HZ9.out.1
                                go_wp2
                                refine bodyPost_ret (v := .agg #[.int .i64 0, .string ⟨#[]⟩, .int .i64 0, .string ⟨#[]⟩, .int .u64 0, .bool false, .int .i64 0, .int .i64 10]) (by simp [results, Tryz.results14, go_sem, r0, r1, r2, r3, r4, r5, r6, r7]) rfl ?_
                                exact ⟨illS 10, rfl, HR.out, bel8 HZ9.out.2 (Nat.le_refl _) _ _ _ _ _ _ _ _⟩
        · go_wp2
          go_roundw
          case rel => exact ⟨trivial, k + 1, by omega, by go_num, no_step HI.out hb58⟩
          case measure => simp [Go.RowKit.intOf]; omega
      · have hke : k = t.size := by omega
        have HR : Hid (LnR t (illS 3)) := LnR.bad hf (fun nm wh kd ps r k1 _ => (LP.no1 (no_btL (b := 58) (fun j hj => HI.out j (by omega))) k1).elim)
        subst hke
        go_wp2_with fail
        refine (c_l06IllV 3 _).mono ?_
        rintro e wz ⟨rfl, hbz⟩
        have HZ9 := hide (HS0.out.past hbz)
        clear hbz
        obtain ⟨r0, r1, r2, r3, r4, r5, r6, r7⟩ := cell8 HZ9.out.1
        obtain ⟨f0, f1, f2, f3, f4, f5, f6, f7⟩ := froz8 HZ9.out.1
        go_wp2
        refine bodyPost_ret (v := .agg #[.int .i64 0, .string ⟨#[]⟩, .int .i64 0, .string ⟨#[]⟩, .int .u64 0, .bool false, .int .i64 0, .int .i64 3]) (by simp [results, Tryz.results14, go_sem, r0, r1, r2, r3, r4, r5, r6, r7]) rfl ?_
        exact ⟨illS 3, rfl, HR.out, bel8 HZ9.out.2 (Nat.le_refl _) _ _ _ _ _ _ _ _⟩
end Go.Proofs.YtnflhahnbdnaoaaGreatDoor
