/-
  readLine and LineRead of the program.
-/
import Derived.Test.YtljngkjhhkccgaaGreatDoorLnK
namespace Go.Proofs.YtljngkjhhkccgaaGreatDoor
set_option linter.unusedVariables false
set_option linter.unusedSimpArgs false
open Go.ChangeShapes Go.WideShapes Go.ChangeAt Go.RowKit Go.PlainAid
set_option maxRecDepth 10000

/-- What a line's reading hands back. -/
structure Sm where
  k : Int
  se : ByteArray
  va : Int
  wd : ByteArray
  wt : Int
  td : Bool
  ti : Nat
  c : Int
def illS (c : Int) : Sm := ⟨0, ByteArray.empty, 0, ByteArray.empty, 0, false, 0, c⟩
noncomputable def ansS (nm wh kd : ByteArray) (r : Pt) : Sm :=
  if kndV kd = 0 then illS 9 else
  if whB (kndV kd) wh = false then illS 3 else
  if wtB (kndV kd) r.rd r.rt = false then illS 10 else
  ⟨kndV kd, serW nm r.tg, whV (kndV kd) wh, whW (kndV kd) wh, wtV (kndV kd) r.rd r.rt, r.td, r.ti, 0⟩
def LnR (t : ByteArray) (s : Sm) : Prop := (fitB t = false ∧ s = illS 2) ∨ (fitB t = true ∧ ((∃ nm wh kd ps r, LP t nm wh kd ps ∧ more 0 pt0 ps = some r ∧ serW nm r.tg ≠ ByteArray.empty ∧ s = ansS nm wh kd r) ∨ ((∀ nm wh kd ps r, LP t nm wh kd ps → more 0 pt0 ps = some r → serW nm r.tg = ByteArray.empty) ∧ s = illS 3)))
theorem LnR.one {t : ByteArray} {s s' : Sm} (h : LnR t s) (k : LnR t s') : s = s' := by
  rcases h with ⟨h1, rfl⟩ | ⟨h1, h⟩
  · rcases k with ⟨_, rfl⟩ | ⟨k1, _⟩
    · rfl
    · rw [h1] at k1; cases k1
  · rcases k with ⟨k1, _⟩ | ⟨_, k⟩
    · rw [h1] at k1; cases k1
    · rcases h with ⟨nm, wh, kd, ps, r, a1, a2, a3, rfl⟩ | ⟨a, rfl⟩
      · rcases k with ⟨nm', wh', kd', ps', r', b1, b2, b3, rfl⟩ | ⟨b, rfl⟩
        · obtain ⟨rfl, rfl, rfl, rfl⟩ := a1.one b1
          rw [a2] at b2; cases b2; rfl
        · exact absurd (b _ _ _ _ _ a1 a2) a3
      · rcases k with ⟨nm', wh', kd', ps', r', b1, b2, b3, rfl⟩ | ⟨b, rfl⟩
        · exact absurd (a _ _ _ _ _ b1 b2) b3
        · rfl
def smpL (s : Sm) : Value := .agg #[.int .i64 s.k, .string s.se, .int .i64 s.va, .string s.wd, .int .u64 s.wt, .bool s.td, .int .i64 s.ti]
def outL (s : Sm) : Value := .agg #[.int .i64 s.k, .string s.se, .int .i64 s.va, .string s.wd, .int .u64 s.wt, .bool s.td, .int .i64 s.ti, .int .i64 s.c]
theorem ne_empty {x : ByteArray} (h : x ≠ ByteArray.empty) : x.toList.isEmpty = false := by
  rw [ByteArray.toList_eq]
  cases e : x.data.toList with
  | nil => exact absurd (toL_inj (show toL x = toL ByteArray.empty from e)) h
  | cons a b => rfl
theorem bel7 {B : Nat} {w w' : World} (h : Below B w w') {r : Nat} (hr : B ≤ r) (v0 v1 v2 v3 v4 v5 v6 : Value) : Below B w (((((((w'.setCell ⟨r, 0, none⟩ v0).setCell ⟨r, 1, none⟩ v1).setCell ⟨r, 2, none⟩ v2).setCell ⟨r, 3, none⟩ v3).setCell ⟨r, 4, none⟩ v4).setCell ⟨r, 5, none⟩ v5).setCell ⟨r, 6, none⟩ v6) := (((((((h.setCell (p := ⟨r, 0, none⟩) hr v0).setCell (p := ⟨r, 1, none⟩) hr v1).setCell (p := ⟨r, 2, none⟩) hr v2).setCell (p := ⟨r, 3, none⟩) hr v3).setCell (p := ⟨r, 4, none⟩) hr v4).setCell (p := ⟨r, 5, none⟩) hr v5).setCell (p := ⟨r, 6, none⟩) hr v6)
theorem cell7 {w : World} {r : Nat} {T : TypeId} {u0 u1 u2 u3 u4 u5 u6 : Value} (h : w.heap[r]? = some (.cells #[u0, u1, u2, u3, u4, u5, u6] T (0, 0))) :
    w.cell? ⟨r, 0, none⟩ = some u0 ∧ w.cell? ⟨r, 1, none⟩ = some u1 ∧ w.cell? ⟨r, 2, none⟩ = some u2 ∧ w.cell? ⟨r, 3, none⟩ = some u3 ∧ w.cell? ⟨r, 4, none⟩ = some u4 ∧ w.cell? ⟨r, 5, none⟩ = some u5 ∧ w.cell? ⟨r, 6, none⟩ = some u6 :=
  ⟨by rw [cell_of_row w r 0 _ _ (0, 0) h]; rfl, by rw [cell_of_row w r 1 _ _ (0, 0) h]; rfl, by rw [cell_of_row w r 2 _ _ (0, 0) h]; rfl, by rw [cell_of_row w r 3 _ _ (0, 0) h]; rfl, by rw [cell_of_row w r 4 _ _ (0, 0) h]; rfl, by rw [cell_of_row w r 5 _ _ (0, 0) h]; rfl, by rw [cell_of_row w r 6 _ _ (0, 0) h]; rfl⟩
theorem froz7 {w : World} {r : Nat} {T : TypeId} {cs : Array Value} (h : w.heap[r]? = some (.cells cs T (0, 0))) :
    w.frozen? ⟨r, 0, none⟩ = false ∧ w.frozen? ⟨r, 1, none⟩ = false ∧ w.frozen? ⟨r, 2, none⟩ = false ∧ w.frozen? ⟨r, 3, none⟩ = false ∧ w.frozen? ⟨r, 4, none⟩ = false ∧ w.frozen? ⟨r, 5, none⟩ = false ∧ w.frozen? ⟨r, 6, none⟩ = false :=
  ⟨frozen_of_row w r 0 _ _ h, frozen_of_row w r 1 _ _ h, frozen_of_row w r 2 _ _ h, frozen_of_row w r 3 _ _ h, frozen_of_row w r 4 _ _ h, frozen_of_row w r 5 _ _ h, frozen_of_row w r 6 _ _ h⟩
set_option maxHeartbeats 1000000 in
theorem c_readLine {w : World} (t : ByteArray) (hz : t.size ≤ maxLen) (hG : LnG w) (hM : MX w) :
    Calls Tryz.prog 15 #[.string t] w fun e w' => ∃ s, e = .returned (.tuple #[smpL s, errV s.c]) ∧ LnR t s ∧ Below w.heap.size w w' := by
  have HM := hide hM
  have HG := hide hG
  clear hM hG
  cases hf : fitB t with
  | false =>
    have HR : Hid (LnR t (illS 2)) := (Or.inl ⟨hf, rfl⟩ : LnR t (illS 2))
    go_enter Tryz.func15, Tryz.ntmps15
    go_wp2_with (go_at_call 23; refine (c_textFits t hz _).mono ?_; rw [hf]; rintro e w1 ⟨rfl, hw⟩; obtain rfl := hw.symm)
    refine bodyPost_ret (v := .tuple #[.agg #[.int .i64 0, .string ⟨#[]⟩, .int .i64 0, .string ⟨#[]⟩, .int .u64 0, .bool false, .int .i64 0], .iface 55 (.agg #[.int .i64 2])]) (by simp [results, Tryz.results15, go_sem]) rfl ?_
    exact ⟨illS 2, rfl, HR.out, (Below.refl _ _).alloc (Nat.le_refl _) _⟩
  | true =>
    have hz2 : t.size ≤ 20000 := of_decide_eq_true hf
    go_enter Tryz.func15, Tryz.ntmps15
    go_wp2_with (go_at_call 23; refine (c_textFits t hz _).mono ?_; rw [hf]; rintro e w1 ⟨rfl, hw⟩; obtain rfl := hw.symm)
    obtain ⟨W0, hW0⟩ : ∃ W0, W0 = w.alloc (.cells #[.int .i64 0, .string ⟨#[]⟩, .int .i64 0, .string ⟨#[]⟩, .int .u64 0, .bool false, .int .i64 0] 24) := ⟨_, rfl⟩
    rw [← hW0]
    have HA0 : Hid (Below w.heap.size w W0 ∧ W0.heap[w.heap.size]? = some (.cells #[.int .i64 0, .string ⟨#[]⟩, .int .i64 0, .string ⟨#[]⟩, .int .u64 0, .bool false, .int .i64 0] 24 (0, 0)) ∧ W0.heap.size = w.heap.size + 1) := (by rw [hW0]; exact ⟨(Below.refl _ _).alloc (Nat.le_refl _) _, heap_alloc_new w _, World.size_alloc _ _⟩ : _ ∧ _ ∧ _)
    clear hW0
    refine (c_splitLine t hz2 (HG.out.past HA0.out.1) (HM.out.past HA0.out.1)).mono ?_
    rintro e w1 ⟨nm, wh, kd, r, ta, tc, b, he, hS, hu, hl, z1, z2, z3, z4, hb1, hT, hF⟩
    unfold linV at he
    subst he
    have HT := hide hT
    have HF := hide hF
    have HU := hide hu
    have HSt := hide hS
    have HB1 := hide hb1
    clear hT hF hu hS hb1
    go_wp2_with fail
    obtain ⟨W1, hW1⟩ : ∃ W1, W1 = w1.alloc (.cells #[.string nm, .string wh, .string kd, .bool r.rd, .string r.rt, .slice ta r.tg.length tc, .bool r.td, .int .i64 r.ti] 57) := ⟨_, rfl⟩
    rw [← hW1]
    have hlt1 : w.heap.size < w1.heap.size := by have := HA0.out.2.2; have := HB1.out.size; omega
    generalize hlb : w1.heap.size = lb
    have HS1 : Hid (W1.heap[w.heap.size]? = some (.cells #[.int .i64 0, .string ⟨#[]⟩, .int .i64 0, .string ⟨#[]⟩, .int .u64 0, .bool false, .int .i64 0] 24 (0, 0)) ∧ W1.heap[lb]? = some (.cells #[.string nm, .string wh, .string kd, .bool r.rd, .string r.rt, .slice ta r.tg.length tc, .bool r.td, .int .i64 r.ti] 57 (0, 0)) ∧ Below w.heap.size w W1 ∧ lb < W1.heap.size ∧ w.heap.size < W1.heap.size) := (by subst hlb; rw [hW1]; exact ⟨by rw [Below.heap_alloc _ _ _ hlt1, HB1.out.block _ (by have := HA0.out.2.2; omega)]; exact HA0.out.2.1, heap_alloc_new w1 _, (chain HA0.out.1 HB1.out).alloc (by omega) _, by rw [World.size_alloc]; omega, by rw [World.size_alloc]; omega⟩ : (W1.heap[w.heap.size]? = some (.cells #[.int .i64 0, .string ⟨#[]⟩, .int .i64 0, .string ⟨#[]⟩, .int .u64 0, .bool false, .int .i64 0] 24 (0, 0)) ∧ W1.heap[lb]? = some (.cells #[.string nm, .string wh, .string kd, .bool r.rd, .string r.rt, .slice ta r.tg.length tc, .bool r.td, .int .i64 r.ti] 57 (0, 0)) ∧ Below w.heap.size w W1 ∧ lb < W1.heap.size ∧ w.heap.size < W1.heap.size))
    have HSt1 : Hid (StrsAt W1 ta r.tg) := (by rw [hW1]; exact strs_past HSt.out ((Below.refl _ _).alloc (Nat.le_refl _) _) : StrsAt W1 ta r.tg)
    clear HA0 HB1 HSt hlt1 hlb hW1
    refine (c_i_seriesWith nm tc _ (by unfold maxLen; omega) rfl (by omega) (fun u hu => by have := HU.out u hu; unfold maxLen; omega) HSt1.out).mono ?_
    rintro e w2 ⟨rfl, hb2⟩
    have HS2 : Hid (w2.heap[w.heap.size]? = some (.cells #[.int .i64 0, .string ⟨#[]⟩, .int .i64 0, .string ⟨#[]⟩, .int .u64 0, .bool false, .int .i64 0] 24 (0, 0)) ∧ w2.heap[lb]? = some (.cells #[.string nm, .string wh, .string kd, .bool r.rd, .string r.rt, .slice ta r.tg.length tc, .bool r.td, .int .i64 r.ti] 57 (0, 0)) ∧ Below w.heap.size w w2 ∧ lb < w2.heap.size ∧ w.heap.size < w2.heap.size) := (⟨by rw [hb2.block _ HS1.out.2.2.2.2]; exact HS1.out.1, by rw [hb2.block _ HS1.out.2.2.2.1]; exact HS1.out.2.1, chain HS1.out.2.2.1 hb2, Nat.lt_of_lt_of_le HS1.out.2.2.2.1 hb2.size, Nat.lt_of_lt_of_le HS1.out.2.2.2.2 hb2.size⟩ : (w2.heap[w.heap.size]? = some (.cells #[.int .i64 0, .string ⟨#[]⟩, .int .i64 0, .string ⟨#[]⟩, .int .u64 0, .bool false, .int .i64 0] 24 (0, 0)) ∧ w2.heap[lb]? = some (.cells #[.string nm, .string wh, .string kd, .bool r.rd, .string r.rt, .slice ta r.tg.length tc, .bool r.td, .int .i64 r.ti] 57 (0, 0)) ∧ Below w.heap.size w w2 ∧ lb < w2.heap.size ∧ w.heap.size < w2.heap.size))
    clear hb2
    have hse : serW nm r.tg = ByteArray.empty ∨ serW nm r.tg ≠ ByteArray.empty := Classical.em _
    generalize hsq : serW nm r.tg = se at hse
    have HSq := hide hsq
    clear hsq HS1 HSt1 HU
    obtain ⟨r0, r1, r2, r3, r4, r5, r6⟩ := cell7 HS2.out.1
    obtain ⟨f0, f1, f2, f3, f4, f5, f6⟩ := froz7 HS2.out.1
    obtain ⟨q0, q1, q2, q3, q4, q5, q6, q7⟩ := cell8 HS2.out.2.1
    cases b with
    | false =>
      have HR : Hid (LnR t (illS 3)) := (Or.inr ⟨hf, Or.inr ⟨fun nm' wh' kd' ps' r' k1 k2 => (HF.out rfl _ _ _ _ _ k1 k2).elim, rfl⟩⟩ : LnR t (illS 3))
      go_wp2
      refine bodyPost_ret (v := .tuple #[.agg #[.int .i64 0, .string ⟨#[]⟩, .int .i64 0, .string ⟨#[]⟩, .int .u64 0, .bool false, .int .i64 0], .iface 55 (.agg #[.int .i64 3])]) (by simp [results, Tryz.results15, go_sem, r0, r1, r2, r3, r4, r5, r6]) rfl ?_
      exact ⟨illS 3, rfl, HR.out, bel7 HS2.out.2.2.1 (Nat.le_refl _) _ _ _ _ _ _ _⟩
    | true =>
      obtain ⟨ps, hP, hmo⟩ := HT.out rfl
      rcases hse with hse | hse
      · have HR : Hid (LnR t (illS 3)) := (Or.inr ⟨hf, Or.inr ⟨(fun nm' wh' kd' ps' r' k1 k2 => by obtain ⟨rfl, rfl, rfl, rfl⟩ := hP.one k1; rw [hmo] at k2; cases k2; rw [HSq.out, hse]), rfl⟩⟩ : LnR t (illS 3))
        clear HSq hmo
        subst hse
        go_wp2
        refine bodyPost_ret (v := .tuple #[.agg #[.int .i64 0, .string ⟨#[]⟩, .int .i64 0, .string ⟨#[]⟩, .int .u64 0, .bool false, .int .i64 0], .iface 55 (.agg #[.int .i64 3])]) (by simp [results, Tryz.results15, go_sem, r0, r1, r2, r3, r4, r5, r6]) rfl ?_
        exact ⟨illS 3, rfl, HR.out, bel7 HS2.out.2.2.1 (Nat.le_refl _) _ _ _ _ _ _ _⟩
      · have hi1 : se.toList.isEmpty = false := ne_empty hse
        have HR : Hid (∀ s, s = ansS nm wh kd r → LnR t s) := (fun s hs => Or.inr ⟨hf, Or.inl ⟨nm, wh, kd, ps, r, hP, hmo, by rw [HSq.out]; exact hse, hs⟩⟩ : ∀ s, s = ansS nm wh kd r → LnR t s)
        clear hP hmo HT HF
        have hkb := kndV_bd kd
        by_cases hk : kndV kd = 0
        · have HE : Hid (LnR t (illS 9)) := HR.out _ (by unfold ansS; rw [if_pos hk])
          have hkr : (decide (1 ≤ kndV kd) && decide (kndV kd ≤ 4)) = false := by rw [hk]; rfl
          go_wp2_with (first
            | (go_at_call 26; refine (c_kindOf kd (by omega) _).mono ?_; rintro e w' ⟨rfl, hw⟩; obtain rfl := hw.symm)
            | (go_at_call 27; refine (c_kindRightL _ _).mono ?_; (try rw [hkr]); rintro e w' ⟨rfl, hw⟩; obtain rfl := hw.symm))
          refine bodyPost_ret (v := .tuple #[.agg #[.int .i64 0, .string ⟨#[]⟩, .int .i64 0, .string ⟨#[]⟩, .int .u64 0, .bool false, .int .i64 0], .iface 55 (.agg #[.int .i64 9])]) (by simp [results, Tryz.results15, go_sem, r0, r1, r2, r3, r4, r5, r6]) rfl ?_
          exact ⟨illS 9, rfl, HE.out, bel7 HS2.out.2.2.1 (Nat.le_refl _) _ _ _ _ _ _ _⟩
        · have hkr : (decide (1 ≤ kndV kd) && decide (kndV kd ≤ 4)) = true := by rw [decide_eq_true (by omega : 1 ≤ kndV kd), decide_eq_true (by omega : kndV kd ≤ 4)]; rfl
          have HAn : Hid (ansS nm wh kd r = if whB (kndV kd) wh = false then illS 3 else if wtB (kndV kd) r.rd r.rt = false then illS 10 else ⟨kndV kd, se, whV (kndV kd) wh, whW (kndV kd) wh, wtV (kndV kd) r.rd r.rt, r.td, r.ti, 0⟩) := (by unfold ansS; rw [if_neg hk, HSq.out] : ansS nm wh kd r = _)
          generalize hkv : kndV kd = kv at hkb hk hkr HAn
          have HKv := hide hkv
          clear hkv
          go_wp2_with (first
            | (go_at_call 26; refine (c_kindOf kd (by omega) _).mono ?_; rw [HKv.out]; rintro e w' ⟨rfl, hw⟩; obtain rfl := hw.symm)
            | (go_at_call 27; refine (c_kindRightL _ _).mono ?_; rw [hkr]; rintro e w' ⟨rfl, hw⟩; obtain rfl := hw.symm))
          refine (c_whatOf kv wh (by omega) _).mono ?_
          rintro e w3 ⟨rfl, hb3⟩
          clear r0 r1 r2 r3 r4 r5 r6 f0 f1 f2 f3 f4 f5 f6 q0 q1 q2 q3 q4 q5 q6 q7
          have HS3 : Hid (w3.heap[w.heap.size]? = some (.cells #[.int .i64 0, .string ⟨#[]⟩, .int .i64 0, .string ⟨#[]⟩, .int .u64 0, .bool false, .int .i64 0] 24 (0, 0)) ∧ w3.heap[lb]? = some (.cells #[.string nm, .string wh, .string kd, .bool r.rd, .string r.rt, .slice ta r.tg.length tc, .bool r.td, .int .i64 r.ti] 57 (0, 0)) ∧ Below w.heap.size w w3 ∧ lb < w3.heap.size ∧ w.heap.size < w3.heap.size) := (⟨by rw [hb3.block _ HS2.out.2.2.2.2]; exact HS2.out.1, by rw [hb3.block _ HS2.out.2.2.2.1]; exact HS2.out.2.1, chain HS2.out.2.2.1 hb3, Nat.lt_of_lt_of_le HS2.out.2.2.2.1 hb3.size, Nat.lt_of_lt_of_le HS2.out.2.2.2.2 hb3.size⟩ : (w3.heap[w.heap.size]? = some (.cells #[.int .i64 0, .string ⟨#[]⟩, .int .i64 0, .string ⟨#[]⟩, .int .u64 0, .bool false, .int .i64 0] 24 (0, 0)) ∧ w3.heap[lb]? = some (.cells #[.string nm, .string wh, .string kd, .bool r.rd, .string r.rt, .slice ta r.tg.length tc, .bool r.td, .int .i64 r.ti] 57 (0, 0)) ∧ Below w.heap.size w w3 ∧ lb < w3.heap.size ∧ w.heap.size < w3.heap.size))
          clear hb3
          obtain ⟨r0, r1, r2, r3, r4, r5, r6⟩ := cell7 HS3.out.1
          obtain ⟨f0, f1, f2, f3, f4, f5, f6⟩ := froz7 HS3.out.1
          obtain ⟨q0, q1, q2, q3, q4, q5, q6, q7⟩ := cell8 HS3.out.2.1
          cases hwb : whB kv wh with
          | false =>
            have HE : Hid (LnR t (illS 3)) := HR.out _ (by rw [HAn.out, if_pos hwb])
            go_wp2
            refine bodyPost_ret (v := .tuple #[.agg #[.int .i64 0, .string ⟨#[]⟩, .int .i64 0, .string ⟨#[]⟩, .int .u64 0, .bool false, .int .i64 0], .iface 55 (.agg #[.int .i64 3])]) (by simp [results, Tryz.results15, go_sem, r0, r1, r2, r3, r4, r5, r6]) rfl ?_
            exact ⟨illS 3, rfl, HE.out, bel7 HS3.out.2.2.1 (Nat.le_refl _) _ _ _ _ _ _ _⟩
          | true =>
            go_wp2_with fail
            refine (c_weightFor kv nm wh kd r.rd r.rt (.slice ta r.tg.length tc) r.td r.ti (by omega) _).mono ?_
            rintro e w4 ⟨rfl, hb4⟩
            clear r0 r1 r2 r3 r4 r5 r6 f0 f1 f2 f3 f4 f5 f6 q0 q1 q2 q3 q4 q5 q6 q7
            have HS4 : Hid (w4.heap[w.heap.size]? = some (.cells #[.int .i64 0, .string ⟨#[]⟩, .int .i64 0, .string ⟨#[]⟩, .int .u64 0, .bool false, .int .i64 0] 24 (0, 0)) ∧ w4.heap[lb]? = some (.cells #[.string nm, .string wh, .string kd, .bool r.rd, .string r.rt, .slice ta r.tg.length tc, .bool r.td, .int .i64 r.ti] 57 (0, 0)) ∧ Below w.heap.size w w4 ∧ lb < w4.heap.size ∧ w.heap.size < w4.heap.size) := (⟨by rw [hb4.block _ HS3.out.2.2.2.2]; exact HS3.out.1, by rw [hb4.block _ HS3.out.2.2.2.1]; exact HS3.out.2.1, chain HS3.out.2.2.1 hb4, Nat.lt_of_lt_of_le HS3.out.2.2.2.1 hb4.size, Nat.lt_of_lt_of_le HS3.out.2.2.2.2 hb4.size⟩ : (w4.heap[w.heap.size]? = some (.cells #[.int .i64 0, .string ⟨#[]⟩, .int .i64 0, .string ⟨#[]⟩, .int .u64 0, .bool false, .int .i64 0] 24 (0, 0)) ∧ w4.heap[lb]? = some (.cells #[.string nm, .string wh, .string kd, .bool r.rd, .string r.rt, .slice ta r.tg.length tc, .bool r.td, .int .i64 r.ti] 57 (0, 0)) ∧ Below w.heap.size w w4 ∧ lb < w4.heap.size ∧ w.heap.size < w4.heap.size))
            clear hb4
            obtain ⟨r0, r1, r2, r3, r4, r5, r6⟩ := cell7 HS4.out.1
            obtain ⟨f0, f1, f2, f3, f4, f5, f6⟩ := froz7 HS4.out.1
            obtain ⟨q0, q1, q2, q3, q4, q5, q6, q7⟩ := cell8 HS4.out.2.1
            cases hwt : wtB kv r.rd r.rt with
            | false =>
              have HE : Hid (LnR t (illS 10)) := HR.out _ (by rw [HAn.out, if_neg (by rw [hwb]; simp), if_pos hwt])
              go_wp2
              refine bodyPost_ret (v := .tuple #[.agg #[.int .i64 0, .string ⟨#[]⟩, .int .i64 0, .string ⟨#[]⟩, .int .u64 0, .bool false, .int .i64 0], .iface 55 (.agg #[.int .i64 10])]) (by simp [results, Tryz.results15, go_sem, r0, r1, r2, r3, r4, r5, r6]) rfl ?_
              exact ⟨illS 10, rfl, HE.out, bel7 HS4.out.2.2.1 (Nat.le_refl _) _ _ _ _ _ _ _⟩
            | true =>
              have HE : Hid (LnR t ⟨kv, se, whV kv wh, whW kv wh, wtV kv r.rd r.rt, r.td, r.ti, 0⟩) := HR.out _ (by rw [HAn.out, if_neg (by rw [hwb]; simp), if_neg (by rw [hwt]; simp)])
              generalize whV kv wh = wv at HE
              generalize whW kv wh = ww at HE
              generalize wtV kv r.rd r.rt = wt at HE
              go_wp2
              refine bodyPost_ret (v := .tuple #[.agg #[.int .i64 kv, .string se, .int .i64 wv, .string ww, .int .u64 wt, .bool r.td, .int .i64 r.ti], .nilIface]) (by simp [results, Tryz.results15, go_sem, r0, r1, r2, r3, r4, r5, r6]) rfl ?_
              exact ⟨_, rfl, HE.out, bel7 HS4.out.2.2.1 (Nat.le_refl _) _ _ _ _ _ _ _⟩
end Go.Proofs.YtljngkjhhkccgaaGreatDoor
