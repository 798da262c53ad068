/-
  Of the model's lines: l06Kind, l06Time, l06Ill.
-/
import Derived.Test.YtnflhahnbdnaoaaGreatDoorLJ
import Derived.Test.YtnflhahnbdnaoaaGreatDoorLM
import Derived.Test.YtnflhahnbdnaoaaGreatDoorLD
namespace Go.Proofs.YtnflhahnbdnaoaaGreatDoor
set_option linter.unusedVariables false
set_option linter.unusedSimpArgs false
open Go.ChangeShapes Go.WideShapes Go.ChangeAt Go.RowKit Go.PlainAid
set_option maxRecDepth 10000

theorem str_is (t : ByteArray) (l : List UInt8) : (t.toList == l) = decide (toL t = l) := by
  rw [ByteArray.toList_eq]
  by_cases h : toL t = l
  · rw [decide_eq_true h]; have : t.data.toList = l := h; rw [this]; simp
  · rw [decide_eq_false h]
    cases e : (t.data.toList == l) with
    | false => rfl
    | true => exact absurd (eq_of_beq e) h
theorem c_l06Kind (t : ByteArray) (w : World) :
    Calls Tryz.prog 39 #[.string t] w fun e w' => e = .returned (.int .i64 (kndV t)) ∧ w' = w := by
  have h1 := str_is t [99]
  have h2 := str_is t [103]
  have h3 := str_is t [104]
  have h4 := str_is t [115]
  have HK : Hid (kndV t = if toL t = [99] then 1 else if toL t = [103] then 2 else if toL t = [104] then 3 else if toL t = [115] then 4 else 0) := (rfl : kndV t = _)
  by_cases k1 : toL t = [99]
  · rw [decide_eq_true k1] at h1
    go_enter Tryz.func39, Tryz.ntmps39
    go_wp2
    go_ret
    exact ⟨by rw [HK.out, if_pos k1]; rfl, rfl⟩
  rw [decide_eq_false k1] at h1
  by_cases k2 : toL t = [103]
  · rw [decide_eq_true k2] at h2
    go_enter Tryz.func39, Tryz.ntmps39
    go_wp2
    go_ret
    exact ⟨by rw [HK.out, if_neg k1, if_pos k2]; rfl, rfl⟩
  rw [decide_eq_false k2] at h2
  by_cases k3 : toL t = [104]
  · rw [decide_eq_true k3] at h3
    go_enter Tryz.func39, Tryz.ntmps39
    go_wp2
    go_ret
    exact ⟨by rw [HK.out, if_neg k1, if_neg k2, if_pos k3]; rfl, rfl⟩
  rw [decide_eq_false k3] at h3
  by_cases k4 : toL t = [115]
  · rw [decide_eq_true k4] at h4
    go_enter Tryz.func39, Tryz.ntmps39
    go_wp2
    go_ret
    exact ⟨by rw [HK.out, if_neg k1, if_neg k2, if_neg k3, if_pos k4]; rfl, rfl⟩
  rw [decide_eq_false k4] at h4
  go_enter Tryz.func39, Tryz.ntmps39
  go_wp2
  go_ret
  exact ⟨by rw [HK.out, if_neg k1, if_neg k2, if_neg k3, if_neg k4]; rfl, rfl⟩
theorem bt_get {u : ByteArray} {k : Nat} (hk : k < (toL u).length) : bt u k = (((toL u)[k]).toNat : Int) := by
  rw [bt_toL, List.getElem?_eq_getElem hk]; rfl
theorem allD_take (u : ByteArray) : ∀ k, k ≤ (toL u).length → (allD u k = true ↔ tlD ((toL u).take k))
  | 0, _ => ⟨fun _ x hx => by simp at hx, fun _ => rfl⟩
  | k + 1, h => by
    have ih := allD_take u k (by omega)
    have hk : k < (toL u).length := by omega
    unfold allD
    rw [Bool.and_eq_true, ih, List.take_succ_eq_append_getElem hk, bt_get hk]
    constructor
    · rintro ⟨h1, h2⟩ x hx
      rcases List.mem_append.1 hx with hx | hx
      · exact h1 x hx
      · rw [List.mem_singleton.1 hx]; have := isDig_t h2; omega
    · intro h1
      refine ⟨fun x hx => h1 x (List.mem_append_left _ hx), ?_⟩
      have := h1 _ (List.mem_append_right _ (List.mem_singleton.2 rfl))
      unfold isDig
      rw [decide_eq_true (by omega), decide_eq_true (by omega)]; rfl
theorem valD_take (u : ByteArray) : ∀ k, k ≤ (toL u).length → tlD ((toL u).take k) → valD u 0 k = (tlF 0 ((toL u).take k) : Nat)
  | 0, _, _ => rfl
  | k + 1, h, hd => by
    have hk : k < (toL u).length := by omega
    rw [List.take_succ_eq_append_getElem hk] at hd ⊢
    have ih := valD_take u k (by omega) (fun x hx => hd x (List.mem_append_left _ hx))
    have hx := hd _ (List.mem_append_right _ (List.mem_singleton.2 rfl))
    rw [tlF_snoc]
    unfold valD
    rw [ih, Nat.zero_add, bt_get hk]
    omega
theorem allD_iff (u : ByteArray) : allD u u.size = true ↔ tlD (toL u) := by
  have := allD_take u u.size (by rw [toL_len]; exact Nat.le_refl _)
  rwa [List.take_of_length_le (by rw [toL_len]; exact Nat.le_refl _)] at this
theorem valD_eq {u : ByteArray} (h : tlD (toL u)) : valD u 0 u.size = (tlF 0 (toL u) : Nat) := by
  have e : (toL u).take u.size = toL u := List.take_of_length_le (by rw [toL_len]; exact Nat.le_refl _)
  have := valD_take u u.size (by rw [toL_len]; exact Nat.le_refl _) (by rw [e]; exact h)
  rwa [e] at this
theorem timO_no {t : ByteArray} (h : ¬ ∃ n, TimP t n) : timO t = none := by
  cases e : timO t with
  | none => rfl
  | some n => exact absurd ⟨n, timO_iff.1 e⟩ h
theorem c_l06Ill (c : Int) (w : World) :
    Calls Tryz.prog 35 #[.int .i64 c] w fun e w' => e = .returned (outL (illS c)) ∧ Below w.heap.size w w' := by
  go_enter Tryz.func35, Tryz.ntmps35
  go_wp2
  refine bodyPost_ret (v := .agg #[.int .i64 0, .string ⟨#[]⟩, .int .i64 0, .string ⟨#[]⟩, .int .u64 0, .bool false, .int .i64 0, .int .i64 c]) (by simp [results, Tryz.results35, go_sem]) rfl ?_
  exact ⟨rfl, (Below.refl _ _).alloc (Nat.le_refl _) _⟩
set_option maxHeartbeats 1000000 in
theorem c_l06Time (t : ByteArray) (hz : t.size ≤ 100000) (w : World) :
    Calls Tryz.prog 64 #[.string t] w fun e w' => ∃ n, e = .returned (.tuple #[.int .i64 n, .bool (timO t).isSome]) ∧ (∀ m, timO t = some m → n = m) ∧ w' = w := by
  have hbt := get_bt t
  have HSp := hide (TimP.spec (t := t))
  by_cases h0 : t.size < 1
  · have h0i : (t.size : Int) < 1 := by omega
    have HE : Hid (timO t = none) := timO_no (fun h => by have := (HSp.out.1 h).1; omega)
    go_enter Tryz.func64, Tryz.ntmps64
    go_wp2
    go_ret2
    exact ⟨0, by rw [HE.out]; rfl, (fun m h => by rw [HE.out] at h; cases h), rfl⟩
  have h0i : ¬ (t.size : Int) < 1 := by omega
  by_cases h1 : 10 < t.size
  · have h1i : (10 : Int) < (t.size : Int) := by omega
    have HE : Hid (timO t = none) := timO_no (fun h => by have := (HSp.out.1 h).2.1; omega)
    go_enter Tryz.func64, Tryz.ntmps64
    go_wp2
    go_ret2
    exact ⟨0, by rw [HE.out]; rfl, (fun m h => by rw [HE.out] at h; cases h), rfl⟩
  have h1i : ¬ (10 : Int) < (t.size : Int) := by omega
  have h0j : (0 : Int) < (t.size : Int) := by omega
  by_cases h2 : 1 < t.size ∧ bt t 0 = 48
  · have h2i : (1 : Int) < (t.size : Int) := by omega
    have h2b := h2.2
    have HE : Hid (timO t = none) := timO_no (fun h => absurd h2.2 ((HSp.out.1 h).2.2.1 h2.1))
    go_enter Tryz.func64, Tryz.ntmps64
    go_wp2
    go_ret2
    exact ⟨0, by rw [HE.out]; rfl, (fun m h => by rw [HE.out] at h; cases h), rfl⟩
  have HV : Hid (timO t = if dgB t = true ∧ dgV t ≤ 1000000000 then some (dgV t).toNat else none) := (by
    by_cases hd : dgB t = true ∧ dgV t ≤ 1000000000
    · rw [if_pos hd]
      obtain ⟨d1, d2⟩ := hd
      unfold dgB at d1
      rw [Bool.and_eq_true] at d1
      have hal := (allD_iff t).1 d1.1
      unfold dgV at d2 ⊢
      rw [if_pos d1.1, valD_eq hal] at d2 ⊢
      have hs := HSp.out.2 ⟨by omega, by omega, fun hx hy => h2 ⟨hx, hy⟩, hal, by omega⟩
      obtain ⟨n, hn⟩ := hs
      rw [timO_iff.2 hn]
      have e := (dec_digs n).2.1
      rw [← hn.1] at e
      rw [e]; simp
    · rw [if_neg hd]
      refine timO_no (fun h => hd ?_)
      obtain ⟨s1, s2, s3, s4, s5⟩ := HSp.out.1 h
      have ha := (allD_iff t).2 s4
      refine ⟨?_, ?_⟩
      · unfold dgB; rw [ha, decide_eq_true (by omega : 0 < t.size)]; rfl
      · unfold dgV; rw [if_pos ha, valD_eq s4]; omega : timO t = _)
  have hnn : dgB t = true → 0 ≤ dgV t := fun hb => by
    unfold dgB at hb
    rw [Bool.and_eq_true] at hb
    unfold dgV
    rw [if_pos hb.1, valD_eq ((allD_iff t).1 hb.1)]; omega
  have HN := hide hnn
  clear hnn
  have hcase : (¬ (1 : Int) < (t.size : Int)) ∨ ((1 : Int) < (t.size : Int) ∧ ¬ bt t 0 = 48) := by
    by_cases hx : 1 < t.size
    · exact Or.inr ⟨by omega, fun hy => h2 ⟨hx, hy⟩⟩
    · exact Or.inl (by omega)
  have fin : ∀ b : Bool, b = (dgB t && decide (dgV t ≤ 1000000000)) → b = (timO t).isSome ∧ (∀ m, timO t = some m → dgV t = m) := fun b hb => by
    rw [HV.out]
    by_cases hd : dgB t = true ∧ dgV t ≤ 1000000000
    · rw [if_pos hd, hb, hd.1, decide_eq_true hd.2]
      exact ⟨rfl, fun m h => by cases h; have := HN.out hd.1; omega⟩
    · rw [if_neg hd, hb]
      refine ⟨?_, fun m h => by cases h⟩
      cases hg : dgB t with
      | false => rfl
      | true => rw [decide_eq_false (fun h => hd ⟨hg, h⟩)]; rfl
  have HF := hide fin
  clear fin HV HN HSp h2
  cases hg : dgB t with
  | false =>
    rcases hcase with hc | ⟨hc, hc2⟩
    all_goals
      go_enter Tryz.func64, Tryz.ntmps64
      go_wp2_with (go_at_call 66; refine (c_l01Digits t (by omega) _).mono ?_; rw [hg]; rintro e w1 ⟨rfl, hw⟩; obtain rfl := hw.symm)
      go_ret2
      exact ⟨dgV t, by rw [← (HF.out false (by rw [hg]; rfl)).1]; rfl, (HF.out false (by rw [hg]; rfl)).2, rfl⟩
  | true =>
    rcases hcase with hc | ⟨hc, hc2⟩
    all_goals
      go_enter Tryz.func64, Tryz.ntmps64
      go_wp2_with (go_at_call 66; refine (c_l01Digits t (by omega) _).mono ?_; rw [hg]; rintro e w1 ⟨rfl, hw⟩; obtain rfl := hw.symm)
      go_ret2
      exact ⟨dgV t, by rw [← (HF.out (decide (dgV t ≤ 1000000000)) (by rw [hg]; rfl)).1]; rfl, (HF.out (decide (dgV t ≤ 1000000000)) (by rw [hg]; rfl)).2, rfl⟩
end Go.Proofs.YtnflhahnbdnaoaaGreatDoor

/-
  l06More of the model.
-/
namespace Go.Proofs.YtnflhahnbdnaoaaGreatDoor
set_option linter.unusedVariables false
set_option linter.unusedSimpArgs false
open Go.ChangeShapes Go.WideShapes Go.ChangeAt Go.RowKit Go.PlainAid
set_option maxRecDepth 10000

theorem bel5L {B : Nat} {w w' : World} (h : Below B w w') {r : Nat} (hr : B ≤ r) (v0 v1 v2 v3 v4 : Value) : Below B w (((((w'.setCell ⟨r, 0, none⟩ v0).setCell ⟨r, 1, none⟩ v1).setCell ⟨r, 2, none⟩ v2).setCell ⟨r, 3, none⟩ v3).setCell ⟨r, 4, none⟩ v4) := (((((h.setCell (p := ⟨r, 0, none⟩) hr v0).setCell (p := ⟨r, 1, none⟩) hr v1).setCell (p := ⟨r, 2, none⟩) hr v2).setCell (p := ⟨r, 3, none⟩) hr v3).setCell (p := ⟨r, 4, none⟩) hr v4)
theorem strs_set5 {w' : World} {ta : Option Addr} {L : List ByteArray} {r : Nat} (h : StrsAt w' ta L) (hn : ∀ x, ta = some x → x.block ≠ r) (v0 v1 v2 v3 v4 : Value) : StrsAt (((((w'.setCell ⟨r, 0, none⟩ v0).setCell ⟨r, 1, none⟩ v1).setCell ⟨r, 2, none⟩ v2).setCell ⟨r, 3, none⟩ v3).setCell ⟨r, 4, none⟩ v4) ta L := strs_set (strs_set (strs_set (strs_set (strs_set (h) hn) hn) hn) hn) hn
theorem cell5L {w : World} {r : Nat} {T : TypeId} {u0 u1 u2 u3 u4 : Value} (h : w.heap[r]? = some (.cells #[u0, u1, u2, u3, u4] T (0, 0))) :
    w.cell? ⟨r, 0, none⟩ = some u0 ∧ w.cell? ⟨r, 1, none⟩ = some u1 ∧ w.cell? ⟨r, 2, none⟩ = some u2 ∧ w.cell? ⟨r, 3, none⟩ = some u3 ∧ w.cell? ⟨r, 4, none⟩ = some u4 :=
  ⟨by rw [cell_of_row w r 0 _ _ (0, 0) h]; rfl, by rw [cell_of_row w r 1 _ _ (0, 0) h]; rfl, by rw [cell_of_row w r 2 _ _ (0, 0) h]; rfl, by rw [cell_of_row w r 3 _ _ (0, 0) h]; rfl, by rw [cell_of_row w r 4 _ _ (0, 0) h]; rfl⟩
theorem froz5L {w : World} {r : Nat} {T : TypeId} {cs : Array Value} (h : w.heap[r]? = some (.cells cs T (0, 0))) :
    w.frozen? ⟨r, 0, none⟩ = false ∧ w.frozen? ⟨r, 1, none⟩ = false ∧ w.frozen? ⟨r, 2, none⟩ = false ∧ w.frozen? ⟨r, 3, none⟩ = false ∧ w.frozen? ⟨r, 4, none⟩ = false :=
  ⟨frozen_of_row w r 0 _ _ h, frozen_of_row w r 1 _ _ h, frozen_of_row w r 2 _ _ h, frozen_of_row w r 3 _ _ h, frozen_of_row w r 4 _ _ h⟩
/-- The model's rest in its box. -/
structure MS (w wr : World) (r : Pt) (ta : Option Addr) (tc : Nat) : Prop where
  res : wr.heap[w.heap.size]? = some (.cells #[.string ⟨#[]⟩, .bool false, .slice none 0 0, .bool false, .int .i64 0] 59 (0, 0))
  box : wr.heap[w.heap.size + 1]? = some (.cells #[.string r.rt, .bool r.rd, .slice ta r.tg.length tc, .bool r.td, .int .i64 r.ti] 59 (0, 0))
  tags : StrsAt wr ta r.tg
  tne : ∀ x, ta = some x → w.heap.size + 1 < x.block
  bel : Below w.heap.size w wr
theorem MS.lt {w wr : World} {r : Pt} {ta : Option Addr} {tc : Nat} (h : MS w wr r ta tc) : w.heap.size + 1 < wr.heap.size := by
  rcases Nat.lt_or_ge (w.heap.size + 1) wr.heap.size with h' | h'
  · exact h'
  · have := h.box; rw [Array.getElem?_eq_none h'] at this; cases this
theorem MS.past {w wr w2 : World} {r : Pt} {ta : Option Addr} {tc : Nat} (h : MS w wr r ta tc) (hb : Below wr.heap.size wr w2) : MS w w2 r ta tc :=
  ⟨by rw [hb.block _ (by have := h.lt; omega)]; exact h.res, by rw [hb.block _ h.lt]; exact h.box, strs_past h.tags hb, h.tne, chain h.bel hb⟩
theorem MS.set {w wr : World} {r r' : Pt} {ta tb : Option Addr} {tc td i : Nat} {v : Value} (h : MS w wr r ta tc) (hb : (wr.setCell ⟨w.heap.size + 1, i, none⟩ v).heap[w.heap.size + 1]? = some (.cells #[.string r'.rt, .bool r'.rd, .slice tb r'.tg.length td, .bool r'.td, .int .i64 r'.ti] 59 (0, 0))) (hT : StrsAt wr tb r'.tg) (hn : ∀ x, tb = some x → w.heap.size + 1 < x.block) : MS w (wr.setCell ⟨w.heap.size + 1, i, none⟩ v) r' tb td :=
  ⟨by rw [Below.heap_setCell _ _ _ _ (by show w.heap.size ≠ w.heap.size + 1; omega)]; exact h.res, hb, strs_set hT (fun x e => by have := hn x e; omega), hn, h.bel.setCell (by show w.heap.size ≤ w.heap.size + 1; omega) _⟩
theorem MS.fin {w wr : World} {r : Pt} {ta : Option Addr} {tc : Nat} (h : MS w wr r ta tc) (v0 v1 v2 v3 v4 : Value) : StrsAt (((((wr.setCell ⟨w.heap.size, 0, none⟩ v0).setCell ⟨w.heap.size, 1, none⟩ v1).setCell ⟨w.heap.size, 2, none⟩ v2).setCell ⟨w.heap.size, 3, none⟩ v3).setCell ⟨w.heap.size, 4, none⟩ v4) ta r.tg ∧ Below w.heap.size w (((((wr.setCell ⟨w.heap.size, 0, none⟩ v0).setCell ⟨w.heap.size, 1, none⟩ v1).setCell ⟨w.heap.size, 2, none⟩ v2).setCell ⟨w.heap.size, 3, none⟩ v3).setCell ⟨w.heap.size, 4, none⟩ v4) :=
  ⟨strs_set5 h.tags (fun x e => by have := h.tne x e; omega) _ _ _ _ _, bel5L h.bel (Nat.le_refl _) _ _ _ _ _⟩
theorem mark_no {y : ByteArray} (h : markN y = 0) (h0 : ¬ y.size = 0) : ¬ bt y 0 = 64 ∧ ¬ bt y 0 = 35 ∧ ¬ bt y 0 = 84 := by
  unfold markN at h
  rw [if_neg h0] at h
  refine ⟨fun e => ?_, fun e => ?_, fun e => ?_⟩
  · rw [if_pos e] at h; omega
  · rw [if_neg (by omega), if_pos e] at h; omega
  · rw [if_neg (by omega), if_neg (by omega), if_pos e] at h; omega
def MoO (w : World) (L : List ByteArray) (e : Ending) (w' : World) : Prop := ∃ r ta tc, e = .returned (.tuple #[.agg #[.string r.rt, .bool r.rd, .slice ta r.tg.length tc, .bool r.td, .int .i64 r.ti], .bool (moreS 0 pt0 L).isSome]) ∧ (∀ r', moreS 0 pt0 L = some r' → r' = r) ∧ StrsAt w' ta r.tg ∧ (∀ u ∈ r.tg, u.size ≤ 20000) ∧ r.tg.length ≤ 20001 ∧ r.rt.size ≤ 20000 ∧ Below w.heap.size w w'
set_option maxHeartbeats 2000000 in
theorem c_l06More {w : World} {ao : Option Addr} {L : List ByteArray} (c n : Nat) (hn : L.length = n) (hl : n ≤ 20100) (hu : ∀ u ∈ L, u.size ≤ 20000) (hA : StrsAt w ao L) :
    Calls Tryz.prog 38 #[.slice ao n c] w (MoO w L) := by
  have HA := hide hA
  have HN := hide hn
  have HU := hide hu
  clear hA hn hu
  go_enter Tryz.func38, Tryz.ntmps38
  go_wp2
  go_loopw [5, 6] (fun la i wr => ∃ (k a : Nat) (r : Pt) (ta : Option Addr) (tc : Nat), k ≤ n ∧ a ≤ 3 ∧ i = .int .i64 k ∧ la = .int .i64 a ∧ Hid (moreS 0 pt0 L = moreS a r (L.drop k)) ∧ Hid (MS w wr r ta tc) ∧ Hid ((∀ u ∈ r.tg, u.size ≤ 20000) ∧ r.tg.length ≤ 20001 ∧ r.rt.size ≤ 20000)) (fun la i wr => n - (Go.RowKit.intOf i).toNat)
  case atStart =>
    refine ⟨0, 0, pt0, none, 0, Nat.zero_le _, by omega, rfl, rfl, rfl, ?_, ⟨(fun u hu => by cases hu), (by show 0 ≤ 20001; omega), (by show 0 ≤ 20000; omega)⟩⟩
    have e1 := heap_alloc_new w (.cells #[.string ⟨#[]⟩, .bool false, .slice none 0 0, .bool false, .int .i64 0] 59)
    have e2 := heap_alloc_new (w.alloc (.cells #[.string ⟨#[]⟩, .bool false, .slice none 0 0, .bool false, .int .i64 0] 59)) (.cells #[.string ⟨#[]⟩, .bool false, .slice none 0 0, .bool false, .int .i64 0] 59)
    rw [World.size_alloc] at e2
    exact ⟨by rw [Below.heap_alloc _ _ _ (by rw [World.size_alloc]; omega)]; exact e1, e2, (fun h => absurd h (Nat.lt_irrefl 0)), (fun x e => by cases e), ((Below.refl _ _).alloc (Nat.le_refl _) _).alloc (by rw [World.size_alloc]; omega) _⟩
  case round =>
    obtain ⟨k, a, r, ta, tc, hk, ha, rfl, rfl, HI, HT, HS⟩ := hrel
    by_cases hkn : k < n
    · obtain ⟨b, off, e, hcell⟩ := strs_past HA.out HT.out.bel (by have := HN.out; omega)
      obtain ⟨y, hy⟩ : ∃ y, L[k]? = some y := ⟨L[k]'(by have := HN.out; omega), List.getElem?_eq_getElem _⟩
      subst e
      have hc0 := hcell k y hy
      have HY := hide (drop_at hy)
      have hys := HU.out y (List.mem_of_getElem? hy)
      clear hcell hy
      have hbt := get_bt y
      have hmb := markN_bd y
      obtain ⟨r0, r1, r2, r3, r4⟩ := cell5L HT.out.res
      obtain ⟨f0, f1, f2, f3, f4⟩ := froz5L HT.out.res
      obtain ⟨q0, q1, q2, q3, q4⟩ := cell5L HT.out.box
      obtain ⟨g0, g1, g2, g3, g4⟩ := froz5L HT.out.box
      by_cases hm : markN y ≤ a
      · have HE : Hid (moreS 0 pt0 L = none) := (by rw [HI.out, HY.out, moreS_no hm] : moreS 0 pt0 L = none)
        by_cases h0 : y.size = 0
        · have e : y = ByteArray.empty := toL_inj (List.eq_nil_of_length_eq_zero (by rw [toL_len]; exact h0))
          subst e
          go_wp2
          refine bodyPost_ret (v := .tuple #[.agg #[.string r.rt, .bool r.rd, .slice ta r.tg.length tc, .bool r.td, .int .i64 r.ti], .bool false]) (by simp [results, Tryz.results38, go_sem, r0, r1, r2, r3, r4]) rfl ?_
          unfold MoO
          exact ⟨r, ta, tc, by rw [HE.out]; rfl, (fun r' h => by rw [HE.out] at h; cases h), (HT.out.fin _ _ _ _ _).1, HS.out.1, HS.out.2.1, HS.out.2.2, (HT.out.fin _ _ _ _ _).2⟩
        · have hi1 : y.toList.isEmpty = false := ne_empty (fun e => h0 (by rw [e]; rfl))
          have hy0i : (0 : Int) < (y.size : Int) := by omega
          have hml : markN y = 0 ∨ markN y = 1 ∨ markN y = 2 ∨ markN y = 3 := by omega
          rcases hml with h4 | h1 | h2 | h3
          · obtain ⟨n1, n2, n3⟩ := mark_no h4 h0
            go_wp2
            refine bodyPost_ret (v := .tuple #[.agg #[.string r.rt, .bool r.rd, .slice ta r.tg.length tc, .bool r.td, .int .i64 r.ti], .bool false]) (by simp [results, Tryz.results38, go_sem, r0, r1, r2, r3, r4]) rfl ?_
            unfold MoO
            exact ⟨r, ta, tc, by rw [HE.out]; rfl, (fun r' h => by rw [HE.out] at h; cases h), (HT.out.fin _ _ _ _ _).1, HS.out.1, HS.out.2.1, HS.out.2.2, (HT.out.fin _ _ _ _ _).2⟩
          · have hb0 := (mark_is h1 (by omega)).2.1 rfl
            have hai : ¬ (a : Int) < 1 := by omega
            go_wp2
            refine bodyPost_ret (v := .tuple #[.agg #[.string r.rt, .bool r.rd, .slice ta r.tg.length tc, .bool r.td, .int .i64 r.ti], .bool false]) (by simp [results, Tryz.results38, go_sem, r0, r1, r2, r3, r4]) rfl ?_
            unfold MoO
            exact ⟨r, ta, tc, by rw [HE.out]; rfl, (fun r' h => by rw [HE.out] at h; cases h), (HT.out.fin _ _ _ _ _).1, HS.out.1, HS.out.2.1, HS.out.2.2, (HT.out.fin _ _ _ _ _).2⟩
          · have hb0 := (mark_is h2 (by omega)).2.2.1 rfl
            have hai : ¬ (a : Int) < 2 := by omega
            go_wp2
            refine bodyPost_ret (v := .tuple #[.agg #[.string r.rt, .bool r.rd, .slice ta r.tg.length tc, .bool r.td, .int .i64 r.ti], .bool false]) (by simp [results, Tryz.results38, go_sem, r0, r1, r2, r3, r4]) rfl ?_
            unfold MoO
            exact ⟨r, ta, tc, by rw [HE.out]; rfl, (fun r' h => by rw [HE.out] at h; cases h), (HT.out.fin _ _ _ _ _).1, HS.out.1, HS.out.2.1, HS.out.2.2, (HT.out.fin _ _ _ _ _).2⟩
          · have hb0 := (mark_is h3 (by omega)).2.2.2 rfl
            have hai : ¬ (a : Int) < 3 := by omega
            go_wp2
            refine bodyPost_ret (v := .tuple #[.agg #[.string r.rt, .bool r.rd, .slice ta r.tg.length tc, .bool r.td, .int .i64 r.ti], .bool false]) (by simp [results, Tryz.results38, go_sem, r0, r1, r2, r3, r4]) rfl ?_
            unfold MoO
            exact ⟨r, ta, tc, by rw [HE.out]; rfl, (fun r' h => by rw [HE.out] at h; cases h), (HT.out.fin _ _ _ _ _).1, HS.out.1, HS.out.2.1, HS.out.2.2, (HT.out.fin _ _ _ _ _).2⟩
      · obtain ⟨hy0, p1, p2, p3⟩ := mark_is (y := y) rfl (by omega)
        have hi1 : y.toList.isEmpty = false := ne_empty (fun e => by rw [e] at hy0; exact absurd hy0 (Nat.lt_irrefl 0))
        have hy0i : (0 : Int) < (y.size : Int) := by omega
        have htz := tl1_size y
        have hml : markN y = 1 ∨ markN y = 2 ∨ markN y = 3 := by omega
        rcases hml with h1 | h2 | h3
        · have hb0 := p1 h1
          have hai : (a : Int) < 1 := by omega
          have HX : Hid (moreS 0 pt0 L = moreS 1 { r with rd := true, rt := tl1 y } (L.drop (k + 1))) := (by rw [HI.out, HY.out, moreS_step hm (step1 h1) (fun e => by omega), h1] : moreS 0 pt0 L = moreS 1 { r with rd := true, rt := tl1 y } (L.drop (k + 1)))
          have HM1 := hide (HT.out.set (r' := { r with rd := true }) (tb := ta) (td := tc) (i := 1) (v := .bool true) (heap_setCell_same wr (w.heap.size + 1) 1 _ _ (.bool true) HT.out.box) HT.out.tags HT.out.tne)
          have HM2 := hide (HM1.out.set (r' := { r with rd := true, rt := tl1 y }) (tb := ta) (td := tc) (i := 0) (v := .string (tl1 y)) (heap_setCell_same _ (w.heap.size + 1) 0 _ _ (.string (tl1 y)) HM1.out.box) HM1.out.tags HM1.out.tne)
          go_wp2
          go_roundw
          case rel => exact ⟨k + 1, 1, _, ta, tc, by omega, by omega, by go_num, rfl, HX.out, HM2.out, HS.out.1, HS.out.2.1, (by show (tl1 y).size ≤ 20000; omega)⟩
          case measure => simp [Go.RowKit.intOf]; omega
        · have hb0 := p2 h2
          have hai : (a : Int) < 2 := by omega
          have HZ := hide (splL_size (tl1 y))
          go_wp2_with fail
          refine (c_l01Split (tl1 y) 44 (by omega) ⟨by omega, by omega⟩ _).mono ?_
          rintro e w2 ⟨g, cap, rfl, hg, hS, hb2⟩
          have HT2 := hide (HT.out.past hb2)
          have hlt2 := HT.out.lt
          have HS2 : Hid (StrsAt w2 (some ⟨g, 0, none⟩) (splL (tl1 y) 44)) := (fun _ => ⟨g, 0, rfl, fun j u hj => by rw [Nat.zero_add]; exact hS j u hj⟩ : StrsAt w2 (some ⟨g, 0, none⟩) (splL (tl1 y) 44))
          have HM3 := hide (HT2.out.set (r' := { r with tg := splL (tl1 y) 44 }) (tb := some ⟨g, 0, none⟩) (td := cap) (i := 2) (v := .slice (some ⟨g, 0, none⟩) (splL (tl1 y) 44).length cap) (heap_setCell_same w2 (w.heap.size + 1) 2 _ _ (.slice (some ⟨g, 0, none⟩) (splL (tl1 y) 44).length cap) HT2.out.box) HS2.out (fun x e => by cases e; show w.heap.size + 1 < g; omega))
          clear hS hb2 r0 r1 r2 r3 r4 f0 f1 f2 f3 f4 q0 q1 q2 q3 q4 g0 g1 g2 g3 g4 hc0
          obtain ⟨q0, q1, q2, q3, q4⟩ := cell5L HT2.out.box
          obtain ⟨g0, g1, g2, g3, g4⟩ := froz5L HT2.out.box
          go_wp2_with fail
          generalize (w2.setCell ⟨w.heap.size + 1, 2, none⟩ (.slice (some ⟨g, 0, none⟩) (splL (tl1 y) 44).length cap)) = w3 at HM3 ⊢
          clear q0 q1 q2 q3 q4 g0 g1 g2 g3 g4 HT2 HS2
          refine (c_s_l06Tags cap _ rfl (by have := HZ.out.2; show (splL (tl1 y) 44).length ≤ 1048576; omega) (fun u hu => by have := HZ.out.1 u hu; unfold maxLen; omega) HM3.out.tags).mono ?_
          rintro e w4 ⟨rfl, hw⟩
          obtain rfl := hw.symm
          obtain ⟨r0, r1, r2, r3, r4⟩ := cell5L HM3.out.res
          obtain ⟨f0, f1, f2, f3, f4⟩ := froz5L HM3.out.res
          obtain ⟨q0, q1, q2, q3, q4⟩ := cell5L HM3.out.box
          cases hta : (splL (tl1 y) 44).all tagB with
          | false =>
            have HE : Hid (moreS 0 pt0 L = none) := (by rw [HI.out, HY.out, moreS_bad (step2 h2) h2 (by rw [hta]; simp)] : moreS 0 pt0 L = none)
            go_wp2
            refine bodyPost_ret (v := .tuple #[.agg #[.string r.rt, .bool r.rd, .slice (some ⟨g, 0, none⟩) (splL (tl1 y) 44).length cap, .bool r.td, .int .i64 r.ti], .bool false]) (by simp [results, Tryz.results38, go_sem, r0, r1, r2, r3, r4]) rfl ?_
            unfold MoO
            exact ⟨{ r with tg := splL (tl1 y) 44 }, some ⟨g, 0, none⟩, cap, by rw [HE.out]; rfl, (fun r' h => by rw [HE.out] at h; cases h), (HM3.out.fin _ _ _ _ _).1, (fun u hu => by have := HZ.out.1 u hu; omega), (by have := HZ.out.2; show (splL (tl1 y) 44).length ≤ 20001; omega), HS.out.2.2, (HM3.out.fin _ _ _ _ _).2⟩
          | true =>
            have HX : Hid (moreS 0 pt0 L = moreS 2 { r with tg := splL (tl1 y) 44 } (L.drop (k + 1))) := (by rw [HI.out, HY.out, moreS_step hm (step2 h2) (fun _ => hta), h2] : moreS 0 pt0 L = moreS 2 { r with tg := splL (tl1 y) 44 } (L.drop (k + 1)))
            go_wp2
            go_roundw
            case rel => exact ⟨k + 1, 2, _, _, cap, by omega, by omega, by go_num, rfl, HX.out, HM3.out, (fun u hu => by have := HZ.out.1 u hu; omega), (by have := HZ.out.2; show (splL (tl1 y) 44).length ≤ 20001; omega), HS.out.2.2⟩
            case measure => simp [Go.RowKit.intOf]; omega
        · have hb0 := p3 h3
          have hai : (a : Int) < 3 := by omega
          go_wp2_with fail
          refine (c_l06Time (tl1 y) (by omega) _).mono ?_
          rintro e w2 ⟨nn, rfl, hnn, hw⟩
          obtain rfl := hw.symm
          cases ht : timO (tl1 y) with
          | none =>
            have HE : Hid (moreS 0 pt0 L = none) := (by rw [HI.out, HY.out, moreS_ill (by rw [step3 h3, ht]; rfl)] : moreS 0 pt0 L = none)
            go_wp2
            refine bodyPost_ret (v := .tuple #[.agg #[.string r.rt, .bool r.rd, .slice ta r.tg.length tc, .bool r.td, .int .i64 r.ti], .bool false]) (by simp [results, Tryz.results38, go_sem, r0, r1, r2, r3, r4]) rfl ?_
            unfold MoO
            exact ⟨r, ta, tc, by rw [HE.out]; rfl, (fun r' h => by rw [HE.out] at h; cases h), (HT.out.fin _ _ _ _ _).1, HS.out.1, HS.out.2.1, HS.out.2.2, (HT.out.fin _ _ _ _ _).2⟩
          | some m =>
            obtain rfl := hnn m ht
            have HX : Hid (moreS 0 pt0 L = moreS 3 { r with td := true, ti := m } (L.drop (k + 1))) := (by rw [HI.out, HY.out, moreS_step hm (r' := { r with td := true, ti := m }) (by rw [step3 h3, ht]; rfl) (fun e => by omega), h3] : moreS 0 pt0 L = moreS 3 { r with td := true, ti := m } (L.drop (k + 1)))
            have HM1 := hide (HT.out.set (r' := { r with td := true }) (tb := ta) (td := tc) (i := 3) (v := .bool true) (heap_setCell_same wr (w.heap.size + 1) 3 _ _ (.bool true) HT.out.box) HT.out.tags HT.out.tne)
            have HM2 := hide (HM1.out.set (r' := { r with td := true, ti := m }) (tb := ta) (td := tc) (i := 4) (v := .int .i64 m) (heap_setCell_same _ (w.heap.size + 1) 4 _ _ (.int .i64 m) HM1.out.box) HM1.out.tags HM1.out.tne)
            go_wp2
            go_roundw
            case rel => exact ⟨k + 1, 3, _, ta, tc, by omega, by omega, by go_num, rfl, HX.out, HM2.out, HS.out⟩
            case measure => simp [Go.RowKit.intOf]; omega
    · have HE : Hid (moreS 0 pt0 L = some r) := (by rw [HI.out, List.drop_eq_nil_of_le (by have := HN.out; omega)]; unfold moreS; rfl : moreS 0 pt0 L = some r)
      obtain ⟨r0, r1, r2, r3, r4⟩ := cell5L HT.out.res
      obtain ⟨f0, f1, f2, f3, f4⟩ := froz5L HT.out.res
      obtain ⟨q0, q1, q2, q3, q4⟩ := cell5L HT.out.box
      obtain ⟨g0, g1, g2, g3, g4⟩ := froz5L HT.out.box
      go_wp2
      refine bodyPost_ret (v := .tuple #[.agg #[.string r.rt, .bool r.rd, .slice ta r.tg.length tc, .bool r.td, .int .i64 r.ti], .bool true]) (by simp [results, Tryz.results38, go_sem, r0, r1, r2, r3, r4]) rfl ?_
      unfold MoO
      exact ⟨r, ta, tc, by rw [HE.out]; rfl, (fun r' h => by rw [HE.out] at h; cases h; rfl), (HT.out.fin _ _ _ _ _).1, HS.out.1, HS.out.2.1, HS.out.2.2, (HT.out.fin _ _ _ _ _).2⟩
end Go.Proofs.YtnflhahnbdnaoaaGreatDoor

/-
  l06What and LineRead of the model.
-/
namespace Go.Proofs.YtnflhahnbdnaoaaGreatDoor
set_option linter.unusedVariables false
set_option linter.unusedSimpArgs false
open Go.ChangeShapes Go.WideShapes Go.ChangeAt Go.RowKit Go.PlainAid
set_option maxRecDepth 10000

/-- A sample in its box. -/
def SmB (w : World) (b : Nat) (k : Int) (se : ByteArray) (va : Int) (wd : ByteArray) (wt : Int) (td : Bool) (ti : Int) : Prop := w.heap[b]? = some (.cells #[.int .i64 k, .string se, .int .i64 va, .string wd, .int .u64 wt, .bool td, .int .i64 ti] 27 (0, 0))
set_option maxHeartbeats 1000000 in
theorem c_l06What {w : World} (b : Nat) {k : Int} {se : ByteArray} {wt : Int} {td : Bool} {ti : Int} (t : ByteArray) (hz : t.size ≤ 100000) (hB : SmB w b k se 0 ByteArray.empty wt td ti) :
    Calls Tryz.prog 41 #[.pointer (some ⟨b, 0, none⟩), .string t] w fun e w' => ∃ c, e = .returned (.int .i64 c) ∧ (c = 0 ↔ whB k t = true) ∧ (whB k t = true → SmB w' b k se (whV k t) (whW k t) wt td ti) ∧ (∀ x, x ≠ b → x < w.heap.size → w'.heap[x]? = w.heap[x]?) ∧ Below b w w' := by
  have hm : t.size ≤ maxLen := by unfold maxLen; omega
  have hb : b < w.heap.size := by
    rcases Nat.lt_or_ge b w.heap.size with h' | h'
    · exact h'
    · unfold SmB at hB; rw [Array.getElem?_eq_none h'] at hB; cases hB
  have HB := hide hB
  unfold SmB at hB
  obtain ⟨q0, q1, q2, q3, q4, q5, q6⟩ := cell7 hB
  obtain ⟨g0, g1, g2, g3, g4, g5, g6⟩ := froz7 hB
  by_cases h : k = 4
  · have H1 : Hid (whV k t = 0 ∧ whW k t = t ∧ whB k t = tagB t) := (by unfold whV whW whB; rw [if_pos h, if_pos h, if_pos h]; exact ⟨rfl, rfl, rfl⟩ : whV k t = 0 ∧ whW k t = t ∧ whB k t = tagB t)
    have H2 := hide (heap_setCell_same w b 3 _ _ (.string t) hB)
    clear hB
    cases ht : tagB t with
    | false =>
      go_enter Tryz.func41, Tryz.ntmps41
      go_wp2_with (go_at_call 29; refine (c_s_TagRight _ _ hm).mono ?_; rw [ht]; rintro e w1 ⟨rfl, hw⟩; obtain rfl := hw.symm)
      go_ret
      refine ⟨3, rfl, ?_, ?_, (fun x hx _ => Below.heap_setCell w ⟨b, 3, none⟩ _ x hx), (Below.refl b w).setCell (p := ⟨b, 3, none⟩) (Nat.le_refl _) _⟩
      · rw [H1.out.2.2, ht]; simp
      · rw [H1.out.2.2, ht]; simp
    | true =>
      go_enter Tryz.func41, Tryz.ntmps41
      go_wp2_with (go_at_call 29; refine (c_s_TagRight _ _ hm).mono ?_; rw [ht]; rintro e w1 ⟨rfl, hw⟩; obtain rfl := hw.symm)
      go_ret
      refine ⟨0, rfl, ?_, ?_, (fun x hx _ => Below.heap_setCell w ⟨b, 3, none⟩ _ x hx), (Below.refl b w).setCell (p := ⟨b, 3, none⟩) (Nat.le_refl _) _⟩
      · rw [H1.out.2.2, ht]; simp
      · intro _; rw [H1.out.1, H1.out.2.1]; exact H2.out
  · have H1 : Hid (whV k t = rvV t ∧ whW k t = ByteArray.empty ∧ whB k t = decide (rvC t = 0)) := (by unfold whV whW whB; rw [if_neg h, if_neg h, if_neg h]; exact ⟨rfl, rfl, rfl⟩ : whV k t = rvV t ∧ whW k t = ByteArray.empty ∧ whB k t = decide (rvC t = 0))
    clear hB
    go_enter Tryz.func41, Tryz.ntmps41
    go_wp2_with fail
    refine (c_s_ValueRead t hm w).mono ?_
    rintro e w1 ⟨rfl, hb1⟩
    have hB1 : SmB w1 b k se 0 ByteArray.empty wt td ti := by unfold SmB; rw [hb1.block _ hb]; exact HB.out
    have HB1 := hide hb1
    clear q0 q1 q2 q3 q4 q5 q6 g0 g1 g2 g3 g4 g5 g6 hb1
    unfold SmB at hB1
    obtain ⟨q0, q1, q2, q3, q4, q5, q6⟩ := cell7 hB1
    obtain ⟨g0, g1, g2, g3, g4, g5, g6⟩ := froz7 hB1
    have H2 := hide (heap_setCell_same w1 b 2 _ _ (.int .i64 (rvV t)) hB1)
    have hblt : b < w1.heap.size := Nat.lt_of_lt_of_le hb HB1.out.size
    have hne1 : ¬ b = w1.heap.size := by omega
    have hne2 : ¬ w1.heap.size = b := by omega
    have hfa : ∀ o, (w1.alloc o).frozen? ⟨b, 2, none⟩ = false := fun o => frozen_of_row _ b 2 _ _ (by rw [Below.heap_alloc _ _ _ hblt]; exact hB1)
    have hld : ∀ o x, ((w1.alloc o).setCell ⟨b, 2, none⟩ x).cell? ⟨w1.heap.size, 1, none⟩ = (w1.alloc o).cell? ⟨w1.heap.size, 1, none⟩ := fun o x => World.cell?_setCell_far _ _ _ _ hne1
    clear hB1
    go_wp2
    go_ret
    have hsz := ((Below.refl b w1).setCell (p := ⟨b, 2, none⟩) (Nat.le_refl _) (.int .i64 (rvV t))).size
    refine ⟨rvC t, rfl, ?_, fun _ => ?_, fun x hx hxl => ?_, ((HB1.out.mono (Nat.le_of_lt hb)).setCell (p := ⟨b, 2, none⟩) (Nat.le_refl _) _).alloc (Nat.le_trans (Nat.le_of_lt hblt) hsz) _⟩
    · rw [H1.out.2.2]; simp
    · unfold SmB
      rw [Below.heap_alloc _ _ _ (by omega), H1.out.1, H1.out.2.1]
      exact H2.out
    · rw [Below.heap_alloc _ _ _ (by have := HB1.out.size; omega), Below.heap_setCell _ _ _ _ (by show x ≠ b; exact hx), HB1.out.block _ hxl]
theorem serW_no1 {nm : ByteArray} {L : List ByteArray} (h : nameB nm = false) : serW nm L = ByteArray.empty := by unfold serW; rw [if_neg (by rw [h]; simp)]
theorem serW_no2 {nm : ByteArray} {L : List ByteArray} (h : ¬ L.all tagB = true) : serW nm L = ByteArray.empty := by unfold serW; rw [if_neg (fun k => h k.2)]
theorem serW_ok {nm : ByteArray} {L : List ByteArray} (h : nameB nm = true) (k : L.all tagB = true) : serW nm L = serF nm L := by unfold serW; rw [if_pos ⟨h, k⟩]
/-- What the model's tests tell. -/
theorem LnR.bad {t : ByteArray} (hf : fitB t = true) (h : ∀ nm wh kd ps r, LP t nm wh kd ps → more 0 pt0 ps = some r → serW nm r.tg = ByteArray.empty) : LnR t (illS 3) := Or.inr ⟨hf, Or.inr ⟨h, rfl⟩⟩
theorem LnR.good {t nm wh kd : ByteArray} {ps : List ByteArray} {r : Pt} (hf : fitB t = true) (h : LP t nm wh kd ps) (hm : moreS 0 pt0 ps = some r) (hn : nameB nm = true) (hs : serF nm r.tg ≠ ByteArray.empty) : LnR t (ansS nm wh kd r) ∧ serW nm r.tg = serF nm r.tg := by
  rw [moreS_eq ps 0 pt0 rfl] at hm
  cases hq : more 0 pt0 ps with
  | none => rw [hq] at hm; cases hm
  | some r1 =>
    rw [hq] at hm
    have hf1 : finT r1 = some r := hm
    unfold finT at hf1
    split at hf1
    · cases hf1
      rename_i ht
      have e := serW_ok hn ht
      exact ⟨Or.inr ⟨hf, Or.inl ⟨nm, wh, kd, ps, r, h, hq, by rw [e]; exact hs, rfl⟩⟩, e⟩
    · cases hf1
theorem moreS_all {ps : List ByteArray} {r : Pt} (hm : moreS 0 pt0 ps = some r) : more 0 pt0 ps = some r ∧ r.tg.all tagB = true := by
  rw [moreS_eq ps 0 pt0 rfl] at hm
  cases hq : more 0 pt0 ps with
  | none => rw [hq] at hm; cases hm
  | some r1 =>
    rw [hq] at hm
    have hf1 : finT r1 = some r := hm
    unfold finT at hf1
    split at hf1
    · cases hf1; rename_i ht; exact ⟨rfl, ht⟩
    · cases hf1
theorem LnR.bad1 {t nm wh kd : ByteArray} {ps : List ByteArray} (hf : fitB t = true) (h : LP t nm wh kd ps) (hn : nameB nm = false) : LnR t (illS 3) := LnR.bad hf (fun nm' wh' kd' ps' r' k _ => by
  obtain ⟨rfl, _, _, _⟩ := h.one k; exact serW_no1 hn)
theorem LnR.bad2 {t nm wh kd : ByteArray} {ps : List ByteArray} (hf : fitB t = true) (h : LP t nm wh kd ps) (hm : moreS 0 pt0 ps = none) : LnR t (illS 3) := LnR.bad hf (fun nm' wh' kd' ps' r' k1 k2 => by
  obtain ⟨rfl, rfl, rfl, rfl⟩ := h.one k1
  refine serW_no2 (fun hall => ?_)
  rw [moreS_eq ps 0 pt0 rfl, k2] at hm
  have hf1 : finT r' = none := hm
  unfold finT at hf1
  rw [if_pos hall] at hf1; cases hf1)
theorem LnR.bad3 {t nm wh kd : ByteArray} {ps : List ByteArray} {r : Pt} (hf : fitB t = true) (h : LP t nm wh kd ps) (hm : moreS 0 pt0 ps = some r) (hn : nameB nm = true) (hs : serF nm r.tg = ByteArray.empty) : LnR t (illS 3) := LnR.bad hf (fun nm' wh' kd' ps' r' k1 k2 => by
  obtain ⟨rfl, rfl, rfl, rfl⟩ := h.one k1
  obtain ⟨m1, m2⟩ := moreS_all hm
  rw [m1] at k2; cases k2
  rw [serW_ok hn m2]; exact hs)
end Go.Proofs.YtnflhahnbdnaoaaGreatDoor
