/-
  A sample's line: the program.
-/
import Derived.Test.YtnflhahnbdnaoaaGreatDoorLS
import Derived.Test.YtnflhahnbdnaoaaGreatDoorLP
import Derived.Test.YtnflhahnbdnaoaaGreatDoorLO
namespace Go.Proofs.YtnflhahnbdnaoaaGreatDoor
set_option linter.unusedVariables false
set_option linter.unusedSimpArgs false
open Go.ChangeShapes Go.WideShapes Go.ChangeAt Go.RowKit Go.PlainAid
set_option maxRecDepth 10000

/-- Is the answer of a line just this sample? -/
def eqL (s : Sm) (k : Int) (se : ByteArray) (v : Int) (wd : ByteArray) (wt : Int) (tm : Bool) (ti : Int) : Bool := (s.k == k) && ((s.se.toList == se.toList) && ((s.va == v) && ((s.wd.toList == wd.toList) && ((s.wt == wt) && ((s.td == tm) && (((s.ti : Int) == ti) && (s.c == 0)))))))
/-- The text that is handed back. -/
def TxR (t : ByteArray) (k : Int) (se : ByteArray) (v : Int) (wd : ByteArray) (wt : Int) (tm : Bool) (ti : Int) (r : ByteArray) : Prop := ∃ s, LnR t s ∧ r = if eqL s k se v wd wt tm ti = true then t else ⟨#[]⟩
/-- LineText's answer. -/
def LxA (k : Int) (se : ByteArray) (v : Int) (wd : ByteArray) (wt : Int) (tm : Bool) (ti : Int) (r : ByteArray) : Prop := (smpB k se v wd wt tm ti = false ∧ r = ⟨#[]⟩) ∨ (smpB k se v wd wt tm ti = true ∧ ∃ nm K, SerIs se nm K ∧ TxR (lnX nm K k v wd wt tm ti) k se v wd wt tm ti r)
theorem LxA.one {k : Int} {se : ByteArray} {v : Int} {wd : ByteArray} {wt : Int} {tm : Bool} {ti : Int} {r r' : ByteArray} (h : LxA k se v wd wt tm ti r) (h' : LxA k se v wd wt tm ti r') : r = r' := by
  rcases h with ⟨h1, rfl⟩ | ⟨h1, nm, K, hs, s, hl, rfl⟩
  · rcases h' with ⟨_, rfl⟩ | ⟨g1, _⟩
    · rfl
    · rw [h1] at g1; cases g1
  · rcases h' with ⟨g1, _⟩ | ⟨_, nm', K', hs', s', hl', rfl⟩
    · rw [h1] at g1; cases g1
    · obtain ⟨a1, a2⟩ := parts_of hs
      obtain ⟨b1, b2⟩ := parts_of hs'
      obtain rfl : nm = nm' := a1.symm.trans b1
      obtain rfl : K = K' := a2.symm.trans b2
      obtain rfl := hl.one hl'
      rfl
theorem smp_ser {k : Int} {se : ByteArray} {v : Int} {wd : ByteArray} {wt : Int} {tm : Bool} {ti : Int} (h : smpB k se v wd wt tm ti = true) : ∃ nm K, SerIs se nm K := by
  unfold smpB at h
  simp only [Bool.and_eq_true] at h
  by_cases hp : serRP se
  · exact hp
  · have := h.1.1.1.2
    rw [serRB_f hp] at this
    cases this
set_option maxHeartbeats 4000000 in
theorem c_i_LineText {w : World} (k : Int) (se : ByteArray) (v : Int) (wd : ByteArray) (wt : Int) (tm : Bool) (ti : Int) (hse : se.size ≤ maxLen) (hwd : wd.size ≤ maxLen) (hm : MX w) (ht : tabU w) (hG : LnG w) (hE : errT w) :
    Calls Tryz.prog 8 #[.agg #[.int .i64 k, .string se, .int .i64 v, .string wd, .int .u64 wt, .bool tm, .int .i64 ti]] w fun e w' => ∃ r, e = .returned (.string r) ∧ LxA k se v wd wt tm ti r ∧ Below w.heap.size w w' := by
  have hb0 : Below w.heap.size w (w.alloc (.cells #[.int .i64 k, .string se, .int .i64 v, .string wd, .int .u64 wt, .bool tm, .int .i64 ti] 27)) := (Below.refl _ _).alloc (Nat.le_refl _) _
  have HR0 := hide (heap_alloc_new w (.cells #[.int .i64 k, .string se, .int .i64 v, .string wd, .int .u64 wt, .bool tm, .int .i64 ti] 27))
  have HT0 := hide hb0
  have HM0 := hide (hm.past hb0)
  have HTb := hide (tabU_past ht hb0 (Nat.le_refl _))
  have HG0 := hide (hG.past hb0)
  have HE0 := hide (cell_past hb0 hE)
  have hz0 : (w.alloc (.cells #[.int .i64 k, .string se, .int .i64 v, .string wd, .int .u64 wt, .bool tm, .int .i64 ti] 27)).heap.size = w.heap.size + 1 := by simp
  clear hm ht hG hE hb0
  go_enter Tryz.func8, Tryz.ntmps8
  go_wp2_with fail
  generalize w.alloc (.cells #[.int .i64 k, .string se, .int .i64 v, .string wd, .int .u64 wt, .bool tm, .int .i64 ti] 27) = W0 at HR0 HT0 HM0 HTb HG0 HE0 hz0 ⊢
  refine (c_i_SampleRight k se v wd wt tm ti HM0.out hse hwd).mono ?_
  rintro e w1 ⟨rfl, hb1⟩
  have HT1 := hide (chain HT0.out hb1)
  have HM1 := hide (HM0.out.past hb1)
  have HTb1 := hide (tabU_past HTb.out hb1 (Nat.le_refl _))
  have HG1 := hide (HG0.out.past hb1)
  have HE1 := hide (cell_past hb1 HE0.out)
  have HR1 : Hid (∀ W, Below w1.heap.size w1 W → W.heap[w.heap.size]? = some (.cells #[.int .i64 k, .string se, .int .i64 v, .string wd, .int .u64 wt, .bool tm, .int .i64 ti] 27 (0, 0))) := fun W hW => (hW.block _ (by have := hb1.size; omega)).trans ((hb1.block _ (by omega)).trans HR0.out)
  clear hb1 HR0 HT0 HM0 HTb HG0 HE0 hz0
  cases hq : smpB k se v wd wt tm ti with
  | false =>
    have HQ : Hid (LxA k se v wd wt tm ti ⟨#[]⟩) := .inl ⟨hq, rfl⟩
    clear hq
    go_wp2
    go_ret
    exact ⟨_, rfl, HQ.out, HT1.out⟩
  | true =>
    obtain ⟨nm, K, hs⟩ := smp_ser hq
    have HSI := hide hs
    have HX := hide (lx_of hq hs)
    have HQ0 := hide hq
    clear hq hs
    have x0 := cellK7 (HR1.out _ (Below.refl _ _)) 0 rfl
    have x1 := cellK7 (HR1.out _ (Below.refl _ _)) 1 rfl
    have x2 := cellK7 (HR1.out _ (Below.refl _ _)) 2 rfl
    have x3 := cellK7 (HR1.out _ (Below.refl _ _)) 3 rfl
    have x4 := cellK7 (HR1.out _ (Below.refl _ _)) 4 rfl
    have x5 := cellK7 (HR1.out _ (Below.refl _ _)) 5 rfl
    have x6 := cellK7 (HR1.out _ (Below.refl _ _)) 6 rfl
    go_wp2_with fail
    clear x0 x1 x2 x3 x4 x5 x6
    refine (c_lineWith k se v wd wt tm ti HSI.out HX.out HM1.out HTb1.out).mono ?_
    rintro e w2 ⟨rfl, hb2⟩
    have HT2 := hide (chain HT1.out hb2)
    have HM2 := hide (HM1.out.past hb2)
    have HG2 := hide (HG1.out.past hb2)
    have HE2 := hide (cell_past hb2 HE1.out)
    have HR2 : Hid (∀ W, Below w2.heap.size w2 W → W.heap[w.heap.size]? = some (.cells #[.int .i64 k, .string se, .int .i64 v, .string wd, .int .u64 wt, .bool tm, .int .i64 ti] 27 (0, 0))) := fun W hW => HR1.out W (chain hb2 hW)
    have HSZ := hide (lnX_size (k := k) (v := v) (wt := wt) (tm := tm) HX.out.nm HX.out.wd HX.out.K HX.out.n HX.out.ti.2)
    have HQt : Hid (∀ r, TxR (lnX nm K k v wd wt tm ti) k se v wd wt tm ti r → LxA k se v wd wt tm ti r) := fun r h => .inr ⟨HQ0.out, nm, K, HSI.out, h⟩
    generalize lnX nm K k v wd wt tm ti = tx at HSZ HQt ⊢
    clear hb2 HR1 HG1 HE1 HM1 HTb1 HT1
    go_upto_region 4 with fail
    go_cut [13] (fun v' w' => ∃ s, v' = .bool (!eqL s k se v wd wt tm ti) ∧ Hid (LnR tx s) ∧ Hid (Below w2.heap.size w2 w'))
    case first =>
      have HS0 : (fun W => Below w2.heap.size w2 W) w2.drew := (Below.refl _ _).drew
      refine regionK (fun W => Below w2.heap.size w2 W) 99 (by kernel_rfl) ?_
      refine takeK (i := 0) (d := 9) (v := .string tx) rfl rfl (by kernel_rfl) (by kernel_rfl) (by kernel_rfl) (by decide) (by kernel_rfl) (fun _ _ _ h => h) (Or.inl ⟨by rfl, fun W hW => ?_⟩) HS0 ?_
      · clear hW
        go_simp
      simp only [List.setIfInBounds_toArray, List.set_cons_zero, List.set_cons_succ]
      refine takeK (i := 2) (d := 11) (v := .agg #[.int .i64 k, .string se, .int .i64 v, .string wd, .int .u64 wt, .bool tm, .int .i64 ti]) rfl rfl (by kernel_rfl) (by kernel_rfl) (by kernel_rfl) (by decide) (by kernel_rfl) (fun _ _ _ h => h) (Or.inl ⟨by rfl, fun W hW => ?_⟩) HS0 ?_
      · have hRW := HR2.out W hW
        have x0 := cellK7 hRW 0 rfl
        have x1 := cellK7 hRW 1 rfl
        have x2 := cellK7 hRW 2 rfl
        have x3 := cellK7 hRW 3 rfl
        have x4 := cellK7 hRW 4 rfl
        have x5 := cellK7 hRW 5 rfl
        have x6 := cellK7 hRW 6 rfl
        clear hRW
        clear hW
        go_simp
      simp only [List.setIfInBounds_toArray, List.set_cons_zero, List.set_cons_succ]
      refine takeK (i := 3) (d := 12) (v := .agg #[.int .i64 k, .string se, .int .i64 v, .string wd, .int .u64 wt, .bool tm, .int .i64 ti, .int .i64 0]) rfl rfl (by kernel_rfl) (by kernel_rfl) (by kernel_rfl) (by decide) (by kernel_rfl) (fun _ _ _ h => h) (Or.inl ⟨by rfl, fun W hW => ?_⟩) HS0 ?_
      · clear hW
        go_simp
      simp only [List.setIfInBounds_toArray, List.set_cons_zero, List.set_cons_succ]
      refine oneK (i := 1) (by kernel_rfl) rfl (fun K hK => ?_)
      go_simp
      refine (c_i_LineRead tx (by have := HSZ.out; unfold maxLen; omega) (HG2.out.past (HS0 : Below w2.heap.size w2 w2.drew)) (HM2.out.past (HS0 : Below w2.heap.size w2 w2.drew)) (cell_past (HS0 : Below w2.heap.size w2 w2.drew) HE2.out)).mono ?_
      rintro e w3 ⟨s, rfl, hL, hb3⟩
      have HL := hide hL
      have HB3 : Hid (Below w2.heap.size w2 w3) := (HS0 : Below w2.heap.size w2 w2.drew).trans (hb3.mono (Nat.le_refl _))
      clear hb3 hL
      unfold outL
      dsimp only
      refine hK.out _ _ (fun _ => HB3.out) ?_
      clear hK K
      try simp only [Act.put, List.setIfInBounds_toArray, List.set_cons_zero, List.set_cons_succ]
      refine takeK (i := 4) (d := 13) (v := .bool (!eqL s k se v wd wt tm ti)) rfl rfl (by kernel_rfl) (by kernel_rfl) (by kernel_rfl) (by decide) (by kernel_rfl) (fun _ _ _ h => h) (Or.inl ⟨by rfl, fun W hW => ?_⟩) HB3.out ?_
      · unfold eqL
        clear hW
        go_simp
        repeat' split
        all_goals simp [*]
      simp only [List.setIfInBounds_toArray, List.set_cons_zero, List.set_cons_succ]
      refine doneK (by kernel_rfl) ?_ _
      go_wp2
      go_meet
      exact ⟨s, rfl, HL, HB3⟩
    case rest =>
      obtain ⟨s, rfl, HL, HB3⟩ := hcut
      have HT3 := hide (chain HT2.out HB3.out)
      cases hq : eqL s k se v wd wt tm ti with
      | true =>
        have HA : Hid (LxA k se v wd wt tm ti tx) := HQt.out tx ⟨s, HL.out, by rw [hq]; rfl⟩
        go_wp2
        go_ret
        exact ⟨_, rfl, HA.out, HT3.out⟩
      | false =>
        have HA : Hid (LxA k se v wd wt tm ti ⟨#[]⟩) := HQt.out ⟨#[]⟩ ⟨s, HL.out, by rw [hq]; rfl⟩
        go_wp2
        go_ret
        exact ⟨_, rfl, HA.out, HT3.out⟩
end Go.Proofs.YtnflhahnbdnaoaaGreatDoor

/-
  A sample's line: the model.
-/
namespace Go.Proofs.YtnflhahnbdnaoaaGreatDoor
set_option linter.unusedVariables false
set_option linter.unusedSimpArgs false
open Go.ChangeShapes Go.WideShapes Go.ChangeAt Go.RowKit Go.PlainAid
set_option maxRecDepth 10000

/-- The line as the tags are written one by one. -/
def lnP (b : ByteArray) (K : List ByteArray) (i : Nat) : ByteArray := if i = 0 then b else b ++ (⟨#[124, 35]⟩ ++ ⟨(joinT (K.take i)).toArray⟩)
theorem lnP_all (b : ByteArray) (K : List ByteArray) : lnP b K K.length = lnC b K := by
  unfold lnP lnC
  rw [List.take_length]
theorem app_as (a b c : ByteArray) : a ++ b ++ c = a ++ (b ++ c) := ByteArray.append_assoc
theorem toL_appX (a b : ByteArray) : toL (a ++ b) = toL a ++ toL b := by unfold toL; simp
theorem lnP_zero {b : ByteArray} {K : List ByteArray} {x : ByteArray} (h : K[0]? = some x) : b ++ ⟨#[124, 35]⟩ ++ x = lnP b K 1 := by
  unfold lnP
  rw [if_neg (by omega), List.take_add_one, h, app_as]
  have : (⟨(joinT (K.take 0 ++ (some x).toList)).toArray⟩ : ByteArray) = x := by
    show (⟨(joinT [x]).toArray⟩ : ByteArray) = x
    rw [joinT_one]; exact mk_toL x
  rw [this]
theorem lnP_step {b : ByteArray} {K : List ByteArray} {x : ByteArray} {i : Nat} (h : K[i]? = some x) (h0 : 0 < i) : lnP b K i ++ ⟨#[44]⟩ ++ x = lnP b K (i + 1) := by
  have hl := (List.getElem?_eq_some_iff.1 h).1
  unfold lnP
  rw [if_neg (by omega), if_neg (by omega), List.take_add_one, h]
  rw [show (some x).toList = [x] from rfl, joinT_snoc (fun e => by have := congrArg List.length e; rw [List.length_take, List.length_nil] at this; omega)]
  apply toL_inj
  simp [toL_appX, toL_mk]
theorem lnP_size {b : ByteArray} {K : List ByteArray} {i : Nat} (hb : b.size ≤ 150) (h : ∀ x ∈ K, x.size ≤ 20) (hK : K.length ≤ 8) : (lnP b K i).size ≤ 400 := by
  unfold lnP
  have := jn_size (K := K.take i) (fun x hx => h x (List.mem_of_mem_take hx)) (by rw [List.length_take]; omega)
  split
  · omega
  · rw [ByteArray.size_append, ByteArray.size_append]
    have : (⟨#[124, 35]⟩ : ByteArray).size = 2 := rfl
    omega
set_option maxHeartbeats 8000000 in
theorem c_s_LineText {w : World} (k : Int) (se : ByteArray) (v : Int) (wd : ByteArray) (wt : Int) (tm : Bool) (ti : Int) (hse : se.size ≤ maxLen) (hwd : wd.size ≤ maxLen) :
    Calls Tryz.prog 6 #[.agg #[.int .i64 k, .string se, .int .i64 v, .string wd, .int .u64 wt, .bool tm, .int .i64 ti]] w fun e w' => ∃ r, e = .returned (.string r) ∧ LxA k se v wd wt tm ti r ∧ Below w.heap.size w w' := by
  have hb0 : Below w.heap.size w (w.alloc (.cells #[.int .i64 k, .string se, .int .i64 v, .string wd, .int .u64 wt, .bool tm, .int .i64 ti] 27)) := (Below.refl _ _).alloc (Nat.le_refl _) _
  have HR0 := hide (heap_alloc_new w (.cells #[.int .i64 k, .string se, .int .i64 v, .string wd, .int .u64 wt, .bool tm, .int .i64 ti] 27))
  have HT0 := hide hb0
  have hz0 : (w.alloc (.cells #[.int .i64 k, .string se, .int .i64 v, .string wd, .int .u64 wt, .bool tm, .int .i64 ti] 27)).heap.size = w.heap.size + 1 := by simp
  clear hb0
  go_enter Tryz.func6, Tryz.ntmps6
  go_wp2_with fail
  generalize w.alloc (.cells #[.int .i64 k, .string se, .int .i64 v, .string wd, .int .u64 wt, .bool tm, .int .i64 ti] 27) = W0 at HR0 HT0 hz0 ⊢
  refine (c_s_SampleRight k se v wd wt tm ti hse hwd).mono ?_
  rintro e w1 ⟨rfl, hb1⟩
  have HT1 := hide (chain HT0.out hb1)
  have HR1 : Hid (∀ W, Below w1.heap.size w1 W → W.heap[w.heap.size]? = some (.cells #[.int .i64 k, .string se, .int .i64 v, .string wd, .int .u64 wt, .bool tm, .int .i64 ti] 27 (0, 0))) := fun W hW => (hW.block _ (by have := hb1.size; omega)).trans ((hb1.block _ (by omega)).trans HR0.out)
  clear hb1 HR0 HT0 hz0
  cases hq : smpB k se v wd wt tm ti with
  | false =>
    have HQ : Hid (LxA k se v wd wt tm ti ⟨#[]⟩) := .inl ⟨hq, rfl⟩
    clear hq
    go_wp2
    go_ret
    exact ⟨_, rfl, HQ.out, HT1.out⟩
  | true =>
    obtain ⟨nm0, K0, hs0⟩ := smp_ser hq
    have HS0 := hide hs0
    have HQ0 := hide hq
    clear hq hs0
    have x1 := cellK7 (HR1.out _ (Below.refl _ _)) 1 rfl
    go_wp2_with fail
    clear x1
    refine (c_s_l06Parts se (by have := HS0.out.2.2.2.2.1; omega)).mono ?_
    rintro e w2 ⟨nm, ao, n, c, rfl, hp, hb2⟩
    obtain ⟨K, hs, hn, hA⟩ := hp ⟨nm0, K0, HS0.out⟩
    have HSI := hide hs
    have HX := hide (lx_of HQ0.out hs)
    have HN := hide hn
    have HA := hide hA
    have HT2 := hide (chain HT1.out hb2)
    have HR2 : Hid (∀ W, Below w2.heap.size w2 W → W.heap[w.heap.size]? = some (.cells #[.int .i64 k, .string se, .int .i64 v, .string wd, .int .u64 wt, .bool tm, .int .i64 ti] 27 (0, 0))) := fun W hW => HR1.out W (chain hb2 hW)
    have HQt : Hid (∀ r, TxR (lnX nm K k v wd wt tm ti) k se v wd wt tm ti r → LxA k se v wd wt tm ti r) := fun r h => .inr ⟨HQ0.out, nm, K, HSI.out, h⟩
    have HSZ := hide (lnX_size (k := k) (v := v) (wt := wt) (tm := tm) HX.out.nm HX.out.wd HX.out.K HX.out.n HX.out.ti.2)
    have HSW := hide (whX_size (k := k) (v := v) HX.out.wd)
    have hn8 : n ≤ 8 := by have := HX.out.n; omega
    clear hb2 HR1 HT1 HS0 HQ0 hs hn hA hp
    have ad1 : Op.stringOp .add nm ⟨#[58]⟩ = pure (.string (nm ++ ⟨#[58]⟩)) := str_addX (by have := HX.out.nm; have : (⟨#[58]⟩ : ByteArray).size = 1 := rfl; omega)
    have ad2 : Op.stringOp .add (nm ++ ⟨#[58]⟩) (whX k v wd) = pure (.string (nm ++ ⟨#[58]⟩ ++ whX k v wd)) := str_addX (by rw [ByteArray.size_append]; have := HX.out.nm; have := HSW.out; have : (⟨#[58]⟩ : ByteArray).size = 1 := rfl; omega)
    have x0 := cellK7 (HR2.out _ (Below.refl _ _)) 0 rfl
    have x2 := cellK7 (HR2.out _ (Below.refl _ _)) 2 rfl
    have x3 := cellK7 (HR2.out _ (Below.refl _ _)) 3 rfl
    go_upto_if 24 with fail
    go_cut [6] (fun v' w' => v' = .string (nm ++ ⟨#[58]⟩ ++ whX k v wd) ∧ Hid (Below w2.heap.size w2 w'))
    case first =>
      by_cases hk : k = 4
      · have hkb : (k == 4) = true := by simp [hk]
        have e : whX k v wd = wd := if_pos hk
        rw [e] at ad2
        have HE := hide e
        clear hk e
        go_wp2
        go_meet
        exact ⟨by rw [HE.out], hide (Below.refl _ _)⟩
      · have hkb : (k == 4) = false := beq_eq_false_iff_ne.2 hk
        have e : whX k v wd = vtx v := if_neg hk
        rw [e] at ad2
        have HE := hide e
        clear hk e
        go_wp2_with fail
        refine (c_s_ValueText v _).mono ?_
        rintro e w3 ⟨rfl, hb3⟩
        have HB3 := hide hb3
        clear hb3
        go_wp2
        go_meet
        exact ⟨by rw [HE.out], HB3⟩
    case rest =>
      obtain ⟨rfl, HB3⟩ := hcut
      obtain ⟨w3, hw3⟩ : ∃ w3, wc = w3 := ⟨_, rfl⟩
      rw [hw3] at HB3 ⊢
      clear hw3 x0 x2 x3 ad1 ad2
      have HT3 := hide (chain HT2.out HB3.out)
      have HA3 := hide (strs_past HA.out HB3.out)
      have HR3 : Hid (∀ W, Below w3.heap.size w3 W → W.heap[w.heap.size]? = some (.cells #[.int .i64 k, .string se, .int .i64 v, .string wd, .int .u64 wt, .bool tm, .int .i64 ti] 27 (0, 0))) := fun W hW => HR2.out W (chain HB3.out hW)
      clear HB3 HR2 HT2 HA
      have HSA := hide (lnA_size (k := k) (v := v) HX.out.nm HX.out.wd)
      have HLA : Hid (lnA nm k v wd = nm ++ ⟨#[58]⟩ ++ whX k v wd ++ ⟨#[124]⟩ ++ ltX k) := (rfl : lnA nm k v wd = nm ++ ⟨#[58]⟩ ++ whX k v wd ++ ⟨#[124]⟩ ++ ltX k)
      have HLx : Hid (lnX nm K k v wd wt tm ti = lnD (lnC (lnB (lnA nm k v wd) wt) K) tm ti) := (rfl : lnX nm K k v wd wt tm ti = lnD (lnC (lnB (lnA nm k v wd) wt) K) tm ti)
      have HS5 : Hid ((nm ++ ⟨#[58]⟩ ++ whX k v wd).size ≤ 90) := by rw [ByteArray.size_append, ByteArray.size_append]; have := HX.out.nm; have := HSW.out; have : (⟨#[58]⟩ : ByteArray).size = 1 := rfl; show _ ≤ _; omega
      generalize nm ++ ⟨#[58]⟩ ++ whX k v wd = a0 at HLA HS5 ⊢
      have ad1 : Op.stringOp .add a0 ⟨#[124]⟩ = pure (.string (a0 ++ ⟨#[124]⟩)) := str_addX (by have := HS5.out; have : (⟨#[124]⟩ : ByteArray).size = 1 := rfl; omega)
      have ad2 : ∀ l : ByteArray, l.size = 1 → Op.stringOp .add (a0 ++ ⟨#[124]⟩) l = pure (.string (a0 ++ ⟨#[124]⟩ ++ l)) := fun l hl => str_addX (by rw [ByteArray.size_append]; have := HS5.out; have : (⟨#[124]⟩ : ByteArray).size = 1 := rfl; omega)
      have q1 := ad2 ⟨#[99]⟩ rfl
      have q2 := ad2 ⟨#[103]⟩ rfl
      have q3 := ad2 ⟨#[104]⟩ rfl
      have q4 := ad2 ⟨#[115]⟩ rfl
      clear ad2
      have x0 := cellK7 (HR3.out _ (Below.refl _ _)) 0 rfl
      go_upto_region 8 with fail
      go_cut [6] (fun v' w' => v' = .string (lnA nm k v wd) ∧ Hid (Below w3.heap.size w3 w'))
      case first =>
        have hkk := HX.out.k
        have HAl : Hid (∀ o, Below w3.heap.size w3 (w3.alloc o)) := fun o => (Below.refl _ _).alloc (Nat.le_refl _) o
        clear HX HSI HQt HSZ HSW HLx HSA
        have hlt : w.heap.size < w3.heap.size := by have := (Array.getElem?_eq_some_iff.1 (HR3.out _ (Below.refl _ _))).1; exact this
        rcases hkk with rfl | rfl | rfl | rfl
        · go_wp2
          go_meet
          exact ⟨by rw [HLA.out]; rfl, hide (HAl.out _)⟩
        · go_wp2
          go_meet
          exact ⟨by rw [HLA.out]; rfl, hide (HAl.out _)⟩
        · go_wp2
          go_meet
          exact ⟨by rw [HLA.out]; rfl, hide (HAl.out _)⟩
        · go_wp2
          go_meet
          exact ⟨by rw [HLA.out]; rfl, hide (HAl.out _)⟩
      case rest =>
        obtain ⟨rfl, HB4⟩ := hcut
        obtain ⟨w4, hw4⟩ : ∃ w4, wc = w4 := ⟨_, rfl⟩
        rw [hw4] at HB4 ⊢
        clear hw4 x0 ad1 q1 q2 q3 q4 HLA HS5
        have HT4 := hide (chain HT3.out HB4.out)
        have HA4 := hide (strs_past HA3.out HB4.out)
        have HR4 : Hid (∀ W, Below w4.heap.size w4 W → W.heap[w.heap.size]? = some (.cells #[.int .i64 k, .string se, .int .i64 v, .string wd, .int .u64 wt, .bool tm, .int .i64 ti] 27 (0, 0))) := fun W hW => HR3.out W (chain HB4.out hW)
        clear HB4 HR3 HT3 HA3
        generalize lnA nm k v wd = a at HSA HLx ⊢
        obtain ⟨hw1', hw2'⟩ := HX.out.wt
        have x4 := cellK7 (HR4.out _ (Below.refl _ _)) 4 rfl
        go_upto_if 44 with fail
        go_cut [6] (fun v' w' => v' = .string (lnB a wt) ∧ Hid (Below w4.heap.size w4 w'))
        case first =>
          by_cases hwt : 1 < wt
          · have HE : Hid (a ++ ⟨#[124, 64]⟩ ++ vtx (1000000 / wt) = lnB a wt) := (by unfold lnB; rw [if_pos hwt, app_as] : a ++ ⟨#[124, 64]⟩ ++ vtx (1000000 / wt) = lnB a wt)
            have ad1 : Op.stringOp .add a ⟨#[124, 64]⟩ = pure (.string (a ++ ⟨#[124, 64]⟩)) := str_addX (by have := HSA.out; have : (⟨#[124, 64]⟩ : ByteArray).size = 2 := rfl; omega)
            have ad2 : Op.stringOp .add (a ++ ⟨#[124, 64]⟩) (vtx (1000000 / wt)) = pure (.string (a ++ ⟨#[124, 64]⟩ ++ vtx (1000000 / wt))) := str_addX (by rw [ByteArray.size_append]; have := HSA.out; have := vtx_size (1000000 / wt); have : (⟨#[124, 64]⟩ : ByteArray).size = 2 := rfl; omega)
            have hd : Int.tdiv 1000000 wt = 1000000 / wt := Int.tdiv_eq_ediv_of_nonneg (by omega)
            have hq0 : 0 ≤ 1000000 / wt := Int.ediv_nonneg (by omega) (by omega)
            have hq1 : 1000000 / wt ≤ 1000000 := Int.ediv_le_self _ (by omega)
            have hwr : IntKind.i64.wrap (1000000 / wt) = 1000000 / wt := by rw [IntKind.wrap_i64]; omega
            have hww : IntKind.i64.wrap wt = wt := by rw [IntKind.wrap_i64]; omega
            have hz : (wt == 0) = false := beq_eq_false_iff_ne.2 (by omega)
            go_wp2_with fail
            refine (c_s_ValueText (1000000 / wt) _).mono ?_
            rintro e w5 ⟨rfl, hb5⟩
            have HB5 := hide hb5
            clear hb5
            go_wp2
            go_meet
            exact ⟨by rw [HE.out], HB5⟩
          · have HE : Hid (a = lnB a wt) := (by unfold lnB; rw [if_neg hwt] : a = lnB a wt)
            go_wp2
            go_meet
            exact ⟨by rw [← HE.out], hide (Below.refl _ _)⟩
        case rest =>
          obtain ⟨rfl, HB5⟩ := hcut
          obtain ⟨w5, hw5⟩ : ∃ w5, wc = w5 := ⟨_, rfl⟩
          rw [hw5] at HB5 ⊢
          clear hw5 x4
          have HT5 := hide (chain HT4.out HB5.out)
          have HA5 := hide (strs_past HA4.out HB5.out)
          have HR5 : Hid (∀ W, Below w5.heap.size w5 W → W.heap[w.heap.size]? = some (.cells #[.int .i64 k, .string se, .int .i64 v, .string wd, .int .u64 wt, .bool tm, .int .i64 ti] 27 (0, 0))) := fun W hW => HR4.out W (chain HB5.out hW)
          have HSB := hide (lnB_size (wt := wt) HSA.out)
          generalize lnB a wt = b at HSB HLx ⊢
          clear HB5 HR4 HT4 HA4 HSA
          go_wp2
          go_loopw [6, 7] (fun tv i wr => ∃ j : Nat, j ≤ n ∧ i = .int .i64 j ∧ tv = .string (lnP b K j) ∧ wr = w5) (fun tv i wr => n - (Go.RowKit.intOf i).toNat)
          case atStart => exact ⟨0, Nat.zero_le _, rfl, rfl, rfl⟩
          case round =>
            obtain ⟨j, hj, rfl, rfl, rfl⟩ := hrel
            by_cases hjn : j < n
            · obtain ⟨y, hy⟩ : ∃ y, K[j]? = some y := ⟨K[j]'(by have := HN.out; omega), List.getElem?_eq_getElem _⟩
              obtain ⟨g, off, e, hcell⟩ := HA5.out (by have := HN.out; omega)
              subst e
              have hc := hcell j y hy
              have hys : y.size ≤ 20 := HX.out.K y (List.mem_of_getElem? hy)
              have hPs := lnP_size (i := j) HSB.out HX.out.K HX.out.n
              have hji : (j : Int) < (n : Int) := by omega
              by_cases h0 : j = 0
              · subst h0
                rw [Nat.add_zero] at hc
                have HE := hide (lnP_zero (b := b) hy)
                have e0 : lnP b K 0 = b := if_pos rfl
                rw [e0] at hPs ⊢
                have ad1 : Op.stringOp .add b ⟨#[124, 35]⟩ = pure (.string (b ++ ⟨#[124, 35]⟩)) := str_addX (by have : (⟨#[124, 35]⟩ : ByteArray).size = 2 := rfl; omega)
                have ad2 : Op.stringOp .add (b ++ ⟨#[124, 35]⟩) y = pure (.string (b ++ ⟨#[124, 35]⟩ ++ y)) := str_addX (by rw [ByteArray.size_append]; have : (⟨#[124, 35]⟩ : ByteArray).size = 2 := rfl; omega)
                clear hcell hy e0
                go_wp2
                go_roundw
                case rel => exact ⟨0 + 1, by omega, by go_num, by rw [HE.out], by first | rfl | trivial⟩
                case measure => simp [Go.RowKit.intOf]; omega
              · have HE := hide (lnP_step (b := b) hy (by omega))
                have hb0 : ((j : Int) == 0) = false := beq_eq_false_iff_ne.2 (by omega)
                generalize lnP b K j = pj at HE hPs ⊢
                have ad1 : Op.stringOp .add pj ⟨#[44]⟩ = pure (.string (pj ++ ⟨#[44]⟩)) := str_addX (by have : (⟨#[44]⟩ : ByteArray).size = 1 := rfl; omega)
                have ad2 : Op.stringOp .add (pj ++ ⟨#[44]⟩) y = pure (.string (pj ++ ⟨#[44]⟩ ++ y)) := str_addX (by rw [ByteArray.size_append]; have : (⟨#[44]⟩ : ByteArray).size = 1 := rfl; omega)
                clear hcell hy
                go_wp2
                go_roundw
                case rel => exact ⟨j + 1, by omega, by go_num, by rw [HE.out], by first | rfl | trivial⟩
                case measure => simp [Go.RowKit.intOf]; omega
            · obtain rfl : n = j := by omega
              have HCe : Hid (lnP b K n = lnC b K) := (by have h := lnP_all b K; rw [HN.out] at h; exact h : lnP b K n = lnC b K)
              rw [HCe.out]
              have HSC := hide (lnC_size HSB.out HX.out.K HX.out.n)
              generalize lnC b K = c' at HSC HLx ⊢
              have x5 := cellK7 (HR5.out _ (Below.refl _ _)) 5 rfl
              have x6 := cellK7 (HR5.out _ (Below.refl _ _)) 6 rfl
              obtain ⟨ht0, ht1⟩ := HX.out.ti
              go_upto_if 70 with fail
              go_cut [6] (fun v' w' => v' = .string (lnX nm K k v wd wt tm ti) ∧ Hid (Below wr.heap.size wr w'))
              case first =>
                cases tm with
                | true =>
                  have HE : Hid (c' ++ ⟨#[124, 84]⟩ ++ dtx ti.toNat = lnX nm K k v wd wt true ti) := (by rw [HLx.out]; unfold lnD; rw [if_pos rfl, app_as] : c' ++ ⟨#[124, 84]⟩ ++ dtx ti.toNat = lnX nm K k v wd wt true ti)
                  have hds := dtx_size ti.toNat (by omega)
                  have ad1 : Op.stringOp .add c' ⟨#[124, 84]⟩ = pure (.string (c' ++ ⟨#[124, 84]⟩)) := str_addX (by have := HSC.out; have : (⟨#[124, 84]⟩ : ByteArray).size = 2 := rfl; omega)
                  have ad2 : Op.stringOp .add (c' ++ ⟨#[124, 84]⟩) (dtx ti.toNat) = pure (.string (c' ++ ⟨#[124, 84]⟩ ++ dtx ti.toNat)) := str_addX (by rw [ByteArray.size_append]; have := HSC.out; have : (⟨#[124, 84]⟩ : ByteArray).size = 2 := rfl; omega)
                  go_wp2_with fail
                  refine (c_l01DecI ti (by omega) (by omega) _).mono ?_
                  rintro e w6 ⟨rfl, hb6⟩
                  have HB6 := hide hb6
                  clear hb6
                  go_wp2
                  go_meet
                  exact ⟨by rw [HE.out], HB6⟩
                | false =>
                  have HE : Hid (c' = lnX nm K k v wd wt false ti) := (by rw [HLx.out]; rfl : c' = lnX nm K k v wd wt false ti)
                  go_wp2
                  go_meet
                  exact ⟨by rw [← HE.out], hide (Below.refl _ _)⟩
              case rest =>
                obtain ⟨rfl, HB6⟩ := hcut
                obtain ⟨w6, hw6⟩ : ∃ w6, wc = w6 := ⟨_, rfl⟩
                rw [hw6] at HB6 ⊢
                clear hw6 x5 x6
                have HT6 := hide (chain HT5.out HB6.out)
                have HR6 : Hid (∀ W, Below w6.heap.size w6 W → W.heap[w.heap.size]? = some (.cells #[.int .i64 k, .string se, .int .i64 v, .string wd, .int .u64 wt, .bool tm, .int .i64 ti] 27 (0, 0))) := fun W hW => HR5.out W (chain HB6.out hW)
                clear HB6 HR5 HT5 HA5 HLx HSC HCe
                generalize lnX nm K k v wd wt tm ti = tx at HSZ HQt ⊢
                go_wp2_with fail
                refine (c_s_LineRead tx (by have := HSZ.out; unfold maxLen; omega)).mono ?_
                rintro e w7 ⟨s, rfl, hL, hb7⟩
                have HL := hide hL
                have HT7 := hide (chain HT6.out hb7)
                have hA7 : Below w7.heap.size w7 (w7.alloc (.cells #[.int .i64 s.k, .string s.se, .int .i64 s.va, .string s.wd, .int .u64 s.wt, .bool s.td, .int .i64 s.ti, .int .i64 s.c] 34)) := (Below.refl _ _).alloc (Nat.le_refl _) _
                have HT8 := hide (chain HT7.out hA7)
                have HAl7 : Hid (∀ o, Below w.heap.size w (w7.alloc o)) := fun o => chain HT7.out ((Below.refl _ _).alloc (Nat.le_refl _) o)
                have hRx := HR6.out _ hb7
                have hlt := (Array.getElem?_eq_some_iff.1 hRx).1
                have hne : ¬ w.heap.size = w7.heap.size := by omega
                have x0 := cellK7 hRx 0 rfl
                have x1 := cellK7 hRx 1 rfl
                have x2 := cellK7 hRx 2 rfl
                have x3 := cellK7 hRx 3 rfl
                have x4 := cellK7 hRx 4 rfl
                have x5 := cellK7 hRx 5 rfl
                have x6 := cellK7 hRx 6 rfl
                clear hb7 hL hA7 hRx
                unfold outL
                go_upto_region 21 with fail
                go_cut [87] (fun v' w' => v' = .bool (!eqL s k se v wd wt tm ti) ∧ Hid (Below w.heap.size w w'))
                case first =>
                  by_cases hc0 : s.c = 0
                  · have hcb : (s.c != 0) = false := by simp [hc0]
                    go_wp2
                    all_goals (go_meet; exact ⟨by simp [eqL, *], hide (HAl7.out _)⟩)
                  · have hcb : (s.c != 0) = true := by simp [hc0]
                    have HR : Hid ((!eqL s k se v wd wt tm ti) = true) := (by unfold eqL; simp [hc0] : (!eqL s k se v wd wt tm ti) = true)
                    go_wp2
                    go_meet
                    exact ⟨by rw [HR.out], HT8⟩
                case rest =>
                  obtain ⟨rfl, HT9⟩ := hcut
                  cases hq : eqL s k se v wd wt tm ti with
                  | true =>
                    have HAs : Hid (LxA k se v wd wt tm ti tx) := HQt.out tx ⟨s, HL.out, by rw [hq]; rfl⟩
                    go_wp2
                    go_ret
                    exact ⟨_, rfl, HAs.out, HT9.out⟩
                  | false =>
                    have HAs : Hid (LxA k se v wd wt tm ti ⟨#[]⟩) := HQt.out ⟨#[]⟩ ⟨s, HL.out, by rw [hq]; rfl⟩
                    go_wp2
                    go_ret
                    exact ⟨_, rfl, HAs.out, HT9.out⟩
end Go.Proofs.YtnflhahnbdnaoaaGreatDoor
