/-
  The text of a line.
-/
import Derived.Test.YtnflhahnbdnaoaaGreatDoorLQ
import Derived.Test.YtnflhahnbdnaoaaGreatDoorLP
import Derived.Test.YtnflhahnbdnaoaaGreatDoorLD
import Derived.Test.YtnflhahnbdnaoaaGreatDoorLB
import Derived.Test.YtnflhahnbdnaoaaGreatDoorLJ
import Derived.Deep.DeepCutAuto
namespace Go.Proofs.YtnflhahnbdnaoaaGreatDoor
set_option linter.unusedVariables false
set_option linter.unusedSimpArgs false
open Go.ChangeShapes Go.WideShapes Go.ChangeAt Go.RowKit Go.PlainAid
set_option maxRecDepth 10000

theorem str_addX {a b : ByteArray} (h : a.size + b.size ≤ 1000000) : Op.stringOp .add a b = pure (.string (a ++ b)) := by
  unfold Op.stringOp
  have : ¬ (((a.size + b.size : Nat) : Int) > IntKind.i64.max) := by
    have e : IntKind.i64.max = 9223372036854775807 := by decide
    rw [e]; omega
  simp only
  rw [if_neg this]
def whX (k v : Int) (wd : ByteArray) : ByteArray := if k = 4 then wd else vtx v
def ltX (k : Int) : ByteArray := if k = 1 then ⟨#[99]⟩ else if k = 2 then ⟨#[103]⟩ else if k = 3 then ⟨#[104]⟩ else ⟨#[115]⟩
def lnA (nm : ByteArray) (k v : Int) (wd : ByteArray) : ByteArray := nm ++ ⟨#[58]⟩ ++ whX k v wd ++ ⟨#[124]⟩ ++ ltX k
def lnB (a : ByteArray) (wt : Int) : ByteArray := if 1 < wt then a ++ (⟨#[124, 64]⟩ ++ vtx (1000000 / wt)) else a
def lnC (b : ByteArray) (K : List ByteArray) : ByteArray := if K.length = 0 then b else b ++ (⟨#[124, 35]⟩ ++ ⟨(joinT K).toArray⟩)
def lnD (c : ByteArray) (tm : Bool) (ti : Int) : ByteArray := if tm = true then c ++ (⟨#[124, 84]⟩ ++ dtx ti.toNat) else c
/-- The line of a sample. -/
def lnX (nm : ByteArray) (K : List ByteArray) (k v : Int) (wd : ByteArray) (wt : Int) (tm : Bool) (ti : Int) : ByteArray := lnD (lnC (lnB (lnA nm k v wd) wt) K) tm ti
theorem vtx_size (v : Int) : (vtx v).size ≤ 40 := by
  unfold vtx
  split
  · rename_i h
    have h1 : v.natAbs / 1000000 ≤ 9223372036854775807 := by omega
    have h2 := dtx_size _ h1
    have h3 := ptx_size (v.natAbs % 1000000)
    have h4 : (sgx v).size ≤ 1 := by unfold sgx; split <;> decide
    split
    · rw [ByteArray.size_append]; omega
    · rw [ByteArray.size_append, ByteArray.size_append, ByteArray.size_append]
      have : (⟨#[46]⟩ : ByteArray).size = 1 := rfl
      omega
  · decide
theorem ltX_size (k : Int) : (ltX k).size = 1 := by unfold ltX; split; rfl; split; rfl; split; rfl; rfl
theorem whX_size {k v : Int} {wd : ByteArray} (h : wd.size ≤ 40) : (whX k v wd).size ≤ 40 := by unfold whX; split; exact h; exact vtx_size v
theorem lnA_size {nm wd : ByteArray} {k v : Int} (h : nm.size ≤ 40) (hw : wd.size ≤ 40) : (lnA nm k v wd).size ≤ 100 := by
  unfold lnA
  have h1 := whX_size (k := k) (v := v) hw
  have h2 := ltX_size k
  rw [ByteArray.size_append, ByteArray.size_append, ByteArray.size_append, ByteArray.size_append]
  have e1 : (⟨#[58]⟩ : ByteArray).size = 1 := rfl
  have e2 : (⟨#[124]⟩ : ByteArray).size = 1 := rfl
  omega
theorem lnB_size {a : ByteArray} {wt : Int} (h : a.size ≤ 100) : (lnB a wt).size ≤ 150 := by
  unfold lnB
  have := vtx_size (1000000 / wt)
  split
  · rw [ByteArray.size_append, ByteArray.size_append]
    have e2 : (⟨#[124, 64]⟩ : ByteArray).size = 2 := rfl
    omega
  · omega
theorem jn_size {K : List ByteArray} (h : ∀ x ∈ K, x.size ≤ 20) (hK : K.length ≤ 8) : (⟨(joinT K).toArray⟩ : ByteArray).size ≤ 168 := by
  have := joinT_len h
  show (joinT K).toArray.size ≤ 168
  simp only [List.size_toArray]
  have : K.length * (20 + 1) ≤ 168 := by omega
  omega
theorem lnC_size {b : ByteArray} {K : List ByteArray} (hb : b.size ≤ 150) (h : ∀ x ∈ K, x.size ≤ 20) (hK : K.length ≤ 8) : (lnC b K).size ≤ 400 := by
  unfold lnC
  have := jn_size h hK
  split
  · omega
  · rw [ByteArray.size_append, ByteArray.size_append]
    have e2 : (⟨#[124, 35]⟩ : ByteArray).size = 2 := rfl
    omega
theorem lnX_size {nm : ByteArray} {K : List ByteArray} {k v : Int} {wd : ByteArray} {wt : Int} {tm : Bool} {ti : Int} (h : nm.size ≤ 40) (hw : wd.size ≤ 40) (hk : ∀ x ∈ K, x.size ≤ 20) (hK : K.length ≤ 8) (ht : ti ≤ 1000000000) : (lnX nm K k v wd wt tm ti).size ≤ 500 := by
  unfold lnX lnD
  have h1 := lnC_size (lnB_size (wt := wt) (lnA_size (k := k) (v := v) h hw)) hk hK
  have h2 := dtx_size ti.toNat (by omega)
  split
  · rw [ByteArray.size_append, ByteArray.size_append]
    have e2 : (⟨#[124, 84]⟩ : ByteArray).size = 2 := rfl
    omega
  · omega
/-- What is asked of a sample's fields, its series in two. -/
structure LxO (nm : ByteArray) (K : List ByteArray) (k v : Int) (wd : ByteArray) (wt ti : Int) : Prop where
  n : K.length ≤ 8
  nm : nm.size ≤ 40
  K : ∀ x ∈ K, x.size ≤ 20
  k : k = 1 ∨ k = 2 ∨ k = 3 ∨ k = 4
  v : -999999999999999999 ≤ v ∧ v ≤ 999999999999999999
  wd : wd.size ≤ 40
  wt : 1 ≤ wt ∧ wt ≤ 1000000
  ti : 0 ≤ ti ∧ ti ≤ 1000000000
theorem lx_of {nm : ByteArray} {K : List ByteArray} {k : Int} {se : ByteArray} {v : Int} {wd : ByteArray} {wt : Int} {tm : Bool} {ti : Int} (h : smpB k se v wd wt tm ti = true) (hs : SerIs se nm K) : LxO nm K k v wd wt ti := by
  unfold smpB at h
  simp only [Bool.and_eq_true] at h
  obtain ⟨⟨⟨⟨h1, _⟩, h2⟩, h3⟩, h4⟩ := h
  have a2 : (-999999999999999999 ≤ v ∧ v ≤ 999999999999999999) ∧ wd.size ≤ 40 := by
    unfold whatB at h2
    split at h2
    · simp only [Bool.and_eq_true, decide_eq_true_eq] at h2
      refine ⟨by omega, ?_⟩
      have := h2.2
      unfold tagB at this
      simp only [Bool.and_eq_true, decide_eq_true_eq] at this
      omega
    · unfold valB at h2
      simp only [Bool.and_eq_true, decide_eq_true_eq] at h2
      exact ⟨h2.1, by omega⟩
  have a3 : 1 ≤ wt ∧ wt ≤ 1000000 := by
    unfold weightB at h3
    simp only [Bool.and_eq_true, Bool.or_eq_true, decide_eq_true_eq] at h3
    omega
  have a4 : 0 ≤ ti ∧ ti ≤ 1000000000 := by
    unfold timeB at h4
    split at h4
    · simpa using h4
    · simp only [decide_eq_true_eq] at h4; omega
  obtain ⟨s1, s2, _, s4, _⟩ := hs
  have n1 : nm.size ≤ 40 := by
    unfold nameB at s1
    simp only [Bool.and_eq_true, decide_eq_true_eq] at s1
    omega
  refine ⟨s4, n1, fun x hx => ?_, kind_cases h1, a2.1, a2.2, a3, a4⟩
  have := List.all_eq_true.1 s2 x hx
  unfold tagB at this
  simp only [Bool.and_eq_true, decide_eq_true_eq] at this
  omega
end Go.Proofs.YtnflhahnbdnaoaaGreatDoor

/-
  A line written: the program.
-/
namespace Go.Proofs.YtnflhahnbdnaoaaGreatDoor
set_option linter.unusedVariables false
set_option linter.unusedSimpArgs false
open Go.ChangeShapes Go.WideShapes Go.ChangeAt Go.RowKit Go.PlainAid
set_option maxRecDepth 10000

/-- Tags that strings.Join may be asked of. -/
def TgJ (w : World) (ao : Option Addr) (n c : Nat) (L : List ByteArray) : Prop := L.length = n ∧ ((L = [] ∧ ao = none) ∨ ∃ g, ao = some ⟨g, 0, none⟩ ∧ g < w.heap.size ∧ n ≤ c ∧ ∀ i u, L[i]? = some u → w.cell? ⟨g, i, none⟩ = some (.string u))
theorem TgJ.past {w w' : World} {ao : Option Addr} {n c : Nat} {L : List ByteArray} (h : TgJ w ao n c L) (hb : Below w.heap.size w w') : TgJ w' ao n c L := by
  refine ⟨h.1, ?_⟩
  rcases h.2 with q | ⟨g, e, hg, hc, hu⟩
  · exact .inl q
  · exact .inr ⟨g, e, Nat.lt_of_lt_of_le hg hb.size, hc, fun i u hi => cell_past hb (hu i u hi)⟩
theorem c_joinJ {w : World} {m c : Nat} {ao : Option Addr} {K : List ByteArray} (ho : TgJ w ao m c K) (hl : m ≤ 100000) (hu : ∀ x ∈ K, x.size ≤ 20) :
    Calls Tryz.prog 49 #[.slice ao m c, .string ⟨#[44]⟩] w fun e w' => e = .returned (.string ⟨(joinT K).toArray⟩) ∧ Below w.heap.size w w' := by
  have hj := joinT_len hu
  obtain ⟨hm, ho⟩ := ho
  rcases ho with ⟨rfl, rfl⟩ | ⟨g, rfl, hg, hc, hcell⟩
  · obtain rfl : 0 = m := hm
    exact (Tryz.strings_Join_none none c ⟨#[44]⟩ w).mono (fun e w' h => ⟨by rw [h.1]; rfl, h.2 ▸ Below.refl _ _⟩)
  · subst hm
    refine (Tryz.strings_Join g 0 c K ⟨#[44]⟩ w (fun j x hx => ?_) hg (by omega) hc (by show (joinT K).length ≤ _; omega)).mono (fun e w' h => ⟨by rw [h.1]; rfl, h.2⟩)
    simpa using hcell j x hx
set_option maxHeartbeats 1000000 in
theorem c_splitTagsJ {w : World} (t : ByteArray) (hm : MX w) (hs : t.size ≤ 1000000) :
    Calls Tryz.prog 68 #[.string t] w fun e w' => ∃ ao n c, e = .returned (.slice ao n c) ∧ TgJ w' ao n c (tagsOf t) ∧ Below w.heap.size w w' := by
  by_cases h0 : t.size = 0
  · have e : t = ByteArray.empty := toL_inj (List.eq_nil_of_length_eq_zero (by rw [toL_len]; exact h0))
    subst e
    go_enter Tryz.func68, Tryz.ntmps68
    go_wp2
    go_ret
    exact ⟨none, 0, 0, rfl, ⟨rfl, .inl ⟨rfl, rfl⟩⟩, Below.refl _ _⟩
  · have hne : t.toList.isEmpty = false := by
      rw [ByteArray.toList_eq]
      cases e : t.data.toList with
      | nil => exact absurd (by rw [← toL_len]; show t.data.toList.length = 0; rw [e]; rfl) h0
      | cons x r => rfl
    have HN := hide (tagsOf_len h0)
    have HT : Hid (tagsOf t = Lib.splitB ⟨#[44]⟩ 0 (Lib.countB t ⟨#[44]⟩) t) := (by unfold tagsOf; rw [if_neg h0] : tagsOf t = Lib.splitB ⟨#[44]⟩ 0 (Lib.countB t ⟨#[44]⟩) t)
    obtain ⟨m, hm⟩ := hm
    go_enter Tryz.func68, Tryz.ntmps68
    go_wp2_with (go_at_call 82; refine (Tryz.strings_Split _ _ m _ (by omega) hm (by decide)).mono ?_; rintro e w1 ⟨rfl, rfl⟩)
    go_ret
    refine ⟨some ⟨w.heap.size, 0, none⟩, _, _, rfl, ⟨HN.out, .inr ⟨w.heap.size, rfl, by simp, Nat.le_refl _, fun i u hu => ?_⟩⟩, (Below.refl _ _).alloc (Nat.le_refl _) _⟩
    rw [cell_of_row _ w.heap.size _ _ _ (0, 0) (heap_alloc_new w _)]
    rw [HT.out] at hu
    simp [hu]
set_option maxHeartbeats 1000000 in
theorem c_seriesPartsJ {w : World} (t : ByteArray) (hm : MX w) (hs : t.size ≤ 1000000) :
    Calls Tryz.prog 43 #[.string t] w fun e w' => ∃ ao n c, e = .returned (.tuple #[.string (partsN t), .slice ao n c]) ∧ TgJ w' ao n c (tagsOf (partsI t)) ∧ Below w.heap.size w w' := by
  obtain ⟨z1, z2⟩ := cut_size t
  have z3 := trim_size t
  have HM := hide hm
  obtain ⟨m, hm⟩ := hm
  go_enter Tryz.func43, Tryz.ntmps43
  go_wp2_with fail
  refine (Tryz.strings_Cut t ⟨#[123]⟩ m _ (by omega) hm).mono ?_
  rintro e w1 ⟨rfl, k, rfl⟩
  have e1 : (⟨(Lib.cut t.data.toList (⟨#[123]⟩ : ByteArray).data.toList).1.toArray⟩ : ByteArray) = partsN t := rfl
  have e2 : (⟨(Lib.cut t.data.toList (⟨#[123]⟩ : ByteArray).data.toList).2.1.toArray⟩ : ByteArray) = partsR t := rfl
  rw [e1, e2]
  clear e1 e2
  go_wp2_with fail
  refine (Tryz.strings_TrimSuffix (partsR t) ⟨#[125]⟩ _ (by omega)).mono ?_
  rintro e w1 ⟨rfl, rfl⟩
  have e3 : (⟨(Lib.trimSuffix (partsR t).data.toList (⟨#[125]⟩ : ByteArray).data.toList).toArray⟩ : ByteArray) = partsI t := rfl
  rw [e3]
  clear e3
  go_wp2_with fail
  refine (c_splitTagsJ (partsI t) (HM.out.drews k) (by omega)).mono ?_
  rintro e w2 ⟨ao, n, c, rfl, hS, hb⟩
  go_wp2
  go_ret2
  exact ⟨ao, n, c, rfl, hS, (bel_drews (Below.refl _ _) k).trans (hb.mono (Nat.le_refl _))⟩
theorem c_kindLetter (k : Int) (h : k = 1 ∨ k = 2 ∨ k = 3 ∨ k = 4) (w : World) : Calls Tryz.prog 47 #[.int .i64 k] w fun e w' => e = .returned (.string (ltX k)) ∧ w' = w := by
  rcases h with rfl | rfl | rfl | rfl <;> (go_enter Tryz.func47, Tryz.ntmps47; go_wp2; go_ret; exact ⟨rfl, rfl⟩)
set_option maxHeartbeats 1000000 in
theorem c_whatText (k : Int) (se : ByteArray) (v : Int) (wd : ByteArray) (wt : Int) (tm : Bool) (ti : Int) (w : World) (ht : tabU w) : Calls Tryz.prog 46 #[.agg #[.int .i64 k, .string se, .int .i64 v, .string wd, .int .u64 wt, .bool tm, .int .i64 ti]] w fun e w' => e = .returned (.string (whX k v wd)) ∧ Below w.heap.size w w' := by
  have hb0 : Below w.heap.size w (w.alloc (.cells #[.int .i64 k, .string se, .int .i64 v, .string wd, .int .u64 wt, .bool tm, .int .i64 ti] 27)) := (Below.refl _ _).alloc (Nat.le_refl _) _
  have HT0 := hide hb0
  have HTb := hide (tabU_past ht hb0 (Nat.le_refl _))
  clear hb0 ht
  by_cases h : k = 4
  · have HE : Hid (whX k v wd = wd) := (if_pos h : whX k v wd = wd)
    have hk : (k == 4) = true := by simp [h]
    clear h
    go_enter Tryz.func46, Tryz.ntmps46
    go_wp2
    go_ret
    exact ⟨by rw [HE.out]; rfl, HT0.out⟩
  · have HE : Hid (whX k v wd = vtx v) := (if_neg h : whX k v wd = vtx v)
    have hk : (k == 4) = false := beq_eq_false_iff_ne.2 h
    clear h
    go_enter Tryz.func46, Tryz.ntmps46
    go_wp2_with fail
    refine (c_i_ValueText v _ HTb.out).mono ?_
    rintro e w1 ⟨rfl, hb1⟩
    have HT1 := hide (chain HT0.out hb1)
    clear hb1
    go_wp2
    go_ret
    exact ⟨by rw [HE.out]; rfl, HT1.out⟩
end Go.Proofs.YtnflhahnbdnaoaaGreatDoor

/-
  A line written: the program, whole.
-/
namespace Go.Proofs.YtnflhahnbdnaoaaGreatDoor
set_option linter.unusedVariables false
set_option linter.unusedSimpArgs false
open Go.ChangeShapes Go.WideShapes Go.ChangeAt Go.RowKit Go.PlainAid
set_option maxRecDepth 10000

theorem cellK7 {w : World} {r : Nat} {cs : Array Value} {T : TypeId} (h : w.heap[r]? = some (.cells cs T (0, 0))) (j : Nat) {v : Value} (e : cs[j]? = some v) : w.cell? ⟨r, j, none⟩ = some v := by rw [cell_of_row _ _ j _ _ (0, 0) h]; exact e
theorem ret_sX {a b : ByteArray} (h : a = b) : Ending.returned (.string a) = .returned (.string b) := by rw [h]
set_option maxHeartbeats 4000000 in
theorem c_lineWith {w : World} {nm : ByteArray} {K : List ByteArray} (k : Int) (se : ByteArray) (v : Int) (wd : ByteArray) (wt : Int) (tm : Bool) (ti : Int) (hs : SerIs se nm K) (hx : LxO nm K k v wd wt ti) (hm : MX w) (ht : tabU w) :
    Calls Tryz.prog 19 #[.agg #[.int .i64 k, .string se, .int .i64 v, .string wd, .int .u64 wt, .bool tm, .int .i64 ti]] w fun e w' => e = .returned (.string (lnX nm K k v wd wt tm ti)) ∧ Below w.heap.size w w' := by
  obtain ⟨e1, e2⟩ := parts_of hs
  have hse : se.size ≤ 1000000 := by have := hs.2.2.2.2.1; omega
  have hb0 : Below w.heap.size w (w.alloc (.cells #[.int .i64 k, .string se, .int .i64 v, .string wd, .int .u64 wt, .bool tm, .int .i64 ti] 27)) := (Below.refl _ _).alloc (Nat.le_refl _) _
  have HR0 := hide (heap_alloc_new w (.cells #[.int .i64 k, .string se, .int .i64 v, .string wd, .int .u64 wt, .bool tm, .int .i64 ti] 27))
  have HT0 := hide hb0
  have HM0 := hide (hm.past hb0)
  have HTb := hide (tabU_past ht hb0 (Nat.le_refl _))
  have HX := hide hx
  have HP := hide (And.intro e1 e2)
  have hz0 : (w.alloc (.cells #[.int .i64 k, .string se, .int .i64 v, .string wd, .int .u64 wt, .bool tm, .int .i64 ti] 27)).heap.size = w.heap.size + 1 := by simp
  clear hs hx hm ht hb0 e1 e2
  go_enter Tryz.func19, Tryz.ntmps19
  go_wp2_with fail
  generalize w.alloc (.cells #[.int .i64 k, .string se, .int .i64 v, .string wd, .int .u64 wt, .bool tm, .int .i64 ti] 27) = W0 at HR0 HT0 HM0 HTb hz0 ⊢
  refine (c_seriesPartsJ se HM0.out hse).mono ?_
  rintro e w1 ⟨ao, n, c, rfl, hT, hb1⟩
  rw [HP.out.1]
  rw [HP.out.2] at hT
  have HTg := hide hT
  have HT1 := hide (chain HT0.out hb1)
  have HTb1 := hide (tabU_past HTb.out hb1 (Nat.le_refl _))
  have HR1 : Hid (∀ W, Below w1.heap.size w1 W → W.heap[w.heap.size]? = some (.cells #[.int .i64 k, .string se, .int .i64 v, .string wd, .int .u64 wt, .bool tm, .int .i64 ti] 27 (0, 0))) := fun W hW => (hW.block _ (by have := hb1.size; omega)).trans ((hb1.block _ (by omega)).trans HR0.out)
  have hn8 : n ≤ 8 := by have := HX.out.n; have := hT.1; omega
  clear hb1 hT HR0 HT0 HM0 HTb hz0
  have ad1 : Op.stringOp .add nm ⟨#[58]⟩ = pure (.string (nm ++ ⟨#[58]⟩)) := str_addX (by have := HX.out.nm; have : (⟨#[58]⟩ : ByteArray).size = 1 := rfl; omega)
  have ad2 : Op.stringOp .add (nm ++ ⟨#[58]⟩) (whX k v wd) = pure (.string (nm ++ ⟨#[58]⟩ ++ whX k v wd)) := str_addX (by rw [ByteArray.size_append]; have := HX.out.nm; have := whX_size (k := k) (v := v) HX.out.wd; have : (⟨#[58]⟩ : ByteArray).size = 1 := rfl; omega)
  have ad3 : Op.stringOp .add (nm ++ ⟨#[58]⟩ ++ whX k v wd) ⟨#[124]⟩ = pure (.string (nm ++ ⟨#[58]⟩ ++ whX k v wd ++ ⟨#[124]⟩)) := str_addX (by rw [ByteArray.size_append, ByteArray.size_append]; have := HX.out.nm; have := whX_size (k := k) (v := v) HX.out.wd; have : (⟨#[58]⟩ : ByteArray).size = 1 := rfl; have : (⟨#[124]⟩ : ByteArray).size = 1 := rfl; omega)
  have ad4 : Op.stringOp .add (nm ++ ⟨#[58]⟩ ++ whX k v wd ++ ⟨#[124]⟩) (ltX k) = pure (.string (lnA nm k v wd)) := str_addX (by rw [ByteArray.size_append, ByteArray.size_append, ByteArray.size_append]; have := HX.out.nm; have := whX_size (k := k) (v := v) HX.out.wd; have := ltX_size k; have : (⟨#[58]⟩ : ByteArray).size = 1 := rfl; have : (⟨#[124]⟩ : ByteArray).size = 1 := rfl; omega)
  go_upto_region 2 with fail
  go_cut [5] (fun v' w' => v' = .string (lnA nm k v wd) ∧ Hid (Below w1.heap.size w1 w'))
  case first =>
    have HS0 : (fun W => Below w1.heap.size w1 W) w1.drew := (Below.refl _ _).drew
    refine regionK (fun W => Below w1.heap.size w1 W) 10 (by kernel_rfl) ?_
    refine takeK (i := 0) (d := 12) (v := .string nm) rfl rfl (by kernel_rfl) (by kernel_rfl) (by kernel_rfl) (by decide) (by kernel_rfl) (fun _ _ _ h => h) (Or.inl ⟨by rfl, fun W hW => ?_⟩) HS0 ?_
    · clear hW
      go_simp
    simp only [List.setIfInBounds_toArray, List.set_cons_zero, List.set_cons_succ]
    refine takeK (i := 1) (d := 13) (v := .string (nm ++ ⟨#[58]⟩)) rfl rfl (by kernel_rfl) (by kernel_rfl) (by kernel_rfl) (by decide) (by kernel_rfl) (fun _ _ _ h => h) (Or.inl ⟨by rfl, fun W hW => ?_⟩) HS0 ?_
    · clear hW
      go_simp
    simp only [List.setIfInBounds_toArray, List.set_cons_zero, List.set_cons_succ]
    refine takeK (i := 2) (d := 14) (v := .agg #[.int .i64 k, .string se, .int .i64 v, .string wd, .int .u64 wt, .bool tm, .int .i64 ti]) rfl rfl (by kernel_rfl) (by kernel_rfl) (by kernel_rfl) (by decide) (by kernel_rfl) (fun _ _ _ h => h) (Or.inl ⟨by rfl, fun W hW => ?_⟩) HS0 ?_
    · have hRW := HR1.out W hW
      have x0 := cellK7 hRW 0 rfl
      have x1 := cellK7 hRW 1 rfl
      have x2 := cellK7 hRW 2 rfl
      have x3 := cellK7 hRW 3 rfl
      have x4 := cellK7 hRW 4 rfl
      have x5 := cellK7 hRW 5 rfl
      have x6 := cellK7 hRW 6 rfl
      clear hRW
      clear hW
      go_simp
    simp only [List.setIfInBounds_toArray, List.set_cons_zero, List.set_cons_succ]
    refine takeK (i := 6) (d := 18) (v := .pointer (some ⟨w.heap.size, 0, none⟩)) rfl rfl (by kernel_rfl) (by kernel_rfl) (by kernel_rfl) (by decide) (by kernel_rfl) (fun _ _ _ h => h) (Or.inl ⟨by rfl, fun W hW => ?_⟩) HS0 ?_
    · clear hW
      go_simp
    simp only [List.setIfInBounds_toArray, List.set_cons_zero, List.set_cons_succ]
    refine takeK (i := 7) (d := 19) (v := .int .i64 k) rfl rfl (by kernel_rfl) (by kernel_rfl) (by kernel_rfl) (by decide) (by kernel_rfl) (fun _ _ _ h => h) (Or.inl ⟨by rfl, fun W hW => ?_⟩) HS0 ?_
    · have hRW := HR1.out W hW
      have x0 := cellK7 hRW 0 rfl
      have x1 := cellK7 hRW 1 rfl
      have x2 := cellK7 hRW 2 rfl
      have x3 := cellK7 hRW 3 rfl
      have x4 := cellK7 hRW 4 rfl
      have x5 := cellK7 hRW 5 rfl
      have x6 := cellK7 hRW 6 rfl
      clear hRW
      clear hW
      go_simp
    simp only [List.setIfInBounds_toArray, List.set_cons_zero, List.set_cons_succ]
    refine oneK (i := 3) (by kernel_rfl) rfl (fun K hK => ?_)
    go_simp
    refine (c_whatText k se v wd wt tm ti _ (tabU_past HTb1.out (HS0 : Below w1.heap.size w1 w1.drew) (Nat.le_refl _))).mono ?_
    rintro e w2 ⟨rfl, hb2⟩
    have HB2 : Hid (Below w1.heap.size w1 w2) := (HS0 : Below w1.heap.size w1 w1.drew).trans (hb2.mono (Nat.le_refl _))
    clear hb2
    dsimp only
    refine hK.out _ _ (fun _ => HB2.out) ?_
    clear hK K
    try simp only [Act.put, List.setIfInBounds_toArray, List.set_cons_zero, List.set_cons_succ]
    refine takeK (i := 4) (d := 16) (v := .string (nm ++ ⟨#[58]⟩ ++ whX k v wd)) rfl rfl (by kernel_rfl) (by kernel_rfl) (by kernel_rfl) (by decide) (by kernel_rfl) (fun _ _ _ h => h) (Or.inl ⟨by rfl, fun W hW => ?_⟩) HB2.out ?_
    · clear hW
      go_simp
    simp only [List.setIfInBounds_toArray, List.set_cons_zero, List.set_cons_succ]
    refine takeK (i := 5) (d := 17) (v := .string (nm ++ ⟨#[58]⟩ ++ whX k v wd ++ ⟨#[124]⟩)) rfl rfl (by kernel_rfl) (by kernel_rfl) (by kernel_rfl) (by decide) (by kernel_rfl) (fun _ _ _ h => h) (Or.inl ⟨by rfl, fun W hW => ?_⟩) HB2.out ?_
    · clear hW
      go_simp
    simp only [List.setIfInBounds_toArray, List.set_cons_zero, List.set_cons_succ]
    refine oneK (i := 8) (by kernel_rfl) rfl (fun K hK => ?_)
    go_simp
    refine (c_kindLetter k HX.out.k _).mono ?_
    rintro e wz ⟨rfl, hwz⟩
    obtain rfl := hwz.symm
    dsimp only
    refine hK.out _ _ (fun _ => HB2.out) ?_
    clear hK K
    try simp only [Act.put, List.setIfInBounds_toArray, List.set_cons_zero, List.set_cons_succ]
    refine takeK (i := 9) (d := 21) (v := .string (lnA nm k v wd)) rfl rfl (by kernel_rfl) (by kernel_rfl) (by kernel_rfl) (by decide) (by kernel_rfl) (fun _ _ _ h => h) (Or.inl ⟨by rfl, fun W hW => ?_⟩) HB2.out ?_
    · clear hW
      go_simp
    simp only [List.setIfInBounds_toArray, List.set_cons_zero, List.set_cons_succ]
    refine oneK (i := 10) (by kernel_rfl) rfl (fun K hK => ?_)
    go_simp
    refine hK.out _ _ (fun h => absurd rfl h) ?_
    clear hK K
    try simp only [Act.put, List.setIfInBounds_toArray, List.set_cons_zero, List.set_cons_succ]
    refine doneK (by kernel_rfl) ?_ _
    go_wp2
    go_meet
    exact ⟨rfl, HB2⟩
  case rest =>
    obtain ⟨rfl, HB2⟩ := hcut
    obtain ⟨w2, hw2⟩ : ∃ w2, wc = w2 := ⟨_, rfl⟩
    rw [hw2] at HB2 ⊢
    clear hw2 ad1 ad2 ad3 ad4
    have HT2 := hide (chain HT1.out HB2.out)
    have HTb2 := hide (tabU_past HTb1.out HB2.out (Nat.le_refl _))
    have HTg2 := hide (HTg.out.past HB2.out)
    have HR2 : Hid (∀ W, Below w2.heap.size w2 W → W.heap[w.heap.size]? = some (.cells #[.int .i64 k, .string se, .int .i64 v, .string wd, .int .u64 wt, .bool tm, .int .i64 ti] 27 (0, 0))) := fun W hW => HR1.out W (chain HB2.out hW)
    have HSA := hide (lnA_size (k := k) (v := v) HX.out.nm HX.out.wd)
    have HLx : Hid (lnX nm K k v wd wt tm ti = lnD (lnC (lnB (lnA nm k v wd) wt) K) tm ti) := (rfl : lnX nm K k v wd wt tm ti = lnD (lnC (lnB (lnA nm k v wd) wt) K) tm ti)
    generalize lnA nm k v wd = a at HSA HLx ⊢
    clear HB2 HR1 HTb1 HT1 HTg
    obtain ⟨hw1', hw2'⟩ := HX.out.wt
    have x4 := cellK7 (HR2.out _ (Below.refl _ _)) 4 rfl
    go_upto_if 24 with fail
    go_cut [5] (fun v' w' => v' = .string (lnB a wt) ∧ Hid (Below w2.heap.size w2 w'))
    case first =>
      by_cases hwt : 1 < wt
      · have HE : Hid (a ++ (⟨#[124, 64]⟩ ++ vtx (1000000 / wt)) = lnB a wt) := (by unfold lnB; rw [if_pos hwt] : a ++ (⟨#[124, 64]⟩ ++ vtx (1000000 / wt)) = lnB a wt)
        have ad1 : Op.stringOp .add ⟨#[124, 64]⟩ (vtx (1000000 / wt)) = pure (.string (⟨#[124, 64]⟩ ++ vtx (1000000 / wt))) := str_addX (by have := vtx_size (1000000 / wt); have : (⟨#[124, 64]⟩ : ByteArray).size = 2 := rfl; omega)
        have ad2 : Op.stringOp .add a (⟨#[124, 64]⟩ ++ vtx (1000000 / wt)) = pure (.string (a ++ (⟨#[124, 64]⟩ ++ vtx (1000000 / wt)))) := str_addX (by rw [ByteArray.size_append]; have := HSA.out; have := vtx_size (1000000 / wt); have : (⟨#[124, 64]⟩ : ByteArray).size = 2 := rfl; omega)
        have hd : Int.tdiv 1000000 wt = 1000000 / wt := Int.tdiv_eq_ediv_of_nonneg (by omega)
        have hq0 : 0 ≤ 1000000 / wt := Int.ediv_nonneg (by omega) (by omega)
        have hq1 : 1000000 / wt ≤ 1000000 := Int.ediv_le_self _ (by omega)
        have hwr : IntKind.i64.wrap (1000000 / wt) = 1000000 / wt := by rw [IntKind.wrap_i64]; omega
        have hwu : IntKind.u64.wrap (1000000 / wt) = 1000000 / wt := by rw [IntKind.wrap_u64]; omega
        have hz : (wt == 0) = false := beq_eq_false_iff_ne.2 (by omega)
        go_wp2_with fail
        refine (c_i_ValueText (1000000 / wt) _ HTb2.out).mono ?_
        rintro e w3 ⟨rfl, hb3⟩
        have HB3 := hide hb3
        clear hb3
        go_wp2
        go_meet
        exact ⟨by rw [HE.out], HB3⟩
      · have HE : Hid (a = lnB a wt) := (by unfold lnB; rw [if_neg hwt] : a = lnB a wt)
        go_wp2
        go_meet
        exact ⟨by rw [← HE.out], hide (Below.refl _ _)⟩
    case rest =>
      obtain ⟨rfl, HB3⟩ := hcut
      obtain ⟨w3, hw3⟩ : ∃ w3, wc = w3 := ⟨_, rfl⟩
      rw [hw3] at HB3 ⊢
      clear hw3 x4
      have HT3 := hide (chain HT2.out HB3.out)
      have HTb3 := hide (tabU_past HTb2.out HB3.out (Nat.le_refl _))
      have HTg3 := hide (HTg2.out.past HB3.out)
      have HR3 : Hid (∀ W, Below w3.heap.size w3 W → W.heap[w.heap.size]? = some (.cells #[.int .i64 k, .string se, .int .i64 v, .string wd, .int .u64 wt, .bool tm, .int .i64 ti] 27 (0, 0))) := fun W hW => HR2.out W (chain HB3.out hW)
      have HSB := hide (lnB_size (wt := wt) HSA.out)
      generalize lnB a wt = b at HSB HLx ⊢
      clear HB3 HR2 HTb2 HT2 HTg2 HSA
      go_upto_if 35 with fail
      go_cut [5] (fun v' w' => v' = .string (lnC b K) ∧ Hid (Below w3.heap.size w3 w'))
      case first =>
        have HJ := hide (jn_size HX.out.K HX.out.n)
        have HJL : Hid (K.length = n) := HTg3.out.1
        by_cases hn0 : n = 0
        · have HE : Hid (b = lnC b K) := (by unfold lnC; rw [if_pos (by have := HJL.out; omega)] : b = lnC b K)
          subst hn0
          go_wp2
          go_meet
          exact ⟨by rw [← HE.out], hide (Below.refl _ _)⟩
        · have HE : Hid (b ++ (⟨#[124, 35]⟩ ++ ⟨(joinT K).toArray⟩) = lnC b K) := (by unfold lnC; rw [if_neg (by have := HJL.out; omega)] : b ++ (⟨#[124, 35]⟩ ++ ⟨(joinT K).toArray⟩) = lnC b K)
          have hn1 : (0 : Int) < (n : Int) := by omega
          have hn2 : 0 < n := by omega
          go_wp2_with fail
          refine (c_joinJ HTg3.out (by omega) HX.out.K).mono ?_
          rintro e w4 ⟨rfl, hb4⟩
          have HB4 := hide hb4
          clear hb4
          generalize (⟨(joinT K).toArray⟩ : ByteArray) = jn at HJ HE ⊢
          have ad1 : Op.stringOp .add ⟨#[124, 35]⟩ jn = pure (.string (⟨#[124, 35]⟩ ++ jn)) := str_addX (by have := HJ.out; have : (⟨#[124, 35]⟩ : ByteArray).size = 2 := rfl; omega)
          have ad2 : Op.stringOp .add b (⟨#[124, 35]⟩ ++ jn) = pure (.string (b ++ (⟨#[124, 35]⟩ ++ jn))) := str_addX (by rw [ByteArray.size_append]; have := HSB.out; have := HJ.out; have : (⟨#[124, 35]⟩ : ByteArray).size = 2 := rfl; omega)
          go_wp2
          go_meet
          exact ⟨by rw [HE.out], HB4⟩
      case rest =>
        obtain ⟨rfl, HB4⟩ := hcut
        obtain ⟨w4, hw4⟩ : ∃ w4, wc = w4 := ⟨_, rfl⟩
        rw [hw4] at HB4 ⊢
        clear hw4
        have HT4 := hide (chain HT3.out HB4.out)
        have HTb4 := hide (tabU_past HTb3.out HB4.out (Nat.le_refl _))
        have x5 := cellK7 (HR3.out _ HB4.out) 5 rfl
        have x6 := cellK7 (HR3.out _ HB4.out) 6 rfl
        have HSC := hide (lnC_size HSB.out HX.out.K HX.out.n)
        generalize lnC b K = c' at HSC HLx ⊢
        have hti := HX.out.ti
        obtain ⟨tn, htn⟩ : ∃ tn : Nat, ti = (tn : Int) := ⟨ti.toNat, by omega⟩
        subst htn
        cases tm with
        | true =>
          have HE : Hid (c' ++ (⟨#[124, 84]⟩ ++ dtx tn) = lnX nm K k v wd wt true (tn : Int)) := (by rw [HLx.out]; unfold lnD; rw [if_pos rfl, Int.toNat_natCast] : c' ++ (⟨#[124, 84]⟩ ++ dtx tn) = lnX nm K k v wd wt true (tn : Int))
          have hds := dtx_size tn (by omega)
          have ad1 : Op.stringOp .add ⟨#[124, 84]⟩ (dtx tn) = pure (.string (⟨#[124, 84]⟩ ++ dtx tn)) := str_addX (by have : (⟨#[124, 84]⟩ : ByteArray).size = 2 := rfl; omega)
          have ad2 : Op.stringOp .add c' (⟨#[124, 84]⟩ ++ dtx tn) = pure (.string (c' ++ (⟨#[124, 84]⟩ ++ dtx tn))) := str_addX (by rw [ByteArray.size_append]; have := HSC.out; have : (⟨#[124, 84]⟩ : ByteArray).size = 2 := rfl; omega)
          go_wp2_with fail
          refine (c_FormatInt tn (by omega) _ HTb4.out).mono ?_
          rintro e w5 ⟨rfl, hb5⟩
          have HT5 := hide (chain HT4.out hb5)
          clear hb5
          go_wp2
          go_ret
          exact ⟨ret_sX HE.out, HT5.out⟩
        | false =>
          have HE : Hid (c' = lnX nm K k v wd wt false (tn : Int)) := (by rw [HLx.out]; rfl : c' = lnX nm K k v wd wt false (tn : Int))
          go_wp2
          go_ret
          exact ⟨ret_sX HE.out, HT4.out⟩
end Go.Proofs.YtnflhahnbdnaoaaGreatDoor
