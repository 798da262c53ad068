/-
  Rings, as lists: marks in order; a list in order is one of its kind. Of no program's walk.
-/
import Derived.Test.YtkccgjeanehaiaaDoorMembC
import Derived.Test.YtkccgjeanehaiaaDoorHashC
import Derived.Lib.ItoaNum
import Derived.Sort.Statements
namespace Go.Proofs.YtkccgjeanehaiaaDoor
set_option linter.unusedVariables false
set_option linter.unusedSimpArgs false
open Go.PlainAid

theorem less_trans : ∀ x y z : List UInt8, Op.bytesLess x y = true → Op.bytesLess y z = true → Op.bytesLess x z = true
  | _, [], _, h, _ => by simp [Op.bytesLess] at h
  | _, _ :: _, [], _, h => by simp [Op.bytesLess] at h
  | [], _ :: _, _ :: _, _, _ => by simp [Op.bytesLess]
  | a :: x, b :: y, c :: z, h, k => by
    simp only [Op.bytesLess, Bool.or_eq_true, Bool.and_eq_true, decide_eq_true_eq, beq_iff_eq] at h k ⊢
    rcases h with h | ⟨rfl, h⟩
    · rcases k with k | ⟨rfl, k⟩
      · exact .inl (UInt8.lt_trans h k)
      · exact .inl h
    · rcases k with k | ⟨rfl, k⟩
      · exact .inl k
      · exact .inr ⟨rfl, less_trans x y z h k⟩
theorem str_ext {a b : ByteArray} (h : (a.toList == b.toList) = true) : a = b := by
  have h := beq_iff_eq.1 h
  rw [ByteArray.toList_eq, ByteArray.toList_eq] at h
  cases a; cases b
  simp at h; simp [h]
theorem strLt_trans {a b c : ByteArray} (h : strLt a b = true) (k : strLt b c = true) : strLt a c = true := less_trans _ _ _ h k
theorem strLt_irr (a : ByteArray) : strLt a a = false := less_eq (x := a.toList) (y := a.toList) (by simp)
theorem strLt_ant {a b : ByteArray} (h : strLt a b = true) : strLt b a = false := less_ant _ _ h
theorem strLt_tot {a b : ByteArray} (h : strLt a b = false) : strLt b a = true ∨ a = b := by
  cases e : (a.toList == b.toList) with
  | true => exact .inr (str_ext e)
  | false => exact .inl (less_tot _ _ h e)
/-- 'Not behind' goes on. -/
theorem strLe_trans {a b c : ByteArray} (h : strLt b a = false) (k : strLt c b = false) : strLt c a = false := by
  cases e : strLt c a with
  | false => rfl
  | true =>
    rcases strLt_tot k with q | q
    · rw [strLt_trans q e] at h; cases h
    · subst q; rw [e] at h; cases h

/-- A mark's At and Member. -/
abbrev Mk := Int × ByteArray
/-- In order. -/
def mle (a b : Mk) : Prop := a.1 < b.1 ∨ (a.1 = b.1 ∧ strLt b.2 a.2 = false)
theorem mle_trans {a b c : Mk} (h : mle a b) (k : mle b c) : mle a c := by
  rcases h with h | ⟨e, h⟩ <;> rcases k with k | ⟨e2, k⟩
  · exact .inl (by omega)
  · exact .inl (by omega)
  · exact .inl (by omega)
  · exact .inr ⟨by omega, strLe_trans h k⟩
theorem mle_ant {a b : Mk} (h : mle a b) (k : mle b a) : a = b := by
  rcases h with h | ⟨e, h⟩ <;> rcases k with k | ⟨e2, k⟩
  · omega
  · omega
  · omega
  · rcases strLt_tot h with q | q
    · rw [q] at k; cases k
    · exact Prod.ext e q.symm
/-- The test of the loop: it stands behind. -/
def mgt (a m : Mk) : Bool := decide (m.1 < a.1) || (a.1 == m.1 && strLt m.2 a.2)
theorem mgt_t {a m : Mk} (h : mgt a m = true) : mle m a := by
  unfold mgt at h
  simp only [Bool.or_eq_true, Bool.and_eq_true, decide_eq_true_eq, beq_iff_eq] at h
  rcases h with h | ⟨e, h⟩
  · exact .inl h
  · exact .inr ⟨e.symm, strLt_ant h⟩
theorem mgt_f {a m : Mk} (h : mgt a m = false) : mle a m := by
  unfold mgt at h
  simp only [Bool.or_eq_false_iff, Bool.and_eq_false_iff, decide_eq_false_iff_not, beq_eq_false_iff_ne] at h
  by_cases e : a.1 = m.1
  · exact .inr ⟨e, by rcases h.2 with q | q; exact absurd e q; exact q⟩
  · exact .inl (by omega)

/-- Two lists in order, of the same things, are one. -/
theorem sorted_eq : ∀ (l l' : List Mk), l.Perm l' → l.Pairwise mle → l'.Pairwise mle → l = l'
  | [], l', h, _, _ => by simpa using h.symm
  | a :: l, [], h, _, _ => by simp at h
  | a :: l, b :: l', h, p, q => by
    have e : a = b := by
      have ha : a ∈ b :: l' := h.mem_iff.1 List.mem_cons_self
      have hb : b ∈ a :: l := h.mem_iff.2 List.mem_cons_self
      rcases List.mem_cons.1 ha with e | ha
      · exact e
      · rcases List.mem_cons.1 hb with e | hb
        · exact e.symm
        · exact mle_ant ((List.pairwise_cons.1 p).1 b hb) ((List.pairwise_cons.1 q).1 a ha)
    subst e
    rw [sorted_eq l l' (List.Perm.cons_inv h) (List.pairwise_cons.1 p).2 (List.pairwise_cons.1 q).2]

/-- A mark laid where it belongs. -/
theorem put_sorted {R : List Mk} {m : Mk} {n : Nat} (hR : R.Pairwise mle) (hn : n ≤ R.length) (hlo : n = 0 ∨ ∃ a, R[n - 1]? = some a ∧ mle a m) (hhi : ∀ j a, n ≤ j → R[j]? = some a → mle m a) :
    (R.take n ++ m :: R.drop n).Pairwise mle := by
  have hp : (R.take n ++ R.drop n).Pairwise mle := by rw [List.take_append_drop]; exact hR
  obtain ⟨p1, p2, p3⟩ := List.pairwise_append.1 hp
  refine List.pairwise_append.2 ⟨p1, List.pairwise_cons.2 ⟨fun a ha => ?_, p2⟩, fun a ha b hb => ?_⟩
  · obtain ⟨j, hj⟩ := List.getElem?_of_mem ha
    rw [List.getElem?_drop] at hj
    exact hhi (n + j) a (by omega) hj
  · rcases List.mem_cons.1 hb with rfl | hb
    · obtain ⟨j, hj⟩ := List.getElem?_of_mem ha
      have hjl := (List.getElem?_eq_some_iff.1 hj).1
      rw [List.length_take] at hjl
      rw [List.getElem?_take, if_pos (by omega)] at hj
      rcases hlo with h0 | ⟨c, hc, hcm⟩
      · omega
      · by_cases e : j = n - 1
        · rw [e, hc] at hj; obtain rfl := Option.some.inj hj; exact hcm
        · have hcl := (List.getElem?_eq_some_iff.1 hc).1
          refine mle_trans ?_ hcm
          have := List.pairwise_iff_getElem.1 hR j (n - 1) (by omega) hcl (by omega)
          rw [(List.getElem?_eq_some_iff.1 hj).2, (List.getElem?_eq_some_iff.1 hc).2] at this
          exact this
    · exact p3 a ha b hb
theorem put_perm {α : Type} (R : List α) (m : α) (n : Nat) : (R.take n ++ m :: R.drop n).Perm (R ++ [m]) := by
  have h1 : (R.take n ++ m :: R.drop n).Perm (m :: (R.take n ++ R.drop n)) := List.perm_middle
  rw [List.take_append_drop] at h1
  exact h1.trans (List.perm_append_singleton m R).symm

/-- The mark's text. -/
def mkText (u : ByteArray) (k : Nat) : ByteArray := u ++ ⟨#[35]⟩ ++ ⟨(Lib.decDigits k).toArray⟩
def nth (L : List ByteArray) (p : Nat) : ByteArray := L.getD p ByteArray.empty
theorem nth_some {L : List ByteArray} {p : Nat} {u : ByteArray} (h : L[p]? = some u) : nth L p = u := by simp [nth, List.getD, h]
/-- Mark j of all: the member's place, the mark's number. -/
def atOf (L : List ByteArray) (j : Nat) : Int := hashT (mkText (nth L (j / 8)) (j % 8))
def prOf (L : List ByteArray) (j : Nat) : Int × Nat := (atOf L j, j / 8)
def mkOf (L : List ByteArray) (j : Nat) : Mk := (atOf L j, nth L (j / 8))
def prs (L : List ByteArray) (m : Nat) : List (Int × Nat) := (List.range m).map (prOf L)
def mks (L : List ByteArray) (m : Nat) : List Mk := (List.range m).map (mkOf L)
theorem prs_succ (L : List ByteArray) (m : Nat) : prs L (m + 1) = prs L m ++ [prOf L m] := by simp [prs, List.range_succ]
theorem mks_succ (L : List ByteArray) (m : Nat) : mks L (m + 1) = mks L m ++ [mkOf L m] := by simp [mks, List.range_succ]
theorem prs_len (L : List ByteArray) (m : Nat) : (prs L m).length = m := by simp [prs]
theorem mks_len (L : List ByteArray) (m : Nat) : (mks L m).length = m := by simp [mks]
theorem at_eq {L : List ByteArray} {p k : Nat} {u : ByteArray} (h : L[p]? = some u) (hk : k < 8) : atOf L (8 * p + k) = hashT (mkText u k) := by
  unfold atOf; rw [show (8 * p + k) / 8 = p by omega, show (8 * p + k) % 8 = k by omega, nth_some h]
theorem pr_eq {L : List ByteArray} {p k : Nat} {u : ByteArray} (h : L[p]? = some u) (hk : k < 8) : prOf L (8 * p + k) = (hashT (mkText u k), p) := by
  unfold prOf; rw [at_eq h hk, show (8 * p + k) / 8 = p by omega]
theorem mk_eq {L : List ByteArray} {p k : Nat} {u : ByteArray} (h : L[p]? = some u) (hk : k < 8) : mkOf L (8 * p + k) = (hashT (mkText u k), u) := by
  unfold mkOf; rw [at_eq h hk, show (8 * p + k) / 8 = p by omega, nth_some h]
def mkOfPr (L : List ByteArray) (x : Int × Nat) : Mk := (x.1, nth L x.2)
theorem mks_prs (L : List ByteArray) (m : Nat) : mks L m = (prs L m).map (mkOfPr L) := by
  unfold mks prs; rw [List.map_map]; rfl
theorem decDig (k : Nat) (hk : k < 8) : (Lib.decDigits k).length = 1 := by rw [Lib.decDigits_one (by omega)]; rfl
theorem mkText_size (u : ByteArray) (k : Nat) (hk : k < 8) : (mkText u k).size = u.size + 2 := by
  have := decDig k hk
  unfold mkText
  rw [ByteArray.size_append, ByteArray.size_append]
  show u.size + 1 + (Lib.decDigits k).toArray.size = _
  rw [List.size_toArray, this]

/-- The ring of L. -/
def IsRing (L : List ByteArray) (R : List Mk) : Prop := R.Perm (mks L (8 * L.length)) ∧ R.Pairwise mle
theorem ring_one {L : List ByteArray} {R R' : List Mk} (h : IsRing L R) (k : IsRing L R') : R = R' := sorted_eq _ _ (h.1.trans k.1.symm) h.2 k.2
theorem ring_len {L : List ByteArray} {R : List Mk} (h : IsRing L R) : R.length = 8 * L.length := by rw [h.1.length_eq, mks_len]

/-- Members that are right: names that rise. -/
theorem memb_len {L : List ByteArray} (h : membersB L = true) : 1 ≤ L.length ∧ L.length ≤ 12 := by
  unfold membersB at h
  simp only [Bool.and_eq_true, decide_eq_true_eq] at h
  exact ⟨h.1.1, h.1.2⟩
theorem memb_ok {L : List ByteArray} (h : membersB L = true) {k : Nat} (hk : k < L.length) : okB L k = true := by
  unfold membersB at h
  simp only [Bool.and_eq_true, decide_eq_true_eq] at h
  exact allOk_at _ hk h.2
theorem ok_name {L : List ByteArray} {k : Nat} {u : ByteArray} (h : okB L k = true) (hu : L[k]? = some u) : nameB u = true := by
  cases e : nameB u with
  | true => rfl
  | false => rw [okB_n hu e] at h; cases h
theorem memb_name {L : List ByteArray} (h : membersB L = true) {u : ByteArray} (hu : u ∈ L) : nameB u = true := by
  obtain ⟨k, hk⟩ := List.getElem?_of_mem hu
  exact ok_name (memb_ok h (List.getElem?_eq_some_iff.1 hk).1) hk
theorem name_size {u : ByteArray} (h : nameB u = true) : 1 ≤ u.size ∧ u.size ≤ 40 := by
  unfold nameB at h
  simp only [Bool.and_eq_true, decide_eq_true_eq] at h
  exact ⟨h.1.1.1, h.1.1.2⟩
theorem memb_step {L : List ByteArray} (h : membersB L = true) {j : Nat} {p u : ByteArray} (hp : L[j]? = some p) (hu : L[j + 1]? = some u) : strLt p u = true := by
  have := memb_ok h (List.getElem?_eq_some_iff.1 hu).1
  rw [okB_s hp hu, Bool.and_eq_true] at this
  exact this.2
theorem memb_rise {L : List ByteArray} (h : membersB L = true) {i : Nat} {p : ByteArray} (hp : L[i]? = some p) : ∀ (d : Nat) {u : ByteArray}, L[i + d + 1]? = some u → strLt p u = true
  | 0, u, hu => memb_step h hp hu
  | d + 1, u, hu => by
    obtain ⟨q, hq⟩ : ∃ q, L[i + d + 1]? = some q := ⟨_, List.getElem?_eq_getElem (by have := (List.getElem?_eq_some_iff.1 hu).1; omega)⟩
    exact strLt_trans (memb_rise h hp d hq) (memb_step h hq hu)

/-- The order of pairs. -/
def cfP (x y : Int × Nat) : Int := if x = y then 0 else if x.1 < y.1 then -1 else if x.1 = y.1 ∧ x.2 < y.2 then -1 else 1
def ltP (x y : Int × Nat) : Bool := decide (x.1 < y.1 ∨ (x.1 = y.1 ∧ x.2 < y.2))
theorem cfP_lt (x y : Int × Nat) : decide (cfP x y < 0) = ltP x y := by
  unfold cfP ltP
  by_cases e : x = y
  · subst e; rw [if_pos rfl]; simp
  · rw [if_neg e]
    by_cases h1 : x.1 < y.1
    · rw [if_pos h1, decide_eq_true (show (-1 : Int) < 0 by omega), decide_eq_true (.inl h1)]
    · rw [if_neg h1]
      by_cases h2 : x.1 = y.1 ∧ x.2 < y.2
      · rw [if_pos h2, decide_eq_true (show (-1 : Int) < 0 by omega), decide_eq_true (.inr h2)]
      · rw [if_neg h2, decide_eq_false (show ¬ (1 : Int) < 0 by omega), decide_eq_false (by rintro (h | h); exact h1 h; exact h2 h)]
theorem swoP : Sort.SWO ltP where
  irrefl x := by simp [ltP]
  trans x y z h1 h2 := by simp only [ltP, decide_eq_true_eq] at *; omega
  ntrans x y z h1 h2 := by simp only [ltP, decide_eq_false_iff_not] at *; omega

/-- A place more. -/
theorem toList_get {α : Type} [Inhabited α] (d : Array α) (i : Nat) (h : i < d.size) : d.toList[i]'(by simpa using h) = d[i]! := by
  simp [h]
/-- Pairs in order, of right members, are their ring. -/
theorem ring_of_pairs {L : List ByteArray} (hL : membersB L = true) {d d' : Array (Int × Nat)} (hd : d.toList = prs L (8 * L.length)) (hp : Sort.PermIn 0 d.size d d') (hs : Sort.SortedIn ltP 0 d.size d') :
    IsRing L (d'.toList.map (mkOfPr L)) ∧ (∀ x ∈ d'.toList, x.2 < L.length) ∧ d'.size = 8 * L.length := by
  obtain ⟨hz, _, hpm⟩ := hp
  have hsz : d.size = 8 * L.length := by rw [← Array.length_toList, hd, prs_len]
  have e1 : d'.extract 0 d.size = d' := by rw [← hz]; simp
  have e2 : d.extract 0 d.size = d := by simp
  rw [e1, e2, hd] at hpm
  have hin : ∀ x ∈ d'.toList, x.2 < L.length := fun x hx => by
    have hx' := hpm.mem_iff.1 hx
    unfold prs at hx'
    obtain ⟨j, hj, rfl⟩ := List.mem_map.1 hx'
    have := List.mem_range.1 hj
    show j / 8 < _
    omega
  refine ⟨⟨?_, ?_⟩, hin, by omega⟩
  · rw [mks_prs]; exact hpm.map _
  · rw [List.pairwise_map]
    rw [List.pairwise_iff_getElem]
    intro i j hi hj hij
    have hi' : i < d'.size := by simpa using hi
    have hj' : j < d'.size := by simpa using hj
    have hlt := hs i j (Nat.zero_le _) hij (by omega)
    rw [← toList_get d' i hi', ← toList_get d' j hj'] at hlt
    have ha := hin _ (List.getElem_mem hi)
    have hb := hin _ (List.getElem_mem hj)
    generalize d'.toList[i] = a at *
    generalize d'.toList[j] = b at *
    simp only [ltP, decide_eq_false_iff_not] at hlt
    by_cases e : a.1 = b.1
    · refine .inr ⟨e, ?_⟩
      show strLt (nth L b.2) (nth L a.2) = false
      by_cases e2 : a.2 = b.2
      · rw [e2]; exact strLt_irr _
      · obtain ⟨p, hp⟩ : ∃ p, L[a.2]? = some p := ⟨_, List.getElem?_eq_getElem ha⟩
        obtain ⟨u, hu⟩ : ∃ u, L[b.2]? = some u := ⟨_, List.getElem?_eq_getElem hb⟩
        rw [nth_some hp, nth_some hu]
        have hu' : L[a.2 + (b.2 - a.2 - 1) + 1]? = some u := by rw [show a.2 + (b.2 - a.2 - 1) + 1 = b.2 by omega]; exact hu
        exact strLt_ant (memb_rise hL hp _ hu')
    · exact .inl (by show a.1 < b.1; omega)
end Go.Proofs.YtkccgjeanehaiaaDoor
