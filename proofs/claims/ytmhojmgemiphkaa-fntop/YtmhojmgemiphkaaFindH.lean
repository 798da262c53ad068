/-
  Finding a key among heavies, as the program does: strings.Compare, the closure, the search.
-/
import Derived.Test.YtmhojmgemiphkaaTopR
import Derived.Lib.Bytealg
import Derived.Lib.Walk
namespace Go.Proofs.Ytmhojmgemiphkaa
set_option linter.unusedVariables false
set_option linter.unusedSimpArgs false
open Go.ChangeShapes Go.WideShapes Go.ChangeAt Go.RowKit Go.PlainAid
set_option maxRecDepth 10000

/-- -1, 0, 1. -/
def cmpS (a b : ByteArray) : Int := Lib.compareBytes a.data.toList b.data.toList
theorem cmpB_lt : ∀ a b : List UInt8, decide (Lib.compareBytes a b < 0) = Op.bytesLess a b
  | [], [] => by simp [Lib.compareBytes, Op.bytesLess]
  | [], _ :: _ => by simp [Lib.compareBytes, Op.bytesLess]
  | _ :: _, [] => by simp [Lib.compareBytes, Op.bytesLess]
  | a :: x, b :: y => by
    unfold Lib.compareBytes Op.bytesLess
    by_cases h : a < b
    · simp [h]
    · by_cases h2 : b < a
      · have : a ≠ b := fun e => by subst e; exact h h2
        simp [h, h2, this]
      · have e : a = b := by
          simp only [UInt8.lt_iff_toNat_lt] at h h2
          exact UInt8.toNat_inj.1 (by omega)
        simp [h, h2, e, cmpB_lt x y]
theorem cmpB_zero : ∀ a b : List UInt8, Lib.compareBytes a b = 0 → a = b
  | [], [], _ => rfl
  | [], _ :: _, h => by simp [Lib.compareBytes] at h
  | _ :: _, [], h => by simp [Lib.compareBytes] at h
  | a :: x, b :: y, h => by
    unfold Lib.compareBytes at h
    by_cases h1 : a < b
    · simp [h1] at h
    · by_cases h2 : b < a
      · simp [h1, h2] at h
      · have e : a = b := by
          simp only [UInt8.lt_iff_toNat_lt] at h1 h2
          exact UInt8.toNat_inj.1 (by omega)
        simp [h1, h2] at h
        rw [e, cmpB_zero x y h]
theorem cmpB_same : ∀ a : List UInt8, Lib.compareBytes a a = 0
  | [] => rfl
  | a :: x => by
    unfold Lib.compareBytes
    rw [if_neg (UInt8.lt_irrefl _), if_neg (UInt8.lt_irrefl _), cmpB_same x]
theorem cmpS_lt (a b : ByteArray) : decide (cmpS a b < 0) = strLt a b := by
  unfold cmpS strLt; rw [ByteArray.toList_eq, ByteArray.toList_eq]; exact cmpB_lt _ _
theorem cmpS_eq (a b : ByteArray) : (cmpS a b == 0) = true ↔ a = b := by
  constructor
  · intro h
    have h := cmpB_zero _ _ (beq_iff_eq.1 h)
    cases a; cases b
    simp at h; simp [h]
  · rintro rfl
    exact beq_iff_eq.2 (cmpB_same _)

set_option maxHeartbeats 1000000 in
set_option maxRecDepth 100000 in
theorem c_CompareString (a b : ByteArray) (w : World) :
    Calls Try.prog 58 #[.string a, .string b] w fun e w' => e = .returned (.int .i64 (cmpS a b)) ∧ w' = w := by
  go_enter Try.func58, Try.ntmps58
  go_wp2
  rw [run_callFunc_extern Try.func63 (by kernel_rfl) (by kernel_rfl) (by kernel_rfl) (e := Extern.BytealgCompare.compare) (by kernel_rfl), Lib.run_compareString]
  simp only [Result.andThen]
  rw [Oper.upon_value]
  go_wp2
  go_ret
  exact ⟨rfl, rfl⟩
theorem c_Compare (a b : ByteArray) (w : World) :
    Calls Try.prog 53 #[.string a, .string b] w fun e w' => e = .returned (.int .i64 (cmpS a b)) ∧ w' = w := by
  go_enter Try.func53, Try.ntmps53
  go_wp2_with (go_at_call 58; refine (c_CompareString _ _ _).mono ?_; rintro e w' ⟨rfl, rfl⟩)
  go_ret
  exact ⟨rfl, rfl⟩
theorem c_find1 (a b : ByteArray) (c : Int) (w : World) :
    Calls Try.prog 52 #[.agg #[.string a, .int .i64 c], .string b] w fun e w' => e = .returned (.int .i64 (cmpS a b)) ∧ Below w.heap.size w w' := by
  go_enter Try.func52, Try.ntmps52
  go_wp2_with (go_at_call 53; refine (c_Compare _ _ _).mono ?_; rintro e w' ⟨rfl, rfl⟩)
  go_ret
  exact ⟨rfl, (Below.refl _ _).alloc (Nat.le_refl _) _⟩

/-- Keys that rise. -/
def RiseH (L : List Hv) : Prop := ∀ (i j : Nat) (x y : Hv), L[i]? = some x → L[j]? = some y → i < j → strLt x.1 y.1 = true
/-- Where a key stands in a list that rises. -/
def PosH (L : List Hv) (p : ByteArray) (i : Nat) : Prop := i ≤ L.length ∧ (∀ (t : Nat) (x : Hv), L[t]? = some x → t < i → strLt x.1 p = true) ∧ (∀ (t : Nat) (x : Hv), L[t]? = some x → i ≤ t → strLt x.1 p = false)

set_option maxHeartbeats 2000000 in
theorem c_searchH {w : World} {n c : Nat} {ao : Option Addr} {L : List Hv} (p : ByteArray) (hn : n = L.length) (hl : n ≤ 1000) (hL : RiseH L) (hO : HvsAt w ao L) :
    Calls Try.prog 51 #[.slice ao n c, .string p, .func (.func 52) #[] #[]] w fun e w' => ∃ (i : Nat) (f : Bool), e = .returned (.tuple #[.int .i64 i, .bool f]) ∧ PosH L p i ∧ (f = true ↔ ∃ x, L[i]? = some x ∧ x.1 = p) ∧ Below w.heap.size w w' := by
  have HO := hide hO
  have HN := hide hn
  have HL := hide hL
  clear hO hn hL
  go_enter Try.func51, Try.ntmps51
  go_wp2
  go_loopw [9, 10] (fun i j wr => Below w.heap.size w wr ∧ ∃ (s t : Nat), s ≤ t ∧ t ≤ n ∧ i = .int .i64 s ∧ j = .int .i64 t ∧ Hid (∀ q x, L[q]? = some x → q < s → strLt x.1 p = true) ∧ Hid (∀ q x, L[q]? = some x → t ≤ q → strLt x.1 p = false)) (fun i j wr => (intOf j).toNat - (intOf i).toNat)
  case atStart => exact ⟨Below.refl _ _, 0, n, Nat.zero_le _, Nat.le_refl _, rfl, rfl, (fun q x h k => absurd k (by omega) : ∀ q x, L[q]? = some x → q < 0 → strLt x.1 p = true), (fun q x h k => absurd (List.getElem?_eq_some_iff.1 h).1 (by have := HN.out; omega) : ∀ q x, L[q]? = some x → n ≤ q → strLt x.1 p = false)⟩
  case round =>
    obtain ⟨hbel, s, t, hst, htn, rfl, rfl, H1, H2⟩ := hrel
    have HB := hide hbel
    by_cases hlt : s < t
    · obtain ⟨m, hm⟩ : ∃ m : Nat, (s + t) / 2 = m := ⟨_, rfl⟩
      obtain ⟨⟨a, u⟩, hRk⟩ : ∃ a, L[m]? = some a := ⟨L[m]'(by have := HN.out; omega), List.getElem?_eq_getElem _⟩
      obtain ⟨b, off, rfl, hcell⟩ := HO.out (by have := HN.out; omega)
      have hc0 := cell_past hbel (hcell m _ hRk).1
      have hc1 := cell_past hbel (hcell m _ hRk).2
      have hms : s ≤ m ∧ m < t := by omega
      have HR := hide hRk
      clear hbel hRk hcell
      have e1 : ((s : Int) + (t : Int)) / 2 = (m : Int) := by omega
      clear hm
      cases hap : strLt a p with
      | true =>
        have d1 : decide (cmpS a p < 0) = true := by rw [cmpS_lt, hap]
        have HX : Hid (∀ q x, L[q]? = some x → q < m + 1 → strLt x.1 p = true) := (fun q x h k => by
          by_cases e : q = m
          · subst e; rw [HR.out] at h; obtain rfl := Option.some.inj h; exact hap
          · exact strLt_trans (HL.out q m x _ h HR.out (by omega)) hap : ∀ q x, L[q]? = some x → q < m + 1 → strLt x.1 p = true)
        clear hap
        go_wp2_with (go_at_call 52; refine (c_find1 _ _ _ _).mono ?_; rintro e w1 ⟨rfl, hb1⟩; have HB1 := hide hb1; clear hb1)
        go_roundw
        case rel => exact ⟨chain HB.out HB1.out, m + 1, t, by omega, by omega, by go_num, rfl, HX, H2⟩
        case measure => simp [intOf]; omega
      | false =>
        have d1 : decide (cmpS a p < 0) = false := by rw [cmpS_lt, hap]
        have HX : Hid (∀ q x, L[q]? = some x → m ≤ q → strLt x.1 p = false) := (fun q x h k => by
          by_cases e : q = m
          · subst e; rw [HR.out] at h; obtain rfl := Option.some.inj h; exact hap
          · cases e2 : strLt x.1 p with
            | false => rfl
            | true => have := strLt_trans (HL.out m q _ x HR.out h (by omega)) e2; rw [show strLt a p = false from hap] at this; exact absurd this (by decide) : ∀ q x, L[q]? = some x → m ≤ q → strLt x.1 p = false)
        clear hap
        go_wp2_with (go_at_call 52; refine (c_find1 _ _ _ _).mono ?_; rintro e w1 ⟨rfl, hb1⟩; have HB1 := hide hb1; clear hb1)
        go_roundw
        case rel => exact ⟨chain HB.out HB1.out, s, m, by omega, by omega, rfl, rfl, H1, HX⟩
        case measure => simp [intOf]; omega
    · have est : s = t := by omega
      subst est
      have HP : Hid (PosH L p s) := (⟨by have := HN.out; omega, fun q x h k => H1.out q x h k, fun q x h k => H2.out q x h k⟩ : PosH L p s)
      by_cases hsn : s < n
      · obtain ⟨⟨a, u⟩, hRk⟩ : ∃ a, L[s]? = some a := ⟨L[s]'(by have := HN.out; omega), List.getElem?_eq_getElem _⟩
        obtain ⟨b, off, rfl, hcell⟩ := HO.out (by have := HN.out; omega)
        have hc0 := cell_past hbel (hcell s _ hRk).1
        have hc1 := cell_past hbel (hcell s _ hRk).2
        have HF : Hid ((cmpS a p == 0) = true ↔ ∃ x, L[s]? = some x ∧ x.1 = p) := by
          refine (?_ : (cmpS a p == 0) = true ↔ ∃ x, L[s]? = some x ∧ x.1 = p)
          rw [hRk, cmpS_eq]
          constructor
          · intro h
            exact ⟨_, rfl, h⟩
          · rintro ⟨x, h, hx⟩
            obtain rfl := Option.some.inj h
            exact hx
        clear hbel hRk hcell
        go_wp2_with (go_at_call 52; refine (c_find1 _ _ _ _).mono ?_; rintro e w1 ⟨rfl, hb1⟩; have HB1 := hide hb1; clear hb1)
        go_ret2
        exact ⟨s, _, rfl, HP.out, HF.out, chain HB.out HB1.out⟩
      · have HF : Hid (false = true ↔ ∃ x, L[s]? = some x ∧ x.1 = p) := (⟨fun h => (by cases h), fun ⟨x, h, _⟩ => absurd (List.getElem?_eq_some_iff.1 h).1 (by have := HN.out; omega)⟩ : false = true ↔ ∃ x, L[s]? = some x ∧ x.1 = p)
        clear hbel
        go_wp2
        go_ret2
        exact ⟨s, _, rfl, HP.out, HF.out, HB.out⟩

theorem c_find {w : World} {n c : Nat} {ao : Option Addr} {L : List Hv} (p : ByteArray) (hn : n = L.length) (hl : n ≤ 1000) (hL : RiseH L) (hO : HvsAt w ao L) :
    Calls Try.prog 36 #[.slice ao n c, .string p] w fun e w' => ∃ (i : Nat) (f : Bool), e = .returned (.tuple #[.int .i64 i, .bool f]) ∧ PosH L p i ∧ (f = true ↔ ∃ x, L[i]? = some x ∧ x.1 = p) ∧ Below w.heap.size w w' := by
  have HO := hide hO
  have HN := hide hn
  clear hO hn
  go_enter Try.func36, Try.ntmps36
  go_wp2_with fail
  refine (c_searchH p HN.out hl hL HO.out).mono ?_
  rintro e w1 ⟨i, f, rfl, h1, h2, hb⟩
  have HR := hide (And.intro h1 (And.intro h2 hb))
  clear h1 h2 hb
  go_wp2
  go_ret2
  exact ⟨i, f, rfl, HR.out.1, HR.out.2.1, HR.out.2.2⟩
end Go.Proofs.Ytmhojmgemiphkaa
