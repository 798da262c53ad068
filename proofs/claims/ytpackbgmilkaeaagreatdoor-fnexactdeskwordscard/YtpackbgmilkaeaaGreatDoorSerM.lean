/-
  The tags of a series, in order, each once; and the series' text. Of no program's walk.
-/
import Derived.Test.YtpackbgmilkaeaaGreatDoorStrO
import Derived.Maps.OwnSet
import Derived.Sort.KeysCollected
import Derived.Sort.Walk0
import Derived.Lib.Join
namespace Go.Proofs.YtpackbgmilkaeaaGreatDoor
set_option linter.unusedVariables false
set_option linter.unusedSimpArgs false
open Go.ChangeShapes Go.WideShapes Go.ChangeAt Go.RowKit Go.PlainAid

def toL (b : ByteArray) : List UInt8 := b.data.toList
theorem toL_inj {a b : ByteArray} (h : toL a = toL b) : a = b := by
  cases a; cases b; simp [toL] at h; simp [h]
theorem mk_toL (b : ByteArray) : (⟨(toL b).toArray⟩ : ByteArray) = b := by cases b; simp [toL]
theorem toL_mk (l : List UInt8) : toL ⟨l.toArray⟩ = l := by simp [toL]
theorem toL_len (b : ByteArray) : (toL b).length = b.size := by unfold toL; rw [Array.length_toList]; rfl
theorem mk_app (a b : List UInt8) : (⟨a.toArray⟩ : ByteArray) ++ ⟨b.toArray⟩ = ⟨(a ++ b).toArray⟩ := by
  apply ByteArray.ext
  rw [ByteArray.data_append]
  simp
theorem lt_toL (a b : ByteArray) : strLt a b = decide (toL a < toL b) := by
  unfold strLt toL
  rw [ByteArray.toList_eq, ByteArray.toList_eq]
  exact Go.Proofs.bytesLess_eq _ _

/-- A tag put among rising ones. -/
def insT : List ByteArray → ByteArray → List ByteArray
  | [], t => [t]
  | y :: r, t => if strLt y t = true then y :: insT r t else if y = t then y :: r else t :: y :: r
def RiseT (l : List ByteArray) : Prop := l.Pairwise (fun a b => strLt a b = true)
theorem mem_insT {x t : ByteArray} : ∀ {l : List ByteArray}, x ∈ insT l t ↔ x = t ∨ x ∈ l
  | [] => by simp [insT]
  | y :: r => by
    unfold insT
    split
    · simp only [List.mem_cons, mem_insT (l := r)]
      constructor
      · rintro (h | h | h)
        · exact .inr (.inl h)
        · exact .inl h
        · exact .inr (.inr h)
      · rintro (h | h | h)
        · exact .inr (.inl h)
        · exact .inl h
        · exact .inr (.inr h)
    · split
      · rename_i h; subst h; simp
      · simp
theorem rise_insT {t : ByteArray} : ∀ {l : List ByteArray}, RiseT l → RiseT (insT l t)
  | [], _ => by simp [insT, RiseT]
  | y :: r, h => by
    obtain ⟨h1, h2⟩ := List.pairwise_cons.1 h
    unfold insT
    split
    · rename_i hy
      refine List.pairwise_cons.2 ⟨fun x hx => ?_, rise_insT h2⟩
      rcases mem_insT.1 hx with rfl | hx
      · exact hy
      · exact h1 x hx
    · rename_i hy
      split
      · exact h
      · rename_i hne
        have hty : strLt t y = true := by
          rcases strLt_tot (a := y) (b := t) (by simpa using hy) with e | e
          · exact e
          · exact absurd e hne
        refine List.pairwise_cons.2 ⟨fun x hx => ?_, h⟩
        rcases List.mem_cons.1 hx with rfl | hx
        · exact hty
        · exact strLt_trans hty (h1 x hx)
def serK (L : List ByteArray) : List ByteArray := L.foldl insT []
theorem fold_rise : ∀ (L l : List ByteArray), RiseT l → RiseT (L.foldl insT l)
  | [], l, h => h
  | t :: r, l, h => fold_rise r (insT l t) (rise_insT h)
theorem fold_mem (x : ByteArray) : ∀ (L l : List ByteArray), x ∈ L.foldl insT l ↔ x ∈ L ∨ x ∈ l
  | [], l => by simp
  | t :: r, l => by
    rw [List.foldl_cons, fold_mem x r, mem_insT, List.mem_cons]
    constructor
    · rintro (h | h | h)
      · exact .inl (.inr h)
      · exact .inl (.inl h)
      · exact .inr h
    · rintro ((h | h) | h)
      · exact .inr (.inl h)
      · exact .inl h
      · exact .inr (.inr h)
theorem serK_rise (L : List ByteArray) : RiseT (serK L) := fold_rise L [] List.Pairwise.nil
theorem mem_serK {L : List ByteArray} {x : ByteArray} : x ∈ serK L ↔ x ∈ L := by unfold serK; rw [fold_mem]; simp
theorem insT_len (t : ByteArray) : ∀ l : List ByteArray, (insT l t).length ≤ l.length + 1
  | [] => by simp [insT]
  | y :: r => by
    unfold insT
    have := insT_len t r
    split
    · simp; omega
    · split <;> simp
theorem fold_len : ∀ (L l : List ByteArray), (L.foldl insT l).length ≤ l.length + L.length
  | [], l => by simp
  | t :: r, l => by
    have h1 := fold_len r (insT l t)
    have h2 := insT_len t l
    simp only [List.foldl_cons, List.length_cons]; omega
theorem serK_len (L : List ByteArray) : (serK L).length ≤ L.length := by have := fold_len L []; simpa [serK] using this
theorem rise_nodup {l : List ByteArray} (h : RiseT l) : l.Nodup := h.imp (fun {a b} hab e => by subst e; rw [strLt_irr] at hab; cases hab)
theorem riseT_one {l m : List ByteArray} (h : RiseT l) (k : RiseT m) (hm : ∀ x, x ∈ l ↔ x ∈ m) : l = m := by
  have hp : l.Perm m := (List.perm_ext_iff_of_nodup (rise_nodup h) (rise_nodup k)).2 hm
  refine hp.eq_of_pairwise (le := fun a b => strLt a b = true) (fun a b _ _ h1 h2 => ?_) h k
  rw [strLt_ant h1] at h2; cases h2
/-- The order in which tags come, and how often, does not matter. -/
theorem serK_same {L M : List ByteArray} (h : ∀ x, x ∈ L ↔ x ∈ M) : serK L = serK M := riseT_one (serK_rise L) (serK_rise M) (fun x => by rw [mem_serK, mem_serK]; exact h x)

/-- The set of the tags, and its keys in order. -/
def litT (t : ByteArray) : Lit := .string (toL t)
def setT (L : List ByteArray) : DataW Unit := Go.Maps.setOf (.agg []) (L.map litT)
theorem setT_snoc (L : List ByteArray) (t : ByteArray) : setT (L ++ [t]) = (setT L).put (litT t) (.agg []) := by unfold setT; rw [List.map_append]; exact Go.Maps.setOf_snoc _ _ _
theorem litT_key (L : List ByteArray) : ∀ x ∈ L.map litT, WideAt.IsKeyLit x := fun x hx => by
  obtain ⟨t, _, rfl⟩ := List.mem_map.1 hx; exact trivial
theorem keys_perm (L : List ByteArray) (hk : ∃ es, setT L = .map es ∧ ∀ p ∈ es, ∃ x, p.1 = Lit.string x) : ((serK L).map toL).Perm (Go.strKeys (setT L)) := by
  obtain ⟨es, e, hs⟩ := hk
  obtain ⟨es', e', hp⟩ := Go.Maps.tidy_setOf (H := Unit) (.agg []) (L.map litT) (litT_key L)
  have e' : setT L = .map es' := e'
  obtain rfl : es = es' := by rw [e] at e'; simpa using e'
  rw [e]
  refine Go.perm_strKeys hp hs ?_ (fun x => ?_)
  · exact List.pairwise_map.2 ((rise_nodup (serK_rise L)).imp (fun {a b} hne h => hne (toL_inj h)))
  · have hh := Go.Maps.has_setOf (H := Unit) (.agg []) (.string x) (L.map litT) (litT_key L)
    have hh : Go.Maps.has (setT L) (.string x) = (L.map litT).any (fun y => y.sameKey (.string x)) := hh
    rw [← e, hh, List.any_eq_true, List.mem_map]
    constructor
    · rintro ⟨t, ht, rfl⟩
      exact ⟨litT t, List.mem_map.2 ⟨t, mem_serK.1 ht, rfl⟩, by simp [litT, Lit.sameKey]⟩
    · rintro ⟨y, hy, hs⟩
      obtain ⟨t, ht, rfl⟩ := List.mem_map.1 hy
      exact ⟨t, mem_serK.2 ht, by simpa [litT, Lit.sameKey] using hs⟩
theorem keys_sorted {L : List ByteArray} (hk : ∃ es, setT L = .map es ∧ ∀ p ∈ es, ∃ x, p.1 = Lit.string x) {ss : List (List UInt8)} (h : ss.Perm (Go.strKeys (setT L))) :
    ss.mergeSort (fun x y => decide (x ≤ y)) = (serK L).map toL ∧ ss.length = (serK L).length ∧ Go.Maps.size (setT L) = (serK L).length := by
  have hp := h.trans (keys_perm L hk).symm
  have hl := hp.length_eq
  rw [List.length_map] at hl
  refine ⟨?_, hl, ?_⟩
  · have e := Go.mergeSort_of_perm hp
    have e2 : ((serK L).map toL).mergeSort Go.leB = (serK L).map toL := by
      refine List.mergeSort_of_pairwise ?_
      refine List.pairwise_map.2 ((serK_rise L).imp (fun {a b} hab => ?_))
      rw [lt_toL] at hab
      have hab := of_decide_eq_true hab
      exact decide_eq_true (List.le_of_lt hab)
    exact e.trans e2
  · have h2 := (keys_perm L hk).length_eq
    rw [List.length_map] at h2
    rw [h2]
    obtain ⟨es, e, _⟩ := hk
    rw [e]; simp [Go.Maps.size, Go.strKeys]

/-- The text of a series. -/
def joinT (K : List ByteArray) : List UInt8 := Lib.join (K.map toL) [44]
theorem joinT_nil : joinT [] = [] := rfl
theorem joinT_one (x : ByteArray) : joinT [x] = toL x := Lib.join_one _ _
theorem tail_snoc (sep : List UInt8) (r : List (List UInt8)) (x : List UInt8) : Lib.joinTail sep (r ++ [x]) = Lib.joinTail sep r ++ (sep ++ x) := by simp [Lib.joinTail]
theorem joinT_snoc {K : List ByteArray} (h : K ≠ []) (x : ByteArray) : joinT (K ++ [x]) = joinT K ++ [44] ++ toL x := by
  cases K with
  | nil => exact absurd rfl h
  | cons y r =>
    unfold joinT
    rw [List.cons_append, List.map_cons, List.map_cons, Lib.join_cons, Lib.join_cons, List.map_append, List.map_cons, List.map_nil, tail_snoc]
    simp
theorem joinT_len {m : Nat} : ∀ {K : List ByteArray}, (∀ x ∈ K, x.size ≤ m) → (joinT K).length ≤ K.length * (m + 1) := by
  have ht : ∀ r : List ByteArray, (∀ x ∈ r, x.size ≤ m) → (Lib.joinTail [44] (r.map toL)).length ≤ r.length * (m + 1) := by
    intro r
    induction r with
    | nil => intro _; simp [Lib.joinTail]
    | cons y r ih =>
      intro h
      have h1 := h y List.mem_cons_self
      have h2 := ih (fun x hx => h x (List.mem_cons_of_mem _ hx))
      have e : Lib.joinTail [44] ((y :: r).map toL) = 44 :: toL y ++ Lib.joinTail [44] (r.map toL) := by simp [Lib.joinTail]
      rw [e]
      simp only [List.length_append, List.length_cons, toL_len, Nat.add_mul]
      omega
  intro K h
  cases K with
  | nil => simp [joinT, Lib.join]
  | cons y r =>
    have h1 := h y List.mem_cons_self
    have h2 := ht r (fun x hx => h x (List.mem_cons_of_mem _ hx))
    unfold joinT
    rw [List.map_cons, Lib.join_cons]
    simp only [List.length_append, List.length_cons, toL_len, Nat.add_mul]
    omega
def headT (name : ByteArray) (K : List ByteArray) : List UInt8 := toL name ++ [123] ++ joinT K
def serT (name : ByteArray) (K : List ByteArray) : ByteArray := ⟨(headT name K ++ [125]).toArray⟩
theorem serT_size (name : ByteArray) (K : List ByteArray) : (serT name K).size = name.size + (joinT K).length + 2 := by
  rw [← toL_len, serT, toL_mk]; simp [headT, toL_len]; omega
/-- The series of a right name and right tags: the empty text, if there is none. -/
def serF (name : ByteArray) (L : List ByteArray) : ByteArray := if 8 < (serK L).length ∨ 100 < (serT name (serK L)).size then ByteArray.empty else serT name (serK L)
end Go.Proofs.YtpackbgmilkaeaaGreatDoor
