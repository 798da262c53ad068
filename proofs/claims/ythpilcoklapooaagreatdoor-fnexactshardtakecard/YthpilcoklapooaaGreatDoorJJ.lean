/-
  slices.Sorted(maps.Keys(m)) at a map keyed by uint64 with at most forty entries: the keys in rising order, each once.
-/
import Derived.Test.YthpilcoklapooaaGreatDoorJF
import Derived.Test.YthpilcoklapooaaGreatDoorJA
import Derived.RangeFuncNested
import Derived.RangeFuncBound
import Derived.RangeFuncCalls
import Derived.RangeFuncLeaves
import Derived.Shelf.Abstract
import Derived.Shelf.RegionOpen
import Derived.WalkKit
import Derived.OwnWalkIn
import Derived.TacticsInMore
import Derived.LoopNIn
import Derived.LoopIn
import Derived.RegionIn
import Derived.Sort.MapsRangeIn
import Derived.Sort.EveryDepth
import Derived.Maps.AppendAt
import Derived.Maps.RangeWalk
import Derived.Maps.OwnSet
import Derived.Test.YthpilcoklapooaaGreatDoorJB
import Derived.Test.YthpilcoklapooaaGreatDoorKF
import Derived.Lib.BitFns
import Derived.Maps.Own
import Derived.Maps.Views
import Derived.Maps.Keyed
import Derived.Carry
namespace Go.Proofs.YthpilcoklapooaaGreatDoor
set_option linter.unusedVariables false
set_option linter.unusedSimpArgs false
open Go.RowKit Go.Shelf Go.Maps
attribute [local go_sem] Oper.semAt_some

/-- What has come so far: no key twice; a key of the map, and no longer to come. -/
def CollU {H : Type} (D : DataW H) (left : Lit → Bool) (ss : List Int) : Prop := ss.Nodup ∧ ∀ x, x ∈ ss ↔ (has D (.int .u64 x) = true ∧ left (.int .u64 x) = false)
theorem CollU.start {H : Type} (D : DataW H) : CollU D (has D) [] := ⟨List.nodup_nil, fun x => by cases has D (.int .u64 x) <;> simp⟩
theorem CollU.step {H : Type} {D : DataW H} {left : Lit → Bool} {ss : List Int} (h : CollU D left ss) {x : Int} {y : DataW H} (hl : left (.int .u64 x) = true) (hat : ∀ zd, D.atKey (.int .u64 x) zd = y) : CollU D (fun z => left z && !z.sameKey (.int .u64 x)) (ss ++ [x]) := by
  have hh : has D (.int .u64 x) = true := has_true_of_atKey hat
  have hn : x ∉ ss := fun hx => by have := ((h.2 x).1 hx).2; rw [hl] at this; cases this
  refine ⟨List.nodup_append.2 ⟨h.1, by simp, fun a ha b hb => ?_⟩, fun y => ?_⟩
  · simp at hb; subst hb; exact fun e => hn (e ▸ ha)
  · by_cases hy : y = x
    · subst hy; simp [hh, Lit.sameKey]
    · simp [h.2 y, hy, Lit.sameKey]
/-- All keys, each once, in some order. -/
def KeysU {H : Type} (D : DataW H) (ss : List Int) : Prop := ss.Nodup ∧ ∀ x, x ∈ ss ↔ has D (.int .u64 x) = true

/-- Between two rounds: the box holds a slice of what has come. -/
def HoldU (w : World) (pre : List Int) (W : World) : Prop := (∃ v, Boxed W w.heap.size 29 v ∧ W.ownsRow w.heap.size 23 1 v pre.length (pre.map (Value.int .u64)) ∧ (v = .slice none 0 0 ↔ pre = [])) ∧ Below w.heap.size w W
end Go.Proofs.YthpilcoklapooaaGreatDoor

/-
  slices.Sorted(maps.Keys(m)) at a map keyed by uint64 with at most forty entries: the keys in rising order, each once.
-/
namespace Go.Proofs.YthpilcoklapooaaGreatDoor
set_option linter.unusedVariables false
set_option linter.unusedSimpArgs false
open Go.ChangeShapes Go.WideShapes Go.ChangeAt Go.RowKit Go.PlainAid Go.Maps
open Go.Sort (ltInt PermIn SortedIn)
set_option maxRecDepth 10000

/-- Rising, and the very keys of the map. -/
def RiseU {H : Type} (D : DataW H) (L : List Int) : Prop := L.Pairwise (· < ·) ∧ ∀ x, x ∈ L ↔ has D (.int .u64 x) = true
end Go.Proofs.YthpilcoklapooaaGreatDoor

/-
  Hashes brought together: rising lists, and a map of them with what each lays. laidOf and laidBy of the program.
-/
namespace Go.Proofs.YthpilcoklapooaaGreatDoor
set_option linter.unusedVariables false
set_option linter.unusedSimpArgs false
open Go.ChangeShapes Go.WideShapes Go.ChangeAt Go.RowKit Go.PlainAid Go.Maps
set_option maxRecDepth 10000

/-- A hash among rising ones. -/
def insU : List Int → Int → List Int
  | [], x => [x]
  | y :: r, x => if y < x then y :: insU r x else if y = x then y :: r else x :: y :: r
theorem mem_insU (z : Int) : ∀ (l : List Int) (x : Int), z ∈ insU l x ↔ z = x ∨ z ∈ l
  | [], x => by simp [insU]
  | y :: r, x => by
    unfold insU
    split
    · simp only [List.mem_cons, mem_insU z r x]
      constructor
      · rintro (h | h | h) <;> simp [h]
      · rintro (h | h | h) <;> simp [h]
    · split
      · rename_i e; subst e; simp
      · simp
theorem len_insU : ∀ (l : List Int) (x : Int), l.Pairwise (· < ·) → (insU l x).length = l.length + (if x ∈ l then 0 else 1)
  | [], x, _ => by simp [insU]
  | y :: r, x, h => by
    have hr := List.pairwise_cons.1 h
    unfold insU
    split
    · rename_i hlt
      rw [List.length_cons, len_insU r x hr.2]
      have : x ∈ y :: r ↔ x ∈ r := by simp; intro e; omega
      by_cases hx : x ∈ r
      · rw [if_pos hx, if_pos (this.2 hx)]; simp
      · rw [if_neg hx, if_neg (fun k => hx (this.1 k))]; simp
    · split
      · rename_i e; subst e; simp
      · rename_i h1 h2
        have : x ∉ y :: r := by
          simp only [List.mem_cons, not_or]
          exact ⟨fun e => h2 e.symm, fun hm => by have := hr.1 x hm; omega⟩
        rw [if_neg this]; simp
theorem rise_insU : ∀ (l : List Int) (x : Int), l.Pairwise (· < ·) → (insU l x).Pairwise (· < ·)
  | [], x, _ => by simp [insU]
  | y :: r, x, h => by
    have hr := List.pairwise_cons.1 h
    unfold insU
    split
    · rename_i hlt
      refine List.pairwise_cons.2 ⟨fun z hz => ?_, rise_insU r x hr.2⟩
      rcases (mem_insU z r x).1 hz with h' | h'
      · omega
      · exact hr.1 z h'
    · split
      · exact h
      · rename_i h1 h2
        refine List.pairwise_cons.2 ⟨fun z hz => ?_, h⟩
        rcases List.mem_cons.1 hz with h' | h'
        · omega
        · have := hr.1 z h'; omega
/-- Two rising lists with the same members are one. -/
theorem rise_ext : ∀ (l m : List Int), l.Pairwise (· < ·) → m.Pairwise (· < ·) → (∀ z, z ∈ l ↔ z ∈ m) → l = m
  | [], [], _, _, _ => rfl
  | [], y :: r, _, _, h => absurd ((h y).2 (by simp)) (by simp)
  | x :: l, [], _, _, h => absurd ((h x).1 (by simp)) (by simp)
  | x :: l, y :: m, hl, hm, h => by
    have a := List.pairwise_cons.1 hl
    have b := List.pairwise_cons.1 hm
    have e : x = y := by
      have h1 := (h x).1 (by simp)
      have h2 := (h y).2 (by simp)
      rcases List.mem_cons.1 h1 with h1 | h1
      · exact h1
      · rcases List.mem_cons.1 h2 with h2 | h2
        · exact h2.symm
        · have := b.1 x h1; have := a.1 y h2; omega
    subst e
    rw [rise_ext l m a.2 b.2 (fun z => ?_)]
    constructor
    · intro hz
      rcases List.mem_cons.1 ((h z).1 (by simp [hz])) with h' | h'
      · have := a.1 z hz; omega
      · exact h'
    · intro hz
      rcases List.mem_cons.1 ((h z).2 (by simp [hz])) with h' | h'
      · have := b.1 z hz; omega
      · exact h'
def uniU (l m : List Int) : List Int := m.foldl insU l
/-- What a hash lays. -/
def rho (x : Int) : Int := min (64 - (Lib.bitLen (IntKind.u64.wrap (x * 64)).toNat : Int) + 1) 55
theorem bitAux_le : ∀ (f x : Nat), Lib.bitLenAux f x ≤ f
  | 0, x => by simp [Lib.bitLenAux]
  | f + 1, x => by
    unfold Lib.bitLenAux
    split
    · omega
    · have := bitAux_le f (x / 2); omega
theorem bitLen_le64 (x : Nat) : Lib.bitLen x ≤ 64 := bitAux_le 64 x
theorem rho_rng (x : Int) : 1 ≤ rho x ∧ rho x ≤ 55 := by
  unfold rho
  have := bitLen_le64 (IntKind.u64.wrap (x * 64)).toNat
  omega
/-- A map that has the hashes of a rising list, each with what it lays. -/
def MpU (W : World) (b : Nat) (n : Nat) (L : List Int) : Prop := L.Pairwise (· < ·) ∧ ∃ D : DataW Unit, W.ownsMap Tryz.prog 23 (plainElem Tryz.prog 2) b n D ∧ (∀ x, has D (.int .u64 x) = true ↔ x ∈ L) ∧ Maps.size D = L.length ∧ ∀ x ∈ L, ∀ z, D.atKey (.int .u64 x) z = .lit (.int .i64 (rho x))
theorem MpU.start (w : World) : MpU (w.alloc (.map #[] 0)) w.heap.size 0 [] :=
  ⟨List.Pairwise.nil, .map [], World.ownsMap_made w Tryz.prog 23 (plainElem Tryz.prog 2), fun x => by simp [has_eq], rfl, fun x hx => absurd hx (by simp)⟩
theorem keyU : Keyed Tryz.prog 23 := int_keyed Tryz.underlying23
/-- What a put makes of the datum. -/
theorem put_facts {D : DataW Unit} {L : List Int} (hr : L.Pairwise (· < ·)) (hT : Tidy D) (h1 : ∀ x, has D (.int .u64 x) = true ↔ x ∈ L) (h2 : Maps.size D = L.length) (h3 : ∀ x ∈ L, ∀ z, D.atKey (.int .u64 x) z = .lit (.int .i64 (rho x))) (y : Int) :
    (∀ x, has (D.put (.int .u64 y) (.lit (.int .i64 (rho y)))) (.int .u64 x) = true ↔ x ∈ insU L y) ∧ Maps.size (D.put (.int .u64 y) (.lit (.int .i64 (rho y)))) = (insU L y).length ∧ ∀ x ∈ insU L y, ∀ z, (D.put (.int .u64 y) (.lit (.int .i64 (rho y)))).atKey (.int .u64 x) z = .lit (.int .i64 (rho x)) := by
  have hk : WideAt.IsKeyLit (.int .u64 y) := trivial
  refine ⟨fun x => ?_, ?_, fun x hx z => ?_⟩
  · by_cases e : x = y
    · subst e; rw [has_put_same hT.isMap hk]; simp [mem_insU]
    · rw [has_put_other (by intro h; exact e (by injection h))]
      rw [h1, mem_insU]; simp [e]
  · rw [size_put hT, len_insU L y hr, h2]
    by_cases e : y ∈ L
    · rw [if_pos ((h1 y).2 e), if_pos e]; first | rfl | omega
    · rw [if_neg (fun k => e ((h1 y).1 k)), if_neg e]
  · by_cases e : x = y
    · subst e; exact atKey_put_same hT.isMap hk _ z
    · rw [atKey_put_other (by intro h; exact e (by injection h))]
      rcases (mem_insU x L y).1 hx with h | h
      · exact absurd h e
      · exact h3 x h z
end Go.Proofs.YthpilcoklapooaaGreatDoor

/-
  laidBy of the program: a map of the hashes of two lists, each once, with what it lays.
-/
namespace Go.Proofs.YthpilcoklapooaaGreatDoor
set_option linter.unusedVariables false
set_option linter.unusedSimpArgs false
open Go.ChangeShapes Go.WideShapes Go.ChangeAt Go.RowKit Go.PlainAid Go.Maps
set_option maxRecDepth 10000

theorem MpU.grow {w w1 : World} {b n : Nat} {L : List Int} (h : MpU w b n L) {y : Int} {D : DataW Unit} (hown : w.ownsMap Tryz.prog 23 (plainElem Tryz.prog 2) b n D) (h1 : ∀ x, has D (.int .u64 x) = true ↔ x ∈ L) (h2 : Maps.size D = L.length) (h3 : ∀ x ∈ L, ∀ z, D.atKey (.int .u64 x) z = .lit (.int .i64 (rho x))) (hown1 : w1.ownsMap Tryz.prog 23 (plainElem Tryz.prog 2) b (n + 1) (D.put (.int .u64 y) (.lit (.int .i64 (rho y))))) : MpU w1 b (n + 1) (insU L y) := by
  obtain ⟨q1, q2, q3⟩ := put_facts h.1 (hown.tidy keyU) h1 h2 h3 y
  exact ⟨rise_insU L y h.1, _, hown1, q1, q2, q3⟩
end Go.Proofs.YthpilcoklapooaaGreatDoor
