/-
  CellsSame of the program and of the model.
-/
import Derived.Test.YtalmhekbagjdeaaGreatDoorCeD
namespace Go.Proofs.YtalmhekbagjdeaaGreatDoor
set_option linter.unusedVariables false
set_option linter.unusedSimpArgs false
open Go.ChangeShapes Go.WideShapes Go.ChangeAt Go.RowKit Go.PlainAid Go.Lib
set_option maxRecDepth 10000

def sameC (c d : Ce) : Bool := ((c.n == d.n) && (c.s.toList == d.s.toList)) && sameA c.g d.g
def sameCs : List Ce → List Ce → Bool
  | [], [] => true
  | c :: L, d :: M => sameC c d && sameCs L M
  | _, _ => false
theorem sameCs_drop {L M : List Ce} {k : Nat} {c d : Ce} (hc : L[k]? = some c) (hd : M[k]? = some d) : sameCs (L.drop k) (M.drop k) = (sameC c d && sameCs (L.drop (k + 1)) (M.drop (k + 1))) := by
  have h1 := (List.getElem?_eq_some_iff.1 hc).1
  have h2 := (List.getElem?_eq_some_iff.1 hd).1
  rw [List.drop_eq_getElem_cons h1, List.drop_eq_getElem_cons h2, (List.getElem?_eq_some_iff.1 hc).2, (List.getElem?_eq_some_iff.1 hd).2]
  rfl
theorem sameCs_len : ∀ {L M : List Ce}, ¬ L.length = M.length → sameCs L M = false
  | [], [], h => absurd rfl h
  | [], d :: M, _ => rfl
  | c :: L, [], _ => rfl
  | c :: L, d :: M, h => by
    unfold sameCs
    rw [sameCs_len (by simpa using h)]; simp
/-- Are two lists of cells the same? -/
def csB (L M : List Ce) : Bool := decide (L.length ≤ 400) && decide (M.length ≤ 400) && sameCs L M
theorem sameC_key {c d c' d' : Ce} (h : c.key = c'.key) (k : d.key = d'.key) : sameC c d = sameC c' d' := by
  obtain ⟨q, rfl⟩ := key_eq h
  obtain ⟨q', rfl⟩ := key_eq k
  rfl
theorem sameCs_key : ∀ {L M L' M' : List Ce}, L.map Ce.key = L'.map Ce.key → M.map Ce.key = M'.map Ce.key → sameCs L M = sameCs L' M'
  | [], [], [], [], _, _ => rfl
  | [], d :: M, [], d' :: M', _, _ => rfl
  | c :: L, [], c' :: L', [], _, _ => rfl
  | c :: L, d :: M, c' :: L', d' :: M', h, k => by
    simp only [List.map_cons, List.cons.injEq] at h k
    unfold sameCs
    rw [sameC_key h.1 k.1, sameCs_key h.2 k.2]
  | [], _, _ :: _, _, h, _ => by simp at h
  | _ :: _, _, [], _, h, _ => by simp at h
  | _, [], _, _ :: _, _, k => by simp at k
  | _, _ :: _, _, [], _, k => by simp at k
theorem csB_key {L M L' M' : List Ce} (h : L.map Ce.key = L'.map Ce.key) (k : M.map Ce.key = M'.map Ce.key) : csB L M = csB L' M' := by
  have e1 : L.length = L'.length := by have := congrArg List.length h; simpa using this
  have e2 : M.length = M'.length := by have := congrArg List.length k; simpa using this
  unfold csB
  rw [e1, e2, sameCs_key h k]
theorem c_keyOf (c : Ce) (w : World) : Calls Tryz.prog 55 #[.agg (ceArr c)] w fun e w' => e = .returned (.agg #[.int .i64 c.n, .string c.s]) ∧ Below w.heap.size w w' := by
  go_enter Tryz.func55, Tryz.ntmps55
  go_wp2
  refine bodyPost_ret (v := .agg #[.int .i64 c.n, .string c.s]) (by simp [results, Tryz.results55, go_sem]) rfl ⟨rfl, ?_⟩
  first
    | exact ((Below.refl _ _).alloc (Nat.le_refl _) _).alloc (by simp) _
    | (repeat (refine Below.setCell ?_ (by simp) _)
       exact ((Below.refl _ _).alloc (Nat.le_refl _) _).alloc (by simp) _)
end Go.Proofs.YtalmhekbagjdeaaGreatDoor
