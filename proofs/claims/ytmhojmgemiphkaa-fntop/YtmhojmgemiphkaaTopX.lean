/-
  That both answer one Top: of no program's walk.
-/
import Derived.Test.YtmhojmgemiphkaaTopL
import Derived.Test.YtmhojmgemiphkaaMarkT
namespace Go.Proofs.Ytmhojmgemiphkaa
set_option linter.unusedVariables false
set_option linter.unusedSimpArgs false
open Go.ChangeShapes Go.WideShapes Go.ChangeAt Go.RowKit Go.PlainAid

theorem debt_ex (A : List Hv) : ∃ d, DebtV A d := by
  by_cases h : A.length ≤ 5
  · exact ⟨0, .inl ⟨h, rfl⟩⟩
  · obtain ⟨v, hv, hm⟩ := place_ex (L := A) (by omega)
    obtain ⟨x, hx, e⟩ := List.mem_map.1 hm
    exact ⟨v, .inr ⟨by omega, hv, x, hx, e⟩⟩
theorem addAll_len : ∀ (M L : List Hv), (addAll L M).length ≤ L.length + M.length
  | [], L => by simp [addAll]
  | x :: M, L => by
    have h1 := addAll_len M (hvAdd L x)
    have h2 := (add_len x L).2
    show (addAll (hvAdd L x) M).length ≤ _
    simp only [List.length_cons]
    omega
theorem less_len (L : List Hv) (d : Int) : (lessH L d).length ≤ L.length := List.length_filterMap_le _ _
theorem put_fixT (P : List Hv) (da ta wt : Int) (key : ByteArray) (lp : P.length ≤ 1048576) : ∃ (L' : List Hv) (D' T' : Int), L'.length ≤ 1048576 ∧ ∀ (W : World) (B : Nat) (v : Value), ((tpOk P da ta key wt ∧ ∃ d, DebtV (hvAdd P (key, wt)) d ∧ TopOut W B v (lessH (hvAdd P (key, wt)) d) (da + d) (ta + wt)) ∨ (¬ tpOk P da ta key wt ∧ TopOut W B v P da ta)) → TopOut W B v L' D' T' := by
  by_cases hok : tpOk P da ta key wt
  · obtain ⟨d, hd⟩ := debt_ex (hvAdd P (key, wt))
    refine ⟨lessH (hvAdd P (key, wt)) d, da + d, ta + wt, ?_, fun W B v h => ?_⟩
    · have h1 := less_len (hvAdd P (key, wt)) d
      have h2 := (add_len (key, wt) P).2
      have h3 := (top_rise hok.1).2
      omega
    · rcases h with ⟨_, d', hd', h⟩ | ⟨h, _⟩
      · rw [debt_one hd hd']; exact h
      · exact absurd hok h
  · exact ⟨P, da, ta, lp, fun W B v h => by
      rcases h with ⟨h, _⟩ | ⟨_, h⟩
      · exact absurd h hok
      · exact h⟩
theorem mrg_fixT (P M : List Hv) (da ta db tb : Int) : ∃ (L' : List Hv) (D' T' : Int), L'.length ≤ 1048576 ∧ ∀ (W : World) (B : Nat) (v : Value), ((tmOk P da ta M db tb ∧ ∃ d, DebtV (addAll P M) d ∧ TopOut W B v (lessH (addAll P M) d) (da + db + d) (ta + tb)) ∨ (¬ tmOk P da ta M db tb ∧ TopOut W B v [] 0 0)) → TopOut W B v L' D' T' := by
  by_cases hok : tmOk P da ta M db tb
  · obtain ⟨d, hd⟩ := debt_ex (addAll P M)
    refine ⟨lessH (addAll P M) d, da + db + d, ta + tb, ?_, fun W B v h => ?_⟩
    · have h1 := less_len (addAll P M) d
      have h2 := addAll_len M P
      have h3 := (top_rise hok.1).2
      have h4 := (top_rise hok.2.1).2
      omega
    · rcases h with ⟨_, d', hd', h⟩ | ⟨h, _⟩
      · rw [debt_one hd hd']; exact h
      · exact absurd hok h
  · exact ⟨[], 0, 0, by simp, fun W B v h => by
      rcases h with ⟨h, _⟩ | ⟨_, h⟩
      · exact absurd h hok
      · exact h⟩
theorem TopOut.open {w : World} {B n : Nat} {v : Value} {L : List Hv} {d t : Int} (h : TopOut w B v L d t) (hn : L.length = n) : ∃ sa sc, v = .agg #[.slice sa n sc, .int .i64 d, .int .i64 t] ∧ OwnH w B (.slice sa n sc) L := by
  obtain ⟨p, e, ho⟩ := h
  obtain ⟨ao, c, rfl⟩ := ho.any
  rw [hn] at e ho
  exact ⟨ao, c, e, ho⟩
theorem OwnH.lt {w : World} {B : Nat} {v : Value} {L : List Hv} (h : OwnH w B v L) : ∀ k, v.ownBlock = some k → B ≤ k ∧ k < w.heap.size := World.ownsRow.lt h
theorem OwnH.kept {w w' : World} {B : Nat} {v : Value} {L : List Hv} {r : Option Nat} (h : OwnH w B v L) (hg : w.grownBy w' r) (hne : ∀ k, v.ownBlock = some k → some k ≠ r) : OwnH w' B v L := by
  refine ⟨h.1, ?_⟩
  rcases h.2 with h | ⟨g, cap, cur, e, h1, h2, h3⟩
  · exact .inl h
  · refine .inr ⟨g, cap, cur, e, h1, ?_, h3⟩
    rw [hg.block g (Array.getElem?_eq_some_iff.1 h2).1 (hne g (by rw [e]; rfl))]
    exact h2
theorem tp_kept {w w' : World} {g : Nat} {p : Value} {d t : Int} {r : Option Nat} (k : TpCell w g p d t) (hg : w.grownBy w' r) (hne : r ≠ some g) : TpCell w' g p d t := by
  have hl := World.block_lt_of_cell? _ _ k.1
  have e : ∀ o, w'.cell? ⟨g, o, none⟩ = w.cell? ⟨g, o, none⟩ := fun o => World.cell?_of_block (w := w) (hg.block g hl (fun h => hne h.symm))
  exact ⟨by rw [e]; exact k.1, by rw [e]; exact k.2.1, by rw [e]; exact k.2.2⟩
end Go.Proofs.Ytmhojmgemiphkaa
