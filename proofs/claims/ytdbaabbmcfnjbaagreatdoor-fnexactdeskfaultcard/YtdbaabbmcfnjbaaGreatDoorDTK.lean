/-
 FnExactDeskFault: of every text of the size that the law asks about, the desk of the program reads the same first ill line and the same code as the model does, and nothing that was there has turned. Condition: the tables of the library as the text of the program lays them.
-/
import Derived.Test.YtdbaabbmcfnjbaaGreatDoorDTL
import Derived.Test.YtdbaabbmcfnjbaaGreatDoorDTI
set_option linter.all false
namespace Go.Proofs.YtdbaabbmcfnjbaaGreatDoor
/-- No text of the program starts another goroutine: then none that a call can come to does. -/
theorem goes_off {P : Program} (h : P.funcs.any Func.goes = false) (c : OpenClaim) (hs : c.start = .entering) : false = c.goesBy P := by
  have h1 : ∀ (g : Nat) fn, P.funcs[g]? = some fn → fn.goes = false := fun g fn e => by
    have := Array.any_eq_false.1 h
    obtain ⟨k, rfl⟩ := Array.getElem?_eq_some_iff.1 e
    simpa using this g k
  have hg : ∀ f, P.goes f = false := fun f => by
    unfold Program.goes
    rw [h, Bool.and_false, Bool.or_false]
    refine List.any_eq_false.2 fun g _ => ?_
    cases e : P.funcs[g]? with
    | none => simp
    | some fn => simp [h1 g fn e]
  unfold OpenClaim.goesBy Program.goesAt Program.goesFrom
  rw [hs]
  cases P.funcNamed c.func <;> simp [hg]
set_option maxRecDepth 100000
theorem cardW : Rows.fnExactDeskFaultRow.wfByText (OpenSpec.ofChange Rows.fnExactDeskFaultSpec) = true := by kernel_rfl
theorem cardM : Tryz.pinned.checked.prog.mainIs = some (Rows.fnExactDeskFaultCard.stood.harness.1, Rows.fnExactDeskFaultCard.stood.harness.2.toList) := by kernel_rfl
theorem noneGo : Tryz.prog.funcs.any Func.goes = false := by kernel_rfl
theorem cardG : false = Rows.fnExactDeskFaultRow.goesBy Tryz.pinned.checked.prog := goes_off noneGo _ rfl
theorem fnExactDeskFault_card : Rows.FnExactDeskFaultCardSaid :=
  Claim7.holds_tied_plain_at .later [] _ _ _ _ saidDeskFault (fun _ h => by cases h) cardW (fun _ h => by cases h) rowTie rfl ⟨rfl, rfl⟩ cardM rfl plainDeskFault cardG
#print axioms fnExactDeskFault_card
end Go.Proofs.YtdbaabbmcfnjbaaGreatDoor
