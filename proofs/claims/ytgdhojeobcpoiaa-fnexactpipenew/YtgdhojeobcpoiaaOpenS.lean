/-
  An argument that is a slice of strings, opened.
-/
import Derived.Test.YtgdhojeobcpoiaaStrsC
import Derived.Carry
import Derived.ChangeOld
import Derived.ChangeSlices
import Derived.SliceStrings
import Derived.WalkKit
import Derived.ProofKit
import Derived.OpenShut
namespace Go.Proofs.Ytgdhojeobcpoiaa
set_option linter.unusedVariables false
set_option linter.unusedSimpArgs false
open Go.ChangeShapes Go.WideShapes Go.ChangeAt Go.RowKit Go.PlainAid

set_option maxRecDepth 100000 in
theorem open_strs {H : Type} {enc : TypeId × Value → H} {W : World} {r : Reach} {b0 base : Nat} {sp : Nat → Bool} {held : Bool} {v : Value} {d : DataW H} {ps : List MemPlace}
    (hval : Value.okWide Try.prog W r b0 22 v) (hd : DataW.Trod enc Try.prog W base sp held 22 v d ps) :
    ∃ ao cap, ∃ L : List ByteArray, v = .slice ao L.length cap ∧ L.length ≤ maxLen ∧ (∀ u ∈ L, u.size ≤ maxLen) ∧ StrsAt W ao L := by
  obtain ⟨ao, ln, cap, rfl⟩ := okWide_slice Try.underlying22 hval
  obtain ⟨fuel, hf⟩ := hd
  rcases open_strings Try.underlying22 Try.underlying9 (show Try.prog.cellsOf 9 = 1 by kernel_rfl) hf with ⟨hcs, hx⟩ | ⟨a, len', cap', ss, hcs, _, hl, hm, hz, hx, hcell, hws⟩
  · simp [Value.cells] at hcs
    obtain ⟨rfl, rfl, rfl⟩ := hcs
    exact ⟨none, 0, [], rfl, Nat.zero_le _, (fun u hu => absurd hu List.not_mem_nil), (fun h => absurd h (Nat.lt_irrefl 0))⟩
  · simp [Value.cells] at hcs
    obtain ⟨rfl, rfl, rfl⟩ := hcs
    have hzl : ln ≤ ss.length := by rw [hz]; split <;> omega
    have hlen : (ss.take ln).length = ln := by simp; omega
    refine ⟨some a, cap, ss.take ln, by rw [hlen], by rw [hlen]; exact Nat.le_trans hl hm, fun u hu => hws u (List.mem_of_mem_take hu), fun h0 => ?_⟩
    rw [hlen] at h0
    have g0 := hcell 0 (by omega)
    obtain ⟨b, off, spot⟩ := a
    have hspot : spot = none := by simpa [Addr.add] using World.cell?_spot g0
    subst hspot
    refine ⟨b, off, rfl, fun i u hi => ?_⟩
    have hil := (List.getElem?_eq_some_iff.1 hi).1
    rw [hlen] at hil
    have := hcell i (by omega)
    have e : ss.getD i ByteArray.empty = u := by
      rw [List.getElem?_take, if_pos hil] at hi
      simp [List.getD, hi]
    rw [e] at this
    by_cases hi0 : i = 0
    · subst hi0; simpa [Addr.add] using this
    · simpa [Addr.add, hi0] using this
end Go.Proofs.Ytgdhojeobcpoiaa
