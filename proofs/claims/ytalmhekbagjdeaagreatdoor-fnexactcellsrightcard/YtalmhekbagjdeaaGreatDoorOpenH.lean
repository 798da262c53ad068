/-
  An argument that is a sketch of how many, opened.
-/
import Derived.Test.YtalmhekbagjdeaaGreatDoorNumC
import Derived.Carry
import Derived.ChangeOld
import Derived.ChangeSlices
import Derived.Lib.SmallJoins
import Derived.WalkKit
import Derived.ProofKit
import Derived.OpenShut
namespace Go.Proofs.YtalmhekbagjdeaaGreatDoor
set_option linter.unusedVariables false
set_option linter.unusedSimpArgs false
open Go.ChangeShapes Go.WideShapes Go.ChangeAt Go.RowKit Go.PlainAid

set_option maxRecDepth 100000 in
theorem open_numsU {H : Type} {enc : TypeId × Value → H} {W : World} {base fuel : Nat} {sp : Nat → Bool} {held : Bool} {v : Value} {x : DataW H × List MemPlace} {t e : TypeId} {k : IntKind}
    (ht : Tryz.prog.underlying t = some (.slice e)) (he : Tryz.prog.underlying e = some (.int k)) (hc : Tryz.prog.cellsOf e = 1)
    (hd : DataW.trod enc Tryz.prog W base sp held fuel t [v] = some x) :
    ∃ ao cap, ∃ L : List Int, v = .slice ao L.length cap ∧ L.length ≤ maxLen ∧ (∀ x ∈ L, (Lit.int k x).wf = true) ∧ NumsAt k W ao L := by
  rcases open_ints ht he hc hd with ⟨hcs, hx⟩ | ⟨a, len, cap, zs, hcs, _, hl, hm, hz, hx, hcell, hws⟩
  · obtain rfl : v = .slice none 0 0 := by simpa using hcs
    exact ⟨none, 0, [], rfl, Nat.zero_le _, (fun u hu => absurd hu List.not_mem_nil), (fun h => absurd h (Nat.lt_irrefl 0))⟩
  · obtain rfl : v = .slice (some a) len cap := by simpa using hcs
    have hzl : len ≤ zs.length := by rw [hz]; split <;> omega
    have hlen : (zs.take len).length = len := by simp; omega
    refine ⟨some a, cap, zs.take len, by rw [hlen], by rw [hlen]; exact Nat.le_trans hl hm, fun u hu => hws u (List.mem_of_mem_take hu), fun h0 => ?_⟩
    rw [hlen] at h0
    have g0 := hcell 0 (by omega)
    obtain ⟨b, off, spot⟩ := a
    have hspot : spot = none := by simpa [Addr.add] using World.cell?_spot g0
    subst hspot
    refine ⟨b, off, rfl, fun i u hi => ?_⟩
    have hil := (List.getElem?_eq_some_iff.1 hi).1
    rw [hlen] at hil
    have := hcell i (by omega)
    have e : zs.getD i 0 = u := by
      rw [List.getElem?_take, if_pos hil] at hi
      simp [List.getD, hi]
    rw [e] at this
    by_cases hi0 : i = 0
    · subst hi0; simpa [Addr.add] using this
    · simpa [Addr.add, hi0] using this

theorem array2 {α : Type} {cs : Array α} (h : cs.size = 2) : ∃ c0 c1, cs = #[c0, c1] := by
  obtain ⟨l⟩ := cs
  match l, h with
  | [c0, c1], _ => exact ⟨c0, c1, rfl⟩

set_option maxRecDepth 100000 in
theorem open_hll {H : Type} {enc : TypeId × Value → H} {W : World} {r : Reach} {b0 base : Nat} {sp : Nat → Bool} {held : Bool} {v : Value} {d : DataW H} {ps : List MemPlace}
    (hval : Value.okWide Tryz.prog W r b0 56 v) (hd : DataW.Trod enc Tryz.prog W base sp held 56 v d ps) :
    ∃ (pa na : Option Addr) (pc nc : Nat) (P N : List Int), v = .agg #[.slice pa P.length pc, .slice na N.length nc] ∧ P.length ≤ maxLen ∧ N.length ≤ maxLen ∧ (∀ x ∈ P, U64 x) ∧ (∀ x ∈ N, I64 x) ∧ NumsAt .u64 W pa P ∧ NumsAt .i64 W na N := by
  obtain ⟨cs, rfl, hsz⟩ := okWide_struct Tryz.underlying56 hval
  obtain ⟨c0, c1, rfl⟩ := array2 (hsz.trans (show Tryz.prog.cellsOf 56 = 2 by kernel_rfl))
  obtain ⟨fuel, hf⟩ := hd
  obtain ⟨y0, y1, n, hx, _, h0, h1⟩ := trod_struct2 Tryz.underlying56 hf
  have k0 : DataW.trod enc Tryz.prog W base sp held n 53 [c0] = some y0 := by
    have e : Tryz.prog.cellsOf 53 = 1 := by kernel_rfl
    simpa [Value.cells, e] using h0
  have k1 : DataW.trod enc Tryz.prog W base sp held n 54 [c1] = some y1 := by
    have e : Tryz.prog.cellsOf 54 = 1 := by kernel_rfl
    simpa [Value.cells, e] using h1
  obtain ⟨pa, pc, P, rfl, lP, kP, hP⟩ := open_numsU Tryz.underlying53 Tryz.underlying47 (by kernel_rfl) k0
  obtain ⟨na, nc, N, rfl, lN, kN, hN⟩ := open_numsU Tryz.underlying54 Tryz.underlying2 (by kernel_rfl) k1
  exact ⟨pa, na, pc, nc, P, N, rfl, lP, lN, fun x hx => bounds_u64 (kP x hx), fun x hx => bounds_i64 (kN x hx), hP, hN⟩
end Go.Proofs.YtalmhekbagjdeaaGreatDoor
