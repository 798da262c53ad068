/-
  An argument that is a Top, opened.
-/
import Derived.Test.YtnonehgjdafdfaaHvC
import Derived.Carry
import Derived.ChangeOld
import Derived.ChangeSlices
import Derived.Deep.SlicePairs
import Derived.Deep.Strs
import Derived.Lib.SmallJoins
import Derived.WalkKit
import Derived.ProofKit
import Derived.OpenShut
namespace Go.Proofs.Ytnonehgjdafdfaa
set_option linter.unusedVariables false
set_option linter.unusedSimpArgs false
open Go.ChangeShapes Go.WideShapes Go.ChangeAt Go.RowKit Go.PlainAid

/-- A heavy that came in. -/
def HvIn (x : Hv) : Prop := x.1.size ≤ maxLen ∧ I64 x.2
theorem hv_ok {L : List Hv} (h : ∀ x ∈ L, HvIn x) (k : HvSz L) : ∀ x ∈ L, HvOk x := fun x hx => ⟨k x hx, (h x hx).2⟩
theorem hv_len {L : List Hv} (h : ∀ x ∈ L, HvIn x) : ∀ x ∈ L, x.1.size ≤ maxLen := fun x hx => (h x hx).1
set_option maxRecDepth 100000 in
theorem open_hvs {H : Type} {enc : TypeId × Value → H} {W : World} {base fuel : Nat} {sp : Nat → Bool} {held : Bool} {v : Value} {x : DataW H × List MemPlace}
    (hd : DataW.trod enc Try.prog W base sp held fuel 22 [v] = some x) :
    ∃ ao cap, ∃ L : List Hv, v = .slice ao L.length cap ∧ L.length ≤ maxLen ∧ (∀ x ∈ L, HvIn x) ∧ HvsAt W ao L := by
  rcases Deep.open_slice_pairs Try.underlying22 Try.underlying69 (show Try.prog.cellsOf 69 = 2 by kernel_rfl) rfl rfl (show Try.prog.cellsOf 9 = 1 by kernel_rfl) (show Try.prog.cellsOf 2 = 1 by kernel_rfl) hd with ⟨hcs, hx⟩ | ⟨a, len, cap, m, n, V0, V1, D0, D1, P0, P1, hcs, _, hl, hm, hmm, hx, hcell⟩
  · obtain rfl : v = .slice none 0 0 := by simpa using hcs
    exact ⟨none, 0, [], rfl, Nat.zero_le _, (fun u hu => absurd hu List.not_mem_nil), (fun h => absurd h (Nat.lt_irrefl 0))⟩
  · obtain rfl : v = .slice (some a) len cap := by simpa using hcs
    have hlm : len ≤ m := by rw [hmm]; split <;> omega
    have each : ∀ i, i < len → ∃ x : Hv, W.cell? (a.add (i * 2)) = some (.string x.1) ∧ W.cell? (a.add (i * 2 + 1)) = some (.int .i64 x.2) ∧ HvIn x := fun i hi => by
      obtain ⟨h0, h1, t0, t1⟩ := hcell i (by omega)
      obtain ⟨p, f0, e0, w0⟩ := DataW.trod_string Try.underlying9 t0
      obtain ⟨q, f1, e1, w1⟩ := DataW.trod_int Try.underlying2 t1
      simp at f0 f1
      rw [f0] at h0; rw [f1] at h1
      exact ⟨(p, q), h0, h1, w0, bounds_i64 w1⟩
    obtain ⟨f, hf⟩ := Deep.choose_lt each
    have hlen : ((List.range len).map f).length = len := by simp
    refine ⟨some a, cap, (List.range len).map f, by rw [hlen], by rw [hlen]; omega, fun x hx => ?_, fun h0 => ?_⟩
    · obtain ⟨i, hi, rfl⟩ := List.mem_map.1 hx
      exact (hf i (List.mem_range.1 hi)).2.2
    · rw [hlen] at h0
      have g0 := (hf 0 (by omega)).1
      obtain ⟨b, off, spot⟩ := a
      have hspot : spot = none := by simpa [Addr.add] using World.cell?_spot g0
      subst hspot
      refine ⟨b, off, rfl, fun i x hi => ?_⟩
      have hil := (List.getElem?_eq_some_iff.1 hi).1
      rw [hlen] at hil
      have e : x = f i := by
        have := (List.getElem?_eq_some_iff.1 hi).2
        simpa using this.symm
      subst e
      obtain ⟨h0, h1, _⟩ := hf i hil
      rw [Addr.add_lit] at h0 h1
      exact ⟨h0, by rw [Nat.add_assoc]; exact h1⟩

theorem array3 {α : Type} {cs : Array α} (h : cs.size = 3) : ∃ c0 c1 c2, cs = #[c0, c1, c2] := by
  obtain ⟨l⟩ := cs
  match l, h with
  | [c0, c1, c2], _ => exact ⟨c0, c1, c2, rfl⟩

set_option maxRecDepth 100000 in
theorem open_top {H : Type} {enc : TypeId × Value → H} {W : World} {r : Reach} {b0 base : Nat} {sp : Nat → Bool} {held : Bool} {v : Value} {d : DataW H} {ps : List MemPlace}
    (hval : Value.okWide Try.prog W r b0 24 v) (hd : DataW.Trod enc Try.prog W base sp held 24 v d ps) :
    ∃ (pa : Option Addr) (pc : Nat) (P : List Hv) (de t : Int), v = .agg #[.slice pa P.length pc, .int .i64 de, .int .i64 t] ∧ P.length ≤ maxLen ∧ (∀ x ∈ P, HvIn x) ∧ I64 de ∧ I64 t ∧ HvsAt W pa P := by
  obtain ⟨cs, rfl, hsz⟩ := okWide_struct Try.underlying24 hval
  obtain ⟨c0, c1, c2, rfl⟩ := array3 (hsz.trans (show Try.prog.cellsOf 24 = 3 by kernel_rfl))
  obtain ⟨fuel, hf⟩ := hd
  obtain ⟨y0, y1, y2, n, hx, _, h0, h1, h2⟩ := Deep.trod_struct3 Try.underlying24 hf
  have k0 : DataW.trod enc Try.prog W base sp held n 22 [c0] = some y0 := by
    have e : Try.prog.cellsOf 22 = 1 := by kernel_rfl
    simpa [Value.cells, e] using h0
  have k1 : DataW.trod enc Try.prog W base sp held n 2 [c1] = some y1 := by
    have e : Try.prog.cellsOf 2 = 1 := by kernel_rfl
    simpa [Value.cells, e] using h1
  have k2 : DataW.trod enc Try.prog W base sp held n 2 [c2] = some y2 := by
    have e : Try.prog.cellsOf 2 = 1 := by kernel_rfl
    simpa [Value.cells, e] using h2
  obtain ⟨pa, pc, P, rfl, lP, kP, hP⟩ := open_hvs k0
  obtain ⟨de, f1, _, w1⟩ := DataW.trod_int Try.underlying2 k1
  obtain ⟨t, f2, _, w2⟩ := DataW.trod_int Try.underlying2 k2
  simp at f1 f2
  subst f1 f2
  exact ⟨pa, pc, P, de, t, rfl, lP, kP, bounds_i64 w1, bounds_i64 w2, hP⟩
end Go.Proofs.Ytnonehgjdafdfaa
