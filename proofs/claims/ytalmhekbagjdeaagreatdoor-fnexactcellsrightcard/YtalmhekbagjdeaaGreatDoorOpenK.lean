/-
  An argument that is a sketch, opened.
-/
import Derived.Test.YtalmhekbagjdeaaGreatDoorBinsC
import Derived.Carry
import Derived.ChangeOld
import Derived.ChangeSlices
import Derived.Deep.SlicePairs
import Derived.Lib.SmallJoins
import Derived.WalkKit
import Derived.ProofKit
import Derived.OpenShut
namespace Go.Proofs.YtalmhekbagjdeaaGreatDoor
set_option linter.unusedVariables false
set_option linter.unusedSimpArgs false
open Go.ChangeShapes Go.WideShapes Go.ChangeAt Go.RowKit Go.PlainAid

set_option maxRecDepth 100000 in
theorem open_bins {H : Type} {enc : TypeId × Value → H} {W : World} {base fuel : Nat} {sp : Nat → Bool} {held : Bool} {v : Value} {x : DataW H × List MemPlace}
    (hd : DataW.trod enc Tryz.prog W base sp held fuel 50 [v] = some x) :
    ∃ ao cap, ∃ L : List Bn, v = .slice ao L.length cap ∧ L.length ≤ maxLen ∧ (∀ x ∈ L, BnOk x) ∧ BinsAt W ao L := by
  rcases Deep.open_slice_pairs Tryz.underlying50 Tryz.underlying179 (show Tryz.prog.cellsOf 179 = 2 by kernel_rfl) rfl rfl (show Tryz.prog.cellsOf 2 = 1 by kernel_rfl) (show Tryz.prog.cellsOf 47 = 1 by kernel_rfl) hd with ⟨hcs, hx⟩ | ⟨a, len, cap, m, n, V0, V1, D0, D1, P0, P1, hcs, _, hl, hm, hmm, hx, hcell⟩
  · obtain rfl : v = .slice none 0 0 := by simpa using hcs
    exact ⟨none, 0, [], rfl, Nat.zero_le _, (fun u hu => absurd hu List.not_mem_nil), (fun h => absurd h (Nat.lt_irrefl 0))⟩
  · obtain rfl : v = .slice (some a) len cap := by simpa using hcs
    have hlm : len ≤ m := by rw [hmm]; split <;> omega
    have each : ∀ i, i < len → ∃ x : Bn, W.cell? (a.add (i * 2)) = some (.int .i64 x.1) ∧ W.cell? (a.add (i * 2 + 1)) = some (.int .u64 x.2) ∧ BnOk x := fun i hi => by
      obtain ⟨h0, h1, t0, t1⟩ := hcell i (by omega)
      obtain ⟨p, f0, e0, w0⟩ := DataW.trod_int Tryz.underlying2 t0
      obtain ⟨q, f1, e1, w1⟩ := DataW.trod_int Tryz.underlying47 t1
      simp at f0 f1
      rw [f0] at h0; rw [f1] at h1
      exact ⟨(p, q), h0, h1, bounds_i64 w0, bounds_u64 w1⟩
    obtain ⟨f, hf⟩ := Deep.choose_lt each
    have hlen : ((List.range len).map f).length = len := by simp
    refine ⟨some a, cap, (List.range len).map f, by rw [hlen], by rw [hlen]; omega, fun x hx => ?_, fun h0 => ?_⟩
    · obtain ⟨i, hi, rfl⟩ := List.mem_map.1 hx
      exact (hf i (List.mem_range.1 hi)).2.2
    · rw [hlen] at h0
      have g0 := (hf 0 (by omega)).1
      obtain ⟨b, off, spot⟩ := a
      have hspot : spot = none := by simpa [Addr.add] using World.cell?_spot g0
      subst hspot
      refine ⟨b, off, rfl, fun i x hi => ?_⟩
      have hil := (List.getElem?_eq_some_iff.1 hi).1
      rw [hlen] at hil
      have e : x = f i := by
        have := (List.getElem?_eq_some_iff.1 hi).2
        simpa using this.symm
      subst e
      obtain ⟨h0, h1, _⟩ := hf i hil
      rw [Addr.add_lit] at h0 h1
      exact ⟨h0, by rw [Nat.add_assoc]; exact h1⟩

theorem array5 {α : Type} {cs : Array α} (h : cs.size = 5) : ∃ c0 c1 c2 c3 c4, cs = #[c0, c1, c2, c3, c4] := by
  obtain ⟨l⟩ := cs
  match l, h with
  | [c0, c1, c2, c3, c4], _ => exact ⟨c0, c1, c2, c3, c4, rfl⟩

set_option maxRecDepth 100000 in
theorem open_sketch {H : Type} {enc : TypeId × Value → H} {W : World} {r : Reach} {b0 base : Nat} {sp : Nat → Bool} {held : Bool} {v : Value} {d : DataW H} {ps : List MemPlace}
    (hval : Value.okWide Tryz.prog W r b0 52 v) (hd : DataW.Trod enc Tryz.prog W base sp held 52 v d ps) :
    ∃ (z h l : Int) (pa na : Option Addr) (pc nc : Nat) (P N : List Bn), v = .agg #[.int .u64 z, .slice pa P.length pc, .slice na N.length nc, .int .i64 h, .int .u64 l] ∧ U64 z ∧ I64 h ∧ U64 l ∧ P.length ≤ maxLen ∧ N.length ≤ maxLen ∧ (∀ x ∈ P, BnOk x) ∧ (∀ x ∈ N, BnOk x) ∧ BinsAt W pa P ∧ BinsAt W na N := by
  obtain ⟨cs, rfl, hsz⟩ := okWide_struct Tryz.underlying52 hval
  obtain ⟨c0, c1, c2, c3, c4, rfl⟩ := array5 (hsz.trans (show Tryz.prog.cellsOf 52 = 5 by kernel_rfl))
  obtain ⟨fuel, hf⟩ := hd
  obtain ⟨y0, y1, y2, y3, n, hx, _, h0, h1, h2, h3⟩ := Joins.trod_struct4 Tryz.underlying52 hf
  have k0 : DataW.trod enc Tryz.prog W base sp held n 47 [c0] = some y0 := by
    have e : Tryz.prog.cellsOf 47 = 1 := by kernel_rfl
    simpa [Value.cells, e] using h0
  have k1 : DataW.trod enc Tryz.prog W base sp held n 50 [c1] = some y1 := by
    have e : Tryz.prog.cellsOf 50 = 1 := by kernel_rfl
    simpa [Value.cells, e] using h1
  have k2 : DataW.trod enc Tryz.prog W base sp held n 50 [c2] = some y2 := by
    have e : Tryz.prog.cellsOf 50 = 1 := by kernel_rfl
    simpa [Value.cells, e] using h2
  have k3 : DataW.trod enc Tryz.prog W base sp held n 49 [c3, c4] = some y3 := by
    have e : Tryz.prog.cellsOf 49 = 2 := by kernel_rfl
    simpa [Value.cells, e] using h3
  obtain ⟨z, f0, _, wz⟩ := DataW.trod_int Tryz.underlying47 k0
  obtain ⟨pa, pc, P, rfl, lP, kP, hP⟩ := open_bins k1
  obtain ⟨na, nc, N, rfl, lN, kN, hN⟩ := open_bins k2
  obtain ⟨x0, x1, m, _, _, g0, g1⟩ := trod_struct2 Tryz.underlying49 k3
  have g0 : DataW.trod enc Tryz.prog W base sp held m 2 [c3] = some x0 := by
    have e : Tryz.prog.cellsOf 2 = 1 := by kernel_rfl
    simpa [e] using g0
  have g1 : DataW.trod enc Tryz.prog W base sp held m 47 [c4] = some x1 := by
    have e : Tryz.prog.cellsOf 47 = 1 := by kernel_rfl
    simpa [e] using g1
  obtain ⟨h, f3, _, wh⟩ := DataW.trod_int Tryz.underlying2 g0
  obtain ⟨l, f4, _, wl⟩ := DataW.trod_int Tryz.underlying47 g1
  simp at f0 f3 f4
  subst f0 f3 f4
  exact ⟨z, h, l, pa, na, pc, nc, P, N, rfl, bounds_u64 wz, bounds_i64 wh, bounds_u64 wl, lP, lN, kP, kN, hP, hN⟩
end Go.Proofs.YtalmhekbagjdeaaGreatDoor
