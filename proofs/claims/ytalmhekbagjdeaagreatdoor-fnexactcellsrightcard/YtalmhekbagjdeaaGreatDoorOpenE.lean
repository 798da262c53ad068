/-
  An argument that is a slice of Cells, opened.
-/
import Derived.Test.YtalmhekbagjdeaaGreatDoorOpenA
import Derived.Test.YtalmhekbagjdeaaGreatDoorCeC
import Derived.Deep.Slices
import Derived.Deep.Strs
namespace Go.Proofs.YtalmhekbagjdeaaGreatDoor
set_option linter.unusedVariables false
set_option linter.unusedSimpArgs false
open Go.ChangeShapes Go.WideShapes Go.ChangeAt Go.RowKit Go.PlainAid

instance : Inhabited Ce := ⟨⟨0, ByteArray.empty, ⟨0, 0, 0, 0, 0, 0, 0, [], [], 0, 0, [], []⟩, ⟨none, 0, none, 0, none, 0, none, 0⟩⟩⟩
theorem list15 {α : Type} {cs : List α} (h : cs.length = 15) : ∃ c0 c1 c2 c3 c4 c5 c6 c7 c8 c9 c10 c11 c12 c13 c14, cs = [c0, c1, c2, c3, c4, c5, c6, c7, c8, c9, c10, c11, c12, c13, c14] := by
  match cs, h with
  | [c0, c1, c2, c3, c4, c5, c6, c7, c8, c9, c10, c11, c12, c13, c14], _ => exact ⟨c0, c1, c2, c3, c4, c5, c6, c7, c8, c9, c10, c11, c12, c13, c14, rfl⟩
structure CeOk (W : World) (c : Ce) : Prop where
  n : I64 c.n
  s : c.s.size ≤ maxLen
  g : AgOk c.g
  l : AgLen c.g
  m : AgAt W c.g c.p
set_option maxRecDepth 100000 in
set_option maxHeartbeats 1000000 in
theorem open_ce0 {H : Type} {enc : TypeId × Value → H} {W : World} {base fuel : Nat} {sp : Nat → Bool} {held : Bool} {cs : List Value} {x : DataW H × List MemPlace}
    (hf : DataW.trod enc Tryz.prog W base sp held fuel 60 cs = some x) : ∃ c : Ce, cs = (ceArr c).toList ∧ CeOk W c := by
  obtain ⟨y0, y1, y2, n, _, hl, h0, h1, h2⟩ := Deep.trod_struct3 Tryz.underlying60 hf
  obtain ⟨c0, c1, c2, c3, c4, c5, c6, c7, c8, c9, c10, c11, c12, c13, c14, rfl⟩ := list15 (hl.trans (show Tryz.prog.cellsOf 60 = 15 by kernel_rfl))
  have eI : Tryz.prog.cellsOf 2 = 1 := by kernel_rfl
  have eS : Tryz.prog.cellsOf 9 = 1 := by kernel_rfl
  have eG : Tryz.prog.cellsOf 58 = 13 := by kernel_rfl
  have k0 : DataW.trod enc Tryz.prog W base sp held n 2 [c0] = some y0 := by simpa [eI] using h0
  have k1 : DataW.trod enc Tryz.prog W base sp held n 9 [c1] = some y1 := by simpa [eS] using h1
  have k2 : DataW.trod enc Tryz.prog W base sp held n 58 [c2, c3, c4, c5, c6, c7, c8, c9, c10, c11, c12, c13, c14] = some y2 := by simpa [eG] using h2
  obtain ⟨i, f0, _, wi⟩ := DataW.trod_int Tryz.underlying2 k0
  obtain ⟨s, f1, _, ws⟩ := DataW.trod_string Tryz.underlying9 k1
  obtain ⟨g, p, e, ok, ln, m⟩ := open_agg0 k2
  simp at f0 f1
  subst f0 f1
  refine ⟨⟨i, s, g, p⟩, ?_, bounds_i64 wi, ws, ok, ln, m⟩
  have e' := congrArg Array.toList e
  show [Value.int .i64 i, .string s] ++ [c2, c3, c4, c5, c6, c7, c8, c9, c10, c11, c12, c13, c14] = [Value.int .i64 i, .string s] ++ (agArr g p).toList
  rw [← e']
set_option maxRecDepth 100000 in
theorem open_cells {H : Type} {enc : TypeId × Value → H} {W : World} {r : Reach} {b0 base : Nat} {sp : Nat → Bool} {held : Bool} {v : Value} {d : DataW H} {ps : List MemPlace}
    (hval : Value.okWide Tryz.prog W r b0 22 v) (hd : DataW.Trod enc Tryz.prog W base sp held 22 v d ps) :
    ∃ ao cap, ∃ L : List Ce, v = .slice ao L.length cap ∧ CesLen L ∧ CesAt W ao L ∧ ∀ c ∈ L, AgOk c.g := by
  obtain ⟨ao, ln, cap, rfl⟩ := okWide_slice Tryz.underlying22 hval
  obtain ⟨fuel, hf⟩ := hd
  rcases Deep.open_slice Tryz.underlying22 hf with ⟨hcs, hx⟩ | ⟨a, len, cap', m, n, D, P, hcs, _, hl, hm, hmm, hx, hcell⟩
  · simp [Value.cells] at hcs
    obtain ⟨rfl, rfl, rfl⟩ := hcs
    exact ⟨none, 0, [], rfl, ⟨Nat.zero_le _, fun c hc => absurd hc List.not_mem_nil, fun c hc => absurd hc List.not_mem_nil⟩, ⟨fun h => absurd h (Nat.lt_irrefl 0), fun c hc => absurd hc List.not_mem_nil⟩, fun c hc => absurd hc List.not_mem_nil⟩
  · simp [Value.cells] at hcs
    obtain ⟨rfl, rfl, rfl⟩ := hcs
    rw [show Tryz.prog.cellsOf 60 = 15 by kernel_rfl] at hcell
    have hlm : ln ≤ m := by rw [hmm]; split <;> omega
    have each : ∀ i, i < ln → ∃ c : Ce, (∀ j, j < 15 → W.cell? ((a.add (i * 15)).add j) = (ceArr c).toList[j]?) ∧ CeOk W c := fun i hi => by
      obtain ⟨cs', h1, h2⟩ := hcell i (by omega)
      obtain ⟨c, rfl, ok⟩ := open_ce0 h2
      obtain ⟨_, _, h3⟩ := World.cells?_some h1
      exact ⟨c, h3, ok⟩
    obtain ⟨f, hf⟩ := Deep.choose_lt (α := Ce) each
    have hlen : ((List.range ln).map f).length = ln := by simp
    have mem : ∀ c ∈ (List.range ln).map f, CeOk W c := fun c hc => by
      obtain ⟨i, hi, rfl⟩ := List.mem_map.1 hc
      exact (hf i (List.mem_range.1 hi)).2
    refine ⟨some a, cap, (List.range ln).map f, by rw [hlen], ⟨by rw [hlen]; omega, fun c hc => (mem c hc).s, fun c hc => (mem c hc).l⟩, ⟨fun h0 => ?_, fun c hc => (mem c hc).m⟩, fun c hc => (mem c hc).g⟩
    rw [hlen] at h0
    have g0 := (hf 0 h0).1 0 (by omega)
    obtain ⟨b, off, spot⟩ := a
    have hspot : spot = none := by
      have g1 : W.cell? ⟨b, off, spot⟩ = some (.int .i64 (f 0).n) := by simpa [Addr.add, ceArr] using g0
      exact World.cell?_spot g1
    subst hspot
    refine ⟨b, off, rfl, fun i x hi => ?_⟩
    have hil := (List.getElem?_eq_some_iff.1 hi).1
    rw [hlen] at hil
    have e : x = f i := by
      have := (List.getElem?_eq_some_iff.1 hi).2
      simpa using this.symm
    subst e
    have q := (hf i hil).1
    simp only [Addr.add_lit] at q
    exact ⟨q 0 (by omega), q 1 (by omega), q 2 (by omega), q 3 (by omega), q 4 (by omega), q 5 (by omega), q 6 (by omega), q 7 (by omega), q 8 (by omega), q 9 (by omega), q 10 (by omega), q 11 (by omega), q 12 (by omega), q 13 (by omega), q 14 (by omega)⟩
end Go.Proofs.YtalmhekbagjdeaaGreatDoor
