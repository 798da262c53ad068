/-
  An argument that is an Agg, opened.
-/
import Derived.Test.YtalmhekbagjdeaaGreatDoorAgC
import Derived.Test.YtalmhekbagjdeaaGreatDoorOpenK
import Derived.Test.YtalmhekbagjdeaaGreatDoorOpenH
namespace Go.Proofs.YtalmhekbagjdeaaGreatDoor
set_option linter.unusedVariables false
set_option linter.unusedSimpArgs false
open Go.ChangeShapes Go.WideShapes Go.ChangeAt Go.RowKit Go.PlainAid

/-- What an Agg's numbers keep to. -/
structure AgOk (g : Ag) : Prop where
  k : I64 g.k
  s : U64 g.s
  h : I64 g.h
  l : U64 g.l
  a : I64 g.a
  t : I64 g.t
  z : U64 g.z
  x : I64 g.x
  y : U64 g.y
  P : ∀ b ∈ g.P, BnOk b
  N : ∀ b ∈ g.N, BnOk b
  E : ∀ b ∈ g.E, U64 b
  R : ∀ b ∈ g.R, I64 b

theorem array13 {α : Type} {cs : Array α} (h : cs.size = 13) : ∃ c0 c1 c2 c3 c4 c5 c6 c7 c8 c9 c10 c11 c12, cs = #[c0, c1, c2, c3, c4, c5, c6, c7, c8, c9, c10, c11, c12] := by
  obtain ⟨l⟩ := cs
  match l, h with
  | [c0, c1, c2, c3, c4, c5, c6, c7, c8, c9, c10, c11, c12], _ => exact ⟨c0, c1, c2, c3, c4, c5, c6, c7, c8, c9, c10, c11, c12, rfl⟩
set_option maxRecDepth 100000 in
set_option maxHeartbeats 1000000 in
theorem open_agg0 {H : Type} {enc : TypeId × Value → H} {W : World} {base fuel : Nat} {sp : Nat → Bool} {held : Bool} {c0 c1 c2 c3 c4 c5 c6 c7 c8 c9 c10 c11 c12 : Value} {x : DataW H × List MemPlace}
    (hf : DataW.trod enc Tryz.prog W base sp held fuel 58 [c0, c1, c2, c3, c4, c5, c6, c7, c8, c9, c10, c11, c12] = some x) :
    ∃ (g : Ag) (p : Pl), #[c0, c1, c2, c3, c4, c5, c6, c7, c8, c9, c10, c11, c12] = agArr g p ∧ AgOk g ∧ AgLen g ∧ AgAt W g p := by
  obtain ⟨xs, n, _, _, _, hlen, hfs⟩ := DataW.trod_struct Tryz.underlying58 hf
  have eI : Tryz.prog.cellsOf 2 = 1 := by kernel_rfl
  have eU : Tryz.prog.cellsOf 47 = 1 := by kernel_rfl
  have eW : Tryz.prog.cellsOf 49 = 2 := by kernel_rfl
  have eS : Tryz.prog.cellsOf 52 = 5 := by kernel_rfl
  have eH : Tryz.prog.cellsOf 56 = 2 := by kernel_rfl
  have eB : Tryz.prog.cellsOf 50 = 1 := by kernel_rfl
  have eE : Tryz.prog.cellsOf 53 = 1 := by kernel_rfl
  have eR : Tryz.prog.cellsOf 54 = 1 := by kernel_rfl
  match xs, hlen with
  | [y0, y1, y2, y3, y4, y5, y6], _ =>
    have k0 : DataW.trod enc Tryz.prog W base sp held n 2 [c0] = some y0 := by simpa [Value.cells, eI] using hfs 0 _ rfl
    have k1 : DataW.trod enc Tryz.prog W base sp held n 47 [c1] = some y1 := by simpa [Value.cells, eU] using hfs 1 _ rfl
    have k2 : DataW.trod enc Tryz.prog W base sp held n 49 [c2, c3] = some y2 := by simpa [Value.cells, eW] using hfs 2 _ rfl
    have k3 : DataW.trod enc Tryz.prog W base sp held n 2 [c4] = some y3 := by simpa [Value.cells, eI] using hfs 3 _ rfl
    have k4 : DataW.trod enc Tryz.prog W base sp held n 2 [c5] = some y4 := by simpa [Value.cells, eI] using hfs 4 _ rfl
    have k5 : DataW.trod enc Tryz.prog W base sp held n 52 [c6, c7, c8, c9, c10] = some y5 := by simpa [Value.cells, eS] using hfs 5 _ rfl
    have k6 : DataW.trod enc Tryz.prog W base sp held n 56 [c11, c12] = some y6 := by simpa [Value.cells, eH] using hfs 6 _ rfl
    obtain ⟨k, f0, _, wk⟩ := DataW.trod_int Tryz.underlying2 k0
    obtain ⟨s, f1, _, ws⟩ := DataW.trod_int Tryz.underlying47 k1
    obtain ⟨a, f4, _, wa⟩ := DataW.trod_int Tryz.underlying2 k3
    obtain ⟨t, f5, _, wt⟩ := DataW.trod_int Tryz.underlying2 k4
    obtain ⟨x0, x1, m, _, _, g0, g1⟩ := trod_struct2 Tryz.underlying49 k2
    have g0 : DataW.trod enc Tryz.prog W base sp held m 2 [c2] = some x0 := by simpa [eI] using g0
    have g1 : DataW.trod enc Tryz.prog W base sp held m 47 [c3] = some x1 := by simpa [eU] using g1
    obtain ⟨h, f2, _, wh⟩ := DataW.trod_int Tryz.underlying2 g0
    obtain ⟨l, f3, _, wl⟩ := DataW.trod_int Tryz.underlying47 g1
    obtain ⟨v0, v1, v2, v3, q, _, _, h0, h1, h2, h3⟩ := Joins.trod_struct4 Tryz.underlying52 k5
    have h0 : DataW.trod enc Tryz.prog W base sp held q 47 [c6] = some v0 := by simpa [eU] using h0
    have h1 : DataW.trod enc Tryz.prog W base sp held q 50 [c7] = some v1 := by simpa [eU, eB] using h1
    have h2 : DataW.trod enc Tryz.prog W base sp held q 50 [c8] = some v2 := by simpa [eU, eB] using h2
    have h3 : DataW.trod enc Tryz.prog W base sp held q 49 [c9, c10] = some v3 := by simpa [eU, eB, eW] using h3
    obtain ⟨z, f6, _, wz⟩ := DataW.trod_int Tryz.underlying47 h0
    obtain ⟨pa, pc, P, rfl, lP, kP, hP⟩ := open_bins h1
    obtain ⟨na, nc, N, rfl, lN, kN, hN⟩ := open_bins h2
    obtain ⟨x2, x3, m2, _, _, g2, g3⟩ := trod_struct2 Tryz.underlying49 h3
    have g2 : DataW.trod enc Tryz.prog W base sp held m2 2 [c9] = some x2 := by simpa [eI, eW] using g2
    have g3 : DataW.trod enc Tryz.prog W base sp held m2 47 [c10] = some x3 := by simpa [eU, eW] using g3
    obtain ⟨x, f9, _, wx⟩ := DataW.trod_int Tryz.underlying2 g2
    obtain ⟨y, f10, _, wy⟩ := DataW.trod_int Tryz.underlying47 g3
    obtain ⟨u0, u1, m3, _, _, j0, j1⟩ := trod_struct2 Tryz.underlying56 k6
    have j0 : DataW.trod enc Tryz.prog W base sp held m3 53 [c11] = some u0 := by simpa [eE] using j0
    have j1 : DataW.trod enc Tryz.prog W base sp held m3 54 [c12] = some u1 := by simpa [eR] using j1
    obtain ⟨ea, ec, E, rfl, lE, kE, hE⟩ := open_numsU Tryz.underlying53 Tryz.underlying47 (by kernel_rfl) j0
    obtain ⟨ra, rc, R, rfl, lR, kR, hR⟩ := open_numsU Tryz.underlying54 Tryz.underlying2 (by kernel_rfl) j1
    simp at f0 f1 f2 f3 f4 f5 f6 f9 f10
    subst f0 f1 f2 f3 f4 f5 f6 f9 f10
    exact ⟨⟨k, s, h, l, a, t, z, P, N, x, y, E, R⟩, ⟨pa, pc, na, nc, ea, ec, ra, rc⟩, rfl, ⟨bounds_i64 wk, bounds_u64 ws, bounds_i64 wh, bounds_u64 wl, bounds_i64 wa, bounds_i64 wt, bounds_u64 wz, bounds_i64 wx, bounds_u64 wy, kP, kN, fun b hb => bounds_u64 (kE b hb), fun b hb => bounds_i64 (kR b hb)⟩, ⟨lP, lN, lE, lR⟩, ⟨hP, hN, hE, hR⟩⟩
set_option maxRecDepth 100000 in
theorem open_agg {H : Type} {enc : TypeId × Value → H} {W : World} {r : Reach} {b0 base : Nat} {sp : Nat → Bool} {held : Bool} {v : Value} {d : DataW H} {ps : List MemPlace}
    (hval : Value.okWide Tryz.prog W r b0 58 v) (hd : DataW.Trod enc Tryz.prog W base sp held 58 v d ps) :
    ∃ (g : Ag) (p : Pl), v = .agg (agArr g p) ∧ AgOk g ∧ AgLen g ∧ AgAt W g p := by
  obtain ⟨cs, rfl, hsz⟩ := okWide_struct Tryz.underlying58 hval
  obtain ⟨c0, c1, c2, c3, c4, c5, c6, c7, c8, c9, c10, c11, c12, rfl⟩ := array13 (hsz.trans (show Tryz.prog.cellsOf 58 = 13 by kernel_rfl))
  obtain ⟨fuel, hf⟩ := hd
  obtain ⟨g, p, e, h⟩ := open_agg0 hf
  exact ⟨g, p, by rw [e], h⟩
end Go.Proofs.YtalmhekbagjdeaaGreatDoor
