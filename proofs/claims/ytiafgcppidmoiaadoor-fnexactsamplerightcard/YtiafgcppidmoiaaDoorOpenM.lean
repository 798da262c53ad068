/-
  An argument that is a sample, opened.
-/
import Derived.Test.YtiafgcppidmoiaaDoorSmpI
import Derived.Carry
import Derived.ChangeOld
import Derived.ChangeSame
import Derived.WalkKit
import Derived.ProofKit
import Derived.OpenShut
namespace Go.Proofs.YtiafgcppidmoiaaDoor
set_option linter.unusedVariables false
set_option linter.unusedSimpArgs false
open Go.ChangeShapes Go.WideShapes Go.ChangeAt Go.RowKit Go.PlainAid

theorem array7 {α : Type} {cs : Array α} (h : cs.size = 7) : ∃ c0 c1 c2 c3 c4 c5 c6, cs = #[c0, c1, c2, c3, c4, c5, c6] := by
  obtain ⟨l⟩ := cs
  match l, h with
  | [c0, c1, c2, c3, c4, c5, c6], _ => exact ⟨c0, c1, c2, c3, c4, c5, c6, rfl⟩
set_option maxRecDepth 100000 in
theorem open_sample {H : Type} {enc : TypeId × Value → H} {W : World} {r : Reach} {b0 base : Nat} {sp : Nat → Bool} {held : Bool} {v : Value} {d : DataW H} {ps : List MemPlace}
    (hval : Value.okWide Tryd.prog W r b0 25 v) (hd : DataW.Trod enc Tryd.prog W base sp held 25 v d ps) :
    ∃ (k : Int) (se : ByteArray) (vv : Int) (wd : ByteArray) (wt : Int) (tm : Bool) (ti : Int), v = smpV k se vv wd wt tm ti ∧ se.size ≤ maxLen ∧ wd.size ≤ maxLen := by
  obtain ⟨cs, rfl, hsz⟩ := okWide_struct Tryd.underlying25 hval
  obtain ⟨c0, c1, c2, c3, c4, c5, c6, rfl⟩ := array7 (hsz.trans (show Tryd.prog.cellsOf 25 = 7 by kernel_rfl))
  obtain ⟨fuel, hf⟩ := hd
  obtain ⟨xs, n, _, _, _, hlen, hfs⟩ := DataW.trod_struct Tryd.underlying25 hf
  have eI : Tryd.prog.cellsOf 2 = 1 := by kernel_rfl
  have eS : Tryd.prog.cellsOf 9 = 1 := by kernel_rfl
  have eU : Tryd.prog.cellsOf 23 = 1 := by kernel_rfl
  have eB : Tryd.prog.cellsOf 4 = 1 := by kernel_rfl
  match xs, hlen with
  | [y0, y1, y2, y3, y4, y5, y6], _ =>
    have k0 : DataW.trod enc Tryd.prog W base sp held n 2 [c0] = some y0 := by simpa [Value.cells, eI] using hfs 0 _ rfl
    have k1 : DataW.trod enc Tryd.prog W base sp held n 9 [c1] = some y1 := by simpa [Value.cells, eS] using hfs 1 _ rfl
    have k2 : DataW.trod enc Tryd.prog W base sp held n 2 [c2] = some y2 := by simpa [Value.cells, eI] using hfs 2 _ rfl
    have k3 : DataW.trod enc Tryd.prog W base sp held n 9 [c3] = some y3 := by simpa [Value.cells, eS] using hfs 3 _ rfl
    have k4 : DataW.trod enc Tryd.prog W base sp held n 23 [c4] = some y4 := by simpa [Value.cells, eU] using hfs 4 _ rfl
    have k5 : DataW.trod enc Tryd.prog W base sp held n 4 [c5] = some y5 := by simpa [Value.cells, eB] using hfs 5 _ rfl
    have k6 : DataW.trod enc Tryd.prog W base sp held n 2 [c6] = some y6 := by simpa [Value.cells, eI] using hfs 6 _ rfl
    obtain ⟨a0, f0, _, w0⟩ := DataW.trod_int Tryd.underlying2 k0
    obtain ⟨a1, f1, _, w1⟩ := DataW.trod_string Tryd.underlying9 k1
    obtain ⟨a2, f2, _, w2⟩ := DataW.trod_int Tryd.underlying2 k2
    obtain ⟨a3, f3, _, w3⟩ := DataW.trod_string Tryd.underlying9 k3
    obtain ⟨a4, f4, _, w4⟩ := DataW.trod_int Tryd.underlying23 k4
    obtain ⟨a5, f5, _⟩ := DataW.trod_bool Tryd.underlying4 k5
    obtain ⟨a6, f6, _, w6⟩ := DataW.trod_int Tryd.underlying2 k6
    simp at f0 f1 f2 f3 f4 f5 f6
    subst f0 f1 f2 f3 f4 f5 f6
    exact ⟨a0, a1, a2, a3, a4, a5, a6, rfl, w1, w3⟩
end Go.Proofs.YtiafgcppidmoiaaDoor
