/-
  The step of a claim that is handed the world's shape beside what its listed variables hold. Of no program.
-/
import Derived.Test.YtnflhahnbdnaoaaGreatDoorRows
import Derived.Carry
import Derived.ShutString
import Derived.ChangeOld
import Derived.ChangeSame
import Derived.ChangeVars
import Derived.JoinedOf
import Derived.LaidLaws
import Derived.LaidHandle
import Derived.LaidSub
import Derived.Lib.LaidTab
import Derived.Lay
import Derived.MakeChecks
import Derived.Stop.Joined
import Derived.SevenTiedAt
import Derived.Deep.DeepHandedRow
import Derived.WalkKit
import Derived.ProofKit
import Derived.OpenShut
import Derived.Test.YtnflhahnbdnaoaaGreatDoorLQ
namespace Go.Proofs.YtnflhahnbdnaoaaGreatDoor
set_option linter.unusedVariables false
set_option linter.unusedSimpArgs false
open Go.ChangeShapes Go.WideShapes Go.ChangeAt Go.RowKit

/-- The claim's step for a law whose walk asks what the listed variables hold, and that the world has its shape. -/
theorem handed_shaped {H : Type} {enc : TypeId × Value → H} {a : Assume} {C : Checked} {os : Os} {f : FuncId} {fn : Func} {s : ChangeSpec} {conds : List PathCond} {apart fresh handsOn again : Bool} {L : List (String × DataW Unit)}
    (own : ownKnob C.prog.godebug = none) (started : os.Started) (noInit : C.prog.inits.idxOf? f = none) (hfn : C.prog.funcs[f]? = some fn)
    (wit : ∃ (w : World) (tape : Tape) (i : Input), w.os = os ∧ (w.forCall tape i).Shaped C.prog ∧ i.vars = [] ∧ Input.okWide C.prog (w.forCall tape i) .any w.heap.size f i ∧
      ((s.pre enc C.prog fn conds apart (w.forCall tape i).memory i.args ∧ laidMetH C.prog L (w.forCall tape i).memory) ∧ sizedMet enc C.prog fn (OpenSpec.ofChange s) apart (w.forCall tape i).memory i.args) ∧ a.holds C.prog (lone (Frame.enter C.prog f i.args .normal) [] (w.forCall tape i)))
    (step : ∀ (W : World) (base : Nat) (args : Array Value) (ds gs : List (DataW H)) (before : List MemPlace),
      (∀ (j : Nat) t v, fn.params[j]? = some t → args[j]? = some v → Value.okWide C.prog W .any base t v) → DataW.Whole enc C.prog fn.params.toList s.vars apart W args.toList ds gs before →
      laidMetH C.prog L W → W.ShapedOpen C.prog →
      Calls C.prog f args W fun e W' => ∃ v, e = .returned v ∧ s.post enc C.prog fn apart fresh handsOn again W args v W') :
    ReturnsInHanded a C os f .any (fun w args => (s.pre enc C.prog fn conds apart w args ∧ laidMetH C.prog L w) ∧ sizedMet enc C.prog fn (OpenSpec.ofChange s) apart w args) (s.post enc C.prog fn apart fresh handsOn again) := by
  refine returnsInHanded_of_calls own started noInit wit ?_
  rintro w tape i _ hsh _ ⟨_, _, _, fn', hfn', _, _, _, _, hval⟩ ⟨⟨⟨ds, gs, before, hw, _⟩, hl⟩, _⟩ _
  obtain rfl : fn' = fn := Option.some.inj (hfn'.symm.trans hfn)
  refine (step (w.forCall tape i) w.heap.size i.args ds gs before hval (DataW.Whole.of_heap (w' := w.forCall tape i) (by rfl) hw) (hl.of_heap (by rfl)) hsh).mono ?_
  rintro e W' ⟨v, rfl, hp⟩
  exact ChangeSpec.post_blind hp
end Go.Proofs.YtnflhahnbdnaoaaGreatDoor

/-
  A world over which the listed variables are laid. Of no program.
-/
namespace Go.Proofs.YtnflhahnbdnaoaaGreatDoor
set_option linter.unusedVariables false
set_option linter.unusedSimpArgs false
open Go.RowKit

theorem laidMet_over {P : Program} {W0 : World} {laid : List (String × DataW Unit)} (args : Array Value) (hf : W0.layFits P laid [] = true) (hi : W0.layIfaces P laid (W0.layVars P laid) = true) :
    laidMet P laid ((W0.layVars P laid).forCall (fun _ _ => 0) ⟨#[], args, []⟩).memory := by
  have e1 : (laid.filter fun x => (laid.map (·.1)).contains x.1) = laid := List.filter_eq_self.2 fun x hx => List.contains_iff_mem.2 (List.mem_map.2 ⟨x, hx, rfl⟩)
  have e2 : (laid.filter fun x => !(laid.map (·.1)).contains x.1) = [] := List.filter_eq_nil_iff.2 fun x hx => by rw [List.contains_iff_mem.2 (List.mem_map.2 ⟨x, hx, rfl⟩)]; simp
  have h : laidMet P laid (W0.layVars P laid) := laidMet_layVars (w0 := W0) (laid.map (·.1)) [] (by rw [e1]) (by rw [e1]; exact hf) (by rw [e1]; exact hi) (by rw [e2]; exact LaidIn.none)
  exact h.of_heap (by simp [World.memory, World.forCall, Input.heap])
end Go.Proofs.YtnflhahnbdnaoaaGreatDoor

/-
  An argument that is a sample, opened.
-/
namespace Go.Proofs.YtnflhahnbdnaoaaGreatDoor
set_option linter.unusedVariables false
set_option linter.unusedSimpArgs false
open Go.ChangeShapes Go.WideShapes Go.ChangeAt Go.RowKit Go.PlainAid

theorem array7 {α : Type} {cs : Array α} (h : cs.size = 7) : ∃ c0 c1 c2 c3 c4 c5 c6, cs = #[c0, c1, c2, c3, c4, c5, c6] := by
  obtain ⟨l⟩ := cs
  match l, h with
  | [c0, c1, c2, c3, c4, c5, c6], _ => exact ⟨c0, c1, c2, c3, c4, c5, c6, rfl⟩
set_option maxRecDepth 100000 in
theorem open_sample {H : Type} {enc : TypeId × Value → H} {W : World} {r : Reach} {b0 base : Nat} {sp : Nat → Bool} {held : Bool} {v : Value} {d : DataW H} {ps : List MemPlace}
    (hval : Value.okWide Tryz.prog W r b0 24 v) (hd : DataW.Trod enc Tryz.prog W base sp held 24 v d ps) :
    ∃ (k : Int) (se : ByteArray) (vv : Int) (wd : ByteArray) (wt : Int) (tm : Bool) (ti : Int), v = smpV k se vv wd wt tm ti ∧ se.size ≤ maxLen ∧ wd.size ≤ maxLen := by
  obtain ⟨cs, rfl, hsz⟩ := okWide_struct Tryz.underlying24 hval
  obtain ⟨c0, c1, c2, c3, c4, c5, c6, rfl⟩ := array7 (hsz.trans (show Tryz.prog.cellsOf 24 = 7 by kernel_rfl))
  obtain ⟨fuel, hf⟩ := hd
  obtain ⟨xs, n, _, _, _, hlen, hfs⟩ := DataW.trod_struct Tryz.underlying24 hf
  have eI : Tryz.prog.cellsOf 2 = 1 := by kernel_rfl
  have eS : Tryz.prog.cellsOf 9 = 1 := by kernel_rfl
  have eU : Tryz.prog.cellsOf 22 = 1 := by kernel_rfl
  have eB : Tryz.prog.cellsOf 4 = 1 := by kernel_rfl
  match xs, hlen with
  | [y0, y1, y2, y3, y4, y5, y6], _ =>
    have k0 : DataW.trod enc Tryz.prog W base sp held n 2 [c0] = some y0 := by simpa [Value.cells, eI] using hfs 0 _ rfl
    have k1 : DataW.trod enc Tryz.prog W base sp held n 9 [c1] = some y1 := by simpa [Value.cells, eS] using hfs 1 _ rfl
    have k2 : DataW.trod enc Tryz.prog W base sp held n 2 [c2] = some y2 := by simpa [Value.cells, eI] using hfs 2 _ rfl
    have k3 : DataW.trod enc Tryz.prog W base sp held n 9 [c3] = some y3 := by simpa [Value.cells, eS] using hfs 3 _ rfl
    have k4 : DataW.trod enc Tryz.prog W base sp held n 22 [c4] = some y4 := by simpa [Value.cells, eU] using hfs 4 _ rfl
    have k5 : DataW.trod enc Tryz.prog W base sp held n 4 [c5] = some y5 := by simpa [Value.cells, eB] using hfs 5 _ rfl
    have k6 : DataW.trod enc Tryz.prog W base sp held n 2 [c6] = some y6 := by simpa [Value.cells, eI] using hfs 6 _ rfl
    obtain ⟨a0, f0, _, w0⟩ := DataW.trod_int Tryz.underlying2 k0
    obtain ⟨a1, f1, _, w1⟩ := DataW.trod_string Tryz.underlying9 k1
    obtain ⟨a2, f2, _, w2⟩ := DataW.trod_int Tryz.underlying2 k2
    obtain ⟨a3, f3, _, w3⟩ := DataW.trod_string Tryz.underlying9 k3
    obtain ⟨a4, f4, _, w4⟩ := DataW.trod_int Tryz.underlying22 k4
    obtain ⟨a5, f5, _⟩ := DataW.trod_bool Tryz.underlying4 k5
    obtain ⟨a6, f6, _, w6⟩ := DataW.trod_int Tryz.underlying2 k6
    simp at f0 f1 f2 f3 f4 f5 f6
    subst f0 f1 f2 f3 f4 f5 f6
    exact ⟨a0, a1, a2, a3, a4, a5, a6, rfl, w1, w3⟩
end Go.Proofs.YtnflhahnbdnaoaaGreatDoor
