/-
  Contracts of SketchMerge, the program's and the model's.
-/
import Derived.Test.YteencdjpfkkpnaaGreatDoorJV
namespace Go.Proofs.YteencdjpfkkpnaaGreatDoor
set_option linter.unusedVariables false
set_option linter.unusedSimpArgs false
open Go.ChangeShapes Go.WideShapes Go.ChangeAt Go.RowKit Go.PlainAid Go.Lib
set_option maxRecDepth 10000

def mrgOk (P N P' N' : List Bn) : Prop := skB P N = true ∧ skB P' N' = true
end Go.Proofs.YteencdjpfkkpnaaGreatDoor
