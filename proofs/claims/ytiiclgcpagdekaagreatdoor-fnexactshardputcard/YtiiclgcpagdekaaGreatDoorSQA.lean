/-
 Aggs brought together in any order. The mathematics.
-/
import Derived.Test.YtiiclgcpagdekaaGreatDoorSPA
namespace Go.Proofs.YtiiclgcpagdekaaGreatDoor
set_option linter.unusedVariables false
set_option linter.unusedSimpArgs false
open Go.ChangeShapes Go.WideShapes Go.ChangeAt Go.RowKit Go.PlainAid Go.Lib
set_option maxRecDepth 10000
structure AgR2 (g g':Ag):Prop where
 r:agB g=true
 r':agB g'=true
 k:g.k=g'.k
end Go.Proofs.YtiiclgcpagdekaaGreatDoor
