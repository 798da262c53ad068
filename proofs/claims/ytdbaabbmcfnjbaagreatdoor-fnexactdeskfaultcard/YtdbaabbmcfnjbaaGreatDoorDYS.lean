/-
 Parts.
-/
import Derived.Test.YtdbaabbmcfnjbaaGreatDoorDYG
set_option maxRecDepth 10000
set_option linter.all false
namespace Go.Proofs.YtdbaabbmcfnjbaaGreatDoor
section
open Go.ChangeShapes Go.WideShapes Go.ChangeAt Go.RowKit Go.PlainAid Go.Lib
def agTot (g:Ag):Nat:=g.P.length+g.N.length+g.E.length+g.R.length
def ceTot:List Ce->Nat
 | []=>0
 | c :: L=>agTot c.g+ceTot L
end
section
open Go.ChangeShapes Go.WideShapes Go.ChangeAt Go.RowKit Go.PlainAid Go.Lib
end
end Go.Proofs.YtdbaabbmcfnjbaaGreatDoor
