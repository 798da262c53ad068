/-
 Parts.
-/
import Derived.Test.YtdbaabbmcfnjbaaGreatDoorDXB
import Derived.Deep.Draws
import Derived.Laws.CopyOwn
import Derived.Sort.Grow
set_option maxRecDepth 10000
set_option linter.all false
namespace Go.Proofs.YtdbaabbmcfnjbaaGreatDoor
open Go.ChangeShapes Go.WideShapes Go.ChangeAt Go.RowKit Go.PlainAid Go.Lib Go.Maps Go.Shelf
open Go.Sort hiding Below
section
structure Grw (w w':World):Prop where
 b:Below w.heap.size w w'
 d:w.drawn<=w'.drawn
end
section
theorem QqQ {w:World} {B s n:Nat} {e:TypeId} {v:Value} {xs:List Value} (h:w.ownsRow B e s v n xs):∃ ao c,v=.slice ao n c:=by
 rcases h.2 with ⟨rfl,rfl⟩ | ⟨g,c,_,rfl,_⟩
 ·exact ⟨none,0,rfl⟩
 ·exact ⟨_,c,rfl⟩
end
section
end
section
end
instance inhCe:Inhabited Ce:=⟨⟨0,⟨#[]⟩,Qe8,⟨none,0,none,0,none,0,none,0⟩⟩⟩
section
def cfC (c d:Ce):Int:=cmpK c.n c.s d.n d.s
end
section
end
section
end
section
end
section
end
section
end
end Go.Proofs.YtdbaabbmcfnjbaaGreatDoor
