/-
 Parts.
-/
import Derived.Test.YtandnmpllheniaaGreatDoorCJN
set_option linter.all false
namespace Go.Proofs.YtandnmpllheniaaGreatDoor
open Go.RowKit
set_option maxRecDepth 10000
structure Grown2 (w w':World) (r s:Option Nat):Prop where
 os:w'.os=w.os
 tape:w'.tape=w.tape
 output:w'.output=w.output
 size:w.heap.size<=w'.heap.size
 block:∀ k,k<w.heap.size->some k≠r->some k≠s->w'.heap[k]?=w.heap[k]?
open Go.ChangeAt Go.ChangeShapes Go.PlainAid Go.WideShapes
def OwnN (kd:IntKind) (T:TypeId) (w:World) (B:Nat) (v:Value) (n:Nat) (L:List Int):Prop:=n=L.length/\w.ownsRow B T 1 v n (L.map (Value.int kd))
section
variable {kd:IntKind} {T:TypeId} {w w':World} {B n:Nat} {v:Value} {L:List Int}
theorem OwnN.past (h:OwnN kd T w B v n L) (hb:Below w.heap.size w w'):OwnN kd T w' B v n L:=⟨h.1,QaU h.2 hb⟩
theorem OwnN.le {B':Nat} (h:OwnN kd T w B v n L) (hb:B'<=B):OwnN kd T w B' v n L:=⟨h.1,QaE h.2 hb⟩
theorem OwnN.at {c:Nat} {ao:Option Addr} (h:OwnN kd T w B (.slice ao n c) n L):Qaq kd w ao L:=by
 have h2:=h.2;rw [h.1] at h2;exact (Qgt h2).1
theorem OwnN.lt (h:OwnN kd T w B v n L):∀ k,v.ownBlock=some k->B<=k/\k<w.heap.size:=fun k e=>by
 rcases h.2.2 with ⟨rfl,_⟩ | ⟨g,c,cur,rfl,h1,h2,_⟩
 ·cases e
 ·have:g=k:=Option.some.inj e
  subst this;exact ⟨h1,(ZZc.1 h2).1⟩
end
def mkn (k0 n:Nat):List Int:=(List.range n).map fun i=>((k0+i:Nat):Int)
def ovn (k0:Nat) (R:List Int) (k:Nat):List Int:=mkn k0 k ++ R.drop k
end Go.Proofs.YtandnmpllheniaaGreatDoor
