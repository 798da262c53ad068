/-
 Worlds where nothing has turned but two blocks.
-/
import Derived.Test.YthpilcoklapooaaGreatDoorAJA
import Derived.Test.YthpilcoklapooaaGreatDoorAJL
import Derived.Test.YthpilcoklapooaaGreatDoorAJN
namespace Go.Proofs.YthpilcoklapooaaGreatDoor
set_option linter.unusedVariables false
set_option linter.unusedSimpArgs false
open Go.RowKit
set_option maxRecDepth 10000
/-- Nothing has turned but two blocks. -/
structure Grown2 (w w':World) (r s:Option Nat):Prop where
 os:w'.os=w.os
 tape:w'.tape=w.tape
 output:w'.output=w.output
 size:w.heap.size≤w'.heap.size
 block:∀ k,k<w.heap.size→some k≠r→some k≠s→w'.heap[k]?=w.heap[k]?
theorem Grown2.below {w0 w w':World} {B:Nat} {r s:Option Nat} (h:Below B w0 w) (hB:B≤w.heap.size) (hg:Grown2 w w' r s) (h1:∀ k,r=some k→B≤k) (h2:∀ k,s=some k→B≤k):Below B w0 w':=
 ⟨hg.os.trans h.os,hg.tape.trans h.tape,hg.output.trans h.output,Nat.le_trans h.size hg.size,fun k hk=>by
  rw [hg.block k (by omega) (fun e=>by have:=h1 k e.symm;omega) (fun e=>by have:=h2 k e.symm;omega)];exact h.block k hk⟩
theorem Grown2.row {w w':World} {r s:Option Nat} {g:Nat} {o:Obj} (hg:Grown2 w w' r s) (h:w.heap[g]?=some o) (h1:r≠some g) (h2:s≠some g):w'.heap[g]?=some o:=by
 rw [hg.block g (Array.getElem?_eq_some_iff.1 h).1 (fun e=>h1 e.symm) (fun e=>h2 e.symm)];exact h
end Go.Proofs.YthpilcoklapooaaGreatDoor
/-
 Rows of numbers written over, and held, as the exact laws do; a sketch of how many likewise. (Written by tools/gen_markn.py.)
-/
namespace Go.Proofs.YthpilcoklapooaaGreatDoor
set_option linter.unusedVariables false
set_option linter.unusedSimpArgs false
open Go.ChangeShapes Go.WideShapes Go.ChangeAt Go.RowKit Go.PlainAid
set_option maxRecDepth 10000
/-- A row of numbers of its own. -/
def OwnN (kd:IntKind) (T:TypeId) (w:World) (B:Nat) (v:Value) (n:Nat) (L:List Int):Prop:=n=L.length∧w.ownsRow B T 1 v n (L.map (Value.int kd))
section
variable {kd:IntKind} {T:TypeId} {w w':World} {B n:Nat} {v:Value} {L:List Int}
theorem OwnN.any (h:OwnN kd T w B v n L):∃ ao c,v=.slice ao n c:=own_any h.2
theorem OwnN.past (h:OwnN kd T w B v n L) (hb:Below w.heap.size w w'):OwnN kd T w' B v n L:=⟨h.1,own_past h.2 hb⟩
theorem OwnN.le {B':Nat} (h:OwnN kd T w B v n L) (hb:B'≤B):OwnN kd T w B' v n L:=⟨h.1,own_le h.2 hb⟩
theorem OwnN.kept {r:Option Nat} (h:OwnN kd T w B v n L) (hg:w.grownBy w' r) (hne:v.ownBlock=none∨v.ownBlock≠r):OwnN kd T w' B v n L:=⟨h.1,h.2.kept hg hne⟩
theorem OwnN.at {c:Nat} {ao:Option Addr} (h:OwnN kd T w B (.slice ao n c) n L):NumsAt kd w ao L:=by
 have h2:=h.2
 rw [h.1] at h2
 exact (nums_own h2).1
theorem OwnN.lt (h:OwnN kd T w B v n L):∀ k,v.ownBlock=some k→B≤k∧k<w.heap.size:=fun k e=>by
 rcases h.2.2 with ⟨rfl,_⟩ | ⟨g,c,cur,rfl,h1,h2,_⟩
 ·cases e
 ·have:g=k:=Option.some.inj e
  subst this
  exact ⟨h1,(Array.getElem?_eq_some_iff.1 h2).1⟩
theorem OwnN.cells {k:Nat} {x:Int} (h:OwnN kd T w B v n L) (hk:L[k]?=some x):∃ b c,v=.slice (some ⟨b,0,none⟩) n c∧w.cell? ⟨b,k,none⟩=some (.int kd x)∧w.frozen? ⟨b,k,none⟩=false:=by
 have hkl:=(List.getElem?_eq_some_iff.1 hk).1
 have hn:=h.1
 rcases h.2.2 with ⟨_,h0⟩ | ⟨g,c,cur,rfl,h1,h2,_⟩
 ·omega
 ·exact ⟨g,c,rfl,by rw [h.2.cellAt k (by omega),List.getElem?_map,hk];rfl,frozen_of_row w g _ _ _ h2⟩
theorem OwnN.put {b c k:Nat} (h:OwnN kd T w B (.slice (some ⟨b,0,none⟩) n c) n L) (x:Int):OwnN kd T (w.setCell ⟨b,k,none⟩ (.int kd x)) B (.slice (some ⟨b,0,none⟩) n c) n (L.set k x):=by
 refine ⟨by rw [List.length_set];exact h.1,?_⟩
 rw [List.map_set];exact (h.2.stored k _).1
end
def mkn (k0 n:Nat):List Int:=(List.range n).map fun i=>((k0+i:Nat):Int)
def ovn (k0:Nat) (R:List Int) (k:Nat):List Int:=mkn k0 k ++ R.drop k
end Go.Proofs.YthpilcoklapooaaGreatDoor
