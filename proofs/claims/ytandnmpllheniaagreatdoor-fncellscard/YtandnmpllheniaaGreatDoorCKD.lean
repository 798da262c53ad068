/-
 Parts.
-/
import Derived.Test.YtandnmpllheniaaGreatDoorCJY
set_option linter.all false
set_option maxRecDepth 10000
namespace Go.Proofs.YtandnmpllheniaaGreatDoor
open Go.ChangeShapes Go.WideShapes Go.ChangeAt Go.RowKit Go.PlainAid Go.Lib
def mkb (k0:Nat) (i:Nat):Bn:=(((k0+2*i:Nat):Int),((k0+2*i+1:Nat):Int))
def Qrn (k0 n:Nat):List Bn:=(List.range n).map (mkb k0)
def ovb (k0:Nat) (R:List Bn) (k:Nat):List Bn:=Qrn k0 k ++ R.drop k
end Go.Proofs.YtandnmpllheniaaGreatDoor
namespace Go.Proofs.YtandnmpllheniaaGreatDoor
open Go.ChangeShapes Go.WideShapes Go.ChangeAt Go.RowKit Go.PlainAid
structure GrownS (w w':World) (S:Nat->Prop):Prop where
 os:w'.os=w.os
 tape:w'.tape=w.tape
 output:w'.output=w.output
 size:w.heap.size<=w'.heap.size
 block:∀ k,k<w.heap.size->¬ S k->w'.heap[k]?=w.heap[k]?
theorem OwnB.keptS {w w':World} {B n:Nat} {v:Value} {L:List Bn} {S:Nat->Prop} (h:OwnB w B v n L) (hg:GrownS w w' S) (h1:∀ k,v.ownBlock=some k->¬ S k):OwnB w' B v n L:=by
 refine ⟨h.1,?_⟩;rcases h.2 with h | ⟨b,ab,c,aa,e,h2,h3,h4⟩
 ·exact .inl h
 ·refine .inr ⟨b,ab,c,aa,e,h2,?_,h4⟩
  rw [hg.block b (Array.getElem?_eq_some_iff.1 h3).1 (h1 b (by rw [e];rfl))];exact h3
theorem OwnN.keptS {kd:IntKind} {T:TypeId} {w w':World} {B n:Nat} {v:Value} {L:List Int} {S:Nat->Prop} (h:OwnN kd T w B v n L) (hg:GrownS w w' S) (h1:∀ k,v.ownBlock=some k->¬ S k):OwnN kd T w' B v n L:=by
 refine ⟨h.1,h.2.1,?_⟩;rcases h.2.2 with h | ⟨b,c,aa,e,h2,h3,h4⟩
 ·exact .inl h
 ·refine .inr ⟨b,c,aa,e,h2,?_,h4⟩
  rw [hg.block b (Array.getElem?_eq_some_iff.1 h3).1 (h1 b (by rw [e];rfl))];exact h3
def Qdu (o:Ag) (p:Pl) (k:Nat):Prop:=((Value.slice p.pa o.P.length p.pc).ownBlock=some k∨(Value.slice p.na o.N.length p.nc).ownBlock=some k)∨((Value.slice p.ea o.E.length p.ec).ownBlock=some k∨(Value.slice p.ra o.R.length p.rc).ownBlock=some k)
theorem AgO.lt {w:World} {B k:Nat} {o:Ag} {p:Pl} (h:AgO w B o p) (hk:Qdu o p k):B<=k/\k<w.heap.size:=by
 rcases hk with (e | e) | (e | e)
 ·exact h.P.lt k e
 ·exact h.N.lt k e
 ·exact h.E.lt k e
 ·exact h.R.lt k e
theorem AgO.keptS {w w':World} {B:Nat} {o:Ag} {p:Pl} {S:Nat->Prop} (h:AgO w B o p) (hg:GrownS w w' S) (h1:∀ k,Qdu o p k->¬ S k):AgO w' B o p:=
 ⟨h.P.keptS hg (fun k e=>h1 k (.inl (.inl e))),h.N.keptS hg (fun k e=>h1 k (.inl (.inr e))),h.ap,h.E.keptS hg (fun k e=>h1 k (.inr (.inl e))),h.R.keptS hg (fun k e=>h1 k (.inr (.inr e)))⟩
def mkA (k0:Nat) (o:Ag):Ag:={ o with P:=Qrn k0 o.P.length,N:=Qrn (k0+2*o.P.length) o.N.length,E:=mkn (k0+2*o.P.length+2*o.N.length) o.E.length,R:=mkn (k0+2*o.P.length+2*o.N.length+o.E.length) o.R.length }
def mkL (o:Ag):Nat:=2*o.P.length+2*o.N.length+o.E.length+o.R.length
structure AgM (w:World) (B k0:Nat) (o:Ag) (p:Pl):Prop where
 P:OwnB w B (.slice p.pa o.P.length p.pc) o.P.length (Qrn k0 o.P.length)
 N:OwnB w B (.slice p.na o.N.length p.nc) o.N.length (Qrn (k0+2*o.P.length) o.N.length)
 E:OwnN .u64 26 w B (.slice p.ea o.E.length p.ec) o.E.length (mkn (k0+2*o.P.length+2*o.N.length) o.E.length)
 R:OwnN .i64 2 w B (.slice p.ra o.R.length p.rc) o.R.length (mkn (k0+2*o.P.length+2*o.N.length+o.E.length) o.R.length)
end Go.Proofs.YtandnmpllheniaaGreatDoor
