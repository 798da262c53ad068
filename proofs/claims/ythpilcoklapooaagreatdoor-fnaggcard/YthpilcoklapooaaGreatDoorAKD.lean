/-
 The bins of a sketch written over, and held, as the exact laws do to see whose memory an answer is.
-/
import Derived.Test.YthpilcoklapooaaGreatDoorAJT
import Derived.Test.YthpilcoklapooaaGreatDoorAJX
import Derived.Test.YthpilcoklapooaaGreatDoorAJN
import Derived.Test.YthpilcoklapooaaGreatDoorAJZ
namespace Go.Proofs.YthpilcoklapooaaGreatDoor
set_option linter.unusedVariables false
set_option linter.unusedSimpArgs false
open Go.ChangeShapes Go.WideShapes Go.ChangeAt Go.RowKit Go.PlainAid Go.Lib
set_option maxRecDepth 10000
theorem OwnB.cells {w:World} {B n k:Nat} {v:Value} {L:List Bn} {x:Bn} (h:OwnB w B v n L) (hk:L[k]?=some x) :
  ∃ b off c,v=.slice (some ⟨b,off,none⟩) n c∧w.cell? ⟨b,off+k*2,none⟩=some (.int .i64 x.1)∧w.cell? ⟨b,off+k*2+1,none⟩=some (.int .u64 x.2)∧w.frozen? ⟨b,off+k*2,none⟩=false∧w.frozen? ⟨b,off+k*2+1,none⟩=false∧b<w.heap.size:=by
 have hkl:=(List.getElem?_eq_some_iff.1 hk).1
 have hl:=h.1
 obtain ⟨ao,c,rfl⟩:=h.any
 obtain ⟨b,off,rfl,hc⟩:=h.at (by omega)
 rcases h.2 with ⟨e,_⟩ | ⟨b',off',c',cur,e,h1,h2,h3⟩
 ·cases e
 ·cases e
  exact ⟨b,off,c,rfl,(hc k x hk).1,(hc k x hk).2,frozen_of_row w b _ _ _ h2,frozen_of_row w b _ _ _ h2,(Array.getElem?_eq_some_iff.1 h2).1⟩
def mkb (k0:Nat) (i:Nat):Bn:=(((k0+2*i:Nat):Int),((k0+2*i+1:Nat):Int))
def mkbs (k0 n:Nat):List Bn:=(List.range n).map (mkb k0)
/-- The first k are written over. -/
def ovb (k0:Nat) (R:List Bn) (k:Nat):List Bn:=mkbs k0 k ++ R.drop k
/-
 A sketch written over, and held, as the exact laws do.
-/
end Go.Proofs.YthpilcoklapooaaGreatDoor
/-
 A sketch of how many written over, and held, as the exact laws do.
-/
namespace Go.Proofs.YthpilcoklapooaaGreatDoor
set_option linter.unusedVariables false
set_option linter.unusedSimpArgs false
open Go.ChangeShapes Go.WideShapes Go.ChangeAt Go.RowKit Go.PlainAid
set_option maxRecDepth 10000
/-
 An Agg's lists written over, and held, as the exact laws do; worlds where nothing has turned but some blocks.
-/
/-- Nothing has turned but some blocks. -/
structure GrownS (w w':World) (S:Nat→Prop):Prop where
 os:w'.os=w.os
 tape:w'.tape=w.tape
 output:w'.output=w.output
 size:w.heap.size≤w'.heap.size
 block:∀ k,k<w.heap.size→¬ S k→w'.heap[k]?=w.heap[k]?
theorem GrownS.trans {w w1 w2:World} {S T:Nat→Prop} (h:GrownS w w1 S) (g:GrownS w1 w2 T):GrownS w w2 (fun k=>S k∨T k):=
 ⟨g.os.trans h.os,g.tape.trans h.tape,g.output.trans h.output,Nat.le_trans h.size g.size,fun k hk hn=>by
  rw [g.block k (Nat.lt_of_lt_of_le hk h.size) (fun e=>hn (.inr e)),h.block k hk (fun e=>hn (.inl e))]⟩
theorem GrownS.below {w0 w w':World} {B:Nat} {S:Nat→Prop} (h:Below B w0 w) (hB:B≤w.heap.size) (hg:GrownS w w' S) (h1:∀ k,S k→B≤k):Below B w0 w':=
 ⟨hg.os.trans h.os,hg.tape.trans h.tape,hg.output.trans h.output,Nat.le_trans h.size hg.size,fun k hk=>by
  rw [hg.block k (by omega) (fun e=>by have:=h1 k e;omega)];exact h.block k hk⟩
theorem GrownS.row {w w':World} {S:Nat→Prop} {g:Nat} {o:Obj} (hg:GrownS w w' S) (h:w.heap[g]?=some o) (h1:¬ S g):w'.heap[g]?=some o:=by
 rw [hg.block g (Array.getElem?_eq_some_iff.1 h).1 h1];exact h
theorem OwnB.keptS {w w':World} {B n:Nat} {v:Value} {L:List Bn} {S:Nat→Prop} (h:OwnB w B v n L) (hg:GrownS w w' S) (h1:∀ k,v.ownBlock=some k→¬ S k):OwnB w' B v n L:=by
 refine ⟨h.1,?_⟩
 rcases h.2 with h | ⟨b,off,c,cur,e,h2,h3,h4⟩
 ·exact .inl h
 ·refine .inr ⟨b,off,c,cur,e,h2,?_,h4⟩
  rw [hg.block b (Array.getElem?_eq_some_iff.1 h3).1 (h1 b (by rw [e];rfl))];exact h3
theorem OwnN.keptS {kd:IntKind} {T:TypeId} {w w':World} {B n:Nat} {v:Value} {L:List Int} {S:Nat→Prop} (h:OwnN kd T w B v n L) (hg:GrownS w w' S) (h1:∀ k,v.ownBlock=some k→¬ S k):OwnN kd T w' B v n L:=by
 refine ⟨h.1,h.2.1,?_⟩
 rcases h.2.2 with h | ⟨b,c,cur,e,h2,h3,h4⟩
 ·exact .inl h
 ·refine .inr ⟨b,c,cur,e,h2,?_,h4⟩
  rw [hg.block b (Array.getElem?_eq_some_iff.1 h3).1 (h1 b (by rw [e];rfl))];exact h3
/-- The blocks that an Agg's lists lie in. -/
def AgBlk (o:Ag) (p:Pl) (k:Nat):Prop:=((Value.slice p.pa o.P.length p.pc).ownBlock=some k∨(Value.slice p.na o.N.length p.nc).ownBlock=some k)∨((Value.slice p.ea o.E.length p.ec).ownBlock=some k∨(Value.slice p.ra o.R.length p.rc).ownBlock=some k)
theorem AgO.lt {w:World} {B k:Nat} {o:Ag} {p:Pl} (h:AgO w B o p) (hk:AgBlk o p k):B≤k∧k<w.heap.size:=by
 rcases hk with (e | e) | (e | e)
 ·exact h.P.lt k e
 ·exact h.N.lt k e
 ·exact h.E.lt k e
 ·exact h.R.lt k e
theorem AgO.keptS {w w':World} {B:Nat} {o:Ag} {p:Pl} {S:Nat→Prop} (h:AgO w B o p) (hg:GrownS w w' S) (h1:∀ k,AgBlk o p k→¬ S k):AgO w' B o p:=
 ⟨h.P.keptS hg (fun k e=>h1 k (.inl (.inl e))),h.N.keptS hg (fun k e=>h1 k (.inl (.inr e))),h.ap,h.E.keptS hg (fun k e=>h1 k (.inr (.inl e))),h.R.keptS hg (fun k e=>h1 k (.inr (.inr e)))⟩
/-- What an Agg is when it has been written over. -/
def mkA (k0:Nat) (o:Ag):Ag:={ o with P:=mkbs k0 o.P.length,N:=mkbs (k0+2*o.P.length) o.N.length,E:=mkn (k0+2*o.P.length+2*o.N.length) o.E.length,R:=mkn (k0+2*o.P.length+2*o.N.length+o.E.length) o.R.length }
def mkL (o:Ag):Nat:=2*o.P.length+2*o.N.length+o.E.length+o.R.length
/-- An Agg's four lists that hold what was written over. -/
structure AgM (w:World) (B k0:Nat) (o:Ag) (p:Pl):Prop where
 P:OwnB w B (.slice p.pa o.P.length p.pc) o.P.length (mkbs k0 o.P.length)
 N:OwnB w B (.slice p.na o.N.length p.nc) o.N.length (mkbs (k0+2*o.P.length) o.N.length)
 E:OwnN .u64 23 w B (.slice p.ea o.E.length p.ec) o.E.length (mkn (k0+2*o.P.length+2*o.N.length) o.E.length)
 R:OwnN .i64 2 w B (.slice p.ra o.R.length p.rc) o.R.length (mkn (k0+2*o.P.length+2*o.N.length+o.E.length) o.R.length)
theorem AgM.past {w w':World} {B k0:Nat} {o:Ag} {p:Pl} (h:AgM w B k0 o p) (hb:Below w.heap.size w w'):AgM w' B k0 o p:=⟨h.P.past hb,h.N.past hb,h.E.past hb,h.R.past hb⟩
/-- A new Agg owns its lists. -/
theorem AgOwn.o {w:World} {B gp gn ge gr:Nat} {g:Ag} (h:AgOwn w B g (plNew g gp gn ge gr)) (hpn:gp<gn):AgO w B g (plNew g gp gn ge gr):=
 ⟨OwnB.of h.P rfl,OwnB.of h.N rfl,fun k e1 e2=>by
  have h1:gp=k:=Option.some.inj e1
  have h2:gn=k:=Option.some.inj e2
  omega,⟨rfl,h.E⟩,⟨rfl,h.R⟩⟩
end Go.Proofs.YthpilcoklapooaaGreatDoor
