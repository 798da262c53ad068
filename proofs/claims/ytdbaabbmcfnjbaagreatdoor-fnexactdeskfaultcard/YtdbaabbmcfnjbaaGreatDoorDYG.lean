/-
 Parts.
-/
import Derived.Test.YtdbaabbmcfnjbaaGreatDoorDYB
set_option maxRecDepth 10000
set_option linter.all false
namespace Go.Proofs.YtdbaabbmcfnjbaaGreatDoor
open Go.ChangeShapes Go.WideShapes Go.ChangeAt Go.RowKit Go.PlainAid Go.Maps Go.Lib
section
end
section
variable {kd:IntKind} {T:TypeId} {w w':World} {B n:Nat} {v:Value} {L:List Int}
def ovn (k0:Nat) (R:List Int) (k:Nat):List Int:=mkn k0 k ++ R.drop k
end
section
def mkb (k0:Nat) (i:Nat):Bn:=(((k0+2*i:Nat):Int),((k0+2*i+1:Nat):Int))
def mkbs (k0 n:Nat):List Bn:=(List.range n).map (mkb k0)
def ovb (k0:Nat) (R:List Bn) (k:Nat):List Bn:=mkbs k0 k ++ R.drop k
end
variable {w:World}
section
theorem GrownS.weak {w':World} {S T:Nat->Prop} (h:GrownS w w' S) (hs:∀ k,S k->T k):GrownS w w' T:=⟨h.os,h.tape,h.output,h.size,fun k hk hn=>h.block k hk (fun e=>hn (hs k e))⟩
end
section
def cst (c:Ce):Nat:=11+2*c.g.P.length+2*c.g.N.length+c.g.E.length+c.g.R.length
def mkC (k:Nat) (c:Ce):Ce:=
 ⟨((k:Nat):Int),mtx (k+1),⟨((k+2:Nat):Int),((k+3:Nat):Int),((k+4:Nat):Int),((k+5:Nat):Int),((k+6:Nat):Int),((k+7:Nat):Int),((k+8:Nat):Int),mkbs (k+9) c.g.P.length,mkbs (k+9+2*c.g.P.length) c.g.N.length,((k+9+2*c.g.P.length+2*c.g.N.length:Nat):Int),((k+10+2*c.g.P.length+2*c.g.N.length:Nat):Int),mkn (k+11+2*c.g.P.length+2*c.g.N.length) c.g.E.length,mkn (k+11+2*c.g.P.length+2*c.g.N.length+c.g.E.length) c.g.R.length⟩,c.p⟩
def totC:List Ce->Nat
 | []=>0
 | c :: L=>cst c+totC L
def mkCs:Nat->List Ce->List Ce
 | _,[]=>[]
 | k,c :: L=>mkC k c :: mkCs (k+cst c) L
def ovC (k0:Nat) (L:List Ce) (i:Nat):List Ce:=mkCs k0 (L.take i) ++ L.drop i
def Qm1 (v:Value) (L:List Ce) (k:Nat):Prop:=v.ownBlock=some k∨∃ c∈L,Qd1 c.g c.p k
structure MkS (w W:World) (B:Nat) (v:Value) (L0 M:List Ce):Prop where
 r:OwnC W B v M
 o:CesO W B M
 g:GrownS w W (Qm1 v L0)
end
variable {B cp n:Nat}
variable {M:List Ce}
section
theorem Qp4 {ao:Option Addr} (h:OwnC w B (.slice ao n cp) M) (h0:0<M.length):∃ g,ao=some ⟨g,0,none⟩:=by
 rcases h.2 with ⟨e,q⟩ | ⟨g,ab,aa,e,q1,q2⟩
 ·omega
 ·injection e with e1 e2 e3
  exact ⟨g,e1⟩
theorem QiV {g i:Nat} {c:Ce} (h:OwnC w B (.slice (some ⟨g,0,none⟩) n cp) M) (hn:M.length=n) (hc:M[i]?=some c):QcX w g (i*15) c/\∀ j,w.frozen? ⟨g,j,none⟩=false:=by
 subst hn;have q:=QfG h hc;rw [Nat.zero_add] at q;exact ⟨q,fun j=>World.ownsRow.frozenAt h j⟩
end
section
end
section
structure CeRowX (w:World) (g N:Nat) (M:List Ce):Prop where
 row:∃ cur:Array Value,w.heap[g]?=some (.cells cur 92 (0,0))/\cur.size=N*15/\∀ i c,M[i]?=some c->∀ j v,(Qas c)[j]?=some v->cur[i*15+j]?=some v
 own:∀ c∈M,AgO w (g+1) c.g c.p
 ap:M.Pairwise ApC
end
end Go.Proofs.YtdbaabbmcfnjbaaGreatDoor
