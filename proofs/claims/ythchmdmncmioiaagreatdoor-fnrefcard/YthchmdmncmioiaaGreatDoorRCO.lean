/-
 Numbers in digits. Of no program's walk.
-/
import Derived.Lib.ItoaLen
import Derived.Laws.BytesArg
import Derived.Test.YthchmdmncmioiaaGreatDoorRCN
namespace Go.Proofs.YthchmdmncmioiaaGreatDoor
set_option linter.unusedVariables false
set_option linter.unusedSimpArgs false
open Go.ChangeShapes Go.WideShapes Go.ChangeAt Go.RowKit Go.PlainAid
theorem dec_ten {n:Nat} (h:¬ n<10):Lib.decDigits n=Lib.decDigits (n / 10) ++ [UInt8.ofNat (48+n % 10)]:=by
 rw [Lib.decDigits,dif_neg h]
def DecR (N m:Nat) (D:List UInt8):Prop:=(m=0→D=Lib.decDigits N)∧(m≠0→Lib.decDigits m ++ D=Lib.decDigits N)
theorem decR_step {N m:Nat} {D:List UInt8} (h:DecR N m D) (hm:m≠0):DecR N (m / 10) (UInt8.ofNat (48+m % 10) :: D):=by
 have h2:=h.2 hm;by_cases k:m<10
 ·rw [Lib.decDigits_one k] at h2
  refine ⟨fun _=>by rw [Nat.mod_eq_of_lt k];exact h2,fun h0=>absurd (Nat.div_eq_of_lt k) h0⟩
 ·rw [dec_ten k,List.append_assoc] at h2
  exact ⟨fun h0=>by omega,fun _=>h2⟩
theorem decR_len {N m:Nat} {D:List UInt8} (h:DecR N m D) (hN:(Lib.decDigits N).length≤21):D.length≤21:=by
 by_cases k:m=0
 ·rw [h.1 k];exact hN
 ·have:=congrArg List.length (h.2 k);simp at this;omega
theorem dec_len (N:Nat) (h:N≤9223372036854775807):(Lib.decDigits N).length≤21:=by
 have:=Lib.itoa_length_le (N:Int) (by omega) (by omega);have e:Lib.itoa (N:Int)=Lib.decDigits N:=by unfold Lib.itoa;rw [if_neg (by omega)];simp
 rw [e] at this;exact this
theorem ret_str {a b:ByteArray} (h:a=b):Ending.returned (.string a)=.returned (.string b):=by rw [h]
theorem str_cat (b:UInt8) (D:List UInt8):(⟨#[b]⟩:ByteArray) ++ ⟨D.toArray⟩=⟨(b :: D).toArray⟩:=by
 apply ByteArray.ext;rw [ByteArray.data_append];simp
set_option maxRecDepth 10000
def mtx (k:Nat):ByteArray:=⟨#[109]⟩ ++ ⟨(Lib.decDigits k).toArray⟩
open Go.Lib
def agTot (g:Ag):Nat:=g.P.length+g.N.length+g.E.length+g.R.length
def ceTot:List Ce→Nat
 | []=>0
 | c :: L=>agTot c.g+ceTot L
def cst (c:Ce):Nat:=11+2*c.g.P.length+2*c.g.N.length+c.g.E.length+c.g.R.length
def mkC (k:Nat) (c:Ce):Ce:=
 ⟨((k:Nat):Int),mtx (k+1),⟨((k+2:Nat):Int),((k+3:Nat):Int),((k+4:Nat):Int),((k+5:Nat):Int),((k+6:Nat):Int),((k+7:Nat):Int),((k+8:Nat):Int),mkbs (k+9) c.g.P.length,mkbs (k+9+2*c.g.P.length) c.g.N.length,((k+9+2*c.g.P.length+2*c.g.N.length:Nat):Int),((k+10+2*c.g.P.length+2*c.g.N.length:Nat):Int),mkn (k+11+2*c.g.P.length+2*c.g.N.length) c.g.E.length,mkn (k+11+2*c.g.P.length+2*c.g.N.length+c.g.E.length) c.g.R.length⟩,c.p⟩
def totC:List Ce→Nat
 | []=>0
 | c :: L=>cst c+totC L
def mkCs:Nat→List Ce→List Ce
 | _,[]=>[]
 | k,c :: L=>mkC k c :: mkCs (k+cst c) L
def ovC (k0:Nat) (L:List Ce) (i:Nat):List Ce:=mkCs k0 (L.take i) ++ L.drop i
def Ty (w:World) (v:Value) (T:TypeId):Prop:=∀ k,v.ownBlock=some k→∃ cur fz,w.heap[k]?=some (.cells cur T fz)
theorem OwnB.ty {w:World} {B n:Nat} {v:Value} {L:List Bn} (h:OwnB w B v n L):Ty w v 199:=fun k e=>by
 rcases h.2 with ⟨e1,_⟩ | ⟨b,off,c,cur,e1,h1,h2,h3⟩
 ·rw [e1] at e;cases e
 ·rw [e1] at e
  obtain rfl:b=k:=Option.some.inj e;exact ⟨_,_,h2⟩
theorem own_ty {w:World} {B n sz:Nat} {T:TypeId} {v:Value} {xs:List Value} (h:w.ownsRow B T sz v n xs):Ty w v T:=fun k e=>by
 rcases h.2 with ⟨e1,_⟩ | ⟨b,c,cur,e1,h1,h2,h3⟩
 ·rw [e1] at e;cases e
 ·rw [e1] at e
  obtain rfl:b=k:=Option.some.inj e;exact ⟨_,_,h2⟩
theorem gS {w w':World} {r:Option Nat} (hg:w.grownBy w' r):GrownS w w' (fun k=>r=some k):=⟨hg.os,hg.tape,hg.output,hg.size,fun k hk hn=>hg.block k hk (fun e=>hn e.symm)⟩
def CBlk (v:Value) (L:List Ce) (k:Nat):Prop:=v.ownBlock=some k∨∃ c∈L,AgBlk c.g c.p k
structure MkS (w W:World) (B:Nat) (v:Value) (L0 M:List Ce):Prop where
 r:OwnC W B v M
 o:CesO W B M
 g:GrownS w W (CBlk v L0)
structure CeRowX (w:World) (g N:Nat) (M:List Ce):Prop where
 row:∃ cur:Array Value,w.heap[g]?=some (.cells cur 51 (0,0))∧cur.size=N*15∧∀ i c,M[i]?=some c→∀ j v,(ceArr c)[j]?=some v→cur[i*15+j]?=some v
 own:∀ c∈M,AgO w (g+1) c.g c.p
 ap:M.Pairwise ApC
abbrev shV (nm:ByteArray) (vr vo:Value) (code:Int):Array Value:=#[.string nm,vr,vo,.int .i64 code]
structure ShM (w:World) (B k0:Nat) (vr vo:Value) (R O:List Ce):Prop where
 r:OwnC w B vr (mkCs k0 R)
 o:OwnC w B vo (mkCs (k0+totC R) O)
 cr:CesO w B (mkCs k0 R)
 co:CesO w B (mkCs (k0+totC R) O)
def ShBlk (vr vo:Value) (R O:List Ce) (k:Nat):Prop:=CBlk vr R k∨CBlk vo O k
theorem OwnC.keptS {w w':World} {B:Nat} {v:Value} {L:List Ce} {S:Nat→Prop} (h:OwnC w B v L) (hg:GrownS w w' S) (h1:∀ k,v.ownBlock=some k→¬ S k):OwnC w' B v L:=by
 refine ⟨h.1,?_⟩;rcases h.2 with q | ⟨g,cap,cur,e,q1,q2,q3⟩
 ·exact .inl q
 ·exact .inr ⟨g,cap,cur,e,q1,hg.row q2 (h1 g (by rw [e];rfl)),q3⟩
end Go.Proofs.YthchmdmncmioiaaGreatDoor
