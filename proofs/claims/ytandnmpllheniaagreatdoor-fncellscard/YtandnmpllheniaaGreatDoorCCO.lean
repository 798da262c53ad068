/-
 Parts.
-/
import Derived.Lib.ItoaLen
import Derived.Laws.BytesArg
import Derived.Test.YtandnmpllheniaaGreatDoorCCN
set_option linter.all false
namespace Go.Proofs.YtandnmpllheniaaGreatDoor
open Go.ChangeShapes Go.WideShapes Go.ChangeAt Go.RowKit Go.PlainAid
theorem Qrk {n:Nat} (h:¬ n<10):Lib.decDigits n=Lib.decDigits (n / 10) ++ [UInt8.ofNat (48+n % 10)]:=by
 rw [Lib.decDigits,dif_neg h]
def QrE (N m:Nat) (D:List UInt8):Prop:=(m=0->D=Lib.decDigits N)/\(m≠0->Lib.decDigits m ++ D=Lib.decDigits N)
theorem QnR {N m:Nat} {D:List UInt8} (h:QrE N m D) (hm:m≠0):QrE N (m / 10) (UInt8.ofNat (48+m % 10) :: D):=by
 have h2:=h.2 hm;by_cases k:m<10
 ·rw [Lib.decDigits_one k] at h2
  refine ⟨fun _=>by rw [Nat.mod_eq_of_lt k];exact h2,fun h0=>absurd (Nat.div_eq_of_lt k) h0⟩
 ·rw [Qrk k,List.append_assoc] at h2
  exact ⟨fun h0=>by omega,fun _=>h2⟩
theorem QoT {N m:Nat} {D:List UInt8} (h:QrE N m D) (hN:(Lib.decDigits N).length<=21):D.length<=21:=by
 by_cases k:m=0
 ·rw [h.1 k];exact hN
 ·have:=congrArg List.length (h.2 k);simp at this;omega
theorem QqB (N:Nat) (h:N<=9223372036854775807):(Lib.decDigits N).length<=21:=by
 have:=Lib.itoa_length_le (N:Int) (by omega) (by omega);have e:Lib.itoa (N:Int)=Lib.decDigits N:=by unfold Lib.itoa;rw [if_neg (by omega)];simp
 rw [e] at this;exact this
theorem QqP {a b:ByteArray} (h:a=b):Ending.returned (.string a)=.returned (.string b):=by rw [h]
theorem Qrw (b:UInt8) (D:List UInt8):(⟨#[b]⟩:ByteArray) ++ ⟨D.toArray⟩=⟨(b :: D).toArray⟩:=by
 apply ByteArray.ext;rw [ByteArray.data_append];simp
set_option maxRecDepth 10000
def mtx (k:Nat):ByteArray:=⟨#[109]⟩ ++ ⟨(Lib.decDigits k).toArray⟩
open Go.Lib
def agTot (g:Ag):Nat:=g.P.length+g.N.length+g.E.length+g.R.length
def ceTot:List Ce->Nat
 | []=>0
 | c :: L=>agTot c.g+ceTot L
def cst (c:Ce):Nat:=11+2*c.g.P.length+2*c.g.N.length+c.g.E.length+c.g.R.length
def mkC (k:Nat) (c:Ce):Ce:=
 ⟨((k:Nat):Int),mtx (k+1),⟨((k+2:Nat):Int),((k+3:Nat):Int),((k+4:Nat):Int),((k+5:Nat):Int),((k+6:Nat):Int),((k+7:Nat):Int),((k+8:Nat):Int),Qrn (k+9) c.g.P.length,Qrn (k+9+2*c.g.P.length) c.g.N.length,((k+9+2*c.g.P.length+2*c.g.N.length:Nat):Int),((k+10+2*c.g.P.length+2*c.g.N.length:Nat):Int),mkn (k+11+2*c.g.P.length+2*c.g.N.length) c.g.E.length,mkn (k+11+2*c.g.P.length+2*c.g.N.length+c.g.E.length) c.g.R.length⟩,c.p⟩
def QrF:List Ce->Nat
 | []=>0
 | c :: L=>cst c+QrF L
def QrH:Nat->List Ce->List Ce
 | _,[]=>[]
 | k,c :: L=>mkC k c :: QrH (k+cst c) L
def ovC (k0:Nat) (L:List Ce) (i:Nat):List Ce:=QrH k0 (L.take i) ++ L.drop i
theorem QmT:∀ (L:List Ce) (i:Nat) (c c':Ce) (j:Nat) (u:Value),j<15->L[i]?=some c->ceL c'=(ceL c).set j u->(flC L).set (i*15+j) u=flC (L.set i c')
 | [],i,c,c',j,u,hj,h,e=>by simp at h
 | x :: xs,0,c,c',j,u,hj,h,e=>by
  obtain rfl:x=c:=by simpa using h
  rw [Qcn,List.set_append_left _ _ (by rw [QcC];omega),List.set_cons_zero,Qcn,e,Nat.zero_mul,Nat.zero_add]
 | x :: xs,i+1,c,c',j,u,hj,h,e=>by
  rw [Qcn,List.set_append_right _ _ (by rw [QcC];omega),QcC,List.set_cons_succ,Qcn,<- QmT xs i c c' j u hj (by simpa using h) e,show (i+1)*15+j - 15=i*15+j by omega]
theorem OwnC.put1 {w:World} {B g cp n i j:Nat} {L:List Ce} {c c':Ce} {u:Value} (h:OwnC w B (.slice (some ⟨g,0,none⟩) n cp) L) (hn:L.length=n) (hc:L[i]?=some c) (hj:j<15) (e:ceL c'=(ceL c).set j u):OwnC (w.setCell ⟨g,i*15+j,none⟩ u) B (.slice (some ⟨g,0,none⟩) n cp) (L.set i c'):=by
 subst hn;have q:=(World.ownsRow.stored h (i*15+j) u).1;rw [QmT L i c c' j u hj hc e] at q
 show World.ownsRow _ _ _ _ _ _ _
 rw [List.length_set];exact q
theorem AgO.re {w:World} {B:Nat} {g g':Ag} {p:Pl} (h:AgO w B g p) (h1:g'.P=g.P) (h2:g'.N=g.N) (h3:g'.E=g.E) (h4:g'.R=g.R):AgO w B g' p:=by
 obtain ⟨a,b,c,d,e⟩:=h;exact ⟨by rw [h1];exact a,by rw [h2];exact b,by rw [h1,h2];exact c,by rw [h3];exact d,by rw [h4];exact e⟩
def Ty (w:World) (v:Value) (T:TypeId):Prop:=∀ k,v.ownBlock=some k->∃ cur fz,w.heap[k]?=some (.cells cur T fz)
theorem OwnB.ty {w:World} {B n:Nat} {v:Value} {L:List Bn} (h:OwnB w B v n L):Ty w v 199:=fun k e=>by
 rcases h.2 with ⟨e1,_⟩ | ⟨b,off,c,cur,e1,h1,h2,h3⟩
 ·rw [e1] at e;cases e
 ·rw [e1] at e
  obtain rfl:b=k:=Option.some.inj e;exact ⟨_,_,h2⟩
theorem Qqf {w:World} {B n sz:Nat} {T:TypeId} {v:Value} {xs:List Value} (h:w.ownsRow B T sz v n xs):Ty w v T:=fun k e=>by
 rcases h.2 with ⟨e1,_⟩ | ⟨b,c,cur,e1,h1,h2,h3⟩
 ·rw [e1] at e;cases e
 ·rw [e1] at e
  obtain rfl:b=k:=Option.some.inj e;exact ⟨_,_,h2⟩
def CBlk (v:Value) (L:List Ce) (k:Nat):Prop:=v.ownBlock=some k∨∃ c∈L,Qdu c.g c.p k
structure MkS (w W:World) (B:Nat) (v:Value) (L0 M:List Ce):Prop where
 r:OwnC W B v M
 o:CesO W B M
 g:GrownS w W (CBlk v L0)
structure CeRowX (w:World) (g N:Nat) (M:List Ce):Prop where
 row:∃ cur:Array Value,w.heap[g]?=some (.cells cur 51 (0,0))/\cur.size=N*15/\∀ i c,M[i]?=some c->∀ j v,(Qap c)[j]?=some v->cur[i*15+j]?=some v
 own:∀ c∈M,AgO w (g+1) c.g c.p
 ap:M.Pairwise ApC
abbrev shV (nm:ByteArray) (vr vo:Value) (code:Int):Array Value:=#[.string nm,vr,vo,.int .i64 code]
structure ShM (w:World) (B k0:Nat) (vr vo:Value) (R O:List Ce):Prop where
 r:OwnC w B vr (QrH k0 R)
 o:OwnC w B vo (QrH (k0+QrF R) O)
 cr:CesO w B (QrH k0 R)
 co:CesO w B (QrH (k0+QrF R) O)
def ShBlk (vr vo:Value) (R O:List Ce) (k:Nat):Prop:=CBlk vr R k∨CBlk vo O k
end Go.Proofs.YtandnmpllheniaaGreatDoor
