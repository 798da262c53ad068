/-
 Parts.
-/
import Derived.Test.YtdbaabbmcfnjbaaGreatDoorDZS
set_option linter.all false
namespace Go.Proofs.YtdbaabbmcfnjbaaGreatDoor
open Go.ChangeShapes Go.WideShapes Go.ChangeAt Go.RowKit Go.PlainAid Go.Lib Go.Maps
set_option maxRecDepth 10000
def Qjv (win:Int) (s:Sd):ByteArray×List (Int×ByteArray×Ag):=(s.nm,(s.L.filter (fun c=>!isW win c)).map Ce.key)
structure TkF (w:World) (B:Nat) (L:List Ce) (win:Int) (vr vo:Value) (R O:List Ce):Prop where
 r:OwnC w B vr R
 q:OwnC w B vo O
 ap:ApV vr vo
 o:CesO w B (R ++ O)
 kr:R.map Ce.key=(L.filter (fun c=>!isW win c)).map Ce.key
 ko:O.map Ce.key=(L.filter (isW win)).map Ce.key
section
variable {w wr w' w1 w2 w3:World} {B B' G lb mb n k:Nat} {nm:ByteArray} {L R O C:List Ce} {win:Int} {vr vo v v' vn:Value} {e:Ending} {p:Pi} {M X:List Sd} {K:List ByteArray} {s:Sd}
def TkG (w:World) (nm:ByteArray) (L:List Ce) (win:Int) (e:Ending) (w':World):Prop:=∃ ar nr cr ao no co R O,e=.returned (.agg #[.string nm,.slice ar nr cr,.slice ao no co,.int .i64 0])/\TkF w' w.heap.size L win (.slice ar nr cr) (.slice ao no co) R O/\Below w.heap.size w w'
structure CwT (wr w':World) (G:Nat) (nm:ByteArray) (L:List Ce) (win:Int) (vr vo:Value) (R O:List Ce):Prop where
 row:w'.heap[G]?=some (.cells #[.string nm,vr,vo,.int .i64 0] 229 (0,0))
 gl:wr.heap.size<=G
 f:TkF w' wr.heap.size L win vr vo R O
 b:Below wr.heap.size wr w'
def CwQ (wr:World) (nm:ByteArray) (L:List Ce) (win:Int) (v:Value) (w':World):Prop:=∃ G ar nr cr ao no co R O,v=.pointer (some ⟨G,0,none⟩)/\CwT wr w' G nm L win (.slice ar nr cr) (.slice ao no co) R O
structure CwI (w wr:World) (lb mb n:Nat) (p:Pi) (vn:Value) (K:List ByteArray) (M:List Sd) (win:Int) (k:Nat) (v:Value) (X:List Sd) (C:List Ce):Prop where
 x0:wr.heap[lb]?=some (.cells (QmD p mb) 188 (0,0))
 mp:MpS wr mb n (X ++ M.drop k)
 on:OwnT wr w.heap.size vn K
 r:OwnC wr w.heap.size v C
 xr:∀ s∈X,OwnC wr w.heap.size (slS s) s.L
 rap:X.Pairwise (fun s t=>ApV (slS s) (slS t))
 va:∀ s∈X,ApV v (slS s)
 o:CesO wr w.heap.size (QaN X ++ C)
 kx:X.map Sd.key=(M.take k).map (Qjv win)
 kc:C.map Ce.key=((QaN (M.take k)).filter (isW win)).map Ce.key
 g:GrownS w wr (fun k=>k=mb)
end
variable {S:List Sd}
variable {s:Sd}
theorem QnP {c:Ce} (hs:s∈S) (hc:c∈s.L):c∈QaN S:=by unfold QaN;exact List.mem_flatMap.2 ⟨s,hs,hc⟩
theorem QsG {w:World} {B:Nat} (h:CesO w B (QaN S)) (hs:s∈S):CesO w B s.L:=by
 obtain ⟨A,R,rfl⟩:=List.append_of_mem hs;have e:QaN (A ++ s :: R)=QaN A ++ (s.L ++ QaN R):=by simp [QaN]
 rw [e] at h;exact ⟨fun c hc=>h.o c (by simp [hc]),(List.pairwise_append.1 (List.pairwise_append.1 h.ap).2.1).1⟩
section
variable {w wr:World} {mb n Bm:Nat} {M S:List Sd} {p:Pi}
end
def CwZ (w w':World) (lb mb:Nat) (p:Pi) (M:List Sd) (v:Value):Prop:=∃ n X C,MpS w' mb n X/\w'.heap[lb]?=some (.cells (QmD ⟨p.a,p.b,p.c,p.d+1⟩ mb) 188 (0,0))/\LvO w' w.heap.size X/\OwnC w' w.heap.size v C/\CesO w' w.heap.size (QaN X ++ C)/\(∀ s∈X,ApV v (slS s))/\Qck C/\X.map Sd.key=M.map (Qjv p.d)/\(C.map Ce.key).Perm (((QaN M).filter (isW p.d)).map Ce.key)/\GrownS w w' (fun k=>k=mb∨k=lb)
def ClR (S:List Sd) (p:Pi) (q:Pi) (KM:List (ByteArray×List (Int×ByteArray×Ag))) (KC:List (Int×ByteArray×Ag)) (cd:Int):Prop:=
 if QaZ S p=false then cd=1/\q=q0/\KM=[]/\KC=[] else
 if p.c<(p.d+1)*p.a+p.b then cd=11/\q=q0/\KM=[]/\KC=[] else
 cd=0/\q=⟨p.a,p.b,p.c,p.d+1⟩/\KM=S.map (Qjv p.d)/\∃ C,Qck C/\(C.map Ce.key).Perm (((QaN S).filter (isW p.d)).map Ce.key)/\KC=C.map Ce.key
theorem Qcj {p:Pi} (h:QaZ S p=true):1<=p.a/\p.a<=1000/\0<=p.b/\p.b<=1000/\0<=p.c/\p.c<=1000000000/\0<=p.d/\p.d<=1000000000:=by
 unfold QaZ Qlv inB at h;simp only [Bool.and_eq_true,decide_eq_true_eq] at h;obtain ⟨⟨⟨⟨h1,h2⟩,h3⟩,h4⟩,_⟩:=h;omega
theorem grown7 (W:World) (G:Nat) (a b c d e f g:Value):GrownS W (((((((W.setCell ⟨G,0,none⟩ a).setCell ⟨G,1,none⟩ b).setCell ⟨G,2,none⟩ c).setCell ⟨G,3,none⟩ d).setCell ⟨G,4,none⟩ e).setCell ⟨G,5,none⟩ f).setCell ⟨G,6,none⟩ g) (fun k=>k=G):=by
 have s:∀ (X:World) j u,GrownS X (X.setCell ⟨G,j,none⟩ u) (fun k=>k=G):=fun X j u=>(grS (Qal X G j u)).weak (fun k e=>by injection e with e;exact e.symm);exact (((((((s _ _ _).trans (s _ _ _)).trans (s _ _ _)).trans (s _ _ _)).trans (s _ _ _)).trans (s _ _ _)).trans (s _ _ _)) |>.weak (fun k q=>by rcases q with (((((q | q) | q) | q) | q) | q) | q <;> exact q)
end Go.Proofs.YtdbaabbmcfnjbaaGreatDoor
