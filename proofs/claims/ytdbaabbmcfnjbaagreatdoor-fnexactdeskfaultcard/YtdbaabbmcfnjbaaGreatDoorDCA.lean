/-
 Parts.
-/
import Derived.Test.YtdbaabbmcfnjbaaGreatDoorDJE
import Derived.Laws.IdiomCopy
import Derived.Deep.DeepCutAuto
import Derived.Lib.Bytealg
import Derived.Lib.Walk
import Derived.Test.YtdbaabbmcfnjbaaGreatDoorDSC
set_option maxRecDepth 10000
set_option linter.all false
namespace Go.Proofs.YtdbaabbmcfnjbaaGreatDoor
open Go.ChangeShapes Go.WideShapes Go.ChangeAt Go.RowKit Go.PlainAid Go.Lib
structure Ce where
 n:Int
 s:ByteArray
 g:Ag
 p:Pl
abbrev Qas (c:Ce):Array Value:=#[.int .i64 c.n,.string c.s,.int .i64 c.g.k,.int .u64 c.g.s,.int .i64 c.g.h,.int .u64 c.g.l,.int .i64 c.g.a,.int .i64 c.g.t,.int .u64 c.g.z,.slice c.p.pa c.g.P.length c.p.pc,.slice c.p.na c.g.N.length c.p.nc,.int .i64 c.g.x,.int .u64 c.g.y,.slice c.p.ea c.g.E.length c.p.ec,.slice c.p.ra c.g.R.length c.p.rc]
def Ce.key (c:Ce):Int×ByteArray×Ag:=(c.n,c.s,c.g)
abbrev QcX (w:World) (b o:Nat) (c:Ce):Prop:=w.cell? ⟨b,o,none⟩=some (.int .i64 c.n)/\w.cell? ⟨b,o+1,none⟩=some (.string c.s)/\w.cell? ⟨b,o+2,none⟩=some (.int .i64 c.g.k)/\w.cell? ⟨b,o+3,none⟩=some (.int .u64 c.g.s)/\w.cell? ⟨b,o+4,none⟩=some (.int .i64 c.g.h)/\w.cell? ⟨b,o+5,none⟩=some (.int .u64 c.g.l)/\w.cell? ⟨b,o+6,none⟩=some (.int .i64 c.g.a)/\w.cell? ⟨b,o+7,none⟩=some (.int .i64 c.g.t)/\w.cell? ⟨b,o+8,none⟩=some (.int .u64 c.g.z)/\w.cell? ⟨b,o+9,none⟩=some (.slice c.p.pa c.g.P.length c.p.pc)/\w.cell? ⟨b,o+10,none⟩=some (.slice c.p.na c.g.N.length c.p.nc)/\w.cell? ⟨b,o+11,none⟩=some (.int .i64 c.g.x)/\w.cell? ⟨b,o+12,none⟩=some (.int .u64 c.g.y)/\w.cell? ⟨b,o+13,none⟩=some (.slice c.p.ea c.g.E.length c.p.ec)/\w.cell? ⟨b,o+14,none⟩=some (.slice c.p.ra c.g.R.length c.p.rc)
variable {w w':World}
variable {b o:Nat}
variable {c c' d:Ce}
theorem QaP (k:QcX w b o c) (hb:Below w.heap.size w w'):QcX w' b o c:=by
 obtain ⟨x0,x1,x2,x3,x4,x5,x6,x7,x8,x9,ad,ae,ac,aa,ab⟩:=k;exact ⟨Qab hb x0,Qab hb x1,Qab hb x2,Qab hb x3,Qab hb x4,Qab hb x5,Qab hb x6,Qab hb x7,Qab hb x8,Qab hb x9,Qab hb ad,Qab hb ae,Qab hb ac,Qab hb aa,Qab hb ab⟩
variable {T:TypeId}
theorem Qu1 {cur:Array Value} (h:w.heap[b]?=some (.cells cur T (0,0))) (hc:∀ j v,(Qas c)[j]?=some v->cur[o+j]?=some v):QcX w b o c:=by
 have q:∀ j v,(Qas c)[j]?=some v->w.cell? ⟨b,o+j,none⟩=some v:=fun j v e=>by rw [cell_of_row _ _ _ _ _ (0,0) h];exact hc j v e
 exact ⟨q 0 _ rfl,q 1 _ rfl,q 2 _ rfl,q 3 _ rfl,q 4 _ rfl,q 5 _ rfl,q 6 _ rfl,q 7 _ rfl,q 8 _ rfl,q 9 _ rfl,q 10 _ rfl,q 11 _ rfl,q 12 _ rfl,q 13 _ rfl,q 14 _ rfl⟩
theorem QuT (w:World) (t:TypeId) (c:Ce):QcX (w.alloc (.cells (Qas c) t)) w.heap.size 0 c:=Qu1 (heap_alloc_new w _) (fun j v e=>by rw [Nat.zero_add];exact e)
def Qcl (w:World) (ao:Option Addr) (L:List Ce):Prop:=(0<L.length->∃ b off,ao=some ⟨b,off,none⟩/\∀ i c,L[i]?=some c->QcX w b (off+i*15) c)/\∀ c∈L,AgAt w c.g c.p
variable {L:List Ce}
theorem Qa6 {ao:Option Addr} (h:Qcl w ao L) (hb:Below w.heap.size w w'):Qcl w' ao L:=
 ⟨fun h0=>by
  obtain ⟨b,off,e,hc⟩:=h.1 h0;exact ⟨b,off,e,fun i c hx=>QaP (hc i c hx) hb⟩,fun c hc=>Qbj (h.2 c hc) hb⟩
structure CesLen (L:List Ce):Prop where
 len:L.length<=maxLen
 s:∀ c∈L,c.s.size<=maxLen
 g:∀ c∈L,AgLen c.g
abbrev QbI:Array Value:=#[.int .i64 0,.string ⟨#[]⟩,.int .i64 0,.int .u64 0,.int .i64 0,.int .u64 0,.int .i64 0,.int .i64 0,.int .u64 0,.slice none 0 0,.slice none 0 0,.int .i64 0,.int .u64 0,.slice none 0 0,.slice none 0 0]
theorem QcI {r:Nat} {cs:Array Value} (h:w.heap[r]?=some (.cells cs T (0,0))) (j:Nat) {v:Value} (e:cs[j]?=some v):w.cell? ⟨r,j,none⟩=some v:=by rw [cell_of_row _ _ j _ _ (0,0) h];exact e
theorem Qqi:(Tryz.prog.info? 92).map (fun i=>(i.zero,i.size,i.bytes))=some (some (.agg QbI),15,192):=by kernel_rfl
structure CeRow (w:World) (g N:Nat) (M:List Ce):Prop where
 row:∃ cur:Array Value,w.heap[g]?=some (.cells cur 92 (0,0))/\N*15<=cur.size/\∀ i c,M[i]?=some c->∀ j v,(Qas c)[j]?=some v->cur[i*15+j]?=some v
 own:∀ c∈M,AgOwn w (g+1) c.g c.p
theorem Ql3 (h:c.key=d.key):∃ q,d=⟨c.n,c.s,c.g,q⟩:=by
 obtain ⟨n,s,g,p⟩:=c;obtain ⟨n',s',g',p'⟩:=d;simp only [Ce.key,Prod.mk.injEq] at h;obtain ⟨rfl,rfl,rfl⟩:=h;exact ⟨p',rfl⟩
def sameC (c d:Ce):Bool:=((c.n == d.n) && (c.s.toList == d.s.toList)) && QoK c.g d.g
def Qss:List Ce->List Ce->Bool
 | [],[]=>true
 | c :: L,d :: M=>sameC c d && Qss L M
 | _,_=>false
def csB (L M:List Ce):Bool:=decide (L.length<=400) && decide (M.length<=400) && Qss L M
def cAh (c d:Ce):Bool:=decide (c.n<d.n) || ((c.n == d.n) && Qaz c.s d.s)
def Qjm (n:Int):Bool:=decide (0<=n) && decide (n<=1000000000)
noncomputable def cRi (c:Ce):Bool:=Qjm c.n && Qby c.s && agB c.g && !(c.g.s == 0)
noncomputable def cRs:Option Ce->List Ce->Bool
 | _,[]=>true
 | none,c :: L=>cRi c && cRs (some c) L
 | some b,c :: L=>(cRi c && cAh b c) && cRs (some c) L
def QdJ (L:List Ce) (k:Nat):Option Ce:=if k=0 then none else L[k - 1]?
theorem Qqu (hc:L[0]?=some c):cRs (QdJ L 0) (L.drop 0)=(cRi c && cRs (QdJ L 1) (L.drop 1)):=by
 cases L with
 | nil=>cases hc
 | cons d M=>
  obtain rfl:d=c:=by simpa using hc
  simp [QdJ,cRs]
theorem QrG {k:Nat} {b:Ce} (hb:L[k]?=some b) (hc:L[k+1]?=some c):cRs (QdJ L (k+1)) (L.drop (k+1))=((cRi c && cAh b c) && cRs (QdJ L (k+1+1)) (L.drop (k+1+1))):=by
 have h1:=(ZZd.1 hc).1;rw [List.drop_eq_getElem_cons h1,(List.getElem?_eq_some_iff.1 hc).2];have e1:QdJ L (k+1)=some b:=by unfold QdJ;rw [if_neg (by omega)];simpa using hb
 have e2:QdJ L (k+1+1)=some c:=by unfold QdJ;rw [if_neg (by omega)];simpa using hc
 rw [e1,e2]
 rfl
noncomputable def csR (L:List Ce):Bool:=decide (L.length<=60) && cRs none L
theorem QhN (h:c.key=c'.key):cRi c=cRi c':=by
 obtain ⟨q,rfl⟩:=Ql3 h
 rfl
theorem QhW {d':Ce} (h:c.key=c'.key) (k:d.key=d'.key):cAh c d=cAh c' d':=by
 obtain ⟨q,rfl⟩:=Ql3 h;obtain ⟨q',rfl⟩:=Ql3 k
 rfl
theorem QkM:∀ {L L':List Ce} {b b':Option Ce},b.map Ce.key=b'.map Ce.key->L.map Ce.key=L'.map Ce.key->cRs b L=cRs b' L'
 | [],[],b,b',_,_=>by cases b <;> cases b' <;> rfl
 | c :: L,c' :: L',none,none,_,h=>by
  simp only [List.map_cons,List.cons.injEq] at h;unfold cRs;rw [QhN h.1,QkM (b:=some c) (b':=some c') (by simp [h.1]) h.2]
 | c :: L,c' :: L',some b,some b',k,h=>by
  simp only [List.map_cons,List.cons.injEq] at h;simp only [Option.map_some,Option.some.injEq] at k;unfold cRs;rw [QhN h.1,QhW k h.1,QkM (b:=some c) (b':=some c') (by simp [h.1]) h.2]
 | _ :: _,_ :: _,none,some _,k,_=>by simp at k
 | _ :: _,_ :: _,some _,none,k,_=>by simp at k
 | [],_ :: _,_,_,_,h=>by simp at h
 | _ :: _,[],_,_,_,h=>by simp at h
theorem QoR {L':List Ce} (h:L.map Ce.key=L'.map Ce.key):csR L=csR L':=by
 have e1:L.length=L'.length:=by have:=congrArg List.length h;simpa using this
 unfold csR;rw [e1,QkM rfl h]
def cmpS (a b:ByteArray):Int:=Lib.compareBytes a.data.toList b.data.toList
def cmpW (a b:Int):Int:=if a<b then -1 else if b<a then 1 else 0
def cmpK (n:Int) (s:ByteArray) (n':Int) (s':ByteArray):Int:=if cmpW n n'=0 then cmpS s s' else cmpW n n'
def orI (x y:Int):Int:=if x=0 then y else x
end Go.Proofs.YtdbaabbmcfnjbaaGreatDoor
