/-
 Parts.
-/
import Derived.Test.YtdbaabbmcfnjbaaGreatDoorDYS
set_option linter.all false
namespace Go.Proofs.YtdbaabbmcfnjbaaGreatDoor
open Go.ChangeShapes Go.WideShapes Go.ChangeAt Go.RowKit Go.PlainAid Go.Lib
set_option maxRecDepth 10000
def sdTot:List Sd->Nat
 | []=>0
 | s :: S=>s.L.length+ceTot s.L+sdTot S
structure SdRowX (w:World) (g N:Nat) (M:List Sd):Prop where
 row:∃ cur:Array Value,w.heap[g]?=some (.cells cur 60 (0,0))/\cur.size=N*2/\∀ i c,M[i]?=some c->∀ j v,(QeJ c)[j]?=some v->cur[i*2+j]?=some v
 o:LvO w (g+1) M
variable {w w':World}
variable {B B' cp g hi i lo n r:Nat}
variable {M:List Sd}
variable {s:Sd}
theorem LvO.at (h:LvO w B M) (hs:s∈M):Qcl w s.ao s.L:=by
 have hr:=h.r s hs;unfold slS at hr;refine OwnC.at hr (fun c hc=>h.o.at c ?_);unfold QaN;exact List.mem_flatMap.2 ⟨s,hs,hc⟩
theorem LvO.plg (h:LvO w B M):∀ s∈M,∀ c∈s.L,PlG c.g c.p:=fun s hs c hc=>(h.o.o c (by unfold QaN;exact List.mem_flatMap.2 ⟨s,hs,hc⟩)).plgX
def sdL (s:Sd):List Value:=(QeJ s).toList
def flS (M:List Sd):List Value:=M.flatMap sdL
theorem Qdu (s:Sd) (M:List Sd):flS (s :: M)=sdL s ++ flS M:=by simp [flS]
theorem Qtg (A B:List Sd):flS (A ++ B)=flS A ++ flS B:=by simp [flS]
theorem QuP (s:Sd):flS [s]=sdL s:=by simp [flS]
theorem QeQ (s:Sd):(sdL s).length=2:=rfl
theorem Qst:∀ (M:List Sd) (i:Nat) (s:Sd) (j:Nat),j<2->M[i]?=some s->(flS M)[i*2+j]?=(sdL s)[j]?
 | [],i,s,j,hj,h=>by simp at h
 | x :: xs,0,s,j,hj,h=>by
  obtain rfl:x=s:=by simpa using h
  rw [Qdu,Nat.zero_mul,Nat.zero_add,List.getElem?_append_left (by rw [QeQ];exact hj)]
 | x :: xs,i+1,s,j,hj,h=>by
  rw [Qdu,List.getElem?_append_right (by rw [QeQ];omega),QeQ,show (i+1)*2+j - 2=i*2+j by omega];exact Qst xs i s j hj (by simpa using h)
theorem Qoq:∀ (M:List Sd) (i:Nat) (s s':Sd) (j:Nat) (u:Value),j<2->M[i]?=some s->sdL s'=(sdL s).set j u->(flS M).set (i*2+j) u=flS (M.set i s')
 | [],i,s,s',j,u,hj,h,e=>by simp at h
 | x :: xs,0,s,s',j,u,hj,h,e=>by
  obtain rfl:x=s:=by simpa using h
  rw [Qdu,List.set_append_left _ _ (by rw [QeQ];omega),List.set_cons_zero,Qdu,e,Nat.zero_mul,Nat.zero_add]
 | x :: xs,i+1,s,s',j,u,hj,h,e=>by
  rw [Qdu,List.set_append_right _ _ (by rw [QeQ];omega),QeQ,List.set_cons_succ,Qdu,<- Qoq xs i s s' j u hj (by simpa using h) e,show (i+1)*2+j - 2=i*2+j by omega]
def OwnD (w:World) (B:Nat) (v:Value) (M:List Sd):Prop:=w.ownsRow B 60 2 v M.length (flS M)
theorem OwnD.nil (w:World) (B:Nat):OwnD w B (.slice none 0 0) []:=World.ownsRow_nil _ _ _ _
variable {u v:Value}
theorem OwnD.past (h:OwnD w B v M) (hb:Below w.heap.size w w'):OwnD w' B v M:=
 World.ownsRow.kept (row:=none) h ⟨hb.os,hb.tape,hb.output,hb.size,fun i hi _=>hb.block i hi⟩ (by cases v.ownBlock <;> simp)
theorem OwnD.le (h:OwnD w B v M) (hb:B'<=B):OwnD w B' v M:=by
 refine ⟨h.1,?_⟩;rcases h.2 with q | ⟨g,ab,aa,e,q1,q2⟩
 ·exact .inl q
 ·exact .inr ⟨g,ab,aa,e,Nat.le_trans hb q1,q2⟩
theorem OwnD.form (h:OwnD w B v M):∃ ao cp,v=.slice ao M.length cp/\(ao=none->cp=0):=by
 rcases h.2 with ⟨e,q⟩ | ⟨g,aa,ab,e,q1,q2⟩
 ·exact ⟨none,0,by rw [q];exact e,fun _=>rfl⟩
 ·exact ⟨_,aa,e,fun h=>by cases h⟩
variable {S:Nat->Prop}
theorem OwnD.keptS (h:OwnD w B v M) (hg:GrownS w w' S) (h1:∀ k,v.ownBlock=some k->¬ S k):OwnD w' B v M:=by
 refine ⟨h.1,?_⟩;rcases h.2 with q | ⟨g,ab,aa,e,q1,q2,q3⟩
 ·exact .inl q
 ·exact .inr ⟨g,ab,aa,e,q1,hg.row q2 (h1 g (by rw [e];rfl)),q3⟩
variable {ao:Option Addr}
theorem Qn4 (h:OwnD w B (.slice ao n cp) M) (h0:0<M.length):∃ g,ao=some ⟨g,0,none⟩:=by
 rcases h.2 with ⟨e,q⟩ | ⟨g,ab,aa,e,q1,q2⟩
 ·omega
 ·injection e with e1 e2 e3
  exact ⟨g,e1⟩
theorem Qmx (h:OwnD w B (.slice (some ⟨g,0,none⟩) n cp) M) (hn:M.length=n) (hs:M[i]?=some s):Qex w g (i*2) s/\∀ j,w.frozen? ⟨g,j,none⟩=false:=by
 subst hn;have hi:=(ZZd.1 hs).1
 have q:∀ j v,j<2->(sdL s)[j]?=some v->w.cell? ⟨g,i*2+j,none⟩=some v:=fun j v hj e=>by
  rw [World.ownsRow.cellAt h (i*2+j) (by omega),Qst M i s j hj hs];exact e
 exact ⟨⟨q 0 _ (by omega) rfl,q 1 _ (by omega) rfl⟩,fun j=>World.ownsRow.frozenAt h j⟩
theorem OwnD.at (h:OwnD w B (.slice ao n cp) M) (hl:LvO w B' M):QkP w ao M:=by
 refine ⟨fun h0=>?_,fun s hs=>hl.at hs⟩;obtain ⟨g,rfl⟩:=Qn4 h h0
 have hn:M.length=n:=by
  rcases h.2 with ⟨e,q⟩ | ⟨g',ab,aa,e,q1,q2⟩
  ·cases e
  ·injection e with _ e2 _;exact e2.symm
 exact ⟨g,0,rfl,fun i s hs=>by rw [Nat.zero_add];exact (Qmx h hn hs).1⟩
theorem OwnD.put1 {j:Nat} {s':Sd} (h:OwnD w B (.slice (some ⟨g,0,none⟩) n cp) M) (hn:M.length=n) (hs:M[i]?=some s) (hj:j<2) (e:sdL s'=(sdL s).set j u):OwnD (w.setCell ⟨g,i*2+j,none⟩ u) B (.slice (some ⟨g,0,none⟩) n cp) (M.set i s'):=by
 subst hn;have q:=(World.ownsRow.stored h (i*2+j) u).1;rw [Qoq M i s s' j u hj hs e] at q
 show World.ownsRow _ _ _ _ _ _ _
 rw [List.length_set];exact q
theorem OwnD.ne {o:Ag} {p:Pl} (h:OwnD w B v M) (ha:AgO w B' o p):∀ k,Qd1 o p k->v.ownBlock≠some k:=fun k hk e=>by
 rcases hk with (hk | hk) | (hk | hk)
 ·exact Ty.ne ha.P.ty (QbO h) (by decide) k hk e
 ·exact Ty.ne ha.N.ty (QbO h) (by decide) k hk e
 ·exact Ty.ne (QbO ha.E.2) (QbO h) (by decide) k hk e
 ·exact Ty.ne (QbO ha.R.2) (QbO h) (by decide) k hk e
variable {L:List Ce}
theorem OwnD.neC (h:OwnD w B v M) (hc:OwnC w B' u L):∀ k,u.ownBlock=some k->v.ownBlock≠some k:=fun k e1 e2=>Ty.ne (QbO hc) (QbO h) (by decide) k e1 e2
theorem OwnD.neB {X:List Sd} (h:OwnD w B v M) (hl:LvO w B' X) (hs:s∈X):∀ k,Qm1 (slS s) s.L k->v.ownBlock≠some k:=by
 rintro k (q | ⟨c,hc,q⟩)
 ·exact h.neC (hl.r s hs) k q
 ·exact h.ne (hl.o.o c (by unfold QaN;exact List.mem_flatMap.2 ⟨s,hs,hc⟩)) k q
theorem LvO.keptS (h:LvO w B M) (hg:GrownS w w' S) (h1:∀ s∈M,∀ k,Qm1 (slS s) s.L k->¬ S k):LvO w' B M:=
 ⟨fun s hs=>(h.r s hs).keptS hg (fun k q=>h1 s hs k (.inl q)),h.rap,h.o.keptS hg (fun c hc k q=>by
  obtain ⟨s,hs,hc'⟩:=Qbq hc;exact h1 s hs k (.inr ⟨c,hc',q⟩))⟩
theorem LvO.le (h:LvO w B M) (hb:B'<=B):LvO w B' M:=⟨fun s hs=>(h.r s hs).le hb,h.rap,h.o.le hb⟩
def QpU (v:Value) (M:List Sd) (k:Nat):Prop:=v.ownBlock=some k∨∃ s∈M,Qm1 (slS s) s.L k
def mkS (k:Nat) (s:Sd):Sd:=⟨mtx k,mkCs (k+1) s.L,s.ao,s.cp⟩
def totS:List Sd->Nat
 | []=>0
 | s :: M=>1+totC s.L+totS M
def mkSs:Nat->List Sd->List Sd
 | _,[]=>[]
 | k,s :: M=>mkS k s :: mkSs (k+(1+totC s.L)) M
def ovS (k0:Nat) (M:List Sd) (i:Nat):List Sd:=mkSs k0 (M.take i) ++ M.drop i
structure MkP (w W:World) (B:Nat) (v:Value) (M0 M:List Sd):Prop where
 r:OwnD W B v M
 o:LvO W B M
 g:GrownS w W (QpU v M0)
structure CsB (w:World) (lo hi:Nat) (v:Value) (L:List Ce):Prop where
 r:OwnC w lo v L
 o:CesO w lo L
 hi:∀ k,Qm1 v L k->lo<=k/\k<hi
theorem CsB.of (r:OwnC w lo v L) (o:CesO w lo L):CsB w lo w.heap.size v L:=⟨r,o,fun k q=>by
 rcases q with q | ⟨c,hc,q⟩
 ·exact World.ownsRow.lt r k q
 ·exact (o.o c hc).lt q⟩
theorem CsB.past (h:CsB w lo hi v L) (hb:Below w.heap.size w w'):CsB w' lo hi v L:=⟨h.r.past hb,h.o.past hb,h.hi⟩
theorem CsB.keptS (h:CsB w lo hi v L) (hg:GrownS w w' S) (hS:∀ k,lo<=k->k<hi->¬ S k):CsB w' lo hi v L:=
 ⟨h.r.keptS hg (fun k q=>(fun e=>hS k e.1 e.2) (h.hi k (.inl q))),h.o.keptS hg (fun c hc k q=>(fun e=>hS k e.1 e.2) (h.hi k (.inr ⟨c,hc,q⟩))),h.hi⟩
structure PpB (w:World) (lo hi:Nat) (v:Value) (M:List Sd):Prop where
 r:OwnD w lo v M
 o:LvO w lo M
 hi:∀ k,QpU v M k->lo<=k/\k<hi
theorem PpB.of (r:OwnD w lo v M) (o:LvO w lo M):PpB w lo w.heap.size v M:=⟨r,o,fun k q=>by
 rcases q with q | ⟨s,hs,q | ⟨c,hc,q⟩⟩
 ·exact World.ownsRow.lt r k q
 ·exact World.ownsRow.lt (o.r s hs) k q
 ·exact (o.o.o c (by unfold QaN;exact List.mem_flatMap.2 ⟨s,hs,hc⟩)).lt q⟩
theorem PpB.past (h:PpB w lo hi v M) (hb:Below w.heap.size w w'):PpB w' lo hi v M:=⟨h.r.past hb,h.o.past hb,h.hi⟩
theorem PpB.keptS (h:PpB w lo hi v M) (hg:GrownS w w' S) (hS:∀ k,lo<=k->k<hi->¬ S k):PpB w' lo hi v M:=
 ⟨h.r.keptS hg (fun k q=>(fun e=>hS k e.1 e.2) (h.hi k (.inl q))),h.o.keptS hg (fun s hs k q=>(fun e=>hS k e.1 e.2) (h.hi k (.inr ⟨s,hs,q⟩))),h.hi⟩
structure CBd (R:List Ce):Prop where
 l:R.length<=1048576
 s:∀ c∈R,AgSm c.g
 t:1+totC R<=25000000
structure SBd (M:List Sd):Prop where
 n:M.length<=1048576
 l:∀ s∈M,s.L.length<=1048576
 s:∀ s∈M,∀ c∈s.L,AgSm c.g
 t:1+totS M<=25000000
variable {T:TypeId}
theorem QaO {cs:Array Value} (h:w.heap[r]?=some (.cells cs T (0,0))) (j:Nat) (e:cs[j]?=some v):w.cell? ⟨r,j,none⟩=some v:=by rw [cell_of_row _ _ j _ _ (0,0) h];exact e
theorem QdF {a b c d e:Value} (h:w.heap[r]?=some (.cells #[a,b,c,d,e] T (0,0))):w.cell? ⟨r,0,none⟩=some a/\w.cell? ⟨r,1,none⟩=some b/\w.cell? ⟨r,2,none⟩=some c/\w.cell? ⟨r,3,none⟩=some d/\w.cell? ⟨r,4,none⟩=some e:=⟨QaO h 0 rfl,QaO h 1 rfl,QaO h 2 rfl,QaO h 3 rfl,QaO h 4 rfl⟩
def OkQ (S:List Sd):Prop:=∀ s∈S,∀ c∈s.L,AgOk c.g/\c.s.size<=maxLen
end Go.Proofs.YtdbaabbmcfnjbaaGreatDoor
