/-
 Parts.
-/
import Derived.Test.YtioohanfodmddaaGreatDoorCYS
set_option linter.all false
namespace Go.Proofs.YtioohanfodmddaaGreatDoor
open Go.ChangeShapes Go.WideShapes Go.ChangeAt Go.RowKit Go.PlainAid Go.Lib
set_option maxRecDepth 10000
def sdTot:List Sd->Nat
 | []=>0
 | s :: S=>s.L.length+ceTot s.L+sdTot S
structure SdRowX (w:World) (g N:Nat) (M:List Sd):Prop where
 row:∃ cur:Array Value,w.heap[g]?=some (.cells cur 71 (0,0))/\cur.size=N*2/\∀ i c,M[i]?=some c->∀ j v,(QaS c)[j]?=some v->cur[i*2+j]?=some v
 o:LvO w (g+1) M
variable {w w':World}
variable {B B' cp g hi i lo n r:Nat}
variable {M:List Sd}
variable {s t:Sd}
theorem LvO.at (h:LvO w B M) (hs:s∈M):QbG w s.ao s.L:=by
 have hr:=h.r s hs;unfold slS at hr;refine OwnC.at hr (fun c hc=>h.o.at c ?_);unfold QaK;exact List.mem_flatMap.2 ⟨s,hs,hc⟩
theorem LvO.plg (h:LvO w B M):∀ s∈M,∀ c∈s.L,PlG c.g c.p:=fun s hs c hc=>(h.o.o c oX).plgX
def sdL (s:Sd):List Value:=(QaS s).toList
def flS (M:List Sd):List Value:=M.flatMap sdL
theorem Qd3 (s:Sd) (M:List Sd):flS (s :: M)=sdL s ++ flS M:=by simp [flS]
theorem Quj (A B:List Sd):flS (A ++ B)=flS A ++ flS B:=by simp [flS]
theorem Quw (s:Sd):flS [s]=sdL s:=by simp [flS]
theorem Qfl (s:Sd):(sdL s).length=2:=rfl
theorem Qty:∀ (M:List Sd) (i:Nat) (s:Sd) (j:Nat),j<2->M[i]?=some s->(flS M)[i*2+j]?=(sdL s)[j]?
 | [],i,s,j,hj,h=>by simp at h
 | x :: xs,0,s,j,hj,h=>by
  obtain rfl:x=s:=oU
  rw [Qd3,Nat.zero_mul,Nat.zero_add,List.getElem?_append_left (by rw [Qfl];exact hj)]
 | x :: xs,i+1,s,j,hj,h=>by
  rw [Qd3,List.getElem?_append_right (by rw [Qfl];omega),Qfl,show (i+1)*2+j - 2=i*2+j by omega];exact Qty xs i s j hj oU
theorem Qpa:∀ (M:List Sd) (i:Nat) (s s':Sd) (j:Nat) (u:Value),j<2->M[i]?=some s->sdL s'=(sdL s).set j u->(flS M).set (i*2+j) u=flS (M.set i s')
 | [],i,s,s',j,u,hj,h,e=>by simp at h
 | x :: xs,0,s,s',j,u,hj,h,e=>by
  obtain rfl:x=s:=oU
  rw [Qd3,List.set_append_left _ _ (by rw [Qfl];omega),List.set_cons_zero,Qd3,e,Nat.zero_mul,Nat.zero_add]
 | x :: xs,i+1,s,s',j,u,hj,h,e=>by
  rw [Qd3,List.set_append_right _ _ (by rw [Qfl];omega),Qfl,List.set_cons_succ,Qd3,<- Qpa xs i s s' j u hj oU e,show (i+1)*2+j - 2=i*2+j by omega]
def OwnD (w:World) (B:Nat) (v:Value) (M:List Sd):Prop:=w.ownsRow B 71 2 v M.length (flS M)
theorem OwnD.nil (w:World) (B:Nat):OwnD w B (.slice none 0 0) []:=World.ownsRow_nil _ _ _ _
variable {u v:Value}
theorem OwnD.past (h:OwnD w B v M) (hb:Bw w w'):OwnD w' B v M:=
 World.ownsRow.kept (row:=none) h ⟨hb.os,hb.tape,hb.output,hb.size,fun i hi _=>hb.block i hi⟩ (by cases v.ownBlock <;> simp)
theorem OwnD.le (h:OwnD w B v M) (hb:B'<=B):OwnD w B' v M:=by
 exact mC6
theorem OwnD.form (h:OwnD w B v M):∃ ao cp,v=.slice ao M.length cp/\(ao=none->cp=0):=by
 exact mCw
variable {S:Nat->Prop}
theorem OwnD.keptS (h:OwnD w B v M) (hg:GrownS w w' S) (h1:∀ k,v.ownBlock=some k->¬ S k):OwnD w' B v M:=by
 exact mC0
variable {ao:Option Addr}
theorem QqD (h:OwnD w B (.slice ao n cp) M) (h0:0<M.length):∃ g,ao=some ⟨g,0,none⟩:=by
 exact mDn
theorem Qn4 (h:OwnD w B (.slice (some ⟨g,0,none⟩) n cp) M) (hn:M.length=n) (hs:M[i]?=some s):Qfb w g (i*2) s/\∀ j,w.frozen? ⟨g,j,none⟩=false:=by
 subst hn;have hi:=(ZZd.1 hs).1
 have q:∀ j v,j<2->(sdL s)[j]?=some v->w.cell? ⟨g,i*2+j,none⟩=some v:=fun j v hj e=>by
  rw [World.ownsRow.cellAt h (i*2+j) oB,Qty M i s j hj hs];exact e
 exact ⟨⟨q 0 _ oB rfl,q 1 _ oB rfl⟩,fun j=>World.ownsRow.frozenAt h j⟩
theorem OwnD.at (h:OwnD w B (.slice ao n cp) M) (hl:LvO w B' M):Qf0 w ao M:=by
 refine ⟨fun h0=>?_,fun s hs=>hl.at hs⟩;obtain ⟨g,rfl⟩:=QqD h h0
 have hn:M.length=n:=by
  rcases h.2 with ⟨e,q⟩ | ⟨g',aa,ab,e,q1,q2⟩
  ·cases e
  ·injection e with _ e2 _;exact e2.symm
 exact ⟨g,0,rfl,fun i s hs=>by rw [Nat.zero_add];exact (Qn4 h hn hs).1⟩
theorem OwnD.put1 {j:Nat} {s':Sd} (h:OwnD w B (.slice (some ⟨g,0,none⟩) n cp) M) (hn:M.length=n) (hs:M[i]?=some s) (hj:j<2) (e:sdL s'=(sdL s).set j u):OwnD (w.setCell ⟨g,i*2+j,none⟩ u) B (.slice (some ⟨g,0,none⟩) n cp) (M.set i s'):=by
 subst hn;have q:=(World.ownsRow.stored h (i*2+j) u).1;rw [Qpa M i s s' j u hj hs e] at q
 show World.ownsRow _ _ _ _ _ _ _
 rw [List.length_set];exact q
theorem OwnD.ne {o:Ag} {p:Pl} (h:OwnD w B v M) (ha:AgO w B' o p):∀ k,Qdz o p k->v.ownBlock≠some k:=fun k hk e=>by
 rcases hk with (hk | hk) | (hk | hk)
 ·exact Ty.ne ha.P.ty (Qcj h) oF k hk e
 ·exact Ty.ne ha.N.ty (Qcj h) oF k hk e
 ·exact Ty.ne (Qcj ha.E.2) (Qcj h) oF k hk e
 ·exact Ty.ne (Qcj ha.R.2) (Qcj h) oF k hk e
variable {L:List Ce}
theorem OwnD.neC (h:OwnD w B v M) (hc:OwnC w B' u L):∀ k,u.ownBlock=some k->v.ownBlock≠some k:=fun k e1 e2=>Ty.ne (Qcj hc) (Qcj h) oF k e1 e2
theorem OwnD.neB {X:List Sd} (h:OwnD w B v M) (hl:LvO w B' X) (hs:s∈X):∀ k,Qf2 (slS s) s.L k->v.ownBlock≠some k:=by
 rintro k (q | ⟨c,hc,q⟩)
 ·exact h.neC (hl.r s hs) k q
 ·exact h.ne (hl.o.o c oX) k q
theorem LvO.keptS (h:LvO w B M) (hg:GrownS w w' S) (h1:∀ s∈M,∀ k,Qf2 (slS s) s.L k->¬ S k):LvO w' B M:=
 ⟨fun s hs=>(h.r s hs).keptS hg (fun k q=>h1 s hs k (.inl q)),h.rap,h.o.keptS hg (fun c hc k q=>by
  obtain ⟨s,hs,hc'⟩:=Qbt hc;exact h1 s hs k (.inr ⟨c,hc',q⟩))⟩
theorem LvO.le (h:LvO w B M) (hb:B'<=B):LvO w B' M:=⟨fun s hs=>(h.r s hs).le hb,h.rap,h.o.le hb⟩
theorem LvO.apart {A R:List Sd} (h:LvO w B (A ++ s :: R)) (ht:t∈A ++ R):∀ k,Qf2 (slS t) t.L k->¬ Qf2 (slS s) s.L k:=by
 have hs:s∈A ++ s :: R:=oE
 have aa:t∈A ++ s :: R:=by
  rcases List.mem_append.1 ht with q | q
  ·exact List.mem_append_left _ q
  ·exact List.mem_append_right _ (ZZm _ q)
 have cs:∀ c∈s.L,AgO w B c.g c.p:=fun c hc=>h.o.o c oX;have ct:∀ c∈t.L,AgO w B c.g c.p:=fun c hc=>h.o.o c (by unfold QaK;exact List.mem_flatMap.2 ⟨t,aa,hc⟩)
 have rp:∀ k,(slS t).ownBlock=some k->(slS s).ownBlock≠some k:=by
  have hp:=List.pairwise_append.1 h.rap;rcases List.mem_append.1 ht with q | q
  ·exact hp.2.2 t q s List.mem_cons_self
  ·exact fun k e1 e2=>(List.pairwise_cons.1 hp.2.1).1 t q k e2 e1
 have cp:∀ c∈t.L,∀ d∈s.L,ApC c d:=fun c hc d hd=>by
  have ho:=h.o.ap;rw [Qct,show QaK (s :: R)=s.L ++ QaK R by simp [QaK]] at ho;have hp:=List.pairwise_append.1 ho;rcases List.mem_append.1 ht with q | q
  ·exact hp.2.2 c xB d (List.mem_append_left _ hd)
  ·exact fun k e1 e2=>(List.pairwise_append.1 hp.2.1).2.2 d hd c xB k e2 e1
 rintro k (q | ⟨c,hc,q⟩) (p | ⟨d,hd,p⟩)
 ·exact rp k q p
 ·exact (h.r t aa).ne (cs d hd) k p q
 ·exact (h.r s hs).ne (ct c hc) k q p
 ·exact cp c hc d hd k q p
def QjA (v:Value) (M:List Sd) (k:Nat):Prop:=v.ownBlock=some k∨∃ s∈M,Qf2 (slS s) s.L k
def mkS (k:Nat) (s:Sd):Sd:=⟨mtx k,mkCs (k+1) s.L,s.ao,s.cp⟩
def totS:List Sd->Nat
 | []=>0
 | s :: M=>1+totC s.L+totS M
def mkSs:Nat->List Sd->List Sd
 | _,[]=>[]
 | k,s :: M=>mkS k s :: mkSs (k+(1+totC s.L)) M
def ovS (k0:Nat) (M:List Sd) (i:Nat):List Sd:=mkSs k0 (M.take i) ++ M.drop i
structure MkP (w W:World) (B:Nat) (v:Value) (M0 M:List Sd):Prop where
 r:OwnD W B v M
 o:LvO W B M
 g:GrownS w W (QjA v M0)
structure CsB (w:World) (lo hi:Nat) (v:Value) (L:List Ce):Prop where
 r:OwnC w lo v L
 o:CesO w lo L
 hi:∀ k,Qf2 v L k->lo<=k/\k<hi
theorem CsB.of (r:OwnC w lo v L) (o:CesO w lo L):CsB w lo w.heap.size v L:=⟨r,o,fun k q=>by
 rcases q with q | ⟨c,hc,q⟩
 ·exact World.ownsRow.lt r k q
 ·exact (o.o c hc).lt q⟩
theorem CsB.past (h:CsB w lo hi v L) (hb:Bw w w'):CsB w' lo hi v L:=⟨h.r.past hb,h.o.past hb,h.hi⟩
theorem CsB.at (h:CsB w lo hi (.slice ao n cp) L):QbG w ao L:=OwnC.at h.r h.o.at
structure PpB (w:World) (lo hi:Nat) (v:Value) (M:List Sd):Prop where
 r:OwnD w lo v M
 o:LvO w lo M
 hi:∀ k,QjA v M k->lo<=k/\k<hi
theorem PpB.of (r:OwnD w lo v M) (o:LvO w lo M):PpB w lo w.heap.size v M:=⟨r,o,fun k q=>by
 rcases q with q | ⟨s,hs,q | ⟨c,hc,q⟩⟩
 ·exact World.ownsRow.lt r k q
 ·exact World.ownsRow.lt (o.r s hs) k q
 ·exact (o.o.o c oX).lt q⟩
theorem PpB.past (h:PpB w lo hi v M) (hb:Bw w w'):PpB w' lo hi v M:=⟨h.r.past hb,h.o.past hb,h.hi⟩
theorem QuJ {S:List Sd} (h:(t :: M).map Sd.key=(s :: S).map Sd.key):t.nm=s.nm/\t.L.map Ce.key=s.L.map Ce.key/\t.L.length=s.L.length/\M.map Sd.key=S.map Sd.key:=by
 simp only [List.map_cons,List.cons.injEq] at h;have q:=Qfw h.1;exact ⟨q.1,q.2.1,q.2.2,h.2⟩
structure CBd (R:List Ce):Prop where
 l:R.length<=1048576
 s:∀ c∈R,AgSm c.g
 t:1+totC R<=25000000
structure SBd (M:List Sd):Prop where
 n:M.length<=1048576
 l:∀ s∈M,s.L.length<=1048576
 s:∀ s∈M,∀ c∈s.L,AgSm c.g
 t:1+totS M<=25000000
variable {T:TypeId}
theorem Qay {cs:Array Value} (h:w.heap[r]?=some (.cells cs T (0,0))) (j:Nat) (e:cs[j]?=some v):w.cell? ⟨r,j,none⟩=some v:=by rw [cell_of_row _ _ j _ _ (0,0) h];exact e
theorem Qbf {a b c d e:Value} (h:w.heap[r]?=some (.cells #[a,b,c,d,e] T (0,0))):w.cell? ⟨r,0,none⟩=some a/\w.cell? ⟨r,1,none⟩=some b/\w.cell? ⟨r,2,none⟩=some c/\w.cell? ⟨r,3,none⟩=some d/\w.cell? ⟨r,4,none⟩=some e:=⟨Qay h 0 rfl,Qay h 1 rfl,Qay h 2 rfl,Qay h 3 rfl,Qay h 4 rfl⟩
def OkQ (S:List Sd):Prop:=∀ s∈S,∀ c∈s.L,AgOk c.g/\c.s.size<=maxLen
end Go.Proofs.YtioohanfodmddaaGreatDoor
