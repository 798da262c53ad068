/-
 Shards in a row that is owned, and their cells: written over, looked at again.
-/
import Derived.Test.YtmjogablacnlgaaGreatDoorOYH
namespace Go.Proofs.YtmjogablacnlgaaGreatDoor
set_option linter.unusedVariables false
set_option linter.unusedSimpArgs false
open Go.ChangeShapes Go.WideShapes Go.ChangeAt Go.RowKit Go.PlainAid Go.Lib
set_option maxRecDepth 10000
def sdL (s:Sd):List Value:=(sdArr s).toList
def flS (M:List Sd):List Value:=M.flatMap sdL
theorem flS_cons (s:Sd) (M:List Sd):flS (s :: M)=sdL s ++ flS M:=by simp [flS]
theorem flS_app (A B:List Sd):flS (A ++ B)=flS A ++ flS B:=by simp [flS]
theorem flS_one (s:Sd):flS [s]=sdL s:=by simp [flS]
theorem sdL_len (s:Sd):(sdL s).length=2:=rfl
theorem flS_len:∀ M:List Sd,(flS M).length=M.length*2
 | []=>rfl
 | s :: M=>by rw [flS_cons,List.length_append,flS_len M,List.length_cons,sdL_len];omega
theorem flS_at:∀ (M:List Sd) (i:Nat) (s:Sd) (j:Nat),j<2→M[i]?=some s→(flS M)[i*2+j]?=(sdL s)[j]?
 | [],i,s,j,hj,h=>by simp at h
 | x :: xs,0,s,j,hj,h=>by
  obtain rfl:x=s:=by simpa using h
  rw [flS_cons,Nat.zero_mul,Nat.zero_add,List.getElem?_append_left (by rw [sdL_len];exact hj)]
 | x :: xs,i+1,s,j,hj,h=>by
  rw [flS_cons,List.getElem?_append_right (by rw [sdL_len];omega),sdL_len,show (i+1)*2+j - 2=i*2+j by omega];exact flS_at xs i s j hj (by simpa using h)
theorem flS_set:∀ (M:List Sd) (i:Nat) (s s':Sd) (j:Nat) (u:Value),j<2→M[i]?=some s→sdL s'=(sdL s).set j u→(flS M).set (i*2+j) u=flS (M.set i s')
 | [],i,s,s',j,u,hj,h,e=>by simp at h
 | x :: xs,0,s,s',j,u,hj,h,e=>by
  obtain rfl:x=s:=by simpa using h
  rw [flS_cons,List.set_append_left _ _ (by rw [sdL_len];omega),List.set_cons_zero,flS_cons,e,Nat.zero_mul,Nat.zero_add]
 | x :: xs,i+1,s,s',j,u,hj,h,e=>by
  rw [flS_cons,List.set_append_right _ _ (by rw [sdL_len];omega),sdL_len,List.set_cons_succ,flS_cons,← flS_set xs i s s' j u hj (by simpa using h) e,show (i+1)*2+j - 2=i*2+j by omega]
theorem flS_same:∀ (M:List Sd) (i:Nat) (s s':Sd),M[i]?=some s→sdL s'=sdL s→flS (M.set i s')=flS M
 | [],i,s,s',h,e=>by simp at h
 | x :: xs,0,s,s',h,e=>by
  obtain rfl:x=s:=by simpa using h
  rw [List.set_cons_zero,flS_cons,flS_cons,e]
 | x :: xs,i+1,s,s',h,e=>by
  rw [List.set_cons_succ,flS_cons,flS_cons,flS_same xs i s s' (by simpa using h) e]
def OwnD (w:World) (B:Nat) (v:Value) (M:List Sd):Prop:=w.ownsRow B 55 2 v M.length (flS M)
theorem OwnD.nil (w:World) (B:Nat):OwnD w B (.slice none 0 0) []:=World.ownsRow_nil _ _ _ _
theorem OwnD.past {w w':World} {B:Nat} {v:Value} {M:List Sd} (h:OwnD w B v M) (hb:Below w.heap.size w w'):OwnD w' B v M:=
 World.ownsRow.kept (row:=none) h ⟨hb.os,hb.tape,hb.output,hb.size,fun i hi _=>hb.block i hi⟩ (by cases v.ownBlock <;> simp)
theorem OwnD.le {w:World} {B B':Nat} {v:Value} {M:List Sd} (h:OwnD w B v M) (hb:B'≤B):OwnD w B' v M:=by
 refine ⟨h.1,?_⟩;rcases h.2 with q | ⟨g,cap,cur,e,q1,q2⟩
 ·exact .inl q
 ·exact .inr ⟨g,cap,cur,e,Nat.le_trans hb q1,q2⟩
theorem OwnD.form {w:World} {B:Nat} {v:Value} {M:List Sd} (h:OwnD w B v M):∃ ao cp,v=.slice ao M.length cp∧(ao=none→cp=0):=by
 rcases h.2 with ⟨e,q⟩ | ⟨g,cap,cur,e,q1,q2⟩
 ·exact ⟨none,0,by rw [q];exact e,fun _=>rfl⟩
 ·exact ⟨_,cap,e,fun h=>by cases h⟩
theorem OwnD.keptS {w w':World} {B:Nat} {v:Value} {M:List Sd} {S:Nat→Prop} (h:OwnD w B v M) (hg:GrownS w w' S) (h1:∀ k,v.ownBlock=some k→¬ S k):OwnD w' B v M:=by
 refine ⟨h.1,?_⟩;rcases h.2 with q | ⟨g,cap,cur,e,q1,q2,q3⟩
 ·exact .inl q
 ·exact .inr ⟨g,cap,cur,e,q1,hg.row q2 (h1 g (by rw [e];rfl)),q3⟩
theorem own_addrS {w:World} {B n cp:Nat} {ao:Option Addr} {M:List Sd} (h:OwnD w B (.slice ao n cp) M) (h0:0<M.length):∃ g,ao=some ⟨g,0,none⟩:=by
 rcases h.2 with ⟨e,q⟩ | ⟨g,cap,cur,e,q1,q2⟩
 ·omega
 ·injection e with e1 e2 e3
  exact ⟨g,e1⟩
theorem row_cellsS {w:World} {B g cp n i:Nat} {M:List Sd} {s:Sd} (h:OwnD w B (.slice (some ⟨g,0,none⟩) n cp) M) (hn:M.length=n) (hs:M[i]?=some s):SdCell w g (i*2) s∧∀ j,w.frozen? ⟨g,j,none⟩=false:=by
 subst hn;have hi:=(List.getElem?_eq_some_iff.1 hs).1
 have q:∀ j v,j<2→(sdL s)[j]?=some v→w.cell? ⟨g,i*2+j,none⟩=some v:=fun j v hj e=>by
  rw [World.ownsRow.cellAt h (i*2+j) (by omega),flS_at M i s j hj hs];exact e
 exact ⟨⟨q 0 _ (by omega) rfl,q 1 _ (by omega) rfl⟩,fun j=>World.ownsRow.frozenAt h j⟩
theorem OwnD.at {w:World} {B B' n cp:Nat} {ao:Option Addr} {M:List Sd} (h:OwnD w B (.slice ao n cp) M) (hl:LvO w B' M):SdsAt w ao M:=by
 refine ⟨fun h0=>?_,fun s hs=>hl.at hs⟩;obtain ⟨g,rfl⟩:=own_addrS h h0
 have hn:M.length=n:=by
  rcases h.2 with ⟨e,q⟩ | ⟨g',cap,cur,e,q1,q2⟩
  ·cases e
  ·injection e with _ e2 _;exact e2.symm
 exact ⟨g,0,rfl,fun i s hs=>by rw [Nat.zero_add];exact (row_cellsS h hn hs).1⟩
theorem OwnD.put1 {w:World} {B g cp n i j:Nat} {M:List Sd} {s s':Sd} {u:Value} (h:OwnD w B (.slice (some ⟨g,0,none⟩) n cp) M) (hn:M.length=n) (hs:M[i]?=some s) (hj:j<2) (e:sdL s'=(sdL s).set j u):OwnD (w.setCell ⟨g,i*2+j,none⟩ u) B (.slice (some ⟨g,0,none⟩) n cp) (M.set i s'):=by
 subst hn;have q:=(World.ownsRow.stored h (i*2+j) u).1;rw [flS_set M i s s' j u hj hs e] at q
 show World.ownsRow _ _ _ _ _ _ _
 rw [List.length_set];exact q
theorem OwnD.re {w:World} {B i:Nat} {v:Value} {M:List Sd} {s s':Sd} (h:OwnD w B v M) (hs:M[i]?=some s) (e:sdL s'=sdL s):OwnD w B v (M.set i s'):=by
 show World.ownsRow _ _ _ _ _ _ _
 rw [List.length_set,flS_same M i s s' hs e];exact h
theorem OwnD.ne {w:World} {B B':Nat} {v:Value} {M:List Sd} {o:Ag} {p:Pl} (h:OwnD w B v M) (ha:AgO w B' o p):∀ k,AgBlk o p k→v.ownBlock≠some k:=fun k hk e=>by
 rcases hk with (hk | hk) | (hk | hk)
 ·exact Ty.ne ha.P.ty (own_ty h) (by decide) k hk e
 ·exact Ty.ne ha.N.ty (own_ty h) (by decide) k hk e
 ·exact Ty.ne (own_ty ha.E.2) (own_ty h) (by decide) k hk e
 ·exact Ty.ne (own_ty ha.R.2) (own_ty h) (by decide) k hk e
theorem OwnD.neC {w:World} {B B':Nat} {v u:Value} {M:List Sd} {L:List Ce} (h:OwnD w B v M) (hc:OwnC w B' u L):∀ k,u.ownBlock=some k→v.ownBlock≠some k:=fun k e1 e2=>Ty.ne (own_ty hc) (own_ty h) (by decide) k e1 e2
theorem OwnD.neB {w:World} {B B':Nat} {v:Value} {M X:List Sd} (h:OwnD w B v M) (hl:LvO w B' X) {s:Sd} (hs:s∈X):∀ k,CBlk (slS s) s.L k→v.ownBlock≠some k:=by
 rintro k (q | ⟨c,hc,q⟩)
 ·exact h.neC (hl.r s hs) k q
 ·exact h.ne (hl.o.o c (by unfold allC;exact List.mem_flatMap.2 ⟨s,hs,hc⟩)) k q
theorem LvO.keptS {w w':World} {B:Nat} {M:List Sd} {S:Nat→Prop} (h:LvO w B M) (hg:GrownS w w' S) (h1:∀ s∈M,∀ k,CBlk (slS s) s.L k→¬ S k):LvO w' B M:=
 ⟨fun s hs=>(h.r s hs).keptS hg (fun k q=>h1 s hs k (.inl q)),h.rap,h.o.keptS hg (fun c hc k q=>by
  obtain ⟨s,hs,hc'⟩:=mem_allC hc;exact h1 s hs k (.inr ⟨c,hc',q⟩))⟩
theorem LvO.le {w:World} {B B':Nat} {M:List Sd} (h:LvO w B M) (hb:B'≤B):LvO w B' M:=⟨fun s hs=>(h.r s hs).le hb,h.rap,h.o.le hb⟩
theorem mkCs_mem {L:List Ce} {d:Ce}:∀ {k:Nat},d∈mkCs k L→∃ c∈L,d.p=c.p:=by
 induction L with
 | nil=>intro k h;cases h
 | cons c L ih=>
  intro k h;unfold mkCs at h;rcases List.mem_cons.1 h with e | h
  ·exact ⟨c,List.mem_cons_self,by rw [e];rfl⟩
  ·obtain ⟨x,hx,e⟩:=ih h
   exact ⟨x,List.mem_cons_of_mem _ hx,e⟩
theorem mk_blk {L:List Ce} {d:Ce} {k:Nat} (h:d∈mkCs k L):∃ c∈L,∀ j,AgBlk d.g d.p j→AgBlk c.g c.p j:=by
 obtain ⟨c,hc,e⟩:=mkCs_mem h;exact ⟨c,hc,fun j q=>by rw [e] at q;exact blk_same j q⟩
theorem sub_allC {M:List Sd} {s:Sd} (h:s∈M):s.L.Sublist (allC M):=by
 obtain ⟨A,R,rfl⟩:=List.append_of_mem h;rw [allC_app,show allC (s :: R)=s.L ++ allC R by simp [allC]];exact (List.sublist_append_left s.L _).trans (List.sublist_append_right _ _)
theorem LvO.apart {w:World} {B:Nat} {A R:List Sd} {s t:Sd} (h:LvO w B (A ++ s :: R)) (ht:t∈A ++ R):∀ k,CBlk (slS t) t.L k→¬ CBlk (slS s) s.L k:=by
 have hs:s∈A ++ s :: R:=by simp
 have ht':t∈A ++ s :: R:=by
  rcases List.mem_append.1 ht with q | q
  ·exact List.mem_append_left _ q
  ·exact List.mem_append_right _ (List.mem_cons_of_mem _ q)
 have cs:∀ c∈s.L,AgO w B c.g c.p:=fun c hc=>h.o.o c (by unfold allC;exact List.mem_flatMap.2 ⟨s,hs,hc⟩);have ct:∀ c∈t.L,AgO w B c.g c.p:=fun c hc=>h.o.o c (by unfold allC;exact List.mem_flatMap.2 ⟨t,ht',hc⟩)
 have rp:∀ k,(slS t).ownBlock=some k→(slS s).ownBlock≠some k:=by
  have hp:=List.pairwise_append.1 h.rap;rcases List.mem_append.1 ht with q | q
  ·exact hp.2.2 t q s List.mem_cons_self
  ·exact fun k e1 e2=>(List.pairwise_cons.1 hp.2.1).1 t q k e2 e1
 have cp:∀ c∈t.L,∀ d∈s.L,ApC c d:=fun c hc d hd=>by
  have ho:=h.o.ap;rw [allC_app,show allC (s :: R)=s.L ++ allC R by simp [allC]] at ho;have hp:=List.pairwise_append.1 ho;rcases List.mem_append.1 ht with q | q
  ·exact hp.2.2 c (by unfold allC;exact List.mem_flatMap.2 ⟨t,q,hc⟩) d (List.mem_append_left _ hd)
  ·exact fun k e1 e2=>(List.pairwise_append.1 hp.2.1).2.2 d hd c (by unfold allC;exact List.mem_flatMap.2 ⟨t,q,hc⟩) k e2 e1
 rintro k (q | ⟨c,hc,q⟩) (p | ⟨d,hd,p⟩)
 ·exact rp k q p
 ·exact (h.r t ht').ne (cs d hd) k p q
 ·exact (h.r s hs).ne (ct c hc) k q p
 ·exact cp c hc d hd k q p
theorem LvO.mark {w w':World} {B k0:Nat} {A R:List Sd} {s:Sd} {nm:ByteArray} (h:LvO w B (A ++ s :: R)) (hm:MkS w w' B (slS s) s.L (mkCs k0 s.L)):LvO w' B (A ++ ⟨nm,mkCs k0 s.L,s.ao,s.cp⟩ :: R):=by
 have esl:slS ⟨nm,mkCs k0 s.L,s.ao,s.cp⟩=slS s:=by show Value.slice _ (mkCs k0 s.L).length _=_;rw [mkCs_len]
 have hkeep:∀ t∈A ++ R,OwnC w' B (slS t) t.L∧∀ c∈t.L,AgO w' B c.g c.p:=fun t ht=>by
  have ht':t∈A ++ s :: R:=by
   rcases List.mem_append.1 ht with q | q
   ·exact List.mem_append_left _ q
   ·exact List.mem_append_right _ (List.mem_cons_of_mem _ q)
  refine ⟨(h.r t ht').keptS hm.g (fun k q=>h.apart ht k (.inl q)),fun c hc=>?_⟩;exact (h.o.o c (by unfold allC;exact List.mem_flatMap.2 ⟨t,ht',hc⟩)).keptS hm.g (fun k q=>h.apart ht k (.inr ⟨c,hc,q⟩))
 refine ⟨fun t ht=>?_,?_,fun c hc=>?_,?_⟩
 ·rcases List.mem_append.1 ht with q | q
  ·exact (hkeep t (List.mem_append_left _ q)).1
  ·rcases List.mem_cons.1 q with q | q
   ·subst q
    rw [esl];exact hm.r
   ·exact (hkeep t (List.mem_append_right _ q)).1
 ·have hr:=h.rap
  rw [← List.pairwise_map (f:=slS) (R:=ApV)] at hr ⊢;rw [List.map_append,List.map_cons] at hr ⊢;rw [esl];exact hr
 ·obtain ⟨t,ht,hc'⟩:=mem_allC hc
  rcases List.mem_append.1 ht with q | q
  ·exact (hkeep t (List.mem_append_left _ q)).2 c hc'
  ·rcases List.mem_cons.1 q with q | q
   ·subst q
    exact hm.o.o c hc'
   ·exact (hkeep t (List.mem_append_right _ q)).2 c hc'
 ·have ho:=h.o.ap
  rw [allC_app,show allC (s :: R)=s.L ++ allC R by simp [allC]] at ho;rw [allC_app,show allC (⟨nm,mkCs k0 s.L,s.ao,s.cp⟩ :: R)=mkCs k0 s.L ++ allC R by simp [allC]];obtain ⟨o1,o2,o3⟩:=List.pairwise_append.1 ho;obtain ⟨p1,p2,p3⟩:=List.pairwise_append.1 o2;refine List.pairwise_append.2 ⟨o1,List.pairwise_append.2 ⟨hm.o.ap,p2,fun a ha b hb=>?_⟩,fun a ha b hb=>?_⟩
  ·obtain ⟨c,hc,q⟩:=mk_blk ha
   exact fun k e1 e2=>p3 c hc b hb k (q k e1) e2
  ·rcases List.mem_append.1 hb with hb | hb
   ·obtain ⟨c,hc,q⟩:=mk_blk hb
    exact fun k e1 e2=>o3 a ha c (List.mem_append_left _ hc) k e1 (q k e2)
   ·exact o3 a ha b (List.mem_append_right _ hb)
def PBlk (v:Value) (M:List Sd) (k:Nat):Prop:=v.ownBlock=some k∨∃ s∈M,CBlk (slS s) s.L k
def mkS (k:Nat) (s:Sd):Sd:=⟨mtx k,mkCs (k+1) s.L,s.ao,s.cp⟩
def totS:List Sd→Nat
 | []=>0
 | s :: M=>1+totC s.L+totS M
def mkSs:Nat→List Sd→List Sd
 | _,[]=>[]
 | k,s :: M=>mkS k s :: mkSs (k+(1+totC s.L)) M
theorem mkSs_len:∀ (k:Nat) (M:List Sd),(mkSs k M).length=M.length
 | _,[]=>rfl
 | k,s :: M=>by rw [mkSs,List.length_cons,List.length_cons,mkSs_len]
theorem totS_app:∀ (A B:List Sd),totS (A ++ B)=totS A+totS B
 | [],B=>by simp [totS]
 | s :: A,B=>by rw [List.cons_append,totS,totS,totS_app A B];omega
theorem totS_take {M:List Sd} {i:Nat} {s:Sd} (h:M[i]?=some s):totS (M.take (i+1))=totS (M.take i)+(1+totC s.L):=by
 rw [List.take_add_one,h,totS_app];simp [totS]
theorem totS_mono (M:List Sd) (i:Nat):totS (M.take i)≤totS M:=by
 have h:=totS_app (M.take i) (M.drop i);rw [List.take_append_drop] at h;omega
theorem mkSs_app:∀ (k:Nat) (A B:List Sd),mkSs k (A ++ B)=mkSs k A ++ mkSs (k+totS A) B
 | k,[],B=>by simp [mkSs,totS]
 | k,s :: A,B=>by rw [List.cons_append,mkSs,mkSs,mkSs_app,totS,List.cons_append,show k+(1+totC s.L)+totS A=k+(1+totC s.L+totS A) by omega]
theorem mkSs_at:∀ {M:List Sd} {k0 i:Nat} {s:Sd},M[i]?=some s→(mkSs k0 M)[i]?=some (mkS (k0+totS (M.take i)) s)
 | [],k0,i,s,h=>by simp at h
 | x :: M,k0,0,s,h=>by
  obtain rfl:x=s:=by simpa using h
  simp [mkSs,totS]
 | x :: M,k0,i+1,s,h=>by
  rw [mkSs,List.getElem?_cons_succ,mkSs_at (by simpa using h),List.take_succ_cons,totS,show k0+(1+totC x.L)+totS (M.take i)=k0+(1+totC x.L+totS (M.take i)) by omega]
def ovS (k0:Nat) (M:List Sd) (i:Nat):List Sd:=mkSs k0 (M.take i) ++ M.drop i
theorem ovS_len (k0:Nat) (M:List Sd) (i:Nat) (h:i≤M.length):(ovS k0 M i).length=M.length:=by simp [ovS,mkSs_len];omega
theorem ovS_parts {k0:Nat} {M:List Sd} {i:Nat} {s:Sd} (h:M[i]?=some s):ovS k0 M i=mkSs k0 (M.take i) ++ s :: M.drop (i+1)∧ovS k0 M (i+1)=mkSs k0 (M.take i) ++ mkS (k0+totS (M.take i)) s :: M.drop (i+1):=by
 obtain ⟨hi,e⟩:=List.getElem?_eq_some_iff.1 h;constructor
 ·unfold ovS;rw [← e,← List.drop_eq_getElem_cons hi]
 ·unfold ovS
  rw [List.take_add_one,h,mkSs_app];simp [mkSs]
theorem ovS_at {k0:Nat} {M:List Sd} {i:Nat} {s:Sd} (h:M[i]?=some s):(ovS k0 M i)[i]?=some s:=by
 have hi:=(List.getElem?_eq_some_iff.1 h).1;have hl:(mkSs k0 (M.take i)).length=i:=by rw [mkSs_len];simp;omega
 rw [(ovS_parts h).1,List.getElem?_append_right (by omega),hl,Nat.sub_self]
 rfl
theorem ovS_set {k0:Nat} {M:List Sd} {i:Nat} {s t:Sd} (h:M[i]?=some s):(ovS k0 M i).set i t=mkSs k0 (M.take i) ++ t :: M.drop (i+1):=by
 have hi:=(List.getElem?_eq_some_iff.1 h).1;have hl:(mkSs k0 (M.take i)).length=i:=by rw [mkSs_len];simp;omega
 rw [(ovS_parts h).1,List.set_append_right _ _ (by omega),hl,Nat.sub_self,List.set_cons_zero]
structure MkP (w W:World) (B:Nat) (v:Value) (M0 M:List Sd):Prop where
 r:OwnD W B v M
 o:LvO W B M
 g:GrownS w W (PBlk v M0)
theorem MkP.past {w W W':World} {B:Nat} {v:Value} {M0 M:List Sd} (h:MkP w W B v M0 M) (hb:Below W.heap.size W W'):MkP w W' B v M0 M:=⟨h.r.past hb,h.o.past hb,(h.g.trans (GrownS.ofBelow hb)).weak (fun k q=>q.elim id (fun f=>f.elim))⟩
theorem MkP.name {w W:World} {B gg cp n i K k0:Nat} {M:List Sd} {s:Sd} (h:MkP w W B (.slice (some ⟨gg,0,none⟩) n cp) M (ovS k0 M i)) (hn:M.length=n) (hs:M[i]?=some s) :
  MkP w (W.setCell ⟨gg,i*2,none⟩ (.string (mtx K))) B (.slice (some ⟨gg,0,none⟩) n cp) M ((ovS k0 M i).set i ⟨mtx K,s.L,s.ao,s.cp⟩):=by
 have hi:=(List.getElem?_eq_some_iff.1 hs).1;have hg:W.grownBy (W.setCell ⟨gg,i*2,none⟩ (.string (mtx K))) (some gg):=grown_one _ _ _ _;have hgs:GrownS W (W.setCell ⟨gg,i*2,none⟩ (.string (mtx K))) (fun k=>some gg=some k):=⟨hg.os,hg.tape,hg.output,hg.size,fun k hk hn=>hg.block k hk (fun e=>hn e.symm)⟩;have ol:LvO (W.setCell ⟨gg,i*2,none⟩ (.string (mtx K))) B (ovS k0 M i):=h.o.keptS hgs (fun t ht k q e=>h.r.neB h.o ht k q (by rw [← e];rfl));refine ⟨h.r.put1 (j:=0) (s:=s) (by rw [ovS_len _ _ _ (by omega)];exact hn) (ovS_at hs) (by omega) rfl,?_,(h.g.trans hgs).weak (fun k q=>q.elim id (fun e=>.inl (by rw [← e];rfl)))⟩;rw [ovS_set hs];rw [(ovS_parts hs).1] at ol;refine ⟨fun t ht=>?_,?_,?_⟩
 ·rcases List.mem_append.1 ht with q | q
  ·exact ol.r t (List.mem_append_left _ q)
  ·rcases List.mem_cons.1 q with q | q
   ·subst q
    exact ol.r s (by simp)
   ·exact ol.r t (List.mem_append_right _ (List.mem_cons_of_mem _ q))
 ·have hr:=ol.rap
  rw [← List.pairwise_map (f:=slS) (R:=ApV)] at hr ⊢;rw [List.map_append,List.map_cons] at hr ⊢;exact hr
 ·have ho:=ol.o
  rw [allC_app,show allC (s :: M.drop (i+1))=s.L ++ allC (M.drop (i+1)) by simp [allC]] at ho;rw [allC_app,show allC (⟨mtx K,s.L,s.ao,s.cp⟩ :: M.drop (i+1))=s.L ++ allC (M.drop (i+1)) by simp [allC]];exact ho
theorem MkP.cells {w W W':World} {B gg cp n i K k0:Nat} {M:List Sd} {s:Sd} (h:MkP w W B (.slice (some ⟨gg,0,none⟩) n cp) M ((ovS k0 M i).set i ⟨mtx K,s.L,s.ao,s.cp⟩)) (hn:M.length=n) (hs:M[i]?=some s) (hK:k0+totS (M.take i)=K)
  (hm:MkS W W' B (slS s) s.L (mkCs (K+1) s.L)):MkP w W' B (.slice (some ⟨gg,0,none⟩) n cp) M (ovS k0 M (i+1)):=by
 have hi:=(List.getElem?_eq_some_iff.1 hs).1;have hat:((ovS k0 M i).set i ⟨mtx K,s.L,s.ao,s.cp⟩)[i]?=some ⟨mtx K,s.L,s.ao,s.cp⟩:=List.getElem?_set_self (by rw [ovS_len _ _ _ (by omega)];exact hi);have hmem:=List.mem_of_getElem? hat
 have e1:(ovS k0 M (i+1))=((ovS k0 M i).set i ⟨mtx K,s.L,s.ao,s.cp⟩).set i (mkS K s):=by
  rw [List.set_set,ovS_set hs,(ovS_parts hs).2,hK]
 have esl:sdL (mkS K s)=sdL (⟨mtx K,s.L,s.ao,s.cp⟩:Sd):=by
  show [_,Value.slice _ (mkCs (K+1) s.L).length _]=[_,_];rw [mkCs_len];rfl
 refine ⟨?_,?_,(h.g.trans hm.g).weak (fun k q=>q.elim id (fun e=>.inr ⟨s,List.mem_of_getElem? hs,e⟩))⟩
 ·rw [e1]
  exact (h.r.keptS hm.g (fun k q1 q2=>h.r.neB h.o hmem k q2 q1)).re hat esl
 ·have ol:=h.o
  rw [ovS_set hs] at ol;rw [(ovS_parts hs).2,hK];exact ol.mark (s:=⟨mtx K,s.L,s.ao,s.cp⟩) hm
set_option maxHeartbeats 4000000 in
theorem c_markShardS {w:World} {B N:Nat} {v:Value} {M:List Sd} (k0:Nat) (h0:1≤k0) (hk:k0+totS M≤50000000) (hN:M.length=N) (lN:N≤1048576) (lL:∀ s∈M,s.L.length≤1048576) (sm:∀ s∈M,∀ c∈s.L,AgSm c.g) (hR:OwnD w B v M) (hO:LvO w B M) :
  Calls Tryz.prog 52 #[v,.int .i64 k0] w fun e w'=>e=.returned (.int .i64 ((k0+totS M:Nat):Int))∧MkP w w' B v M (mkSs k0 M):=by
 obtain ⟨ao,cp,rfl,_⟩:=hR.form;rw [hN] at hR ⊢;have I0:Hid (MkP w w B (.slice ao N cp) M (ovS k0 M 0)):=by rw [show ovS k0 M 0=M by simp [ovS,mkSs]];exact ⟨hR,hO,(GrownS.ofBelow (Below.refl _ _)).weak (fun k q=>q.elim)⟩
 have HN:=hide hN;have LL:=hide lL;have SM:=hide sm;have HK:=hide hk;clear hR hO hN sm hk lL;go_enter Tryz.func52,Tryz.ntmps52;go_wp2
 go_loopw [1,5] (fun m i wr=>∃ (k:Nat),k≤N∧i=.int .i64 k∧m=.int .i64 ((k0+totS (M.take k):Nat):Int)∧Hid (MkP w wr B (.slice ao N cp) M (ovS k0 M k))) (fun m i wr=>N - (Go.RowKit.intOf i).toNat)
 case atStart=>exact ⟨0,Nat.zero_le _,rfl,by simp [totS],I0⟩
 case round=>
  clear I0;obtain ⟨k,hk,rfl,rfl,HI⟩:=hrel;by_cases hkn:k<N
  ·obtain ⟨s,hs⟩:∃ s,M[k]?=some s:=⟨M[k]'(by have:=HN.out;omega),List.getElem?_eq_getElem _⟩
   have hol:(ovS k0 M k).length=N:=by rw [ovS_len _ _ _ (by have:=HN.out;omega)];exact HN.out
   obtain ⟨gg,rfl⟩:=own_addrS HI.out.r (by omega);obtain ⟨K,hK⟩:∃ K,k0+totS (M.take k)=K:=⟨_,rfl⟩
   have hKb:K+(1+totC s.L)≤50000000:=by
    have h1:=totS_take hs;have h2:=totS_mono M (k+1);have:=HK.out;omega
   have hT:K+1+totC s.L=k0+totS (M.take (k+1)):=by rw [totS_take hs];omega
   rw [hK];have HKK:=hide hK;have HS:=hide hs;have HSm:=hide (List.mem_of_getElem? hs);have HON:=hide hol;have HT:=hide hT;have hkni:(k:Int)<(N:Int):=by omega
   have hK1:1≤K:=by omega
   have HX:Hid (∀ W,Below wr.heap.size wr W→SdCell W gg (k*2) s∧W.frozen? ⟨gg,k*2,none⟩=false∧MkP w (W.setCell ⟨gg,k*2,none⟩ (.string (mtx K))) B (.slice (some ⟨gg,0,none⟩) N cp) M ((ovS k0 M k).set k ⟨mtx K,s.L,s.ao,s.cp⟩)):=fun W hW=>by
    have h1:=HI.out.past hW;obtain ⟨c1,c2⟩:=row_cellsS h1.r hol (ovS_at hs);exact ⟨c1,c2 _,h1.name HN.out hs⟩
   clear hs hol hK hT HI;go_wp2_with fail;refine (c_markText K (by omega) (by omega) _).mono ?_;rintro e w1 ⟨rfl,hb1⟩;obtain ⟨⟨x0,x1⟩,f0,hP⟩:=HX.out w1 hb1;have HP:=hide hP
   have y1:(w1.setCell ⟨gg,k*2,none⟩ (.string (mtx K))).cell? ⟨gg,k*2+1,none⟩=some (.slice s.ao s.L.length s.cp):=by
    have:=(row_cellsS hP.r (by rw [List.length_set];exact HON.out) (List.getElem?_set_self (by have:=HON.out;omega))).1.2;exact this
   clear hP hb1 HX x1;go_upto_region 6 with fail;clear x0 f0;generalize w1.setCell ⟨gg,k*2,none⟩ (.string (mtx K))=W1 at HP y1 ⊢;go_wp2_with fail;clear y1;rw [show (K:Int)+1=((K+1:Nat):Int) from rfl]
   have HOr:Hid (OwnC W1 B (slS s) s.L∧CesO W1 B s.L):=by
    have hmem:(⟨mtx K,s.L,s.ao,s.cp⟩:Sd)∈(ovS k0 M k).set k ⟨mtx K,s.L,s.ao,s.cp⟩:=List.mem_of_getElem? (List.getElem?_set_self (by have:=HON.out;omega));have h1:=HP.out.o.r _ hmem;refine ⟨h1,CesO.sub HP.out.o.o ?_⟩;have hsub:=sub_allC hmem;exact hsub
   refine (c_markCellS (K+1) (by omega) (by omega) rfl (LL.out s HSm.out) (SM.out s HSm.out) HOr.out.1 HOr.out.2).mono ?_;rintro e w2 ⟨rfl,hM⟩;have HF:=hide (HP.out.cells HN.out HS.out HKK.out hM);clear hM HOr HP;go_wp2;go_roundw
   case rel=>exact ⟨k+1,by omega,by go_num,by rw [← HT.out];go_num,HF⟩
   case measure=>simp [Go.RowKit.intOf];omega
  ·obtain rfl:k=N:=by omega
   have HF:Hid (totS (M.take k)=totS M):=by show _=_;rw [List.take_of_length_le (by have:=HN.out;omega)]
   have HF2:Hid (ovS k0 M k=mkSs k0 M):=by show _=_;unfold ovS;rw [List.take_of_length_le (by have:=HN.out;omega),List.drop_eq_nil_of_le (by have:=HN.out;omega),List.append_nil]
   go_wp2;go_ret;exact ⟨by rw [HF.out];rfl,HF2.out ▸ HI.out⟩
set_option maxHeartbeats 4000000 in
theorem c_heldShardS {w:World} {B N:Nat} {v:Value} {M:List Sd} (k0:Nat) (h0:1≤k0) (hk:k0+totS M≤50000000) (hN:M.length=N) (lN:N≤1048576) (lL:∀ s∈M,s.L.length≤1048576) (sm:∀ s∈M,∀ c∈s.L,AgSm c.g) (hR:OwnD w B v (mkSs k0 M)) (hO:LvO w B (mkSs k0 M)) :
  Calls Tryz.prog 53 #[v,.int .i64 k0] w fun e w'=>e=.returned (.int .i64 ((k0+totS M:Nat):Int))∧Below w.heap.size w w':=by
 obtain ⟨ao,cp,rfl,_⟩:=hR.form;have hml:(mkSs k0 M).length=N:=by rw [mkSs_len];exact hN
 rw [hml] at hR ⊢;have HR:=hide hR;have HO:=hide hO;have HN:=hide hN;have HML:=hide hml;have SM:=hide sm;have LL:=hide lL;have HK:=hide hk;clear hR hO hN sm hk hml lL;go_enter Tryz.func53,Tryz.ntmps53;go_wp2
 go_loopw [1,5] (fun m i wr=>∃ (k:Nat),k≤N∧i=.int .i64 k∧m=.int .i64 ((k0+totS (M.take k):Nat):Int)∧Hid (Below w.heap.size w wr)) (fun m i wr=>N - (Go.RowKit.intOf i).toNat)
 case atStart=>exact ⟨0,Nat.zero_le _,rfl,by simp [totS],Below.refl _ _⟩
 case round=>
  obtain ⟨k,hk,rfl,rfl,HB⟩:=hrel;by_cases hkn:k<N
  ·obtain ⟨s,hs⟩:∃ s,M[k]?=some s:=⟨M[k]'(by have:=HN.out;omega),List.getElem?_eq_getElem _⟩
   have hat:=mkSs_at (k0:=k0) hs;obtain ⟨gg,rfl⟩:=own_addrS HR.out (by have:=HML.out;omega);obtain ⟨Zk,hK⟩:∃ Zk,k0+totS (M.take k)=Zk:=⟨_,rfl⟩
   have hKb:Zk+(1+totC s.L)≤50000000:=by
    have h1:=totS_take hs;have h2:=totS_mono M (k+1);have:=HK.out;omega
   have hT:Zk+1+totC s.L=k0+totS (M.take (k+1)):=by rw [totS_take hs];omega
   have HT:=hide hT;rw [hK] at hat ⊢;have HSm:=hide (List.mem_of_getElem? hs);have hmem:=List.mem_of_getElem? hat
   have HOr:Hid (OwnC w B (.slice s.ao s.L.length s.cp) (mkCs (Zk+1) s.L)∧CesO w B (mkCs (Zk+1) s.L)):=by
    have h1:=HO.out.r _ hmem;have e:slS (mkS Zk s)=.slice s.ao s.L.length s.cp:=by show Value.slice _ (mkCs (Zk+1) s.L).length _=_;rw [mkCs_len];rfl
    rw [e] at h1;have hsub:=sub_allC hmem;exact ⟨h1,CesO.sub HO.out.o hsub⟩
   have hK1:1≤Zk:=by omega
   have hkni:(k:Int)<(N:Int):=by omega
   have HX:Hid (∀ W,Below w.heap.size w W→W.cell? ⟨gg,k*2,none⟩=some (.string (mtx Zk))∧W.cell? ⟨gg,k*2+1,none⟩=some (.slice s.ao s.L.length s.cp)):=fun W hW=>by
    have q:=(row_cellsS (HR.out.past hW) HML.out hat).1;refine ⟨q.1,q.2.trans ?_⟩
    show some (Value.slice _ (mkCs (Zk+1) s.L).length _)=_
    rw [mkCs_len];rfl
   clear hs hat hK hT hmem;go_upto_region 4 with fail
   go_cut [19] (fun v w'=>v=.bool false∧Hid (Below w.heap.size w w'))
   case first=>
    have HS0:(fun W=>Below wr.heap.size wr W) wr.drew:=(Below.refl _ _).drew;refine regionK (fun W=>Below wr.heap.size wr W) 99 (by kernel_rfl) ?_;refine tkS (i:=0) (v:=.slice (some ⟨gg,0,none⟩) N cp) rfl rfl HS0 ?_;refine tkS (i:=1) (v:=.int .i64 (k:Int)) rfl rfl HS0 ?_;refine tkS (i:=2) (v:=.pointer (some ⟨gg,k*2,none⟩)) rfl rfl HS0 ?_;simp only [sA,sB,sC];refine tkS (i:=3) (v:=.pointer (some ⟨gg,k*2,none⟩)) rfl rfl HS0 ?_;refine tkL (i:=4) (v:=.string (mtx Zk)) rfl rfl HS0 (fun W hW=>?_) ?_
    ·obtain ⟨x0,x1⟩:=HX.out _ (chain HB.out hW)
     clear hW;go_simp
    refine tkS (i:=5) (v:=.int .i64 (Zk:Int)) rfl rfl HS0 ?_;simp only [sA,sB,sC];refine onE (i:=6) rfl (fun K hK=>?_);go_simp;refine (c_markText Zk (by omega) (by omega) _).mono ?_;rintro e w1 ⟨rfl,hb1⟩;have HB1:Hid (Below wr.heap.size wr w1):=(HS0:Below wr.heap.size wr wr.drew).trans (hb1.mono (Nat.le_refl _));have hss:((mtx Zk).toList != (mtx Zk).toList)=false:=by simp
    clear hb1;dsimp only;refine hK.out _ _ (fun _=>HB1.out) ?_;clear hK K
    try simp only [Act.put,sA,sB,sC]
    refine tkS (i:=7) (v:=.bool false) rfl rfl HB1.out ?_;simp only [sA,sB,sC];refine doneK (by kernel_rfl) ?_ _;go_wp2;go_meet;exact ⟨rfl,chain HB.out HB1.out⟩
   case rest=>
   obtain ⟨rfl,HB2⟩:=hcut;obtain ⟨W2,hW2⟩:∃ X,wc=X:=⟨_,rfl⟩;rw [hW2] at HB2 ⊢;clear hW2;obtain ⟨x0,x1⟩:=HX.out _ HB2.out;clear x0;go_wp2_with fail;clear x1;rw [show (Zk:Int)+1=((Zk+1:Nat):Int) from rfl];refine (c_heldCellS (Zk+1) (by omega) (by omega) rfl (LL.out s HSm.out) (SM.out s HSm.out) (HOr.out.1.past HB2.out) (HOr.out.2.past HB2.out)).mono ?_;rintro e w3 ⟨rfl,hb3⟩;have HB3:=hide (chain HB2.out hb3);have hn1:¬ (((Zk+1+totC s.L:Nat):Int)<0):=by omega
   clear hb3 HB2;go_wp2;go_roundw
   case rel=>exact ⟨k+1,by omega,by go_num,by rw [← HT.out];go_num,HB3⟩
   case measure=>simp [Go.RowKit.intOf];omega
  ·obtain rfl:k=N:=by omega
   have HF:Hid (totS (M.take k)=totS M):=by show _=_;rw [List.take_of_length_le (by have:=HN.out;omega)]
   go_wp2;go_ret;exact ⟨by rw [HF.out];rfl,HB.out⟩
theorem pi_alloc (w:World) (a:Array Value) (T:TypeId):Below w.heap.size w (w.alloc (.cells a T)):=(Below.refl _ _).alloc (Nat.le_refl _) _
theorem MkP.from {w w0 W:World} {B:Nat} {v:Value} {M0 M:List Sd} (h:MkP w0 W B v M0 M) (hb:Below w.heap.size w w0):MkP w W B v M0 M:=⟨h.r,h.o,((GrownS.ofBelow hb).trans h.g).weak (fun k q=>q.elim (fun f=>f.elim) id)⟩
set_option maxHeartbeats 2000000 in
theorem c_markPipe {w:World} {B N cp:Nat} {ao:Option Addr} {M:List Sd} (p:Pi) (k0:Nat) (h0:1≤k0) (hk:k0+totS M≤50000000) (hN:M.length=N) (lN:N≤1048576) (lL:∀ s∈M,s.L.length≤1048576) (sm:∀ s∈M,∀ c∈s.L,AgSm c.g) (hR:OwnD w B (.slice ao N cp) M) (hO:LvO w B M) :
  Calls Tryz.prog 16 #[.agg (piArr (.slice ao N cp) p),.int .i64 k0] w fun e w'=>e=.returned (.int .i64 ((k0+totS M:Nat):Int))∧MkP w w' B (.slice ao N cp) M (mkSs k0 M):=by
 have HB0:=hide (pi_alloc w (piArr (.slice ao N cp) p) 29);have HC:=hide (c_markShardS (w:=w.alloc (.cells (piArr (.slice ao N cp) p) 29)) k0 h0 hk hN lN lL sm (hR.past HB0.out) (hO.past HB0.out));clear hR hO sm lL;go_enter Tryz.func16,Tryz.ntmps16;go_wp2_with fail;refine HC.out.mono ?_;rintro e w1 ⟨rfl,hM⟩;have HM:=hide (hM.from HB0.out);clear hM HC;go_wp2;go_ret;exact ⟨rfl,HM.out⟩
set_option maxHeartbeats 2000000 in
theorem c_heldPipe {w:World} {B N cp:Nat} {ao:Option Addr} {M:List Sd} (p:Pi) (k0:Nat) (h0:1≤k0) (hk:k0+totS M≤50000000) (hN:M.length=N) (lN:N≤1048576) (lL:∀ s∈M,s.L.length≤1048576) (sm:∀ s∈M,∀ c∈s.L,AgSm c.g) (hR:OwnD w B (.slice ao N cp) (mkSs k0 M)) (hO:LvO w B (mkSs k0 M)) :
  Calls Tryz.prog 17 #[.agg (piArr (.slice ao N cp) p),.int .i64 k0] w fun e w'=>e=.returned (.int .i64 ((k0+totS M:Nat):Int))∧Below w.heap.size w w':=by
 have HB0:=hide (pi_alloc w (piArr (.slice ao N cp) p) 29);have HC:=hide (c_heldShardS (w:=w.alloc (.cells (piArr (.slice ao N cp) p) 29)) k0 h0 hk hN lN lL sm (hR.past HB0.out) (hO.past HB0.out));clear hR hO sm lL;go_enter Tryz.func17,Tryz.ntmps17;go_wp2_with fail;refine HC.out.mono ?_;rintro e w1 ⟨rfl,hb1⟩;have HT1:=hide (chain HB0.out hb1);have hn:¬ (((k0+totS M:Nat):Int)<0):=by omega
 clear hb1 HC;go_wp2;go_ret;exact ⟨rfl,HT1.out⟩
structure CsB (w:World) (lo hi:Nat) (v:Value) (L:List Ce):Prop where
 r:OwnC w lo v L
 o:CesO w lo L
 hi:∀ k,CBlk v L k→lo≤k∧k<hi
theorem CsB.of {w:World} {lo:Nat} {v:Value} {L:List Ce} (r:OwnC w lo v L) (o:CesO w lo L):CsB w lo w.heap.size v L:=⟨r,o,fun k q=>by
 rcases q with q | ⟨c,hc,q⟩
 ·exact World.ownsRow.lt r k q
 ·exact (o.o c hc).lt q⟩
theorem CsB.past {w w':World} {lo hi:Nat} {v:Value} {L:List Ce} (h:CsB w lo hi v L) (hb:Below w.heap.size w w'):CsB w' lo hi v L:=⟨h.r.past hb,h.o.past hb,h.hi⟩
theorem CsB.keptS {w w':World} {lo hi:Nat} {v:Value} {L:List Ce} {S:Nat→Prop} (h:CsB w lo hi v L) (hg:GrownS w w' S) (hS:∀ k,lo≤k→k<hi→¬ S k):CsB w' lo hi v L:=
 ⟨h.r.keptS hg (fun k q=>(fun e=>hS k e.1 e.2) (h.hi k (.inl q))),h.o.keptS hg (fun c hc k q=>(fun e=>hS k e.1 e.2) (h.hi k (.inr ⟨c,hc,q⟩))),h.hi⟩
theorem CsB.at {w:World} {lo hi n cp:Nat} {ao:Option Addr} {L:List Ce} (h:CsB w lo hi (.slice ao n cp) L):CesAt w ao L:=OwnC.at h.r h.o.at
structure PpB (w:World) (lo hi:Nat) (v:Value) (M:List Sd):Prop where
 r:OwnD w lo v M
 o:LvO w lo M
 hi:∀ k,PBlk v M k→lo≤k∧k<hi
theorem PpB.of {w:World} {lo:Nat} {v:Value} {M:List Sd} (r:OwnD w lo v M) (o:LvO w lo M):PpB w lo w.heap.size v M:=⟨r,o,fun k q=>by
 rcases q with q | ⟨s,hs,q | ⟨c,hc,q⟩⟩
 ·exact World.ownsRow.lt r k q
 ·exact World.ownsRow.lt (o.r s hs) k q
 ·exact (o.o.o c (by unfold allC;exact List.mem_flatMap.2 ⟨s,hs,hc⟩)).lt q⟩
theorem PpB.past {w w':World} {lo hi:Nat} {v:Value} {M:List Sd} (h:PpB w lo hi v M) (hb:Below w.heap.size w w'):PpB w' lo hi v M:=⟨h.r.past hb,h.o.past hb,h.hi⟩
theorem PpB.keptS {w w':World} {lo hi:Nat} {v:Value} {M:List Sd} {S:Nat→Prop} (h:PpB w lo hi v M) (hg:GrownS w w' S) (hS:∀ k,lo≤k→k<hi→¬ S k):PpB w' lo hi v M:=
 ⟨h.r.keptS hg (fun k q=>(fun e=>hS k e.1 e.2) (h.hi k (.inl q))),h.o.keptS hg (fun s hs k q=>(fun e=>hS k e.1 e.2) (h.hi k (.inr ⟨s,hs,q⟩))),h.hi⟩
theorem PpB.at {w:World} {lo hi n cp:Nat} {ao:Option Addr} {M:List Sd} (h:PpB w lo hi (.slice ao n cp) M):SdsAt w ao M:=h.r.at h.o
theorem SdRowX.own {w:World} {g N:Nat} {M:List Sd} (h:SdRowX w g N M) (hN:M.length=N) (hl:N≤1048576):PpB w g w.heap.size (.slice (some ⟨g,0,none⟩) N N) M:=by
 refine PpB.of ?_ (h.o.le (Nat.le_succ _));obtain ⟨cur,h1,h2,h3⟩:=h.row;refine ⟨by rw [flS_len],.inr ⟨g,N,cur,by rw [hN],Nat.le_refl _,h1,by omega,by unfold maxLen;omega,h2,?_⟩⟩;apply List.ext_getElem?;intro j;by_cases hj:j<M.length*2
 ·rw [List.getElem?_take_of_lt hj,Array.getElem?_toList]
  have hi:j / 2<M.length:=by omega
  obtain ⟨c,hc⟩:∃ c,M[j / 2]?=some c:=⟨_,List.getElem?_eq_getElem hi⟩;have q1:=flS_at M (j / 2) c (j % 2) (by omega) hc;rw [show j / 2*2+j % 2=j by omega] at q1;obtain ⟨v,hv⟩:∃ v,(sdArr c)[j % 2]?=some v:=⟨(sdArr c)[j % 2]'(by show j % 2<2;omega),Array.getElem?_eq_getElem _⟩;have q2:=h3 (j / 2) c hc (j % 2) v hv;rw [show j / 2*2+j % 2=j by omega] at q2;rw [q2,q1]
  show _=(sdArr c).toList[j % 2]?
  rw [Array.getElem?_toList,hv]
 ·rw [List.getElem?_eq_none (by simp;omega),List.getElem?_eq_none (by rw [flS_len];omega)]
theorem totS_le:∀ {M:List Sd},M.length+sdTot M≤1048576→totS M≤M.length+11*sdTot M+2*sdTot M
 | [],_=>by simp [totS]
 | s :: M,h=>by
  unfold sdTot at h ⊢;rw [List.length_cons] at h ⊢;have h1:=totC_le (L:=s.L) (by omega);have h2:=totS_le (M:=M) (by omega);unfold totS;omega
theorem totC_keyP:∀ {L M:List Ce},M.map Ce.key=L.map Ce.key→totC M=totC L
 | [],[],_=>rfl
 | c :: L,d :: M,h=>by
  simp only [List.map_cons,List.cons.injEq] at h;obtain ⟨q,rfl⟩:=key_eq h.1;unfold totC;rw [totC_keyP h.2]
  rfl
 | [],_ :: _,h=>by simp at h
 | _ :: _,[],h=>by simp at h
theorem ceTot_key:∀ {L M:List Ce},M.map Ce.key=L.map Ce.key→ceTot M=ceTot L
 | [],[],_=>rfl
 | c :: L,d :: M,h=>by
  simp only [List.map_cons,List.cons.injEq] at h;obtain ⟨q,rfl⟩:=key_eq h.1;unfold ceTot;rw [ceTot_key h.2]
 | [],_ :: _,h=>by simp at h
 | _ :: _,[],h=>by simp at h
theorem ceTot_perm {L M:List Ce} (h:(M.map Ce.key).Perm (L.map Ce.key)):ceTot M=ceTot L:=by
 let f:Int×ByteArray×Ag→Nat:=fun x=>agTot x.2.2
 have e:∀ L:List Ce,ceTot L=((L.map Ce.key).map f).sum:=fun L=>by
  induction L with
  | nil=>rfl
  | cons c L ih=>unfold ceTot;rw [ih];rfl
 rw [e,e];exact (h.map f).sum_nat
theorem sd_cons {s t:Sd} {S M:List Sd} (h:(t :: M).map Sd.key=(s :: S).map Sd.key):t.nm=s.nm∧t.L.map Ce.key=s.L.map Ce.key∧t.L.length=s.L.length∧M.map Sd.key=S.map Sd.key:=by
 simp only [List.map_cons,List.cons.injEq] at h;have q:=key_len h.1;exact ⟨q.1,q.2.1,q.2.2,h.2⟩
theorem sdTot_key:∀ {S M:List Sd},M.map Sd.key=S.map Sd.key→sdTot M=sdTot S
 | [],[],_=>rfl
 | s :: S,t :: M,h=>by
  obtain ⟨_,h1,h2,h3⟩:=sd_cons h;unfold sdTot;rw [sdTot_key h3,ceTot_key h1,h2]
 | [],_ :: _,h=>by simp at h
 | _ :: _,[],h=>by simp at h
theorem allC_tot:∀ (S:List Sd),(allC S).length+ceTot (allC S)=sdTot S
 | []=>rfl
 | s :: S=>by
  have h:=allC_tot S;rw [show allC (s :: S)=s.L ++ allC S by simp [allC],List.length_append,ceTot_app];unfold sdTot;omega
structure CBd (R:List Ce):Prop where
 l:R.length≤1048576
 s:∀ c∈R,AgSm c.g
 t:1+totC R≤25000000
theorem CBd.of {R:List Ce} (h:R.length+ceTot R≤1048576):CBd R:=by
 have h1:=totC_le h;exact ⟨by omega,fun c hc=>agTot_smP (by have:=ceTot_memP hc;omega),by omega⟩
structure SBd (M:List Sd):Prop where
 n:M.length≤1048576
 l:∀ s∈M,s.L.length≤1048576
 s:∀ s∈M,∀ c∈s.L,AgSm c.g
 t:1+totS M≤25000000
theorem SBd.of {M:List Sd} (h:M.length+sdTot M≤1048576):SBd M:=by
 have h1:=totS_le h;exact ⟨by omega,fun s hs=>by have:=sdTot_mem hs;omega,fun s hs c hc=>agTot_smP (by have:=sdTot_mem hs;have:=ceTot_memP hc;omega),by omega⟩
theorem SBd.key {S M:List Sd} (h:M.map Sd.key=S.map Sd.key) (ht:S.length+sdTot S≤1048576):SBd M:=by
 have hl:=congrArg List.length h;rw [List.length_map,List.length_map] at hl;exact SBd.of (by rw [sdTot_key h];omega)
theorem cellP {w:World} {r:Nat} {cs:Array Value} {T:TypeId} (h:w.heap[r]?=some (.cells cs T (0,0))) (j:Nat) {v:Value} (e:cs[j]?=some v):w.cell? ⟨r,j,none⟩=some v:=by rw [cell_of_row _ _ j _ _ (0,0) h];exact e
theorem box5 {w:World} {r:Nat} {a b c d e:Value} {T:TypeId} (h:w.heap[r]?=some (.cells #[a,b,c,d,e] T (0,0))):w.cell? ⟨r,0,none⟩=some a∧w.cell? ⟨r,1,none⟩=some b∧w.cell? ⟨r,2,none⟩=some c∧w.cell? ⟨r,3,none⟩=some d∧w.cell? ⟨r,4,none⟩=some e:=⟨cellP h 0 rfl,cellP h 1 rfl,cellP h 2 rfl,cellP h 3 rfl,cellP h 4 rfl⟩
theorem row_pastS {w w':World} {r:Nat} {b:Obj} (h:w.heap[r]?=some b) (hb:Below w.heap.size w w'):w'.heap[r]?=some b:=(hb.block _ (Array.getElem?_eq_some_iff.1 h).1).trans h
def OkQ (S:List Sd):Prop:=∀ s∈S,∀ c∈s.L,AgOk c.g∧c.s.size≤maxLen
theorem OkQ.key {S M:List Sd} (h:OkQ S) (k:M.map Sd.key=S.map Sd.key):OkQ M:=sds_all k (fun _ s g=>AgOk g∧s.size≤maxLen) h
theorem PpI.of {w:World} {g N:Nat} {S M:List Sd} (q:OkQ S) (sm:SdsSm S) (k:M.map Sd.key=S.map Sd.key) (hN:M.length=N) (h:SdRowX w g N M):PpI w (some ⟨g,0,none⟩) N M:=
 ⟨hN,sm.key k,fun s hs c hc=>⟨(q.key k s hs c hc).1,(q.key k s hs c hc).2,h.o.plg s hs c hc⟩,h.at⟩
theorem SdRowX.boxed {w:World} {g N:Nat} {M:List Sd} (h:SdRowX w g N M) (hN:M.length=N) (hl:N≤1048576) {o:Obj}:PpB (w.alloc o) g w.heap.size (.slice (some ⟨g,0,none⟩) N N) M:=(h.own hN hl).past ((Below.refl _ _).alloc (Nat.le_refl _) _)
theorem c_eqC {w:World} {lo hi lo' hi' n c n' c':Nat} {ao bo:Option Addr} {R R':List Ce} (h:CsB w lo hi (.slice ao n c) R) (k:CsB w lo' hi' (.slice bo n' c') R') (b:CBd R) (e:R.map Ce.key=R'.map Ce.key) :
  Calls Tryz.prog 20 #[.slice ao n c,.slice bo n' c'] w fun e w'=>e=.returned (.bool true)∧Below w.heap.size w w':=by
 obtain ⟨_,_,e1,_⟩:=h.r.form;obtain ⟨_,_,e2,_⟩:=k.r.form;injection e1 with _ e1 _;injection e2 with _ e2 _;subst e1;have hl:=map_len e;rw [e2,← hl];exact c_eqCellS rfl hl.symm e b.l b.s h.at k.at
end Go.Proofs.YtmjogablacnlgaaGreatDoor
