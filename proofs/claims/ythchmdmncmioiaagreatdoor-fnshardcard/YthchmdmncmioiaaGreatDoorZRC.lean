/-
 A new Agg brings nothing to another one.
-/
import Derived.Test.YthchmdmncmioiaaGreatDoorZMA
namespace Go.Proofs.YthchmdmncmioiaaGreatDoor
set_option linter.unusedVariables false
set_option linter.unusedSimpArgs false
open Go.ChangeShapes Go.WideShapes Go.ChangeAt Go.RowKit Go.PlainAid Go.Lib
set_option maxRecDepth 10000
theorem Qnm {E R E' R':List Int} (h:hlB E R=true) (m:Mg E R [] [] E' R'):E'=E/\R'=R:=by
 have c1:=Can.self h;have c2:=Can.self (E:=[]) (R:=[]) (by decide);have a:=Ql3 c1 c2 m;refine a.one c1 ?_ (fun x=>?_) ?_
 ·simp
 ·simp [Qcm]
 ·have:Qcq []=zer:=rfl
  rw [this];exact Qkc c1.okB
theorem QmM {h l:Int} (hh:I64 h) (hl:U64 l):Qbp h l 0 0=h:=by
 unfold Qbp Qhi;unfold U64 at hl;unfold I64 at hh;unfold wrap64;omega
theorem Qmc {l:Int} (hl:U64 l):Qbu l 0=l:=by
 unfold Qbu uw;unfold U64 at hl;omega
theorem mrg_newN {b o:Ag} (ok:AgOk b) (r:agB b=true) (h:AgMrg b (QaR b.k) o):o=b:=by
 have n:=Qa9 r;have e:QaR b.k=⟨b.k,0,0,0,0,if b.k=2 then -1 else 0,0,[],[],0,0,[],[]⟩:=by unfold QaR;rw [if_pos ⟨n.k1,n.k4⟩]
 have rn:=(QeL n.k1 n.k4).1;have ek:(QaR b.k).k=b.k:=by rw [e]
 unfold AgMrg at h;rw [if_pos ⟨r,rn,ek.symm⟩] at h;obtain ⟨E,R,m,rfl⟩:=h;rw [e] at m ⊢;obtain ⟨rfl,rfl⟩:=Qnm n.hl m;have sP:=(binsB_iff.1 (skB_and.1 n.sk).1).1;have sN:=(binsB_iff.1 (skB_and.1 n.sk).2).1;unfold QoD;dsimp only;rw [QnH ok.s,QnH ok.z,Qbf,Qbf,QcM sP,QcM sN,QmM ok.h ok.l,QmM ok.x ok.y,Qmc ok.l,Qmc ok.y];by_cases e2:b.k=2
 ·rw [if_pos e2,if_pos e2,if_pos e2]
  have t:=QfE r e2
  have hL:¬ QdL b.a b.t 0 (-1)=true:=by
   unfold QcB at t;unfold QdL;simp only [Bool.and_eq_true,Bool.or_eq_true,decide_eq_true_eq,beq_iff_eq] at t ⊢;omega
  rw [(Qfi hL).1,(Qfi hL).2]
 ·rw [if_neg e2,if_neg e2]
  obtain ⟨q1,q2⟩:=n.ng e2;obtain ⟨k,s,h,l,a,t,z,P,N,x,y,E,R⟩:=b;simp only at q1 q2;subst q1;subst q2
  rfl
theorem QmK {E R E' R':List Int} (h:hlB E R=true) (m:Mg [] [] E R E' R'):E'=E/\R'=R:=by
 have c1:=Can.self h;have c2:=Can.self (E:=[]) (R:=[]) (by decide);have a:=Ql3 c2 c1 m;refine a.one c1 ?_ (fun x=>?_) ?_
 ·simp
 ·simp [Qcm]
 ·rw [QpN c2.okB c1.okB]
  have:Qcq []=zer:=rfl;rw [this];exact Qkc c1.okB
theorem QpX {b o:Ag} (ok:AgOk b) (r:agB b=true) (h:AgMrg (QaR b.k) b o):o=b:=by
 have n:=Qa9 r;have e:QaR b.k=⟨b.k,0,0,0,0,if b.k=2 then -1 else 0,0,[],[],0,0,[],[]⟩:=by unfold QaR;rw [if_pos ⟨n.k1,n.k4⟩]
 have rn:=(QeL n.k1 n.k4).1;have ek:(QaR b.k).k=b.k:=by rw [e]
 unfold AgMrg at h;rw [if_pos ⟨rn,r,ek⟩] at h;obtain ⟨E,R,m,rfl⟩:=h;rw [e] at m ⊢;obtain ⟨rfl,rfl⟩:=QmK n.hl m;have sP:=(binsB_iff.1 (skB_and.1 n.sk).1).1;have sN:=(binsB_iff.1 (skB_and.1 n.sk).2).1;have w0:∀ {z:Int},U64 z->QaA 0 z=z:=fun {z} hz=>by unfold QaA;unfold U64 at hz;rw [if_neg (by omega),Int.zero_add]
 have h0:∀ {h l:Int},I64 h->U64 l->Qbp 0 0 h l=h:=fun {h l} hh hl=>by
  unfold Qbp Qhi;unfold U64 at hl;unfold I64 at hh;unfold wrap64;omega
 have l0:∀ {l:Int},U64 l->Qbu 0 l=l:=fun {l} hl=>by unfold Qbu uw;unfold U64 at hl;omega
 unfold QoD;dsimp only;rw [w0 ok.s,w0 ok.z,QbN,QbN,QcM sP,QcM sN,h0 ok.h ok.l,h0 ok.x ok.y,l0 ok.l,l0 ok.y];by_cases e2:b.k=2
 ·rw [if_pos e2,if_pos e2,if_pos e2]
  have t:=QfE r e2
  have hg:gA 0 (-1) b.a b.t=b.a/\gT 0 (-1) b.a b.t=b.t:=by
   unfold QcB at t;unfold gA gT QdL;simp only [Bool.and_eq_true,Bool.or_eq_true,decide_eq_true_eq,beq_iff_eq] at t ⊢;constructor <;> split <;> omega
  rw [hg.1,hg.2]
 ·rw [if_neg e2,if_neg e2]
  obtain ⟨q1,q2⟩:=n.ng e2;obtain ⟨k,s,h,l,a,t,z,P,N,x,y,E,R⟩:=b;simp only at q1 q2;subst q1;subst q2
  first | rfl | simp
theorem QkY {R:List Int}:∀ (L:List Int) (S:Int->Prop) (R':List Int),Laid R S R'->∃ R'',Laid R (fun x=>S x∨x∈L) R''
 | [],S,R',h=>⟨R',h.iff fun x=>by simp⟩
 | y :: L,S,R',h=>by
  obtain ⟨R'',k⟩:=QkY L (fun x=>S x∨x=y) _ (h.step (fun x=>Iff.rfl));exact ⟨R'',k.iff fun x=>by simp [or_assoc]⟩
theorem mg_tot (E1 R1 E2 R2:List Int):∃ E R,Mg E1 R1 E2 R2 E R:=by
 by_cases q:R1.length=0/\R2.length=0/\(Qif E1 E2).length<=40
 ·exact ⟨_,_,.inl ⟨q.1,q.2.1,q.2.2,rfl,rfl⟩⟩
 ·obtain ⟨R,k⟩:=QkY (R:=mxL (Qcq R1) R2 R2.length) (Qif E1 E2) (fun _=>False) _ (Laid.start _ fun _ x=>x)
  exact ⟨[],R,.inr ⟨q,rfl,k.iff fun x=>by simp⟩⟩
theorem Qnk (g g':Ag):∃ o,AgMrg g g' o:=by
 unfold AgMrg
 split
 ·obtain ⟨E,R,h⟩:=mg_tot g.E g.R g'.E g'.R
  exact ⟨_,E,R,h,rfl⟩
 ·exact ⟨_,rfl⟩
noncomputable def mrgF (g g':Ag):Ag:=Classical.choose (Qnk g g')
theorem mrgF_h (g g':Ag):AgMrg g g' (mrgF g g'):=Classical.choose_spec (Qnk g g')
theorem QnB {g g' o:Ag} (h:AgMrg g g' o):o=mrgF g g':=h.one (mrgF_h g g')
structure AgG (k:Int) (g:Ag):Prop where
 r:agB g=true
 o:AgOk g
 k:g.k=k
structure SxG (k:Int) (x:Sx):Prop where
 o:x.Ok
 b:x.B=true
 k:x.k=k
theorem Qnq:∀ {L M:List Ce},AscC L->AscC M->(∀ k,k∈L.map Ce.key↔k∈M.map Ce.key)->L.map Ce.key=M.map Ce.key
 | [],[],_,_,_=>rfl
 | [],d :: M,_,_,h=>absurd ((h d.key).2 (by simp)) (by simp)
 | c :: L,[],_,_,h=>absurd ((h c.key).1 (by simp)) (by simp)
 | c :: L,d :: M,a,b,h=>by
  obtain ⟨a1,a2⟩:=List.pairwise_cons.1 a;obtain ⟨b1,b2⟩:=List.pairwise_cons.1 b
  have nc:c.key ∉ L.map Ce.key:=fun q=>by
   obtain ⟨l,hl,e⟩:=List.mem_map.1 q;have:=a1 l hl;rw [Qdc rfl e,Qd1] at this
   cases this
  have nd:d.key ∉ M.map Ce.key:=fun q=>by
   obtain ⟨l,hl,e⟩:=List.mem_map.1 q;have:=b1 l hl;rw [Qdc rfl e,Qd1] at this
   cases this
  have e:c.key=d.key:=by
   have h1:=(h c.key).1 (by simp);have h2:=(h d.key).2 (by simp);rw [List.map_cons,List.mem_cons] at h1 h2;rcases h1 with h1 | h1
   ·exact h1
   ·rcases h2 with h2 | h2
    ·exact h2.symm
    ·obtain ⟨m,hm,e1⟩:=List.mem_map.1 h1
     obtain ⟨l,hl,e2⟩:=List.mem_map.1 h2;have q1:=b1 m hm;rw [Qdc rfl e1] at q1;have q2:=a1 l hl;rw [Qdc rfl e2] at q2;rw [Qd8 q1] at q2
     cases q2
  rw [List.map_cons,List.map_cons,e]
  congr 1
  refine Qnq a2 b2 (fun k=>⟨fun q=>?_,fun q=>?_⟩)
  ·have:=(h k).1 (by rw [List.map_cons];exact List.mem_cons_of_mem _ q)
   rw [List.map_cons,List.mem_cons] at this;rcases this with r | r
   ·exact absurd (by rw [e,<- r];exact q) nc
   ·exact r
  ·have:=(h k).2 (by rw [List.map_cons];exact List.mem_cons_of_mem _ q)
   rw [List.map_cons,List.mem_cons] at this;rcases this with r | r
   ·exact absurd (by rw [<- e,<- r];exact q) nd
   ·exact r
theorem QjH {L R:List Ce} {n:Int} {s:ByteArray} {o:Ag} (h:PtL L n s o R) (k:Int×ByteArray×Ag):k∈R.map Ce.key↔k=(n,s,o)∨(k∈L.map Ce.key/\¬ (k.1=n/\k.2.1=s)):=by
 unfold PtL at h;rw [h,List.mem_append,List.mem_cons];constructor
 ·rintro (q | q | q)
  ·obtain ⟨c,hc,rfl⟩:=List.mem_map.1 q
   obtain ⟨h1,h2⟩:=List.mem_filter.1 hc;exact .inr ⟨List.mem_map.2 ⟨c,h1,rfl⟩,fun e=>Qft h2 ⟨e.1,e.2⟩⟩
  ·exact .inl q
  ·obtain ⟨c,hc,rfl⟩:=List.mem_map.1 q
   obtain ⟨h1,h2⟩:=List.mem_filter.1 hc;exact .inr ⟨List.mem_map.2 ⟨c,h1,rfl⟩,fun e=>Qft h2 ⟨e.1.symm,e.2.symm⟩⟩
 ·rintro (q | ⟨q,ne⟩)
  ·exact .inr (.inl q)
  ·obtain ⟨c,hc,rfl⟩:=List.mem_map.1 q
   cases h1:loF n s c with
   | true=>exact .inl (List.mem_map.2 ⟨c,List.mem_filter.2 ⟨hc,h1⟩,rfl⟩)
   | false=>
    cases h2:hiF n s c with
    | true=>exact .inr (.inr (List.mem_map.2 ⟨c,List.mem_filter.2 ⟨hc,h2⟩,rfl⟩))
    | false=>
     have:=QhZ h1 h2;exact absurd ⟨this.1,this.2⟩ ne
open Classical in
noncomputable def sel (L:List St) (n:Int) (s:ByteArray):List Sx:=(L.filter (fun t=>decide (t.n=n/\t.x.se=s))).map St.x
theorem sel_mem {L:List St} {n:Int} {s:ByteArray} {x:Sx}:x∈sel L n s↔∃ t∈L,t.n=n/\t.x.se=s/\t.x=x:=by
 unfold sel;simp only [List.mem_map,List.mem_filter,decide_eq_true_eq];exact ⟨fun ⟨t,⟨h1,h2,h3⟩,h4⟩=>⟨t,h1,h2,h3,h4⟩,fun ⟨t,h1,h2,h3,h4⟩=>⟨t,⟨h1,h2,h3⟩,h4⟩⟩
structure StA (L:List St):Prop where
 ok:∀ t∈L,t.x.Ok
 r:∀ t∈L,StR t
 k:∀ t∈L,∀ u∈L,t.n=u.n->t.x.se=u.x.se->t.x.k=u.x.k
theorem mem_key {R:List Ce} {n:Int} {s:ByteArray} {g:Ag}:(n,s,g)∈R.map Ce.key↔∃ c∈R,c.n=n/\c.s=s/\c.g=g:=by
 simp only [List.mem_map,Ce.key,Prod.mk.injEq]
end Go.Proofs.YthchmdmncmioiaaGreatDoor
namespace Go.Proofs.YthchmdmncmioiaaGreatDoor
set_option linter.unusedVariables false
set_option linter.unusedSimpArgs false
open Go.ChangeShapes Go.WideShapes Go.ChangeAt Go.RowKit Go.PlainAid Go.Lib
set_option maxRecDepth 10000
theorem Qle {L:List Ce} (h:AscC L) {n:Int} {s:ByteArray} {a b:Ag} (ha:(n,s,a)∈L.map Ce.key) (hb:(n,s,b)∈L.map Ce.key):a=b:=by
 obtain ⟨c,hc,c1,c2,c3⟩:=mem_key.1 ha;obtain ⟨d,hd,d1,d2,d3⟩:=mem_key.1 hb;have:=Qca h hc hd (c1.trans d1.symm) (c2.trans d2.symm);rw [<- c3,<- d3,this]
theorem hasK_mem {L:List Ce} {n:Int} {s:ByteArray}:Qfc L n s↔∃ g,(n,s,g)∈L.map Ce.key:=by
 constructor
 ·rintro ⟨c,hc,rfl,rfl⟩;exact ⟨c.g,mem_key.2 ⟨c,hc,rfl,rfl,rfl⟩⟩
 ·rintro ⟨g,h⟩;obtain ⟨c,hc,c1,c2,_⟩:=mem_key.1 h;exact ⟨c,hc,c1,c2⟩
theorem QjC {A B M:List Ce} (h:Mgs A B M) (ha:AscC A):AscC B->∀ n s g,(n,s,g)∈M.map Ce.key↔((n,s,g)∈A.map Ce.key/\¬ Qfc B n s)∨((n,s,g)∈B.map Ce.key/\¬ Qfc A n s)∨∃ a b,(n,s,a)∈A.map Ce.key/\(n,s,b)∈B.map Ce.key/\g=mrgF a b:=by
 induction h with
 | nil R h=>
  intro _ n s g;rw [h];constructor
  ·exact fun q=>.inl ⟨q,fun ⟨c,hc,_⟩=>by cases hc⟩
  ·rintro (q | q | ⟨a,b,_,q,_⟩)
   ·exact q.1
   ·simp at q
   ·simp at q
 | snoc B R R' c h m ih=>
  intro hb n s g;obtain ⟨hB,_,hx⟩:=List.pairwise_append.1 hb;have hno:¬ Qfc B c.n c.s:=fun ⟨b,hb,e1,e2⟩=>Qft (hx b hb c (by simp)) ⟨e1,e2⟩;have ih:=ih hB;have hR:=h.asc ha
  have hmB:∀ g',(n,s,g')∈(B ++ [c]).map Ce.key↔(n,s,g')∈B.map Ce.key∨(c.n=n/\c.s=s/\c.g=g'):=fun g'=>by
   rw [mem_key,mem_key];constructor
   ·rintro ⟨d,hd,q⟩
    rcases List.mem_append.1 hd with r | r
    ·exact .inl ⟨d,r,q⟩
    ·obtain rfl:d=c:=by simpa using r
     exact .inr q
   ·rintro (⟨d,hd,q⟩ | q)
    ·exact ⟨d,by simp [hd],q⟩
    ·exact ⟨c,by simp,q⟩
  have hhB:Qfc (B ++ [c]) n s↔Qfc B n s∨(c.n=n/\c.s=s):=by
   rw [hasK_mem,hasK_mem];constructor
   ·rintro ⟨g',q⟩
    rcases (hmB g').1 q with q | q
    ·exact .inl ⟨g',q⟩
    ·exact .inr ⟨q.1,q.2.1⟩
   ·rintro (⟨g',q⟩ | q)
    ·exact ⟨g',(hmB g').2 (.inl q)⟩
    ·exact ⟨c.g,(hmB c.g).2 (.inr ⟨q.1,q.2,rfl⟩)⟩
  by_cases hk:c.n=n/\c.s=s
  ·obtain ⟨rfl,rfl⟩:=hk
   have hnB:∀ g',¬ (c.n,c.s,g')∈B.map Ce.key:=fun g' q=>hno (hasK_mem.2 ⟨g',q⟩)
   have inA:∀ g',(c.n,c.s,g')∈R.map Ce.key↔(c.n,c.s,g')∈A.map Ce.key:=fun g'=>by
    rw [ih];constructor
    ·rintro (q | q | ⟨a,b,_,q,_⟩)
     ·exact q.1
     ·exact absurd q.1 (hnB _)
     ·exact absurd q (hnB _)
    ·exact fun q=>.inl ⟨q,hno⟩
   have inB:∀ g',(c.n,c.s,g')∈(B ++ [c]).map Ce.key↔c.g=g':=fun g'=>by
    rw [hmB];exact ⟨fun q=>q.elim (fun q=>absurd q (hnB _)) (fun q=>q.2.2),fun q=>.inr ⟨rfl,rfl,q⟩⟩
   have hyes:Qfc (B ++ [c]) c.n c.s:=hhB.2 (.inr ⟨rfl,rfl⟩);rcases m with ⟨d,o,hd,d1,d2,d3,d4,hP⟩ | ⟨hn,hP⟩
   ·have dA:(c.n,c.s,d.g)∈A.map Ce.key:=(inA _).1 (mem_key.2 ⟨d,hd,d1,d2,rfl⟩)
    rw [QjH hP];constructor
    ·rintro (q | ⟨_,q⟩)
     ·simp only [Prod.mk.injEq,true_and] at q
      exact .inr (.inr ⟨d.g,c.g,dA,(inB _).2 rfl,by rw [q];exact QnB d4⟩)
     ·exact absurd ⟨rfl,rfl⟩ q
    ·rintro (q | q | ⟨a,b,q1,q2,q3⟩)
     ·exact absurd hyes q.2
     ·exact absurd (hasK_mem.2 ⟨_,dA⟩) q.2
     ·left
      rw [q3,Qle ha q1 dA,<- (inB b).1 q2,<- QnB d4]
   ·have hnA:¬ Qfc A c.n c.s:=fun q=>by
     obtain ⟨g',q⟩:=hasK_mem.1 q;exact hn (hasK_mem.2 ⟨g',(inA g').2 q⟩)
    rw [QjH hP];constructor
    ·rintro (q | ⟨_,q⟩)
     ·simp only [Prod.mk.injEq,true_and] at q
      exact .inr (.inl ⟨(inB g).2 q.symm,hnA⟩)
     ·exact absurd ⟨rfl,rfl⟩ q
    ·rintro (q | q | ⟨a,b,q1,q2,q3⟩)
     ·exact absurd hyes q.2
     ·left
      rw [(inB g).1 q.1]
     ·exact absurd (hasK_mem.2 ⟨_,q1⟩) hnA
  ·have e1:∀ g',(n,s,g')∈(B ++ [c]).map Ce.key↔(n,s,g')∈B.map Ce.key:=fun g'=>by
    rw [hmB];exact ⟨fun q=>q.elim id (fun q=>absurd ⟨q.1,q.2.1⟩ hk),.inl⟩
   have e2:Qfc (B ++ [c]) n s↔Qfc B n s:=by
    rw [hhB];exact ⟨fun q=>q.elim id (fun q=>absurd q hk),.inl⟩
   have e3:(n,s,g)∈R'.map Ce.key↔(n,s,g)∈R.map Ce.key:=by
    have:∀ o,PtL R c.n c.s o R'->((n,s,g)∈R'.map Ce.key↔(n,s,g)∈R.map Ce.key):=fun o hP=>by
     rw [QjH hP];constructor
     ·rintro (q | ⟨q,_⟩)
      ·simp only [Prod.mk.injEq] at q
       exact absurd ⟨q.1.symm,q.2.1.symm⟩ hk
      ·exact q
     ·exact fun q=>.inr ⟨q,fun r=>hk ⟨r.1.symm,r.2.symm⟩⟩
    rcases m with ⟨d,o,_,_,_,_,_,hP⟩ | ⟨_,hP⟩
    ·exact this o hP
    ·exact this _ hP
   rw [e3,ih,e1,e2];simp only [e1]
theorem QjR {L:List Ce} (h:AscC L) {k:Nat} {c:Ce} (e:L[k]?=some c):¬ Qfc (L.take k) c.n c.s:=by
 rintro ⟨d,hd,e1,e2⟩;obtain ⟨i,hi,rfl⟩:=List.getElem_of_mem hd;obtain ⟨hk,rfl⟩:=ZZd.1 e;rw [List.length_take] at hi;have:=(List.pairwise_iff_getElem.1 h) i k (by omega) hk (by omega);rw [List.getElem_take] at e1 e2;exact Qft this ⟨e1,e2⟩
open Go.Maps
def MgP (w:World) (a b:List Ce) (e:Ending) (w':World):Prop:=∃ v R,e=.returned v/\MgA a b R/\OwnC w' w.heap.size v R/\CesO w' w.heap.size R/\Below w.heap.size w w'
theorem MgP.none {w w':World} {a b:List Ce} (h:MgA a b []) (hb:Below w.heap.size w w'):MgP w a b (.returned (.slice none 0 0)) w':=⟨_,[],rfl,h,OwnC.nil _ _,CesO.nil _ _,hb⟩
structure CnL (w wr:World) (bm N:Nat) (a b:List Ce) (k:Nat) (M:List Ce):Prop where
 mp:MpC wr bm (N+k) M
 o:CesO wr (bm+1) M
 asc:AscC M
 mg:Mgs a (b.take k) M
 q:CnQ M
 b:Below w.heap.size w wr
 lo:w.heap.size<=bm
theorem Ql1 {w:World} {ao:Option Addr} {N:Nat} {L:List Ce} (h:ShI w ao N L) (r:csR L=true):CnQ L:=⟨h.ok,h.sm,fun c hc=>Qpo ((csR_iff.1 r).2.1 c hc),Qe2 h r⟩
theorem CnL.step {w wr w6 W7:World} {bm N:Nat} {a b:List Ce} {k:Nat} {M:List Ce} {c:Ce} {g og:Ag} {p q:Pl} (h:CnL w wr bm N a b k M) (hc:b[k]?=some c) (qc:AgOk c.g/\AgSm c.g/\agB c.g=true/\QbI c.n c.s) (af:AfA M c.n c.s c.g.k g p 0) (hp:AgMrg g c.g og) (hb6:Below wr.heap.size wr w6) (ho:AgO w6 wr.heap.size og q) {D:DataW Value} (hD:w6.ownsMap Tryz.prog 85 rA bm (N+k) D) (hH:HoldsC D M)
  (hD7:W7.ownsMap Tryz.prog 85 rA bm (N+k+1) (D.put (kL c.n c.s) (QeG ⟨c.n,c.s,og,q⟩))) (hg7:w6.grownBy W7 (some bm)):CnL w W7 bm N a b (k+1) (M.filter (loF c.n c.s) ++ ⟨c.n,c.s,og,q⟩ :: M.filter (hiF c.n c.s)):=by
 have pt:PtL M c.n c.s og (M.filter (loF c.n c.s) ++ ⟨c.n,c.s,og,q⟩ :: M.filter (hiF c.n c.s)):=by unfold PtL;rw [List.map_append,List.map_cons];rfl
 have ms:MsA M c (M.filter (loF c.n c.s) ++ ⟨c.n,c.s,og,q⟩ :: M.filter (hiF c.n c.s)):=by
  rcases af.a with ⟨d,hd,e1,e2,e3,rfl,rfl,_⟩ | ⟨d,hd,_,_,_,_,_,e⟩ | ⟨hn,rfl,rfl,_⟩
  ·exact .inl ⟨d,og,hd,e1,e2,e3,hp,pt⟩
  ·cases e
  ·obtain rfl:=QpX qc.1 qc.2.2.1 hp
   exact .inr ⟨hn,pt⟩
 refine ⟨⟨_,hD7,Qpi (c':=⟨c.n,c.s,og,q⟩) hH (hD.tidy keyC) h.asc qc.2.2.2 af⟩,(Qpt (c':=⟨c.n,c.s,og,q⟩) h.o hb6 (Nat.succ_le_of_lt h.mp.lt) ho).grown hg7 (Nat.lt_succ_self _),Qjr (c:=⟨c.n,c.s,og,q⟩) h.asc,?_,h.q.step ms qc.1 qc.2.1 qc.2.2.1 qc.2.2.2,?_,h.lo⟩
 ·rw [List.take_add_one,hc];exact .snoc _ _ _ _ h.mg ms
 ·exact (h.b.trans (hb6.mono h.b.size)).grown hg7 (Nat.le_trans h.b.size hb6.size) (fun j hj=>by cases hj;exact h.lo)
theorem CnL.past {w wr w':World} {bm N:Nat} {a b:List Ce} {k:Nat} {M:List Ce} (h:CnL w wr bm N a b k M) (hb:Below wr.heap.size wr w'):CnL w w' bm N a b k M:=⟨h.mp.past hb,h.o.past hb,h.asc,h.mg,h.q,Qad h.b hb,h.lo⟩
set_option maxHeartbeats 8000000 in
theorem QgF {w:World} {ao bo:Option Addr} {N K ca cb:Nat} {a b:List Ce} (hm:MX w) (hI:ShI w ao N a) (hJ:ShI w bo K b) :
  Calls Tryz.prog 15 #[.slice ao N ca,.slice bo K cb] w (MgP w a b):=by
 have II:=Qaa hI;have JJ:=Qaa hJ;have HM:=Qaa hm;have HAl:Hid (∀ (X:World) o,Below X.heap.size X (X.alloc o)):=fun X o=>(ZZb _ _).alloc (ZZa _) _;clear hI hJ hm;go_enter Tryz.func15,Tryz.ntmps15;go_wp2_with fail;refine (QcE II.out.hN II.out.lN II.out.ok II.out.sm II.out.ss HM.out II.out.mem).mono ?_;rintro e w1 ⟨rfl,hb1⟩;have HT1:=Qaa hb1;clear hb1
 cases h1:csR a with
 | false=>
  have HA:Hid (MgA a b []):=MgA.no (fun q=>by rw [h1] at q;cases q.1);clear h1;go_wp2;go_ret;exact MgP.none HA.out HT1.out
 | true=>
  have H1:=Qaa h1;clear h1;go_wp2_with fail;refine (QcE JJ.out.hN JJ.out.lN JJ.out.ok JJ.out.sm JJ.out.ss (HM.out.past HT1.out) (QaQ JJ.out.mem HT1.out)).mono ?_;rintro e w2 ⟨rfl,hb2⟩;have HT2:=Qaa (Qad HT1.out hb2);clear hb2 HT1
  cases h2:csR b with
  | false=>
   have HA:Hid (MgA a b []):=MgA.no (fun q=>by rw [h2] at q;cases q.2);clear h2;go_wp2;go_ret;exact MgP.none HA.out HT2.out
  | true=>
   have HH:Hid (csR a=true/\csR b=true):=⟨H1.out,h2⟩;have QA:=Qaa (Ql1 II.out H1.out);have QB:=Qaa (Ql1 JJ.out h2);have RA:=Qaa (csR_iff.1 H1.out).2.2;clear h2;go_wp2_with fail;refine (Qdj II.out.hN II.out.lN RA.out.ap QA.out.ky II.out.sm II.out.pl (QaQ II.out.mem HT2.out)).mono ?_;rintro e w3 ⟨M0,rfl,hMp,hky,hO,hb3⟩;have I0:Hid (CnL w w3 w2.heap.size N a b 0 M0):=⟨hMp,hO,QeT hky RA.out,.nil _ hky,QA.out.keys hky,Qad HT2.out hb3,HT2.out.size⟩;have lNK:N<=60/\K<=60:=by have:=(csR_iff.1 HH.out.1).1;have:=(csR_iff.1 HH.out.2).1;have:=II.out.hN;have:=JJ.out.hN;omega
   obtain ⟨lN60,lK60⟩:=lNK;clear hMp hky hO hb3;generalize w2.heap.size=bm at I0 ⊢;clear HT2;go_wp2
   go_loopw [23] (fun i wr=>∃ (k:Nat) (M:List Ce),k<=K/\i=.int .i64 k/\Hid (CnL w wr bm N a b k M)) (fun i wr=>K - (Go.RowKit.intOf i).toNat)
   case atStart=>exact ⟨0,M0,ZZj _,rfl,I0⟩
   case round=>
    clear I0;obtain ⟨k,M,hk,rfl,HI⟩:=hrel;by_cases hkn:k<K
    ·have hkni:(k:Int)<(K:Int):=by omega
     obtain ⟨bb,off,e,hcell⟩:=JJ.out.mem.1 (by have:=JJ.out.hN;omega);obtain ⟨c,hc⟩:∃ c,b[k]?=some c:=⟨b[k]'(by have:=JJ.out.hN;omega),ZZe _⟩;subst e;obtain ⟨x0,x1,x2,x3,x4,x5,x6,x7,x8,x9,x10,x11,x12,x13,x14⟩:=Qai (hcell k c hc) HI.out.b;have hm:=ZZn hc;have HC:=Qaa hc;have QC:Hid (AgOk c.g/\AgSm c.g/\agB c.g=true/\QbI c.n c.s):=⟨QB.out.ok c hm,QB.out.sm c hm,QB.out.rt c hm,QB.out.ky c hm⟩;have AC:=Qaa (Qan (JJ.out.mem.2 c hm) HI.out.b);have hn:=Qa9 QC.out.2.2.1;have hk1:=hn.k1;have hk4:=hn.k4;have X1:=Qaa (ZZk wr (.cells (Qao c) 51));have HI1:=Qaa (HI.out.past (HAl.out wr (.cells (Qao c) 51)));have A1:=Qaa (Qan AC.out (HAl.out wr (.cells (Qao c) 51)));clear hcell hc hm hn;go_upto_region 7 with fail;clear x0 x1 x2 x3 x4 x5 x6 x7 x8 x9 x10 x11 x12 x13 x14;generalize wr.alloc (.cells (Qao c) 51)=W1 at X1 HI1 A1 ⊢;generalize wr.heap.size=rc at X1 ⊢;clear HI AC;obtain ⟨x0,x1,x2,x3,x4,x5,x6,x7,x8,x9,x10,x11,x12,x13,x14⟩:=Qou X1.out;go_wp2_with fail;clear x0 x1 x2 x3 x4 x5 x6 x7 x8 x9 x10 x11 x12 x13 x14;refine (QhJ c _).mono ?_;rintro e w2 ⟨rfl,hb2⟩;have hb2':=Qad hb2 (HAl.out w2 (.cells #[.int .i64 c.n,.string c.s] 85));have HI2:=Qaa (HI1.out.past hb2');have A2:=Qaa (Qan A1.out hb2');have X2:=Qaa (Qak X1.out hb2');have K2:=Qaa (ZZk w2 (.cells #[.int .i64 c.n,.string c.s] 85));clear hb2 hb2' HI1 A1 X1;go_upto_region 8 with fail;generalize w2.alloc (.cells #[.int .i64 c.n,.string c.s] 85)=W2 at HI2 A2 X2 K2 ⊢;generalize w2.heap.size=rk at K2 ⊢;have x2:=Qac X2.out 2 rfl;have q0:=Qac K2.out 0 rfl;have q1:=Qac K2.out 1 rfl;go_wp2_with fail;clear x2 q0 q1;refine (Qk5 c.n c.s c.g.k HI2.out.mp QC.out.2.2.2 hk1 hk4).mono ?_;rintro e w4 ⟨g,p,code,rfl,haf,hb4⟩;have AF:=Qaa haf;by_cases hcode:code=0
     ·have bc:(code != 0)=false:=by simp [hcode]
      have HC0:=Qaa hcode;have hb5:=Qad hb4 (HAl.out w4 (.cells (Qal g p) 49));have HI5:=Qaa (HI2.out.past hb5);have A5:=Qaa (Qan A2.out hb5);have X5:=Qaa (Qak X2.out hb5);have K5:=Qaa (Qak K2.out hb5);have G5:=Qaa (ZZk w4 (.cells (Qal g p) 49));clear hb4 hb5 hcode HI2 A2 X2 K2 haf;go_upto_region 11 with fail;generalize w4.alloc (.cells (Qal g p) 49)=W5 at HI5 A5 X5 K5 G5 ⊢;generalize w4.heap.size=rg at G5 ⊢;have AF0:Hid (AfA M c.n c.s c.g.k g p 0):=HC0.out ▸ AF.out;obtain ⟨gok,gsm,gao⟩:=af_ag AF.out hk1 hk4 HI5.out.o HI5.out.q.ok HI5.out.q.sm HC0.out;have GK:=Qaa gok;have GS:=Qaa gsm;have GO:=Qaa gao;clear gok gsm gao;have HS0:(fun W=>Below W5.heap.size W5 W) W5.drew:=(ZZb _ _).drew;refine Qaj (fun W=>Below W5.heap.size W5 W) 6 (by kernel_rfl) ?_;refine tkS (i:=0) (v:=.map (some bm)) rfl rfl HS0 ?_;refine tkL (i:=1) (v:=.agg #[.int .i64 c.n,.string c.s]) rfl rfl HS0 (fun W hW=>?_) ?_
      ·have q0:=Qab hW (Qaq K5.out 0 rfl)
       have q1:=Qab hW (Qaq K5.out 1 rfl);clear hW;go_simp
      refine tkL (i:=2) (v:=.agg (Qal g p)) rfl rfl HS0 (fun W hW=>?_) ?_
      ·have GG:=Qak G5.out hW
       obtain ⟨q0,q1,q2,q3,q4,q5,q6,q7,q8,q9,q10,q11,q12⟩:=Qby GG;clear GG;clear hW;go_simp
      simp only [sA,sB,sC];refine tkS (i:=3) (v:=.pointer (some ⟨rc,2,none⟩)) rfl rfl HS0 ?_;refine tkL (i:=4) (v:=.agg (Qal c.g c.p)) rfl rfl HS0 (fun W hW=>?_) ?_
      ·have GG:=Qak X5.out hW
       have q2:=Qac GG 2 rfl;have q3:=Qac GG 3 rfl;have q4:=Qac GG 4 rfl;have q5:=Qac GG 5 rfl;have q6:=Qac GG 6 rfl;have q7:=Qac GG 7 rfl;have q8:=Qac GG 8 rfl;have q9:=Qac GG 9 rfl;have q10:=Qac GG 10 rfl;have q11:=Qac GG 11 rfl;have q12:=Qac GG 12 rfl;have q13:=Qac GG 13 rfl;have q14:=Qac GG 14 rfl;clear GG;clear hW;go_simp
      simp only [sA,sB,sC];refine onE (i:=5) rfl (fun K hK=>?_);go_simp;refine (Qi9 GK.out QC.out.1 GS.out QC.out.2.1 (Qan GO.out.at (HS0:Below W5.heap.size W5 W5.drew)) (Qan A5.out (HS0:Below W5.heap.size W5 W5.drew))).mono ?_;rintro e w6 ⟨v,og,rfl,hpt,⟨q,rfl,ho⟩,hb6⟩;have HB6:Hid (Below W5.heap.size W5 w6):=(HS0:Below W5.heap.size W5 W5.drew).trans (hb6.mono (ZZa _));have HPT:=Qaa hpt;have HOG:Hid (AgO w6 W5.heap.size og q):=ho;clear hpt ho hb6;dsimp only;refine hK.out _ _ (fun _=>HB6.out) ?_;clear hK K
      try simp only [Act.put,sA,sB,sC]
      obtain ⟨D,hD,hH⟩:=HI5.out.mp.past HB6.out;obtain ⟨W7,hrun,hD7,hg7⟩:=hD.update (val:=.agg (Qal og q)) (d:=QeG ⟨c.n,c.s,og,q⟩) (ps:=[]) keyC Tryz.underlying82 (by unfold maxLen;omega) (Qbd QC.out.2.2.2) rfl;have HF:=Qaa (HI5.out.step HC.out QC.out AF0.out HPT.out HB6.out HOG.out hD hH hD7 hg7);clear hD hH hD7 hg7;refine onE (i:=6) rfl (fun K hK=>?_);go_simp;refine hK.out _ _ (fun h=>absurd rfl h) ?_;clear hK K
      try simp only [Act.put,sA,sB,sC]
      refine Qar (by kernel_rfl) ?_ _;go_wp2;go_roundw
      case rel=>exact ⟨k+1,_,by omega,by go_num,HF⟩
      case measure=>simp [Go.RowKit.intOf];omega
     ·have bc:(code != 0)=true:=by simp [hcode]
      have hbad:MsB M c:=by
       rcases haf.a with ⟨d,hd,e1,e2,e3,_,_,e⟩ | ⟨d,hd,e1,e2,e3,_,_,e⟩ | ⟨hn,_,_,e⟩
       ·exact absurd e hcode
       ·exact ⟨d,hd,e1,e2,e3⟩
       ·exact absurd e hcode
      have HA:Hid (MgA a b []):=MgA.bad HH.out HC.out HI2.out.mg hbad;have HT4:=Qaa (Qad (Qad HI2.out.b hb4) (HAl.out w4 (.cells (Qal g p) 49)));clear hbad hcode haf hb4;go_wp2;go_ret;exact MgP.none HA.out HT4.out
    ·obtain rfl:k=K:=by omega
     have eb:b.take k=b:=List.take_of_length_le (by have:=JJ.out.hN;omega);have HG:Hid (Mgs a b M):=by have:=HI.out.mg;rw [eb] at this;exact this
     obtain ⟨D,hD,hDs⟩:=HI.out.mp.len;have HD:=Qaa hD;have hlM:M.length<=N+k:=by have:=HG.out.len RA.out;have:=II.out.hN;have:=JJ.out.hN;omega
     clear eb hk hkn hD;by_cases hfull:60<M.length
     ·have HA:Hid (MgA a b []):=MgA.long HH.out HG.out (by omega)
      have hs60:(60:Int)<((Maps.size D:Nat):Int):=by rw [hDs];omega
      clear hfull hDs;go_wp2_with (at_len;refine wpList_len_own _ rfl _ 82 rfl 85 49 Tryz.underlying82 _ bm (N+k) _ rfl HD.out ?_);go_ret;exact MgP.none HA.out HI.out.b
     ·have HA:Hid (MgA a b M):=MgA.ok HH.out HG.out (by omega)
      have hs60:¬ (60:Int)<((Maps.size D:Nat):Int):=by rw [hDs];omega
      have hl6:M.length<=1048576:=by omega
      clear hfull hDs;go_wp2_with (at_len;refine wpList_len_own _ rfl _ 82 rfl 85 49 Tryz.underlying82 _ bm (N+k) _ rfl HD.out ?_);refine (Qj4 HI.out.mp HI.out.asc hl6).mono ?_;rintro e w5 ⟨v,rfl,hv,hb5⟩;have HV:=Qaa (hv.le HI.out.b.size);have HO5:Hid (CesO w5 w.heap.size M):=(HI.out.o.past hb5).le (Nat.le_succ_of_le HI.out.lo);have HB5:=Qaa (Qad HI.out.b hb5);clear hv hb5;go_wp2;go_ret;exact ⟨_,M,rfl,HA.out,HV.out,HO5.out,HB5.out⟩
end Go.Proofs.YthchmdmncmioiaaGreatDoor
namespace Go.Proofs.YthchmdmncmioiaaGreatDoor
set_option linter.unusedVariables false
set_option linter.unusedSimpArgs false
open Go.ChangeShapes Go.WideShapes Go.ChangeAt Go.RowKit Go.PlainAid Go.Lib
set_option maxRecDepth 10000
def KA (a b:List Ce):Prop:=∀ n s g g',(n,s,g)∈a.map Ce.key->(n,s,g')∈b.map Ce.key->g.k=g'.k
theorem mgs_ka {A B M:List Ce} (h:Mgs A B M) (ha:AscC A):AscC B->KA A B:=by
 induction h with
 | nil R h=>intro _ n s g g' _ q;simp at q
 | snoc B R R' c h m ih=>
  intro hb n s g g' p q;obtain ⟨hB,_,hx⟩:=List.pairwise_append.1 hb;obtain ⟨d,hd,d1,d2,d3⟩:=mem_key.1 q;rcases List.mem_append.1 hd with r | r
  ·exact ih hB n s g g' p (mem_key.2 ⟨d,r,d1,d2,d3⟩)
  ·obtain rfl:d=c:=by simpa using r
   have hno:¬ Qfc B d.n d.s:=fun ⟨b,hb,e1,e2⟩=>Qft (hx b hb d (by simp)) ⟨e1,e2⟩;subst d1;subst d2;have inR:(d.n,d.s,g)∈R.map Ce.key:=(QjC h ha hB _ _ _).2 (.inl ⟨p,hno⟩);rcases m with ⟨e,o,he,e1,e2,e3,_,_⟩ | ⟨hn,_⟩
   ·have:=Qle (h.asc ha) inR (mem_key.2 ⟨e,he,e1,e2,rfl⟩)
    rw [this,e3,d3]
   ·exact absurd (hasK_mem.2 ⟨_,inR⟩) hn
theorem bad_ka {A B M:List Ce} {k:Nat} {c:Ce} (ha:AscC A) (hb:AscC B) (e:B[k]?=some c) (m:Mgs A (B.take k) M) (s:MsB M c):¬ KA A B:=fun ka=>by
 obtain ⟨d,hd,d1,d2,d3⟩:=s;have hno:=QjR hb e;have hm:=(QjC m ha (hb.sublist (List.take_sublist _ _)) c.n c.s d.g).1 (mem_key.2 ⟨d,hd,d1,d2,rfl⟩);rcases hm with ⟨q,_⟩ | ⟨q,_⟩ | ⟨a,b,_,q,_⟩
 ·exact d3 (ka c.n c.s d.g c.g q (mem_key.2 ⟨c,ZZn e,rfl,rfl,rfl⟩))
 ·exact hno (hasK_mem.2 ⟨_,q⟩)
 ·exact hno (hasK_mem.2 ⟨_,q⟩)
theorem MgA.cases {a b m:List Ce} (h:MgA a b m) (ra:csR a=true) (rb:csR b=true):(KA a b/\∃ M,Mgs a b M/\(if M.length<=60 then m.map Ce.key=M.map Ce.key else m=[]))∨(¬ KA a b/\m=[]):=by
 have aa:=(csR_iff.1 ra).2.2;have ab:=(csR_iff.1 rb).2.2;unfold MgA at h;rw [if_pos ⟨ra,rb⟩] at h;rcases h with ⟨M,m,h⟩ | ⟨⟨k,c,M,e,m,s⟩,h⟩
 ·exact .inl ⟨mgs_ka m aa ab,M,m,h⟩
 ·exact .inr ⟨bad_ka aa ab e m s,h⟩
end Go.Proofs.YthchmdmncmioiaaGreatDoor
