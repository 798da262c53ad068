/-
 Parts.
-/
import Derived.Test.YtandnmpllheniaaGreatDoorCMA
set_option linter.all false
set_option maxRecDepth 10000
namespace Go.Proofs.YtandnmpllheniaaGreatDoor
open Go.ChangeShapes Go.WideShapes Go.ChangeAt Go.RowKit Go.PlainAid Go.Lib
theorem Qor {E R E' R':List Int} (h:hlB E R=true) (m:Mg E R [] [] E' R'):E'=E/\R'=R:=by
 have c1:=Can.self h;have c2:=Can.self (E:=[]) (R:=[]) (by decide);have a:=Qhc c1 c2 m;refine a.one c1 ?_ (fun x=>?_) ?_
 ·simp
 ·simp [QbI]
 ·have:Qcc []=zer:=rfl
  rw [this];exact Qlm c1.okB
theorem Qnv {h l:Int} (hh:I64 h) (hl:U64 l):QaO h l 0 0=h:=by
 unfold QaO Qhl;unfold U64 at hl;unfold I64 at hh;unfold wrap64;omega
theorem Qoj {l:Int} (hl:U64 l):QaS l 0=l:=by
 unfold QaS uw;unfold U64 at hl;omega
theorem mrg_newN {b o:Ag} (ok:AgOk b) (r:agB b=true) (h:AgMrg b (QaN b.k) o):o=b:=by
 have n:=QaQ r;have e:QaN b.k=⟨b.k,0,0,0,0,if b.k=2 then -1 else 0,0,[],[],0,0,[],[]⟩:=by unfold QaN;rw [if_pos ⟨n.k1,n.k4⟩]
 have rn:=(QdO n.k1 n.k4).1;have ek:(QaN b.k).k=b.k:=by rw [e]
 unfold AgMrg at h;rw [if_pos ⟨r,rn,ek.symm⟩] at h;obtain ⟨E,R,m,rfl⟩:=h;rw [e] at m ⊢;obtain ⟨rfl,rfl⟩:=Qor n.hl m;have sP:=(binsB_iff.1 (skB_and.1 n.sk).1).1;have sN:=(binsB_iff.1 (skB_and.1 n.sk).2).1;unfold QjQ;dsimp only;rw [Qn3 ok.s,Qn3 ok.z,QaK,QaK,QcZ sP,QcZ sN,Qnv ok.h ok.l,Qnv ok.x ok.y,Qoj ok.l,Qoj ok.y];by_cases e2:b.k=2
 ·rw [if_pos e2,if_pos e2,if_pos e2]
  have t:=Qgh r e2
  have hL:¬ Qdt b.a b.t 0 (-1)=true:=by
   unfold QcR at t;unfold Qdt;simp only [Bool.and_eq_true,Bool.or_eq_true,decide_eq_true_eq,beq_iff_eq] at t ⊢;omega
  rw [(Qf2 hL).1,(Qf2 hL).2]
 ·rw [if_neg e2,if_neg e2]
  obtain ⟨q1,q2⟩:=n.ng e2;obtain ⟨k,s,h,l,a,t,z,P,N,x,y,E,R⟩:=b;simp only at q1 q2;subst q1;subst q2
  rfl
theorem QnB {E R E' R':List Int} (h:hlB E R=true) (m:Mg [] [] E R E' R'):E'=E/\R'=R:=by
 have c1:=Can.self h;have c2:=Can.self (E:=[]) (R:=[]) (by decide);have a:=Qhc c2 c1 m;refine a.one c1 ?_ (fun x=>?_) ?_
 ·simp
 ·simp [QbI]
 ·rw [Qj4 c2.okB c1.okB]
  have:Qcc []=zer:=rfl;rw [this];exact Qlm c1.okB
theorem Qon {b o:Ag} (ok:AgOk b) (r:agB b=true) (h:AgMrg (QaN b.k) b o):o=b:=by
 have n:=QaQ r;have e:QaN b.k=⟨b.k,0,0,0,0,if b.k=2 then -1 else 0,0,[],[],0,0,[],[]⟩:=by unfold QaN;rw [if_pos ⟨n.k1,n.k4⟩]
 have rn:=(QdO n.k1 n.k4).1;have ek:(QaN b.k).k=b.k:=by rw [e]
 unfold AgMrg at h;rw [if_pos ⟨rn,r,ek⟩] at h;obtain ⟨E,R,m,rfl⟩:=h;rw [e] at m ⊢;obtain ⟨rfl,rfl⟩:=QnB n.hl m;have sP:=(binsB_iff.1 (skB_and.1 n.sk).1).1;have sN:=(binsB_iff.1 (skB_and.1 n.sk).2).1;have w0:∀ {z:Int},U64 z->Qar 0 z=z:=fun {z} hz=>by unfold Qar;unfold U64 at hz;rw [if_neg (by omega),Int.zero_add]
 have h0:∀ {h l:Int},I64 h->U64 l->QaO 0 0 h l=h:=fun {h l} hh hl=>by
  unfold QaO Qhl;unfold U64 at hl;unfold I64 at hh;unfold wrap64;omega
 have l0:∀ {l:Int},U64 l->QaS 0 l=l:=fun {l} hl=>by unfold QaS uw;unfold U64 at hl;omega
 unfold QjQ;dsimp only;rw [w0 ok.s,w0 ok.z,Qbf,Qbf,QcZ sP,QcZ sN,h0 ok.h ok.l,h0 ok.x ok.y,l0 ok.l,l0 ok.y];by_cases e2:b.k=2
 ·rw [if_pos e2,if_pos e2,if_pos e2]
  have t:=Qgh r e2
  have hg:gA 0 (-1) b.a b.t=b.a/\gT 0 (-1) b.a b.t=b.t:=by
   unfold QcR at t;unfold gA gT Qdt;simp only [Bool.and_eq_true,Bool.or_eq_true,decide_eq_true_eq,beq_iff_eq] at t ⊢;constructor <;> split <;> omega
  rw [hg.1,hg.2]
 ·rw [if_neg e2,if_neg e2]
  obtain ⟨q1,q2⟩:=n.ng e2;obtain ⟨k,s,h,l,a,t,z,P,N,x,y,E,R⟩:=b;simp only at q1 q2;subst q1;subst q2
  first | rfl | simp
theorem Qlx {R:List Int}:∀ (L:List Int) (S:Int->Prop) (R':List Int),Laid R S R'->∃ R'',Laid R (fun x=>S x∨x∈L) R''
 | [],S,R',h=>⟨R',h.iff fun x=>by simp⟩
 | y :: L,S,R',h=>by
  obtain ⟨R'',k⟩:=Qlx L (fun x=>S x∨x=y) _ (h.step (fun x=>Iff.rfl));exact ⟨R'',k.iff fun x=>by simp [or_assoc]⟩
theorem mg_tot (E1 R1 E2 R2:List Int):∃ E R,Mg E1 R1 E2 R2 E R:=by
 by_cases q:R1.length=0/\R2.length=0/\(QiR E1 E2).length<=40
 ·exact ⟨_,_,.inl ⟨q.1,q.2.1,q.2.2,rfl,rfl⟩⟩
 ·obtain ⟨R,k⟩:=Qlx (R:=mxL (Qcc R1) R2 R2.length) (QiR E1 E2) (fun _=>False) _ (Laid.start _ fun _ x=>x)
  exact ⟨[],R,.inr ⟨q,rfl,k.iff fun x=>by simp⟩⟩
theorem Qku (g g':Ag):∃ o,AgMrg g g' o:=by
 unfold AgMrg
 split
 ·obtain ⟨E,R,h⟩:=mg_tot g.E g.R g'.E g'.R
  exact ⟨_,E,R,h,rfl⟩
 ·exact ⟨_,rfl⟩
theorem QmW (g:Ag) (x:Sx):∃ o,AgPut g x o:=by
 unfold AgPut
 split
 ·exact Qku _ _
 ·exact ⟨_,rfl⟩
noncomputable def QmF (g g':Ag):Ag:=Classical.choose (Qku g g')
theorem QgO (g g':Ag):AgMrg g g' (QmF g g'):=Classical.choose_spec (Qku g g')
theorem QnX {g g' o:Ag} (h:AgMrg g g' o):o=QmF g g':=h.one (QgO g g')
noncomputable def QoB (g:Ag) (x:Sx):Ag:=Classical.choose (QmW g x)
theorem QkP (g:Ag) (x:Sx):AgPut g x (QoB g x):=Classical.choose_spec (QmW g x)
theorem Qnk {g o:Ag} {x:Sx} (h:AgPut g x o):o=QoB g x:=h.one (QkP g x)
structure AgG (k:Int) (g:Ag):Prop where
 r:agB g=true
 o:AgOk g
 k:g.k=k
structure SxG (k:Int) (x:Sx):Prop where
 o:x.Ok
 b:x.B=true
 k:x.k=k
theorem AgG.put {k:Int} {g:Ag} {x:Sx} (h:AgG k g) (q:SxG k x):AgG k (QoB g x):=by
 obtain ⟨a,b,c⟩:=Qhg q.o h.o (QkP g x);exact ⟨b h.r,a,c.trans h.k⟩
theorem AgG.r2 {k:Int} {g g':Ag} (h:AgG k g) (h':AgG k g'):AgR2 g g':=⟨h.r,h'.r,h.k.trans h'.k.symm⟩
theorem AgG.mrg {k:Int} {g g':Ag} (h:AgG k g) (h':AgG k g'):AgG k (QmF g g'):=by
 obtain ⟨a,b,c⟩:=Qc4 (h.r2 h') h.o h'.o (QgO g g');exact ⟨a,b,c.trans h.k⟩
theorem Qcy {k:Int} {g g':Ag} (h:AgG k g) (h':AgG k g'):QmF g g'=QmF g' g:=Qnp (h.r2 h') (QgO _ _) (QgO _ _)
theorem QkQ {k:Int} {a b:Ag} {x:Sx} (h:AgG k a) (h':AgG k b) (q:SxG k x):QmF a (QoB b x)=QoB (QmF a b) x:=by
 rw [Qcy h (h'.put q),Qcy h h'];exact QpI q.o (h'.r2 h) h'.o h.o (QkP b x) (QgO _ _) (QgO _ _) (QkP _ _)
noncomputable def fo (k:Int) (xs:List Sx):Ag:=xs.foldl QoB (QaN k)
theorem QoJ {k:Int} (h1:1<=k) (h4:k<=4):AgG k (QaN k):=by
 obtain ⟨a,b,_,c,_⟩:=QdO h1 h4;exact ⟨a,b,c⟩
theorem QkF:∀ {L M:List Ce},AscC L->AscC M->(∀ k,k∈L.map Ce.key↔k∈M.map Ce.key)->L.map Ce.key=M.map Ce.key
 | [],[],_,_,_=>rfl
 | [],d :: M,_,_,h=>absurd ((h d.key).2 (by simp)) (by simp)
 | c :: L,[],_,_,h=>absurd ((h c.key).1 (by simp)) (by simp)
 | c :: L,d :: M,a,b,h=>by
  obtain ⟨a1,a2⟩:=List.pairwise_cons.1 a;obtain ⟨b1,b2⟩:=List.pairwise_cons.1 b
  have nc:c.key ∉ L.map Ce.key:=fun q=>by
   obtain ⟨l,hl,e⟩:=List.mem_map.1 q;have:=a1 l hl;rw [QeK rfl e,QeC] at this
   cases this
  have nd:d.key ∉ M.map Ce.key:=fun q=>by
   obtain ⟨l,hl,e⟩:=List.mem_map.1 q;have:=b1 l hl;rw [QeK rfl e,QeC] at this
   cases this
  have e:c.key=d.key:=by
   have h1:=(h c.key).1 (by simp);have h2:=(h d.key).2 (by simp);rw [List.map_cons,List.mem_cons] at h1 h2;rcases h1 with h1 | h1
   ·exact h1
   ·rcases h2 with h2 | h2
    ·exact h2.symm
    ·obtain ⟨m,hm,e1⟩:=List.mem_map.1 h1
     obtain ⟨l,hl,e2⟩:=List.mem_map.1 h2;have q1:=b1 m hm;rw [QeK rfl e1] at q1;have q2:=a1 l hl;rw [QeK rfl e2] at q2;rw [QeM q1] at q2
     cases q2
  rw [List.map_cons,List.map_cons,e]
  congr 1
  refine QkF a2 b2 (fun k=>⟨fun q=>?_,fun q=>?_⟩)
  ·have:=(h k).1 (by rw [List.map_cons];exact List.mem_cons_of_mem _ q)
   rw [List.map_cons,List.mem_cons] at this;rcases this with r | r
   ·exact absurd (by rw [e,<- r];exact q) nc
   ·exact r
  ·have:=(h k).2 (by rw [List.map_cons];exact List.mem_cons_of_mem _ q)
   rw [List.map_cons,List.mem_cons] at this;rcases this with r | r
   ·exact absurd (by rw [<- e,<- r];exact q) nd
   ·exact r
theorem QeE {L R:List Ce} {n:Int} {s:ByteArray} {o:Ag} (h:PtL L n s o R) (k:Int×ByteArray×Ag):k∈R.map Ce.key↔k=(n,s,o)∨(k∈L.map Ce.key/\¬ (k.1=n/\k.2.1=s)):=by
 unfold PtL at h;rw [h,List.mem_append,List.mem_cons];constructor
 ·rintro (q | q | q)
  ·obtain ⟨c,hc,rfl⟩:=List.mem_map.1 q
   obtain ⟨h1,h2⟩:=List.mem_filter.1 hc;exact .inr ⟨List.mem_map.2 ⟨c,h1,rfl⟩,fun e=>Qf5 h2 ⟨e.1,e.2⟩⟩
  ·exact .inl q
  ·obtain ⟨c,hc,rfl⟩:=List.mem_map.1 q
   obtain ⟨h1,h2⟩:=List.mem_filter.1 hc;exact .inr ⟨List.mem_map.2 ⟨c,h1,rfl⟩,fun e=>Qf5 h2 ⟨e.1.symm,e.2.symm⟩⟩
 ·rintro (q | ⟨q,ne⟩)
  ·exact .inr (.inl q)
  ·obtain ⟨c,hc,rfl⟩:=List.mem_map.1 q
   cases h1:loF n s c with
   | true=>exact .inl (List.mem_map.2 ⟨c,List.mem_filter.2 ⟨hc,h1⟩,rfl⟩)
   | false=>
    cases h2:hiF n s c with
    | true=>exact .inr (.inr (List.mem_map.2 ⟨c,List.mem_filter.2 ⟨hc,h2⟩,rfl⟩))
    | false=>
     have:=Qid h1 h2;exact absurd ⟨this.1,this.2⟩ ne
open Classical in
noncomputable def sel (L:List St) (n:Int) (s:ByteArray):List Sx:=(L.filter (fun t=>decide (t.n=n/\t.x.se=s))).map St.x
theorem sel_mem {L:List St} {n:Int} {s:ByteArray} {x:Sx}:x∈sel L n s↔∃ t∈L,t.n=n/\t.x.se=s/\t.x=x:=by
 unfold sel;simp only [List.mem_map,List.mem_filter,decide_eq_true_eq];exact ⟨fun ⟨t,⟨h1,h2,h3⟩,h4⟩=>⟨t,h1,h2,h3,h4⟩,fun ⟨t,h1,h2,h3,h4⟩=>⟨t,⟨h1,h2,h3⟩,h4⟩⟩
structure StA (L:List St):Prop where
 ok:∀ t∈L,t.x.Ok
 r:∀ t∈L,StR t
 k:∀ t∈L,∀ u∈L,t.n=u.n->t.x.se=u.x.se->t.x.k=u.x.k
structure CoM (L:List St) (R:List Ce):Prop where
 asc:AscC R
 mem:∀ n s g,(n,s,g)∈R.map Ce.key↔∃ y∈sel L n s,g=fo y.k (sel L n s)
theorem mem_key {R:List Ce} {n:Int} {s:ByteArray} {g:Ag}:(n,s,g)∈R.map Ce.key↔∃ c∈R,c.n=n/\c.s=s/\c.g=g:=by
 simp only [List.mem_map,Ce.key,Prod.mk.injEq]
end Go.Proofs.YtandnmpllheniaaGreatDoor
namespace Go.Proofs.YtandnmpllheniaaGreatDoor
open Go.ChangeShapes Go.WideShapes Go.ChangeAt Go.RowKit Go.PlainAid Go.Lib
theorem Qe9 {L:List Ce} (h:AscC L) {n:Int} {s:ByteArray} {a b:Ag} (ha:(n,s,a)∈L.map Ce.key) (hb:(n,s,b)∈L.map Ce.key):a=b:=by
 obtain ⟨c,hc,c1,c2,c3⟩:=mem_key.1 ha;obtain ⟨d,hd,d1,d2,d3⟩:=mem_key.1 hb;have:=Qey h hc hd (c1.trans d1.symm) (c2.trans d2.symm);rw [<- c3,<- d3,this]
theorem hasK_mem {L:List Ce} {n:Int} {s:ByteArray}:Qds L n s↔∃ g,(n,s,g)∈L.map Ce.key:=by
 constructor
 ·rintro ⟨c,hc,rfl,rfl⟩;exact ⟨c.g,mem_key.2 ⟨c,hc,rfl,rfl,rfl⟩⟩
 ·rintro ⟨g,h⟩;obtain ⟨c,hc,c1,c2,_⟩:=mem_key.1 h;exact ⟨c,hc,c1,c2⟩
theorem Qdp {A B M:List Ce} (h:Mgs A B M) (ha:AscC A):AscC B->∀ n s g,(n,s,g)∈M.map Ce.key↔((n,s,g)∈A.map Ce.key/\¬ Qds B n s)∨((n,s,g)∈B.map Ce.key/\¬ Qds A n s)∨∃ a b,(n,s,a)∈A.map Ce.key/\(n,s,b)∈B.map Ce.key/\g=QmF a b:=by
 induction h with
 | nil R h=>
  intro _ n s g;rw [h];constructor
  ·exact fun q=>.inl ⟨q,fun ⟨c,hc,_⟩=>by cases hc⟩
  ·rintro (q | q | ⟨a,b,_,q,_⟩)
   ·exact q.1
   ·simp at q
   ·simp at q
 | snoc B R R' c h m ih=>
  intro hb n s g;obtain ⟨hB,_,hx⟩:=List.pairwise_append.1 hb;have ae:¬ Qds B c.n c.s:=fun ⟨b,hb,e1,e2⟩=>Qf5 (hx b hb c (by simp)) ⟨e1,e2⟩;have ih:=ih hB;have hR:=h.asc ha
  have aa:∀ g',(n,s,g')∈(B ++ [c]).map Ce.key↔(n,s,g')∈B.map Ce.key∨(c.n=n/\c.s=s/\c.g=g'):=fun g'=>by
   rw [mem_key,mem_key];constructor
   ·rintro ⟨d,hd,q⟩
    rcases List.mem_append.1 hd with r | r
    ·exact .inl ⟨d,r,q⟩
    ·obtain rfl:d=c:=by simpa using r
     exact .inr q
   ·rintro (⟨d,hd,q⟩ | q)
    ·exact ⟨d,by simp [hd],q⟩
    ·exact ⟨c,by simp,q⟩
  have af:Qds (B ++ [c]) n s↔Qds B n s∨(c.n=n/\c.s=s):=by
   rw [hasK_mem,hasK_mem];constructor
   ·rintro ⟨g',q⟩
    rcases (aa g').1 q with q | q
    ·exact .inl ⟨g',q⟩
    ·exact .inr ⟨q.1,q.2.1⟩
   ·rintro (⟨g',q⟩ | q)
    ·exact ⟨g',(aa g').2 (.inl q)⟩
    ·exact ⟨c.g,(aa c.g).2 (.inr ⟨q.1,q.2,rfl⟩)⟩
  by_cases hk:c.n=n/\c.s=s
  ·obtain ⟨rfl,rfl⟩:=hk
   have ad:∀ g',¬ (c.n,c.s,g')∈B.map Ce.key:=fun g' q=>ae (hasK_mem.2 ⟨g',q⟩)
   have ah:∀ g',(c.n,c.s,g')∈R.map Ce.key↔(c.n,c.s,g')∈A.map Ce.key:=fun g'=>by
    rw [ih];constructor
    ·rintro (q | q | ⟨a,b,_,q,_⟩)
     ·exact q.1
     ·exact absurd q.1 (ad _)
     ·exact absurd q (ad _)
    ·exact fun q=>.inl ⟨q,ae⟩
   have ac:∀ g',(c.n,c.s,g')∈(B ++ [c]).map Ce.key↔c.g=g':=fun g'=>by
    rw [aa];exact ⟨fun q=>q.elim (fun q=>absurd q (ad _)) (fun q=>q.2.2),fun q=>.inr ⟨rfl,rfl,q⟩⟩
   have ab:Qds (B ++ [c]) c.n c.s:=af.2 (.inr ⟨rfl,rfl⟩);rcases m with ⟨d,o,hd,d1,d2,d3,d4,hP⟩ | ⟨hn,hP⟩
   ·have dA:(c.n,c.s,d.g)∈A.map Ce.key:=(ah _).1 (mem_key.2 ⟨d,hd,d1,d2,rfl⟩)
    rw [QeE hP];constructor
    ·rintro (q | ⟨_,q⟩)
     ·simp only [Prod.mk.injEq,true_and] at q
      exact .inr (.inr ⟨d.g,c.g,dA,(ac _).2 rfl,by rw [q];exact QnX d4⟩)
     ·exact absurd ⟨rfl,rfl⟩ q
    ·rintro (q | q | ⟨a,b,q1,q2,q3⟩)
     ·exact absurd ab q.2
     ·exact absurd (hasK_mem.2 ⟨_,dA⟩) q.2
     ·left
      rw [q3,Qe9 ha q1 dA,<- (ac b).1 q2,<- QnX d4]
   ·have ag:¬ Qds A c.n c.s:=fun q=>by
     obtain ⟨g',q⟩:=hasK_mem.1 q;exact hn (hasK_mem.2 ⟨g',(ah g').2 q⟩)
    rw [QeE hP];constructor
    ·rintro (q | ⟨_,q⟩)
     ·simp only [Prod.mk.injEq,true_and] at q
      exact .inr (.inl ⟨(ac g).2 q.symm,ag⟩)
     ·exact absurd ⟨rfl,rfl⟩ q
    ·rintro (q | q | ⟨a,b,q1,q2,q3⟩)
     ·exact absurd ab q.2
     ·left
      rw [(ac g).1 q.1]
     ·exact absurd (hasK_mem.2 ⟨_,q1⟩) ag
  ·have e1:∀ g',(n,s,g')∈(B ++ [c]).map Ce.key↔(n,s,g')∈B.map Ce.key:=fun g'=>by
    rw [aa];exact ⟨fun q=>q.elim id (fun q=>absurd ⟨q.1,q.2.1⟩ hk),.inl⟩
   have e2:Qds (B ++ [c]) n s↔Qds B n s:=by
    rw [af];exact ⟨fun q=>q.elim id (fun q=>absurd q hk),.inl⟩
   have e3:(n,s,g)∈R'.map Ce.key↔(n,s,g)∈R.map Ce.key:=by
    have:∀ o,PtL R c.n c.s o R'->((n,s,g)∈R'.map Ce.key↔(n,s,g)∈R.map Ce.key):=fun o hP=>by
     rw [QeE hP];constructor
     ·rintro (q | ⟨q,_⟩)
      ·simp only [Prod.mk.injEq] at q
       exact absurd ⟨q.1.symm,q.2.1.symm⟩ hk
      ·exact q
     ·exact fun q=>.inr ⟨q,fun r=>hk ⟨r.1.symm,r.2.symm⟩⟩
    rcases m with ⟨d,o,_,_,_,_,_,hP⟩ | ⟨_,hP⟩
    ·exact this o hP
    ·exact this _ hP
   rw [e3,ih,e1,e2];simp only [e1]
theorem Qkp {L:List Ce} (h:AscC L) {k:Nat} {c:Ce} (e:L[k]?=some c):¬ Qds (L.take k) c.n c.s:=by
 rintro ⟨d,hd,e1,e2⟩;obtain ⟨i,hi,rfl⟩:=List.getElem_of_mem hd;obtain ⟨hk,rfl⟩:=ZZd.1 e;rw [List.length_take] at hi;have:=(List.pairwise_iff_getElem.1 h) i k (by omega) hk (by omega);rw [List.getElem_take] at e1 e2;exact Qf5 this ⟨e1,e2⟩
open Go.Maps
def MgP (w:World) (a b:List Ce) (e:Ending) (w':World):Prop:=∃ v R,e=.returned v/\MgA a b R/\OwnC w' w.heap.size v R/\CesO w' w.heap.size R/\Below w.heap.size w w'
theorem MgP.none {w w':World} {a b:List Ce} (h:MgA a b []) (hb:Below w.heap.size w w'):MgP w a b (.returned (.slice none 0 0)) w':=⟨_,[],rfl,h,OwnC.nil _ _,CesO.nil _ _,hb⟩
structure CnL (w wr:World) (bm N:Nat) (a b:List Ce) (k:Nat) (M:List Ce):Prop where
 mp:MpC wr bm (N+k) M
 o:CesO wr (bm+1) M
 asc:AscC M
 mg:Mgs a (b.take k) M
 q:CnQ M
 b:Below w.heap.size w wr
 lo:w.heap.size<=bm
theorem Qjh {w:World} {ao:Option Addr} {N:Nat} {L:List Ce} (h:ShI w ao N L) (r:csR L=true):CnQ L:=⟨h.ok,h.sm,fun c hc=>Qoe ((csR_iff.1 r).2.1 c hc),QhB h r⟩
theorem CnL.step {w wr w6 W7:World} {bm N:Nat} {a b:List Ce} {k:Nat} {M:List Ce} {c:Ce} {g og:Ag} {p q:Pl} (h:CnL w wr bm N a b k M) (hc:b[k]?=some c) (qc:AgOk c.g/\AgSm c.g/\agB c.g=true/\QbR c.n c.s) (af:AfA M c.n c.s c.g.k g p 0) (hp:AgMrg g c.g og) (hb6:Below wr.heap.size wr w6) (ho:AgO w6 wr.heap.size og q) {D:DataW Value} (hD:w6.ownsMap Tryz.prog 85 rA bm (N+k) D) (hH:HoldsC D M)
  (hD7:W7.ownsMap Tryz.prog 85 rA bm (N+k+1) (D.put (kL c.n c.s) (Qga ⟨c.n,c.s,og,q⟩))) (hg7:w6.grownBy W7 (some bm)):CnL w W7 bm N a b (k+1) (M.filter (loF c.n c.s) ++ ⟨c.n,c.s,og,q⟩ :: M.filter (hiF c.n c.s)):=by
 have pt:PtL M c.n c.s og (M.filter (loF c.n c.s) ++ ⟨c.n,c.s,og,q⟩ :: M.filter (hiF c.n c.s)):=by unfold PtL;rw [List.map_append,List.map_cons];rfl
 have ms:MsA M c (M.filter (loF c.n c.s) ++ ⟨c.n,c.s,og,q⟩ :: M.filter (hiF c.n c.s)):=by
  rcases af.a with ⟨d,hd,e1,e2,e3,rfl,rfl,_⟩ | ⟨d,hd,_,_,_,_,_,e⟩ | ⟨hn,rfl,rfl,_⟩
  ·exact .inl ⟨d,og,hd,e1,e2,e3,hp,pt⟩
  ·cases e
  ·obtain rfl:=Qon qc.1 qc.2.2.1 hp
   exact .inr ⟨hn,pt⟩
 refine ⟨⟨_,hD7,Qp3 (c':=⟨c.n,c.s,og,q⟩) hH (hD.tidy keyC) h.asc qc.2.2.2 af⟩,(Qqh (c':=⟨c.n,c.s,og,q⟩) h.o hb6 (Nat.succ_le_of_lt h.mp.lt) ho).grown hg7 (Nat.lt_succ_self _),Qky (c:=⟨c.n,c.s,og,q⟩) h.asc,?_,h.q.step ms qc.1 qc.2.1 qc.2.2.1 qc.2.2.2,?_,h.lo⟩
 ·rw [List.take_add_one,hc];exact .snoc _ _ _ _ h.mg ms
 ·exact (h.b.trans (hb6.mono h.b.size)).grown hg7 (Nat.le_trans h.b.size hb6.size) (fun j hj=>by cases hj;exact h.lo)
theorem CnL.past {w wr w':World} {bm N:Nat} {a b:List Ce} {k:Nat} {M:List Ce} (h:CnL w wr bm N a b k M) (hb:Below wr.heap.size wr w'):CnL w w' bm N a b k M:=⟨h.mp.past hb,h.o.past hb,h.asc,h.mg,h.q,Qac h.b hb,h.lo⟩
set_option maxHeartbeats 8000000 in
theorem QcV {w:World} {ao bo:Option Addr} {N K ca cb:Nat} {a b:List Ce} (hm:MX w) (hI:ShI w ao N a) (hJ:ShI w bo K b) :
  Calls Tryz.prog 15 #[.slice ao N ca,.slice bo K cb] w (MgP w a b):=by
 have II:=Qaa hI;have JJ:=Qaa hJ;have HM:=Qaa hm;have ak:Hid (∀ (X:World) o,Below X.heap.size X (X.alloc o)):=fun X o=>(ZZb _ _).alloc (ZZa _) _;clear hI hJ hm;go_enter Tryz.func15,Tryz.ntmps15;go_wp2_with fail;refine (QcT II.out.hN II.out.lN II.out.ok II.out.sm II.out.ss HM II.out.mem).mono ?_;rintro e w1 ⟨rfl,aP⟩;have an:=Qaa aP;clear aP
 cases h1:csR a with
 | false=>
  have HA:Hid (MgA a b []):=MgA.no (fun q=>by rw [h1] at q;cases q.1);clear h1;go_wp2;go_ret;exact MgP.none HA an
 | true=>
  have H1:=Qaa h1;clear h1;go_wp2_with fail;refine (QcT JJ.out.hN JJ.out.lN JJ.out.ok JJ.out.sm JJ.out.ss (HM.out.past an) (Qa1 JJ.out.mem an)).mono ?_;rintro e w2 ⟨rfl,al⟩;have aj:=Qaa (Qac an al);clear al an
  cases h2:csR b with
  | false=>
   have HA:Hid (MgA a b []):=MgA.no (fun q=>by rw [h2] at q;cases q.2);clear h2;go_wp2;go_ret;exact MgP.none HA aj
  | true=>
   have HH:Hid (csR a=true/\csR b=true):=⟨H1,h2⟩;have QA:=Qaa (Qjh II H1);have QB:=Qaa (Qjh JJ h2);have RA:=Qaa (csR_iff.1 H1).2.2;clear h2;go_wp2_with fail;refine (QfX II.out.hN II.out.lN RA.out.ap QA.out.ky II.out.sm II.out.pl (Qa1 II.out.mem aj)).mono ?_;rintro e w3 ⟨M0,rfl,aH,av,hO,aN⟩;have I0:Hid (CnL w w3 w2.heap.size N a b 0 M0):=⟨aH,hO,Qfz av RA,.nil _ av,QA.out.keys av,Qac aj aN,aj.out.size⟩;have a0:N<=60/\K<=60:=by have:=(csR_iff.1 HH.out.1).1;have:=(csR_iff.1 HH.out.2).1;have:=II.out.hN;have:=JJ.out.hN;omega
   obtain ⟨aS,aR⟩:=a0;clear aH av hO aN;generalize w2.heap.size=bm at I0 ⊢;clear aj;go_wp2
   go_loopw [23] (fun i wr=>∃ (k:Nat) (M:List Ce),k<=K/\i=.int .i64 k/\Hid (CnL w wr bm N a b k M)) (fun i wr=>K - (Go.RowKit.intOf i).toNat)
   case atStart=>exact ⟨0,M0,ZZj _,rfl,I0⟩
   case round=>
    clear I0;obtain ⟨k,M,hk,rfl,HI⟩:=hrel;by_cases a3:k<K
    ·have aT:(k:Int)<(K:Int):=by omega
     obtain ⟨bb,a7,e,af⟩:=JJ.out.mem.1 (by have:=JJ.out.hN;omega);obtain ⟨c,hc⟩:∃ c,b[k]?=some c:=⟨b[k]'(by have:=JJ.out.hN;omega),ZZe _⟩;subst e;obtain ⟨x0,x1,x2,x3,x4,x5,x6,x7,x8,x9,aD,aB,aC,ax,aA⟩:=Qai (af k c hc) HI.out.b;have hm:=ZZn hc;have HC:=Qaa hc;have QC:Hid (AgOk c.g/\AgSm c.g/\agB c.g=true/\QbR c.n c.s):=⟨QB.out.ok c hm,QB.out.sm c hm,QB.out.rt c hm,QB.out.ky c hm⟩;have AC:=Qaa (Qao (JJ.out.mem.2 c hm) HI.out.b);have hn:=QaQ QC.out.2.2.1;have aJ:=hn.k1;have aM:=hn.k4;have X1:=Qaa (ZZk wr (.cells (Qap c) 51));have aw:=Qaa (HI.out.past (ak.out wr (.cells (Qap c) 51)));have A1:=Qaa (Qao AC (ak.out wr (.cells (Qap c) 51)));clear af hc hm hn;go_upto_region 7 with fail;clear x0 x1 x2 x3 x4 x5 x6 x7 x8 x9 aD aB aC ax aA;generalize wr.alloc (.cells (Qap c) 51)=W1 at X1 aw A1 ⊢;generalize wr.heap.size=rc at X1 ⊢;clear HI AC;obtain ⟨x0,x1,x2,x3,x4,x5,x6,x7,x8,x9,aD,aB,aC,ax,aA⟩:=Qoz X1;go_wp2_with fail;clear x0 x1 x2 x3 x4 x5 x6 x7 x8 x9 aD aB aC ax aA;refine (QfA c _).mono ?_;rintro e w2 ⟨rfl,al⟩;have ac:=Qac al (ak.out w2 (.cells #[.int .i64 c.n,.string c.s] 85));have ai:=Qaa (aw.out.past ac);have A2:=Qaa (Qao A1 ac);have X2:=Qaa (Qal X1 ac);have K2:=Qaa (ZZk w2 (.cells #[.int .i64 c.n,.string c.s] 85));clear al ac aw A1 X1;go_upto_region 8 with fail;generalize w2.alloc (.cells #[.int .i64 c.n,.string c.s] 85)=W2 at ai A2 X2 K2 ⊢;generalize w2.heap.size=rk at K2 ⊢;have x2:=Qad X2 2 rfl;have q0:=Qad K2 0 rfl;have q1:=Qad K2 1 rfl;go_wp2_with fail;clear x2 q0 q1;refine (Qle c.n c.s c.g.k ai.out.mp QC.out.2.2.2 aJ aM).mono ?_;rintro e w4 ⟨g,p,ag,rfl,aq,ar⟩;have AF:=Qaa aq;by_cases aa:ag=0
     ·have bc:(ag != 0)=false:=by simp [aa]
      have aE:=Qaa aa;have ab:=Qac ar (ak.out w4 (.cells (Qak g p) 49));have ah:=Qaa (ai.out.past ab);have A5:=Qaa (Qao A2 ab);have X5:=Qaa (Qal X2 ab);have K5:=Qaa (Qal K2 ab);have G5:=Qaa (ZZk w4 (.cells (Qak g p) 49));clear ar ab aa ai A2 X2 K2 aq;go_upto_region 11 with fail;generalize w4.alloc (.cells (Qak g p) 49)=W5 at ah A5 X5 K5 G5 ⊢;generalize w4.heap.size=rg at G5 ⊢;have a5:Hid (AfA M c.n c.s c.g.k g p 0):=aE.out ▸ AF.out;obtain ⟨aK,aI,aL⟩:=af_ag AF aJ aM ah.out.o ah.out.q.ok ah.out.q.sm aE;have GK:=Qaa aK;have GS:=Qaa aI;have GO:=Qaa aL;clear aK aI aL;have ad:(fun W=>Below W5.heap.size W5 W) W5.drew:=(ZZb _ _).drew;refine Qaj (fun W=>Below W5.heap.size W5 W) 6 (by kernel_rfl) ?_;refine tkS 0 (.map (some bm)) ad ?_;refine tkL 1 (.agg #[.int .i64 c.n,.string c.s]) ad (fun W hW=>?_) ?_
      ·have q0:=Qab hW (Qay K5 0 rfl)
       have q1:=Qab hW (Qay K5 1 rfl);clear hW;go_simp
      refine tkL 2 (.agg (Qak g p)) ad (fun W hW=>?_) ?_
      ·have GG:=Qal G5 hW
       obtain ⟨q0,q1,q2,q3,q4,q5,q6,q7,q8,q9,a6,aV,aY⟩:=Qbt GG;clear GG;clear hW;go_simp
      simp only [sX];refine tkS 3 (.pointer (some ⟨rc,2,none⟩)) ad ?_;refine tkL 4 (.agg (Qak c.g c.p)) ad (fun W hW=>?_) ?_
      ·have GG:=Qal X5 hW
       have q2:=Qad GG 2 rfl;have q3:=Qad GG 3 rfl;have q4:=Qad GG 4 rfl;have q5:=Qad GG 5 rfl;have q6:=Qad GG 6 rfl;have q7:=Qad GG 7 rfl;have q8:=Qad GG 8 rfl;have q9:=Qad GG 9 rfl;have a6:=Qad GG 10 rfl;have aV:=Qad GG 11 rfl;have aY:=Qad GG 12 rfl;have ba:=Qad GG 13 rfl;have a9:=Qad GG 14 rfl;clear GG;clear hW;go_simp
      simp only [sX];refine onE 5 fun K hK=>?_;go_simp;refine (Qi9 GK QC.out.1 GS QC.out.2.1 (Qao GO.out.at (ad:Below W5.heap.size W5 W5.drew)) (Qao A5 (ad:Below W5.heap.size W5 W5.drew))).mono ?_;rintro e w6 ⟨v,og,rfl,aQ,⟨q,rfl,ho⟩,aG⟩;have az:Hid (Below W5.heap.size W5 w6):=(ad:Below W5.heap.size W5 W5.drew).trans (aG.mono (ZZa _));have a4:=Qaa aQ;have aW:Hid (AgO w6 W5.heap.size og q):=ho;clear aQ ho aG;dsimp only;refine gK hK az.out ?_
      try simp only [sX]
      obtain ⟨D,hD,hH⟩:=ah.out.mp.past az;obtain ⟨W7,a2,aO,aF⟩:=hD.update (val:=.agg (Qak og q)) (d:=Qga ⟨c.n,c.s,og,q⟩) (ps:=[]) keyC Tryz.underlying82 (by unfold maxLen;omega) (QbB QC.out.2.2.2) rfl;have HF:=Qaa (ah.out.step HC QC a5 a4 az aW hD hH aO aF);clear hD hH aO aF;refine onE 6 fun K hK=>?_;go_simp;refine hK.out _ _ (fun h=>absurd rfl h) ?_
      try simp only [sX]
      refine dnE ?_ _;go_wp2;go_roundw
      case rel=>exact ⟨k+1,_,by omega,by go_num,HF⟩
      case measure=>simp [zI];omega
     ·have bc:(ag != 0)=true:=by simp [aa]
      have am:MsB M c:=by
       rcases aq.a with ⟨d,hd,e1,e2,e3,_,_,e⟩ | ⟨d,hd,e1,e2,e3,_,_,e⟩ | ⟨hn,_,_,e⟩
       ·exact absurd e aa
       ·exact ⟨d,hd,e1,e2,e3⟩
       ·exact absurd e aa
      have HA:Hid (MgA a b []):=MgA.bad HH HC ai.out.mg am;have a1:=Qaa (Qac (Qac ai.out.b ar) (ak.out w4 (.cells (Qak g p) 49)));clear am aa aq ar;go_wp2;go_ret;exact MgP.none HA a1
    ·obtain rfl:k=K:=by omega
     have eb:b.take k=b:=List.take_of_length_le (by have:=JJ.out.hN;omega);have HG:Hid (Mgs a b M):=by have:=HI.out.mg;rw [eb] at this;exact this
     obtain ⟨D,hD,au⟩:=HI.out.mp.len;have HD:=Qaa hD;have a8:M.length<=N+k:=by have:=HG.out.len RA;have:=II.out.hN;have:=JJ.out.hN;omega
     clear eb hk a3 hD;by_cases ae:60<M.length
     ·have HA:Hid (MgA a b []):=MgA.long HH HG (by omega)
      have ay:(60:Int)<((Maps.size D:Nat):Int):=by rw [au];omega
      clear ae au;go_wp2_with (at_len;refine wpList_len_own _ rfl _ 82 rfl 85 49 Tryz.underlying82 _ bm (N+k) _ rfl HD ?_);go_ret;exact MgP.none HA HI.out.b
     ·have HA:Hid (MgA a b M):=MgA.ok HH HG (by omega)
      have ay:¬ (60:Int)<((Maps.size D:Nat):Int):=by rw [au];omega
      have aZ:M.length<=1048576:=by omega
      clear ae au;go_wp2_with (at_len;refine wpList_len_own _ rfl _ 82 rfl 85 49 Tryz.underlying82 _ bm (N+k) _ rfl HD ?_);refine (Qp1 HI.out.mp HI.out.asc aZ).mono ?_;rintro e w5 ⟨v,rfl,hv,ab⟩;have HV:=Qaa (hv.le HI.out.b.size);have aU:Hid (CesO w5 w.heap.size M):=(HI.out.o.past ab).le (Nat.le_succ_of_le HI.out.lo);have aX:=Qaa (Qac HI.out.b ab);clear hv ab;go_wp2;go_ret;exact ⟨_,M,rfl,HA,HV,aU,aX⟩
end Go.Proofs.YtandnmpllheniaaGreatDoor
namespace Go.Proofs.YtandnmpllheniaaGreatDoor
open Go.ChangeShapes Go.WideShapes Go.ChangeAt Go.RowKit Go.PlainAid Go.Lib
def KA (a b:List Ce):Prop:=∀ n s g g',(n,s,g)∈a.map Ce.key->(n,s,g')∈b.map Ce.key->g.k=g'.k
theorem KA.symm {a b:List Ce} (h:KA a b):KA b a:=fun n s g g' p q=>(h n s g' g q p).symm
theorem QjJ {A B M:List Ce} (h:Mgs A B M) (ha:AscC A):AscC B->KA A B:=by
 induction h with
 | nil R h=>intro _ n s g g' _ q;simp at q
 | snoc B R R' c h m ih=>
  intro hb n s g g' p q;obtain ⟨hB,_,hx⟩:=List.pairwise_append.1 hb;obtain ⟨d,hd,d1,d2,d3⟩:=mem_key.1 q;rcases List.mem_append.1 hd with r | r
  ·exact ih hB n s g g' p (mem_key.2 ⟨d,r,d1,d2,d3⟩)
  ·obtain rfl:d=c:=by simpa using r
   have aa:¬ Qds B d.n d.s:=fun ⟨b,hb,e1,e2⟩=>Qf5 (hx b hb d (by simp)) ⟨e1,e2⟩;subst d1;subst d2;have inR:(d.n,d.s,g)∈R.map Ce.key:=(Qdp h ha hB _ _ _).2 (.inl ⟨p,aa⟩);rcases m with ⟨e,o,he,e1,e2,e3,_,_⟩ | ⟨hn,_⟩
   ·have:=Qe9 (h.asc ha) inR (mem_key.2 ⟨e,he,e1,e2,rfl⟩)
    rw [this,e3,d3]
   ·exact absurd (hasK_mem.2 ⟨_,inR⟩) hn
theorem bad_ka {A B M:List Ce} {k:Nat} {c:Ce} (ha:AscC A) (hb:AscC B) (e:B[k]?=some c) (m:Mgs A (B.take k) M) (s:MsB M c):¬ KA A B:=fun ka=>by
 obtain ⟨d,hd,d1,d2,d3⟩:=s;have hno:=Qkp hb e;have hm:=(Qdp m ha (hb.sublist (List.take_sublist _ _)) c.n c.s d.g).1 (mem_key.2 ⟨d,hd,d1,d2,rfl⟩);rcases hm with ⟨q,_⟩ | ⟨q,_⟩ | ⟨a,b,_,q,_⟩
 ·exact d3 (ka c.n c.s d.g c.g q (mem_key.2 ⟨c,ZZn e,rfl,rfl,rfl⟩))
 ·exact hno (hasK_mem.2 ⟨_,q⟩)
 ·exact hno (hasK_mem.2 ⟨_,q⟩)
theorem MgA.cases {a b m:List Ce} (h:MgA a b m) (ra:csR a=true) (rb:csR b=true):(KA a b/\∃ M,Mgs a b M/\(if M.length<=60 then m.map Ce.key=M.map Ce.key else m=[]))∨(¬ KA a b/\m=[]):=by
 have aa:=(csR_iff.1 ra).2.2;have ab:=(csR_iff.1 rb).2.2;unfold MgA at h;rw [if_pos ⟨ra,rb⟩] at h;rcases h with ⟨M,m,h⟩ | ⟨⟨k,c,M,e,m,s⟩,h⟩
 ·exact .inl ⟨QjJ m aa ab,M,m,h⟩
 ·exact .inr ⟨bad_ka aa ab e m s,h⟩
theorem Qgz {L:List Ce} (r:csR L=true) (ok:∀ c∈L,AgOk c.g) {n:Int} {s:ByteArray} {g:Ag} (h:(n,s,g)∈L.map Ce.key):AgG g.k g:=by
 obtain ⟨c,hc,_,_,rfl⟩:=mem_key.1 h;exact ⟨Qoe ((csR_iff.1 r).2.1 c hc),ok c hc,rfl⟩
theorem Qpk {a b M M':List Ce} (ra:csR a=true) (rb:csR b=true) (oa:∀ c∈a,AgOk c.g) (ob:∀ c∈b,AgOk c.g) (m:Mgs a b M) (m':Mgs b a M'):M.map Ce.key=M'.map Ce.key:=by
 have aa:=(csR_iff.1 ra).2.2;have ab:=(csR_iff.1 rb).2.2;have ka:=QjJ m aa ab;refine QkF (m.asc aa) (m'.asc ab) (fun ⟨n,s,g⟩=>?_);rw [Qdp m aa ab,Qdp m' ab aa]
 have sw:∀ x y,(n,s,x)∈a.map Ce.key->(n,s,y)∈b.map Ce.key->QmF x y=QmF y x:=fun x y hx hy=>by
  have k:=ka n s x y hx hy;exact Qcy (Qgz ra oa hx) (k ▸ Qgz rb ob hy)
 constructor
 ·rintro (q | q | ⟨x,y,hx,hy,e⟩)
  ·exact .inr (.inl q)
  ·exact .inl q
  ·exact .inr (.inr ⟨y,x,hy,hx,e.trans (sw x y hx hy)⟩)
 ·rintro (q | q | ⟨x,y,hx,hy,e⟩)
  ·exact .inr (.inl q)
  ·exact .inl q
  ·exact .inr (.inr ⟨y,x,hy,hx,e.trans (sw y x hy hx).symm⟩)
theorem MgA.comm {a b m m':List Ce} (oa:∀ c∈a,AgOk c.g) (ob:∀ c∈b,AgOk c.g) (h:MgA a b m) (h':MgA b a m'):m.map Ce.key=m'.map Ce.key:=by
 by_cases r:csR a=true/\csR b=true
 ·rcases h.cases r.1 r.2 with ⟨ka,M,m1,q⟩ | ⟨nk,rfl⟩
  ·rcases h'.cases r.2 r.1 with ⟨_,M',m2,q'⟩ | ⟨nk,rfl⟩
   ·have e:=Qpk r.1 r.2 oa ob m1 m2
    have el:=QcS e;by_cases hl:M.length<=60
    ·rw [if_pos hl] at q
     rw [if_pos (by omega)] at q';rw [q,q',e]
    ·rw [if_neg hl] at q
     rw [if_neg (by omega)] at q';rw [q,q']
   ·exact absurd ka.symm nk
  ·rcases h'.cases r.2 r.1 with ⟨ka,_⟩ | ⟨_,rfl⟩
   ·exact absurd ka.symm nk
   ·rfl
 ·unfold MgA at h h'
  rw [if_neg r] at h;rw [if_neg (fun q=>r ⟨q.2,q.1⟩)] at h';rw [h,h']
end Go.Proofs.YtandnmpllheniaaGreatDoor
