/-
 A new Agg brings nothing to another one.
-/
import Derived.Test.YthchmdmncmioiaaGreatDoorRMA
namespace Go.Proofs.YthchmdmncmioiaaGreatDoor
set_option linter.unusedVariables false
set_option linter.unusedSimpArgs false
open Go.ChangeShapes Go.WideShapes Go.ChangeAt Go.RowKit Go.PlainAid Go.Lib
set_option maxRecDepth 10000
theorem mg_emptyN {E R E' R':List Int} (h:hlB E R=true) (m:Mg E R [] [] E' R'):E'=E∧R'=R:=by
 have c1:=Can.self h;have c2:=Can.self (E:=[]) (R:=[]) (by decide);have a:=mg_can c1 c2 m;refine a.one c1 ?_ (fun x=>?_) ?_
 ·simp
 ·simp [mem_uniU]
 ·have:padR []=zer:=rfl
  rw [this];exact mx_zer c1.okB
theorem addH_0N {h l:Int} (hh:I64 h) (hl:U64 l):addH h l 0 0=h:=by
 unfold addH addC;unfold U64 at hl;unfold I64 at hh;unfold wrap64;omega
theorem addL_0N {l:Int} (hl:U64 l):addL l 0=l:=by
 unfold addL uw;unfold U64 at hl;omega
theorem mrg_newN {b o:Ag} (ok:AgOk b) (r:agB b=true) (h:AgMrg b (agNew b.k) o):o=b:=by
 have n:=agB_no r;have e:agNew b.k=⟨b.k,0,0,0,0,if b.k=2 then -1 else 0,0,[],[],0,0,[],[]⟩:=by unfold agNew;rw [if_pos ⟨n.k1,n.k4⟩]
 have rn:=(agNew_all n.k1 n.k4).1;have ek:(agNew b.k).k=b.k:=by rw [e]
 unfold AgMrg at h;rw [if_pos ⟨r,rn,ek.symm⟩] at h;obtain ⟨E,R,m,rfl⟩:=h;rw [e] at m ⊢;obtain ⟨rfl,rfl⟩:=mg_emptyN n.hl m;have sP:=(binsB_iff.1 (skB_and.1 n.sk).1).1;have sN:=(binsB_iff.1 (skB_and.1 n.sk).2).1;unfold agMg;dsimp only;rw [wAdd_0 ok.s,wAdd_0 ok.z,mrg_nil',mrg_nil',keep_same sP,keep_same sN,addH_0N ok.h ok.l,addH_0N ok.x ok.y,addL_0N ok.l,addL_0N ok.y];by_cases e2:b.k=2
 ·rw [if_pos e2,if_pos e2,if_pos e2]
  have t:=agB_tail r e2
  have hL:¬ gLate b.a b.t 0 (-1)=true:=by
   unfold tail2 at t;unfold gLate;simp only [Bool.and_eq_true,Bool.or_eq_true,decide_eq_true_eq,beq_iff_eq] at t ⊢;omega
  rw [(gA_not hL).1,(gA_not hL).2]
 ·rw [if_neg e2,if_neg e2]
  obtain ⟨q1,q2⟩:=n.ng e2;obtain ⟨k,s,h,l,a,t,z,P,N,x,y,E,R⟩:=b;simp only at q1 q2;subst q1;subst q2
  rfl
theorem mg_emptyM {E R E' R':List Int} (h:hlB E R=true) (m:Mg [] [] E R E' R'):E'=E∧R'=R:=by
 have c1:=Can.self h;have c2:=Can.self (E:=[]) (R:=[]) (by decide);have a:=mg_can c2 c1 m;refine a.one c1 ?_ (fun x=>?_) ?_
 ·simp
 ·simp [mem_uniU]
 ·rw [mx_comm c2.okB c1.okB]
  have:padR []=zer:=rfl;rw [this];exact mx_zer c1.okB
theorem new_mrg {b o:Ag} (ok:AgOk b) (r:agB b=true) (h:AgMrg (agNew b.k) b o):o=b:=by
 have n:=agB_no r;have e:agNew b.k=⟨b.k,0,0,0,0,if b.k=2 then -1 else 0,0,[],[],0,0,[],[]⟩:=by unfold agNew;rw [if_pos ⟨n.k1,n.k4⟩]
 have rn:=(agNew_all n.k1 n.k4).1;have ek:(agNew b.k).k=b.k:=by rw [e]
 unfold AgMrg at h;rw [if_pos ⟨rn,r,ek⟩] at h;obtain ⟨E,R,m,rfl⟩:=h;rw [e] at m ⊢;obtain ⟨rfl,rfl⟩:=mg_emptyM n.hl m;have sP:=(binsB_iff.1 (skB_and.1 n.sk).1).1;have sN:=(binsB_iff.1 (skB_and.1 n.sk).2).1;have w0:∀ {z:Int},U64 z→wAdd 0 z=z:=fun {z} hz=>by unfold wAdd;unfold U64 at hz;rw [if_neg (by omega),Int.zero_add]
 have h0:∀ {h l:Int},I64 h→U64 l→addH 0 0 h l=h:=fun {h l} hh hl=>by
  unfold addH addC;unfold U64 at hl;unfold I64 at hh;unfold wrap64;omega
 have l0:∀ {l:Int},U64 l→addL 0 l=l:=fun {l} hl=>by unfold addL uw;unfold U64 at hl;omega
 unfold agMg;dsimp only;rw [w0 ok.s,w0 ok.z,mrg_nil,mrg_nil,keep_same sP,keep_same sN,h0 ok.h ok.l,h0 ok.x ok.y,l0 ok.l,l0 ok.y];by_cases e2:b.k=2
 ·rw [if_pos e2,if_pos e2,if_pos e2]
  have t:=agB_tail r e2
  have hg:gA 0 (-1) b.a b.t=b.a∧gT 0 (-1) b.a b.t=b.t:=by
   unfold tail2 at t;unfold gA gT gLate;simp only [Bool.and_eq_true,Bool.or_eq_true,decide_eq_true_eq,beq_iff_eq] at t ⊢;constructor <;> split <;> omega
  rw [hg.1,hg.2]
 ·rw [if_neg e2,if_neg e2]
  obtain ⟨q1,q2⟩:=n.ng e2;obtain ⟨k,s,h,l,a,t,z,P,N,x,y,E,R⟩:=b;simp only at q1 q2;subst q1;subst q2
  first | rfl | simp
theorem laid_exR {R:List Int}:∀ (L:List Int) (S:Int→Prop) (R':List Int),Laid R S R'→∃ R'',Laid R (fun x=>S x∨x∈L) R''
 | [],S,R',h=>⟨R',h.iff fun x=>by simp⟩
 | y :: L,S,R',h=>by
  obtain ⟨R'',k⟩:=laid_exR L (fun x=>S x∨x=y) _ (h.step (fun x=>Iff.rfl));exact ⟨R'',k.iff fun x=>by simp [or_assoc]⟩
theorem mg_tot (E1 R1 E2 R2:List Int):∃ E R,Mg E1 R1 E2 R2 E R:=by
 by_cases q:R1.length=0∧R2.length=0∧(allU E1 E2).length≤40
 ·exact ⟨_,_,.inl ⟨q.1,q.2.1,q.2.2,rfl,rfl⟩⟩
 ·obtain ⟨R,k⟩:=laid_exR (R:=mxL (padR R1) R2 R2.length) (allU E1 E2) (fun _=>False) _ (Laid.start _ fun _ x=>x)
  exact ⟨[],R,.inr ⟨q,rfl,k.iff fun x=>by simp⟩⟩
theorem mrg_tot (g g':Ag):∃ o,AgMrg g g' o:=by
 unfold AgMrg
 split
 ·obtain ⟨E,R,h⟩:=mg_tot g.E g.R g'.E g'.R
  exact ⟨_,E,R,h,rfl⟩
 ·exact ⟨_,rfl⟩
theorem put_tot (g:Ag) (x:Sx):∃ o,AgPut g x o:=by
 unfold AgPut
 split
 ·exact mrg_tot _ _
 ·exact ⟨_,rfl⟩
noncomputable def mrgF (g g':Ag):Ag:=Classical.choose (mrg_tot g g')
theorem mrgF_h (g g':Ag):AgMrg g g' (mrgF g g'):=Classical.choose_spec (mrg_tot g g')
theorem mrgF_eq {g g' o:Ag} (h:AgMrg g g' o):o=mrgF g g':=h.one (mrgF_h g g')
noncomputable def putF (g:Ag) (x:Sx):Ag:=Classical.choose (put_tot g x)
theorem putF_h (g:Ag) (x:Sx):AgPut g x (putF g x):=Classical.choose_spec (put_tot g x)
theorem putF_eq {g o:Ag} {x:Sx} (h:AgPut g x o):o=putF g x:=h.one (putF_h g x)
structure AgG (k:Int) (g:Ag):Prop where
 r:agB g=true
 o:AgOk g
 k:g.k=k
structure SxG (k:Int) (x:Sx):Prop where
 o:x.Ok
 b:x.B=true
 k:x.k=k
theorem AgG.put {k:Int} {g:Ag} {x:Sx} (h:AgG k g) (q:SxG k x):AgG k (putF g x):=by
 obtain ⟨a,b,c⟩:=put_stays q.o h.o (putF_h g x);exact ⟨b h.r,a,c.trans h.k⟩
theorem AgG.r2 {k:Int} {g g':Ag} (h:AgG k g) (h':AgG k g'):AgR2 g g':=⟨h.r,h'.r,h.k.trans h'.k.symm⟩
theorem mrgF_comm {k:Int} {g g':Ag} (h:AgG k g) (h':AgG k g'):mrgF g g'=mrgF g' g:=mrg_commA (h.r2 h') (mrgF_h _ _) (mrgF_h _ _)
theorem mrgF_put {k:Int} {a b:Ag} {x:Sx} (h:AgG k a) (h':AgG k b) (q:SxG k x):mrgF a (putF b x)=putF (mrgF a b) x:=by
 rw [mrgF_comm h (h'.put q),mrgF_comm h h'];exact put_mrgA q.o (h'.r2 h) h'.o h.o (putF_h b x) (mrgF_h _ _) (mrgF_h _ _) (putF_h _ _)
noncomputable def fo (k:Int) (xs:List Sx):Ag:=xs.foldl putF (agNew k)
theorem fold_good {k:Int}:∀ (xs:List Sx) {g:Ag},AgG k g→(∀ x∈xs,SxG k x)→AgG k (xs.foldl putF g)
 | [],g,h,_=>h
 | x :: xs,g,h,q=>fold_good xs (h.put (q x (List.mem_cons_self ..))) (fun y hy=>q y (List.mem_cons_of_mem _ hy))
theorem new_good {k:Int} (h1:1≤k) (h4:k≤4):AgG k (agNew k):=by
 obtain ⟨a,b,_,c,_⟩:=agNew_all h1 h4;exact ⟨a,b,c⟩
theorem kind_in {k:Int} {x:Sx} (h:SxG k x):1≤k∧k≤4:=by
 have:=(smp_parts h.b).1;rw [h.k] at this;exact this
theorem fo_good {k:Int} {xs:List Sx} (h0:xs≠[]) (q:∀ x∈xs,SxG k x):AgG k (fo k xs):=by
 cases xs with
 | nil=>exact absurd rfl h0
 | cons x xs=>
  obtain ⟨a,b⟩:=kind_in (q x (List.mem_cons_self ..));exact fold_good _ (new_good a b) q
theorem fold_mrg {k:Int} {a:Ag} (ha:AgG k a):∀ (ys:List Sx) {b:Ag},AgG k b→(∀ x∈ys,SxG k x)→mrgF a (ys.foldl putF b)=ys.foldl putF (mrgF a b)
 | [],b,_,_=>rfl
 | y :: ys,b,hb,q=>by
  have qy:=q y (List.mem_cons_self ..)
  show mrgF a (ys.foldl putF (putF b y))=ys.foldl putF (putF (mrgF a b) y)
  rw [fold_mrg ha ys (hb.put qy) (fun z hz=>q z (List.mem_cons_of_mem _ hz)),mrgF_put ha hb qy]
theorem fo_mrg {k:Int} {xs ys:List Sx} (h0:xs≠[]) (qx:∀ x∈xs,SxG k x) (qy:∀ x∈ys,SxG k x):mrgF (fo k xs) (fo k ys)=fo k (xs ++ ys):=by
 have ga:=fo_good h0 qx;obtain ⟨x,hx⟩:∃ x,x∈xs:=List.exists_mem_of_ne_nil _ h0;obtain ⟨a,b⟩:=kind_in (qx x hx)
 have e:mrgF (fo k xs) (agNew k)=fo k xs:=by
  have:=mrgF_h (fo k xs) (agNew k);have e2:agNew k=agNew (fo k xs).k:=by rw [ga.k]
  rw [e2] at this;rw [e2];exact mrg_newN ga.o ga.r this
 show mrgF (fo k xs) (ys.foldl putF (agNew k))=(xs ++ ys).foldl putF (agNew k)
 rw [fold_mrg ga ys (new_good a b) qy,e,List.foldl_append]
 rfl
theorem fo_comm {k:Int} {xs ys:List Sx} (qx:∀ x∈xs,SxG k x) (qy:∀ x∈ys,SxG k x):fo k (xs ++ ys)=fo k (ys ++ xs):=by
 by_cases h1:xs=[]
 ·subst h1;simp
 by_cases h2:ys=[]
 ·subst h2;simp
 rw [← fo_mrg h1 qx qy,← fo_mrg h2 qy qx];exact mrgF_comm (fo_good h1 qx) (fo_good h2 qy)
theorem asc_ext:∀ {L M:List Ce},AscC L→AscC M→(∀ k,k∈L.map Ce.key↔k∈M.map Ce.key)→L.map Ce.key=M.map Ce.key
 | [],[],_,_,_=>rfl
 | [],d :: M,_,_,h=>absurd ((h d.key).2 (by simp)) (by simp)
 | c :: L,[],_,_,h=>absurd ((h c.key).1 (by simp)) (by simp)
 | c :: L,d :: M,a,b,h=>by
  obtain ⟨a1,a2⟩:=List.pairwise_cons.1 a;obtain ⟨b1,b2⟩:=List.pairwise_cons.1 b
  have nc:c.key ∉ L.map Ce.key:=fun q=>by
   obtain ⟨l,hl,e⟩:=List.mem_map.1 q;have:=a1 l hl;rw [cAh_key rfl e,cAh_irr] at this
   cases this
  have nd:d.key ∉ M.map Ce.key:=fun q=>by
   obtain ⟨l,hl,e⟩:=List.mem_map.1 q;have:=b1 l hl;rw [cAh_key rfl e,cAh_irr] at this
   cases this
  have e:c.key=d.key:=by
   have h1:=(h c.key).1 (by simp);have h2:=(h d.key).2 (by simp);rw [List.map_cons,List.mem_cons] at h1 h2;rcases h1 with h1 | h1
   ·exact h1
   ·rcases h2 with h2 | h2
    ·exact h2.symm
    ·obtain ⟨m,hm,e1⟩:=List.mem_map.1 h1
     obtain ⟨l,hl,e2⟩:=List.mem_map.1 h2;have q1:=b1 m hm;rw [cAh_key rfl e1] at q1;have q2:=a1 l hl;rw [cAh_key rfl e2] at q2;rw [cAh_ant q1] at q2
     cases q2
  rw [List.map_cons,List.map_cons,e]
  congr 1
  refine asc_ext a2 b2 (fun k=>⟨fun q=>?_,fun q=>?_⟩)
  ·have:=(h k).1 (by rw [List.map_cons];exact List.mem_cons_of_mem _ q)
   rw [List.map_cons,List.mem_cons] at this;rcases this with r | r
   ·exact absurd (by rw [e,← r];exact q) nc
   ·exact r
  ·have:=(h k).2 (by rw [List.map_cons];exact List.mem_cons_of_mem _ q)
   rw [List.map_cons,List.mem_cons] at this;rcases this with r | r
   ·exact absurd (by rw [← e,← r];exact q) nd
   ·exact r
theorem ptl_mem {L R:List Ce} {n:Int} {s:ByteArray} {o:Ag} (h:PtL L n s o R) (k:Int×ByteArray×Ag):k∈R.map Ce.key↔k=(n,s,o)∨(k∈L.map Ce.key∧¬ (k.1=n∧k.2.1=s)):=by
 unfold PtL at h;rw [h,List.mem_append,List.mem_cons];constructor
 ·rintro (q | q | q)
  ·obtain ⟨c,hc,rfl⟩:=List.mem_map.1 q
   obtain ⟨h1,h2⟩:=List.mem_filter.1 hc;exact .inr ⟨List.mem_map.2 ⟨c,h1,rfl⟩,fun e=>cAh_ne h2 ⟨e.1,e.2⟩⟩
  ·exact .inl q
  ·obtain ⟨c,hc,rfl⟩:=List.mem_map.1 q
   obtain ⟨h1,h2⟩:=List.mem_filter.1 hc;exact .inr ⟨List.mem_map.2 ⟨c,h1,rfl⟩,fun e=>cAh_ne h2 ⟨e.1.symm,e.2.symm⟩⟩
 ·rintro (q | ⟨q,ne⟩)
  ·exact .inr (.inl q)
  ·obtain ⟨c,hc,rfl⟩:=List.mem_map.1 q
   cases h1:loF n s c with
   | true=>exact .inl (List.mem_map.2 ⟨c,List.mem_filter.2 ⟨hc,h1⟩,rfl⟩)
   | false=>
    cases h2:hiF n s c with
    | true=>exact .inr (.inr (List.mem_map.2 ⟨c,List.mem_filter.2 ⟨hc,h2⟩,rfl⟩))
    | false=>
     have:=cAh_tot h1 h2;exact absurd ⟨this.1,this.2⟩ ne
open Classical in
noncomputable def sel (L:List St) (n:Int) (s:ByteArray):List Sx:=(L.filter (fun t=>decide (t.n=n∧t.x.se=s))).map St.x
theorem sel_app (A B:List St) (n:Int) (s:ByteArray):sel (A ++ B) n s=sel A n s ++ sel B n s:=by simp [sel]
theorem sel_mem {L:List St} {n:Int} {s:ByteArray} {x:Sx}:x∈sel L n s↔∃ t∈L,t.n=n∧t.x.se=s∧t.x=x:=by
 unfold sel;simp only [List.mem_map,List.mem_filter,decide_eq_true_eq];exact ⟨fun ⟨t,⟨h1,h2,h3⟩,h4⟩=>⟨t,h1,h2,h3,h4⟩,fun ⟨t,h1,h2,h3,h4⟩=>⟨t,⟨h1,h2,h3⟩,h4⟩⟩
theorem sel_yes (t:St):sel [t] t.n t.x.se=[t.x]:=by simp [sel]
theorem sel_no {t:St} {n:Int} {s:ByteArray} (h:¬ (t.n=n∧t.x.se=s)):sel [t] n s=[]:=by simp [sel,h]
structure StA (L:List St):Prop where
 ok:∀ t∈L,t.x.Ok
 r:∀ t∈L,StR t
 k:∀ t∈L,∀ u∈L,t.n=u.n→t.x.se=u.x.se→t.x.k=u.x.k
theorem StA.sx {L:List St} (h:StA L) {n:Int} {s:ByteArray} {y:Sx} (hy:y∈sel L n s):∀ x∈sel L n s,SxG y.k x:=fun x hx=>by
 obtain ⟨u,hu,u1,u2,rfl⟩:=sel_mem.1 hy;obtain ⟨t,ht,t1,t2,rfl⟩:=sel_mem.1 hx;exact ⟨h.ok t ht,(h.r t ht).1,h.k t ht u hu (t1.trans u1.symm) (t2.trans u2.symm)⟩
structure CoM (L:List St) (R:List Ce):Prop where
 asc:AscC R
 mem:∀ n s g,(n,s,g)∈R.map Ce.key↔∃ y∈sel L n s,g=fo y.k (sel L n s)
theorem CoM.has {L:List St} {R:List Ce} (h:CoM L R) {n:Int} {s:ByteArray}:HasK R n s↔sel L n s≠[]:=by
 constructor
 ·rintro ⟨c,hc,rfl,rfl⟩ e
  obtain ⟨y,hy,_⟩:=(h.mem c.n c.s c.g).1 (List.mem_map.2 ⟨c,hc,rfl⟩);rw [e] at hy
  cases hy
 ·intro e
  obtain ⟨y,hy⟩:=List.exists_mem_of_ne_nil _ e;obtain ⟨c,hc,q⟩:=List.mem_map.1 ((h.mem n s _).2 ⟨y,hy,rfl⟩);obtain ⟨q1,q2,_⟩:=Prod.mk.inj q |>.imp id Prod.mk.inj
  exact ⟨c,hc,q1,q2⟩
theorem mem_key {R:List Ce} {n:Int} {s:ByteArray} {g:Ag}:(n,s,g)∈R.map Ce.key↔∃ c∈R,c.n=n∧c.s=s∧c.g=g:=by
 simp only [List.mem_map,Ce.key,Prod.mk.injEq]
theorem fo_snoc (k:Int) (xs:List Sx) (x:Sx):fo k (xs ++ [x])=putF (fo k xs) x:=by simp [fo]
theorem CoI.m {L:List St} {R:List Ce} (h:CoI L R):(∀ s∈L,s.x.Ok)→StA L∧CoM L R:=by
 induction h with
 | nil=>exact fun _=>⟨⟨by simp,by simp,by simp⟩,⟨.nil,fun n s g=>by simp [sel]⟩⟩
 | snoc L R R' t h f p ih=>
  intro ok;obtain ⟨sa,m⟩:=ih (fun s hs=>ok s (by simp [hs]));have ot:=ok t (by simp)
  have hgen:∀ (g0 o:Ag),AgPut g0 t.x o→PtL R t.n t.x.se o R'→(∀ x∈sel L t.n t.x.se,x.k=t.x.k)→g0=fo t.x.k (sel L t.n t.x.se)→StA (L ++ [t])∧CoM (L ++ [t]) R':=by
   intro g0 o hp hR hk e0;refine ⟨⟨ok,fun u hu=>?_,fun u hu v hv e1 e2=>?_⟩,ptl_asc hR m.asc,fun n s g=>?_⟩
   ·rcases List.mem_append.1 hu with q | q
    ·exact sa.r u q
    ·obtain rfl:u=t:=by simpa using q
     exact f
   ·rcases List.mem_append.1 hu with q | q <;> rcases List.mem_append.1 hv with q' | q'
    ·exact sa.k u q v q' e1 e2
    ·obtain rfl:v=t:=by simpa using q'
     exact hk _ (sel_mem.2 ⟨u,q,e1,e2,rfl⟩)
    ·obtain rfl:u=t:=by simpa using q
     exact (hk _ (sel_mem.2 ⟨v,q',e1.symm,e2.symm,rfl⟩)).symm
    ·obtain rfl:u=t:=by simpa using q
     obtain rfl:v=u:=by simpa using q'
     rfl
   ·rw [ptl_mem hR,sel_app]
    by_cases hs:t.n=n∧t.x.se=s
    ·obtain ⟨rfl,rfl⟩:=hs
     rw [sel_yes]
     have kk:∀ y∈sel L t.n t.x.se ++ [t.x],y.k=t.x.k:=fun y hy=>by
      rcases List.mem_append.1 hy with q | q
      ·exact hk y q
      ·obtain rfl:y=t.x:=by simpa using q
       rfl
     have eo:o=fo t.x.k (sel L t.n t.x.se ++ [t.x]):=by rw [fo_snoc,← e0];exact putF_eq hp
     constructor
     ·rintro (q | ⟨_,q⟩)
      ·simp only [Prod.mk.injEq,true_and] at q
       exact ⟨t.x,by simp,by rw [q];exact eo⟩
      ·exact absurd ⟨rfl,rfl⟩ q
     ·rintro ⟨y,hy,e⟩
      left
      rw [e,kk y hy,← eo]
    ·rw [sel_no hs,List.append_nil,← m.mem]
     constructor
     ·rintro (q | ⟨q,_⟩)
      ·simp only [Prod.mk.injEq] at q
       exact absurd ⟨q.1.symm,q.2.1.symm⟩ hs
      ·exact q
     ·intro q
      exact .inr ⟨q,fun e=>hs ⟨e.1.symm,e.2.symm⟩⟩
  generalize hc0:(0:Int)=c0 at p
  cases p with
  | kind=>exact absurd hc0 (by decide)
  | full=>exact absurd hc0 (by decide)
  | there c o R' hc k1 k2 hk hp hR=>
   obtain ⟨y,hy,e⟩:=(m.mem t.n t.x.se c.g).1 (mem_key.2 ⟨c,hc,k1,k2,rfl⟩);have q:=sa.sx hy;have e2:y.k=t.x.k:=by rw [← hk,e];exact (fo_good (List.ne_nil_of_mem hy) q).k.symm
   exact hgen c.g o hp hR (fun x hx=>(q x hx).k.trans e2) (by rw [← e2];exact e)
  | new o R' hno hl hp hR=>
   have e:sel L t.n t.x.se=[]:=by
    by_cases q:sel L t.n t.x.se=[]
    ·exact q
    ·exact absurd (m.has.2 q) hno
   exact hgen (agNew t.x.k) o hp hR (by rw [e];simp) (by rw [e];rfl)
theorem nodup_len {α:Type}:∀ {K M:List α},K.Nodup→(∀ a∈K,a∈M)→K.length≤M.length
 | [],M,_,_=>by simp
 | a :: K,M,h,s=>by
  classical
  obtain ⟨h1,h2⟩:=List.nodup_cons.1 h;have hm:=s a (List.mem_cons_self ..);have:=nodup_len (M:=M.erase a) h2 (fun b hb=>(List.mem_erase_of_ne (fun e=>h1 (by rw [← e];exact hb))).2 (s b (List.mem_cons_of_mem _ hb)));rw [List.length_erase_of_mem hm] at this;have:=List.length_pos_of_mem hm;rw [List.length_cons];omega
theorem asc_nodup {M:List Ce} (h:AscC M):(M.map (fun c=>(c.n,c.s))).Nodup:=by
 refine List.pairwise_map.2 (List.Pairwise.imp (fun {a b} q=>?_) h);intro e;simp only [Prod.mk.injEq] at e;exact cAh_ne q ⟨e.1,e.2⟩
theorem CoR.sub {L L':List St} {R R':List Ce} {c:Int} (h:CoI L R) (ok:∀ s∈L,s.x.Ok) (hs:∀ t∈L',t∈L) (hl:¬ 400<L'.length) (k:CoR L' R' c):c=0∧CoI L' R':=by
 obtain ⟨sa,m⟩:=h.m ok;have l60:=(csR_iff.1 (h.right ok).1).1;have tk:∀ i t,t∈L'.take i→t∈L:=fun i t ht=>hs t (List.mem_of_mem_take ht)
 cases k with
 | size q=>exact absurd q hl
 | ok R q m=>exact ⟨rfl,m⟩
 | form q i s M e m' f=>exact absurd (sa.r s (hs s (List.mem_of_getElem? e))) f
 | fall q i s M code e m' f p z=>
  exfalso
  have hsl:=hs s (List.mem_of_getElem? e);obtain ⟨sa',m2⟩:=m'.m (fun t ht=>ok t (tk i t ht))
  cases p with
  | kind c hc k1 k2 hk=>
   obtain ⟨y,hy,e3⟩:=(m2.mem s.n s.x.se c.g).1 (mem_key.2 ⟨c,hc,k1,k2,rfl⟩);have e4:c.g.k=y.k:=by rw [e3];exact (fo_good (List.ne_nil_of_mem hy) (sa'.sx hy)).k
   obtain ⟨u,hu,u1,u2,rfl⟩:=sel_mem.1 hy;exact hk (e4.trans (sa.k u (tk i u hu) s hsl u1 u2))
  | there=>exact z rfl
  | new=>exact z rfl
  | full hn hl'=>
   have nd:((s.n,s.x.se) :: M.map (fun c=>(c.n,c.s))).Nodup:=List.nodup_cons.2 ⟨fun q=>by
    obtain ⟨c,hc,e⟩:=List.mem_map.1 q;simp only [Prod.mk.injEq] at e;exact hn ⟨c,hc,e.1,e.2⟩,asc_nodup m2.asc⟩
   have su:∀ a∈(s.n,s.x.se) :: M.map (fun c=>(c.n,c.s)),a∈R.map (fun c=>(c.n,c.s)):=fun a ha=>by
    have:HasK R a.1 a.2:=by
     rw [m.has];rcases List.mem_cons.1 ha with rfl | ha
     ·exact List.ne_nil_of_mem (sel_mem.2 ⟨s,hsl,rfl,rfl,rfl⟩)
     ·obtain ⟨c,hc,rfl⟩:=List.mem_map.1 ha
      have hk:HasK M c.n c.s:=⟨c,hc,rfl,rfl⟩;obtain ⟨y,hy⟩:=List.exists_mem_of_ne_nil _ (m2.has.1 hk);obtain ⟨u,hu,u1,u2,u3⟩:=sel_mem.1 hy;exact List.ne_nil_of_mem (sel_mem.2 ⟨u,tk i u hu,u1,u2,u3⟩)
    obtain ⟨d,hd,e1,e2⟩:=this;exact List.mem_map.2 ⟨d,hd,by rw [e1,e2]⟩
   have:=nodup_len nd su;simp only [List.length_cons,List.length_map] at this;omega
theorem CoI.turn {A B:List St} {R R':List Ce} (h:CoI (A ++ B) R) (ok:∀ s∈A ++ B,s.x.Ok) (k:CoI (B ++ A) R'):R'.map Ce.key=R.map Ce.key:=by
 obtain ⟨sa,m⟩:=h.m ok;obtain ⟨sa',m'⟩:=k.m (fun s hs=>ok s (by simp only [List.mem_append] at hs ⊢; exact hs.symm))
 have q:∀ n s y,y∈sel A n s ++ sel B n s→fo y.k (sel A n s ++ sel B n s)=fo y.k (sel B n s ++ sel A n s):=fun n s y hy=>by
  have g:=sa.sx (n:=n) (s:=s) (y:=y) (by rw [sel_app];exact hy);rw [sel_app] at g;exact fo_comm (fun x hx=>g x (by simp [hx])) (fun x hx=>g x (by simp [hx]))
 refine asc_ext m'.asc m.asc (fun ⟨n,s,g⟩=>?_);rw [m'.mem,m.mem,sel_app,sel_app];constructor
 ·rintro ⟨y,hy,e⟩
  have hy':y∈sel A n s ++ sel B n s:=by simp only [List.mem_append] at hy ⊢; exact hy.symm
  exact ⟨y,hy',by rw [e,q n s y hy']⟩
 ·rintro ⟨y,hy,e⟩
  have hy':y∈sel B n s ++ sel A n s:=by simp only [List.mem_append] at hy ⊢; exact hy.symm
  exact ⟨y,hy',by rw [e,q n s y hy]⟩
end Go.Proofs.YthchmdmncmioiaaGreatDoor
