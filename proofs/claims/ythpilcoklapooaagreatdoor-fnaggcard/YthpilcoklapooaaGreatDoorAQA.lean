/-
 Aggs brought together in any order. The mathematics.
-/
import Derived.Test.YthpilcoklapooaaGreatDoorAPA
namespace Go.Proofs.YthpilcoklapooaaGreatDoor
set_option linter.unusedVariables false
set_option linter.unusedSimpArgs false
open Go.ChangeShapes Go.WideShapes Go.ChangeAt Go.RowKit Go.PlainAid Go.Lib
set_option maxRecDepth 10000
/-- The later of two gauges: by its time, then by its value. -/
theorem gA_comm (a t a' t':Int):gA a t a' t'=gA a' t' a t∧gT a t a' t'=gT a' t' a t:=by
 unfold gA gT gLate
 simp only [Bool.or_eq_true,Bool.and_eq_true,decide_eq_true_eq,beq_iff_eq]
 constructor <;> (split <;> split <;> omega)
theorem gA_swap (a t b u c v:Int):gA (gA a t b u) (gT a t b u) c v=gA (gA a t c v) (gT a t c v) b u∧gT (gA a t b u) (gT a t b u) c v=gT (gA a t c v) (gT a t c v) b u:=by
 unfold gA gT gLate
 simp only [Bool.or_eq_true,Bool.and_eq_true,decide_eq_true_eq,beq_iff_eq]
 by_cases h1:t<u∨u=t∧a<b
 ·by_cases h2:t<v∨v=t∧a<c
  ·simp only [h1,h2,if_true]
   constructor <;> (split <;> split <;> omega)
  ·simp only [h1,h2,if_true,if_false]
   constructor <;> (split <;> omega)
 ·by_cases h2:t<v∨v=t∧a<c
  ·simp only [h1,h2,if_true,if_false]
   constructor <;> (split <;> omega)
  ·simp only [h1,h2,if_false]
   exact ⟨trivial,trivial⟩
theorem mg_comm {E R F S A B C D:List Int} (h1:hlB E R=true) (h2:hlB F S=true) (p:Mg E R F S A B) (q:Mg F S E R C D):A=C∧B=D:=by
 have p':MrgH E R F S A B:=by unfold MrgH;rw [if_pos ⟨h1,h2⟩];exact p
 have q':MrgH F S E R C D:=by unfold MrgH;rw [if_pos ⟨h2,h1⟩];exact q
 exact mrg_same p' q'
theorem mg_swap {E R F S H T A1 B1 A2 B2 C1 D1 C2 D2:List Int} (h1:hlB E R=true) (h2:hlB F S=true) (h3:hlB H T=true) (p1:Mg E R F S A1 B1) (p2:Mg A1 B1 H T A2 B2) (q1:Mg E R H T C1 D1) (q2:Mg C1 D1 F S C2 D2):A2=C2∧B2=D2:=by
 have c1:=Can.self h1
 have c2:=Can.self h2
 have c3:=Can.self h3
 have a:=mg_can (mg_can c1 c2 p1) c3 p2
 have b:=mg_can (mg_can c1 c3 q1) c2 q2
 refine a.one b ?_ (fun x=>?_) ?_
 ·constructor
  ·rintro ((h | h) | h)
   ·exact .inl (.inl h)
   ·exact .inr h
   ·exact .inl (.inr h)
  ·rintro ((h | h) | h)
   ·exact .inl (.inl h)
   ·exact .inr h
   ·exact .inl (.inr h)
 ·simp only [mem_uniU]
  constructor
  ·rintro ((h | h) | h)
   ·exact .inl (.inl h)
   ·exact .inr h
   ·exact .inl (.inr h)
  ·rintro ((h | h) | h)
   ·exact .inl (.inl h)
   ·exact .inr h
   ·exact .inl (.inr h)
 ·rw [mx_assoc c1.okB c2.okB c3.okB,mx_comm c2.okB c3.okB,← mx_assoc c1.okB c3.okB c2.okB]
/-- Right Aggs of one kind. -/
structure AgR2 (g g':Ag):Prop where
 r:agB g=true
 r':agB g'=true
 k:g.k=g'.k
theorem AgMrg.get {g g' o:Ag} (h:AgMrg g g' o) (q:AgR2 g g'):∃ E R,Mg g.E g.R g'.E g'.R E R∧o=agMg g g' E R:=by
 unfold AgMrg at h
 rw [if_pos ⟨q.r,q.r',q.k⟩] at h
 exact h
/-- What makes an Agg right. -/
theorem agB_of {g:Ag} (n:AgNo g) (h2:g.k=2→tail2 g=true):agB g=true:=by
 have c1:=n.k1
 have c4:=n.k4
 have a0:(decide (1≤g.k) && decide (g.k≤4))=true:=by rw [decide_eq_true c1,decide_eq_true c4];rfl
 have a1:((g.k == 1) || sumZ g)=true:=by
  by_cases e:g.k=1
  ·rw [e];rfl
  ·obtain ⟨q1,q2⟩:=n.nc e
   unfold sumZ;rw [q1,q2];simp
 have a3:((g.k == 3) || noS g)=true:=by
  by_cases e:g.k=3
  ·rw [e];rfl
  ·rw [(noS_iff g).2 (n.nh e)];simp
 have a4:((g.k == 4) || noH g)=true:=by
  by_cases e:g.k=4
  ·rw [e];rfl
  ·rw [(noH_iff g).2 (n.ns e)];simp
 have a2:(if g.k=2 then tail2 g else (g.a == 0) && (g.t == 0))=true:=by
  by_cases e:g.k=2
  ·rw [if_pos e];exact h2 e
  ·rw [if_neg e]
   obtain ⟨q1,q2⟩:=n.ng e
   rw [q1,q2];rfl
 unfold agB
 rw [a0,n.sk,n.hl,a1,a3,a4,a2]
 rfl
theorem agB_tail {g:Ag} (h:agB g=true) (e:g.k=2):tail2 g=true:=by
 unfold agB at h
 simp only [Bool.and_eq_true] at h
 have:=h.2
 rw [if_pos e] at this
 exact this
theorem reg_i64 {E R:List Int} (h:hlB E R=true):∀ b∈R,I64 b:=fun b hb=>by
 unfold hlB at h
 split at h
 ·rename_i h0
  rw [List.eq_nil_of_length_eq_zero h0] at hb
  cases hb
 ·simp only [Bool.and_eq_true,regB,List.all_eq_true,inR,decide_eq_true_eq] at h
  have:=h.2.2 b hb
  unfold I64
  omega
theorem mrg_stays {g g' o:Ag} (q:AgR2 g g') (ok:AgOk g) (ok':AgOk g') (h:AgMrg g g' o):agB o=true∧AgOk o∧o.k=g.k:=by
 obtain ⟨E,R,m,rfl⟩:=h.get q
 have n:=agB_no q.r
 have n':=agB_no q.r'
 have ek:=q.k
 have mm:MrgH g.E g.R g'.E g'.R E R:=by unfold MrgH;rw [if_pos ⟨n.hl,n'.hl⟩];exact m
 have hl:=mrg_right n.hl n'.hl mm
 refine ⟨agB_of ⟨n.k1,n.k4,sk_mrg n.sk n'.sk ok.P ok.N ok'.P ok'.N,hl,fun e=>?_,fun e=>?_,fun e=>?_,fun e=>?_⟩ (fun e=>?_),?_,rfl⟩
 ·obtain ⟨a1,a2⟩:=n.nc e
  obtain ⟨b1,b2⟩:=n'.nc (by rw [← ek];exact e)
  show addH g.h g.l g'.h g'.l=0∧addL g.l g'.l=0
  rw [a1,a2,b1,b2];exact ⟨addH_nil,addL_nil⟩
 ·show (if g.k=2 then gA g.a g.t g'.a g'.t else 0)=0∧(if g.k=2 then gT g.a g.t g'.a g'.t else 0)=0
  have e':¬ g.k=2:=e
  rw [if_neg e',if_neg e'];exact ⟨rfl,rfl⟩
 ·obtain ⟨a1,a2,a3,a4,a5⟩:=n.nh e
  obtain ⟨b1,b2,b3,b4,b5⟩:=n'.nh (by rw [← ek];exact e)
  show wAdd g.z g'.z=0∧addH g.x g.y g'.x g'.y=0∧addL g.y g'.y=0∧keepL (mrg g.P g'.P)=[]∧keepL (mrg g.N g'.N)=[]
  rw [a1,a2,a3,a4,a5,b1,b2,b3,b4,b5]
  exact ⟨wAdd_nil,addH_nil,addL_nil,keep_nil,keep_nil⟩
 ·obtain ⟨a1,a2⟩:=n.ns e
  obtain ⟨b1,b2⟩:=n'.ns (by rw [← ek];exact e)
  rw [a1,a2,b1,b2] at m
  exact m.one mg_nil
 ·have e':g.k=2:=e
  have t1:=agB_tail q.r e'
  have t2:=agB_tail q.r' (by rw [← ek];exact e')
  show tail2 (agMg g g' E R)=true
  unfold tail2 at t1 t2 ⊢
  show (valA (if g.k=2 then gA g.a g.t g'.a g'.t else 0) && (decide (-1≤(if g.k=2 then gT g.a g.t g'.a g'.t else 0)) && decide ((if g.k=2 then gT g.a g.t g'.a g'.t else 0)≤1000000000)) && (decide (0≤(if g.k=2 then gT g.a g.t g'.a g'.t else 0)) || ((if g.k=2 then gA g.a g.t g'.a g'.t else 0) == 0)))=true
  rw [if_pos e',if_pos e']
  by_cases hL:gLate g.a g.t g'.a g'.t=true
  ·rw [(gA_late hL).1,(gA_late hL).2];exact t2
  ·rw [(gA_not hL).1,(gA_not hL).2];exact t1
 ·have s1:=skB_and.1 n.sk
  have s2:=skB_and.1 n'.sk
  refine ⟨ok.k,wAdd_ok ok.s ok'.s,w64_in _,uw_in _,?_,?_,wAdd_ok ok.z ok'.z,w64_in _,uw_in _,(bins_mrg s1.1 s2.1 ok.P ok'.P).2,(bins_mrg s1.2 s2.2 ok.N ok'.N).2,mrg_u64 ok.E ok'.E mm,fun b hb=>?_⟩
  ·show I64 (if g.k=2 then gA g.a g.t g'.a g'.t else 0)
   split
   ·unfold gA;split
    ·exact ok'.a
    ·exact ok.a
   ·unfold I64;omega
  ·show I64 (if g.k=2 then gT g.a g.t g'.a g'.t else 0)
   split
   ·unfold gT;split
    ·exact ok'.t
    ·exact ok.t
   ·unfold I64;omega
  ·exact reg_i64 hl b hb
theorem mrg_commA {g g' o o':Ag} (q:AgR2 g g') (h:AgMrg g g' o) (h':AgMrg g' g o'):o=o':=by
 obtain ⟨E,R,m,rfl⟩:=h.get q
 obtain ⟨E',R',m',rfl⟩:=h'.get ⟨q.r',q.r,q.k.symm⟩
 obtain ⟨rfl,rfl⟩:=mg_comm (agB_no q.r).hl (agB_no q.r').hl m m'
 unfold agMg
 have c1:=sum_comm g.h g.l g'.h g'.l
 have c2:=sum_comm g.x g.y g'.x g'.y
 have c3:=gA_comm g.a g.t g'.a g'.t
 rw [q.k,wAdd_comm g.s,c1.1,c1.2,c2.1,c2.2,c3.1,c3.2,wAdd_comm g.z,keep_comm g.P,keep_comm g.N]
theorem mrg_swapA {g a b u p v q:Ag} (ra:AgR2 g a) (rb:AgR2 g b) (og:AgOk g) (oa:AgOk a) (ob:AgOk b) (h1:AgMrg g a u) (h2:AgMrg u b p) (h3:AgMrg g b v) (h4:AgMrg v a q):p=q:=by
 obtain ⟨ru,ou,ku⟩:=mrg_stays ra og oa h1
 obtain ⟨rv,ov,kv⟩:=mrg_stays rb og ob h3
 obtain ⟨E1,R1,m1,rfl⟩:=h1.get ra
 obtain ⟨E3,R3,m3,rfl⟩:=h3.get rb
 obtain ⟨E2,R2,m2,rfl⟩:=h2.get ⟨ru,rb.r',ku.trans rb.k⟩
 obtain ⟨E4,R4,m4,rfl⟩:=h4.get ⟨rv,ra.r',kv.trans ra.k⟩
 obtain ⟨rfl,rfl⟩:=mg_swap (agB_no ra.r).hl (agB_no ra.r').hl (agB_no rb.r').hl m1 m2 m3 m4
 have n:=agB_no ra.r
 have na:=agB_no ra.r'
 have nb:=agB_no rb.r'
 have sw:∀ {x y z:Int},U64 x→U64 y→U64 z→wAdd (wAdd x y) z=wAdd (wAdd x z) y:=fun {x y z} hx hy hz=>by rw [wAdd_assoc hx hy hz,wAdd_assoc hx hz hy,wAdd_comm y z]
 have t5:=T5.swap (a:=⟨g.z,g.P,g.N,g.x,g.y⟩) (b:=⟨a.z,a.P,a.N,a.x,a.y⟩) (c:=⟨b.z,b.P,b.N,b.x,b.y⟩) ⟨⟨og.z,og.y,og.P,og.N⟩,n.sk⟩ ⟨⟨oa.z,oa.y,oa.P,oa.N⟩,na.sk⟩ ⟨⟨ob.z,ob.y,ob.P,ob.N⟩,nb.sk⟩
 have s5:=T5.swap (a:=⟨g.z,g.P,g.N,g.h,g.l⟩) (b:=⟨a.z,a.P,a.N,a.h,a.l⟩) (c:=⟨b.z,b.P,b.N,b.h,b.l⟩) ⟨⟨og.z,og.l,og.P,og.N⟩,n.sk⟩ ⟨⟨oa.z,oa.l,oa.P,oa.N⟩,na.sk⟩ ⟨⟨ob.z,ob.l,ob.P,ob.N⟩,nb.sk⟩
 unfold T5.M at t5 s5
 simp only [T5.mk.injEq] at t5 s5
 obtain ⟨t1,t2,t3,t4,t6⟩:=t5
 obtain ⟨_,_,_,s4,s6⟩:=s5
 simp only [agMg,Ag.mk.injEq]
 refine ⟨by first | rfl | trivial,sw og.s oa.s ob.s,s4,s6,?_,?_,t1,t2,t3,t4,t6,by first | rfl | trivial,by first | rfl | trivial⟩
 ·by_cases e:g.k=2
  ·simp only [if_pos e];exact (gA_swap _ _ _ _ _ _).1
  ·simp only [if_neg e]
 ·by_cases e:g.k=2
  ·simp only [if_pos e];exact (gA_swap _ _ _ _ _ _).2
  ·simp only [if_neg e]
/-- Puts in either order. -/
theorem oneA_ok {x:Sx} (ox:x.Ok) (hx:x.B=true):AgOk (oneA x):=by
 obtain ⟨p1,p2,p3,p4,p5⟩:=smp_parts hx
 have z:I64 0:=by unfold I64;omega
 have zu:U64 0:=by unfold U64;omega
 have u1:U64 1:=by unfold U64;omega
 have nB:∀ b∈([]:List Bn),BnOk b:=fun b hb=>by cases hb
 have nU:∀ b∈([]:List Int),U64 b:=fun b hb=>by cases hb
 have nI:∀ b∈([]:List Int),I64 b:=fun b hb=>by cases hb
 unfold oneA
 split
 ·exact ⟨by show I64 1;unfold I64;omega,u1,w64_in _,uw_in _,z,z,zu,z,zu,nB,nB,nU,nI⟩
 split
 ·exact ⟨by show I64 2;unfold I64;omega,u1,z,zu,ox.v,ox.ti,zu,z,zu,nB,nB,nU,nI⟩
 split
 ·have g:=one_good p2 ox.wt p3
  exact ⟨by show I64 3;unfold I64;omega,u1,z,zu,z,z,g.hz,w64_in _,uw_in _,g.kP,g.kN,nU,nI⟩
 ·refine ⟨by show I64 4;unfold I64;omega,u1,z,zu,z,z,zu,z,zu,nB,nB,fun b hb=>?_,nI⟩
  obtain rfl:=List.mem_singleton.1 hb
  have:=hx_in x.wd x.wd.size
  unfold hashT U64
  omega
theorem put_stays {g o:Ag} {x:Sx} (ox:x.Ok) (ok:AgOk g) (h:AgPut g x o):AgOk o∧(agB g=true→agB o=true)∧o.k=g.k:=by
 unfold AgPut at h
 split at h
 ·rename_i q
  obtain ⟨r,o',k⟩:=mrg_stays ⟨q.1,oneA_right ox q.2.1,q.2.2.trans (oneA_k q.2.1).symm⟩ ok (oneA_ok ox q.2.1) h
  exact ⟨o',fun _=>r,k⟩
 ·subst h;exact ⟨ok,id,rfl⟩
theorem put_swap {g a b p q:Ag} {x y:Sx} (ox:x.Ok) (oy:y.Ok) (og:AgOk g) (h1:AgPut g x a) (h2:AgPut a y p) (h3:AgPut g y b) (h4:AgPut b x q):p=q:=by
 by_cases hx:agB g=true∧x.B=true∧g.k=x.k
 ·by_cases hy:agB g=true∧y.B=true∧g.k=y.k
  ·have sa:=put_stays ox og h1
   have sb:=put_stays oy og h3
   unfold AgPut at h1 h3
   rw [if_pos hx] at h1
   rw [if_pos hy] at h3
   unfold AgPut at h2 h4
   rw [if_pos ⟨sa.2.1 hx.1,hy.2.1,sa.2.2.trans hy.2.2⟩] at h2
   rw [if_pos ⟨sb.2.1 hy.1,hx.2.1,sb.2.2.trans hx.2.2⟩] at h4
   exact mrg_swapA ⟨hx.1,oneA_right ox hx.2.1,hx.2.2.trans (oneA_k hx.2.1).symm⟩ ⟨hy.1,oneA_right oy hy.2.1,hy.2.2.trans (oneA_k hy.2.1).symm⟩ og (oneA_ok ox hx.2.1) (oneA_ok oy hy.2.1) h1 h2 h3 h4
  ·have sa:=put_stays ox og h1
   have e1:b=g:=by unfold AgPut at h3;rw [if_neg hy] at h3;exact h3
   subst e1
   have e2:p=a:=by
    unfold AgPut at h2
    rw [if_neg (fun q=>hy ⟨hx.1,q.2.1,sa.2.2.symm.trans q.2.2⟩)] at h2
    exact h2
   subst e2
   exact h1.one h4
 ·have e1:a=g:=by unfold AgPut at h1;rw [if_neg hx] at h1;exact h1
  subst e1
  have sb:=put_stays oy og h3
  have e2:q=b:=by
   unfold AgPut at h4
   rw [if_neg (fun q=>hx ?_)] at h4
   ·exact h4
   ·unfold AgPut at h3
    split at h3
    ·rename_i c;exact ⟨c.1,q.2.1,sb.2.2.symm.trans q.2.2⟩
    ·subst h3;exact q
  subst e2
  exact h2.one h3
/-- A put ahead of bringing together, or behind. -/
theorem put_mrgA {b o c d m e:Ag} {x:Sx} (ox:x.Ok) (r:AgR2 b o) (ob:AgOk b) (oo:AgOk o) (h1:AgPut b x c) (h2:AgMrg c o d) (h3:AgMrg b o m) (h4:AgPut m x e):d=e:=by
 have sm:=mrg_stays r ob oo h3
 by_cases hx:agB b=true∧x.B=true∧b.k=x.k
 ·unfold AgPut at h1
  rw [if_pos hx] at h1
  unfold AgPut at h4
  rw [if_pos ⟨sm.1,hx.2.1,sm.2.2.trans hx.2.2⟩] at h4
  exact mrg_swapA ⟨hx.1,oneA_right ox hx.2.1,hx.2.2.trans (oneA_k hx.2.1).symm⟩ r ob (oneA_ok ox hx.2.1) oo h1 h2 h3 h4
 ·have e1:c=b:=by unfold AgPut at h1;rw [if_neg hx] at h1;exact h1
  subst e1
  have e2:e=m:=by
   unfold AgPut at h4
   rw [if_neg (fun q=>hx ⟨r.r,q.2.1,sm.2.2.symm.trans q.2.2⟩)] at h4
   exact h4
  subst e2
  exact h2.one h3
end Go.Proofs.YthpilcoklapooaaGreatDoor
