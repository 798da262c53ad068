/-
 Parts.
-/
import Derived.Test.YtdbaabbmcfnjbaaGreatDoorDVC
import Derived.Test.YtdbaabbmcfnjbaaGreatDoorDWM
import Derived.Deep.AppendLies
import Derived.Laws.BitsAllLaws
set_option maxRecDepth 10000
set_option maxHeartbeats 4000000
set_option linter.all false
namespace Go.Proofs.YtdbaabbmcfnjbaaGreatDoor
open Go.ChangeShapes Go.WideShapes Go.ChangeAt Go.RowKit Go.PlainAid Go.Lib Go.Maps Tryz
variable {K:List ByteArray}
variable {s u:ByteArray}
variable {M S:List Sd}
variable {A:List Ce}
variable {p:Pi}
section
theorem Qlz {α β:Type} (f g:α->List β):∀ K:List α,(K.flatMap (fun u=>f u ++ g u)).Perm (K.flatMap f ++ K.flatMap g)
 | []=>List.Perm.refl _
 | u :: K=>by
  simp only [List.flatMap_cons];have ih:=Qlz f g K;refine (List.Perm.append_left (f u ++ g u) ih).trans ?_;rw [List.append_assoc,List.append_assoc];refine List.Perm.append_left (f u) ?_;rw [<- List.append_assoc,<- List.append_assoc];exact List.Perm.append_right _ List.perm_append_comm
theorem Qlr {α β:Type} (P:α->Bool) (c:β):∀ K:List α,K.Nodup->(∃ u∈K,P u=true)->(∀ u∈K,∀ v∈K,P u=true->P v=true->u=v)->K.flatMap (fun u=>if P u=true then [c] else [])=[c]
 | [],_,⟨u,hu,_⟩,_=>by cases hu
 | a :: K,nd,⟨u,hu,hp⟩,un=>by
  obtain ⟨na,nd⟩:=List.nodup_cons.1 nd;rw [List.flatMap_cons];by_cases h:P a=true
  ·rw [if_pos h]
   have e:K.flatMap (fun u=>if P u=true then [c] else [])=[]:=List.flatMap_eq_nil_iff.2 (fun v hv=>by
    rw [if_neg];intro q;have:=un a (List.mem_cons_self) v (ZZm _ hv) h q;rw [this] at na;exact na hv)
   rw [e]
   rfl
  ·rw [if_neg h]
   refine Qlr P c K nd ?_ (fun u hu v hv=>un u (ZZm _ hu) v (ZZm _ hv));rcases List.mem_cons.1 hu with rfl | hu
   ·exact absurd hp h
   ·exact ⟨u,hu,hp⟩
theorem QjL {α β:Type} (P:α->β->Bool) (K:List α) (nd:K.Nodup):∀ L:List β,(∀ c∈L,∃ u∈K,P u c=true)->(∀ c∈L,∀ u∈K,∀ v∈K,P u c=true->P v c=true->u=v)->(K.flatMap (fun u=>L.filter (P u))).Perm L
 | [],_,_=>List.Perm.of_eq (List.flatMap_eq_nil_iff.2 (fun u _=>rfl))
 | c :: L,ex,un=>by
  have e:(fun u=>(c :: L).filter (P u))=fun u=>(if P u c=true then [c] else []) ++ L.filter (P u):=by
   funext u
   rw [List.filter_cons]
   split <;> rfl
  rw [e];refine (Qlz _ _ K).trans ?_;rw [Qlr (fun u=>P u c) c K nd (ex c (List.mem_cons_self)) (un c (List.mem_cons_self))];exact List.Perm.cons c (QjL P K nd L (fun d hd=>ex d (ZZm _ hd)) (fun d hd=>un d (ZZm _ hd)))
theorem QsM (m:Mk):∀ {R:List Mk},R.Pairwise mle->∃ R':List Mk,R'.Perm (m :: R)/\R'.Pairwise mle
 | [],_=>⟨[m],.refl _,List.pairwise_singleton _ _⟩
 | a :: R,h=>by
  obtain ⟨h1,h2⟩:=List.pairwise_cons.1 h
  cases q:mgt a m with
  | true=>
   refine ⟨m :: a :: R,.refl _,List.pairwise_cons.2 ⟨fun b hb=>?_,h⟩⟩;rcases List.mem_cons.1 hb with rfl | hb
   ·exact mgt_t q
   ·exact QjN (mgt_t q) (h1 b hb)
  | false=>
   obtain ⟨R',p,s⟩:=QsM m h2;refine ⟨a :: R',(p.cons a).trans (List.Perm.swap m a R),List.pairwise_cons.2 ⟨fun b hb=>?_,s⟩⟩;rcases List.mem_cons.1 (p.mem_iff.1 hb) with rfl | hb
   ·exact mgt_f q
   ·exact h1 b hb
theorem Qoz:∀ l:List Mk,∃ R:List Mk,R.Perm l/\R.Pairwise mle
 | []=>⟨[],.refl _,.nil⟩
 | m :: l=>by
  obtain ⟨R,p,s⟩:=Qoz l;obtain ⟨R',p',s'⟩:=QsM m s;exact ⟨R',p'.trans (p.cons m),s'⟩
theorem own_ex (hK:Qaj K=true) (hs:s.size<=20000):∃ u,QaR K s u:=by
 obtain ⟨R,h⟩:=Qoz (mks K (8*K.length));exact ⟨_,.inl ⟨hs,hK,R,h,rfl⟩⟩
noncomputable def shS (K:List ByteArray) (L:List Ce):List Sd:=K.map (fun u=>⟨u,L.filter (QcC K u),none,0⟩)
theorem Que {L:List Ce} (e:M.map Sd.key=K.map (fun u=>(u,(L.filter (QcC K u)).map Ce.key))):M.map Sd.key=(shS K L).map Sd.key:=by
 rw [e];unfold shS;rw [List.map_map]
 rfl
theorem QsI (K:List ByteArray) (L:List Ce):(shS K L).map Sd.nm=K:=by
 unfold shS;rw [List.map_map];exact List.map_id'' (fun _=>rfl) K
theorem QtL {L:List Ce} (hK:Qaj K=true) (hs:∀ c∈L,c.s.size<=20000) (nd:K.Nodup) (ex:∀ c∈L,∃ u,QaR K c.s u):(QaN (shS K L)).Perm L:=by
 have e:QaN (shS K L)=K.flatMap (fun u=>L.filter (QcC K u)):=by unfold QaN shS;rw [List.flatMap_map]
 rw [e];refine QjL (QcC K) K nd L (fun c hc=>?_) (fun c hc u _ v _ h1 h2=>QeH (ownB_iff.1 h1) (ownB_iff.1 h2));obtain ⟨u,hu⟩:=ex c hc;exact ⟨u,Qnv hK (hs c hc) hu,ownB_iff.2 hu⟩
theorem Qlh (S:List Sd) (win:Int):Qg0 (fcS S) win=(QaN S).countP (fun c=>decide (c.n=win)):=by
 rw [<- QbU,List.countP_map]
 rfl
theorem QrV {B:List Ce} (h:(A.map Ce.key).Perm (B.map Ce.key)) (win:Int):A.countP (fun c=>decide (c.n=win))=B.countP (fun c=>decide (c.n=win)):=by
 have f:∀ X:List Ce,X.countP (fun c=>decide (c.n=win))=(X.map Ce.key).countP (fun k=>decide (k.1=win)):=fun X=>by rw [List.countP_map];rfl
 rw [f A,f B];exact h.countP_eq _
theorem Qn7 {L:List Ce} (hp:QaZ S p=true) (hK:Qaj K=true) (asc:Qck L) (pm:(L.map Ce.key).Perm ((QaN S).map Ce.key)) (e:M.map Sd.key=K.map (fun u=>(u,(L.filter (QcC K u)).map Ce.key))):QaZ M p=true/\((QaN M).map Ce.key).Perm ((QaN S).map Ce.key):=by
 obtain ⟨hs,aa⟩:=QaE hp
 have key:∀ c∈L,∃ s∈S,∃ d∈s.L,d.key=c.key:=fun c hc=>by
  obtain ⟨d,hd,ed⟩:=List.mem_map.1 (pm.mem_iff.1 (List.mem_map_of_mem hc));obtain ⟨s,hs,ac⟩:=Qbq hd;exact ⟨s,hs,d,ac,ed⟩
 have cs:∀ s∈S,csR s.L=true:=fun s hm=>by
  have:=Qcz hs hm;unfold shB at this;exact (Bool.and_eq_true_iff.1 this).2
 have ri:∀ c∈L,cRi c=true:=fun c hc=>by
  obtain ⟨s,hm,d,hd,ed⟩:=key c hc;rw [<- QhN ed];exact (csR_iff.1 (cs s hm)).2.1 d hd
 have hz:∀ c∈L,c.s.size<=20000:=fun c hc=>by
  have q:=ri c hc;unfold cRi at q;simp only [Bool.and_eq_true] at q;have:=QeA q.1.1.2;omega
 have ab:=QtL hK hz (QbK (QbQ hK)) (fun c hc=>own_ex hK (hz c hc));have ae:(QaN S).length<=60:=by rw [<- QbU,List.length_map];exact aa.l
 have lL:L.length=(QaN S).length:=by have:=pm.length_eq;rw [List.length_map,List.length_map] at this;exact this
 have pk:=(ab.map Ce.key).trans pm;have ek:=Que e;refine ⟨?_,by rw [Qpf ek];exact pk⟩;rw [Qep ek];unfold QaZ at hp ⊢;rw [Bool.and_eq_true] at hp ⊢;refine ⟨hp.1,?_⟩;rw [Bool.and_eq_true];constructor
 ·unfold QeB
  rw [QsI,hK,Bool.true_and];refine List.all_eq_true.2 (fun s hm=>?_);obtain ⟨u,hu,rfl⟩:=List.mem_map.1 hm
  show shB u (L.filter (QcC K u))=true
  unfold shB;rw [Qcc hK hu,Bool.true_and];refine csR_iff.2 ⟨?_,fun c hc=>ri c (List.mem_filter.1 hc).1,asc.sublist List.filter_sublist⟩;have:=List.length_filter_le (QcC K u) L;omega
 ·refine QdY ⟨?_,fun win=>?_,fun x hx=>?_⟩
  ·have:=pk.length_eq
   rw [List.length_map,List.length_map] at this;have e2:(fcS (shS K L)).length=(QaN (shS K L)).length:=by rw [<- QbU,List.length_map]
   omega
  ·rw [Qlh,QrV pk,<- Qlh]
   exact aa.c win
  ·rw [QsI]
   unfold fcS shS at hx;rw [List.flatMap_map] at hx;obtain ⟨u,hu,hx⟩:=List.mem_flatMap.1 hx;obtain ⟨c,hc,rfl⟩:=List.mem_map.1 hx;obtain ⟨ad,ho⟩:=List.mem_filter.1 hc;refine ⟨?_,ownB_iff.1 ho⟩;obtain ⟨s,hm,d,hd,ed⟩:=key c ad;have h1:=(aa.p (s.nm,d) (by unfold fcS;exact List.mem_flatMap.2 ⟨s,hm,List.mem_map.2 ⟨d,hd,rfl⟩⟩)).1;have:=(QnW ed).1
   show p.d<=c.n
   rw [<- this];exact h1
end
variable {KC:List (Int×ByteArray×Ag)}
section
section
variable {S M:List Sd} {p q:Pi} {mm:ByteArray} {c7:Int} {b7 b8:Bool} {K:List ByteArray} {KM:List (ByteArray×List (Int×ByteArray×Ag))} {L:List Ce}
theorem MbR.ok (h:MbR S p mm c7 b7 b8 K q KM 0) (h7:c7≠0):QaZ S p=true/\QaK mm=true/\b7=false/\b8=false/\q=p/\∃ L:List Ce,Qck L/\(L.map Ce.key).Perm ((QaN S).map Ce.key)/\KM=K.map (fun u=>(u,(L.filter (QcC K u)).map Ce.key)):=by
 unfold MbR at h
 split at h
 ·rename_i c;exact absurd h.1.symm c
 ·rename_i c
  split at h
  ·exact absurd h.1.symm h7
  ·rename_i c7
   split at h
   ·exact absurd h.1 (by decide)
   ·rename_i c8
    have r:=mfC_0 c;exact ⟨r.1,r.2,by simpa using c7,by simpa using c8,h.2.1,h.2.2⟩
structure Shr (S M:List Sd) (p:Pi) (K:List ByteArray):Prop where
 r:QaZ M p=true
 pm:((QaN M).map Ce.key).Perm ((QaN S).map Ce.key)
 n:M.map Sd.nm=K
 l:M.length=K.length
 g:GdK 1 (M.map Sd.key)
theorem QlL (g:GdK 1 (S.map Sd.key)) (hp:QaZ S p=true) (hK:Qaj K=true) (asc:Qck L) (pm:(L.map Ce.key).Perm ((QaN S).map Ce.key)) (e:M.map Sd.key=K.map (fun u=>(u,(L.filter (QcC K u)).map Ce.key))):Shr S M p K:=by
 obtain ⟨h1,h2⟩:=Qn7 hp hK asc pm e;have hl:=congrArg List.length e;rw [List.length_map,List.length_map] at hl;have ac:=Qbp hK;have ad:(QaN S).length<=60:=by rw [<- QbU,List.length_map];exact (QaE hp).2.l
 have lL:L.length=(QaN S).length:=by have:=pm.length_eq;rw [List.length_map,List.length_map] at this;exact this
 refine ⟨h1,h2,?_,hl,?_,?_⟩
 ·have h:=congrArg (List.map Prod.fst) e
  rw [List.map_map,List.map_map] at h;exact h.trans (List.map_id'' (fun _=>rfl) K)
 ·rw [List.length_map];omega
 ·rw [e]
  intro x hx;obtain ⟨u,hu,rfl⟩:=List.mem_map.1 hx;have h5:=Qeu (Qcc hK hu);refine ⟨by show u.size<=_;omega,?_,fun c hc=>?_⟩
  ·have:=List.length_filter_le (QcC K u) L
   show (((L.filter (QcC K u)).map Ce.key).length:Int)<=300+1
   rw [List.length_map];omega
  ·obtain ⟨d,hd,rfl⟩:=List.mem_map.1 hc
   obtain ⟨d',aa,ed⟩:=List.mem_map.1 (pm.mem_iff.1 (List.mem_map_of_mem (List.mem_filter.1 hd).1));obtain ⟨s,hs,ab⟩:=Qbq aa;rw [<- ed];exact (g.sh hs).2.2 d' ab
theorem QuR (h:u ∉ K):(QcE K u).length=K.length+1:=by rw [(QfW h).length_eq,List.length_cons]
theorem Qrw (nd:K.Nodup) (h:u∈K):(Qbe K u).length+1=K.length:=by
 obtain ⟨A,R,rfl⟩:=List.append_of_mem h;rw [QkJ nd];simp;omega
theorem JnR.shr (g:GdK 1 (S.map Sd.key)) (h:JnR S p mm q (M.map Sd.key) KC 0):p=q/\QaZ S p=true/\Shr S M p (QcE (S.map Sd.nm) mm)/\mm ∉ S.map Sd.nm/\QaK mm=true/\M.length=S.length+1:=by
 obtain ⟨h1,h2,h3,h4,rfl,L,h5,h6,h7⟩:=h.1.ok (by decide);have hs:=QlL g h1 (joinK h1 h2 h3 h4) h5 h6 h7;have hn:mm ∉ S.map Sd.nm:=fun q=>by rw [QfO q] at h3;cases h3
 exact ⟨rfl,h1,hs,hn,h2,by rw [hs.l,QuR hn,List.length_map]⟩
theorem LeR.shr (g:GdK 1 (S.map Sd.key)) (h:LeR S p mm q (M.map Sd.key) KC 0):p=q/\QaZ S p=true/\Shr S M p (Qbe (S.map Sd.nm) mm)/\M.length+1=S.length:=by
 obtain ⟨h1,h2,h3,h4,rfl,L,h5,h6,h7⟩:=h.1.ok (by decide);have hs:=QlL g h1 (leaveK h1 h2 h3 h4) h5 h6 h7;have hn:mm∈S.map Sd.nm:=inK_iff.1 (by simpa using h3);have hl:=Qrw (QbK (QbQ (Qb2 (QaE h1).1))) hn;rw [List.length_map] at hl;exact ⟨rfl,h1,hs,by rw [hs.l];omega⟩
end
end
theorem st_ok {t:ByteArray} {s:Sm} (hp:QaZ S p=true) (hL:LnR t s) (hc:s.c=0):(stS s p.c).B=true/\(stS s p.c).Ok/\0<=(stS s p.c).ti/\(stS s p.c).ti<=1000000000/\(stS s p.c).se.size<=20000:=by
 obtain ⟨_,_,_,_,c1,c2,_,_⟩:=Qcj hp;have hr:=(hL.right hc).1
 have ht:0<=(if s.td=true then (s.ti:Int) else p.c)/\(if s.td=true then (s.ti:Int) else p.c)<=1000000000:=by
  by_cases h:s.td=true
  ·rw [if_pos h]
   rw [h] at hr;exact Qm3 hr
  ·rw [if_neg h]
   exact ⟨c1,c2⟩
 obtain ⟨XB,XO⟩:=QiJ hr ht.1 ht.2;exact ⟨XB,XO,ht.1,ht.2,Nat.le_trans (QeA (Qip XB)) (by decide)⟩
def ksC (c:Ce):Int×ByteArray:=(c.n,c.s)
theorem ks_key {B:List (Int×ByteArray×Ag)} (h:A.map Ce.key=B):A.map ksC=B.map (fun k=>(k.1,k.2.1)):=by
 rw [<- h,List.map_map];rfl
section
variable {S M:List Sd} {L R:List Ce} {p q:Pi} {t nm:ByteArray} {x:Sx} {n win:Int} {KM:List (ByteArray×List (Int×ByteArray×Ag))} {KC:List (Int×ByteArray×Ag)} {cd:Int}
theorem QsV {o:Ag} (h:PtL L n s o R):R.map ksC=(L.filter (loF n s)).map ksC ++ (n,s) :: (L.filter (hiF n s)).map ksC:=by
 rw [ks_key h,List.map_append,List.map_cons,List.map_map,List.map_map];rfl
theorem pua_ks (hL:Qck L) (h:PuA L n x R 0):(Qfk L n x.se/\(R.map ksC).Perm (L.map ksC))∨(¬ Qfk L n x.se/\(R.map ksC).Perm ((n,x.se) :: L.map ksC)):=by
 generalize hc0:(0:Int)=c0 at h
 cases h with
 | kind=>exact absurd hc0 (by decide)
 | full=>exact absurd hc0 (by decide)
 | there c o R hc k1 k2 hk hp hR=>
  refine .inl ⟨⟨c,hc,k1,k2⟩,?_⟩;have e:=congrArg (List.map ksC) (Qgo hL hc);rw [k1,k2,List.map_append,List.map_cons] at e;rw [QsV hR,e];have:ksC c=(n,x.se):=by unfold ksC;rw [k1,k2]
  rw [this]
 | new o R hn hl hp hR=>
  refine .inr ⟨hn,?_⟩;rw [QsV hR];refine List.perm_middle.trans (List.Perm.cons _ ?_);rw [<- List.map_append];exact ((QnH hn).map ksC).symm
theorem QqX {o:ByteArray} {s:Sd} (ap:S.Pairwise (fun s t=>s.nm≠t.nm)) (hs:s∈S) (hn:s.nm=o):∃ A B,S=A ++ s :: B/\upS o (R.map Ce.key) S=(A ++ (⟨s.nm,R,s.ao,s.cp⟩:Sd) :: B).map Sd.key:=by
 obtain ⟨A,B,rfl⟩:=List.append_of_mem hs;refine ⟨A,B,rfl,?_⟩;obtain ⟨_,p2,p3⟩:=List.pairwise_append.1 ap;obtain ⟨p4,_⟩:=List.pairwise_cons.1 p2;have f1:upS o (R.map Ce.key) A=A.map Sd.key:=QhA (fun u hu e=>p3 u hu s (List.mem_cons_self ..) (e.trans hn.symm));have f2:upS o (R.map Ce.key) B=B.map Sd.key:=QhA (fun u hu e=>p4 u hu (hn.trans e.symm));rw [List.map_append,List.map_cons,<- f1,<- f2];unfold upS;rw [List.map_append,List.map_cons,if_pos (nm_is.2 hn)]
 rfl
theorem Qsj (L:List Ce) (nm:ByteArray) (w:Int):Qg0 (L.map (fun c=>(nm,c))) w=(L.map ksC).countP (fun k=>decide (k.1=w)):=by
 unfold Qg0;rw [List.countP_map,List.countP_map]
 rfl
theorem Qp7 (S:List Sd) (w:Int):Qe1 (QaN S) w=Qg0 (fcS S) w:=by
 rw [<- QbU];unfold Qe1 Qg0;rw [List.countP_map]
 rfl
theorem Qte {A B:List Sd} {s:Sd} (hp:QaZ (A ++ s :: B) p=true) (hr:csR R=true) (hL:Qck s.L) (hpu:PuA s.L win x R 0) (hlate:¬ win<p.d) (ho:QaR ((A ++ s :: B).map Sd.nm) x.se s.nm) (hro:¬ QbX (A ++ s :: B) win x.se):QaZ (A ++ (⟨s.nm,R,s.ao,s.cp⟩:Sd) :: B) p=true:=by
 obtain ⟨hs,ab⟩:=QaE hp;have en:(A ++ (⟨s.nm,R,s.ao,s.cp⟩:Sd) :: B).map Sd.nm=(A ++ s :: B).map Sd.nm:=by simp
 have ad:=(Bool.and_eq_true_iff.1 (show (Qlv p.a p.b p.c p.d && (QeB (A ++ s :: B) && plB (A ++ s :: B) p.d))=true from hp)).1;have ks:=pua_ks hL hpu;have eS:fcS (A ++ s :: B)=fcS A ++ (s.L.map (fun c=>(s.nm,c)) ++ fcS B):=by rw [Qh9,Qd9]
 have eT:fcS (A ++ (⟨s.nm,R,s.ao,s.cp⟩:Sd) :: B)=fcS A ++ (R.map (fun c=>(s.nm,c)) ++ fcS B):=by rw [Qh9,Qd9]
 have aa:Qfk s.L win x.se∨(¬ Qfk s.L win x.se/\Qg0 (fcS (A ++ s :: B)) win<20/\(fcS (A ++ s :: B)).length<60):=by
  by_cases hh:Qfk s.L win x.se
  ·exact .inl hh
  ·refine .inr ⟨hh,?_⟩
   have af:¬ Qfk (QaN (A ++ s :: B)) win x.se:=by
    rintro ⟨c,hc,e1,e2⟩;rw [<- QbU] at hc;obtain ⟨y,hy,rfl⟩:=List.mem_map.1 hc;have h1:=(ab.p y hy).2;rw [e2] at h1;have e3:=QeH h1 ho;obtain ⟨u,hu,ag⟩:=List.mem_flatMap.1 (show y∈(A ++ s :: B).flatMap (fun s=>s.L.map (fun c=>(s.nm,c))) from hy);obtain ⟨c,ah,rfl⟩:=List.mem_map.1 ag;have e4:u.nm=s.nm:=e3;have ap:=Qot hs
    have ai:u=s:=by
     obtain ⟨i,hi,rfl⟩:=List.mem_iff_getElem.1 hu;obtain ⟨j,hj,ej⟩:=List.mem_iff_getElem.1 (show s∈A ++ s :: B by simp);rcases Nat.lt_trichotomy i j with k | k | k
     ·exact absurd (by rw [ej];exact e4) (List.pairwise_iff_getElem.1 ap i j hi hj k)
     ·subst k;exact ej
     ·exact absurd (by rw [ej];exact e4.symm) (List.pairwise_iff_getElem.1 ap j i hj hi k)
    subst ai;exact hh ⟨c,ah,e1,e2⟩
   unfold QbX at hro;rw [Qp7,<- QbU,List.length_map] at hro;rw [QbU] at hro;by_cases h1:20<=Qg0 (fcS (A ++ s :: B)) win
   ·exact absurd ⟨af,.inl h1⟩ hro
   ·by_cases h2:60<=(fcS (A ++ s :: B)).length
    ·exact absurd ⟨af,.inr h2⟩ hro
    ·omega
 have ae:R.length<=s.L.length+1/\(Qfk s.L win x.se->R.length=s.L.length):=by
  rcases ks with ⟨h,k⟩ | ⟨h,k⟩
  ·have:=k.length_eq
   simp only [List.length_map] at this;exact ⟨by omega,fun _=>this⟩
  ·have:=k.length_eq
   simp only [List.length_map,List.length_cons] at this;exact ⟨by omega,fun q=>absurd q h⟩
 unfold QaZ;rw [Bool.and_eq_true,Bool.and_eq_true];refine ⟨ad,?_,QdY ⟨?_,fun w=>?_,fun y hy=>?_⟩⟩
 ·unfold QeB at hs ⊢
  rw [Bool.and_eq_true] at hs ⊢;rw [en];refine ⟨hs.1,List.all_eq_true.2 (fun u hu=>?_)⟩;rcases List.mem_append.1 hu with h | h
  ·exact List.all_eq_true.1 hs.2 u (List.mem_append_left _ h)
  ·rcases List.mem_cons.1 h with rfl | h
   ·have h1:=List.all_eq_true.1 hs.2 s (by simp)
    unfold shB at h1 ⊢;rw [Bool.and_eq_true] at h1 ⊢;exact ⟨h1.1,hr⟩
   ·exact List.all_eq_true.1 hs.2 u (by simp [h])
 ·rw [eT]
  have h1:=ab.l;rw [eS] at h1 aa;simp only [List.length_append,List.length_map] at h1 aa ⊢;rcases aa with h | ⟨_,_,h⟩
  ·have:=ae.2 h;omega
  ·have:=ae.1;omega
 ·rw [eT]
  have h1:=ab.c w;rw [eS] at h1 aa;have ap:∀ (X Y:List (ByteArray×Ce)),Qg0 (X ++ Y) w=Qg0 X w+Qg0 Y w:=fun X Y=>by unfold Qg0;rw [List.countP_append]
  rw [ap,ap,Qsj] at h1 ⊢;rcases ks with ⟨h,k⟩ | ⟨h,k⟩
  ·rw [k.countP_eq];exact h1
  ·rcases aa with h' | ⟨_,hc,_⟩
   ·exact absurd h' h
   ·rw [k.countP_eq,List.countP_cons]
    by_cases hw:win=w
    ·subst hw
     rw [ap,ap,Qsj] at hc;rw [if_pos (by simp)];omega
    ·rw [if_neg (by simpa using hw)]
     omega
 ·rw [en]
  rw [eT] at hy;have ac:∀ y,y∈fcS (A ++ s :: B)->p.d<=y.2.n/\QaR ((A ++ s :: B).map Sd.nm) y.2.s y.1:=ab.p;rw [eS] at ac;rcases List.mem_append.1 hy with h | h
  ·exact ac y (List.mem_append_left _ h)
  ·rcases List.mem_append.1 h with h | h
   ·obtain ⟨c,hc,rfl⟩:=List.mem_map.1 h
    have hk:ksC c∈R.map ksC:=List.mem_map_of_mem hc
    have lf:ksC c∈s.L.map ksC->p.d<=c.n/\QaR ((A ++ s :: B).map Sd.nm) c.s s.nm:=fun h=>by
     obtain ⟨d,hd,e⟩:=List.mem_map.1 h;injection e with e1 e2;have:=ac (s.nm,d) (by simp;exact .inr (.inl hd));rw [<- e1,<- e2];exact this
    rcases ks with ⟨_,k⟩ | ⟨_,k⟩
    ·exact lf (k.mem_iff.1 hk)
    ·rcases List.mem_cons.1 (k.mem_iff.1 hk) with e | h
     ·injection e with e1 e2
      show p.d<=c.n/\QaR ((A ++ s :: B).map Sd.nm) c.s s.nm
      rw [e1,e2];exact ⟨by omega,ho⟩
     ·exact lf h
   ·exact ac y (by simp [h])
theorem LiX.ok (g:GdK 0 (S.map Sd.key)) (h:LiX S p t q (M.map Sd.key) KC 0):QaZ S p=true/\q=p/\QaZ M p=true/\GdK 0 (M.map Sd.key):=by
 obtain ⟨_,h⟩:=h;rcases h with ⟨_,h,_⟩ | ⟨_,h⟩
 ·exact absurd h (by decide)
 rcases h with ⟨_,h,_⟩ | ⟨hp,s,hL,h⟩
 ·exact absurd h (by decide)
 rcases h with ⟨h1,h2,_⟩ | ⟨hc,hv,h⟩
 ·exact absurd h2.symm h1
 have hq:q=p:=by
  rcases h with ⟨_,h⟩ | ⟨h,_⟩
  ·exact h
  ·exact absurd rfl h
 refine ⟨hp,hq,?_⟩;rcases hv with ⟨_,h,_⟩ | ⟨c1,hv⟩
 ·exact absurd h (by decide)
 rcases hv with ⟨_,h,_⟩ | ⟨c2,hv⟩
 ·exact absurd h (by decide)
 rcases hv with ⟨_,h,_⟩ | ⟨c3,o,s1,R,ho,hs,hn,ad,hv⟩
 ·exact absurd h (by decide)
 have ek:M.map Sd.key=upS o (R.map Ce.key) S:=by
  rcases hv with ⟨_,h⟩ | ⟨h,_⟩
  ·exact h
  ·exact absurd rfl h
 obtain ⟨XB,XO,t0,t1,_⟩:=st_ok hp hL hc;obtain ⟨a1,a2,_,_,_,_,d1,_⟩:=Qcj hp;have ac:=(QaE hp).1;have ab:=Quk (Qcz ac hs);obtain ⟨_,cR,ae⟩:=csR_iff.1 ab;have hq:CnQ s1.L:=⟨fun c hc=>((g.sh hs).2.2 c hc).1,fun c hc=>((g.sh hs).2.2 c hc).2.1,fun c hc=>Qi3 (cR c hc),fun c hc=>⟨Qka (QnV (cR c hc)),((g.sh hs).2.2 c hc).2.2⟩⟩
 have hw:Qjm ((stS s p.c).ti / p.a)=true:=by
  have h1:(stS s p.c).ti / p.a<=(stS s p.c).ti:=Int.ediv_le_self _ t0;unfold Qjm;simp only [Bool.and_eq_true,decide_eq_true_eq];omega
 obtain ⟨hR,aa⟩:=QlH ab hq XO XB hw ad;obtain ⟨A,B,rfl,eu⟩:=QqX (R:=R) (Qot ac) hs hn;rw [eu] at ek
 have hg:GdK 0 ((A ++ (⟨s1.nm,R,s1.ao,s1.cp⟩:Sd) :: B).map Sd.key):=by
  obtain ⟨g1,g2⟩:=g;refine ⟨by simpa using g1,fun y hy=>?_⟩;rw [List.map_append,List.map_cons] at hy;rcases List.mem_append.1 hy with h | h
  ·exact g2 y (by rw [List.map_append];exact List.mem_append_left _ h)
  ·rcases List.mem_cons.1 h with rfl | h
   ·have h3:=g2 s1.key (by simp)
    refine ⟨h3.1,?_,fun c hc=>?_⟩
    ·have:=(csR_iff.1 hR).1
     show ((R.map Ce.key).length:Int)<=300+0
     rw [List.length_map];omega
    ·obtain ⟨d,hd,rfl⟩:=List.mem_map.1 hc
     exact ⟨aa.ok d hd,aa.sm d hd,(aa.ky d hd).2⟩
   ·exact g2 y (by rw [List.map_append,List.map_cons];exact List.mem_append_right _ (List.mem_cons_of_mem _ h))
 refine ⟨?_,by rw [ek];exact hg⟩;rw [Qep ek];exact Qte hp hR ae ad c1 (by rw [hn];exact ho) c3
end
variable {a b h l n rank x z:Int}
variable {e j k nc nn pc pn r:Nat}
variable {w w' wr:World}
variable {na pa:Option Addr}
variable {N P:List Bn}
section
def Qfh (n:Int):Int:=if 18446744073709551615<n then 18446744073709551615 else n
def QcD:List Bn->Int
 | []=>0
 | x :: r=>x.2+QcD r
theorem Qhp (a b:Int):QaD a b=Qfh (a+b):=rfl
theorem QoS (h:0<=n):U64 (Qfh n):=by unfold U64 Qfh;split <;> omega
theorem sat_id (h:U64 n):Qfh n=n:=by unfold U64 at h;unfold Qfh;rw [if_neg (by omega)]
theorem sat_l (hb:0<=b):Qfh (Qfh a+b)=Qfh (a+b):=by unfold Qfh;split <;> split <;> omega
theorem QkS {L:List Bn} (h:∀ x∈L,Qbw x):0<=QcD L:=by
 induction L with
 | nil=>exact Int.le_refl _
 | cons x r ih=>
  have h1:=(h x (List.mem_cons_self ..)).2.1;have h2:=ih (fun y hy=>h y (ZZm _ hy))
  show 0<=x.2+QcD r;omega
theorem Qqa (A B:List Bn):QcD (A ++ B)=QcD A+QcD B:=by
 induction A with
 | nil=>simp [QcD]
 | cons x r ih=>simp [QcD,ih];omega
theorem Qje {L:List Bn} {x:Bn} (h:L[k]?=some x):QcD (L.take (k+1))=QcD (L.take k)+x.2:=by
 rw [List.take_add_one,h,Qqa];simp [QcD]
theorem Qom {L:List Bn} (h:∀ x∈L,Qbw x) (k:Nat):∀ x∈L.take k,Qbw x:=fun x hx=>h x (ZZo hx)
theorem QhT (hz0:U64 z) (hp:P.length=pn) (hn:N.length=nn) (lp:pn<=1048576) (ln:nn<=1048576) (hP:QaJ w pa P) (hN:QaJ w na N) (kP:∀ x∈P,Qbw x) (kN:∀ x∈N,Qbw x) :
  Calls prog 86 #[.agg #[.int .u64 z,.slice pa pn pc,.slice na nn nc,.int .i64 h,.int .u64 l]] w fun e w'=>e=.returned (.int .u64 (Qfh (z+QcD P+QcD N)))/\Below w.heap.size w w':=by
 have HP:=Qaa hP;have HN:=Qaa hN;have KP:=Qaa kP;have KN:=Qaa kN;have EP:=Qaa hp;have EN:=Qaa hn;have HZ:=Qaa hz0;clear hP hN kP kN hp hn hz0;go_enter func86,ntmps86;go_wp2
 go_loopw [3,4] (fun q i wr=>Below w.heap.size w wr/\Qcg wr w.heap.size z (.slice pa pn pc) (.slice na nn nc) h l/\∃ (k:Nat) (s:Int),k<=pn/\i=.int .i64 k/\q=.int .u64 s/\Hid (s=Qfh (z+QcD (P.take k)))) (fun q i wr=>pn - (Go.RowKit.intOf i).toNat)
 case atStart=>exact ⟨(Below.refl _ _).alloc (Nat.le_refl _) _,Qg1 _ _ _ _ _ _ _,0,z,Nat.zero_le _,rfl,rfl,(by rw [List.take_zero];exact ((by rw [show z+QcD []=z by simp [QcD]];exact sat_id HZ.out:Qfh (z+QcD [])=z)).symm:z=Qfh (z+QcD (P.take 0)))⟩
 case round=>
  obtain ⟨aa,hK,k,s,hk,rfl,rfl,HR⟩:=hrel;have HB:=Qaa aa;have HK:=Qaa hK;have hs:U64 s:=by rw [HR.out];exact QoS (by have:=QkS (Qom KP k);have:=HZ.out.1;omega)
  by_cases ag:k<pn
  ·obtain ⟨⟨a,u⟩,ac⟩:∃ a,P[k]?=some a:=⟨P[k]'(by have:=EP.out;omega),ZZe _⟩
   have hu:=(KP.out _ (ZZn ac)).2;obtain ⟨b,ae,rfl,ab⟩:=HP.out (by have:=EP.out;omega);have ad:=Qab aa (ab k _ ac).2
   have HE:Hid (QaD s u=Qfh (z+QcD (P.take (k+1)))):=by
    refine (?_:QaD s u=Qfh (z+QcD (P.take (k+1))));rw [Qje ac,Qhp,HR.out,sat_l hu.1,Int.add_assoc]
   clear aa ab ac;simp only at hu;go_wp2_with (go_at_call 119;refine (Qax _ _ hs hu _).mono ?_;rintro e w1 ⟨rfl,rfl⟩);go_roundw
   case rel=>exact ⟨HB,HK,k+1,_,by omega,by go_num,rfl,HE⟩
   case measure=>simp [zI];omega
  ·have HE:Hid (s=Qfh (z+QcD P)):=by
    refine (?_:s=Qfh (z+QcD P));rw [HR.out,List.take_of_length_le (by have:=EP.out;omega)]
   clear aa HR hs;go_wp2
   go_loopw [3,5] (fun q i wr=>Below w.heap.size w wr/\Qcg wr w.heap.size z (.slice pa pn pc) (.slice na nn nc) h l/\∃ (k:Nat) (s:Int),k<=nn/\i=.int .i64 k/\q=.int .u64 s/\Hid (s=Qfh (z+QcD P+QcD (N.take k)))) (fun q i wr=>nn - (Go.RowKit.intOf i).toNat)
   case atStart=>exact ⟨HB,HK,0,s,Nat.zero_le _,rfl,rfl,(by rw [List.take_zero,show z+QcD P+QcD []=z+QcD P by simp [QcD]];exact HE.out:s=Qfh (z+QcD P+QcD (N.take 0)))⟩
   case round=>
    clear hK HB HK HE;obtain ⟨aa,hK,j,t,hj,rfl,rfl,HR⟩:=hrel;have HB:=Qaa aa;have HK:=Qaa hK;have hs:U64 t:=by rw [HR.out];exact QoS (by have:=QkS (Qom KN j);have:=QkS KP;have:=HZ.out.1;omega)
    by_cases af:j<nn
    ·obtain ⟨⟨a,u⟩,ac⟩:∃ a,N[j]?=some a:=⟨N[j]'(by have:=EN.out;omega),ZZe _⟩
     have hu:=(KN.out _ (ZZn ac)).2;obtain ⟨b,ae,rfl,ab⟩:=HN.out (by have:=EN.out;omega);have ad:=Qab aa (ab j _ ac).2
     have HE:Hid (QaD t u=Qfh (z+QcD P+QcD (N.take (j+1)))):=by
      refine (?_:QaD t u=Qfh (z+QcD P+QcD (N.take (j+1))));rw [Qje ac,Qhp,HR.out,sat_l hu.1,Int.add_assoc]
     clear aa ab ac;simp only at hu;go_wp2_with (go_at_call 119;refine (Qax _ _ hs hu _).mono ?_;rintro e w1 ⟨rfl,rfl⟩);go_roundw
     case rel=>exact ⟨HB,HK,j+1,_,by omega,by go_num,rfl,HE⟩
     case measure=>simp [zI];omega
    ·have HE:Hid (t=Qfh (z+QcD P+QcD N)):=by
      refine (?_:t=Qfh (z+QcD P+QcD N));rw [HR.out,List.take_of_length_le (by have:=EN.out;omega)]
     clear aa HR hs;go_wp2;go_ret;exact ⟨QkA HE,HB⟩
def skW (z:Int) (P N:List Bn):Int:=if skB P N=true then Qfh (z+QcD P+QcD N) else 0
end
section
def rk (rank:Int):Int->List (Int×Int)->Int
 | _,[]=>0
 | g,x :: r=>if rank<QaD g x.1 then x.2 else rk rank (QaD g x.1) r
def fN (x:Bn):Int×Int:=(x.2,-QjR x.1)
def fP (x:Bn):Int×Int:=(x.2,QjR x.1)
def Qgw (z:Int) (P N:List Bn):List (Int×Int):=N.reverse.map fN ++ (z,0) :: P.map fP
theorem QnN {L T:List (Int×Int)} {x:Int×Int} (h:L[j]?=some x) (rank g:Int):rk rank g (L.drop j ++ T)=if rank<QaD g x.1 then x.2 else rk rank (QaD g x.1) (L.drop (j+1) ++ T):=by
 have hk:=(ZZd.1 h).1;rw [List.drop_eq_getElem_cons hk,(List.getElem?_eq_some_iff.1 h).2];rfl
theorem rev_at {x:Bn} (hj:j<N.length) (h:N[N.length - 1 - j]?=some x):(N.reverse.map fN)[j]?=some (fN x):=by
 rw [List.getElem?_map,List.getElem?_reverse hj,h];rfl
def skR (z:Int) (P N:List Bn) (rank:Int):Int:=if skW z P N<=rank then 0 else rk rank 0 (Qgw z P N)
theorem Qkh (ha:U64 a) (hb:U64 b):U64 (QaD a b):=by rw [Qhp];exact QoS (by have:=ha.1;have:=hb.1;omega)
theorem QjX (hz0:U64 z) (hr0:U64 rank) (hp:P.length=pn) (hn:N.length=nn) (lp:pn<=1048576) (ln:nn<=1048576) (hP:QaJ w pa P) (hN:QaJ w na N) (kP:∀ x∈P,Qbw x) (kN:∀ x∈N,Qbw x) :
  Calls prog 87 #[.agg #[.int .u64 z,.slice pa pn pc,.slice na nn nc,.int .i64 h,.int .u64 l],.int .u64 rank] w fun e w'=>e=.returned (.int .i64 (rk rank 0 (Qgw z P N)))/\Below w.heap.size w w':=by
 have HP:=Qaa hP;have HN:=Qaa hN;have KP:=Qaa kP;have KN:=Qaa kN;have EP:=Qaa hp;have EN:=Qaa hn;have HZ:=Qaa hz0;clear hP hN kP kN hp hn hz0;go_enter func87,ntmps87;go_wp2
 go_loopw [5,6] (fun q i wr=>Below w.heap.size w wr/\Qcg wr w.heap.size z (.slice pa pn pc) (.slice na nn nc) h l/\∃ (j:Nat) (g:Int),j<=nn/\i=.int .i64 ((nn:Int) - 1 - j)/\q=.int .u64 g/\U64 g/\Hid (rk rank 0 (Qgw z P N)=rk rank g ((N.reverse.map fN).drop j ++ (z,0) :: P.map fP))) (fun q i wr=>(Go.RowKit.intOf i+1).toNat)
 case atStart=>exact ⟨(Below.refl _ _).alloc (Nat.le_refl _) _,Qg1 _ _ _ _ _ _ _,0,0,Nat.zero_le _,by simp,rfl,by unfold U64;omega,(rfl:rk rank 0 (Qgw z P N)=_)⟩
 case round=>
  obtain ⟨aa,hK,j,g,hj,rfl,rfl,hg,HR⟩:=hrel;have HB:=Qaa aa;have HK:=Qaa hK;by_cases an:j<nn
  ·obtain ⟨m,hm⟩:∃ m:Nat,nn=m+1+j:=⟨nn - 1 - j,by omega⟩
   have em:(nn:Int) - 1 - j=(m:Int):=by omega
   have ag:(m:Int) - 1=(nn:Int) - 1 - ((j+1:Nat):Int):=by omega
   obtain ⟨⟨a,u⟩,ac⟩:∃ a,N[m]?=some a:=⟨N[m]'(by have:=EN.out;omega),ZZe _⟩;have ae:=rev_at (N:=N) (j:=j) (x:=(a,u)) (by have:=EN.out;omega) (by rw [show N.length - 1 - j=m by have:=EN.out;omega];exact ac);obtain ⟨ha,hu⟩:=KN.out _ (ZZn ac);obtain ⟨b,ai,rfl,ab⟩:=HN.out (by have:=EN.out;omega);have aj:=Qab aa (ab m _ ac).1;have ah:=Qab aa (ab m _ ac).2;have HS:=Qaa (QnN (T:=(z,0) :: P.map fP) ae rank g);have hw:=Qkh hg hu;have al:=QuH a;rw [em];have EM:=Qaa ag;clear aa ab ac ae em ag;simp only at hu ha;have ak:m<nn:=by omega
   clear hm;by_cases ad:rank<QaD g u
   ·have HE:Hid (-QjR a=rk rank 0 (Qgw z P N)):=by
     refine (?_:-QjR a=rk rank 0 (Qgw z P N));rw [HR.out,HS.out];exact (if_pos ad).symm
    go_wp2_with (first
     | (go_at_call 119;refine (Qax _ _ hg hu _).mono ?_;rintro e w1 ⟨rfl,rfl⟩)
     | (go_at_call 125;refine (QgP _ _ ha).mono ?_;rintro e w1 ⟨rfl,rfl⟩))
    go_ret;exact ⟨Qek HE,HB⟩
   ·have HE:Hid (rk rank 0 (Qgw z P N)=rk rank (QaD g u) ((N.reverse.map fN).drop (j+1) ++ (z,0) :: P.map fP)):=by
     refine (?_:rk rank 0 (Qgw z P N)=rk rank (QaD g u) ((N.reverse.map fN).drop (j+1) ++ (z,0) :: P.map fP));rw [HR.out,HS.out];exact if_neg ad
    go_wp2_with (first
     | (go_at_call 119;refine (Qax _ _ hg hu _).mono ?_;rintro e w1 ⟨rfl,rfl⟩))
    go_roundw
    case rel=>exact ⟨HB,HK,j+1,_,by omega,by rw [<- EM.out],rfl,hw,HE⟩
    case measure=>simp [zI]
  ·have e0:(nn:Int) - 1 - j=-1:=by omega
   rw [e0]
   have af:Hid (rk rank 0 (Qgw z P N)=rk rank g ((z,0) :: P.map fP)):=by
    refine (?_:rk rank 0 (Qgw z P N)=rk rank g ((z,0) :: P.map fP));rw [HR.out,List.drop_eq_nil_of_le (by simp;have:=EN.out;omega)];rfl
   have hw:=Qkh hg HZ;clear aa HR e0;by_cases ad:rank<QaD g z
   ·have HE:Hid (0=rk rank 0 (Qgw z P N)):=by
     refine (?_:0=rk rank 0 (Qgw z P N));rw [af.out];exact (if_pos ad).symm
    go_wp2_with (first
     | (go_at_call 119;refine (Qax _ _ hg HZ _).mono ?_;rintro e w1 ⟨rfl,rfl⟩))
    go_ret;exact ⟨Qek HE,HB⟩
   ·have HE:Hid (rk rank 0 (Qgw z P N)=rk rank (QaD g z) ((P.map fP).drop 0 ++ [])):=by
     refine (?_:rk rank 0 (Qgw z P N)=rk rank (QaD g z) ((P.map fP).drop 0 ++ []));rw [af.out,List.append_nil];exact if_neg ad
    go_wp2_with (first
     | (go_at_call 119;refine (Qax _ _ hg HZ _).mono ?_;rintro e w1 ⟨rfl,rfl⟩))
    go_loopw [5,7] (fun q i wr=>Below w.heap.size w wr/\Qcg wr w.heap.size z (.slice pa pn pc) (.slice na nn nc) h l/\∃ (j:Nat) (g:Int),j<=pn/\i=.int .i64 j/\q=.int .u64 g/\U64 g/\Hid (rk rank 0 (Qgw z P N)=rk rank g ((P.map fP).drop j ++ []))) (fun q i wr=>pn - (Go.RowKit.intOf i).toNat)
    case atStart=>exact ⟨HB,HK,0,_,ZZj _,rfl,rfl,hw,HE⟩
    case round=>
     clear hK HB HK HE ad hg hw af;obtain ⟨aa,hK,k,g,hk,rfl,rfl,hg,HR⟩:=hrel;have HB:=Qaa aa;have HK:=Qaa hK;by_cases am:k<pn
     ·obtain ⟨⟨a,u⟩,ac⟩:∃ a,P[k]?=some a:=⟨P[k]'(by have:=EP.out;omega),ZZe _⟩
      have ae:(P.map fP)[k]?=some (fP (a,u)):=by rw [List.getElem?_map,ac];rfl
      obtain ⟨ha,hu⟩:=KP.out _ (ZZn ac);obtain ⟨b,ai,rfl,ab⟩:=HP.out (by have:=EP.out;omega);have aj:=Qab aa (ab k _ ac).1;have ah:=Qab aa (ab k _ ac).2;have HS:=Qaa (QnN (T:=[]) ae rank g);have hw:=Qkh hg hu;clear aa ab ac ae;simp only at hu ha;by_cases ad:rank<QaD g u
      ·have HE:Hid (QjR a=rk rank 0 (Qgw z P N)):=by
        refine (?_:QjR a=rk rank 0 (Qgw z P N));rw [HR.out,HS.out];exact (if_pos ad).symm
       go_wp2_with (first
        | (go_at_call 119;refine (Qax _ _ hg hu _).mono ?_;rintro e w1 ⟨rfl,rfl⟩)
        | (go_at_call 125;refine (QgP _ _ ha).mono ?_;rintro e w1 ⟨rfl,rfl⟩))
       go_ret;exact ⟨Qek HE,HB⟩
      ·have HE:Hid (rk rank 0 (Qgw z P N)=rk rank (QaD g u) ((P.map fP).drop (k+1) ++ [])):=by
        refine (?_:rk rank 0 (Qgw z P N)=rk rank (QaD g u) ((P.map fP).drop (k+1) ++ []));rw [HR.out,HS.out];exact if_neg ad
       go_wp2_with (first
        | (go_at_call 119;refine (Qax _ _ hg hu _).mono ?_;rintro e w1 ⟨rfl,rfl⟩))
       go_roundw
       case rel=>exact ⟨HB,HK,k+1,_,by omega,by go_num,rfl,hw,HE⟩
       case measure=>simp [zI];omega
     ·have HE:Hid (0=rk rank 0 (Qgw z P N)):=by
       refine (?_:0=rk rank 0 (Qgw z P N));rw [HR.out,List.drop_eq_nil_of_le (by simp;have:=EP.out;omega)];rfl
      clear aa HR;go_wp2;go_ret;exact ⟨Qek HE,HB⟩
theorem QgH (hz0:U64 z) (hr0:U64 rank) (hp:P.length=pn) (hn:N.length=nn) (lp:pn<=1048576) (ln:nn<=1048576) (hP:QaJ w pa P) (hN:QaJ w na N) (kP:∀ x∈P,Qbw x) (kN:∀ x∈N,Qbw x) :
  Calls prog 35 #[.agg #[.int .u64 z,.slice pa pn pc,.slice na nn nc,.int .i64 h,.int .u64 l],.int .u64 rank] w fun e w'=>e=.returned (.int .i64 (skR z P N rank))/\Below w.heap.size w w':=by
 have HP:=Qaa hP;have HN:=Qaa hN;have KP:=Qaa kP;have KN:=Qaa kN;have hW:∀ o1,Below w.heap.size w (w.alloc o1):=fun o1=>(ZZb _ _).alloc (ZZa _) _;have HW:=Qaa hW;clear hP hN kP kN hW;have ah:=hr0.1;go_enter func35,ntmps35;go_wp2_with fail;refine (Qdb hp hn lp ln (Qak HP (HW.out _)) (Qak HN (HW.out _)) KP KN).mono ?_;rintro e w1 ⟨rfl,ac⟩;have aa:=Qaa ((HW.out _).trans (ac.mono (by simp)));have K1:=Qca (Qg1 w _ _ _ _ _ _) ac;clear ac;by_cases hr:skB P N=true
 ·have ag:Hid (skW z P N=Qfh (z+QcD P+QcD N)):=if_pos hr
  go_wp2_with fail;refine (QhT hz0 hp hn lp ln (Qak HP aa) (Qak HN aa) KP KN).mono ?_;rintro e w2 ⟨rfl,ad⟩;rw [<- ag.out];have K2:=Qca K1 ad;have ab:=Qaa (Qac aa ad);clear ad K1;by_cases af:skW z P N<=rank
  ·have HF:Hid (0=skR z P N rank):=(if_pos af).symm
   go_wp2;go_ret;exact ⟨Qek HF,ab⟩
  ·have HF:Hid (rk rank 0 (Qgw z P N)=skR z P N rank):=(if_neg af).symm
   go_wp2_with fail;refine (QjX hz0 hr0 hp hn lp ln (Qak HP ab) (Qak HN ab) KP KN).mono ?_;rintro e w3 ⟨rfl,ae⟩;have ai:=Qaa (Qac ab ae);clear ae;go_wp2;go_ret;exact ⟨Qek HF,ai⟩
 ·have HF:Hid (0=skR z P N rank):=(if_pos (by rw [show skW z P N=0 from if_neg hr];exact ah)).symm
  have hr:skB P N=false:=by simpa using hr
  go_wp2;go_ret;exact ⟨Qek HF,aa⟩
end
variable {L:List Int}
section
def cS:List Int->Int
 | []=>0
 | r :: t=>2 ^ (55 - r).toNat+cS t
theorem QtF (h:L[k]?=some a):cS (L.drop k)=2 ^ (55 - a).toNat+cS (L.drop (k+1)):=by
 have hk:=(ZZd.1 h).1;rw [List.drop_eq_getElem_cons hk,(List.getElem?_eq_some_iff.1 h).2];rfl
theorem p55 {r:Int} (h:inR r=true):(1:Int)<=2 ^ (55 - r).toNat/\(2:Int) ^ (55 - r).toNat<=36028797018963968:=by
 obtain ⟨n,hn⟩:∃ n,(55 - r).toNat=n:=⟨_,rfl⟩;have aa:n<=55:=by simp [inR] at h;omega
 rw [hn];have h1:(2:Nat) ^ n<=2 ^ 55:=Nat.pow_le_pow_right (by omega) aa;have h2:1<=2 ^ n:=Nat.one_le_two_pow;have e:((2:Int) ^ n)=((2 ^ n:Nat):Int):=by simp
 rw [e];constructor <;> omega
theorem Quc:∀ (L:List Int),L.all inR=true->0<=cS L/\cS L<=36028797018963968*(L.length:Int)
 | [],_=>by simp [cS]
 | r :: t,h=>by
  simp only [List.all_cons,Bool.and_eq_true] at h;have h1:=p55 h.1;have h2:=Quc t h.2;simp only [cS,List.length_cons];generalize (2:Int) ^ (55 - r).toNat=p at h1;constructor <;> omega
theorem Qus (hL:L.all inR=true) (h64:L.length=64) (h:L[k]?=some a) (e:x+cS (L.drop k)=cS L) (h0:0<=x) :
  x+2 ^ (55 - a).toNat+cS (L.drop (k+1))=cS L/\0<=x+2 ^ (55 - a).toNat/\x+2 ^ (55 - a).toNat<=2305843009213693952/\0<=55 - a/\55 - a<=55/\(2:Int) ^ (55 - a).toNat<=36028797018963968/\(1:Int)<=2 ^ (55 - a).toNat:=by
 have ha:inR a=true:=List.all_eq_true.1 hL a (ZZn h);have h1:=p55 ha;have h2:=(Quc L hL).2;have h3:=(Quc (L.drop (k+1)) (List.all_eq_true.2 fun y hy=>List.all_eq_true.1 hL y (ZZp hy))).1;rw [QtF h] at e;rw [h64] at h2;simp [inR] at ha;generalize (2:Int) ^ (55 - a).toNat=p at *;refine ⟨by omega,by omega,by omega,by omega,by omega,by omega,by omega⟩
def QjT (E R:List Int):Int:=if hlB E R=true then (if R.length=0 then (E.length:Int) else Int.tdiv (Int.tdiv 3193052135805681664 (max (Int.tdiv (cS R) 32768) 1)) 1000) else 0
theorem Qog {t:Int} (h:1<=t):wrap64 ((3193052135805681664 / t).tdiv 1000)=Int.tdiv (Int.tdiv 3193052135805681664 (max t 1)) 1000:=by
 rw [show max t 1=t by omega,Int.tdiv_eq_ediv_of_nonneg (a:=3193052135805681664) (by omega)];have h0:0<=3193052135805681664 / t:=Int.ediv_nonneg (by omega) (by omega);have h1:3193052135805681664 / t<=3193052135805681664:=Int.ediv_le_self _ (by omega);generalize 3193052135805681664 / t=q at *;rw [Int.tdiv_eq_ediv_of_nonneg h0];exact w64_id (by unfold I64;omega)
theorem Qi8 {P N:List Int} (hp:P.length=pn) (hn:N.length=nn) (lp:pn<=1048576) (ln:nn<=1048576) (hP:QaH .u64 w pa P) (hN:QaH .i64 w na N) (kN:∀ x∈N,I64 x) :
  Calls prog 36 #[.agg #[.slice pa pn pc,.slice na nn nc]] w fun e w'=>e=.returned (.int .i64 (QjT P N))/\Below w.heap.size w w':=by
 have HP:=Qaa hP;have HN:=Qaa hN;have EP:=Qaa hp;have EN:=Qaa hn;have KN:=Qaa kN;have hW:∀ o1,Below w.heap.size w (w.alloc o1):=fun o1=>(ZZb _ _).alloc (ZZa _) _;have HW:=Qaa hW;clear hP hN hW kN
 cases hb:hlB P N with
 | false=>
  have HE:Hid (0=QjT P N):=(by simp [QjT,hb]:0=QjT P N);go_enter func36,ntmps36;go_wp2_with fail;refine (Qcr hp hn lp ln (Qah HP (HW.out _)) (Qah HN (HW.out _)) KN).mono ?_;rintro e w1 ⟨rfl,aa⟩;rw [hb];have ad:=Qaa (Qac (HW.out _) aa);clear aa;go_wp2;go_ret;exact ⟨Qmq HE,ad⟩
 | true=>
  by_cases h0:nn=0
  ·subst h0
   have HE:Hid ((pn:Int)=QjT P N):=(by simp [QjT,hb,hp,hn]:(pn:Int)=QjT P N);go_enter func36,ntmps36;go_wp2_with fail;refine (Qcr hp hn lp ln (Qah HP (HW.out _)) (Qah HN (HW.out _)) KN).mono ?_;rintro e w1 ⟨rfl,aa⟩;rw [hb];have ad:=Qaa (Qac (HW.out _) aa);have K1:=Qbi (Qf4 w _ _ _) aa;clear aa;go_wp2;go_ret;exact ⟨Qmq HE,ad⟩
  ·have ai:((nn:Int) == 0)=false:=ZZf.2 (by omega)
   have ak:nn=64/\N.all inR=true:=by simp [hlB,hn,h0,QmG] at hb;exact ⟨hb.2.1,by simpa using hb.2.2⟩
   obtain ⟨rfl,ae⟩:=ak;have HE:Hid (QjT P N=Int.tdiv (Int.tdiv 3193052135805681664 (max (Int.tdiv (cS N) 32768) 1)) 1000):=(by simp [QjT,hb,hn]:QjT P N=Int.tdiv (Int.tdiv 3193052135805681664 (max (Int.tdiv (cS N) 32768) 1)) 1000);have HL:=Qaa ae;clear ae ai h0;go_enter func36,ntmps36;go_wp2_with fail;refine (Qcr hp hn lp ln (Qah HP (HW.out _)) (Qah HN (HW.out _)) KN).mono ?_;rintro e w1 ⟨rfl,aa⟩;rw [hb];have ad:=Qaa (Qac (HW.out _) aa);have K1:=Qbi (Qf4 w _ _ _) aa;clear aa hb hp hn;go_wp2
   go_loopw [3,4] (fun q i wr=>Below w.heap.size w wr/\QbC wr w.heap.size (.slice pa pn pc) (.slice na 64 nc)/\∃ (k:Nat) (x:Int),k<=64/\i=.int .i64 k/\q=.int .i64 x/\0<=x/\x<=2305843009213693952/\Hid (x+cS (N.drop k)=cS N)) (fun q i wr=>64 - (Go.RowKit.intOf i).toNat)
   case atStart=>exact ⟨ad,K1,0,0,Nat.zero_le _,rfl,rfl,Int.le_refl _,by omega,(by rw [List.drop_zero,Int.zero_add]:0+cS (N.drop 0)=cS N)⟩
   case round=>
    clear K1;obtain ⟨ab,hK,k,x,hk,rfl,rfl,af,aj,HR⟩:=hrel;have HB:=Qaa ab;have HK:=Qaa hK;by_cases am:k<64
    ·obtain ⟨u,ag⟩:∃ a,N[k]?=some a:=⟨N[k]'(by have:=EN.out;omega),ZZe _⟩
     obtain ⟨b,ap,rfl,ac⟩:=HN.out (by have:=EN.out;omega);have al:=Qab ab (ac k _ ag);obtain ⟨e1,e2,e3,e4,e5,e6,e7⟩:=Qus HL EN ag HR af;have HS:=Qaa e1;clear ab ac ag HR e1;go_wp2;go_roundw
     case rel=>exact ⟨HB,HK,k+1,_,by omega,by go_num,rfl,e2,e3,HS⟩
     case measure=>simp [zI];omega
    ·have hx:x=cS N:=by
      have:=HR.out;rw [List.drop_eq_nil_of_le (by have:=EN.out;omega)] at this
      simpa [cS] using this
     obtain ⟨t,ht⟩:∃ t,Int.tdiv x 32768=t:=⟨_,rfl⟩;have ao:0<=t:=by rw [<- ht];exact Int.tdiv_nonneg af (by omega)
     have an:t<=2305843009213693952:=by rw [<- ht];exact Int.le_trans (Int.tdiv_le_self _ af) aj
     have ah:Hid (Int.tdiv (Int.tdiv 3193052135805681664 (max t 1)) 1000=QjT P N):=(by rw [HE.out,<- hx,ht]:Int.tdiv (Int.tdiv 3193052135805681664 (max t 1)) 1000=QjT P N);clear ab HR hx HE;by_cases h1:t<1
     ·obtain rfl:t=0:=by omega
      go_wp2_with (go_at_call 89;refine (Qb6 _ _ _).mono ?_;rintro e w2 ⟨rfl,rfl⟩);go_ret;exact ⟨Qmq ((by rw [show max (1:Int) 0=1 by omega,show max (0:Int) 1=max 1 1 by omega];exact Qog (by omega):wrap64 (((3193052135805681664:Int) / max 1 0).tdiv 1000)=(Int.tdiv 3193052135805681664 (max 0 1)).tdiv 1000).trans ah),HB⟩
     ·have hm:max 1 t=t:=by omega
      go_wp2_with (go_at_call 89;refine (Qb6 _ _ _).mono ?_;rintro e w2 ⟨rfl,rfl⟩;rw [hm]);go_ret;exact ⟨Qmq ((Qog (by omega)).trans ah),HB⟩
end
section
def hiN (M:Nat):Int:=((M / 18446744073709551616:Nat):Int)
def loN (M:Nat):Int:=((M % 18446744073709551616:Nat):Int)
def dgN (M:Nat):Int:=((M % 10:Nat):Int)
theorem Qr8 {M:Nat} (h:M<340282366920938463463374607431768211456):U64 (hiN M):=by unfold U64 hiN;omega
theorem loN_in (M:Nat):U64 (loN M):=by unfold U64 loN;omega
theorem Qsp (M:Nat):0<=dgN M/\dgN M<=9:=by unfold dgN;omega
theorem or_add (a b s:Nat) (k:Nat) (ha:a=s*2 ^ k) (hb:b<2 ^ k):a ||| b=a+b:=by
 subst ha;rw [Nat.mul_comm,<- Nat.two_pow_add_eq_or_of_lt hb]
theorem Qpw (a b:Int) (k:Nat) (s:Int) (ha:a=s*2 ^ k) (hs:0<=s) (hb0:0<=b) (hb:b<2 ^ k) (hsum:a+b<18446744073709551616):bits .or .u64 a b=a+b:=by
 obtain ⟨s,rfl⟩:=Int.eq_ofNat_of_zero_le hs;obtain ⟨b,rfl⟩:=Int.eq_ofNat_of_zero_le hb0;have e:a=((s*2 ^ k:Nat):Int):=by rw [ha];simp
 subst e;have aa:b<2 ^ k:=by exact_mod_cast hb
 have h1:s*2 ^ k+b<18446744073709551616:=by
  generalize s*2 ^ k=X at hsum ⊢;omega
 rw [u64_or_nat _ _ (by omega) (by omega),or_add _ _ s k rfl aa];simp
theorem Ql7 (h:0<=x):x.tdiv 10=x / 10:=Int.tdiv_eq_ediv_of_nonneg h
theorem QoT (h:0<=x):x.tmod 10=x % 10:=Int.tmod_eq_emod_of_nonneg h
theorem ten_x (h l:Int) (hh:U64 h) (hl:U64 l):bits BinOp.or IntKind.u64 (IntKind.u64.wrap (h.tmod 10*4294967296)) (l / 4294967296)=(h % 10)*4294967296+l / 4294967296:=by
 unfold U64 at hh hl;rw [QoT hh.1,IntKind.wrap_u64,show h % 10*4294967296 % 18446744073709551616=h % 10*4294967296 by omega];exact Qpw _ _ 32 (h % 10) rfl (by omega) (by omega) (by show l / 4294967296<4294967296;omega) (by omega)
theorem ten_y (x l:Int) (hx:0<=x) (hl:U64 l):bits BinOp.or IntKind.u64 (IntKind.u64.wrap (x.tmod 10*4294967296)) (bits BinOp.and IntKind.u64 l 4294967295)=(x % 10)*4294967296+l % 4294967296:=by
 unfold U64 at hl;rw [QoT hx,IntKind.wrap_u64,and_low32 l hl.1 (by omega),show x % 10*4294967296 % 18446744073709551616=x % 10*4294967296 by omega];exact Qpw _ _ 32 (x % 10) rfl (by omega) (by omega) (by show l % 4294967296<4294967296;omega) (by omega)
theorem ten_z (x y:Int) (hx:0<=x) (hx2:x<42949672960) (hy:0<=y) (hy2:y<42949672960):bits BinOp.or IntKind.u64 (IntKind.u64.wrap (IntKind.u64.wrap (x.tdiv 10)*4294967296)) (IntKind.u64.wrap (y.tdiv 10))=x / 10*4294967296+y / 10:=by
 rw [Ql7 hx,Ql7 hy,IntKind.wrap_u64,IntKind.wrap_u64,IntKind.wrap_u64,show x / 10 % 18446744073709551616=x / 10 by omega,show y / 10 % 18446744073709551616=y / 10 by omega,show x / 10*4294967296 % 18446744073709551616=x / 10*4294967296 by omega];exact Qpw _ _ 32 (x / 10) rfl (by omega) (by omega) (by show y / 10<4294967296;omega) (by omega)
theorem ten_z' (x y:Int) (hx:0<=x) (hx2:x<42949672960) (hy:0<=y) (hy2:y<42949672960):bits BinOp.or IntKind.u64 (IntKind.u64.wrap (IntKind.u64.wrap (x.tdiv 10)*4294967296)) (y / 10)=x / 10*4294967296+y / 10:=by
 have h:=ten_z x y hx hx2 hy hy2
 rwa [Ql7 hy,IntKind.wrap_u64 (y / 10),show y / 10 % 18446744073709551616=y / 10 by omega] at h
theorem QsZ (M:Nat) (hM:M<340282366920938463463374607431768211456) :
  IntKind.u64.wrap ((hiN M).tdiv 10)=hiN (M / 10) /\
  (hiN M % 10*4294967296+loN M / 4294967296) / 10*4294967296+((hiN M % 10*4294967296+loN M / 4294967296) % 10*4294967296+loN M % 4294967296) / 10=loN (M / 10) /\
  ((hiN M % 10*4294967296+loN M / 4294967296) % 10*4294967296+loN M % 4294967296) % 10=dgN M:=by
 refine ⟨?_,?_,?_⟩
 ·have e:M / 18446744073709551616 / 10=M / 10 / 18446744073709551616:=by rw [Nat.div_div_eq_div_mul,Nat.div_div_eq_div_mul]
  rw [Ql7 (Qr8 hM).1,IntKind.wrap_u64];unfold hiN;rw [<- e];omega
 ·unfold hiN loN;omega
 ·unfold hiN loN dgN;omega
end
section
theorem Qpe {c d e f:Int} (h:a=d) (k:b=e) (l:c=f):Ending.returned (.tuple #[.int .u64 a,.int .u64 b,.int .u64 c])=.returned (.tuple #[.int .u64 d,.int .u64 e,.int .u64 f]):=by rw [h,k,l]
theorem QmO (M:Nat) (hM:M<340282366920938463463374607431768211456) (w:World) :
  Calls prog 171 #[.int .u64 (hiN M),.int .u64 (loN M)] w fun e w'=>e=.returned (.tuple #[.int .u64 (hiN (M / 10)),.int .u64 (loN (M / 10)),.int .u64 (dgN M)])/\w'=w:=by
 have hh:=Qr8 hM;have hl:=loN_in M;have HT:Hid (_/\_/\_):=QsZ M hM;have ex:=ten_x _ _ hh hl;have hx:0<=hiN M % 10*4294967296+loN M / 4294967296/\hiN M % 10*4294967296+loN M / 4294967296<42949672960:=by unfold U64 at hh hl;omega
 have ey:=ten_y (hiN M % 10*4294967296+loN M / 4294967296) _ hx.1 hl;have hy:0<=(hiN M % 10*4294967296+loN M / 4294967296) % 10*4294967296+loN M % 4294967296/\(hiN M % 10*4294967296+loN M / 4294967296) % 10*4294967296+loN M % 4294967296<42949672960:=by unfold U64 at hl;omega
 have EZ:Hid (_=_):=ten_z' _ _ hx.1 hx.2 hy.1 hy.2;have ed:=QoT hy.1;clear hh hl hx hy;go_enter func171,ntmps171;go_wp2
 go_ret3
 exact ⟨Qpe HT.out.1 (EZ.out.trans HT.out.2.1) HT.out.2.2,rfl⟩
end
section
def QkL:Nat->Nat->List Int
 | 0,_=>[]
 | f+1,M=>if M=0 then [] else (48+dgN M) :: QkL f (M / 10)
def QjQ (M:Nat):List Int:=if M=0 then [48] else QkL 40 M
theorem Qmf:∀ (f M k:Nat),M<10 ^ k->(QkL f M).length<=k
 | 0,_,_,_=>by simp [QkL]
 | f+1,M,k,h=>by
  unfold QkL;by_cases e:M=0
  ·rw [if_pos e];simp
  ·rw [if_neg e]
   cases k with
   | zero=>simp at h;omega
   | succ k=>
    have:=Qmf f (M / 10) k (by rw [Nat.pow_succ] at h;omega);simp only [List.length_cons];omega
theorem QjH (M:Nat) (h:M<340282366920938463463374607431768211456):1<=(QjQ M).length/\(QjQ M).length<=39:=by
 unfold QjQ;by_cases e:M=0
 ·rw [if_pos e];simp
 ·rw [if_neg e]
  refine ⟨?_,Qmf 40 M 39 (by omega)⟩
  show 1<=(QkL (39+1) M).length
  unfold QkL;rw [if_neg e];simp
theorem Qio (f:Nat):QkL f 0=[]:=by cases f <;> simp [QkL]
def Dig (N M:Nat) (L:List Int):Prop:=L.length<=39/\M<10 ^ (39 - L.length)/\((L=[]/\M=N)∨(L≠[]/\QjQ N=L ++ QkL (40 - L.length) M))
theorem dig_lt {N M:Nat} (h:Dig N M L) (hN:N<340282366920938463463374607431768211456):M<340282366920938463463374607431768211456:=by
 rcases h.2.2 with ⟨_,e⟩ | ⟨hL,_⟩
 ·omega
 ·have h1:=h.2.1
  have h2:39 - L.length<=38:=by have:=List.length_pos_iff.2 hL;omega
  have h3:=Nat.pow_le_pow_right (show 0<10 by omega) h2;have h4:(10:Nat) ^ 38<340282366920938463463374607431768211456:=by decide
  omega
theorem Qpy (N:Nat) (h:N<340282366920938463463374607431768211456):Dig N N []:=by
 have h4:(340282366920938463463374607431768211456:Nat)<10 ^ 39:=by decide
 exact ⟨by simp,by show N<10 ^ 39;omega,.inl ⟨rfl,rfl⟩⟩
theorem Qlw {N M:Nat} (h:Dig N M L) (hgo:L=[]∨M≠0):L.length<=38:=by
 rcases hgo with rfl | hM
 ·simp
 ·have h1:=h.2.1
  have h2:=h.1;rcases Nat.lt_or_ge L.length 39 with h3 | h3
  ·omega
  ·rw [show 39 - L.length=0 by omega] at h1;omega
theorem Qrb {N M:Nat} (h:Dig N M L) (hgo:L=[]∨M≠0):Dig N (M / 10) (L ++ [48+dgN M]):=by
 have hr:=Qlw h hgo;obtain ⟨hl,hM,h⟩:=h;refine ⟨by simp;omega,?_,.inr ⟨by simp,?_⟩⟩
 ·rw [List.length_append,List.length_singleton]
  rw [show 39 - L.length=(39 - (L.length+1))+1 by omega,Nat.pow_succ] at hM;omega
 ·rcases h with ⟨rfl,rfl⟩ | ⟨hL,hd⟩
  ·unfold QjQ
   by_cases e:M=0
   ·subst e;rw [if_pos rfl];show [48]=[48+dgN 0] ++ QkL 39 (0 / 10);rw [show 0 / 10=0 from rfl,Qio];rfl
   ·rw [if_neg e];show QkL (39+1) M=[48+dgN M] ++ QkL 39 (M / 10)
    rw [QkL,if_neg e];rfl
  ·have e:M≠0:=by
    rcases hgo with h | h
    ·exact absurd h hL
    ·exact h
   obtain ⟨f,hf⟩:∃ f,40 - L.length=f+1:=⟨39 - L.length,by omega⟩;rw [hd,hf,QkL,if_neg e,List.length_append,List.length_singleton,show 40 - (L.length+1)=f by omega];simp
theorem Quz {N:Nat} (h:Dig N 0 L) (hL:L≠[]):L=QjQ N:=by
 rcases h.2.2 with ⟨h,_⟩ | ⟨_,h⟩
 ·exact absurd h hL
 ·rw [h,Qio];simp
def QmB (D:List Int) (k:Nat):List Int:=(List.range D.length).map fun j=>if j<k∨D.length - 1 - j<k then D.getD (D.length - 1 - j) 0 else D.getD j 0
theorem Qct (D:List Int) (k:Nat):(QmB D k).length=D.length:=by simp [QmB]
theorem Qdp (D:List Int) (k j:Nat) (h:j<D.length):(QmB D k)[j]?=some (if j<k∨D.length - 1 - j<k then D.getD (D.length - 1 - j) 0 else D.getD j 0):=by
 simp [QmB,h]
theorem Qoa (D:List Int):QmB D 0=D:=by
 apply List.ext_getElem?;intro j;rcases Nat.lt_or_ge j D.length with h | h
 ·rw [Qdp D 0 j h,if_neg (by omega)];simp [h]
 ·rw [List.getElem?_eq_none (by rw [Qct];exact h),List.getElem?_eq_none h]
theorem QnM (D:List Int) (k:Nat) (h:k<D.length / 2):((QmB D k).set k (D.getD (D.length - 1 - k) 0)).set (D.length - 1 - k) (D.getD k 0)=QmB D (k+1):=by
 apply List.ext_getElem?;intro j;rcases Nat.lt_or_ge j D.length with hj | hj
 ·rw [Qdp D (k+1) j hj,List.getElem?_set,List.length_set,Qct,List.getElem?_set,Qct,Qdp D k j hj]
  by_cases e1:D.length - 1 - k=j
  ·subst e1
   rw [if_pos rfl,if_pos (by omega),if_pos (by omega),show D.length - 1 - (D.length - 1 - k)=k by omega]
  ·rw [if_neg e1]
   by_cases e2:k=j
   ·subst e2;rw [if_pos rfl,if_pos (by omega),if_pos (by omega)]
   ·rw [if_neg e2]
    by_cases e3:j<k∨D.length - 1 - j<k
    ·rw [if_pos e3,if_pos (by omega)]
    ·rw [if_neg e3,if_neg (by omega)]
 ·rw [List.getElem?_eq_none (by simp [Qct];omega),List.getElem?_eq_none (by rw [Qct];exact hj)]
theorem Qq3 (D:List Int):QmB D (D.length / 2)=D.reverse:=by
 apply List.ext_getElem?;intro j;rcases Nat.lt_or_ge j D.length with h | h
 ·rw [Qdp D _ j h,List.getElem?_reverse h]
  have hn:D[D.length - 1 - j]?=some (D.getD (D.length - 1 - j) 0):=by
   rw [List.getD_eq_getElem?_getD,List.getElem?_eq_getElem (by omega)];rfl
  rw [hn];by_cases e:j<D.length / 2∨D.length - 1 - j<D.length / 2
  ·rw [if_pos e]
  ·rw [if_neg e,show D.length - 1 - j=j by omega]
 ·rw [List.getElem?_eq_none (by rw [Qct];exact h),List.getElem?_eq_none (by simp;exact h)]
end
variable {o:Obj}
section
theorem infoU8:(prog.info? 5).map (fun i=>(i.zero,i.size,i.bytes))=some (some (.int .u8 0),1,1):=by kernel_rfl
theorem go_on (M:Nat) (L:List Int):((L=[]∨M≠0)/\((hiN M != 0)=true∨((hiN M != 0)=false/\(loN M != 0)=true)∨((hiN M != 0)=false/\(loN M != 0)=false/\((L.length:Int) == 0)=true))) ∨
  ((hiN M != 0)=false/\(loN M != 0)=false/\((L.length:Int) == 0)=false/\M=0/\L≠[]):=by
 by_cases e:hiN M=0
 ·have e1:(hiN M != 0)=false:=by simp [e]
  by_cases k:loN M=0
  ·have e2:(loN M != 0)=false:=by simp [k]
   have hM:M=0:=by unfold hiN at e;unfold loN at k;omega
   cases L with
   | nil=>exact .inl ⟨.inl rfl,.inr (.inr ⟨e1,e2,rfl⟩)⟩
   | cons x l=>exact .inr ⟨e1,e2,by simp;omega,hM,by simp⟩
  ·exact .inl ⟨.inr (by unfold loN at k;omega),.inr (.inl ⟨e1,by simpa using k⟩)⟩
 ·exact .inl ⟨.inr (by unfold hiN at e;omega),.inl (by simpa using e)⟩
def bys (L:List Int):List Value:=L.map (Value.int .u8)
def lenOf:Value->Nat | .slice _ n _=>n | _=>0
theorem Qro {w1:World} {v v':Value} (hbel:Below w.heap.size w wr) (hown:wr.ownsRow w.heap.size e 1 v L.length (bys L)) (hown':w1.ownsRow w.heap.size e 1 v' (L.length+1) (bys L ++ [.int .u8 x])) (hgrow:(wr.alloc o).grownBy w1 v.ownBlock) :
  w1.ownsRow w.heap.size e 1 v' (L ++ [x]).length (bys (L ++ [x]))/\Below w.heap.size w w1:=by
 refine ⟨by simpa [bys] using hown',?_⟩;refine (hbel.alloc hbel.size o).grown hgrow (by have:=hbel.size;simp;omega) ?_;intro k hk;rcases hown.2 with ⟨hv,_⟩ | ⟨g,ab,aa,hv,hg,_⟩
 ·subst hv;simp [Value.ownBlock] at hk
 ·subst hv;simp [Value.ownBlock] at hk;omega
theorem Qkj (L:List Int) (j:Nat) (h:j<L.length):(bys L)[j]?=some (.int .u8 (L.getD j 0)):=by
 simp [bys,List.getElem?_map,List.getElem?_eq_getElem h,List.getD_eq_getElem?_getD]
theorem Qpt (L:List Int) (j:Nat) (x:Int):(bys L).set j (.int .u8 x)=bys (L.set j x):=by simp [bys,List.map_set]
theorem QpF (D:List Int) (k:Nat) (h:k<D.length / 2):(QmB D k).getD k 0=D.getD k 0/\(QmB D k).getD (D.length - 1 - k) 0=D.getD (D.length - 1 - k) 0:=by
 constructor
 ·rw [List.getD_eq_getElem?_getD,Qdp D k k (by omega),if_neg (by omega)];rfl
 ·rw [List.getD_eq_getElem?_getD,Qdp D k _ (by omega),if_neg (by omega)];rfl
theorem QnQ {g cap:Nat} {D:List Int} (hk:k<D.length / 2) (hg:w.heap.size<=g) (hbel:Below w.heap.size w wr) (hown:wr.ownsRow w.heap.size e 1 (.slice (some ⟨g,0,none⟩) D.length cap) D.length (bys (QmB D k))) :
  ((wr.setCell ⟨g,k,none⟩ (.int .u8 (D.getD (D.length - 1 - k) 0))).setCell ⟨g,D.length - 1 - k,none⟩ (.int .u8 (D.getD k 0))).ownsRow w.heap.size e 1 (.slice (some ⟨g,0,none⟩) D.length cap) D.length (bys (QmB D (k+1))) /\
  Below w.heap.size w ((wr.setCell ⟨g,k,none⟩ (.int .u8 (D.getD (D.length - 1 - k) 0))).setCell ⟨g,D.length - 1 - k,none⟩ (.int .u8 (D.getD k 0))):=by
 have h1:=(hown.stored k (.int .u8 (D.getD (D.length - 1 - k) 0))).1;rw [Qpt] at h1;have h2:=(h1.stored (D.length - 1 - k) (.int .u8 (D.getD k 0))).1;rw [Qpt,QnM D k hk] at h2;exact ⟨h2,(hbel.setCell (by exact hg) _).setCell (by exact hg) _⟩
theorem QjI (N:Nat) (hN:N<340282366920938463463374607431768211456) (w:World) :
  Calls prog 118 #[.int .u64 (hiN N),.int .u64 (loN N)] w fun e w'=>e=.returned (.string (strOfNums (QjQ N).reverse))/\Below w.heap.size w w':=by
 obtain ⟨i0,hi,am,av,aq⟩:=info_parts infoU8;go_enter func118,ntmps118;go_wp2
 go_loopw [0,1,5] (fun h l v wr=>∃ (M:Nat) (L:List Int),h=.int .u64 (hiN M)/\l=.int .u64 (loN M)/\Dig N M L/\wr.ownsRow w.heap.size 5 1 v L.length (bys L)/\Below w.heap.size w wr)
  (fun h l v wr=>40 - lenOf v)
 case atStart=>exact ⟨N,[],rfl,rfl,Qpy N hN,⟨rfl,.inr ⟨w.heap.size,0,#[],rfl,ZZa _,ZZk w _,ZZa _,ZZj _,rfl,rfl⟩⟩,(ZZb _ _).alloc (ZZa _) _⟩
 case round=>
  obtain ⟨M,L,rfl,rfl,hD,aa,ab⟩:=hrel;obtain ⟨ao,ak,hv⟩:=Qag aa;subst hv;have HM:Hid (M<340282366920938463463374607431768211456):=dig_lt hD hN;have aA:=(Qsp M).1;have az:=(Qsp M).2;have HD:Hid (Dig N M L):=hD;have hL:L.length<=39:=hD.1;have aw:w.heap.size<=wr.heap.size:=ab.size;clear hD;rcases go_on M L with ⟨ah,af⟩ | ⟨g1,g2,g3,hM,ag⟩
  ·have HS:Hid (Dig N (M / 10) (L ++ [48+dgN M])):=Qrb HD ah
   have ax:L.length<=38:=Qlw HD ah;clear ah;rcases af with g1 | ⟨g1,g2⟩ | ⟨g1,g2,g3⟩
   all_goals
    go_wp2_with (first
     | (go_at_call 171;refine (QmO M HM _).mono ?_;rintro e w1 ⟨rfl,hw⟩;obtain rfl:=hw.symm)
     | (at_builtin;refine wpList_append_own _ rfl _ _ 42 rfl w.heap.size 5 i0 (.int .u8 0) 1 1 underlying42 hi am av aq rfl (by decide) _ _ _ rfl (aa.alloc _) ⟨wr.heap.size,0,none⟩ 1 1 [.int .u8 (48+dgN M)] rfl rfl (cell_one_new _ _ _) (by intro u hu;simp at hu;subst hu;rfl) (by unfold maxLen;omega) (by omega) (by simp;omega) ?_;intro v' w1 ac ad _))
    have R:=Qro ab aa ac ad;obtain ⟨ay,ap,au⟩:=Qag ac;clear ac ad aa ab;subst au;go_wp2;go_roundw
    case rel=>exact ⟨M / 10,L ++ [48+dgN M],rfl,rfl,HS,R.1,R.2⟩
    case measure=>simp only [lenOf];omega
  ·have HE:Hid (L=QjQ N):=(by subst hM;exact Quz HD ag:L=QjQ N)
   have aj:0<L.length:=List.length_pos_iff.2 ag;obtain ⟨g,ar,an,hg,al⟩:=aa.form aj
   cases an
   clear hM ag;go_wp2
   go_loopw [9,10] (fun i c wr2=>∃ k:Nat,k<=L.length / 2/\i=.int .i64 k/\wr2.ownsRow w.heap.size 5 1 (.slice (some ⟨g,0,none⟩) L.length ak) L.length (bys (QmB L k))/\Below w.heap.size w wr2) (fun i c wr2=>L.length - (Go.RowKit.intOf i).toNat)
   case atStart=>exact ⟨0,Nat.zero_le _,rfl,by rw [Qoa];exact aa,ab⟩
   case round=>
    clear aa ab;obtain ⟨k,hk,rfl,aa,ab⟩:=hrel;by_cases ai:k<L.length / 2
    ·have R:=QnQ ai hg ab aa
     have c1:=aa.cellAt k (by omega);have c2:=aa.cellAt (L.length - 1 - k) (by omega);rw [Qkj _ _ (by rw [Qct];omega),(QpF L k ai).1] at c1;rw [Qkj _ _ (by rw [Qct];omega),(QpF L k ai).2] at c2;have f1:=fun j=>aa.frozenAt j;have HR:Hid (_/\_):=R;have i1:(0:Int)<=(L.length:Int) - 1 - (k:Int):=by omega
     have i2:(L.length:Int) - 1 - (k:Int)<(L.length:Int):=by omega
     have i3:((L.length:Int) - 1 - (k:Int)).toNat=L.length - 1 - k:=by omega
     have i4:(k:Int)<(L.length:Int):=by omega
     have i5:(k:Int)<(L.length:Int) / 2:=by omega
     clear R aa ab;go_wp2;go_roundw
     case rel=>exact ⟨k+1,by omega,by go_num,HR.out.1,HR.out.2⟩
     case measure=>simp [zI];omega
    ·have e:k=L.length / 2:=by omega
     rw [e,Qq3] at aa;have ae:L.reverse.length=L.length:=by simp
     have kc:=run_convert_bytes_arg (P:=prog) wr 42 5 underlying42 underlying5 g 0 L.length ak L.reverse ae (fun i hi=>by
      rw [Nat.zero_add,aa.cellAt i (by omega),Qkj _ _ (by rw [ae];exact hi)]) 9 underlying9
     have i5:¬ (k:Int)<(L.length:Int) / 2:=by omega
     have HB:Hid (Below w.heap.size w wr):=ab;clear e aa ae ab;go_wp2;go_ret;exact ⟨Qcy (by rw [HE.out]),HB⟩
end
section
def mag (a b:Int):Nat:=if a<0 then (-(a*18446744073709551616+b)).toNat else (a*18446744073709551616+b).toNat
def Qu9 (a b:Int):List Int:=if a<0 then 45 :: (QjQ (mag a b)).reverse else (QjQ (mag a b)).reverse
theorem Qr3 (a b:Int) (ha:I64 a) (hb:U64 b):mag a b<340282366920938463463374607431768211456:=by
 unfold I64 at ha;unfold U64 at hb;unfold mag;split <;> omega
theorem QtT (a b:Int) (ha:I64 a) (hb:U64 b) (h:¬ a<0):IntKind.u64.wrap a=hiN (mag a b)/\b=loN (mag a b):=by
 unfold I64 at ha;unfold U64 at hb;unfold mag;rw [if_neg h,IntKind.wrap_u64];unfold hiN loN;omega
theorem Qtw (a b:Int) (ha:I64 a) (hb:U64 b) (h:a<0):IntKind.u64.wrap (QpT a b)=hiN (mag a b)/\QpL b=loN (mag a b):=by
 unfold I64 at ha;unfold U64 at hb;unfold mag;rw [if_pos h,IntKind.wrap_u64];unfold QpT QpL hiN loN wrap64 uw;by_cases k:b=0
 ·rw [if_pos k];omega
 ·rw [if_neg k];omega
theorem QqB (n:Int) (l:List Int):(⟨#[UInt8.ofNat n.toNat]⟩:ByteArray) ++ strOfNums l=strOfNums (n :: l):=by
 apply ByteArray.ext;rw [ByteArray.data_append];simp [strOfNums]
theorem QiK (a b:Int) (ha:I64 a) (hb:U64 b) (w:World) :
  Calls prog 77 #[.agg #[.int .i64 a,.int .u64 b]] w fun e w'=>e=.returned (.string (strOfNums (Qu9 a b)))/\Below w.heap.size w w':=by
 have HM:Hid (mag a b<340282366920938463463374607431768211456):=Qr3 a b ha hb;by_cases h:a<0
 ·obtain ⟨e1,e2⟩:=Qtw a b ha hb h
  have HC:Hid (∀ w,Calls prog 117 #[.agg #[.int .i64 a,.int .u64 b]] w fun e w'=>e=.returned (.agg #[.int .i64 (QpT a b),.int .u64 (QpL b)])/\Below w.heap.size w w'):=fun w=>QgY a b ha hb w;have HT:Hid ((⟨#[45]⟩:ByteArray) ++ strOfNums (QjQ (mag a b)).reverse=strOfNums (Qu9 a b)):=(by unfold Qu9;rw [if_pos h];exact QqB 45 _:(⟨#[45]⟩:ByteArray) ++ strOfNums (QjQ (mag a b)).reverse=strOfNums (Qu9 a b));have ad:(strOfNums (QjQ (mag a b)).reverse).size<=39:=by rw [strOfNums_size,List.length_reverse];exact (QjH _ HM).2
  clear ha hb;go_enter func77,ntmps77
  go_wp2_with (first
   | (go_at_call 117;refine (HC.out _).mono ?_;rintro e w1 ⟨rfl,ab⟩;have ac:=ab.size;simp at ac)
   | (go_at_call 118;refine (QjI _ HM _).mono ?_;rintro e w2 ⟨rfl,aa⟩))
  go_ret;exact ⟨Qcy HT,((((Below.refl _ _).alloc (Nat.le_refl _) _).trans (ab.mono (by simp))).alloc (by omega) _).trans (aa.mono (by simp;omega))⟩
 ·obtain ⟨e1,e2⟩:=QtT a b ha hb h
  have HC:Hid (∀ w,Calls prog 118 #[.int .u64 (hiN (mag a b)),.int .u64 b] w fun e w'=>e=.returned (.string (strOfNums (QjQ (mag a b)).reverse))/\Below w.heap.size w w'):=by
   have:=QjI (mag a b) HM;rw [<- e2] at this;exact this
  have HT:Hid (Qu9 a b=(QjQ (mag a b)).reverse):=if_neg h;clear e2 ha hb;go_enter func77,ntmps77;go_wp2_with (go_at_call 118;refine (HC.out _).mono ?_;rintro e w2 ⟨rfl,aa⟩);go_ret;exact ⟨Qcy (by rw [HT.out]),((Below.refl _ _).alloc (Nat.le_refl _) _).trans (aa.mono (by simp))⟩
end
def TxA (m:Nat) (e:Ending):Prop:=∃ u,e=.returned (.string u)/\u.size<=m
theorem QuV (ha:I64 a) (hb:U64 b):(strOfNums (Qu9 a b)).size<=40:=by
 rw [strOfNums_size];have:=(QjH _ (Qr3 a b ha hb)).2;unfold Qu9
 split
 ·simp;omega
 ·simp;omega
theorem Qkp (ha:I64 a) (hb:U64 b) (w:World):Calls prog 77 #[.agg #[.int .i64 a,.int .u64 b]] w fun e w'=>TxA 40 e/\Below w.heap.size w w':=
 (QiK a b ha hb w).mono (fun e w' ⟨h1,h2⟩=>⟨⟨_,h1,QuV ha hb⟩,h2⟩)
theorem QfT (hn:U64 n) (w:World):Calls prog 76 #[.int .u64 n] w fun e w'=>TxA 40 e/\Below w.heap.size w w':=by
 have HC:Hid (∀ w,Calls prog 77 #[.agg #[.int .i64 0,.int .u64 n]] w fun e w'=>TxA 40 e/\Below w.heap.size w w'):=Qaa (fun w=>Qkp (by unfold I64;omega) hn w);clear hn;go_enter func76,ntmps76;go_wp2_with fail;refine (HC.out _).mono ?_;rintro e w1 ⟨⟨u,rfl,hu⟩,hb⟩;have HB:=Qaa hb;have HU:=Qaa hu;clear hb hu;go_wp2;go_ret;exact ⟨⟨u,rfl,HU⟩,HB⟩
theorem QfE (h0:0<=z) (h1:z<=9223372036854775807) (w:World):Calls prog 28 #[.int .i64 z] w fun e w'=>TxA 40 e/\Below w.heap.size w w':=
 (QfZ z h0 h1 w).mono (fun e w' ⟨h1,h2⟩=>⟨⟨_,h1,by have:=QhE z.toNat (by omega);omega⟩,h2⟩)
theorem QjF (hp:P.length=pn) (lp:pn<=30) (hP:QaJ w pa P) (kP:∀ x∈P,0<=x.1/\x.1<=9223372036854775807/\U64 x.2) :
  Calls prog 78 #[.slice pa pn pc] w fun e w'=>TxA 3000 e/\Below w.heap.size w w':=by
 have HN:=Qaa hp;have HA:=Qaa hP;have HK:=Qaa kP;clear hp hP kP;go_enter func78,ntmps78;go_wp2
 go_loopw [3,4] (fun v i wr=>Below w.heap.size w wr/\∃ (k:Nat) (t:ByteArray),k<=pn/\i=.int .i64 k/\v=.string t/\Hid (t.size<=82*k)) (fun v i wr=>pn - (Go.RowKit.intOf i).toNat)
 case atStart=>exact ⟨ZZb _ _,0,⟨#[]⟩,ZZj _,rfl,rfl,ZZj _⟩
 case round=>
  obtain ⟨aa,k,t,hk,rfl,rfl,HT⟩:=hrel;have HB:=Qaa aa;by_cases am:k<pn
  ·obtain ⟨⟨a,u⟩,ad⟩:∃ a,P[k]?=some a:=⟨P[k]'(by have:=HN.out;omega),ZZe _⟩
   obtain ⟨b,aq,rfl,ab⟩:=HA.out (by have:=HN.out;omega);have ag:=Qab aa (ab k _ ad).1;have ap:=Qab aa (ab k _ ad).2;have hg:=World.block_lt_of_cell? _ _ ag;have HX:=Qaa (HK.out (a,u) (ZZn ad));have ao:IntKind.i64.wrap ((k:Int)+1)=(k:Int)+1:=ZZi _ ⟨by omega,by omega⟩;have af:(k:Int)<(pn:Int):=by omega
   clear aa ad ab;have st:Op.stringOp .add t ⟨#[44]⟩=pure (.string (t ++ ⟨#[44]⟩)):=Qaf (by have:=HT.out;show t.size+1<=_;omega);go_upto_if 12 with fail
   go_cut [3] (fun v w'=>∃ t':ByteArray,v=.string t'/\w'=wr/\Hid (t'.size<=82*k+1))
   case first=>
    by_cases h0:0<k
    ·have ak:(0:Int)<(k:Int):=by omega
     have HQ:Hid ((t ++ (⟨#[44]⟩:ByteArray)).size<=82*k+1):=by rw [ByteArray.size_append];have:=HT.out;show t.size+1<=_;omega
     go_wp2;go_meet;exact ⟨_,rfl,rfl,HQ⟩
    ·have ak:¬ (0:Int)<(k:Int):=by omega
     have HQ:Hid (t.size<=82*k+1):=by have:=HT.out;show t.size<=_;omega
     clear st;go_wp2;go_meet;exact ⟨_,rfl,rfl,HQ⟩
   case rest=>
    clear st HT;obtain ⟨t',rfl,hw,HT⟩:=hcut;obtain rfl:=hw.symm;have HD:=Qaa (QfE HX.out.1 HX.out.2.1);have HU:=Qaa (QfT HX.out.2.2);clear hw;go_upto_region 7 with fail
    go_region_held3 (QqP wr.heap.size wr)
     (refine held ?_ (by simp) <;> first | exact (Below.refl _ _).drew | exact ae)
     (first
      | (go_at_call 28;refine (HD.out _).mono ?_;rintro e w1 ⟨⟨u1,rfl,an⟩,ac⟩;obtain ⟨ae,ai⟩:=Qc8 ac ‹QqP _ _ _›; clear ac;have al:Op.stringOp .add t' u1=pure (.string (t' ++ u1)):=Qaf (by have:=HT.out;omega);have aj:Op.stringOp .add (t' ++ u1) ⟨#[58]⟩=pure (.string (t' ++ u1 ++ ⟨#[58]⟩)):=Qaf (by rw [ByteArray.size_append];have:=HT.out;show t'.size+u1.size+1<=_;omega))
      | (go_at_call 76;refine (HU.out _).mono ?_;rintro e w2 ⟨⟨u2,rfl,ar⟩,ac⟩;obtain ⟨ae,ai⟩:=Qc8 ac ‹QqP _ _ _›; clear ac;have ah:Op.stringOp .add (t' ++ u1 ++ ⟨#[58]⟩) u2=pure (.string (t' ++ u1 ++ ⟨#[58]⟩ ++ u2)):=Qaf (by rw [ByteArray.size_append,ByteArray.size_append];have:=HT.out;show t'.size+u1.size+1+u2.size<=_;omega)))
    have HQ:Hid ((t' ++ u1 ++ (⟨#[58]⟩:ByteArray) ++ u2).size<=82*(k+1)):=by
     rw [ByteArray.size_append,ByteArray.size_append,ByteArray.size_append];have:=HT.out
     show t'.size+u1.size+1+u2.size<=_
     omega
    clear al aj ah;go_wp2;go_roundw
    case rel=>exact ⟨HB.out.trans (ae.mono HB.out.size),k+1,_,by omega,by go_num,rfl,HQ⟩
    case measure=>simp [zI];omega
  ·have af:¬ (k:Int)<(pn:Int):=by omega
   have HQ:Hid (t.size<=3000):=by have:=HT.out;show t.size<=_;omega
   clear aa
   cases he:t.toList.isEmpty with
   | true=>
    go_wp2;go_ret;exact ⟨⟨_,rfl,by decide⟩,HB⟩
   | false=>
    go_wp2;go_ret;exact ⟨⟨_,rfl,HQ⟩,HB⟩
theorem QtN {a b:Value} {T:TypeId} (h:w.heap[r]?=some (.cells #[a,b] T (0,0))):w.cell? ⟨r,0,none⟩=some a/\w.cell? ⟨r,1,none⟩=some b:=
 ⟨by rw [cell_of_row w r 0 _ _ (0,0) h];rfl,by rw [cell_of_row w r 1 _ _ (0,0) h];rfl⟩
theorem Qae (h:w.heap[r]?=some o) (hb:Below w.heap.size w w'):w'.heap[r]?=some o:=(hb.block _ (ZZc.1 h).1).trans h
theorem QrS {ea ra:Option Addr} {en ec rn rc:Nat} {E R:List Int} (he:E.length=en) (hr:R.length=rn) (le:en<=40) (lr:rn<=64) (hE:QaH .u64 w ea E) (hR:QaH .i64 w ra R) (kE:∀ x∈E,U64 x) (kR:∀ x∈R,0<=x/\x<=9223372036854775807) :
  Calls prog 79 #[.agg #[.slice ea en ec,.slice ra rn rc]] w fun e w'=>TxA 5000 e/\Below w.heap.size w w':=by
 have a0:Below w.heap.size w (w.alloc (.cells #[.slice ea en ec,.slice ra rn rc] 88)):=(ZZb _ _).alloc (ZZa _) _;have am:=Qaa a0;have KB:=Qaa (ZZk w (.cells #[.slice ea en ec,.slice ra rn rc] 88));have HE:=Qaa (Qah hE a0);have HR:=Qaa (Qah hR a0);have aj:=Qaa he;have ap:=Qaa hr;have KE:=Qaa kE;have KR:=Qaa kR;clear a0 hE hR he hr kE kR;go_enter func79,ntmps79;go_upto_region 1 with fail;generalize w.alloc (.cells #[.slice ea en ec,.slice ra rn rc] 88)=W0 at am KB HE HR ⊢;generalize w.heap.size=bx at KB ⊢;go_wp2
 go_loopw [3,4] (fun v i wr=>Below W0.heap.size W0 wr/\∃ (k:Nat) (t:ByteArray),k<=en/\i=.int .i64 k/\v=.string t/\Hid (t.size<=41*k)) (fun v i wr=>en - (Go.RowKit.intOf i).toNat)
 case atStart=>exact ⟨ZZb _ _,0,⟨#[]⟩,ZZj _,rfl,rfl,ZZj _⟩
 case round=>
  obtain ⟨aa,k,t,hk,rfl,rfl,HT⟩:=hrel;have HB:=Qaa aa;have af:=Qaa (Qae KB aa);obtain ⟨x0,x1⟩:=QtN af;by_cases ay:k<en
  ·obtain ⟨u,ac⟩:∃ a,E[k]?=some a:=⟨E[k]'(by have:=aj.out;omega),ZZe _⟩
   obtain ⟨b,aw,rfl,ab⟩:=HE.out (by have:=aj.out;omega);have ah:=Qab aa (ab k _ ac);have HX:=Qaa (KE.out u (ZZn ac));have ar:IntKind.i64.wrap ((k:Int)+1)=(k:Int)+1:=ZZi _ ⟨by omega,by omega⟩;have ag:(k:Int)<(en:Int):=by omega
   clear aa ac ab;have st:Op.stringOp .add t ⟨#[44]⟩=pure (.string (t ++ ⟨#[44]⟩)):=Qaf (by have:=HT.out;show t.size+1<=_;omega);go_upto_if 14 with fail
   go_cut [3] (fun v w'=>∃ t':ByteArray,v=.string t'/\w'=wr/\Hid (t'.size<=41*k+1))
   case first=>
    by_cases h0:0<k
    ·have al:(0:Int)<(k:Int):=by omega
     have HQ:Hid ((t ++ (⟨#[44]⟩:ByteArray)).size<=41*k+1):=by rw [ByteArray.size_append];have:=HT.out;show t.size+1<=_;omega
     go_wp2;go_meet;exact ⟨_,rfl,rfl,HQ⟩
    ·have al:¬ (0:Int)<(k:Int):=by omega
     have HQ:Hid (t.size<=41*k+1):=by have:=HT.out;show t.size<=_;omega
     clear st;go_wp2;go_meet;exact ⟨_,rfl,rfl,HQ⟩
   case rest=>
    clear st HT;obtain ⟨t',rfl,hw,HT⟩:=hcut;obtain rfl:=hw.symm;have HU:=Qaa (QfT HX);clear hw;go_wp2_with fail;refine (HU.out _).mono ?_;rintro e w2 ⟨⟨u2,rfl,ax⟩,ad⟩;have aq:Op.stringOp .add t' u2=pure (.string (t' ++ u2)):=Qaf (by have:=HT.out;omega);have HQ:Hid ((t' ++ u2).size<=41*(k+1)):=by rw [ByteArray.size_append];have:=HT.out;show t'.size+u2.size<=_;omega
    have ak:=Qaa (Qac HB ad);clear ad ah x0 x1;go_wp2;go_roundw
    case rel=>exact ⟨ak,k+1,_,by omega,by go_num,rfl,HQ⟩
    case measure=>simp [zI];omega
  ·have ag:¬ (k:Int)<(en:Int):=by omega
   have HQ:Hid (t.size<=41*40):=by have:=HT.out;show t.size<=_;omega
   clear aa HT x0 x1;have ao:=Qaa (Qac am HB);have an:=Qaa (Qah HR HB);have x1:=(QtN af).1;clear HB HE HR KB aj KE am;go_wp2;clear x1;generalize wr=W1 at af ao an ⊢
   go_loopw [3,5] (fun v i w2=>Below W1.heap.size W1 w2/\∃ (j:Nat) (t2:ByteArray),j<=rn/\i=.int .i64 j/\v=.string t2/\Hid (t2.size<=1640+41*j)) (fun v i w2=>rn - (Go.RowKit.intOf i).toNat)
   case atStart=>exact ⟨ZZb _ _,0,t,ZZj _,rfl,rfl,HQ⟩
   case round=>
    obtain ⟨aa,j,t2,hj,rfl,rfl,HT⟩:=hrel;have HB:=Qaa aa;have au:=Qaa (Qae af aa);obtain ⟨x0,x1⟩:=QtN au;by_cases az:j<rn
    ·obtain ⟨u,ac⟩:∃ a,R[j]?=some a:=⟨R[j]'(by have:=ap.out;omega),ZZe _⟩
     obtain ⟨b,aw,rfl,ab⟩:=an.out (by have:=ap.out;omega);have ah:=Qab aa (ab j _ ac);have HX:=Qaa (KR.out u (ZZn ac));have ar:IntKind.i64.wrap ((j:Int)+1)=(j:Int)+1:=ZZi _ ⟨by omega,by omega⟩;have ag:(j:Int)<(rn:Int):=by omega
     clear aa ac ab;have st:Op.stringOp .add t2 ⟨#[44]⟩=pure (.string (t2 ++ ⟨#[44]⟩)):=Qaf (by have:=HT.out;show t2.size+1<=_;omega);go_upto_if 33 with fail
     go_cut [3] (fun v w'=>∃ t':ByteArray,v=.string t'/\w'=wr/\Hid (t'.size<=1640+41*j+1))
     case first=>
      by_cases h0:0<j
      ·have al:(0:Int)<(j:Int):=by omega
       have HQ:Hid ((t2 ++ (⟨#[44]⟩:ByteArray)).size<=1640+41*j+1):=by rw [ByteArray.size_append];have:=HT.out;show t2.size+1<=_;omega
       go_wp2;go_meet;exact ⟨_,rfl,rfl,HQ⟩
      ·have al:¬ (0:Int)<(j:Int):=by omega
       have HQ:Hid (t2.size<=1640+41*j+1):=by have:=HT.out;show t2.size<=_;omega
       clear st;go_wp2;go_meet;exact ⟨_,rfl,rfl,HQ⟩
     case rest=>
      clear st HT;obtain ⟨t',rfl,hw,HT⟩:=hcut;obtain rfl:=hw.symm;have HU:=Qaa (QfE HX.out.1 HX.out.2);clear hw;go_wp2_with fail;refine (HU.out _).mono ?_;rintro e w3 ⟨⟨u2,rfl,ax⟩,ad⟩;have aq:Op.stringOp .add t' u2=pure (.string (t' ++ u2)):=Qaf (by have:=HT.out;omega);have HQ:Hid ((t' ++ u2).size<=1640+41*(j+1)):=by rw [ByteArray.size_append];have:=HT.out;show t'.size+u2.size<=_;omega
      have ak:=Qaa (Qac HB ad);clear ad ah x0 x1;go_wp2;go_roundw
      case rel=>exact ⟨ak,j+1,_,by omega,by go_num,rfl,HQ⟩
      case measure=>simp [zI];omega
    ·have ag:¬ (j:Int)<(rn:Int):=by omega
     have ae:Hid (t2.size<=4300):=by have:=HT.out;show t2.size<=_;omega
     have ai:=Qaa (Qac ao HB);have sd:Op.stringOp .add ⟨#[100,32]⟩ t2=pure (.string ((⟨#[100,32]⟩:ByteArray) ++ t2)):=Qaf (by have:=ae.out;show 2+t2.size<=_;omega);have se:Op.stringOp .add ⟨#[101,32]⟩ t2=pure (.string ((⟨#[101,32]⟩:ByteArray) ++ t2)):=Qaf (by have:=ae.out;show 2+t2.size<=_;omega);have Hd:Hid (((⟨#[100,32]⟩:ByteArray) ++ t2).size<=5000):=by rw [ByteArray.size_append];have:=ae.out;show 2+t2.size<=_;omega
     have He:Hid (((⟨#[101,32]⟩:ByteArray) ++ t2).size<=5000):=by rw [ByteArray.size_append];have:=ae.out;show 2+t2.size<=_;omega
     clear aa HT HQ;by_cases aA:0<rn
     ·have av:(0:Int)<(rn:Int):=by omega
      go_wp2;go_ret;exact ⟨⟨_,rfl,Hd⟩,ai⟩
     ·have av:¬ (0:Int)<(rn:Int):=by omega
      cases he:t2.toList.isEmpty with
      | true=>
       go_wp2;go_ret;exact ⟨⟨_,rfl,by decide⟩,ai⟩
      | false=>
       go_wp2;go_ret;exact ⟨⟨_,rfl,He⟩,ai⟩
theorem Qna (v:Int):(vtx v).size<=40:=by
 unfold vtx
 split
 ·rename_i h
  have h1:v.natAbs / 1000000<=9223372036854775807:=by omega
  have h2:=QhE _ h1;have h3:=QrI (v.natAbs % 1000000);have h4:(sgx v).size<=1:=by unfold sgx;split <;> decide
  split
  ·rw [ByteArray.size_append];omega
  ·rw [ByteArray.size_append,ByteArray.size_append,ByteArray.size_append]
   have:(⟨#[46]⟩:ByteArray).size=1:=rfl;omega
 ·decide
theorem Qr2 (v:Int) (w:World):Calls prog 34 #[.int .i64 v] w fun e w'=>TxA 40 e/\Below w.heap.size w w':=
 (QhD v w).mono (fun e w' ⟨h1,h2⟩=>⟨⟨_,h1,Qna v⟩,h2⟩)
theorem c_decM (w:World):Calls prog 28 #[.int .i64 (-1)] w fun e w'=>TxA 40 e/\Below w.heap.size w w':=by
 go_enter func28,ntmps28;go_wp2
 go_loopw [0,4,5] (fun n o d wr=>Below w.heap.size w wr/\((n=.int .i64 (-1)/\o=.string ⟨#[]⟩)∨(n=.int .i64 0/\o=.string ⟨#[49]⟩))) (fun n o d wr=>(Go.RowKit.intOf n).natAbs)
 case atStart=>exact ⟨ZZb _ _,.inl ⟨rfl,rfl⟩⟩
 case round=>
  obtain ⟨aa,h⟩:=hrel;have HL:=Qaa aa;rcases h with ⟨rfl,rfl⟩ | ⟨rfl,rfl⟩
  ·have e1:Int.tmod (-1:Int) 10=-1:=rfl
   have e2:Int.tdiv (-1:Int) 10=0:=rfl
   have kc:=run_convert_bytes_arg (P:=prog) (wr.alloc (.cells #[.int .u8 49] 5)) 42 5 underlying42 underlying5 wr.heap.size 0 1 1 [49] rfl (fun i hi=>by
      obtain rfl:i=0:=by simp at hi;omega
      simp) 9 underlying9
   have hz:=aa.size;clear aa;go_wp2;go_roundw
   case rel=>exact ⟨HL.out.alloc (by omega) _,.inr ⟨rfl,rfl⟩⟩
   case measure=>decide
  ·clear aa
   go_wp2;go_ret;exact ⟨⟨_,rfl,by decide⟩,HL⟩
theorem QuF (h0:-1<=z) (h1:z<=9223372036854775807) (w:World):Calls prog 28 #[.int .i64 z] w fun e w'=>TxA 40 e/\Below w.heap.size w w':=by
 by_cases h:z=-1
 ·subst h;exact c_decM w
 ·exact QfE (by omega) h1 w
structure CeT (w:World) (c:Ce):Prop where
 k:1<=c.g.k/\c.g.k<=4
 s:c.s.size<=100
 u:U64 c.g.s/\U64 c.g.z
 h:I64 c.g.h/\U64 c.g.l/\I64 c.g.x/\U64 c.g.y
 t:-1<=c.g.t/\c.g.t<=9223372036854775807
 P:c.g.P.length<=30/\∀ x∈c.g.P,0<=x.1/\x.1<=9223372036854775807/\U64 x.2
 N:c.g.N.length<=30/\∀ x∈c.g.N,0<=x.1/\x.1<=9223372036854775807/\U64 x.2
 E:c.g.E.length<=40/\∀ x∈c.g.E,U64 x
 R:c.g.R.length<=64/\∀ x∈c.g.R,0<=x/\x<=9223372036854775807
 A:AgAt w c.g c.p
variable {c:Ce}
theorem CeT.past (h:CeT w c) (hb:Below w.heap.size w w'):CeT w' c:=⟨h.k,h.s,h.u,h.h,h.t,h.P,h.N,h.E,h.R,Qbj h.A hb⟩
theorem CeT.of (hr:cRi c=true) (ok:AgOk c.g) (hA:AgAt w c.g c.p):CeT w c:=by
 have hz:=(Qnb hr).2;have hg:=Qi3 hr;unfold agB at hg;simp only [Bool.and_eq_true,decide_eq_true_eq] at hg;obtain ⟨⟨⟨⟨⟨⟨⟨k1,k2⟩,hk⟩,hh⟩,_⟩,_⟩,_⟩,ht⟩:=hg;unfold skB at hk;rw [Bool.and_eq_true] at hk;obtain ⟨p1,_,p2⟩:=binsB_iff.1 hk.1;obtain ⟨n1,_,n2⟩:=binsB_iff.1 hk.2;have hl:=Qc6 hh
 have tt:-1<=c.g.t/\c.g.t<=9223372036854775807:=by
  have h9:=ok.t;unfold I64 at h9
  split at ht
  ·unfold Qc9 at ht
   simp only [Bool.and_eq_true,decide_eq_true_eq] at ht;omega
  ·simp only [Bool.and_eq_true,beq_iff_eq] at ht
   omega
 refine ⟨⟨k1,k2⟩,hz,⟨ok.s,ok.z⟩,⟨ok.h,ok.l,ok.x,ok.y⟩,tt,⟨p1,fun x hx=>?_⟩,⟨n1,fun x hx=>?_⟩,⟨hl.1,ok.E⟩,⟨by omega,fun x hx=>?_⟩,hA⟩
 ·have h1:=p2 x hx
  have h2:=ok.P x hx;unfold BnR at h1;unfold Qbw at h2;exact ⟨by omega,by omega,h2.2⟩
 ·have h1:=n2 x hx
  have h2:=ok.N x hx;unfold BnR at h1;unfold Qbw at h2;exact ⟨by omega,by omega,h2.2⟩
 ·unfold hlB at hh
  split at hh
  ·rename_i e
   rw [List.length_eq_zero_iff.1 e] at hx
   cases hx
  ·unfold QmG at hh
   simp only [Bool.and_eq_true,List.all_eq_true] at hh;have:=hh.2.2 x hx;unfold inR at this;simp only [Bool.and_eq_true,decide_eq_true_eq] at this;omega
end Go.Proofs.YtdbaabbmcfnjbaaGreatDoor
