/-
 Parts.
-/
import Derived.Test.YtdbaabbmcfnjbaaGreatDoorDRA
import Derived.DeepKeys4
import Derived.Laws.OwnMore
import Derived.Maps.AppendAt
import Derived.Maps.RangeWalk
set_option maxRecDepth 10000
set_option maxHeartbeats 8000000
set_option linter.all false
namespace Go.Proofs.YtdbaabbmcfnjbaaGreatDoor
open Go.ChangeShapes Go.WideShapes Go.ChangeAt Go.RowKit Go.PlainAid Go.Lib Go.Maps Go.Shelf Tryz
open Go.Sort hiding Below
section
def QcP (c d:Ce):Prop:=c.n=d.n/\c.s=d.s
end
section
def Qqd (w:World) (B:Nat) (v:Value) (E R:List Int):Prop:=∃ p n,v=.agg #[p,n]/\w.ownsRow B 69 1 p E.length (E.map (Value.int .u64))/\w.ownsRow B 2 1 n R.length (R.map (Value.int .i64))
end
variable {kd:IntKind}
variable {W w w' w1 wr:World}
section
def QtM (ao:Option Addr):Prop:=ao=none∨∃ b off,ao=some ⟨b,off,none⟩
theorem Qp6 {L:List Int} (h:QaH kd w none L):L=[]:=by
 cases L with
 | nil=>rfl
 | cons x r=>obtain ⟨b,off,e,_⟩:=h (by simp);cases e
theorem QkZ (w:World) (T1 T3:TypeId) (p n x y:Value) (w1:World) (hb:Below ((w.alloc (.cells #[p,n] T1)).alloc (.cells #[x,y] T3)).heap.size ((w.alloc (.cells #[p,n] T1)).alloc (.cells #[x,y] T3)) w1):QbC w1 w.heap.size p n/\w1.heap[w.heap.size+1]?=some (.cells #[x,y] T3 (0,0)):=by
 have k0:=Qf4 w T1 p n;have a1:∀ (W:World) o,Below W.heap.size W (W.alloc o):=fun W o=>(ZZb _ _).alloc (ZZa _) _;have h2:=ZZk (w.alloc (.cells #[p,n] T1)) (.cells #[x,y] T3);simp only [World.size_alloc] at h2;exact ⟨Qbi (Qbi k0 (a1 _ _)) hb,(hb.block _ (by simp)).trans h2⟩
end
variable {ao na pa:Option Addr}
variable {B B' N ca cp g i j k n nc pc pn r:Nat}
variable {u u0 u1 u2 u3 u4 v v' v0 v1 v10 v11 v12 v2 v3 v4 v5 v6 v7 v8 v9 vm vn vo:Value}
variable {xs:List Value}
section
theorem Qbt {L:List Int} (h:QaH kd w ao L):∀ ad,ao=some ad->∀ j u,(L.map (Value.int kd))[j]?=some u->w.cell? (ad.add j)=some u:=fun ad e j u hu=>by
 rw [List.getElem?_map] at hu;obtain ⟨x,hx,rfl⟩:=Option.map_eq_some_iff.1 hu;obtain ⟨b,off,e2,hc⟩:=h (by have:=(ZZd.1 hx).1;omega);rw [e] at e2;cases e2;rw [Addr.add_lit];exact hc j x hx
theorem QaQ (kd:IntKind) (L:List Int):∀ u∈L.map (Value.int kd),u.oneCell'=true:=fun u hu=>by
 simp at hu;obtain ⟨x,_,rfl⟩:=hu;rfl
theorem Qa4 {e:TypeId} {s:Nat} (h:w.ownsRow B e s v n xs):∀ k,v.ownBlock=some k->B<=k:=fun k hk=>by
 rcases h.2 with ⟨rfl,_⟩ | ⟨g,c,_,rfl,h1,_⟩
 ·cases hk
 ·have:g=k:=Option.some.inj hk
  omega
end
variable {P:Program}
variable {Q:Exit->Act->World->Prop}
variable {T T':TypeId}
section
theorem Qd3 {L:List Int} (h:QaH kd w ao L) (hn:L.length=n) (e:ao=none):n=0:=by
 subst e;rw [<- hn,Qp6 h];rfl
theorem Qba (w:World) {o:Oper} {a:Act} {K:Act->World->Prop} (s x:Operand) (t:TypeId)
  (ho:o.op=.call { callee:=.builtin .append,args:=#[s,x],argTypes:=#[t,t] })
  (base:Nat) (e:TypeId) (i:TypeInfo) (z:Value) (size bytes:Nat) (ht:P.underlying t=some (.slice e)) (hi:P.info? e=some i) (hz:i.zero=some z)
  (hsize:i.size=size) (hby:i.bytes=bytes) (hzs:z.cells.size=size) (hsz:0<size)
  (v:Value) (n:Nat) (xs:List Value) (hs:a.eval s=v) (hown:w.ownsRow base e size v n xs)
  (xo:Option Addr) (m c:Nat) (news:List Value) (hx:a.eval x=.slice xo m c) (hl:news.length=m*size) (hno:xo=none->m=0/\c=0) (hnews:∀ ad,xo=some ad->∀ j u,news[j]?=some u->w.cell? (ad.add j)=some u) (h1:∀ u∈news,u.oneCell'=true)
  (h63:n+m<=maxLen) (hbytes:(n+m)*bytes<=140737488355328) (hbase:base<=w.heap.size)
  (h:∀ v' w',w'.ownsRow base e size v' (n+m) (xs ++ news)->w.grownBy w' v.ownBlock->K (a.put o.dst v') w'):o.wp P a w K Q:=by
 cases xo with
 | some ad=>exact wp_append_own w s x t ho base e i z size bytes ht hi hz hsize hby hzs hsz v n xs hs hown ad m c news hx hl (hnews ad rfl) h1 h63 hbytes hbase (fun v' w' q1 q2 _=>h v' w' q1 q2)
 | none=>
  obtain ⟨rfl,rfl⟩:=hno rfl;obtain rfl:news=[]:=List.eq_nil_of_length_eq_zero (by rw [hl,Nat.zero_mul]);have hr:=run_append_owned_none (P:=P) (w:=w) base t o.type e i size ht hi v n xs hown;unfold Oper.wp execOp;simp only [ho,resolve,invoke,builtin,Sem.run_bind,Sem.run_pure,Result.andThen_ok,List.map_toArray,List.map_cons,List.map_nil,hs,hx,hr];exact h v w (by rw [Nat.add_zero,List.append_nil];exact hown) (World.grownBy.refl _ _)
theorem Qde {s s' n':Nat} {xs':List Value} (h:w.ownsRow B T s v n xs) (g:w.ownsRow B' T' s' v' n' xs') (hT:T≠T'):v.ownBlock=none∨v.ownBlock≠v'.ownBlock:=by
 rcases h.2 with ⟨rfl,_⟩ | ⟨b,c,ab,rfl,_,h2,_⟩
 ·exact .inl rfl
 ·rcases g.2 with ⟨rfl,_⟩ | ⟨b',c',aa,rfl,_,g2,_⟩
  ·exact .inr (by simp [Value.ownBlock])
  ·refine .inr (fun e=>?_)
   have e:b=b':=Option.some.inj e;subst e;rw [h2] at g2;injection g2 with g2;injection g2 with _ g3 _;exact hT g3
theorem Qoh {ea ra:Option Addr} {c m d:Nat} {E R:List Int} (h1:E.length=n) (h2:R.length=m) (l1:n<=1048576) (l2:m<=1048576) (c1:ea=none->c=0) (c2:ra=none->d=0) (hE:QaH .u64 w ea E) (hR:QaH .i64 w ra R) :
  Calls prog 234 #[.agg #[.slice ea n c,.slice ra m d]] w fun e w'=>∃ v,e=.returned v/\Qqd w' w.heap.size v E R/\Below w.heap.size w w':=by
 obtain ⟨i0,hi,ao,ar,ax⟩:=info_parts QdM;obtain ⟨j0,hj,av,au,aw⟩:=info_parts Qg8;have HE:=Qaa hE;have HR:=Qaa hR;have H1:=Qaa h1;have H2:=Qaa h2;have C1:=Qaa c1;have C2:=Qaa c2;have aA:Hid (∀ o1 o2,Below w.heap.size w ((w.alloc o1).alloc o2)):=fun o1 o2=>((Below.refl _ _).alloc (Nat.le_refl _) _).alloc (by simp) _;clear hE hR h1 h2 c1 c2;go_enter func234,ntmps234;go_wp2_with fail;generalize hW0:(w.alloc (Obj.cells #[.slice ea n c,.slice ra m d] 88)).alloc (Obj.cells #[.slice none 0 0,.slice none 0 0] 88)=W0;have T0:Below w.heap.size w W0:=by rw [<- hW0];exact aA.out _ _
 have KR:=QkZ w 88 88 (.slice ea n c) (.slice ra m d) (.slice none 0 0) (.slice none 0 0) W0 (by rw [hW0];exact Below.refl _ _);have aC:W0.heap.size=w.heap.size+2:=by rw [<- hW0];simp
 clear hW0;have ah:=Qaa T0;have hC:∀ W,Below W0.heap.size W0 W->QbC W w.heap.size (.slice ea n c) (.slice ra m d)/\W.heap[w.heap.size+1]?=some (.cells #[.slice none 0 0,.slice none 0 0] 88 (0,0)):=fun W hW=>⟨Qbi KR.1 hW,by rw [hW.block _ (by omega)];exact KR.2⟩;have HC:=Qaa hC;clear T0 hC KR;have ae:Hid (Below W0.heap.size W0 W0.drew):=(ZZb _ _).drew;refine Qao (fun W=>Below W0.heap.size W0 W) 9 (by kernel_rfl) ?_;generalize W0.drew=Wd at ae ⊢;refine tkL 1 (.pointer (some ⟨w.heap.size,0,none⟩)) ae (fun W hW=>?_) ?_
 ·obtain ⟨⟨x0,x1⟩,_⟩:=HC.out W hW
  clear hW;go_simp
 try simp only [List.setIfInBounds_toArray,List.set_cons_zero,List.set_cons_succ]
 refine tkL 2 (.slice ea n c) ae (fun W hW=>?_) ?_
 ·obtain ⟨⟨x0,x1⟩,_⟩:=HC.out W hW
  clear hW;go_simp
 try simp only [List.setIfInBounds_toArray,List.set_cons_zero,List.set_cons_succ]
 refine tkL 5 (.pointer (some ⟨w.heap.size,1,none⟩)) ae (fun W hW=>?_) ?_
 ·obtain ⟨⟨x0,x1⟩,_⟩:=HC.out W hW
  clear hW;go_simp
 try simp only [List.setIfInBounds_toArray,List.set_cons_zero,List.set_cons_succ]
 refine tkL 6 (.slice ra m d) ae (fun W hW=>?_) ?_
 ·obtain ⟨⟨x0,x1⟩,_⟩:=HC.out W hW
  clear hW;go_simp
 try simp only [List.setIfInBounds_toArray,List.set_cons_zero,List.set_cons_succ]
 refine QjV (i:=0) (j:=4) (by kernel_rfl) rfl rfl (fun K hK=>?_) (fun K hK=>?_)
 ·go_simp
  refine hK.out _ _ (fun _=>ae.out.alloc ae.out.size _) ?_
  try simp only [sX]
  obtain ⟨s1,ak⟩:∃ s,s=Wd.heap.size:=⟨_,rfl⟩;have M1:(Wd.alloc (.cells #[] 69)).ownsRow W0.heap.size 69 1 (.slice (some ⟨s1,0,none⟩) 0 0) 0 []:=by rw [ak];exact World.ownsRow_made Wd #[] 0 ae.out.size (ZZj _) rfl
  have S1:Hid (Below W0.heap.size W0 (Wd.alloc (.cells #[] 69))):=ae.out.alloc ae.out.size _;have O1:=Qaa M1;rw [<- ak];generalize Wd.alloc (.cells #[] 69)=Wa1 at *;clear M1 ak;refine QjV (i:=3) (j:=4) (by kernel_rfl) rfl rfl (fun K hK=>?_) (fun K hK=>?_)
  ·rw [if_pos (by rfl)]
   refine Qba _ (.tmp 3) (.tmp 5) 85 rfl W0.heap.size 69 i0 (.int .u64 0) 1 8 underlying85 hi ao ar ax rfl (by decide) _ _ _ rfl O1 ea n c (E.map (Value.int .u64)) rfl (by simp [H1.out]) (fun e=>⟨Qd3 HE H1 e,C1.out e⟩) (Qbt (Qah HE (Qac ah S1))) (QaQ _ _) (by unfold maxLen;omega) (by omega) S1.out.size ?_;intro v2 an af ag;simp only [Nat.zero_add,List.nil_append] at af;obtain ⟨a2,b2,rfl⟩:=Qag af;have O2:=Qaa af;have S2:=Qaa (S1.out.grown ag S1.out.size (fun j hj=>Qa4 O1 j hj));refine gK hK S2.out ?_
   try simp only [sX]
   clear af ag;refine onE 4 fun K hK=>?_;go_simp;refine hK.out _ _ (fun _=>S2.out.alloc S2.out.size _) ?_
   try simp only [sX]
   obtain ⟨s3,ap⟩:∃ s,s=an.heap.size:=⟨_,rfl⟩;have M3:(an.alloc (.cells #[] 2)).ownsRow W0.heap.size 2 1 (.slice (some ⟨s3,0,none⟩) 0 0) 0 []:=by rw [ap];exact World.ownsRow_made an #[] 0 S2.out.size (ZZj _) rfl
   have S3:Hid (Below W0.heap.size W0 (an.alloc (.cells #[] 2))):=S2.out.alloc S2.out.size _;have az:=Qaa (O2.out.alloc (.cells #[] 2));have O3:=Qaa M3;rw [<- ap];generalize an.alloc (.cells #[] 2)=Wa3 at *;clear M3 ap;refine onE 7 fun K hK=>?_;rw [if_pos (by rfl)];refine Qba _ (.tmp 7) (.tmp 9) 86 rfl W0.heap.size 2 j0 (.int .i64 0) 1 8 underlying86 hj av au aw rfl (by decide) _ _ _ rfl O3 ra m d (R.map (Value.int .i64)) rfl (by simp [H2.out]) (fun e=>⟨Qd3 HR H2 e,C2.out e⟩) (Qbt (Qah HR (Qac ah S3))) (QaQ _ _) (by unfold maxLen;omega) (by omega) S3.out.size ?_;intro v4 ai ab aa;simp only [Nat.zero_add,List.nil_append] at ab;obtain ⟨a4,b4,rfl⟩:=Qag ab;have O4:=Qaa ab;have S4:=Qaa (S3.out.grown aa S3.out.size (fun j hj=>Qa4 O3 j hj));have am:=Qaa (az.out.kept aa (Qde az O3 (by decide)));refine gK hK S4.out ?_
   try simp only [sX]
   clear ab aa;refine tkL 8 (.agg #[.slice a2 n b2,.slice a4 m b4]) S4 (fun W hW=>?_) ?_
   ·obtain ⟨⟨x0,x1⟩,_⟩:=HC.out W hW
    clear hW;go_simp
   try simp only [List.setIfInBounds_toArray,List.set_cons_zero,List.set_cons_succ]
   have R2:=(HC.out _ S4).2;have q0:ai.cell? ⟨w.heap.size+1,0,none⟩=some (.slice none 0 0):=by rw [cell_of_row _ _ 0 _ _ (0,0) R2];rfl
   have q1:ai.cell? ⟨w.heap.size+1,1,none⟩=some (.slice none 0 0):=by rw [cell_of_row _ _ 1 _ _ (0,0) R2];rfl
   have f0:=fzR 0 R2;have f1:=fzR 1 R2;refine onE 9 fun K hK=>?_;go_simp;refine hK.out _ _ (fun h=>absurd rfl h) ?_
   try simp only [sX]
   refine dnE ?_ _;go_wp2;refine bodyPost_ret (v:=.agg #[.slice a2 n b2,.slice a4 m b4]) (by simp [results,results234,go_sem,q0,q1]) rfl ⟨_,rfl,⟨_,_,rfl,?_,?_⟩,?_⟩
   ·refine Qa1 (B:=W0.heap.size) ?_ (by omega)
    repeat (refine ownsRow_setCell_below ?_ (by simp;omega) _)
    rw [H1.out];exact am.out
   ·refine Qa1 (B:=W0.heap.size) ?_ (by omega)
    repeat (refine ownsRow_setCell_below ?_ (by simp;omega) _)
    rw [H2.out];exact O4.out
   ·repeat (refine Below.setCell ?_ (by simp <;> omega) _)
    exact Qac ah S4
  ·go_simp
   refine hK.out _ _ (fun _=>S1.out.alloc S1.out.size _) ?_
   try simp only [sX]
   obtain ⟨s2,aj⟩:∃ s,s=Wa1.heap.size:=⟨_,rfl⟩;have M2:(Wa1.alloc (.cells #[] 2)).ownsRow W0.heap.size 2 1 (.slice (some ⟨s2,0,none⟩) 0 0) 0 []:=by rw [aj];exact World.ownsRow_made Wa1 #[] 0 S1.out.size (ZZj _) rfl
   have S2:Hid (Below W0.heap.size W0 (Wa1.alloc (.cells #[] 2))):=S1.out.alloc S1.out.size _;have aq:=Qaa (O1.out.alloc (.cells #[] 2));have O2:=Qaa M2;rw [<- aj];generalize Wa1.alloc (.cells #[] 2)=Wa2 at *;clear M2 aj;refine onE 3 fun K hK=>?_;rw [if_pos (by rfl)];refine Qba _ (.tmp 3) (.tmp 5) 85 rfl W0.heap.size 69 i0 (.int .u64 0) 1 8 underlying85 hi ao ar ax rfl (by decide) _ _ _ rfl aq ea n c (E.map (Value.int .u64)) rfl (by simp [H1.out]) (fun e=>⟨Qd3 HE H1 e,C1.out e⟩) (Qbt (Qah HE (Qac ah S2))) (QaQ _ _) (by unfold maxLen;omega) (by omega) S2.out.size ?_;intro v3 aB ad ac;simp only [Nat.zero_add,List.nil_append] at ad;obtain ⟨a3,b3,rfl⟩:=Qag ad;have O3:=Qaa ad;have S3:=Qaa (S2.out.grown ac S2.out.size (fun j hj=>Qa4 aq j hj));have al:=Qaa (O2.out.kept ac (Qde O2 aq (by decide)));refine gK hK S3.out ?_
   try simp only [sX]
   clear ad ac;refine onE 7 fun K hK=>?_;rw [if_pos (by rfl)];refine Qba _ (.tmp 7) (.tmp 9) 86 rfl W0.heap.size 2 j0 (.int .i64 0) 1 8 underlying86 hj av au aw rfl (by decide) _ _ _ rfl al ra m d (R.map (Value.int .i64)) rfl (by simp [H2.out]) (fun e=>⟨Qd3 HR H2 e,C2.out e⟩) (Qbt (Qah HR (Qac ah S3))) (QaQ _ _) (by unfold maxLen;omega) (by omega) S3.out.size ?_;intro v4 ai ab aa;simp only [Nat.zero_add,List.nil_append] at ab;obtain ⟨a4,b4,rfl⟩:=Qag ab;have O4:=Qaa ab;have S4:=Qaa (S3.out.grown aa S3.out.size (fun j hj=>Qa4 al j hj));have am:=Qaa (O3.out.kept aa (Qde O3 al (by decide)));refine gK hK S4.out ?_
   try simp only [sX]
   clear ab aa;refine tkL 8 (.agg #[.slice a3 n b3,.slice a4 m b4]) S4 (fun W hW=>?_) ?_
   ·obtain ⟨⟨x0,x1⟩,_⟩:=HC.out W hW
    clear hW;go_simp
   try simp only [List.setIfInBounds_toArray,List.set_cons_zero,List.set_cons_succ]
   have R2:=(HC.out _ S4).2;have q0:ai.cell? ⟨w.heap.size+1,0,none⟩=some (.slice none 0 0):=by rw [cell_of_row _ _ 0 _ _ (0,0) R2];rfl
   have q1:ai.cell? ⟨w.heap.size+1,1,none⟩=some (.slice none 0 0):=by rw [cell_of_row _ _ 1 _ _ (0,0) R2];rfl
   have f0:=fzR 0 R2;have f1:=fzR 1 R2;refine onE 9 fun K hK=>?_;go_simp;refine hK.out _ _ (fun h=>absurd rfl h) ?_
   try simp only [sX]
   refine dnE ?_ _;go_wp2;refine bodyPost_ret (v:=.agg #[.slice a3 n b3,.slice a4 m b4]) (by simp [results,results234,go_sem,q0,q1]) rfl ⟨_,rfl,⟨_,_,rfl,?_,?_⟩,?_⟩
   ·refine Qa1 (B:=W0.heap.size) ?_ (by omega)
    repeat (refine ownsRow_setCell_below ?_ (by simp;omega) _)
    rw [H1.out];exact am.out
   ·refine Qa1 (B:=W0.heap.size) ?_ (by omega)
    repeat (refine ownsRow_setCell_below ?_ (by simp;omega) _)
    rw [H2.out];exact O4.out
   ·repeat (refine Below.setCell ?_ (by simp <;> omega) _)
    exact Qac ah S4
 ·go_simp
  refine hK.out _ _ (fun _=>ae.out.alloc ae.out.size _) ?_
  try simp only [sX]
  obtain ⟨s1,ak⟩:∃ s,s=Wd.heap.size:=⟨_,rfl⟩;have M1:(Wd.alloc (.cells #[] 2)).ownsRow W0.heap.size 2 1 (.slice (some ⟨s1,0,none⟩) 0 0) 0 []:=by rw [ak];exact World.ownsRow_made Wd #[] 0 ae.out.size (ZZj _) rfl
  have S1:Hid (Below W0.heap.size W0 (Wd.alloc (.cells #[] 2))):=ae.out.alloc ae.out.size _;have O1:=Qaa M1;rw [<- ak];generalize Wd.alloc (.cells #[] 2)=Wa1 at *;clear M1 ak;refine onE 0 fun K hK=>?_;go_simp;refine hK.out _ _ (fun _=>S1.out.alloc S1.out.size _) ?_
  try simp only [sX]
  obtain ⟨s2,aj⟩:∃ s,s=Wa1.heap.size:=⟨_,rfl⟩;have M2:(Wa1.alloc (.cells #[] 69)).ownsRow W0.heap.size 69 1 (.slice (some ⟨s2,0,none⟩) 0 0) 0 []:=by rw [aj];exact World.ownsRow_made Wa1 #[] 0 S1.out.size (ZZj _) rfl
  have S2:Hid (Below W0.heap.size W0 (Wa1.alloc (.cells #[] 69))):=S1.out.alloc S1.out.size _;have ay:=Qaa (O1.out.alloc (.cells #[] 69));have O2:=Qaa M2;rw [<- aj];generalize Wa1.alloc (.cells #[] 69)=Wa2 at *;clear M2 aj;refine onE 3 fun K hK=>?_;rw [if_pos (by rfl)];refine Qba _ (.tmp 3) (.tmp 5) 85 rfl W0.heap.size 69 i0 (.int .u64 0) 1 8 underlying85 hi ao ar ax rfl (by decide) _ _ _ rfl O2 ea n c (E.map (Value.int .u64)) rfl (by simp [H1.out]) (fun e=>⟨Qd3 HE H1 e,C1.out e⟩) (Qbt (Qah HE (Qac ah S2))) (QaQ _ _) (by unfold maxLen;omega) (by omega) S2.out.size ?_;intro v3 aB ad ac;simp only [Nat.zero_add,List.nil_append] at ad;obtain ⟨a3,b3,rfl⟩:=Qag ad;have O3:=Qaa ad;have S3:=Qaa (S2.out.grown ac S2.out.size (fun j hj=>Qa4 O2 j hj));have al:=Qaa (ay.out.kept ac (Qde ay O2 (by decide)));refine gK hK S3.out ?_
  try simp only [sX]
  clear ad ac;refine onE 7 fun K hK=>?_;rw [if_pos (by rfl)];refine Qba _ (.tmp 7) (.tmp 9) 86 rfl W0.heap.size 2 j0 (.int .i64 0) 1 8 underlying86 hj av au aw rfl (by decide) _ _ _ rfl al ra m d (R.map (Value.int .i64)) rfl (by simp [H2.out]) (fun e=>⟨Qd3 HR H2 e,C2.out e⟩) (Qbt (Qah HR (Qac ah S3))) (QaQ _ _) (by unfold maxLen;omega) (by omega) S3.out.size ?_;intro v4 ai ab aa;simp only [Nat.zero_add,List.nil_append] at ab;obtain ⟨a4,b4,rfl⟩:=Qag ab;have O4:=Qaa ab;have S4:=Qaa (S3.out.grown aa S3.out.size (fun j hj=>Qa4 al j hj));have am:=Qaa (O3.out.kept aa (Qde O3 al (by decide)));refine gK hK S4.out ?_
  try simp only [sX]
  clear ab aa;refine tkL 8 (.agg #[.slice a3 n b3,.slice a4 m b4]) S4 (fun W hW=>?_) ?_
  ·obtain ⟨⟨x0,x1⟩,_⟩:=HC.out W hW
   clear hW;go_simp
  try simp only [List.setIfInBounds_toArray,List.set_cons_zero,List.set_cons_succ]
  have R2:=(HC.out _ S4).2;have q0:ai.cell? ⟨w.heap.size+1,0,none⟩=some (.slice none 0 0):=by rw [cell_of_row _ _ 0 _ _ (0,0) R2];rfl
  have q1:ai.cell? ⟨w.heap.size+1,1,none⟩=some (.slice none 0 0):=by rw [cell_of_row _ _ 1 _ _ (0,0) R2];rfl
  have f0:=fzR 0 R2;have f1:=fzR 1 R2;refine onE 9 fun K hK=>?_;go_simp;refine hK.out _ _ (fun h=>absurd rfl h) ?_
  try simp only [sX]
  refine dnE ?_ _;go_wp2;refine bodyPost_ret (v:=.agg #[.slice a3 n b3,.slice a4 m b4]) (by simp [results,results234,go_sem,q0,q1]) rfl ⟨_,rfl,⟨_,_,rfl,?_,?_⟩,?_⟩
  ·refine Qa1 (B:=W0.heap.size) ?_ (by omega)
   repeat (refine ownsRow_setCell_below ?_ (by simp;omega) _)
   rw [H1.out];exact am.out
  ·refine Qa1 (B:=W0.heap.size) ?_ (by omega)
   repeat (refine ownsRow_setCell_below ?_ (by simp;omega) _)
   rw [H2.out];exact O4.out
  ·repeat (refine Below.setCell ?_ (by simp <;> omega) _)
   exact Qac ah S4
end
section
theorem QfC {c:Nat} {L:List Int} (h:w.ownsRow B T 1 (.slice ao n c) L.length (L.map (Value.int kd))):QaH kd w ao L/\QtM ao/\n=L.length/\n<=c/\c<=maxLen/\(ao=none->c=0):=by
 rcases h.2 with ⟨e,h0⟩ | ⟨g,ab,aa,e,h1,h2,h3,h4,h5,h6⟩
 ·cases e
  exact ⟨fun h=>by omega,.inl rfl,h0.symm,ZZa _,ZZj _,fun _=>rfl⟩
 ·cases e
  refine ⟨fun _=>⟨g,0,rfl,fun i x hx=>?_⟩,.inr ⟨g,0,rfl⟩,rfl,h3,h4,fun e=>by cases e⟩;have hi:=(ZZd.1 hx).1;rw [Nat.zero_add,h.cellAt i (by omega),List.getElem?_map,hx];rfl
end
section
def OwnB (w:World) (B:Nat) (v:Value) (n:Nat) (L:List Bn):Prop:=n=L.length/\((v=.slice none 0 0/\n=0)∨∃ b off c cur,v=.slice (some ⟨b,off,none⟩) n c/\B<=b/\w.heap[b]?=some (.cells cur 176 (0,0))/\(∀ (j:Nat) (q:Value),(fl Qc2 L)[j]?=some q->cur[off+j]?=some q)/\n<=c/\c<=maxLen/\off+c*2<=cur.size)
theorem OwnB.past {L:List Bn} (h:OwnB w B v n L) (hb:Below w.heap.size w w'):OwnB w' B v n L:=by
 refine ⟨h.1,?_⟩;rcases h.2 with h | ⟨b,ab,c,aa,e,h1,h2,h3⟩
 ·exact .inl h
 ·exact .inr ⟨b,ab,c,aa,e,h1,by rw [hb.block b (Array.getElem?_eq_some_iff.1 h2).1];exact h2,h3⟩
theorem OwnB.any {L:List Bn} (h:OwnB w B v n L):∃ ao c,v=.slice ao n c:=by
 rcases h.2 with ⟨e,e2⟩ | ⟨b,ab,c,aa,e,_⟩
 ·subst e2;exact ⟨_,_,e⟩
 ·exact ⟨_,_,e⟩
theorem OwnB.at {c:Nat} {L:List Bn} (h:OwnB w B (.slice ao n c) n L):QaJ w ao L:=fun h0=>by
 rcases h.2 with ⟨e,e2⟩ | ⟨b,off,c,cur,e,h1,h2,h3⟩
 ·have:=h.1;omega
 ·cases e
  refine ⟨b,off,rfl,fun i x hx=>?_⟩;have e0:=Qel QeX L i x 0 (by omega) hx;have e1:=Qel QeX L i x 1 (by omega) hx;rw [Nat.add_zero] at e0;exact ⟨by rw [cell_of_row w b _ _ _ (0,0) h2];exact h3.1 _ _ e0,by rw [cell_of_row w b _ _ _ (0,0) h2,Nat.add_assoc];exact h3.1 _ _ e1⟩
theorem OwnB.of {L:List Bn} (h:w.ownsRow B 176 2 v n (fl Qc2 L)) (hn:n=L.length):OwnB w B v n L:=by
 refine ⟨hn,?_⟩;rcases h.2 with ⟨e,e2⟩ | ⟨g,ab,aa,e,h1,h2,h3,h4,h5,h6⟩
 ·exact .inl ⟨e,e2⟩
 ·refine .inr ⟨g,0,ab,aa,e,h1,h2,fun j q hq=>?_,h3,h4,by omega⟩
  rw [<- h6,List.getElem?_take] at hq
  split at hq
  ·rw [Nat.zero_add];rwa [Array.getElem?_toList] at hq
  ·cases hq
end
variable {cs:Array Value}
section
theorem OwnB.le {L:List Bn} (h:OwnB w B v n L) (hb:B'<=B):OwnB w B' v n L:=by
 refine ⟨h.1,?_⟩;rcases h.2 with h | ⟨b,ab,c,aa,e,h1,h2,h3⟩
 ·exact .inl h
 ·exact .inr ⟨b,ab,c,aa,e,Nat.le_trans hb h1,h2,h3⟩
theorem OwnB.lt {L:List Bn} (h:OwnB w B v n L):∀ k,v.ownBlock=some k->B<=k/\k<w.heap.size:=fun k e=>by
 rcases h.2 with ⟨e1,_⟩ | ⟨b,off,c,cur,e1,h1,h2,h3⟩
 ·rw [e1] at e;cases e
 ·rw [e1] at e;cases e;exact ⟨h1,(ZZc.1 h2).1⟩
theorem OwnB.ne {L:List Bn} (h:OwnB w B v n L) {fz:Nat×Nat} (hr:w.heap[r]?=some (.cells cs T fz)) (hT:T≠176):v.ownBlock≠some r:=fun e=>by
 rcases h.2 with ⟨e1,_⟩ | ⟨b,off,c,cur,e1,h1,h2,h3⟩
 ·rw [e1] at e;cases e
 ·rw [e1] at e;cases e;rw [h2] at hr;cases hr;exact hT rfl
theorem OwnB.kept {L:List Bn} {r:Option Nat} (h:OwnB w B v n L) (hg:w.grownBy w' r) (hne:v.ownBlock=none∨v.ownBlock≠r):OwnB w' B v n L:=by
 refine ⟨h.1,?_⟩;rcases h.2 with h | ⟨b,ab,c,aa,e,h1,h2,h3⟩
 ·exact .inl h
 ·refine .inr ⟨b,ab,c,aa,e,h1,?_,h3⟩
  rw [hg.block b (Array.getElem?_eq_some_iff.1 h2).1 (fun e2=>by
   rw [e] at hne;rcases hne with h | h
   ·cases h
   ·exact h e2)]
  exact h2
theorem OwnB.set {L:List Bn} (h:OwnB w B v n L) {a:Addr} (hne:v.ownBlock≠some a.block) (u:Value):OwnB (w.setCell a u) B v n L:=
 h.kept (r:=some a.block) ⟨rfl,rfl,rfl,by simp [World.setCell],fun k hk hn=>Below.heap_setCell _ _ _ _ (fun e=>hn (by rw [e]))⟩ (.inr hne)
def Qgc (p n:Value):Prop:=∀ k,p.ownBlock=some k->n.ownBlock≠some k
def QoG (w:World) (B:Nat) (v:Value) (z:Int) (P N:List Bn) (h l:Int):Prop:=∃ p n pn nn,v=.agg #[.int .u64 z,p,n,.int .i64 h,.int .u64 l]/\OwnB w B p pn P/\OwnB w B n nn N/\Qgc p n
abbrev Qbm:Array Value:=#[.int .u64 0,.slice none 0 0,.slice none 0 0,.int .i64 0,.int .u64 0]
theorem Qem (h:w.heap[r]?=some (.cells #[u0,u1,u2,u3,u4] T (0,0))) :
  w.cell? ⟨r,0,none⟩=some u0/\w.cell? ⟨r,1,none⟩=some u1/\w.cell? ⟨r,2,none⟩=some u2/\w.cell? ⟨r,3,none⟩=some u3/\w.cell? ⟨r,4,none⟩=some u4:=
 ⟨by rw [cell_of_row w r 0 _ _ (0,0) h];rfl,by rw [cell_of_row w r 1 _ _ (0,0) h];rfl,by rw [cell_of_row w r 2 _ _ (0,0) h];rfl,by rw [cell_of_row w r 3 _ _ (0,0) h];rfl,by rw [cell_of_row w r 4 _ _ (0,0) h];rfl⟩
end
variable {h l z:Int}
section
theorem Qi1 {A:Addr} {L:List Bn} (hA:QaJ w (some A) L):∀ j z,(fl Qc2 L)[j]?=some z->w.cell? (A.add j)=some z:=fun j z hz=>by
 have hj:=(ZZd.1 hz).1;rw [QbH QeX] at hj;obtain ⟨b,off,e,hcell⟩:=hA (by omega)
 cases e
 obtain ⟨x,hx⟩:∃ x,L[j / 2]?=some x:=⟨L[j / 2]'(by omega),ZZe (by omega)⟩;have h1:=Qel QeX L (j / 2) x (j % 2) (by omega) hx;rw [show j / 2*2+j % 2=j by omega,hz] at h1;have hc:=hcell (j / 2) x hx;rw [Addr.add_lit];have:j % 2=0∨j % 2=1:=by omega
 rcases this with e | e
 ·rw [e] at h1;rw [show off+j=off+j / 2*2 by omega,hc.1];simpa [Qc2] using h1.symm
 ·rw [e] at h1;rw [show off+j=off+j / 2*2+1 by omega,hc.2];simpa [Qc2] using h1.symm
theorem Qk6 {L:List Bn} (h:QaJ w none L) (hn:L.length=n):n=0:=by
 rcases Nat.eq_zero_or_pos n with e | e
 ·exact e
 ·obtain ⟨b,aa,e1,_⟩:=h (by omega);cases e1
theorem QcJ (w:World) {ops:Array Oper} {rest:List Oper} {o:Oper} {a:Act} (hgd:o.guard=none) (s x:Operand) (t:TypeId)
  (ho:o.op=.call { callee:=.builtin .append,args:=#[s,x],argTypes:=#[t,t] })
  (base:Nat) (e:TypeId) (i:TypeInfo) (z:Value) (size bytes:Nat) (ht:P.underlying t=some (.slice e)) (hi:P.info? e=some i) (hz:i.zero=some z)
  (hsize:i.size=size) (hby:i.bytes=bytes) (hzs:z.cells.size=size) (hsz:0<size)
  (v:Value) (n:Nat) (xs:List Value) (hs:a.eval s=v) (hown:w.ownsRow base e size v n xs)
  (xo:Option Addr) (m c:Nat) (news:List Value) (hx:a.eval x=.slice xo m c) (hl:news.length=m*size) (hno:xo=none->m=0/\c=0) (hnews:∀ ad,xo=some ad->∀ j u,news[j]?=some u->w.cell? (ad.add j)=some u) (h1:∀ u∈news,u.oneCell'=true)
  (h63:n+m<=maxLen) (hbytes:(n+m)*bytes<=140737488355328) (hbase:base<=w.heap.size)
  (h:∀ v' w',w'.ownsRow base e size v' (n+m) (xs ++ news)->w.grownBy w' v.ownBlock->(v'=.slice none 0 0↔v=.slice none 0 0/\m=0)->wpList P ops Q rest (a.put o.dst v') w'):wpList P ops Q (o :: rest) a w:=by
 cases xo with
 | some ad=>exact wpList_append_own w hgd s x t ho base e i z size bytes ht hi hz hsize hby hzs hsz v n xs hs hown ad m c news hx hl (hnews ad rfl) h1 h63 hbytes hbase h
 | none=>
  obtain ⟨rfl,rfl⟩:=hno rfl;obtain rfl:news=[]:=List.eq_nil_of_length_eq_zero (by rw [hl,Nat.zero_mul]);refine wpList_plain hgd fun _ hK=>?_;have hr:=run_append_owned_none (P:=P) (w:=w) base t o.type e i size ht hi v n xs hown;unfold Oper.wp execOp;simp only [ho,resolve,invoke,builtin,Sem.run_bind,Sem.run_pure,Result.andThen_ok,List.map_toArray,List.map_cons,List.map_nil,hs,hx,hr];exact hK _ _ (h v w (by rw [Nat.add_zero,List.append_nil];exact hown) (World.grownBy.refl _ _) (by simp))
structure CopyAt (w w1:World) (z h l:Int) (n1 n:Value) (pn:Nat) (P:List Bn):Prop where
 bel:∀ o,Below w.heap.size w ((w1.setCell ⟨w.heap.size,1,none⟩ n1).alloc o)
 made:((w1.setCell ⟨w.heap.size,1,none⟩ n1).alloc (.cells #[] 176)).ownsRow w1.heap.size 176 2 (.slice (some ⟨w1.heap.size,0,none⟩) 0 0) 0 []
 grow:∀ {o W},((w1.setCell ⟨w.heap.size,1,none⟩ n1).alloc o).grownBy W (some w1.heap.size)->Below w.heap.size w W/\W.heap[w.heap.size]?=some (.cells #[.int .u64 z,n1,n,.int .i64 h,.int .u64 l] 84 (0,0))/\W.heap[w.heap.size+1]?=some (.cells Qbm 84 (0,0))/\OwnB W w.heap.size n1 pn P
 lt:∀ k,n1.ownBlock=some k->k<w1.heap.size
 le:w.heap.size<=w1.heap.size
theorem QoH {p n1 n:Value} {P:List Bn} (hT:Below w.heap.size w w1) (hR:w1.heap[w.heap.size]?=some (.cells #[.int .u64 z,p,n,.int .i64 h,.int .u64 l] 84 (0,0))) (hS:w1.heap[w.heap.size+1]?=some (.cells Qbm 84 (0,0))) (hO:OwnB w1 w.heap.size n1 pn P) (hz:w.heap.size+1+1<w1.heap.size):CopyAt w w1 z h l n1 n pn P:=by
 have hB:Below w.heap.size w (w1.setCell ⟨w.heap.size,1,none⟩ n1):=hT.setCell (ZZa _) _;refine ⟨fun o=>hB.alloc (by simp;omega) o,?_,fun {o W} hg=>?_,fun k e=>(hO.lt k e).2,by omega⟩
 ·have:=World.ownsRow_made (base:=w1.heap.size) (e:=176) (size:=2) (w1.setCell ⟨w.heap.size,1,none⟩ n1) #[] 0 (by simp) (Nat.zero_le _) rfl
  simpa using this
 ·have hb:Below w1.heap.size (w1.setCell ⟨w.heap.size,1,none⟩ n1) W:=((Below.refl _ _).alloc (by simp) o).grown hg (by simp) (fun k e=>by cases e;exact Nat.le_refl _)
  have aa:Below (w1.setCell ⟨w.heap.size,1,none⟩ n1).heap.size (w1.setCell ⟨w.heap.size,1,none⟩ n1) W:=hb.mono (by simp);refine ⟨hB.trans (hb.mono (by omega)),?_,?_,(hO.set (hO.ne hR (by decide)) _).past aa⟩
  ·rw [hb.block _ (by omega)];exact ZZl w1 w.heap.size 1 _ _ _ hR
  ·rw [hb.block _ (by omega),heap_setCell_other _ _ _ _ (by simp)];exact hS
theorem Qgi {nn:Nat} {P N:List Bn} (hp:P.length=pn) (hn:N.length=nn) (lp:pn<=1048576) (ln:nn<=1048576) (hP:QaJ w pa P) (hN:QaJ w na N) (cA:pa=none->pc=0) (cA':na=none->nc=0) :
  Calls prog 233 #[.agg #[.int .u64 z,.slice pa pn pc,.slice na nn nc,.int .i64 h,.int .u64 l]] w fun e w'=>∃ v,e=.returned v/\QoG w' w.heap.size v z P N h l/\Below w.heap.size w w':=by
 obtain ⟨i0,hi,an,au,ay⟩:=info_parts QpD;have HP:=Qaa hP;have HN:=Qaa hN;have EP:=Qaa hp;have EN:=Qaa hn;have CA:=Qaa cA;have az:=Qaa cA';clear hP hN hp hn cA cA';have hW:∀ o1 o2 o3,Below w.heap.size w (((w.alloc o1).alloc o2).alloc o3):=fun o1 o2 o3=>(((Below.refl _ _).alloc (Nat.le_refl _) _).alloc (by simp) _).alloc (by simp;omega) _;have HW:=Qaa hW
 have hM:∀ o1 o2,(((w.alloc o1).alloc o2).alloc (.cells #[] 176)).ownsRow w.heap.size 176 2 (.slice (some ⟨w.heap.size+1+1,0,none⟩) 0 0) 0 []:=fun o1 o2=>by
  have:=World.ownsRow_made (base:=w.heap.size) (e:=176) (size:=2) ((w.alloc o1).alloc o2) #[] 0 (by simp;omega) (Nat.zero_le _) rfl
  simpa using this
 have HM:=Qaa hM
 have hG:∀ o3 W,(((w.alloc (.cells #[.int .u64 z,.slice pa pn pc,.slice na nn nc,.int .i64 h,.int .u64 l] 84)).alloc (.cells Qbm 84)).alloc o3).grownBy W (some (w.heap.size+1+1))->Below w.heap.size w W/\W.heap[w.heap.size]?=some (.cells #[.int .u64 z,.slice pa pn pc,.slice na nn nc,.int .i64 h,.int .u64 l] 84 (0,0))/\W.heap[w.heap.size+1]?=some (.cells Qbm 84 (0,0))/\w.heap.size+1+1<W.heap.size:=fun o3 W hg=>by
  have hb:Below (w.heap.size+1+1) (((w.alloc (.cells #[.int .u64 z,.slice pa pn pc,.slice na nn nc,.int .i64 h,.int .u64 l] 84)).alloc (.cells Qbm 84)).alloc o3) W:=(Below.refl _ _).grown hg (by simp) (fun k e=>by cases e;exact Nat.le_refl _);refine ⟨(hW _ _ _).grown hg (by simp;omega) (fun k e=>by cases e;omega),?_,?_,by have:=hg.size;simp at this;omega⟩
  ·rw [hb.block _ (by omega)]
   have h2:Below (w.heap.size+1) (w.alloc (.cells #[.int .u64 z,.slice pa pn pc,.slice na nn nc,.int .i64 h,.int .u64 l] 84)) (((w.alloc (.cells #[.int .u64 z,.slice pa pn pc,.slice na nn nc,.int .i64 h,.int .u64 l] 84)).alloc (.cells Qbm 84)).alloc o3):=((Below.refl _ _).alloc (by simp) _).alloc (by simp) _;rw [h2.block _ (by omega)];exact ZZk w _
  ·rw [hb.block _ (by omega)]
   exact Qoi w _ _ _ _
 have HG:=Qaa hG;clear hW hM hG;go_enter func233,ntmps233
 go_wp2_with (first
  | (at_builtin;refine QcJ _ rfl (.tmp 3) (.tmp 5) 82 rfl w.heap.size 176 i0 (.agg #[.int .i64 0,.int .u64 0]) 2 16 underlying82 hi an au ay rfl (by decide) _ _ _ rfl (HM.out _ _) pa pn pc (fl Qc2 P) rfl (by rw [QbH QeX,EP.out]) (fun e=>⟨Qk6 (e ▸ HP.out) EP,CA.out e⟩) (fun A e=>Qi1 (e ▸ Qak HP (HW.out _ _ _))) (QhS _) (by unfold maxLen;omega) (by omega) (by simp;omega) ?_;intro v1 w1 ab ac ah;simp only [Nat.zero_add,List.nil_append] at ab;obtain ⟨am,c1,rfl⟩:=Qag ab;obtain ⟨ar,ak,aq,al⟩:=HG.out _ _ ac;obtain ⟨k0,k1,k2,k3,k4⟩:=Qem ak;have f1:=frozen_of_row w1 w.heap.size 1 _ _ ak;have ax:=OwnB.of ab EP.out.symm;have L1:=Qaa (QoH ar ak aq ax al);have aA:∀ o,((w1.setCell ⟨w.heap.size,1,none⟩ (.slice am pn c1)).alloc o).cell? ⟨w.heap.size,2,none⟩=some (.slice na nn nc):=(fun o=>Qf8 (by rw [World.cell?_setCell_other _ _ _ _ (by simp)];exact k2) o);clear ab ac ah ar ak aq ax)
  | (at_builtin;refine QcJ _ rfl (.tmp 8) (.tmp 10) 82 rfl w1.heap.size 176 i0 (.agg #[.int .i64 0,.int .u64 0]) 2 16 underlying82 hi an au ay rfl (by decide) _ _ _ rfl L1.out.made na nn nc (fl Qc2 N) rfl (by rw [QbH QeX,EN.out]) (fun e=>⟨Qk6 (e ▸ HN.out) EN,az.out e⟩) (fun A e=>Qi1 (e ▸ Qak HN (L1.out.bel _))) (QhS _) (by unfold maxLen;omega) (by omega) (by simp) ?_;intro v2 w2 aa ad ai;simp only [Nat.zero_add,List.nil_append] at aa;obtain ⟨aw,c2,rfl⟩:=Qag aa;obtain ⟨ao,aj,ae,av⟩:=L1.out.grow ad;obtain ⟨y0,y1,y2,y3,y4⟩:=Qem aj;have f2:=frozen_of_row w2 w.heap.size 2 _ _ aj;have af:=OwnB.of aa EN.out.symm;have ap:=af.le (B':=w.heap.size) L1.out.le;obtain ⟨r0,r1,r2,r3,r4⟩:=Qem ae;have e0:=frozen_of_row w2 (w.heap.size+1) 0 _ _ ae;have e1:=frozen_of_row w2 (w.heap.size+1) 1 _ _ ae;have e2:=frozen_of_row w2 (w.heap.size+1) 2 _ _ ae;have e3:=frozen_of_row w2 (w.heap.size+1) 3 _ _ ae;have e4:=frozen_of_row w2 (w.heap.size+1) 4 _ _ ae;have ag:Qgc (.slice am pn c1) (.slice aw nn c2):=(fun k a1 a2=>by have q1:=L1.out.lt k a1;have q2:=(af.lt k a2).1;omega);have T2:=Qaa ao;have S2:=Qaa ae;have R2:=Qaa aj;have P2:=Qaa av;have O2:=Qaa ap;have Ap:=Qaa ag;clear aa ad ai ao ae aj av ap af ag))
 refine bodyPost_ret (v:=.agg #[.int .u64 z,.slice am pn c1,.slice aw nn c2,.int .i64 h,.int .u64 l]) (by simp [results,results233,go_sem,r0,r1,r2,r3,r4]) rfl ⟨_,rfl,⟨_,_,pn,nn,rfl,?_,?_,Ap⟩,?_⟩
 ·have n1:=P2.out.ne S2 (by decide)
  have n2:=P2.out.ne R2 (by decide);exact (((((P2.out.set n2 _).set n1 _).set n1 _).set n1 _).set n1 _).set n1 _
 ·have n1:=O2.out.ne S2 (by decide)
  have n2:=O2.out.ne R2 (by decide);exact (((((O2.out.set n2 _).set n1 _).set n1 _).set n1 _).set n1 _).set n1 _
 ·repeat (refine Below.setCell ?_ (by simp <;> omega) _)
  exact T2.out
end
section
variable {kd:IntKind} {T:TypeId} {w w':World} {B n:Nat} {v:Value} {L:List Int}
def OwnN (kd:IntKind) (T:TypeId) (w:World) (B:Nat) (v:Value) (n:Nat) (L:List Int):Prop:=n=L.length/\w.ownsRow B T 1 v n (L.map (Value.int kd))
theorem OwnN.past (h:OwnN kd T w B v n L) (hb:Below w.heap.size w w'):OwnN kd T w' B v n L:=⟨h.1,Qat h.2 hb⟩
theorem OwnN.le (h:OwnN kd T w B v n L) (hb:B'<=B):OwnN kd T w B' v n L:=⟨h.1,Qa1 h.2 hb⟩
theorem OwnN.at {c:Nat} (h:OwnN kd T w B (.slice ao n c) n L):QaH kd w ao L:=by
 have h2:=h.2;rw [h.1] at h2;exact (QfC h2).1
theorem OwnN.lt (h:OwnN kd T w B v n L):∀ k,v.ownBlock=some k->B<=k/\k<w.heap.size:=fun k e=>by
 rcases h.2.2 with ⟨rfl,_⟩ | ⟨g,c,cur,rfl,h1,h2,_⟩
 ·cases e
 ·have:g=k:=Option.some.inj e
  subst this;exact ⟨h1,(ZZc.1 h2).1⟩
def mkn (k0 n:Nat):List Int:=(List.range n).map fun i=>((k0+i:Nat):Int)
end
section
structure AgO (w:World) (B:Nat) (o:Ag) (p:Pl):Prop where
 P:OwnB w B (.slice p.pa o.P.length p.pc) o.P.length o.P
 N:OwnB w B (.slice p.na o.N.length p.nc) o.N.length o.N
 ap:Qgc (.slice p.pa o.P.length p.pc) (.slice p.na o.N.length p.nc)
 E:OwnN .u64 69 w B (.slice p.ea o.E.length p.ec) o.E.length o.E
 R:OwnN .i64 2 w B (.slice p.ra o.R.length p.rc) o.R.length o.R
def AgOut (w:World) (B:Nat) (v:Value) (o:Ag):Prop:=∃ p,v=.agg (Qan o p)/\AgO w B o p
def Qe8:Ag:=⟨0,0,0,0,0,0,0,[],[],0,0,[],[]⟩
theorem cellK (h:w.heap[r]?=some (.cells cs T (0,0))) (j:Nat) (e:cs[j]?=some v):w.cell? ⟨r,j,none⟩=some v:=by rw [cell_of_row _ _ j _ _ (0,0) h];exact e
end
variable {o:Ag}
variable {p:Pl}
section
abbrev pl0:Pl:=⟨none,0,none,0,none,0,none,0⟩
theorem OwnB.below {L:List Bn} (h:OwnB w B v n L) (hr:r<B) (u:Value):OwnB (w.setCell ⟨r,j,none⟩ u) B v n L:=h.set (fun e=>by have:=(h.lt r e).1;omega) u
theorem OwnN.below {L:List Int} (h:OwnN kd T w B v n L) (hr:r<B) (u:Value):OwnN kd T (w.setCell ⟨r,j,none⟩ u) B v n L:=⟨h.1,ownsRow_setCell_below h.2 (by simpa using hr) u⟩
theorem AgO.below (h:AgO w B o p) (hr:r<B) (u:Value):AgO (w.setCell ⟨r,j,none⟩ u) B o p:=⟨h.P.below hr u,h.N.below hr u,h.ap,h.E.below hr u,h.R.below hr u⟩
theorem AgO.le (h:AgO w B o p) (hb:B'<=B):AgO w B' o p:=⟨h.P.le hb,h.N.le hb,h.ap,h.E.le hb,h.R.le hb⟩
theorem AgO.past (h:AgO w B o p) (hb:Below w.heap.size w w'):AgO w' B o p:=⟨h.P.past hb,h.N.past hb,h.ap,h.E.past hb,h.R.past hb⟩
theorem AgO.nil (w:World) (B:Nat) (hP:o.P=[]) (hN:o.N=[]) (hE:o.E=[]) (hR:o.R=[]):AgO w B o pl0:=by
 obtain ⟨k,s,h,l,a,t,z,P,N,x,y,E,R⟩:=o;simp only at hP hN hE hR;subst hP hN hE hR;exact ⟨⟨rfl,.inl ⟨rfl,rfl⟩⟩,⟨rfl,.inl ⟨rfl,rfl⟩⟩,(fun k e=>by cases e),⟨rfl,World.ownsRow_nil _ _ _ _⟩,⟨rfl,World.ownsRow_nil _ _ _ _⟩⟩
theorem AgO.at (h:AgO w B o p):AgAt w o p:=⟨h.P.at,h.N.at,h.E.at,h.R.at⟩
def AgRes (w:World) (Q:Ag->Prop) (e:Ending) (w':World):Prop:=∃ v o,e=.returned v/\Q o/\AgOut w' w.heap.size v o/\Below w.heap.size w w'
theorem AgRes.mk {Q:Ag->Prop} (q:Q o) (h:AgO w' w.heap.size o p) (b:Below w.heap.size w w'):AgRes w Q (.returned (.agg (Qan o p))) w':=⟨_,o,rfl,q,⟨p,rfl,h⟩,b⟩
end
section
end
variable {S:Nat->Prop}
section
structure GrownS (w w':World) (S:Nat->Prop):Prop where
 os:w'.os=w.os
 tape:w'.tape=w.tape
 output:w'.output=w.output
 size:w.heap.size<=w'.heap.size
 block:∀ k,k<w.heap.size->¬ S k->w'.heap[k]?=w.heap[k]?
theorem GrownS.trans {w2:World} {T:Nat->Prop} (h:GrownS w w1 S) (g:GrownS w1 w2 T):GrownS w w2 (fun k=>S k∨T k):=
 ⟨g.os.trans h.os,g.tape.trans h.tape,g.output.trans h.output,Nat.le_trans h.size g.size,fun k hk hn=>by
  rw [g.block k (Nat.lt_of_lt_of_le hk h.size) (fun e=>hn (.inr e)),h.block k hk (fun e=>hn (.inl e))]⟩
theorem GrownS.below {w0:World} (h:Below B w0 w) (hB:B<=w.heap.size) (hg:GrownS w w' S) (h1:∀ k,S k->B<=k):Below B w0 w':=
 ⟨hg.os.trans h.os,hg.tape.trans h.tape,hg.output.trans h.output,Nat.le_trans h.size hg.size,fun k hk=>by
  rw [hg.block k (by omega) (fun e=>by have:=h1 k e;omega)];exact h.block k hk⟩
theorem GrownS.row {o:Obj} (hg:GrownS w w' S) (h:w.heap[g]?=some o) (h1:¬ S g):w'.heap[g]?=some o:=by
 rw [hg.block g (Array.getElem?_eq_some_iff.1 h).1 h1];exact h
theorem OwnB.keptS {L:List Bn} (h:OwnB w B v n L) (hg:GrownS w w' S) (h1:∀ k,v.ownBlock=some k->¬ S k):OwnB w' B v n L:=by
 refine ⟨h.1,?_⟩;rcases h.2 with h | ⟨b,ab,c,aa,e,h2,h3,h4⟩
 ·exact .inl h
 ·refine .inr ⟨b,ab,c,aa,e,h2,?_,h4⟩
  rw [hg.block b (Array.getElem?_eq_some_iff.1 h3).1 (h1 b (by rw [e];rfl))];exact h3
theorem OwnN.keptS {L:List Int} (h:OwnN kd T w B v n L) (hg:GrownS w w' S) (h1:∀ k,v.ownBlock=some k->¬ S k):OwnN kd T w' B v n L:=by
 refine ⟨h.1,h.2.1,?_⟩;rcases h.2.2 with h | ⟨b,c,aa,e,h2,h3,h4⟩
 ·exact .inl h
 ·refine .inr ⟨b,c,aa,e,h2,?_,h4⟩
  rw [hg.block b (Array.getElem?_eq_some_iff.1 h3).1 (h1 b (by rw [e];rfl))];exact h3
def Qd1 (o:Ag) (p:Pl) (k:Nat):Prop:=((Value.slice p.pa o.P.length p.pc).ownBlock=some k∨(Value.slice p.na o.N.length p.nc).ownBlock=some k)∨((Value.slice p.ea o.E.length p.ec).ownBlock=some k∨(Value.slice p.ra o.R.length p.rc).ownBlock=some k)
theorem AgO.lt (h:AgO w B o p) (hk:Qd1 o p k):B<=k/\k<w.heap.size:=by
 rcases hk with (e | e) | (e | e)
 ·exact h.P.lt k e
 ·exact h.N.lt k e
 ·exact h.E.lt k e
 ·exact h.R.lt k e
theorem AgO.keptS (h:AgO w B o p) (hg:GrownS w w' S) (h1:∀ k,Qd1 o p k->¬ S k):AgO w' B o p:=
 ⟨h.P.keptS hg (fun k e=>h1 k (.inl (.inl e))),h.N.keptS hg (fun k e=>h1 k (.inl (.inr e))),h.ap,h.E.keptS hg (fun k e=>h1 k (.inr (.inl e))),h.R.keptS hg (fun k e=>h1 k (.inr (.inr e)))⟩
end
variable {Fn L M Mo R X:List Ce}
variable {a b c d:Ce}
section
def ApC (c d:Ce):Prop:=∀ k,Qd1 c.g c.p k->¬ Qd1 d.g d.p k
theorem ApC.symm (h:ApC c d):ApC d c:=fun k h1 h2=>h k h2 h1
structure CesO (w:World) (B:Nat) (L:List Ce):Prop where
 o:∀ c∈L,AgO w B c.g c.p
 ap:L.Pairwise ApC
theorem CesO.nil (w:World) (B:Nat):CesO w B []:=⟨by simp,.nil⟩
theorem CesO.past (h:CesO w B L) (hb:Below w.heap.size w w'):CesO w' B L:=⟨fun c hc=>(h.o c hc).past hb,h.ap⟩
theorem CesO.le (h:CesO w B L) (hb:B'<=B):CesO w B' L:=⟨fun c hc=>(h.o c hc).le hb,h.ap⟩
theorem CesO.perm (h:CesO w B L) (p:L.Perm M):CesO w B M:=
 ⟨fun c hc=>h.o c (p.mem_iff.2 hc),(p.pairwise_iff (fun {a b} (q:ApC a b)=>q.symm)).1 h.ap⟩
theorem CesO.keptS (h:CesO w B L) (hg:GrownS w w' S) (h1:∀ c∈L,∀ k,Qd1 c.g c.p k->¬ S k):CesO w' B L:=
 ⟨fun c hc=>(h.o c hc).keptS hg (h1 c hc),h.ap⟩
theorem CesO.grown {s:Nat} (h:CesO w B L) (hg:w.grownBy w' (some s)) (hs:s<B):CesO w' B L:=
 h.keptS (S:=fun k=>k=s) ⟨hg.os,hg.tape,hg.output,hg.size,fun k hk hn=>hg.block k hk (fun e=>hn (by cases e;rfl))⟩ (fun c hc k e q=>by
  have:=((h.o c hc).lt e).1;omega)
theorem CesO.add (h:CesO w B L) (hb:Below w.heap.size w w') (hB:B<=w.heap.size) (ho:AgO w' w.heap.size c.g c.p):CesO w' B (c :: L):=by
 refine ⟨fun d hd=>?_,List.pairwise_cons.2 ⟨fun d hd k h1 h2=>?_,h.ap⟩⟩
 ·rcases List.mem_cons.1 hd with rfl | hd
  ·exact ho.le hB
  ·exact (h.o d hd).past hb
 ·have k1:=(ho.lt h1).1
  have k2:=((h.o d hd).lt h2).2;omega
theorem CesO.sub (h:CesO w B L) (s:M.Sublist L):CesO w B M:=⟨fun c hc=>h.o c (s.subset hc),h.ap.sublist s⟩
theorem CesO.at (h:CesO w B L):∀ c∈L,AgAt w c.g c.p:=fun c hc=>(h.o c hc).at
theorem Qez (h:cAh a b=true) (k:cAh b c=true):cAh a c=true:=by
 unfold cAh at *;simp only [Bool.or_eq_true,Bool.and_eq_true,decide_eq_true_eq,beq_iff_eq] at *;rcases h with h | ⟨h1,h2⟩ <;> rcases k with k | ⟨k1,k2⟩
 ·exact .inl (by omega)
 ·exact .inl (by omega)
 ·exact .inl (by omega)
 ·exact .inr ⟨by omega,Qbu h2 k2⟩
theorem Qif (a:Ce):cAh a a=false:=by
 unfold cAh;simp [Qbn]
theorem Qib (h:cAh a b=true):cAh b a=false:=by
 cases q:cAh b a
 ·rfl
 ·have:=Qez h q
  rw [Qif] at this;cases this
theorem QoM (h:cAh a b=false) (k:cAh b a=false):QcP a b:=by
 unfold cAh at h k;simp only [Bool.or_eq_false_iff,Bool.and_eq_false_iff,decide_eq_false_iff_not,beq_eq_false_iff_ne] at h k;have e:a.n=b.n:=by omega
 refine ⟨e,?_⟩;rcases h.2 with q | q
 ·exact absurd e q
 ·rcases k.2 with q2 | q2
  ·exact absurd e.symm q2
  ·rcases QcH q with q3 | q3
   ·rw [q3] at q2;cases q2
   ·exact q3
theorem cAh_ne (h:cAh a b=true):¬ QcP a b:=by
 rintro ⟨e1,e2⟩;unfold cAh at h;rw [e1,e2] at h;simp [Qbn] at h
def Qck (L:List Ce):Prop:=L.Pairwise (fun c d=>cAh c d=true)
theorem Qks:∀ {L:List Ce} {b:Option Ce},cRs b L=true->(∀ c∈L,cRi c=true)/\Qck L/\(∀ b',b=some b'->∀ c∈L,cAh b' c=true)
 | [],b,_=>⟨by simp,.nil,by simp⟩
 | c :: L,none,h=>by
  unfold cRs at h;simp only [Bool.and_eq_true] at h;obtain ⟨h1,h2,h3⟩:=Qks h.2;refine ⟨fun d hd=>?_,List.pairwise_cons.2 ⟨h3 c rfl,h2⟩,fun b' e=>by cases e⟩;rcases List.mem_cons.1 hd with rfl | hd
  ·exact h.1
  ·exact h1 d hd
 | c :: L,some b,h=>by
  unfold cRs at h;simp only [Bool.and_eq_true] at h;obtain ⟨h1,h2,h3⟩:=Qks h.2;refine ⟨fun d hd=>?_,List.pairwise_cons.2 ⟨h3 c rfl,h2⟩,fun b' e d hd=>?_⟩
  ·rcases List.mem_cons.1 hd with rfl | hd
   ·exact h.1.1
   ·exact h1 d hd
  ·cases e
   rcases List.mem_cons.1 hd with rfl | hd
   ·exact h.1.2
   ·exact Qez h.1.2 (h3 c rfl d hd)
theorem Qky:∀ {L:List Ce} {b:Option Ce},(∀ c∈L,cRi c=true)->Qck L->(∀ b',b=some b'->∀ c∈L,cAh b' c=true)->cRs b L=true
 | [],b,_,_,_=>by cases b <;> rfl
 | c :: L,none,h1,h2,h3=>by
  obtain ⟨q1,q2⟩:=List.pairwise_cons.1 h2;unfold cRs;rw [h1 c (by simp),Qky (fun d hd=>h1 d (List.mem_cons_of_mem _ hd)) q2 (fun b' e d hd=>by cases e;exact q1 d hd)]
  rfl
 | c :: L,some b,h1,h2,h3=>by
  obtain ⟨q1,q2⟩:=List.pairwise_cons.1 h2;unfold cRs;rw [h1 c (by simp),h3 b rfl c (by simp),Qky (fun d hd=>h1 d (List.mem_cons_of_mem _ hd)) q2 (fun b' e d hd=>by cases e;exact q1 d hd)]
  rfl
theorem csR_iff:csR L=true↔L.length<=60/\(∀ c∈L,cRi c=true)/\Qck L:=by
 unfold csR;simp only [Bool.and_eq_true,decide_eq_true_eq];constructor
 ·rintro ⟨h1,h2⟩
  obtain ⟨q1,q2,_⟩:=Qks h2;exact ⟨h1,q1,q2⟩
 ·rintro ⟨h1,h2,h3⟩
  exact ⟨h1,Qky h2 h3 (by simp)⟩
def ceL (c:Ce):List Value:=(Qas c).toList
theorem Qh7 (c:Ce):(ceL c).length=15:=rfl
theorem QdX (c:Ce):∀ v∈ceL c,v.oneCell'=true:=by
 intro v hv;simp [ceL] at hv;rcases hv with rfl | rfl | rfl | rfl | rfl | rfl | rfl | rfl | rfl | rfl | rfl | rfl | rfl | rfl | rfl <;> rfl
end
section
def flC (xs:List Ce):List Value:=xs.flatMap ceL
theorem QeI (xs ys:List Ce):flC (xs ++ ys)=flC xs ++ flC ys:=by simp [flC]
theorem QkC (x:Ce):flC [x]=ceL x:=by simp [flC]
theorem Qhs (x:Ce) (xs:List Ce):flC (x :: xs)=ceL x ++ flC xs:=by simp [flC]
theorem Qcv:∀ xs:List Ce,(flC xs).length=xs.length*15
 | []=>rfl
 | x :: xs=>by rw [Qhs,List.length_append,Qh7,Qcv xs,List.length_cons];omega
theorem QsS:∀ (xs:List Ce) (i:Nat) (x:Ce) (c:Nat),c<15->xs[i]?=some x->(flC xs)[i*15+c]?=(ceL x)[c]?
 | [],i,x,c,hc,h=>by simp at h
 | y :: xs,0,x,c,hc,h=>by
  obtain rfl:y=x:=by simpa using h
  rw [Qhs,List.getElem?_append_left (by rw [Qh7];omega),Nat.zero_mul,Nat.zero_add]
 | y :: xs,i+1,x,c,hc,h=>by
  rw [Qhs,List.getElem?_append_right (by rw [Qh7];omega),Qh7,show (i+1)*15+c - 15=i*15+c by omega];exact QsS xs i x c hc (by simpa using h)
def OwnC (w:World) (B:Nat) (v:Value) (L:List Ce):Prop:=w.ownsRow B 92 15 v L.length (flC L)
theorem OwnC.nil (w:World) (B:Nat):OwnC w B (.slice none 0 0) []:=World.ownsRow_nil _ _ _ _
theorem OwnC.past (h:OwnC w B v L) (hb:Below w.heap.size w w'):OwnC w' B v L:=
 World.ownsRow.kept (row:=none) h ⟨hb.os,hb.tape,hb.output,hb.size,fun i hi _=>hb.block i hi⟩ (by cases v.ownBlock <;> simp)
theorem OwnC.le (h:OwnC w B v L) (hb:B'<=B):OwnC w B' v L:=by
 refine ⟨h.1,?_⟩;rcases h.2 with q | ⟨g,ab,aa,e,q1,q2⟩
 ·exact .inl q
 ·exact .inr ⟨g,ab,aa,e,Nat.le_trans hb q1,q2⟩
theorem OwnC.form (h:OwnC w B v L):∃ ao cp,v=.slice ao L.length cp/\(ao=none->cp=0):=by
 rcases h.2 with ⟨e,q⟩ | ⟨g,aa,ab,e,q1,q2⟩
 ·exact ⟨none,0,by rw [q];exact e,fun _=>rfl⟩
 ·exact ⟨_,aa,e,fun h=>by cases h⟩
theorem QfG (h:OwnC w B (.slice (some ⟨g,0,none⟩) L.length cp) L) (hc:L[i]?=some c):QcX w g (0+i*15) c:=by
 have hi:=(ZZd.1 hc).1
 have q:∀ j v,j<15->(ceL c)[j]?=some v->w.cell? ⟨g,0+i*15+j,none⟩=some v:=fun j v hj e=>by
  rw [Nat.zero_add,World.ownsRow.cellAt h (i*15+j) (by omega),QsS L i c j hj hc];exact e
 exact ⟨q 0 _ (by omega) rfl,q 1 _ (by omega) rfl,q 2 _ (by omega) rfl,q 3 _ (by omega) rfl,q 4 _ (by omega) rfl,q 5 _ (by omega) rfl,q 6 _ (by omega) rfl,q 7 _ (by omega) rfl,q 8 _ (by omega) rfl,q 9 _ (by omega) rfl,q 10 _ (by omega) rfl,q 11 _ (by omega) rfl,q 12 _ (by omega) rfl,q 13 _ (by omega) rfl,q 14 _ (by omega) rfl⟩
theorem OwnC.at (h:OwnC w B (.slice ao n cp) L) (hg:∀ c∈L,AgAt w c.g c.p):Qcl w ao L:=by
 refine ⟨fun h0=>?_,hg⟩;rcases h.2 with ⟨e,q⟩ | ⟨g,ab,aa,e,q1,q2⟩
 ·omega
 ·injection e with e1 e2 e3
  subst e1;subst e2;subst e3;exact ⟨g,0,rfl,fun i c hc=>QfG h hc⟩
end
section
theorem Qjr:∃ i0,prog.info? 92=some i0/\i0.zero=some (.agg QbI)/\i0.size=15/\i0.bytes=192:=by
 obtain ⟨i0,h1,h2,h3,h4⟩:=info_parts Qqi;exact ⟨i0,h1,h2,h3,h4⟩
theorem Qb7 {t:TypeId} (j:Nat) (u:Value) (hj:(ceL c)[j]?=some u):(W.alloc (.cells (Qas c) t)).cell? ((⟨W.heap.size,0,none⟩:Addr).add j)=some u:=by
 have hb:(W.alloc (.cells (Qas c) t)).heap[W.heap.size]?=some (.cells (Qas c) t (0,0)):=ZZk W _;rw [Addr.add_lit,Nat.zero_add,cell_of_row _ W.heap.size j _ _ (0,0) hb]
 simpa [ceL] using hj
end
section
theorem Qtl (w:World) (o o':Obj):((w.alloc o).alloc o').heap.size=w.heap.size+1+1:=by simp
structure PlG (g:Ag) (p:Pl):Prop where
 cP:p.pa=none->p.pc=0
 cN:p.na=none->p.nc=0
 cE:p.ea=none->p.ec=0
 cR:p.ra=none->p.rc=0
 fE:QtM p.ea
 fR:QtM p.ra
 lE:g.E.length<=p.ec
 mE:p.ec<=maxLen
end
section
abbrev z13:Array Value:=#[.int .i64 0,.int .u64 0,.int .i64 0,.int .u64 0,.int .i64 0,.int .i64 0,.int .u64 0,.slice none 0 0,.slice none 0 0,.int .i64 0,.int .u64 0,.slice none 0 0,.slice none 0 0]
theorem box_ag (w:World) (g:Ag) (p:Pl):Hid (Below w.heap.size w ((w.alloc (.cells (Qan g p) 90)).alloc (.cells z13 90)))/\Hid (∀ W,Below ((w.alloc (.cells (Qan g p) 90)).alloc (.cells z13 90)).heap.size ((w.alloc (.cells (Qan g p) 90)).alloc (.cells z13 90)) W->W.heap[w.heap.size]?=some (.cells (Qan g p) 90 (0,0))/\W.heap[w.heap.size+1]?=some (.cells z13 90 (0,0))):=by
 have a1:∀ (W:World) o,Below W.heap.size W (W.alloc o):=fun W o=>(ZZb _ _).alloc (ZZa _) _;have k0:=ZZk w (.cells (Qan g p) 90);have k1:=ZZk (w.alloc (.cells (Qan g p) 90)) (.cells z13 90);simp only [World.size_alloc] at k1;exact ⟨Qaa (Qac (a1 _ _) (a1 _ _)),Qaa (fun W hW=>⟨(hW.block _ (by simp;omega)).trans (((a1 _ _).block _ (by simp)).trans k0),(hW.block _ (by simp)).trans k1⟩)⟩
theorem Qrj {g:Ag} (ha:w1.heap[w.heap.size]?=some (.cells (Qan g p) 90 (0,0))) (hz:w1.heap[w.heap.size+1]?=some (.cells z13 90 (0,0))) (hb:Below w.heap.size w w1) (hs:B<=w1.heap.size) (o1:OwnB w1 B (.slice pa g.P.length pc) g.P.length g.P) (o2:OwnB w1 B (.slice na g.N.length nc) g.N.length g.N) (hB:w.heap.size<B) :
  Hid (Below w.heap.size w (((((w1.setCell ⟨w.heap.size,6,none⟩ (.int .u64 g.z)).setCell ⟨w.heap.size,7,none⟩ (.slice pa g.P.length pc)).setCell ⟨w.heap.size,8,none⟩ (.slice na g.N.length nc)).setCell ⟨w.heap.size,9,none⟩ (.int .i64 g.x)).setCell ⟨w.heap.size,10,none⟩ (.int .u64 g.y)))/\Hid ((((((w1.setCell ⟨w.heap.size,6,none⟩ (.int .u64 g.z)).setCell ⟨w.heap.size,7,none⟩ (.slice pa g.P.length pc)).setCell ⟨w.heap.size,8,none⟩ (.slice na g.N.length nc)).setCell ⟨w.heap.size,9,none⟩ (.int .i64 g.x)).setCell ⟨w.heap.size,10,none⟩ (.int .u64 g.y)).heap[w.heap.size]?=some (.cells (Qan g ⟨pa,pc,na,nc,p.ea,p.ec,p.ra,p.rc⟩) 90 (0,0)))/\Hid ((((((w1.setCell ⟨w.heap.size,6,none⟩ (.int .u64 g.z)).setCell ⟨w.heap.size,7,none⟩ (.slice pa g.P.length pc)).setCell ⟨w.heap.size,8,none⟩ (.slice na g.N.length nc)).setCell ⟨w.heap.size,9,none⟩ (.int .i64 g.x)).setCell ⟨w.heap.size,10,none⟩ (.int .u64 g.y)).heap[w.heap.size+1]?=some (.cells z13 90 (0,0)))/\Hid (B<=(((((w1.setCell ⟨w.heap.size,6,none⟩ (.int .u64 g.z)).setCell ⟨w.heap.size,7,none⟩ (.slice pa g.P.length pc)).setCell ⟨w.heap.size,8,none⟩ (.slice na g.N.length nc)).setCell ⟨w.heap.size,9,none⟩ (.int .i64 g.x)).setCell ⟨w.heap.size,10,none⟩ (.int .u64 g.y)).heap.size)/\Hid (OwnB (((((w1.setCell ⟨w.heap.size,6,none⟩ (.int .u64 g.z)).setCell ⟨w.heap.size,7,none⟩ (.slice pa g.P.length pc)).setCell ⟨w.heap.size,8,none⟩ (.slice na g.N.length nc)).setCell ⟨w.heap.size,9,none⟩ (.int .i64 g.x)).setCell ⟨w.heap.size,10,none⟩ (.int .u64 g.y)) B (.slice pa g.P.length pc) g.P.length g.P/\OwnB (((((w1.setCell ⟨w.heap.size,6,none⟩ (.int .u64 g.z)).setCell ⟨w.heap.size,7,none⟩ (.slice pa g.P.length pc)).setCell ⟨w.heap.size,8,none⟩ (.slice na g.N.length nc)).setCell ⟨w.heap.size,9,none⟩ (.int .i64 g.x)).setCell ⟨w.heap.size,10,none⟩ (.int .u64 g.y)) B (.slice na g.N.length nc) g.N.length g.N):=by
 have h0:(w1.setCell ⟨w.heap.size,6,none⟩ (.int .u64 g.z)).heap[w.heap.size]?=some (.cells #[.int .i64 g.k,.int .u64 g.s,.int .i64 g.h,.int .u64 g.l,.int .i64 g.a,.int .i64 g.t,.int .u64 g.z,.slice p.pa g.P.length p.pc,.slice p.na g.N.length p.nc,.int .i64 g.x,.int .u64 g.y,.slice p.ea g.E.length p.ec,.slice p.ra g.R.length p.rc] 90 (0,0)):=ZZl _ w.heap.size 6 _ _ _ ha;have h1:((w1.setCell ⟨w.heap.size,6,none⟩ (.int .u64 g.z)).setCell ⟨w.heap.size,7,none⟩ (.slice pa g.P.length pc)).heap[w.heap.size]?=some (.cells #[.int .i64 g.k,.int .u64 g.s,.int .i64 g.h,.int .u64 g.l,.int .i64 g.a,.int .i64 g.t,.int .u64 g.z,.slice pa g.P.length pc,.slice p.na g.N.length p.nc,.int .i64 g.x,.int .u64 g.y,.slice p.ea g.E.length p.ec,.slice p.ra g.R.length p.rc] 90 (0,0)):=ZZl _ w.heap.size 7 _ _ _ h0;have h2:(((w1.setCell ⟨w.heap.size,6,none⟩ (.int .u64 g.z)).setCell ⟨w.heap.size,7,none⟩ (.slice pa g.P.length pc)).setCell ⟨w.heap.size,8,none⟩ (.slice na g.N.length nc)).heap[w.heap.size]?=some (.cells #[.int .i64 g.k,.int .u64 g.s,.int .i64 g.h,.int .u64 g.l,.int .i64 g.a,.int .i64 g.t,.int .u64 g.z,.slice pa g.P.length pc,.slice na g.N.length nc,.int .i64 g.x,.int .u64 g.y,.slice p.ea g.E.length p.ec,.slice p.ra g.R.length p.rc] 90 (0,0)):=ZZl _ w.heap.size 8 _ _ _ h1;have h3:((((w1.setCell ⟨w.heap.size,6,none⟩ (.int .u64 g.z)).setCell ⟨w.heap.size,7,none⟩ (.slice pa g.P.length pc)).setCell ⟨w.heap.size,8,none⟩ (.slice na g.N.length nc)).setCell ⟨w.heap.size,9,none⟩ (.int .i64 g.x)).heap[w.heap.size]?=some (.cells #[.int .i64 g.k,.int .u64 g.s,.int .i64 g.h,.int .u64 g.l,.int .i64 g.a,.int .i64 g.t,.int .u64 g.z,.slice pa g.P.length pc,.slice na g.N.length nc,.int .i64 g.x,.int .u64 g.y,.slice p.ea g.E.length p.ec,.slice p.ra g.R.length p.rc] 90 (0,0)):=ZZl _ w.heap.size 9 _ _ _ h2;have h4:(((((w1.setCell ⟨w.heap.size,6,none⟩ (.int .u64 g.z)).setCell ⟨w.heap.size,7,none⟩ (.slice pa g.P.length pc)).setCell ⟨w.heap.size,8,none⟩ (.slice na g.N.length nc)).setCell ⟨w.heap.size,9,none⟩ (.int .i64 g.x)).setCell ⟨w.heap.size,10,none⟩ (.int .u64 g.y)).heap[w.heap.size]?=some (.cells #[.int .i64 g.k,.int .u64 g.s,.int .i64 g.h,.int .u64 g.l,.int .i64 g.a,.int .i64 g.t,.int .u64 g.z,.slice pa g.P.length pc,.slice na g.N.length nc,.int .i64 g.x,.int .u64 g.y,.slice p.ea g.E.length p.ec,.slice p.ra g.R.length p.rc] 90 (0,0)):=ZZl _ w.heap.size 10 _ _ _ h3;refine ⟨Qaa ?_,Qaa h4,Qaa ?_,Qaa ?_,Qaa ⟨?_,?_⟩⟩
 ·repeat (refine Below.setCell ?_ (by simp) _)
  exact hb
 ·repeat (rw [heap_setCell_other _ _ _ _ (by simp)])
  exact hz
 ·simpa [World.setCell] using hs
 ·repeat (refine OwnB.below ?_ hB _)
  exact o1
 ·repeat (refine OwnB.below ?_ hB _)
  exact o2
theorem Qjh {g:Ag} (sm:AgSm g) (pl:PlG g p) (hA:AgAt w g p) :
  Calls prog 167 #[.agg (Qan g p)] w fun e w'=>AgRes w (fun o=>o=g) e w':=by
 have SM:=Qaa sm;have PL:=Qaa pl;have HA:=Qaa hA;clear sm pl hA;obtain ⟨ae,HC⟩:=box_ag w g p;have aD:=Qtl w (.cells (Qan g p) 90) (.cells z13 90);go_enter func167,ntmps167;go_wp2_with fail;generalize (w.alloc (.cells (Qan g p) 90)).alloc (.cells z13 90)=W0 at ae HC aD ⊢;refine (Qgi rfl rfl SM.out.P SM.out.N (Qak HA.out.P ae) (Qak HA.out.N ae) PL.out.cP PL.out.cN).mono ?_;rintro e w1 ⟨v1,rfl,⟨vp,vn,pn,nn,rfl,o1,o2,av⟩,ac⟩;obtain ⟨pa,pc,rfl⟩:=o1.any;obtain ⟨na,nc,rfl⟩:=o2.any;obtain rfl:=o1.1;obtain rfl:=o2.1;have aB:=Qaa ac;have ab:=Qaa (HC.out _ ac);have ak:=Qaa (And.intro o1 (And.intro o2 av));have aE:=ac.size;clear o1 o2 av ac;obtain ⟨q0,q1,q2,q3,q4,q5,q6,q7,q8,q9,al,ai,af⟩:=Qdz ab.out.1;obtain ⟨f0,f1,f2,f3,f4,f5,f6,f7,f8,f9,aw,ar,au⟩:=QeL ab.out.1;obtain ⟨z0,z1,z2,z3,z4,z5,z6,z7,z8,z9,aq,ao,aj⟩:=Qdz ab.out.2;obtain ⟨k0,k1,k2,k3,k4,k5,k6,k7,k8,k9,az,ay,ax⟩:=QeL ab.out.2;go_wp2_with fail;clear q0 q1 q2 q3 q4 q5 q6 q7 q8 q9 al ai af f0 f1 f2 f3 f4 f5 f6 f7 f8 f9 aw ar au z0 z1 z2 z3 z4 z5 z6 z7 z8 z9 aq ao aj k0 k1 k2 k3 k4 k5 k6 k7 k8 k9 az ay ax;obtain ⟨ad,ah,ap,am,an⟩:=Qrj (pa:=pa) (pc:=pc) (na:=na) (nc:=nc) ab.out.1 ab.out.2 (Qac ae aB) (by omega) ak.out.1 ak.out.2.1 (show w.heap.size<W0.heap.size by omega);generalize ((((w1.setCell ⟨w.heap.size,6,none⟩ (.int .u64 g.z)).setCell ⟨w.heap.size,7,none⟩ (.slice pa g.P.length pc)).setCell ⟨w.heap.size,8,none⟩ (.slice na g.N.length nc)).setCell ⟨w.heap.size,9,none⟩ (.int .i64 g.x)).setCell ⟨w.heap.size,10,none⟩ (.int .u64 g.y)=W2 at ad ah ap am an ⊢;refine (Qoh rfl rfl SM.out.E SM.out.R PL.out.cE PL.out.cR (Qah HA.out.E ad) (Qah HA.out.R ad)).mono ?_;rintro e w3 ⟨v3,rfl,⟨ve,vr,rfl,o3,o4⟩,aa⟩;obtain ⟨ea,ec,rfl⟩:=Qag o3;obtain ⟨ra,rc,rfl⟩:=Qag o4;have aA:=Qaa (And.intro (Qa1 (B':=W0.heap.size) o3 (by have:=am.out;omega)) (Qa1 (B':=W0.heap.size) o4 (by have:=am.out;omega)));have ag:=Qaa (And.intro (an.out.1.past aa) (And.intro (an.out.2.past aa) ak.out.2.2));have aC:=Qaa (Qac ad aa);have R3:=(aa.block _ (ZZc.1 ah).1).trans ah;have R4:=(aa.block _ (ZZc.1 ap).1).trans ap;clear o3 o4 aa;obtain ⟨q0,q1,q2,q3,q4,q5,q6,q7,q8,q9,al,ai,af⟩:=Qdz R3;obtain ⟨f0,f1,f2,f3,f4,f5,f6,f7,f8,f9,aw,ar,au⟩:=QeL R3;obtain ⟨z0,z1,z2,z3,z4,z5,z6,z7,z8,z9,aq,ao,aj⟩:=Qdz R4;obtain ⟨k0,k1,k2,k3,k4,k5,k6,k7,k8,k9,az,ay,ax⟩:=QeL R4;clear R3 R4;go_wp2;refine bodyPost_ret (v:=.agg (Qan g ⟨pa,pc,na,nc,ea,ec,ra,rc⟩)) (by simp [results,results167,go_sem,q0,q1,q2,q3,q4,q5,q6,q7,q8,q9,al,ai,af,z0,z1,z2,z3,z4,z5,z6,z7,z8,z9,aq,ao,aj]) rfl (AgRes.mk (o:=g) (p:=⟨pa,pc,na,nc,ea,ec,ra,rc⟩) rfl ?_ ?_)
 ·refine AgO.le (B:=W0.heap.size) ?_ (by omega)
  repeat (refine AgO.below ?_ (by omega) _)
  exact ⟨ag.out.1,ag.out.2.1,ag.out.2.2,⟨rfl,aA.out.1⟩,⟨rfl,aA.out.2⟩⟩
 ·repeat (refine Below.setCell ?_ (by simp <;> omega) _)
  exact aC.out
end
section
theorem Qo5 (h:M.map Ce.key=L.map Ce.key) (hd:d∈M):∃ c∈L,c.n=d.n/\c.s=d.s/\c.g=d.g:=by
 have:d.key∈L.map Ce.key:=by rw [<- h];exact List.mem_map.2 ⟨d,hd,rfl⟩
 obtain ⟨c,hc,e⟩:=List.mem_map.1 this;unfold Ce.key at e;injection e with e1 e2;injection e2 with e2 e3;exact ⟨c,hc,e1,e2,e3⟩
end
section
theorem QrE {a b u5 u6 u7 u8 u9 u10 u11 u12:Value} (h:w.heap[r]?=some (.cells #[a,b,u0,u1,u2,u3,u4,u5,u6,u7,u8,u9,u10,u11,u12] T (0,0))) :
  (((((((((((((w.setCell ⟨r,2,none⟩ v0).setCell ⟨r,3,none⟩ v1).setCell ⟨r,4,none⟩ v2).setCell ⟨r,5,none⟩ v3).setCell ⟨r,6,none⟩ v4).setCell ⟨r,7,none⟩ v5).setCell ⟨r,8,none⟩ v6).setCell ⟨r,9,none⟩ v7).setCell ⟨r,10,none⟩ v8).setCell ⟨r,11,none⟩ v9).setCell ⟨r,12,none⟩ v10).setCell ⟨r,13,none⟩ v11).setCell ⟨r,14,none⟩ v12).heap[r]?=some (.cells #[a,b,v0,v1,v2,v3,v4,v5,v6,v7,v8,v9,v10,v11,v12] T (0,0)):=by
 have h0:(w.setCell ⟨r,2,none⟩ v0).heap[r]?=some (.cells #[a,b,v0,u1,u2,u3,u4,u5,u6,u7,u8,u9,u10,u11,u12] T (0,0)):=ZZl _ r 2 _ _ v0 h;have h1:((w.setCell ⟨r,2,none⟩ v0).setCell ⟨r,3,none⟩ v1).heap[r]?=some (.cells #[a,b,v0,v1,u2,u3,u4,u5,u6,u7,u8,u9,u10,u11,u12] T (0,0)):=ZZl _ r 3 _ _ v1 h0;have h2:(((w.setCell ⟨r,2,none⟩ v0).setCell ⟨r,3,none⟩ v1).setCell ⟨r,4,none⟩ v2).heap[r]?=some (.cells #[a,b,v0,v1,v2,u3,u4,u5,u6,u7,u8,u9,u10,u11,u12] T (0,0)):=ZZl _ r 4 _ _ v2 h1;have h3:((((w.setCell ⟨r,2,none⟩ v0).setCell ⟨r,3,none⟩ v1).setCell ⟨r,4,none⟩ v2).setCell ⟨r,5,none⟩ v3).heap[r]?=some (.cells #[a,b,v0,v1,v2,v3,u4,u5,u6,u7,u8,u9,u10,u11,u12] T (0,0)):=ZZl _ r 5 _ _ v3 h2;have h4:(((((w.setCell ⟨r,2,none⟩ v0).setCell ⟨r,3,none⟩ v1).setCell ⟨r,4,none⟩ v2).setCell ⟨r,5,none⟩ v3).setCell ⟨r,6,none⟩ v4).heap[r]?=some (.cells #[a,b,v0,v1,v2,v3,v4,u5,u6,u7,u8,u9,u10,u11,u12] T (0,0)):=ZZl _ r 6 _ _ v4 h3;have h5:((((((w.setCell ⟨r,2,none⟩ v0).setCell ⟨r,3,none⟩ v1).setCell ⟨r,4,none⟩ v2).setCell ⟨r,5,none⟩ v3).setCell ⟨r,6,none⟩ v4).setCell ⟨r,7,none⟩ v5).heap[r]?=some (.cells #[a,b,v0,v1,v2,v3,v4,v5,u6,u7,u8,u9,u10,u11,u12] T (0,0)):=ZZl _ r 7 _ _ v5 h4;have h6:(((((((w.setCell ⟨r,2,none⟩ v0).setCell ⟨r,3,none⟩ v1).setCell ⟨r,4,none⟩ v2).setCell ⟨r,5,none⟩ v3).setCell ⟨r,6,none⟩ v4).setCell ⟨r,7,none⟩ v5).setCell ⟨r,8,none⟩ v6).heap[r]?=some (.cells #[a,b,v0,v1,v2,v3,v4,v5,v6,u7,u8,u9,u10,u11,u12] T (0,0)):=ZZl _ r 8 _ _ v6 h5;have h7:((((((((w.setCell ⟨r,2,none⟩ v0).setCell ⟨r,3,none⟩ v1).setCell ⟨r,4,none⟩ v2).setCell ⟨r,5,none⟩ v3).setCell ⟨r,6,none⟩ v4).setCell ⟨r,7,none⟩ v5).setCell ⟨r,8,none⟩ v6).setCell ⟨r,9,none⟩ v7).heap[r]?=some (.cells #[a,b,v0,v1,v2,v3,v4,v5,v6,v7,u8,u9,u10,u11,u12] T (0,0)):=ZZl _ r 9 _ _ v7 h6;have h8:(((((((((w.setCell ⟨r,2,none⟩ v0).setCell ⟨r,3,none⟩ v1).setCell ⟨r,4,none⟩ v2).setCell ⟨r,5,none⟩ v3).setCell ⟨r,6,none⟩ v4).setCell ⟨r,7,none⟩ v5).setCell ⟨r,8,none⟩ v6).setCell ⟨r,9,none⟩ v7).setCell ⟨r,10,none⟩ v8).heap[r]?=some (.cells #[a,b,v0,v1,v2,v3,v4,v5,v6,v7,v8,u9,u10,u11,u12] T (0,0)):=ZZl _ r 10 _ _ v8 h7;have h9:((((((((((w.setCell ⟨r,2,none⟩ v0).setCell ⟨r,3,none⟩ v1).setCell ⟨r,4,none⟩ v2).setCell ⟨r,5,none⟩ v3).setCell ⟨r,6,none⟩ v4).setCell ⟨r,7,none⟩ v5).setCell ⟨r,8,none⟩ v6).setCell ⟨r,9,none⟩ v7).setCell ⟨r,10,none⟩ v8).setCell ⟨r,11,none⟩ v9).heap[r]?=some (.cells #[a,b,v0,v1,v2,v3,v4,v5,v6,v7,v8,v9,u10,u11,u12] T (0,0)):=ZZl _ r 11 _ _ v9 h8;have ac:(((((((((((w.setCell ⟨r,2,none⟩ v0).setCell ⟨r,3,none⟩ v1).setCell ⟨r,4,none⟩ v2).setCell ⟨r,5,none⟩ v3).setCell ⟨r,6,none⟩ v4).setCell ⟨r,7,none⟩ v5).setCell ⟨r,8,none⟩ v6).setCell ⟨r,9,none⟩ v7).setCell ⟨r,10,none⟩ v8).setCell ⟨r,11,none⟩ v9).setCell ⟨r,12,none⟩ v10).heap[r]?=some (.cells #[a,b,v0,v1,v2,v3,v4,v5,v6,v7,v8,v9,v10,u11,u12] T (0,0)):=ZZl _ r 12 _ _ v10 h9;have ab:((((((((((((w.setCell ⟨r,2,none⟩ v0).setCell ⟨r,3,none⟩ v1).setCell ⟨r,4,none⟩ v2).setCell ⟨r,5,none⟩ v3).setCell ⟨r,6,none⟩ v4).setCell ⟨r,7,none⟩ v5).setCell ⟨r,8,none⟩ v6).setCell ⟨r,9,none⟩ v7).setCell ⟨r,10,none⟩ v8).setCell ⟨r,11,none⟩ v9).setCell ⟨r,12,none⟩ v10).setCell ⟨r,13,none⟩ v11).heap[r]?=some (.cells #[a,b,v0,v1,v2,v3,v4,v5,v6,v7,v8,v9,v10,v11,u12] T (0,0)):=ZZl _ r 13 _ _ v11 ac;have aa:(((((((((((((w.setCell ⟨r,2,none⟩ v0).setCell ⟨r,3,none⟩ v1).setCell ⟨r,4,none⟩ v2).setCell ⟨r,5,none⟩ v3).setCell ⟨r,6,none⟩ v4).setCell ⟨r,7,none⟩ v5).setCell ⟨r,8,none⟩ v6).setCell ⟨r,9,none⟩ v7).setCell ⟨r,10,none⟩ v8).setCell ⟨r,11,none⟩ v9).setCell ⟨r,12,none⟩ v10).setCell ⟨r,13,none⟩ v11).setCell ⟨r,14,none⟩ v12).heap[r]?=some (.cells #[a,b,v0,v1,v2,v3,v4,v5,v6,v7,v8,v9,v10,v11,v12] T (0,0)):=ZZl _ r 14 _ _ v12 ab;exact aa
theorem Qq8 {K:Nat} (hK:K<=r):Below K w (((((((((((((w.setCell ⟨r,2,none⟩ v0).setCell ⟨r,3,none⟩ v1).setCell ⟨r,4,none⟩ v2).setCell ⟨r,5,none⟩ v3).setCell ⟨r,6,none⟩ v4).setCell ⟨r,7,none⟩ v5).setCell ⟨r,8,none⟩ v6).setCell ⟨r,9,none⟩ v7).setCell ⟨r,10,none⟩ v8).setCell ⟨r,11,none⟩ v9).setCell ⟨r,12,none⟩ v10).setCell ⟨r,13,none⟩ v11).setCell ⟨r,14,none⟩ v12):=by
 repeat (refine Below.setCell ?_ hK _)
 exact ZZb _ _
theorem AgO.kept15 (h:AgO w B o p) (hr:r<B):AgO (((((((((((((w.setCell ⟨r,2,none⟩ v0).setCell ⟨r,3,none⟩ v1).setCell ⟨r,4,none⟩ v2).setCell ⟨r,5,none⟩ v3).setCell ⟨r,6,none⟩ v4).setCell ⟨r,7,none⟩ v5).setCell ⟨r,8,none⟩ v6).setCell ⟨r,9,none⟩ v7).setCell ⟨r,10,none⟩ v8).setCell ⟨r,11,none⟩ v9).setCell ⟨r,12,none⟩ v10).setCell ⟨r,13,none⟩ v11).setCell ⟨r,14,none⟩ v12) B o p:=by
 repeat (refine AgO.below ?_ hr _)
 exact h
theorem OwnC.ne (h:OwnC w B v M) (ha:AgO w B' o p):∀ k,Qd1 o p k->v.ownBlock≠some k:=fun k hk e=>by
 rcases h.2 with ⟨rfl,_⟩ | ⟨g,cap,cur,rfl,q1,q2,q3⟩
 ·cases e
 ·obtain rfl:g=k:=Option.some.inj e
  rcases hk with (hk | hk) | (hk | hk)
  ·exact ha.P.ne q2 (by decide) hk
  ·exact ha.N.ne q2 (by decide) hk
  ·rcases ha.E.2.2 with ⟨e',_⟩ | ⟨b,c,cur',e',h2,h3,h4⟩
   ·rw [e'] at hk;cases hk
   ·rw [e'] at hk
    obtain rfl:b=g:=Option.some.inj hk;rw [q2] at h3;injection h3 with h3;injection h3 with _ h3
    revert h3;decide
  ·rcases ha.R.2.2 with ⟨e',_⟩ | ⟨b,c,cur',e',h2,h3,h4⟩
   ·rw [e'] at hk;cases hk
   ·rw [e'] at hk
    obtain rfl:b=g:=Option.some.inj hk;rw [q2] at h3;injection h3 with h3;injection h3 with _ h3
    revert h3;decide
theorem CesO.row (h:CesO w B L) (ho:OwnC w B' v M) (hg:w.grownBy w' v.ownBlock):CesO w' B L:=
 h.keptS (S:=fun k=>v.ownBlock=some k) ⟨hg.os,hg.tape,hg.output,hg.size,fun k hk hn=>hg.block k hk (fun e=>hn e.symm)⟩ (fun c hc k e=>ho.ne (h.o c hc) k e)
def ApV (u v:Value):Prop:=∀ k,u.ownBlock=some k->v.ownBlock≠some k
theorem OwnC.kept (h:OwnC w B u L) (hg:w.grownBy w' v.ownBlock) (ha:ApV u v):OwnC w' B u L:=
 World.ownsRow.kept h hg (by
  cases q:u.ownBlock with
  | none=>exact .inl rfl
  | some j=>exact .inr (fun e=>ha j q e.symm))
structure CpI (w wr:World) (L:List Ce) (k:Nat) (v:Value) (M:List Ce):Prop where
 r:OwnC wr w.heap.size v M
 o:CesO wr w.heap.size M
 ky:M.map Ce.key=(L.take k).map Ce.key
 b:Below w.heap.size w wr
theorem OwnC.made (w:World) (cs:Array Value) (h:cs.size=0):OwnC (w.alloc (.cells cs 92)) w.heap.size (.slice (some ⟨w.heap.size,0,none⟩) 0 0) []:=by
 have hb:=ZZk w (.cells cs 92);exact ⟨rfl,.inr ⟨_,0,cs,rfl,Nat.le_refl _,hb,Nat.le_refl _,Nat.zero_le _,by simpa using h,by simp [flC]⟩⟩
theorem CpI.len (h:CpI w wr L k v M) (hk:k<=L.length):M.length=k:=by
 have:=congrArg List.length h.ky;simp at this;omega
theorem CpI.step {W2:World} {q:Pl} (h:CpI w wr L k u M) (hc:L[k]?=some c) (hb1:Below wr.heap.size wr w1) (ho:AgO w1 wr.heap.size c.g q) (hb2:Below wr.heap.size w1 W2) (ho2:AgO W2 (wr.heap.size+1) c.g q)
  (v':Value) (w3:World) (hown:w3.ownsRow w.heap.size 92 15 v' (M.length+1) (flC M ++ ceL ⟨c.n,c.s,c.g,q⟩)) (hg:(W2.alloc (.cells (Qas ⟨c.n,c.s,c.g,q⟩) 92)).grownBy w3 u.ownBlock):CpI w w3 L (k+1) v' (M ++ [⟨c.n,c.s,c.g,q⟩]):=by
 have ab:Below wr.heap.size wr W2:=hb1.trans hb2;have aa:Below wr.heap.size wr (W2.alloc (.cells (Qas ⟨c.n,c.s,c.g,q⟩) 92)):=ab.alloc ab.size _;have ac:Below w.heap.size w (W2.alloc (.cells (Qas ⟨c.n,c.s,c.g,q⟩) 92)):=h.b.trans (aa.mono h.b.size);have a2:Below W2.heap.size W2 (W2.alloc (.cells (Qas ⟨c.n,c.s,c.g,q⟩) 92)):=(ZZb _ _).alloc (ZZa _) _;have hO:=(h.o.add aa h.b.size (c:=⟨c.n,c.s,c.g,q⟩) ((ho2.past a2).le (Nat.le_succ _)));have hR:OwnC (W2.alloc (.cells (Qas ⟨c.n,c.s,c.g,q⟩) 92)) w.heap.size u M:=h.r.past aa;have hp:(⟨c.n,c.s,c.g,q⟩ :: M:List Ce).Perm (M ++ [⟨c.n,c.s,c.g,q⟩]):=(List.perm_append_singleton _ _).symm;refine ⟨?_,(hO.row hR hg).perm hp,?_,ac.grown hg ac.size (fun j hj=>(World.ownsRow.lt h.r j hj).1)⟩
 ·show w3.ownsRow _ _ _ _ _ _
  rw [List.length_append,QeI,QkC];exact hown
 ·rw [List.map_append,h.ky,List.take_add_one,hc,List.map_append];rfl
theorem Qb9 (hN:L.length=N) (lN:N<=1048576) (sm:∀ c∈L,AgSm c.g) (pl:∀ c∈L,PlG c.g c.p) (hA:Qcl w ao L) :
  Calls prog 112 #[.slice ao N ca] w fun e w'=>∃ v M,e=.returned v/\OwnC w' w.heap.size v M/\CesO w' w.heap.size M/\M.map Ce.key=L.map Ce.key/\Below w.heap.size w w'/\v≠.slice none 0 0:=by
 obtain ⟨i0,hi,au,ay,aC⟩:=Qjr;have HA:=Qaa hA;have HN:=Qaa hN;have SM:=Qaa sm;have PL:=Qaa pl;have M0:∀ cs:Array Value,cs.size=0->CpI w (w.alloc (.cells cs 92)) L 0 (.slice (some ⟨w.heap.size,0,none⟩) 0 0) []:=fun cs hcs=>⟨OwnC.made w cs hcs,CesO.nil _ _,by simp,(Below.refl _ _).alloc (Nat.le_refl _) _⟩;have M0:=Qaa M0;clear hA hN sm pl;go_enter func112,ntmps112;go_wp2
 go_loopw [3,4] (fun v i wr=>∃ (k:Nat) (M:List Ce),k<=N/\i=.int .i64 k/\Hid (CpI w wr L k v M)/\Hid (v≠.slice none 0 0)) (fun v i wr=>N - (Go.RowKit.intOf i).toNat)
 case atStart=>exact ⟨0,[],ZZj _,rfl,M0.out _ rfl,Qaa (fun e=>by cases e)⟩
 case round=>
  clear M0;obtain ⟨k,M,hk,rfl,HI,aF⟩:=hrel;by_cases aA:k<N
  ·obtain ⟨g,aW,e,ad⟩:=HA.out.1 (by have:=HN.out;omega)
   obtain ⟨c,hc⟩:∃ c,L[k]?=some c:=⟨L[k]'(by have:=HN.out;omega),ZZe _⟩;subst e;obtain ⟨x0,x1,x2,x3,x4,x5,x6,x7,x8,x9,aI,aL,aD,aO,av⟩:=QaP (ad k c hc) HI.out.b;have hm:=ZZn hc;have HC:=Qaa hc;have SC:=Qaa (SM.out c hm);have PC:=Qaa (PL.out c hm);have AC:=Qaa (Qbj (HA.out.2 c hm) HI.out.b);have af:Hid (Below wr.heap.size wr (wr.alloc (.cells (Qas c) 92))):=(ZZb _ _).alloc (ZZa _) _;have HX:=Qaa (ZZk wr (.cells (Qas c) 92));have ag:Hid ((wr.alloc (.cells (Qas c) 92)).heap.size=wr.heap.size+1):=by show _=_;simp
   have aB:(k:Int)<(N:Int):=by omega
   clear ad hc hm;go_wp2_with fail;clear x0 x1 x2 x3 x4 x5 x6 x7 x8 x9 aI aL aD aO av;generalize wr.alloc (.cells (Qas c) 92)=W0 at af HX ag ⊢;refine (Qjh SC PC (Qbj AC af)).mono ?_;rintro e w1 ⟨v,o,rfl,rfl,⟨q,rfl,ho⟩,ak⟩;have aa:w1.heap[wr.heap.size]?=some (.cells (Qas c) 92 (0,0)):=(ak.block _ (by have:=ag.out;omega)).trans HX;have ai:=Qaa (Qac af ak);have HO:=Qaa (ho.le (show wr.heap.size<=W0.heap.size from af.out.size));have ap:Hid (AgO w1 (wr.heap.size+1) c.g q):=by rw [<- ag.out];exact ho
   have f2:=fzR 2 aa;have f3:=fzR 3 aa;have f4:=fzR 4 aa;have f5:=fzR 5 aa;have f6:=fzR 6 aa;have f7:=fzR 7 aa;have f8:=fzR 8 aa;have f9:=fzR 9 aa;have aN:=fzR 10 aa;have ar:=fzR 11 aa;have ax:=fzR 12 aa;have aJ:=fzR 13 aa;have aG:=fzR 14 aa;have c2:=Qau aa 2 rfl;have c3:=Qau aa 3 rfl;have c4:=Qau aa 4 rfl;have c5:=Qau aa 5 rfl;have c6:=Qau aa 6 rfl;have c7:=Qau aa 7 rfl;have c8:=Qau aa 8 rfl;have c9:=Qau aa 9 rfl;have az:=Qau aa 10 rfl;have aH:=Qau aa 11 rfl;have aP:=Qau aa 12 rfl;have aQ:=Qau aa 13 rfl;have aK:=Qau aa 14 rfl;have aj:=Qaa (QrE (v0:=.int .i64 c.g.k) (v1:=.int .u64 c.g.s) (v2:=.int .i64 c.g.h) (v3:=.int .u64 c.g.l) (v4:=.int .i64 c.g.a) (v5:=.int .i64 c.g.t) (v6:=.int .u64 c.g.z) (v7:=.slice q.pa c.g.P.length q.pc) (v8:=.slice q.na c.g.N.length q.nc) (v9:=.int .i64 c.g.x) (v10:=.int .u64 c.g.y) (v11:=.slice q.ea c.g.E.length q.ec) (v12:=.slice q.ra c.g.R.length q.rc) aa);have ah:Hid (Below wr.heap.size w1 (((((((((((((w1.setCell ⟨wr.heap.size,2,none⟩ (.int .i64 c.g.k)).setCell ⟨wr.heap.size,3,none⟩ (.int .u64 c.g.s)).setCell ⟨wr.heap.size,4,none⟩ (.int .i64 c.g.h)).setCell ⟨wr.heap.size,5,none⟩ (.int .u64 c.g.l)).setCell ⟨wr.heap.size,6,none⟩ (.int .i64 c.g.a)).setCell ⟨wr.heap.size,7,none⟩ (.int .i64 c.g.t)).setCell ⟨wr.heap.size,8,none⟩ (.int .u64 c.g.z)).setCell ⟨wr.heap.size,9,none⟩ (.slice q.pa c.g.P.length q.pc)).setCell ⟨wr.heap.size,10,none⟩ (.slice q.na c.g.N.length q.nc)).setCell ⟨wr.heap.size,11,none⟩ (.int .i64 c.g.x)).setCell ⟨wr.heap.size,12,none⟩ (.int .u64 c.g.y)).setCell ⟨wr.heap.size,13,none⟩ (.slice q.ea c.g.E.length q.ec)).setCell ⟨wr.heap.size,14,none⟩ (.slice q.ra c.g.R.length q.rc))):=Qq8 (ZZa _);have aq:Hid (AgO (((((((((((((w1.setCell ⟨wr.heap.size,2,none⟩ (.int .i64 c.g.k)).setCell ⟨wr.heap.size,3,none⟩ (.int .u64 c.g.s)).setCell ⟨wr.heap.size,4,none⟩ (.int .i64 c.g.h)).setCell ⟨wr.heap.size,5,none⟩ (.int .u64 c.g.l)).setCell ⟨wr.heap.size,6,none⟩ (.int .i64 c.g.a)).setCell ⟨wr.heap.size,7,none⟩ (.int .i64 c.g.t)).setCell ⟨wr.heap.size,8,none⟩ (.int .u64 c.g.z)).setCell ⟨wr.heap.size,9,none⟩ (.slice q.pa c.g.P.length q.pc)).setCell ⟨wr.heap.size,10,none⟩ (.slice q.na c.g.N.length q.nc)).setCell ⟨wr.heap.size,11,none⟩ (.int .i64 c.g.x)).setCell ⟨wr.heap.size,12,none⟩ (.int .u64 c.g.y)).setCell ⟨wr.heap.size,13,none⟩ (.slice q.ea c.g.E.length q.ec)).setCell ⟨wr.heap.size,14,none⟩ (.slice q.ra c.g.R.length q.rc)) (wr.heap.size+1) c.g q):=ap.out.kept15 (Nat.lt_succ_self _);clear aa ak ho HX ag ap;go_upto_region 7 with fail;clear f2 c2 f3 c3 f4 c4 f5 c5 f6 c6 f7 c7 f8 c8 f9 c9 aN az ar aH ax aP aJ aQ aG aK;generalize (((((((((((((w1.setCell ⟨wr.heap.size,2,none⟩ (.int .i64 c.g.k)).setCell ⟨wr.heap.size,3,none⟩ (.int .u64 c.g.s)).setCell ⟨wr.heap.size,4,none⟩ (.int .i64 c.g.h)).setCell ⟨wr.heap.size,5,none⟩ (.int .u64 c.g.l)).setCell ⟨wr.heap.size,6,none⟩ (.int .i64 c.g.a)).setCell ⟨wr.heap.size,7,none⟩ (.int .i64 c.g.t)).setCell ⟨wr.heap.size,8,none⟩ (.int .u64 c.g.z)).setCell ⟨wr.heap.size,9,none⟩ (.slice q.pa c.g.P.length q.pc)).setCell ⟨wr.heap.size,10,none⟩ (.slice q.na c.g.N.length q.nc)).setCell ⟨wr.heap.size,11,none⟩ (.int .i64 c.g.x)).setCell ⟨wr.heap.size,12,none⟩ (.int .u64 c.g.y)).setCell ⟨wr.heap.size,13,none⟩ (.slice q.ea c.g.E.length q.ec)).setCell ⟨wr.heap.size,14,none⟩ (.slice q.ra c.g.R.length q.rc))=W2 at aj ah aq ⊢;obtain ⟨y0,y1,y2,y3,y4,y5,y6,y7,y8,y9,aS,aV,aX,aU,aT⟩:=QuJ aj;have HF:=Qaa (HI.out.step HC ai HO ah aq);have al:M.length=k:=HI.out.len (by have:=HN.out;omega);have am:=Qaa al;have an:OwnC W2 w.heap.size u3 M:=HI.out.r.past (ai.out.trans ah);have aw:=Qaa an;have aR:w.heap.size<=W2.heap.size:=by have:=HI.out.b.size;have:=(ai.out.trans ah).size;omega
   clear al an aj;go_wp2_with (at_builtin;refine wpList_append_own _ rfl _ _ 58 rfl w.heap.size 92 i0 (.agg QbI) 15 192 underlying58 hi au ay aC rfl (by decide) _ _ _ rfl (World.ownsRow.alloc aw _) ⟨W2.heap.size,0,none⟩ 1 1 (ceL ⟨c.n,c.s,c.g,q⟩) rfl rfl ?c1 ?c2 ?c3 ?c4 ?c5 ?_)
   case c1=>exact Qb7 (c:=⟨c.n,c.s,c.g,q⟩)
   case c2=>exact QdX _
   case c3=>have:=am.out;unfold maxLen;omega
   case c4=>have:=am.out;omega
   case c5=>simp;omega
   intro v' w3 ab ac ae;have aM:Hid (v'≠.slice none 0 0):=ae;clear ae;have aE:=Qaa (HF.out v' w3 ab ac);clear ab ac HF;go_wp2;go_roundw
   case rel=>exact ⟨k+1,_,by omega,by go_num,aE,aM⟩
   case measure=>simp [zI];omega
  ·have eL:L.take k=L:=List.take_of_length_le (by have:=HN.out;omega)
   obtain rfl:k=N:=by omega
   have HF:Hid (M.map Ce.key=L.map Ce.key):=by have:=HI.out.ky;rw [eL] at this;exact this
   clear eL hk aA;go_wp2;go_ret;exact ⟨_,M,rfl,HI.out.r,HI.out.o,HF,HI.out.b,aF⟩
end
section
theorem ApV.symm (h:ApV u v):ApV v u:=fun k h1 h2=>h k h2 h1
theorem OwnC.mk {F:List Ce} (h:w.ownsRow B 92 15 v (F.length+1) (flC F ++ ceL c)):OwnC w B v (F ++ [c]):=by
 show w.ownsRow _ _ _ _ _ _
 rw [List.length_append,QeI,QkC];exact h
end
section
def Ty (w:World) (v:Value) (T:TypeId):Prop:=∀ k,v.ownBlock=some k->∃ cur fz,w.heap[k]?=some (.cells cur T fz)
theorem Ty.ne (h:Ty w u T) (h':Ty w v T') (hT:T≠T'):∀ k,u.ownBlock=some k->v.ownBlock≠some k:=fun k e1 e2=>by
 obtain ⟨c,f,q⟩:=h k e1;obtain ⟨c',f',q'⟩:=h' k e2;rw [q] at q';injection q' with q';injection q' with _ q';exact hT q'
theorem OwnB.ty {L:List Bn} (h:OwnB w B v n L):Ty w v 176:=fun k e=>by
 rcases h.2 with ⟨e1,_⟩ | ⟨b,off,c,cur,e1,h1,h2,h3⟩
 ·rw [e1] at e;cases e
 ·rw [e1] at e
  obtain rfl:b=k:=Option.some.inj e;exact ⟨_,_,h2⟩
theorem QbO {sz:Nat} (h:w.ownsRow B T sz v n xs):Ty w v T:=fun k e=>by
 rcases h.2 with ⟨e1,_⟩ | ⟨b,c,cur,e1,h1,h2,h3⟩
 ·rw [e1] at e;cases e
 ·rw [e1] at e
  obtain rfl:b=k:=Option.some.inj e;exact ⟨_,_,h2⟩
end
section
structure ShI (w:World) (ao:Option Addr) (N:Nat) (L:List Ce):Prop where
 hN:L.length=N
 lN:N<=1048576
 ok:∀ c∈L,AgOk c.g
 sm:∀ c∈L,AgSm c.g
 ss:∀ c∈L,c.s.size<=maxLen
 pl:∀ c∈L,PlG c.g c.p
 mem:Qcl w ao L
theorem ShI.past (h:ShI w ao N L) (hb:Below w.heap.size w w'):ShI w' ao N L:=⟨h.hN,h.lN,h.ok,h.sm,h.ss,h.pl,Qa6 h.mem hb⟩
theorem QeM:∀ {L M:List Ce},M.map Ce.key=L.map Ce.key->Qck L->Qck M
 | [],[],_,_=>.nil
 | c :: L,d :: M,h,k=>by
  simp only [List.map_cons,List.cons.injEq] at h;obtain ⟨k1,k2⟩:=List.pairwise_cons.1 k;refine List.pairwise_cons.2 ⟨fun x hx=>?_,QeM h.2 k2⟩;have:x.key∈L.map Ce.key:=by rw [<- h.2];exact List.mem_map.2 ⟨x,hx,rfl⟩
  obtain ⟨y,hy,e⟩:=List.mem_map.1 this;rw [QhW h.1 e.symm];exact k1 y hy
 | [],_ :: _,h,_=>by simp at h
 | _ :: _,[],h,_=>by simp at h
theorem Qol (h:M.map Ce.key=L.map Ce.key):M.length=L.length:=by
 have:=congrArg List.length h
 simpa using this
end
section
theorem OwnC.keptS (h:OwnC w B v L) (hg:GrownS w w' S) (h1:∀ k,v.ownBlock=some k->¬ S k):OwnC w' B v L:=by
 refine ⟨h.1,?_⟩;rcases h.2 with q | ⟨g,ab,aa,e,q1,q2,q3⟩
 ·exact .inl q
 ·exact .inr ⟨g,ab,aa,e,q1,hg.row q2 (h1 g (by rw [e];rfl)),q3⟩
end
section
variable {w w':World} {lo hi:Nat} {ar ap:Option Addr} {n1 n2 c1 c2:Nat} {R O:List Ce}
theorem AgO.plgX {g:Ag} (h:AgO w B g p):PlG g p:=by
 have fb:∀ {ao:Option Addr} {n c:Nat} {L:List Bn},OwnB w B (.slice ao n c) n L->ao=none->c=0:=fun {ao n c L} o e=>by
  rcases o.2 with ⟨q,_⟩ | ⟨b,ab,c',aa,q,_⟩
  ·cases q;rfl
  ·cases q;cases e
 have fn:∀ {kd:IntKind} {T:TypeId} {ao:Option Addr} {n c:Nat} {L:List Int},OwnN kd T w B (.slice ao n c) n L->(ao=none->c=0)/\QtM ao/\n<=c/\c<=maxLen:=fun {kd T ao n c L} o=>by
  rcases o.2.2 with ⟨q,q0⟩ | ⟨b,c',aa,q,_,_,q1,q2,_⟩
  ·cases q;exact ⟨fun _=>rfl,.inl rfl,ZZa _,ZZj _⟩
  ·cases q;exact ⟨(fun e=>by cases e),.inr ⟨_,_,rfl⟩,q1,q2⟩
 exact ⟨fb h.P,fb h.N,(fn h.E).1,(fn h.R).1,(fn h.E).2.1,(fn h.R).2.1,(fn h.E).2.2.1,(fn h.E).2.2.2⟩
structure CeQ (L:List Ce):Prop where
 ok:∀ c∈L,AgOk c.g
 sm:∀ c∈L,AgSm c.g
 ss:∀ c∈L,c.s.size<=maxLen
end
section
def kC (n:Int) (s:ByteArray):Ce:=⟨n,s,Qe8,⟨none,0,none,0,none,0,none,0⟩⟩
def loF (n:Int) (s:ByteArray) (c:Ce):Bool:=cAh c (kC n s)
def hiF (n:Int) (s:ByteArray) (c:Ce):Bool:=cAh (kC n s) c
def Qfk (L:List Ce) (n:Int) (s:ByteArray):Prop:=∃ c∈L,c.n=n/\c.s=s
theorem Qfx (h:QcP a b):cAh a c=cAh b c:=by unfold cAh;rw [h.1,h.2]
theorem QcL (h:QcP a b):cAh c a=cAh c b:=by unfold cAh;rw [h.1,h.2]
theorem Qgo (hL:Qck L) (hc:c∈L):L=L.filter (loF c.n c.s) ++ c :: L.filter (hiF c.n c.s):=by
 obtain ⟨A,B,rfl⟩:=List.append_of_mem hc;obtain ⟨a1,a2,a3⟩:=List.pairwise_append.1 hL;obtain ⟨b1,b2⟩:=List.pairwise_cons.1 a2;have k:QcP (kC c.n c.s) c:=⟨rfl,rfl⟩;have e1:A.filter (loF c.n c.s)=A:=List.filter_eq_self.2 (fun x hx=>by unfold loF;rw [QcL k];exact a3 x hx c (by simp));have e2:A.filter (hiF c.n c.s)=[]:=List.filter_eq_nil_iff.2 (fun x hx=>by unfold hiF;rw [Qfx k,Qib (a3 x hx c (by simp))];simp);have e3:B.filter (loF c.n c.s)=[]:=List.filter_eq_nil_iff.2 (fun x hx=>by unfold loF;rw [QcL k,Qib (b1 x hx)];simp);have e4:B.filter (hiF c.n c.s)=B:=List.filter_eq_self.2 (fun x hx=>by unfold hiF;rw [Qfx k];exact b1 x hx);have f1:loF c.n c.s c=false:=by unfold loF;rw [QcL k,Qif]
 have f2:hiF c.n c.s c=false:=by unfold hiF;rw [Qfx k,Qif]
 rw [List.filter_append,List.filter_append,List.filter_cons,List.filter_cons,f1,f2,e1,e2,e3,e4];simp
theorem Qnf (hL:Qck L):Qck (L.filter (loF c.n c.s) ++ c :: L.filter (hiF c.n c.s)):=by
 have k:QcP (kC c.n c.s) c:=⟨rfl,rfl⟩
 have lo:∀ x∈L.filter (loF c.n c.s),cAh x c=true:=fun x hx=>by
  have:=(List.mem_filter.1 hx).2;unfold loF at this;rw [QcL k] at this;exact this
 have hi:∀ x∈L.filter (hiF c.n c.s),cAh c x=true:=fun x hx=>by
  have:=(List.mem_filter.1 hx).2;unfold hiF at this;rw [Qfx k] at this;exact this
 refine List.pairwise_append.2 ⟨hL.filter _,List.pairwise_cons.2 ⟨hi,hL.filter _⟩,fun a ha b hb=>?_⟩;rcases List.mem_cons.1 hb with rfl | hb
 ·exact lo a ha
 ·exact Qez (lo a ha) (hi b hb)
end
variable {s:ByteArray}
section
structure PlcA (L:List Ce) (n:Int) (s:ByteArray) (k:Nat) (is:Bool):Prop where
 le:k<=L.length
 lo:∀ i c,i<k->L[i]?=some c->loF n s c=true
 hi:∀ c,L[k]?=some c->loF n s c=false
 yes:is=true->∃ c,L[k]?=some c/\c.n=n/\c.s=s
 no:is=false->∀ c,L[k]?=some c->¬ (c.n=n/\c.s=s)
theorem Qrs {n:Int} (h:∀ i c,i<k->L[i]?=some c->loF n s c=true) (hc:L[k]?=some c) (hl:loF n s c=true):∀ i c,i<k+1->L[i]?=some c->loF n s c=true:=by
 intro i d hi hd;by_cases e:i=k
 ·subst e;rw [hc] at hd;injection hd with hd;subst hd;exact hl
 ·exact h i d (by omega) hd
theorem QnE {n:Int} (h:∀ i c,i<k->L[i]?=some c->loF n s c=true) (hc:L[k]?=some c) (hl:loF n s c=false) (is:Bool) (hs:is=true↔(c.n=n/\c.s=s)):PlcA L n s k is where
 le:=by have:=(ZZd.1 hc).1;omega
 lo:=h
 hi:=fun d hd=>by rw [hc] at hd;injection hd with hd;subst hd;exact hl
 yes:=fun e=>⟨c,hc,hs.1 e⟩
 no:=fun e d hd q=>by
  rw [hc] at hd;injection hd with hd;subst hd;rw [hs.2 q] at e;cases e
theorem QuI {n:Int} (h:∀ i c,i<k->L[i]?=some c->loF n s c=true) (hk:k=L.length):PlcA L n s k false where
 le:=by omega
 lo:=h
 hi:=fun d hd=>by have:=(ZZd.1 hd).1;omega
 yes:=fun e=>by cases e
 no:=fun e d hd=>by have:=(ZZd.1 hd).1;omega
theorem QeP (n:Int) (s:ByteArray) (hN:L.length=N) (lN:N<=1048576) (hA:Qcl w ao L) :
  Calls prog 54 #[.slice ao N ca,.int .i64 n,.string s] w fun e w'=>∃ (k:Nat) (is:Bool),e=.returned (.tuple #[.int .i64 k,.bool is])/\PlcA L n s k is/\Below w.heap.size w w':=by
 have HA:=Qaa hA;have HN:=Qaa hN;clear hA hN;go_enter func54,ntmps54;go_wp2
 go_loopw [8] (fun i wr=>∃ k:Nat,k<=N/\i=.int .i64 k/\Hid (∀ i c,i<k->L[i]?=some c->loF n s c=true)/\Hid (Below w.heap.size w wr)) (fun i wr=>N - (Go.RowKit.intOf i).toNat)
 case atStart=>exact ⟨0,ZZj _,rfl,Qaa (fun i c h=>absurd h (Nat.not_lt_zero _)),ZZb _ _⟩
 case round=>
  obtain ⟨k,hk,rfl,HP,ae⟩:=hrel;by_cases aq:k<N
  ·have ap:(k:Int)<(N:Int):=by omega
   obtain ⟨b,ad,e,ac⟩:=HA.out.1 (by have:=HN.out;omega);subst e;obtain ⟨c,hc⟩:∃ c,L[k]?=some c:=⟨L[k]'(by have:=HN.out;omega),ZZe _⟩;have HC:=Qaa hc;obtain ⟨x0,x1,x2,x3,x4,x5,x6,x7,x8,x9,am,aj,al,ak,ai⟩:=QaP (ac k c hc) ae;have an:=Qaa (QaP (ac k c hc) ae);clear ac hc
   cases hl:loF n s c with
   | true=>
    have ah:(decide (c.n<n) || ((c.n == n) && Qaz c.s s))=true:=hl;have HL:=Qaa hl;have ag:=Qaa ah;clear hl ah;go_wp2_with (go_at_call 111;refine (QcK c _ _ _).mono ?_;rintro e w1 ⟨rfl,ab⟩;rw [ag.out]);go_roundw
    case rel=>exact ⟨k+1,by omega,by go_num,Qaa (Qrs HP HC HL),Qaa (Qac ae ab)⟩
    case measure=>simp [zI];omega
   | false=>
    have ah:(decide (c.n<n) || ((c.n == n) && Qaz c.s s))=false:=hl;have HL:=Qaa hl;have ag:=Qaa ah;clear hl ah;by_cases hn:c.n=n
    ·have bn:(c.n == n)=true:=by simp [hn]
     by_cases hs:c.s=s
     ·have bs:(c.s.toList == s.toList)=true:=by rw [hs];simp
      have HR:=Qaa (QnE HP HC HL true ⟨fun _=>⟨hn,hs⟩,fun _=>rfl⟩);clear hn hs;go_upto_region 4 with (go_at_call 111;refine (QcK c _ _ _).mono ?_;rintro e w1 ⟨rfl,ab⟩;rw [ag.out]);obtain ⟨y0,y1,_⟩:=QaP an ab;have af:=Qaa (Qac ae ab);clear x0 x1 x2 x3 x4 x5 x6 x7 x8 x9 am aj al ak ai ab
      go_region_held3 (fun W=>W.cell? ⟨b,ad+k*15,none⟩=some (.int .i64 c.n)/\W.cell? ⟨b,ad+k*15+1,none⟩=some (.string c.s)/\Hid (Below w.heap.size w W))
       (exact ⟨by simpa using y0,by simpa using y1,Qaa af.out.drew⟩)
       (fail)
      go_wp2;go_ret2;exact ⟨k,true,rfl,HR,(by first | exact af.out.drew | exact ae.out.drew)⟩
     ·have bs:(c.s.toList == s.toList)=false:=beq_eq_false_iff_ne.2 (fun e=>hs (by rw [ByteArray.toList_eq,ByteArray.toList_eq] at e;exact ByteArray.ext (Array.toList_inj.1 e)))
      have HR:=Qaa (QnE HP HC HL false ⟨(fun e=>by cases e),fun e=>absurd e.2 hs⟩);clear hn hs;go_upto_region 4 with (go_at_call 111;refine (QcK c _ _ _).mono ?_;rintro e w1 ⟨rfl,ab⟩;rw [ag.out]);obtain ⟨y0,y1,_⟩:=QaP an ab;have af:=Qaa (Qac ae ab);clear x0 x1 x2 x3 x4 x5 x6 x7 x8 x9 am aj al ak ai ab
      go_region_held3 (fun W=>W.cell? ⟨b,ad+k*15,none⟩=some (.int .i64 c.n)/\W.cell? ⟨b,ad+k*15+1,none⟩=some (.string c.s)/\Hid (Below w.heap.size w W))
       (exact ⟨by simpa using y0,by simpa using y1,Qaa af.out.drew⟩)
       (fail)
      go_wp2;go_ret2;exact ⟨k,false,rfl,HR,(by first | exact af.out.drew | exact ae.out.drew)⟩
    ·have bn:(c.n == n)=false:=by simp [hn]
     have HR:=Qaa (QnE HP HC HL false ⟨(fun e=>by cases e),fun e=>absurd e.1 hn⟩);clear hn;go_upto_region 4 with (go_at_call 111;refine (QcK c _ _ _).mono ?_;rintro e w1 ⟨rfl,ab⟩;rw [ag.out]);obtain ⟨y0,y1,_⟩:=QaP an ab;have af:=Qaa (Qac ae ab);clear x0 x1 x2 x3 x4 x5 x6 x7 x8 x9 am aj al ak ai ab;have aa:(fun W=>W.cell? ⟨b,ad+k*15,none⟩=some (.int .i64 c.n)/\True) w1.drew:=⟨by simpa using y0,trivial⟩;refine Qao (fun W=>W.cell? ⟨b,ad+k*15,none⟩=some (.int .i64 c.n)/\True) 99 (by kernel_rfl) ?_;refine tkS 0 (.int .i64 k) aa ?_;refine tkS 1 (.int .i64 k) aa ?_;refine tkS 2 (.slice (some ⟨b,ad,none⟩) N ca) aa ?_;simp only [sX];refine tkS 3 (.int .i64 N) aa ?_;refine tkS 4 (.bool true) aa ?_;refine tkS 5 (.bool true) aa ?_;simp only [sX];refine tkS 6 (.slice (some ⟨b,ad,none⟩) N ca) aa ?_;refine tkS 7 (.int .i64 k) aa ?_;refine tkS 8 (.pointer (some ⟨b,ad+k*15,none⟩)) aa ?_;simp only [sX];refine tkS 9 (.pointer (some ⟨b,ad+k*15,none⟩)) aa ?_;refine tkL 10 (.int .i64 c.n) aa (fun W hW=>?_) ?_
     ·obtain ⟨z0,z1⟩:=hW
      go_simp
     refine tkS 11 (.int .i64 n) aa ?_;simp only [sX];refine tkS 12 (.bool false) aa ?_;refine tkS 13 (.bool false) aa ?_;refine tkS 14 (.bool false) aa ?_;simp only [sX];refine tkS 23 (.int .i64 k) aa ?_;refine tkU 15 aa ?_;refine tkU 16 aa ?_;simp only [sX];refine tkU 17 aa ?_;refine tkU 18 aa ?_;refine tkU 19 aa ?_;simp only [sX];refine tkU 20 aa ?_;refine tkU 21 aa ?_;refine tkS 22 (.bool false) aa ?_;simp only [sX];refine tkS 24 (.bool false) aa ?_;simp only [sX];refine dnE ?_ _;go_wp2;go_ret2;exact ⟨k,.inl ⟨rfl,HR,af.out.drew⟩⟩
  ·have HR:=Qaa (QuI HP (by have:=HN.out;omega))
   have ar:decide ((k:Int)<(N:Int))=false:=ZZg (by omega);go_upto_region 4 with fail;have aa:(fun _=>True) wr.drew:=trivial;refine Qao (fun _=>True) 99 (by kernel_rfl) ?_;refine tkS 0 (.int .i64 k) aa ?_;refine tkS 1 (.int .i64 k) aa ?_;refine tkS 2 (.slice ao N ca) aa ?_;simp only [sX];refine tkS 3 (.int .i64 N) aa ?_;refine tkS 4 (.bool false) aa ?_;refine tkS 5 (.bool false) aa ?_;simp only [sX];refine tkU 6 aa ?_;refine tkU 7 aa ?_;refine tkU 8 aa ?_;simp only [sX];refine tkU 9 aa ?_;refine tkU 10 aa ?_;refine tkU 11 aa ?_;simp only [sX];refine tkU 12 aa ?_;refine tkS 13 (.bool false) aa ?_;refine tkS 14 (.bool false) aa ?_;simp only [sX];refine tkS 23 (.int .i64 k) aa ?_;refine tkU 15 aa ?_;refine tkU 16 aa ?_;simp only [sX];refine tkU 17 aa ?_;refine tkU 18 aa ?_;refine tkU 19 aa ?_;simp only [sX];refine tkU 20 aa ?_;refine tkU 21 aa ?_;refine tkS 22 (.bool false) aa ?_;simp only [sX];refine tkS 24 (.bool false) aa ?_;simp only [sX];refine dnE ?_ _;go_wp2;go_ret2;exact ⟨k,.inl ⟨rfl,HR,ae.out.drew⟩⟩
end
variable {is:Bool}
section
theorem Qia {n:Int} (hL:Qck L) (h:PlcA L n s k is) {x:Ce} (hx:x∈L.drop k):loF n s x=false/\(is=false->¬ (x.n=n/\x.s=s)):=by
 obtain ⟨d,B,e⟩:∃ d B,L.drop k=d :: B:=by
  cases q:L.drop k with
  | nil=>rw [q] at hx;simp at hx
  | cons d B=>exact ⟨d,B,rfl⟩
 have hd:L[k]?=some d:=by
  have:=congrArg List.head? e
  simpa [List.head?_drop] using this
 have aa:Qck (d :: B):=e ▸ hL.sublist (List.drop_sublist k L);rw [e] at hx;rcases List.mem_cons.1 hx with rfl | hx
 ·exact ⟨h.hi _ hd,fun q=>h.no q _ hd⟩
 ·have lt:=(List.pairwise_cons.1 aa).1 x hx
  constructor
  ·cases q:loF n s x
   ·rfl
   ·have:=Qez lt q
    exact absurd (h.hi d hd) (by rw [show loF n s d=true from this];simp)
  ·intro _ q
   have:loF n s d=true:=by
    have k1:QcP (kC n s) x:=⟨q.1.symm,q.2.symm⟩;unfold loF;rw [QcL k1];exact lt
   exact absurd (h.hi d hd) (by rw [this];simp)
theorem Qev {n:Int} (hL:Qck L) (h:PlcA L n s k is):L.take k=L.filter (loF n s):=by
 have e1:(L.take k).filter (loF n s)=L.take k:=List.filter_eq_self.2 (fun x hx=>by
  obtain ⟨i,hi,rfl⟩:=List.mem_iff_getElem.1 hx;rw [List.length_take] at hi;refine h.lo i _ (by omega) ?_;rw [List.getElem_take,List.getElem?_eq_getElem])
 have e2:(L.drop k).filter (loF n s)=[]:=List.filter_eq_nil_iff.2 (fun x hx=>by rw [(Qia hL h hx).1];simp);have e3:=congrArg (List.filter (loF n s)) (List.take_append_drop k L);rw [List.filter_append,e1,e2,List.append_nil] at e3;exact e3
theorem QlJ {n:Int} (hL:Qck L) (h:PlcA L n s k false):L.drop k=L.filter (hiF n s)/\¬ Qfk L n s:=by
 have aa:∀ x∈L.drop k,hiF n s x=true:=fun x hx=>by
  obtain ⟨q1,q2⟩:=Qia hL h hx
  cases q:hiF n s x
  ·exact absurd (QoM q1 q) (q2 rfl)
  ·rfl
 have tk:=Qev hL h;have lo:∀ x∈L.take k,loF n s x=true:=fun x hx=>by rw [tk] at hx;exact (List.mem_filter.1 hx).2
 have e1:(L.take k).filter (hiF n s)=[]:=List.filter_eq_nil_iff.2 (fun x hx=>by
  rw [show hiF n s x=false from Qib (lo x hx)];simp)
 have e2:(L.drop k).filter (hiF n s)=L.drop k:=List.filter_eq_self.2 aa;constructor
 ·have e3:=congrArg (List.filter (hiF n s)) (List.take_append_drop k L)
  rw [List.filter_append,e1,e2,List.nil_append] at e3;exact e3
 ·rintro ⟨c,hc,q⟩
  rw [<- List.take_append_drop k L] at hc;rcases List.mem_append.1 hc with hc | hc
  ·have l1:=lo c hc
   have k1:QcP (kC n s) c:=⟨q.1.symm,q.2.symm⟩;unfold loF at l1;rw [QcL k1,Qif] at l1;cases l1
  ·exact (Qia hL h hc).2 rfl q
theorem Qkm {n:Int} (hL:Qck L) (h:PlcA L n s k true):∃ c,L[k]?=some c/\c∈L/\c.n=n/\c.s=s/\L.drop (k+1)=L.filter (hiF n s):=by
 obtain ⟨c,hc,rfl,rfl⟩:=h.yes rfl;have hm:=ZZn hc;have e:=Qgo hL hm;rw [<- Qev hL h] at e;have e2:=List.take_append_drop k L;have e3:L.drop k=c :: L.filter (hiF c.n c.s):=List.append_cancel_left (e2.trans e);refine ⟨c,hc,hm,rfl,rfl,?_⟩;have e4:=congrArg (List.drop 1) e3;rw [List.drop_drop] at e4
 simpa [Nat.add_comm] using e4
end
section
theorem QbD {b:Obj} (h:w.heap[r]?=some b) (hb:Below w.heap.size w w'):w'.heap[r]?=some b:=(hb.block _ (ZZc.1 h).1).trans h
end
section
theorem CesO.app (h:CesO w B L) (hb:Below w.heap.size w w') (hB:B<=w.heap.size) (hM:CesO w' w.heap.size M):CesO w' B (L ++ M):=by
 refine ⟨fun d hd=>?_,List.pairwise_append.2 ⟨h.ap,hM.ap,fun c hc d hd k h1 h2=>?_⟩⟩
 ·rcases List.mem_append.1 hd with hd | hd
  ·exact (h.o d hd).past hb
  ·exact (hM.o d hd).le hB
 ·have k1:=((h.o c hc).lt h1).2
  have k2:=((hM.o d hd).lt h2).1;omega
theorem OwnC.src (h:OwnC w B v M) (hn:v≠.slice none 0 0):∃ g cp,v=.slice (some ⟨g,0,none⟩) M.length cp/\∀ j u,(flC M)[j]?=some u->w.cell? ((⟨g,0,none⟩:Addr).add j)=some u:=by
 rcases h.2 with ⟨e,_⟩ | ⟨g,aa,ab,e,q1,q2⟩
 ·exact absurd e hn
 ·subst e
  refine ⟨g,aa,rfl,fun j u hu=>?_⟩;have hj:=(ZZd.1 hu).1;rw [Qcv] at hj;rw [Addr.add_lit,Nat.zero_add,World.ownsRow.cellAt h j hj];exact hu
theorem Qfp (M:List Ce):∀ u∈flC M,u.oneCell'=true:=fun u hu=>by
 obtain ⟨m,_,h⟩:=List.mem_flatMap.1 hu;exact QdX m u h
end
section
theorem QnW (h:c.key=d.key):c.n=d.n/\c.s=d.s/\c.g=d.g:=by
 unfold Ce.key at h;simp only [Prod.mk.injEq] at h;exact h
end
section
theorem Qk7 (hc:L[k]?=some c):L.drop k=c :: L.drop (k+1):=by
 obtain ⟨hi,e⟩:=ZZd.1 hc;rw [<- e,<- List.drop_eq_getElem_cons hi]
structure InsI (w W:World) (vn:Value) (Fn:List Ce) (vo:Value) (R:List Ce) (vm:Value) (Mo X:List Ce):Prop where
 n:OwnC W w.heap.size vn Fn
 r:OwnC W w.heap.size vo R
 m:OwnC W w.heap.size vm Mo
 a1:ApV vn vo
 a2:ApV vn vm
 a3:ApV vo vm
 o:CesO W w.heap.size X
 b:Below w.heap.size w W
 ne:vn≠.slice none 0 0
theorem InsI.past {W':World} (h:InsI w W vn Fn vo R vm Mo X) (hb:Below W.heap.size W W'):InsI w W' vn Fn vo R vm Mo X:=
 ⟨h.n.past hb,h.r.past hb,h.m.past hb,h.a1,h.a2,h.a3,h.o.past hb,Qac h.b hb,h.ne⟩
theorem InsI.app {G:List Ce} (h:InsI w W vn Fn vo R vm Mo X) (hown:w1.ownsRow w.heap.size 92 15 v' (Fn.length+G.length) (flC Fn ++ flC G)) (hg:W.grownBy w1 vn.ownBlock) (hnil:v'=.slice none 0 0↔vn=.slice none 0 0/\G.length=0) (hloc:v'.ownBlock=vn.ownBlock∨v'.ownBlock=some W.heap.size):InsI w w1 v' (Fn ++ G) vo R vm Mo X:=by
 have aa:∀ {u:Value} {L:List Ce},OwnC W w.heap.size u L->ApV vn u->ApV v' u:=fun {u L} hu ha k hk e=>by
  rcases hloc with q | q
  ·rw [q] at hk;exact ha k hk e
  ·rw [q] at hk
   have:=(World.ownsRow.lt hu k e).2;injection hk with hk;omega
 refine ⟨?_,h.r.kept hg h.a1.symm,h.m.kept hg h.a2.symm,aa h.r h.a1,aa h.m h.a2,h.a3,h.o.row h.n hg,h.b.grown hg h.b.size (fun j hj=>(World.ownsRow.lt h.n j hj).1),fun e=>h.ne (hnil.1 e).1⟩
 show w1.ownsRow _ _ _ _ _ _
 rw [List.length_append,QeI];exact hown
theorem Qqy (h:OwnC w B (.slice (some ⟨g,0,none⟩) n cp) R) (hn:R.length=n) (hi:i<=n):∀ j u,(flC (R.take i))[j]?=some u->w.cell? ((⟨g,0,none⟩:Addr).add j)=some u:=by
 subst hn;intro j u hu;have hj:=(ZZd.1 hu).1;rw [Qcv,List.length_take] at hj;have aa:min i R.length*15<=R.length*15:=Nat.mul_le_mul_right _ (Nat.min_le_right _ _);rw [Addr.add_lit,Nat.zero_add,World.ownsRow.cellAt h j (by omega)];have e:flC R=flC (R.take i) ++ flC (R.drop i):=by rw [<- QeI,List.take_append_drop]
 rw [e,List.getElem?_append_left (by rw [Qcv,List.length_take];omega)];exact hu
theorem Qql (h:OwnC w B (.slice (some ⟨g,0,none⟩) n cp) R) (hn:R.length=n) (hi:i<=n):∀ j u,(flC (R.drop i))[j]?=some u->w.cell? ((⟨g,i*15,none⟩:Addr).add j)=some u:=by
 subst hn;intro j u hu;have hj:=(ZZd.1 hu).1;rw [Qcv,List.length_drop] at hj
 have aa:i*15+j<R.length*15:=by
  have:(R.length - i)*15=R.length*15 - i*15:=Nat.sub_mul _ _ _;omega
 rw [Addr.add_lit,World.ownsRow.cellAt h (i*15+j) aa];have e:flC R=flC (R.take i) ++ flC (R.drop i):=by rw [<- QeI,List.take_append_drop]
 have l:(flC (R.take i)).length=i*15:=by rw [Qcv,List.length_take,Nat.min_eq_left hi]
 rw [e,List.getElem?_append_right (by rw [l];omega),l,Nat.add_sub_cancel_left];exact hu
theorem Qp2 {ad:Addr} (hi:R.length<=i):∀ j u,(flC (R.drop i))[j]?=some u->w.cell? (ad.add j)=some u:=by
 intro j u hu;rw [List.drop_of_length_le hi] at hu;simp [flC] at hu
end
end Go.Proofs.YtdbaabbmcfnjbaaGreatDoor
