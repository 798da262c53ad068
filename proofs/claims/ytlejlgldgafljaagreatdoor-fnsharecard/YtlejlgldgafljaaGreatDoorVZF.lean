/-
 Parts.
-/
import Derived.Test.YtlejlgldgafljaaGreatDoorVZA
set_option maxHeartbeats 16000000
set_option linter.all false
namespace Go.Proofs.YtlejlgldgafljaaGreatDoor
open Go.ChangeShapes Go.WideShapes Go.ChangeAt Go.RowKit Go.PlainAid Go.Lib Go.Maps Tryz
set_option maxRecDepth 10000
abbrev q0:Pi:=⟨0,0,0,0⟩
noncomputable def inK (K:List ByteArray) (u:ByteArray):Bool:=@decide (u∈K) (Classical.propDecidable _)
variable {K:List ByteArray}
variable {mm u:ByteArray}
theorem Qdl (h:u∈K):inK K u=true:=by unfold inK;exact @ZZh _ (Classical.propDecidable _) h
theorem QqR (h:¬ u∈K):inK K u=false:=by unfold inK;exact @ZZg _ (Classical.propDecidable _) h
theorem inK_iff:inK K u=true↔u∈K:=by
 constructor
 ·intro h
  by_cases q:u∈K
  ·exact q
  ·rw [QqR q] at h;cases h
 ·exact Qdl
variable {w wr:World}
variable {Bm N ca mb n:Nat}
theorem MpS.look2 {b:Nat} {L:List Sd} (h:MpS w b n L) (hz:mm.size<=maxLen):∃ x a k c,(Instr.lookup 50 (.map (some b)) (.string mm) true).run prog w=.ok (.tuple #[.agg #[.string x,.slice a k c],.bool (inK (L.map Sd.nm) mm)]) w:=by
 obtain ⟨D,hD,hH⟩:=h;obtain ⟨v,ps,aa,hv⟩:=hD.look_ok (zd:=.held (.agg zAc)) (zp:=[]) Qfq underlying50 (QsN w) rfl (Qno hz);by_cases hm:mm∈L.map Sd.nm
 ·obtain ⟨s,hs,rfl⟩:=List.mem_map.1 hm
  rw [hH.some hs] at aa;rw [hH.val s hs] at hv;obtain ⟨cs,rfl⟩:=Qna hv;have e:(DataW.held (Value.agg cs):DataW Value)=Qk1 s:=congrArg Prod.fst (Option.some.inj hv);rw [QgE e] at aa;exact ⟨s.nm,s.ao,s.L.length,s.cp,by rw [Qdl hm];exact aa⟩
 ·have hh:Maps.has D (QcP mm)=false:=hH.none (fun d hd e=>hm (List.mem_map.2 ⟨d,hd,e⟩))
  rw [hh] at aa;rw [atKey_of_not_has hh] at hv;obtain ⟨cs,rfl⟩:=Qna hv;have e:(DataW.held (Value.agg cs):DataW Value)=.held (.agg zAc):=congrArg Prod.fst (Option.some.inj hv);injection e with e;injection e with e;rw [e] at aa;exact ⟨ByteArray.empty,none,0,0,by rw [QqR hm];exact aa⟩
variable {M S T:List Sd}
theorem c_has (p:Pi) (mm:ByteArray) (hz:mm.size<=maxLen) (hM:MpS w mb n M) :
  Calls prog 72 #[.agg (QaO p mb),.string mm] w fun e w'=>e=.returned (.bool (inK (M.map Sd.nm) mm))/\Bw w w':=by
 have al:Bw w (w.alloc (.cells (QaO p mb) 52)):=bA;obtain ⟨x,a,k,c,ab⟩:=(hM.past al).look2 (mm:=mm) hz;obtain ⟨B,hB⟩:∃ B,inK (M.map Sd.nm) mm=B:=⟨_,rfl⟩;rw [hB] at ab ⊢;have r4:(w.alloc (.cells (QaO p mb) 52)).cell? ⟨w.heap.size,4,none⟩=some (.map (some mb)):=Qar (ZZk w (.cells (QaO p mb) 52)) 4 rfl;have aa:=Qaa al;clear hM al hB;go_enter func72,ntmps72;go_upto_region 1 with fail;generalize w.alloc _=W0 at aa ab r4 ⊢;go_wp2;go_ret;exact ⟨rfl,Qac aa bA⟩
theorem QeX (p:Pi) (cd:Int) (hc:cd≠0) :
  Calls prog 41 #[.agg (QaO p mb),.int .i64 cd] w fun e w'=>e=.returned (.agg (Qap (.slice none 0 0) q0 (.slice none 0 0) cd))/\Bw w w':=by
 have hb:(cd != 0)=true:=by simpa using hc
 have hd:decide (cd=0)=false:=ZZg hc;have HB:Hid (∀ o1 o2,Bw w ((w.alloc o1).alloc o2)):=fun o1 o2=>((Below.refl _ _).alloc (Nat.le_refl _) _).alloc (by simp) _;go_enter func41,ntmps41;go_wp2;exact bodyPost_ret (v:=.agg (Qap (.slice none 0 0) q0 (.slice none 0 0) cd)) (by simp [results,results41,go_sem]) rfl ⟨rfl,HB.out _ _⟩
theorem Qjr (p:Pi) (hM:MpS w mb n M) (hT:T.Perm M) (hr:Qcd (T.map Sd.nm)) (hl:T.length<=1000) (hz:∀ s∈T,s.nm.size<=maxLen) :
  Calls prog 41 #[.agg (QaO p mb),.int .i64 0] w fun e w'=>∃ a c,e=.returned (.agg (Qap (.slice a T.length c) p (.slice none 0 0) 0))/\OwnD w' w.heap.size (.slice a T.length c) T/\Bw w w':=by
 have a1:∀ (X:World) o,Bw X (X.alloc o):=fun X o=>bA;have k0:=ZZk w (.cells (QaO p mb) 52);have k1:=ZZk (w.alloc (.cells (QaO p mb) 52)) (.cells (Qap (.slice none 0 0) q0 (.slice none 0 0) 0) 37);simp only [World.size_alloc] at k1;have af:=Qaa (Qaf k0 (a1 _ (.cells (Qap (.slice none 0 0) q0 (.slice none 0 0) 0) 37)));have aa:=Qaa k1;have ae:=Qaa (Qac (a1 w (.cells (QaO p mb) 52)) (a1 _ (.cells (Qap (.slice none 0 0) q0 (.slice none 0 0) 0) 37)));have HM:=Qaa (hM.past ae);have ah:=Qaa hT;have HR:=Qaa hr;have HZ:=Qaa hz;clear a1 k0 k1 hM hT hr hz;go_enter func41,ntmps41;go_upto_region 1 with fail;generalize (w.alloc _).alloc _=W0 at af aa ae HM ⊢;obtain ⟨x0,x1,x2,x3,x4⟩:=Qa2 af;go_wp2_with fail;clear x0 x1 x2 x3 x4;refine (c_pipe p HM ah HR hl HZ).mono ?_;rintro e w1 ⟨v,rfl,ho,ab⟩;obtain ⟨av,cv,rfl,_⟩:=ho.form;have ad:w.heap.size+1+1<=W0.heap.size:=(ZZc.1 aa).1;have R1:=Qaf aa ab;obtain ⟨y0,y1,y2,y3,y4,y5,y6⟩:=Qbv R1;obtain ⟨f0,f1,f2,f3,f4,f5,f6⟩:=fA7 R1;have HO:=Qaa ho;have HB:=Qaa (Qac ae ab);have ac:Hid (∀ j,(Value.slice av T.length cv).ownBlock=some j->w.heap.size+1+1<=j):=fun j q=>Nat.le_trans ad (World.ownsRow.lt HO j q).1;have ag:=Qaa (ho.le (Nat.le_trans (by omega) ad:w.heap.size<=W0.heap.size));clear R1 ho ab ad af aa HM;go_wp2;refine bodyPost_ret (v:=.agg (Qap (.slice av T.length cv) p (.slice none 0 0) 0)) (by simp [results,results41,go_sem,y0,y1,y2,y3,y4,y5,y6]) rfl ⟨av,cv,rfl,?_,?_⟩
 ·have st:∀ (W:World) (j:Nat) (u:Value),OwnD W w.heap.size (.slice av T.length cv) T->OwnD (W.setCell ⟨w.heap.size+1,j,none⟩ u) w.heap.size (.slice av T.length cv) T:=fun W j u o=>by
   refine World.ownsRow.kept o (Qai W _ j u) ?_
   cases q:(Value.slice av T.length cv).ownBlock with
   | none=>exact .inl rfl
   | some i=>exact .inr (fun e=>by have:=ac.out i q;injection e with e;omega)
  repeat (refine st _ _ _ ?_)
  exact ag.out
 ·repeat (refine Below.setCell ?_ (by show _<=w.heap.size+1;omega) _)
  exact HB.out
noncomputable def mfC (S:List Sd) (p:Pi) (mm:ByteArray):Int:=if 20000<mm.size then 2 else if Qbi S p=false∨QaB mm=false then 1 else 0
variable {ao:Option Addr}
theorem Qe7 (p:Pi) (mm:ByteArray) (hz:mm.size<=maxLen) (hm:MX w) (hI:PpI w ao N S) :
  Calls prog 40 #[.agg (Qad (.slice ao N ca) p),.string mm] w fun e w'=>e=.returned (.int .i64 (mfC S p mm))/\Bw w w':=by
 have HI:=Qaa hI;have HM:=Qaa hm;have aa:=Qaa (((ZZb _ _).alloc (ZZa _) _:Bw w (w.alloc (.cells (Qad (.slice ao N ca) p) 25))));have HC:=Qaa (ZZk w (.cells (Qad (.slice ao N ca) p) 25));obtain ⟨cd,ac⟩:∃ cd,mfC S p mm=cd:=⟨_,rfl⟩;rw [ac];have ab:=Qaa ac;clear hI hm ac;go_enter func40,ntmps40;go_upto_region 1 with fail;generalize w.alloc _=W0 at aa HC ⊢;go_wp2_with fail;refine (Qda mm hz W0).mono ?_;rintro e w1 ⟨rfl,rfl⟩;by_cases hs:mm.size<=20000
 ·have d1:decide (mm.size<=20000)=true:=ZZh hs
  obtain ⟨x0,x1,x2,x3,x4⟩:=Qa2 HC;go_wp2_with fail;clear x0 x1 x2 x3 x4 d1;refine (Qe3 p HI.n HI.sm (fun s hs c hc=>⟨(HI.ok s hs c hc).1,(HI.ok s hs c hc).2.1⟩) (HM.past aa) (QaF HI.at' aa)).mono ?_;rintro e w2 ⟨rfl,ae⟩;have ad:=Qaa (Qac aa ae);clear ae
  cases hp:Qbi S p with
  | false=>
   obtain rfl:cd=1:=by rw [<- ab.out];unfold mfC;rw [if_neg (by omega),if_pos (.inl hp)]
   clear hp;go_wp2;go_ret;exact ⟨rfl,ad⟩
  | true=>
   go_wp2_with fail;refine (Qa9 mm w2 hz).mono ?_;rintro e w3 ⟨rfl,rfl⟩
   cases hn:QaB mm with
   | false=>
    obtain rfl:cd=1:=by rw [<- ab.out];unfold mfC;rw [if_neg (by omega),if_pos (.inr hn)]
    clear hp hn;go_wp2;go_ret;exact ⟨rfl,ad⟩
   | true=>
    obtain rfl:cd=0:=by rw [<- ab.out];unfold mfC;rw [if_neg (by omega),if_neg (by rw [hp,hn];simp)]
    clear hp hn;go_wp2;go_ret;exact ⟨rfl,ad⟩
 ·have d1:decide (mm.size<=20000)=false:=ZZg hs
  obtain rfl:cd=2:=by rw [<- ab.out];unfold mfC;rw [if_pos (by omega)]
  go_wp2;go_ret;exact ⟨rfl,aa⟩
theorem QqQ {α β:Type} {f:α->β} {K B:List β} (h:K.Perm B):∀ {L:List α},B=L.map f->∃ T:List α,T.Perm L/\T.map f=K:=by
 induction h with
 | nil=>intro L e;exact ⟨[],by cases L with | nil=>exact .nil | cons _ _=>simp at e,rfl⟩
 | cons x _ ih=>
  intro L e
  cases L with
  | nil=>simp at e
  | cons a L=>
   simp only [List.map_cons,List.cons.injEq] at e;obtain ⟨T,h1,h2⟩:=ih e.2;exact ⟨a :: T,h1.cons a,by rw [List.map_cons,h2,e.1]⟩
 | swap x y l=>
  intro L e
  cases L with
  | nil=>simp at e
  | cons a L=>
   cases L with
   | nil=>simp at e
   | cons b L=>
    simp only [List.map_cons,List.cons.injEq] at e;exact ⟨b :: a :: L,.swap a b L,by rw [List.map_cons,List.map_cons,<- e.1,<- e.2.1,<- e.2.2]⟩
 | trans _ _ ih1 ih2=>
  intro L e;obtain ⟨T,h1,h2⟩:=ih2 e;obtain ⟨T',h3,h4⟩:=ih1 h2.symm;exact ⟨T',h3.trans h1,h4⟩
theorem Qdv {t:ByteArray}:∀ {l:List ByteArray},t ∉ l->(QbL l t).Perm (t :: l)
 | [],_=>.refl _
 | y :: r,h=>by
  unfold QbL
  split
  ·exact ((Qdv (fun q=>h (ZZm _ q))).cons y).trans (.swap t y r)
  ·split
   ·rename_i q;exact absurd (by rw [q];simp) h
   ·exact .refl _
theorem Qhi (hK:Qag K=true) (hm:mm ∉ K) (hl:K.length<12) (hn:QaB mm=true):Qag (QbL K mm)=true:=by
 have hp:=Qdv hm;have aa:=hp.length_eq;rw [List.length_cons] at aa;refine Qiw (by omega) (by omega) (fun u hu=>?_) (QeW (QaW hK));rcases mem_insT.1 hu with rfl | hu
 ·exact hn
 ·exact Qbx hK hu
theorem Qbs (h:Qeg S=true):Qag (S.map Sd.nm)=true:=(Bool.and_eq_true_iff.1 (by unfold Qeg at h;exact h)).1
structure LvH (w:World) (mb n Bm:Nat) (M S:List Sd) (p:Pi):Prop where
 mp:MpS w mb n M
 n:n<=1000
 o:LvO w Bm M
 lt:mb<Bm
 bm:Bm<=w.heap.size
 ky:M.map Sd.key=S.map Sd.key
 q:QS S
 r:Qbi S p=true
section
variable {w W w':World} {mb n Bm:Nat} {M S:List Sd} {p:Pi}
theorem LvH.past (h:LvH w mb n Bm M S p) (hb:Bw w W):LvH W mb n Bm M S p:=⟨h.mp.past hb,h.n,h.o.past hb,h.lt,Nat.le_trans h.bm hb.size,h.ky,h.q,h.r⟩
theorem LvH.nm (h:LvH w mb n Bm M S p):M.map Sd.nm=S.map Sd.nm:=Qqd h.ky
theorem LvH.len (h:LvH w mb n Bm M S p):M.length=S.length:=by
 have:=congrArg List.length h.ky;rw [yA,yA] at this;exact this
theorem LvH.memb (h:LvH w mb n Bm M S p):Qag (M.map Sd.nm)=true:=by rw [h.nm];exact Qbs (Qay h.r).1
theorem LvH.all (h:LvH w mb n Bm M S p):∃ L,AscC L/\(QaL M).Perm L/\(L.map Ce.key).Perm ((QaL S).map Ce.key)/\(QaL M).length<=720/\L.length<=720/\∀ c∈L,c.s.size<=100:=by
 have ad:((QaL M).map (fun c=>(c.n,c.s))).Nodup:=by
  rw [QsL (Qc4 h.ky)];have:=QfX h.q S.length;rw [List.take_length] at this;exact this
 obtain ⟨L,hL,ab⟩:=Qpi ad
 have aa:(QaL M).length<=720:=by
  have h1:=congrArg List.length (Qc4 h.ky);rw [yA,yA] at h1;have h2:=Qga (S:=S) 60 h.q.l;have h3:=h.q.n;have:S.length*60<=12*60:=Nat.mul_le_mul_right _ h3;omega
 refine ⟨L,hL,ab,by rw [<- Qc4 h.ky];exact (ab.map _).symm,aa,by rw [<- ab.length_eq];exact aa,fun c hc=>?_⟩;obtain ⟨t,ht,ac⟩:=Qbr (ab.mem_iff.2 hc);obtain ⟨s,hs,_,e⟩:=Qfi h.ky ht;obtain ⟨d,hd,_,e2,_⟩:=QlC e ac;have hr:=QdA (Qay h.r).1 hs;have:=(Qms ((QgI hr).2.1 d hd)).2;rw [<- e2];exact this
end
def LvS (w w':World) (mb:Nat) (S:List Sd) (K:List ByteArray):Prop:=∃ n X L,MpS w' mb n X/\ShrL K L X/\LvO w' (mb+1) X/\AscC L/\(L.map Ce.key).Perm ((QaL S).map Ce.key)/\GrownS w w' (fun k=>k=mb)
def LvJ (w w':World) (mb:Nat) (S:List Sd) (K:List ByteArray) (c7:Int) (b7 b8:Bool) (cd:Int):Prop:=(b7=true/\cd=c7/\Bw w w')∨(b7=false/\b8=true/\cd=8/\Bw w w')∨(b7=false/\b8=false/\cd=0/\LvS w w' mb S K)
theorem lenS (h:MpS w mb n M) (ty:TypeId):(Builtin.len_ #[50] ty #[.map (some mb)]).run prog w=.ok (.int .i64 (M.length:Int)) w:=by
 obtain ⟨D,hD,hH⟩:=h;have:=hD.len underlying50 ty;rw [hH.sz] at this;exact this
theorem LvS.of {w3 w4 w5:World} {L:List Ce} {m:Nat} (ho:CesO w Bm (QaL M)) (hlt:mb<Bm) (hmw:mb<w.heap.size) (hpm:(QaL M).Perm L) (hA:AscC L) (hK:(L.map Ce.key).Perm ((QaL S).map Ce.key)) (hr:Qcd K) (hb3:Bw w w3) (hg:w3.grownBy w4 (some mb)) (hP:SrP w4 w5 mb K L m):LvS w w5 mb S K:=by
 obtain ⟨n',X,_,hM,hX,aa,ab,ac⟩:=hP;have g1:GrownS w w4 (fun k=>k=mb):=((GrownS.ofBelow hb3).trans (grS hg)).weak (fun k q=>q.elim (fun f=>f.elim) (fun e=>by injection e with e;exact e.symm));have g2:GrownS w w5 (fun k=>k=mb):=(g1.trans ac).weak (fun k q=>q.elim id id);have hc:CesO w5 (mb+1) L:=((ho.perm hpm).keptS g2 (fun c hc k q e=>by have:=((ho.perm hpm).o c hc).lt q;omega)).le (by omega);have hz:=g1.size;refine ⟨n',X,L,hM,hX,hX.own hr (fun s hs=>(aa s hs).le (by omega)) ab hc,hA,hK,g2⟩
theorem c_join (p:Pi) (mm:ByteArray) (hn:QaB mm=true) (hL:LvH w mb n Bm M S p) :
  Calls prog 42 #[.agg (QaO p mb),.string mm] w fun e w'=>∃ cd:Int,e=.returned (.int .i64 cd)/\LvJ w w' mb S (QbL (S.map Sd.nm) mm) 7 (inK (S.map Sd.nm) mm) (decide (12<=S.length)) cd:=by
 have hz:mm.size<=40:=(QbZ hn).2;have aB:mm.size<=maxLen:=by unfold maxLen;omega
 have aL:=hL.len;have aN:=hL.q.n;have al:Bw w (w.alloc (.cells (QaO p mb) 52)):=bA;have HX:=Qaa (ZZk w (.cells (QaO p mb) 52));have aw:=Qaa al;have ae:=Qaa hL;have aj:=Qaa (hL.past al);have an:=Qaa hL.nm;have HN:=Qaa hn;clear hL al hn;go_enter func42,ntmps42;go_upto_region 1 with fail;generalize w.alloc _=W0 at HX aw aj ⊢;obtain ⟨x0,x1,x2,x3,x4⟩:=Qa2 HX;go_wp2_with fail;clear x0 x1 x2 x3 x4;refine (c_has p mm aB aj.mp).mono ?_;rintro e w1 ⟨rfl,ak⟩;have ar:=Qaa (Qac aw ak);have au:=Qaa (Qaf HX ak);have ab:=Qaa (aj.past ak);rw [an.out];clear ak HX aw aj
 cases hk:inK (S.map Sd.nm) mm with
 | true=>
  have HF:Hid (LvJ w w1 mb S (QbL (S.map Sd.nm) mm) 7 (inK (S.map Sd.nm) mm) (decide (12<=S.length)) 7):=Qaa (.inl ⟨hk,rfl,ar⟩);clear hk;go_wp2;go_ret;exact ⟨7,rfl,HF⟩
 | false=>
  have aC:=Qaa hk;have aH:=lenS ab.mp;rw [aL] at aH;obtain ⟨x0,x1,x2,x3,x4⟩:=Qa2 au;by_cases h8:S.length=12
  ·have d8:((S.length:Int) == 12)=true:=by rw [h8];rfl
   have HF:Hid (LvJ w w1 mb S (QbL (S.map Sd.nm) mm) 7 (inK (S.map Sd.nm) mm) (decide (12<=S.length)) 8):=Qaa (.inr (.inl ⟨hk,ZZh (by omega),rfl,ar⟩));clear hk;go_wp2;go_ret;exact ⟨8,rfl,HF⟩
  ·have d8:((S.length:Int) == 12)=false:=by simpa using (by omega:¬ (S.length:Int)=12)
   go_wp2_with fail;clear x0 x1 x2 x3 x4 aH d8 hk;obtain ⟨L,hA,av,ax,aM,aK,aD⟩:=ab.all;refine (QlK p ab.mp (fun s hs=>(ab.o.r s hs).le (ZZj _)) hA av (by omega)).mono ?_;rintro e w2 ⟨v,rfl,ho,ao⟩;obtain ⟨ac,cc,rfl,_⟩:=ho.form;obtain ⟨nc,aA⟩:∃ n,L.length=n:=⟨_,rfl⟩;rw [aA] at ho aK ⊢;have ai:=Qaa (Qaf au ao);have aq:=Qaa (ab.past ao);have ap:mm ∉ S.map Sd.nm:=fun h=>by have:=aC.out;rw [Qdl h] at this;cases this
   obtain ⟨w3,aa,aF,ah⟩:=aq.mp.add (s:=QnA mm) (fun d hd e=>ap (by rw [<- an.out,<- show d.nm=mm from e];exact List.mem_map.2 ⟨d,hd,rfl⟩)) aB (by have:=aq.n;omega);have aa:(Instr.mapUpdate 50 (.map (some mb)) (.string mm) (.agg #[.string mm,.slice none 0 0])).run prog w2=.ok () w3:=aa;have aI:=ae.mp.lt;have am:Qag (QbL (S.map Sd.nm) mm)=true:=Qhi (by have:=ae.memb;rw [an.out] at this;exact this) ap (by rw [yA];omega) HN
   have af:(QbL (S.map Sd.nm) mm).Perm ((M ++ [QnA mm]).map Sd.nm):=by
    rw [List.map_append,an.out];exact (Qdv ap).trans (List.perm_append_singleton mm _).symm
   obtain ⟨T,az,ay⟩:=QqQ af rfl;have z1:=ar.size;have aJ:=(ZZc.1 ai).1;have X3:w3.heap[w.heap.size]?=some (.cells (QaO p mb) 52 (0,0)):=(ah.block _ aJ (fun e=>by injection e with e;omega)).trans ai;have aG:OwnC w3 (mb+1) (.slice ac nc cc) L:=(ho.keptS (grS ah) (fun j q e=>by have:=(World.ownsRow.lt ho j q).1;injection e with e;omega)).le (by omega);have ad:=Qac ar ao
   have ag:Hid (∀ (w5:World) (m:Nat),SrP w3 w5 mb (QbL (S.map Sd.nm) mm) L m->LvJ w w5 mb S (QbL (S.map Sd.nm) mm) 7 (inK (S.map Sd.nm) mm) (decide (12<=S.length)) 0):=fun w5 m hP=>
    .inr (.inr ⟨aC,ZZg (by omega),rfl,LvS.of ae.o.o ae.lt aI av hA ax (QaW am) ad ah hP⟩)
   have aE:=Qaa (Qqj (w:=w3) p aF az ay (QaW am) am (by have:=aq.n;omega) aA (by omega) aD aG);obtain ⟨x0,x1,x2,x3,x4⟩:=Qa2 ai;obtain ⟨y0,y1,y2,y3,y4⟩:=Qa2 X3;clear ho ao hA av ax aD aF ah am af az ay X3 aG ad ap au ai ab aq ae;go_upto_region 7 with fail;clear x0 x1 x2 x3 x4 aa;go_wp2_with fail;clear y0 y1 y2 y3 y4;refine aE.mono ?_;rintro e w5 ⟨rfl,hP⟩;have HF:=Qaa (ag.out w5 _ hP);clear hP aE ag;go_wp2;go_ret;exact ⟨0,rfl,HF⟩
def QaU (K:List ByteArray) (u:ByteArray):List ByteArray:=K.filter (fun x=>!(x.toList == u.toList))
theorem Qgb (h:u ∉ K):QaU K u=K:=by
 refine List.filter_eq_self.2 (fun x hx=>?_)
 cases q:(x.toList == u.toList)
 ·rfl
 ·exact absurd (by rw [<- QfC q];exact hx) h
theorem QiK {A R:List ByteArray} (h:(A ++ u :: R).Nodup):QaU (A ++ u :: R) u=A ++ R:=by
 obtain ⟨_,h2,h3⟩:=List.nodup_append.1 h;obtain ⟨h4,_⟩:=List.nodup_cons.1 h2;have e1:QaU A u=A:=Qgb (fun q=>h3 u q u (by simp) rfl);have e2:QaU R u=R:=Qgb h4;unfold QaU at e1 e2 ⊢;rw [List.filter_append,List.filter_cons,e1,e2];simp
theorem QtN (p:Pi) (mm:ByteArray) (hn:QaB mm=true) (hL:LvH w mb n Bm M S p) :
  Calls prog 48 #[.agg (QaO p mb),.string mm] w fun e w'=>∃ cd:Int,e=.returned (.int .i64 cd)/\LvJ w w' mb S (QaU (S.map Sd.nm) mm) 6 (!inK (S.map Sd.nm) mm) (decide (S.length=1)) cd:=by
 have hz:mm.size<=40:=(QbZ hn).2;have aM:mm.size<=maxLen:=by unfold maxLen;omega
 have aL:=hL.len;have aZ:=hL.q.n;have al:Bw w (w.alloc (.cells (QaO p mb) 52)):=bA;have HX:=Qaa (ZZk w (.cells (QaO p mb) 52));have ax:=Qaa al;have ad:=Qaa hL;have ap:=Qaa (hL.past al);have ar:=Qaa hL.nm;have HN:=Qaa hn;clear hL al hn;go_enter func48,ntmps48;go_upto_region 1 with fail;generalize w.alloc _=W0 at HX ax ap ⊢;obtain ⟨x0,x1,x2,x3,x4⟩:=Qa2 HX;go_wp2_with fail;clear x0 x1 x2 x3 x4;refine (c_has p mm aM ap.mp).mono ?_;rintro e w1 ⟨rfl,aq⟩;have an:=Qaa (Qac ax aq);have aA:=Qaa (Qaf HX aq);have af:=Qaa (ap.past aq);rw [ar.out];clear aq HX ax ap
 cases hk:inK (S.map Sd.nm) mm with
 | false=>
  have HF:Hid (LvJ w w1 mb S (QaU (S.map Sd.nm) mm) 6 (!inK (S.map Sd.nm) mm) (decide (S.length=1)) 6):=Qaa (.inl ⟨by rw [hk];rfl,rfl,an⟩);clear hk;go_wp2;go_ret;exact ⟨6,rfl,HF⟩
 | true=>
  have aN:=Qaa hk;have aS:=lenS af.mp;rw [aL] at aS;obtain ⟨x0,x1,x2,x3,x4⟩:=Qa2 aA;by_cases h8:S.length=1
  ·have d8:((S.length:Int) == 1)=true:=by rw [h8];rfl
   have HF:Hid (LvJ w w1 mb S (QaU (S.map Sd.nm) mm) 6 (!inK (S.map Sd.nm) mm) (decide (S.length=1)) 8):=Qaa (.inr (.inl ⟨by rw [hk];rfl,decide_eq_true h8,rfl,an⟩));clear hk;go_wp2;go_ret;exact ⟨8,rfl,HF⟩
  ·have d8:((S.length:Int) == 1)=false:=by simpa using (by omega:¬ (S.length:Int)=1)
   go_wp2_with fail;clear x0 x1 x2 x3 x4 aS d8 hk;obtain ⟨L,hA,av,aD,aX,aW,aO⟩:=af.all;refine (QlK p af.mp (fun s hs=>(af.o.r s hs).le (ZZj _)) hA av (by omega)).mono ?_;rintro e w2 ⟨v,rfl,ho,am⟩;obtain ⟨ac,cc,rfl,_⟩:=ho.form;obtain ⟨nc,aH⟩:∃ n,L.length=n:=⟨_,rfl⟩;rw [aH] at ho aW ⊢;have ak:=Qaa (Qaf aA am);have ay:=Qaa (af.past am);have aP:mm∈M.map Sd.nm:=by rw [ar.out];exact inK_iff.1 aN
   obtain ⟨s,aF,rfl⟩:=List.mem_map.1 aP;obtain ⟨A,R,hM⟩:=List.append_of_mem aF;subst hM;have aV:=ad.mp.lt;have aB:((A ++ s :: R).map Sd.nm).Nodup:=by have h:=QaW ad.memb;exact Qbo h
   have hK:QaU (S.map Sd.nm) s.nm=(A ++ R).map Sd.nm:=by
    rw [<- ar.out,List.map_append,List.map_cons,List.map_append];rw [List.map_append,List.map_cons] at aB;exact QiK aB
   have aY:(A ++ R).length+1=S.length:=by rw [<- aL];simp;omega
   have ae:((A ++ R).map Sd.nm).Sublist ((A ++ s :: R).map Sd.nm):=(List.Sublist.append_left (List.sublist_cons_self s R) A).map _
   have aE:Qag (QaU (S.map Sd.nm) s.nm)=true:=by
    rw [hK];refine Qiw (by rw [yA];omega) (by rw [yA];omega) (fun u hu=>Qbx ad.memb (ae.subset hu)) ((QaW ad.memb).sublist ae)
   obtain ⟨D,hD,hH⟩:=ay.mp;have aG:=(hH.perm List.perm_middle).del (hD.tidy Qfq);have HD:=Qaa hD;have aC:=Qaa aG;have az:=Qaa ho;have ai:=Qaa (And.intro hA (And.intro av (And.intro aD aO)));have au:=Qaa aE;have HK:=Qaa hK;have ag:=Qac an am;have ah:=Qaa ag;have aU:=Qaa ay.n;have aI:=(ZZc.1 ak).1;have aw:=Qaa aI;obtain ⟨x0,x1,x2,x3,x4⟩:=Qa2 ak;clear ho am hA av aD aO aE hK aB ae aP aF hD hH aG ag aA af ay aI;go_upto_region 7 with (at_delete;refine wpList_delete_own _ rfl _ _ 50 9 rfl 56 Qfq underlying50 rS mb n _ rfl HD _ _ rfl (Qno aM) ?_;intro w3 ab aa;have aK:=Qaa ab;have aT:=Qaa aa.grown;clear ab aa);clear x0 x1 x2 x3 x4;have ao:w2.grownBy w3 (some mb):=aT.out;have z1:=an.size;have z2:=ah.size;have X3:w3.heap[w.heap.size]?=some (.cells (QaO p mb) 52 (0,0)):=(ao.block _ aw (fun e=>by injection e with e;omega)).trans ak;have aQ:MpS w3 mb n (A ++ R):=⟨_,aK,aC⟩;have aR:OwnC w3 (mb+1) (.slice ac nc cc) L:=(az.keptS (grS ao) (fun j q e=>by have:=(World.ownsRow.lt az j q).1;injection e with e;omega)).le (by omega)
   have aj:Hid (∀ (w5:World) (m:Nat),SrP w3 w5 mb (QaU (S.map Sd.nm) s.nm) L m->LvJ w w5 mb S (QaU (S.map Sd.nm) s.nm) 6 (!inK (S.map Sd.nm) s.nm) (decide (S.length=1)) 0):=fun w5 m hP=>
    .inr (.inr ⟨by rw [aN.out];rfl,decide_eq_false h8,rfl,LvS.of ad.o.o ad.lt aV ai.2.1 ai.1 ai.2.2.1 (QaW au) ah ao hP⟩)
   have aJ:=Qaa (Qqj (w:=w3) p aQ (List.Perm.refl _) HK.symm (QaW au) au (by have:=aU.out;omega) aH (by omega) ai.2.2.2 aR);obtain ⟨y0,y1,y2,y3,y4⟩:=Qa2 X3;clear ao X3 aQ aR aK aT HD aC az ai ak ad;go_wp2_with fail;clear y0 y1 y2 y3 y4;refine aJ.mono ?_;rintro e w5 ⟨rfl,hP⟩;have HF:=Qaa (aj.out w5 _ hP);clear hP aJ aj;go_wp2;go_ret;exact ⟨0,rfl,HF⟩
def MbR (S:List Sd) (p:Pi) (mm:ByteArray) (c7:Int) (b7 b8:Bool) (K:List ByteArray) (q:Pi) (KM:List (ByteArray×List (Int×ByteArray×Ag))) (cd:Int):Prop:=
 if mfC S p mm≠0 then cd=mfC S p mm/\q=q0/\KM=[] else
 if b7=true then cd=c7/\q=q0/\KM=[] else
 if b8=true then cd=8/\q=q0/\KM=[] else
 cd=0/\q=p/\∃ L:List Ce,AscC L/\(L.map Ce.key).Perm ((QaL S).map Ce.key)/\KM=K.map (fun u=>(u,(L.filter (QbP K u)).map Ce.key))
theorem MbR.same {p q q':Pi} {c7 cd cd':Int} {b7 b8:Bool} {KM KM':List (ByteArray×List (Int×ByteArray×Ag))} (h:MbR S p mm c7 b7 b8 K q KM cd) (k:MbR T p mm c7 b7 b8 K q' KM' cd') (e:T.map Sd.key=S.map Sd.key):q=q'/\KM=KM'/\cd=cd':=by
 have em:mfC T p mm=mfC S p mm:=by unfold mfC;rw [QiC e]
 unfold MbR at h k;rw [em] at k
 split at h
 ·rename_i c;rw [if_pos c] at k;exact ⟨h.2.1.trans k.2.1.symm,h.2.2.trans k.2.2.symm,h.1.trans k.1.symm⟩
 ·rename_i c
  rw [if_neg c] at k
  split at h
  ·rename_i c;rw [if_pos c] at k;exact ⟨h.2.1.trans k.2.1.symm,h.2.2.trans k.2.2.symm,h.1.trans k.1.symm⟩
  ·rename_i c
   rw [if_neg c] at k
   split at h
   ·rename_i c;rw [if_pos c] at k;exact ⟨h.2.1.trans k.2.1.symm,h.2.2.trans k.2.2.symm,h.1.trans k.1.symm⟩
   ·rename_i c
    rw [if_neg c] at k;obtain ⟨h1,h2,L,hL,hp,hk⟩:=h;obtain ⟨k1,k2,L',kL,kp,kk⟩:=k;have eL:L'.map Ce.key=L.map Ce.key:=Qgl kL hL (kp.trans (by rw [Qc4 e];exact hp.symm));refine ⟨h2.trans k2.symm,?_,h1.trans k1.symm⟩;rw [hk,kk];refine List.map_congr_left (fun u _=>?_);rw [QmY eL]
def MbA (w:World) (S:List Sd) (p:Pi) (mm:ByteArray) (c7:Int) (b7 b8:Bool) (K:List ByteArray) (e:Ending) (w':World):Prop:=∃ a k c q M cd,e=.returned (.agg (Qap (.slice a k c) q (.slice none 0 0) cd))/\MbR S p mm c7 b7 b8 K q (M.map Sd.key) cd/\OwnD w' w.heap.size (.slice a k c) M/\LvO w' w.heap.size M/\Bw w w'
theorem CpP.sets7 {v v0 v1 v2 v3 v4 v5 v6:Value} (far:∀ j,v.ownBlock=some j->w.heap.size+1+1<=j) (ho:LvO wr (w.heap.size+1+1) M) (h:CpP w wr S v M):CpP w (((((((wr.setCell ⟨w.heap.size+1,0,none⟩ v0).setCell ⟨w.heap.size+1,1,none⟩ v1).setCell ⟨w.heap.size+1,2,none⟩ v2).setCell ⟨w.heap.size+1,3,none⟩ v3).setCell ⟨w.heap.size+1,4,none⟩ v4).setCell ⟨w.heap.size+1,5,none⟩ v5).setCell ⟨w.heap.size+1,6,none⟩ v6) S v M:=by
 have st:∀ (W:World) (j:Nat) (u:Value),OwnD W w.heap.size v M->OwnD (W.setCell ⟨w.heap.size+1,j,none⟩ u) w.heap.size v M:=fun W j u o=>by
  refine World.ownsRow.kept o (Qai W _ j u) ?_
  cases q:v.ownBlock with
  | none=>exact .inl rfl
  | some i=>exact .inr (fun e=>by have:=far i q;injection e with e;omega)
 have sl:∀ (W:World) (j:Nat) (u:Value),LvO W (w.heap.size+1+1) M->LvO (W.setCell ⟨w.heap.size+1,j,none⟩ u) (w.heap.size+1+1) M:=fun W j u o=>o.grown (Qai W _ j u) (by omega);refine ⟨?_,LvO.le ?_ (by omega:w.heap.size<=w.heap.size+1+1),h.ky,?_⟩
 ·repeat (refine st _ _ _ ?_)
  exact h.r
 ·repeat (refine sl _ _ _ ?_)
  exact ho
 ·repeat (refine Below.setCell ?_ (by show _<=w.heap.size+1;omega) _)
  exact h.b
theorem QkQ (hb:Bw w wr):CpP w wr [] (.slice none 0 0) []:=⟨OwnD.nil _ _,LvO.nil _ _,rfl,hb⟩
theorem QpJ (K:List ByteArray) (u:ByteArray) (n:Nat) (h:K.length+1<=n):(QbL K u).length<=n:=Nat.le_trans (QiO u K) h
theorem QjP (p:Pi) (mm:ByteArray) (hzm:mm.size<=maxLen) (hm:MX w) (hI:PpI w ao N S) :
  Calls prog 12 #[.agg (Qad (.slice ao N ca) p),.string mm] w fun e w'=>MbA w S p mm 7 (inK (S.map Sd.nm) mm) (decide (12<=S.length)) (QbL (S.map Sd.nm) mm) e w':=by
 have HI:=Qaa hI;have HM:=Qaa hm;have a1:∀ (X:World) o,Bw X (X.alloc o):=fun X o=>bA;have k0:=ZZk w (.cells (Qad (.slice ao N ca) p) 25);have k1:=ZZk (w.alloc (.cells (Qad (.slice ao N ca) p) 25)) (.cells (Qap (.slice none 0 0) q0 (.slice none 0 0) 0) 37);simp only [World.size_alloc] at k1;have az:=Qaa (Qaf k0 (a1 _ (.cells (Qap (.slice none 0 0) q0 (.slice none 0 0) 0) 37)));have aw:=Qaa k1;have ax:=Qaa (Qac (a1 w (.cells (Qad (.slice ao N ca) p) 25)) (a1 _ (.cells (Qap (.slice none 0 0) q0 (.slice none 0 0) 0) 37)));obtain ⟨B7,aF⟩:∃ B,(inK (S.map Sd.nm) mm)=B:=⟨_,rfl⟩;obtain ⟨B8,aG⟩:∃ B,(decide (12<=S.length))=B:=⟨_,rfl⟩;rw [aF,aG];have aR:=Qaa aF;have aY:=Qaa aG;clear hI hm a1 k0 k1 aF aG;go_enter func12,ntmps12;go_upto_region 1 with fail;generalize (w.alloc _).alloc _=W0 at az aw ax ⊢;have aM:w.heap.size+1+1<=W0.heap.size:=(ZZc.1 aw).1;have aT:=Qaa aM;clear aM;obtain ⟨x0,x1,x2,x3,x4⟩:=Qa2 az;go_wp2_with fail;clear x0 x1 x2 x3 x4;refine (Qe7 p mm hzm (HM.past ax) (HI.past ax)).mono ?_;rintro e w1 ⟨rfl,an⟩;have af:=Qaa (Qaf az an);have ac:=Qaa (Qaf aw an);have aA:=Qaa (Qac ax an);have aC:=Qaa (Nat.le_trans aT an.size);clear an az aw;obtain ⟨cd,aD⟩:∃ cd,mfC S p mm=cd:=⟨_,rfl⟩;rw [aD];have ag:=Qaa aD;clear aD;by_cases hc:cd=0
 case neg=>
  have hb:(cd != 0)=true:=by simpa using hc
  have hd:decide (cd=0)=false:=ZZg hc;have HF:Hid (MbR S p mm 7 B7 B8 (QbL (S.map Sd.nm) mm) q0 (([]:List Sd).map Sd.key) cd):=Qaa (by unfold MbR;rw [if_pos (by rw [ag.out];exact hc)];exact ⟨ag.symm,rfl,rfl⟩);have R1:=ac.out;obtain ⟨y0,y1,y2,y3,y4,y5,y6⟩:=Qbv R1;obtain ⟨f0,f1,f2,f3,f4,f5,f6⟩:=fA7 R1;clear R1 af ac;go_wp2;refine bodyPost_ret (v:=.agg (Qap (.slice none 0 0) q0 (.slice none 0 0) cd)) (by simp [results,results12,go_sem,y0,y1,y2,y3,y4,y5,y6]) rfl ?_;have hC:=CpP.sets7 (v0:=.slice none 0 0) (v1:=.int .i64 0) (v2:=.int .i64 0) (v3:=.int .i64 0) (v4:=.int .i64 0) (v5:=.slice none 0 0) (v6:=.int .i64 cd) (fun j q=>by cases q) (LvO.nil _ _) (QkQ aA);exact ⟨none,0,0,q0,[],cd,rfl,HF,hC.r,hC.o,hC.b⟩
 case pos=>
  subst hc
  have ay:Qbi S p=true/\QaB mm=true:=by
   have h:=ag.out;unfold mfC at h
   split at h
   ·cases h
   ·split at h
    ·cases h
    ·rename_i q
     refine ⟨?_,?_⟩
     ·cases e:Qbi S p
      ·exact absurd (.inl e) q
      ·rfl
     ·cases e:QaB mm
      ·exact absurd (.inr e) q
      ·rfl
  have HP:=Qaa ay.1;have aS:=Qaa ay.2;have HQ:=Qaa (HI.qs ay.1);clear ay;obtain ⟨x0,x1,x2,x3,x4⟩:=Qa2 af;go_wp2_with fail;clear x0 x1 x2 x3 x4;refine (Qjf p HI.n (by have:=HQ.n;have:=HI.n;omega) HI.sm.l HI.sm.sm (fun s hs c hc=>(HI.ok s hs c hc).2.2) (fun s hs=>by have:=HI.sm.nz s hs;unfold maxLen;omega) (Qmi (Qay HP).1) (QaF HI.at' aA)).mono ?_;rintro e w2 ⟨mb,rfl,Bm,M,hl⟩;have aP:M.map Sd.key=S.map Sd.key:=by have:=hl.ky;rw [List.take_of_length_le (by have:=HI.n;omega)] at this;exact this
  have aO:Hid (LvH w2 mb N Bm M S p):=Qaa ⟨hl.mp,by have:=HQ.n;have:=HI.n;omega,hl.o,hl.lt,hl.bm,aP,HQ,HP⟩;have a3:Hid (w1.heap.size<=mb):=Qaa hl.le;have au:Bw w2 (w2.alloc (.cells (QaO p mb) 52)):=bA;have HY:=Qaa (ZZk w2 (.cells (QaO p mb) 52));have am:=Qaa (Qac (Qac aA hl.b) au);have ab:=Qaa (Qaf (Qaf ac hl.b) au);have ap:=Qaa (aO.past au);have aQ:Hid (mb<w2.heap.size):=Qaa hl.mp.lt;clear hl aP au aO af ac aA;go_upto_region 5 with fail;generalize w2.alloc _=W2 at HY am ab ap ⊢;generalize w2.heap.size=bl at HY aQ ⊢;have aE:Hid ((fun W:World=>W.heap[bl]?=some (.cells (QaO p mb) 52 (0,0))) W2.drew):=HY;have aq:Hid (Bw W2 W2.drew):=(ZZb _ _).drew;refine Qal (fun W:World=>W.heap[bl]?=some (.cells (QaO p mb) 52 (0,0))) 5 (by kernel_rfl) ?_;refine tkL 0 (.agg (QaO p mb)) aE (fun W hW=>?_) ?_
  ·obtain ⟨x0,x1,x2,x3,x4⟩:=Qa2 hW
   clear hW;go_simp
  refine tkL 1 (.agg (QaO p mb)) aE (fun W hW=>?_) ?_
  ·obtain ⟨x0,x1,x2,x3,x4⟩:=Qa2 hW
   clear hW;go_simp
  refine tkS 2 (.string mm) aE ?_;simp only [sX];refine onE 3 fun K hK=>?_;go_simp;refine (c_join p mm aS (ap.past aq)).mono ?_;rintro e w3 ⟨cj,rfl,hJ⟩;rw [aR.out,aY.out] at hJ;rcases hJ with ⟨j1,rfl,ak⟩ | ⟨j1,j2,rfl,ak⟩ | ⟨j1,j2,rfl,hS⟩
  ·subst j1
   have aj:=Qaa (Qac aq ak);have ad:=Qaa (Qaf HY aj);have HF:Hid (MbR S p mm 7 true B8 (QbL (S.map Sd.nm) mm) q0 (([]:List Sd).map Sd.key) 7):=Qaa (by unfold MbR;rw [if_neg (by rw [ag.out];simp)];rw [if_pos rfl];exact ⟨rfl,rfl,rfl⟩);clear ak;dsimp only;refine gK hK ad.out ?_;clear hK K
   try simp only [sX]
   refine onE 4 fun K hK=>?_;go_simp;refine (QeX p 7 (by decide)).mono ?_;rintro e w4 ⟨rfl,aa⟩;have ar:=Qaa (Qac aj aa);have ah:=Qaa (Qaf ad aa);have R4:=Qaa (Qaf ab ar);clear aa;dsimp only;refine gK hK ah.out ?_;clear hK K
   try simp only [sX]
   obtain ⟨y0,y1,y2,y3,y4,y5,y6⟩:=Qbv R4;obtain ⟨f0,f1,f2,f3,f4,f5,f6⟩:=fA7 R4;refine onE 5 fun K hK=>?_;go_simp;refine hK.out _ _ (fun h=>absurd rfl h) ?_;clear hK K
   try simp only [sX]
   refine dnE ?_ _;go_wp2;refine bodyPost_ret (v:=.agg (Qap (.slice none 0 0) q0 (.slice none 0 0) 7)) (by simp [results,results12,go_sem,y0,y1,y2,y3,y4,y5,y6]) rfl ?_;have hC:=CpP.sets7 (v0:=.slice none 0 0) (v1:=.int .i64 0) (v2:=.int .i64 0) (v3:=.int .i64 0) (v4:=.int .i64 0) (v5:=.slice none 0 0) (v6:=.int .i64 7) (fun j q=>by cases q) (LvO.nil _ _) (QkQ (Qac am ar));exact ⟨none,0,0,q0,[],7,rfl,HF,hC.r,hC.o,hC.b⟩
  ·subst j1
   subst j2;have aj:=Qaa (Qac aq ak);have ad:=Qaa (Qaf HY aj);have HF:Hid (MbR S p mm 7 false true (QbL (S.map Sd.nm) mm) q0 (([]:List Sd).map Sd.key) 8):=Qaa (by unfold MbR;rw [if_neg (by rw [ag.out];simp)];rw [if_neg (by simp),if_pos rfl];exact ⟨rfl,rfl,rfl⟩);clear ak;dsimp only;refine gK hK ad.out ?_;clear hK K
   try simp only [sX]
   refine onE 4 fun K hK=>?_;go_simp;refine (QeX p 8 (by decide)).mono ?_;rintro e w4 ⟨rfl,aa⟩;have ar:=Qaa (Qac aj aa);have ah:=Qaa (Qaf ad aa);have R4:=Qaa (Qaf ab ar);clear aa;dsimp only;refine gK hK ah.out ?_;clear hK K
   try simp only [sX]
   obtain ⟨y0,y1,y2,y3,y4,y5,y6⟩:=Qbv R4;obtain ⟨f0,f1,f2,f3,f4,f5,f6⟩:=fA7 R4;refine onE 5 fun K hK=>?_;go_simp;refine hK.out _ _ (fun h=>absurd rfl h) ?_;clear hK K
   try simp only [sX]
   refine dnE ?_ _;go_wp2;refine bodyPost_ret (v:=.agg (Qap (.slice none 0 0) q0 (.slice none 0 0) 8)) (by simp [results,results12,go_sem,y0,y1,y2,y3,y4,y5,y6]) rfl ?_;have hC:=CpP.sets7 (v0:=.slice none 0 0) (v1:=.int .i64 0) (v2:=.int .i64 0) (v3:=.int .i64 0) (v4:=.int .i64 0) (v5:=.slice none 0 0) (v6:=.int .i64 8) (fun j q=>by cases q) (LvO.nil _ _) (QkQ (Qac am ar));exact ⟨none,0,0,q0,[],8,rfl,HF,hC.r,hC.o,hC.b⟩
  ·subst j1
   subst j2;obtain ⟨n3,X,L,aN,hX,aJ,hA,aK,aB⟩:=hS;have a6:=a3.out;have a5:=aQ.out;have aX:=aC.out;have ad:Hid (w3.heap[bl]?=some (.cells (QaO p mb) 52 (0,0))):=Qaa (aB.row HY (fun e=>by omega));have R3:w3.heap[w.heap.size+1]?=some (.cells (Qap (.slice none 0 0) q0 (.slice none 0 0) 0) 37 (0,0)):=aB.row ab (fun e=>by omega);have HF:Hid (MbR S p mm 7 false false (QbL (S.map Sd.nm) mm) p (X.map Sd.key) 0):=Qaa (by unfold MbR;rw [if_neg (by rw [ag.out];simp),if_neg (by simp),if_neg (by simp)];exact ⟨rfl,rfl,L,hA,aK,hX.keys⟩);have ai:Bw w w3:=GrownS.below (Qac am aq) (Qac am aq).size aB (fun k e=>by omega);have ae:Qcd (QbL (S.map Sd.nm) mm):=QeW (QaW (Qbs (Qay HP).1));have aW:Hid (Qcd (X.map Sd.nm)):=Qaa (by rw [hX.nm];exact ae);have a0:X.length<=1000:=by have h1:=congrArg List.length hX.nm;rw [yA] at h1;rw [h1];exact QpJ _ _ _ (by rw [yA];have:=HQ.n;omega)
   have aZ:Hid (∀ s∈X,s.nm.size<=maxLen):=fun s hs=>by
    have h1:s.nm∈X.map Sd.nm:=List.mem_map.2 ⟨s,hs,rfl⟩;rw [hX.nm] at h1;rcases mem_insT.1 h1 with h | h
    ·rw [h];exact hzm
    ·have:=(QbZ (Qbx (Qbs (Qay HP).1) h)).2;unfold maxLen;omega
   have a4:=Qaa aN;have aU:=Qaa aJ;have aL:=Qaa ai;have a2:=Qaa R3;clear aN hX aJ hA aK aB ai ae R3;dsimp only;refine gK hK ad.out ?_;clear hK K
   try simp only [sX]
   refine onE 4 fun K hK=>?_;go_simp;refine (Qjr p a4 (List.Perm.refl X) aW a0 aZ).mono ?_;rintro e w4 ⟨av,cv,rfl,aI,aa⟩;have ah:=Qaa (Qaf ad aa);have R4:=Qaa (Qaf a2 aa);have al:Hid (LvO w4 (w.heap.size+1+1) X):=Qaa ((aU.past aa).le (by omega));have z3:=aL.size;have z4:w.heap.size+1+1<=w3.heap.size:=by have:=(ZZc.1 ad).1;omega
   have aV:Hid (CpP w w4 X (.slice av X.length cv) X):=Qaa ⟨aI.le z3,al.le (by omega),rfl,Qac aL aa⟩;have aH:Hid (∀ j,(Value.slice av X.length cv).ownBlock=some j->w.heap.size+1+1<=j):=fun j q=>Nat.le_trans z4 (World.ownsRow.lt aI j q).1;clear aI aa;dsimp only;refine gK hK ah.out ?_;clear hK K
   try simp only [sX]
   obtain ⟨y0,y1,y2,y3,y4,y5,y6⟩:=Qbv R4;obtain ⟨f0,f1,f2,f3,f4,f5,f6⟩:=fA7 R4;refine onE 5 fun K hK=>?_;go_simp;refine hK.out _ _ (fun h=>absurd rfl h) ?_;clear hK K
   try simp only [sX]
   refine dnE ?_ _;go_wp2;refine bodyPost_ret (v:=.agg (Qap (.slice av X.length cv) p (.slice none 0 0) 0)) (by simp [results,results12,go_sem,y0,y1,y2,y3,y4,y5,y6]) rfl ?_;have hC:=CpP.sets7 (v0:=.slice av X.length cv) (v1:=.int .i64 p.a) (v2:=.int .i64 p.b) (v3:=.int .i64 p.c) (v4:=.int .i64 p.d) (v5:=.slice none 0 0) (v6:=.int .i64 0) aH al aV;exact ⟨av,_,cv,p,X,0,rfl,HF,hC.r,hC.o,hC.b⟩
theorem Qe1 (p:Pi) (mm:ByteArray) (hzm:mm.size<=maxLen) (hm:MX w) (hI:PpI w ao N S) :
  Calls prog 14 #[.agg (Qad (.slice ao N ca) p),.string mm] w fun e w'=>MbA w S p mm 6 (!inK (S.map Sd.nm) mm) (decide (S.length=1)) (QaU (S.map Sd.nm) mm) e w':=by
 have HI:=Qaa hI;have HM:=Qaa hm;have a1:∀ (X:World) o,Bw X (X.alloc o):=fun X o=>bA;have k0:=ZZk w (.cells (Qad (.slice ao N ca) p) 25);have k1:=ZZk (w.alloc (.cells (Qad (.slice ao N ca) p) 25)) (.cells (Qap (.slice none 0 0) q0 (.slice none 0 0) 0) 37);simp only [World.size_alloc] at k1;have az:=Qaa (Qaf k0 (a1 _ (.cells (Qap (.slice none 0 0) q0 (.slice none 0 0) 0) 37)));have aw:=Qaa k1;have ax:=Qaa (Qac (a1 w (.cells (Qad (.slice ao N ca) p) 25)) (a1 _ (.cells (Qap (.slice none 0 0) q0 (.slice none 0 0) 0) 37)));obtain ⟨B7,aF⟩:∃ B,(!inK (S.map Sd.nm) mm)=B:=⟨_,rfl⟩;obtain ⟨B8,aG⟩:∃ B,(decide (S.length=1))=B:=⟨_,rfl⟩;rw [aF,aG];have aR:=Qaa aF;have aY:=Qaa aG;clear hI hm a1 k0 k1 aF aG;go_enter func14,ntmps14;go_upto_region 1 with fail;generalize (w.alloc _).alloc _=W0 at az aw ax ⊢;have aM:w.heap.size+1+1<=W0.heap.size:=(ZZc.1 aw).1;have aT:=Qaa aM;clear aM;obtain ⟨x0,x1,x2,x3,x4⟩:=Qa2 az;go_wp2_with fail;clear x0 x1 x2 x3 x4;refine (Qe7 p mm hzm (HM.past ax) (HI.past ax)).mono ?_;rintro e w1 ⟨rfl,an⟩;have af:=Qaa (Qaf az an);have ac:=Qaa (Qaf aw an);have aA:=Qaa (Qac ax an);have aC:=Qaa (Nat.le_trans aT an.size);clear an az aw;obtain ⟨cd,aD⟩:∃ cd,mfC S p mm=cd:=⟨_,rfl⟩;rw [aD];have ag:=Qaa aD;clear aD;by_cases hc:cd=0
 case neg=>
  have hb:(cd != 0)=true:=by simpa using hc
  have hd:decide (cd=0)=false:=ZZg hc;have HF:Hid (MbR S p mm 6 B7 B8 (QaU (S.map Sd.nm) mm) q0 (([]:List Sd).map Sd.key) cd):=Qaa (by unfold MbR;rw [if_pos (by rw [ag.out];exact hc)];exact ⟨ag.symm,rfl,rfl⟩);have R1:=ac.out;obtain ⟨y0,y1,y2,y3,y4,y5,y6⟩:=Qbv R1;obtain ⟨f0,f1,f2,f3,f4,f5,f6⟩:=fA7 R1;clear R1 af ac;go_wp2;refine bodyPost_ret (v:=.agg (Qap (.slice none 0 0) q0 (.slice none 0 0) cd)) (by simp [results,results14,go_sem,y0,y1,y2,y3,y4,y5,y6]) rfl ?_;have hC:=CpP.sets7 (v0:=.slice none 0 0) (v1:=.int .i64 0) (v2:=.int .i64 0) (v3:=.int .i64 0) (v4:=.int .i64 0) (v5:=.slice none 0 0) (v6:=.int .i64 cd) (fun j q=>by cases q) (LvO.nil _ _) (QkQ aA);exact ⟨none,0,0,q0,[],cd,rfl,HF,hC.r,hC.o,hC.b⟩
 case pos=>
  subst hc
  have ay:Qbi S p=true/\QaB mm=true:=by
   have h:=ag.out;unfold mfC at h
   split at h
   ·cases h
   ·split at h
    ·cases h
    ·rename_i q
     refine ⟨?_,?_⟩
     ·cases e:Qbi S p
      ·exact absurd (.inl e) q
      ·rfl
     ·cases e:QaB mm
      ·exact absurd (.inr e) q
      ·rfl
  have HP:=Qaa ay.1;have aS:=Qaa ay.2;have HQ:=Qaa (HI.qs ay.1);clear ay;obtain ⟨x0,x1,x2,x3,x4⟩:=Qa2 af;go_wp2_with fail;clear x0 x1 x2 x3 x4;refine (Qjf p HI.n (by have:=HQ.n;have:=HI.n;omega) HI.sm.l HI.sm.sm (fun s hs c hc=>(HI.ok s hs c hc).2.2) (fun s hs=>by have:=HI.sm.nz s hs;unfold maxLen;omega) (Qmi (Qay HP).1) (QaF HI.at' aA)).mono ?_;rintro e w2 ⟨mb,rfl,Bm,M,hl⟩;have aP:M.map Sd.key=S.map Sd.key:=by have:=hl.ky;rw [List.take_of_length_le (by have:=HI.n;omega)] at this;exact this
  have aO:Hid (LvH w2 mb N Bm M S p):=Qaa ⟨hl.mp,by have:=HQ.n;have:=HI.n;omega,hl.o,hl.lt,hl.bm,aP,HQ,HP⟩;have a3:Hid (w1.heap.size<=mb):=Qaa hl.le;have au:Bw w2 (w2.alloc (.cells (QaO p mb) 52)):=bA;have HY:=Qaa (ZZk w2 (.cells (QaO p mb) 52));have am:=Qaa (Qac (Qac aA hl.b) au);have ab:=Qaa (Qaf (Qaf ac hl.b) au);have ap:=Qaa (aO.past au);have aQ:Hid (mb<w2.heap.size):=Qaa hl.mp.lt;clear hl aP au aO af ac aA;go_upto_region 5 with fail;generalize w2.alloc _=W2 at HY am ab ap ⊢;generalize w2.heap.size=bl at HY aQ ⊢;have aE:Hid ((fun W:World=>W.heap[bl]?=some (.cells (QaO p mb) 52 (0,0))) W2.drew):=HY;have aq:Hid (Bw W2 W2.drew):=(ZZb _ _).drew;refine Qal (fun W:World=>W.heap[bl]?=some (.cells (QaO p mb) 52 (0,0))) 5 (by kernel_rfl) ?_;refine tkL 0 (.agg (QaO p mb)) aE (fun W hW=>?_) ?_
  ·obtain ⟨x0,x1,x2,x3,x4⟩:=Qa2 hW
   clear hW;go_simp
  refine tkL 1 (.agg (QaO p mb)) aE (fun W hW=>?_) ?_
  ·obtain ⟨x0,x1,x2,x3,x4⟩:=Qa2 hW
   clear hW;go_simp
  refine tkS 2 (.string mm) aE ?_;simp only [sX];refine onE 3 fun K hK=>?_;go_simp;refine (QtN p mm aS (ap.past aq)).mono ?_;rintro e w3 ⟨cj,rfl,hJ⟩;rw [aR.out,aY.out] at hJ;rcases hJ with ⟨j1,rfl,ak⟩ | ⟨j1,j2,rfl,ak⟩ | ⟨j1,j2,rfl,hS⟩
  ·subst j1
   have aj:=Qaa (Qac aq ak);have ad:=Qaa (Qaf HY aj);have HF:Hid (MbR S p mm 6 true B8 (QaU (S.map Sd.nm) mm) q0 (([]:List Sd).map Sd.key) 6):=Qaa (by unfold MbR;rw [if_neg (by rw [ag.out];simp)];rw [if_pos rfl];exact ⟨rfl,rfl,rfl⟩);clear ak;dsimp only;refine gK hK ad.out ?_;clear hK K
   try simp only [sX]
   refine onE 4 fun K hK=>?_;go_simp;refine (QeX p 6 (by decide)).mono ?_;rintro e w4 ⟨rfl,aa⟩;have ar:=Qaa (Qac aj aa);have ah:=Qaa (Qaf ad aa);have R4:=Qaa (Qaf ab ar);clear aa;dsimp only;refine gK hK ah.out ?_;clear hK K
   try simp only [sX]
   obtain ⟨y0,y1,y2,y3,y4,y5,y6⟩:=Qbv R4;obtain ⟨f0,f1,f2,f3,f4,f5,f6⟩:=fA7 R4;refine onE 5 fun K hK=>?_;go_simp;refine hK.out _ _ (fun h=>absurd rfl h) ?_;clear hK K
   try simp only [sX]
   refine dnE ?_ _;go_wp2;refine bodyPost_ret (v:=.agg (Qap (.slice none 0 0) q0 (.slice none 0 0) 6)) (by simp [results,results14,go_sem,y0,y1,y2,y3,y4,y5,y6]) rfl ?_;have hC:=CpP.sets7 (v0:=.slice none 0 0) (v1:=.int .i64 0) (v2:=.int .i64 0) (v3:=.int .i64 0) (v4:=.int .i64 0) (v5:=.slice none 0 0) (v6:=.int .i64 6) (fun j q=>by cases q) (LvO.nil _ _) (QkQ (Qac am ar));exact ⟨none,0,0,q0,[],6,rfl,HF,hC.r,hC.o,hC.b⟩
  ·subst j1
   subst j2;have aj:=Qaa (Qac aq ak);have ad:=Qaa (Qaf HY aj);have HF:Hid (MbR S p mm 6 false true (QaU (S.map Sd.nm) mm) q0 (([]:List Sd).map Sd.key) 8):=Qaa (by unfold MbR;rw [if_neg (by rw [ag.out];simp)];rw [if_neg (by simp),if_pos rfl];exact ⟨rfl,rfl,rfl⟩);clear ak;dsimp only;refine gK hK ad.out ?_;clear hK K
   try simp only [sX]
   refine onE 4 fun K hK=>?_;go_simp;refine (QeX p 8 (by decide)).mono ?_;rintro e w4 ⟨rfl,aa⟩;have ar:=Qaa (Qac aj aa);have ah:=Qaa (Qaf ad aa);have R4:=Qaa (Qaf ab ar);clear aa;dsimp only;refine gK hK ah.out ?_;clear hK K
   try simp only [sX]
   obtain ⟨y0,y1,y2,y3,y4,y5,y6⟩:=Qbv R4;obtain ⟨f0,f1,f2,f3,f4,f5,f6⟩:=fA7 R4;refine onE 5 fun K hK=>?_;go_simp;refine hK.out _ _ (fun h=>absurd rfl h) ?_;clear hK K
   try simp only [sX]
   refine dnE ?_ _;go_wp2;refine bodyPost_ret (v:=.agg (Qap (.slice none 0 0) q0 (.slice none 0 0) 8)) (by simp [results,results14,go_sem,y0,y1,y2,y3,y4,y5,y6]) rfl ?_;have hC:=CpP.sets7 (v0:=.slice none 0 0) (v1:=.int .i64 0) (v2:=.int .i64 0) (v3:=.int .i64 0) (v4:=.int .i64 0) (v5:=.slice none 0 0) (v6:=.int .i64 8) (fun j q=>by cases q) (LvO.nil _ _) (QkQ (Qac am ar));exact ⟨none,0,0,q0,[],8,rfl,HF,hC.r,hC.o,hC.b⟩
  ·subst j1
   subst j2;obtain ⟨n3,X,L,aN,hX,aJ,hA,aK,aB⟩:=hS;have a6:=a3.out;have a5:=aQ.out;have aX:=aC.out;have ad:Hid (w3.heap[bl]?=some (.cells (QaO p mb) 52 (0,0))):=Qaa (aB.row HY (fun e=>by omega));have R3:w3.heap[w.heap.size+1]?=some (.cells (Qap (.slice none 0 0) q0 (.slice none 0 0) 0) 37 (0,0)):=aB.row ab (fun e=>by omega);have HF:Hid (MbR S p mm 6 false false (QaU (S.map Sd.nm) mm) p (X.map Sd.key) 0):=Qaa (by unfold MbR;rw [if_neg (by rw [ag.out];simp),if_neg (by simp),if_neg (by simp)];exact ⟨rfl,rfl,L,hA,aK,hX.keys⟩);have ai:Bw w w3:=GrownS.below (Qac am aq) (Qac am aq).size aB (fun k e=>by omega);have ae:Qcd (QaU (S.map Sd.nm) mm):=(QaW (Qbs (Qay HP).1)).sublist List.filter_sublist;have aW:Hid (Qcd (X.map Sd.nm)):=Qaa (by rw [hX.nm];exact ae);have a0:X.length<=1000:=by have h1:=congrArg List.length hX.nm;rw [yA] at h1;rw [h1];exact Nat.le_trans (List.length_filter_le _ _) (by rw [yA];have:=HQ.n;omega)
   have aZ:Hid (∀ s∈X,s.nm.size<=maxLen):=fun s hs=>by
    have h1:s.nm∈X.map Sd.nm:=List.mem_map.2 ⟨s,hs,rfl⟩;rw [hX.nm] at h1;have:=(QbZ (Qbx (Qbs (Qay HP).1) ((List.mem_filter.1 h1).1))).2;unfold maxLen;omega
   have a4:=Qaa aN;have aU:=Qaa aJ;have aL:=Qaa ai;have a2:=Qaa R3;clear aN hX aJ hA aK aB ai ae R3;dsimp only;refine gK hK ad.out ?_;clear hK K
   try simp only [sX]
   refine onE 4 fun K hK=>?_;go_simp;refine (Qjr p a4 (List.Perm.refl X) aW a0 aZ).mono ?_;rintro e w4 ⟨av,cv,rfl,aI,aa⟩;have ah:=Qaa (Qaf ad aa);have R4:=Qaa (Qaf a2 aa);have al:Hid (LvO w4 (w.heap.size+1+1) X):=Qaa ((aU.past aa).le (by omega));have z3:=aL.size;have z4:w.heap.size+1+1<=w3.heap.size:=by have:=(ZZc.1 ad).1;omega
   have aV:Hid (CpP w w4 X (.slice av X.length cv) X):=Qaa ⟨aI.le z3,al.le (by omega),rfl,Qac aL aa⟩;have aH:Hid (∀ j,(Value.slice av X.length cv).ownBlock=some j->w.heap.size+1+1<=j):=fun j q=>Nat.le_trans z4 (World.ownsRow.lt aI j q).1;clear aI aa;dsimp only;refine gK hK ah.out ?_;clear hK K
   try simp only [sX]
   obtain ⟨y0,y1,y2,y3,y4,y5,y6⟩:=Qbv R4;obtain ⟨f0,f1,f2,f3,f4,f5,f6⟩:=fA7 R4;refine onE 5 fun K hK=>?_;go_simp;refine hK.out _ _ (fun h=>absurd rfl h) ?_;clear hK K
   try simp only [sX]
   refine dnE ?_ _;go_wp2;refine bodyPost_ret (v:=.agg (Qap (.slice av X.length cv) p (.slice none 0 0) 0)) (by simp [results,results14,go_sem,y0,y1,y2,y3,y4,y5,y6]) rfl ?_;have hC:=CpP.sets7 (v0:=.slice av X.length cv) (v1:=.int .i64 p.a) (v2:=.int .i64 p.b) (v3:=.int .i64 p.c) (v4:=.int .i64 p.d) (v5:=.slice none 0 0) (v6:=.int .i64 0) aH al aV;exact ⟨av,_,cv,p,X,0,rfl,HF,hC.r,hC.o,hC.b⟩
end Go.Proofs.YtlejlgldgafljaaGreatDoor
