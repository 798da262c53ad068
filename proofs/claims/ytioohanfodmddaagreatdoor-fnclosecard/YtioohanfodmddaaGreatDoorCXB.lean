/-
 Parts.
-/
import Derived.Test.YtioohanfodmddaaGreatDoorCXA
import Derived.Test.YtioohanfodmddaaGreatDoorCPB
set_option maxRecDepth 10000
set_option maxHeartbeats 16000000
set_option linter.all false
namespace Go.Proofs.YtioohanfodmddaaGreatDoor
open Go.ChangeShapes Go.WideShapes Go.ChangeAt Go.RowKit Go.PlainAid Go.Lib Go.Maps Tryz
theorem mCm {p:Prop} (h:p:=by go_wp2;go_ret;exact ⟨by rw [HE.out];rfl,ac⟩):p:=h
structure MgD (a b R:List Ce):Prop where
 asc:AscC R
 pm:(R.map Ce.key).Perm ((a ++ b).map Ce.key)
def MdA (w:World) (a b:List Ce) (e:Ending) (w':World):Prop:=
 ∃ v R,e=.returned (.tuple #[v,.bool true])/\MgD a b R/\OwnC w' w.heap.size v R/\CesO w' w.heap.size R/\v≠.slice none 0 0/\Bw w w'
structure MdJ (w wr:World) (a b:List Ce) (k:Nat) (vo:Value) (R:List Ce) (vm:Value) (Mo:List Ce):Prop where
 r:OwnC wr w.heap.size vo R
 m:OwnC wr w.heap.size vm Mo
 ap:ApV vo vm
 o:CesO wr w.heap.size (R ++ Mo.drop k)
 asc:AscC R
 pm:(R.map Ce.key).Perm ((a ++ b.take k).map Ce.key)
 ne:vo≠.slice none 0 0
 b:Bw w wr
variable {w wr:World}
variable {L Mo R a b:List Ce}
variable {N ca cp k:Nat}
variable {v vm vo:Value}
theorem MdJ.past {w':World} (h:MdJ w wr a b k vo R vm Mo) (hb:Bw wr w'):MdJ w w' a b k vo R vm Mo:=
 ⟨h.r.past hb,h.m.past hb,h.ap,h.o.past hb,h.asc,h.pm,h.ne,Qac h.b hb⟩
variable {ao:Option Addr}
theorem MdJ.at {n:Nat} (h:MdJ w wr a b k (.slice ao n cp) R vm Mo):QbG wr ao R:=OwnC.at h.r (fun c hc=>(h.o.o c (List.mem_append_left _ hc)).at)
theorem MdJ.len (h:MdJ w wr a b k vo R vm Mo):R.length=a.length+(b.take k).length:=by
 have:=h.pm.length_eq;rw [yA,yA,List.length_append] at this;exact this
variable {c cb d:Ce}
theorem Qt1 (h:c.key=d.key):c.n=d.n/\c.s=d.s:=⟨(QnG h).1,(QnG h).2.1⟩
theorem MdJ.no (h:MdJ w wr a b k vo R vm Mo) (dj:∀ c∈b,¬ Qoc a c.n c.s) (ab:AscC b) (hb:b[k]?=some cb) (ek:c.key=cb.key) (hd:d∈R) (e1:d.n=c.n) (e2:d.s=c.s):False:=by
 obtain ⟨k1,k2⟩:=Qt1 ek;have hm:d.key∈(a ++ b.take k).map Ce.key:=h.pm.mem_iff.1 (List.mem_map_of_mem hd);obtain ⟨x,hx,ex⟩:=List.mem_map.1 hm;obtain ⟨x1,x2⟩:=Qt1 ex;rcases List.mem_append.1 hx with hx | hx
 ·exact dj cb (List.mem_of_getElem? hb) ⟨x,hx,by rw [x1,e1,k1],by rw [x2,e2,k2]⟩
 ·have hk:=(ZZd.1 hb).1
  have e:b=b.take k ++ cb :: b.drop (k+1):=by
   have h1:=(List.take_append_drop k b).symm;rw [List.drop_eq_getElem_cons hk,(List.getElem?_eq_some_iff.1 hb).2] at h1;exact h1
  have aa:=ab;unfold AscC at aa;rw [e,List.pairwise_append] at aa;exact Qtm (aa.2.2 x hx cb oE) ⟨by rw [x1,e1,k1],by rw [x2,e2,k2]⟩
theorem MdJ.ins {i:Nat} (h:MdJ w wr a b k vo R vm Mo) (hc:Mo[k]?=some c) (hb:b[k]?=some cb) (ek:c.key=cb.key) (hp:PlcA R c.n c.s i false) {w9:World} {v9:Value} (hi:InsI w w9 v9 ((R.take i ++ [c]) ++ R.drop i) vo R vm Mo (R ++ Mo.drop k)) :
  MdJ w w9 a b (k+1) v9 ((R.take i ++ [c]) ++ R.drop i) vm Mo:=by
 have p2:((R.take i ++ [c]) ++ R.drop i).Perm (c :: R):=by
  have e:(R.take i ++ [c]) ++ R.drop i=R.take i ++ c :: R.drop i:=by rw [List.append_assoc];rfl
  rw [e];refine List.perm_middle.trans ?_;rw [List.take_append_drop]
 refine ⟨hi.n,hi.m,hi.a2,hi.o.perm ?_,?_,?_,hi.ne,hi.b⟩
 ·rw [Qnc hc]
  have p1:(R ++ c :: Mo.drop (k+1)).Perm (c :: (R ++ Mo.drop (k+1))):=List.perm_middle;exact p1.trans ((p2.append_right _).symm)
 ·rw [Qfc h.asc hp,(QqM h.asc hp).1,List.append_assoc]
  exact Qlu h.asc
 ·refine (p2.map Ce.key).trans ?_
  rw [List.take_add_one,hb,<- List.append_assoc,List.map_append,List.map_cons,ek];refine (List.Perm.cons _ h.pm).trans ?_;exact (List.perm_append_singleton _ _).symm
theorem Qer {bo:Option Addr} {K cb:Nat} (hI:ShI w ao N a) (hJ:ShI w bo K b) (hasc:AscC a) (hab:AscC b) (hdj:∀ c∈b,¬ Qoc a c.n c.s) (sN:N<=2000) (sK:K<=2000) :
  Calls prog 27 #[.slice ao N ca,.slice bo K cb] w (MdA w a b):=by
 obtain ⟨i0,hi,aH,aE,aF⟩:=Qeb;have II:=Qaa hI;have JJ:=Qaa hJ;have AS:=Qaa hasc;have AB:=Qaa hab;have DJ:=Qaa hdj;have aA:Hid (∀ (X:World) o,Bw X (X.alloc o)):=fun X o=>bAA;clear hI hJ hasc hab hdj;go_enter func27,ntmps27;go_wp2_with fail;refine (Qca II.hN II.lN II.sm II.pl II.mem).mono ?_;rintro e w1 ⟨v1,A1,rfl,a4,aZ,aQ,aY,a3⟩;have aJ:=Qaa a4;have a6:=Qaa aZ;have aP:=Qaa aQ;have ax:=Qaa aY;have aS:=Qaa a3;clear a4 aZ aQ aY a3;go_wp2_with fail;refine (Qca JJ.hN JJ.lN JJ.sm JJ.pl (QaL JJ.mem ax)).mono ?_;rintro e w2 ⟨v2,Mo,rfl,aw,aR,aK,af,bg⟩;obtain ⟨mo,mc,rfl,_⟩:=aw.form;have aO:Mo.length=K:=(Qg7 aK).trans JJ.hN;have aL:=Qaa aO;have bh:=Qaa aK;rw [aO] at aw ⊢
 have I0:Hid (MdJ w w2 a b 0 v1 A1 (.slice mo K mc) Mo):=by
  refine ⟨aJ.past af,aw.le ax.size,fun j h1 h2=>?_,?_,Qek aP AS,by rw [List.take_zero,List.append_nil,aP.out],aS,Qac ax af⟩
  ·have l1:=(World.ownsRow.lt aJ j h1).2
   have l2:=(World.ownsRow.lt aw j h2).1;omega
  ·rw [List.drop_zero];exact a6.app af ax.size aR
 have lN:=II.lN;have lK:=JJ.lN;clear aw aR aK af bg aO aJ a6 aP ax aS;go_wp2
 go_loopw [6,8] (fun vo i wr=>∃ (k:Nat) (R:List Ce),k<=K/\i=.int .i64 k/\Hid (MdJ w wr a b k vo R (.slice mo K mc) Mo)) (fun vo i wr=>K - (Go.RowKit.intOf i).toNat)
 case atStart=>exact ⟨0,A1,ZZj _,rfl,I0⟩
 case round=>
  clear I0;obtain ⟨k,R,hk,rfl,HI⟩:=hrel;obtain ⟨g,cp,ev,_⟩:=HI.r.src HI.ne;subst ev;have bb:R.length<=N+k:=by have h1:=HI.len;have h2:=List.length_take_le k b;have:=II.hN;omega
  have bs:R.length<=cp:=QiS HI.r;have bw:cp<=9223372036854775807:=Qi6 HI.r;obtain ⟨n,hn⟩:∃ n,R.length=n:=⟨_,rfl⟩;rw [hn] at HI bb bs ⊢;have ar:=Qaa hn;clear hn;by_cases a9:k<K
  ·have be:(k:Int)<(K:Int):=by omega
   obtain ⟨c,hc⟩:∃ c,Mo[k]?=some c:=⟨Mo[k]'(oA aL.out),ZZe _⟩;obtain ⟨bc,aN⟩:∃ c,b[k]?=some c:=⟨b[k]'(oA JJ.hN),ZZe _⟩
   have ek:c.key=bc.key:=by
    have e2:(Mo.map Ce.key)[k]?=(b.map Ce.key)[k]?:=by rw [bh.out]
    rw [List.getElem?_map,List.getElem?_map,hc,aN] at e2
    simpa using e2
   have aI:OwnC wr w.heap.size (.slice mo K mc) Mo:=HI.m;obtain ⟨gm,cm,em⟩:=Qb3 aI (oA aL.out);injection em with em1 em2 em3;subst em1;rw [<- aL.out] at aI;have a5:=Qe5 aI hc;rw [Nat.zero_add] at a5;obtain ⟨x0,x1,x2,x3,x4,x5,x6,x7,x8,x9,bv,bi,bj,bf,br⟩:=a5;have HC:=Qaa hc;have aM:=Qaa aN;have EK:=Qaa ek;have a0:c∈R ++ Mo.drop k:=List.mem_append_right _ (by rw [Qnc hc];simp);have AC:=Qaa (HI.o.o c a0);have X1:=Qaa (ZZk wr (.cells (Qao c) 46));have aD:=Qaa (HI.past (aA.out wr (.cells (Qao c) 46)));have A1:=Qaa (AC.past (aA.out wr (.cells (Qao c) 46)));clear hc aN ek aI a0 em2 em3;go_upto_region 7 with fail;clear x0 x1 x2 x3 x4 x5 x6 x7 x8 x9 bv bi bj bf br;generalize wr.alloc _=W1 at X1 aD A1 ⊢;generalize wr.heap.size=rc at X1 ⊢;clear HI AC;have x0:=QaG X1 0 rfl;have x1:=QaG X1 1 rfl;go_wp2_with fail;clear x0 x1;refine (Qfq c.n c.s ar oB aD.at).mono ?_;rintro e w2 ⟨kk,is,rfl,hp,af⟩;have HP:=Qaa hp;have ae:=Qaa (aD.past af);have A2:=Qaa (A1.past af);have X2:=Qaa (QbH X1 af);have a2:kk<=n:=by have:=hp.le;have:=ar.out;omega
   clear hp af aD A1 X1
   cases is with
   | true=>
    obtain ⟨d,hd,bp,e1,e2,_⟩:=QlC ae.asc HP;exact absurd (ae.no DJ AB aM EK bp e1 e2) (fun h=>h)
   | false=>
    go_upto_region 8 with fail;have ad:(fun _=>True) w2.drew:=trivial;refine Qal (fun _=>True) 99 oG ?_;refine tkS 0 (.bool false) ad ?_;refine tkS 1 (.bool false) ad ?_;refine tkU 2 ad ?_;simp only [sX];refine tkU 3 ad ?_;refine tkU 4 ad ?_;refine tkU 5 ad ?_;simp only [sX];refine tkU 6 ad ?_;refine tkU 7 ad ?_;refine tkU 8 ad ?_;simp only [sX];refine tkU 9 ad ?_;refine tkU 10 ad ?_;refine tkU 11 ad ?_;simp only [sX];refine tkS 12 (.bool false) ad ?_;simp only [sX];refine dnE ?_ _;have bA:(0:Int)<=(kk:Int):=oB
    have bx:(kk:Int)<=(cp:Int):=oB
    have bu:(kk:Int)<=(n:Int):=oB
    have aG:Hid (InsI w (w2.alloc (.cells #[] 46)) (.slice (some ⟨w2.heap.size,0,none⟩) 0 0) [] (.slice (some ⟨g,0,none⟩) n cp) R (.slice (some ⟨gm,0,none⟩) K mc) Mo (R ++ Mo.drop k)):=by
     have al:=aA.out w2 (.cells #[] 46);refine ⟨(OwnC.made w2 #[] rfl).le ae.b.size,ae.r.past al,ae.m.past al,fun j h1 h2=>?_,fun j h1 h2=>?_,ae.ap,ae.o.past al,Qac ae.b al,fun e=>by cases e⟩
     ·injection h1 with h1;have:=(World.ownsRow.lt ae.r j h2).2;simp only at h1;omega
     ·injection h1 with h1;have:=(World.ownsRow.lt ae.m j h2).2;simp only at h1;omega
    have a8:(R.take kk).length=kk:=by rw [List.length_take];have:=ar.out;omega
    have am:=Qaa a8;clear a8;have ba:w.heap.size<=w2.heap.size:=ae.b.size;have X3:=Qaa (QbH X2 (aA.out w2 (.cells #[] 46)));go_wp2_with (at_builtin;refine wpList_append_own_at _ rfl _ _ 27 rfl w.heap.size 46 i0 (.agg Qbo) 15 192 underlying27 hi aH aE aF rfl oF _ _ _ rfl aG.n ⟨g,0,none⟩ kk cp (flC (R.take kk)) rfl ?c0 (Qsz aG.r ar a2) (Qc3 _) ?c3 ?c4 ?c5 ?_)
    case c0=>rw [Qbn,am.out]
    case c3=>unfold maxLen;omega
    case c4=>omega
    case c5=>omega
    intro v5 w5 ai aq ah ag;have aC:=Qaa (aG.app (G:=R.take kk) (v':=v5) (w1:=w5) (by rw [am.out];simpa using ai) ⟨aq.os,aq.tape,aq.output,aq.size,aq.block⟩ (by rw [am.out];simpa using ah) (by simpa using ag));have X5:Hid (w5.heap[rc]?=_):=(aq.block rc (Array.getElem?_eq_some_iff.1 X3).1 (fun e=>by injection e with e;have:=(Array.getElem?_eq_some_iff.1 X2).1;simp only at e;omega)).trans X3;clear ai aq ah ag aG X3;obtain ⟨q0,q1,q2,q3,q4,q5,q6,q7,q8,q9,bd,bn,bl,bm,bk⟩:=Qu3 X5;have aU:=Qaa (aC.past (aA.out w5 (.cells (Qao c) 46)));have bt:w.heap.size<=w5.heap.size:=aC.b.size;have bq:Hid (([] ++ R.take kk).length=kk):=by rw [List.nil_append];exact am.out
    have a1:w5.ownsRow w.heap.size 46 15 v5 kk (flC (R.take kk)):=by have:=aC.n;rw [List.nil_append] at this;unfold OwnC at this;rw [am.out] at this;exact this
    have aV:=Qaa a1;clear a1;go_wp2_with (at_builtin;refine wpList_append_own_at _ rfl _ _ 27 rfl w.heap.size 46 i0 (.agg Qbo) 15 192 underlying27 hi aH aE aF rfl oF _ _ _ rfl (World.ownsRow.alloc aV _) ⟨w5.heap.size,0,none⟩ 1 1 (ceL c) rfl rfl ?c1 (QcG _) ?c3 ?c4 ?c5 ?_)
    case c1=>exact QbD
    case c3=>unfold maxLen;omega
    case c4=>omega
    case c5=>simp;omega
    intro v7 w7 an aX aj ak;have av:=Qaa (aU.app (G:=[c]) (v':=v7) (w1:=w7) (by rw [bq.out,List.nil_append,QiG];exact an) aX (by simpa using aj) (by simpa using ak));clear an aX aj ak aC aU aV X5 q0 q1 q2 q3 q4 q5 q6 q7 q8 q9 bd bn bl bm bk;have ay:w.heap.size<=w7.heap.size:=av.b.size;have aT:(R.drop kk).length=n - kk:=by rw [List.length_drop,ar.out]
    have au:=Qaa aT;clear aT;have a7:w7.ownsRow w.heap.size 46 15 v7 (kk+1) (flC (R.take kk ++ [c])):=by have:=av.n;rw [List.nil_append] at this;unfold OwnC at this;rw [List.length_append,am.out] at this;exact this
    have aW:=Qaa a7;clear a7;by_cases bz:cp=kk
    ·go_wp2_with (at_builtin;refine wpList_append_own_at _ rfl _ _ 27 rfl w.heap.size 46 i0 (.agg Qbo) 15 192 underlying27 hi aH aE aF rfl oF _ _ _ rfl aW ⟨g,0,none⟩ (n - kk) 0 (flC (R.drop kk)) rfl ?c0 (QrJ (oA ar.out)) (Qc3 _) ?c3 ?c4 ay ?_)
     case c0=>rw [Qbn,au.out]
     case c3=>unfold maxLen;omega
     case c4=>omega
     intro v9 w9 ac aB ab aa;have az:=Qaa (av.app (G:=R.drop kk) (v':=v9) (w1:=w9) OM aB (by rw [au.out];exact ab) aa);rw [List.nil_append] at az;have HF:=Qaa (ae.ins HC aM EK HP az);clear ac aB ab aa;go_wp2;go_roundw
     case rel=>exact ⟨k+1,_,by omega,by go_num,HF⟩
     case measure=>simp [zI];omega
    ·go_wp2_with (at_builtin;refine wpList_append_own_at _ rfl _ _ 27 rfl w.heap.size 46 i0 (.agg Qbo) 15 192 underlying27 hi aH aE aF rfl oF _ _ _ rfl aW ⟨g,kk*15,none⟩ (n - kk) (cp - kk) (flC (R.drop kk)) rfl ?c0 (QrC av.r ar a2) (Qc3 _) ?c3 ?c4 ay ?_)
     case c0=>rw [Qbn,au.out]
     case c3=>unfold maxLen;omega
     case c4=>omega
     intro v9 w9 ac aB ab aa;have az:=Qaa (av.app (G:=R.drop kk) (v':=v9) (w1:=w9) OM aB (by rw [au.out];exact ab) aa);rw [List.nil_append] at az;have HF:=Qaa (ae.ins HC aM EK HP az);clear ac aB ab aa;go_wp2;go_roundw
     case rel=>exact ⟨k+1,_,by omega,by go_num,HF⟩
     case measure=>simp [zI];omega
  ·obtain rfl:k=K:=by omega
   have eb:b.take k=b:=List.take_of_length_le (oA JJ.hN);have HF:Hid (MgD a b R/\OwnC wr w.heap.size (.slice (some ⟨g,0,none⟩) n cp) R/\CesO wr w.heap.size R):=⟨⟨HI.asc,by have:=HI.pm;rw [eb] at this;exact this⟩,HI.r,HI.o.sub (List.sublist_append_left _ _)⟩;clear eb hk a9;go_wp2;go_ret2;exact ⟨_,R,rfl,HF.1,HF.2.1,HF.2.2,(fun e=>by cases e),HI.b⟩
def QaK (S:List Sd):List Ce:=S.flatMap Sd.L
variable {M S:List Sd}
variable {s:Sd}
theorem Qg5 (h:S[k]?=some s):QaK (S.take (k+1))=QaK (S.take k) ++ s.L:=by
 unfold QaK;rw [List.take_add_one,h,List.flatMap_append];simp
theorem Qbt (h:c∈QaK S):∃ s∈S,c∈s.L:=by
 unfold QaK at h;exact List.mem_flatMap.1 h
theorem Qgh (n:Nat) (h:∀ s∈S,s.L.length<=n):(QaK S).length<=S.length*n:=by
 induction S with
 | nil=>simp [QaK]
 | cons s S ih=>
  have h1:=ih (fun t ht=>h t (ZZm _ ht));have h2:=h s (List.mem_cons_self);unfold QaK at h1 ⊢;rw [List.flatMap_cons,List.length_append,List.length_cons,Nat.add_mul];omega
structure QS (S:List Sd):Prop where
 ok:∀ s∈S,∀ c∈s.L,AgOk c.g/\AgSm c.g/\c.s.size<=maxLen/\PlG c.g c.p
 l:∀ s∈S,s.L.length<=60
 asc:∀ s∈S,AscC s.L
 n:S.length<=12
 dj:∀ k s,S[k]?=some s->∀ c∈s.L,¬ Qoc (QaK (S.take k)) c.n c.s
structure LaI (w wr:World) (S:List Sd) (k:Nat) (v:Value) (R:List Ce):Prop where
 r:OwnC wr w.heap.size v R
 o:CesO wr w.heap.size R
 asc:AscC R
 pm:(R.map Ce.key).Perm ((QaK (S.take k)).map Ce.key)
 ne:v≠.slice none 0 0
 b:Bw w wr
theorem LaI.mem (h:LaI w wr S k v R) (hc:c∈R):∃ s∈S,∃ d∈s.L,d.n=c.n/\d.s=c.s/\d.g=c.g:=by
 have hm:c.key∈(QaK (S.take k)).map Ce.key:=h.pm.mem_iff.1 (List.mem_map_of_mem hc);obtain ⟨d,hd,e⟩:=List.mem_map.1 hm;obtain ⟨s,hs,hd⟩:=Qbt hd;obtain ⟨e1,e2,e3⟩:=QnG e;exact ⟨s,ZZo hs,d,hd,e1,e2,e3⟩
theorem LaI.len (h:LaI w wr S k v R) (q:QS S):R.length<=720:=by
 have h1:=h.pm.length_eq;rw [yA,yA] at h1;have h2:=Qgh (S:=S.take k) 60 (fun s hs=>q.l s (ZZo hs));have h3:=q.n;have h4:(S.take k).length<=S.length:=by rw [List.length_take];omega
 omega
theorem LaI.hask {n:Int} {s:ByteArray} (h:LaI w wr S k v R) (hk:Qoc R n s):Qoc (QaK (S.take k)) n s:=by
 obtain ⟨c,hc,e1,e2⟩:=hk;have hm:c.key∈(QaK (S.take k)).map Ce.key:=h.pm.mem_iff.1 (List.mem_map_of_mem hc);obtain ⟨d,hd,e⟩:=List.mem_map.1 hm;obtain ⟨x1,x2,x3⟩:=QnG e;exact ⟨d,hd,x1.trans e1,x2.trans e2⟩
theorem LaI.sh {g:Nat} (h:LaI w wr S k (.slice (some ⟨g,0,none⟩) R.length cp) R) (q:QS S):ShI wr (some ⟨g,0,none⟩) R.length R:=
 ⟨rfl,by have:=h.len q;omega,fun c hc=>by obtain ⟨s,hs,d,hd,_,_,e⟩:=h.mem hc;rw [<- e];exact (q.ok s hs d hd).1,
  fun c hc=>by obtain ⟨s,hs,d,hd,_,_,e⟩:=h.mem hc;rw [<- e];exact (q.ok s hs d hd).2.1,
  fun c hc=>by obtain ⟨s,hs,d,hd,_,e,_⟩:=h.mem hc;rw [<- e];exact (q.ok s hs d hd).2.2.1,
  fun c hc=>(h.o.o c hc).plgX,OwnC.at h.r (fun c hc=>(h.o.o c hc).at)⟩
theorem LaI.step {w1:World} {v1:Value} {R1:List Ce} (h:LaI w wr S k v R) (hs:S[k]?=some s) (m:MgD R s.L R1) (r:OwnC w1 wr.heap.size v1 R1) (o:CesO w1 wr.heap.size R1) (ne:v1≠.slice none 0 0) (b:Bw wr w1):LaI w w1 S (k+1) v1 R1:=
 ⟨r.le h.b.size,o.le h.b.size,m.asc,by rw [Qg5 hs,List.map_append];refine m.pm.trans ?_;rw [List.map_append];exact h.pm.append_right _,ne,Qac h.b b⟩
theorem Qgq (p:Pi) (hN:S.length=N) (q:QS S) (hA:Qf0 w ao S) :
  Calls prog 35 #[.agg (Qae (.slice ao N ca) p)] w fun e w'=>∃ v R,e=.returned v/\LaI w w' S N v R:=by
 have HN:=Qaa hN;have HQ:=Qaa q;have HA:=Qaa hA;have lN:N<=12:=by have:=q.n;omega
 have a1:∀ (W:World) o,Bw W (W.alloc o):=fun W o=>bAA;have hz:(w.alloc (.cells (Qae (.slice ao N ca) p) 25)).heap.size=w.heap.size+1:=oE
 have HR:=Qaa (((a1 (w.alloc (.cells (Qae (.slice ao N ca) p) 25)) (.cells #[] 46)).block w.heap.size (by rw [hz];omega)).trans (heap_alloc_new w (.cells (Qae (.slice ao N ca) p) 25)));have ac:=Qaa (Qac (a1 w (.cells (Qae (.slice ao N ca) p) 25)) (a1 _ (.cells #[] 46)))
 have ae:Hid (LaI w ((w.alloc (.cells (Qae (.slice ao N ca) p) 25)).alloc (.cells #[] 46)) S 0 (.slice (some ⟨w.heap.size+1,0,none⟩) 0 0) []):=by
  have m:=OwnC.made (w.alloc (.cells (Qae (.slice ao N ca) p) 25)) #[] rfl;rw [hz] at m;exact Qaa ⟨m.le oB,CesO.nil _ _,.nil,by simp [QaK],(fun e=>by cases e),ac⟩
 clear hN hA a1 hz q;go_enter func35,ntmps35;go_upto_region 2 with fail;generalize (w.alloc _).alloc _=W0 at HR ac ae ⊢;go_wp2
 go_loopw [3,4] (fun v i wr=>∃ (k:Nat) (R:List Ce),k<=N/\i=.int .i64 k/\Hid (LaI w wr S k v R)/\Hid (wr.heap[w.heap.size]?=some (.cells (Qae (.slice ao N ca) p) 25 (0,0)))) (fun v i wr=>N - (Go.RowKit.intOf i).toNat)
 case atStart=>exact ⟨0,[],ZZj _,rfl,ae,HR⟩
 case round=>
  clear ae HR ac;obtain ⟨k,R,hk,rfl,HI,HR⟩:=hrel;have r0:=Qar HR 0 rfl;by_cases aj:k<N
  ·have ad:(k:Int)<(N:Int):=by omega
   obtain ⟨b,am,e,ab⟩:=HA.1 (oA HN.out);subst e;obtain ⟨s,hs⟩:∃ s,S[k]?=some s:=⟨S[k]'(oA HN.out),ZZe _⟩;obtain ⟨x0,x1⟩:=QbJ (ab k s hs) HI.b;have HS:=Qaa hs;have aa:=Qaa (ZZn hs);have al:IntKind.i64.wrap ((k:Int)+1)=((k+1:Nat):Int):=by rw [show (k:Int)+1=((k+1:Nat):Int) by omega];exact ZZi _ ⟨by omega,by omega⟩
   obtain ⟨g,cp,ev,_⟩:=HI.r.src HI.ne;subst ev;have ak:=HI.len HQ;clear ab hs;go_wp2_with fail;refine (Qer (HI.sh HQ) ⟨rfl,by have:=HQ.l s aa;omega,fun c hc=>(HQ.ok s aa c hc).1,fun c hc=>(HQ.ok s aa c hc).2.1,fun c hc=>(HQ.ok s aa c hc).2.2.1,fun c hc=>(HQ.ok s aa c hc).2.2.2,QaL (HA.2 s aa) HI.b⟩ HI.asc (HQ.asc s aa) (fun c hc h=>HQ.dj k s HS c hc (HI.hask h)) oB (oA (HQ.l s aa))).mono ?_;rintro e w1 ⟨v1,R1,rfl,hm,hr,ho,ag,af⟩;have ah:=Qaa (HI.step HS hm hr ho ag af);have ai:=Qaa ((af.block w.heap.size (ZZc.1 HR).1).trans HR);clear hm hr ho ag af r0 x0 x1;go_wp2;go_roundw
   case rel=>exact ⟨k+1,R1,by omega,by first | rfl | go_num,ah,ai⟩
   case measure=>simp [zI];omega
  ·have ad:¬ (k:Int)<(N:Int):=by omega
   obtain rfl:k=N:=oB
   go_wp2;go_ret;exact ⟨_,rfl,R,HI⟩
theorem Qi7 {t:ByteArray} (h:Qbl t=true):t.size<=100:=by
 obtain ⟨aa,K,hs⟩:QbX t:=@of_decide_eq_true _ (Classical.propDecidable _) h;exact hs.2.2.2.2.1
theorem Qmi (h:cRi c=true):(0<=c.n/\c.n<=1000000000)/\c.s.size<=100:=by
 unfold cRi at h;simp only [yB] at h;obtain ⟨⟨⟨h1,h2⟩,_⟩,_⟩:=h;unfold Qf7 at h1;simp only [yB,decide_eq_true_eq] at h1;exact ⟨h1,Qi7 h2⟩
theorem Qhh {nm:ByteArray} (h:shB nm L=true):L.length<=60/\(∀ c∈L,cRi c=true)/\AscC L:=by
 unfold shB at h;exact csR_iff.1 (Bool.and_eq_true_iff.1 h).2
theorem QcU (h:Qev S=true) (hs:s∈S):shB s.nm s.L=true:=by
 unfold Qev at h;exact (List.all_eq_true.1 (Bool.and_eq_true_iff.1 h).2) s hs
noncomputable def Qbq (S:List Sd) (p:Pi):Bool:=Qg2 p.a p.b p.c p.d && (Qev S && plB S p.d)
theorem QcS (p:Pi) (hN:S.length=N) (sm:SdsSm S) (ok:∀ s∈S,∀ c∈s.L,AgOk c.g/\c.s.size<=maxLen) (hm:MX w) (hA:Qf0 w ao S) :
  Calls prog 19 #[.agg (Qae (.slice ao N ca) p)] w fun e w'=>e=.returned (.bool (Qbq S p))/\Bw w w':=by
 have HN:=Qaa hN;have SM:=Qaa sm;have OK:=Qaa ok;have HM:=Qaa hm;have HA:=Qaa hA;have aa:=Qaa (((ZZb _ _).alloc (ZZa _) _:Bw w (w.alloc (.cells (Qae (.slice ao N ca) p) 25))));have r0:=Qar (ZZk w (.cells (Qae (.slice ao N ca) p) 25)) 0 rfl;have r1:=Qar (ZZk w (.cells (Qae (.slice ao N ca) p) 25)) 1 rfl;have r2:=Qar (ZZk w (.cells (Qae (.slice ao N ca) p) 25)) 2 rfl;have r3:=Qar (ZZk w (.cells (Qae (.slice ao N ca) p) 25)) 3 rfl;have r4:=Qar (ZZk w (.cells (Qae (.slice ao N ca) p) 25)) 4 rfl;clear hN sm ok hm hA;go_enter func19,ntmps19;go_upto_region 1 with fail;generalize w.alloc _=W0 at aa r0 r1 r2 r3 r4 ⊢;have HC:Hid (∀ W,Bw W0 W->W.cell? ⟨w.heap.size,0,none⟩=some (.slice ao N ca)/\W.cell? ⟨w.heap.size,1,none⟩=some (.int .i64 p.a)/\W.cell? ⟨w.heap.size,2,none⟩=some (.int .i64 p.b)/\W.cell? ⟨w.heap.size,3,none⟩=some (.int .i64 p.c)/\W.cell? ⟨w.heap.size,4,none⟩=some (.int .i64 p.d)):=fun W hW=>⟨Qab hW r0,Qab hW r1,Qab hW r2,Qab hW r3,Qab hW r4⟩;go_wp2_with fail;refine (Qla _ ao N ca rfl p.a p.b p.c p.d _).mono ?_;rintro e w1 ⟨rfl,ai⟩;have ad:=Qaa ai;clear ai r0 r1 r2 r3 r4;go_wp2_with fail;refine (Qkb p.a p.b p.c p.d _).mono ?_;rintro e w2 ⟨rfl,af⟩;have ab:=Qaa (Qac ad af);clear af ad
 cases hck:Qg2 p.a p.b p.c p.d with
 | false=>
  have HE:Hid (Qbq S p=false):=by unfold Qbq;rw [hck];exact Qaa rfl
  clear hck;go_wp2;go_ret;exact ⟨by rw [HE.out];rfl,Qac aa ab⟩
 | true=>
  have ah:=Qaa hck;obtain ⟨r0,r1,r2,r3,r4⟩:=HC.out _ ab;have ak:=Qaa (Qac aa ab);clear hck;go_wp2_with fail;clear r0 r1 r2 r3 r4;refine (QiN HN SM OK (HM.past ak) (QaM HA ak)).mono ?_;rintro e w3 ⟨rfl,ag⟩;have ac:=Qaa (Qac ab ag);clear ag
  cases hsd:Qev S with
  | false=>
   have HE:Hid (Qbq S p=false):=by unfold Qbq;rw [hsd,ah.out];exact Qaa rfl
   clear hsd;go_wp2;go_ret;exact ⟨by rw [HE.out];rfl,Qac aa ac⟩
  | true=>
   have am:=Qaa hsd;have HE:Hid (Qbq S p=plB S p.d):=by unfold Qbq;rw [hsd,ah.out];exact Qaa oE
   obtain ⟨r0,r1,r2,r3,r4⟩:=HC.out _ ac;have ae:=Qaa (Qac aa ac);clear hsd;go_wp2_with fail;clear r0 r1 r2 r3 r4;refine (Qjo p HN SM (fun s hs c hc=>by have:=Qmi ((Qhh (QcU am hs)).2.1 c hc);exact ⟨this.1,(OK.out s hs c hc).2⟩) (QaM HA ae)).mono ?_;rintro e w4 ⟨rfl,aj⟩;have al:=Qaa (Qac ae aj);clear aj
   cases hpl:plB S p.d <;> (go_wp2;go_ret;exact ⟨by rw [HE.out,hpl];rfl,al⟩)
theorem qs_of (hsd:Qev S=true) (ok:∀ s∈S,∀ c∈s.L,AgOk c.g/\AgSm c.g/\c.s.size<=maxLen/\PlG c.g c.p) (own:∀ x∈fcS S,Qa2 (S.map Sd.nm) x.2.s x.1):QS S:=by
 have aa:Qaj (S.map Sd.nm)=true:=(Bool.and_eq_true_iff.1 (by unfold Qev at hsd;exact hsd)).1;refine ⟨ok,fun s hs=>(Qhh (QcU hsd hs)).1,fun s hs=>(Qhh (QcU hsd hs)).2.2,by have:=(QbA aa).2;rwa [yA] at this,fun k s hs c hc hk=>?_⟩;obtain ⟨d,hd,e1,e2⟩:=hk;obtain ⟨t,ht,hd⟩:=Qbt hd;obtain ⟨j,hj,rfl⟩:=List.mem_iff_getElem.1 ht;rw [List.length_take] at hj;have ab:S[j]?=some (S.take k)[j]:=by rw [List.getElem_take,List.getElem?_eq_getElem]
 have ad:((S.take k)[j].nm,d)∈fcS S:=by
  unfold fcS;exact List.mem_flatMap.2 ⟨_,ZZn ab,List.mem_map_of_mem hd⟩
 have ac:(s.nm,c)∈fcS S:=by
  unfold fcS;exact List.mem_flatMap.2 ⟨_,ZZn hs,List.mem_map_of_mem hc⟩
 have o1:=own _ ad;have o2:=own _ ac;have o1:Qa2 (S.map Sd.nm) c.s (S.take k)[j].nm:=by rw [<- e2];exact o1
 have e:=Qhl o1 o2;have n1:(S.map Sd.nm)[j]?=some (S.take k)[j].nm:=by rw [List.getElem?_map,ab];rfl
 have n2:(S.map Sd.nm)[j+(k - j - 1)+1]?=some s.nm:=by rw [show j+(k - j - 1)+1=k by omega,List.getElem?_map,hs];rfl
 have lt:=Qdj aa n1 (k - j - 1) n2;rw [e,show (s.nm,c).1=s.nm from rfl,Qcf] at lt
 cases lt
theorem Qjf (S:List Sd):(fcS S).map Prod.snd=QaK S:=by
 unfold fcS QaK;rw [List.map_flatMap]
 congr 1
 funext s
 rw [List.map_map];exact List.map_id' _
theorem Qp6 (h:(R.map Ce.key).Perm ((QaK S).map Ce.key)) (win:Int):Qjy R win=QhH (fcS S) win:=by
 have e1:QhH (fcS S) win=(QaK S).countP (fun c=>decide (c.n=win)):=by
  rw [<- Qjf,List.countP_map];rfl
 have e2:∀ L:List Ce,L.countP (fun c=>decide (c.n=win))=(L.map Ce.key).countP (fun x=>decide (x.1=win)):=fun L=>by rw [List.countP_map];rfl
 unfold Qjy;rw [e1,e2,e2];exact h.countP_eq _
variable {cl:Int}
variable {own:ByteArray->ByteArray->Prop}
theorem pl_of (h:(R.map Ce.key).Perm ((QaK S).map Ce.key)) (hl:(fcS S).length<=60) (hc:∀ c∈R,Qjy R c.n<=20) (hp:∀ x∈fcS S,cl<=x.2.n/\own x.2.s x.1):PlP (fcS S) cl own:=by
 refine ⟨hl,fun win=>?_,hp⟩;rw [<- Qp6 h];by_cases q:∃ c∈R,c.n=win
 ·obtain ⟨c,aa,rfl⟩:=q
  exact hc c aa
 ·have:Qjy R win=0:=by
   unfold Qjy;exact List.countP_eq_zero.2 (fun c aa=>by simpa using fun e=>q ⟨c,aa,e⟩)
  omega
variable {p:Pi}
theorem QiV (h:Qg2 p.a p.b p.c p.d=false):Qbq S p=false:=by unfold Qbq;rw [h];rfl
theorem QpO (h:Qev S=false):Qbq S p=false:=by unfold Qbq;rw [h];simp
theorem Qml (h:¬ PlP (fcS S) p.d (Qa2 (S.map Sd.nm))):Qbq S p=false:=by unfold Qbq;rw [QfU h];simp
theorem QuU (h1:Qg2 p.a p.b p.c p.d=true) (h2:Qev S=true) (h:PlP (fcS S) p.d (Qa2 (S.map Sd.nm))):Qbq S p=true:=by unfold Qbq;rw [QgU h,h1,h2];rfl
theorem Qti (h:Qaj (S.map Sd.nm)=false):Qev S=false:=by unfold Qev;rw [h];rfl
theorem Qsd (h:S[k]?=some s) (hs:shB s.nm s.L=false):Qev S=false:=by
 unfold Qev;rw [Qno (f:=fun s=>shB s.nm s.L) h hs];simp
def Pls (S:List Sd) (cl:Int) (k:Nat):Prop:=∀ x∈(fcS S).take k,cl<=x.2.n/\Qa2 (S.map Sd.nm) x.2.s x.1
theorem Pls.step {x:ByteArray×Ce} (h:Pls S cl k) (hx:(fcS S)[k]?=some x) (h3:cl<=x.2.n) (h4:Qa2 (S.map Sd.nm) x.2.s x.1):Pls S cl (k+1):=fun y hy=>by
 rw [List.take_add_one,hx] at hy;rcases List.mem_append.1 hy with hy | hy
 ·exact h y hy
 ·simp at hy
  subst hy;exact ⟨h3,h4⟩
theorem Qbr (p:Pi) (hN:S.length=N) (sm:SdsSm S) (ok:∀ s∈S,∀ c∈s.L,AgOk c.g/\c.s.size<=maxLen/\PlG c.g c.p) (hA:Qf0 w ao S) :
  Calls prog 8 #[.agg (Qae (.slice ao N ca) p)] w fun e w'=>e=.returned (.bool (Qbq S p))/\Bw w w':=by
 have HN:=Qaa hN;have SM:=Qaa sm;have OK:=Qaa ok;have HA:=Qaa hA;have lN:N<=1048576:=by have:=sm.n;omega
 have LM:Hid ((S.map Sd.nm).length=N):=by rw [yA];exact HN
 have au:=Qaa (((ZZb _ _).alloc (ZZa _) _:Bw w (w.alloc (.cells (Qae (.slice ao N ca) p) 25))));have r0:=Qar (ZZk w (.cells (Qae (.slice ao N ca) p) 25)) 0 rfl;have r1:=Qar (ZZk w (.cells (Qae (.slice ao N ca) p) 25)) 1 rfl;have r2:=Qar (ZZk w (.cells (Qae (.slice ao N ca) p) 25)) 2 rfl;have r3:=Qar (ZZk w (.cells (Qae (.slice ao N ca) p) 25)) 3 rfl;have r4:=Qar (ZZk w (.cells (Qae (.slice ao N ca) p) 25)) 4 rfl;clear hN sm ok hA;go_enter func8,ntmps8;go_upto_region 1 with fail;generalize w.alloc _=W0 at au r0 r1 r2 r3 r4 ⊢;have HC:Hid (∀ W,Bw W0 W->W.cell? ⟨w.heap.size,0,none⟩=some (.slice ao N ca)/\W.cell? ⟨w.heap.size,1,none⟩=some (.int .i64 p.a)/\W.cell? ⟨w.heap.size,2,none⟩=some (.int .i64 p.b)/\W.cell? ⟨w.heap.size,3,none⟩=some (.int .i64 p.c)/\W.cell? ⟨w.heap.size,4,none⟩=some (.int .i64 p.d)):=fun W hW=>⟨Qab hW r0,Qab hW r1,Qab hW r2,Qab hW r3,Qab hW r4⟩;go_wp2_with fail;refine (Qdx (ca:=ca) p HN lN (QaM HA au)).mono ?_;rintro e w1 ⟨bo,cn,rfl,ho,aQ⟩;have HO:=Qaa ho;have aS:=Qaa aQ;clear ho aQ r0 r1 r2 r3 r4;go_wp2_with fail;have aE:=Qc9 (w:=w1) (ao:=bo) (L:=S.map Sd.nm) cn xR (fun u hu=>by obtain ⟨z,hz,rfl⟩:=List.mem_map.1 hu;exact SM.nz z hz) HO.at
 rw [LM.out] at aE;refine aE.mono ?_;rintro e w2 ⟨rfl,aD⟩;have a7:=Qaa (QaA HO.at aD);have aG:=Qaa (Qac aS aD);have ac:=Qaa (Qac au aG);have av:=Qaa (QaM HA ac);have ai:Hid (∀ W,Bw w2 W->W.cell? ⟨w.heap.size,0,none⟩=some (.slice ao N ca)/\W.cell? ⟨w.heap.size,1,none⟩=some (.int .i64 p.a)/\W.cell? ⟨w.heap.size,2,none⟩=some (.int .i64 p.b)/\W.cell? ⟨w.heap.size,3,none⟩=some (.int .i64 p.c)/\W.cell? ⟨w.heap.size,4,none⟩=some (.int .i64 p.d)):=fun W hW=>HC.out W (Qac aG hW);clear aE aD aS HO aG HC au
 cases hmb:Qaj (S.map Sd.nm) with
 | false=>
  have HE:Hid (Qbq S p=false):=Qaa (QpO (Qti hmb));clear hmb;exact mCm
 | true=>
  have aR:=Qaa hmb;have a2:N<=12:=by have:=(QbA hmb).2;have:=LM.out;omega
  obtain ⟨r0,r1,r2,r3,r4⟩:=ai.out w2 (ZZb _ _);clear hmb;go_wp2_with fail;refine (Qga p.a 1 1000 _).mono ?_;rintro e wz ⟨rfl,ae⟩;obtain rfl:=ae.symm;rw [show (decide (1<=p.a) && decide (p.a<=1000))=inB p.a 1 1000 from rfl]
  cases ha:inB p.a 1 1000 with
  | false=>
   have HE:Hid (Qbq S p=false):=Qaa (QiV (by unfold Qg2;rw [ha];simp));clear ha;exact mCm
  | true=>
   have Ta:=Qaa ha;clear ha;go_wp2_with fail;refine (Qga p.b 0 1000 _).mono ?_;rintro e wz ⟨rfl,ae⟩;obtain rfl:=ae.symm;rw [show (decide (0<=p.b) && decide (p.b<=1000))=inB p.b 0 1000 from rfl]
   cases hb:inB p.b 0 1000 with
   | false=>
    have HE:Hid (Qbq S p=false):=Qaa (QiV (by unfold Qg2;rw [hb];simp));clear hb;exact mCm
   | true=>
    have Tb:=Qaa hb;clear hb;go_wp2_with fail;refine (Qem p.c _).mono ?_;rintro e wz ⟨rfl,ae⟩;obtain rfl:=ae.symm;rw [show Qf7 p.c=inB p.c 0 1000000000 from rfl]
    cases hc:inB p.c 0 1000000000 with
    | false=>
     have HE:Hid (Qbq S p=false):=Qaa (QiV (by unfold Qg2;rw [hc];simp));clear hc;exact mCm
    | true=>
     have Tc:=Qaa hc;clear hc;go_wp2_with fail;refine (Qem p.d _).mono ?_;rintro e wz ⟨rfl,ae⟩;obtain rfl:=ae.symm;rw [show Qf7 p.d=inB p.d 0 1000000000 from rfl]
     cases hd:inB p.d 0 1000000000 with
     | false=>
      have HE:Hid (Qbq S p=false):=Qaa (QiV (by unfold Qg2;rw [hd];simp));clear hd;exact mCm
     | true=>
      have Td:=Qaa hd;clear hd;have a6:Hid (Qg2 p.a p.b p.c p.d=true):=Qaa (by unfold Qg2;rw [Ta.out,Tb.out,Tc.out,Td.out];rfl);clear r0 r1 r2 r3 r4 Ta Tb Tc Td;go_upto_region 6 with fail
      go_loopw [4,5] (fun m i wr=>∃ (k:Nat),k<=N/\i=.int .i64 k/\m=.int .i64 (Qcw S k:Nat)/\Hid (Qcw S k<=60*k/\(S.take k).all (fun s=>shB s.nm s.L)=true)/\Hid (Pls S p.d (Qcw S k))/\Hid (Bw w2 wr)) (fun m i wr=>N - (Go.RowKit.intOf i).toNat)
      case atStart=>exact ⟨0,Nat.zero_le _,rfl,by rw [QcM];rfl,⟨by rw [QcM];omega,by simp⟩,by rw [QcM];exact fun x hx=>by simp at hx,Below.refl _ _⟩
      case round=>
       obtain ⟨k,hk,rfl,rfl,HF,HP,HB⟩:=hrel;obtain ⟨r0,r1,r2,r3,r4⟩:=ai.out wr HB;by_cases bc:k<N
       ·have ax:(k:Int)<(N:Int):=by omega
        obtain ⟨b,am,e,ab⟩:=av.1 (oA HN.out);subst e;obtain ⟨s,hs⟩:∃ s,S[k]?=some s:=⟨S[k]'(oA HN.out),ZZe _⟩;have HX:Hid (∀ W,Bw w2 W->W.cell? ⟨b,am+k*2,none⟩=some (.string s.nm)/\W.cell? ⟨b,am+k*2+1,none⟩=some (.slice s.ao s.L.length s.cp)):=fun W hW=>QbJ (ab k s hs) hW;obtain ⟨x0,x1⟩:=HX.out wr HB;have HS:=Qaa hs;have ah:=Qaa (ZZn hs);have bk:IntKind.i64.wrap ((k:Int)+1)=((k+1:Nat):Int):=by rw [show (k:Int)+1=((k+1:Nat):Int) by omega];exact ZZi _ ⟨by omega,by omega⟩
        have a5:=Qaa (SM.l s ah);clear ab hs;go_wp2_with fail;clear x0 x1 r0 r1 r2 r3 r4;refine (QhE s.nm (by have:=SM.nz s ah;unfold maxLen;omega) rfl a5 (fun c hc=>(OK.out s ah c hc).1) (SM.sm s ah) (fun c hc=>(OK.out s ah c hc).2.1) (QaL (av.2 s ah) HB)).mono ?_;rintro e w3 ⟨rfl,aW⟩;have ak:=Qaa (Qac HB aW);clear aW
        cases hsb:shB s.nm s.L with
        | false=>
         have HE:Hid (Qbq S p=false):=Qaa (QpO (Qsd HS hsb));clear hsb;go_wp2;go_ret;exact ⟨by rw [HE.out];rfl,Qac ac ak⟩
        | true=>
         have aT:=Qaa (Qhh hsb);have aN:Hid (Qcw S (k+1)<=60*(k+1)/\(S.take (k+1)).all (fun s=>shB s.nm s.L)=true):=Qaa ⟨by rw [Qhp HS.out];have:=HF.1;have:=(Qhh hsb).1;omega,Qmd (f:=fun s=>shB s.nm s.L) HS HF.2 hsb⟩;have az:=Qaa (Qhp HS);obtain ⟨M,hM⟩:∃ M,s.L.length=M:=⟨_,rfl⟩
         have bj:IntKind.i64.wrap ((Qcw S k:Int)+(M:Int))=((Qcw S (k+1):Nat):Int):=by
          have h1:=aN.1;have h2:=az.out;rw [hM] at h2;rw [show (Qcw S k:Int)+(M:Int)=((Qcw S (k+1):Nat):Int) by omega];exact ZZi _ ⟨by omega,by omega⟩
         obtain ⟨r0,r1,r2,r3,r4⟩:=ai.out w3 ak;obtain ⟨x0,x1⟩:=HX.out w3 ak;have lM:M<=60:=by have:=aT.1;omega
         rw [hM] at HX x1 az;have aM:=Qaa hM;clear hsb hM;go_upto_region 12 with fail;clear r0 r1 r2 r3 r4 x0 x1
         go_loopw [6] (fun kv wr=>∃ (q:Nat),q<=M/\kv=.int .i64 q/\Hid (Pls S p.d (Qcw S k+q))/\Hid (Bw w2 wr)) (fun kv wr=>M - (Go.RowKit.intOf kv).toNat)
         case atStart=>exact ⟨0,ZZj _,rfl,HP,ak⟩
         case round=>
          clear HP HB ak;obtain ⟨q,hq,rfl,HP,HB⟩:=hrel;obtain ⟨r0,r1,r2,r3,r4⟩:=ai.out wr HB;obtain ⟨x0,x1⟩:=HX.out wr HB;by_cases bd:q<M
          ·have aA:(q:Int)<(M:Int):=by omega
           obtain ⟨c,hc⟩:∃ c,s.L[q]?=some c:=⟨s.L[q]'(oA aM.out),ZZe _⟩;obtain ⟨b1,aB,e1,ab⟩:=(av.2 s ah).1 (oA aM.out);obtain ⟨z0,z1,z2,z3,z4,z5,z6,z7,z8,z9,aY,a0,aX,z13,a8⟩:=Qaq (ab q c hc) HB;have HC:Hid ((fcS S)[Qcw S k+q]?=some (s.nm,c)):=Qaa (QtB HS hc);have HW:=Qaa (Qmi (aT.2.1 c (ZZn hc)));have bh:IntKind.i64.wrap ((q:Int)+1)=((q+1:Nat):Int):=by rw [show (q:Int)+1=((q+1:Nat):Int) by omega];exact ZZi _ ⟨by omega,by omega⟩
           rw [e1] at x1;clear ab hc;go_upto_region 15 with fail;clear z0 z1 z2 z3 z4 z5 z6 z7 z8 z9 aY a0 aX z13 a8 r0 r1 r2 r3 r4 x0 x1;have al:Bw wr (wr.alloc (.cells (Qao c) 46)):=bAA;have ap:Hid ((wr.alloc (.cells (Qao c) 46)).cell? ⟨wr.heap.size,0,none⟩=some (.int .i64 c.n)):=Qaa (Qar (ZZk wr (.cells (Qao c) 46)) 0 rfl);have aI:Hid ((wr.alloc (.cells (Qao c) 46)).cell? ⟨wr.heap.size,1,none⟩=some (.string c.s)):=Qaa (Qar (ZZk wr (.cells (Qao c) 46)) 1 rfl);have ad:=Qaa (Qac HB al);clear al HB;generalize wr.alloc _=W5 at ad ap aI ⊢;generalize wr.heap.size=cb at ap aI ⊢;clear wr;have bf:¬ N<=k:=oB
           by_cases bg:c.n<p.d
           ·have HE:Hid (Qbq S p=false):=Qaa (Qml (fun h=>by have:=(h.at HC).2.2.1;have e:(s.nm,c).2.n=c.n:=rfl;omega))
            have aa:(fun W=>Bw W5 W) W5.drew:=(ZZb _ _).drew;refine Qal (fun W=>Bw W5 W) 99 oG ?_;refine tkS 0 (.pointer (some ⟨cb,0,none⟩)) aa ?_;refine tkL 1 (.int .i64 c.n) aa (fun W hW=>?_) ?_
            ·have z:=Qab hW ap
             exact mAo
            refine tkS 2 (.pointer (some ⟨w.heap.size,4,none⟩)) aa ?_;simp only [sX];refine tkL 3 (.int .i64 p.d) aa (fun W hW=>?_) ?_
            ·have z:=(ai.out W (Qac ad hW)).2.2.2.2
             exact mAo
            refine tkS 4 (.bool true) aa ?_;refine tkS 5 (.bool true) aa ?_;simp only [sX];refine tkU 6 aa ?_;refine tkU 7 aa ?_;refine tkU 8 aa ?_;simp only [sX];refine tkU 10 aa ?_;refine tkU 11 aa ?_;refine tkU 12 aa ?_;simp only [sX];refine tkU 13 aa ?_;refine tkU 14 aa ?_;refine tkU 15 aa ?_;simp only [sX];refine onE 9 fun K hK=>?_;refine Eq.mpr (if_neg (fun h=>Bool.noConfusion (show false=true from h))) ?_;refine gK hK aa ?_
            try simp only [sX]
            refine tkU 16 aa ?_;refine tkS 17 (.bool true) aa ?_;simp only [sX];refine dnE ?_ _;go_wp2;go_ret;exact ⟨by rw [HE.out];rfl,Qac ac (Qac ad aa)⟩
           ·have aa:(fun W=>Bw W5 W) W5.drew:=(ZZb _ _).drew
            refine Qal (fun W=>Bw W5 W) 99 oG ?_;refine tkS 0 (.pointer (some ⟨cb,0,none⟩)) aa ?_;refine tkL 1 (.int .i64 c.n) aa (fun W hW=>?_) ?_
            ·have z:=Qab hW ap
             exact mAo
            refine tkS 2 (.pointer (some ⟨w.heap.size,4,none⟩)) aa ?_;simp only [sX];refine tkL 3 (.int .i64 p.d) aa (fun W hW=>?_) ?_
            ·have z:=(ai.out W (Qac ad hW)).2.2.2.2
             exact mAo
            refine tkS 4 (.bool false) aa ?_;refine tkS 5 (.bool false) aa ?_;simp only [sX];refine tkS 6 (.slice bo N cn) aa ?_;refine tkS 7 (.pointer (some ⟨cb,1,none⟩)) aa ?_;refine tkL 8 (.string c.s) aa (fun W hW=>?_) ?_
            ·have z:=Qab hW aI
             exact mAo
            simp only [sX];refine tkS 10 (.pointer (some ⟨w.heap.size,0,none⟩)) aa ?_;refine tkL 11 (.slice (some ⟨b,am,none⟩) N ca) aa (fun W hW=>?_) ?_
            ·have z:=(ai.out W (Qac ad hW)).1
             exact mAo
            refine tkS 12 (.int .i64 (k:Int)) aa ?_;simp only [sX];refine tkS 13 (.pointer (some ⟨b,am+k*2,none⟩)) aa ?_;refine tkS 14 (.pointer (some ⟨b,am+k*2,none⟩)) aa ?_;refine tkL 15 (.string s.nm) aa (fun W hW=>?_) ?_
            ·have z:=(HX.out W (Qac ad hW)).1
             exact mAo
            simp only [sX];refine onE 9 fun K hK=>?_;go_simp;have ay:=Qdu (w:=W5.drew) (L:=S.map Sd.nm) (ao:=bo) cn c.s (oA HW.2) aR (QaA a7 (Qac ad (aa:Bw W5 W5.drew)));rw [LM.out] at ay;refine ay.mono ?_;rintro e w7 ⟨o,rfl,ho,aK⟩;have aU:=Qaa ho;have ar:Hid (Bw W5 w7):=(aa:Bw W5 W5.drew).trans (aK.mono (ZZa _));clear aK ho ay;dsimp only;refine gK hK ar.out ?_
            try simp only [sX]
            refine tkS 16 (.bool (!(o.toList == s.nm.toList))) ar ?_;refine tkS 17 (.bool (!(o.toList == s.nm.toList))) ar ?_;simp only [sX];refine dnE ?_ _;have aL:=Qaa (Qac ad ar);generalize hbx:(o.toList == s.nm.toList)=bx;by_cases aj:o=s.nm
            ·obtain rfl:bx=true:=by rw [<- hbx,aj];exact beq_self_eq_true _
             have aC:=Qaa (HP.step HC (by show p.d<=c.n;omega) (by show Qa2 _ c.s s.nm;rw [<- aj];exact aU.out));clear aj hbx;go_wp2;go_roundw
             case rel=>first | exact ⟨q+1,by omega,(by first | rfl | go_num),aC,aL⟩ | exact ⟨q+1,by omega,(by first | rfl | go_num),aC⟩ | exact ⟨q+1,(by first | rfl | go_num),aC⟩
             case measure=>simp [zI];omega
            ·obtain rfl:bx=false:=hbx.symm.trans <| beq_eq_false_iff_ne.2 (fun e=>aj oP)
             have HE:Hid (Qbq S p=false):=Qaa (Qml (fun h=>aj (Qhl aU (h.at HC).2.2.2)));clear aj hbx;go_wp2;go_ret;exact ⟨by rw [HE.out];rfl,Qac ac aL⟩
          ·have aA:¬ (q:Int)<(M:Int):=by omega
           obtain rfl:q=M:=oB
           rw [<- az.out] at HP;go_wp2;go_roundw
           case rel=>exact ⟨k+1,by omega,by first | rfl | go_num,rfl,aN,HP,HB⟩
           case measure=>simp [zI];omega
       ·have ax:¬ (k:Int)<(N:Int):=by omega
        obtain rfl:k=N:=oB
        have af:=Qmn (S:=S) (k:=k) (oA HN.out);by_cases a1:Qcw S k<=60
        ·have ba:¬ (60:Int)<(Qcw S k:Int):=by omega
         have aF:∀ x∈fcS S,p.d<=x.2.n/\Qa2 (S.map Sd.nm) x.2.s x.1:=fun x hx=>HP.out x (by rw [af,List.take_length];exact hx)
         have aw:Qev S=true:=by
          have h1:=HF.2;rw [List.take_of_length_le (oA HN.out)] at h1;unfold Qev;rw [aR.out,h1];rfl
         have bb:=Qaa aw;have a3:=Qaa aF;have HL:=Qaa af;have HQ:=Qaa (qs_of aw (fun s hs c hc=>⟨(OK.out s hs c hc).1,SM.sm s hs c hc,(OK.out s hs c hc).2.1,(OK.out s hs c hc).2.2⟩) (fun x hx=>(aF x hx).2));clear aF aw af;go_wp2_with fail;clear r0 r1 r2 r3 r4;refine (Qgq p HN HQ (QaM av HB)).mono ?_;rintro e w5 ⟨v5,R,rfl,ag⟩;obtain ⟨g,cp,ev,_⟩:=ag.r.src ag.ne;subst ev;have aO:=Qaa ag;have ad:=Qaa (Qac HB ag.b);have lR:R.length<=720:=ag.len HQ;have aP:Hid (QbG w5 (some ⟨g,0,none⟩) R):=Qaa (OwnC.at ag.r (fun c hc=>(ag.o.o c hc).at));obtain ⟨n,hn⟩:∃ n,R.length=n:=⟨_,rfl⟩;rw [hn] at lR ⊢;have aq:=Qaa hn;clear ag hn;go_wp2
         go_loopw [9] (fun i wr=>∃ (j:Nat),j<=n/\i=.int .i64 j/\Hid (∀ c∈R.take j,Qjy R c.n<=20)/\Hid (Bw w5 wr)) (fun i wr=>n - (Go.RowKit.intOf i).toNat)
         case atStart=>exact ⟨0,Nat.zero_le _,rfl,fun c hc=>by simp at hc,Below.refl _ _⟩
         case round=>
          obtain ⟨j,hj,rfl,HT,an⟩:=hrel;by_cases be:j<n
          ·have aH:(j:Int)<(n:Int):=by omega
           obtain ⟨c,hc⟩:∃ c,R[j]?=some c:=⟨R[j]'(oA aq.out),ZZe _⟩;obtain ⟨b1,aB,e1,ab⟩:=aP.1 (oA aq.out);injection e1 with e1;injection e1 with e1 e2 e3;subst e1 e2;have z0:wr.cell? ⟨g,0+j*15,none⟩=some (.int .i64 c.n):=(Qaq (ab j c hc) an).1;rw [Nat.zero_add] at z0;have aZ:=Qaa hc;have bi:IntKind.i64.wrap ((j:Int)+1)=((j+1:Nat):Int):=by rw [show (j:Int)+1=((j+1:Nat):Int) by omega];exact ZZi _ ⟨by omega,by omega⟩
           clear ab hc;go_wp2_with fail;clear z0;refine (QgB c.n aq oB (QaL aP an)).mono ?_;rintro e wz ⟨rfl,ae⟩;obtain rfl:=ae.symm;obtain ⟨C,hC⟩:∃ C:Int,(Qjy R c.n:Int)=C:=⟨_,rfl⟩;rw [hC];have aV:=Qaa hC;clear hC;by_cases a4:C<=20
           ·have a9:¬ (20:Int)<C:=by omega
            have aJ:Hid (∀ c∈R.take (j+1),Qjy R c.n<=20):=Qaa (fun d hd=>by
             rw [List.take_add_one,aZ.out] at hd;rcases List.mem_append.1 hd with hd | hd
             ·exact HT.out d hd
             ·simp at hd
              subst hd;have:=aV.out;omega)
            go_wp2;go_roundw
            case rel=>exact ⟨j+1,by omega,by first | rfl | go_num,aJ,an⟩
            case measure=>simp [zI];omega
           ·have a9:(20:Int)<C:=by omega
            have HE:Hid (Qbq S p=false):=Qaa (Qml (fun h=>by
             have h1:=h.c c.n;have h2:=aO.pm;rw [List.take_of_length_le (oA HN.out)] at h2;rw [<- Qp6 h2] at h1;have:=aV.out;omega))
            clear a4;go_wp2;go_ret;exact ⟨by rw [HE.out];rfl,Qac ac (Qac ad an)⟩
          ·have aH:¬ (j:Int)<(n:Int):=by omega
           have HE:Hid (Qbq S p=true):=Qaa (QuU a6 bb (by
            have h2:=aO.pm;rw [List.take_of_length_le (oA HN.out)] at h2;have h3:=HT.out;rw [List.take_of_length_le (oA aq.out)] at h3;exact pl_of h2 (oA HL.out) h3 a3))
           go_wp2;go_ret;exact ⟨by rw [HE.out];rfl,Qac ac (Qac ad an)⟩
        ·have ba:(60:Int)<(Qcw S k:Int):=by omega
         have HE:Hid (Qbq S p=false):=Qaa (Qml (fun h=>by have:=h.l;omega));clear af a1;go_wp2;go_ret;exact ⟨by rw [HE.out];rfl,Qac ac HB⟩
theorem Qey (h:M.map Sd.key=S.map Sd.key) {t:Sd} (ht:t∈M):∃ s∈S,t.nm=s.nm/\t.L.map Ce.key=s.L.map Ce.key:=by
 have hm:t.key∈S.map Sd.key:=h ▸ List.mem_map_of_mem ht;obtain ⟨s,hs,e⟩:=List.mem_map.1 hm;exact ⟨s,hs,(Qfw e).1.symm,(Qfw e).2.1.symm⟩
theorem Qi4 {M:List Ce} (h:M.map Ce.key=L.map Ce.key) (hc:c∈M):∃ d∈L,d.n=c.n/\d.s=c.s/\d.g=c.g:=by
 have hm:c.key∈L.map Ce.key:=h ▸ List.mem_map_of_mem hc;obtain ⟨d,hd,e⟩:=List.mem_map.1 hm;exact ⟨d,hd,QnG e⟩
theorem QlV (h:M.map Sd.key=S.map Sd.key) (Q:Int->ByteArray->Ag->Prop) (hq:∀ s∈S,∀ c∈s.L,Q c.n c.s c.g):∀ s∈M,∀ c∈s.L,Q c.n c.s c.g:=fun s hs c hc=>by
 obtain ⟨t,ht,_,e⟩:=Qey h hs;obtain ⟨d,hd,e1,e2,e3⟩:=Qi4 e hc;rw [<- e1,<- e2,<- e3];exact hq t ht d hd
theorem QqY (h:M.map Sd.key=S.map Sd.key):M.map Sd.nm=S.map Sd.nm:=by
 have e:∀ L:List Sd,L.map Sd.nm=(L.map Sd.key).map Prod.fst:=fun L=>by rw [List.map_map];rfl
 rw [e,e,h]
theorem Qsv (h:M.map Sd.key=S.map Sd.key):Qev M=Qev S:=by
 unfold Qev;rw [QqY h]
 congr 1
 have e:∀ {A B:List Sd},A.map Sd.key=B.map Sd.key->B.all (fun s=>shB s.nm s.L)=true->A.all (fun s=>shB s.nm s.L)=true:=fun {A B} k hb=>List.all_eq_true.2 (fun s hs=>by
  obtain ⟨t,ht,e1,e2⟩:=Qey k hs;have h1:=(List.all_eq_true.1 hb) t ht;have h2:shB s.nm s.L=shB t.nm t.L:=by unfold shB;rw [e1,QqK e2]
  rw [h2];exact h1)
 exact Bool.eq_iff_iff.2 ⟨e h.symm,e h⟩
theorem QtD (h:M.map Sd.key=S.map Sd.key):(fcS M).map (fun x=>(x.1,x.2.n,x.2.s))=(fcS S).map (fun x=>(x.1,x.2.n,x.2.s)):=by
 have e:∀ L:List Sd,(fcS L).map (fun x=>(x.1,x.2.n,x.2.s))=(L.map Sd.key).flatMap (fun k=>k.2.map (fun c=>(k.1,c.1,c.2.1))):=fun L=>by
  unfold fcS;rw [List.map_flatMap,List.flatMap_map]
  congr 1
  funext s
  rw [List.map_map]
  show _=(s.L.map Ce.key).map _
  rw [List.map_map]
  rfl
 rw [e,e,h]
theorem PlP.key {D E:List (ByteArray×Ce)} (h:E.map (fun x=>(x.1,x.2.n,x.2.s))=D.map (fun x=>(x.1,x.2.n,x.2.s))) (q:PlP D cl own):PlP E cl own:=by
 have e:∀ (L:List (ByteArray×Ce)) (win:Int),QhH L win=(L.map (fun x=>(x.1,x.2.n,x.2.s))).countP (fun y=>decide (y.2.1=win)):=fun L win=>by rw [List.countP_map];rfl
 refine ⟨?_,fun win=>?_,fun x hx=>?_⟩
 ·have:=congrArg List.length h
  simp only [yA] at this;rw [this];exact q.l
 ·rw [e,h,<- e];exact q.c win
 ·have hm:(x.1,x.2.n,x.2.s)∈D.map (fun x=>(x.1,x.2.n,x.2.s)):=h ▸ List.mem_map.2 ⟨x,hx,rfl⟩
  obtain ⟨y,hy,e1⟩:=List.mem_map.1 hm;have q1:=q.p y hy;injection e1 with a1 a2;injection a2 with a2 a3;rw [<- a1,<- a2,<- a3];exact q1
theorem QvX (h:M.map Sd.key=S.map Sd.key) (cl:Int):plB M cl=plB S cl:=by
 have hn:=QqY h;by_cases q:PlP (fcS S) cl (Qa2 (S.map Sd.nm))
 ·rw [QgU q,QgU (by rw [hn];exact q.key (QtD h))]
 ·rw [QfU q,QfU (fun k=>q (by rw [hn] at k;exact k.key (QtD h.symm)))]
theorem Qjv (h:M.map Sd.key=S.map Sd.key) (p:Pi):Qbq M p=Qbq S p:=by
 unfold Qbq;rw [Qsv h,QvX h]
end Go.Proofs.YtioohanfodmddaaGreatDoor
