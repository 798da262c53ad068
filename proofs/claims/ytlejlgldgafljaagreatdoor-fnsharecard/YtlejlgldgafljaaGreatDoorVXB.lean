/-
 Parts.
-/
import Derived.Test.YtlejlgldgafljaaGreatDoorVXA
import Derived.Test.YtlejlgldgafljaaGreatDoorVPB
set_option maxRecDepth 10000
set_option maxHeartbeats 16000000
set_option linter.all false
namespace Go.Proofs.YtlejlgldgafljaaGreatDoor
open Go.ChangeShapes Go.WideShapes Go.ChangeAt Go.RowKit Go.PlainAid Go.Lib Go.Maps Tryz
structure MgD (a b R:List Ce):Prop where
 asc:AscC R
 pm:(R.map Ce.key).Perm ((a ++ b).map Ce.key)
def MdA (w:World) (a b:List Ce) (e:Ending) (w':World):Prop:=
 ∃ v R,e=.returned (.tuple #[v,.bool true])/\MgD a b R/\OwnC w' w.heap.size v R/\CesO w' w.heap.size R/\v≠.slice none 0 0/\Bw w w'
structure MdJ (w wr:World) (a b:List Ce) (k:Nat) (vo:Value) (R:List Ce) (vm:Value) (Mo:List Ce):Prop where
 r:OwnC wr w.heap.size vo R
 m:OwnC wr w.heap.size vm Mo
 ap:ApV vo vm
 o:CesO wr w.heap.size (R ++ Mo.drop k)
 asc:AscC R
 pm:(R.map Ce.key).Perm ((a ++ b.take k).map Ce.key)
 ne:vo≠.slice none 0 0
 b:Bw w wr
variable {w wr:World}
variable {L Mo R a b:List Ce}
variable {N ca cp k:Nat}
variable {v vm vo:Value}
theorem MdJ.past {w':World} (h:MdJ w wr a b k vo R vm Mo) (hb:Bw wr w'):MdJ w w' a b k vo R vm Mo:=
 ⟨h.r.past hb,h.m.past hb,h.ap,h.o.past hb,h.asc,h.pm,h.ne,Qac h.b hb⟩
variable {ao:Option Addr}
theorem MdJ.at {n:Nat} (h:MdJ w wr a b k (.slice ao n cp) R vm Mo):QbV wr ao R:=OwnC.at h.r (fun c hc=>(h.o.o c (List.mem_append_left _ hc)).at)
theorem MdJ.len (h:MdJ w wr a b k vo R vm Mo):R.length=a.length+(b.take k).length:=by
 have:=h.pm.length_eq;rw [yA,yA,List.length_append] at this;exact this
variable {c cb d:Ce}
theorem Qtp (h:c.key=d.key):c.n=d.n/\c.s=d.s:=⟨(QpL h).1,(QpL h).2.1⟩
theorem MdJ.no (h:MdJ w wr a b k vo R vm Mo) (dj:∀ c∈b,¬ QoG a c.n c.s) (ab:AscC b) (hb:b[k]?=some cb) (ek:c.key=cb.key) (hd:d∈R) (e1:d.n=c.n) (e2:d.s=c.s):False:=by
 obtain ⟨k1,k2⟩:=Qtp ek;have hm:d.key∈(a ++ b.take k).map Ce.key:=h.pm.mem_iff.1 (List.mem_map_of_mem hd);obtain ⟨x,hx,ex⟩:=List.mem_map.1 hm;obtain ⟨x1,x2⟩:=Qtp ex;rcases List.mem_append.1 hx with hx | hx
 ·exact dj cb (List.mem_of_getElem? hb) ⟨x,hx,by rw [x1,e1,k1],by rw [x2,e2,k2]⟩
 ·have hk:=(ZZd.1 hb).1
  have e:b=b.take k ++ cb :: b.drop (k+1):=by
   have h1:=(List.take_append_drop k b).symm;rw [List.drop_eq_getElem_cons hk,(List.getElem?_eq_some_iff.1 hb).2] at h1;exact h1
  have aa:=ab;unfold AscC at aa;rw [e,List.pairwise_append] at aa;exact Qtr (aa.2.2 x hx cb (by simp)) ⟨by rw [x1,e1,k1],by rw [x2,e2,k2]⟩
theorem MdJ.ins {i:Nat} (h:MdJ w wr a b k vo R vm Mo) (hc:Mo[k]?=some c) (hb:b[k]?=some cb) (ek:c.key=cb.key) (hp:PlcA R c.n c.s i false) {w9:World} {v9:Value} (hi:InsI w w9 v9 ((R.take i ++ [c]) ++ R.drop i) vo R vm Mo (R ++ Mo.drop k)) :
  MdJ w w9 a b (k+1) v9 ((R.take i ++ [c]) ++ R.drop i) vm Mo:=by
 have p2:((R.take i ++ [c]) ++ R.drop i).Perm (c :: R):=by
  have e:(R.take i ++ [c]) ++ R.drop i=R.take i ++ c :: R.drop i:=by rw [List.append_assoc];rfl
  rw [e];refine List.perm_middle.trans ?_;rw [List.take_append_drop]
 refine ⟨hi.n,hi.m,hi.a2,hi.o.perm ?_,?_,?_,hi.ne,hi.b⟩
 ·rw [QlS hc]
  have p1:(R ++ c :: Mo.drop (k+1)).Perm (c :: (R ++ Mo.drop (k+1))):=List.perm_middle;exact p1.trans ((p2.append_right _).symm)
 ·rw [QeQ h.asc hp,(QoD h.asc hp).1,List.append_assoc]
  exact QkT h.asc
 ·refine (p2.map Ce.key).trans ?_
  rw [List.take_add_one,hb,<- List.append_assoc,List.map_append,List.map_cons,ek];refine (List.Perm.cons _ h.pm).trans ?_;exact (List.perm_append_singleton _ _).symm
theorem Qha {bo:Option Addr} {K cb:Nat} (hI:ShI w ao N a) (hJ:ShI w bo K b) (hasc:AscC a) (hab:AscC b) (hdj:∀ c∈b,¬ QoG a c.n c.s) (sN:N<=2000) (sK:K<=2000) :
  Calls prog 69 #[.slice ao N ca,.slice bo K cb] w (MdA w a b):=by
 obtain ⟨i0,hi,aC,aH,aF⟩:=Qe8;have II:=Qaa hI;have JJ:=Qaa hJ;have AS:=Qaa hasc;have AB:=Qaa hab;have DJ:=Qaa hdj;have aA:Hid (∀ (X:World) o,Bw X (X.alloc o)):=fun X o=>bA;clear hI hJ hasc hab hdj;go_enter func69,ntmps69;go_wp2_with fail;refine (Qcm II.hN II.lN II.sm II.pl II.mem).mono ?_;rintro e w1 ⟨v1,A1,rfl,a0,a3,a8,a1,aQ⟩;have aK:=Qaa a0;have a4:=Qaa a3;have aL:=Qaa a8;have az:=Qaa a1;have aT:=Qaa aQ;clear a0 a3 a8 a1 aQ;go_wp2_with fail;refine (Qcm JJ.hN JJ.lN JJ.sm JJ.pl (QaP JJ.mem az)).mono ?_;rintro e w2 ⟨v2,Mo,rfl,av,aR,aN,af,be⟩;obtain ⟨mo,mc,rfl,_⟩:=av.form;have aP:Mo.length=K:=(Qjc aN).trans JJ.hN;have aO:=Qaa aP;have bv:=Qaa aN;rw [aP] at av ⊢
 have I0:Hid (MdJ w w2 a b 0 v1 A1 (.slice mo K mc) Mo):=by
  refine ⟨aK.past af,av.le az.size,fun j h1 h2=>?_,?_,QgT aL AS,by rw [List.take_zero,List.append_nil,aL.out],aT,Qac az af⟩
  ·have l1:=(World.ownsRow.lt aK j h1).2
   have l2:=(World.ownsRow.lt av j h2).1;omega
  ·rw [List.drop_zero];exact a4.app af az.size aR
 have lN:=II.lN;have lK:=JJ.lN;clear av aR aN af be aP aK a4 aL az aT;go_wp2
 go_loopw [6,8] (fun vo i wr=>∃ (k:Nat) (R:List Ce),k<=K/\i=.int .i64 k/\Hid (MdJ w wr a b k vo R (.slice mo K mc) Mo)) (fun vo i wr=>K - (Go.RowKit.intOf i).toNat)
 case atStart=>exact ⟨0,A1,ZZj _,rfl,I0⟩
 case round=>
  clear I0;obtain ⟨k,R,hk,rfl,HI⟩:=hrel;obtain ⟨g,cp,ev,_⟩:=HI.r.src HI.ne;subst ev;have bf:R.length<=N+k:=by have h1:=HI.len;have h2:=List.length_take_le k b;have:=II.hN;omega
  have bp:R.length<=cp:=Qi6 HI.r;have bx:cp<=9223372036854775807:=Qi1 HI.r;obtain ⟨n,hn⟩:∃ n,R.length=n:=⟨_,rfl⟩;rw [hn] at HI bf bp ⊢;have ar:=Qaa hn;clear hn;by_cases bb:k<K
  ·have bn:(k:Int)<(K:Int):=by omega
   obtain ⟨c,hc⟩:∃ c,Mo[k]?=some c:=⟨Mo[k]'(by have:=aO.out;omega),ZZe _⟩;obtain ⟨bj,aJ⟩:∃ c,b[k]?=some c:=⟨b[k]'(by have:=JJ.hN;omega),ZZe _⟩
   have ek:c.key=bj.key:=by
    have e2:(Mo.map Ce.key)[k]?=(b.map Ce.key)[k]?:=by rw [bv.out]
    rw [List.getElem?_map,List.getElem?_map,hc,aJ] at e2
    simpa using e2
   have aE:OwnC wr w.heap.size (.slice mo K mc) Mo:=HI.m;obtain ⟨gm,cm,em⟩:=Qcf aE (by have:=aO.out;omega);injection em with em1 em2 em3;subst em1;rw [<- aO.out] at aE;have a5:=Qe6 aE hc;rw [Nat.zero_add] at a5;obtain ⟨x0,x1,x2,x3,x4,x5,x6,x7,x8,x9,bg,bd,bk,bm,bi⟩:=a5;have HC:=Qaa hc;have aM:=Qaa aJ;have EK:=Qaa ek;have aS:c∈R ++ Mo.drop k:=List.mem_append_right _ (by rw [QlS hc];simp);have AC:=Qaa (HI.o.o c aS);have X1:=Qaa (ZZk wr (.cells (Qan c) 75));have aI:=Qaa (HI.past (aA.out wr (.cells (Qan c) 75)));have A1:=Qaa (AC.past (aA.out wr (.cells (Qan c) 75)));clear hc aJ ek aE aS em2 em3;go_upto_region 7 with fail;clear x0 x1 x2 x3 x4 x5 x6 x7 x8 x9 bg bd bk bm bi;generalize wr.alloc _=W1 at X1 aI A1 ⊢;generalize wr.heap.size=rc at X1 ⊢;clear HI AC;have x0:=QaX X1 0 rfl;have x1:=QaX X1 1 rfl;go_wp2_with fail;clear x0 x1;refine (Qfg c.n c.s ar (by omega) aI.at).mono ?_;rintro e w2 ⟨kk,is,rfl,hp,af⟩;have HP:=Qaa hp;have ad:=Qaa (aI.past af);have A2:=Qaa (A1.past af);have X2:=Qaa (QbS X1 af);have aW:kk<=n:=by have:=hp.le;have:=ar.out;omega
   clear hp af aI A1 X1
   cases is with
   | true=>
    obtain ⟨d,hd,bq,e1,e2,_⟩:=QkW ad.asc HP;exact absurd (ad.no DJ AB aM EK bq e1 e2) (fun h=>h)
   | false=>
    go_upto_region 8 with fail;have ae:(fun _=>True) w2.drew:=trivial;refine Qal (fun _=>True) 99 (by kernel_rfl) ?_;refine tkS 0 (.bool false) ae ?_;refine tkS 1 (.bool false) ae ?_;refine tkU 2 ae ?_;simp only [sX];refine tkU 3 ae ?_;refine tkU 4 ae ?_;refine tkU 5 ae ?_;simp only [sX];refine tkU 6 ae ?_;refine tkU 7 ae ?_;refine tkU 8 ae ?_;simp only [sX];refine tkU 9 ae ?_;refine tkU 10 ae ?_;refine tkU 11 ae ?_;simp only [sX];refine tkS 12 (.bool false) ae ?_;simp only [sX];refine dnE ?_ _;have bA:(0:Int)<=(kk:Int):=by omega
    have bz:(kk:Int)<=(cp:Int):=by omega
    have bc:(kk:Int)<=(n:Int):=by omega
    have aD:Hid (InsI w (w2.alloc (.cells #[] 75)) (.slice (some ⟨w2.heap.size,0,none⟩) 0 0) [] (.slice (some ⟨g,0,none⟩) n cp) R (.slice (some ⟨gm,0,none⟩) K mc) Mo (R ++ Mo.drop k)):=by
     have al:=aA.out w2 (.cells #[] 75);refine ⟨(OwnC.made w2 #[] rfl).le ad.b.size,ad.r.past al,ad.m.past al,fun j h1 h2=>?_,fun j h1 h2=>?_,ad.ap,ad.o.past al,Qac ad.b al,fun e=>by cases e⟩
     ·injection h1 with h1;have:=(World.ownsRow.lt ad.r j h2).2;simp only at h1;omega
     ·injection h1 with h1;have:=(World.ownsRow.lt ad.m j h2).2;simp only at h1;omega
    have a6:(R.take kk).length=kk:=by rw [List.length_take];have:=ar.out;omega
    have ai:=Qaa a6;clear a6;have br:w.heap.size<=w2.heap.size:=ad.b.size;have X3:=Qaa (QbS X2 (aA.out w2 (.cells #[] 75)));go_wp2_with (at_builtin;refine wpList_append_own_at _ rfl _ _ 35 rfl w.heap.size 75 i0 (.agg QbC) 15 192 underlying35 hi aC aH aF rfl (by decide) _ _ _ rfl aD.n ⟨g,0,none⟩ kk cp (flC (R.take kk)) rfl ?c0 (QrX aD.r ar aW) (QdX _) ?c3 ?c4 ?c5 ?_)
    case c0=>rw [QbE,ai.out]
    case c3=>unfold maxLen;omega
    case c4=>omega
    case c5=>omega
    intro v5 w5 ag aq am ak;have aG:=Qaa (aD.app (G:=R.take kk) (v':=v5) (w1:=w5) (by rw [ai.out];simpa using ag) ⟨aq.os,aq.tape,aq.output,aq.size,aq.block⟩ (by rw [ai.out];simpa using am) (by simpa using ak));have X5:Hid (w5.heap[rc]?=_):=(aq.block rc (Array.getElem?_eq_some_iff.1 X3).1 (fun e=>by injection e with e;have:=(Array.getElem?_eq_some_iff.1 X2).1;simp only at e;omega)).trans X3;clear ag aq am ak aD X3;obtain ⟨q0,q1,q2,q3,q4,q5,q6,q7,q8,q9,a9,bl,ba,bs,bu⟩:=QuH X5;have aY:=Qaa (aG.past (aA.out w5 (.cells (Qan c) 75)));have bt:w.heap.size<=w5.heap.size:=aG.b.size;have bh:Hid (([] ++ R.take kk).length=kk):=by rw [List.nil_append];exact ai.out
    have aX:w5.ownsRow w.heap.size 75 15 v5 kk (flC (R.take kk)):=by have:=aG.n;rw [List.nil_append] at this;unfold OwnC at this;rw [ai.out] at this;exact this
    have a7:=Qaa aX;clear aX;go_wp2_with (at_builtin;refine wpList_append_own_at _ rfl _ _ 35 rfl w.heap.size 75 i0 (.agg QbC) 15 192 underlying35 hi aC aH aF rfl (by decide) _ _ _ rfl (World.ownsRow.alloc a7 _) ⟨w5.heap.size,0,none⟩ 1 1 (ceL c) rfl rfl ?c1 (QcK _) ?c3 ?c4 ?c5 ?_)
    case c1=>exact QbO
    case c3=>unfold maxLen;omega
    case c4=>omega
    case c5=>simp;omega
    intro v7 w7 ah aU an aj;have ay:=Qaa (aY.app (G:=[c]) (v':=v7) (w1:=w7) (by rw [bh.out,List.nil_append,Qk2];exact ah) aU (by simpa using an) (by simpa using aj));clear ah aU an aj aG aY a7 X5 q0 q1 q2 q3 q4 q5 q6 q7 q8 q9 a9 bl ba bs bu;have aw:w.heap.size<=w7.heap.size:=ay.b.size;have aV:(R.drop kk).length=n - kk:=by rw [List.length_drop,ar.out]
    have au:=Qaa aV;clear aV;have aZ:w7.ownsRow w.heap.size 75 15 v7 (kk+1) (flC (R.take kk ++ [c])):=by have:=ay.n;rw [List.nil_append] at this;unfold OwnC at this;rw [List.length_append,ai.out] at this;exact this
    have a2:=Qaa aZ;clear aZ;by_cases bw:cp=kk
    ·go_wp2_with (at_builtin;refine wpList_append_own_at _ rfl _ _ 35 rfl w.heap.size 75 i0 (.agg QbC) 15 192 underlying35 hi aC aH aF rfl (by decide) _ _ _ rfl a2 ⟨g,0,none⟩ (n - kk) 0 (flC (R.drop kk)) rfl ?c0 (QrG (by have:=ar.out;omega)) (QdX _) ?c3 ?c4 aw ?_)
     case c0=>rw [QbE,au.out]
     case c3=>unfold maxLen;omega
     case c4=>omega
     intro v9 w9 aa aB ac ab;have ax:=Qaa (ay.app (G:=R.drop kk) (v':=v9) (w1:=w9) (by rw [au.out,List.nil_append,List.length_append,ai.out];exact aa) aB (by rw [au.out];exact ac) ab);rw [List.nil_append] at ax;have HF:=Qaa (ad.ins HC aM EK HP ax);clear aa aB ac ab;go_wp2;go_roundw
     case rel=>exact ⟨k+1,_,by omega,by go_num,HF⟩
     case measure=>simp [zI];omega
    ·go_wp2_with (at_builtin;refine wpList_append_own_at _ rfl _ _ 35 rfl w.heap.size 75 i0 (.agg QbC) 15 192 underlying35 hi aC aH aF rfl (by decide) _ _ _ rfl a2 ⟨g,kk*15,none⟩ (n - kk) (cp - kk) (flC (R.drop kk)) rfl ?c0 (Qr6 ay.r ar aW) (QdX _) ?c3 ?c4 aw ?_)
     case c0=>rw [QbE,au.out]
     case c3=>unfold maxLen;omega
     case c4=>omega
     intro v9 w9 aa aB ac ab;have ax:=Qaa (ay.app (G:=R.drop kk) (v':=v9) (w1:=w9) (by rw [au.out,List.nil_append,List.length_append,ai.out];exact aa) aB (by rw [au.out];exact ac) ab);rw [List.nil_append] at ax;have HF:=Qaa (ad.ins HC aM EK HP ax);clear aa aB ac ab;go_wp2;go_roundw
     case rel=>exact ⟨k+1,_,by omega,by go_num,HF⟩
     case measure=>simp [zI];omega
  ·obtain rfl:k=K:=by omega
   have eb:b.take k=b:=List.take_of_length_le (by have:=JJ.hN;omega);have HF:Hid (MgD a b R/\OwnC wr w.heap.size (.slice (some ⟨g,0,none⟩) n cp) R/\CesO wr w.heap.size R):=⟨⟨HI.asc,by have:=HI.pm;rw [eb] at this;exact this⟩,HI.r,HI.o.sub (List.sublist_append_left _ _)⟩;clear eb hk bb;go_wp2;go_ret2;exact ⟨_,R,rfl,HF.1,HF.2.1,HF.2.2,(fun e=>by cases e),HI.b⟩
def QaL (S:List Sd):List Ce:=S.flatMap Sd.L
variable {M S:List Sd}
variable {s:Sd}
theorem Qgp (h:S[k]?=some s):QaL (S.take (k+1))=QaL (S.take k) ++ s.L:=by
 unfold QaL;rw [List.take_add_one,h,List.flatMap_append];simp
theorem Qbr (h:c∈QaL S):∃ s∈S,c∈s.L:=by
 unfold QaL at h;exact List.mem_flatMap.1 h
theorem Qga (n:Nat) (h:∀ s∈S,s.L.length<=n):(QaL S).length<=S.length*n:=by
 induction S with
 | nil=>simp [QaL]
 | cons s S ih=>
  have h1:=ih (fun t ht=>h t (ZZm _ ht));have h2:=h s (List.mem_cons_self);unfold QaL at h1 ⊢;rw [List.flatMap_cons,List.length_append,List.length_cons,Nat.add_mul];omega
structure QS (S:List Sd):Prop where
 ok:∀ s∈S,∀ c∈s.L,AgOk c.g/\AgSm c.g/\c.s.size<=maxLen/\PlG c.g c.p
 l:∀ s∈S,s.L.length<=60
 asc:∀ s∈S,AscC s.L
 n:S.length<=12
 dj:∀ k s,S[k]?=some s->∀ c∈s.L,¬ QoG (QaL (S.take k)) c.n c.s
structure LaI (w wr:World) (S:List Sd) (k:Nat) (v:Value) (R:List Ce):Prop where
 r:OwnC wr w.heap.size v R
 o:CesO wr w.heap.size R
 asc:AscC R
 pm:(R.map Ce.key).Perm ((QaL (S.take k)).map Ce.key)
 ne:v≠.slice none 0 0
 b:Bw w wr
theorem LaI.mem (h:LaI w wr S k v R) (hc:c∈R):∃ s∈S,∃ d∈s.L,d.n=c.n/\d.s=c.s/\d.g=c.g:=by
 have hm:c.key∈(QaL (S.take k)).map Ce.key:=h.pm.mem_iff.1 (List.mem_map_of_mem hc);obtain ⟨d,hd,e⟩:=List.mem_map.1 hm;obtain ⟨s,hs,hd⟩:=Qbr hd;obtain ⟨e1,e2,e3⟩:=QpL e;exact ⟨s,ZZo hs,d,hd,e1,e2,e3⟩
theorem LaI.len (h:LaI w wr S k v R) (q:QS S):R.length<=720:=by
 have h1:=h.pm.length_eq;rw [yA,yA] at h1;have h2:=Qga (S:=S.take k) 60 (fun s hs=>q.l s (ZZo hs));have h3:=q.n;have h4:(S.take k).length<=S.length:=by rw [List.length_take];omega
 omega
theorem LaI.hask {n:Int} {s:ByteArray} (h:LaI w wr S k v R) (hk:QoG R n s):QoG (QaL (S.take k)) n s:=by
 obtain ⟨c,hc,e1,e2⟩:=hk;have hm:c.key∈(QaL (S.take k)).map Ce.key:=h.pm.mem_iff.1 (List.mem_map_of_mem hc);obtain ⟨d,hd,e⟩:=List.mem_map.1 hm;obtain ⟨x1,x2,x3⟩:=QpL e;exact ⟨d,hd,x1.trans e1,x2.trans e2⟩
theorem LaI.sh {g:Nat} (h:LaI w wr S k (.slice (some ⟨g,0,none⟩) R.length cp) R) (q:QS S):ShI wr (some ⟨g,0,none⟩) R.length R:=
 ⟨rfl,by have:=h.len q;omega,fun c hc=>by obtain ⟨s,hs,d,hd,_,_,e⟩:=h.mem hc;rw [<- e];exact (q.ok s hs d hd).1,
  fun c hc=>by obtain ⟨s,hs,d,hd,_,_,e⟩:=h.mem hc;rw [<- e];exact (q.ok s hs d hd).2.1,
  fun c hc=>by obtain ⟨s,hs,d,hd,_,e,_⟩:=h.mem hc;rw [<- e];exact (q.ok s hs d hd).2.2.1,
  fun c hc=>(h.o.o c hc).plgX,OwnC.at h.r (fun c hc=>(h.o.o c hc).at)⟩
theorem LaI.step {w1:World} {v1:Value} {R1:List Ce} (h:LaI w wr S k v R) (hs:S[k]?=some s) (m:MgD R s.L R1) (r:OwnC w1 wr.heap.size v1 R1) (o:CesO w1 wr.heap.size R1) (ne:v1≠.slice none 0 0) (b:Bw wr w1):LaI w w1 S (k+1) v1 R1:=
 ⟨r.le h.b.size,o.le h.b.size,m.asc,by rw [Qgp hs,List.map_append];refine m.pm.trans ?_;rw [List.map_append];exact h.pm.append_right _,ne,Qac h.b b⟩
theorem Qf3 (p:Pi) (hN:S.length=N) (q:QS S) (hA:QfW w ao S) :
  Calls prog 37 #[.agg (Qad (.slice ao N ca) p)] w fun e w'=>∃ v R,e=.returned v/\LaI w w' S N v R:=by
 have HN:=Qaa hN;have HQ:=Qaa q;have HA:=Qaa hA;have lN:N<=12:=by have:=q.n;omega
 have a1:∀ (W:World) o,Bw W (W.alloc o):=fun W o=>bA;have hz:(w.alloc (.cells (Qad (.slice ao N ca) p) 25)).heap.size=w.heap.size+1:=by simp
 have HR:=Qaa (((a1 (w.alloc (.cells (Qad (.slice ao N ca) p) 25)) (.cells #[] 75)).block w.heap.size (by rw [hz];omega)).trans (heap_alloc_new w (.cells (Qad (.slice ao N ca) p) 25)));have af:=Qaa (Qac (a1 w (.cells (Qad (.slice ao N ca) p) 25)) (a1 _ (.cells #[] 75)))
 have ad:Hid (LaI w ((w.alloc (.cells (Qad (.slice ao N ca) p) 25)).alloc (.cells #[] 75)) S 0 (.slice (some ⟨w.heap.size+1,0,none⟩) 0 0) []):=by
  have m:=OwnC.made (w.alloc (.cells (Qad (.slice ao N ca) p) 25)) #[] rfl;rw [hz] at m;exact Qaa ⟨m.le (by omega),CesO.nil _ _,.nil,by simp [QaL],(fun e=>by cases e),af⟩
 clear hN hA a1 hz q;go_enter func37,ntmps37;go_upto_region 2 with fail;generalize (w.alloc _).alloc _=W0 at HR af ad ⊢;go_wp2
 go_loopw [3,4] (fun v i wr=>∃ (k:Nat) (R:List Ce),k<=N/\i=.int .i64 k/\Hid (LaI w wr S k v R)/\Hid (wr.heap[w.heap.size]?=some (.cells (Qad (.slice ao N ca) p) 25 (0,0)))) (fun v i wr=>N - (Go.RowKit.intOf i).toNat)
 case atStart=>exact ⟨0,[],ZZj _,rfl,ad,HR⟩
 case round=>
  clear ad HR af;obtain ⟨k,R,hk,rfl,HI,HR⟩:=hrel;have r0:=Qar HR 0 rfl;by_cases al:k<N
  ·have ae:(k:Int)<(N:Int):=by omega
   obtain ⟨b,aj,e,aa⟩:=HA.1 (by have:=HN.out;omega);subst e;obtain ⟨s,hs⟩:∃ s,S[k]?=some s:=⟨S[k]'(by have:=HN.out;omega),ZZe _⟩;obtain ⟨x0,x1⟩:=Qbz (aa k s hs) HI.b;have HS:=Qaa hs;have ab:=Qaa (ZZn hs);have ak:IntKind.i64.wrap ((k:Int)+1)=((k+1:Nat):Int):=by rw [show (k:Int)+1=((k+1:Nat):Int) by omega];exact ZZi _ ⟨by omega,by omega⟩
   obtain ⟨g,cp,ev,_⟩:=HI.r.src HI.ne;subst ev;have am:=HI.len HQ;clear aa hs;go_wp2_with fail;refine (Qha (HI.sh HQ) ⟨rfl,by have:=HQ.l s ab;omega,fun c hc=>(HQ.ok s ab c hc).1,fun c hc=>(HQ.ok s ab c hc).2.1,fun c hc=>(HQ.ok s ab c hc).2.2.1,fun c hc=>(HQ.ok s ab c hc).2.2.2,QaP (HA.2 s ab) HI.b⟩ HI.asc (HQ.asc s ab) (fun c hc h=>HQ.dj k s HS c hc (HI.hask h)) (by omega) (by have:=HQ.l s ab;omega)).mono ?_;rintro e w1 ⟨v1,R1,rfl,hm,hr,ho,ag,ac⟩;have ah:=Qaa (HI.step HS hm hr ho ag ac);have ai:=Qaa ((ac.block w.heap.size (ZZc.1 HR).1).trans HR);clear hm hr ho ag ac r0 x0 x1;go_wp2;go_roundw
   case rel=>exact ⟨k+1,R1,by omega,by first | rfl | go_num,ah,ai⟩
   case measure=>simp [zI];omega
  ·have ae:¬ (k:Int)<(N:Int):=by omega
   obtain rfl:k=N:=by omega
   go_wp2;go_ret;exact ⟨_,rfl,R,HI⟩
theorem Qf6 {t:ByteArray} (h:Qbt t=true):t.size<=100:=by
 obtain ⟨aa,K,hs⟩:Qca t:=@of_decide_eq_true _ (Classical.propDecidable _) h;exact hs.2.2.2.2.1
theorem Qms (h:cRi c=true):(0<=c.n/\c.n<=1000000000)/\c.s.size<=100:=by
 unfold cRi at h;simp only [yB] at h;obtain ⟨⟨⟨h1,h2⟩,_⟩,_⟩:=h;unfold Qjn at h1;simp only [yB,decide_eq_true_eq] at h1;exact ⟨h1,Qf6 h2⟩
theorem QgI {nm:ByteArray} (h:shB nm L=true):L.length<=60/\(∀ c∈L,cRi c=true)/\AscC L:=by
 unfold shB at h;exact csR_iff.1 (Bool.and_eq_true_iff.1 h).2
theorem QdA (h:Qeg S=true) (hs:s∈S):shB s.nm s.L=true:=by
 unfold Qeg at h;exact (List.all_eq_true.1 (Bool.and_eq_true_iff.1 h).2) s hs
noncomputable def Qbi (S:List Sd) (p:Pi):Bool:=Qhy p.a p.b p.c p.d && (Qeg S && plB S p.d)
theorem Qe3 (p:Pi) (hN:S.length=N) (sm:SdsSm S) (ok:∀ s∈S,∀ c∈s.L,AgOk c.g/\c.s.size<=maxLen) (hm:MX w) (hA:QfW w ao S) :
  Calls prog 25 #[.agg (Qad (.slice ao N ca) p)] w fun e w'=>e=.returned (.bool (Qbi S p))/\Bw w w':=by
 have HN:=Qaa hN;have SM:=Qaa sm;have OK:=Qaa ok;have HM:=Qaa hm;have HA:=Qaa hA;have aa:=Qaa (((ZZb _ _).alloc (ZZa _) _:Bw w (w.alloc (.cells (Qad (.slice ao N ca) p) 25))));have r0:=Qar (ZZk w (.cells (Qad (.slice ao N ca) p) 25)) 0 rfl;have r1:=Qar (ZZk w (.cells (Qad (.slice ao N ca) p) 25)) 1 rfl;have r2:=Qar (ZZk w (.cells (Qad (.slice ao N ca) p) 25)) 2 rfl;have r3:=Qar (ZZk w (.cells (Qad (.slice ao N ca) p) 25)) 3 rfl;have r4:=Qar (ZZk w (.cells (Qad (.slice ao N ca) p) 25)) 4 rfl;clear hN sm ok hm hA;go_enter func25,ntmps25;go_upto_region 1 with fail;generalize w.alloc _=W0 at aa r0 r1 r2 r3 r4 ⊢;have HC:Hid (∀ W,Bw W0 W->W.cell? ⟨w.heap.size,0,none⟩=some (.slice ao N ca)/\W.cell? ⟨w.heap.size,1,none⟩=some (.int .i64 p.a)/\W.cell? ⟨w.heap.size,2,none⟩=some (.int .i64 p.b)/\W.cell? ⟨w.heap.size,3,none⟩=some (.int .i64 p.c)/\W.cell? ⟨w.heap.size,4,none⟩=some (.int .i64 p.d)):=fun W hW=>⟨Qab hW r0,Qab hW r1,Qab hW r2,Qab hW r3,Qab hW r4⟩;go_wp2_with fail;refine (QkF _ ao N ca rfl p.a p.b p.c p.d _).mono ?_;rintro e w1 ⟨rfl,ad⟩;have ai:=Qaa ad;clear ad r0 r1 r2 r3 r4;go_wp2_with fail;refine (Qj2 p.a p.b p.c p.d _).mono ?_;rintro e w2 ⟨rfl,aj⟩;have ab:=Qaa (Qac ai aj);clear aj ai
 cases hck:Qhy p.a p.b p.c p.d with
 | false=>
  have HE:Hid (Qbi S p=false):=by unfold Qbi;rw [hck];exact Qaa rfl
  clear hck;go_wp2;go_ret;exact ⟨by rw [HE.out];rfl,Qac aa ab⟩
 | true=>
  have ag:=Qaa hck;obtain ⟨r0,r1,r2,r3,r4⟩:=HC.out _ ab;have ak:=Qaa (Qac aa ab);clear hck;go_wp2_with fail;clear r0 r1 r2 r3 r4;refine (QiX HN SM OK (HM.past ak) (QaF HA ak)).mono ?_;rintro e w3 ⟨rfl,ah⟩;have ac:=Qaa (Qac ab ah);clear ah
  cases hsd:Qeg S with
  | false=>
   have HE:Hid (Qbi S p=false):=by unfold Qbi;rw [hsd,ag.out];exact Qaa rfl
   clear hsd;go_wp2;go_ret;exact ⟨by rw [HE.out];rfl,Qac aa ac⟩
  | true=>
   have am:=Qaa hsd;have HE:Hid (Qbi S p=plB S p.d):=by unfold Qbi;rw [hsd,ag.out];exact Qaa (by simp)
   obtain ⟨r0,r1,r2,r3,r4⟩:=HC.out _ ac;have af:=Qaa (Qac aa ac);clear hsd;go_wp2_with fail;clear r0 r1 r2 r3 r4;refine (Qjh p HN SM (fun s hs c hc=>by have:=Qms ((QgI (QdA am hs)).2.1 c hc);exact ⟨this.1,(OK.out s hs c hc).2⟩) (QaF HA af)).mono ?_;rintro e w4 ⟨rfl,ae⟩;have al:=Qaa (Qac af ae);clear ae
   cases hpl:plB S p.d <;> (go_wp2;go_ret;exact ⟨by rw [HE.out,hpl];rfl,al⟩)
theorem qs_of (hsd:Qeg S=true) (ok:∀ s∈S,∀ c∈s.L,AgOk c.g/\AgSm c.g/\c.s.size<=maxLen/\PlG c.g c.p) (own:∀ x∈fcS S,QaR (S.map Sd.nm) x.2.s x.1):QS S:=by
 have ab:Qag (S.map Sd.nm)=true:=(Bool.and_eq_true_iff.1 (by unfold Qeg at hsd;exact hsd)).1;refine ⟨ok,fun s hs=>(QgI (QdA hsd hs)).1,fun s hs=>(QgI (QdA hsd hs)).2.2,by have:=(Qa8 ab).2;rwa [yA] at this,fun k s hs c hc hk=>?_⟩;obtain ⟨d,hd,e1,e2⟩:=hk;obtain ⟨t,ht,hd⟩:=Qbr hd;obtain ⟨j,hj,rfl⟩:=List.mem_iff_getElem.1 ht;rw [List.length_take] at hj;have aa:S[j]?=some (S.take k)[j]:=by rw [List.getElem_take,List.getElem?_eq_getElem]
 have ac:((S.take k)[j].nm,d)∈fcS S:=by
  unfold fcS;exact List.mem_flatMap.2 ⟨_,ZZn aa,List.mem_map_of_mem hd⟩
 have ad:(s.nm,c)∈fcS S:=by
  unfold fcS;exact List.mem_flatMap.2 ⟨_,ZZn hs,List.mem_map_of_mem hc⟩
 have o1:=own _ ac;have o2:=own _ ad;have o1:QaR (S.map Sd.nm) c.s (S.take k)[j].nm:=by rw [<- e2];exact o1
 have e:=Qet o1 o2;have n1:(S.map Sd.nm)[j]?=some (S.take k)[j].nm:=by rw [List.getElem?_map,aa];rfl
 have n2:(S.map Sd.nm)[j+(k - j - 1)+1]?=some s.nm:=by rw [show j+(k - j - 1)+1=k by omega,List.getElem?_map,hs];rfl
 have lt:=Qdk ab n1 (k - j - 1) n2;rw [e,show (s.nm,c).1=s.nm from rfl,Qcq] at lt
 cases lt
theorem Qem (S:List Sd):(fcS S).map Prod.snd=QaL S:=by
 unfold fcS QaL;rw [List.map_flatMap]
 congr 1
 funext s
 rw [List.map_map];exact List.map_id' _
theorem QpK (h:(R.map Ce.key).Perm ((QaL S).map Ce.key)) (win:Int):Qjp R win=Qhk (fcS S) win:=by
 have e1:Qhk (fcS S) win=(QaL S).countP (fun c=>decide (c.n=win)):=by
  rw [<- Qem,List.countP_map];rfl
 have e2:∀ L:List Ce,L.countP (fun c=>decide (c.n=win))=(L.map Ce.key).countP (fun x=>decide (x.1=win)):=fun L=>by rw [List.countP_map];rfl
 unfold Qjp;rw [e1,e2,e2];exact h.countP_eq _
variable {cl:Int}
variable {own:ByteArray->ByteArray->Prop}
theorem pl_of (h:(R.map Ce.key).Perm ((QaL S).map Ce.key)) (hl:(fcS S).length<=60) (hc:∀ c∈R,Qjp R c.n<=20) (hp:∀ x∈fcS S,cl<=x.2.n/\own x.2.s x.1):PlP (fcS S) cl own:=by
 refine ⟨hl,fun win=>?_,hp⟩;rw [<- QpK h];by_cases q:∃ c∈R,c.n=win
 ·obtain ⟨c,aa,rfl⟩:=q
  exact hc c aa
 ·have:Qjp R win=0:=by
   unfold Qjp;exact List.countP_eq_zero.2 (fun c aa=>by simpa using fun e=>q ⟨c,aa,e⟩)
  omega
variable {p:Pi}
theorem QiQ (h:Qhy p.a p.b p.c p.d=false):Qbi S p=false:=by unfold Qbi;rw [h];rfl
theorem QoK (h:Qeg S=false):Qbi S p=false:=by unfold Qbi;rw [h];simp
theorem QmE (h:¬ PlP (fcS S) p.d (QaR (S.map Sd.nm))):Qbi S p=false:=by unfold Qbi;rw [QfI h];simp
theorem QtA (h1:Qhy p.a p.b p.c p.d=true) (h2:Qeg S=true) (h:PlP (fcS S) p.d (QaR (S.map Sd.nm))):Qbi S p=true:=by unfold Qbi;rw [Qgm h,h1,h2];rfl
theorem Qrr (h:Qag (S.map Sd.nm)=false):Qeg S=false:=by unfold Qeg;rw [h];rfl
theorem Qsr (h:S[k]?=some s) (hs:shB s.nm s.L=false):Qeg S=false:=by
 unfold Qeg;rw [Qmo (f:=fun s=>shB s.nm s.L) h hs];simp
def Pls (S:List Sd) (cl:Int) (k:Nat):Prop:=∀ x∈(fcS S).take k,cl<=x.2.n/\QaR (S.map Sd.nm) x.2.s x.1
theorem Pls.step {x:ByteArray×Ce} (h:Pls S cl k) (hx:(fcS S)[k]?=some x) (h3:cl<=x.2.n) (h4:QaR (S.map Sd.nm) x.2.s x.1):Pls S cl (k+1):=fun y hy=>by
 rw [List.take_add_one,hx] at hy;rcases List.mem_append.1 hy with hy | hy
 ·exact h y hy
 ·simp at hy
  subst hy;exact ⟨h3,h4⟩
theorem Qa7 (p:Pi) (hN:S.length=N) (sm:SdsSm S) (ok:∀ s∈S,∀ c∈s.L,AgOk c.g/\c.s.size<=maxLen/\PlG c.g c.p) (hA:QfW w ao S) :
  Calls prog 9 #[.agg (Qad (.slice ao N ca) p)] w fun e w'=>e=.returned (.bool (Qbi S p))/\Bw w w':=by
 have HN:=Qaa hN;have SM:=Qaa sm;have OK:=Qaa ok;have HA:=Qaa hA;have lN:N<=1048576:=by have:=sm.n;omega
 have LM:Hid ((S.map Sd.nm).length=N):=by rw [yA];exact HN
 have aq:=Qaa (((ZZb _ _).alloc (ZZa _) _:Bw w (w.alloc (.cells (Qad (.slice ao N ca) p) 25))));have r0:=Qar (ZZk w (.cells (Qad (.slice ao N ca) p) 25)) 0 rfl;have r1:=Qar (ZZk w (.cells (Qad (.slice ao N ca) p) 25)) 1 rfl;have r2:=Qar (ZZk w (.cells (Qad (.slice ao N ca) p) 25)) 2 rfl;have r3:=Qar (ZZk w (.cells (Qad (.slice ao N ca) p) 25)) 3 rfl;have r4:=Qar (ZZk w (.cells (Qad (.slice ao N ca) p) 25)) 4 rfl;clear hN sm ok hA;go_enter func9,ntmps9;go_upto_region 1 with fail;generalize w.alloc _=W0 at aq r0 r1 r2 r3 r4 ⊢;have HC:Hid (∀ W,Bw W0 W->W.cell? ⟨w.heap.size,0,none⟩=some (.slice ao N ca)/\W.cell? ⟨w.heap.size,1,none⟩=some (.int .i64 p.a)/\W.cell? ⟨w.heap.size,2,none⟩=some (.int .i64 p.b)/\W.cell? ⟨w.heap.size,3,none⟩=some (.int .i64 p.c)/\W.cell? ⟨w.heap.size,4,none⟩=some (.int .i64 p.d)):=fun W hW=>⟨Qab hW r0,Qab hW r1,Qab hW r2,Qab hW r3,Qab hW r4⟩;go_wp2_with fail;refine (Qb4 (ca:=ca) p HN lN (QaF HA aq)).mono ?_;rintro e w1 ⟨bo,cn,rfl,ho,aS⟩;have HO:=Qaa ho;have aP:=Qaa aS;clear ho aS r0 r1 r2 r3 r4;go_wp2_with fail;have aA:=Qdc (w:=w1) (ao:=bo) (L:=S.map Sd.nm) cn (by rw [LM.out];exact lN) (fun u hu=>by obtain ⟨z,hz,rfl⟩:=List.mem_map.1 hu;exact SM.nz z hz) HO.at
 rw [LM.out] at aA;refine aA.mono ?_;rintro e w2 ⟨rfl,aI⟩;have a5:=Qaa (QaA HO.at aI);have aw:=Qaa (Qac aP aI);have ac:=Qaa (Qac aq aw);have ap:=Qaa (QaF HA ac);have ah:Hid (∀ W,Bw w2 W->W.cell? ⟨w.heap.size,0,none⟩=some (.slice ao N ca)/\W.cell? ⟨w.heap.size,1,none⟩=some (.int .i64 p.a)/\W.cell? ⟨w.heap.size,2,none⟩=some (.int .i64 p.b)/\W.cell? ⟨w.heap.size,3,none⟩=some (.int .i64 p.c)/\W.cell? ⟨w.heap.size,4,none⟩=some (.int .i64 p.d)):=fun W hW=>HC.out W (Qac aw hW);clear aA aI aP HO aw HC aq
 cases hmb:Qag (S.map Sd.nm) with
 | false=>
  have HE:Hid (Qbi S p=false):=Qaa (QoK (Qrr hmb));clear hmb;go_wp2;go_ret;exact ⟨by rw [HE.out];rfl,ac⟩
 | true=>
  have aN:=Qaa hmb;have ba:N<=12:=by have:=(Qa8 hmb).2;have:=LM.out;omega
  obtain ⟨r0,r1,r2,r3,r4⟩:=ah.out w2 (ZZb _ _);clear hmb;go_wp2_with fail;refine (Qgk p.a 1 1000 _).mono ?_;rintro e wz ⟨rfl,af⟩;obtain rfl:=af.symm;rw [show (decide (1<=p.a) && decide (p.a<=1000))=inB p.a 1 1000 from rfl]
  cases ha:inB p.a 1 1000 with
  | false=>
   have HE:Hid (Qbi S p=false):=Qaa (QiQ (by unfold Qhy;rw [ha];simp));clear ha;go_wp2;go_ret;exact ⟨by rw [HE.out];rfl,ac⟩
  | true=>
   have Ta:=Qaa ha;clear ha;go_wp2_with fail;refine (Qgk p.b 0 1000 _).mono ?_;rintro e wz ⟨rfl,af⟩;obtain rfl:=af.symm;rw [show (decide (0<=p.b) && decide (p.b<=1000))=inB p.b 0 1000 from rfl]
   cases hb:inB p.b 0 1000 with
   | false=>
    have HE:Hid (Qbi S p=false):=Qaa (QiQ (by unfold Qhy;rw [hb];simp));clear hb;go_wp2;go_ret;exact ⟨by rw [HE.out];rfl,ac⟩
   | true=>
    have Tb:=Qaa hb;clear hb;go_wp2_with fail;refine (Qes p.c _).mono ?_;rintro e wz ⟨rfl,af⟩;obtain rfl:=af.symm;rw [show Qjn p.c=inB p.c 0 1000000000 from rfl]
    cases hc:inB p.c 0 1000000000 with
    | false=>
     have HE:Hid (Qbi S p=false):=Qaa (QiQ (by unfold Qhy;rw [hc];simp));clear hc;go_wp2;go_ret;exact ⟨by rw [HE.out];rfl,ac⟩
    | true=>
     have Tc:=Qaa hc;clear hc;go_wp2_with fail;refine (Qes p.d _).mono ?_;rintro e wz ⟨rfl,af⟩;obtain rfl:=af.symm;rw [show Qjn p.d=inB p.d 0 1000000000 from rfl]
     cases hd:inB p.d 0 1000000000 with
     | false=>
      have HE:Hid (Qbi S p=false):=Qaa (QiQ (by unfold Qhy;rw [hd];simp));clear hd;go_wp2;go_ret;exact ⟨by rw [HE.out];rfl,ac⟩
     | true=>
      have Td:=Qaa hd;clear hd;have a3:Hid (Qhy p.a p.b p.c p.d=true):=Qaa (by unfold Qhy;rw [Ta.out,Tb.out,Tc.out,Td.out];rfl);clear r0 r1 r2 r3 r4 Ta Tb Tc Td;go_upto_region 6 with fail
      go_loopw [4,5] (fun m i wr=>∃ (k:Nat),k<=N/\i=.int .i64 k/\m=.int .i64 (QcH S k:Nat)/\Hid (QcH S k<=60*k/\(S.take k).all (fun s=>shB s.nm s.L)=true)/\Hid (Pls S p.d (QcH S k))/\Hid (Bw w2 wr)) (fun m i wr=>N - (Go.RowKit.intOf i).toNat)
      case atStart=>exact ⟨0,Nat.zero_le _,rfl,by rw [QcT];rfl,⟨by rw [QcT];omega,by simp⟩,by rw [QcT];exact fun x hx=>by simp at hx,Below.refl _ _⟩
      case round=>
       obtain ⟨k,hk,rfl,rfl,HF,HP,HB⟩:=hrel;obtain ⟨r0,r1,r2,r3,r4⟩:=ah.out wr HB;by_cases bd:k<N
       ·have aC:(k:Int)<(N:Int):=by omega
        obtain ⟨b,am,e,ab⟩:=ap.1 (by have:=HN.out;omega);subst e;obtain ⟨s,hs⟩:∃ s,S[k]?=some s:=⟨S[k]'(by have:=HN.out;omega),ZZe _⟩;have HX:Hid (∀ W,Bw w2 W->W.cell? ⟨b,am+k*2,none⟩=some (.string s.nm)/\W.cell? ⟨b,am+k*2+1,none⟩=some (.slice s.ao s.L.length s.cp)):=fun W hW=>Qbz (ab k s hs) hW;obtain ⟨x0,x1⟩:=HX.out wr HB;have HS:=Qaa hs;have ai:=Qaa (ZZn hs);have bf:IntKind.i64.wrap ((k:Int)+1)=((k+1:Nat):Int):=by rw [show (k:Int)+1=((k+1:Nat):Int) by omega];exact ZZi _ ⟨by omega,by omega⟩
        have aX:=Qaa (SM.l s ai);clear ab hs;go_wp2_with fail;clear x0 x1 r0 r1 r2 r3 r4;refine (QhF s.nm (by have:=SM.nz s ai;unfold maxLen;omega) rfl aX (fun c hc=>(OK.out s ai c hc).1) (SM.sm s ai) (fun c hc=>(OK.out s ai c hc).2.1) (QaP (ap.2 s ai) HB)).mono ?_;rintro e w3 ⟨rfl,aL⟩;have an:=Qaa (Qac HB aL);clear aL
        cases hsb:shB s.nm s.L with
        | false=>
         have HE:Hid (Qbi S p=false):=Qaa (QoK (Qsr HS hsb));clear hsb;go_wp2;go_ret;exact ⟨by rw [HE.out];rfl,Qac ac an⟩
        | true=>
         have aO:=Qaa (QgI hsb);have aW:Hid (QcH S (k+1)<=60*(k+1)/\(S.take (k+1)).all (fun s=>shB s.nm s.L)=true):=Qaa ⟨by rw [QgR HS.out];have:=HF.1;have:=(QgI hsb).1;omega,Qm7 (f:=fun s=>shB s.nm s.L) HS HF.2 hsb⟩;have aB:=Qaa (QgR HS);obtain ⟨M,hM⟩:∃ M,s.L.length=M:=⟨_,rfl⟩
         have bc:IntKind.i64.wrap ((QcH S k:Int)+(M:Int))=((QcH S (k+1):Nat):Int):=by
          have h1:=aW.1;have h2:=aB.out;rw [hM] at h2;rw [show (QcH S k:Int)+(M:Int)=((QcH S (k+1):Nat):Int) by omega];exact ZZi _ ⟨by omega,by omega⟩
         obtain ⟨r0,r1,r2,r3,r4⟩:=ah.out w3 an;obtain ⟨x0,x1⟩:=HX.out w3 an;have lM:M<=60:=by have:=aO.1;omega
         rw [hM] at HX x1 aB;have aM:=Qaa hM;clear hsb hM;go_upto_region 12 with fail;clear r0 r1 r2 r3 r4 x0 x1
         go_loopw [6] (fun kv wr=>∃ (q:Nat),q<=M/\kv=.int .i64 q/\Hid (Pls S p.d (QcH S k+q))/\Hid (Bw w2 wr)) (fun kv wr=>M - (Go.RowKit.intOf kv).toNat)
         case atStart=>exact ⟨0,ZZj _,rfl,HP,an⟩
         case round=>
          clear HP HB an;obtain ⟨q,hq,rfl,HP,HB⟩:=hrel;obtain ⟨r0,r1,r2,r3,r4⟩:=ah.out wr HB;obtain ⟨x0,x1⟩:=HX.out wr HB;by_cases bi:q<M
          ·have aE:(q:Int)<(M:Int):=by omega
           obtain ⟨c,hc⟩:∃ c,s.L[q]?=some c:=⟨s.L[q]'(by have:=aM.out;omega),ZZe _⟩;obtain ⟨b1,az,e1,ab⟩:=(ap.2 s ai).1 (by have:=aM.out;omega);obtain ⟨z0,z1,z2,z3,z4,z5,z6,z7,z8,z9,a2,a9,aY,z13,a4⟩:=Qas (ab q c hc) HB;have HC:Hid ((fcS S)[QcH S k+q]?=some (s.nm,c)):=Qaa (QsU HS hc);have HW:=Qaa (Qms (aO.2.1 c (ZZn hc)));have bg:IntKind.i64.wrap ((q:Int)+1)=((q+1:Nat):Int):=by rw [show (q:Int)+1=((q+1:Nat):Int) by omega];exact ZZi _ ⟨by omega,by omega⟩
           rw [e1] at x1;clear ab hc;go_upto_region 15 with fail;clear z0 z1 z2 z3 z4 z5 z6 z7 z8 z9 a2 a9 aY z13 a4 r0 r1 r2 r3 r4 x0 x1;have al:Bw wr (wr.alloc (.cells (Qan c) 75)):=bA;have ar:Hid ((wr.alloc (.cells (Qan c) 75)).cell? ⟨wr.heap.size,0,none⟩=some (.int .i64 c.n)):=Qaa (Qar (ZZk wr (.cells (Qan c) 75)) 0 rfl);have aH:Hid ((wr.alloc (.cells (Qan c) 75)).cell? ⟨wr.heap.size,1,none⟩=some (.string c.s)):=Qaa (Qar (ZZk wr (.cells (Qan c) 75)) 1 rfl);have ad:=Qaa (Qac HB al);clear al HB;generalize wr.alloc _=W5 at ad ar aH ⊢;generalize wr.heap.size=cb at ar aH ⊢;clear wr;have bj:¬ N<=k:=by omega
           by_cases be:c.n<p.d
           ·have HE:Hid (Qbi S p=false):=Qaa (QmE (fun h=>by have:=(h.at HC).2.2.1;have e:(s.nm,c).2.n=c.n:=rfl;omega))
            have aa:(fun W=>Bw W5 W) W5.drew:=(ZZb _ _).drew;refine Qal (fun W=>Bw W5 W) 99 (by kernel_rfl) ?_;refine tkS 0 (.pointer (some ⟨cb,0,none⟩)) aa ?_;refine tkL 1 (.int .i64 c.n) aa (fun W hW=>?_) ?_
            ·have z:=Qab hW ar
             clear hW;go_simp
            refine tkS 2 (.pointer (some ⟨w.heap.size,4,none⟩)) aa ?_;simp only [sX];refine tkL 3 (.int .i64 p.d) aa (fun W hW=>?_) ?_
            ·have z:=(ah.out W (Qac ad hW)).2.2.2.2
             clear hW;go_simp
            refine tkS 4 (.bool true) aa ?_;refine tkS 5 (.bool true) aa ?_;simp only [sX];refine tkU 6 aa ?_;refine tkU 7 aa ?_;refine tkU 8 aa ?_;simp only [sX];refine tkU 10 aa ?_;refine tkU 11 aa ?_;refine tkU 12 aa ?_;simp only [sX];refine tkU 13 aa ?_;refine tkU 14 aa ?_;refine tkU 15 aa ?_;simp only [sX];refine onE 9 fun K hK=>?_;refine Eq.mpr (if_neg (fun h=>Bool.noConfusion (show false=true from h))) ?_;refine gK hK aa ?_
            try simp only [sX]
            refine tkU 16 aa ?_;refine tkS 17 (.bool true) aa ?_;simp only [sX];refine dnE ?_ _;go_wp2;go_ret;exact ⟨by rw [HE.out];rfl,Qac ac (Qac ad aa)⟩
           ·have aa:(fun W=>Bw W5 W) W5.drew:=(ZZb _ _).drew
            refine Qal (fun W=>Bw W5 W) 99 (by kernel_rfl) ?_;refine tkS 0 (.pointer (some ⟨cb,0,none⟩)) aa ?_;refine tkL 1 (.int .i64 c.n) aa (fun W hW=>?_) ?_
            ·have z:=Qab hW ar
             clear hW;go_simp
            refine tkS 2 (.pointer (some ⟨w.heap.size,4,none⟩)) aa ?_;simp only [sX];refine tkL 3 (.int .i64 p.d) aa (fun W hW=>?_) ?_
            ·have z:=(ah.out W (Qac ad hW)).2.2.2.2
             clear hW;go_simp
            refine tkS 4 (.bool false) aa ?_;refine tkS 5 (.bool false) aa ?_;simp only [sX];refine tkS 6 (.slice bo N cn) aa ?_;refine tkS 7 (.pointer (some ⟨cb,1,none⟩)) aa ?_;refine tkL 8 (.string c.s) aa (fun W hW=>?_) ?_
            ·have z:=Qab hW aH
             clear hW;go_simp
            simp only [sX];refine tkS 10 (.pointer (some ⟨w.heap.size,0,none⟩)) aa ?_;refine tkL 11 (.slice (some ⟨b,am,none⟩) N ca) aa (fun W hW=>?_) ?_
            ·have z:=(ah.out W (Qac ad hW)).1
             clear hW;go_simp
            refine tkS 12 (.int .i64 (k:Int)) aa ?_;simp only [sX];refine tkS 13 (.pointer (some ⟨b,am+k*2,none⟩)) aa ?_;refine tkS 14 (.pointer (some ⟨b,am+k*2,none⟩)) aa ?_;refine tkL 15 (.string s.nm) aa (fun W hW=>?_) ?_
            ·have z:=(HX.out W (Qac ad hW)).1
             clear hW;go_simp
            simp only [sX];refine onE 9 fun K hK=>?_;go_simp;have aG:=Qdo (w:=W5.drew) (L:=S.map Sd.nm) (ao:=bo) cn c.s (by have:=HW.2;omega) aN (QaA a5 (Qac ad (aa:Bw W5 W5.drew)));rw [LM.out] at aG;refine aG.mono ?_;rintro e w7 ⟨o,rfl,ho,aU⟩;have aV:=Qaa ho;have av:Hid (Bw W5 w7):=(aa:Bw W5 W5.drew).trans (aU.mono (ZZa _));clear aU ho aG;dsimp only;refine gK hK av.out ?_
            try simp only [sX]
            refine tkS 16 (.bool (!(o.toList == s.nm.toList))) av ?_;refine tkS 17 (.bool (!(o.toList == s.nm.toList))) av ?_;simp only [sX];refine dnE ?_ _;have aR:=Qaa (Qac ad av);generalize hbx:(o.toList == s.nm.toList)=bx;by_cases aj:o=s.nm
            ·obtain rfl:bx=true:=by rw [<- hbx,aj];exact beq_self_eq_true _
             have aJ:=Qaa (HP.step HC (by show p.d<=c.n;omega) (by show QaR _ c.s s.nm;rw [<- aj];exact aV.out));clear aj hbx;go_wp2;go_roundw
             case rel=>first | exact ⟨q+1,by omega,(by first | rfl | go_num),aJ,aR⟩ | exact ⟨q+1,by omega,(by first | rfl | go_num),aJ⟩ | exact ⟨q+1,(by first | rfl | go_num),aJ⟩
             case measure=>simp [zI];omega
            ·obtain rfl:bx=false:=hbx.symm.trans <| beq_eq_false_iff_ne.2 (fun e=>aj (by rw [ByteArray.toList_eq,ByteArray.toList_eq] at e;exact ByteArray.ext (Array.toList_inj.1 e)))
             have HE:Hid (Qbi S p=false):=Qaa (QmE (fun h=>aj (Qet aV (h.at HC).2.2.2)));clear aj hbx;go_wp2;go_ret;exact ⟨by rw [HE.out];rfl,Qac ac aR⟩
          ·have aE:¬ (q:Int)<(M:Int):=by omega
           obtain rfl:q=M:=by omega
           rw [<- aB.out] at HP;go_wp2;go_roundw
           case rel=>exact ⟨k+1,by omega,by first | rfl | go_num,rfl,aW,HP,HB⟩
           case measure=>simp [zI];omega
       ·have aC:¬ (k:Int)<(N:Int):=by omega
        obtain rfl:k=N:=by omega
        have ae:=QlY (S:=S) (k:=k) (by have:=HN.out;omega);by_cases a6:QcH S k<=60
        ·have a7:¬ (60:Int)<(QcH S k:Int):=by omega
         have aF:∀ x∈fcS S,p.d<=x.2.n/\QaR (S.map Sd.nm) x.2.s x.1:=fun x hx=>HP.out x (by rw [ae,List.take_length];exact hx)
         have aD:Qeg S=true:=by
          have h1:=HF.2;rw [List.take_of_length_le (by have:=HN.out;omega)] at h1;unfold Qeg;rw [aN.out,h1];rfl
         have aZ:=Qaa aD;have a8:=Qaa aF;have HL:=Qaa ae;have HQ:=Qaa (qs_of aD (fun s hs c hc=>⟨(OK.out s hs c hc).1,SM.sm s hs c hc,(OK.out s hs c hc).2.1,(OK.out s hs c hc).2.2⟩) (fun x hx=>(aF x hx).2));clear aF aD ae;go_wp2_with fail;clear r0 r1 r2 r3 r4;refine (Qf3 p HN HQ (QaF ap HB)).mono ?_;rintro e w5 ⟨v5,R,rfl,ag⟩;obtain ⟨g,cp,ev,_⟩:=ag.r.src ag.ne;subst ev;have aK:=Qaa ag;have ad:=Qaa (Qac HB ag.b);have lR:R.length<=720:=ag.len HQ;have aQ:Hid (QbV w5 (some ⟨g,0,none⟩) R):=Qaa (OwnC.at ag.r (fun c hc=>(ag.o.o c hc).at));obtain ⟨n,hn⟩:∃ n,R.length=n:=⟨_,rfl⟩;rw [hn] at lR ⊢;have au:=Qaa hn;clear ag hn;go_wp2
         go_loopw [9] (fun i wr=>∃ (j:Nat),j<=n/\i=.int .i64 j/\Hid (∀ c∈R.take j,Qjp R c.n<=20)/\Hid (Bw w5 wr)) (fun i wr=>n - (Go.RowKit.intOf i).toNat)
         case atStart=>exact ⟨0,Nat.zero_le _,rfl,fun c hc=>by simp at hc,Below.refl _ _⟩
         case round=>
          obtain ⟨j,hj,rfl,HT,ak⟩:=hrel;by_cases bk:j<n
          ·have ay:(j:Int)<(n:Int):=by omega
           obtain ⟨c,hc⟩:∃ c,R[j]?=some c:=⟨R[j]'(by have:=au.out;omega),ZZe _⟩;obtain ⟨b1,az,e1,ab⟩:=aQ.1 (by have:=au.out;omega);injection e1 with e1;injection e1 with e1 e2 e3;subst e1 e2;have z0:wr.cell? ⟨g,0+j*15,none⟩=some (.int .i64 c.n):=(Qas (ab j c hc) ak).1;rw [Nat.zero_add] at z0;have a1:=Qaa hc;have bh:IntKind.i64.wrap ((j:Int)+1)=((j+1:Nat):Int):=by rw [show (j:Int)+1=((j+1:Nat):Int) by omega];exact ZZi _ ⟨by omega,by omega⟩
           clear ab hc;go_wp2_with fail;clear z0;refine (QgK c.n au (by omega) (QaP aQ ak)).mono ?_;rintro e wz ⟨rfl,af⟩;obtain rfl:=af.symm;obtain ⟨C,hC⟩:∃ C:Int,(Qjp R c.n:Int)=C:=⟨_,rfl⟩;rw [hC];have aT:=Qaa hC;clear hC;by_cases a0:C<=20
           ·have bb:¬ (20:Int)<C:=by omega
            have ax:Hid (∀ c∈R.take (j+1),Qjp R c.n<=20):=Qaa (fun d hd=>by
             rw [List.take_add_one,a1.out] at hd;rcases List.mem_append.1 hd with hd | hd
             ·exact HT.out d hd
             ·simp at hd
              subst hd;have:=aT.out;omega)
            go_wp2;go_roundw
            case rel=>exact ⟨j+1,by omega,by first | rfl | go_num,ax,ak⟩
            case measure=>simp [zI];omega
           ·have bb:(20:Int)<C:=by omega
            have HE:Hid (Qbi S p=false):=Qaa (QmE (fun h=>by
             have h1:=h.c c.n;have h2:=aK.pm;rw [List.take_of_length_le (by have:=HN.out;omega)] at h2;rw [<- QpK h2] at h1;have:=aT.out;omega))
            clear a0;go_wp2;go_ret;exact ⟨by rw [HE.out];rfl,Qac ac (Qac ad ak)⟩
          ·have ay:¬ (j:Int)<(n:Int):=by omega
           have HE:Hid (Qbi S p=true):=Qaa (QtA a3 aZ (by
            have h2:=aK.pm;rw [List.take_of_length_le (by have:=HN.out;omega)] at h2;have h3:=HT.out;rw [List.take_of_length_le (by have:=au.out;omega)] at h3;exact pl_of h2 (by have:=HL.out;omega) h3 a8))
           go_wp2;go_ret;exact ⟨by rw [HE.out];rfl,Qac ac (Qac ad ak)⟩
        ·have a7:(60:Int)<(QcH S k:Int):=by omega
         have HE:Hid (Qbi S p=false):=Qaa (QmE (fun h=>by have:=h.l;omega));clear ae a6;go_wp2;go_ret;exact ⟨by rw [HE.out];rfl,Qac ac HB⟩
theorem Qfi (h:M.map Sd.key=S.map Sd.key) {t:Sd} (ht:t∈M):∃ s∈S,t.nm=s.nm/\t.L.map Ce.key=s.L.map Ce.key:=by
 have hm:t.key∈S.map Sd.key:=h ▸ List.mem_map_of_mem ht;obtain ⟨s,hs,e⟩:=List.mem_map.1 hm;exact ⟨s,hs,(Qfz e).1.symm,(Qfz e).2.1.symm⟩
theorem QlC {M:List Ce} (h:M.map Ce.key=L.map Ce.key) (hc:c∈M):∃ d∈L,d.n=c.n/\d.s=c.s/\d.g=c.g:=by
 have hm:c.key∈L.map Ce.key:=h ▸ List.mem_map_of_mem hc;obtain ⟨d,hd,e⟩:=List.mem_map.1 hm;exact ⟨d,hd,QpL e⟩
theorem QoP (h:M.map Sd.key=S.map Sd.key) (Q:Int->ByteArray->Ag->Prop) (hq:∀ s∈S,∀ c∈s.L,Q c.n c.s c.g):∀ s∈M,∀ c∈s.L,Q c.n c.s c.g:=fun s hs c hc=>by
 obtain ⟨t,ht,_,e⟩:=Qfi h hs;obtain ⟨d,hd,e1,e2,e3⟩:=QlC e hc;rw [<- e1,<- e2,<- e3];exact hq t ht d hd
theorem Qqd (h:M.map Sd.key=S.map Sd.key):M.map Sd.nm=S.map Sd.nm:=by
 have e:∀ L:List Sd,L.map Sd.nm=(L.map Sd.key).map Prod.fst:=fun L=>by rw [List.map_map];rfl
 rw [e,e,h]
theorem Qq4 (h:M.map Sd.key=S.map Sd.key):Qeg M=Qeg S:=by
 unfold Qeg;rw [Qqd h]
 congr 1
 have e:∀ {A B:List Sd},A.map Sd.key=B.map Sd.key->B.all (fun s=>shB s.nm s.L)=true->A.all (fun s=>shB s.nm s.L)=true:=fun {A B} k hb=>List.all_eq_true.2 (fun s hs=>by
  obtain ⟨t,ht,e1,e2⟩:=Qfi k hs;have h1:=(List.all_eq_true.1 hb) t ht;have h2:shB s.nm s.L=shB t.nm t.L:=by unfold shB;rw [e1,QoI e2]
  rw [h2];exact h1)
 exact Bool.eq_iff_iff.2 ⟨e h.symm,e h⟩
theorem QsS (h:M.map Sd.key=S.map Sd.key):(fcS M).map (fun x=>(x.1,x.2.n,x.2.s))=(fcS S).map (fun x=>(x.1,x.2.n,x.2.s)):=by
 have e:∀ L:List Sd,(fcS L).map (fun x=>(x.1,x.2.n,x.2.s))=(L.map Sd.key).flatMap (fun k=>k.2.map (fun c=>(k.1,c.1,c.2.1))):=fun L=>by
  unfold fcS;rw [List.map_flatMap,List.flatMap_map]
  congr 1
  funext s
  rw [List.map_map]
  show _=(s.L.map Ce.key).map _
  rw [List.map_map]
  rfl
 rw [e,e,h]
theorem PlP.key {D E:List (ByteArray×Ce)} (h:E.map (fun x=>(x.1,x.2.n,x.2.s))=D.map (fun x=>(x.1,x.2.n,x.2.s))) (q:PlP D cl own):PlP E cl own:=by
 have e:∀ (L:List (ByteArray×Ce)) (win:Int),Qhk L win=(L.map (fun x=>(x.1,x.2.n,x.2.s))).countP (fun y=>decide (y.2.1=win)):=fun L win=>by rw [List.countP_map];rfl
 refine ⟨?_,fun win=>?_,fun x hx=>?_⟩
 ·have:=congrArg List.length h
  simp only [yA] at this;rw [this];exact q.l
 ·rw [e,h,<- e];exact q.c win
 ·have hm:(x.1,x.2.n,x.2.s)∈D.map (fun x=>(x.1,x.2.n,x.2.s)):=h ▸ List.mem_map.2 ⟨x,hx,rfl⟩
  obtain ⟨y,hy,e1⟩:=List.mem_map.1 hm;have q1:=q.p y hy;injection e1 with a1 a2;injection a2 with a2 a3;rw [<- a1,<- a2,<- a3];exact q1
theorem QuJ (h:M.map Sd.key=S.map Sd.key) (cl:Int):plB M cl=plB S cl:=by
 have hn:=Qqd h;by_cases q:PlP (fcS S) cl (QaR (S.map Sd.nm))
 ·rw [Qgm q,Qgm (by rw [hn];exact q.key (QsS h))]
 ·rw [QfI q,QfI (fun k=>q (by rw [hn] at k;exact k.key (QsS h.symm)))]
theorem QiC (h:M.map Sd.key=S.map Sd.key) (p:Pi):Qbi M p=Qbi S p:=by
 unfold Qbi;rw [Qq4 h,QuJ h]
end Go.Proofs.YtlejlgldgafljaaGreatDoor
