/-
 Parts.
-/
import Derived.Test.YtlejlgldgafljaaGreatDoorKXA
import Derived.Test.YtlejlgldgafljaaGreatDoorKPB
set_option maxRecDepth 10000
set_option maxHeartbeats 16000000
set_option linter.all false
namespace Go.Proofs.YtlejlgldgafljaaGreatDoor
open Go.ChangeShapes Go.WideShapes Go.ChangeAt Go.RowKit Go.PlainAid Go.Lib Go.Maps Tryz
structure MgD (a b R:List Ce):Prop where
 asc:Qc3 R
 pm:(R.map Ce.key).Perm ((a ++ b).map Ce.key)
def MdA (w:World) (a b:List Ce) (e:Ending) (w':World):Prop:=
 ∃ v R,e=.returned (.tuple #[v,.bool true])/\MgD a b R/\OwnC w' w.heap.size v R/\CesO w' w.heap.size R/\v≠.slice none 0 0/\Below w.heap.size w w'
structure MdJ (w wr:World) (a b:List Ce) (k:Nat) (vo:Value) (R:List Ce) (vm:Value) (Mo:List Ce):Prop where
 r:OwnC wr w.heap.size vo R
 m:OwnC wr w.heap.size vm Mo
 ap:ApV vo vm
 o:CesO wr w.heap.size (R ++ Mo.drop k)
 asc:Qc3 R
 pm:(R.map Ce.key).Perm ((a ++ b.take k).map Ce.key)
 ne:vo≠.slice none 0 0
 b:Below w.heap.size w wr
variable {w wr:World}
variable {L Mo R a b:List Ce}
variable {N ca cp k:Nat}
variable {v vm vo:Value}
theorem MdJ.past {w':World} (h:MdJ w wr a b k vo R vm Mo) (hb:Below wr.heap.size wr w'):MdJ w w' a b k vo R vm Mo:=
 ⟨h.r.past hb,h.m.past hb,h.ap,h.o.past hb,h.asc,h.pm,h.ne,Qac h.b hb⟩
variable {ao:Option Addr}
theorem MdJ.at {n:Nat} (h:MdJ w wr a b k (.slice ao n cp) R vm Mo):QbC wr ao R:=OwnC.at h.r (fun c hc=>(h.o.o c (List.mem_append_left _ hc)).at)
theorem MdJ.len (h:MdJ w wr a b k vo R vm Mo):R.length=a.length+(b.take k).length:=by
 have:=h.pm.length_eq;rw [List.length_map,List.length_map,List.length_append] at this;exact this
variable {c cb d:Ce}
theorem Qr5 (h:c.key=d.key):c.n=d.n/\c.s=d.s:=⟨(QsI h).1,(QsI h).2.1⟩
theorem MdJ.no (h:MdJ w wr a b k vo R vm Mo) (dj:∀ c∈b,¬ QpT a c.n c.s) (ab:Qc3 b) (hb:b[k]?=some cb) (ek:c.key=cb.key) (hd:d∈R) (e1:d.n=c.n) (e2:d.s=c.s):False:=by
 obtain ⟨k1,k2⟩:=Qr5 ek;have hm:d.key∈(a ++ b.take k).map Ce.key:=h.pm.mem_iff.1 (List.mem_map_of_mem hd);obtain ⟨x,hx,ex⟩:=List.mem_map.1 hm;obtain ⟨x1,x2⟩:=Qr5 ex;rcases List.mem_append.1 hx with hx | hx
 ·exact dj cb (List.mem_of_getElem? hb) ⟨x,hx,by rw [x1,e1,k1],by rw [x2,e2,k2]⟩
 ·have hk:=(ZZd.1 hb).1
  have e:b=b.take k ++ cb :: b.drop (k+1):=by
   have h1:=(List.take_append_drop k b).symm;rw [List.drop_eq_getElem_cons hk,(List.getElem?_eq_some_iff.1 hb).2] at h1;exact h1
  have aa:=ab;unfold Qc3 at aa;rw [e,List.pairwise_append] at aa;exact cAh_ne (aa.2.2 x hx cb (by simp)) ⟨by rw [x1,e1,k1],by rw [x2,e2,k2]⟩
theorem MdJ.ins {i:Nat} (h:MdJ w wr a b k vo R vm Mo) (hc:Mo[k]?=some c) (hb:b[k]?=some cb) (ek:c.key=cb.key) (hp:PlcA R c.n c.s i false) {w9:World} {v9:Value} (hi:InsI w w9 v9 ((R.take i ++ [c]) ++ R.drop i) vo R vm Mo (R ++ Mo.drop k)) :
  MdJ w w9 a b (k+1) v9 ((R.take i ++ [c]) ++ R.drop i) vm Mo:=by
 have p2:((R.take i ++ [c]) ++ R.drop i).Perm (c :: R):=by
  have e:(R.take i ++ [c]) ++ R.drop i=R.take i ++ c :: R.drop i:=by rw [List.append_assoc];rfl
  rw [e];refine List.perm_middle.trans ?_;rw [List.take_append_drop]
 refine ⟨hi.n,hi.m,hi.a2,hi.o.perm ?_,?_,?_,hi.ne,hi.b⟩
 ·rw [QlE hc]
  have p1:(R ++ c :: Mo.drop (k+1)).Perm (c :: (R ++ Mo.drop (k+1))):=List.perm_middle;exact p1.trans ((p2.append_right _).symm)
 ·rw [QeA h.asc hp,(QpL h.asc hp).1,List.append_assoc]
  exact QpN h.asc
 ·refine (p2.map Ce.key).trans ?_
  rw [List.take_add_one,hb,<- List.append_assoc,List.map_append,List.map_cons,ek];refine (List.Perm.cons _ h.pm).trans ?_;exact (List.perm_append_singleton _ _).symm
theorem Qf5 {bo:Option Addr} {K cb:Nat} (hI:ShI w ao N a) (hJ:ShI w bo K b) (hasc:Qc3 a) (hab:Qc3 b) (hdj:∀ c∈b,¬ QpT a c.n c.s) (sN:N<=2000) (sK:K<=2000) :
  Calls prog 69 #[.slice ao N ca,.slice bo K cb] w (MdA w a b):=by
 obtain ⟨i0,hi,aD,aF,aE⟩:=Qf8;have II:=Qaa hI;have JJ:=Qaa hJ;have AS:=Qaa hasc;have AB:=Qaa hab;have DJ:=Qaa hdj;have aw:Hid (∀ (X:World) o,Below X.heap.size X (X.alloc o)):=fun X o=>(ZZb _ _).alloc (ZZa _) _;clear hI hJ hasc hab hdj;go_enter func69,ntmps69;go_wp2_with fail;refine (Qbl II.out.hN II.out.lN II.out.sm II.out.pl II.out.mem).mono ?_;rintro e w1 ⟨v1,A1,rfl,aT,a5,aQ,a8,aZ⟩;have aJ:=Qaa aT;have aS:=Qaa a5;have aP:=Qaa aQ;have ay:=Qaa a8;have aW:=Qaa aZ;clear aT a5 aQ a8 aZ;go_wp2_with fail;refine (Qbl JJ.out.hN JJ.out.lN JJ.out.sm JJ.out.pl (QaD JJ.out.mem ay)).mono ?_;rintro e w2 ⟨v2,Mo,rfl,aB,aX,aK,af,bq⟩;obtain ⟨mo,mc,rfl,_⟩:=aB.form;have aM:Mo.length=K:=(Qdm aK).trans JJ.out.hN;have aO:=Qaa aM;have bl:=Qaa aK;rw [aM] at aB ⊢
 have I0:Hid (MdJ w w2 a b 0 v1 A1 (.slice mo K mc) Mo):=by
  refine ⟨aJ.out.past af,aB.le ay.out.size,fun j h1 h2=>?_,?_,QgJ aP AS,by rw [List.take_zero,List.append_nil,aP.out],aW,Qac ay af⟩
  ·have l1:=(World.ownsRow.lt aJ j h1).2
   have l2:=(World.ownsRow.lt aB j h2).1;omega
  ·rw [List.drop_zero];exact aS.out.app af ay.out.size aX
 have lN:=II.out.lN;have lK:=JJ.out.lN;clear aB aX aK af bq aM aJ aS aP ay aW;go_wp2
 go_loopw [6,8] (fun vo i wr=>∃ (k:Nat) (R:List Ce),k<=K/\i=.int .i64 k/\Hid (MdJ w wr a b k vo R (.slice mo K mc) Mo)) (fun vo i wr=>K - (Go.RowKit.intOf i).toNat)
 case atStart=>exact ⟨0,A1,ZZj _,rfl,I0⟩
 case round=>
  clear I0;obtain ⟨k,R,hk,rfl,HI⟩:=hrel;obtain ⟨g,cp,ev,_⟩:=HI.out.r.src HI.out.ne;subst ev;have bm:R.length<=N+k:=by have h1:=HI.out.len;have h2:=List.length_take_le k b;have:=II.out.hN;omega
  have bc:R.length<=cp:=Qie HI.out.r;have bz:cp<=9223372036854775807:=QhU HI.out.r;obtain ⟨n,hn⟩:∃ n,R.length=n:=⟨_,rfl⟩;rw [hn] at HI bm bc ⊢;have ar:=Qaa hn;clear hn;by_cases bi:k<K
  ·have bh:(k:Int)<(K:Int):=by omega
   obtain ⟨c,hc⟩:∃ c,Mo[k]?=some c:=⟨Mo[k]'(by have:=aO.out;omega),ZZe _⟩;obtain ⟨bf,aN⟩:∃ c,b[k]?=some c:=⟨b[k]'(by have:=JJ.out.hN;omega),ZZe _⟩
   have ek:c.key=bf.key:=by
    have e2:(Mo.map Ce.key)[k]?=(b.map Ce.key)[k]?:=by rw [bl.out]
    rw [List.getElem?_map,List.getElem?_map,hc,aN] at e2
    simpa using e2
   have aI:OwnC wr w.heap.size (.slice mo K mc) Mo:=HI.out.m;obtain ⟨gm,cm,em⟩:=Qb1 aI (by have:=aO.out;omega);injection em with em1 em2 em3;subst em1;rw [<- aO.out] at aI;have aR:=Qeo aI hc;rw [Nat.zero_add] at aR;obtain ⟨x0,x1,x2,x3,x4,x5,x6,x7,x8,x9,bp,bu,a9,bs,bj⟩:=aR;have HC:=Qaa hc;have aL:=Qaa aN;have EK:=Qaa ek;have a2:c∈R ++ Mo.drop k:=List.mem_append_right _ (by rw [QlE hc];simp);have AC:=Qaa (HI.out.o.o c a2);have X1:=Qaa (ZZk wr (.cells (Qap c) 75));have aC:=Qaa (HI.out.past (aw.out wr (.cells (Qap c) 75)));have A1:=Qaa (AC.out.past (aw.out wr (.cells (Qap c) 75)));clear hc aN ek aI a2 em2 em3;go_upto_region 7 with fail;clear x0 x1 x2 x3 x4 x5 x6 x7 x8 x9 bp bu a9 bs bj;generalize wr.alloc (.cells (Qap c) 75)=W1 at X1 aC A1 ⊢;generalize wr.heap.size=rc at X1 ⊢;clear HI AC;have x0:=Qbh X1 0 rfl;have x1:=Qbh X1 1 rfl;go_wp2_with fail;clear x0 x1;refine (Qe0 c.n c.s ar (by omega) aC.out.at).mono ?_;rintro e w2 ⟨kk,is,rfl,hp,af⟩;have HP:=Qaa hp;have ae:=Qaa (aC.out.past af);have A2:=Qaa (A1.out.past af);have X2:=Qaa (QaW X1 af);have a7:kk<=n:=by have:=hp.le;have:=ar.out;omega
   clear hp af aC A1 X1
   cases is with
   | true=>
    obtain ⟨d,hd,bb,e1,e2,_⟩:=QkM ae.out.asc HP;exact absurd (ae.out.no DJ AB aL EK bb e1 e2) (fun h=>h)
   | false=>
    go_upto_region 8 with fail;have ad:(fun _=>True) w2.drew:=trivial;refine Qal (fun _=>True) 99 (by kernel_rfl) ?_;refine tkS 0 (.bool false) ad ?_;refine tkS 1 (.bool false) ad ?_;refine tkU 2 ad ?_;simp only [sX];refine tkU 3 ad ?_;refine tkU 4 ad ?_;refine tkU 5 ad ?_;simp only [sX];refine tkU 6 ad ?_;refine tkU 7 ad ?_;refine tkU 8 ad ?_;simp only [sX];refine tkU 9 ad ?_;refine tkU 10 ad ?_;refine tkU 11 ad ?_;simp only [sX];refine tkS 12 (.bool false) ad ?_;simp only [sX];refine dnE ?_ _;have bx:(0:Int)<=(kk:Int):=by omega
    have bw:(kk:Int)<=(cp:Int):=by omega
    have bt:(kk:Int)<=(n:Int):=by omega
    have aG:Hid (InsI w (w2.alloc (.cells #[] 75)) (.slice (some ⟨w2.heap.size,0,none⟩) 0 0) [] (.slice (some ⟨g,0,none⟩) n cp) R (.slice (some ⟨gm,0,none⟩) K mc) Mo (R ++ Mo.drop k)):=by
     have al:=aw.out w2 (.cells #[] 75);refine ⟨(OwnC.made w2 #[] rfl).le ae.out.b.size,ae.out.r.past al,ae.out.m.past al,fun j h1 h2=>?_,fun j h1 h2=>?_,ae.out.ap,ae.out.o.past al,Qac ae.out.b al,fun e=>by cases e⟩
     ·injection h1 with h1;have:=(World.ownsRow.lt ae.out.r j h2).2;simp only at h1;omega
     ·injection h1 with h1;have:=(World.ownsRow.lt ae.out.m j h2).2;simp only at h1;omega
    have a3:(R.take kk).length=kk:=by rw [List.length_take];have:=ar.out;omega
    have ai:=Qaa a3;clear a3;have bg:w.heap.size<=w2.heap.size:=ae.out.b.size;have X3:=Qaa (QaW X2 (aw.out w2 (.cells #[] 75)));go_wp2_with (at_builtin;refine wpList_append_own_at _ rfl _ _ 35 rfl w.heap.size 75 i0 (.agg QbN) 15 192 underlying35 hi aD aF aE rfl (by decide) _ _ _ rfl aG.out.n ⟨g,0,none⟩ kk cp (flC (R.take kk)) rfl ?c0 (Qrq aG.out.r ar a7) (Qct _) ?c3 ?c4 ?c5 ?_)
    case c0=>rw [QbE,ai.out]
    case c3=>unfold maxLen;omega
    case c4=>omega
    case c5=>omega
    intro v5 w5 am aq ah aj;have aH:=Qaa (aG.out.app (G:=R.take kk) (v':=v5) (w1:=w5) (by rw [ai.out];simpa using am) ⟨aq.os,aq.tape,aq.output,aq.size,aq.block⟩ (by rw [ai.out];simpa using ah) (by simpa using aj));have X5:Hid (w5.heap[rc]?=_):=(aq.block rc (Array.getElem?_eq_some_iff.1 X3).1 (fun e=>by injection e with e;have:=(Array.getElem?_eq_some_iff.1 X2).1;simp only at e;omega)).trans X3;clear am aq ah aj aG X3;obtain ⟨q0,q1,q2,q3,q4,q5,q6,q7,q8,q9,be,br,bv,bd,bn⟩:=Qr1 X5;have a4:=Qaa (aH.out.past (aw.out w5 (.cells (Qap c) 75)));have ba:w.heap.size<=w5.heap.size:=aH.out.b.size;have bk:Hid (([] ++ R.take kk).length=kk):=by rw [List.nil_append];exact ai.out
    have aV:w5.ownsRow w.heap.size 75 15 v5 kk (flC (R.take kk)):=by have:=aH.out.n;rw [List.nil_append] at this;unfold OwnC at this;rw [ai.out] at this;exact this
    have aY:=Qaa aV;clear aV;go_wp2_with (at_builtin;refine wpList_append_own_at _ rfl _ _ 35 rfl w.heap.size 75 i0 (.agg QbN) 15 192 underlying35 hi aD aF aE rfl (by decide) _ _ _ rfl (World.ownsRow.alloc aY _) ⟨w5.heap.size,0,none⟩ 1 1 (ceL c) rfl rfl ?c1 (Qc1 _) ?c3 ?c4 ?c5 ?_)
    case c1=>exact QbG
    case c3=>unfold maxLen;omega
    case c4=>omega
    case c5=>simp;omega
    intro v7 w7 ag a1 ak an;have az:=Qaa (a4.out.app (G:=[c]) (v':=v7) (w1:=w7) (by rw [bk.out,List.nil_append,QkB];exact ag) a1 (by simpa using ak) (by simpa using an));clear ag a1 ak an aH a4 aY X5 q0 q1 q2 q3 q4 q5 q6 q7 q8 q9 be br bv bd bn;have av:w.heap.size<=w7.heap.size:=az.out.b.size;have aU:(R.drop kk).length=n - kk:=by rw [List.length_drop,ar.out]
    have au:=Qaa aU;clear aU;have a0:w7.ownsRow w.heap.size 75 15 v7 (kk+1) (flC (R.take kk ++ [c])):=by have:=az.out.n;rw [List.nil_append] at this;unfold OwnC at this;rw [List.length_append,ai.out] at this;exact this
    have a6:=Qaa a0;clear a0;by_cases bA:cp=kk
    ·go_wp2_with (at_builtin;refine wpList_append_own_at _ rfl _ _ 35 rfl w.heap.size 75 i0 (.agg QbN) 15 192 underlying35 hi aD aF aE rfl (by decide) _ _ _ rfl a6 ⟨g,0,none⟩ (n - kk) 0 (flC (R.drop kk)) rfl ?c0 (QqZ (by have:=ar.out;omega)) (Qct _) ?c3 ?c4 av ?_)
     case c0=>rw [QbE,au.out]
     case c3=>unfold maxLen;omega
     case c4=>omega
     intro v9 w9 aa aA ab ac;have ax:=Qaa (az.out.app (G:=R.drop kk) (v':=v9) (w1:=w9) (by rw [au.out,List.nil_append,List.length_append,ai.out];exact aa) aA (by rw [au.out];exact ab) ac);rw [List.nil_append] at ax;have HF:=Qaa (ae.out.ins HC aL EK HP ax);clear aa aA ab ac;go_wp2;go_roundw
     case rel=>exact ⟨k+1,_,by omega,by go_num,HF⟩
     case measure=>simp [zI];omega
    ·go_wp2_with (at_builtin;refine wpList_append_own_at _ rfl _ _ 35 rfl w.heap.size 75 i0 (.agg QbN) 15 192 underlying35 hi aD aF aE rfl (by decide) _ _ _ rfl a6 ⟨g,kk*15,none⟩ (n - kk) (cp - kk) (flC (R.drop kk)) rfl ?c0 (Qq8 az.out.r ar a7) (Qct _) ?c3 ?c4 av ?_)
     case c0=>rw [QbE,au.out]
     case c3=>unfold maxLen;omega
     case c4=>omega
     intro v9 w9 aa aA ab ac;have ax:=Qaa (az.out.app (G:=R.drop kk) (v':=v9) (w1:=w9) (by rw [au.out,List.nil_append,List.length_append,ai.out];exact aa) aA (by rw [au.out];exact ab) ac);rw [List.nil_append] at ax;have HF:=Qaa (ae.out.ins HC aL EK HP ax);clear aa aA ab ac;go_wp2;go_roundw
     case rel=>exact ⟨k+1,_,by omega,by go_num,HF⟩
     case measure=>simp [zI];omega
  ·obtain rfl:k=K:=by omega
   have eb:b.take k=b:=List.take_of_length_le (by have:=JJ.out.hN;omega);have HF:Hid (MgD a b R/\OwnC wr w.heap.size (.slice (some ⟨g,0,none⟩) n cp) R/\CesO wr w.heap.size R):=⟨⟨HI.out.asc,by have:=HI.out.pm;rw [eb] at this;exact this⟩,HI.out.r,HI.out.o.sub (List.sublist_append_left _ _)⟩;clear eb hk bi;go_wp2;go_ret2;exact ⟨_,R,rfl,HF.out.1,HF.out.2.1,HF.out.2.2,(fun e=>by cases e),HI.out.b⟩
def Qbi (S:List Sd):List Ce:=S.flatMap Sd.L
variable {M S:List Sd}
variable {s:Sd}
theorem Qj8 (h:S[k]?=some s):Qbi (S.take (k+1))=Qbi (S.take k) ++ s.L:=by
 unfold Qbi;rw [List.take_add_one,h,List.flatMap_append];simp
theorem Qcu (h:c∈Qbi S):∃ s∈S,c∈s.L:=by
 unfold Qbi at h;exact List.mem_flatMap.1 h
theorem Qk6 (n:Nat) (h:∀ s∈S,s.L.length<=n):(Qbi S).length<=S.length*n:=by
 induction S with
 | nil=>simp [Qbi]
 | cons s S ih=>
  have h1:=ih (fun t ht=>h t (ZZm _ ht));have h2:=h s (List.mem_cons_self);unfold Qbi at h1 ⊢;rw [List.flatMap_cons,List.length_append,List.length_cons,Nat.add_mul];omega
structure QS (S:List Sd):Prop where
 ok:∀ s∈S,∀ c∈s.L,AgOk c.g/\AgSm c.g/\c.s.size<=maxLen/\PlG c.g c.p
 l:∀ s∈S,s.L.length<=60
 asc:∀ s∈S,Qc3 s.L
 n:S.length<=12
 dj:∀ k s,S[k]?=some s->∀ c∈s.L,¬ QpT (Qbi (S.take k)) c.n c.s
structure LaI (w wr:World) (S:List Sd) (k:Nat) (v:Value) (R:List Ce):Prop where
 r:OwnC wr w.heap.size v R
 o:CesO wr w.heap.size R
 asc:Qc3 R
 pm:(R.map Ce.key).Perm ((Qbi (S.take k)).map Ce.key)
 ne:v≠.slice none 0 0
 b:Below w.heap.size w wr
theorem LaI.mem (h:LaI w wr S k v R) (hc:c∈R):∃ s∈S,∃ d∈s.L,d.n=c.n/\d.s=c.s/\d.g=c.g:=by
 have hm:c.key∈(Qbi (S.take k)).map Ce.key:=h.pm.mem_iff.1 (List.mem_map_of_mem hc);obtain ⟨d,hd,e⟩:=List.mem_map.1 hm;obtain ⟨s,hs,hd⟩:=Qcu hd;obtain ⟨e1,e2,e3⟩:=QsI e;exact ⟨s,ZZo hs,d,hd,e1,e2,e3⟩
theorem LaI.len (h:LaI w wr S k v R) (q:QS S):R.length<=720:=by
 have h1:=h.pm.length_eq;rw [List.length_map,List.length_map] at h1;have h2:=Qk6 (S:=S.take k) 60 (fun s hs=>q.l s (ZZo hs));have h3:=q.n;have h4:(S.take k).length<=S.length:=by rw [List.length_take];omega
 omega
theorem LaI.hask {n:Int} {s:ByteArray} (h:LaI w wr S k v R) (hk:QpT R n s):QpT (Qbi (S.take k)) n s:=by
 obtain ⟨c,hc,e1,e2⟩:=hk;have hm:c.key∈(Qbi (S.take k)).map Ce.key:=h.pm.mem_iff.1 (List.mem_map_of_mem hc);obtain ⟨d,hd,e⟩:=List.mem_map.1 hm;obtain ⟨x1,x2,x3⟩:=QsI e;exact ⟨d,hd,x1.trans e1,x2.trans e2⟩
theorem LaI.sh {g:Nat} (h:LaI w wr S k (.slice (some ⟨g,0,none⟩) R.length cp) R) (q:QS S):ShI wr (some ⟨g,0,none⟩) R.length R:=
 ⟨rfl,by have:=h.len q;omega,fun c hc=>by obtain ⟨s,hs,d,hd,_,_,e⟩:=h.mem hc;rw [<- e];exact (q.ok s hs d hd).1,
  fun c hc=>by obtain ⟨s,hs,d,hd,_,_,e⟩:=h.mem hc;rw [<- e];exact (q.ok s hs d hd).2.1,
  fun c hc=>by obtain ⟨s,hs,d,hd,_,e,_⟩:=h.mem hc;rw [<- e];exact (q.ok s hs d hd).2.2.1,
  fun c hc=>(h.o.o c hc).plgX,OwnC.at h.r (fun c hc=>(h.o.o c hc).at)⟩
theorem LaI.step {w1:World} {v1:Value} {R1:List Ce} (h:LaI w wr S k v R) (hs:S[k]?=some s) (m:MgD R s.L R1) (r:OwnC w1 wr.heap.size v1 R1) (o:CesO w1 wr.heap.size R1) (ne:v1≠.slice none 0 0) (b:Below wr.heap.size wr w1):LaI w w1 S (k+1) v1 R1:=
 ⟨r.le h.b.size,o.le h.b.size,m.asc,by rw [Qj8 hs,List.map_append];refine m.pm.trans ?_;rw [List.map_append];exact h.pm.append_right _,ne,Qac h.b b⟩
theorem Qh8 (p:Pi) (hN:S.length=N) (q:QS S) (hA:QeQ w ao S) :
  Calls prog 37 #[.agg (Qaf (.slice ao N ca) p)] w fun e w'=>∃ v R,e=.returned v/\LaI w w' S N v R:=by
 have HN:=Qaa hN;have HQ:=Qaa q;have HA:=Qaa hA;have lN:N<=12:=by have:=q.n;omega
 have a1:∀ (W:World) o,Below W.heap.size W (W.alloc o):=fun W o=>(ZZb _ _).alloc (ZZa _) _;have hz:(w.alloc (.cells (Qaf (.slice ao N ca) p) 25)).heap.size=w.heap.size+1:=by simp
 have HR:=Qaa (((a1 (w.alloc (.cells (Qaf (.slice ao N ca) p) 25)) (.cells #[] 75)).block w.heap.size (by rw [hz];omega)).trans (heap_alloc_new w (.cells (Qaf (.slice ao N ca) p) 25)));have af:=Qaa (Qac (a1 w (.cells (Qaf (.slice ao N ca) p) 25)) (a1 _ (.cells #[] 75)))
 have ac:Hid (LaI w ((w.alloc (.cells (Qaf (.slice ao N ca) p) 25)).alloc (.cells #[] 75)) S 0 (.slice (some ⟨w.heap.size+1,0,none⟩) 0 0) []):=by
  have m:=OwnC.made (w.alloc (.cells (Qaf (.slice ao N ca) p) 25)) #[] rfl;rw [hz] at m;exact Qaa ⟨m.le (by omega),CesO.nil _ _,.nil,by simp [Qbi],(fun e=>by cases e),af⟩
 clear hN hA a1 hz q;go_enter func37,ntmps37;go_upto_region 2 with fail;generalize (w.alloc (.cells (Qaf (.slice ao N ca) p) 25)).alloc (.cells #[] 75)=W0 at HR af ac ⊢;go_wp2
 go_loopw [3,4] (fun v i wr=>∃ (k:Nat) (R:List Ce),k<=N/\i=.int .i64 k/\Hid (LaI w wr S k v R)/\Hid (wr.heap[w.heap.size]?=some (.cells (Qaf (.slice ao N ca) p) 25 (0,0)))) (fun v i wr=>N - (Go.RowKit.intOf i).toNat)
 case atStart=>exact ⟨0,[],ZZj _,rfl,ac,HR⟩
 case round=>
  clear ac HR af;obtain ⟨k,R,hk,rfl,HI,HR⟩:=hrel;have r0:=Qat HR 0 rfl;by_cases al:k<N
  ·have ad:(k:Int)<(N:Int):=by omega
   obtain ⟨b,ak,e,aa⟩:=HA.out.1 (by have:=HN.out;omega);subst e;obtain ⟨s,hs⟩:∃ s,S[k]?=some s:=⟨S[k]'(by have:=HN.out;omega),ZZe _⟩;obtain ⟨x0,x1⟩:=Qbt (aa k s hs) HI.out.b;have HS:=Qaa hs;have ab:=Qaa (ZZn hs);have aj:IntKind.i64.wrap ((k:Int)+1)=((k+1:Nat):Int):=by rw [show (k:Int)+1=((k+1:Nat):Int) by omega];exact ZZi _ ⟨by omega,by omega⟩
   obtain ⟨g,cp,ev,_⟩:=HI.out.r.src HI.out.ne;subst ev;have am:=HI.out.len HQ;clear aa hs;go_wp2_with fail;refine (Qf5 (HI.out.sh HQ) ⟨rfl,by have:=HQ.out.l s ab;omega,fun c hc=>(HQ.out.ok s ab c hc).1,fun c hc=>(HQ.out.ok s ab c hc).2.1,fun c hc=>(HQ.out.ok s ab c hc).2.2.1,fun c hc=>(HQ.out.ok s ab c hc).2.2.2,QaD (HA.out.2 s ab) HI.out.b⟩ HI.out.asc (HQ.out.asc s ab) (fun c hc h=>HQ.out.dj k s HS c hc (HI.out.hask h)) (by omega) (by have:=HQ.out.l s ab;omega)).mono ?_;rintro e w1 ⟨v1,R1,rfl,hm,hr,ho,ag,ae⟩;have ai:=Qaa (HI.out.step HS hm hr ho ag ae);have ah:=Qaa ((ae.block w.heap.size (ZZc.1 HR).1).trans HR);clear hm hr ho ag ae r0 x0 x1;go_wp2;go_roundw
   case rel=>exact ⟨k+1,R1,by omega,by first | rfl | go_num,ai,ah⟩
   case measure=>simp [zI];omega
  ·have ad:¬ (k:Int)<(N:Int):=by omega
   obtain rfl:k=N:=by omega
   go_wp2;go_ret;exact ⟨_,rfl,R,HI⟩
theorem QhX {t:ByteArray} (h:Qbn t=true):t.size<=100:=by
 obtain ⟨aa,K,hs⟩:QbW t:=@of_decide_eq_true _ (Classical.propDecidable _) h;exact hs.2.2.2.2.1
theorem Qpp (h:cRi c=true):(0<=c.n/\c.n<=1000000000)/\c.s.size<=100:=by
 unfold cRi at h;simp only [Bool.and_eq_true] at h;obtain ⟨⟨⟨h1,h2⟩,_⟩,_⟩:=h;unfold Qig at h1;simp only [Bool.and_eq_true,decide_eq_true_eq] at h1;exact ⟨h1,QhX h2⟩
theorem QhF {nm:ByteArray} (h:shB nm L=true):L.length<=60/\(∀ c∈L,cRi c=true)/\Qc3 L:=by
 unfold shB at h;exact csR_iff.1 (Bool.and_eq_true_iff.1 h).2
theorem Qf4 (h:QdU S=true) (hs:s∈S):shB s.nm s.L=true:=by
 unfold QdU at h;exact (List.all_eq_true.1 (Bool.and_eq_true_iff.1 h).2) s hs
noncomputable def QbD (S:List Sd) (p:Pi):Bool:=QgS p.a p.b p.c p.d && (QdU S && plB S p.d)
theorem Qiq (p:Pi) (hN:S.length=N) (sm:SdsSm S) (ok:∀ s∈S,∀ c∈s.L,AgOk c.g/\c.s.size<=maxLen) (hm:MX w) (hA:QeQ w ao S) :
  Calls prog 25 #[.agg (Qaf (.slice ao N ca) p)] w fun e w'=>e=.returned (.bool (QbD S p))/\Below w.heap.size w w':=by
 have HN:=Qaa hN;have SM:=Qaa sm;have OK:=Qaa ok;have HM:=Qaa hm;have HA:=Qaa hA;have aa:=Qaa (((ZZb _ _).alloc (ZZa _) _:Below w.heap.size w (w.alloc (.cells (Qaf (.slice ao N ca) p) 25))));have r0:=Qat (ZZk w (.cells (Qaf (.slice ao N ca) p) 25)) 0 rfl;have r1:=Qat (ZZk w (.cells (Qaf (.slice ao N ca) p) 25)) 1 rfl;have r2:=Qat (ZZk w (.cells (Qaf (.slice ao N ca) p) 25)) 2 rfl;have r3:=Qat (ZZk w (.cells (Qaf (.slice ao N ca) p) 25)) 3 rfl;have r4:=Qat (ZZk w (.cells (Qaf (.slice ao N ca) p) 25)) 4 rfl;clear hN sm ok hm hA;go_enter func25,ntmps25;go_upto_region 1 with fail;generalize w.alloc (.cells (Qaf (.slice ao N ca) p) 25)=W0 at aa r0 r1 r2 r3 r4 ⊢;have HC:Hid (∀ W,Below W0.heap.size W0 W->W.cell? ⟨w.heap.size,0,none⟩=some (.slice ao N ca)/\W.cell? ⟨w.heap.size,1,none⟩=some (.int .i64 p.a)/\W.cell? ⟨w.heap.size,2,none⟩=some (.int .i64 p.b)/\W.cell? ⟨w.heap.size,3,none⟩=some (.int .i64 p.c)/\W.cell? ⟨w.heap.size,4,none⟩=some (.int .i64 p.d)):=fun W hW=>⟨Qab hW r0,Qab hW r1,Qab hW r2,Qab hW r3,Qab hW r4⟩;go_wp2_with fail;refine (QjV _ ao N ca rfl p.a p.b p.c p.d _).mono ?_;rintro e w1 ⟨rfl,aj⟩;have af:=Qaa aj;clear aj r0 r1 r2 r3 r4;go_wp2_with fail;refine (QjJ p.a p.b p.c p.d _).mono ?_;rintro e w2 ⟨rfl,ae⟩;have ab:=Qaa (Qac af ae);clear ae af
 cases hck:QgS p.a p.b p.c p.d with
 | false=>
  have HE:Hid (QbD S p=false):=by unfold QbD;rw [hck];exact Qaa rfl
  clear hck;go_wp2;go_ret;exact ⟨by rw [HE.out];rfl,Qac aa ab⟩
 | true=>
  have ah:=Qaa hck;obtain ⟨r0,r1,r2,r3,r4⟩:=HC.out _ ab;have ak:=Qaa (Qac aa ab);clear hck;go_wp2_with fail;clear r0 r1 r2 r3 r4;refine (QiP HN SM OK (HM.out.past ak) (QaR HA ak)).mono ?_;rintro e w3 ⟨rfl,ai⟩;have ac:=Qaa (Qac ab ai);clear ai
  cases hsd:QdU S with
  | false=>
   have HE:Hid (QbD S p=false):=by unfold QbD;rw [hsd,ah.out];exact Qaa rfl
   clear hsd;go_wp2;go_ret;exact ⟨by rw [HE.out];rfl,Qac aa ac⟩
  | true=>
   have al:=Qaa hsd;have HE:Hid (QbD S p=plB S p.d):=by unfold QbD;rw [hsd,ah.out];exact Qaa (by simp)
   obtain ⟨r0,r1,r2,r3,r4⟩:=HC.out _ ac;have ad:=Qaa (Qac aa ac);clear hsd;go_wp2_with fail;clear r0 r1 r2 r3 r4;refine (Qh5 p HN SM (fun s hs c hc=>by have:=Qpp ((QhF (Qf4 al hs)).2.1 c hc);exact ⟨this.1,(OK.out s hs c hc).2⟩) (QaR HA ad)).mono ?_;rintro e w4 ⟨rfl,ag⟩;have am:=Qaa (Qac ad ag);clear ag
   cases hpl:plB S p.d <;> (go_wp2;go_ret;exact ⟨by rw [HE.out,hpl];rfl,am⟩)
theorem qs_of (hsd:QdU S=true) (ok:∀ s∈S,∀ c∈s.L,AgOk c.g/\AgSm c.g/\c.s.size<=maxLen/\PlG c.g c.p) (own:∀ x∈fcS S,QaX (S.map Sd.nm) x.2.s x.1):QS S:=by
 have ab:Qaj (S.map Sd.nm)=true:=(Bool.and_eq_true_iff.1 (by unfold QdU at hsd;exact hsd)).1;refine ⟨ok,fun s hs=>(QhF (Qf4 hsd hs)).1,fun s hs=>(QhF (Qf4 hsd hs)).2.2,by have:=(Qbz ab).2;rwa [List.length_map] at this,fun k s hs c hc hk=>?_⟩;obtain ⟨d,hd,e1,e2⟩:=hk;obtain ⟨t,ht,hd⟩:=Qcu hd;obtain ⟨j,hj,rfl⟩:=List.mem_iff_getElem.1 ht;rw [List.length_take] at hj;have aa:S[j]?=some (S.take k)[j]:=by rw [List.getElem_take,List.getElem?_eq_getElem]
 have ac:((S.take k)[j].nm,d)∈fcS S:=by
  unfold fcS;exact List.mem_flatMap.2 ⟨_,ZZn aa,List.mem_map_of_mem hd⟩
 have ad:(s.nm,c)∈fcS S:=by
  unfold fcS;exact List.mem_flatMap.2 ⟨_,ZZn hs,List.mem_map_of_mem hc⟩
 have o1:=own _ ac;have o2:=own _ ad;have o1:QaX (S.map Sd.nm) c.s (S.take k)[j].nm:=by rw [<- e2];exact o1
 have e:=Qgh o1 o2;have n1:(S.map Sd.nm)[j]?=some (S.take k)[j].nm:=by rw [List.getElem?_map,aa];rfl
 have n2:(S.map Sd.nm)[j+(k - j - 1)+1]?=some s.nm:=by rw [show j+(k - j - 1)+1=k by omega,List.getElem?_map,hs];rfl
 have lt:=QcD ab n1 (k - j - 1) n2;rw [e,show (s.nm,c).1=s.nm from rfl,Qb9] at lt
 cases lt
theorem Qts (S:List Sd):(fcS S).map Prod.snd=Qbi S:=by
 unfold fcS Qbi;rw [List.map_flatMap]
 congr 1
 funext s
 rw [List.map_map];exact List.map_id' _
theorem QnY (h:(R.map Ce.key).Perm ((Qbi S).map Ce.key)) (win:Int):QiU R win=Qhc (fcS S) win:=by
 have e1:Qhc (fcS S) win=(Qbi S).countP (fun c=>decide (c.n=win)):=by
  rw [<- Qts,List.countP_map];rfl
 have e2:∀ L:List Ce,L.countP (fun c=>decide (c.n=win))=(L.map Ce.key).countP (fun x=>decide (x.1=win)):=fun L=>by rw [List.countP_map];rfl
 unfold QiU;rw [e1,e2,e2];exact h.countP_eq _
variable {cl:Int}
variable {own:ByteArray->ByteArray->Prop}
theorem pl_of (h:(R.map Ce.key).Perm ((Qbi S).map Ce.key)) (hl:(fcS S).length<=60) (hc:∀ c∈R,QiU R c.n<=20) (hp:∀ x∈fcS S,cl<=x.2.n/\own x.2.s x.1):PlP (fcS S) cl own:=by
 refine ⟨hl,fun win=>?_,hp⟩;rw [<- QnY h];by_cases q:∃ c∈R,c.n=win
 ·obtain ⟨c,aa,rfl⟩:=q
  exact hc c aa
 ·have:QiU R win=0:=by
   unfold QiU;exact List.countP_eq_zero.2 (fun c aa=>by simpa using fun e=>q ⟨c,aa,e⟩)
  omega
variable {p:Pi}
theorem Qh3 (h:QgS p.a p.b p.c p.d=false):QbD S p=false:=by unfold QbD;rw [h];rfl
theorem QoK (h:QdU S=false):QbD S p=false:=by unfold QbD;rw [h];simp
theorem Qmj (h:¬ PlP (fcS S) p.d (QaX (S.map Sd.nm))):QbD S p=false:=by unfold QbD;rw [Qfr h];simp
theorem Qso (h1:QgS p.a p.b p.c p.d=true) (h2:QdU S=true) (h:PlP (fcS S) p.d (QaX (S.map Sd.nm))):QbD S p=true:=by unfold QbD;rw [Qik h,h1,h2];rfl
theorem Qq4 (h:Qaj (S.map Sd.nm)=false):QdU S=false:=by unfold QdU;rw [h];rfl
theorem QqA (h:S[k]?=some s) (hs:shB s.nm s.L=false):QdU S=false:=by
 unfold QdU;rw [Qlt (f:=fun s=>shB s.nm s.L) h hs];simp
def Pls (S:List Sd) (cl:Int) (k:Nat):Prop:=∀ x∈(fcS S).take k,cl<=x.2.n/\QaX (S.map Sd.nm) x.2.s x.1
theorem Pls.step {x:ByteArray×Ce} (h:Pls S cl k) (hx:(fcS S)[k]?=some x) (h3:cl<=x.2.n) (h4:QaX (S.map Sd.nm) x.2.s x.1):Pls S cl (k+1):=fun y hy=>by
 rw [List.take_add_one,hx] at hy;rcases List.mem_append.1 hy with hy | hy
 ·exact h y hy
 ·simp at hy
  subst hy;exact ⟨h3,h4⟩
theorem QbK (p:Pi) (hN:S.length=N) (sm:SdsSm S) (ok:∀ s∈S,∀ c∈s.L,AgOk c.g/\c.s.size<=maxLen/\PlG c.g c.p) (hA:QeQ w ao S) :
  Calls prog 9 #[.agg (Qaf (.slice ao N ca) p)] w fun e w'=>e=.returned (.bool (QbD S p))/\Below w.heap.size w w':=by
 have HN:=Qaa hN;have SM:=Qaa sm;have OK:=Qaa ok;have HA:=Qaa hA;have lN:N<=1048576:=by have:=sm.n;omega
 have LM:Hid ((S.map Sd.nm).length=N):=by rw [List.length_map];exact HN
 have aq:=Qaa (((ZZb _ _).alloc (ZZa _) _:Below w.heap.size w (w.alloc (.cells (Qaf (.slice ao N ca) p) 25))));have r0:=Qat (ZZk w (.cells (Qaf (.slice ao N ca) p) 25)) 0 rfl;have r1:=Qat (ZZk w (.cells (Qaf (.slice ao N ca) p) 25)) 1 rfl;have r2:=Qat (ZZk w (.cells (Qaf (.slice ao N ca) p) 25)) 2 rfl;have r3:=Qat (ZZk w (.cells (Qaf (.slice ao N ca) p) 25)) 3 rfl;have r4:=Qat (ZZk w (.cells (Qaf (.slice ao N ca) p) 25)) 4 rfl;clear hN sm ok hA;go_enter func9,ntmps9;go_upto_region 1 with fail;generalize w.alloc (.cells (Qaf (.slice ao N ca) p) 25)=W0 at aq r0 r1 r2 r3 r4 ⊢;have HC:Hid (∀ W,Below W0.heap.size W0 W->W.cell? ⟨w.heap.size,0,none⟩=some (.slice ao N ca)/\W.cell? ⟨w.heap.size,1,none⟩=some (.int .i64 p.a)/\W.cell? ⟨w.heap.size,2,none⟩=some (.int .i64 p.b)/\W.cell? ⟨w.heap.size,3,none⟩=some (.int .i64 p.c)/\W.cell? ⟨w.heap.size,4,none⟩=some (.int .i64 p.d)):=fun W hW=>⟨Qab hW r0,Qab hW r1,Qab hW r2,Qab hW r3,Qab hW r4⟩;go_wp2_with fail;refine (Qdc (ca:=ca) p HN lN (QaR HA aq)).mono ?_;rintro e w1 ⟨bo,cn,rfl,ho,aW⟩;have HO:=Qaa ho;have aR:=Qaa aW;clear ho aW r0 r1 r2 r3 r4;go_wp2_with fail;have ax:=Qc4 (w:=w1) (ao:=bo) (L:=S.map Sd.nm) cn (by rw [LM.out];exact lN) (fun u hu=>by obtain ⟨z,hz,rfl⟩:=List.mem_map.1 hu;exact SM.out.nz z hz) HO.out.at
 rw [LM.out] at ax;refine ax.mono ?_;rintro e w2 ⟨rfl,aC⟩;have a6:=Qaa (Qay HO.out.at aC);have aG:=Qaa (Qac aR aC);have ac:=Qaa (Qac aq aG);have av:=Qaa (QaR HA ac);have ah:Hid (∀ W,Below w2.heap.size w2 W->W.cell? ⟨w.heap.size,0,none⟩=some (.slice ao N ca)/\W.cell? ⟨w.heap.size,1,none⟩=some (.int .i64 p.a)/\W.cell? ⟨w.heap.size,2,none⟩=some (.int .i64 p.b)/\W.cell? ⟨w.heap.size,3,none⟩=some (.int .i64 p.c)/\W.cell? ⟨w.heap.size,4,none⟩=some (.int .i64 p.d)):=fun W hW=>HC.out W (Qac aG hW);clear ax aC aR HO aG HC aq
 cases hmb:Qaj (S.map Sd.nm) with
 | false=>
  have HE:Hid (QbD S p=false):=Qaa (QoK (Qq4 hmb));clear hmb;go_wp2;go_ret;exact ⟨by rw [HE.out];rfl,ac⟩
 | true=>
  have aS:=Qaa hmb;have a2:N<=12:=by have:=(Qbz hmb).2;have:=LM.out;omega
  obtain ⟨r0,r1,r2,r3,r4⟩:=ah.out w2 (ZZb _ _);clear hmb;go_wp2_with fail;refine (QfU p.a 1 1000 _).mono ?_;rintro e wz ⟨rfl,ae⟩;obtain rfl:=ae.symm;rw [show (decide (1<=p.a) && decide (p.a<=1000))=inB p.a 1 1000 from rfl]
  cases ha:inB p.a 1 1000 with
  | false=>
   have HE:Hid (QbD S p=false):=Qaa (Qh3 (by unfold QgS;rw [ha];simp));clear ha;go_wp2;go_ret;exact ⟨by rw [HE.out];rfl,ac⟩
  | true=>
   have Ta:=Qaa ha;clear ha;go_wp2_with fail;refine (QfU p.b 0 1000 _).mono ?_;rintro e wz ⟨rfl,ae⟩;obtain rfl:=ae.symm;rw [show (decide (0<=p.b) && decide (p.b<=1000))=inB p.b 0 1000 from rfl]
   cases hb:inB p.b 0 1000 with
   | false=>
    have HE:Hid (QbD S p=false):=Qaa (Qh3 (by unfold QgS;rw [hb];simp));clear hb;go_wp2;go_ret;exact ⟨by rw [HE.out];rfl,ac⟩
   | true=>
    have Tb:=Qaa hb;clear hb;go_wp2_with fail;refine (QaN p.c _).mono ?_;rintro e wz ⟨rfl,ae⟩;obtain rfl:=ae.symm;rw [show Qig p.c=inB p.c 0 1000000000 from rfl]
    cases hc:inB p.c 0 1000000000 with
    | false=>
     have HE:Hid (QbD S p=false):=Qaa (Qh3 (by unfold QgS;rw [hc];simp));clear hc;go_wp2;go_ret;exact ⟨by rw [HE.out];rfl,ac⟩
    | true=>
     have Tc:=Qaa hc;clear hc;go_wp2_with fail;refine (QaN p.d _).mono ?_;rintro e wz ⟨rfl,ae⟩;obtain rfl:=ae.symm;rw [show Qig p.d=inB p.d 0 1000000000 from rfl]
     cases hd:inB p.d 0 1000000000 with
     | false=>
      have HE:Hid (QbD S p=false):=Qaa (Qh3 (by unfold QgS;rw [hd];simp));clear hd;go_wp2;go_ret;exact ⟨by rw [HE.out];rfl,ac⟩
     | true=>
      have Td:=Qaa hd;clear hd;have a9:Hid (QgS p.a p.b p.c p.d=true):=Qaa (by unfold QgS;rw [Ta.out,Tb.out,Tc.out,Td.out];rfl);clear r0 r1 r2 r3 r4 Ta Tb Tc Td;go_upto_region 6 with fail
      go_loopw [4,5] (fun m i wr=>∃ (k:Nat),k<=N/\i=.int .i64 k/\m=.int .i64 (Qcp S k:Nat)/\Hid (Qcp S k<=60*k/\(S.take k).all (fun s=>shB s.nm s.L)=true)/\Hid (Pls S p.d (Qcp S k))/\Hid (Below w2.heap.size w2 wr)) (fun m i wr=>N - (Go.RowKit.intOf i).toNat)
      case atStart=>exact ⟨0,Nat.zero_le _,rfl,by rw [QcK];rfl,⟨by rw [QcK];omega,by simp⟩,by rw [QcK];exact fun x hx=>by simp at hx,Below.refl _ _⟩
      case round=>
       obtain ⟨k,hk,rfl,rfl,HF,HP,HB⟩:=hrel;obtain ⟨r0,r1,r2,r3,r4⟩:=ah.out wr HB;by_cases bh:k<N
       ·have aA:(k:Int)<(N:Int):=by omega
        obtain ⟨b,an,e,ab⟩:=av.out.1 (by have:=HN.out;omega);subst e;obtain ⟨s,hs⟩:∃ s,S[k]?=some s:=⟨S[k]'(by have:=HN.out;omega),ZZe _⟩;have HX:Hid (∀ W,Below w2.heap.size w2 W->W.cell? ⟨b,an+k*2,none⟩=some (.string s.nm)/\W.cell? ⟨b,an+k*2+1,none⟩=some (.slice s.ao s.L.length s.cp)):=fun W hW=>Qbt (ab k s hs) hW;obtain ⟨x0,x1⟩:=HX.out wr HB;have HS:=Qaa hs;have ai:=Qaa (ZZn hs);have bf:IntKind.i64.wrap ((k:Int)+1)=((k+1:Nat):Int):=by rw [show (k:Int)+1=((k+1:Nat):Int) by omega];exact ZZi _ ⟨by omega,by omega⟩
        have a1:=Qaa (SM.out.l s ai);clear ab hs;go_wp2_with fail;clear x0 x1 r0 r1 r2 r3 r4;refine (QgW s.nm (by have:=SM.out.nz s ai;unfold maxLen;omega) rfl a1 (fun c hc=>(OK.out s ai c hc).1) (SM.out.sm s ai) (fun c hc=>(OK.out s ai c hc).2.1) (QaD (av.out.2 s ai) HB)).mono ?_;rintro e w3 ⟨rfl,aV⟩;have ak:=Qaa (Qac HB aV);clear aV
        cases hsb:shB s.nm s.L with
        | false=>
         have HE:Hid (QbD S p=false):=Qaa (QoK (QqA HS hsb));clear hsb;go_wp2;go_ret;exact ⟨by rw [HE.out];rfl,Qac ac ak⟩
        | true=>
         have aM:=Qaa (QhF hsb);have aL:Hid (Qcp S (k+1)<=60*(k+1)/\(S.take (k+1)).all (fun s=>shB s.nm s.L)=true):=Qaa ⟨by rw [Qgz HS.out];have:=HF.out.1;have:=(QhF hsb).1;omega,QlN (f:=fun s=>shB s.nm s.L) HS HF.out.2 hsb⟩;have aD:=Qaa (Qgz HS);obtain ⟨M,hM⟩:∃ M,s.L.length=M:=⟨_,rfl⟩
         have bi:IntKind.i64.wrap ((Qcp S k:Int)+(M:Int))=((Qcp S (k+1):Nat):Int):=by
          have h1:=aL.out.1;have h2:=aD.out;rw [hM] at h2;rw [show (Qcp S k:Int)+(M:Int)=((Qcp S (k+1):Nat):Int) by omega];exact ZZi _ ⟨by omega,by omega⟩
         obtain ⟨r0,r1,r2,r3,r4⟩:=ah.out w3 ak;obtain ⟨x0,x1⟩:=HX.out w3 ak;have lM:M<=60:=by have:=aM.out.1;omega
         rw [hM] at HX x1 aD;have aU:=Qaa hM;clear hsb hM;go_upto_region 12 with fail;clear r0 r1 r2 r3 r4 x0 x1
         go_loopw [6] (fun kv wr=>∃ (q:Nat),q<=M/\kv=.int .i64 q/\Hid (Pls S p.d (Qcp S k+q))/\Hid (Below w2.heap.size w2 wr)) (fun kv wr=>M - (Go.RowKit.intOf kv).toNat)
         case atStart=>exact ⟨0,ZZj _,rfl,HP,ak⟩
         case round=>
          clear HP HB ak;obtain ⟨q,hq,rfl,HP,HB⟩:=hrel;obtain ⟨r0,r1,r2,r3,r4⟩:=ah.out wr HB;obtain ⟨x0,x1⟩:=HX.out wr HB;by_cases be:q<M
          ·have aE:(q:Int)<(M:Int):=by omega
           obtain ⟨c,hc⟩:∃ c,s.L[q]?=some c:=⟨s.L[q]'(by have:=aU.out;omega),ZZe _⟩;obtain ⟨b1,aJ,e1,ab⟩:=(av.out.2 s ai).1 (by have:=aU.out;omega);obtain ⟨z0,z1,z2,z3,z4,z5,z6,z7,z8,z9,aZ,a3,a0,z13,a8⟩:=Qag (ab q c hc) HB;have HC:Hid ((fcS S)[Qcp S k+q]?=some (s.nm,c)):=Qaa (Qsg HS hc);have HW:=Qaa (Qpp (aM.out.2.1 c (ZZn hc)));have bg:IntKind.i64.wrap ((q:Int)+1)=((q+1:Nat):Int):=by rw [show (q:Int)+1=((q+1:Nat):Int) by omega];exact ZZi _ ⟨by omega,by omega⟩
           rw [e1] at x1;clear ab hc;go_upto_region 15 with fail;clear z0 z1 z2 z3 z4 z5 z6 z7 z8 z9 aZ a3 a0 z13 a8 r0 r1 r2 r3 r4 x0 x1;have al:Below wr.heap.size wr (wr.alloc (.cells (Qap c) 75)):=(ZZb _ _).alloc (ZZa _) _;have ap:Hid ((wr.alloc (.cells (Qap c) 75)).cell? ⟨wr.heap.size,0,none⟩=some (.int .i64 c.n)):=Qaa (Qat (ZZk wr (.cells (Qap c) 75)) 0 rfl);have aB:Hid ((wr.alloc (.cells (Qap c) 75)).cell? ⟨wr.heap.size,1,none⟩=some (.string c.s)):=Qaa (Qat (ZZk wr (.cells (Qap c) 75)) 1 rfl);have ad:=Qaa (Qac HB al);clear al HB;generalize wr.alloc (.cells (Qap c) 75)=W5 at ad ap aB ⊢;generalize wr.heap.size=cb at ap aB ⊢;clear wr;have bc:¬ N<=k:=by omega
           by_cases bj:c.n<p.d
           ·have HE:Hid (QbD S p=false):=Qaa (Qmj (fun h=>by have:=(h.at HC).2.2.1;have e:(s.nm,c).2.n=c.n:=rfl;omega))
            have aa:(fun W=>Below W5.heap.size W5 W) W5.drew:=(ZZb _ _).drew;refine Qal (fun W=>Below W5.heap.size W5 W) 99 (by kernel_rfl) ?_;refine tkS 0 (.pointer (some ⟨cb,0,none⟩)) aa ?_;refine tkL 1 (.int .i64 c.n) aa (fun W hW=>?_) ?_
            ·have z:=Qab hW ap
             clear hW;go_simp
            refine tkS 2 (.pointer (some ⟨w.heap.size,4,none⟩)) aa ?_;simp only [sX];refine tkL 3 (.int .i64 p.d) aa (fun W hW=>?_) ?_
            ·have z:=(ah.out W (Qac ad hW)).2.2.2.2
             clear hW;go_simp
            refine tkS 4 (.bool true) aa ?_;refine tkS 5 (.bool true) aa ?_;simp only [sX];refine tkU 6 aa ?_;refine tkU 7 aa ?_;refine tkU 8 aa ?_;simp only [sX];refine tkU 10 aa ?_;refine tkU 11 aa ?_;refine tkU 12 aa ?_;simp only [sX];refine tkU 13 aa ?_;refine tkU 14 aa ?_;refine tkU 15 aa ?_;simp only [sX];refine onE 9 fun K hK=>?_;refine Eq.mpr (if_neg (fun h=>Bool.noConfusion (show false=true from h))) ?_;refine gK hK aa ?_
            try simp only [sX]
            refine tkU 16 aa ?_;refine tkS 17 (.bool true) aa ?_;simp only [sX];refine dnE ?_ _;go_wp2;go_ret;exact ⟨by rw [HE.out];rfl,Qac ac (Qac ad aa)⟩
           ·have aa:(fun W=>Below W5.heap.size W5 W) W5.drew:=(ZZb _ _).drew
            refine Qal (fun W=>Below W5.heap.size W5 W) 99 (by kernel_rfl) ?_;refine tkS 0 (.pointer (some ⟨cb,0,none⟩)) aa ?_;refine tkL 1 (.int .i64 c.n) aa (fun W hW=>?_) ?_
            ·have z:=Qab hW ap
             clear hW;go_simp
            refine tkS 2 (.pointer (some ⟨w.heap.size,4,none⟩)) aa ?_;simp only [sX];refine tkL 3 (.int .i64 p.d) aa (fun W hW=>?_) ?_
            ·have z:=(ah.out W (Qac ad hW)).2.2.2.2
             clear hW;go_simp
            refine tkS 4 (.bool false) aa ?_;refine tkS 5 (.bool false) aa ?_;simp only [sX];refine tkS 6 (.slice bo N cn) aa ?_;refine tkS 7 (.pointer (some ⟨cb,1,none⟩)) aa ?_;refine tkL 8 (.string c.s) aa (fun W hW=>?_) ?_
            ·have z:=Qab hW aB
             clear hW;go_simp
            simp only [sX];refine tkS 10 (.pointer (some ⟨w.heap.size,0,none⟩)) aa ?_;refine tkL 11 (.slice (some ⟨b,an,none⟩) N ca) aa (fun W hW=>?_) ?_
            ·have z:=(ah.out W (Qac ad hW)).1
             clear hW;go_simp
            refine tkS 12 (.int .i64 (k:Int)) aa ?_;simp only [sX];refine tkS 13 (.pointer (some ⟨b,an+k*2,none⟩)) aa ?_;refine tkS 14 (.pointer (some ⟨b,an+k*2,none⟩)) aa ?_;refine tkL 15 (.string s.nm) aa (fun W hW=>?_) ?_
            ·have z:=(HX.out W (Qac ad hW)).1
             clear hW;go_simp
            simp only [sX];refine onE 9 fun K hK=>?_;go_simp;have aw:=Qdp (w:=W5.drew) (L:=S.map Sd.nm) (ao:=bo) cn c.s (by have:=HW.out.2;omega) aS (Qay a6 (Qac ad (aa:Below W5.heap.size W5 W5.drew)));rw [LM.out] at aw;refine aw.mono ?_;rintro e w7 ⟨o,rfl,ho,aT⟩;have aN:=Qaa ho;have au:Hid (Below W5.heap.size W5 w7):=(aa:Below W5.heap.size W5 W5.drew).trans (aT.mono (ZZa _));clear aT ho aw;dsimp only;refine gK hK au.out ?_
            try simp only [sX]
            refine tkS 16 (.bool (!(o.toList == s.nm.toList))) au ?_;refine tkS 17 (.bool (!(o.toList == s.nm.toList))) au ?_;simp only [sX];refine dnE ?_ _;have aP:=Qaa (Qac ad au);generalize hbx:(o.toList == s.nm.toList)=bx;by_cases aj:o=s.nm
            ·obtain rfl:bx=true:=by rw [<- hbx,aj];exact beq_self_eq_true _
             have aH:=Qaa (HP.out.step HC (by show p.d<=c.n;omega) (by show QaX _ c.s s.nm;rw [<- aj];exact aN.out));clear aj hbx;go_wp2;go_roundw
             case rel=>first | exact ⟨q+1,by omega,(by first | rfl | go_num),aH,aP⟩ | exact ⟨q+1,by omega,(by first | rfl | go_num),aH⟩ | exact ⟨q+1,(by first | rfl | go_num),aH⟩
             case measure=>simp [zI];omega
            ·obtain rfl:bx=false:=hbx.symm.trans <| beq_eq_false_iff_ne.2 (fun e=>aj (by rw [ByteArray.toList_eq,ByteArray.toList_eq] at e;exact ByteArray.ext (Array.toList_inj.1 e)))
             have HE:Hid (QbD S p=false):=Qaa (Qmj (fun h=>aj (Qgh aN (h.at HC).2.2.2)));clear aj hbx;go_wp2;go_ret;exact ⟨by rw [HE.out];rfl,Qac ac aP⟩
          ·have aE:¬ (q:Int)<(M:Int):=by omega
           obtain rfl:q=M:=by omega
           rw [<- aD.out] at HP;go_wp2;go_roundw
           case rel=>exact ⟨k+1,by omega,by first | rfl | go_num,rfl,aL,HP,HB⟩
           case measure=>simp [zI];omega
       ·have aA:¬ (k:Int)<(N:Int):=by omega
        obtain rfl:k=N:=by omega
        have af:=Qlv (S:=S) (k:=k) (by have:=HN.out;omega);by_cases ba:Qcp S k<=60
        ·have a7:¬ (60:Int)<(Qcp S k:Int):=by omega
         have aF:∀ x∈fcS S,p.d<=x.2.n/\QaX (S.map Sd.nm) x.2.s x.1:=fun x hx=>HP.out x (by rw [af,List.take_length];exact hx)
         have ay:QdU S=true:=by
          have h1:=HF.out.2;rw [List.take_of_length_le (by have:=HN.out;omega)] at h1;unfold QdU;rw [aS.out,h1];rfl
         have a5:=Qaa ay;have aY:=Qaa aF;have HL:=Qaa af;have HQ:=Qaa (qs_of ay (fun s hs c hc=>⟨(OK.out s hs c hc).1,SM.out.sm s hs c hc,(OK.out s hs c hc).2.1,(OK.out s hs c hc).2.2⟩) (fun x hx=>(aF x hx).2));clear aF ay af;go_wp2_with fail;clear r0 r1 r2 r3 r4;refine (Qh8 p HN HQ (QaR av HB)).mono ?_;rintro e w5 ⟨v5,R,rfl,ag⟩;obtain ⟨g,cp,ev,_⟩:=ag.r.src ag.ne;subst ev;have aQ:=Qaa ag;have ad:=Qaa (Qac HB ag.b);have lR:R.length<=720:=ag.len HQ;have aK:Hid (QbC w5 (some ⟨g,0,none⟩) R):=Qaa (OwnC.at ag.r (fun c hc=>(ag.o.o c hc).at));obtain ⟨n,hn⟩:∃ n,R.length=n:=⟨_,rfl⟩;rw [hn] at lR ⊢;have ar:=Qaa hn;clear ag hn;go_wp2
         go_loopw [9] (fun i wr=>∃ (j:Nat),j<=n/\i=.int .i64 j/\Hid (∀ c∈R.take j,QiU R c.n<=20)/\Hid (Below w5.heap.size w5 wr)) (fun i wr=>n - (Go.RowKit.intOf i).toNat)
         case atStart=>exact ⟨0,Nat.zero_le _,rfl,fun c hc=>by simp at hc,Below.refl _ _⟩
         case round=>
          obtain ⟨j,hj,rfl,HT,am⟩:=hrel;by_cases bk:j<n
          ·have az:(j:Int)<(n:Int):=by omega
           obtain ⟨c,hc⟩:∃ c,R[j]?=some c:=⟨R[j]'(by have:=ar.out;omega),ZZe _⟩;obtain ⟨b1,aJ,e1,ab⟩:=aK.out.1 (by have:=ar.out;omega);injection e1 with e1;injection e1 with e1 e2 e3;subst e1 e2;have z0:wr.cell? ⟨g,0+j*15,none⟩=some (.int .i64 c.n):=(Qag (ab j c hc) am).1;rw [Nat.zero_add] at z0;have a4:=Qaa hc;have bd:IntKind.i64.wrap ((j:Int)+1)=((j+1:Nat):Int):=by rw [show (j:Int)+1=((j+1:Nat):Int) by omega];exact ZZi _ ⟨by omega,by omega⟩
           clear ab hc;go_wp2_with fail;clear z0;refine (Qgy c.n ar (by omega) (QaD aK am)).mono ?_;rintro e wz ⟨rfl,ae⟩;obtain rfl:=ae.symm;obtain ⟨C,hC⟩:∃ C:Int,(QiU R c.n:Int)=C:=⟨_,rfl⟩;rw [hC];have aO:=Qaa hC;clear hC;by_cases bb:C<=20
           ·have aX:¬ (20:Int)<C:=by omega
            have aI:Hid (∀ c∈R.take (j+1),QiU R c.n<=20):=Qaa (fun d hd=>by
             rw [List.take_add_one,a4.out] at hd;rcases List.mem_append.1 hd with hd | hd
             ·exact HT.out d hd
             ·simp at hd
              subst hd;have:=aO.out;omega)
            go_wp2;go_roundw
            case rel=>exact ⟨j+1,by omega,by first | rfl | go_num,aI,am⟩
            case measure=>simp [zI];omega
           ·have aX:(20:Int)<C:=by omega
            have HE:Hid (QbD S p=false):=Qaa (Qmj (fun h=>by
             have h1:=h.c c.n;have h2:=aQ.out.pm;rw [List.take_of_length_le (by have:=HN.out;omega)] at h2;rw [<- QnY h2] at h1;have:=aO.out;omega))
            clear bb;go_wp2;go_ret;exact ⟨by rw [HE.out];rfl,Qac ac (Qac ad am)⟩
          ·have az:¬ (j:Int)<(n:Int):=by omega
           have HE:Hid (QbD S p=true):=Qaa (Qso a9 a5 (by
            have h2:=aQ.out.pm;rw [List.take_of_length_le (by have:=HN.out;omega)] at h2;have h3:=HT.out;rw [List.take_of_length_le (by have:=ar.out;omega)] at h3;exact pl_of h2 (by have:=HL.out;omega) h3 aY))
           go_wp2;go_ret;exact ⟨by rw [HE.out];rfl,Qac ac (Qac ad am)⟩
        ·have a7:(60:Int)<(Qcp S k:Int):=by omega
         have HE:Hid (QbD S p=false):=Qaa (Qmj (fun h=>by have:=h.l;omega));clear af ba;go_wp2;go_ret;exact ⟨by rw [HE.out];rfl,Qac ac HB⟩
theorem Qfh (h:M.map Sd.key=S.map Sd.key) {t:Sd} (ht:t∈M):∃ s∈S,t.nm=s.nm/\t.L.map Ce.key=s.L.map Ce.key:=by
 have hm:t.key∈S.map Sd.key:=h ▸ List.mem_map_of_mem ht;obtain ⟨s,hs,e⟩:=List.mem_map.1 hm;exact ⟨s,hs,(Qd3 e).1.symm,(Qd3 e).2.1.symm⟩
theorem QnZ {M:List Ce} (h:M.map Ce.key=L.map Ce.key) (hc:c∈M):∃ d∈L,d.n=c.n/\d.s=c.s/\d.g=c.g:=by
 have hm:c.key∈L.map Ce.key:=h ▸ List.mem_map_of_mem hc;obtain ⟨d,hd,e⟩:=List.mem_map.1 hm;exact ⟨d,hd,QsI e⟩
theorem QnJ (h:M.map Sd.key=S.map Sd.key) (Q:Int->ByteArray->Ag->Prop) (hq:∀ s∈S,∀ c∈s.L,Q c.n c.s c.g):∀ s∈M,∀ c∈s.L,Q c.n c.s c.g:=fun s hs c hc=>by
 obtain ⟨t,ht,_,e⟩:=Qfh h hs;obtain ⟨d,hd,e1,e2,e3⟩:=QnZ e hc;rw [<- e1,<- e2,<- e3];exact hq t ht d hd
theorem Qn4 (h:M.map Sd.key=S.map Sd.key):M.map Sd.nm=S.map Sd.nm:=by
 have e:∀ L:List Sd,L.map Sd.nm=(L.map Sd.key).map Prod.fst:=fun L=>by rw [List.map_map];rfl
 rw [e,e,h]
theorem QqF (h:M.map Sd.key=S.map Sd.key):QdU M=QdU S:=by
 unfold QdU;rw [Qn4 h]
 congr 1
 have e:∀ {A B:List Sd},A.map Sd.key=B.map Sd.key->B.all (fun s=>shB s.nm s.L)=true->A.all (fun s=>shB s.nm s.L)=true:=fun {A B} k hb=>List.all_eq_true.2 (fun s hs=>by
  obtain ⟨t,ht,e1,e2⟩:=Qfh k hs;have h1:=(List.all_eq_true.1 hb) t ht;have h2:shB s.nm s.L=shB t.nm t.L:=by unfold shB;rw [e1,Qnq e2]
  rw [h2];exact h1)
 exact Bool.eq_iff_iff.2 ⟨e h.symm,e h⟩
theorem QrK (h:M.map Sd.key=S.map Sd.key):(fcS M).map (fun x=>(x.1,x.2.n,x.2.s))=(fcS S).map (fun x=>(x.1,x.2.n,x.2.s)):=by
 have e:∀ L:List Sd,(fcS L).map (fun x=>(x.1,x.2.n,x.2.s))=(L.map Sd.key).flatMap (fun k=>k.2.map (fun c=>(k.1,c.1,c.2.1))):=fun L=>by
  unfold fcS;rw [List.map_flatMap,List.flatMap_map]
  congr 1
  funext s
  rw [List.map_map]
  show _=(s.L.map Ce.key).map _
  rw [List.map_map]
  rfl
 rw [e,e,h]
theorem PlP.key {D E:List (ByteArray×Ce)} (h:E.map (fun x=>(x.1,x.2.n,x.2.s))=D.map (fun x=>(x.1,x.2.n,x.2.s))) (q:PlP D cl own):PlP E cl own:=by
 have e:∀ (L:List (ByteArray×Ce)) (win:Int),Qhc L win=(L.map (fun x=>(x.1,x.2.n,x.2.s))).countP (fun y=>decide (y.2.1=win)):=fun L win=>by rw [List.countP_map];rfl
 refine ⟨?_,fun win=>?_,fun x hx=>?_⟩
 ·have:=congrArg List.length h
  simp only [List.length_map] at this;rw [this];exact q.l
 ·rw [e,h,<- e];exact q.c win
 ·have hm:(x.1,x.2.n,x.2.s)∈D.map (fun x=>(x.1,x.2.n,x.2.s)):=h ▸ List.mem_map.2 ⟨x,hx,rfl⟩
  obtain ⟨y,hy,e1⟩:=List.mem_map.1 hm;have q1:=q.p y hy;injection e1 with a1 a2;injection a2 with a2 a3;rw [<- a1,<- a2,<- a3];exact q1
theorem Qtw (h:M.map Sd.key=S.map Sd.key) (cl:Int):plB M cl=plB S cl:=by
 have hn:=Qn4 h;by_cases q:PlP (fcS S) cl (QaX (S.map Sd.nm))
 ·rw [Qik q,Qik (by rw [hn];exact q.key (QrK h))]
 ·rw [Qfr q,Qfr (fun k=>q (by rw [hn] at k;exact k.key (QrK h.symm)))]
theorem Qld (h:M.map Sd.key=S.map Sd.key) (p:Pi):QbD M p=QbD S p:=by
 unfold QbD;rw [QqF h,Qtw h]
end Go.Proofs.YtlejlgldgafljaaGreatDoor
