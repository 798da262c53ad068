/-
 Parts.
-/
import Derived.Test.YtioohanfodmddaaGreatDoorCRA
import Derived.Maps.Own
import Derived.Maps.OwnOps
import Derived.Maps.Views
import Derived.Maps.Keyed
set_option maxHeartbeats 16000000
set_option linter.all false
namespace Go.Proofs.YtioohanfodmddaaGreatDoor
open Go.ChangeShapes Go.WideShapes Go.ChangeAt Go.RowKit Go.PlainAid Go.Maps Tryz
set_option maxRecDepth 10000
def CK (w w':World):Prop:=∀ a v,w.cell? a=some v->w'.cell? a=some v
theorem CK.refl (w:World):CK w w:=fun _ _ h=>h
variable {w w' w1 w2:World}
theorem CK.trans (h:CK w w1) (k:CK w1 w2):CK w w2:=fun a v q=>k a v (h a v q)
theorem CK.of (hb:Bw w1 w2):CK w1 w2:=fun a v k=>Qab hb k
theorem CK.below (h:CK w w1) (hb:Bw w1 w2):CK w w2:=h.trans (CK.of hb)
variable {ao:Option Addr}
theorem QvI {L:List ByteArray} (h:Qat w ao L) (k:CK w w'):Qat w' ao L:=fun h0=>by
 obtain ⟨b,off,e,hc⟩:=h h0;exact ⟨b,off,e,fun i u hi=>k _ _ (hc i u hi)⟩
def MpN (W:World) (b n:Nat) (E:List (ByteArray×Ce)):Prop:=∃ D:DataW Unit,W.ownsMap prog 2 (plainElem prog 3) b n D/\∀ x:Int,D.atKey (.int .i64 x) (.lit (.int .i64 0))=.lit (.int .i64 (QhH E x))
theorem MpN.start (w:World):MpN (w.alloc (.map #[] 0)) w.heap.size 0 []:=
 ⟨.map [],World.ownsMap_made w prog 2 (plainElem prog 3),fun x=>rfl⟩
variable {b n:Nat}
variable {D:DataW Unit}
variable {k:TypeId}
variable {R:Value->Option (DataW Unit×List MemPlace)}
theorem QoC (h:w.ownsMap prog k R b n D) (hb:Bw w w'):w'.ownsMap prog k R b n D:=by
 obtain ⟨es,cl,h1,h2⟩:=h;exact ⟨es,cl,(hb.block b (ZZc.1 h1).1).trans h1,h2⟩
variable {E:List (ByteArray×Ce)}
theorem MpN.past (h:MpN w b n E) (hb:Bw w w'):MpN w' b n E:=by
 obtain ⟨D,h1,h2⟩:=h;exact ⟨D,QoC h1 hb,h2⟩
theorem QrA (w:World):(Instr.makeMap 144 none).run prog w=.ok (.map (some w.heap.size)) (w.alloc (.map #[] 0)):=by
 have h:=underlying144;simp [Instr.makeMap,h]
theorem keyI:Keyed prog 2:=int_keyed underlying2
theorem QqW (w:World):(zeroValue 3).run prog w=.ok (.int .i64 0) w:=oG
variable {cl x:Int}
theorem wfI (h0:0<=x) (h1:x<=1000000000):(Lit.int .i64 x).wf=true:=by
 simp [Lit.wf,IntKind.signed,IntKind.bits,IntKind.min,IntKind.max];omega
theorem MpN.grow {k:Nat} {A:List (ByteArray×Ce)} {x:ByteArray×Ce} (hx:A[k]?=some x) (ho:w.ownsMap prog 2 (plainElem prog 3) b n D) (h:∀ y:Int,D.atKey (.int .i64 y) (.lit (.int .i64 0))=.lit (.int .i64 (QhH (A.take k) y))) (ho1:w1.ownsMap prog 2 (plainElem prog 3) b (n+1) (D.put (.int .i64 x.2.n) (.lit (.int .i64 ((QhH (A.take k) x.2.n:Int)+1))))):MpN w1 b (n+1) (A.take (k+1)):=by
 refine ⟨_,ho1,fun y=>?_⟩;have hT:=ho.tidy keyI;rw [QgI hx];by_cases e:y=x.2.n
 ·subst e
  have aa:WideAt.IsKeyLit (.int .i64 x.2.n):=trivial;rw [atKey_put_same hT.isMap aa,if_pos rfl]
  rfl
 ·rw [atKey_put_other (by intro q;exact e (by injection q)),h,if_neg (fun q=>e q.symm)]
  rfl
theorem ck_upd (h:w.ownsMap prog k R b n D) (hg:w.grownBy w' (some b)):CK w w':=fun a v hc=>by
 obtain ⟨es,cl,h1,_⟩:=h;refine hg.cell hc (fun e=>?_);have e:a.block=b:=Option.some.inj e;rw [World.cell?,e,h1] at hc
 cases hc
def Qcw (S:List Sd) (k:Nat):Nat:=(fcS (S.take k)).length
theorem QcM (S:List Sd):Qcw S 0=0:=by simp [Qcw,fcS]
variable {S:List Sd}
theorem Qhp {k:Nat} {s:Sd} (h:S[k]?=some s):Qcw S (k+1)=Qcw S k+s.L.length:=by
 unfold Qcw;rw [List.take_add_one,h,Qq4,List.length_append];simp [fcS]
theorem Qmn {k:Nat} (h:S.length<=k):Qcw S k=(fcS S).length:=by unfold Qcw;rw [List.take_of_length_le h]
theorem PlP.le {k:Nat} {own:ByteArray->ByteArray->Prop} (h:PlP ((fcS S).take k) cl own) (hk:k<=(fcS S).length):k<=60:=by
 have:=h.l;rw [List.length_take] at this;omega
theorem QtH {c:Int} (h:∀ y:Int,D.atKey (.int .i64 y) (.lit (.int .i64 0))=.lit (.int .i64 (QhH E y))) (hat:D.atKey (.int .i64 x) (.lit (.int .i64 0))=.lit (.int .i64 c)):c=(QhH E x:Int):=by
 rw [h] at hat;injection hat with h1;injection h1 with _ h2;exact h2.symm
noncomputable def plB (S:List Sd) (cl:Int):Bool:=@decide (PlP (fcS S) cl (Qa2 (S.map Sd.nm))) (Classical.propDecidable _)
theorem QfU (h:¬ PlP (fcS S) cl (Qa2 (S.map Sd.nm))):plB S cl=false:=by unfold plB;exact @ZZg _ (Classical.propDecidable _) h
theorem QgU (h:PlP (fcS S) cl (Qa2 (S.map Sd.nm))):plB S cl=true:=by unfold plB;exact @ZZh _ (Classical.propDecidable _) h
theorem Qjo {N ca:Nat} (p:Pi) (hN:S.length=N) (sm:SdsSm S) (hw:∀ s∈S,∀ c∈s.L,(0<=c.n/\c.n<=1000000000)/\c.s.size<=maxLen) (hA:Qf0 w ao S) :
  Calls prog 55 #[.agg (Qae (.slice ao N ca) p)] w fun e w'=>e=.returned (.bool (plB S p.d))/\Bw w w':=by
 have HN:=Qaa hN;have SM:=Qaa sm;have a5:=Qaa hw;have HA:=Qaa hA;have lN:N<=1048576:=by have:=sm.n;omega
 have LM:Hid ((S.map Sd.nm).length=N):=by rw [yA];exact HN
 have ax:=Qaa (((ZZb _ _).alloc (ZZa _) _:Bw w (w.alloc (.cells (Qae (.slice ao N ca) p) 25))));have r0:=Qar (ZZk w (.cells (Qae (.slice ao N ca) p) 25)) 0 rfl;have r4:=Qar (ZZk w (.cells (Qae (.slice ao N ca) p) 25)) 4 rfl;clear hN sm hw hA;go_enter func55,ntmps55;go_upto_region 1 with fail;generalize w.alloc _=W0 at ax r0 r4 ⊢;have aY:=Qaa r0;have a4:=Qaa r4;clear r4;have a8:=QrA;go_upto_region 2 with (go_at_call 94;refine (Qkf (ca:=ca) HN lN (QaM HA ax)).mono ?_;rintro e w1 ⟨bo,cn,rfl,ho,aX⟩;have HO:=Qaa ho;have aB:=Qaa aX;clear ho aX);clear r0 a8;have aK:=Qaa (Qac ax aB);have ar:Bw w1 (w1.alloc (.map #[] 0)):=bAA;have a1:Hid (Qat (w1.alloc (.map #[] 0)) bo (S.map Sd.nm)):=Qaa (QaA HO.at ar);have aH:=Qaa (Qac aK ar);have K2:=(CK.of aB).below ar;have ag:=Qaa (K2 _ _ aY);have ap:=Qaa (K2 _ _ a4);have aA:=Qaa (MpN.start w1);have aZ:=aK.size;generalize w1.alloc _=W2 at a1 aH ag ap aA ⊢;clear ar K2 aY a4 aB HO aK ax;generalize w1.heap.size=mb at aA aZ ⊢;clear w1 W0;have r0:=ag.out;go_upto_region 3 with fail;clear r0 ag
 go_loopw [4,17] (fun al i wr=>∃ (k:Nat),k<=N/\i=.int .i64 k/\al=.int .i64 (Qcw S k:Nat)/\Hid (PlP ((fcS S).take (Qcw S k)) p.d (Qa2 (S.map Sd.nm)))/\Hid (MpN wr mb (Qcw S k) ((fcS S).take (Qcw S k)))/\Hid (CK W2 wr)/\Hid (Bw w wr)) (fun al i wr=>N - (Go.RowKit.intOf i).toNat)
 case atStart=>exact ⟨0,Nat.zero_le _,rfl,by rw [QcM];rfl,by rw [QcM];exact Qaa PlP.nil,by rw [QcM];exact aA,CK.refl _,aH⟩
 case round=>
  clear aA aH;obtain ⟨k,hk,rfl,rfl,HP,HM,HK,HB⟩:=hrel;by_cases bi:k<N
  ·have aL:(k:Int)<(N:Int):=by omega
   obtain ⟨b,bp,e,ab⟩:=HA.1 (oA HN.out);subst e;obtain ⟨s,hs⟩:∃ s,S[k]?=some s:=⟨S[k]'(oA HN.out),ZZe _⟩;obtain ⟨x0,x1⟩:=QbJ (ab k s hs) HB;have HS:=Qaa hs;have ay:=Qaa (ZZn hs);have bm:IntKind.i64.wrap ((k:Int)+1)=((k+1:Nat):Int):=by rw [show (k:Int)+1=((k+1:Nat):Int) by omega];exact ZZi _ ⟨by omega,by omega⟩
   clear ab hs;go_upto_region 5 with fail;clear x0 x1;have al:Bw wr (wr.alloc (.cells (QaS s) 71)):=bAA;have y0:(wr.alloc (.cells (QaS s) 71)).cell? ⟨wr.heap.size,0,none⟩=some (.string s.nm):=Qar (ZZk wr (.cells (QaS s) 71)) 0 rfl;have y1:(wr.alloc (.cells (QaS s) 71)).cell? ⟨wr.heap.size,1,none⟩=some (.slice s.ao s.L.length s.cp):=Qar (ZZk wr (.cells (QaS s) 71)) 1 rfl;have aS:=Qaa (Qac HB al);have aR:=Qaa (HM.past al);have aq:=Qaa (HK.below al);clear al HM HK HB;generalize wr.alloc _=W4 at aS aR aq y0 y1 ⊢;generalize wr.heap.size=sb at y0 y1 ⊢;clear wr;have ba:=Qaa y0;have aE:=Qaa (Qhp HS);have lM:s.L.length<=1048576:=SM.l s ay;obtain ⟨M,hM⟩:∃ M,s.L.length=M:=⟨_,rfl⟩;rw [hM] at aE lM y1 ⊢;have aV:=Qaa hM;clear y0 hM;go_upto_region 6 with fail;clear y1
   go_loopw [4,24] (fun al i wr=>∃ (q:Nat),q<=M/\i=.int .i64 q/\al=.int .i64 (Qcw S k+q:Nat)/\Hid (PlP ((fcS S).take (Qcw S k+q)) p.d (Qa2 (S.map Sd.nm)))/\Hid (MpN wr mb (Qcw S k+q) ((fcS S).take (Qcw S k+q)))/\Hid (CK W4 wr)/\Hid (Bw w wr)) (fun al i wr=>M - (Go.RowKit.intOf i).toNat)
   case atStart=>exact ⟨0,ZZj _,rfl,rfl,HP,aR,CK.refl _,aS⟩
   case round=>
    clear aR aS HP;obtain ⟨q,hq,rfl,rfl,HP,HM,HK,HB⟩:=hrel;by_cases bn:q<M
    ·have aG:(q:Int)<(M:Int):=by omega
     obtain ⟨c,hc⟩:∃ c,s.L[q]?=some c:=⟨s.L[q]'(oA aV.out),ZZe _⟩;obtain ⟨b1,bd,e1,ab⟩:=(HA.2 s ay).1 (oA aV.out);obtain ⟨x0,x1,x2,x3,x4,x5,x6,x7,x8,x9,bg,bc,be,bf,a7⟩:=Qaq (ab q c hc) HB;have HC:Hid ((fcS S)[Qcw S k+q]?=some (s.nm,c)):=Qaa (QtB HS hc);have HW:=Qaa (a5.out s ay c (ZZn hc)).1;have HZ:=Qaa (a5.out s ay c (ZZn hc)).2;have bj:IntKind.i64.wrap ((q:Int)+1)=((q+1:Nat):Int):=by rw [show (q:Int)+1=((q+1:Nat):Int) by omega];exact ZZi _ ⟨by omega,by omega⟩
     have LE:Qcw S k+q<=60:=HP.le (by have:=(List.getElem?_eq_some_iff.1 HC).1;unfold Qcw at *; omega);have bk:IntKind.i64.wrap (((Qcw S k+q:Nat):Int)+1)=((Qcw S k+q+1:Nat):Int):=by rw [show ((Qcw S k+q:Nat):Int)+1=((Qcw S k+q+1:Nat):Int) by omega];exact ZZi _ ⟨by omega,by omega⟩
     rw [e1];clear ab hc;go_upto_region 8 with fail;clear x0 x1 x2 x3 x4 x5 x6 x7 x8 x9 bg bc be bf a7;have al:Bw wr (wr.alloc (.cells (Qao c) 46)):=bAA;have y0:(wr.alloc (.cells (Qao c) 46)).cell? ⟨wr.heap.size,0,none⟩=some (.int .i64 c.n):=Qar (ZZk wr (.cells (Qao c) 46)) 0 rfl;have y1:(wr.alloc (.cells (Qao c) 46)).cell? ⟨wr.heap.size,1,none⟩=some (.string c.s):=Qar (ZZk wr (.cells (Qao c) 46)) 1 rfl;have az:=Qaa (Qac HB al);obtain ⟨D,hD,an⟩:=HM.past al;have HD:=Qaa hD;have aj:=Qaa an;have aC:=Qaa (HK.below al);have LC:Hid (QhH ((fcS S).take (Qcw S k+q)) c.n<=20):=Qaa (HP.c c.n);have aI:IntKind.i64.wrap ((QhH ((fcS S).take (Qcw S k+q)) c.n:Int)+1)=(QhH ((fcS S).take (Qcw S k+q)) c.n:Int)+1:=ZZi _ ⟨by omega,by have:=LC.out;omega⟩;clear al HM HK HB hD an;generalize wr.alloc _=W5 at az HD aC y0 y1 ⊢;generalize wr.heap.size=cb at y0 y1 ⊢;clear wr;have ad:=Qaa y0;have ae:=Qaa y1;clear y1;go_upto_region 10 with (first | (at_lookup;refine wpList_lookup_own_int _ rfl _ _ 144 rfl 2 3 .i64 keyI underlying144 underlying3 (QqW _) mb (Qcw S k+q) _ rfl HD _ _ rfl (keyOf_int_mk underlying2 (wfI HW.1 HW.2)) ?_;intro c1 ak aP;obtain rfl:=QtH aj ak;clear ak aP) | (at_mapUpdate;refine wpList_mapUpdate_own _ rfl _ _ _ 144 rfl 2 3 keyI underlying144 _ mb (Qcw S k+q) _ rfl HD oC _ _ _ rfl rfl (keyOf_int_mk underlying2 (wfI HW.1 HW.2)) _ [] (plainElem_int underlying3 (wfI oB (oA LC.out))) ?_;intro w6 af ac));have bl:=Qaa (QgI (win:=c.n) HC);have a2:=Qaa (MpN.grow HC HD aj af);have av:Hid (Bw w w6):=Qaa (az.grown ac az.size (fun j hj=>by cases hj;exact aZ));have aw:=ck_upd HD ac;have y0:=aw _ _ ad;have y1:=aw _ _ ae;have au:=Qaa (aC.trans aw);clear af ac aw HD aj aC az aI ad ae;have ad:=Qaa y0;have ae:=Qaa y1;clear y0 y1;by_cases aJ:Qcw S k+q+1<=60
     ·have a0:¬ (60:Int)<(Qcw S k:Int)+(q:Int)+1:=by omega
      obtain ⟨D,hD,an⟩:=a2.out;have HD:=Qaa hD;have aj:=Qaa an;clear hD an;have y0:=ad.out;obtain ⟨c1,a9,ak,aP⟩:=HD.lookup_int keyI underlying144 underlying3 (QqW _) (keyOf_int_mk underlying2 (wfI HW.1 HW.2));have aU:=Qaa (QtH aj ak);clear ak aP HD aj;by_cases aO:QhH ((fcS S).take (Qcw S k+q+1)) c.n<=20
      ·have a3:¬ (20:Int)<c1:=by have:=aU.out;omega
       go_upto_region 12 with fail;clear y0 a3 a0 a9;have aF:Hid (w6.cell? ⟨sb,0,none⟩=some (.string s.nm)):=Qaa (au.out _ _ ba);have am:Hid (w6.cell? ⟨w.heap.size,4,none⟩=some (.int .i64 p.d)):=Qaa (au.out _ _ (aq.out _ _ ap));have bb:=Qaa (QvI a1 (aq.trans au));by_cases bh:c.n<p.d
       ·have HF:Hid (¬ PlP (fcS S) p.d (Qa2 (S.map Sd.nm))):=Qaa (fun h=>by have:=(h.at HC).2.2.1;have e:(s.nm,c).2.n=c.n:=rfl;omega)
        have aa:(fun W=>Bw w6 W) w6.drew:=(ZZb _ _).drew;refine Qal (fun W=>Bw w6 W) 99 oG ?_;refine tkS 0 (.pointer (some ⟨cb,0,none⟩)) aa ?_;refine tkL 1 (.int .i64 c.n) aa (fun W hW=>?_) ?_
        ·have z:=Qab hW ad
         exact mAo
        refine tkS 2 (.pointer (some ⟨w.heap.size,4,none⟩)) aa ?_;simp only [sX];refine tkL 3 (.int .i64 p.d) aa (fun W hW=>?_) ?_
        ·have z:=Qab hW am
         exact mAo
        refine tkS 4 (.bool true) aa ?_;refine tkS 5 (.bool true) aa ?_;simp only [sX];refine tkU 6 aa ?_;refine tkU 7 aa ?_;refine tkU 8 aa ?_;simp only [sX];refine tkU 10 aa ?_;refine tkU 11 aa ?_;simp only [sX];refine onE 9 fun K hK=>?_;refine Eq.mpr (if_neg (fun h=>Bool.noConfusion (show false=true from h))) ?_;refine gK hK aa ?_
        try simp only [sX]
        refine tkU 12 aa ?_;refine tkS 13 (.bool true) aa ?_;simp only [sX];refine dnE ?_ _;go_wp2;go_ret;exact ⟨by rw [QfU HF.out];rfl,Qac av aa⟩
       ·have aa:(fun W=>Bw w6 W) w6.drew:=(ZZb _ _).drew
        refine Qal (fun W=>Bw w6 W) 99 oG ?_;refine tkS 0 (.pointer (some ⟨cb,0,none⟩)) aa ?_;refine tkL 1 (.int .i64 c.n) aa (fun W hW=>?_) ?_
        ·have z:=Qab hW ad
         exact mAo
        refine tkS 2 (.pointer (some ⟨w.heap.size,4,none⟩)) aa ?_;simp only [sX];refine tkL 3 (.int .i64 p.d) aa (fun W hW=>?_) ?_
        ·have z:=Qab hW am
         exact mAo
        refine tkS 4 (.bool false) aa ?_;refine tkS 5 (.bool false) aa ?_;simp only [sX];refine tkS 6 (.slice bo N cn) aa ?_;refine tkS 7 (.pointer (some ⟨cb,1,none⟩)) aa ?_;refine tkL 8 (.string c.s) aa (fun W hW=>?_) ?_
        ·have z:=Qab hW ae
         exact mAo
        simp only [sX];refine tkS 10 (.pointer (some ⟨sb,0,none⟩)) aa ?_;refine tkL 11 (.string s.nm) aa (fun W hW=>?_) ?_
        ·have z:=Qab hW aF
         exact mAo
        simp only [sX];refine onE 9 fun K hK=>?_;go_simp;have aM:=QlW (w:=w6.drew) (L:=S.map Sd.nm) (ao:=bo) cn c.s HZ xR (fun u hu=>by obtain ⟨z,hz,rfl⟩:=List.mem_map.1 hu;exact SM.nz z hz) (QaA bb (aa:Bw w6 w6.drew));rw [LM.out] at aM;refine aM.mono ?_;rintro e w7 ⟨o,rfl,ho,aT⟩;have aW:=Qaa ho;have ah:Hid (Bw w6 w7):=(aa:Bw w6 w6.drew).trans (aT.mono (ZZa _));clear aT ho aM;dsimp only;refine gK hK ah.out ?_
        try simp only [sX]
        refine tkS 12 (.bool (!(o.toList == s.nm.toList))) ah ?_;refine tkS 13 (.bool (!(o.toList == s.nm.toList))) ah ?_;simp only [sX];refine dnE ?_ _;have HT:=Qaa (Qac av ah);generalize hbx:(o.toList == s.nm.toList)=bx;by_cases ai:o=s.nm
        ·obtain rfl:bx=true:=by rw [<- hbx,ai];exact beq_self_eq_true _
         have aD:=Qaa (HP.step HC aJ aO (by show p.d<=c.n;omega) (by show Qa2 _ c.s s.nm;rw [<- ai];exact aW.out));have a6:=Qaa (a2.past ah);have aQ:=Qaa (au.below ah);clear ai hbx;go_wp2;go_roundw
         case rel=>exact ⟨q+1,by omega,by first | rfl | go_num,by first | rfl | go_num,aD,a6,aQ,HT⟩
         case measure=>simp [zI];omega
        ·obtain rfl:bx=false:=hbx.symm.trans <| beq_eq_false_iff_ne.2 (fun e=>ai oP)
         have HF:Hid (¬ PlP (fcS S) p.d (Qa2 (S.map Sd.nm))):=Qaa (fun h=>ai (Qhl aW (h.at HC).2.2.2));clear ai hbx;go_wp2;go_ret;exact ⟨by rw [QfU HF.out];rfl,HT⟩
      ·have a3:(20:Int)<c1:=by have:=aU.out;omega
       have HF:Hid (¬ PlP (fcS S) p.d (Qa2 (S.map Sd.nm))):=Qaa (fun h=>aO (h.at HC).2.1);clear aO;go_wp2;go_ret;exact ⟨by rw [QfU HF.out];rfl,av⟩
     ·have a0:(60:Int)<(Qcw S k:Int)+(q:Int)+1:=by omega
      have HF:Hid (¬ PlP (fcS S) p.d (Qa2 (S.map Sd.nm))):=Qaa (fun h=>aJ (h.at HC).1);clear aJ;go_wp2;go_ret;exact ⟨by rw [QfU HF.out];rfl,av⟩
    ·have aG:¬ (q:Int)<(M:Int):=by omega
     obtain rfl:q=M:=oB
     rw [<- aE.out] at HP HM;have aQ:=Qaa (aq.trans HK);go_wp2;go_roundw
     case rel=>exact ⟨k+1,by omega,by first | rfl | go_num,by rw [aE.out],HP,HM,aQ,HB⟩
     case measure=>simp [zI];omega
  ·have aL:¬ (k:Int)<(N:Int):=by omega
   have aN:=HP.out;rw [Qmn (oA HN.out),List.take_length] at aN;have aD:=Qaa aN;clear aN;go_wp2;go_ret;exact ⟨by rw [QgU aD.out];rfl,HB⟩
end Go.Proofs.YtioohanfodmddaaGreatDoor
