/-
 Parts.
-/
import Derived.Test.YtlejlgldgafljaaGreatDoorVRA
import Derived.Maps.Own
import Derived.Maps.OwnOps
import Derived.Maps.Views
import Derived.Maps.Keyed
set_option maxHeartbeats 16000000
set_option linter.all false
namespace Go.Proofs.YtlejlgldgafljaaGreatDoor
open Go.ChangeShapes Go.WideShapes Go.ChangeAt Go.RowKit Go.PlainAid Go.Maps Tryz
set_option maxRecDepth 10000
def CK (w w':World):Prop:=∀ a v,w.cell? a=some v->w'.cell? a=some v
theorem CK.refl (w:World):CK w w:=fun _ _ h=>h
variable {w w' w1 w2:World}
theorem CK.trans (h:CK w w1) (k:CK w1 w2):CK w w2:=fun a v q=>k a v (h a v q)
theorem CK.of (hb:Bw w1 w2):CK w1 w2:=fun a v k=>Qab hb k
theorem CK.below (h:CK w w1) (hb:Bw w1 w2):CK w w2:=h.trans (CK.of hb)
variable {ao:Option Addr}
theorem Qtw {L:List ByteArray} (h:Qau w ao L) (k:CK w w'):Qau w' ao L:=fun h0=>by
 obtain ⟨b,off,e,hc⟩:=h h0;exact ⟨b,off,e,fun i u hi=>k _ _ (hc i u hi)⟩
def MpN (W:World) (b n:Nat) (E:List (ByteArray×Ce)):Prop:=∃ D:DataW Unit,W.ownsMap prog 2 (plainElem prog 3) b n D/\∀ x:Int,D.atKey (.int .i64 x) (.lit (.int .i64 0))=.lit (.int .i64 (Qhk E x))
theorem MpN.start (w:World):MpN (w.alloc (.map #[] 0)) w.heap.size 0 []:=
 ⟨.map [],World.ownsMap_made w prog 2 (plainElem prog 3),fun x=>rfl⟩
variable {b n:Nat}
variable {D:DataW Unit}
variable {k:TypeId}
variable {R:Value->Option (DataW Unit×List MemPlace)}
theorem Qpj (h:w.ownsMap prog k R b n D) (hb:Bw w w'):w'.ownsMap prog k R b n D:=by
 obtain ⟨es,cl,h1,h2⟩:=h;exact ⟨es,cl,(hb.block b (ZZc.1 h1).1).trans h1,h2⟩
variable {E:List (ByteArray×Ce)}
theorem MpN.past (h:MpN w b n E) (hb:Bw w w'):MpN w' b n E:=by
 obtain ⟨D,h1,h2⟩:=h;exact ⟨D,Qpj h1 hb,h2⟩
theorem QrT (w:World):(Instr.makeMap 136 none).run prog w=.ok (.map (some w.heap.size)) (w.alloc (.map #[] 0)):=by
 have h:=underlying136;simp [Instr.makeMap,h]
theorem keyI:Keyed prog 2:=int_keyed underlying2
theorem QpE (w:World):(zeroValue 3).run prog w=.ok (.int .i64 0) w:=by kernel_rfl
variable {cl x:Int}
theorem wfI (h0:0<=x) (h1:x<=1000000000):(Lit.int .i64 x).wf=true:=by
 simp [Lit.wf,IntKind.signed,IntKind.bits,IntKind.min,IntKind.max];omega
theorem MpN.grow {k:Nat} {A:List (ByteArray×Ce)} {x:ByteArray×Ce} (hx:A[k]?=some x) (ho:w.ownsMap prog 2 (plainElem prog 3) b n D) (h:∀ y:Int,D.atKey (.int .i64 y) (.lit (.int .i64 0))=.lit (.int .i64 (Qhk (A.take k) y))) (ho1:w1.ownsMap prog 2 (plainElem prog 3) b (n+1) (D.put (.int .i64 x.2.n) (.lit (.int .i64 ((Qhk (A.take k) x.2.n:Int)+1))))):MpN w1 b (n+1) (A.take (k+1)):=by
 refine ⟨_,ho1,fun y=>?_⟩;have hT:=ho.tidy keyI;rw [Qg1 hx];by_cases e:y=x.2.n
 ·subst e
  have aa:WideAt.IsKeyLit (.int .i64 x.2.n):=trivial;rw [atKey_put_same hT.isMap aa,if_pos rfl]
  rfl
 ·rw [atKey_put_other (by intro q;exact e (by injection q)),h,if_neg (fun q=>e q.symm)]
  rfl
theorem ck_upd (h:w.ownsMap prog k R b n D) (hg:w.grownBy w' (some b)):CK w w':=fun a v hc=>by
 obtain ⟨es,cl,h1,_⟩:=h;refine hg.cell hc (fun e=>?_);have e:a.block=b:=Option.some.inj e;rw [World.cell?,e,h1] at hc
 cases hc
def QcH (S:List Sd) (k:Nat):Nat:=(fcS (S.take k)).length
theorem QcT (S:List Sd):QcH S 0=0:=by simp [QcH,fcS]
variable {S:List Sd}
theorem QgR {k:Nat} {s:Sd} (h:S[k]?=some s):QcH S (k+1)=QcH S k+s.L.length:=by
 unfold QcH;rw [List.take_add_one,h,Qpy,List.length_append];simp [fcS]
theorem QlY {k:Nat} (h:S.length<=k):QcH S k=(fcS S).length:=by unfold QcH;rw [List.take_of_length_le h]
theorem PlP.le {k:Nat} {own:ByteArray->ByteArray->Prop} (h:PlP ((fcS S).take k) cl own) (hk:k<=(fcS S).length):k<=60:=by
 have:=h.l;rw [List.length_take] at this;omega
theorem Qtt {c:Int} (h:∀ y:Int,D.atKey (.int .i64 y) (.lit (.int .i64 0))=.lit (.int .i64 (Qhk E y))) (hat:D.atKey (.int .i64 x) (.lit (.int .i64 0))=.lit (.int .i64 c)):c=(Qhk E x:Int):=by
 rw [h] at hat;injection hat with h1;injection h1 with _ h2;exact h2.symm
noncomputable def plB (S:List Sd) (cl:Int):Bool:=@decide (PlP (fcS S) cl (QaR (S.map Sd.nm))) (Classical.propDecidable _)
theorem QfI (h:¬ PlP (fcS S) cl (QaR (S.map Sd.nm))):plB S cl=false:=by unfold plB;exact @ZZg _ (Classical.propDecidable _) h
theorem Qgm (h:PlP (fcS S) cl (QaR (S.map Sd.nm))):plB S cl=true:=by unfold plB;exact @ZZh _ (Classical.propDecidable _) h
theorem Qjh {N ca:Nat} (p:Pi) (hN:S.length=N) (sm:SdsSm S) (hw:∀ s∈S,∀ c∈s.L,(0<=c.n/\c.n<=1000000000)/\c.s.size<=maxLen) (hA:QfW w ao S) :
  Calls prog 61 #[.agg (Qad (.slice ao N ca) p)] w fun e w'=>e=.returned (.bool (plB S p.d))/\Bw w w':=by
 have HN:=Qaa hN;have SM:=Qaa sm;have aX:=Qaa hw;have HA:=Qaa hA;have lN:N<=1048576:=by have:=sm.n;omega
 have LM:Hid ((S.map Sd.nm).length=N):=by rw [yA];exact HN
 have au:=Qaa (((ZZb _ _).alloc (ZZa _) _:Bw w (w.alloc (.cells (Qad (.slice ao N ca) p) 25))));have r0:=Qar (ZZk w (.cells (Qad (.slice ao N ca) p) 25)) 0 rfl;have r4:=Qar (ZZk w (.cells (Qad (.slice ao N ca) p) 25)) 4 rfl;clear hN sm hw hA;go_enter func61,ntmps61;go_upto_region 1 with fail;generalize w.alloc _=W0 at au r0 r4 ⊢;have aW:=Qaa r0;have a5:=Qaa r4;clear r4;have bg:=QrT;go_upto_region 2 with (go_at_call 92;refine (QjW (ca:=ca) HN lN (QaF HA au)).mono ?_;rintro e w1 ⟨bo,cn,rfl,ho,aZ⟩;have HO:=Qaa ho;have aC:=Qaa aZ;clear ho aZ);clear r0 bg;have aI:=Qaa (Qac au aC);have az:Bw w1 (w1.alloc (.map #[] 0)):=bA;have a0:Hid (Qau (w1.alloc (.map #[] 0)) bo (S.map Sd.nm)):=Qaa (QaA HO.at az);have aJ:=Qaa (Qac aI az);have K2:=(CK.of aC).below az;have ag:=Qaa (K2 _ _ aW);have am:=Qaa (K2 _ _ a5);have ay:=Qaa (MpN.start w1);have a4:=aI.size;generalize w1.alloc _=W2 at a0 aJ ag am ay ⊢;clear az K2 aW a5 aC HO aI au;generalize w1.heap.size=mb at ay a4 ⊢;clear w1 W0;have r0:=ag.out;go_upto_region 3 with fail;clear r0 ag
 go_loopw [4,17] (fun al i wr=>∃ (k:Nat),k<=N/\i=.int .i64 k/\al=.int .i64 (QcH S k:Nat)/\Hid (PlP ((fcS S).take (QcH S k)) p.d (QaR (S.map Sd.nm)))/\Hid (MpN wr mb (QcH S k) ((fcS S).take (QcH S k)))/\Hid (CK W2 wr)/\Hid (Bw w wr)) (fun al i wr=>N - (Go.RowKit.intOf i).toNat)
 case atStart=>exact ⟨0,Nat.zero_le _,rfl,by rw [QcT];rfl,by rw [QcT];exact Qaa PlP.nil,by rw [QcT];exact ay,CK.refl _,aJ⟩
 case round=>
  clear ay aJ;obtain ⟨k,hk,rfl,rfl,HP,HM,HK,HB⟩:=hrel;by_cases bi:k<N
  ·have aM:(k:Int)<(N:Int):=by omega
   obtain ⟨b,bm,e,ab⟩:=HA.1 (by have:=HN.out;omega);subst e;obtain ⟨s,hs⟩:∃ s,S[k]?=some s:=⟨S[k]'(by have:=HN.out;omega),ZZe _⟩;obtain ⟨x0,x1⟩:=Qbz (ab k s hs) HB;have HS:=Qaa hs;have aq:=Qaa (ZZn hs);have bn:IntKind.i64.wrap ((k:Int)+1)=((k+1:Nat):Int):=by rw [show (k:Int)+1=((k+1:Nat):Int) by omega];exact ZZi _ ⟨by omega,by omega⟩
   clear ab hs;go_upto_region 5 with fail;clear x0 x1;have al:Bw wr (wr.alloc (.cells (QaN s) 56)):=bA;have y0:(wr.alloc (.cells (QaN s) 56)).cell? ⟨wr.heap.size,0,none⟩=some (.string s.nm):=Qar (ZZk wr (.cells (QaN s) 56)) 0 rfl;have y1:(wr.alloc (.cells (QaN s) 56)).cell? ⟨wr.heap.size,1,none⟩=some (.slice s.ao s.L.length s.cp):=Qar (ZZk wr (.cells (QaN s) 56)) 1 rfl;have aN:=Qaa (Qac HB al);have aG:=Qaa (HM.past al);have ax:=Qaa (HK.below al);clear al HM HK HB;generalize wr.alloc _=W4 at aN aG ax y0 y1 ⊢;generalize wr.heap.size=sb at y0 y1 ⊢;clear wr;have bb:=Qaa y0;have aK:=Qaa (QgR HS);have lM:s.L.length<=1048576:=SM.l s aq;obtain ⟨M,hM⟩:∃ M,s.L.length=M:=⟨_,rfl⟩;rw [hM] at aK lM y1 ⊢;have aY:=Qaa hM;clear y0 hM;go_upto_region 6 with fail;clear y1
   go_loopw [4,24] (fun al i wr=>∃ (q:Nat),q<=M/\i=.int .i64 q/\al=.int .i64 (QcH S k+q:Nat)/\Hid (PlP ((fcS S).take (QcH S k+q)) p.d (QaR (S.map Sd.nm)))/\Hid (MpN wr mb (QcH S k+q) ((fcS S).take (QcH S k+q)))/\Hid (CK W4 wr)/\Hid (Bw w wr)) (fun al i wr=>M - (Go.RowKit.intOf i).toNat)
   case atStart=>exact ⟨0,ZZj _,rfl,rfl,HP,aG,CK.refl _,aN⟩
   case round=>
    clear aG aN HP;obtain ⟨q,hq,rfl,rfl,HP,HM,HK,HB⟩:=hrel;by_cases bh:q<M
    ·have aS:(q:Int)<(M:Int):=by omega
     obtain ⟨c,hc⟩:∃ c,s.L[q]?=some c:=⟨s.L[q]'(by have:=aY.out;omega),ZZe _⟩;obtain ⟨b1,bc,e1,ab⟩:=(HA.2 s aq).1 (by have:=aY.out;omega);obtain ⟨x0,x1,x2,x3,x4,x5,x6,x7,x8,x9,a8,bf,bd,be,ba⟩:=Qas (ab q c hc) HB;have HC:Hid ((fcS S)[QcH S k+q]?=some (s.nm,c)):=Qaa (QsU HS hc);have HW:=Qaa (aX.out s aq c (ZZn hc)).1;have HZ:=Qaa (aX.out s aq c (ZZn hc)).2;have bp:IntKind.i64.wrap ((q:Int)+1)=((q+1:Nat):Int):=by rw [show (q:Int)+1=((q+1:Nat):Int) by omega];exact ZZi _ ⟨by omega,by omega⟩
     have LE:QcH S k+q<=60:=HP.le (by have:=(List.getElem?_eq_some_iff.1 HC).1;unfold QcH at *; omega);have bl:IntKind.i64.wrap (((QcH S k+q:Nat):Int)+1)=((QcH S k+q+1:Nat):Int):=by rw [show ((QcH S k+q:Nat):Int)+1=((QcH S k+q+1:Nat):Int) by omega];exact ZZi _ ⟨by omega,by omega⟩
     rw [e1];clear ab hc;go_upto_region 8 with fail;clear x0 x1 x2 x3 x4 x5 x6 x7 x8 x9 a8 bf bd be ba;have al:Bw wr (wr.alloc (.cells (Qan c) 75)):=bA;have y0:(wr.alloc (.cells (Qan c) 75)).cell? ⟨wr.heap.size,0,none⟩=some (.int .i64 c.n):=Qar (ZZk wr (.cells (Qan c) 75)) 0 rfl;have y1:(wr.alloc (.cells (Qan c) 75)).cell? ⟨wr.heap.size,1,none⟩=some (.string c.s):=Qar (ZZk wr (.cells (Qan c) 75)) 1 rfl;have av:=Qaa (Qac HB al);obtain ⟨D,hD,ak⟩:=HM.past al;have HD:=Qaa hD;have aj:=Qaa ak;have aO:=Qaa (HK.below al);have LC:Hid (Qhk ((fcS S).take (QcH S k+q)) c.n<=20):=Qaa (HP.c c.n);have aF:IntKind.i64.wrap ((Qhk ((fcS S).take (QcH S k+q)) c.n:Int)+1)=(Qhk ((fcS S).take (QcH S k+q)) c.n:Int)+1:=ZZi _ ⟨by omega,by have:=LC.out;omega⟩;clear al HM HK HB hD ak;generalize wr.alloc _=W5 at av HD aO y0 y1 ⊢;generalize wr.heap.size=cb at y0 y1 ⊢;clear wr;have ad:=Qaa y0;have ae:=Qaa y1;clear y1;go_upto_region 10 with (first | (at_lookup;refine wpList_lookup_own_int _ rfl _ _ 136 rfl 2 3 .i64 keyI underlying136 underlying3 (QpE _) mb (QcH S k+q) _ rfl HD _ _ rfl (keyOf_int_mk underlying2 (wfI HW.1 HW.2)) ?_;intro c1 an aD;obtain rfl:=Qtt aj an;clear an aD) | (at_mapUpdate;refine wpList_mapUpdate_own _ rfl _ _ _ 136 rfl 2 3 keyI underlying136 _ mb (QcH S k+q) _ rfl HD (by unfold maxLen;omega) _ _ _ rfl rfl (keyOf_int_mk underlying2 (wfI HW.1 HW.2)) _ [] (plainElem_int underlying3 (wfI (by omega) (by have:=LC.out;omega))) ?_;intro w6 af ac));have bk:=Qaa (Qg1 (win:=c.n) HC);have a3:=Qaa (MpN.grow HC HD aj af);have aA:Hid (Bw w w6):=Qaa (av.grown ac av.size (fun j hj=>by cases hj;exact a4));have ar:=ck_upd HD ac;have y0:=ar _ _ ad;have y1:=ar _ _ ae;have aw:=Qaa (aO.trans ar);clear af ac ar HD aj aO av aF ad ae;have ad:=Qaa y0;have ae:=Qaa y1;clear y0 y1;by_cases aE:QcH S k+q+1<=60
     ·have aU:¬ (60:Int)<(QcH S k:Int)+(q:Int)+1:=by omega
      obtain ⟨D,hD,ak⟩:=a3.out;have HD:=Qaa hD;have aj:=Qaa ak;clear hD ak;have y0:=ad.out;obtain ⟨c1,a9,an,aD⟩:=HD.lookup_int keyI underlying136 underlying3 (QpE _) (keyOf_int_mk underlying2 (wfI HW.1 HW.2));have a1:=Qaa (Qtt aj an);clear an aD HD aj;by_cases aP:Qhk ((fcS S).take (QcH S k+q+1)) c.n<=20
      ·have aT:¬ (20:Int)<c1:=by have:=a1.out;omega
       go_upto_region 12 with fail;clear y0 aT aU a9;have aQ:Hid (w6.cell? ⟨sb,0,none⟩=some (.string s.nm)):=Qaa (aw.out _ _ bb);have ap:Hid (w6.cell? ⟨w.heap.size,4,none⟩=some (.int .i64 p.d)):=Qaa (aw.out _ _ (ax.out _ _ am));have a6:=Qaa (Qtw a0 (ax.trans aw));by_cases bj:c.n<p.d
       ·have HF:Hid (¬ PlP (fcS S) p.d (QaR (S.map Sd.nm))):=Qaa (fun h=>by have:=(h.at HC).2.2.1;have e:(s.nm,c).2.n=c.n:=rfl;omega)
        have aa:(fun W=>Bw w6 W) w6.drew:=(ZZb _ _).drew;refine Qal (fun W=>Bw w6 W) 99 (by kernel_rfl) ?_;refine tkS 0 (.pointer (some ⟨cb,0,none⟩)) aa ?_;refine tkL 1 (.int .i64 c.n) aa (fun W hW=>?_) ?_
        ·have z:=Qab hW ad
         clear hW;go_simp
        refine tkS 2 (.pointer (some ⟨w.heap.size,4,none⟩)) aa ?_;simp only [sX];refine tkL 3 (.int .i64 p.d) aa (fun W hW=>?_) ?_
        ·have z:=Qab hW ap
         clear hW;go_simp
        refine tkS 4 (.bool true) aa ?_;refine tkS 5 (.bool true) aa ?_;simp only [sX];refine tkU 6 aa ?_;refine tkU 7 aa ?_;refine tkU 8 aa ?_;simp only [sX];refine tkU 10 aa ?_;refine tkU 11 aa ?_;simp only [sX];refine onE 9 fun K hK=>?_;refine Eq.mpr (if_neg (fun h=>Bool.noConfusion (show false=true from h))) ?_;refine gK hK aa ?_
        try simp only [sX]
        refine tkU 12 aa ?_;refine tkS 13 (.bool true) aa ?_;simp only [sX];refine dnE ?_ _;go_wp2;go_ret;exact ⟨by rw [QfI HF.out];rfl,Qac aA aa⟩
       ·have aa:(fun W=>Bw w6 W) w6.drew:=(ZZb _ _).drew
        refine Qal (fun W=>Bw w6 W) 99 (by kernel_rfl) ?_;refine tkS 0 (.pointer (some ⟨cb,0,none⟩)) aa ?_;refine tkL 1 (.int .i64 c.n) aa (fun W hW=>?_) ?_
        ·have z:=Qab hW ad
         clear hW;go_simp
        refine tkS 2 (.pointer (some ⟨w.heap.size,4,none⟩)) aa ?_;simp only [sX];refine tkL 3 (.int .i64 p.d) aa (fun W hW=>?_) ?_
        ·have z:=Qab hW ap
         clear hW;go_simp
        refine tkS 4 (.bool false) aa ?_;refine tkS 5 (.bool false) aa ?_;simp only [sX];refine tkS 6 (.slice bo N cn) aa ?_;refine tkS 7 (.pointer (some ⟨cb,1,none⟩)) aa ?_;refine tkL 8 (.string c.s) aa (fun W hW=>?_) ?_
        ·have z:=Qab hW ae
         clear hW;go_simp
        simp only [sX];refine tkS 10 (.pointer (some ⟨sb,0,none⟩)) aa ?_;refine tkL 11 (.string s.nm) aa (fun W hW=>?_) ?_
        ·have z:=Qab hW aQ
         clear hW;go_simp
        simp only [sX];refine onE 9 fun K hK=>?_;go_simp;have aL:=Qhg (w:=w6.drew) (L:=S.map Sd.nm) (ao:=bo) cn c.s HZ (by rw [LM.out];exact lN) (fun u hu=>by obtain ⟨z,hz,rfl⟩:=List.mem_map.1 hu;exact SM.nz z hz) (QaA a6 (aa:Bw w6 w6.drew));rw [LM.out] at aL;refine aL.mono ?_;rintro e w7 ⟨o,rfl,ho,a2⟩;have aV:=Qaa ho;have ah:Hid (Bw w6 w7):=(aa:Bw w6 w6.drew).trans (a2.mono (ZZa _));clear a2 ho aL;dsimp only;refine gK hK ah.out ?_
        try simp only [sX]
        refine tkS 12 (.bool (!(o.toList == s.nm.toList))) ah ?_;refine tkS 13 (.bool (!(o.toList == s.nm.toList))) ah ?_;simp only [sX];refine dnE ?_ _;have HT:=Qaa (Qac aA ah);generalize hbx:(o.toList == s.nm.toList)=bx;by_cases ai:o=s.nm
        ·obtain rfl:bx=true:=by rw [<- hbx,ai];exact beq_self_eq_true _
         have aR:=Qaa (HP.step HC aE aP (by show p.d<=c.n;omega) (by show QaR _ c.s s.nm;rw [<- ai];exact aV.out));have a7:=Qaa (a3.past ah);have aH:=Qaa (aw.below ah);clear ai hbx;go_wp2;go_roundw
         case rel=>exact ⟨q+1,by omega,by first | rfl | go_num,by first | rfl | go_num,aR,a7,aH,HT⟩
         case measure=>simp [zI];omega
        ·obtain rfl:bx=false:=hbx.symm.trans <| beq_eq_false_iff_ne.2 (fun e=>ai (by rw [ByteArray.toList_eq,ByteArray.toList_eq] at e;exact ByteArray.ext (Array.toList_inj.1 e)))
         have HF:Hid (¬ PlP (fcS S) p.d (QaR (S.map Sd.nm))):=Qaa (fun h=>ai (Qet aV (h.at HC).2.2.2));clear ai hbx;go_wp2;go_ret;exact ⟨by rw [QfI HF.out];rfl,HT⟩
      ·have aT:(20:Int)<c1:=by have:=a1.out;omega
       have HF:Hid (¬ PlP (fcS S) p.d (QaR (S.map Sd.nm))):=Qaa (fun h=>aP (h.at HC).2.1);clear aP;go_wp2;go_ret;exact ⟨by rw [QfI HF.out];rfl,aA⟩
     ·have aU:(60:Int)<(QcH S k:Int)+(q:Int)+1:=by omega
      have HF:Hid (¬ PlP (fcS S) p.d (QaR (S.map Sd.nm))):=Qaa (fun h=>aE (h.at HC).1);clear aE;go_wp2;go_ret;exact ⟨by rw [QfI HF.out];rfl,aA⟩
    ·have aS:¬ (q:Int)<(M:Int):=by omega
     obtain rfl:q=M:=by omega
     rw [<- aK.out] at HP HM;have aH:=Qaa (ax.trans HK);go_wp2;go_roundw
     case rel=>exact ⟨k+1,by omega,by first | rfl | go_num,by rw [aK.out],HP,HM,aH,HB⟩
     case measure=>simp [zI];omega
  ·have aM:¬ (k:Int)<(N:Int):=by omega
   have aB:=HP.out;rw [QlY (by have:=HN.out;omega),List.take_length] at aB;have aR:=Qaa aB;clear aB;go_wp2;go_ret;exact ⟨by rw [Qgm aR.out];rfl,HB⟩
end Go.Proofs.YtlejlgldgafljaaGreatDoor
