/-
 Parts.
-/
import Derived.Test.YtlejlgldgafljaaGreatDoorKRA
import Derived.Maps.Own
import Derived.Maps.OwnOps
import Derived.Maps.Views
import Derived.Maps.Keyed
set_option maxHeartbeats 16000000
set_option linter.all false
namespace Go.Proofs.YtlejlgldgafljaaGreatDoor
open Go.ChangeShapes Go.WideShapes Go.ChangeAt Go.RowKit Go.PlainAid Go.Maps Tryz
set_option maxRecDepth 10000
def CK (w w':World):Prop:=∀ a v,w.cell? a=some v->w'.cell? a=some v
theorem CK.refl (w:World):CK w w:=fun _ _ h=>h
variable {w w' w1 w2:World}
theorem CK.trans (h:CK w w1) (k:CK w1 w2):CK w w2:=fun a v q=>k a v (h a v q)
theorem CK.of (hb:Below w1.heap.size w1 w2):CK w1 w2:=fun a v k=>Qab hb k
theorem CK.below (h:CK w w1) (hb:Below w1.heap.size w1 w2):CK w w2:=h.trans (CK.of hb)
variable {ao:Option Addr}
theorem Qti {L:List ByteArray} (h:Qas w ao L) (k:CK w w'):Qas w' ao L:=fun h0=>by
 obtain ⟨b,off,e,hc⟩:=h h0;exact ⟨b,off,e,fun i u hi=>k _ _ (hc i u hi)⟩
def MpN (W:World) (b n:Nat) (E:List (ByteArray×Ce)):Prop:=∃ D:DataW Unit,W.ownsMap prog 2 (plainElem prog 3) b n D/\∀ x:Int,D.atKey (.int .i64 x) (.lit (.int .i64 0))=.lit (.int .i64 (Qhc E x))
theorem MpN.start (w:World):MpN (w.alloc (.map #[] 0)) w.heap.size 0 []:=
 ⟨.map [],World.ownsMap_made w prog 2 (plainElem prog 3),fun x=>rfl⟩
variable {b n:Nat}
variable {D:DataW Unit}
variable {k:TypeId}
variable {R:Value->Option (DataW Unit×List MemPlace)}
theorem QpH (h:w.ownsMap prog k R b n D) (hb:Below w.heap.size w w'):w'.ownsMap prog k R b n D:=by
 obtain ⟨es,cl,h1,h2⟩:=h;exact ⟨es,cl,(hb.block b (ZZc.1 h1).1).trans h1,h2⟩
variable {E:List (ByteArray×Ce)}
theorem MpN.past (h:MpN w b n E) (hb:Below w.heap.size w w'):MpN w' b n E:=by
 obtain ⟨D,h1,h2⟩:=h;exact ⟨D,QpH h1 hb,h2⟩
theorem Qrx (w:World):(Instr.makeMap 136 none).run prog w=.ok (.map (some w.heap.size)) (w.alloc (.map #[] 0)):=by
 have h:=underlying136;simp [Instr.makeMap,h]
theorem keyI:Keyed prog 2:=int_keyed underlying2
theorem Qol (w:World):(zeroValue 3).run prog w=.ok (.int .i64 0) w:=by kernel_rfl
variable {cl x:Int}
theorem wfI (h0:0<=x) (h1:x<=1000000000):(Lit.int .i64 x).wf=true:=by
 simp [Lit.wf,IntKind.signed,IntKind.bits,IntKind.min,IntKind.max];omega
theorem MpN.grow {k:Nat} {A:List (ByteArray×Ce)} {x:ByteArray×Ce} (hx:A[k]?=some x) (ho:w.ownsMap prog 2 (plainElem prog 3) b n D) (h:∀ y:Int,D.atKey (.int .i64 y) (.lit (.int .i64 0))=.lit (.int .i64 (Qhc (A.take k) y))) (ho1:w1.ownsMap prog 2 (plainElem prog 3) b (n+1) (D.put (.int .i64 x.2.n) (.lit (.int .i64 ((Qhc (A.take k) x.2.n:Int)+1))))):MpN w1 b (n+1) (A.take (k+1)):=by
 refine ⟨_,ho1,fun y=>?_⟩;have hT:=ho.tidy keyI;rw [QgE hx];by_cases e:y=x.2.n
 ·subst e
  have aa:WideAt.IsKeyLit (.int .i64 x.2.n):=trivial;rw [atKey_put_same hT.isMap aa,if_pos rfl]
  rfl
 ·rw [atKey_put_other (by intro q;exact e (by injection q)),h,if_neg (fun q=>e q.symm)]
  rfl
theorem ck_upd (h:w.ownsMap prog k R b n D) (hg:w.grownBy w' (some b)):CK w w':=fun a v hc=>by
 obtain ⟨es,cl,h1,_⟩:=h;refine hg.cell hc (fun e=>?_);have e:a.block=b:=Option.some.inj e;rw [World.cell?,e,h1] at hc
 cases hc
def Qcp (S:List Sd) (k:Nat):Nat:=(fcS (S.take k)).length
theorem QcK (S:List Sd):Qcp S 0=0:=by simp [Qcp,fcS]
variable {S:List Sd}
theorem Qgz {k:Nat} {s:Sd} (h:S[k]?=some s):Qcp S (k+1)=Qcp S k+s.L.length:=by
 unfold Qcp;rw [List.take_add_one,h,Qoh,List.length_append];simp [fcS]
theorem Qlv {k:Nat} (h:S.length<=k):Qcp S k=(fcS S).length:=by unfold Qcp;rw [List.take_of_length_le h]
theorem PlP.le {k:Nat} {own:ByteArray->ByteArray->Prop} (h:PlP ((fcS S).take k) cl own) (hk:k<=(fcS S).length):k<=60:=by
 have:=h.l;rw [List.length_take] at this;omega
theorem Qse {c:Int} (h:∀ y:Int,D.atKey (.int .i64 y) (.lit (.int .i64 0))=.lit (.int .i64 (Qhc E y))) (hat:D.atKey (.int .i64 x) (.lit (.int .i64 0))=.lit (.int .i64 c)):c=(Qhc E x:Int):=by
 rw [h] at hat;injection hat with h1;injection h1 with _ h2;exact h2.symm
noncomputable def plB (S:List Sd) (cl:Int):Bool:=@decide (PlP (fcS S) cl (QaX (S.map Sd.nm))) (Classical.propDecidable _)
theorem Qfr (h:¬ PlP (fcS S) cl (QaX (S.map Sd.nm))):plB S cl=false:=by unfold plB;exact @ZZg _ (Classical.propDecidable _) h
theorem Qik (h:PlP (fcS S) cl (QaX (S.map Sd.nm))):plB S cl=true:=by unfold plB;exact @ZZh _ (Classical.propDecidable _) h
theorem Qh5 {N ca:Nat} (p:Pi) (hN:S.length=N) (sm:SdsSm S) (hw:∀ s∈S,∀ c∈s.L,(0<=c.n/\c.n<=1000000000)/\c.s.size<=maxLen) (hA:QeQ w ao S) :
  Calls prog 61 #[.agg (Qaf (.slice ao N ca) p)] w fun e w'=>e=.returned (.bool (plB S p.d))/\Below w.heap.size w w':=by
 have HN:=Qaa hN;have SM:=Qaa sm;have aX:=Qaa hw;have HA:=Qaa hA;have lN:N<=1048576:=by have:=sm.n;omega
 have LM:Hid ((S.map Sd.nm).length=N):=by rw [List.length_map];exact HN
 have aA:=Qaa (((ZZb _ _).alloc (ZZa _) _:Below w.heap.size w (w.alloc (.cells (Qaf (.slice ao N ca) p) 25))));have r0:=Qat (ZZk w (.cells (Qaf (.slice ao N ca) p) 25)) 0 rfl;have r4:=Qat (ZZk w (.cells (Qaf (.slice ao N ca) p) 25)) 4 rfl;clear hN sm hw hA;go_enter func61,ntmps61;go_upto_region 1 with fail;generalize w.alloc (.cells (Qaf (.slice ao N ca) p) 25)=W0 at aA r0 r4 ⊢;have aU:=Qaa r0;have aY:=Qaa r4;clear r4;have bd:=Qrx;go_upto_region 2 with (go_at_call 92;refine (Qi8 (ca:=ca) HN lN (QaR HA aA)).mono ?_;rintro e w1 ⟨bo,cn,rfl,ho,a5⟩;have HO:=Qaa ho;have aQ:=Qaa a5;clear ho a5);clear r0 bd;have aB:=Qaa (Qac aA aQ);have av:Below w1.heap.size w1 (w1.alloc (.map #[] 0)):=(ZZb _ _).alloc (ZZa _) _;have aZ:Hid (Qas (w1.alloc (.map #[] 0)) bo (S.map Sd.nm)):=Qaa (Qay HO.out.at av);have aM:=Qaa (Qac aB av);have K2:=(CK.of aQ).below av;have ag:=Qaa (K2 _ _ aU);have ap:=Qaa (K2 _ _ aY);have ax:=Qaa (MpN.start w1);have aV:=aB.out.size;generalize w1.alloc (.map #[] 0)=W2 at aZ aM ag ap ax ⊢;clear av K2 aU aY aQ HO aB aA;generalize w1.heap.size=mb at ax aV ⊢;clear w1 W0;have r0:=ag.out;go_upto_region 3 with fail;clear r0 ag
 go_loopw [4,17] (fun al i wr=>∃ (k:Nat),k<=N/\i=.int .i64 k/\al=.int .i64 (Qcp S k:Nat)/\Hid (PlP ((fcS S).take (Qcp S k)) p.d (QaX (S.map Sd.nm)))/\Hid (MpN wr mb (Qcp S k) ((fcS S).take (Qcp S k)))/\Hid (CK W2 wr)/\Hid (Below w.heap.size w wr)) (fun al i wr=>N - (Go.RowKit.intOf i).toNat)
 case atStart=>exact ⟨0,Nat.zero_le _,rfl,by rw [QcK];rfl,by rw [QcK];exact Qaa PlP.nil,by rw [QcK];exact ax,CK.refl _,aM⟩
 case round=>
  clear ax aM;obtain ⟨k,hk,rfl,rfl,HP,HM,HK,HB⟩:=hrel;by_cases bn:k<N
  ·have aN:(k:Int)<(N:Int):=by omega
   obtain ⟨b,bp,e,ab⟩:=HA.out.1 (by have:=HN.out;omega);subst e;obtain ⟨s,hs⟩:∃ s,S[k]?=some s:=⟨S[k]'(by have:=HN.out;omega),ZZe _⟩;obtain ⟨x0,x1⟩:=Qbt (ab k s hs) HB;have HS:=Qaa hs;have az:=Qaa (ZZn hs);have bk:IntKind.i64.wrap ((k:Int)+1)=((k+1:Nat):Int):=by rw [show (k:Int)+1=((k+1:Nat):Int) by omega];exact ZZi _ ⟨by omega,by omega⟩
   clear ab hs;go_upto_region 5 with fail;clear x0 x1;have al:Below wr.heap.size wr (wr.alloc (.cells (QaU s) 56)):=(ZZb _ _).alloc (ZZa _) _;have y0:(wr.alloc (.cells (QaU s) 56)).cell? ⟨wr.heap.size,0,none⟩=some (.string s.nm):=Qat (ZZk wr (.cells (QaU s) 56)) 0 rfl;have y1:(wr.alloc (.cells (QaU s) 56)).cell? ⟨wr.heap.size,1,none⟩=some (.slice s.ao s.L.length s.cp):=Qat (ZZk wr (.cells (QaU s) 56)) 1 rfl;have aC:=Qaa (Qac HB al);have aD:=Qaa (HM.out.past al);have ay:=Qaa (HK.out.below al);clear al HM HK HB;generalize wr.alloc (.cells (QaU s) 56)=W4 at aC aD ay y0 y1 ⊢;generalize wr.heap.size=sb at y0 y1 ⊢;clear wr;have bb:=Qaa y0;have aJ:=Qaa (Qgz HS);have lM:s.L.length<=1048576:=SM.out.l s az;obtain ⟨M,hM⟩:∃ M,s.L.length=M:=⟨_,rfl⟩;rw [hM] at aJ lM y1 ⊢;have a4:=Qaa hM;clear y0 hM;go_upto_region 6 with fail;clear y1
   go_loopw [4,24] (fun al i wr=>∃ (q:Nat),q<=M/\i=.int .i64 q/\al=.int .i64 (Qcp S k+q:Nat)/\Hid (PlP ((fcS S).take (Qcp S k+q)) p.d (QaX (S.map Sd.nm)))/\Hid (MpN wr mb (Qcp S k+q) ((fcS S).take (Qcp S k+q)))/\Hid (CK W4 wr)/\Hid (Below w.heap.size w wr)) (fun al i wr=>M - (Go.RowKit.intOf i).toNat)
   case atStart=>exact ⟨0,ZZj _,rfl,rfl,HP,aD,CK.refl _,aC⟩
   case round=>
    clear aD aC HP;obtain ⟨q,hq,rfl,rfl,HP,HM,HK,HB⟩:=hrel;by_cases bj:q<M
    ·have aR:(q:Int)<(M:Int):=by omega
     obtain ⟨c,hc⟩:∃ c,s.L[q]?=some c:=⟨s.L[q]'(by have:=a4.out;omega),ZZe _⟩;obtain ⟨b1,bf,e1,ab⟩:=(HA.out.2 s az).1 (by have:=a4.out;omega);obtain ⟨x0,x1,x2,x3,x4,x5,x6,x7,x8,x9,a8,bg,a6,bc,a7⟩:=Qag (ab q c hc) HB;have HC:Hid ((fcS S)[Qcp S k+q]?=some (s.nm,c)):=Qaa (Qsg HS hc);have HW:=Qaa (aX.out s az c (ZZn hc)).1;have HZ:=Qaa (aX.out s az c (ZZn hc)).2;have bm:IntKind.i64.wrap ((q:Int)+1)=((q+1:Nat):Int):=by rw [show (q:Int)+1=((q+1:Nat):Int) by omega];exact ZZi _ ⟨by omega,by omega⟩
     have LE:Qcp S k+q<=60:=HP.out.le (by have:=(List.getElem?_eq_some_iff.1 HC).1;unfold Qcp at *; omega);have bh:IntKind.i64.wrap (((Qcp S k+q:Nat):Int)+1)=((Qcp S k+q+1:Nat):Int):=by rw [show ((Qcp S k+q:Nat):Int)+1=((Qcp S k+q+1:Nat):Int) by omega];exact ZZi _ ⟨by omega,by omega⟩
     rw [e1];clear ab hc;go_upto_region 8 with fail;clear x0 x1 x2 x3 x4 x5 x6 x7 x8 x9 a8 bg a6 bc a7;have al:Below wr.heap.size wr (wr.alloc (.cells (Qap c) 75)):=(ZZb _ _).alloc (ZZa _) _;have y0:(wr.alloc (.cells (Qap c) 75)).cell? ⟨wr.heap.size,0,none⟩=some (.int .i64 c.n):=Qat (ZZk wr (.cells (Qap c) 75)) 0 rfl;have y1:(wr.alloc (.cells (Qap c) 75)).cell? ⟨wr.heap.size,1,none⟩=some (.string c.s):=Qat (ZZk wr (.cells (Qap c) 75)) 1 rfl;have aq:=Qaa (Qac HB al);obtain ⟨D,hD,an⟩:=HM.out.past al;have HD:=Qaa hD;have ai:=Qaa an;have aF:=Qaa (HK.out.below al);have LC:Hid (Qhc ((fcS S).take (Qcp S k+q)) c.n<=20):=Qaa (HP.out.c c.n);have aP:IntKind.i64.wrap ((Qhc ((fcS S).take (Qcp S k+q)) c.n:Int)+1)=(Qhc ((fcS S).take (Qcp S k+q)) c.n:Int)+1:=ZZi _ ⟨by omega,by have:=LC.out;omega⟩;clear al HM HK HB hD an;generalize wr.alloc (.cells (Qap c) 75)=W5 at aq HD aF y0 y1 ⊢;generalize wr.heap.size=cb at y0 y1 ⊢;clear wr;have ad:=Qaa y0;have ae:=Qaa y1;clear y1;go_upto_region 10 with (first | (at_lookup;refine wpList_lookup_own_int _ rfl _ _ 136 rfl 2 3 .i64 keyI underlying136 underlying3 (Qol _) mb (Qcp S k+q) _ rfl HD _ _ rfl (keyOf_int_mk underlying2 (wfI HW.out.1 HW.out.2)) ?_;intro c1 am aK;obtain rfl:=Qse ai am;clear am aK) | (at_mapUpdate;refine wpList_mapUpdate_own _ rfl _ _ _ 136 rfl 2 3 keyI underlying136 _ mb (Qcp S k+q) _ rfl HD (by unfold maxLen;omega) _ _ _ rfl rfl (keyOf_int_mk underlying2 (wfI HW.out.1 HW.out.2)) _ [] (plainElem_int underlying3 (wfI (by omega) (by have:=LC.out;omega))) ?_;intro w6 af ac));have bi:=Qaa (QgE (win:=c.n) HC);have a3:=Qaa (MpN.grow HC HD ai af);have ar:Hid (Below w.heap.size w w6):=Qaa (aq.out.grown ac aq.out.size (fun j hj=>by cases hj;exact aV));have aw:=ck_upd HD ac;have y0:=aw _ _ ad;have y1:=aw _ _ ae;have au:=Qaa (aF.out.trans aw);clear af ac aw HD ai aF aq aP ad ae;have ad:=Qaa y0;have ae:=Qaa y1;clear y0 y1;by_cases aI:Qcp S k+q+1<=60
     ·have a0:¬ (60:Int)<(Qcp S k:Int)+(q:Int)+1:=by omega
      obtain ⟨D,hD,an⟩:=a3.out;have HD:=Qaa hD;have ai:=Qaa an;clear hD an;have y0:=ad.out;obtain ⟨c1,ba,am,aK⟩:=HD.out.lookup_int keyI underlying136 underlying3 (Qol _) (keyOf_int_mk underlying2 (wfI HW.out.1 HW.out.2));have aT:=Qaa (Qse ai am);clear am aK HD ai;by_cases aS:Qhc ((fcS S).take (Qcp S k+q+1)) c.n<=20
      ·have aW:¬ (20:Int)<c1:=by have:=aT.out;omega
       go_upto_region 12 with fail;clear y0 aW a0 ba;have aL:Hid (w6.cell? ⟨sb,0,none⟩=some (.string s.nm)):=Qaa (au.out _ _ bb);have ak:Hid (w6.cell? ⟨w.heap.size,4,none⟩=some (.int .i64 p.d)):=Qaa (au.out _ _ (ay.out _ _ ap));have be:=Qaa (Qti aZ (ay.out.trans au));by_cases bl:c.n<p.d
       ·have HF:Hid (¬ PlP (fcS S) p.d (QaX (S.map Sd.nm))):=Qaa (fun h=>by have:=(h.at HC).2.2.1;have e:(s.nm,c).2.n=c.n:=rfl;omega)
        have aa:(fun W=>Below w6.heap.size w6 W) w6.drew:=(ZZb _ _).drew;refine Qal (fun W=>Below w6.heap.size w6 W) 99 (by kernel_rfl) ?_;refine tkS 0 (.pointer (some ⟨cb,0,none⟩)) aa ?_;refine tkL 1 (.int .i64 c.n) aa (fun W hW=>?_) ?_
        ·have z:=Qab hW ad
         clear hW;go_simp
        refine tkS 2 (.pointer (some ⟨w.heap.size,4,none⟩)) aa ?_;simp only [sX];refine tkL 3 (.int .i64 p.d) aa (fun W hW=>?_) ?_
        ·have z:=Qab hW ak
         clear hW;go_simp
        refine tkS 4 (.bool true) aa ?_;refine tkS 5 (.bool true) aa ?_;simp only [sX];refine tkU 6 aa ?_;refine tkU 7 aa ?_;refine tkU 8 aa ?_;simp only [sX];refine tkU 10 aa ?_;refine tkU 11 aa ?_;simp only [sX];refine onE 9 fun K hK=>?_;refine Eq.mpr (if_neg (fun h=>Bool.noConfusion (show false=true from h))) ?_;refine gK hK aa ?_
        try simp only [sX]
        refine tkU 12 aa ?_;refine tkS 13 (.bool true) aa ?_;simp only [sX];refine dnE ?_ _;go_wp2;go_ret;exact ⟨by rw [Qfr HF.out];rfl,Qac ar aa⟩
       ·have aa:(fun W=>Below w6.heap.size w6 W) w6.drew:=(ZZb _ _).drew
        refine Qal (fun W=>Below w6.heap.size w6 W) 99 (by kernel_rfl) ?_;refine tkS 0 (.pointer (some ⟨cb,0,none⟩)) aa ?_;refine tkL 1 (.int .i64 c.n) aa (fun W hW=>?_) ?_
        ·have z:=Qab hW ad
         clear hW;go_simp
        refine tkS 2 (.pointer (some ⟨w.heap.size,4,none⟩)) aa ?_;simp only [sX];refine tkL 3 (.int .i64 p.d) aa (fun W hW=>?_) ?_
        ·have z:=Qab hW ak
         clear hW;go_simp
        refine tkS 4 (.bool false) aa ?_;refine tkS 5 (.bool false) aa ?_;simp only [sX];refine tkS 6 (.slice bo N cn) aa ?_;refine tkS 7 (.pointer (some ⟨cb,1,none⟩)) aa ?_;refine tkL 8 (.string c.s) aa (fun W hW=>?_) ?_
        ·have z:=Qab hW ae
         clear hW;go_simp
        simp only [sX];refine tkS 10 (.pointer (some ⟨sb,0,none⟩)) aa ?_;refine tkL 11 (.string s.nm) aa (fun W hW=>?_) ?_
        ·have z:=Qab hW aL
         clear hW;go_simp
        simp only [sX];refine onE 9 fun K hK=>?_;go_simp;have aG:=QkD (w:=w6.drew) (L:=S.map Sd.nm) (ao:=bo) cn c.s HZ (by rw [LM.out];exact lN) (fun u hu=>by obtain ⟨z,hz,rfl⟩:=List.mem_map.1 hu;exact SM.out.nz z hz) (Qay be (aa:Below w6.heap.size w6 w6.drew));rw [LM.out] at aG;refine aG.mono ?_;rintro e w7 ⟨o,rfl,ho,a2⟩;have a1:=Qaa ho;have aj:Hid (Below w6.heap.size w6 w7):=(aa:Below w6.heap.size w6 w6.drew).trans (a2.mono (ZZa _));clear a2 ho aG;dsimp only;refine gK hK aj.out ?_
        try simp only [sX]
        refine tkS 12 (.bool (!(o.toList == s.nm.toList))) aj ?_;refine tkS 13 (.bool (!(o.toList == s.nm.toList))) aj ?_;simp only [sX];refine dnE ?_ _;have HT:=Qaa (Qac ar aj);generalize hbx:(o.toList == s.nm.toList)=bx;by_cases ah:o=s.nm
        ·obtain rfl:bx=true:=by rw [<- hbx,ah];exact beq_self_eq_true _
         have aH:=Qaa (HP.out.step HC aI aS (by show p.d<=c.n;omega) (by show QaX _ c.s s.nm;rw [<- ah];exact a1.out));have a9:=Qaa (a3.out.past aj);have aE:=Qaa (au.out.below aj);clear ah hbx;go_wp2;go_roundw
         case rel=>exact ⟨q+1,by omega,by first | rfl | go_num,by first | rfl | go_num,aH,a9,aE,HT⟩
         case measure=>simp [zI];omega
        ·obtain rfl:bx=false:=hbx.symm.trans <| beq_eq_false_iff_ne.2 (fun e=>ah (by rw [ByteArray.toList_eq,ByteArray.toList_eq] at e;exact ByteArray.ext (Array.toList_inj.1 e)))
         have HF:Hid (¬ PlP (fcS S) p.d (QaX (S.map Sd.nm))):=Qaa (fun h=>ah (Qgh a1 (h.at HC).2.2.2));clear ah hbx;go_wp2;go_ret;exact ⟨by rw [Qfr HF.out];rfl,HT⟩
      ·have aW:(20:Int)<c1:=by have:=aT.out;omega
       have HF:Hid (¬ PlP (fcS S) p.d (QaX (S.map Sd.nm))):=Qaa (fun h=>aS (h.at HC).2.1);clear aS;go_wp2;go_ret;exact ⟨by rw [Qfr HF.out];rfl,ar⟩
     ·have a0:(60:Int)<(Qcp S k:Int)+(q:Int)+1:=by omega
      have HF:Hid (¬ PlP (fcS S) p.d (QaX (S.map Sd.nm))):=Qaa (fun h=>aI (h.at HC).1);clear aI;go_wp2;go_ret;exact ⟨by rw [Qfr HF.out];rfl,ar⟩
    ·have aR:¬ (q:Int)<(M:Int):=by omega
     obtain rfl:q=M:=by omega
     rw [<- aJ.out] at HP HM;have aE:=Qaa (ay.out.trans HK);go_wp2;go_roundw
     case rel=>exact ⟨k+1,by omega,by first | rfl | go_num,by rw [aJ.out],HP,HM,aE,HB⟩
     case measure=>simp [zI];omega
  ·have aN:¬ (k:Int)<(N:Int):=by omega
   have aO:=HP.out;rw [Qlv (by have:=HN.out;omega),List.take_length] at aO;have aH:=Qaa aO;clear aO;go_wp2;go_ret;exact ⟨by rw [Qik aH.out];rfl,HB⟩
end Go.Proofs.YtlejlgldgafljaaGreatDoor
