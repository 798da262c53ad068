/-
 Parts.
-/
import Derived.Test.YtioohanfodmddaaGreatDoorCTD
import Derived.Test.YtioohanfodmddaaGreatDoorCTA
import Derived.Test.YtioohanfodmddaaGreatDoorCCE
set_option maxHeartbeats 8000000
set_option linter.all false
namespace Go.Proofs.YtioohanfodmddaaGreatDoor
open Go.ChangeShapes Go.WideShapes Go.ChangeAt Go.RowKit Go.PlainAid Go.Lib Go.Maps Tryz
set_option maxRecDepth 10000
theorem mBu {p:Prop} (h:p:=by
 simp only [sX];refine onE 10 fun K hK=>?_;go_simp;refine gK hK aa ?_
 try simp only [sX]
 refine dnE ?_ _;go_wp2;go_ret;exact ⟨rfl,aa⟩):p:=h
theorem QuL {q d:Nat}:(⟨(Lib.decDigits q).toArray⟩:ByteArray) ++ strOfNums [48+(d:Int)]=⟨(Lib.decDigits q ++ [UInt8.ofNat (48+d)]).toArray⟩:=by
 have e:strOfNums [48+(d:Int)]=⟨#[UInt8.ofNat (48+d)]⟩:=by
  show (⟨#[((48+(d:Int)).toNat).toUInt8]⟩:ByteArray)=_
  rw [show (48+(d:Int)).toNat=48+d by omega]
 rw [e];exact mD0
theorem Quq:∀ (N:Nat) (w:World),N<=9223372036854775807->Calls prog 9 #[.int .i64 N] w fun e w'=>e=.returned (.string ⟨(Lib.decDigits N).toArray⟩)/\Bw w w':=by
 intro N
 induction N using Nat.strongRecOn with
 | ind N ih=>
 intro w hN;obtain ⟨d,hd⟩:∃ d,d=N % 10:=⟨_,rfl⟩;have ag:d<10:=oB
 have e4:IntKind.u8.wrap (48+(d:Int))=48+(d:Int):=IntWalk.u8_in _ ⟨by omega,by omega⟩;have e5:IntKind.i64.wrap (48+(d:Int))=48+(d:Int):=ZZi _ ⟨by omega,by omega⟩
 have ad:∀ (X:World) (g:Nat),X.cell? ⟨g,0,none⟩=some (.int .u8 (48+(d:Int)))->Sem.run prog (convert 22 9 (.slice (some ⟨g,0,none⟩) 1 1)) X=.ok (.string (strOfNums [48+(d:Int)])) X:=fun X g hX=>
  run_convert_bytes_arg (P:=prog) X 22 5 underlying22 underlying5 g 0 1 1 [48+(d:Int)] rfl (fun i hi=>by
      obtain rfl:i=0:=oB
      exact hX) 9 underlying9
 by_cases k:N<10
 ·have hk:(N:Int)<10:=by omega
  have af:d=N:=oB
  subst af;have kc:=ad _ _ (by rw [cell_of_row _ w.heap.size 0 _ _ (0,0) (heap_alloc_new w (.cells #[.int .u8 (48+(d:Int))] 5))];rfl)
  have HE:Hid (strOfNums [48+(d:Int)]=⟨(Lib.decDigits d).toArray⟩):=Qaa (by
   rw [Lib.decDigits_one k]
   show (⟨#[((48+(d:Int)).toNat).toUInt8]⟩:ByteArray)=_
   rw [show (48+(d:Int)).toNat=48+d by omega])
  generalize strOfNums [48+(d:Int)]=B at kc HE;clear ih ad hd;go_enter func9,ntmps9;go_wp2;go_ret;exact ⟨QdB HE,(ZZb _ _).alloc (ZZa _) _⟩
 ·have hk:¬ (N:Int)<10:=by omega
  obtain ⟨q,hq⟩:∃ q,q=N / 10:=⟨_,rfl⟩;have e1:Int.tmod (N:Int) 10=(d:Int):=by rw [hd];rfl
  have e2:Int.tdiv (N:Int) 10=(q:Int):=by rw [hq];rfl
  have e6:IntKind.i64.wrap (q:Int)=(q:Int):=ZZi _ ⟨by omega,by omega⟩;have e7:IntKind.i64.wrap (d:Int)=(d:Int):=ZZi _ ⟨by omega,by omega⟩;have HI:Hid (∀ X:World,Calls prog 9 #[.int .i64 q] X fun e w'=>e=.returned (.string ⟨(Lib.decDigits q).toArray⟩)/\Bw X w'):=Qaa (fun X=>ih q oB X oB);have HE:Hid ((⟨(Lib.decDigits q).toArray⟩:ByteArray) ++ strOfNums [48+(d:Int)]=⟨(Lib.decDigits N).toArray⟩):=Qaa (by rw [QuL,Qdl k,<- hd,<- hq]);have hz:(strOfNums [48+(d:Int)]).size=1:=rfl;have HZ:Hid ((Lib.decDigits q).length<=21):=Qaa (Ql4 q oB);have HW:Hid (Bw w w.drew):=Qaa (ZZb _ _).drew;generalize strOfNums [48+(d:Int)]=B at ad HE hz;have hA:(⟨(Lib.decDigits q).toArray⟩:ByteArray).size<=9223372036854775806:=by show (Lib.decDigits q).length<=_;have:=HZ.out;omega
  generalize (⟨(Lib.decDigits q).toArray⟩:ByteArray)=A at HI HE hA;clear ih hd hq;go_enter func9,ntmps9;go_wp2_with fail;refine Qal (fun W=>Bw w W) 99 oG ?_;have ab:Bw w w.drew:=HW.out;generalize w.drew=w0 at ab ⊢;refine tkS 0 (.int .i64 N) ab ?_;refine tkS 1 (.int .i64 q) ab ?_;refine tkS 3 (.int .i64 N) ab ?_;simp only [sX];refine tkS 4 (.int .i64 d) ab ?_;refine tkS 5 (.int .i64 (48+(d:Int))) ab ?_;refine tkS 6 (.int .u8 (48+(d:Int))) ab ?_;simp only [sX];refine Qoj (i:=2) (j:=7) oG rfl rfl (fun K hK=>?_) (fun K hK=>?_)
  ·go_simp
   refine (HI.out _).mono ?_;rintro e w1 ⟨rfl,hb⟩;have ac:=Qac ab hb
   try dsimp only
   refine gK hK ac ?_
   try simp only [sX]
   refine onE 7 fun K hK=>?_;go_simp;have aa:Bw w (w1.alloc (.cells #[.int .u8 (48+(d:Int))] 5)):=ac.alloc ac.size _;have kc:=ad _ _ (by rw [cell_of_row _ w1.heap.size 0 _ _ (0,0) (heap_alloc_new w1 (.cells #[.int .u8 (48+(d:Int))] 5))];rfl)
   try dsimp only
   refine gK hK aa ?_
   try simp only [sX]
   refine onE 8 fun K hK=>?_;go_simp
   try dsimp only
   refine gK hK aa ?_
   try simp only [sX]
   refine tkL 9 (.string ⟨(Lib.decDigits N).toArray⟩) aa (fun W hW=>?_) ?_
   ·have he:=HE.out
    exact mAo
   exact mBu
  ·go_simp
   have ac:Bw w (w0.alloc (.cells #[.int .u8 (48+(d:Int))] 5)):=ab.alloc ab.size _;have ae:(w0.alloc (.cells #[.int .u8 (48+(d:Int))] 5)).cell? ⟨w0.heap.size,0,none⟩=some (.int .u8 (48+(d:Int))):=by rw [cell_of_row _ w0.heap.size 0 _ _ (0,0) (heap_alloc_new w0 (.cells #[.int .u8 (48+(d:Int))] 5))];rfl
   try dsimp only
   refine gK hK ac ?_
   try simp only [sX]
   generalize w0.alloc _=X at ac ae ⊢;generalize w0.heap.size=g at ae ⊢;refine Qoj (i:=2) (j:=8) oG rfl rfl (fun K hK=>?_) (fun K hK=>?_)
   ·go_simp
    refine (HI.out _).mono ?_;rintro e w1 ⟨rfl,hb⟩;have aa:=Qac ac hb;have kc:=ad _ _ (Qab hb ae)
    try dsimp only
    refine gK hK aa ?_
    try simp only [sX]
    refine onE 8 fun K hK=>?_;go_simp
    try dsimp only
    refine gK hK aa ?_
    try simp only [sX]
    refine tkL 9 (.string ⟨(Lib.decDigits N).toArray⟩) aa (fun W hW=>?_) ?_
    ·have he:=HE.out
     exact mAo
    exact mBu
   ·have kc:=ad _ _ ae
    go_simp
    try dsimp only
    refine gK hK ac ?_
    try simp only [sX]
    refine onE 2 fun K hK=>?_;go_simp;refine (HI.out _).mono ?_;rintro e w1 ⟨rfl,hb⟩;have aa:=Qac ac hb
    try dsimp only
    refine gK hK aa ?_
    try simp only [sX]
    refine tkL 9 (.string ⟨(Lib.decDigits N).toArray⟩) aa (fun W hW=>?_) ?_
    ·have he:=HE.out
     exact mAo
    exact mBu
variable {w w':World}
theorem box4 {r:Nat} {a b c d:Value} {T:TypeId} (h:w.heap[r]?=some (.cells #[a,b,c,d] T (0,0))):w.cell? ⟨r,0,none⟩=some a/\w.cell? ⟨r,1,none⟩=some b/\w.cell? ⟨r,2,none⟩=some c/\w.cell? ⟨r,3,none⟩=some d:=⟨Qay h 0 rfl,Qay h 1 rfl,Qay h 2 rfl,Qay h 3 rfl⟩
def QhD (p:Pi):Array Value:=#[.int .i64 p.a,.int .i64 p.b,.int .i64 p.c,.int .i64 p.d]
theorem Ql2 (p:Pi) (n:Int) (h1:1<=p.a) (h2:p.a<=1000) (h0:0<=n) (h9:n<=1000000000) (w:World):Calls prog 73 #[.agg (QhD p),.int .i64 n] w fun e w'=>e=.returned (.int .i64 (Int.tdiv n p.a))/\Bw w w':=by
 unfold QhD;have hz:(p.a == 0)=false:=by simp;omega
 have t0:0<=Int.tdiv n p.a:=Int.tdiv_nonneg h0 oB;have t1:Int.tdiv n p.a<=n:=Int.tdiv_le_self _ h0;have hw:IntKind.i64.wrap (Int.tdiv n p.a)=Int.tdiv n p.a:=ZZi _ ⟨by omega,by omega⟩;go_enter func73,ntmps73;go_wp2;go_ret;exact mDo
theorem Qsa (p:Pi) (n:Nat) (w:World):Calls prog 71 #[.agg (QhD p),.agg (QoA n)] w fun e w'=>e=.returned (.agg (QoA n))/\Bw w w':=by
 unfold QhD QoA;generalize QbM Qb2 []=se;have a1:∀ (X:World) o,Bw X (X.alloc o):=fun X o=>bAA;have HB:Hid (∀ o1 o2 o3,Bw w (((w.alloc o1).alloc o2).alloc o3)):=Qaa (fun o1 o2 o3=>Qac (Qac (a1 _ o1) (a1 _ o2)) (a1 _ o3));clear a1;go_enter func71,ntmps71;go_wp2;exact bodyPost_ret (v:=.agg #[.int .i64 1,.string se,.int .i64 1000000,.string ⟨#[]⟩,.int .u64 1,.bool true,.int .i64 n]) (by simp [results,results71,go_sem]) rfl ⟨rfl,HB.out _ _ _⟩
theorem QkX (p:Pi) (n:Int) (h1:1<=p.a) (h2:p.a<=1000) (h0:0<=n) (h9:n<=1000000000) (hl:Int.tdiv n p.a<p.d) (w:World):Calls prog 72 #[.agg (QhD p),.int .i64 n] w fun e w'=>e=.returned (.int .i64 11)/\Bw w w':=by
 have HW:Hid (∀ X:World,Calls prog 73 #[.agg (QhD p),.int .i64 n] X fun e w'=>e=.returned (.int .i64 (Int.tdiv n p.a))/\Bw X w'):=Qaa (Ql2 p n h1 h2 h0 h9);unfold QhD at HW ⊢;generalize Int.tdiv n p.a=q at hl HW;have hA:Bw w (w.alloc (.cells #[.int .i64 p.a,.int .i64 p.b,.int .i64 p.c,.int .i64 p.d] 59)):=bAA;have hR:=ZZk w (.cells #[.int .i64 p.a,.int .i64 p.b,.int .i64 p.c,.int .i64 p.d] 59);have HA:=Qaa hA;have HR:=Qaa hR;clear h1 h2 h0 h9 hA hR;go_enter func72,ntmps72;go_upto_region 1 with fail;generalize w.alloc _=W at HA HR ⊢;obtain ⟨bx,ab⟩:∃ b,w.heap.size=b:=⟨_,rfl⟩;rw [ab] at HR;have HX:=Qaa ab;simp only [ab];clear ab;have aa:Bw W W.drew:=(ZZb _ _).drew;refine Qal (fun X=>Bw W X) 99 oG ?_;refine tkL 0 (.agg #[.int .i64 p.a,.int .i64 p.b,.int .i64 p.c,.int .i64 p.d]) aa (fun W hW=>?_) ?_
 ·obtain ⟨x0,x1,x2,x3⟩:=box4 (Qag HR hW)
  exact mAo
 refine tkS 1 (.int .i64 n) aa ?_;refine tkS 3 (.pointer (some ⟨bx,3,none⟩)) aa ?_;simp only [sX];refine tkL 4 (.int .i64 p.d) aa (fun W hW=>?_) ?_
 ·obtain ⟨x0,x1,x2,x3⟩:=box4 (Qag HR hW)
  exact mAo
 simp only [sX];refine onE 2 fun K hK=>?_;go_simp;refine (HW.out _).mono ?_;rintro e w4 ⟨rfl,ad⟩;have ac:=Qac aa ad;clear ad;dsimp only;refine gK hK ac ?_
 try simp only [sX]
 refine tkS 5 (.bool true) ac ?_;simp only [sX];refine dnE ?_ _;have HF:=Qaa (Qac HA ac);go_wp2;go_ret;exact ⟨rfl,HF⟩
variable {N c f m n:Nat}
theorem Qrh {mb:Nat} (p:Pi) (h1:1<=p.a) (h2:p.a<=1000) (h9:n<=1000000000) (hl:Int.tdiv (n:Int) p.a<p.d) (w:World):Calls prog 40 #[.agg (Qbw p mb),.agg (QoA n)] w fun e w'=>e=.returned (.int .i64 11)/\Bw w w':=by
 have HS:Hid (∀ X:World,Calls prog 71 #[.agg (QhD p),.agg (QoA n)] X fun e w'=>e=.returned (.agg (QoA n))/\Bw X w'):=Qaa (Qsa p n);have HF:Hid (∀ X:World,Calls prog 72 #[.agg (QhD p),.int .i64 n] X fun e w'=>e=.returned (.int .i64 11)/\Bw X w'):=Qaa (QkX p n h1 h2 oB oB hl);unfold QhD QoA at *;generalize QbM Qb2 []=se at *;have a1:∀ (X:World) o,Bw X (X.alloc o):=fun X o=>bAA;have k0:=ZZk w (.cells (Qbw p mb) 62);have k1:=ZZk (w.alloc (.cells (Qbw p mb) 62)) (.cells #[.int .i64 1,.string se,.int .i64 1000000,.string ⟨#[]⟩,.int .u64 1,.bool true,.int .i64 n] 85);simp only [World.size_alloc] at k1;have ag:=Qaa (Qag k0 (a1 _ (.cells #[.int .i64 1,.string se,.int .i64 1000000,.string ⟨#[]⟩,.int .u64 1,.bool true,.int .i64 n] 85)));have ae:=Qaa k1;have ah:=Qaa (Qac (a1 w (.cells (Qbw p mb) 62)) (a1 _ (.cells #[.int .i64 1,.string se,.int .i64 1000000,.string ⟨#[]⟩,.int .u64 1,.bool true,.int .i64 n] 85)));clear a1 k0 k1 h1 h2 h9 hl;go_enter func40,ntmps40;go_upto_region 1 with fail;generalize (w.alloc _).alloc _=W0 at ag ae ah ⊢;obtain ⟨x0,x1,x2,x3,x4⟩:=Qbf ag;obtain ⟨y0,y1,y2,y3,y4,y5,y6⟩:=QfF ae;go_wp2_with fail;clear x0 x1 x2 x3 x4 y0 y1 y2 y3 y4 y5 y6;refine (HS.out _).mono ?_;rintro e w1 ⟨rfl,af⟩;have R1:=Qag ae af;have ad:=Qaa (Qag ag af);have ab:=Qaa R1;have ai:=Qaa (Qac ah af);obtain ⟨y0,y1,y2,y3,y4,y5,y6⟩:=QfF R1;obtain ⟨f0,f1,f2,f3,f4,f5,f6⟩:=Qi3 R1;clear af ag ae ah R1;go_upto_region 2 with fail;have aj:Hid (Bw w (((((((w1.setCell ⟨w.heap.size+1,0,none⟩ (.int .i64 1)).setCell ⟨w.heap.size+1,1,none⟩ (.string se)).setCell ⟨w.heap.size+1,2,none⟩ (.int .i64 1000000)).setCell ⟨w.heap.size+1,3,none⟩ (.string ⟨#[]⟩)).setCell ⟨w.heap.size+1,4,none⟩ (.int .u64 1)).setCell ⟨w.heap.size+1,5,none⟩ (.bool true)).setCell ⟨w.heap.size+1,6,none⟩ (.int .i64 n))):=Qaa (bel7 ai (Nat.le_succ _) _ _ _ _ _ _ _);have ac:=Qaa (row7 (.int .i64 1) (.string se) (.int .i64 1000000) (.string ⟨#[]⟩) (.int .u64 1) (.bool true) (.int .i64 n) ab);have aa:=Qaa ((QjO w1 (w.heap.size+1) (.int .i64 1) (.string se) (.int .i64 1000000) (.string ⟨#[]⟩) (.int .u64 1) (.bool true) (.int .i64 n)).row ad oB);clear y0 y1 y2 y3 y4 y5 y6 f0 f1 f2 f3 f4 f5 f6 ad ab ai;generalize World.setCell _ _ _=W2 at aj ac aa ⊢;obtain ⟨x0,x1,x2,x3,x4⟩:=Qbf aa;obtain ⟨y0,y1,y2,y3,y4,y5,y6⟩:=QfF ac;go_wp2_with fail;refine (HF.out _).mono ?_;rintro e w3 ⟨rfl,ak⟩;have al:=Qaa (Qac aj ak);clear ak x0 x1 x2 x3 x4 y0 y1 y2 y3 y4 y5 y6;go_wp2;go_ret;exact ⟨rfl,al⟩
variable {M S:List Sd}
theorem QhL {ao:Option Addr} {ca:Nat} {t:ByteArray} (p:Pi) (hm:MX w) (hg:LnG w) (hI:PpI w ao N S) (hp:Qbq S p=true) (ht:LinT t n) (hl:Int.tdiv (n:Int) p.a<p.d) :
  Calls prog 11 #[.agg (Qae (.slice ao N ca) p),.string t] w fun e w'=>e=.returned (.agg (Qax (.slice none 0 0) q0 (.slice none 0 0) 11))/\Bw w w':=by
 have hz:t.size<=20000:=by
  have:=QdW 9 n (oA ht.2);rw [<- Qam,ht.1,List.length_append];simp;omega
 have az:Hid (∀ w,Calls prog 37 #[.string t] w fun e w'=>e=.returned (.bool true)/\w'=w):=Qaa (fun w=>by
  exact mEg)
 obtain ⟨a1,a2,b1,b2,c1,c2,d1,d2⟩:=Qci hp;have am:Hid (1<=p.a/\p.a<=1000/\n<=1000000000/\Int.tdiv (n:Int) p.a<p.d):=Qaa ⟨a1,a2,ht.2,hl⟩;have HI:=Qaa hI;have HM:=Qaa hm;have HG:=Qaa hg;have HT:=Qaa ht;have HP:=Qaa hp;have HQ:=Qaa (hI.qs hp);have al:∀ (X:World) o,Bw X (X.alloc o):=fun X o=>bAA;have k0:=ZZk w (.cells (Qae (.slice ao N ca) p) 25);have k1:=ZZk (w.alloc (.cells (Qae (.slice ao N ca) p) 25)) (.cells (Qax (.slice none 0 0) q0 (.slice none 0 0) 0) 29);simp only [World.size_alloc] at k1;have ap:=Qaa (Qag k0 (al _ (.cells (Qax (.slice none 0 0) q0 (.slice none 0 0) 0) 29)));have ar:=Qaa k1;have ae:=Qaa (Qac (al w (.cells (Qae (.slice ao N ca) p) 25)) (al _ (.cells (Qax (.slice none 0 0) q0 (.slice none 0 0) 0) 29)));clear hI hm hg ht hp hl hz al k0 k1 a1 a2 b1 b2 c1 c2 d1 d2;go_enter func11,ntmps11;go_upto_region 1 with fail;generalize (w.alloc _).alloc _=W0 at ap ar ae ⊢;obtain ⟨x0,x1,x2,x3,x4⟩:=Qbf ap;go_wp2_with (go_at_call 37;refine (az.out _).mono ?_;rintro e w1 ⟨rfl,hw⟩;obtain rfl:=hw.symm);clear x0 x1 x2 x3 x4;refine (QcS p HI.n HI.sm (fun s hs c hc=>⟨(HI.ok s hs c hc).1,(HI.ok s hs c hc).2.1⟩) (HM.past ae) (QaM HI.at' ae)).mono ?_;rintro e w1 ⟨rfl,an⟩;rw [HP.out];have ag:=Qaa (Qag ap an);have af:=Qaa (Qag ar an);have aq:=Qaa (Qac ae an);clear an ap ar ae;go_wp2_with fail;refine (Qui HT (HG.past aq) (HM.past aq)).mono ?_;unfold outT;rintro e w2 ⟨rfl,aj⟩;have a2:Bw w2 (w2.alloc (.cells #[.int .i64 1,.string (QbM Qb2 []),.int .i64 1000000,.string ⟨#[]⟩,.int .u64 1,.bool true,.int .i64 n,.int .i64 0] 87)):=bAA;have ab:=Qaa (Qag (Qag ag aj) a2);have ac:=Qaa (Qag (Qag af aj) a2);have ah:=Qaa (ZZk w2 (.cells #[.int .i64 1,.string (QbM Qb2 []),.int .i64 1000000,.string ⟨#[]⟩,.int .u64 1,.bool true,.int .i64 n,.int .i64 0] 87));have ak:=Qaa (Qac (Qac aq aj) a2);clear aj a2 ag af aq;go_upto_region 6 with fail;generalize w2.alloc _=W2 at ab ac ah ak ⊢;generalize w2.heap.size=bs at ah ⊢;obtain ⟨x0,x1,x2,x3,x4⟩:=Qbf ab;obtain ⟨y0,y1,y2,y3,y4,y5,y6,y7⟩:=QbR ah;go_wp2_with fail;clear x0 x1 x2 x3 x4 y0 y1 y2 y3 y4 y5 y6 y7;refine (Qjw p HI.n xD HI.sm.l HI.sm.sm (fun s hs c hc=>(HI.ok s hs c hc).2.2) (fun s hs=>by have:=HI.sm.nz s hs;unfold maxLen;omega) (Qpg (QaP HP).1) (QaM HI.at' ak)).mono ?_;rintro e w3 ⟨mb,rfl,Bm,M,hl⟩;have a3:Bw w3 (w3.alloc (.cells (Qbw p mb) 62)):=bAA;have ad:=Qaa (Qag (Qag ac hl.b) a3);have aa:=Qaa (Qag (Qag ah hl.b) a3);have HY:=Qaa (ZZk w3 (.cells (Qbw p mb) 62));have av:=Qaa (Qac (Qac ak hl.b) a3);clear hl a3 ab ac ah ak;go_upto_region 9 with fail;generalize w3.alloc _=W3 at ad aa HY av ⊢;generalize w3.heap.size=bl at HY ⊢;have ai:Bw W3 W3.drew:=(ZZb _ _).drew;refine Qal (fun X=>Bw W3 X) 6 oG ?_;refine tkL 0 (.agg (Qbw p mb)) ai (fun W hW=>?_) ?_
 ·obtain ⟨x0,x1,x2,x3,x4⟩:=Qbf (Qag HY hW)
  obtain ⟨y0,y1,y2,y3,y4,y5,y6,y7⟩:=QbR (Qag aa hW);exact mAo
 refine tkL 1 (.agg (Qbw p mb)) ai (fun W hW=>?_) ?_
 ·obtain ⟨x0,x1,x2,x3,x4⟩:=Qbf (Qag HY hW)
  obtain ⟨y0,y1,y2,y3,y4,y5,y6,y7⟩:=QbR (Qag aa hW);exact mAo
 refine tkS 2 (.pointer (some ⟨bs,0,none⟩)) ai ?_;simp only [sX];refine tkL 3 (.agg (QoA n)) ai (fun W hW=>?_) ?_
 ·obtain ⟨x0,x1,x2,x3,x4⟩:=Qbf (Qag HY hW)
  obtain ⟨y0,y1,y2,y3,y4,y5,y6,y7⟩:=QbR (Qag aa hW);unfold QoA;exact mAo
 simp only [sX];refine onE 4 fun K hK=>?_;go_simp;refine (Qrh (mb:=mb) p am.1 am.2.1 am.2.2.1 am.2.2.2 _).mono ?_;rintro e w5 ⟨rfl,aw⟩;have ay:Bw W3 w5:=Qac ai aw;clear aw;dsimp only;refine gK hK ay ?_
 try simp only [sX]
 refine onE 5 fun K hK=>?_;go_simp;refine (QpN (mb:=mb) p 11 oF).mono ?_;rintro e w6 ⟨rfl,ax⟩;have au:Bw W3 w6:=Qac ay ax;clear ax;dsimp only;refine gK hK au ?_
 try simp only [sX]
 have R1:=Qag ad au;obtain ⟨y0,y1,y2,y3,y4,y5,y6⟩:=QcH R1;obtain ⟨f0,f1,f2,f3,f4,f5,f6⟩:=fA7 R1;have HZ:=Qaa (bel7 (Qac av au) (Nat.le_succ _) (.slice none 0 0) (.int .i64 0) (.int .i64 0) (.int .i64 0) (.int .i64 0) (.slice none 0 0) (.int .i64 11));clear R1;refine onE 6 fun K hK=>?_;go_simp;refine hK.out _ _ (fun h=>absurd rfl h) ?_
 try simp only [sX]
 refine dnE ?_ _;go_wp2;refine bodyPost_ret (v:=.agg (Qax (.slice none 0 0) q0 (.slice none 0 0) 11)) (by simp [results,results11,go_sem,y0,y1,y2,y3,y4,y5,y6]) rfl ?_;exact ⟨rfl,HZ⟩
theorem lin_ex (h:N<=1000000000):∃ t:ByteArray,(⟨#[104,105,116,115,58,49,124,99,124,84]⟩:ByteArray) ++ ⟨(Lib.decDigits N).toArray⟩=t/\LinT t N:=
 ⟨_,rfl,by unfold toL;rw [ByteArray.data_append];simp,h⟩
structure C2I (w:World) (d:Option Addr) (m f:Nat) (C:List Ce):Prop where
 n:C.length=m
 r:QbG w d C
 ok:∀ c∈C,AgOk c.g/\AgSm c.g/\c.s.size<=maxLen
 pl:∀ c∈C,PlG c.g c.p
 l:m<=60
variable {d:Option Addr}
variable {C R:List Ce}
theorem C2I.sh (h:C2I w d m f C) (hb:Bw w w'):ShI w' d m C:=⟨h.n,by have:=h.l;omega,fun c hc=>(h.ok c hc).1,fun c hc=>(h.ok c hc).2.1,fun c hc=>(h.ok c hc).2.2,h.pl,QaL h.r hb⟩
variable {p q:Pi}
theorem ClR.c2 {cd:Int} {lo hi:Nat} {a:Option Addr} (g:GdK 1 (S.map Sd.key)) (h:ClR S p q (M.map Sd.key) (C.map Ce.key) cd) (hB:PoB w lo hi (.slice a n c) M (.slice d m f) C):C2I w d m f C/\(cd≠0->m=0):=by
 have hn:C.length=m:=Qb8 hB.c.r;by_cases e:cd=0
 ·subst e
  have hc:=h.cl g;refine ⟨⟨hn,hB.c.at,hc.cs,fun c hx=>(hB.c.o.o c hx).plgX,?_⟩,fun k=>absurd rfl k⟩;have:=(csR_iff.1 hc.ri).1;omega
 ·have h0:C=[]:=by
   unfold ClR at h
   split at h
   ·exact List.map_eq_nil_iff.1 h.2.2.2
   ·split at h
    ·exact List.map_eq_nil_iff.1 h.2.2.2
    ·exact absurd h.1 e
  subst h0;exact ⟨⟨hn,hB.c.at,(fun c hx=>by cases hx),(fun c hx=>by cases hx),by rw [<- hn];exact Nat.zero_le _⟩,fun _=>hn.symm⟩
theorem PcA.shI {g:Option Addr} (h:PcA w w' S p (.slice g R.length c) R) (ok:∀ c∈R,AgOk c.g/\AgSm c.g/\c.s.size<=maxLen) (l:R.length<=1048576):ShI w' g R.length R:=⟨rfl,l,fun c hc=>(ok c hc).1,fun c hc=>(ok c hc).2.1,fun c hc=>(ok c hc).2.2,fun c hc=>(h.o.o c hc).plgX,h.r.at h.o.at⟩
variable {v:Value}
theorem ClG.len (h:ClG S M p q C) (hR:PcA w w' M q v R):C.length+R.length<=60:=by
 obtain ⟨_,p1⟩:=hR.y h.ok;have h1:=p1.length_eq;have h2:=h.pm.length_eq;rw [List.length_append] at h2;simp only [yA] at h1 h2;have:=h.l;omega
theorem smK {A B:List Ce} (h:∀ c∈B,AgSm c.g) (e:A.map Ce.key=B.map Ce.key):∀ c∈A,AgSm c.g:=fun c hc=>by
 obtain ⟨d,hd,_,_,e3⟩:=Qi4 e hc;rw [<- e3];exact h d hd
theorem ClG.sm9 (h:ClG S M p q C) (g:GdK 1 (S.map Sd.key)) (hR:PcA w w' S p v R):∀ c∈R,AgSm c.g:=fun c hc=>by
 obtain ⟨_,p1⟩:=hR.y h.r;obtain ⟨d,hd,e⟩:=Qhj p1 hc;obtain ⟨s,hs,hds⟩:=Qbt hd;rw [<- (QnG e).2.2];exact ((g.sh hs).2.2 d hds).2.1
theorem tim_in {a d b c:Int} (h1:1<=a) (h2:a<=1000) (h3:0<=d) (h4:d<=1000000000) (hb:0<=b) (hc:c<=1000000000) (ht:¬ c<(d+1)*a+b) (u:Nat) (hu:(u:Int)<a):∃ N:Nat,d*a+u=N/\N<=1000000000/\Int.tdiv (N:Int) a<d+1/\IntKind.i64.wrap ((N:Nat):Int)=N:=by
 have e:(d+1)*a=d*a+a:=by rw [Int.add_mul,Int.one_mul]
 have z:0<=d*a:=Int.mul_nonneg h3 oB;refine ⟨(d*a+u).toNat,(Int.toNat_of_nonneg oB).symm,by omega,?_,ZZi _ ⟨by omega,by omega⟩⟩;rw [Int.toNat_of_nonneg oB,Int.tdiv_eq_ediv_of_nonneg oB];refine Int.ediv_lt_of_lt_mul oB ?_;omega
theorem fd11 (w:World):(Instr.field 29 (.agg (Qax (.slice none 0 0) q0 (.slice none 0 0) 11)) 2).run prog w=.ok (.int .i64 11) w:=oG
theorem Qqq (ao:Option Addr) (ln cap:Nat) (bo:Option Addr) (lm cbp:Nat) (w:World) (hl:ln<=maxLen) (ha:ln<=1048576->Qbi w w.heap.size ao ln) (hm:lm<=maxLen) (hb:lm<=1048576->Qbi w w.heap.size bo lm) (hx:MX w) (hg:LnG w) :
  Calls prog 3 #[.slice ao ln cap,.slice bo lm cbp] w fun e w'=>e=.returned (.bool true)/\Bw w w':=by
 have ck:ln<=9223372036854775807:=hl;have cy:lm<=9223372036854775807:=hm;by_cases cu:1048576<ln
 ·have br:(1048576:Int)<(ln:Int):=by omega
  clear ha hb;go_enter func3,ntmps3;go_wp2;go_ret;exact ⟨rfl,ZZb _ _⟩
 have br:¬ (1048576:Int)<(ln:Int):=oB
 by_cases cx:1048576<lm
 ·have bf:(1048576:Int)<(lm:Int):=by omega
  clear ha hb;go_enter func3,ntmps3;go_wp2;go_ret;exact ⟨rfl,ZZb _ _⟩
 have bf:¬ (1048576:Int)<(lm:Int):=oB
 have bU:=Qaa (ha oB);have bY:=Qaa (hb oB);have bx:=Qaa hx;have b9:=Qaa hg;clear ha hb hx hg;go_enter func3,ntmps3;go_wp2_with fail;refine (Qg0 bU).mono ?_;rintro e w1 ⟨ax,n,cp,p,M,rfl,r1,o1,gd,pc,bK⟩;have be:Bw w1 (w1.alloc (.cells (Qae (.slice ax n cp) p) 25)):=bAA;have a8:=Qaa ((GdK.pp (k:=1) oB gd r1 o1).past be);have a6:=Qaa gd;have bt:=Qaa (Qac bK be);have ag:=Qaa (ZZk w1 (.cells (Qae (.slice ax n cp) p) 25));clear gd pc r1 o1 bK be;go_upto_region 4 with fail;generalize w1.alloc _=W1 at a8 bt ag ⊢;generalize w1.heap.size=bP at ag ⊢;obtain ⟨y0,y1,y2,y3,y4⟩:=Qbf ag;go_wp2_with fail;clear y0 y1 y2 y3 y4;refine (Qiy p (bx.past bt) a8).mono ?_;rintro e w2 ⟨a2,n2,c2,q,M2,d2,m2,f2,C2,cd,rfl,hR,hB,bB⟩;have a0:Bw w2 (w2.alloc (.cells (Qax (.slice a2 n2 c2) q (.slice d2 m2 f2) cd) 29)):=bAA;have HJ:=Qaa hR;have af:=Qaa (Qac bB a0);have ar:=Qaa (ClR.c2 a6 hR (hB.past a0));have bd:Hid (GdK 1 (M2.map Sd.key)->PpI (w2.alloc (.cells (Qax (.slice a2 n2 c2) q (.slice d2 m2 f2) cd) 29)) a2 n2 M2):=Qaa (fun g=>(GdK.pp (k:=1) oB g hB.p.r hB.p.o).past a0);have a9:=Qaa (Qag ag af);have ba:=Qaa (ZZk w2 (.cells (Qax (.slice a2 n2 c2) q (.slice d2 m2 f2) cd) 29));clear hR hB bB a0 ag;go_upto_region 5 with fail;generalize w2.alloc _=W2 at af ar bd a9 ba ⊢;generalize w2.heap.size=bX at ba ⊢;obtain ⟨y0,y1,y2,y3,y4⟩:=Qbf a9;go_wp2_with fail;clear y0 y1 y2 y3 y4;refine (QeI p (a8.past af)).mono ?_;rintro e w3 ⟨a3,n3,c3,q3,M3,d3,m3,f3,C3,ch,rfl,hR,hB,bN⟩;obtain ⟨e1,e2,e3,e4⟩:=HJ.same hR;subst e1;subst e4;have bw:Bw w3 (w3.alloc (.cells (Qax (.slice a3 n3 c3) q (.slice d3 m3 f3) cd) 29)):=bAA;have ac:=Qaa (Qac bN bw);have au:=Qaa (ClR.c2 a6 hR (hB.past bw)).1;have bG:=Qaa e3;have aw:=Qaa (Qag a9 ac);have an:=Qaa (Qag ba ac);have a7:=Qaa (ZZk w3 (.cells (Qax (.slice a3 n3 c3) q (.slice d3 m3 f3) cd) 29));clear hR hB bN bw e2 e3 a9 ba;go_upto_region 6 with fail;generalize w3.alloc _=W3 at ac au aw an a7 ⊢;generalize w3.heap.size=bW at a7 ⊢;have b6:(cd == cd)=true:=oE
 obtain ⟨x0,x1,x2,x3,x4,x5,x6⟩:=QcH an;obtain ⟨z0,z1,z2,z3,z4,z5,z6⟩:=QcH a7;go_wp2_with fail;clear x0 x1 x2 x3 x4 x5 x6 z0 z1 z2 z3 z4 z5 z6;refine (QeF ar.1.n au.n (oA ar.1.l) (oA au.l) (fun c hc=>(ar.1.ok c hc).2.1) (fun c hc=>(au.ok c hc).2.1) (QaL ar.1.r ac) au.r).mono ?_;rintro e w4 ⟨rfl,a5⟩;rw [Qnn bG.out (by have:=au.n;have:=au.l;omega)];have aM:=Qaa (Qag aw a5);have ak:=Qaa (Qag an a5);have al:=Qaa (Qac ac a5);have bn:=Qaa (Qac bt (Qac af al));clear a5 aw an a7 au bG b6 ac;by_cases bu:cd=0
 ·subst bu
  have hG:=HJ.cl a6;obtain ⟨a1,a2,b1,b2,c1,bF,d1,bA⟩:=Qci hG.r;have m0:0<=(p.d+1)*p.a:=Int.mul_nonneg oB oB;have m1:(p.d+1)*p.a<=1000000001*1000:=Int.mul_le_mul oB a2 oB oB;have b4:0<=p.d*p.a:=Int.mul_nonneg oB oB;have m3:p.d*p.a<=1000000000*1000:=Int.mul_le_mul oB a2 oB oB;have bZ:IntKind.i64.wrap (p.d+1)=p.d+1:=ZZi _ ⟨by omega,by omega⟩;have b7:IntKind.i64.wrap ((p.d+1)*p.a)=(p.d+1)*p.a:=ZZi _ ⟨by omega,by omega⟩;have b5:IntKind.i64.wrap ((p.d+1)*p.a+p.b)=(p.d+1)*p.a+p.b:=ZZi _ ⟨by omega,by omega⟩;have cc:IntKind.i64.wrap (p.d*p.a)=p.d*p.a:=ZZi _ ⟨by omega,by omega⟩;have bM:(p.d+1 != p.d+1)=false:=oE
  have bC:¬ p.c<(p.d+1)*p.a+p.b:=hG.t;have aT:Hid (1<=p.a/\p.a<=1000):=Qaa ⟨a1,a2⟩;have b8:Hid (∀ u:Nat,(u:Int)<p.a->∃ N:Nat,p.d*p.a+u=N/\N<=1000000000/\Int.tdiv (N:Int) p.a<p.d+1/\IntKind.i64.wrap ((N:Nat):Int)=N):=Qaa (fun u hu=>tim_in a1 a2 d1 bA b1 bF bC u hu);have bQ:=hG.qe;subst bQ;have HG:=Qaa hG;have aN:=Qaa (bd.out hG.g);have aK:=Qaa ar.1;clear hG a1 a2 b1 b2 c1 bF d1 bA m0 m1 b4 m3 bd ar HJ;obtain ⟨x0,x1,x2,x3,x4,x5,x6⟩:=QcH ak;obtain ⟨y0,y1,y2,y3,y4⟩:=Qbf aM;go_wp2_with fail;clear x0 x1 x2 x3 x4 x5 x6 y0 y1 y2 y3 y4;refine (Qbr ⟨p.a,p.b,p.c,p.d+1⟩ aN.n aN.sm aN.ok (QaM aN.at' al)).mono ?_;rintro e w5 ⟨rfl,aX⟩;rw [HG.ok];have aH:=Qaa (Qag aM aX);have aL:=Qaa (Qag ak aX);have aE:=Qaa (Qac al aX);have bD:=Qaa (Qac bn aX);clear aX aM ak al bn;obtain ⟨x0,x1,x2,x3,x4,x5,x6⟩:=QcH aL;obtain ⟨y0,y1,y2,y3,y4⟩:=Qbf aH;go_wp2;clear x0 x1 x2 x3 x4 x5 x6 y0 y1 y2 y3 y4 bM bC bZ b7 b5
  go_loopw [8] (fun i wr=>∃ k:Nat,k<=m2/\i=.int .i64 k/\Hid (Bw w5 wr)) (fun i wr=>m2 - (Go.RowKit.intOf i).toNat)
  case atStart=>exact ⟨0,ZZj _,rfl,Qaa (ZZb _ _)⟩
  case round=>
   obtain ⟨k,hk,rfl,HB⟩:=hrel;have ad:=Qaa (Qag aL HB);have ai:=Qaa (Qag aH HB);by_cases cg:k<m2
   ·have bi:(k:Int)<(m2:Int):=by omega
    have cs:(0:Int)<=(k:Int):=oB
    have cz:IntKind.i64.wrap ((k:Int)+1)=((k+1:Nat):Int):=by rw [show (k:Int)+1=((k+1:Nat):Int) by omega];exact ZZi _ ⟨by have:=aK.l;omega,by have:=aK.l;omega⟩
    have bM:(p.d != p.d)=false:=oE
    obtain ⟨b,bb,e,aq⟩:=aK.r.1 (oA aK.n);subst e;obtain ⟨c,hc⟩:∃ c,C2[k]?=some c:=⟨C2[k]'(oA aK.n),ZZe _⟩
    have bq:Hid (∀ W,Bw wr W->W.cell? ⟨b,bb+k*15,none⟩=some (.int .i64 p.d)):=Qaa (fun W hW=>by
     have h0:=(Qaq (aq k c hc) (Qac aE (Qac HB hW))).1;rw [HG.w c (List.mem_of_getElem? hc)] at h0;exact h0)
    clear aq hc;obtain ⟨x0,x1,x2,x3,x4,x5,x6⟩:=QcH ad;go_upto_region 15 with fail;clear x0 x1 x2 x3 x4 x5 x6;have aa:Bw wr wr.drew:=(ZZb _ _).drew;refine Qal (fun W=>Bw wr W) 99 oG ?_;refine tkS 0 (.pointer (some ⟨bX,5,none⟩)) aa ?_;refine tkL 1 (.slice (some ⟨b,bb,none⟩) m2 f2) aa (fun W hW=>?_) ?_
    ·have u0:=bq.out W hW
     obtain ⟨x0,x1,x2,x3,x4,x5,x6⟩:=QcH (Qag ad hW);obtain ⟨y0,y1,y2,y3,y4⟩:=Qbf (Qag ai hW);exact mAo
    refine tkS 2 (.int .i64 k) aa ?_;simp only [sX];refine tkS 3 (.pointer (some ⟨b,bb+k*15,none⟩)) aa ?_;refine tkS 4 (.pointer (some ⟨b,bb+k*15,none⟩)) aa ?_;refine tkL 5 (.int .i64 p.d) aa (fun W hW=>?_) ?_
    ·have u0:=bq.out W hW
     obtain ⟨x0,x1,x2,x3,x4,x5,x6⟩:=QcH (Qag ad hW);obtain ⟨y0,y1,y2,y3,y4⟩:=Qbf (Qag ai hW);exact mAo
    simp only [sX];refine tkS 6 (.pointer (some ⟨bP,4,none⟩)) aa ?_;refine tkL 7 (.int .i64 p.d) aa (fun W hW=>?_) ?_
    ·have u0:=bq.out W hW
     obtain ⟨x0,x1,x2,x3,x4,x5,x6⟩:=QcH (Qag ad hW);obtain ⟨y0,y1,y2,y3,y4⟩:=Qbf (Qag ai hW);exact mAo
    refine tkS 8 (.bool false) aa ?_;simp only [sX];refine dnE ?_ _;go_wp2;go_roundw
    case rel=>exact ⟨k+1,by omega,by first | rfl | go_num,Qaa (Qac HB aa)⟩
    case measure=>simp [zI];omega
   ·have bi:¬ (k:Int)<(m2:Int):=by omega
    have ah:=ai;have aA:=ad;have aS:=Qaa (Qac aE HB);have bk:=Qaa (Qac bD HB);clear HB ai ad aH aL aE bD;obtain ⟨W6,b3⟩:∃ X,X=wr:=⟨_,rfl⟩;subst b3;obtain ⟨x0,x1,x2,x3,x4,x5,x6⟩:=QcH aA;go_upto_region 17 with fail;clear x0 x1 x2 x3 x4 x5 x6;have aa:Bw W6 W6.drew:=(ZZb _ _).drew;refine Qal (fun W=>Bw W6 W) 99 oG ?_;refine tkS 0 (.pointer (some ⟨bP,4,none⟩)) aa ?_;refine tkL 1 (.int .i64 p.d) aa (fun W hW=>?_) ?_
    ·obtain ⟨y0,y1,y2,y3,y4⟩:=Qbf (Qag ah hW)
     exact mAo
    refine tkS 2 (.pointer (some ⟨bP,1,none⟩)) aa ?_;simp only [sX];refine tkL 3 (.int .i64 p.a) aa (fun W hW=>?_) ?_
    ·obtain ⟨y0,y1,y2,y3,y4⟩:=Qbf (Qag ah hW)
     exact mAo
    refine tkS 4 (.int .i64 (p.d*p.a)) aa ?_;refine tkS 5 (.slice bo lm cbp) aa ?_;simp only [sX];refine tkS 6 (.pointer (some ⟨bP,1,none⟩)) aa ?_;refine tkL 7 (.int .i64 p.a) aa (fun W hW=>?_) ?_
    ·obtain ⟨y0,y1,y2,y3,y4⟩:=Qbf (Qag ah hW)
     exact mAo
    simp only [sX];refine onE 8 fun K hK=>?_;go_simp;refine (QuM bo lm cbp p.a aT.1 (oA aT.2) _ _ bY (Qac bk aa)).mono ?_;rintro e w7 ⟨u,rfl,hu,hw⟩;obtain rfl:=hw.symm;obtain ⟨N,hN,bm,bJ,ca⟩:=b8.out u hu;obtain ⟨t,ht,bE⟩:=lin_ex bm;have bR:10+(Lib.decDigits N).length<=9223372036854775807:=by have:=QdW 9 N oB;omega
    have HN:=Qaa (And.intro bm (And.intro bJ bE));clear hw hu bm bJ bE;dsimp only;refine gK hK aa ?_
    try simp only [sX]
    refine tkS 9 (.int .i64 N) aa ?_;simp only [sX];refine onE 10 fun K hK=>?_;go_simp;refine (Quq N _ (oA HN.1)).mono ?_;rintro e w8 ⟨rfl,bz⟩;have ap:Bw W6 w8:=Qac aa bz;clear bz;dsimp only;refine gK hK ap ?_
    try simp only [sX]
    refine tkS 11 (.string t) ap ?_;simp only [sX];refine onE 12 fun K hK=>?_;go_simp;refine gK hK ap ?_
    try simp only [sX]
    refine dnE ?_ _;have aY:=Qaa (Qag ah ap);have aF:=Qaa (Qag aA ap);have aD:=Qaa (Qac aS ap);have a4:=Qaa (Qac bk ap);clear hN ca ht bR ap aa ah aA aS bk cc;obtain ⟨x0,x1,x2,x3,x4,x5,x6⟩:=QcH aF;go_wp2_with fail;clear x0 x1 x2 x3 x4 x5 x6;refine (QhL ⟨p.a,p.b,p.c,p.d+1⟩ (bx.past a4) (b9.past a4) (aN.past aD) HG.ok HN.2.2 HN.2.1).mono ?_;rintro e w9 ⟨rfl,aW⟩;have av:=Qaa (Qag aY aW);have ay:=Qaa (Qag aF aW);have aI:=Qaa (Qac aD aW);have bH:=Qaa (Qac a4 aW);have bv:=Qaa (Qac af aI);clear aW aY aF aD a4;have g0:=fd11 w9;go_upto_region 19 with fail;clear g0;obtain ⟨W9,bS⟩:∃ X,X=w9:=⟨_,rfl⟩;subst bS;have aa:Bw W9 W9.drew:=(ZZb _ _).drew;refine Qal (fun W=>Bw W9 W) 99 oG ?_;refine tkS 0 (.pointer (some ⟨bX,5,none⟩)) aa ?_;refine tkL 1 (.slice d2 m2 f2) aa (fun W hW=>?_) ?_
    ·obtain ⟨x0,x1,x2,x3,x4,x5,x6⟩:=QcH (Qag ay hW)
     obtain ⟨y0,y1,y2,y3,y4⟩:=Qbf (Qag av hW);exact mAo
    refine tkS 2 (.pointer (some ⟨bX,0,none⟩)) aa ?_;simp only [sX];refine tkL 3 (.agg (Qae (.slice a2 n2 c2) ⟨p.a,p.b,p.c,p.d+1⟩)) aa (fun W hW=>?_) ?_
    ·obtain ⟨x0,x1,x2,x3,x4,x5,x6⟩:=QcH (Qag ay hW)
     obtain ⟨y0,y1,y2,y3,y4⟩:=Qbf (Qag av hW);exact mAo
    refine tkL 6 (.agg (Qae (.slice ax n cp) p)) aa (fun W hW=>?_) ?_
    ·obtain ⟨x0,x1,x2,x3,x4,x5,x6⟩:=QcH (Qag ay hW)
     obtain ⟨y0,y1,y2,y3,y4⟩:=Qbf (Qag av hW);exact mAo
    simp only [sX];refine onE 4 fun K hK=>?_;go_simp;refine (Qiv ⟨p.a,p.b,p.c,p.d+1⟩ ((bx.past bH).past aa) ((aN.past aI).past aa)).mono ?_;rintro e bV ⟨ci,rfl,cn,aj⟩;obtain ⟨cw,cC,rfl,_⟩:=aj.r.form;have am:=Qaa aj;have az:Bw W9 bV:=Qac aa aj.b;clear aj;dsimp only;refine gK hK az ?_
    try simp only [sX]
    refine onE 5 fun K hK=>?_;go_simp;obtain ⟨bI,bO,bL⟩:=HG.dj am;have bl:=HG.len am;rw [aK.n] at bl;refine (QgX (aK.sh (Qac aI az)) (am.shI bL oB) HG.ri bO bI bl).mono ?_;rintro e cf ⟨ct,cr,cA,rfl,aQ,aP,aV,aO,aR⟩;have bg:=Qaa aQ;have bj:=Qaa aP;have bs:=Qaa aV;have bh:=Qaa aO;have aJ:Bw W9 cf:=Qac az aR;clear bI bO bL bl aQ aP aV aO aR;dsimp only;refine gK hK aJ ?_
    try simp only [sX]
    refine onE 7 fun K hK=>?_;go_simp;refine (QiP p ((a8.past bv).past aJ)).mono ?_;rintro e cb ⟨cq,rfl,cv,ae⟩;obtain ⟨cj,co,rfl,_⟩:=ae.r.form;have aB:=Qaa (HG.all am ae bg);have aC:=Qaa ae;have bc:=Qaa ae.b;have aZ:Bw W9 cb:=Qac aJ ae.b;clear ae;dsimp only;refine gK hK aZ ?_
    try simp only [sX]
    refine onE 8 fun K hK=>?_;go_simp;have bp:=aB.2;have aG:=HG.sm9 a6 aC;refine (QeF rfl rfl (oA bh.out) oB (smK aG aB.1) aG (QaL (bj.at bs.at) bc) (aC.r.at aC.o.at)).mono ?_;rintro e b0 ⟨rfl,aU⟩;rw [Qnn aB.1 oB];have ab:Bw W9 b0:=Qac aZ aU;clear aU bp aG;dsimp only;refine gK hK ab ?_
    try simp only [sX]
    refine tkS 9 (.bool true) ab ?_;refine tkS 10 (.int .i64 11) ab ?_;refine tkS 11 (.bool true) ab ?_;simp only [sX];refine tkS 12 (.bool true) ab ?_;simp only [sX];refine onE 13 fun K hK=>?_;go_simp;refine gK hK ab ?_
    try simp only [sX]
    refine dnE ?_ _;have bT:=Qaa (Qac bH ab);go_wp2;go_ret;exact ⟨rfl,bT⟩
 ·have cm:(cd == 0)=false:=by simp [bu]
  have ce:m2=0:=ar.2 bu;subst ce;obtain ⟨x0,x1,x2,x3,x4,x5,x6⟩:=QcH ak;go_wp2;go_ret;exact ⟨rfl,bn⟩
end Go.Proofs.YtioohanfodmddaaGreatDoor
