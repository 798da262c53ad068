/-
 Parts.
-/
import Derived.Test.YtdbaabbmcfnjbaaGreatDoorDEU
set_option maxHeartbeats 4000000
set_option linter.all false
namespace Go.Proofs.YtdbaabbmcfnjbaaGreatDoor
open Go.ChangeShapes Go.WideShapes Go.ChangeAt Go.RowKit Go.PlainAid Go.Lib Go.Maps Tryz
set_option maxRecDepth 10000
def LnA (B b:Nat) (w:World) (e:Ending) (w':World):Prop:=TxA 800000 e/\w.grownBy w' (some b)/\DkS B w' b
theorem TxA.le {m n:Nat} {e:Ending} (h:TxA m e) (hl:m<=n):TxA n e:=by
 obtain ⟨u,h1,h2⟩:=h;exact ⟨u,h1,by omega⟩
theorem MbR.cd {S:List Sd} {p q:Pi} {mm:ByteArray} {c7 cd:Int} {b7 b8:Bool} {K:List ByteArray} {KM:List (ByteArray×List (Int×ByteArray×Ag))} (h:MbR S p mm c7 b7 b8 K q KM cd) (h7:0<=c7/\c7<=100):0<=cd/\cd<=9223372036854775807:=by
 unfold MbR at h
 split at h
 ·have:=h.1
  unfold mfC at this
  split at this
  ·omega
  ·split at this <;> omega
 ·split at h
  ·have:=h.1;omega
  ·split at h
   ·have:=h.1;omega
   ·have:=h.1;omega
variable {B b:Nat}
variable {w:World}
variable {nm:Int}
variable {wh:ByteArray}
theorem QqU (hD:DkS B w b) (hw:wh.size<=20000) (hn:0<=nm/\nm<=999999999999) :
  Calls prog 12 #[.pointer (some ⟨b,0,none⟩),.agg #[.string ⟨#[106,111,105,110]⟩,.int .i64 nm,.string wh]] w fun e w'=>LnA B b w e w':=by
 obtain ⟨ax,n,cp,p,M,pa,pn,pc,P,d,t,hR⟩:=hD;have a0:Below w.heap.size w (w.alloc (.cells #[.string ⟨#[106,111,105,110]⟩,.int .i64 nm,.string wh] 44)):=(ZZb _ _).alloc (ZZa _) _;have ag:=Qaa a0;have KL:=Qaa (ZZk w (.cells #[.string ⟨#[106,111,105,110]⟩,.int .i64 nm,.string wh] 44));have HD:=Qaa (hR.past a0);have af:Hid (b<w.heap.size):=hR.lt;have HW:=Qaa hw;have an:=Qaa hn;clear a0 hR hw hn;go_enter func12,ntmps12;go_upto_region 8 with fail;generalize w.alloc (.cells #[.string ⟨#[106,111,105,110]⟩,.int .i64 nm,.string wh] 44)=W0 at ag KL HD ⊢;have aa:Hid (W0.drew.heap[w.heap.size]?=some (.cells #[.string ⟨#[106,111,105,110]⟩,.int .i64 nm,.string wh] 44 (0,0))):=Qae KL (ZZb _ _).drew;have ac:=Qaa (HD.out.past (ZZb _ _).drew);have ab:Hid (Below w.heap.size w W0.drew):=Qac ag (ZZb _ _).drew;refine Qao (fun W=>W.heap[w.heap.size]?=some (.cells #[.string ⟨#[106,111,105,110]⟩,.int .i64 nm,.string wh] 44 (0,0))) 99 (by kernel_rfl) ?_;generalize W0.drew=X0 at aa ac ab ⊢;clear ag KL HD;refine tkL 0 (.pointer (some (⟨b,0,none⟩:Addr))) aa (fun W hW=>?_) ?_
 ·clear aa
  clear hW;go_simp
 refine tkL 1 (.pointer (some (⟨b,0,none⟩:Addr))) aa (fun W hW=>?_) ?_
 ·clear aa
  clear hW;go_simp
 refine tkL 2 (.pointer (some (⟨b,0,none⟩:Addr))) aa (fun W hW=>?_) ?_
 ·clear aa
  clear hW;go_simp
 simp only [sX];refine tkL 3 (.pointer (some (⟨b,0,none⟩:Addr))) aa (fun W hW=>?_) ?_
 ·clear aa
  clear hW;go_simp
 refine tkL 5 (.pointer (some (⟨w.heap.size,2,none⟩:Addr))) aa (fun W hW=>?_) ?_
 ·clear aa
  clear hW;go_simp
 refine tkL 6 (.string wh) aa (fun W hW=>?_) ?_
 ·have q2:=Qai hW 2 rfl
  clear hW;go_simp
 simp only [sX];obtain ⟨⟨y0,y1,y2,y3⟩,y4,y5,y6,y7⟩:=Qmm ac.out.row;refine onE 4 fun K hK=>?_;go_simp;clear y0 y1 y2 y3 y4 y5 y6 y7
 try dsimp only
 refine gK hK aa.out ?_
 try simp only [sX]
 refine onE 7 fun K hK=>?_;go_simp;refine (Qil p wh (by have:=HW.out;unfold maxLen;omega) ac.out.pp).mono ?_;rintro e w1 ⟨a',k',c',q',M',cd,rfl,hM,r',o',hb⟩;have HM:=Qaa hM;have al:=Qaa r';have ak:=Qaa o';have HC:=Qaa (hM.cd (by omega));have ae:=Qaa (ac.out.past hb);have aj:Hid (Below w.heap.size w w1):=Qac ab hb;have ad:=Qaa (Qae aa hb);have am:Hid (b<X0.heap.size):=by have:=af.out;have:=ab.out.size;exact Nat.lt_of_lt_of_le af ab.out.size
 clear hM r' o' hb
 try dsimp only
 refine gK hK ad.out ?_
 try simp only [sX]
 refine onE 8 fun K hK=>?_;go_simp;refine (Qi7 ae.out.row (by decide) HC.out.1 HC.out.2).mono ?_;rintro e w2 hT;have ai:=Qaa hT.2.1;have ah:Hid (w2.heap[w.heap.size]?=some (.cells #[.string ⟨#[106,111,105,110]⟩,.int .i64 nm,.string wh] 44 (0,0))):=(ai.out.block _ (ZZc.1 ad).1 (fun e=>by injection e with e;have:=af.out;omega)).trans ad;have HE:Hid (DkS B w2 b):=ae.out.told hT al ak am (fun h0=>by have hM:=HM.out;rw [h0] at hM;have:=JnR.shr (KC:=[]) ae.out.gd.weak1 ⟨hM,rfl⟩;exact ⟨GdK.zero this.2.2.1.g this.2.2.1.r,by rw [<- this.1];exact this.2.2.1.r⟩);obtain ⟨u,rfl,hu⟩:=hT.1;have HU:=Qaa hu;clear hT hu
 try dsimp only
 refine gK hK ah.out ?_
 try simp only [sX]
 refine onE 9 fun K hK=>?_;go_simp
 try dsimp only
 refine gK hK ah.out ?_
 try simp only [sX]
 refine dnE ?_ _;go_wp2;go_ret;exact ⟨TxA.le ⟨_,rfl,HU⟩ (by omega),(grB aj _).trans ai,HE⟩
theorem QpE (hD:DkS B w b) (hw:wh.size<=20000) (hn:0<=nm/\nm<=999999999999) :
  Calls prog 12 #[.pointer (some ⟨b,0,none⟩),.agg #[.string ⟨#[108,101,97,118,101]⟩,.int .i64 nm,.string wh]] w fun e w'=>LnA B b w e w':=by
 obtain ⟨ax,n,cp,p,M,pa,pn,pc,P,d,t,hR⟩:=hD;have a0:Below w.heap.size w (w.alloc (.cells #[.string ⟨#[108,101,97,118,101]⟩,.int .i64 nm,.string wh] 44)):=(ZZb _ _).alloc (ZZa _) _;have ag:=Qaa a0;have KL:=Qaa (ZZk w (.cells #[.string ⟨#[108,101,97,118,101]⟩,.int .i64 nm,.string wh] 44));have HD:=Qaa (hR.past a0);have af:Hid (b<w.heap.size):=hR.lt;have HW:=Qaa hw;have an:=Qaa hn;clear a0 hR hw hn;go_enter func12,ntmps12;go_upto_region 10 with fail;generalize w.alloc (.cells #[.string ⟨#[108,101,97,118,101]⟩,.int .i64 nm,.string wh] 44)=W0 at ag KL HD ⊢;have aa:Hid (W0.drew.heap[w.heap.size]?=some (.cells #[.string ⟨#[108,101,97,118,101]⟩,.int .i64 nm,.string wh] 44 (0,0))):=Qae KL (ZZb _ _).drew;have ac:=Qaa (HD.out.past (ZZb _ _).drew);have ab:Hid (Below w.heap.size w W0.drew):=Qac ag (ZZb _ _).drew;refine Qao (fun W=>W.heap[w.heap.size]?=some (.cells #[.string ⟨#[108,101,97,118,101]⟩,.int .i64 nm,.string wh] 44 (0,0))) 99 (by kernel_rfl) ?_;generalize W0.drew=X0 at aa ac ab ⊢;clear ag KL HD;refine tkL 0 (.pointer (some (⟨b,0,none⟩:Addr))) aa (fun W hW=>?_) ?_
 ·clear aa
  clear hW;go_simp
 refine tkL 1 (.pointer (some (⟨b,0,none⟩:Addr))) aa (fun W hW=>?_) ?_
 ·clear aa
  clear hW;go_simp
 refine tkL 2 (.pointer (some (⟨b,0,none⟩:Addr))) aa (fun W hW=>?_) ?_
 ·clear aa
  clear hW;go_simp
 simp only [sX];refine tkL 3 (.pointer (some (⟨b,0,none⟩:Addr))) aa (fun W hW=>?_) ?_
 ·clear aa
  clear hW;go_simp
 refine tkL 5 (.pointer (some (⟨w.heap.size,2,none⟩:Addr))) aa (fun W hW=>?_) ?_
 ·clear aa
  clear hW;go_simp
 refine tkL 6 (.string wh) aa (fun W hW=>?_) ?_
 ·have q2:=Qai hW 2 rfl
  clear hW;go_simp
 simp only [sX];obtain ⟨⟨y0,y1,y2,y3⟩,y4,y5,y6,y7⟩:=Qmm ac.out.row;refine onE 4 fun K hK=>?_;go_simp;clear y0 y1 y2 y3 y4 y5 y6 y7
 try dsimp only
 refine gK hK aa.out ?_
 try simp only [sX]
 refine onE 7 fun K hK=>?_;go_simp;refine (QhP p wh (by have:=HW.out;unfold maxLen;omega) ac.out.pp).mono ?_;rintro e w1 ⟨a',k',c',q',M',cd,rfl,hM,r',o',hb⟩;have HM:=Qaa hM;have al:=Qaa r';have ak:=Qaa o';have HC:=Qaa (hM.cd (by omega));have ae:=Qaa (ac.out.past hb);have aj:Hid (Below w.heap.size w w1):=Qac ab hb;have ad:=Qaa (Qae aa hb);have am:Hid (b<X0.heap.size):=by have:=af.out;have:=ab.out.size;exact Nat.lt_of_lt_of_le af ab.out.size
 clear hM r' o' hb
 try dsimp only
 refine gK hK ad.out ?_
 try simp only [sX]
 refine onE 8 fun K hK=>?_;go_simp;refine (Qi7 ae.out.row (by decide) HC.out.1 HC.out.2).mono ?_;rintro e w2 hT;have ai:=Qaa hT.2.1;have ah:Hid (w2.heap[w.heap.size]?=some (.cells #[.string ⟨#[108,101,97,118,101]⟩,.int .i64 nm,.string wh] 44 (0,0))):=(ai.out.block _ (ZZc.1 ad).1 (fun e=>by injection e with e;have:=af.out;omega)).trans ad;have HE:Hid (DkS B w2 b):=ae.out.told hT al ak am (fun h0=>by have hM:=HM.out;rw [h0] at hM;have:=LeR.shr (KC:=[]) ae.out.gd.weak1 ⟨hM,rfl⟩;exact ⟨GdK.zero this.2.2.1.g this.2.2.1.r,by rw [<- this.1];exact this.2.2.1.r⟩);obtain ⟨u,rfl,hu⟩:=hT.1;have HU:=Qaa hu;clear hT hu
 try dsimp only
 refine gK hK ah.out ?_
 try simp only [sX]
 refine onE 9 fun K hK=>?_;go_simp
 try dsimp only
 refine gK hK ah.out ?_
 try simp only [sX]
 refine dnE ?_ _;go_wp2;go_ret;exact ⟨TxA.le ⟨_,rfl,HU⟩ (by omega),(grB aj _).trans ai,HE⟩
theorem QqK (hD:DkS B w b) (hw:wh.size<=20000) (hn:0<=nm/\nm<=999999999999) :
  Calls prog 12 #[.pointer (some ⟨b,0,none⟩),.agg #[.string ⟨#[116,105,99,107]⟩,.int .i64 nm,.string wh]] w fun e w'=>LnA B b w e w':=by
 obtain ⟨ax,n,cp,p,M,pa,pn,pc,P,d,t,hR⟩:=hD;have a0:Below w.heap.size w (w.alloc (.cells #[.string ⟨#[116,105,99,107]⟩,.int .i64 nm,.string wh] 44)):=(ZZb _ _).alloc (ZZa _) _;have ai:=Qaa a0;have KL:=Qaa (ZZk w (.cells #[.string ⟨#[116,105,99,107]⟩,.int .i64 nm,.string wh] 44));have HD:=Qaa (hR.past a0);have al:Hid (b<w.heap.size):=hR.lt;have HW:=Qaa hw;have aq:=Qaa hn;clear a0 hR hw hn;go_enter func12,ntmps12;go_upto_region 12 with fail;generalize w.alloc (.cells #[.string ⟨#[116,105,99,107]⟩,.int .i64 nm,.string wh] 44)=W0 at ai KL HD ⊢;have aa:Hid (W0.drew.heap[w.heap.size]?=some (.cells #[.string ⟨#[116,105,99,107]⟩,.int .i64 nm,.string wh] 44 (0,0))):=Qae KL (ZZb _ _).drew;have ab:=Qaa (HD.out.past (ZZb _ _).drew);have ag:Hid (Below w.heap.size w W0.drew):=Qac ai (ZZb _ _).drew;refine Qao (fun W=>W.heap[w.heap.size]?=some (.cells #[.string ⟨#[116,105,99,107]⟩,.int .i64 nm,.string wh] 44 (0,0))) 99 (by kernel_rfl) ?_;generalize W0.drew=X0 at aa ab ag ⊢;clear ai KL HD;refine tkL 0 (.pointer (some (⟨b,0,none⟩:Addr))) aa (fun W hW=>?_) ?_
 ·clear aa
  clear hW;go_simp
 refine tkL 1 (.pointer (some (⟨b,0,none⟩:Addr))) aa (fun W hW=>?_) ?_
 ·clear aa
  clear hW;go_simp
 refine tkL 2 (.pointer (some (⟨b,0,none⟩:Addr))) aa (fun W hW=>?_) ?_
 ·clear aa
  clear hW;go_simp
 simp only [sX];refine tkL 3 (.pointer (some (⟨b,0,none⟩:Addr))) aa (fun W hW=>?_) ?_
 ·clear aa
  clear hW;go_simp
 refine tkL 5 (.pointer (some (⟨w.heap.size,1,none⟩:Addr))) aa (fun W hW=>?_) ?_
 ·clear aa
  clear hW;go_simp
 refine tkL 6 (.int .i64 nm) aa (fun W hW=>?_) ?_
 ·have q1:=Qai hW 1 rfl
  clear hW;go_simp
 simp only [sX];obtain ⟨⟨y0,y1,y2,y3⟩,y4,y5,y6,y7⟩:=Qmm ab.out.row;refine onE 4 fun K hK=>?_;go_simp;clear y0 y1 y2 y3 y4 y5 y6 y7
 try dsimp only
 refine gK hK aa.out ?_
 try simp only [sX]
 refine onE 7 fun K hK=>?_;go_simp;refine (Qjx p nm ab.out.pp).mono ?_;rintro e w1 ⟨v,M',rfl,hc⟩;obtain ⟨a',k',rfl⟩:=Qag hc.r;have HM:=Qaa (ab.out.tick (k:=nm) hc.ky);have ao:=Qaa hc.r;have an:=Qaa hc.o;have af:=Qaa (ab.out.past hc.b);have am:Hid (Below w.heap.size w w1):=Qac ag hc.b;have ac:=Qaa (Qae aa hc.b);have ap:Hid (b<X0.heap.size):=Nat.lt_of_lt_of_le al ag.out.size;generalize QgD M p nm=q at HM ⊢;clear hc
 try dsimp only
 refine gK hK ac.out ?_
 try simp only [sX]
 refine tkL 8 (.pointer (some (⟨b,0,none⟩:Addr))) ac (fun W hW=>?_) ?_
 ·clear aa
  clear hW;go_simp
 refine tkL 9 (.pointer (some (⟨b,0,none⟩:Addr))) ac (fun W hW=>?_) ?_
 ·clear aa
  clear hW;go_simp
 simp only [sX];obtain ⟨⟨y0,y1,y2,y3⟩,y4,y5,y6,y7⟩:=Qmm af.out.row;obtain ⟨f0,f1,f2,f3,f4⟩:=fA5 af.out.row;have ae:=Qaa (af.out.pipe (Qj9 w1 b (.slice a' M'.length k') (.int .i64 q.a) (.int .i64 q.b) (.int .i64 q.c) (.int .i64 q.d)) (row8P af.out.row (.slice a' M'.length k') (.int .i64 q.a) (.int .i64 q.b) (.int .i64 q.c) (.int .i64 q.d)) ao an ap HM.out.1 HM.out.2);have ah:=Qaa (Qj9 w1 b (.slice a' M'.length k') (.int .i64 q.a) (.int .i64 q.b) (.int .i64 q.c) (.int .i64 q.d));have aj:Hid ((((((w1.setCell ⟨b,0,none⟩ (.slice a' M'.length k')).setCell ⟨b,1,none⟩ (.int .i64 q.a)).setCell ⟨b,2,none⟩ (.int .i64 q.b)).setCell ⟨b,3,none⟩ (.int .i64 q.c)).setCell ⟨b,4,none⟩ (.int .i64 q.d)).heap[w.heap.size]?=some (.cells #[.string ⟨#[116,105,99,107]⟩,.int .i64 nm,.string wh] 44 (0,0))):=(ah.out.block _ (ZZc.1 ac).1 (fun e=>by injection e with e;have:=al.out;omega)).trans ac;refine onE 10 fun K hK=>?_;go_simp;clear y0 y1 y2 y3 y4 y5 y6 y7 f0 f1 f2 f3 f4
 try dsimp only
 refine gK hK aj.out ?_
 try simp only [sX]
 refine dnE ?_ _;generalize ((((w1.setCell ⟨b,0,none⟩ (.slice a' M'.length k')).setCell ⟨b,1,none⟩ (.int .i64 q.a)).setCell ⟨b,2,none⟩ (.int .i64 q.b)).setCell ⟨b,3,none⟩ (.int .i64 q.c)).setCell ⟨b,4,none⟩ (.int .i64 q.d)=w2 at ae ah aj ⊢;obtain ⟨⟨y0,y1,y2,y3⟩,y4,y5,y6,y7⟩:=Qmm ae.out.row;obtain ⟨_,_,_,_,c1,c2,_,_⟩:=Qcj ae.out.ok;have HC:=Qaa (QfE c1 (by omega:q.c<=9223372036854775807));clear c1 c2;go_wp2_with fail;refine (HC.out _).mono ?_;rintro e w3 ⟨⟨u,rfl,hu⟩,hb⟩;have ak:=Qaa hb;have HU:Hid (((⟨#[116,105,99,107,32]⟩:ByteArray) ++ u).size<=200):=by rw [ByteArray.size_append];show 5+u.size<=_;omega
 have ad:Op.stringOp .add ⟨#[116,105,99,107,32]⟩ u=pure (.string ((⟨#[116,105,99,107,32]⟩:ByteArray) ++ u)):=Qaf (by show 5+u.size<=_;omega);clear hb hu y0 y1 y2 y3 y4 y5 y6 y7;go_wp2;go_ret;exact ⟨TxA.le ⟨_,rfl,HU⟩ (by omega),((grB am _).trans ah).trans (grB ak _),(ae.out.past ak).s⟩
theorem QnG (hD:DkS B w b) (hw:wh.size<=20000) (hn:0<=nm/\nm<=999999999999) :
  Calls prog 12 #[.pointer (some ⟨b,0,none⟩),.agg #[.string ⟨#[119,104,101,114,101]⟩,.int .i64 nm,.string wh]] w fun e w'=>LnA B b w e w':=by
 obtain ⟨ax,n,cp,p,M,pa,pn,pc,P,d,t,hR⟩:=hD;have a0:Below w.heap.size w (w.alloc (.cells #[.string ⟨#[119,104,101,114,101]⟩,.int .i64 nm,.string wh] 44)):=(ZZb _ _).alloc (ZZa _) _;have ag:=Qaa a0;have KL:=Qaa (ZZk w (.cells #[.string ⟨#[119,104,101,114,101]⟩,.int .i64 nm,.string wh] 44));have HD:=Qaa (hR.past a0);have au:Hid (b<w.heap.size):=hR.lt;have HW:=Qaa hw;have ar:=Qaa hn;clear a0 hR hw hn;go_enter func12,ntmps12;go_upto_region 23 with fail;generalize w.alloc (.cells #[.string ⟨#[119,104,101,114,101]⟩,.int .i64 nm,.string wh] 44)=W0 at ag KL HD ⊢;have ab:Hid (Qaj (M.map Sd.nm)=true):=by have h:=(QaE HD.out.ok).1;unfold QeB at h;exact (Bool.and_eq_true_iff.1 h).1
 have aa:Hid (W0.drew.heap[w.heap.size]?=some (.cells #[.string ⟨#[119,104,101,114,101]⟩,.int .i64 nm,.string wh] 44 (0,0))):=Qae KL (ZZb _ _).drew;have ac:=Qaa (HD.out.past (ZZb _ _).drew);have ah:Hid (Below w.heap.size w W0.drew):=Qac ag (ZZb _ _).drew;refine Qao (fun W=>W.heap[w.heap.size]?=some (.cells #[.string ⟨#[119,104,101,114,101]⟩,.int .i64 nm,.string wh] 44 (0,0))) 99 (by kernel_rfl) ?_;generalize W0.drew=X0 at aa ac ah ⊢;clear ag KL HD;refine tkL 0 (.pointer (some (⟨b,0,none⟩:Addr))) aa (fun W hW=>?_) ?_
 ·clear aa
  clear hW;go_simp
 refine tkL 1 (.pointer (some (⟨b,0,none⟩:Addr))) aa (fun W hW=>?_) ?_
 ·clear aa
  clear hW;go_simp
 refine tkL 2 (.pointer (some (⟨b,0,none⟩:Addr))) aa (fun W hW=>?_) ?_
 ·clear aa
  clear hW;go_simp
 simp only [sX];refine tkL 5 (.pointer (some (⟨w.heap.size,2,none⟩:Addr))) aa (fun W hW=>?_) ?_
 ·clear aa
  clear hW;go_simp
 refine tkL 6 (.string wh) aa (fun W hW=>?_) ?_
 ·have q2:=Qai hW 2 rfl
  clear hW;go_simp
 simp only [sX];obtain ⟨⟨y0,y1,y2,y3⟩,y4,y5,y6,y7⟩:=Qmm ac.out.row;refine onE 3 fun K hK=>?_;go_simp;clear y0 y1 y2 y3 y4 y5 y6 y7
 try dsimp only
 refine gK hK aa.out ?_
 try simp only [sX]
 refine onE 4 fun K hK=>?_;go_simp;have ae:=ac.out.pp;refine (QbR p ae.n (by have:=Qbp ab;rw [List.length_map] at this;have:=ae.n;omega) ae.at').mono ?_;rintro e w1 ⟨bo,c,rfl,hT,hb⟩
 have al:Hid (∀ w2,Below w1.heap.size w1 w2->Calls prog 31 #[.slice bo n c,.string wh] w2 fun e w'=>∃ s,e=.returned (.string s)/\s.size<=40/\Below w2.heap.size w2 w'):=by
  intro w2 aj;have h:=Qef (hT.past aj);have h2:=Qcq (w:=w2) (ao:=bo) c wh (by have:=HW.out;omega) ab h.2.2.2.1;rw [h.2.2.2.2] at h2;refine h2.mono (fun e w' hx=>?_);obtain ⟨s,h3,h4,h5⟩:=hx;have hn:=Qcc ab (Qnv ab (by have:=HW.out;omega) h4);unfold QaK at hn;simp only [Bool.and_eq_true,decide_eq_true_eq] at hn;exact ⟨s,h3,hn.1.1.2,h5⟩
 have aq:=Qaa (ac.out.past hb);have ak:Hid (Below w.heap.size w w1):=Qac ah hb;have ai:=Qaa (Qae aa hb);clear hT hb ae
 try dsimp only
 refine gK hK ai.out ?_
 try simp only [sX]
 refine onE 7 fun K hK=>?_;go_simp;refine (al.out _ (ZZb _ _)).mono ?_;rintro e w2 ⟨u,rfl,hu,hb⟩;have HU:Hid (((⟨#[119,104,101,114,101,32]⟩:ByteArray) ++ u).size<=200):=by rw [ByteArray.size_append];show 6+u.size<=_;omega
 have am:Hid (Op.stringOp .add ⟨#[119,104,101,114,101,32]⟩ u=pure (.string ((⟨#[119,104,101,114,101,32]⟩:ByteArray) ++ u))):=Qaf (by show 6+u.size<=_;omega);have an:=Qaa (aq.out.past hb);have ap:Hid (Below w.heap.size w w2):=Qac ak hb;have af:=Qaa (Qae ai hb);clear hb hu
 try dsimp only
 refine gK hK af.out ?_
 try simp only [sX]
 refine tkL 8 (.string ((⟨#[119,104,101,114,101,32]⟩:ByteArray) ++ u)) af (fun W hW=>?_) ?_
 ·have ad:=am.out
  clear hW;go_simp
 simp only [sX];refine onE 9 fun K hK=>?_;go_simp
 try dsimp only
 refine gK hK af.out ?_
 try simp only [sX]
 refine dnE ?_ _;go_wp2;go_ret;exact ⟨TxA.le ⟨_,rfl,HU⟩ (by omega),grB ap _,an.out.s⟩
theorem Quh (E R:List Int) (hE:E.length<=1048576):0<=QjT E R/\QjT E R<=9223372036854775807:=by
 unfold QjT
 split
 ·split
  ·omega
  ·have h1:1<=max (Int.tdiv (cS R) 32768) 1:=by omega
   generalize max (Int.tdiv (cS R) 32768) 1=m at h1;have h2:0<=Int.tdiv 3193052135805681664 m:=Int.tdiv_nonneg (by omega) (by omega)
   have h3:Int.tdiv 3193052135805681664 m<=3193052135805681664:=by
    rw [Int.tdiv_eq_ediv_of_nonneg (by omega)];exact Int.ediv_le_self _ (by omega)
   generalize Int.tdiv 3193052135805681664 m=x at h2 h3;rw [Int.tdiv_eq_ediv_of_nonneg h2];omega
 ·omega
variable {g:Ag}
theorem QfY (h:agB g=true):(g.P.length<=30/\g.N.length<=30)/\g.E.length<=64/\g.R.length<=64:=by
 have n:=Qa9 h;have l:=Qc6 n.hl;exact ⟨⟨(Qda n.sk).1.2,(Qda n.sk).2.2⟩,by omega,by omega⟩
theorem Quq (h:agB g=true):∀ x∈g.R,0<=x/\x<=9223372036854775807:=fun x hx=>by
 have hh:=(Qa9 h).hl;unfold hlB at hh
 split at hh
 ·rename_i e
  rw [List.length_eq_zero_iff.1 e] at hx
  cases hx
 ·unfold QmG at hh
  simp only [Bool.and_eq_true,List.all_eq_true] at hh;have:=hh.2.2 x hx;unfold inR at this;simp only [Bool.and_eq_true,decide_eq_true_eq] at this;omega
theorem Qbb (X:World) (o:Obj):Below X.heap.size X (X.alloc o):=(ZZb _ _).alloc (ZZa _) _
theorem Qqn (hD:DkS B w b) (hw:wh.size<=20000) (hn:0<=nm/\nm<=999999999999) :
  Calls prog 12 #[.pointer (some ⟨b,0,none⟩),.agg #[.string ⟨#[114,97,110,107]⟩,.int .i64 nm,.string wh]] w fun e w'=>LnA B b w e w':=by
 obtain ⟨ax,n,cp,p,M,pa,pn,pc,P,d,t,hR⟩:=hD;have a0:Below w.heap.size w (w.alloc (.cells #[.string ⟨#[114,97,110,107]⟩,.int .i64 nm,.string wh] 44)):=(ZZb _ _).alloc (ZZa _) _;have ab:=Qaa a0;have KL:=Qaa (ZZk w (.cells #[.string ⟨#[114,97,110,107]⟩,.int .i64 nm,.string wh] 44));have HD:=Qaa (hR.past a0);have aq:Hid (b<w.heap.size):=hR.lt;have HW:=Qaa hw;have af:=Qaa hn;clear a0 hR hw hn;go_enter func12,ntmps12;go_upto_region 25 with fail;generalize w.alloc (.cells #[.string ⟨#[114,97,110,107]⟩,.int .i64 nm,.string wh] 44)=W0 at ab KL HD ⊢;have ad:=Qaa (Qsv (se:=wh) (kd:=3) HD.out.row HD.out.pp HD.out.ok (by omega));have q2:=Qai KL 2 rfl;go_wp2_with fail;refine ad.out.mono ?_;rintro e w1 ⟨g,q,ok,rfl,gk,ae,aj,ag,hb⟩;have G1:=Qaa ae;have G2:=Qaa aj;have ah:Hid (Below w.heap.size w w1):=Qac ab hb;have al:=Qaa (HD.out.past hb);have an:=Qaa (Qae KL hb);have ac:=Qaa ag;clear hb gk ae aj ag q2 ad HD KL ab;have aa:=Qaa (Qbb w1 (.cells (Qan g q) 90));have KG:=ZZk w1 (.cells (Qan g q) 90)
 cases ok with
 | false=>
  go_wp2;go_ret;exact ⟨⟨_,rfl,by decide⟩,grB (Qac ah aa) _,(al.out.past aa).s⟩
 | true=>
  have x6:=Qai KG 6 rfl;have x7:=Qai KG 7 rfl;have x8:=Qai KG 8 rfl;have x9:=Qai KG 9 rfl;have ao:=Qai KG 10 rfl;have q1:=Qai (Qae an aa) 1 rfl;have ap:IntKind.u64.wrap nm=nm:=by have:=af.out;exact IntWalk.u64_in _ ⟨by omega,by omega⟩
  go_wp2_with fail;refine (QgH G1.out.z (by have:=af.out;unfold U64;omega) rfl rfl (by have:=(QfY G2).1;omega) (by have:=(QfY G2).1;omega) (Qbj ac aa).P (Qbj ac aa).N G1.out.P G1.out.N).mono ?_;rintro e w3 ⟨rfl,hb⟩;have ak:=Qaa hb;have HV:=Qaa (Qr2 (skR g.z g.P g.N nm));generalize skR g.z g.P g.N nm=vv at HV ⊢;clear hb x6 x7 x8 x9 ao q1 KG;go_wp2_with fail;refine (HV.out _).mono ?_;rintro e w4 ⟨⟨u,rfl,hu⟩,hb⟩;have ai:=Qaa hb;have am:Op.stringOp .add ⟨#[114,97,110,107,32]⟩ u=pure (.string ((⟨#[114,97,110,107,32]⟩:ByteArray) ++ u)):=Qaf (by show 5+u.size<=_;omega);have HU:Hid (((⟨#[114,97,110,107,32]⟩:ByteArray) ++ u).size<=200):=by rw [ByteArray.size_append];show 5+u.size<=_;omega
  clear hb hu;go_wp2;go_ret;exact ⟨TxA.le ⟨_,rfl,HU⟩ (by omega),grB (Qac (Qac (Qac ah aa) ak) ai) _,(((al.out.past aa).past ak).past ai).s⟩
theorem QrJ (hD:DkS B w b) (hw:wh.size<=20000) (hn:0<=nm/\nm<=999999999999) :
  Calls prog 12 #[.pointer (some ⟨b,0,none⟩),.agg #[.string ⟨#[109,97,110,121]⟩,.int .i64 nm,.string wh]] w fun e w'=>LnA B b w e w':=by
 obtain ⟨ax,n,cp,p,M,pa,pn,pc,P,d,t,hR⟩:=hD;have a0:Below w.heap.size w (w.alloc (.cells #[.string ⟨#[109,97,110,121]⟩,.int .i64 nm,.string wh] 44)):=(ZZb _ _).alloc (ZZa _) _;have ac:=Qaa a0;have KL:=Qaa (ZZk w (.cells #[.string ⟨#[109,97,110,121]⟩,.int .i64 nm,.string wh] 44));have HD:=Qaa (hR.past a0);have ar:Hid (b<w.heap.size):=hR.lt;have HW:=Qaa hw;have ap:=Qaa hn;clear a0 hR hw hn;go_enter func12,ntmps12;go_upto_region 30 with fail;generalize w.alloc (.cells #[.string ⟨#[109,97,110,121]⟩,.int .i64 nm,.string wh] 44)=W0 at ac KL HD ⊢;have ae:=Qaa (Qsv (se:=wh) (kd:=4) HD.out.row HD.out.pp HD.out.ok (by omega));have q2:=Qai KL 2 rfl;go_wp2_with fail;refine ae.out.mono ?_;rintro e w1 ⟨g,q,ok,rfl,gk,af,ai,ag,hb⟩;have G1:=Qaa af;have G2:=Qaa ai;have ak:Hid (Below w.heap.size w w1):=Qac ac hb;have ao:=Qaa (HD.out.past hb);have aq:=Qaa (Qae KL hb);have ad:=Qaa ag;clear hb gk af ai ag q2 ae HD KL ac;have aa:=Qaa (Qbb w1 (.cells (Qan g q) 90));have KG:=ZZk w1 (.cells (Qan g q) 90);have al:=Qai KG 11 rfl;have an:=Qai KG 12 rfl;go_wp2_with fail;refine (Qi8 rfl rfl (by have:=(QfY G2).2;omega) (by have:=(QfY G2).2;omega) (Qbj ad aa).E (Qbj ad aa).R (fun x hx=>by have:=Quq G2 x hx;unfold I64;omega)).mono ?_;rintro e w3 ⟨rfl,hb⟩;have aj:=Qaa hb;have ab:=Quh g.E g.R (by have:=(QfY G2).2;omega);have HV:=Qaa (QfE ab.1 ab.2);generalize QjT g.E g.R=vv at HV ⊢;clear hb al an KG ab;go_wp2_with fail;refine (HV.out _).mono ?_;rintro e w4 ⟨⟨u,rfl,hu⟩,hb⟩;have ah:=Qaa hb;have am:Op.stringOp .add ⟨#[109,97,110,121,32]⟩ u=pure (.string ((⟨#[109,97,110,121,32]⟩:ByteArray) ++ u)):=Qaf (by show 5+u.size<=_;omega);have HU:Hid (((⟨#[109,97,110,121,32]⟩:ByteArray) ++ u).size<=200):=by rw [ByteArray.size_append];show 5+u.size<=_;omega
 clear hb hu;go_wp2;go_ret;exact ⟨TxA.le ⟨_,rfl,HU⟩ (by omega),grB (Qac (Qac (Qac ak aa) aj) ah) _,(((ao.out.past aa).past aj).past ah).s⟩
theorem Qtd {wd:ByteArray} (n0:(wd.toList == [112,117,116])=false) (n1:(wd.toList == [106,111,105,110])=false) (n2:(wd.toList == [108,101,97,118,101])=false) (n3:(wd.toList == [116,105,99,107])=false) (n4:(wd.toList == [99,108,111,115,101])=false) (n5:(wd.toList == [119,104,101,114,101])=false) (n6:(wd.toList == [114,97,110,107])=false) (n7:(wd.toList == [109,97,110,121])=false) (hD:DkS B w b) (hw:wh.size<=20000) (hn:0<=nm/\nm<=999999999999) :
  Calls prog 12 #[.pointer (some ⟨b,0,none⟩),.agg #[.string wd,.int .i64 nm,.string wh]] w fun e w'=>LnA B b w e w':=by
 obtain ⟨ax,n,cp,p,M,pa,pn,pc,P,d,t,hR⟩:=hD;obtain rfl:pn=P.length:=by obtain ⟨ao,c,e⟩:=hR.h.any;injection e
 have a0:Below w.heap.size w (w.alloc (.cells #[.string wd,.int .i64 nm,.string wh] 44)):=(ZZb _ _).alloc (ZZa _) _;have ai:=Qaa a0;have KL:=Qaa (ZZk w (.cells #[.string wd,.int .i64 nm,.string wh] 44));have HD:=Qaa (hR.past a0);have ap:Hid (b<w.heap.size):=hR.lt;have HW:=Qaa hw;have am:=Qaa hn;clear a0 hR hw hn;go_enter func12,ntmps12;go_upto_region 32 with fail;generalize w.alloc (.cells #[.string wd,.int .i64 nm,.string wh] 44)=W0 at ai KL HD ⊢;have al:=HD.out.tp.l;go_wp2
 go_loopw [13,14] (fun v i wr=>Below W0.heap.size W0 wr/\∃ (k:Nat) (s:ByteArray),k<=P.length/\v=.string s/\i=.int .i64 k/\Hid (s.size<=3+142*k)) (fun v i wr=>P.length - (Go.RowKit.intOf i).toNat)
 case atStart=>exact ⟨ZZb _ _,0,⟨#[116,111,112]⟩,ZZj _,rfl,rfl,(by decide:(⟨#[116,111,112]⟩:ByteArray).size<=3)⟩
 case round=>
  obtain ⟨ac,k,s,hk,rfl,rfl,HZ⟩:=hrel;have HB:=Qaa ac;have af:=Qaa (HD.out.past ac);obtain ⟨⟨y0,y1,y2,y3⟩,y4,y5,y6,y7⟩:=Qmm af.out.row;clear ac;by_cases ak:k<P.length
  ·have aj:(k:Int)<(P.length:Int):=by omega
   obtain ⟨⟨ky,ct⟩,hc⟩:∃ c,P[k]?=some c:=⟨P[k],ZZe ak⟩;have HX:=Qaa (af.out.tp.m _ (ZZn hc));obtain ⟨b',ae,rfl,ab⟩:=af.out.h.at (by omega);have ah:=Qaa (ab k _ hc);have an:IntKind.i64.wrap ((k:Int)+1)=(k:Int)+1:=ZZi _ ⟨by omega,by omega⟩;clear hc ab;have HC:=Qaa (QfE (z:=ct) HX.out.2.1 (by have:=HX.out.2.2;show ct<=_;omega));go_upto_region 36 with fail;clear y0 y1 y2 y3 y4 y5 y6 y7;have aa:Hid (Below wr.heap.size wr wr.drew):=(ZZb _ _).drew;refine Qao (fun W=>Below wr.heap.size wr W) 99 (by kernel_rfl) ?_;generalize wr.drew=X0 at aa ⊢;refine tkL 0 (.string s) aa (fun W hW=>?_) ?_
   ·clear aa
    clear hW;go_simp
   refine tkL 1 (.string (s ++ (⟨#[32]⟩:ByteArray))) aa (fun W hW=>?_) ?_
   ·have ad:Op.stringOp .add (s) ((⟨#[32]⟩:ByteArray))=pure (.string (s ++ (⟨#[32]⟩:ByteArray))):=Qaf (by (try simp only [Qa2]);have e1:(⟨#[32]⟩:ByteArray).size=1:=rfl;have e2:(⟨#[61]⟩:ByteArray).size=1:=rfl;have:=HZ.out;have:ky.size<=100:=HX.out.1;omega)
    clear hW;go_simp
   refine tkL 2 (.pointer (some (⟨b,0,none⟩:Addr))) aa (fun W hW=>?_) ?_
   ·clear aa
    clear hW;go_simp
   simp only [sX];refine tkL 3 (.pointer (some (⟨b,0,none⟩:Addr))) aa (fun W hW=>?_) ?_
   ·clear aa
    clear hW;go_simp
   refine tkL 4 (.pointer (some (⟨b,5,none⟩:Addr))) aa (fun W hW=>?_) ?_
   ·clear aa
    clear hW;go_simp
   refine tkL 5 (.pointer (some (⟨b,5,none⟩:Addr))) aa (fun W hW=>?_) ?_
   ·clear aa
    clear hW;go_simp
   simp only [sX];refine tkL 6 (.slice (some ⟨b',ae,none⟩) P.length pc) aa (fun W hW=>?_) ?_
   ·have q5:=Qai (Qae af.out.row hW) 5 rfl
    clear hW;go_simp
   refine tkL 7 (.int .i64 k) aa (fun W hW=>?_) ?_
   ·clear aa
    clear hW;go_simp
   refine tkL 8 (.pointer (some (⟨b',ae+k*2,none⟩:Addr))) aa (fun W hW=>?_) ?_
   ·clear aa
    clear hW;go_simp
   simp only [sX];refine tkL 9 (.pointer (some (⟨b',ae+k*2,none⟩:Addr))) aa (fun W hW=>?_) ?_
   ·clear aa
    clear hW;go_simp
   refine tkL 10 (.string ky) aa (fun W hW=>?_) ?_
   ·obtain ⟨z0,z1⟩:=ah.out
    have q0:=Qab hW z0;have q1:=Qab hW z1;clear z0 z1;clear hW;go_simp
   refine tkL 11 (.string (s ++ (⟨#[32]⟩:ByteArray) ++ ky)) aa (fun W hW=>?_) ?_
   ·have ad:Op.stringOp .add (s ++ (⟨#[32]⟩:ByteArray)) (ky)=pure (.string (s ++ (⟨#[32]⟩:ByteArray) ++ ky)):=Qaf (by (try simp only [Qa2]);have e1:(⟨#[32]⟩:ByteArray).size=1:=rfl;have e2:(⟨#[61]⟩:ByteArray).size=1:=rfl;have:=HZ.out;have:ky.size<=100:=HX.out.1;omega)
    clear hW;go_simp
   simp only [sX];refine tkL 12 (.string (s ++ (⟨#[32]⟩:ByteArray) ++ ky ++ (⟨#[61]⟩:ByteArray))) aa (fun W hW=>?_) ?_
   ·have ad:Op.stringOp .add (s ++ (⟨#[32]⟩:ByteArray) ++ ky) ((⟨#[61]⟩:ByteArray))=pure (.string (s ++ (⟨#[32]⟩:ByteArray) ++ ky ++ (⟨#[61]⟩:ByteArray))):=Qaf (by (try simp only [Qa2]);have e1:(⟨#[32]⟩:ByteArray).size=1:=rfl;have e2:(⟨#[61]⟩:ByteArray).size=1:=rfl;have:=HZ.out;have:ky.size<=100:=HX.out.1;omega)
    clear hW;go_simp
   refine tkL 13 (.pointer (some (⟨b,0,none⟩:Addr))) aa (fun W hW=>?_) ?_
   ·clear aa
    clear hW;go_simp
   refine tkL 14 (.pointer (some (⟨b,0,none⟩:Addr))) aa (fun W hW=>?_) ?_
   ·clear aa
    clear hW;go_simp
   simp only [sX];refine tkL 15 (.pointer (some (⟨b,5,none⟩:Addr))) aa (fun W hW=>?_) ?_
   ·clear aa
    clear hW;go_simp
   refine tkL 16 (.pointer (some (⟨b,5,none⟩:Addr))) aa (fun W hW=>?_) ?_
   ·clear aa
    clear hW;go_simp
   refine tkL 17 (.slice (some ⟨b',ae,none⟩) P.length pc) aa (fun W hW=>?_) ?_
   ·have q5:=Qai (Qae af.out.row hW) 5 rfl
    clear hW;go_simp
   simp only [sX];refine tkL 18 (.int .i64 k) aa (fun W hW=>?_) ?_
   ·clear aa
    clear hW;go_simp
   refine tkL 19 (.pointer (some (⟨b',ae+k*2,none⟩:Addr))) aa (fun W hW=>?_) ?_
   ·clear aa
    clear hW;go_simp
   refine tkL 20 (.pointer (some (⟨b',ae+k*2+1,none⟩:Addr))) aa (fun W hW=>?_) ?_
   ·clear aa
    clear hW;go_simp
   simp only [sX];refine tkL 21 (.int .i64 ct) aa (fun W hW=>?_) ?_
   ·obtain ⟨z0,z1⟩:=ah.out
    have q0:=Qab hW z0;have q1:=Qab hW z1;clear z0 z1;clear hW;go_simp
   simp only [sX];refine onE 22 fun K hK=>?_;go_simp;refine (HC.out _).mono ?_;rintro e w2 ⟨⟨u,rfl,hu⟩,hb⟩;have HU:=Qaa hu;have ag:Hid (Below wr.heap.size wr w2):=Qac aa hb;clear hb hu
   try dsimp only
   refine gK hK ag.out ?_
   try simp only [sX]
   refine tkL 23 (.string (s ++ (⟨#[32]⟩:ByteArray) ++ ky ++ (⟨#[61]⟩:ByteArray) ++ u)) ag (fun W hW=>?_) ?_
   ·have ad:Op.stringOp .add (s ++ (⟨#[32]⟩:ByteArray) ++ ky ++ (⟨#[61]⟩:ByteArray)) (u)=pure (.string (s ++ (⟨#[32]⟩:ByteArray) ++ ky ++ (⟨#[61]⟩:ByteArray) ++ u)):=Qaf (by (try simp only [Qa2]);have e1:(⟨#[32]⟩:ByteArray).size=1:=rfl;have e2:(⟨#[61]⟩:ByteArray).size=1:=rfl;have:=HZ.out;have:ky.size<=100:=HX.out.1;have:=HU.out;omega)
    clear hW;go_simp
   simp only [sX];refine onE 24 fun K hK=>?_;go_simp
   try dsimp only
   refine gK hK ag.out ?_
   try simp only [sX]
   refine dnE ?_ _;have HQ:Hid ((s ++ (⟨#[32]⟩:ByteArray) ++ ky ++ (⟨#[61]⟩:ByteArray) ++ u).size<=3+142*(k+1)):=Qaa (by simp only [Qa2];have e1:(⟨#[32]⟩:ByteArray).size=1:=rfl;have e2:(⟨#[61]⟩:ByteArray).size=1:=rfl;have:=HZ.out;have:ky.size<=100:=HX.out.1;have:=HU.out;omega);go_wp2;go_roundw
   case rel=>exact ⟨Qac HB ag,k+1,_,by omega,rfl,by go_num,HQ⟩
   case measure=>simp [zI];omega
  ·have aj:¬ (k:Int)<(P.length:Int):=by omega
   go_wp2;go_ret;exact ⟨⟨_,rfl,by have:=HZ.out;omega⟩,grB (Qac ai HB) _,af.out.s⟩
end Go.Proofs.YtdbaabbmcfnjbaaGreatDoor
