/-
 Parts.
-/
import Derived.Test.YtdbaabbmcfnjbaaGreatDoorDEX
set_option maxHeartbeats 4000000
set_option linter.all false
namespace Go.Proofs.YtdbaabbmcfnjbaaGreatDoor
open Go.ChangeShapes Go.WideShapes Go.ChangeAt Go.RowKit Go.PlainAid Go.Lib Go.Maps Tryz
set_option maxRecDepth 10000
variable {M S:List Sd}
variable {p q:Pi}
variable {KM:List (ByteArray×List (Int×ByteArray×Ag))}
variable {KC:List (Int×ByteArray×Ag)}
theorem ClR.cd {cd:Int} (h:ClR S p q KM KC cd):0<=cd/\cd<=9223372036854775807:=by
 unfold ClR at h
 split at h
 ·have:=h.1;omega
 ·split at h
  ·have:=h.1;omega
  ·have:=h.1;omega
variable {C:List Ce}
theorem ClR.nilC {cd:Int} (h:ClR S p q KM (C.map Ce.key) cd) (h0:cd≠0):C=[]:=by
 unfold ClR at h
 split at h
 ·exact List.map_eq_nil_iff.1 h.2.2.2
 ·split at h
  ·exact List.map_eq_nil_iff.1 h.2.2.2
  ·exact absurd h.1 h0
theorem ClR.cells {cd:Int} (g:GdK 0 (S.map Sd.key)) (h:ClR S p q (M.map Sd.key) (C.map Ce.key) cd):C.length<=60/\∀ c∈C,cRi c=true/\AgOk c.g:=by
 by_cases h0:cd=0
 ·subst h0
  have k:=h.cl g.weak1;have hr:=csR_iff.1 k.ri;refine ⟨hr.1,fun c hc=>⟨hr.2.1 c hc,?_⟩⟩;have hm:c.key∈(QaN S).map Ce.key:=k.pm.mem_iff.1 (List.mem_append_left _ (List.mem_map_of_mem hc));obtain ⟨d,hd,e⟩:=List.mem_map.1 hm;obtain ⟨s,hs,hd⟩:=Qbq hd;have hk:=((g.sh hs).2.2 d hd).1;have eg:d.g=c.g:=congrArg (fun x=>x.2.2) e;rw [<- eg];exact hk
 ·rw [h.nilC h0]
  exact ⟨by simp,by simp⟩
variable {B b n:Nat}
variable {w:World}
theorem DkS.past {w':World} (h:DkS B w b) (hb:Below w.heap.size w w'):DkS B w' b:=by
 obtain ⟨ax,n,cp,p,M,pa,pn,pc,P,d,t,hR⟩:=h;exact (hR.past hb).s
variable {nm:Int}
variable {t wh:ByteArray}
theorem QnK (hD:DkS B w b) (hw:wh.size<=20000) (hn:0<=nm/\nm<=999999999999) :
  Calls prog 12 #[.pointer (some ⟨b,0,none⟩),.agg #[.string ⟨#[99,108,111,115,101]⟩,.int .i64 nm,.string wh]] w fun e w'=>LnA B b w e w':=by
 obtain ⟨ax,n,cp,p,M,pa,pn,pc,P,d,t,hR⟩:=hD;have a0:Below w.heap.size w (w.alloc (.cells #[.string ⟨#[99,108,111,115,101]⟩,.int .i64 nm,.string wh] 44)):=(ZZb _ _).alloc (ZZa _) _;have af:=Qaa a0;have KL:=Qaa (ZZk w (.cells #[.string ⟨#[99,108,111,115,101]⟩,.int .i64 nm,.string wh] 44));have HD:=Qaa (hR.past a0);have aB:Hid (b<w.heap.size):=hR.lt;have HW:=Qaa hw;have aI:=Qaa hn;clear a0 hR hw hn;go_enter func12,ntmps12;go_upto_region 15 with fail;generalize w.alloc (.cells #[.string ⟨#[99,108,111,115,101]⟩,.int .i64 nm,.string wh] 44)=W0 at af KL HD ⊢;obtain ⟨⟨y0,y1,y2,y3⟩,y4,y5,y6,y7⟩:=Qmm HD.out.row;go_wp2_with fail;refine (QhZ p HD.out.pp).mono ?_;rintro e w1 ⟨a',n',c',q,M',d',m',f',C,cd,rfl,hR,hB,hb⟩;obtain ⟨ao,f2,e2⟩:=Qag hB.c.r;obtain ⟨rfl,rfl,rfl⟩:d'=ao/\m'=C.length/\f'=f2:=by injection e2 with e1 e2 e3;exact ⟨e1,e2,e3⟩
 clear e2;have ap:=Qaa (ClR.cells HD.out.gd hR);have aq:Hid (cd=0->GdK 0 (M'.map Sd.key)/\QaZ M' q=true):=fun h0=>by rw [h0] at hR;have k:=hR.cl HD.out.gd.weak1;exact ⟨k.g.zero k.ok,k.ok⟩
 have HC:=Qaa hR.cd;have ah:Hid (b<W0.heap.size):=Nat.lt_of_lt_of_le aB af.out.size;have HA:=Qaa (Qbb w1 (.cells (QaI (.slice a' n' c') q (.slice d' C.length f') cd) 66));have KG:=ZZk w1 (.cells (QaI (.slice a' n' c') q (.slice d' C.length f') cd) 66);have aC:Hid (Below w.heap.size w w1):=Qac af hb;have ag:=Qaa (HD.out.past (Qac hb HA));have ai:=Qaa hB;have HS:Hid (W0.heap.size<=w1.heap.size):=hb.size;clear hR hB hb y0 y1 y2 y3 y4 y5 y6 y7 HD KL af;have am:Below w.heap.size w (w1.alloc (.cells (QaI (.slice a' n' c') q (.slice d' C.length f') cd) 66)):=Qac aC HA;have an:=Qaa am;clear am;have ac:=Qaa KG;have ad:=Qaa (ai.out.p.past HA);have aj:=Qaa (ai.out.c.past HA);obtain ⟨x0,x1,x2,x3,x4,x5,x6⟩:=Qd4 KG;clear KG;go_wp2_with fail;refine (Qi7 ag.out.row (by decide) HC.out.1 HC.out.2).mono ?_;rintro e w2 hT;have ae:=Qaa hT.2.1;have HE:=Qaa (ag.out.told hT ad.out.r ad.out.o ah aq);obtain ⟨u,rfl,hu⟩:=hT.1;have HU:=Qaa hu;clear hT hu x0 x1 x2 x3 x4 x5 x6;generalize w1.alloc (.cells (QaI (.slice a' n' c') q (.slice d' C.length f') cd) 66)=W2 at ae an ac ad aj ag HA;have ar:=Qaa ((ae.out.block _ (ZZc.1 ac).1 (fun e=>by injection e with e;have:=ah.out;have:=HS.out;omega)).trans ac)
 have au:Hid (Qcl w2 d' C):=by
  have h:=aj.out.keptS (grS ae) (fun k q1 q2 e=>by injection e with e;have:=ah.out;omega);exact h.r.at h.o.at
 generalize w1.heap.size=G at ar HS ac ⊢;clear ag ad aj ai ac HA HC aq;have ay:=ap.out.1;go_wp2
 go_loopw [7,8] (fun v i wr=>Below w2.heap.size w2 wr/\∃ (k:Nat) (s:ByteArray),k<=C.length/\v=.string s/\i=.int .i64 k/\Hid (s.size<=200+12001*k)) (fun v i wr=>C.length - (Go.RowKit.intOf i).toNat)
 case atStart=>exact ⟨ZZb _ _,0,_,ZZj _,rfl,rfl,Qaa (by have:=HU.out;omega)⟩
 case round=>
  obtain ⟨aa,k,s,hk,rfl,rfl,HZ⟩:=hrel;have HB:=Qaa aa;have KR:=Qaa (Qae ar aa);have ak:=Qa6 au aa;have x5:=Qai KR 5 rfl;clear aa;by_cases aA:k<C.length
  ·have az:(k:Int)<(C.length:Int):=by omega
   obtain ⟨c,hc⟩:∃ c,C[k]?=some c:=⟨C[k],ZZe aA⟩;have hm:=ap.out.2 c (ZZn hc);have aF:=Qaa (CeT.of hm.1 hm.2 (ak.2 c (ZZn hc)));obtain ⟨b',aM,rfl,ab⟩:=ak.1 (by omega);obtain ⟨z0,z1,z2,z3,z4,z5,z6,z7,z8,z9,aH,aG,aD,z13,av⟩:=ab k c hc;have aK:IntKind.i64.wrap ((k:Int)+1)=(k:Int)+1:=ZZi _ ⟨by omega,by omega⟩;have aJ:Op.stringOp .add s (⟨#[10]⟩:ByteArray)=pure (.string (s ++ (⟨#[10]⟩:ByteArray))):=Qaf (by have:=HZ.out;show s.size+1<=_;omega);clear hc hm ab ak;go_wp2_with fail;refine (Qs0 aF).mono ?_;rintro e w3 ⟨⟨u1,rfl,aE⟩,al⟩;have aw:=Qaa al;have aL:Op.stringOp .add (s ++ (⟨#[10]⟩:ByteArray)) u1=pure (.string (s ++ (⟨#[10]⟩:ByteArray) ++ u1)):=Qaf (by rw [ByteArray.size_append];have:=HZ.out;show s.size+1+u1.size<=_;omega);have HQ:Hid ((s ++ (⟨#[10]⟩:ByteArray) ++ u1).size<=200+12001*(k+1)):=Qaa (by rw [ByteArray.size_append,ByteArray.size_append];have:=HZ.out;show s.size+1+u1.size<=_;omega);clear al aE z0 z1 z2 z3 z4 z5 z6 z7 z8 z9 aH aG aD z13 av x5;go_wp2;go_roundw
   case rel=>exact ⟨Qac HB aw,k+1,_,by omega,rfl,by go_num,HQ⟩
   case measure=>simp [zI];omega
  ·have az:¬ (k:Int)<(C.length:Int):=by omega
   go_wp2;go_ret;exact ⟨⟨_,rfl,by have:=HZ.out;omega⟩,((grB an _).trans ae).trans (grB HB _),HE.out.past HB⟩
variable {s:Sm}
theorem lnR_c (h:LnR t s):0<=s.c/\s.c<=100:=by
 rcases h with ⟨_,rfl⟩ | ⟨_,⟨nm,wh,kd,ps,r,_,_,_,rfl⟩ | ⟨_,rfl⟩⟩
 ·decide
 ·unfold QlQ
  repeat' split
  all_goals simp [Qc3]
 ·decide
theorem LiX.cd {cd:Int} (h:LiX S p t q KM KC cd):0<=cd/\cd<=9223372036854775807:=by
 obtain ⟨_,h⟩:=h;rcases h with ⟨_,rfl,_⟩ | ⟨_,⟨_,rfl,_⟩ | ⟨_,s,hL,⟨_,rfl,_⟩ | ⟨_,hv,_⟩⟩⟩
 ·omega
 ·omega
 ·have:=lnR_c hL;omega
 ·unfold LvX at hv
  rcases hv with ⟨_,rfl,_⟩ | ⟨_,⟨_,rfl,_⟩ | ⟨_,⟨_,rfl,_⟩ | ⟨_,o,s,R,_,_,_,hp,_⟩⟩⟩
  ·omega
  ·omega
  ·omega
  ·cases hp <;> omega
theorem LiX.line (h:LiX S p t q KM KC 0) (hp:QaZ S p=true) (hL:LnR t s):s.se.size<=20000:=by
 obtain ⟨_,h⟩:=h;rcases h with ⟨_,h,_⟩ | ⟨_,⟨_,h,_⟩ | ⟨_,s',aa,⟨h1,h2,_⟩ | ⟨h1,_⟩⟩⟩
 ·exact absurd h (by decide)
 ·exact absurd h (by decide)
 ·exact absurd h2.symm h1
 ·obtain rfl:=hL.one aa
  exact (st_ok hp hL h1).2.2.2.2
theorem Qpq {cp:Nat} {ao:Option Addr} {K:List Hv} (h:OwnH w B (.slice ao n cp) K):n<=cp/\cp<=maxLen/\(ao=none->cp=0)/\Qc1 w ao K/\K.length=n:=by
 have hA:=h.at
 rcases h.2 with ⟨e,q⟩ | ⟨g,ab,aa,e,q1,q2,q3,q4,q5⟩
 ·injection e with e1 e2 e3
  exact ⟨by omega,by unfold maxLen;omega,fun _=>e3,hA,by omega⟩
 ·injection e with e1 e2 e3
  subst e1;subst e2;subst e3;exact ⟨q3,q4,(fun e=>by cases e),hA,rfl⟩
theorem fdLo (k va wt ti c:Int) (se wd:ByteArray) (td:Bool) (w:World):(Instr.field 73 (.agg #[.int .i64 k,.string se,.int .i64 va,.string wd,.int .u64 wt,.bool td,.int .i64 ti,.int .i64 c]) 0).run prog w=.ok (.agg #[.int .i64 k,.string se,.int .i64 va,.string wd,.int .u64 wt,.bool td,.int .i64 ti]) w:=by kernel_rfl
theorem fdSm (k va wt ti:Int) (se wd:ByteArray) (td:Bool) (w:World):(Instr.field 71 (.agg #[.int .i64 k,.string se,.int .i64 va,.string wd,.int .u64 wt,.bool td,.int .i64 ti]) 1).run prog w=.ok (.string se) w:=by kernel_rfl
theorem QuU (W:World) (G:Nat) (a b c d e f g:Value):W.grownBy (((((((W.setCell ⟨G,0,none⟩ a).setCell ⟨G,1,none⟩ b).setCell ⟨G,2,none⟩ c).setCell ⟨G,3,none⟩ d).setCell ⟨G,4,none⟩ e).setCell ⟨G,5,none⟩ f).setCell ⟨G,6,none⟩ g) (some G):=
 ((((((Qal W G 0 a).trans (Qal _ G 1 b)).trans (Qal _ G 2 c)).trans (Qal _ G 3 d)).trans (Qal _ G 4 e)).trans (Qal _ G 5 f)).trans (Qal _ G 6 g)
structure PtB (W0 w:World) (G:Nat) (a:Option Addr) (n c:Nat) (q:Pi) (M:List Sd) (u:Value) (cd:Int):Prop where
 row:w.heap[G]?=some (.cells (QaI (.slice a n c) q u cd) 66 (0,0))
 r:OwnD w W0.heap.size (.slice a n c) M
 o:LvO w W0.heap.size M
 b:Below W0.heap.size W0 w
 hG:W0.heap.size<=G
theorem PtB.of {W0:World} {G c lo hi:Nat} {a:Option Addr} {d:Option Addr} {m f:Nat} {cd:Int} (hr:w.heap[G]?=some (.cells (QaI (.slice none 0 0) q0 (.slice none 0 0) 0) 66 (0,0))) (hp:PpB w lo hi (.slice a n c) M) (hlo:W0.heap.size<=lo) (hG:W0.heap.size<=G) (hx:hi<=G∨G<lo) (hb:Below W0.heap.size W0 w) :
  PtB W0 (((((((w.setCell ⟨G,0,none⟩ (.slice a n c)).setCell ⟨G,1,none⟩ (.int .i64 q.a)).setCell ⟨G,2,none⟩ (.int .i64 q.b)).setCell ⟨G,3,none⟩ (.int .i64 q.c)).setCell ⟨G,4,none⟩ (.int .i64 q.d)).setCell ⟨G,5,none⟩ (.slice d m f)).setCell ⟨G,6,none⟩ (.int .i64 cd)) G a n c q M (.slice d m f) cd:=by
 have k:=hp.keptS (grS (QuU w G (.slice a n c) (.int .i64 q.a) (.int .i64 q.b) (.int .i64 q.c) (.int .i64 q.d) (.slice d m f) (.int .i64 cd))) (fun k h1 h2 e=>by injection e with e;omega);refine ⟨row7 _ _ _ _ _ _ _ hr,k.r.le hlo,k.o.le hlo,?_,hG⟩
 repeat (refine Below.setCell ?_ (by exact hG) _)
 exact hb
theorem Quw (hD:DkS B w b) (hw:wh.size<=20000) (hn:0<=nm/\nm<=999999999999) :
  Calls prog 12 #[.pointer (some ⟨b,0,none⟩),.agg #[.string ⟨#[112,117,116]⟩,.int .i64 nm,.string wh]] w fun e w'=>LnA B b w e w':=by
 obtain ⟨ax,n,cp,p,M,pa,pn,pc,P,d,t,hR⟩:=hD;have a0:Below w.heap.size w (w.alloc (.cells #[.string ⟨#[112,117,116]⟩,.int .i64 nm,.string wh] 44)):=(ZZb _ _).alloc (ZZa _) _;have aj:=Qaa a0;have KL:=Qaa (ZZk w (.cells #[.string ⟨#[112,117,116]⟩,.int .i64 nm,.string wh] 44));have HD:=Qaa (hR.past a0);have aD:Hid (b<w.heap.size):=hR.lt;have HW:=Qaa hw;have aE:=Qaa hn;clear a0 hR hw hn;go_enter func12,ntmps12;go_upto_region 3 with fail;generalize w.alloc (.cells #[.string ⟨#[112,117,116]⟩,.int .i64 nm,.string wh] 44)=W0 at aj KL HD ⊢
 go_cut [5] (fun v w'=>∃ (G:Nat) (a':Option Addr) (n' c':Nat) (q:Pi) (M':List Sd) (d':Option Addr) (m' f':Nat) (cd:Int),v=.pointer (some ⟨G,0,none⟩)/\Hid (LiX M p wh q (M'.map Sd.key) [] cd)/\Hid (PtB W0 w' G a' n' c' q M' (.slice d' m' f') cd))
 case first=>
  have aa:Hid (Below W0.heap.size W0 W0.drew):=(ZZb _ _).drew;refine Qao (fun W=>Below W0.heap.size W0 W) 8 (by kernel_rfl) ?_;generalize W0.drew=X0 at aa ⊢;refine tkL 0 (.pointer (some (⟨b,0,none⟩:Addr))) aa (fun W hW=>?_) ?_
  ·clear aa
   clear hW;go_simp
  refine tkL 1 (.pointer (some (⟨b,0,none⟩:Addr))) aa (fun W hW=>?_) ?_
  ·clear aa
   clear hW;go_simp
  refine tkL 2 (.pointer (some (⟨b,0,none⟩:Addr))) aa (fun W hW=>?_) ?_
  ·clear aa
   clear hW;go_simp
  simp only [sX];refine tkL 3 (.agg (Qam (.slice ax n cp) p)) aa (fun W hW=>?_) ?_
  ·obtain ⟨⟨y0,y1,y2,y3⟩,y4,y5,y6,y7⟩:=Qmm (Qae HD.out.row hW)
   clear hW;go_simp
  refine tkL 4 (.pointer (some (⟨w.heap.size,2,none⟩:Addr))) aa (fun W hW=>?_) ?_
  ·clear aa
   clear hW;go_simp
  refine tkL 5 (.string wh) aa (fun W hW=>?_) ?_
  ·have q2:=Qai (Qae KL hW) 2 rfl
   clear hW;go_simp
  simp only [sX];refine QjV (i:=6) (j:=7) (by kernel_rfl) rfl rfl (fun K hK=>?_) (fun K hK=>?_)
  ·go_simp
   refine (Qeq p wh (by have:=HW.out;unfold maxLen;omega) (HD.out.past aa).pp).mono ?_;rintro e Z1 ⟨a',n',c',q,M',d',m',f',C,cd,rfl,hR,hB,hb⟩;have af:C.map Ce.key=[]:=hR.1;rw [af] at hR;have HR:=Qaa hR;have HP:=Qaa hB.p;have S1:Hid (Below W0.heap.size W0 Z1):=Qac aa hb;clear hR hB hb af
   try dsimp only
   refine gK hK S1.out ?_
   try simp only [sX]
   refine onE 7 fun K hK=>?_;go_simp;have S2:Hid (Below W0.heap.size W0 (Z1.alloc (.cells (QaI (.slice none 0 0) q0 (.slice none 0 0) 0) 66))):=Qac S1 (Qbb _ _);have KG:=Qaa (ZZk Z1 (.cells (QaI (.slice none 0 0) q0 (.slice none 0 0) 0) 66));have ah:Hid (W0.heap.size<=Z1.heap.size):=S1.out.size;replace HP:=Qaa (HP.out.past (Qbb Z1 (.cells (QaI (.slice none 0 0) q0 (.slice none 0 0) 0) 66)))
   try dsimp only
   refine gK hK S2.out ?_
   try simp only [sX]
   generalize hY:Z1.alloc (.cells (QaI (.slice none 0 0) q0 (.slice none 0 0) 0) 66)=Y1 at S2 KG HP ⊢;obtain ⟨x0,x1,x2,x3,x4,x5,x6⟩:=Qd4 KG;obtain ⟨f0,f1,f2,f3,f4,f5,f6⟩:=fA7 KG;refine onE 8 fun K hK=>?_;go_simp;clear x0 x1 x2 x3 x4 x5 x6 f0 f1 f2 f3 f4 f5 f6;refine hK.out _ _ (fun h=>absurd rfl h) ?_
   try simp only [sX]
   refine dnE ?_ _;go_wp2;go_meet;exact ⟨_,a',n',c',q,M',d',m',f',cd,rfl,HR,Qaa (PtB.of KG HP (aa.out.size) ah (.inl (ZZa _)) S2)⟩
  ·go_simp
   have S1:Hid (Below W0.heap.size W0 (X0.alloc (.cells (QaI (.slice none 0 0) q0 (.slice none 0 0) 0) 66))):=Qac aa (Qbb _ _);have KG:=Qaa (ZZk X0 (.cells (QaI (.slice none 0 0) q0 (.slice none 0 0) 0) 66));have ah:Hid (W0.heap.size<=X0.heap.size):=aa.out.size
   try dsimp only
   refine gK hK S1.out ?_
   try simp only [sX]
   generalize hY:X0.alloc (.cells (QaI (.slice none 0 0) q0 (.slice none 0 0) 0) 66)=Y1 at S1 KG ⊢;have ap:Hid (X0.heap.size<Y1.heap.size):=Qaa (by rw [<- hY,World.size_alloc];omega);clear hY;refine onE 6 fun K hK=>?_;go_simp;refine (Qeq p wh (by have:=HW.out;unfold maxLen;omega) (HD.out.past S1).pp).mono ?_;rintro e Z1 ⟨a',n',c',q,M',d',m',f',C,cd,rfl,hR,hB,hb⟩;have af:C.map Ce.key=[]:=hR.1;rw [af] at hR;have HR:=Qaa hR;have HP:=Qaa hB.p;have S2:Hid (Below W0.heap.size W0 Z1):=Qac S1 hb;replace KG:=Qaa (Qae KG hb);clear hR hB hb af
   try dsimp only
   refine gK hK S2.out ?_
   try simp only [sX]
   obtain ⟨x0,x1,x2,x3,x4,x5,x6⟩:=Qd4 KG;obtain ⟨f0,f1,f2,f3,f4,f5,f6⟩:=fA7 KG;refine onE 8 fun K hK=>?_;go_simp;clear x0 x1 x2 x3 x4 x5 x6 f0 f1 f2 f3 f4 f5 f6;refine hK.out _ _ (fun h=>absurd rfl h) ?_
   try simp only [sX]
   refine dnE ?_ _;go_wp2;go_meet;exact ⟨_,a',n',c',q,M',d',m',f',cd,rfl,HR,Qaa (PtB.of KG HP (by have:=ap.out;have:=ah.out;omega) ah (.inr ap) S2)⟩
 case rest=>
  obtain ⟨G,a',n',c',q,M',d',m',f',cd,rfl,HR,HB⟩:=hcut;have ac:=Qaa (HD.out.past HB.out.b);have au:=Qaa (Qae KL HB.out.b);have ak:Hid (Below w.heap.size w wc):=Qac aj HB.out.b;have ag:Hid (b<W0.heap.size):=Nat.lt_of_lt_of_le aD aj.out.size;generalize wc=W2 at HB ac au ak ⊢;clear aj KL HD;have x6:=Qai HB.out.row 6 rfl;have HC:=Qaa HR.out.cd;have ao:Hid (cd=0->GdK 0 (M'.map Sd.key)/\QaZ M' q=true):=fun h0=>by have h:=HR.out;rw [h0] at h;have k:=h.ok ac.out.gd;rw [k.2.1];exact ⟨k.2.2.2,k.2.2.1⟩
  cases qz:(cd == 0) with
  | false=>
   obtain ⟨x0,x1,x2,x3,x4,x5,_⟩:=Qd4 HB.out.row;go_wp2_with fail;refine (Qi7 ac.out.row (by decide) HC.out.1 HC.out.2).mono ?_;rintro e w2 hT;have az:=Qaa hT.2.1;have HE:=Qaa (ac.out.told hT HB.out.r HB.out.o ag ao);obtain ⟨u,rfl,hu⟩:=hT.1;have HU:=Qaa hu;clear hT hu x0 x1 x2 x3 x4 x5 x6;go_wp2;go_ret;exact ⟨TxA.le ⟨_,rfl,HU⟩ (by omega),(grB ak _).trans az,HE⟩
  | true=>
   have hz:cd=0:=by simpa using qz
   have aA:=Qaa hz;clear hz;go_upto_region 5 with fail;clear x6;have aa:Hid (Below W2.heap.size W2 W2.drew):=(ZZb _ _).drew;refine Qao (fun W=>Below W2.heap.size W2 W) 13 (by kernel_rfl) ?_;generalize W2.drew=X0 at aa ⊢;refine tkL 0 (.pointer (some (⟨b,0,none⟩:Addr))) aa (fun W hW=>?_) ?_
   ·clear aa
    clear hW;go_simp
   refine tkL 1 (.pointer (some (⟨b,0,none⟩:Addr))) aa (fun W hW=>?_) ?_
   ·clear aa
    clear hW;go_simp
   refine tkL 2 (.pointer (some (⟨b,0,none⟩:Addr))) aa (fun W hW=>?_) ?_
   ·clear aa
    clear hW;go_simp
   simp only [sX];refine tkL 3 (.pointer (some (⟨b,5,none⟩:Addr))) aa (fun W hW=>?_) ?_
   ·clear aa
    clear hW;go_simp
   refine tkL 4 (.agg #[.slice pa pn pc,.int .i64 d,.int .i64 t]) aa (fun W hW=>?_) ?_
   ·obtain ⟨⟨y0,y1,y2,y3⟩,y4,y5,y6,y7⟩:=Qmm (Qae ac.out.row hW)
    clear hW;go_simp
   refine tkL 5 (.pointer (some (⟨w.heap.size,2,none⟩:Addr))) aa (fun W hW=>?_) ?_
   ·clear aa
    clear hW;go_simp
   simp only [sX];refine tkL 6 (.string wh) aa (fun W hW=>?_) ?_
   ·have q2:=Qai (Qae au hW) 2 rfl
    clear hW;go_simp
   simp only [sX];refine onE 7 fun K hK=>?_;go_simp;refine (QeZ wh (by have:=HW.out;unfold maxLen;omega)).mono ?_;rintro e w3 ⟨s,rfl,hL,hb⟩;have aB:Hid (s.se.size<=20000):=by have h:=HR.out;rw [aA.out] at h;exact h.line ac.out.ok hL
   have S1:Hid (Below W2.heap.size W2 w3):=Qac aa hb;clear hL hb;unfold Qvb
   try dsimp only
   refine gK hK S1.out ?_
   try simp only [sX]
   refine tkL 8 (.agg #[.int .i64 s.k,.string s.se,.int .i64 s.va,.string s.wd,.int .u64 s.wt,.bool s.td,.int .i64 s.ti]) S1 (fun W hW=>?_) ?_
   ·have hf:=fun W=>fdLo s.k s.va s.wt s.ti s.c s.se s.wd s.td W
    clear hW;go_simp
   refine tkL 9 (.string s.se) S1 (fun W hW=>?_) ?_
   ·have hf:=fun W=>fdSm s.k s.va s.wt s.ti s.se s.wd s.td W
    clear hW;go_simp
   simp only [sX];refine onE 10 fun K hK=>?_;go_simp;have ab:=Qpq (ac.out.h.past S1);have ad:=ac.out.tp;refine (QmN (by have:=aB.out;omega) ab.2.2.2.2 (by have:=ad.l;have:=ab.2.2.2.2;omega) ab.1 ab.2.1 ab.2.2.2.1 ab.2.2.1 ad.hv (by have:=ad.d;unfold I64;omega) (by have:=ad.t;unfold I64;omega) (by unfold I64;omega)).mono ?_;rintro e w4 ⟨v,rfl,hb,hv⟩
   have hx:∃ P' dd tt a2 n2 c2,v=.agg #[.slice a2 n2 c2,.int .i64 dd,.int .i64 tt]/\OwnH w4 w3.heap.size (.slice a2 n2 c2) P'/\TpI P' dd tt:=by
    rcases hv with ⟨h1,d2,h2,pv,e1,h3⟩ | ⟨_,pv,e1,h3⟩
    ·obtain ⟨a2,c2,rfl⟩:=h3.any
     exact ⟨_,_,_,_,_,_,e1,h3,TpI.put h1 h2⟩
    ·obtain ⟨a2,c2,rfl⟩:=h3.any
     exact ⟨_,_,_,_,_,_,e1,h3,ad⟩
   obtain ⟨P',dd,tt,a2,n2,c2,rfl,hO,an⟩:=hx;have S2:Hid (Below W2.heap.size W2 w4):=Qac S1 hb;have HO:=Qaa hO;have aC:=Qaa an;have ay:Hid (b<w3.heap.size):=by have h1:=S1.out.size;have h2:=ac.out.lt;exact Nat.lt_of_lt_of_le h2 h1
   clear ab ad hb hv hO an
   try dsimp only
   refine gK hK S2.out ?_
   try simp only [sX]
   refine onE 11 fun K hK=>?_;go_simp
   try dsimp only
   refine gK hK S2.out ?_
   try simp only [sX]
   refine onE 12 fun K hK=>?_;go_simp
   try dsimp only
   refine gK hK S2.out ?_
   try simp only [sX]
   have ae:=Qaa (ac.out.past S2);obtain ⟨⟨y0,y1,y2,y3⟩,y4,y5,y6,y7⟩:=Qmm ae.out.row;have f5:=fzR 5 ae.out.row;have f6:=fzR 6 ae.out.row;have f7:=fzR 7 ae.out.row;refine onE 13 fun K hK=>?_;go_simp;clear y0 y1 y2 y3 y4 y5 y6 y7 f5 f6 f7;refine hK.out _ _ (fun h=>absurd rfl h) ?_
   try simp only [sX]
   refine dnE ?_ _;have al:=Qaa (ae.out.top HO ay aC);have ai:w4.grownBy (((w4.setCell ⟨b,5,none⟩ (.slice a2 n2 c2)).setCell ⟨b,6,none⟩ (.int .i64 dd)).setCell ⟨b,7,none⟩ (.int .i64 tt)) (some b):=((Qal w4 b 5 _).trans (Qal _ b 6 _)).trans (Qal _ b 7 _);have aq:=Qaa ai;have ar:=PpB.of (HB.out.r.past S2) (HB.out.o.past S2);have am:=Qaa (ar.keptS (grS ai) (fun k h1 h2 e=>by injection e with e;have:=ag.out;omega));have av:=Qaa ((ai.block _ (ZZc.1 (Qae HB.out.row S2)).1 (fun e=>by injection e with e;have:=ag.out;have:=HB.out.hG;omega)).trans (Qae HB.out.row S2));clear ai ar;generalize ((w4.setCell ⟨b,5,none⟩ (.slice a2 n2 c2)).setCell ⟨b,6,none⟩ (.int .i64 dd)).setCell ⟨b,7,none⟩ (.int .i64 tt)=W5 at al aq am av ⊢;obtain ⟨x0,x1,x2,x3,x4,x5,x6⟩:=Qd4 av;go_wp2_with fail;refine (Qi7 al.out.row (by decide) HC.out.1 HC.out.2).mono ?_;rintro e w6 hT;have aw:=Qaa hT.2.1;have HE:=Qaa (al.out.told hT am.out.r am.out.o ag ao);obtain ⟨u,rfl,hu⟩:=hT.1;have HU:=Qaa hu;clear hT hu x0 x1 x2 x3 x4 x5 x6;go_wp2;go_ret;exact ⟨TxA.le ⟨_,rfl,HU⟩ (by omega),(((grB ak _).trans (grB S2 _)).trans aq).trans aw,HE⟩
end Go.Proofs.YtdbaabbmcfnjbaaGreatDoor
