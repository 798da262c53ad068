/-
 Parts.
-/
import Derived.Test.YtandnmpllheniaaGreatDoorCSG
set_option linter.all false
namespace Go.Proofs.YtandnmpllheniaaGreatDoor
open Go.ChangeShapes Go.WideShapes Go.ChangeAt Go.RowKit Go.PlainAid Go.Lib
set_option maxRecDepth 10000
set_option maxHeartbeats 16000000 in
theorem QnT (ao:Option Addr) (ln cap:Nat) (bo:Option Addr) (lm cbp:Nat) (w:World) (hl:ln<=maxLen) (ha:ln<=1048576->QbD w w.heap.size ao ln) (hm:lm<=maxLen) (hb:lm<=1048576->QbD w w.heap.size bo lm) (hx:MX w) :
  Calls Tryz.prog 4 #[.slice ao ln cap,.slice bo lm cbp] w fun e w'=>e=.returned (.bool true)/\Below w.heap.size w w':=by
 have bP:ln<=9223372036854775807:=hl;have bL:lm<=9223372036854775807:=hm;by_cases bK:1048576<ln
 ·have aR:(1048576:Int)<(ln:Int):=by omega
  clear ha hb;go_enter Tryz.func4,Tryz.ntmps4;go_wp2;go_ret;exact ⟨rfl,ZZb _ _⟩
 have aR:¬ (1048576:Int)<(ln:Int):=by omega
 by_cases bw:1048576<lm
 ·have aZ:(1048576:Int)<(lm:Int):=by omega
  clear ha hb;go_enter Tryz.func4,Tryz.ntmps4;go_wp2;go_ret;exact ⟨rfl,ZZb _ _⟩
 have aZ:¬ (1048576:Int)<(lm:Int):=by omega
 have bD:=Qaa (ha (by omega));have bv:=Qaa (hb (by omega));have HM:=Qaa hx;clear ha hb hx bK bw;go_enter Tryz.func4,Tryz.ntmps4;go_wp2_with fail;refine (Qf7 bD).mono ?_;rintro e w1 ⟨ax,n,cp,L,bx,m,cq,M,rfl,da,db,bc⟩;have LN:=da.len;have LM:=db.len;have A1:=Qaa da.sh;have B1:=Qaa db.sh;have QA:=Qaa (QmU da.sh);have QB:=Qaa (QmU db.sh);have aS:=Qaa bc;have AN:=Qaa da.hn;have BN:=Qaa db.hn;clear da db bc;go_wp2_with fail;refine (QcV (HM.out.past aS) A1 B1).mono ?_;intro e w2 hP;obtain ⟨am,aL,cm,R,rfl,bb,aY,lR,qR,aK⟩:=hP.sh QA QB;have MA:=Qaa bb;have S2:=Qaa aY;have QR:=Qaa qR;have bl:=Qaa (Qac aS aK);have A2:=Qaa (A1.out.past aK);have B2:=Qaa (B1.out.past aK);have NR:=Qaa aY.hN;clear hP bb aY qR aK A1 B1 aS;go_wp2_with fail;refine (Qhx A2 B2).mono ?_;intro e w3 hP;obtain ⟨bR,n3,c3,R3,rfl,bd,a6,l3,q3,aE⟩:=hP.sh QA QB;have EK:=Qaa (MA.out.same bd);have S3:=Qaa (S2.out.past aE);have T3:=Qaa a6;have bh:=Qaa (Qac bl aE);have A3:=Qaa (A2.out.past aE);have B3:=Qaa (B2.out.past aE);have ay:Hid (csB R R3=true):=QgH EK (by omega);clear hP bd a6 q3 aE A2 B2 bl S2;go_wp2_with fail;refine (Qfd S3.out.hN T3.out.hN S3.out.lN T3.out.lN S3.out.sm T3.out.sm S3.out.mem T3.out.mem).mono ?_;rintro e w4 ⟨rfl,aD⟩;rw [ay.out];have S4:=Qaa (S3.out.past aD);have aX:=Qaa (Qac bh aD);have A4:=Qaa (A3.out.past aD);have B4:=Qaa (B3.out.past aD);clear aD S3 T3 bh A3 B3 ay EK;go_wp2_with fail;refine (QcV (HM.out.past aX) B4 A4).mono ?_;intro e w5 hP;obtain ⟨bV,n5,c5,R5,rfl,bm,be,l5,q5,aC⟩:=hP.sh QB QA;have EK:=Qaa (MgA.comm A4.out.ok B4.out.ok MA bm);have S5:=Qaa (S4.out.past aC);have T5:=Qaa be;have a3:=Qaa (Qac aX aC);have A5:=Qaa (A4.out.past aC);have B5:=Qaa (B4.out.past aC);have ay:Hid (csB R R5=true):=QgH EK (by omega);clear hP bm be q5 aC A4 B4 aX S4;go_wp2_with fail;refine (Qik S5.out.hN T5.out.hN S5.out.lN T5.out.lN S5.out.sm T5.out.sm S5.out.mem T5.out.mem).mono ?_;rintro e w6 ⟨rfl,aA⟩;rw [ay.out];have S6:=Qaa (S5.out.past aA);have aH:=Qaa (Qac a3 aA);have A6:=Qaa (A5.out.past aA);have B6:=Qaa (B5.out.past aA);clear aA S5 T5 a3 A5 B5 ay EK;go_wp2_with fail;refine (Qhn (QjF (B:=w6.heap.size) bv aH (ZZa _) aH.out.size)).mono ?_;rintro e w7 ⟨a7,a0,n0,c0,L0,bg,x,rfl,_,_,ox,br⟩;obtain ⟨ba,aO,bt⟩:=Qo8 w7 a7 (.slice a0 n0 c0) x;have OX:=Qaa ox;have SX:=Qaa bt;have au:=Qaa (Qac br ba);have S8:=Qaa (S6.out.past au);have a1:=Qaa (Qac aH au);have A8:=Qaa (A6.out.past au);have B8:=Qaa (B6.out.past au);clear br ba aO bt ox S6 aH A6 B6 au;go_wp2_with fail;generalize (w7.alloc (.cells #[.string a7,.slice a0 n0 c0] 25)).alloc (.cells (Qaz x) 28)=W8 at SX S8 a1 A8 B8 ⊢;generalize w7.heap.size+1=gx at SX ⊢;generalize w7.heap.size=gs;refine (QbH A8.out.hN A8.out.lN A8.out.ok A8.out.sm A8.out.ss A8.out.mem).mono ?_;rintro e w9 ⟨rfl,aq⟩;have a2:=Qaa (Qg2 SX aq);have S9:=Qaa (S8.out.past aq);have aP:=Qaa (Qac a1 aq);have A9:=Qaa (A8.out.past aq);have B9:=Qaa (B8.out.past aq);clear aq SX S8 a1 A8 B8
 cases hra:csR L with
 | false=>
  go_wp2;go_ret;exact ⟨rfl,aP⟩
 | true=>
 go_wp2_with fail;refine (QbH B9.out.hN B9.out.lN B9.out.ok B9.out.sm B9.out.ss B9.out.mem).mono ?_;rintro e bQ ⟨rfl,ab⟩;have aj:=Qaa (Qg2 a2 ab);have a5:=Qaa (S9.out.past ab);have aa:=Qaa (Qac aP ab);have bk:=Qaa (A9.out.past ab);have bj:=Qaa (B9.out.past ab);clear ab a2 S9 aP A9 B9
 cases hrb:csR M with
 | false=>
  go_wp2;go_ret;exact ⟨rfl,aa⟩
 | true=>
 have aN:IntKind.i64.wrap ((n:Int)+(m:Int))=((n+m:Nat):Int):=by rw [show (n:Int)+(m:Int)=((n+m:Nat):Int) by omega];exact ZZi _ ⟨by omega,by omega⟩
 have RA:=Qaa hra;have RB:=Qaa hrb;clear hra hrb;by_cases bB:60<=n+m
 ·have aw:(60:Int)<=((n+m:Nat):Int):=by omega
  go_wp2;go_ret;exact ⟨rfl,aa⟩
 have aw:¬ (60:Int)<=((n+m:Nat):Int):=by omega
 by_cases aG:aL=0
 ·have aF:((aL:Int) == 0)=true:=by rw [aG];rfl
  have bE:(aL:Int)=0:=by omega
  clear aG;go_wp2;go_ret;exact ⟨rfl,aa⟩
 have aF:((aL:Int) == 0)=false:=ZZf.2 (by omega);have bn:Hid (R≠[]):=fun e=>aG (by have:=NR.out;rw [e] at this;exact this.symm);have bH:Hid (L.length+M.length<60):=by have:=AN.out;have:=BN.out;exact Qaa (by omega)
 clear aG bB;obtain ⟨x0,x1,x2,x3,x4,x5,x6⟩:=Qaw aj;go_wp2_with fail;clear x0 x1 x2 x3 x4 x5 x6 aN aw aF;refine (QfV ⟨#[97]⟩ bg x (by show (1:Nat)<=_;unfold maxLen;omega) OX (HM.out.past aa) bk).mono ?_;intro e a9 hP;obtain ⟨n1,aM,m1,c1,bG,bJ,P,af,rfl,a8,bf,ae⟩:=hP.box;have aQ:=Qaa a8;have aJ:=Qaa bf;have aU:=Qaa (a5.out.past ae);have ag:=Qaa (Qac aa ae);have aW:=Qaa (bj.out.past ae);have ak:=Qaa (Qg2 aj ae);clear hP a8 bf ae a5 aa bj bk aj;go_upto_region 11 with fail;generalize a9.alloc (.cells #[.string n1,.slice aM m1 c1,.slice bG 0 bJ,.int .i64 af] 32)=W11 at aJ aU ag aW ak ⊢;generalize a9.heap.size=g1 at aJ ⊢;obtain ⟨x0,x1,x2,x3,x4,x5,x6⟩:=Qaw ak;go_wp2_with fail;clear x0 x1 x2 x3 x4 x5 x6;refine (QfV ⟨#[97]⟩ bg x (by show (1:Nat)<=_;unfold maxLen;omega) OX (HM.out.past ag) aU).mono ?_;intro e a4 hP;obtain ⟨n2,aV,m2,c2,bI,bC,Q,ar,rfl,bi,bq,ai⟩:=hP.box;have aT:=Qaa bi;have av:=Qaa bq;have ah:=Qaa (aJ.out.past ai);have ad:=Qaa (Qac ag ai);have bs:=Qaa (aW.out.past ai);clear hP bi bq ai aU ag aW ak aJ;have bz:Hid (af≠0->ar≠0):=fun h=>QqM RA RB (QA.out RA) (QB.out RB) bH MA bn aQ aT h;obtain ⟨lP,qP,_⟩:=aQ.out.qS QA OX;obtain ⟨lQ,qQ,_⟩:=aT.out.qS (fun _=>QR.out) OX;have QP:=Qaa qP;have QQ:=Qaa qQ;clear qP qQ;go_upto_region 12 with fail;generalize a4.alloc (.cells #[.string n2,.slice aV m2 c2,.slice bI 0 bC,.int .i64 ar] 32)=W12 at av ah ad bs ⊢;generalize a4.heap.size=g2 at av ⊢;obtain ⟨y0,y1,y3⟩:=ah.out.cells;obtain ⟨z0,z1,z3⟩:=av.out.cells;by_cases aI:ar=0
 case neg=>
  have bU:(ar == 0)=false:=ZZf.2 aI;have bT:(ar != 0)=true:=bne_iff_ne.2 aI;by_cases al:af=0
  ·have bu:(af == 0)=true:=by rw [al];rfl
   have bA:(af != 0)=false:=by rw [al];rfl
   clear al;go_wp2;go_ret;exact ⟨rfl,ad⟩
  ·have bu:(af == 0)=false:=ZZf.2 al
   have bA:(af != 0)=true:=bne_iff_ne.2 al;go_wp2;go_ret;exact ⟨rfl,ad⟩
 case pos=>
 have al:af=0:=by
  rcases Decidable.em (af=0) with h | h
  ·exact h
  ·exact absurd aI (bz.out h)
 subst aI;subst al;go_wp2_with fail;clear y0 y1 y3 z0 z1 z3;have SP:=Qaa (ah.out.sh lP QP);have SQ:=Qaa (av.out.sh lQ QQ);have FC:Hid (∀ W,Below W12.heap.size W12 W->(W.cell? ⟨g1,1,none⟩=some (.slice aM m1 c1))/\(W.cell? ⟨g2,1,none⟩=some (.slice aV m2 c2))):=fun W hW=>⟨(ah.out.past hW).cells.2.1,(av.out.past hW).cells.2.1⟩;have ac:(fun W=>Below W12.heap.size W12 W) W12.drew:=(ZZb _ _).drew;refine Qaj (fun W=>Below W12.heap.size W12 W) 99 (by kernel_rfl) ?_;refine tkS 0 (.pointer (some ⟨g1,0,none⟩)) ac ?_;refine tkS 1 (.pointer (some ⟨g1,1,none⟩)) ac ?_;refine tkL 2 (.slice aM m1 c1) ac (fun W hW=>?_) ?_
 ·obtain ⟨x1,z1⟩:=FC.out W hW
  clear hW;go_simp
 simp only [sX];refine tkS 3 (.slice bx m cq) ac ?_;refine tkS 5 (.pointer (some ⟨g2,0,none⟩)) ac ?_;refine tkS 6 (.pointer (some ⟨g2,1,none⟩)) ac ?_;simp only [sX];refine tkL 7 (.slice aV m2 c2) ac (fun W hW=>?_) ?_
 ·obtain ⟨x1,z1⟩:=FC.out W hW
  clear hW;go_simp
 simp only [sX];refine onE 4 fun K hK=>?_;go_simp;refine (QcV ((HM.out.past ad).past ac) (SP.out.past ac) (bs.out.past ac)).mono ?_;intro e bF hP;obtain ⟨bN,bS,bM,Z,rfl,hz,bp,lz,qz,az⟩:=hP.sh (fun _=>QP.out) QB;have EZ:=Qaa (QpR RA RB (QA.out RA) (QB.out RB) OX MA bn aQ aT rfl rfl hz);have SZ:=Qaa bp;have ap:Hid (Below W12.heap.size W12 bF):=Qac (ac:Below W12.heap.size W12 W12.drew) az;have EQ:Hid (csB Z Q=true):=QgH EZ (by omega);clear hP hz bp qz az;dsimp only;refine gK hK ap.out ?_
 try simp only [sX]
 refine onE 8 fun K hK=>?_;go_simp;refine (Qfd SZ.out.hN SQ.out.hN SZ.out.lN SQ.out.lN SZ.out.sm SQ.out.sm SZ.out.mem (Qa1 SQ.out.mem ap)).mono ?_;rintro e bO ⟨rfl,aB⟩;rw [EQ.out];have an:=Qaa (Qac ap aB);clear aB;dsimp only;refine gK hK an.out ?_
 try simp only [sX]
 refine onE 9 fun K hK=>?_;go_simp;refine gK hK an.out ?_
 try simp only [sX]
 refine dnE ?_ _;go_wp2;go_ret;exact ⟨rfl,Qac ad an⟩
end Go.Proofs.YtandnmpllheniaaGreatDoor
