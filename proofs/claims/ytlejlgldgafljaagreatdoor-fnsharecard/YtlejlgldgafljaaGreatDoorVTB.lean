/-
 Parts.
-/
import Derived.Test.YtlejlgldgafljaaGreatDoorVTA
set_option maxHeartbeats 8000000
set_option linter.all false
namespace Go.Proofs.YtlejlgldgafljaaGreatDoor
open Go.ChangeShapes Go.WideShapes Go.ChangeAt Go.RowKit Go.PlainAid Go.Lib Go.Maps Tryz
set_option maxRecDepth 10000
variable {u:ByteArray}
theorem QsH {W:World} {v:ByteArray} {t:TypeId} (j:Nat) (x:Value) (hj:[Value.string u,.string v][j]?=some x):(W.alloc (.cells #[.string u,.string v] t)).cell? ((⟨W.heap.size,0,none⟩:Addr).add j)=some x:=by
 have hb:(W.alloc (.cells #[.string u,.string v] t)).heap[W.heap.size]?=some (.cells #[.string u,.string v] t (0,0)):=ZZk W _;rw [Addr.add_lit,Nat.zero_add,cell_of_row _ W.heap.size j _ _ (0,0) hb]
 simpa using hj
variable {w:World}
variable {B:Nat}
variable {K:List ByteArray}
theorem QnZ {cp n k g:Nat} (h:OwnT w B (.slice (some ⟨g,0,none⟩) n cp) K) (hn:K.length=n) (hu:K[k]?=some u):w.cell? ⟨g,k,none⟩=some (.string u):=by
 obtain ⟨g',e,q⟩:=Qe4 h hn hu
 cases e
 exact q
theorem OwnT.set5 {v:Value} (h:OwnT w B v K) (r:Nat) (hne:∀ k,v.ownBlock=some k->k≠r) (v0 v1 v2 v3 v4:Value) {X:World} (hX:X=((((w.setCell ⟨r,0,none⟩ v0).setCell ⟨r,1,none⟩ v1).setCell ⟨r,2,none⟩ v2).setCell ⟨r,3,none⟩ v3).setCell ⟨r,4,none⟩ v4):OwnT X B v K:=by
 rw [hX];exact h.keptS (Qmv w r v0 v1 v2 v3 v4) (fun k q e=>hne k q e)
theorem Qhe {ln cap:Nat} {ao:Option Addr} (hc:Qbq w w.heap.size ao ln) :
  Calls prog 18 #[.slice ao ln cap] w fun e w'=>∃ ax n cp p M u,e=.returned (.tuple #[.agg (Qad (.slice ax n cp) p),.string u])/\u.size<=1048576/\OwnD w' w.heap.size (.slice ax n cp) M/\LvO w' w.heap.size M/\GdK 1 (M.map Sd.key)/\PcB 1 p/\Bw w w':=by
 have a0:Bw w (w.alloc (.cells (Qad (.slice none 0 0) q0) 25)):=bA;have HC:=Qaa (Qg0 (B:=(w.alloc (.cells (Qad (.slice none 0 0) q0) 25)).heap.size) hc a0 (ZZa _) a0.size);have HR:=Qaa (ZZk w (.cells (Qad (.slice none 0 0) q0) 25));have ai:=Qaa a0;have HZ:Hid ((w.alloc (.cells (Qad (.slice none 0 0) q0) 25)).heap.size=w.heap.size+1):=Qaa (by simp);clear hc a0;go_enter func18,ntmps18;go_wp2_with fail;generalize w.alloc _=W0 at HC HR ai HZ ⊢;obtain ⟨K,hK⟩:∃ K,W0.heap.size=K:=⟨_,rfl⟩;rw [hK] at HC HZ;refine (Qgy (K:=K) _ _ _ _ hK HC).mono ?_;rintro e w1 ⟨rfl,aq⟩;have ak:=Qaa aq;clear aq;go_wp2_with fail;refine (Qky HC ak).mono ?_;rintro e w2 ⟨ax,n,cp,p,M,rfl,au,ap,r2,o2,gd,pc⟩;have ae:=Qaa gd;have az:=Qaa pc;have HD:=Qaa (TkD.mk0 (p:=p) HZ hK ak HR ai au ap r2 o2);clear au ap r2 o2 gd pc ak HR ai HZ hK;obtain ⟨i0,hi,aD,aw,ay⟩:=info_parts Qen;go_upto_region 3 with fail;generalize w2.alloc _=wr at HD ⊢;generalize w2.heap.size=c at HD ⊢;have HI:=Qaa (GdK.pp (k:=1) (by omega) ae HD.r HD.o);have ad:Hid (M.length=n):=Qaa (QbI HD.r);have aC:n<=14:=by have:=ae.1;rw [yA,ad.out] at this;exact this
 have aj:Hid (c<wr.heap.size):=Qaa (ZZc.1 HD.row).1;obtain ⟨y0,y1,y2,y3,y4⟩:=Qa2 HD.row;go_wp2_with fail;clear y0 y1 y2 y3 y4;refine (Qb4 p ad (by omega) HI.at').mono ?_;rintro e w3 ⟨bo,cc,rfl,ag,am⟩;unfold OwnT at ag;rw [yA,ad.out] at ag;have OW:=Qaa ag;have ah:=Qaa am;clear ag am;go_wp2_with (at_builtin;refine wpList_append_own _ rfl _ _ 57 rfl wr.heap.size 9 i0 (.string ByteArray.empty) 1 16 underlying57 hi aD aw ay rfl (by decide) _ _ _ rfl (World.ownsRow.alloc OW _) ⟨w3.heap.size,0,none⟩ 2 2 [.string ⟨#[110,111,110,101]⟩,.string ⟨#[65]⟩] rfl rfl ?c1 ?c2 ?c3 ?c4 ?c5 ?_)
 case c1=>first | exact QsH | exact fun j u hj=>hj
 case c2=>intro v hv;simp at hv;rcases hv with rfl | rfl <;> rfl
 case c3=>unfold maxLen;omega
 case c4=>omega
 case c5=>have:=ah.size;first | (simp;omega) | omega
 intro v' w5 ac aa _;have al:Bw w3 (w3.alloc (.cells #[.string ⟨#[110,111,110,101]⟩,.string ⟨#[65]⟩] 9)):=bA;have b4:Bw wr (w3.alloc (.cells #[.string ⟨#[110,111,110,101]⟩,.string ⟨#[65]⟩] 9)):=Qac ah al;have b5:Bw wr w5:=b4.grown aa b4.size (fun j hj=>(World.ownsRow.lt OW j hj).1);obtain ⟨T,hT⟩:∃ T,M.map Sd.nm ++ [⟨#[110,111,110,101]⟩,⟨#[65]⟩]=T:=⟨_,rfl⟩;have af:T.length=n+2:=by rw [<- hT,List.length_append,yA,ad.out];rfl
 have aB:Hid (∀ u∈T,u.size<=1048576):=Qaa (fun u hu=>by
  rw [<- hT] at hu;rcases List.mem_append.1 hu with hu | hu
  ·obtain ⟨s,hs,rfl⟩:=List.mem_map.1 hu
   exact (ae.sh hs).1
  ·simp at hu
   rcases hu with rfl | rfl <;> decide)
 have ot:OwnT w5 wr.heap.size v' T:=OwnT.of ac (by rw [<- hT,List.map_append,List.map_map];rfl);have ar:=Qaa af;obtain ⟨aH,c2,e2⟩:=Qcj ot;rw [af] at e2;subst e2;obtain ⟨gn,e3,-⟩:=Qe4 (k:=0) (u:=T[0]'(by omega)) ot af (ZZe _);subst e3;have an:Hid (c+1<=gn):=Qaa (by have:=(World.ownsRow.lt ot gn rfl).1;have:=aj.out;omega);have aE:Hid (OwnT w5 (c+1) (.slice (some ⟨gn,0,none⟩) (n+2) c2) T):=Qaa (Qby ot (by have:=aj.out;omega));have aA:=Qaa (HD.past b5);clear ac aa OW al b4 b5 ot hT af HD HI ah aj;go_upto_region 4 with fail;have D0:=Qaa aA.drew;have T0:=Qaa (aE.past ((ZZb _ _).drew:Bw w5 w5.drew));refine Qal (fun X=>X.heap[c]?=some (.cells (Qad (.slice ax n cp) p) 25 (0,0))/\OwnT X (c+1) (.slice (some ⟨gn,0,none⟩) (n+2) c2) T) 9 (by kernel_rfl) ?_;generalize w5.drew=X0 at D0 T0 ⊢;refine tkL 0 (.agg (Qad (.slice ax n cp) p)) ⟨D0.row,T0⟩ (fun W hW=>?_) ?_
 ·obtain ⟨x0,x1,x2,x3,x4⟩:=Qa2 hW.1
  clear hW;go_simp
 refine tkL 1 (.slice (some ⟨gn,0,none⟩) (n+2) c2) ⟨D0.row,T0⟩ (fun W hW=>?_) ?_
 ·clear hW
  go_simp
 refine tkL 2 (.pointer (some ⟨K,0,none⟩)) ⟨D0.row,T0⟩ (fun W hW=>?_) ?_
 ·clear hW
  go_simp
 simp only [sX];refine tkL 3 (.slice (some ⟨gn,0,none⟩) (n+2) c2) ⟨D0.row,T0⟩ (fun W hW=>?_) ?_
 ·clear hW
  go_simp
 refine tkL 4 (.int .i64 ((n+2:Nat):Int)) ⟨D0.row,T0⟩ (fun W hW=>?_) ?_
 ·clear hW
  go_simp
 simp only [sX];refine onE 5 fun K hK=>?_;go_simp;refine (c_n HC D0.src ((n+2:Nat):Int) (by omega)).mono ?_;rintro e w6 ⟨v,rfl,v0,v1,_,hS,hg⟩;obtain ⟨k,rfl⟩:∃ k:Nat,v=(k:Int):=⟨v.toNat,by omega⟩;have hk:k<n+2:=by have:=v1 (by omega);omega
 have aG:(k:Int)<((n+2:Nat):Int):=by omega
 have aF:¬ ((n:Int)+2<=(k:Int)):=by omega
 obtain ⟨u,hu⟩:∃ u,T[k]?=some u:=⟨T[k]'(by rw [ar.out];exact hk),List.getElem?_eq_getElem _⟩;have HU:Hid (u.size<=1048576):=Qaa (aB.out u (ZZn hu));have av:=Qaa hu;have ab:=Qaa (D0.step hS hg);have T6:=Qaa (T0.kept hg (fun j e q=>by cases e;have:=an.out;have:=D0.lk;have q2:gn=_:=Option.some.inj q;omega));clear hS hg hu v0 v1;dsimp only;refine hK.out _ _ (fun _=>⟨ab.row,T6⟩) ?_
 try simp only [sX]
 refine tkL 6 (.pointer (some ⟨gn,k,none⟩)) ⟨ab.row,T6⟩ (fun W hW=>?_) ?_
 ·clear hW
  go_simp
 refine tkL 7 (.string u) ⟨ab.row,T6⟩ (fun W hW=>?_) ?_
 ·have x0:=QnZ hW.2 ar av
  clear hW;go_simp
 simp only [sX];obtain ⟨y0,y1,y2,y3,y4⟩:=Qa2 ab.res;obtain ⟨f0,f1,f2,f3,f4⟩:=fA5 ab.res;have S6:=ab.set5 (.slice ax n cp) (.int .i64 p.a) (.int .i64 p.b) (.int .i64 p.c) (.int .i64 p.d) rfl;have T7:=T6.set5 w.heap.size (fun j q=>by have:=an.out;have:=ab.lk;have:=ab.hk;have q2:gn=j:=Option.some.inj q;omega) (.slice ax n cp) (.int .i64 p.a) (.int .i64 p.b) (.int .i64 p.c) (.int .i64 p.d) rfl;refine onE 8 fun K hK=>?_;go_simp;refine hK.out _ _ (fun _=>⟨S6.1,T7⟩) ?_
 try simp only [sX]
 refine onE 9 fun K hK=>?_;go_simp;refine hK.out _ _ (fun h=>absurd rfl h) ?_
 try simp only [sX]
 refine dnE ?_ _;have HF:=Qaa S6.2;clear S6 T7;go_wp2;refine bodyPost_ret (v:=.tuple #[.agg (Qad (.slice ax n cp) p),.string u]) (by simp [results,results18,go_sem,y0,y1,y2,y3,y4]) rfl ?_;exact ⟨ax,n,cp,p,M,u,rfl,HU,HF.1,HF.2.1,ae,az,HF.2.2⟩
theorem fdPo (a:Option Addr) (m c:Nat) (p:Pi) (cd:Int) (w:World):(Instr.field 37 (.agg (Qap (.slice a m c) p (.slice none 0 0) cd)) 2).run prog w=.ok (.int .i64 cd) w:=by kernel_rfl
theorem QqN (ao:Option Addr) (ln cap:Nat) (bo:Option Addr) (lm cbp:Nat) (w:World) (hl:ln<=maxLen) (ha:ln<=1048576->Qbq w w.heap.size ao ln) (hm:lm<=maxLen) (hb:lm<=1048576->Qbq w w.heap.size bo lm) (hx:MX w) :
  Calls prog 4 #[.slice ao ln cap,.slice bo lm cbp] w fun e w'=>e=.returned (.bool true)/\Bw w w':=by
 have ck:ln<=9223372036854775807:=hl;have cl:lm<=9223372036854775807:=hm;by_cases cm:1048576<ln
 ·have bz:(1048576:Int)<(ln:Int):=by omega
  clear ha hb;go_enter func4,ntmps4;go_wp2;go_ret;exact ⟨rfl,ZZb _ _⟩
 have bz:¬ (1048576:Int)<(ln:Int):=by omega
 by_cases ci:1048576<lm
 ·have bp:(1048576:Int)<(lm:Int):=by omega
  clear ha hb;go_enter func4,ntmps4;go_wp2;go_ret;exact ⟨rfl,ZZb _ _⟩
 have bp:¬ (1048576:Int)<(lm:Int):=by omega
 have bW:=Qaa (ha (by omega));have b3:=Qaa (hb (by omega));have be:=Qaa hx;clear ha hb hx;go_enter func4,ntmps4;go_wp2_with fail;refine (QhG bW).mono ?_;rintro e w1 ⟨ax,n,cp,p,M,u,rfl,hu,r1,o1,gd,pc,aZ⟩;have aA:Bw w1 (w1.alloc (.cells (Qad (.slice ax n cp) p) 25)):=bA;have aG:=Qaa ((GdK.pp (k:=1) (by omega) gd r1 o1).past aA);have bf:Hid (u.size<=maxLen):=Qaa (by unfold maxLen;omega);have bj:=Qaa gd;have bk:=Qaa (Qac aZ aA);have al:=Qaa (ZZk w1 (.cells (Qad (.slice ax n cp) p) 25));have bi:Hid (M.length=n):=Qaa (QbI r1);have ca:n<=14:=by have:=gd.1;rw [yA,bi.out] at this;exact this
 clear gd pc r1 o1 aZ aA hu;go_upto_region 4 with fail;generalize w1.alloc _=W1 at aG bk al ⊢;generalize w1.heap.size=bP at al ⊢;obtain ⟨y0,y1,y2,y3,y4⟩:=Qa2 al;go_wp2_with fail;clear y0 y1 y2 y3 y4;refine (QjP p u bf (be.past bk) aG).mono ?_;rintro e w2 ⟨a2,n2,c2,q2,M2,cd,rfl,hR,r2,o2,bT⟩;have HJ:Hid (JnR M p u q2 (M2.map Sd.key) [] cd):=Qaa ⟨hR,rfl⟩;have bH:Hid (M2.length=n2):=Qaa (QbI r2);have bw:Bw w2 (w2.alloc (.cells (Qap (.slice a2 n2 c2) q2 (.slice none 0 0) cd) 37)):=bA;have aE:=Qaa (Qac bT bw);have av:Hid (GdK 1 (M2.map Sd.key)->PpI (w2.alloc (.cells (Qap (.slice a2 n2 c2) q2 (.slice none 0 0) cd) 37)) a2 n2 M2):=Qaa (fun g=>(GdK.pp (k:=1) (by omega) g r2 o2).past bw);have a1:=Qaa (Qaf al aE);have aJ:=Qaa (ZZk w2 (.cells (Qap (.slice a2 n2 c2) q2 (.slice none 0 0) cd) 37));clear hR r2 o2 bT bw al;go_upto_region 5 with fail;generalize w2.alloc _=W2 at aE av a1 aJ ⊢;generalize w2.heap.size=bX at aJ ⊢;have bu:(cd == cd)=true:=by simp
 go_cut [34] (fun b w'=>b=.bool false/\Hid (Bw W2 w'))
 case first=>
  have aa:Bw W2 W2.drew:=(ZZb _ _).drew;refine Qal (fun W=>Bw W2 W) 99 (by kernel_rfl) ?_;refine tkS 0 (.pointer (some ⟨bX,6,none⟩)) aa ?_;refine tkL 1 (.int .i64 cd) aa (fun W hW=>?_) ?_
  ·obtain ⟨x0,x1,x2,x3,x4,x5,x6⟩:=Qbv (Qaf aJ hW)
   clear hW;go_simp
  refine tkL 2 (.agg (Qad (.slice ax n cp) p)) aa (fun W hW=>?_) ?_
  ·obtain ⟨y0,y1,y2,y3,y4⟩:=Qa2 (Qaf a1 hW)
   clear hW;go_simp
  simp only [sX];refine tkS 3 (.string u) aa ?_;simp only [sX];refine onE 4 fun K hK=>?_;go_simp;refine (Qb8 p u bf ((aG.past aE).past aa)).mono ?_;rintro e w5 ⟨a5,n5,c5,q5,M5,cj,rfl,bO,_,_,az⟩;rw [<- (HJ.1.same bO rfl).2.2];have ab:Bw W2 w5:=Qac aa az;clear az bO;dsimp only;refine gK hK ab ?_
  try simp only [sX]
  refine tkL 5 (.int .i64 cd) ab (fun W hW=>?_) ?_
  ·have g0:=fdPo a5 n5 c5 q5 cd W
   clear hW;go_simp
  refine tkS 6 (.bool false) ab ?_;simp only [sX];refine dnE ?_ _;go_wp2;go_meet;exact ⟨rfl,Qaa ab⟩
 case rest=>
  obtain ⟨rfl,aH⟩:=hcut;clear bu;obtain ⟨W3,b2⟩:∃ X,X=wc:=⟨_,rfl⟩;subst b2;have bg:=Qaa (Qac (Qac bk aE) aH);have aR:=Qaa (Qaf a1 aH);have ar:=Qaa (Qaf aJ aH);obtain ⟨x0,x1,x2,x3,x4,x5,x6⟩:=Qbv ar;go_upto_if 37 with fail;clear x0 x1 x2 x3 x4 x5 x6
  go_cut [8] (fun y w'=>Hid (Bw W3 w'))
  case first=>
   by_cases aO:cd=0
   ·subst aO
    obtain ⟨bE,aI,aw,aV,bG,aF⟩:=HJ.shr bj;subst bE;have ba:=Qaa aI;have aq:=Qaa aw;have aK:=Qaa (av.out aw.g);have bR:n2=n+1:=by rw [<- bH.out,aF,bi.out]
    have b5:IntKind.i64.wrap ((n:Int)+1)=(n2:Int):=by rw [bR];exact ZZi _ ⟨by omega,by omega⟩
    have ce:((n2:Int) == (n2:Int))=true:=by simp
    have b8:Hid (∀ (N:List Sd) (r:Pi) (cd:Int),LeR M2 p u r (N.map Sd.key) [] cd->cd=0/\N.map Sd.key=M.map Sd.key):=Qaa (fun N r cd h=>Qry aI aw aV bG aF h);clear aI aw aV bG aF bR HJ av;obtain ⟨x0,x1,x2,x3,x4,x5,x6⟩:=Qbv ar;go_wp2_with fail;clear x0 x1 x2 x3 x4 x5 x6;refine (Qe1 p u bf (be.past bg) (aK.past aH)).mono ?_;rintro e w4 ⟨a4,n4,c4,q4,M4,bV,rfl,bM,r4,o4,bN⟩;obtain ⟨b1,bh⟩:=b8.out M4 q4 bV ⟨bM,rfl⟩;subst b1;have b9:n=n4:=by rw [<- QbI r4];have h:=congrArg List.length bh;rw [yA,yA,bi.out] at h;exact h.symm
    subst b9;have aQ:Hid (GdK 1 (M4.map Sd.key)):=Qaa (by rw [bh];exact bj.out);have bt:Bw w4 (w4.alloc (.cells (Qap (.slice a4 n c4) q4 (.slice none 0 0) 0) 37)):=bA;have aj:=Qaa (Qac bN bt);have ap:=Qaa (Qac aH aj);have aC:=Qaa (Qac aE ap);have bU:=Qaa (Qac bg aj);have bL:=Qaa ((GdK.pp (k:=1) (by omega) aQ r4 o4).past bt);have ch:=Qaa bh.symm;have cg:Hid (∀ s∈M4,s.L.length<=400):=Qaa (fun s hs=>by have:=(aQ.sh hs).2.1;omega);have af:=Qaa (Qaf aR aj);have ae:=Qaa (Qaf ar aj);have ad:=Qaa (ZZk w4 (.cells (Qap (.slice a4 n c4) q4 (.slice none 0 0) 0) 37));clear bM r4 o4 bN bt bh;go_upto_region 9 with fail;generalize w4.alloc _=W4 at aj ap aC bU bL af ae ad ⊢;generalize w4.heap.size=bY at ad ⊢;have aa:Bw W4 W4.drew:=(ZZb _ _).drew;refine Qal (fun W=>Bw W4 W) 99 (by kernel_rfl) ?_;refine tkS 0 (.pointer (some ⟨bX,0,none⟩)) aa ?_;refine tkL 1 (.agg (Qad (.slice a2 n2 c2) p)) aa (fun W hW=>?_) ?_
    ·obtain ⟨x0,x1,x2,x3,x4,x5,x6⟩:=Qbv (Qaf ae hW)
     clear hW;go_simp
    simp only [sX];refine onE 2 fun K hK=>?_;go_simp;refine (Qa7 p aK.n aK.sm aK.ok (QaF (QaF aK.at' ap) aa)).mono ?_;rintro e w5 ⟨rfl,az⟩;rw [aq.r];have ab:Bw W4 w5:=Qac aa az;clear az;dsimp only;refine gK hK ab ?_
    try simp only [sX]
    refine tkS 3 (.bool false) ab ?_;refine tkS 4 (.bool false) ab ?_;refine tkS 5 (.pointer (some ⟨bX,0,none⟩)) ab ?_;simp only [sX];refine tkS 6 (.pointer (some ⟨bX,0,none⟩)) ab ?_;refine tkL 7 (.slice a2 n2 c2) ab (fun W hW=>?_) ?_
    ·obtain ⟨x0,x1,x2,x3,x4,x5,x6⟩:=Qbv (Qaf ae hW)
     clear hW;go_simp
    refine tkS 8 (.int .i64 (n2:Int)) ab ?_;simp only [sX];refine tkS 9 (.pointer (some ⟨bP,0,none⟩)) ab ?_;refine tkL 10 (.slice ax n cp) ab (fun W hW=>?_) ?_
    ·obtain ⟨y0,y1,y2,y3,y4⟩:=Qa2 (Qaf af hW)
     clear hW;go_simp
    refine tkS 11 (.int .i64 (n:Int)) ab ?_;simp only [sX];refine tkS 12 (.int .i64 (n2:Int)) ab ?_;refine tkS 13 (.bool false) ab ?_;refine tkS 14 (.bool false) ab ?_;simp only [sX];refine tkS 15 (.bool false) ab ?_;refine tkS 16 (.pointer (some ⟨bX,0,none⟩)) ab ?_;refine tkL 17 (.agg (Qad (.slice a2 n2 c2) p)) ab (fun W hW=>?_) ?_
    ·obtain ⟨x0,x1,x2,x3,x4,x5,x6⟩:=Qbv (Qaf ae hW)
     clear hW;go_simp
    simp only [sX];refine tkL 19 (.agg (Qad (.slice ax n cp) p)) ab (fun W hW=>?_) ?_
    ·obtain ⟨y0,y1,y2,y3,y4⟩:=Qa2 (Qaf af hW)
     clear hW;go_simp
    simp only [sX];refine onE 18 fun K hK=>?_;go_simp;refine (QiN p ((be.past bU).past ab) ((aK.past ap).past ab)).mono ?_;rintro e w6 ⟨v6,rfl,R6,an⟩;obtain ⟨a6,c6,rfl,aY,aS,a0⟩:=an.fit aq.g aq.r;have bx:=Qaa an;have bq:=Qaa aY;have bv:=Qaa aS;have bB:=Qaa a0;have aB:Bw W4 w6:=Qac ab an.b;clear an aY aS a0;dsimp only;refine gK hK aB ?_
    try simp only [sX]
    refine onE 20 fun K hK=>?_;go_simp;refine (QcX p ((aG.past aC).past aB)).mono ?_;rintro e w7 ⟨v7,rfl,R7,am⟩;obtain ⟨a7,c7,rfl,bb,aM,aL⟩:=am.fit bj ba;have bC:=Qaa (aq.cells ba bx am);have a3:=Qaa bb;have bAq:=Qaa aM;have br:=Qaa aL;have aD:=Qaa am.b;have aW:Bw W4 w7:=Qac aB am.b;clear am bb aM aL;dsimp only;refine gK hK aW ?_
    try simp only [sX]
    refine onE 21 fun K hK=>?_;go_simp;refine (Qc7 rfl rfl (by have:=bq.out;omega) (by have:=a3.out;omega) bv bAq (QaP bB aD) br).mono ?_;rintro e w8 ⟨rfl,au⟩;rw [QiU bC.1 (by have:=a3.out;omega)];have ac:Bw W4 w8:=Qac aW au;clear au;dsimp only;refine gK hK ac ?_
    try simp only [sX]
    refine tkS 22 (.bool false) ac ?_;refine tkS 23 (.bool false) ac ?_;refine tkS 24 (.bool false) ac ?_;simp only [sX];refine tkS 25 (.pointer (some ⟨bY,6,none⟩)) ac ?_;refine tkL 26 (.int .i64 0) ac (fun W hW=>?_) ?_
    ·obtain ⟨z0,z1,z2,z3,z4,z5,z6⟩:=Qbv (Qaf ad hW)
     clear hW;go_simp
    refine tkS 27 (.bool false) ac ?_;simp only [sX];refine tkS 28 (.bool false) ac ?_;refine tkS 29 (.bool false) ac ?_;refine tkS 30 (.pointer (some ⟨bY,0,none⟩)) ac ?_;simp only [sX];refine tkS 31 (.pointer (some ⟨bY,0,none⟩)) ac ?_;refine tkL 32 (.slice a4 n c4) ac (fun W hW=>?_) ?_
    ·obtain ⟨z0,z1,z2,z3,z4,z5,z6⟩:=Qbv (Qaf ad hW)
     clear hW;go_simp
    refine tkS 33 (.pointer (some ⟨bP,0,none⟩)) ac ?_;simp only [sX];refine tkL 34 (.slice ax n cp) ac (fun W hW=>?_) ?_
    ·obtain ⟨y0,y1,y2,y3,y4⟩:=Qa2 (Qaf af hW)
     clear hW;go_simp
    simp only [sX];refine onE 35 fun K hK=>?_;go_simp;refine (QnV (bL.past ac) ((aG.past aC).past ac) ch cg).mono ?_;rintro e w9 ⟨rfl,aU⟩;have ah:Bw W4 w9:=Qac ac aU;clear aU;dsimp only;refine gK hK ah ?_
    try simp only [sX]
    refine tkS 36 (.bool false) ah ?_;refine tkS 37 (.bool false) ah ?_;simp only [sX];refine dnE ?_ _;have aP:=Qaa (Qac aj ah);go_wp2;go_meet;exact aP
   ·have b0:(cd == 0)=false:=by simp [aO]
    go_wp2;go_meet;exact Qaa (ZZb _ _)
  case rest=>
   have ab:=hcut;clear hcut;obtain ⟨W5,b6⟩:∃ X,X=wc:=⟨_,rfl⟩;subst b6;have bm:=Qaa (Qac bg ab);clear ab aH bg aE bk a1 aJ aR ar aG av HJ bj bi bH bf;go_wp2_with fail;refine (Qhe (Qg0 (B:=W5.heap.size) b3 bm (ZZa _) bm.size)).mono ?_;rintro e w6 ⟨ay,m,cq,q,Q,g,rfl,hg,r1,o1,gd,pc,aZ⟩;have aA:Bw w6 (w6.alloc (.cells (Qad (.slice ay m cq) q) 25)):=bA;have bl:=Qaa ((GdK.pp (k:=1) (by omega) gd r1 o1).past aA);have bS:Hid (g.size<=maxLen):=Qaa (by unfold maxLen;omega);have bF:=Qaa gd;have bn:=Qaa (Qac bm (Qac aZ aA));have ak:=Qaa (ZZk w6 (.cells (Qad (.slice ay m cq) q) 25));have bI:Hid (Q.length=m):=Qaa (QbI r1);have cc:m<=14:=by have:=gd.1;rw [yA,bI.out] at this;exact this
   clear gd pc r1 o1 aZ aA hg bm;go_upto_region 12 with fail;generalize w6.alloc _=W6 at bl bn ak ⊢;generalize w6.heap.size=bQ at ak ⊢;obtain ⟨y0,y1,y2,y3,y4⟩:=Qa2 ak;go_wp2_with fail;clear y0 y1 y2 y3 y4;refine (Qe1 q g bS (be.past bn) bl).mono ?_;rintro e w8 ⟨a8,n8,c8,q8,M8,cd,rfl,hR,r8,o8,au⟩;have bD:Hid (LeR Q q g q8 (M8.map Sd.key) [] cd):=Qaa ⟨hR,rfl⟩;have b7:Hid (M8.length=n8):=Qaa (QbI r8);have bs:Bw w8 (w8.alloc (.cells (Qap (.slice a8 n8 c8) q8 (.slice none 0 0) cd) 37)):=bA;have bc:=Qaa (Qac au bs);have av:Hid (GdK 1 (M8.map Sd.key)->PpI (w8.alloc (.cells (Qap (.slice a8 n8 c8) q8 (.slice none 0 0) cd) 37)) a8 n8 M8):=Qaa (fun g=>(GdK.pp (k:=1) (by omega) g r8 o8).past bs);have bd:=Qaa (Qaf ak bc);have aX:=Qaa (ZZk w8 (.cells (Qap (.slice a8 n8 c8) q8 (.slice none 0 0) cd) 37));clear hR r8 o8 au bs ak;go_upto_region 13 with fail;generalize w8.alloc _=W8 at bc av bd aX ⊢;generalize w8.heap.size=bZ at aX ⊢;have bu:(cd == cd)=true:=by simp
   go_cut [94] (fun b w'=>b=.bool false/\Hid (Bw W8 w'))
   case first=>
    have aa:Bw W8 W8.drew:=(ZZb _ _).drew;refine Qal (fun W=>Bw W8 W) 99 (by kernel_rfl) ?_;refine tkS 0 (.pointer (some ⟨bZ,6,none⟩)) aa ?_;refine tkL 1 (.int .i64 cd) aa (fun W hW=>?_) ?_
    ·obtain ⟨x0,x1,x2,x3,x4,x5,x6⟩:=Qbv (Qaf aX hW)
     clear hW;go_simp
    refine tkL 2 (.agg (Qad (.slice ay m cq) q)) aa (fun W hW=>?_) ?_
    ·obtain ⟨y0,y1,y2,y3,y4⟩:=Qa2 (Qaf bd hW)
     clear hW;go_simp
    simp only [sX];refine tkS 3 (.string g) aa ?_;simp only [sX];refine onE 4 fun K hK=>?_;go_simp;refine (Qiq q g bS ((bl.past bc).past aa)).mono ?_;rintro e w9 ⟨a9,n9,c9,q9,M9,cn,rfl,bK,_,_,aU⟩;rw [<- (bD.1.same bK rfl).2.2];have ah:Bw W8 w9:=Qac aa aU;clear aU bK;dsimp only;refine gK hK ah ?_
    try simp only [sX]
    refine tkL 5 (.int .i64 cd) ah (fun W hW=>?_) ?_
    ·have g0:=fdPo a9 n9 c9 q9 cd W
     clear hW;go_simp
    refine tkS 6 (.bool false) ah ?_;simp only [sX];refine dnE ?_ _;go_wp2;go_meet;exact ⟨rfl,Qaa ah⟩
   case rest=>
    obtain ⟨rfl,ah⟩:=hcut;clear bu;obtain ⟨W9,cb⟩:∃ X,X=wc:=⟨_,rfl⟩;subst cb;have aT:=Qaa (Qac bc ah);have bJ:=Qaa (Qac bn aT);have ai:=Qaa (Qaf bd ah);have ag:=Qaa (Qaf aX ah);go_upto_region 15 with fail;by_cases aO:cd=0
    ·subst aO
     obtain ⟨bE,aI,aw,aF⟩:=bD.shr bF;subst bE;have ba:=Qaa aI;have aq:=Qaa aw;have aN:=Qaa (av.out aw.g);have b4:n8+1=m:=by rw [<- b7.out,aF,bI.out]
     have b5:IntKind.i64.wrap ((m:Int) - 1)=(n8:Int):=by rw [show (m:Int) - 1=(n8:Int) by omega];exact ZZi _ ⟨by omega,by omega⟩
     have cf:((n8:Int) == (n8:Int))=true:=by simp
     clear aI aw aF b4 bD av;have aa:Bw W9 W9.drew:=(ZZb _ _).drew;refine Qal (fun W=>Bw W9 W) 27 (by kernel_rfl) ?_;refine tkS 0 (.pointer (some ⟨bZ,6,none⟩)) aa ?_;refine tkL 1 (.int .i64 0) aa (fun W hW=>?_) ?_
     ·obtain ⟨x0,x1,x2,x3,x4,x5,x6⟩:=Qbv (Qaf ag hW)
      clear hW;go_simp
     refine tkS 2 (.bool false) aa ?_;simp only [sX];refine tkS 3 (.bool false) aa ?_;refine tkS 4 (.pointer (some ⟨bZ,0,none⟩)) aa ?_;refine tkL 5 (.agg (Qad (.slice a8 n8 c8) q)) aa (fun W hW=>?_) ?_
     ·obtain ⟨x0,x1,x2,x3,x4,x5,x6⟩:=Qbv (Qaf ag hW)
      clear hW;go_simp
     simp only [sX];refine onE 6 fun K hK=>?_;go_simp;refine (Qa7 q aN.n aN.sm aN.ok (QaF (QaF aN.at' ah) aa)).mono ?_;rintro e v5 ⟨rfl,az⟩;rw [aq.r];have ab:Bw W9 v5:=Qac aa az;clear az;dsimp only;refine gK hK ab ?_
     try simp only [sX]
     refine tkS 7 (.bool true) ab ?_;refine tkS 8 (.pointer (some ⟨bZ,0,none⟩)) ab ?_;refine tkS 9 (.pointer (some ⟨bZ,0,none⟩)) ab ?_;simp only [sX];refine tkL 10 (.slice a8 n8 c8) ab (fun W hW=>?_) ?_
     ·obtain ⟨x0,x1,x2,x3,x4,x5,x6⟩:=Qbv (Qaf ag hW)
      clear hW;go_simp
     refine tkS 11 (.int .i64 (n8:Int)) ab ?_;refine tkS 12 (.pointer (some ⟨bQ,0,none⟩)) ab ?_;simp only [sX];refine tkL 13 (.slice ay m cq) ab (fun W hW=>?_) ?_
     ·obtain ⟨y0,y1,y2,y3,y4⟩:=Qa2 (Qaf ai hW)
      clear hW;go_simp
     refine tkS 14 (.int .i64 (m:Int)) ab ?_;refine tkS 15 (.int .i64 (n8:Int)) ab ?_;simp only [sX];refine tkS 16 (.bool true) ab ?_;refine tkS 17 (.bool true) ab ?_;refine tkS 18 (.bool true) ab ?_;simp only [sX];refine tkS 19 (.pointer (some ⟨bZ,0,none⟩)) ab ?_;refine tkL 20 (.agg (Qad (.slice a8 n8 c8) q)) ab (fun W hW=>?_) ?_
     ·obtain ⟨x0,x1,x2,x3,x4,x5,x6⟩:=Qbv (Qaf ag hW)
      clear hW;go_simp
     refine tkL 22 (.agg (Qad (.slice ay m cq) q)) ab (fun W hW=>?_) ?_
     ·obtain ⟨y0,y1,y2,y3,y4⟩:=Qa2 (Qaf ai hW)
      clear hW;go_simp
     simp only [sX];refine onE 21 fun K hK=>?_;go_simp;refine (QcX q ((aN.past ah).past ab)).mono ?_;rintro e v6 ⟨u6,rfl,R6,an⟩;obtain ⟨a6,c6,rfl,aY,aS,a0⟩:=an.fit aq.g aq.r;have bx:=Qaa an;have bq:=Qaa aY;have bv:=Qaa aS;have bB:=Qaa a0;have aB:Bw W9 v6:=Qac ab an.b;clear an aY aS a0;dsimp only;refine gK hK aB ?_
     try simp only [sX]
     refine onE 23 fun K hK=>?_;go_simp;refine (QcX q ((bl.past aT).past aB)).mono ?_;rintro e v7 ⟨u7,rfl,R7,am⟩;obtain ⟨a7,c7,rfl,bb,aM,aL⟩:=am.fit bF ba;have bC:=Qaa (aq.cells ba bx am);have a3:=Qaa bb;have bAq:=Qaa aM;have br:=Qaa aL;have aD:=Qaa am.b;have aW:Bw W9 v7:=Qac aB am.b;clear am bb aM aL;dsimp only;refine gK hK aW ?_
     try simp only [sX]
     refine onE 24 fun K hK=>?_;go_simp;refine (Qc7 rfl rfl (by have:=bq.out;omega) (by have:=a3.out;omega) bv bAq (QaP bB aD) br).mono ?_;rintro e v8 ⟨rfl,au⟩;rw [QiU bC.1 (by have:=a3.out;omega)];have ac:Bw W9 v8:=Qac aW au;clear au;dsimp only;refine gK hK ac ?_
     try simp only [sX]
     refine tkS 25 (.bool true) ac ?_;refine tkS 26 (.bool true) ac ?_;simp only [sX];refine onE 27 fun K hK=>?_;go_simp;refine hK.out _ _ (fun h=>absurd rfl h) ?_
     try simp only [sX]
     refine dnE ?_ _;have aP:=Qaa (Qac bJ ac);go_wp2;go_ret;exact ⟨rfl,aP⟩
    ·have b0:(cd == 0)=false:=by simp [aO]
     have aa:Bw W9 W9.drew:=(ZZb _ _).drew;refine Qal (fun W=>Bw W9 W) 27 (by kernel_rfl) ?_;refine tkS 0 (.pointer (some ⟨bZ,6,none⟩)) aa ?_
     try simp only [sX]
     refine tkL 1 (.int .i64 cd) aa (fun W hW=>?_) ?_
     ·obtain ⟨x0,x1,x2,x3,x4,x5,x6⟩:=Qbv (Qaf ag hW)
      clear hW;go_simp
     try simp only [sX]
     refine tkS 2 (.bool true) aa ?_
     try simp only [sX]
     refine tkS 3 (.bool true) aa ?_
     try simp only [sX]
     refine tkU 4 aa ?_
     try simp only [sX]
     refine tkU 5 aa ?_
     try simp only [sX]
     refine onE 6 fun K hK=>?_;refine Eq.mpr (if_neg (fun h=>Bool.noConfusion (show false=true from h))) ?_;refine gK hK aa ?_
     try simp only [sX]
     refine tkU 7 aa ?_
     try simp only [sX]
     refine tkU 8 aa ?_
     try simp only [sX]
     refine tkU 9 aa ?_
     try simp only [sX]
     refine tkU 10 aa ?_
     try simp only [sX]
     refine tkU 11 aa ?_
     try simp only [sX]
     refine tkU 12 aa ?_
     try simp only [sX]
     refine tkU 13 aa ?_
     try simp only [sX]
     refine tkU 14 aa ?_
     try simp only [sX]
     refine tkU 15 aa ?_
     try simp only [sX]
     refine tkU 16 aa ?_
     try simp only [sX]
     refine tkU 17 aa ?_
     try simp only [sX]
     refine tkU 18 aa ?_
     try simp only [sX]
     refine tkU 19 aa ?_
     try simp only [sX]
     refine tkU 20 aa ?_
     try simp only [sX]
     refine tkU 22 aa ?_
     try simp only [sX]
     refine onE 21 fun K hK=>?_;refine Eq.mpr (if_neg (fun h=>Bool.noConfusion (show false=true from h))) ?_;refine gK hK aa ?_
     try simp only [sX]
     refine onE 23 fun K hK=>?_;refine Eq.mpr (if_neg (fun h=>Bool.noConfusion (show false=true from h))) ?_;refine gK hK aa ?_
     try simp only [sX]
     refine onE 24 fun K hK=>?_;refine Eq.mpr (if_neg (fun h=>Bool.noConfusion (show false=true from h))) ?_;refine gK hK aa ?_
     try simp only [sX]
     refine tkU 25 aa ?_
     try simp only [sX]
     refine tkS 26 (.bool true) aa ?_
     try simp only [sX]
     refine onE 27 fun K hK=>?_;go_simp;refine hK.out _ _ (fun h=>absurd rfl h) ?_
     try simp only [sX]
     refine dnE ?_ _;have aP:=Qaa (Qac bJ aa);go_wp2;go_ret;exact ⟨rfl,aP⟩
end Go.Proofs.YtlejlgldgafljaaGreatDoor
