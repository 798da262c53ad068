/-
 The walk of the law FnShard.
-/
import Derived.Test.YthchmdmncmioiaaGreatDoorZSG
namespace Go.Proofs.YthchmdmncmioiaaGreatDoor
set_option linter.unusedVariables false
set_option linter.unusedSimpArgs false
open Go.ChangeShapes Go.WideShapes Go.ChangeAt Go.RowKit Go.PlainAid Go.Lib
set_option maxRecDepth 10000
theorem fdSo (a:ByteArray) (ar ap:Option Addr) (m c p q:Nat) (k:Int) (w:World):(Instr.field 32 (.agg #[.string a,.slice ar m c,.slice ap p q,.int .i64 k]) 2).run Tryz.prog w=.ok (.int .i64 k) w:=by kernel_rfl
theorem TkA.cases {nm nm':ByteArray} {L R O:List Ce} {win code:Int} (h:TkA nm L win nm' R O code):(code=0/\csR L=true/\nm'=nm/\R.map Ce.key=(L.filter (fun c=>!isW win c)).map Ce.key/\O.map Ce.key=(L.filter (isW win)).map Ce.key)∨(code≠0/\R=[]/\O=[]):=by
 unfold TkA at h
 split at h
 ·rename_i q
  exact .inl ⟨h.2.2.2,QcJ q.1,h.1,h.2.1,h.2.2.1⟩
 ·exact .inr ⟨by rw [h.2.2.2];decide,h.2.1,h.2.2.1⟩
theorem Qg1 {L:List Ce} (q:CnQ L) (f:Ce->Bool):CnQ (L.filter f):=⟨fun c hc=>q.ok c (List.mem_filter.1 hc).1,fun c hc=>q.sm c (List.mem_filter.1 hc).1,fun c hc=>q.rt c (List.mem_filter.1 hc).1,fun c hc=>q.ky c (List.mem_filter.1 hc).1⟩
theorem QmQ {L O:List Ce} {f:Ce->Bool} (h:O.map Ce.key=(L.filter f).map Ce.key) (P:Int->Prop) (hf:∀ c,f c=true->P c.n):∀ c∈O,P c.n:=fun c hc=>by
 have:c.key∈(L.filter f).map Ce.key:=by rw [<- h];exact List.mem_map_of_mem hc
 obtain ⟨d,hd,e⟩:=List.mem_map.1 this;have q:=hf d (List.mem_filter.1 hd).2;have e1:=(key3 e).1;rw [<- e1];exact q
theorem TkA.q {nm nm':ByteArray} {L R O:List Ce} {win code:Int} (h:TkA nm L win nm' R O code) (l:L.length<=61) (q:csR L=true->CnQ L):R.length<=61/\CnQ R/\O.length<=61/\CnQ O:=by
 rcases h.cases with ⟨_,hL,_,h1,h2⟩ | ⟨_,rfl,rfl⟩
 ·have q:=q hL
  have e1:=congrArg List.length h1;have e2:=congrArg List.length h2;have f1:=List.length_filter_le (fun c=>!isW win c) L;have f2:=List.length_filter_le (isW win) L;simp only [List.length_map] at e1 e2;exact ⟨by omega,(Qg1 q _).keys h1,by omega,(Qg1 q _).keys h2⟩
 ·exact ⟨by simp,Qe4,by simp,Qe4⟩
set_option maxHeartbeats 16000000 in
theorem QnG (ao:Option Addr) (ln cap:Nat) (bo:Option Addr) (lm cbp:Nat) (w:World) (hl:ln<=maxLen) (ha:ln<=1048576->Qbr w w.heap.size ao ln) (hm:lm<=maxLen) (hb:lm<=1048576->Qbr w w.heap.size bo lm) (hx:MX w) :
  Calls Tryz.prog 3 #[.slice ao ln cap,.slice bo lm cbp] w fun e w'=>e=.returned (.bool true)/\Below w.heap.size w w':=by
 have hlz:ln<=9223372036854775807:=hl;have hmz:lm<=9223372036854775807:=hm;by_cases hl1:1048576<ln
 ·have hl1i:(1048576:Int)<(ln:Int):=by omega
  clear ha hb;go_enter Tryz.func3,Tryz.ntmps3;go_wp2;go_ret;exact ⟨rfl,ZZb _ _⟩
 have hl1i:¬ (1048576:Int)<(ln:Int):=by omega
 by_cases hm1:1048576<lm
 ·have hm1i:(1048576:Int)<(lm:Int):=by omega
  clear ha hb;go_enter Tryz.func3,Tryz.ntmps3;go_wp2;go_ret;exact ⟨rfl,ZZb _ _⟩
 have hm1i:¬ (1048576:Int)<(lm:Int):=by omega
 have HCa:=Qaa (ha (by omega));have HCb:=Qaa (hb (by omega));have HM:=Qaa hx;clear ha hb hx hl1 hm1;go_enter Tryz.func3,Tryz.ntmps3;go_wp2_with fail;refine (QgH HCa.out).mono ?_;rintro e w1 ⟨nm,ax,n,cp,L,win,x,rfl,dc,nz,ox,hb0⟩;obtain ⟨hb1,hrow,hsx⟩:=Qot w1 nm (.slice ax n cp) x;have LN:=dc.len;have CAP:=dc.cap;have QL:=Qaa (Qmx dc.sh);have I1:=Qaa (dc.sh.past hb1);have OX:=Qaa ox;have RS:=Qaa hrow;have RX:=Qaa hsx;have HT1:=Qaa (Qad hb0 hb1);have LE:=Qaa dc.hn;clear dc ox hrow hsx hb0 hb1;have nmz:nm.size<=maxLen:=by unfold maxLen;omega
 clear nz;go_upto_region 4 with fail;generalize (w1.alloc (.cells #[.string nm,.slice ax n cp] 25)).alloc (.cells (Qax x) 28)=W1 at I1 RS RX HT1 ⊢;generalize w1.heap.size+1=gx at RX ⊢;generalize w1.heap.size=gs at RS ⊢;have s0:=Qaw RS.out 0 rfl;have s1:=Qaw RS.out 1 rfl;obtain ⟨x0,x1,x2,x3,x4,x5,x6⟩:=Qau RX.out;go_wp2_with fail;clear s0 s1 x0 x1 x2 x3 x4 x5 x6;refine (Qi0 nm win x nmz OX.out (HM.out.past HT1.out) I1.out).mono ?_;intro e w2 hP;obtain ⟨n1,ar1,m1,c1,ap1,cq1,P,cp1,rfl,ha1,px1,hb2⟩:=hP.box;have PA1:=Qaa ha1;have PX1:=Qaa px1;have HT2:=Qaa (Qad HT1.out hb2);have I2:=Qaa (I1.out.past hb2);have RS2:=Qaa (Qa0 RS.out hb2);have RX2:=Qaa (Qa0 RX.out hb2);clear hP ha1 px1 hb2 HT1 I1 RS RX;go_upto_region 5 with fail;generalize w2.alloc (.cells #[.string n1,.slice ar1 m1 c1,.slice ap1 0 cq1,.int .i64 cp1] 32)=W2 at PX1 HT2 I2 RS2 RX2 ⊢;generalize w2.heap.size=gy at PX1 ⊢;have s0:=Qaw RS2.out 0 rfl;have s1:=Qaw RS2.out 1 rfl;obtain ⟨x0,x1,x2,x3,x4,x5,x6⟩:=Qau RX2.out;go_wp2_with fail;clear s0 s1 x0 x1 x2 x3 x4 x5 x6;refine (QbU nm win x nmz OX.out I2.out CAP).mono ?_;intro e w3 hP;obtain ⟨n2,ar2,m2,c2,ap2,cq2,Q,cp2,rfl,ha2,px2,hb3⟩:=hP.box;obtain ⟨rfl,EK,_,rfl⟩:=PA1.out.same ha2;have EK:=Qaa EK;have PX2:=Qaa px2;have PX1b:=Qaa (PX1.out.past hb3);have HT3:=Qaa (Qad HT2.out hb3);have I3:=Qaa (I2.out.past hb3);have RS3:=Qaa (Qa0 RS2.out hb3);obtain ⟨lP,qP,zP⟩:=PA1.out.qS QL.out OX.out;obtain ⟨lQ,qQ,_⟩:=ha2.qS QL.out OX.out;have QP:=Qaa qP;have QQ:=Qaa qQ;have ZP:=Qaa zP;clear hP ha2 px2 hb3 HT2 I2 RS2 RX2 PX1 qP qQ zP;go_upto_region 6 with fail;generalize w3.alloc (.cells #[.string n1,.slice ar2 m2 c2,.slice ap2 0 cq2,.int .i64 cp1] 32)=W3 at PX2 PX1b HT3 I3 RS3 ⊢;generalize w3.heap.size=gw at PX2 ⊢;obtain ⟨y0,y1,y3⟩:=PX1b.out.cells;obtain ⟨z0,z1,z3⟩:=PX2.out.cells;have SP:=Qaa (PX1b.out.sh lP QP.out);have SQ:=Qaa (PX2.out.sh lQ QQ.out);have ECS:Hid (csB P Q=true):=Qi5 EK.out (by omega);go_wp2_with fail;clear y0 y1 y3 z0 z1 z3;refine (Qel SP.out.hN SQ.out.hN SP.out.lN SQ.out.lN SP.out.sm SQ.out.sm SP.out.mem SQ.out.mem).mono ?_;rintro e w4 ⟨rfl,hb4⟩;rw [ECS.out];have PX4:=Qaa (PX1b.out.past hb4);have SP4:=Qaa (SP.out.past hb4);have HT4:=Qaa (Qad HT3.out hb4);have RS4:=Qaa (Qa0 RS3.out hb4);clear hb4 PX1b PX2 HT3 I3 RS3 SP SQ ECS EK;go_upto_region 8 with fail
 go_cut [79] (fun v w'=>v=.bool false/\Hid (Below w.heap.size w w'))
 case first=>
  obtain ⟨y0,y1,y3⟩:=PX4.out.cells;have s0:=Qaw RS4.out 0 rfl;have s1:=Qaw RS4.out 1 rfl;by_cases hc:cp1=0
  ·obtain ⟨_,_,rfl,hsh,hlen⟩:=ZP.out hc
   subst hc;have HSH:=Qaa hsh;have hlz:m1<=n+1:=by have:=PX4.out.l;have:=LE.out;omega
   have hadd:IntKind.i64.wrap ((n:Int)+1)=((n+1:Nat):Int):=by rw [show (n:Int)+1=((n+1:Nat):Int) by omega];exact ZZi _ ⟨by omega,by omega⟩
   have hgt:¬ (((n+1:Nat):Int)<(m1:Int)):=by omega
   have hgt2:decide (((n+1:Nat):Int)<(m1:Int))=false:=ZZg hgt;clear hsh hlen;go_wp2_with fail;refine (QcH n1 nmz SP4.out.hN SP4.out.lN SP4.out.ok SP4.out.sm SP4.out.ss (HM.out.past HT4.out) SP4.out.mem).mono ?_;rintro e w5 ⟨rfl,hb5⟩;rw [HSH.out];have HT5:=Qaa (Qad HT4.out hb5);have y0:=Qaw (Qa0 PX4.out.y hb5) 0 rfl;have y1:=Qaw (Qa0 PX4.out.y hb5) 1 rfl;have s0:=Qaw (Qa0 RS4.out hb5) 0 rfl;have s1:=Qaw (Qa0 RS4.out hb5) 1 rfl;clear hb5;go_wp2;go_meet;exact ⟨congrArg Value.bool (ZZg (by omega)),HT5⟩
  ·have hcb:(cp1 == 0)=false:=ZZf.2 hc
   go_wp2;go_meet;exact ⟨rfl,HT4⟩
 case rest=>
 obtain ⟨rfl,HT5⟩:=hcut;obtain ⟨w5,hw5⟩:∃ X,wc=X:=⟨_,rfl⟩;rw [hw5] at HT5 ⊢;clear hw5 PX4 SP4 HT4 RS4 PA1 QP QQ ZP lP lQ;go_wp2_with fail;refine (Qf1 (Qf4 (B:=w5.heap.size) HCb.out HT5.out (ZZa _) HT5.out.size)).mono ?_;rintro e w6 ⟨nmt,at_,nt,ct,T,v,rfl,dt,tz,hb6⟩;have al6:Below w6.heap.size w6 (w6.alloc (.cells #[.string nmt,.slice at_ nt ct] 25)):=(ZZb _ _).alloc (ZZa _) _;have LT:=dt.len;have QT:=Qaa (Qmx dt.sh);have IT:=Qaa (dt.sh.past al6);have RT:=Qaa (ZZk w6 (.cells #[.string nmt,.slice at_ nt ct] 25));have HT6:=Qaa (Qad (Qad HT5.out hb6) al6);have TE:=Qaa dt.hn;have tmz:nmt.size<=maxLen:=by unfold maxLen;omega
 clear dt tz hb6 al6 HT5;go_upto_region 11 with fail;generalize w6.alloc (.cells #[.string nmt,.slice at_ nt ct] 25)=W6 at IT RT HT6 ⊢;generalize w6.heap.size=gt at RT ⊢;have s0:=Qaw RT.out 0 rfl;have s1:=Qaw RT.out 1 rfl;go_wp2_with fail;clear s0 s1;refine (QhV nmt v tmz (HM.out.past HT6.out) IT.out).mono ?_;intro e w7 hP;obtain ⟨nz,ar,m,c,ap,p,q,Rz,Oz,cz,rfl,ha,px,hb7⟩:=hP.box;have TA:=Qaa ha;have TX:=Qaa px;have IT7:=Qaa (IT.out.past hb7);have RT7:=Qaa (Qa0 RT.out hb7);have HT7:=Qaa (Qad HT6.out hb7);obtain ⟨lRz,qRz,lOz,qOz⟩:=ha.q (by have:=TE.out;omega) QT.out;have QR:=Qaa qRz;have QO:=Qaa qOz;clear hP ha px hb7 IT RT HT6 qRz qOz;go_upto_region 12 with fail;generalize w7.alloc (.cells #[.string nz,.slice ar m c,.slice ap p q,.int .i64 cz] 32)=W7 at TX IT7 RT7 HT7 ⊢;generalize w7.heap.size=gz at TX ⊢;have FC:Hid (∀ W,Below W7.heap.size W7 W->(W.cell? ⟨gz,0,none⟩=some (.string nz)/\W.cell? ⟨gz,1,none⟩=some (.slice ar m c)/\W.cell? ⟨gz,2,none⟩=some (.slice ap p q)/\W.cell? ⟨gz,3,none⟩=some (.int .i64 cz))/\(W.cell? ⟨gt,0,none⟩=some (.string nmt)/\W.cell? ⟨gt,1,none⟩=some (.slice at_ nt ct))):=fun W hW=>⟨(TX.out.past hW).cells,Qaw (Qa0 RT7.out hW) 0 rfl,Qaw (Qa0 RT7.out hW) 1 rfl⟩
 go_cut [99] (fun u w'=>u=.bool (cz != 0)/\Hid (Below W7.heap.size W7 w'))
 case first=>
  have HS0:(fun W=>Below W7.heap.size W7 W) W7.drew:=(ZZb _ _).drew;refine Qaj (fun W=>Below W7.heap.size W7 W) 99 (by kernel_rfl) ?_;refine tkS (i:=0) (v:=.pointer (some ⟨gz,3,none⟩)) rfl rfl HS0 ?_;refine tkL (i:=1) (v:=.int .i64 cz) rfl rfl HS0 (fun W hW=>?_) ?_
  ·obtain ⟨⟨z0,z1,z2,z3⟩,⟨t0,t1⟩⟩:=FC.out W hW
   clear hW;go_simp
  refine tkL (i:=2) (v:=.agg #[.string nmt,.slice at_ nt ct]) rfl rfl HS0 (fun W hW=>?_) ?_
  ·obtain ⟨⟨z0,z1,z2,z3⟩,⟨t0,t1⟩⟩:=FC.out W hW
   clear hW;go_simp
  simp only [sA,sB,sC];refine tkS (i:=3) (v:=.int .i64 v) rfl rfl HS0 ?_;simp only [sA,sB,sC];refine onE (i:=4) rfl (fun K hK=>?_);go_simp;refine (Qej nmt v tmz (IT7.out.past HS0)).mono ?_;rintro e w8 ⟨vv,nz2,R2,O2,cz2,rfl,ha2,ho2,hb2⟩;obtain ⟨ar2,ap2,m2,p2,c2,q2,rfl,_⟩:=ho2.open;obtain ⟨e1,_,_,rfl⟩:=TA.out.same ha2;have fd:=fdSo nz2 ar2 ap2 m2 c2 p2 q2 cz;have HB8:Hid (Below W7.heap.size W7 w8):=Qad (HS0:Below W7.heap.size W7 W7.drew) hb2;clear hb2 ho2 ha2;dsimp only;refine hK.out _ _ (fun _=>HB8.out) ?_;clear hK K
  try simp only [Act.put,sA,sB,sC]
  refine tkS (i:=5) (v:=.int .i64 cz) rfl rfl HB8.out ?_;refine tkS (i:=6) (v:=.bool false) rfl rfl HB8.out ?_;refine tkS (i:=7) (v:=.bool false) rfl rfl HB8.out ?_;simp only [sA,sB,sC];refine tkS (i:=8) (v:=.pointer (some ⟨gz,3,none⟩)) rfl rfl HB8.out ?_;refine tkL (i:=9) (v:=.int .i64 cz) rfl rfl HB8.out (fun W hW=>?_) ?_
  ·obtain ⟨⟨z0,z1,z2,z3⟩,⟨t0,t1⟩⟩:=FC.out W hW
   clear hW;go_simp
  refine tkS (i:=10) (v:=.bool (cz != 0)) rfl rfl HB8.out ?_;simp only [sA,sB,sC];refine tkS (i:=11) (v:=.bool (cz != 0)) rfl rfl HB8.out ?_;simp only [sA,sB,sC];refine Qar (by kernel_rfl) ?_ _;go_wp2;go_meet;exact ⟨rfl,HB8⟩
 case rest=>
 obtain ⟨rfl,HB8⟩:=hcut;obtain ⟨w8,hw8⟩:∃ X,wc=X:=⟨_,rfl⟩;rw [hw8] at HB8 ⊢;clear hw8;by_cases hcz:cz=0
 case neg=>
  have hc1:(cz != 0)=true:=bne_iff_ne.2 hcz;rw [hc1];go_wp2_with fail;have HS0:(fun W=>Below W7.heap.size W7 W) w8.drew:=(HB8.out:Below W7.heap.size W7 w8).drew;refine Qaj (fun W=>Below W7.heap.size W7 W) 99 (by kernel_rfl) ?_;refine tkS (i:=0) (v:=.pointer (some ⟨gz,3,none⟩)) rfl rfl HS0 ?_;refine tkL (i:=1) (v:=.int .i64 cz) rfl rfl HS0 (fun W hW=>?_) ?_
  ·obtain ⟨⟨z0,z1,z2,z3⟩,⟨t0,t1⟩⟩:=FC.out W hW
   clear hW;go_simp
  refine tkL (i:=2) (v:=.agg #[.string nmt,.slice at_ nt ct]) rfl rfl HS0 (fun W hW=>?_) ?_
  ·obtain ⟨⟨z0,z1,z2,z3⟩,⟨t0,t1⟩⟩:=FC.out W hW
   clear hW;go_simp
  simp only [sA,sB,sC];refine tkS (i:=3) (v:=.int .i64 v) rfl rfl HS0 ?_;simp only [sA,sB,sC];refine onE (i:=4) rfl (fun K hK=>?_);go_simp;refine (Qej nmt v tmz (IT7.out.past HS0)).mono ?_;rintro e w9 ⟨vv,nz2,R2,O2,cz2,rfl,ha2,ho2,hb2⟩;obtain ⟨ar2,ap2,m2,p2,c2,q2,rfl,_⟩:=ho2.open;obtain ⟨e1,_,_,rfl⟩:=TA.out.same ha2;have fd:=fdSo nz2 ar2 ap2 m2 c2 p2 q2 cz;have HB9:Hid (Below W7.heap.size W7 w9):=Qad (HS0:Below W7.heap.size W7 w8.drew) hb2;clear hb2 ho2 ha2;dsimp only;refine hK.out _ _ (fun _=>HB9.out) ?_;clear hK K
  try simp only [Act.put,sA,sB,sC]
  refine tkS (i:=5) (v:=.int .i64 cz) rfl rfl HB9.out ?_;refine tkS (i:=6) (v:=.bool true) rfl rfl HB9.out ?_;simp only [sA,sB,sC];refine onE (i:=7) rfl (fun K hK=>?_);go_simp;refine hK.out _ _ (fun _=>HB9.out) ?_;clear hK K
  try simp only [Act.put,sA,sB,sC]
  refine Qar (by kernel_rfl) ?_ _;go_wp2;go_ret;exact ⟨rfl,Qad HT7.out HB9.out⟩
 case pos=>
 subst hcz
 obtain ⟨hL,hnz,hk1,hk2⟩:csR T=true/\nz=nmt/\Rz.map Ce.key=(T.filter (fun c=>!isW v c)).map Ce.key/\Oz.map Ce.key=(T.filter (isW v)).map Ce.key:=by
  rcases TA.out.cases with ⟨_,a,b,c,d⟩ | ⟨a,_⟩
  ·exact ⟨a,b,c,d⟩
  ·exact absurd rfl a
 subst hnz;have HL:=Qaa hL;have K1:=Qaa hk1;have K2:=Qaa hk2;have WO:Hid (∀ c∈Oz,c.n=v):=QmQ hk2 (fun k=>k=v) (fun c h=>by simpa [isW] using h);have WR:Hid (∀ c∈Rz,c.n≠v):=QmQ hk1 (fun k=>k≠v) (fun c h=>by simpa [isW] using h);clear hL hk1 hk2;have TX8:=Qaa (TX.out.past HB8.out);have HT8:=Qaa (Qad HT7.out HB8.out);have SR:=Qaa (TX8.out.shR lRz QR.out);have SO:=Qaa (TX8.out.shO lOz QO.out);have IT8:=Qaa (IT7.out.past HB8.out);have RT8:=Qaa (Qa0 RT7.out HB8.out);clear TX IT7 RT7 HT7 HB8 FC;obtain ⟨z0,z1,z2,z3⟩:=TX8.out.cells;have OL:=Qaa TX8.out.k;have RL:=Qaa TX8.out.l;have pm:p<=61:=by have:=TX8.out.k;omega
 have mm:m<=61:=by have:=TX8.out.l;omega
 have AO:=Qaa SO.out.mem;have AR:=Qaa SR.out.mem;have bf:((0:Int) != 0)=false:=rfl;go_upto_block 0 with fail
 go_cut [13] (fun i w'=>Hid (w'=w8))
 case first=>
  go_wp2
  go_loopw [13] (fun i wr=>Hid (wr=w8)/\∃ (k:Nat),k<=p/\i=.int .i64 k) (fun i wr=>p - (Go.RowKit.intOf i).toNat)
  case atStart=>exact ⟨Qaa rfl,0,ZZj _,rfl⟩
  case round=>
   obtain ⟨HE,k,hk,rfl⟩:=hrel;obtain rfl:=HE.out;clear HE;by_cases hkp:k<p
   ·obtain ⟨d,hd⟩:∃ d,Oz[k]?=some d:=⟨Oz[k]'(by have:=OL.out;omega),ZZe _⟩
    obtain ⟨b,off,hap,hcell⟩:=AO.out.1 (by have:=OL.out;omega);subst hap;obtain ⟨q0,_⟩:=hcell k d hd;have hdn:(d.n == v)=true:=by rw [WO.out d (List.mem_of_getElem? hd)];simp
    have hdb:(d.n != v)=false:=by rw [WO.out d (List.mem_of_getElem? hd)];simp
    have hki:(k:Int)<(p:Int):=by omega
    have hwk:IntKind.i64.wrap ((k:Int)+1)=((k+1:Nat):Int):=by rw [show (k:Int)+1=((k+1:Nat):Int) by omega];exact ZZi _ ⟨by omega,by omega⟩
    clear hcell hd;go_wp2;go_roundw
    case rel=>exact ⟨Qaa (by first | trivial | rfl),k+1,by omega,by first | rfl | go_num⟩
    case measure=>first | (simp [Go.RowKit.intOf];omega) | (simp [RowKit.intOf];omega) | (simp [Go.Lib.intOf];omega)
   ·have hki:¬ (k:Int)<(p:Int):=by omega
    go_wp2;go_meet;exact Qaa rfl
 case rest=>
 have ew:=hcut.out;rw [ew];clear ew hcut;go_upto_block 2 with fail
 go_cut [14] (fun i w'=>Hid (w'=w8))
 case first=>
  go_wp2
  go_loopw [14] (fun i wr=>Hid (wr=w8)/\∃ (k:Nat),k<=m/\i=.int .i64 k) (fun i wr=>m - (Go.RowKit.intOf i).toNat)
  case atStart=>exact ⟨Qaa rfl,0,ZZj _,rfl⟩
  case round=>
   obtain ⟨HE,k,hk,rfl⟩:=hrel;obtain rfl:=HE.out;clear HE;by_cases hkp:k<m
   ·obtain ⟨d,hd⟩:∃ d,Rz[k]?=some d:=⟨Rz[k]'(by have:=RL.out;omega),ZZe _⟩
    obtain ⟨b,off,hap,hcell⟩:=AR.out.1 (by have:=RL.out;omega);subst hap;obtain ⟨q0,_⟩:=hcell k d hd;have hdn:(d.n == v)=false:=ZZf.2 (WR.out d (ZZn hd));have hki:(k:Int)<(m:Int):=by omega
    have hwk:IntKind.i64.wrap ((k:Int)+1)=((k+1:Nat):Int):=by rw [show (k:Int)+1=((k+1:Nat):Int) by omega];exact ZZi _ ⟨by omega,by omega⟩
    clear hcell hd;go_wp2;go_roundw
    case rel=>exact ⟨Qaa (by first | trivial | rfl),k+1,by omega,by first | rfl | go_num⟩
    case measure=>first | (simp [Go.RowKit.intOf];omega) | (simp [RowKit.intOf];omega) | (simp [Go.Lib.intOf];omega)
   ·have hki:¬ (k:Int)<(m:Int):=by omega
    go_wp2;go_meet;exact Qaa rfl
 case rest=>
 have ew:=hcut.out;rw [ew];clear ew hcut;clear z0 z1 z2 z3 bf AO AR;go_wp2_with fail;have FC:Hid (∀ W,Below w8.heap.size w8 W->(W.cell? ⟨gz,0,none⟩=some (.string nz)/\W.cell? ⟨gz,1,none⟩=some (.slice ar m c)/\W.cell? ⟨gz,2,none⟩=some (.slice ap p q)/\W.cell? ⟨gz,3,none⟩=some (.int .i64 0))/\(W.cell? ⟨gt,0,none⟩=some (.string nz)/\W.cell? ⟨gt,1,none⟩=some (.slice at_ nt ct))):=fun W hW=>⟨(TX8.out.past hW).cells,Qaw (Qa0 RT8.out hW) 0 rfl,Qaw (Qa0 RT8.out hW) 1 rfl⟩;have HS0:(fun W=>Below w8.heap.size w8 W) w8.drew:=(ZZb _ _).drew;refine Qaj (fun W=>Below w8.heap.size w8 W) 99 (by kernel_rfl) ?_;refine tkS (i:=0) (v:=.pointer (some ⟨gz,0,none⟩)) rfl rfl HS0 ?_;refine tkS (i:=1) (v:=.pointer (some ⟨gz,0,none⟩)) rfl rfl HS0 ?_;refine tkL (i:=2) (v:=.string nz) rfl rfl HS0 (fun W hW=>?_) ?_
 ·obtain ⟨⟨z0,z1,z2,z3⟩,⟨t0,t1⟩⟩:=FC.out W hW
  clear hW;go_simp
 simp only [sA,sB,sC];refine tkS (i:=3) (v:=.pointer (some ⟨gt,0,none⟩)) rfl rfl HS0 ?_;refine tkL (i:=4) (v:=.string nz) rfl rfl HS0 (fun W hW=>?_) ?_
 ·obtain ⟨⟨z0,z1,z2,z3⟩,⟨t0,t1⟩⟩:=FC.out W hW
  clear hW;go_simp
 refine tkS (i:=5) (v:=.bool true) rfl rfl HS0 ?_;simp only [sA,sB,sC];refine tkS (i:=6) (v:=.bool true) rfl rfl HS0 ?_;refine tkS (i:=7) (v:=.pointer (some ⟨gz,2,none⟩)) rfl rfl HS0 ?_;refine tkL (i:=8) (v:=.slice ap p q) rfl rfl HS0 (fun W hW=>?_) ?_
 ·obtain ⟨⟨z0,z1,z2,z3⟩,⟨t0,t1⟩⟩:=FC.out W hW
  clear hW;go_simp
 simp only [sA,sB,sC];refine tkS (i:=9) (v:=.pointer (some ⟨gz,0,none⟩)) rfl rfl HS0 ?_;refine tkS (i:=10) (v:=.pointer (some ⟨gz,1,none⟩)) rfl rfl HS0 ?_;refine tkL (i:=11) (v:=.slice ar m c) rfl rfl HS0 (fun W hW=>?_) ?_
 ·obtain ⟨⟨z0,z1,z2,z3⟩,⟨t0,t1⟩⟩:=FC.out W hW
  clear hW;go_simp
 simp only [sA,sB,sC];refine tkS (i:=13) (v:=.pointer (some ⟨gt,1,none⟩)) rfl rfl HS0 ?_;refine tkL (i:=14) (v:=.slice at_ nt ct) rfl rfl HS0 (fun W hW=>?_) ?_
 ·obtain ⟨⟨z0,z1,z2,z3⟩,⟨t0,t1⟩⟩:=FC.out W hW
  clear hW;go_simp
 simp only [sA,sB,sC];refine onE (i:=12) rfl (fun K hK=>?_);go_simp;refine (QgF ((HM.out.past HT8.out).past HS0) (SO.out.past HS0) (SR.out.past HS0)).mono ?_;intro e w10 hP;obtain ⟨am3,nm3,cm3,Z,rfl,hz,shz,lz,qz,hb10⟩:=hP.sh (fun _=>QO.out) (fun _=>QR.out);have EZ:=Qaa (Qn9 HL.out K2.out K1.out hz);have SZ:=Qaa shz;have HB10:Hid (Below w8.heap.size w8 w10):=Qad (HS0:Below w8.heap.size w8 w8.drew) hb10;have EQ:Hid (csB Z T=true):=Qi5 EZ.out (by have:=TE.out;omega);clear hP hz shz qz hb10;dsimp only;refine hK.out _ _ (fun _=>HB10.out) ?_;clear hK K
 try simp only [Act.put,sA,sB,sC]
 refine onE (i:=15) rfl (fun K hK=>?_);go_simp;refine (Qel SZ.out.hN IT8.out.hN SZ.out.lN IT8.out.lN SZ.out.sm IT8.out.sm SZ.out.mem (QaQ IT8.out.mem HB10.out)).mono ?_;rintro e w11 ⟨rfl,hb11⟩;rw [EQ.out];have HB11:=Qaa (Qad HB10.out hb11);clear hb11;dsimp only;refine hK.out _ _ (fun _=>HB11.out) ?_;clear hK K
 try simp only [Act.put,sA,sB,sC]
 refine tkS (i:=16) (v:=.bool true) rfl rfl HB11.out ?_;simp only [sA,sB,sC];refine onE (i:=17) rfl (fun K hK=>?_);go_simp;refine hK.out _ _ (fun _=>HB11.out) ?_;clear hK K
 try simp only [Act.put,sA,sB,sC]
 refine Qar (by kernel_rfl) ?_ _;go_wp2;go_ret;exact ⟨rfl,Qad HT8.out HB11.out⟩
end Go.Proofs.YthchmdmncmioiaaGreatDoor
