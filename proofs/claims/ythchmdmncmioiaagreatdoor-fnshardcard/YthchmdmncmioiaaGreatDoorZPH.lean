/-
 l08Put of the model.
-/
import Derived.Test.YthchmdmncmioiaaGreatDoorZPG
set_option maxHeartbeats 8000000
namespace Go.Proofs.YthchmdmncmioiaaGreatDoor
set_option linter.unusedVariables false
set_option linter.unusedSimpArgs false
open Go.ChangeShapes Go.WideShapes Go.ChangeAt Go.RowKit Go.PlainAid Go.Lib Go.Maps
set_option maxRecDepth 10000
theorem Qlf {w:World} {r:Nat} {T:TypeId} {u0 u1 u2 u3 u4 u5 u6 u7 u8 u9 u10 u11 u12 u13 u14:Value} (h:w.heap[r]?=some (.cells #[u0,u1,u2,u3,u4,u5,u6,u7,u8,u9,u10,u11,u12,u13,u14] T (0,0))) (v0 v1 v2 v3 v4 v5 v6 v7 v8 v9 v10 v11 v12 v13 v14:Value) :
  (((((((((((((((w.setCell ⟨r,0,none⟩ (v0)).setCell ⟨r,1,none⟩ (v1)).setCell ⟨r,2,none⟩ (v2)).setCell ⟨r,3,none⟩ (v3)).setCell ⟨r,4,none⟩ (v4)).setCell ⟨r,5,none⟩ (v5)).setCell ⟨r,6,none⟩ (v6)).setCell ⟨r,7,none⟩ (v7)).setCell ⟨r,8,none⟩ (v8)).setCell ⟨r,9,none⟩ (v9)).setCell ⟨r,10,none⟩ (v10)).setCell ⟨r,11,none⟩ (v11)).setCell ⟨r,12,none⟩ (v12)).setCell ⟨r,13,none⟩ (v13)).setCell ⟨r,14,none⟩ (v14)).heap[r]?=some (.cells #[v0,v1,v2,v3,v4,v5,v6,v7,v8,v9,v10,v11,v12,v13,v14] T (0,0)):=
 Qme (ZZl _ r 1 _ _ v1 (ZZl _ r 0 _ _ v0 h))
theorem QfC {w0 w:World} {r:Nat} (h:Below w0.heap.size w0 w) (hr:w0.heap.size<=r) (v0 v1 v2 v3 v4 v5 v6 v7 v8 v9 v10 v11 v12 v13 v14:Value) :
  Below w0.heap.size w0 (((((((((((((((w.setCell ⟨r,0,none⟩ (v0)).setCell ⟨r,1,none⟩ (v1)).setCell ⟨r,2,none⟩ (v2)).setCell ⟨r,3,none⟩ (v3)).setCell ⟨r,4,none⟩ (v4)).setCell ⟨r,5,none⟩ (v5)).setCell ⟨r,6,none⟩ (v6)).setCell ⟨r,7,none⟩ (v7)).setCell ⟨r,8,none⟩ (v8)).setCell ⟨r,9,none⟩ (v9)).setCell ⟨r,10,none⟩ (v10)).setCell ⟨r,11,none⟩ (v11)).setCell ⟨r,12,none⟩ (v12)).setCell ⟨r,13,none⟩ (v13)).setCell ⟨r,14,none⟩ (v14)):=
 ((((((((((((((h.setCell hr v0).setCell hr v1).setCell hr v2).setCell hr v3).setCell hr v4).setCell hr v5).setCell hr v6).setCell hr v7).setCell hr v8).setCell hr v9).setCell hr v10).setCell hr v11).setCell hr v12).setCell hr v13).setCell hr v14
theorem Qhw {w:World} {k:Int} (h1:1<=k) (h4:k<=4):Calls Tryz.prog 95 #[.int .i64 k] w fun e w'=>e=.returned (.agg (Qal (QaR k) pl0))/\Below w.heap.size w w':=by
 refine (QlO k w).mono (fun e w' h=>?_);have e:QaR k=⟨k,0,0,0,0,if k=2 then -1 else 0,0,[],[],0,0,[],[]⟩:=by unfold QaR;rw [if_pos ⟨h1,h4⟩]
 rw [e] at h ⊢;exact h
theorem CesO.app {w w':World} {B:Nat} {L M:List Ce} (h:CesO w B L) (hb:Below w.heap.size w w') (hB:B<=w.heap.size) (hM:CesO w' w.heap.size M):CesO w' B (L ++ M):=by
 refine ⟨fun d hd=>?_,List.pairwise_append.2 ⟨h.ap,hM.ap,fun c hc d hd k h1 h2=>?_⟩⟩
 ·rcases List.mem_append.1 hd with hd | hd
  ·exact (h.o d hd).past hb
  ·exact (hM.o d hd).le hB
 ·have k1:=((h.o c hc).lt h1).2
  have k2:=((hM.o d hd).lt h2).1;omega
theorem Qms {w w2 W5 w6:World} {G:Nat} {u v':Value} {A:List Ce} {c:Ce} (hr:OwnC w2 w.heap.size u A) (ho:CesO w2 w.heap.size A) (hb2:Below w.heap.size w w2) (hb5:Below w2.heap.size w2 W5) (hG:w2.heap.size<=G) (ha:AgO W5 (G+1) c.g c.p)
  (hown:w6.ownsRow w.heap.size 51 15 v' (A.length+1) (flC A ++ ceL c)) (hg:(W5.alloc (.cells (Qao c) 51)).grownBy w6 u.ownBlock):OwnC w6 w.heap.size v' (A ++ [c])/\CesO w6 w.heap.size (A ++ [c])/\Below w.heap.size w w6:=by
 have hb4:Below w2.heap.size w2 (W5.alloc (.cells (Qao c) 51)):=hb5.alloc hb5.size _;have hbw:Below w.heap.size w (W5.alloc (.cells (Qao c) 51)):=hb2.trans (hb4.mono hb2.size);have a2:Below W5.heap.size W5 (W5.alloc (.cells (Qao c) 51)):=(ZZb _ _).alloc (ZZa _) _;have hO:=ho.add hb4 hb2.size (c:=c) ((ha.past a2).le (by omega));have hR:OwnC (W5.alloc (.cells (Qao c) 51)) w.heap.size u A:=hr.past hb4;have hp:(c :: A:List Ce).Perm (A ++ [c]):=(List.perm_append_singleton _ _).symm;exact ⟨OwnC.mk hown,(hO.row hR hg).perm hp,hbw.grown hg hbw.size (fun j hj=>(World.ownsRow.lt hr j hj).1)⟩
theorem QhQ {w w6 w7 w8:World} {B:Nat} {v' v'':Value} {A M:List Ce} (hr:OwnC w6 B v' A) (ho:CesO w6 B A) (hB:B<=w6.heap.size) (hb:Below B w w6) (hb7:Below w6.heap.size w6 w7) (hM:CesO w7 w6.heap.size M)
  (hown:w8.ownsRow B 51 15 v'' (A.length+M.length) (flC A ++ flC M)) (hg:w7.grownBy w8 v'.ownBlock):OwnC w8 B v'' (A ++ M)/\CesO w8 B (A ++ M)/\Below B w w8:=by
 refine ⟨?_,(ho.app hb7 hB hM).row (hr.past hb7) hg,(hb.trans (hb7.mono hB)).grown hg (Nat.le_trans hB hb7.size) (fun j hj=>(World.ownsRow.lt hr j hj).1)⟩
 show w8.ownsRow _ _ _ _ _ _
 rw [List.length_append,QhX];exact hown
theorem OwnC.src {w:World} {B:Nat} {v:Value} {M:List Ce} (h:OwnC w B v M) (hn:v≠.slice none 0 0):∃ g cp,v=.slice (some ⟨g,0,none⟩) M.length cp/\∀ j u,(flC M)[j]?=some u->w.cell? ((⟨g,0,none⟩:Addr).add j)=some u:=by
 rcases h.2 with ⟨e,_⟩ | ⟨g,cap,cur,e,q1,q2⟩
 ·exact absurd e hn
 ·subst e
  refine ⟨g,cap,rfl,fun j u hu=>?_⟩;have hj:=(ZZd.1 hu).1;rw [Qdu] at hj;rw [Addr.add_lit,Nat.zero_add,World.ownsRow.cellAt h j hj];exact hu
theorem QfG (M:List Ce):∀ u∈flC M,u.oneCell'=true:=fun u hu=>by
 obtain ⟨m,_,h⟩:=List.mem_flatMap.1 hu;exact Qcx m u h
theorem QeL {k:Int} (h1:1<=k) (h4:k<=4):agB (QaR k)=true/\AgOk (QaR k)/\AgSm (QaR k)/\(QaR k).k=k/\∀ w B,AgO w B (QaR k) pl0:=by
 have e:QaR k=⟨k,0,0,0,0,if k=2 then -1 else 0,0,[],[],0,0,[],[]⟩:=by unfold QaR;rw [if_pos ⟨h1,h4⟩]
 have zi:I64 0:=by unfold I64;omega
 have zu:U64 0:=by unfold U64;omega
 refine ⟨?_,?_,?_,by rw [e],fun w B=>?_⟩
 ·have:k=1∨k=2∨k=3∨k=4:=by omega
  rcases this with rfl | rfl | rfl | rfl <;> rfl
 ·rw [e]
  exact ⟨by show I64 k;unfold I64;omega,zu,zi,zu,zi,by show I64 (if k=2 then -1 else 0);split <;> (unfold I64;omega),zu,zi,zu,(fun b hb=>by cases hb),(fun b hb=>by cases hb),(fun b hb=>by cases hb),(fun b hb=>by cases hb)⟩
 ·rw [e];exact ⟨ZZj _,ZZj _,ZZj _,ZZj _⟩
 ·rw [e];exact AgO.nil _ _ rfl rfl rfl rfl
theorem QjZ {w0 w:World} {r:Nat} (h:Below w0.heap.size w0 w) (hr:w0.heap.size<=r) (v0 v1 v2 v3 v4 v5 v6 v7 v8 v9 v10 v11 v12:Value) :
  Below w0.heap.size w0 (((((((((((((w.setCell ⟨r,2,none⟩ (v0)).setCell ⟨r,3,none⟩ (v1)).setCell ⟨r,4,none⟩ (v2)).setCell ⟨r,5,none⟩ (v3)).setCell ⟨r,6,none⟩ (v4)).setCell ⟨r,7,none⟩ (v5)).setCell ⟨r,8,none⟩ (v6)).setCell ⟨r,9,none⟩ (v7)).setCell ⟨r,10,none⟩ (v8)).setCell ⟨r,11,none⟩ (v9)).setCell ⟨r,12,none⟩ (v10)).setCell ⟨r,13,none⟩ (v11)).setCell ⟨r,14,none⟩ (v12)):=
 ((((((((((((h.setCell hr v0).setCell hr v1).setCell hr v2).setCell hr v3).setCell hr v4).setCell hr v5).setCell hr v6).setCell hr v7).setCell hr v8).setCell hr v9).setCell hr v10).setCell hr v11).setCell hr v12
theorem Qoe {w:World} {ao:Option Addr} {N ca:Nat} {L:List Ce} (win:Int) (x:Sx) (hx:x.B=true) (ox:x.Ok) (hI:ShI w ao N L) (hca:N<=ca) (asc:AscC L) (rt:∀ c∈L,agB c.g=true) :
  Calls Tryz.prog 48 #[.slice ao N ca,.int .i64 win,.agg (Qax x)] w fun e w'=>∃ v R code,e=.returned (.tuple #[v,.int .i64 code])/\PuA L win x R code/\OwnC w' w.heap.size v R/\CesO w' w.heap.size R/\Below w.heap.size w w':=by
 obtain ⟨i0,hi,hz0,hz1,hz2⟩:=QiS;have II:=Qaa hI;have HX:=Qaa hx;have OX:=Qaa ox;have AS:=Qaa asc;have RT:=Qaa rt;have HB0:Hid (Below w.heap.size w (w.alloc (.cells (Qax x) 28))):=(ZZb _ _).alloc (ZZa _) _;have X0:=Qaa (ZZk w (.cells (Qax x) 28));have S0:Hid ((w.alloc (.cells (Qax x) 28)).heap.size=w.heap.size+1):=by show _=_;simp
 have z1:=Qaq X0.out 1 rfl;obtain ⟨g0,hg0⟩:∃ g,g=QaR x.k:=⟨_,rfl⟩;obtain ⟨p0,hp0⟩:∃ p,p=pl0:=⟨_,rfl⟩;have HG:=Qaa hg0;have HPl:=Qaa hp0;have K1:=Qaa (Qbi hx).1.1;have K4:=Qaa (Qbi hx).1.2;clear hI hx ox asc rt hg0 hp0;go_enter Tryz.func48,Tryz.ntmps48;go_wp2_with fail;clear z1;generalize w.alloc (.cells (Qax x) 28)=W0 at HB0 X0 S0 ⊢;refine (QlC win x.se II.out.hN II.out.lN (QaQ II.out.mem HB0.out)).mono ?_;rintro e w1 ⟨k,is,rfl,hp,hb1⟩;have HP:=Qaa hp;have HB1:=Qaa (Qad HB0.out hb1);have X1:=Qaa (Qak X0.out hb1);have S1:Hid (w.heap.size+1<=w1.heap.size):=by show _<=_;have:=hb1.size;have:=S0.out;omega
 have hkN:k<=N:=by have:=hp.le;have:=II.out.hN;omega
 clear hp hb1 HB0 X0 S0
 cases is with
 | true=>
  obtain ⟨c,hc,hm,e1,e2,_⟩:=Ql8 AS.out HP.out;have hkn:k<N:=by have:=(ZZd.1 hc).1;have:=II.out.hN;omega
  have hkni:(k:Int)<(N:Int):=by omega
  obtain ⟨b,off,e,hcell⟩:=II.out.mem.1 (by have:=II.out.hN;omega);subst e;obtain ⟨_,_,y2,_⟩:=Qai (hcell k c hc) HB1.out;have HC:=Qaa hc;have HM:=Qaa hm;have E1:=Qaa e1;have E2:=Qaa e2;have HCe:=Qaa hcell;have z0:=Qaq X1.out 0 rfl;clear hc hm e1 e2 hcell;by_cases hk:c.g.k=x.k
  ·have bk:(c.g.k == x.k)=true:=by simp [hk]
   have HK:=Qaa hk;have hk0:(0:Int)<=(k:Int):=by omega
   have hkc:(k:Int)<=(ca:Int):=by omega
   clear hk;go_upto_region 2 with fail
   go_region_held3 (fun W=>W.cell? ⟨b,off+k*15+2,none⟩=some (.int .i64 c.g.k)/\W.cell? ⟨w.heap.size,0,none⟩=some (.int .i64 x.k))
    (exact ⟨by simpa using y2,by simpa using z0⟩)
    (fail)
   clear y2 z0;have HTk:Hid ((L.take k).length=k):=by show _=_;rw [List.length_take];have:=II.out.hN;omega
   have lk:k<=1048576:=by have:=II.out.lN;omega
   go_wp2_with fail;refine (QbK (L:=L.take k) HTk.out lk (fun d hd=>II.out.sm d (ZZo hd)) (fun d hd=>II.out.pl d (ZZo hd)) (QaQ (Qk1 II.out.mem) HB1.out.drew)).mono ?_;rintro e w2 ⟨vA,A,rfl,hr,ho,hkA,hb2,hnl⟩;have HB2:=Qaa (Qad HB1.out.drew hb2);have X2:=Qaa (Qak (w:=w1.drew) X1.out hb2);have HRA:=Qaa (hr.le HB1.out.drew.size);have HOA:=Qaa (ho.le HB1.out.drew.size);have HKA:=Qaa hkA;have HNl:=Qaa hnl;clear hr ho hkA hnl hb2;go_upto_region 7 with fail
   go_cut [11] (fun v w'=>∃ G:Nat,v=.pointer (some ⟨G,0,none⟩)/\Hid (w'.heap[G]?=some (.cells (Qao ⟨win,x.se,g0,p0⟩) 51 (0,0)))/\Hid (w2.heap.size<=G)/\Hid (Below w2.heap.size w2 w'))
   case first=>
    have HS0:(fun W=>Below w2.heap.size w2 W) w2.drew:=(ZZb _ _).drew;refine Qaj (fun W=>Below w2.heap.size w2 W) 8 (by kernel_rfl) ?_;refine tkS (i:=0) (v:=.int .i64 win) rfl rfl HS0 ?_;refine tkS (i:=1) (v:=.pointer (some ⟨w.heap.size,1,none⟩)) rfl rfl HS0 ?_;refine tkL (i:=2) (v:=.string x.se) rfl rfl HS0 (fun W hW=>?_) ?_
    ·have q:=Qaq (Qak X2.out hW) 1 rfl
     clear hW;go_simp
    simp only [sA,sB,sC];refine tkS (i:=3) (v:=.pointer (some ⟨w.heap.size,0,none⟩)) rfl rfl HS0 ?_;refine tkL (i:=4) (v:=.int .i64 x.k) rfl rfl HS0 (fun W hW=>?_) ?_
    ·have q:=Qaq (Qak X2.out hW) 0 rfl
     clear hW;go_simp
    simp only [sA,sB,sC];refine Qqs (i:=5) (j:=7) (by kernel_rfl) rfl rfl (fun K hK=>?_) (fun K hK=>?_)
    ·go_simp
     refine (Qhw K1.out K4.out).mono ?_;rintro e w3 ⟨rfl,hb3⟩;rw [<- HG.out,<- HPl.out];have HB3:Hid (Below w2.heap.size w2 w3):=(HS0:Below w2.heap.size w2 _).trans (hb3.mono (HS0:Below w2.heap.size w2 _).size);clear hb3
     try dsimp only
     refine hK.out _ _ (fun _=>HB3.out) ?_;clear hK K
     try simp only [Act.put,sA,sB,sC]
     refine tkS (i:=6) (v:=.agg (Qao ⟨win,x.se,g0,p0⟩)) rfl rfl HB3.out ?_;simp only [sA,sB,sC];refine onE (i:=7) rfl (fun K hK=>?_);go_simp;have HBc:Hid (Below w2.heap.size w2 (w3.alloc (.cells #[.int .i64 0,.string ⟨#[]⟩,.int .i64 0,.int .u64 0,.int .i64 0,.int .u64 0,.int .i64 0,.int .i64 0,.int .u64 0,.slice none 0 0,.slice none 0 0,.int .i64 0,.int .u64 0,.slice none 0 0,.slice none 0 0] 51))):=HB3.out.alloc HB3.out.size _;have R0:=Qaa (ZZk w3 (.cells #[.int .i64 0,.string ⟨#[]⟩,.int .i64 0,.int .u64 0,.int .i64 0,.int .u64 0,.int .i64 0,.int .i64 0,.int .u64 0,.slice none 0 0,.slice none 0 0,.int .i64 0,.int .u64 0,.slice none 0 0,.slice none 0 0] 51))
     try dsimp only
     refine hK.out _ _ (fun _=>HBc.out) ?_;clear hK K
     try simp only [Act.put,sA,sB,sC]
     have hG:Hid (w2.heap.size<=w3.heap.size):=HB3.out.size;generalize w3.alloc (.cells #[.int .i64 0,.string ⟨#[]⟩,.int .i64 0,.int .u64 0,.int .i64 0,.int .u64 0,.int .i64 0,.int .i64 0,.int .u64 0,.slice none 0 0,.slice none 0 0,.int .i64 0,.int .u64 0,.slice none 0 0,.slice none 0 0] 51)=Wa at HBc R0 ⊢;generalize w3.heap.size=G at R0 hG ⊢;obtain ⟨q0,q1,q2,q3,q4,q5,q6,q7,q8,q9,q10,q11,q12,q13,q14⟩:=Qou R0.out;obtain ⟨f0,f1,f2,f3,f4,f5,f6,f7,f8,f9,f10,f11,f12,f13,f14⟩:=fA15 R0.out;refine onE (i:=8) rfl (fun K hK=>?_);go_simp;have HR2:=Qaa (Qlf R0.out (.int .i64 win) (.string x.se) (.int .i64 g0.k) (.int .u64 g0.s) (.int .i64 g0.h) (.int .u64 g0.l) (.int .i64 g0.a) (.int .i64 g0.t) (.int .u64 g0.z) (.slice p0.pa g0.P.length p0.pc) (.slice p0.na g0.N.length p0.nc) (.int .i64 g0.x) (.int .u64 g0.y) (.slice p0.ea g0.E.length p0.ec) (.slice p0.ra g0.R.length p0.rc));have HB5:=Qaa (QfC HBc.out hG.out (.int .i64 win) (.string x.se) (.int .i64 g0.k) (.int .u64 g0.s) (.int .i64 g0.h) (.int .u64 g0.l) (.int .i64 g0.a) (.int .i64 g0.t) (.int .u64 g0.z) (.slice p0.pa g0.P.length p0.pc) (.slice p0.na g0.N.length p0.nc) (.int .i64 g0.x) (.int .u64 g0.y) (.slice p0.ea g0.E.length p0.ec) (.slice p0.ra g0.R.length p0.rc));clear q0 f0 q1 f1 q2 f2 q3 f3 q4 f4 q5 f5 q6 f6 q7 f7 q8 f8 q9 f9 q10 f10 q11 f11 q12 f12 q13 f13 q14 f14;refine hK.out _ _ (fun h=>absurd rfl h) ?_;clear hK K
     try simp only [Act.put,sA,sB,sC]
     generalize (((((((((((((((Wa.setCell ⟨G,0,none⟩ (.int .i64 win)).setCell ⟨G,1,none⟩ (.string x.se)).setCell ⟨G,2,none⟩ (.int .i64 g0.k)).setCell ⟨G,3,none⟩ (.int .u64 g0.s)).setCell ⟨G,4,none⟩ (.int .i64 g0.h)).setCell ⟨G,5,none⟩ (.int .u64 g0.l)).setCell ⟨G,6,none⟩ (.int .i64 g0.a)).setCell ⟨G,7,none⟩ (.int .i64 g0.t)).setCell ⟨G,8,none⟩ (.int .u64 g0.z)).setCell ⟨G,9,none⟩ (.slice p0.pa g0.P.length p0.pc)).setCell ⟨G,10,none⟩ (.slice p0.na g0.N.length p0.nc)).setCell ⟨G,11,none⟩ (.int .i64 g0.x)).setCell ⟨G,12,none⟩ (.int .u64 g0.y)).setCell ⟨G,13,none⟩ (.slice p0.ea g0.E.length p0.ec)).setCell ⟨G,14,none⟩ (.slice p0.ra g0.R.length p0.rc))=W5 at HR2 HB5 ⊢;refine Qar (by kernel_rfl) ?_ _;go_wp2;go_meet;exact ⟨G,rfl,HR2,hG,HB5⟩
    ·go_simp
     have HBa:Hid (Below w2.heap.size w2 (w2.alloc (.cells #[.int .i64 0,.string ⟨#[]⟩,.int .i64 0,.int .u64 0,.int .i64 0,.int .u64 0,.int .i64 0,.int .i64 0,.int .u64 0,.slice none 0 0,.slice none 0 0,.int .i64 0,.int .u64 0,.slice none 0 0,.slice none 0 0] 51)).drew):=((ZZb _ _).alloc (ZZa _) _).drew;have R0:Hid ((w2.alloc (.cells #[.int .i64 0,.string ⟨#[]⟩,.int .i64 0,.int .u64 0,.int .i64 0,.int .u64 0,.int .i64 0,.int .i64 0,.int .u64 0,.slice none 0 0,.slice none 0 0,.int .i64 0,.int .u64 0,.slice none 0 0,.slice none 0 0] 51)).drew.heap[w2.heap.size]?=some (.cells #[.int .i64 0,.string ⟨#[]⟩,.int .i64 0,.int .u64 0,.int .i64 0,.int .u64 0,.int .i64 0,.int .i64 0,.int .u64 0,.slice none 0 0,.slice none 0 0,.int .i64 0,.int .u64 0,.slice none 0 0,.slice none 0 0] 51 (0,0))):=ZZk w2 (.cells #[.int .i64 0,.string ⟨#[]⟩,.int .i64 0,.int .u64 0,.int .i64 0,.int .u64 0,.int .i64 0,.int .i64 0,.int .u64 0,.slice none 0 0,.slice none 0 0,.int .i64 0,.int .u64 0,.slice none 0 0,.slice none 0 0] 51)
     try dsimp only
     refine hK.out _ _ (fun _=>HBa.out) ?_;clear hK K
     try simp only [Act.put,sA,sB,sC]
     generalize (w2.alloc (.cells #[.int .i64 0,.string ⟨#[]⟩,.int .i64 0,.int .u64 0,.int .i64 0,.int .u64 0,.int .i64 0,.int .i64 0,.int .u64 0,.slice none 0 0,.slice none 0 0,.int .i64 0,.int .u64 0,.slice none 0 0,.slice none 0 0] 51)).drew=Wb at HBa R0 ⊢;refine onE (i:=5) rfl (fun K hK=>?_);go_simp;refine (Qhw K1.out K4.out).mono ?_;rintro e Wa ⟨rfl,hb3⟩;rw [<- HG.out,<- HPl.out];have HBc:Hid (Below w2.heap.size w2 Wa):=HBa.out.trans (hb3.mono HBa.out.size);have R1:=Qaa (Qak R0.out hb3);have hG:Hid (w2.heap.size<=w2.heap.size):=ZZa _;clear hb3 R0 HBa
     try dsimp only
     refine hK.out _ _ (fun _=>HBc.out) ?_;clear hK K
     try simp only [Act.put,sA,sB,sC]
     refine tkS (i:=6) (v:=.agg (Qao ⟨win,x.se,g0,p0⟩)) rfl rfl HBc.out ?_;simp only [sA,sB,sC];obtain ⟨q0,q1,q2,q3,q4,q5,q6,q7,q8,q9,q10,q11,q12,q13,q14⟩:=Qou R1.out;obtain ⟨f0,f1,f2,f3,f4,f5,f6,f7,f8,f9,f10,f11,f12,f13,f14⟩:=fA15 R1.out;refine onE (i:=8) rfl (fun K hK=>?_);go_simp;have HR2:=Qaa (Qlf R1.out (.int .i64 win) (.string x.se) (.int .i64 g0.k) (.int .u64 g0.s) (.int .i64 g0.h) (.int .u64 g0.l) (.int .i64 g0.a) (.int .i64 g0.t) (.int .u64 g0.z) (.slice p0.pa g0.P.length p0.pc) (.slice p0.na g0.N.length p0.nc) (.int .i64 g0.x) (.int .u64 g0.y) (.slice p0.ea g0.E.length p0.ec) (.slice p0.ra g0.R.length p0.rc));have HB5:=Qaa (QfC HBc.out hG.out (.int .i64 win) (.string x.se) (.int .i64 g0.k) (.int .u64 g0.s) (.int .i64 g0.h) (.int .u64 g0.l) (.int .i64 g0.a) (.int .i64 g0.t) (.int .u64 g0.z) (.slice p0.pa g0.P.length p0.pc) (.slice p0.na g0.N.length p0.nc) (.int .i64 g0.x) (.int .u64 g0.y) (.slice p0.ea g0.E.length p0.ec) (.slice p0.ra g0.R.length p0.rc));clear q0 f0 q1 f1 q2 f2 q3 f3 q4 f4 q5 f5 q6 f6 q7 f7 q8 f8 q9 f9 q10 f10 q11 f11 q12 f12 q13 f13 q14 f14;refine hK.out _ _ (fun h=>absurd rfl h) ?_;clear hK K
     try simp only [Act.put,sA,sB,sC]
     generalize (((((((((((((((Wa.setCell ⟨w2.heap.size,0,none⟩ (.int .i64 win)).setCell ⟨w2.heap.size,1,none⟩ (.string x.se)).setCell ⟨w2.heap.size,2,none⟩ (.int .i64 g0.k)).setCell ⟨w2.heap.size,3,none⟩ (.int .u64 g0.s)).setCell ⟨w2.heap.size,4,none⟩ (.int .i64 g0.h)).setCell ⟨w2.heap.size,5,none⟩ (.int .u64 g0.l)).setCell ⟨w2.heap.size,6,none⟩ (.int .i64 g0.a)).setCell ⟨w2.heap.size,7,none⟩ (.int .i64 g0.t)).setCell ⟨w2.heap.size,8,none⟩ (.int .u64 g0.z)).setCell ⟨w2.heap.size,9,none⟩ (.slice p0.pa g0.P.length p0.pc)).setCell ⟨w2.heap.size,10,none⟩ (.slice p0.na g0.N.length p0.nc)).setCell ⟨w2.heap.size,11,none⟩ (.int .i64 g0.x)).setCell ⟨w2.heap.size,12,none⟩ (.int .u64 g0.y)).setCell ⟨w2.heap.size,13,none⟩ (.slice p0.ea g0.E.length p0.ec)).setCell ⟨w2.heap.size,14,none⟩ (.slice p0.ra g0.R.length p0.rc))=W5 at HR2 HB5 ⊢;refine Qar (by kernel_rfl) ?_ _;go_wp2;go_meet;exact ⟨w2.heap.size,rfl,HR2,hG,HB5⟩
   case rest=>
    obtain ⟨G,rfl,RG,GG,BG⟩:=hcut;obtain ⟨_,_,y2,y3,y4,y5,y6,y7,y8,y9,y10,y11,y12,y13,y14⟩:=Qai (HCe.out k c HC.out) (Qad HB2.out BG.out);have q2:=Qac RG.out 2 rfl;have q3:=Qac RG.out 3 rfl;have q4:=Qac RG.out 4 rfl;have q5:=Qac RG.out 5 rfl;have q6:=Qac RG.out 6 rfl;have q7:=Qac RG.out 7 rfl;have q8:=Qac RG.out 8 rfl;have q9:=Qac RG.out 9 rfl;have q10:=Qac RG.out 10 rfl;have q11:=Qac RG.out 11 rfl;have q12:=Qac RG.out 12 rfl;have q13:=Qac RG.out 13 rfl;have q14:=Qac RG.out 14 rfl;have f2:=fzR 2 RG.out;have f3:=fzR 3 RG.out;have f4:=fzR 4 RG.out;have f5:=fzR 5 RG.out;have f6:=fzR 6 RG.out;have f7:=fzR 7 RG.out;have f8:=fzR 8 RG.out;have f9:=fzR 9 RG.out;have f10:=fzR 10 RG.out;have f11:=fzR 11 RG.out;have f12:=fzR 12 RG.out;have f13:=fzR 13 RG.out;have f14:=fzR 14 RG.out;have R9:=Qaa (Qme (v0:=.int .i64 c.g.k) (v1:=.int .u64 c.g.s) (v2:=.int .i64 c.g.h) (v3:=.int .u64 c.g.l) (v4:=.int .i64 c.g.a) (v5:=.int .i64 c.g.t) (v6:=.int .u64 c.g.z) (v7:=.slice c.p.pa c.g.P.length c.p.pc) (v8:=.slice c.p.na c.g.N.length c.p.nc) (v9:=.int .i64 c.g.x) (v10:=.int .u64 c.g.y) (v11:=.slice c.p.ea c.g.E.length c.p.ec) (v12:=.slice c.p.ra c.g.R.length c.p.rc) RG.out);have B9:=Qaa (QjZ BG.out GG.out (.int .i64 c.g.k) (.int .u64 c.g.s) (.int .i64 c.g.h) (.int .u64 c.g.l) (.int .i64 c.g.a) (.int .i64 c.g.t) (.int .u64 c.g.z) (.slice c.p.pa c.g.P.length c.p.pc) (.slice c.p.na c.g.N.length c.p.nc) (.int .i64 c.g.x) (.int .u64 c.g.y) (.slice c.p.ea c.g.E.length c.p.ec) (.slice c.p.ra c.g.R.length c.p.rc));go_upto_region 10 with fail;clear y2 q2 f2 y3 q3 f3 y4 q4 f4 y5 q5 f5 y6 q6 f6 y7 q7 f7 y8 q8 f8 y9 q9 f9 y10 q10 f10 y11 q11 f11 y12 q12 f12 y13 q13 f13 y14 q14 f14;generalize (((((((((((((wc.setCell ⟨G,2,none⟩ (.int .i64 c.g.k)).setCell ⟨G,3,none⟩ (.int .u64 c.g.s)).setCell ⟨G,4,none⟩ (.int .i64 c.g.h)).setCell ⟨G,5,none⟩ (.int .u64 c.g.l)).setCell ⟨G,6,none⟩ (.int .i64 c.g.a)).setCell ⟨G,7,none⟩ (.int .i64 c.g.t)).setCell ⟨G,8,none⟩ (.int .u64 c.g.z)).setCell ⟨G,9,none⟩ (.slice c.p.pa c.g.P.length c.p.pc)).setCell ⟨G,10,none⟩ (.slice c.p.na c.g.N.length c.p.nc)).setCell ⟨G,11,none⟩ (.int .i64 c.g.x)).setCell ⟨G,12,none⟩ (.int .u64 c.g.y)).setCell ⟨G,13,none⟩ (.slice c.p.ea c.g.E.length c.p.ec)).setCell ⟨G,14,none⟩ (.slice c.p.ra c.g.R.length c.p.rc))=W9 at R9 B9 ⊢;have X9:=Qaa (Qak X2.out B9.out);obtain ⟨s0,s1,s2,s3,s4,s5,s6⟩:=QfS X9.out;have q2:=Qac R9.out 2 rfl;have q3:=Qac R9.out 3 rfl;have q4:=Qac R9.out 4 rfl;have q5:=Qac R9.out 5 rfl;have q6:=Qac R9.out 6 rfl;have q7:=Qac R9.out 7 rfl;have q8:=Qac R9.out 8 rfl;have q9:=Qac R9.out 9 rfl;have q10:=Qac R9.out 10 rfl;have q11:=Qac R9.out 11 rfl;have q12:=Qac R9.out 12 rfl;have q13:=Qac R9.out 13 rfl;have q14:=Qac R9.out 14 rfl;go_wp2_with fail;clear s0 s1 s2 s3 s4 s5 s6 q2 q3 q4 q5 q6 q7 q8 q9 q10 q11 q12 q13 q14;refine (Qhe x (RT.out c HM.out) HX.out HK.out (II.out.ok c HM.out) OX.out (II.out.sm c HM.out) (II.out.pl c HM.out) (Qan (II.out.mem.2 c HM.out) (Qad HB2.out B9.out))).mono ?_;rintro e w4 ⟨v,o,rfl,hput,⟨q,rfl,hoo⟩,hb4⟩;have R4:=Qaa (Qak R9.out hb4);have B4:=Qaa (B9.out.trans (hb4.mono B9.out.size));have HPut:=Qaa hput;have HOo:=Qaa hoo;have HOg:=Qaa (hoo.le (show G+1<=W9.heap.size from (ZZc.1 R9.out).1));clear hput hoo hb4;have q2:=Qac R4.out 2 rfl;have q3:=Qac R4.out 3 rfl;have q4:=Qac R4.out 4 rfl;have q5:=Qac R4.out 5 rfl;have q6:=Qac R4.out 6 rfl;have q7:=Qac R4.out 7 rfl;have q8:=Qac R4.out 8 rfl;have q9:=Qac R4.out 9 rfl;have q10:=Qac R4.out 10 rfl;have q11:=Qac R4.out 11 rfl;have q12:=Qac R4.out 12 rfl;have q13:=Qac R4.out 13 rfl;have q14:=Qac R4.out 14 rfl;have f2:=fzR 2 R4.out;have f3:=fzR 3 R4.out;have f4:=fzR 4 R4.out;have f5:=fzR 5 R4.out;have f6:=fzR 6 R4.out;have f7:=fzR 7 R4.out;have f8:=fzR 8 R4.out;have f9:=fzR 9 R4.out;have f10:=fzR 10 R4.out;have f11:=fzR 11 R4.out;have f12:=fzR 12 R4.out;have f13:=fzR 13 R4.out;have f14:=fzR 14 R4.out;have R5:=Qaa (Qme (v0:=.int .i64 o.k) (v1:=.int .u64 o.s) (v2:=.int .i64 o.h) (v3:=.int .u64 o.l) (v4:=.int .i64 o.a) (v5:=.int .i64 o.t) (v6:=.int .u64 o.z) (v7:=.slice q.pa o.P.length q.pc) (v8:=.slice q.na o.N.length q.nc) (v9:=.int .i64 o.x) (v10:=.int .u64 o.y) (v11:=.slice q.ea o.E.length q.ec) (v12:=.slice q.ra o.R.length q.rc) R4.out);have B5:=Qaa (QjZ B4.out GG.out (.int .i64 o.k) (.int .u64 o.s) (.int .i64 o.h) (.int .u64 o.l) (.int .i64 o.a) (.int .i64 o.t) (.int .u64 o.z) (.slice q.pa o.P.length q.pc) (.slice q.na o.N.length q.nc) (.int .i64 o.x) (.int .u64 o.y) (.slice q.ea o.E.length q.ec) (.slice q.ra o.R.length q.rc));go_upto_region 11 with fail;clear q2 f2 q3 f3 q4 f4 q5 f5 q6 f6 q7 f7 q8 f8 q9 f9 q10 f10 q11 f11 q12 f12 q13 f13 q14 f14;have O5:Hid (AgO (((((((((((((w4.setCell ⟨G,2,none⟩ (.int .i64 o.k)).setCell ⟨G,3,none⟩ (.int .u64 o.s)).setCell ⟨G,4,none⟩ (.int .i64 o.h)).setCell ⟨G,5,none⟩ (.int .u64 o.l)).setCell ⟨G,6,none⟩ (.int .i64 o.a)).setCell ⟨G,7,none⟩ (.int .i64 o.t)).setCell ⟨G,8,none⟩ (.int .u64 o.z)).setCell ⟨G,9,none⟩ (.slice q.pa o.P.length q.pc)).setCell ⟨G,10,none⟩ (.slice q.na o.N.length q.nc)).setCell ⟨G,11,none⟩ (.int .i64 o.x)).setCell ⟨G,12,none⟩ (.int .u64 o.y)).setCell ⟨G,13,none⟩ (.slice q.ea o.E.length q.ec)).setCell ⟨G,14,none⟩ (.slice q.ra o.R.length q.rc)) (G+1) o q):=HOg.out.kept15 (Nat.lt_succ_self _);generalize (((((((((((((w4.setCell ⟨G,2,none⟩ (.int .i64 o.k)).setCell ⟨G,3,none⟩ (.int .u64 o.s)).setCell ⟨G,4,none⟩ (.int .i64 o.h)).setCell ⟨G,5,none⟩ (.int .u64 o.l)).setCell ⟨G,6,none⟩ (.int .i64 o.a)).setCell ⟨G,7,none⟩ (.int .i64 o.t)).setCell ⟨G,8,none⟩ (.int .u64 o.z)).setCell ⟨G,9,none⟩ (.slice q.pa o.P.length q.pc)).setCell ⟨G,10,none⟩ (.slice q.na o.N.length q.nc)).setCell ⟨G,11,none⟩ (.int .i64 o.x)).setCell ⟨G,12,none⟩ (.int .u64 o.y)).setCell ⟨G,13,none⟩ (.slice q.ea o.E.length q.ec)).setCell ⟨G,14,none⟩ (.slice q.ra o.R.length q.rc))=W5 at R5 B5 O5 ⊢;obtain ⟨q0,q1,q2,q3,q4,q5,q6,q7,q8,q9,q10,q11,q12,q13,q14⟩:=Qou R5.out;have HRW:=Qaa (HRA.out.past B5.out);have HLA:Hid (A.length=k):=by show _=_;have:=congrArg List.length HKA.out;simp at this;have:=HTk.out;simp at this;omega
    have hzs:w.heap.size<=W5.heap.size:=Nat.le_trans HB2.out.size B5.out.size;have HP1:=Qaa (fun v' w6=>Qms (c:=⟨win,x.se,o,q⟩) (v':=v') (w6:=w6) HRA.out HOA.out HB2.out B5.out GG.out O5.out);go_wp2_with (at_builtin;refine wpList_append_own _ rfl _ _ 23 rfl w.heap.size 51 i0 (.agg Qcs) 15 192 Tryz.underlying23 hi hz0 hz1 hz2 rfl (by decide) _ _ _ rfl (World.ownsRow.alloc HRW.out _) ⟨W5.heap.size,0,none⟩ 1 1 (ceL ⟨win,x.se,o,q⟩) rfl rfl ?c1 ?c2 ?c3 ?c4 ?c5 ?_)
    case c1=>exact Qbz (c:=⟨win,x.se,o,q⟩)
    case c2=>exact Qcx _
    case c3=>have:=HLA.out;unfold maxLen;omega
    case c4=>have:=HLA.out;omega
    case c5=>simp;omega
    intro v6 w6 hown6 hgrow6 hnil6;obtain ⟨hr6,ho6,hb6⟩:=HP1.out v6 w6 hown6 hgrow6;have HR6:=Qaa hr6;have HO6:=Qaa ho6;have HB6:=Qaa hb6;clear hown6 hgrow6 hnil6 hr6 ho6 hb6 HP1 HRW HRA HOA O5 R5 B5 q0 q1 q2 q3 q4 q5 q6 q7 q8 q9 q10 q11 q12 q13 q14;have hk1:(0:Int)<=(k:Int)+1:=by omega
    have hk2:(k:Int)+1<=(N:Int):=by omega
    have ewk:IntKind.i64.wrap ((k:Int)+1)=(k:Int)+1:=ZZi _ ⟨by omega,by omega⟩;have HDl:Hid ((L.drop (k+1)).length=N - (k+1)):=by show _=_;rw [List.length_drop,II.out.hN]
    have ld:N - (k+1)<=1048576:=by have:=II.out.lN;omega
    have hz6:w.heap.size<=w6.heap.size:=HB6.out.size;have D1:Hid (ca=k+1->Qci w (some ⟨b,off,none⟩) (L.drop (k+1))):=fun e=>by have:=QfL (k:=k+1) (ca:=ca) II.out.mem (by have:=II.out.hN;omega);rw [if_pos e] at this;exact this
    have D2:Hid (ca≠k+1->Qci w (some ⟨b,off+(k+1)*15,none⟩) (L.drop (k+1))):=fun e=>by have:=QfL (k:=k+1) (ca:=ca) II.out.mem (by have:=II.out.hN;omega);rw [if_neg e] at this;simpa [Addr.add] using this
    by_cases hck:ca=(k+1)
    ·have HCk:=Qaa (D1.out hck)
     go_wp2_with fail
     skip
     refine (QbK (L:=L.drop (k+1)) HDl.out ld (fun d hd=>II.out.sm d (ZZp hd)) (fun d hd=>II.out.pl d (ZZp hd)) (QaQ HCk.out HB6.out)).mono ?_;rintro e w7 ⟨vB,M,rfl,hrB,hoB,hkB,hb7,hnB⟩;obtain ⟨gB,cB,rfl,hsB⟩:=hrB.src hnB;have HSB:=Qaa hsB;have HOB:=Qaa hoB;have HKB:=Qaa hkB;have HB7:=Qaa hb7;have HLM:Hid (M.length=N - (k+1)):=(Qdd hkB).trans HDl.out;have HR7:=Qaa (HR6.out.past HB7.out);have hz7:w.heap.size<=w7.heap.size:=Nat.le_trans hz6 hb7.size;have HP2:=Qaa (fun v'' w8=>QhQ (v'':=v'') (w8:=w8) HR6.out HO6.out hz6 HB6.out HB7.out HOB.out);clear hsB hoB hkB hb7 hrB hnB;go_wp2_with (at_builtin;refine wpList_append_own _ rfl _ _ 23 rfl w.heap.size 51 i0 (.agg Qcs) 15 192 Tryz.underlying23 hi hz0 hz1 hz2 rfl (by decide) _ _ _ rfl HR7.out ⟨gB,0,none⟩ M.length cB (flC M) rfl (Qdu M) HSB.out (QfG M) ?c3 ?c4 hz7 ?_)
     case c3=>have:=HLA.out;have:=HLM.out;have:=II.out.lN;simp only [List.length_append,List.length_cons,List.length_nil];unfold maxLen;omega
     case c4=>have:=HLA.out;have:=HLM.out;have:=II.out.lN;simp only [List.length_append,List.length_cons,List.length_nil];omega
     intro v8 w8 hown8 hg8 hnil8;obtain ⟨f1,f2,f3⟩:=HP2.out v8 w8 (by rw [List.length_append];exact hown8) hg8;have F1:=Qaa f1;have F2:=Qaa f2;have F3:=Qaa f3;clear f1 f2 f3 hown8 hg8 hnil8 HP2 HR7;go_wp2;go_ret2;exact ⟨_,_,0,rfl,PuA.there c o _ HM.out E1.out E2.out HK.out HPut.out (QmF AS.out HP.out HKA.out HKB.out),F1.out,F2.out,F3.out⟩
    ·have HCk:=Qaa (D2.out hck)
     go_wp2_with fail
     skip
     refine (QbK (L:=L.drop (k+1)) HDl.out ld (fun d hd=>II.out.sm d (ZZp hd)) (fun d hd=>II.out.pl d (ZZp hd)) (QaQ HCk.out HB6.out)).mono ?_;rintro e w7 ⟨vB,M,rfl,hrB,hoB,hkB,hb7,hnB⟩;obtain ⟨gB,cB,rfl,hsB⟩:=hrB.src hnB;have HSB:=Qaa hsB;have HOB:=Qaa hoB;have HKB:=Qaa hkB;have HB7:=Qaa hb7;have HLM:Hid (M.length=N - (k+1)):=(Qdd hkB).trans HDl.out;have HR7:=Qaa (HR6.out.past HB7.out);have hz7:w.heap.size<=w7.heap.size:=Nat.le_trans hz6 hb7.size;have HP2:=Qaa (fun v'' w8=>QhQ (v'':=v'') (w8:=w8) HR6.out HO6.out hz6 HB6.out HB7.out HOB.out);clear hsB hoB hkB hb7 hrB hnB;go_wp2_with (at_builtin;refine wpList_append_own _ rfl _ _ 23 rfl w.heap.size 51 i0 (.agg Qcs) 15 192 Tryz.underlying23 hi hz0 hz1 hz2 rfl (by decide) _ _ _ rfl HR7.out ⟨gB,0,none⟩ M.length cB (flC M) rfl (Qdu M) HSB.out (QfG M) ?c3 ?c4 hz7 ?_)
     case c3=>have:=HLA.out;have:=HLM.out;have:=II.out.lN;simp only [List.length_append,List.length_cons,List.length_nil];unfold maxLen;omega
     case c4=>have:=HLA.out;have:=HLM.out;have:=II.out.lN;simp only [List.length_append,List.length_cons,List.length_nil];omega
     intro v8 w8 hown8 hg8 hnil8;obtain ⟨f1,f2,f3⟩:=HP2.out v8 w8 (by rw [List.length_append];exact hown8) hg8;have F1:=Qaa f1;have F2:=Qaa f2;have F3:=Qaa f3;clear f1 f2 f3 hown8 hg8 hnil8 HP2 HR7;go_wp2;go_ret2;exact ⟨_,_,0,rfl,PuA.there c o _ HM.out E1.out E2.out HK.out HPut.out (QmF AS.out HP.out HKA.out HKB.out),F1.out,F2.out,F3.out⟩
  ·have HR:Hid (PuA L win x [] 9):=PuA.kind c HM.out E1.out E2.out hk
   have bk:(c.g.k == x.k)=false:=by simp [hk]
   clear hk;go_upto_region 2 with fail
   go_region_held3 (fun W=>W.cell? ⟨b,off+k*15+2,none⟩=some (.int .i64 c.g.k)/\W.cell? ⟨w.heap.size,0,none⟩=some (.int .i64 x.k))
    (exact ⟨by simpa using y2,by simpa using z0⟩)
    (fail)
   go_wp2;go_ret2;exact ⟨_,[],9,rfl,HR.out,World.ownsRow_nil _ _ _ _,CesO.nil _ _,HB1.out.drew⟩
 | false=>
  obtain ⟨_,hn⟩:=Qpw AS.out HP.out;have HNo:=Qaa hn;clear hn;go_upto_region 2 with fail;have HS0:(fun _=>True) w1.drew:=trivial;refine Qaj (fun _=>True) 99 (by kernel_rfl) ?_;refine tkS (i:=0) (v:=.bool false) rfl rfl HS0 ?_;refine tkS (i:=1) (v:=.bool false) rfl rfl HS0 ?_;refine tkU (i:=2) rfl rfl HS0 ?_;simp only [sA,sB,sC];refine tkU (i:=3) rfl rfl HS0 ?_;refine tkU (i:=4) rfl rfl HS0 ?_;refine tkU (i:=5) rfl rfl HS0 ?_;simp only [sA,sB,sC];refine tkU (i:=6) rfl rfl HS0 ?_;refine tkU (i:=7) rfl rfl HS0 ?_;refine tkU (i:=8) rfl rfl HS0 ?_;simp only [sA,sB,sC];refine tkU (i:=9) rfl rfl HS0 ?_;refine tkU (i:=10) rfl rfl HS0 ?_;refine tkS (i:=11) (v:=.bool false) rfl rfl HS0 ?_;simp only [sA,sB,sC];refine Qar (by kernel_rfl) ?_ _;by_cases hf:60<=N
  ·have HR:Hid (PuA L win x [] 8):=PuA.full HNo.out (by have:=II.out.hN;omega)
   have bf:decide ((60:Int)<=(N:Int))=true:=ZZh (by omega);clear hf;go_wp2;go_ret2;exact ⟨_,[],8,rfl,HR.out,World.ownsRow_nil _ _ _ _,CesO.nil _ _,HB1.out.drew⟩
  ·have bf:decide ((60:Int)<=(N:Int))=false:=ZZg (by omega)
   have HF:=Qaa hf;have hk0:(0:Int)<=(k:Int):=by omega
   have hkc:(k:Int)<=(ca:Int):=by omega
   clear hf;go_wp2_with fail;have HTk:Hid ((L.take k).length=k):=by show _=_;rw [List.length_take];have:=II.out.hN;omega
   have lk:k<=1048576:=by have:=II.out.lN;omega
   refine (QbK (L:=L.take k) HTk.out lk (fun d hd=>II.out.sm d (ZZo hd)) (fun d hd=>II.out.pl d (ZZo hd)) (QaQ (Qk1 II.out.mem) HB1.out.drew)).mono ?_;rintro e w2 ⟨vA,A,rfl,hr,ho,hkA,hb2,hnl⟩;have HB2:=Qaa (Qad HB1.out.drew hb2);have X2:=Qaa (Qak (w:=w1.drew) X1.out hb2);have HRA:=Qaa (hr.le HB1.out.drew.size);have HOA:=Qaa (ho.le HB1.out.drew.size);have HKA:=Qaa hkA;have HNl:=Qaa hnl;clear hr ho hkA hnl hb2;go_upto_region 7 with fail
   go_cut [11] (fun v w'=>∃ G:Nat,v=.pointer (some ⟨G,0,none⟩)/\Hid (w'.heap[G]?=some (.cells (Qao ⟨win,x.se,g0,p0⟩) 51 (0,0)))/\Hid (w2.heap.size<=G)/\Hid (Below w2.heap.size w2 w'))
   case first=>
    have HS0:(fun W=>Below w2.heap.size w2 W) w2.drew:=(ZZb _ _).drew;refine Qaj (fun W=>Below w2.heap.size w2 W) 8 (by kernel_rfl) ?_;refine tkS (i:=0) (v:=.int .i64 win) rfl rfl HS0 ?_;refine tkS (i:=1) (v:=.pointer (some ⟨w.heap.size,1,none⟩)) rfl rfl HS0 ?_;refine tkL (i:=2) (v:=.string x.se) rfl rfl HS0 (fun W hW=>?_) ?_
    ·have q:=Qaq (Qak X2.out hW) 1 rfl
     clear hW;go_simp
    simp only [sA,sB,sC];refine tkS (i:=3) (v:=.pointer (some ⟨w.heap.size,0,none⟩)) rfl rfl HS0 ?_;refine tkL (i:=4) (v:=.int .i64 x.k) rfl rfl HS0 (fun W hW=>?_) ?_
    ·have q:=Qaq (Qak X2.out hW) 0 rfl
     clear hW;go_simp
    simp only [sA,sB,sC];refine Qqs (i:=5) (j:=7) (by kernel_rfl) rfl rfl (fun K hK=>?_) (fun K hK=>?_)
    ·go_simp
     refine (Qhw K1.out K4.out).mono ?_;rintro e w3 ⟨rfl,hb3⟩;rw [<- HG.out,<- HPl.out];have HB3:Hid (Below w2.heap.size w2 w3):=(HS0:Below w2.heap.size w2 _).trans (hb3.mono (HS0:Below w2.heap.size w2 _).size);clear hb3
     try dsimp only
     refine hK.out _ _ (fun _=>HB3.out) ?_;clear hK K
     try simp only [Act.put,sA,sB,sC]
     refine tkS (i:=6) (v:=.agg (Qao ⟨win,x.se,g0,p0⟩)) rfl rfl HB3.out ?_;simp only [sA,sB,sC];refine onE (i:=7) rfl (fun K hK=>?_);go_simp;have HBc:Hid (Below w2.heap.size w2 (w3.alloc (.cells #[.int .i64 0,.string ⟨#[]⟩,.int .i64 0,.int .u64 0,.int .i64 0,.int .u64 0,.int .i64 0,.int .i64 0,.int .u64 0,.slice none 0 0,.slice none 0 0,.int .i64 0,.int .u64 0,.slice none 0 0,.slice none 0 0] 51))):=HB3.out.alloc HB3.out.size _;have R0:=Qaa (ZZk w3 (.cells #[.int .i64 0,.string ⟨#[]⟩,.int .i64 0,.int .u64 0,.int .i64 0,.int .u64 0,.int .i64 0,.int .i64 0,.int .u64 0,.slice none 0 0,.slice none 0 0,.int .i64 0,.int .u64 0,.slice none 0 0,.slice none 0 0] 51))
     try dsimp only
     refine hK.out _ _ (fun _=>HBc.out) ?_;clear hK K
     try simp only [Act.put,sA,sB,sC]
     have hG:Hid (w2.heap.size<=w3.heap.size):=HB3.out.size;generalize w3.alloc (.cells #[.int .i64 0,.string ⟨#[]⟩,.int .i64 0,.int .u64 0,.int .i64 0,.int .u64 0,.int .i64 0,.int .i64 0,.int .u64 0,.slice none 0 0,.slice none 0 0,.int .i64 0,.int .u64 0,.slice none 0 0,.slice none 0 0] 51)=Wa at HBc R0 ⊢;generalize w3.heap.size=G at R0 hG ⊢;obtain ⟨q0,q1,q2,q3,q4,q5,q6,q7,q8,q9,q10,q11,q12,q13,q14⟩:=Qou R0.out;obtain ⟨f0,f1,f2,f3,f4,f5,f6,f7,f8,f9,f10,f11,f12,f13,f14⟩:=fA15 R0.out;refine onE (i:=8) rfl (fun K hK=>?_);go_simp;have HR2:=Qaa (Qlf R0.out (.int .i64 win) (.string x.se) (.int .i64 g0.k) (.int .u64 g0.s) (.int .i64 g0.h) (.int .u64 g0.l) (.int .i64 g0.a) (.int .i64 g0.t) (.int .u64 g0.z) (.slice p0.pa g0.P.length p0.pc) (.slice p0.na g0.N.length p0.nc) (.int .i64 g0.x) (.int .u64 g0.y) (.slice p0.ea g0.E.length p0.ec) (.slice p0.ra g0.R.length p0.rc));have HB5:=Qaa (QfC HBc.out hG.out (.int .i64 win) (.string x.se) (.int .i64 g0.k) (.int .u64 g0.s) (.int .i64 g0.h) (.int .u64 g0.l) (.int .i64 g0.a) (.int .i64 g0.t) (.int .u64 g0.z) (.slice p0.pa g0.P.length p0.pc) (.slice p0.na g0.N.length p0.nc) (.int .i64 g0.x) (.int .u64 g0.y) (.slice p0.ea g0.E.length p0.ec) (.slice p0.ra g0.R.length p0.rc));clear q0 f0 q1 f1 q2 f2 q3 f3 q4 f4 q5 f5 q6 f6 q7 f7 q8 f8 q9 f9 q10 f10 q11 f11 q12 f12 q13 f13 q14 f14;refine hK.out _ _ (fun h=>absurd rfl h) ?_;clear hK K
     try simp only [Act.put,sA,sB,sC]
     generalize (((((((((((((((Wa.setCell ⟨G,0,none⟩ (.int .i64 win)).setCell ⟨G,1,none⟩ (.string x.se)).setCell ⟨G,2,none⟩ (.int .i64 g0.k)).setCell ⟨G,3,none⟩ (.int .u64 g0.s)).setCell ⟨G,4,none⟩ (.int .i64 g0.h)).setCell ⟨G,5,none⟩ (.int .u64 g0.l)).setCell ⟨G,6,none⟩ (.int .i64 g0.a)).setCell ⟨G,7,none⟩ (.int .i64 g0.t)).setCell ⟨G,8,none⟩ (.int .u64 g0.z)).setCell ⟨G,9,none⟩ (.slice p0.pa g0.P.length p0.pc)).setCell ⟨G,10,none⟩ (.slice p0.na g0.N.length p0.nc)).setCell ⟨G,11,none⟩ (.int .i64 g0.x)).setCell ⟨G,12,none⟩ (.int .u64 g0.y)).setCell ⟨G,13,none⟩ (.slice p0.ea g0.E.length p0.ec)).setCell ⟨G,14,none⟩ (.slice p0.ra g0.R.length p0.rc))=W5 at HR2 HB5 ⊢;refine Qar (by kernel_rfl) ?_ _;go_wp2;go_meet;exact ⟨G,rfl,HR2,hG,HB5⟩
    ·go_simp
     have HBa:Hid (Below w2.heap.size w2 (w2.alloc (.cells #[.int .i64 0,.string ⟨#[]⟩,.int .i64 0,.int .u64 0,.int .i64 0,.int .u64 0,.int .i64 0,.int .i64 0,.int .u64 0,.slice none 0 0,.slice none 0 0,.int .i64 0,.int .u64 0,.slice none 0 0,.slice none 0 0] 51)).drew):=((ZZb _ _).alloc (ZZa _) _).drew;have R0:Hid ((w2.alloc (.cells #[.int .i64 0,.string ⟨#[]⟩,.int .i64 0,.int .u64 0,.int .i64 0,.int .u64 0,.int .i64 0,.int .i64 0,.int .u64 0,.slice none 0 0,.slice none 0 0,.int .i64 0,.int .u64 0,.slice none 0 0,.slice none 0 0] 51)).drew.heap[w2.heap.size]?=some (.cells #[.int .i64 0,.string ⟨#[]⟩,.int .i64 0,.int .u64 0,.int .i64 0,.int .u64 0,.int .i64 0,.int .i64 0,.int .u64 0,.slice none 0 0,.slice none 0 0,.int .i64 0,.int .u64 0,.slice none 0 0,.slice none 0 0] 51 (0,0))):=ZZk w2 (.cells #[.int .i64 0,.string ⟨#[]⟩,.int .i64 0,.int .u64 0,.int .i64 0,.int .u64 0,.int .i64 0,.int .i64 0,.int .u64 0,.slice none 0 0,.slice none 0 0,.int .i64 0,.int .u64 0,.slice none 0 0,.slice none 0 0] 51)
     try dsimp only
     refine hK.out _ _ (fun _=>HBa.out) ?_;clear hK K
     try simp only [Act.put,sA,sB,sC]
     generalize (w2.alloc (.cells #[.int .i64 0,.string ⟨#[]⟩,.int .i64 0,.int .u64 0,.int .i64 0,.int .u64 0,.int .i64 0,.int .i64 0,.int .u64 0,.slice none 0 0,.slice none 0 0,.int .i64 0,.int .u64 0,.slice none 0 0,.slice none 0 0] 51)).drew=Wb at HBa R0 ⊢;refine onE (i:=5) rfl (fun K hK=>?_);go_simp;refine (Qhw K1.out K4.out).mono ?_;rintro e Wa ⟨rfl,hb3⟩;rw [<- HG.out,<- HPl.out];have HBc:Hid (Below w2.heap.size w2 Wa):=HBa.out.trans (hb3.mono HBa.out.size);have R1:=Qaa (Qak R0.out hb3);have hG:Hid (w2.heap.size<=w2.heap.size):=ZZa _;clear hb3 R0 HBa
     try dsimp only
     refine hK.out _ _ (fun _=>HBc.out) ?_;clear hK K
     try simp only [Act.put,sA,sB,sC]
     refine tkS (i:=6) (v:=.agg (Qao ⟨win,x.se,g0,p0⟩)) rfl rfl HBc.out ?_;simp only [sA,sB,sC];obtain ⟨q0,q1,q2,q3,q4,q5,q6,q7,q8,q9,q10,q11,q12,q13,q14⟩:=Qou R1.out;obtain ⟨f0,f1,f2,f3,f4,f5,f6,f7,f8,f9,f10,f11,f12,f13,f14⟩:=fA15 R1.out;refine onE (i:=8) rfl (fun K hK=>?_);go_simp;have HR2:=Qaa (Qlf R1.out (.int .i64 win) (.string x.se) (.int .i64 g0.k) (.int .u64 g0.s) (.int .i64 g0.h) (.int .u64 g0.l) (.int .i64 g0.a) (.int .i64 g0.t) (.int .u64 g0.z) (.slice p0.pa g0.P.length p0.pc) (.slice p0.na g0.N.length p0.nc) (.int .i64 g0.x) (.int .u64 g0.y) (.slice p0.ea g0.E.length p0.ec) (.slice p0.ra g0.R.length p0.rc));have HB5:=Qaa (QfC HBc.out hG.out (.int .i64 win) (.string x.se) (.int .i64 g0.k) (.int .u64 g0.s) (.int .i64 g0.h) (.int .u64 g0.l) (.int .i64 g0.a) (.int .i64 g0.t) (.int .u64 g0.z) (.slice p0.pa g0.P.length p0.pc) (.slice p0.na g0.N.length p0.nc) (.int .i64 g0.x) (.int .u64 g0.y) (.slice p0.ea g0.E.length p0.ec) (.slice p0.ra g0.R.length p0.rc));clear q0 f0 q1 f1 q2 f2 q3 f3 q4 f4 q5 f5 q6 f6 q7 f7 q8 f8 q9 f9 q10 f10 q11 f11 q12 f12 q13 f13 q14 f14;refine hK.out _ _ (fun h=>absurd rfl h) ?_;clear hK K
     try simp only [Act.put,sA,sB,sC]
     generalize (((((((((((((((Wa.setCell ⟨w2.heap.size,0,none⟩ (.int .i64 win)).setCell ⟨w2.heap.size,1,none⟩ (.string x.se)).setCell ⟨w2.heap.size,2,none⟩ (.int .i64 g0.k)).setCell ⟨w2.heap.size,3,none⟩ (.int .u64 g0.s)).setCell ⟨w2.heap.size,4,none⟩ (.int .i64 g0.h)).setCell ⟨w2.heap.size,5,none⟩ (.int .u64 g0.l)).setCell ⟨w2.heap.size,6,none⟩ (.int .i64 g0.a)).setCell ⟨w2.heap.size,7,none⟩ (.int .i64 g0.t)).setCell ⟨w2.heap.size,8,none⟩ (.int .u64 g0.z)).setCell ⟨w2.heap.size,9,none⟩ (.slice p0.pa g0.P.length p0.pc)).setCell ⟨w2.heap.size,10,none⟩ (.slice p0.na g0.N.length p0.nc)).setCell ⟨w2.heap.size,11,none⟩ (.int .i64 g0.x)).setCell ⟨w2.heap.size,12,none⟩ (.int .u64 g0.y)).setCell ⟨w2.heap.size,13,none⟩ (.slice p0.ea g0.E.length p0.ec)).setCell ⟨w2.heap.size,14,none⟩ (.slice p0.ra g0.R.length p0.rc))=W5 at HR2 HB5 ⊢;refine Qar (by kernel_rfl) ?_ _;go_wp2;go_meet;exact ⟨w2.heap.size,rfl,HR2,hG,HB5⟩
   case rest=>
    obtain ⟨G,rfl,RG,GG,BG⟩:=hcut;obtain ⟨a1,a2,a3,a4,a5⟩:=QeL K1.out K4.out;have HNw:Hid (agB g0=true/\AgOk g0/\AgSm g0/\g0.k=x.k/\∀ w B,AgO w B g0 p0):=by show _/\_;rw [HG.out,HPl.out];exact ⟨a1,a2,a3,a4,a5⟩
    clear a1 a2 a3 a4 a5;go_upto_region 10 with fail;have X9:=Qaa (Qak X2.out BG.out);obtain ⟨s0,s1,s2,s3,s4,s5,s6⟩:=QfS X9.out;have q2:=Qac RG.out 2 rfl;have q3:=Qac RG.out 3 rfl;have q4:=Qac RG.out 4 rfl;have q5:=Qac RG.out 5 rfl;have q6:=Qac RG.out 6 rfl;have q7:=Qac RG.out 7 rfl;have q8:=Qac RG.out 8 rfl;have q9:=Qac RG.out 9 rfl;have q10:=Qac RG.out 10 rfl;have q11:=Qac RG.out 11 rfl;have q12:=Qac RG.out 12 rfl;have q13:=Qac RG.out 13 rfl;have q14:=Qac RG.out 14 rfl;go_wp2_with fail;clear s0 s1 s2 s3 s4 s5 s6 q2 q3 q4 q5 q6 q7 q8 q9 q10 q11 q12 q13 q14;refine (Qhe x HNw.out.1 HX.out HNw.out.2.2.2.1 HNw.out.2.1 OX.out HNw.out.2.2.1 (HNw.out.2.2.2.2 w2 0).plgP (HNw.out.2.2.2.2 _ 0).at).mono ?_;rintro e w4 ⟨v,o,rfl,hput,⟨q,rfl,hoo⟩,hb4⟩;have R4:=Qaa (Qak RG.out hb4);have B4:=Qaa (BG.out.trans (hb4.mono BG.out.size));have HPut:=Qaa hput;have HOo:=Qaa hoo;have HOg:=Qaa (hoo.le (show G+1<=wc.heap.size from (ZZc.1 RG.out).1));clear hput hoo hb4;have q2:=Qac R4.out 2 rfl;have q3:=Qac R4.out 3 rfl;have q4:=Qac R4.out 4 rfl;have q5:=Qac R4.out 5 rfl;have q6:=Qac R4.out 6 rfl;have q7:=Qac R4.out 7 rfl;have q8:=Qac R4.out 8 rfl;have q9:=Qac R4.out 9 rfl;have q10:=Qac R4.out 10 rfl;have q11:=Qac R4.out 11 rfl;have q12:=Qac R4.out 12 rfl;have q13:=Qac R4.out 13 rfl;have q14:=Qac R4.out 14 rfl;have f2:=fzR 2 R4.out;have f3:=fzR 3 R4.out;have f4:=fzR 4 R4.out;have f5:=fzR 5 R4.out;have f6:=fzR 6 R4.out;have f7:=fzR 7 R4.out;have f8:=fzR 8 R4.out;have f9:=fzR 9 R4.out;have f10:=fzR 10 R4.out;have f11:=fzR 11 R4.out;have f12:=fzR 12 R4.out;have f13:=fzR 13 R4.out;have f14:=fzR 14 R4.out;have R5:=Qaa (Qme (v0:=.int .i64 o.k) (v1:=.int .u64 o.s) (v2:=.int .i64 o.h) (v3:=.int .u64 o.l) (v4:=.int .i64 o.a) (v5:=.int .i64 o.t) (v6:=.int .u64 o.z) (v7:=.slice q.pa o.P.length q.pc) (v8:=.slice q.na o.N.length q.nc) (v9:=.int .i64 o.x) (v10:=.int .u64 o.y) (v11:=.slice q.ea o.E.length q.ec) (v12:=.slice q.ra o.R.length q.rc) R4.out);have B5:=Qaa (QjZ B4.out GG.out (.int .i64 o.k) (.int .u64 o.s) (.int .i64 o.h) (.int .u64 o.l) (.int .i64 o.a) (.int .i64 o.t) (.int .u64 o.z) (.slice q.pa o.P.length q.pc) (.slice q.na o.N.length q.nc) (.int .i64 o.x) (.int .u64 o.y) (.slice q.ea o.E.length q.ec) (.slice q.ra o.R.length q.rc));go_upto_region 11 with fail;clear q2 f2 q3 f3 q4 f4 q5 f5 q6 f6 q7 f7 q8 f8 q9 f9 q10 f10 q11 f11 q12 f12 q13 f13 q14 f14;have O5:Hid (AgO (((((((((((((w4.setCell ⟨G,2,none⟩ (.int .i64 o.k)).setCell ⟨G,3,none⟩ (.int .u64 o.s)).setCell ⟨G,4,none⟩ (.int .i64 o.h)).setCell ⟨G,5,none⟩ (.int .u64 o.l)).setCell ⟨G,6,none⟩ (.int .i64 o.a)).setCell ⟨G,7,none⟩ (.int .i64 o.t)).setCell ⟨G,8,none⟩ (.int .u64 o.z)).setCell ⟨G,9,none⟩ (.slice q.pa o.P.length q.pc)).setCell ⟨G,10,none⟩ (.slice q.na o.N.length q.nc)).setCell ⟨G,11,none⟩ (.int .i64 o.x)).setCell ⟨G,12,none⟩ (.int .u64 o.y)).setCell ⟨G,13,none⟩ (.slice q.ea o.E.length q.ec)).setCell ⟨G,14,none⟩ (.slice q.ra o.R.length q.rc)) (G+1) o q):=HOg.out.kept15 (Nat.lt_succ_self _);generalize (((((((((((((w4.setCell ⟨G,2,none⟩ (.int .i64 o.k)).setCell ⟨G,3,none⟩ (.int .u64 o.s)).setCell ⟨G,4,none⟩ (.int .i64 o.h)).setCell ⟨G,5,none⟩ (.int .u64 o.l)).setCell ⟨G,6,none⟩ (.int .i64 o.a)).setCell ⟨G,7,none⟩ (.int .i64 o.t)).setCell ⟨G,8,none⟩ (.int .u64 o.z)).setCell ⟨G,9,none⟩ (.slice q.pa o.P.length q.pc)).setCell ⟨G,10,none⟩ (.slice q.na o.N.length q.nc)).setCell ⟨G,11,none⟩ (.int .i64 o.x)).setCell ⟨G,12,none⟩ (.int .u64 o.y)).setCell ⟨G,13,none⟩ (.slice q.ea o.E.length q.ec)).setCell ⟨G,14,none⟩ (.slice q.ra o.R.length q.rc))=W5 at R5 B5 O5 ⊢;obtain ⟨q0,q1,q2,q3,q4,q5,q6,q7,q8,q9,q10,q11,q12,q13,q14⟩:=Qou R5.out;have HRW:=Qaa (HRA.out.past B5.out);have HLA:Hid (A.length=k):=by show _=_;have:=congrArg List.length HKA.out;simp at this;have:=HTk.out;simp at this;omega
    have hzs:w.heap.size<=W5.heap.size:=Nat.le_trans HB2.out.size B5.out.size;have HP1:=Qaa (fun v' w6=>Qms (c:=⟨win,x.se,o,q⟩) (v':=v') (w6:=w6) HRA.out HOA.out HB2.out B5.out GG.out O5.out);go_wp2_with (at_builtin;refine wpList_append_own _ rfl _ _ 23 rfl w.heap.size 51 i0 (.agg Qcs) 15 192 Tryz.underlying23 hi hz0 hz1 hz2 rfl (by decide) _ _ _ rfl (World.ownsRow.alloc HRW.out _) ⟨W5.heap.size,0,none⟩ 1 1 (ceL ⟨win,x.se,o,q⟩) rfl rfl ?c1 ?c2 ?c3 ?c4 ?c5 ?_)
    case c1=>exact Qbz (c:=⟨win,x.se,o,q⟩)
    case c2=>exact Qcx _
    case c3=>have:=HLA.out;unfold maxLen;omega
    case c4=>have:=HLA.out;omega
    case c5=>simp;omega
    intro v6 w6 hown6 hgrow6 hnil6;obtain ⟨hr6,ho6,hb6⟩:=HP1.out v6 w6 hown6 hgrow6;have HR6:=Qaa hr6;have HO6:=Qaa ho6;have HB6:=Qaa hb6;clear hown6 hgrow6 hnil6 hr6 ho6 hb6 HP1 HRW HRA HOA O5 R5 B5 q0 q1 q2 q3 q4 q5 q6 q7 q8 q9 q10 q11 q12 q13 q14;have HDl:Hid ((L.drop k).length=N - k):=by show _=_;rw [List.length_drop,II.out.hN]
    have ld:N - k<=1048576:=by have:=II.out.lN;omega
    have hz6:w.heap.size<=w6.heap.size:=HB6.out.size;have D1:Hid (ca=k->Qci w ao (L.drop k)):=fun e=>by have:=QfL (k:=k) (ca:=ca) II.out.mem (by have:=II.out.hN;omega);rw [if_pos e] at this;exact this
    have D2:Hid (ca≠k->Qci w (ao.map (·.add (k*15))) (L.drop k)):=fun e=>by have:=QfL (k:=k) (ca:=ca) II.out.mem (by have:=II.out.hN;omega);rw [if_neg e] at this;exact this
    by_cases hck:ca=k
    ·have HCk:=Qaa (D1.out hck)
     go_wp2_with fail
     skip
     refine (QbK (L:=L.drop k) HDl.out ld (fun d hd=>II.out.sm d (ZZp hd)) (fun d hd=>II.out.pl d (ZZp hd)) (QaQ HCk.out HB6.out)).mono ?_;rintro e w7 ⟨vB,M,rfl,hrB,hoB,hkB,hb7,hnB⟩;obtain ⟨gB,cB,rfl,hsB⟩:=hrB.src hnB;have HSB:=Qaa hsB;have HOB:=Qaa hoB;have HKB:=Qaa hkB;have HB7:=Qaa hb7;have HLM:Hid (M.length=N - k):=(Qdd hkB).trans HDl.out;have HR7:=Qaa (HR6.out.past HB7.out);have hz7:w.heap.size<=w7.heap.size:=Nat.le_trans hz6 hb7.size;have HP2:=Qaa (fun v'' w8=>QhQ (v'':=v'') (w8:=w8) HR6.out HO6.out hz6 HB6.out HB7.out HOB.out);clear hsB hoB hkB hb7 hrB hnB;go_wp2_with (at_builtin;refine wpList_append_own _ rfl _ _ 23 rfl w.heap.size 51 i0 (.agg Qcs) 15 192 Tryz.underlying23 hi hz0 hz1 hz2 rfl (by decide) _ _ _ rfl HR7.out ⟨gB,0,none⟩ M.length cB (flC M) rfl (Qdu M) HSB.out (QfG M) ?c3 ?c4 hz7 ?_)
     case c3=>have:=HLA.out;have:=HLM.out;have:=II.out.lN;simp only [List.length_append,List.length_cons,List.length_nil];unfold maxLen;omega
     case c4=>have:=HLA.out;have:=HLM.out;have:=II.out.lN;simp only [List.length_append,List.length_cons,List.length_nil];omega
     intro v8 w8 hown8 hg8 hnil8;obtain ⟨f1,f2,f3⟩:=HP2.out v8 w8 (by rw [List.length_append];exact hown8) hg8;have F1:=Qaa f1;have F2:=Qaa f2;have F3:=Qaa f3;clear f1 f2 f3 hown8 hg8 hnil8 HP2 HR7;go_wp2;go_ret2;exact ⟨_,_,0,rfl,PuA.new o _ HNo.out (by have:=HF.out;have:=II.out.hN;omega) (HG.out ▸ HPut.out) (Qpn AS.out HP.out HKA.out HKB.out),F1.out,F2.out,F3.out⟩
    ·have HCk:=Qaa (D2.out hck)
     go_wp2_with fail
     skip
     refine (QbK (L:=L.drop k) HDl.out ld (fun d hd=>II.out.sm d (ZZp hd)) (fun d hd=>II.out.pl d (ZZp hd)) (QaQ HCk.out HB6.out)).mono ?_;rintro e w7 ⟨vB,M,rfl,hrB,hoB,hkB,hb7,hnB⟩;obtain ⟨gB,cB,rfl,hsB⟩:=hrB.src hnB;have HSB:=Qaa hsB;have HOB:=Qaa hoB;have HKB:=Qaa hkB;have HB7:=Qaa hb7;have HLM:Hid (M.length=N - k):=(Qdd hkB).trans HDl.out;have HR7:=Qaa (HR6.out.past HB7.out);have hz7:w.heap.size<=w7.heap.size:=Nat.le_trans hz6 hb7.size;have HP2:=Qaa (fun v'' w8=>QhQ (v'':=v'') (w8:=w8) HR6.out HO6.out hz6 HB6.out HB7.out HOB.out);clear hsB hoB hkB hb7 hrB hnB;go_wp2_with (at_builtin;refine wpList_append_own _ rfl _ _ 23 rfl w.heap.size 51 i0 (.agg Qcs) 15 192 Tryz.underlying23 hi hz0 hz1 hz2 rfl (by decide) _ _ _ rfl HR7.out ⟨gB,0,none⟩ M.length cB (flC M) rfl (Qdu M) HSB.out (QfG M) ?c3 ?c4 hz7 ?_)
     case c3=>have:=HLA.out;have:=HLM.out;have:=II.out.lN;simp only [List.length_append,List.length_cons,List.length_nil];unfold maxLen;omega
     case c4=>have:=HLA.out;have:=HLM.out;have:=II.out.lN;simp only [List.length_append,List.length_cons,List.length_nil];omega
     intro v8 w8 hown8 hg8 hnil8;obtain ⟨f1,f2,f3⟩:=HP2.out v8 w8 (by rw [List.length_append];exact hown8) hg8;have F1:=Qaa f1;have F2:=Qaa f2;have F3:=Qaa f3;clear f1 f2 f3 hown8 hg8 hnil8 HP2 HR7;go_wp2;go_ret2;exact ⟨_,_,0,rfl,PuA.new o _ HNo.out (by have:=HF.out;have:=II.out.hN;omega) (HG.out ▸ HPut.out) (Qpn AS.out HP.out HKA.out HKB.out),F1.out,F2.out,F3.out⟩
theorem PuA.told {nm:ByteArray} {L R:List Ce} {win code:Int} {x:Sx} (h:shB nm L=true/\x.B=true/\QdO win=true) (p:PuA L win x R code):(code=0/\PtA nm L win x nm R 0)∨(code≠0/\R=[]/\PtA nm L win x ⟨#[]⟩ [] code):=by
 cases p with
 | kind c hc k1 k2 hk=>exact .inr ⟨by decide,rfl,.kind c h hc k1 k2 hk⟩
 | there c o R hc k1 k2 hk hp hR=>exact .inl ⟨rfl,.there c o R h hc k1 k2 hk hp hR⟩
 | full hn hl=>exact .inr ⟨by decide,rfl,.full h hn hl⟩
 | new o R hn hl hp hR=>exact .inl ⟨rfl,.new o R h hn hl hp hR⟩
theorem Qpo {c:Ce} (h:cRi c=true):agB c.g=true:=by
 unfold cRi at h;simp only [Bool.and_eq_true] at h
 first | exact h.1.2 | exact h.2 | exact h.1.1.2 | exact h.2.1 | exact h.2.2
theorem QbU {w:World} {ao:Option Addr} {N ca:Nat} {L:List Ce} (nm:ByteArray) (win:Int) (x:Sx) (hs:nm.size<=maxLen) (ox:x.Ok) (hI:ShI w ao N L) (hca:N<=ca) :
  Calls Tryz.prog 9 #[.agg #[.string nm,.slice ao N ca],.int .i64 win,.agg (Qax x)] w (PtP w nm L win x):=by
 obtain ⟨k0,k1,k2,k3,k4⟩:=Qpy w #[.string nm,.slice ao N ca] (Qax x) #[.string ⟨#[]⟩,.slice none 0 0,.slice none 0 0,.int .i64 0] 25 28 32;have II:=Qaa hI;have OX:=Qaa ox;have HBs:Hid (∀ W j u,Below w.heap.size w W->Below w.heap.size w (W.setCell ⟨w.heap.size+1+1,j,none⟩ u)):=fun W j u q=>q.setCell (by simp;omega) u;clear hI ox;have z0:=Qaq k1.out 0 rfl;have z1:=Qaq k1.out 1 rfl;go_enter Tryz.func9,Tryz.ntmps9;go_wp2_with fail;clear z0 z1;generalize ((w.alloc (.cells #[.string nm,.slice ao N ca] 25)).alloc (.cells (Qax x) 28)).alloc (.cells #[.string ⟨#[]⟩,.slice none 0 0,.slice none 0 0,.int .i64 0] 32)=W0 at k0 k1 k2 k3 k4 ⊢;refine (QdQ nm hs II.out.hN II.out.lN II.out.ok II.out.sm II.out.ss (QaQ II.out.mem k0.out)).mono ?_;rintro e w1 ⟨rfl,hb1⟩;have HT1:=Qaa (Qad k0.out hb1);have X1:=Qaa (Qak k1.out hb1);have Y1:=Qaa (Qak k2.out hb1);have Z1:=Qaa (Qak k3.out hb1);have S1:Hid (w.heap.size+3<=w1.heap.size):=by show _<=_;have:=hb1.size;have:=k4.out;omega
 clear hb1 k0 k1 k2 k3 k4
 cases h1:shB nm L with
 | false=>
  have HA:Hid (PtA nm L win x ⟨#[]⟩ [] 1):=PtA.form (fun q=>by rw [h1] at q;cases q.1);clear h1;obtain ⟨f0,f1,f2,f3⟩:=fA4 Z1.out;obtain ⟨y0,y1,y2,y3⟩:=cA4 Z1.out;go_wp2;refine bodyPost_ret (v:=.agg #[.string ⟨#[]⟩,.slice none 0 0,.slice none 0 0,.int .i64 1]) (by simp [results,Tryz.results9,go_sem,y0,y1,y2,y3]) rfl ?_;refine show PtP _ _ _ _ _ _ _ from ⟨_,_,_,_,rfl,HA.out,ShO.none _ _ _,?_⟩
  repeat (refine HBs.out _ _ _ ?_)
  exact HT1.out
 | true=>
  obtain ⟨x0,x1,x2,x3,x4,x5,x6⟩:=QfS Y1.out;go_wp2_with fail;clear x0 x1 x2 x3 x4 x5 x6;refine (Qdv x.k x.se x.v x.wd x.wt x.tm x.ti OX.out.se OX.out.wd).mono ?_;rintro e w2 ⟨rfl,hb2⟩;have HT2:=Qaa (Qad HT1.out hb2);have X2:=Qaa (Qak X1.out hb2);have Y2:=Qaa (Qak Y1.out hb2);have Z2:=Qaa (Qak Z1.out hb2);have S2:Hid (w.heap.size+3<=w2.heap.size):=by show _<=_;have:=hb2.size;have:=S1.out;omega
  clear hb2 X1 Y1 Z1 HT1 S1
  cases h2:Qbm x.k x.se x.v x.wd x.wt x.tm x.ti with
  | false=>
   have HA:Hid (PtA nm L win x ⟨#[]⟩ [] 1):=PtA.form (fun q=>by have:=q.2.1;unfold Sx.B at this;rw [h2] at this;cases this);clear h1 h2;obtain ⟨f0,f1,f2,f3⟩:=fA4 Z2.out;obtain ⟨y0,y1,y2,y3⟩:=cA4 Z2.out;go_wp2;refine bodyPost_ret (v:=.agg #[.string ⟨#[]⟩,.slice none 0 0,.slice none 0 0,.int .i64 1]) (by simp [results,Tryz.results9,go_sem,y0,y1,y2,y3]) rfl ?_;refine show PtP _ _ _ _ _ _ _ from ⟨_,_,_,_,rfl,HA.out,ShO.none _ _ _,?_⟩
   repeat (refine HBs.out _ _ _ ?_)
   exact HT2.out
  | true=>
   go_wp2_with fail;refine (QaN win _).mono ?_;rintro e wz ⟨rfl,hwz⟩;obtain rfl:=hwz.symm
   cases h3:QdO win with
   | false=>
    have HA:Hid (PtA nm L win x ⟨#[]⟩ [] 1):=PtA.form (fun q=>by rw [h3] at q;cases q.2.2);clear h1 h2 h3;obtain ⟨f0,f1,f2,f3⟩:=fA4 Z2.out;obtain ⟨y0,y1,y2,y3⟩:=cA4 Z2.out;go_wp2;refine bodyPost_ret (v:=.agg #[.string ⟨#[]⟩,.slice none 0 0,.slice none 0 0,.int .i64 1]) (by simp [results,Tryz.results9,go_sem,y0,y1,y2,y3]) rfl ?_;refine show PtP _ _ _ _ _ _ _ from ⟨_,_,_,_,rfl,HA.out,ShO.none _ _ _,?_⟩
    repeat (refine HBs.out _ _ _ ?_)
    exact HT2.out
   | true=>
    have HH:Hid (shB nm L=true/\x.B=true/\QdO win=true):=⟨h1,h2,h3⟩;have RA:=Qaa (csR_iff.1 (QcJ h1)).2.2;have RI:=Qaa (csR_iff.1 (QcJ h1)).2.1;obtain ⟨x0,x1,x2,x3,x4,x5,x6⟩:=QfS Y2.out;have z1:=Qaq X2.out 1 rfl;clear h1 h2 h3;go_wp2_with fail;clear z1 x0 x1 x2 x3 x4 x5 x6;refine (Qoe win x HH.out.2.1 OX.out (II.out.past HT2.out) hca RA.out (fun c hc=>Qpo (RI.out c hc))).mono ?_;rintro e w3 ⟨v3,R3,code,rfl,hp,hr,ho,hb3⟩;have HR3:=Qaa hr;have HO3:=Qaa ho;have s23:=hb3.size;have HS23:=Qaa s23;have HP:=Qaa hp;have S2':=Qaa S2.out;have HT3:=Qaa (Qad HT2.out hb3);have X3:=Qaa (Qak X2.out hb3);have Y3:=Qaa (Qak Y2.out hb3);have Z3:=Qaa (Qak Z2.out hb3);have S3:Hid (w.heap.size+3<=w3.heap.size):=by show _<=_;have:=hb3.size;have:=S2.out;omega
    clear hb3 X2 Y2 Z2 HT2 S2;clear hp hr ho s23;rcases HP.out.told HH.out with ⟨rfl,hA⟩ | ⟨hc,rfl,hA⟩
    ·have HA:=Qaa hA
     obtain ⟨ar,cr,rfl,_⟩:=HR3.out.form;have x0:=Qac X3.out 0 rfl;obtain ⟨f0,f1,f2,f3⟩:=fA4 Z3.out;obtain ⟨y0,y1,y2,y3⟩:=cA4 Z3.out;clear hA;go_wp2;have hlt:w.heap.size+1+1<w2.heap.size:=by have:=S2'.out;omega
     have hle:w.heap.size<=w2.heap.size:=by omega
     refine bodyPost_ret (v:=.agg #[.string nm,.slice ar R3.length cr,.slice none 0 0,.int .i64 0]) (by simp [results,Tryz.results9,go_sem,y0,y1,y2,y3]) rfl ?_;refine show PtP _ _ _ _ _ _ _ from ⟨_,_,_,_,rfl,HA.out,⟨⟨_,_,rfl,?_,OwnC.nil _ _,fun k h1 h2=>by cases h2⟩,?_⟩,?_⟩
     ·refine OwnC.le ?_ hle
      repeat (refine OwnC.setNe ?_ hlt _)
      exact HR3.out
     ·rw [List.append_nil]
      refine CesO.le ?_ hle
      repeat (refine CesO.setNe ?_ hlt _)
      exact HO3.out
     ·repeat (refine HBs.out _ _ _ ?_)
      exact HT3.out
    ·have HA:=Qaa hA
     have hc0:(code == 0)=false:=ZZf.2 hc;have hc1:(code != 0)=true:=by simp [hc]
     obtain ⟨ar,cr,e3,_⟩:=HR3.out.form;subst e3;clear hA hc;obtain ⟨f0,f1,f2,f3⟩:=fA4 Z3.out;obtain ⟨y0,y1,y2,y3⟩:=cA4 Z3.out;go_wp2;refine bodyPost_ret (v:=.agg #[.string ⟨#[]⟩,.slice none 0 0,.slice none 0 0,.int .i64 code]) (by simp [results,Tryz.results9,go_sem,y0,y1,y2,y3]) rfl ?_;refine show PtP _ _ _ _ _ _ _ from ⟨_,_,_,_,rfl,HA.out,ShO.none _ _ _,?_⟩
     repeat (refine HBs.out _ _ _ ?_)
     exact HT3.out
end Go.Proofs.YthchmdmncmioiaaGreatDoor
