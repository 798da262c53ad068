/-
 Parts.
-/
import Derived.Test.YtandnmpllheniaaGreatDoorCPG
set_option linter.all false
set_option maxHeartbeats 8000000
namespace Go.Proofs.YtandnmpllheniaaGreatDoor
open Go.ChangeShapes Go.WideShapes Go.ChangeAt Go.RowKit Go.PlainAid Go.Lib Go.Maps
set_option maxRecDepth 10000
theorem QkT {w:World} {r:Nat} {T:TypeId} {u0 u1 u2 u3 u4 u5 u6 u7 u8 u9 u10 u11 u12 u13 u14:Value} (h:w.heap[r]?=some (.cells #[u0,u1,u2,u3,u4,u5,u6,u7,u8,u9,u10,u11,u12,u13,u14] T (0,0))) (v0 v1 v2 v3 v4 v5 v6 v7 v8 v9 v10 v11 v12 v13 v14:Value) :
  (((((((((((((((w.setCell ⟨r,0,none⟩ (v0)).setCell ⟨r,1,none⟩ (v1)).setCell ⟨r,2,none⟩ (v2)).setCell ⟨r,3,none⟩ (v3)).setCell ⟨r,4,none⟩ (v4)).setCell ⟨r,5,none⟩ (v5)).setCell ⟨r,6,none⟩ (v6)).setCell ⟨r,7,none⟩ (v7)).setCell ⟨r,8,none⟩ (v8)).setCell ⟨r,9,none⟩ (v9)).setCell ⟨r,10,none⟩ (v10)).setCell ⟨r,11,none⟩ (v11)).setCell ⟨r,12,none⟩ (v12)).setCell ⟨r,13,none⟩ (v13)).setCell ⟨r,14,none⟩ (v14)).heap[r]?=some (.cells #[v0,v1,v2,v3,v4,v5,v6,v7,v8,v9,v10,v11,v12,v13,v14] T (0,0)):=
 Qob (ZZl _ r 1 _ _ v1 (ZZl _ r 0 _ _ v0 h))
theorem Qgl {w0 w:World} {r:Nat} (h:Below w0.heap.size w0 w) (hr:w0.heap.size<=r) (v0 v1 v2 v3 v4 v5 v6 v7 v8 v9 v10 v11 v12 v13 v14:Value) :
  Below w0.heap.size w0 (((((((((((((((w.setCell ⟨r,0,none⟩ (v0)).setCell ⟨r,1,none⟩ (v1)).setCell ⟨r,2,none⟩ (v2)).setCell ⟨r,3,none⟩ (v3)).setCell ⟨r,4,none⟩ (v4)).setCell ⟨r,5,none⟩ (v5)).setCell ⟨r,6,none⟩ (v6)).setCell ⟨r,7,none⟩ (v7)).setCell ⟨r,8,none⟩ (v8)).setCell ⟨r,9,none⟩ (v9)).setCell ⟨r,10,none⟩ (v10)).setCell ⟨r,11,none⟩ (v11)).setCell ⟨r,12,none⟩ (v12)).setCell ⟨r,13,none⟩ (v13)).setCell ⟨r,14,none⟩ (v14)):=
 ((((((((((((((h.setCell hr v0).setCell hr v1).setCell hr v2).setCell hr v3).setCell hr v4).setCell hr v5).setCell hr v6).setCell hr v7).setCell hr v8).setCell hr v9).setCell hr v10).setCell hr v11).setCell hr v12).setCell hr v13).setCell hr v14
theorem QiK {w:World} {k:Int} (h1:1<=k) (h4:k<=4):Calls Tryz.prog 95 #[.int .i64 k] w fun e w'=>e=.returned (.agg (Qak (QaN k) pl0))/\Below w.heap.size w w':=by
 refine (Ql1 k w).mono (fun e w' h=>?_);have e:QaN k=⟨k,0,0,0,0,if k=2 then -1 else 0,0,[],[],0,0,[],[]⟩:=by unfold QaN;rw [if_pos ⟨h1,h4⟩]
 rw [e] at h ⊢;exact h
theorem CesO.app {w w':World} {B:Nat} {L M:List Ce} (h:CesO w B L) (hb:Below w.heap.size w w') (hB:B<=w.heap.size) (hM:CesO w' w.heap.size M):CesO w' B (L ++ M):=by
 refine ⟨fun d hd=>?_,List.pairwise_append.2 ⟨h.ap,hM.ap,fun c hc d hd k h1 h2=>?_⟩⟩
 ·rcases List.mem_append.1 hd with hd | hd
  ·exact (h.o d hd).past hb
  ·exact (hM.o d hd).le hB
 ·have k1:=((h.o c hc).lt h1).2
  have k2:=((hM.o d hd).lt h2).1;omega
theorem Qok {w w2 W5 w6:World} {G:Nat} {u v':Value} {A:List Ce} {c:Ce} (hr:OwnC w2 w.heap.size u A) (ho:CesO w2 w.heap.size A) (hb2:Below w.heap.size w w2) (hb5:Below w2.heap.size w2 W5) (hG:w2.heap.size<=G) (ha:AgO W5 (G+1) c.g c.p)
  (hown:w6.ownsRow w.heap.size 51 15 v' (A.length+1) (flC A ++ ceL c)) (hg:(W5.alloc (.cells (Qap c) 51)).grownBy w6 u.ownBlock):OwnC w6 w.heap.size v' (A ++ [c])/\CesO w6 w.heap.size (A ++ [c])/\Below w.heap.size w w6:=by
 have aa:Below w2.heap.size w2 (W5.alloc (.cells (Qap c) 51)):=hb5.alloc hb5.size _;have ab:Below w.heap.size w (W5.alloc (.cells (Qap c) 51)):=hb2.trans (aa.mono hb2.size);have a2:Below W5.heap.size W5 (W5.alloc (.cells (Qap c) 51)):=(ZZb _ _).alloc (ZZa _) _;have hO:=ho.add aa hb2.size (c:=c) ((ha.past a2).le (by omega));have hR:OwnC (W5.alloc (.cells (Qap c) 51)) w.heap.size u A:=hr.past aa;have hp:(c :: A:List Ce).Perm (A ++ [c]):=(List.perm_append_singleton _ _).symm;exact ⟨OwnC.mk hown,(hO.row hR hg).perm hp,ab.grown hg ab.size (fun j hj=>(World.ownsRow.lt hr j hj).1)⟩
theorem QiB {w w6 w7 w8:World} {B:Nat} {v' v'':Value} {A M:List Ce} (hr:OwnC w6 B v' A) (ho:CesO w6 B A) (hB:B<=w6.heap.size) (hb:Below B w w6) (hb7:Below w6.heap.size w6 w7) (hM:CesO w7 w6.heap.size M)
  (hown:w8.ownsRow B 51 15 v'' (A.length+M.length) (flC A ++ flC M)) (hg:w7.grownBy w8 v'.ownBlock):OwnC w8 B v'' (A ++ M)/\CesO w8 B (A ++ M)/\Below B w w8:=by
 refine ⟨?_,(ho.app hb7 hB hM).row (hr.past hb7) hg,(hb.trans (hb7.mono hB)).grown hg (Nat.le_trans hB hb7.size) (fun j hj=>(World.ownsRow.lt hr j hj).1)⟩
 show w8.ownsRow _ _ _ _ _ _
 rw [List.length_append,QeI];exact hown
theorem OwnC.src {w:World} {B:Nat} {v:Value} {M:List Ce} (h:OwnC w B v M) (hn:v≠.slice none 0 0):∃ g cp,v=.slice (some ⟨g,0,none⟩) M.length cp/\∀ j u,(flC M)[j]?=some u->w.cell? ((⟨g,0,none⟩:Addr).add j)=some u:=by
 rcases h.2 with ⟨e,_⟩ | ⟨g,aa,ab,e,q1,q2⟩
 ·exact absurd e hn
 ·subst e
  refine ⟨g,aa,rfl,fun j u hu=>?_⟩;have hj:=(ZZd.1 hu).1;rw [QbM] at hj;rw [Addr.add_lit,Nat.zero_add,World.ownsRow.cellAt h j hj];exact hu
theorem Qdh (M:List Ce):∀ u∈flC M,u.oneCell'=true:=fun u hu=>by
 obtain ⟨m,_,h⟩:=List.mem_flatMap.1 hu;exact Qdi m u h
theorem QdO {k:Int} (h1:1<=k) (h4:k<=4):agB (QaN k)=true/\AgOk (QaN k)/\AgSm (QaN k)/\(QaN k).k=k/\∀ w B,AgO w B (QaN k) pl0:=by
 have e:QaN k=⟨k,0,0,0,0,if k=2 then -1 else 0,0,[],[],0,0,[],[]⟩:=by unfold QaN;rw [if_pos ⟨h1,h4⟩]
 have zi:I64 0:=by unfold I64;omega
 have zu:U64 0:=by unfold U64;omega
 refine ⟨?_,?_,?_,by rw [e],fun w B=>?_⟩
 ·have:k=1∨k=2∨k=3∨k=4:=by omega
  rcases this with rfl | rfl | rfl | rfl <;> rfl
 ·rw [e]
  exact ⟨by show I64 k;unfold I64;omega,zu,zi,zu,zi,by show I64 (if k=2 then -1 else 0);split <;> (unfold I64;omega),zu,zi,zu,(fun b hb=>by cases hb),(fun b hb=>by cases hb),(fun b hb=>by cases hb),(fun b hb=>by cases hb)⟩
 ·rw [e];exact ⟨ZZj _,ZZj _,ZZj _,ZZj _⟩
 ·rw [e];exact AgO.nil _ _ rfl rfl rfl rfl
theorem Qkx {w0 w:World} {r:Nat} (h:Below w0.heap.size w0 w) (hr:w0.heap.size<=r) (v0 v1 v2 v3 v4 v5 v6 v7 v8 v9 v10 v11 v12:Value) :
  Below w0.heap.size w0 (((((((((((((w.setCell ⟨r,2,none⟩ (v0)).setCell ⟨r,3,none⟩ (v1)).setCell ⟨r,4,none⟩ (v2)).setCell ⟨r,5,none⟩ (v3)).setCell ⟨r,6,none⟩ (v4)).setCell ⟨r,7,none⟩ (v5)).setCell ⟨r,8,none⟩ (v6)).setCell ⟨r,9,none⟩ (v7)).setCell ⟨r,10,none⟩ (v8)).setCell ⟨r,11,none⟩ (v9)).setCell ⟨r,12,none⟩ (v10)).setCell ⟨r,13,none⟩ (v11)).setCell ⟨r,14,none⟩ (v12)):=
 ((((((((((((h.setCell hr v0).setCell hr v1).setCell hr v2).setCell hr v3).setCell hr v4).setCell hr v5).setCell hr v6).setCell hr v7).setCell hr v8).setCell hr v9).setCell hr v10).setCell hr v11).setCell hr v12
theorem QpC {w:World} {ao:Option Addr} {N ca:Nat} {L:List Ce} (win:Int) (x:Sx) (hx:x.B=true) (ox:x.Ok) (hI:ShI w ao N L) (hca:N<=ca) (asc:AscC L) (rt:∀ c∈L,agB c.g=true) :
  Calls Tryz.prog 48 #[.slice ao N ca,.int .i64 win,.agg (Qaz x)] w fun e w'=>∃ v R code,e=.returned (.tuple #[v,.int .i64 code])/\PuA L win x R code/\OwnC w' w.heap.size v R/\CesO w' w.heap.size R/\Below w.heap.size w w':=by
 obtain ⟨i0,hi,bb,a9,bc⟩:=QjD;have II:=Qaa hI;have HX:=Qaa hx;have OX:=Qaa ox;have AS:=Qaa asc;have RT:=Qaa rt;have br:Hid (Below w.heap.size w (w.alloc (.cells (Qaz x) 28))):=(ZZb _ _).alloc (ZZa _) _;have X0:=Qaa (ZZk w (.cells (Qaz x) 28));have S0:Hid ((w.alloc (.cells (Qaz x) 28)).heap.size=w.heap.size+1):=by show _=_;simp
 have z1:=Qay X0 1 rfl;obtain ⟨g0,bx⟩:∃ g,g=QaN x.k:=⟨_,rfl⟩;obtain ⟨p0,bw⟩:∃ p,p=pl0:=⟨_,rfl⟩;have HG:=Qaa bx;have bg:=Qaa bw;have K1:=Qaa (Qbo hx).1.1;have K4:=Qaa (Qbo hx).1.2;clear hI hx ox asc rt bx bw;go_enter Tryz.func48,Tryz.ntmps48;go_wp2_with fail;clear z1;generalize w.alloc (.cells (Qaz x) 28)=W0 at br X0 S0 ⊢;refine (QhE win x.se II.out.hN II.out.lN (Qa1 II.out.mem br)).mono ?_;rintro e w1 ⟨k,is,rfl,hp,bs⟩;have HP:=Qaa hp;have aN:=Qaa (Qac br bs);have X1:=Qaa (Qal X0 bs);have S1:Hid (w.heap.size+1<=w1.heap.size):=by show _<=_;have:=bs.size;have:=S0.out;omega
 have bO:k<=N:=by have:=hp.le;have:=II.out.hN;omega
 clear hp bs br X0 S0
 cases is with
 | true=>
  obtain ⟨c,hc,hm,e1,e2,_⟩:=Qkc AS HP;have bL:k<N:=by have:=(ZZd.1 hc).1;have:=II.out.hN;omega
  have bB:(k:Int)<(N:Int):=by omega
  obtain ⟨b,bt,e,aK⟩:=II.out.mem.1 (by have:=II.out.hN;omega);subst e;obtain ⟨_,_,y2,_⟩:=Qai (aK k c hc) aN;have HC:=Qaa hc;have HM:=Qaa hm;have E1:=Qaa e1;have E2:=Qaa e2;have bA:=Qaa aK;have z0:=Qay X1 0 rfl;clear hc hm e1 e2 aK;by_cases hk:c.g.k=x.k
  ·have bk:(c.g.k == x.k)=true:=by simp [hk]
   have HK:=Qaa hk;have bJ:(0:Int)<=(k:Int):=by omega
   have bz:(k:Int)<=(ca:Int):=by omega
   clear hk;go_upto_region 2 with fail
   go_region_held3 (fun W=>W.cell? ⟨b,bt+k*15+2,none⟩=some (.int .i64 c.g.k)/\W.cell? ⟨w.heap.size,0,none⟩=some (.int .i64 x.k))
    (exact ⟨by simpa using y2,by simpa using z0⟩)
    (fail)
   clear y2 z0;have bn:Hid ((L.take k).length=k):=by show _=_;rw [List.length_take];have:=II.out.hN;omega
   have lk:k<=1048576:=by have:=II.out.lN;omega
   go_wp2_with fail;refine (QbP (L:=L.take k) bn lk (fun d hd=>II.out.sm d (ZZo hd)) (fun d hd=>II.out.pl d (ZZo hd)) (Qa1 (Qli II.out.mem) aN.out.drew)).mono ?_;rintro e w2 ⟨vA,A,rfl,hr,ho,bh,a8,bi⟩;have aU:=Qaa (Qac aN.out.drew a8);have X2:=Qaa (Qal (w:=w1.drew) X1 a8);have aW:=Qaa (hr.le aN.out.drew.size);have bo:=Qaa (ho.le aN.out.drew.size);have a7:=Qaa bh;have bG:=Qaa bi;clear hr ho bh bi a8;go_upto_region 7 with fail
   go_cut [11] (fun v w'=>∃ G:Nat,v=.pointer (some ⟨G,0,none⟩)/\Hid (w'.heap[G]?=some (.cells (Qap ⟨win,x.se,g0,p0⟩) 51 (0,0)))/\Hid (w2.heap.size<=G)/\Hid (Below w2.heap.size w2 w'))
   case first=>
    have ab:(fun W=>Below w2.heap.size w2 W) w2.drew:=(ZZb _ _).drew;refine Qaj (fun W=>Below w2.heap.size w2 W) 8 (by kernel_rfl) ?_;refine tkS 0 (.int .i64 win) ab ?_;refine tkS 1 (.pointer (some ⟨w.heap.size,1,none⟩)) ab ?_;refine tkL 2 (.string x.se) ab (fun W hW=>?_) ?_
    ·have q:=Qay (Qal X2 hW) 1 rfl
     clear hW;go_simp
    simp only [sX];refine tkS 3 (.pointer (some ⟨w.heap.size,0,none⟩)) ab ?_;refine tkL 4 (.int .i64 x.k) ab (fun W hW=>?_) ?_
    ·have q:=Qay (Qal X2 hW) 0 rfl
     clear hW;go_simp
    simp only [sX];refine Qpr (i:=5) (j:=7) (by kernel_rfl) rfl rfl (fun K hK=>?_) (fun K hK=>?_)
    ·go_simp
     refine (QiK K1 K4).mono ?_;rintro e w3 ⟨rfl,av⟩;rw [<- HG.out,<- bg.out];have aM:Hid (Below w2.heap.size w2 w3):=(ab:Below w2.heap.size w2 _).trans (av.mono (ab:Below w2.heap.size w2 _).size);clear av
     try dsimp only
     refine gK hK aM.out ?_
     try simp only [sX]
     refine tkS 6 (.agg (Qap ⟨win,x.se,g0,p0⟩)) aM ?_;simp only [sX];refine onE 7 fun K hK=>?_;go_simp;have ak:Hid (Below w2.heap.size w2 (w3.alloc (.cells #[.int .i64 0,.string ⟨#[]⟩,.int .i64 0,.int .u64 0,.int .i64 0,.int .u64 0,.int .i64 0,.int .i64 0,.int .u64 0,.slice none 0 0,.slice none 0 0,.int .i64 0,.int .u64 0,.slice none 0 0,.slice none 0 0] 51))):=aM.out.alloc aM.out.size _;have R0:=Qaa (ZZk w3 (.cells #[.int .i64 0,.string ⟨#[]⟩,.int .i64 0,.int .u64 0,.int .i64 0,.int .u64 0,.int .i64 0,.int .i64 0,.int .u64 0,.slice none 0 0,.slice none 0 0,.int .i64 0,.int .u64 0,.slice none 0 0,.slice none 0 0] 51))
     try dsimp only
     refine gK hK ak.out ?_
     try simp only [sX]
     have hG:Hid (w2.heap.size<=w3.heap.size):=aM.out.size;generalize w3.alloc (.cells #[.int .i64 0,.string ⟨#[]⟩,.int .i64 0,.int .u64 0,.int .i64 0,.int .u64 0,.int .i64 0,.int .i64 0,.int .u64 0,.slice none 0 0,.slice none 0 0,.int .i64 0,.int .u64 0,.slice none 0 0,.slice none 0 0] 51)=Wa at ak R0 ⊢;generalize w3.heap.size=G at R0 hG ⊢;obtain ⟨q0,q1,q2,q3,q4,q5,q6,q7,q8,q9,af,ag,ah,ai,ae⟩:=Qoz R0;obtain ⟨f0,f1,f2,f3,f4,f5,f6,f7,f8,f9,an,aw,ar,ap,au⟩:=fA15 R0;refine onE 8 fun K hK=>?_;go_simp;have aG:=Qaa (QkT R0 (.int .i64 win) (.string x.se) (.int .i64 g0.k) (.int .u64 g0.s) (.int .i64 g0.h) (.int .u64 g0.l) (.int .i64 g0.a) (.int .i64 g0.t) (.int .u64 g0.z) (.slice p0.pa g0.P.length p0.pc) (.slice p0.na g0.N.length p0.nc) (.int .i64 g0.x) (.int .u64 g0.y) (.slice p0.ea g0.E.length p0.ec) (.slice p0.ra g0.R.length p0.rc));have aD:=Qaa (Qgl ak hG (.int .i64 win) (.string x.se) (.int .i64 g0.k) (.int .u64 g0.s) (.int .i64 g0.h) (.int .u64 g0.l) (.int .i64 g0.a) (.int .i64 g0.t) (.int .u64 g0.z) (.slice p0.pa g0.P.length p0.pc) (.slice p0.na g0.N.length p0.nc) (.int .i64 g0.x) (.int .u64 g0.y) (.slice p0.ea g0.E.length p0.ec) (.slice p0.ra g0.R.length p0.rc));clear q0 f0 q1 f1 q2 f2 q3 f3 q4 f4 q5 f5 q6 f6 q7 f7 q8 f8 q9 f9 af an ag aw ah ar ai ap ae au;refine hK.out _ _ (fun h=>absurd rfl h) ?_
     try simp only [sX]
     generalize (((((((((((((((Wa.setCell ⟨G,0,none⟩ (.int .i64 win)).setCell ⟨G,1,none⟩ (.string x.se)).setCell ⟨G,2,none⟩ (.int .i64 g0.k)).setCell ⟨G,3,none⟩ (.int .u64 g0.s)).setCell ⟨G,4,none⟩ (.int .i64 g0.h)).setCell ⟨G,5,none⟩ (.int .u64 g0.l)).setCell ⟨G,6,none⟩ (.int .i64 g0.a)).setCell ⟨G,7,none⟩ (.int .i64 g0.t)).setCell ⟨G,8,none⟩ (.int .u64 g0.z)).setCell ⟨G,9,none⟩ (.slice p0.pa g0.P.length p0.pc)).setCell ⟨G,10,none⟩ (.slice p0.na g0.N.length p0.nc)).setCell ⟨G,11,none⟩ (.int .i64 g0.x)).setCell ⟨G,12,none⟩ (.int .u64 g0.y)).setCell ⟨G,13,none⟩ (.slice p0.ea g0.E.length p0.ec)).setCell ⟨G,14,none⟩ (.slice p0.ra g0.R.length p0.rc))=W5 at aG aD ⊢;refine dnE ?_ _;go_wp2;go_meet;exact ⟨G,rfl,aG,hG,aD⟩
    ·go_simp
     have aB:Hid (Below w2.heap.size w2 (w2.alloc (.cells #[.int .i64 0,.string ⟨#[]⟩,.int .i64 0,.int .u64 0,.int .i64 0,.int .u64 0,.int .i64 0,.int .i64 0,.int .u64 0,.slice none 0 0,.slice none 0 0,.int .i64 0,.int .u64 0,.slice none 0 0,.slice none 0 0] 51)).drew):=((ZZb _ _).alloc (ZZa _) _).drew;have R0:Hid ((w2.alloc (.cells #[.int .i64 0,.string ⟨#[]⟩,.int .i64 0,.int .u64 0,.int .i64 0,.int .u64 0,.int .i64 0,.int .i64 0,.int .u64 0,.slice none 0 0,.slice none 0 0,.int .i64 0,.int .u64 0,.slice none 0 0,.slice none 0 0] 51)).drew.heap[w2.heap.size]?=some (.cells #[.int .i64 0,.string ⟨#[]⟩,.int .i64 0,.int .u64 0,.int .i64 0,.int .u64 0,.int .i64 0,.int .i64 0,.int .u64 0,.slice none 0 0,.slice none 0 0,.int .i64 0,.int .u64 0,.slice none 0 0,.slice none 0 0] 51 (0,0))):=ZZk w2 (.cells #[.int .i64 0,.string ⟨#[]⟩,.int .i64 0,.int .u64 0,.int .i64 0,.int .u64 0,.int .i64 0,.int .i64 0,.int .u64 0,.slice none 0 0,.slice none 0 0,.int .i64 0,.int .u64 0,.slice none 0 0,.slice none 0 0] 51)
     try dsimp only
     refine gK hK aB.out ?_
     try simp only [sX]
     generalize (w2.alloc (.cells #[.int .i64 0,.string ⟨#[]⟩,.int .i64 0,.int .u64 0,.int .i64 0,.int .u64 0,.int .i64 0,.int .i64 0,.int .u64 0,.slice none 0 0,.slice none 0 0,.int .i64 0,.int .u64 0,.slice none 0 0,.slice none 0 0] 51)).drew=Wb at aB R0 ⊢;refine onE 5 fun K hK=>?_;go_simp;refine (QiK K1 K4).mono ?_;rintro e Wa ⟨rfl,av⟩;rw [<- HG.out,<- bg.out];have ak:Hid (Below w2.heap.size w2 Wa):=aB.out.trans (av.mono aB.out.size);have R1:=Qaa (Qal R0 av);have hG:Hid (w2.heap.size<=w2.heap.size):=ZZa _;clear av R0 aB
     try dsimp only
     refine gK hK ak.out ?_
     try simp only [sX]
     refine tkS 6 (.agg (Qap ⟨win,x.se,g0,p0⟩)) ak ?_;simp only [sX];obtain ⟨q0,q1,q2,q3,q4,q5,q6,q7,q8,q9,af,ag,ah,ai,ae⟩:=Qoz R1;obtain ⟨f0,f1,f2,f3,f4,f5,f6,f7,f8,f9,an,aw,ar,ap,au⟩:=fA15 R1;refine onE 8 fun K hK=>?_;go_simp;have aG:=Qaa (QkT R1 (.int .i64 win) (.string x.se) (.int .i64 g0.k) (.int .u64 g0.s) (.int .i64 g0.h) (.int .u64 g0.l) (.int .i64 g0.a) (.int .i64 g0.t) (.int .u64 g0.z) (.slice p0.pa g0.P.length p0.pc) (.slice p0.na g0.N.length p0.nc) (.int .i64 g0.x) (.int .u64 g0.y) (.slice p0.ea g0.E.length p0.ec) (.slice p0.ra g0.R.length p0.rc));have aD:=Qaa (Qgl ak hG (.int .i64 win) (.string x.se) (.int .i64 g0.k) (.int .u64 g0.s) (.int .i64 g0.h) (.int .u64 g0.l) (.int .i64 g0.a) (.int .i64 g0.t) (.int .u64 g0.z) (.slice p0.pa g0.P.length p0.pc) (.slice p0.na g0.N.length p0.nc) (.int .i64 g0.x) (.int .u64 g0.y) (.slice p0.ea g0.E.length p0.ec) (.slice p0.ra g0.R.length p0.rc));clear q0 f0 q1 f1 q2 f2 q3 f3 q4 f4 q5 f5 q6 f6 q7 f7 q8 f8 q9 f9 af an ag aw ah ar ai ap ae au;refine hK.out _ _ (fun h=>absurd rfl h) ?_
     try simp only [sX]
     generalize (((((((((((((((Wa.setCell ⟨w2.heap.size,0,none⟩ (.int .i64 win)).setCell ⟨w2.heap.size,1,none⟩ (.string x.se)).setCell ⟨w2.heap.size,2,none⟩ (.int .i64 g0.k)).setCell ⟨w2.heap.size,3,none⟩ (.int .u64 g0.s)).setCell ⟨w2.heap.size,4,none⟩ (.int .i64 g0.h)).setCell ⟨w2.heap.size,5,none⟩ (.int .u64 g0.l)).setCell ⟨w2.heap.size,6,none⟩ (.int .i64 g0.a)).setCell ⟨w2.heap.size,7,none⟩ (.int .i64 g0.t)).setCell ⟨w2.heap.size,8,none⟩ (.int .u64 g0.z)).setCell ⟨w2.heap.size,9,none⟩ (.slice p0.pa g0.P.length p0.pc)).setCell ⟨w2.heap.size,10,none⟩ (.slice p0.na g0.N.length p0.nc)).setCell ⟨w2.heap.size,11,none⟩ (.int .i64 g0.x)).setCell ⟨w2.heap.size,12,none⟩ (.int .u64 g0.y)).setCell ⟨w2.heap.size,13,none⟩ (.slice p0.ea g0.E.length p0.ec)).setCell ⟨w2.heap.size,14,none⟩ (.slice p0.ra g0.R.length p0.rc))=W5 at aG aD ⊢;refine dnE ?_ _;go_wp2;go_meet;exact ⟨w2.heap.size,rfl,aG,hG,aD⟩
   case rest=>
    obtain ⟨G,rfl,RG,GG,BG⟩:=hcut;obtain ⟨_,_,y2,y3,y4,y5,y6,y7,y8,y9,bE,bK,bH,bF,bD⟩:=Qai (bA.out k c HC) (Qac aU BG);have q2:=Qad RG 2 rfl;have q3:=Qad RG 3 rfl;have q4:=Qad RG 4 rfl;have q5:=Qad RG 5 rfl;have q6:=Qad RG 6 rfl;have q7:=Qad RG 7 rfl;have q8:=Qad RG 8 rfl;have q9:=Qad RG 9 rfl;have af:=Qad RG 10 rfl;have ag:=Qad RG 11 rfl;have ah:=Qad RG 12 rfl;have ai:=Qad RG 13 rfl;have ae:=Qad RG 14 rfl;have f2:=fzR 2 RG;have f3:=fzR 3 RG;have f4:=fzR 4 RG;have f5:=fzR 5 RG;have f6:=fzR 6 RG;have f7:=fzR 7 RG;have f8:=fzR 8 RG;have f9:=fzR 9 RG;have an:=fzR 10 RG;have aw:=fzR 11 RG;have ar:=fzR 12 RG;have ap:=fzR 13 RG;have au:=fzR 14 RG;have R9:=Qaa (Qob (v0:=.int .i64 c.g.k) (v1:=.int .u64 c.g.s) (v2:=.int .i64 c.g.h) (v3:=.int .u64 c.g.l) (v4:=.int .i64 c.g.a) (v5:=.int .i64 c.g.t) (v6:=.int .u64 c.g.z) (v7:=.slice c.p.pa c.g.P.length c.p.pc) (v8:=.slice c.p.na c.g.N.length c.p.nc) (v9:=.int .i64 c.g.x) (v10:=.int .u64 c.g.y) (v11:=.slice c.p.ea c.g.E.length c.p.ec) (v12:=.slice c.p.ra c.g.R.length c.p.rc) RG);have B9:=Qaa (Qkx BG GG (.int .i64 c.g.k) (.int .u64 c.g.s) (.int .i64 c.g.h) (.int .u64 c.g.l) (.int .i64 c.g.a) (.int .i64 c.g.t) (.int .u64 c.g.z) (.slice c.p.pa c.g.P.length c.p.pc) (.slice c.p.na c.g.N.length c.p.nc) (.int .i64 c.g.x) (.int .u64 c.g.y) (.slice c.p.ea c.g.E.length c.p.ec) (.slice c.p.ra c.g.R.length c.p.rc));go_upto_region 10 with fail;clear y2 q2 f2 y3 q3 f3 y4 q4 f4 y5 q5 f5 y6 q6 f6 y7 q7 f7 y8 q8 f8 y9 q9 f9 bE af an bK ag aw bH ah ar bF ai ap bD ae au;generalize (((((((((((((wc.setCell ⟨G,2,none⟩ (.int .i64 c.g.k)).setCell ⟨G,3,none⟩ (.int .u64 c.g.s)).setCell ⟨G,4,none⟩ (.int .i64 c.g.h)).setCell ⟨G,5,none⟩ (.int .u64 c.g.l)).setCell ⟨G,6,none⟩ (.int .i64 c.g.a)).setCell ⟨G,7,none⟩ (.int .i64 c.g.t)).setCell ⟨G,8,none⟩ (.int .u64 c.g.z)).setCell ⟨G,9,none⟩ (.slice c.p.pa c.g.P.length c.p.pc)).setCell ⟨G,10,none⟩ (.slice c.p.na c.g.N.length c.p.nc)).setCell ⟨G,11,none⟩ (.int .i64 c.g.x)).setCell ⟨G,12,none⟩ (.int .u64 c.g.y)).setCell ⟨G,13,none⟩ (.slice c.p.ea c.g.E.length c.p.ec)).setCell ⟨G,14,none⟩ (.slice c.p.ra c.g.R.length c.p.rc))=W9 at R9 B9 ⊢;have X9:=Qaa (Qal X2 B9);obtain ⟨s0,s1,s2,s3,s4,s5,s6⟩:=QgS X9;have q2:=Qad R9 2 rfl;have q3:=Qad R9 3 rfl;have q4:=Qad R9 4 rfl;have q5:=Qad R9 5 rfl;have q6:=Qad R9 6 rfl;have q7:=Qad R9 7 rfl;have q8:=Qad R9 8 rfl;have q9:=Qad R9 9 rfl;have af:=Qad R9 10 rfl;have ag:=Qad R9 11 rfl;have ah:=Qad R9 12 rfl;have ai:=Qad R9 13 rfl;have ae:=Qad R9 14 rfl;go_wp2_with fail;clear s0 s1 s2 s3 s4 s5 s6 q2 q3 q4 q5 q6 q7 q8 q9 af ag ah ai ae;refine (Qhz x (RT.out c HM) HX HK (II.out.ok c HM) OX (II.out.sm c HM) (II.out.pl c HM) (Qao (II.out.mem.2 c HM) (Qac aU B9))).mono ?_;rintro e w4 ⟨v,o,rfl,aO,⟨q,rfl,a0⟩,aZ⟩;have R4:=Qaa (Qal R9 aZ);have B4:=Qaa (B9.out.trans (aZ.mono B9.out.size));have aA:=Qaa aO;have bI:=Qaa a0;have bv:=Qaa (a0.le (show G+1<=W9.heap.size from (ZZc.1 R9).1));clear aO a0 aZ;have q2:=Qad R4 2 rfl;have q3:=Qad R4 3 rfl;have q4:=Qad R4 4 rfl;have q5:=Qad R4 5 rfl;have q6:=Qad R4 6 rfl;have q7:=Qad R4 7 rfl;have q8:=Qad R4 8 rfl;have q9:=Qad R4 9 rfl;have af:=Qad R4 10 rfl;have ag:=Qad R4 11 rfl;have ah:=Qad R4 12 rfl;have ai:=Qad R4 13 rfl;have ae:=Qad R4 14 rfl;have f2:=fzR 2 R4;have f3:=fzR 3 R4;have f4:=fzR 4 R4;have f5:=fzR 5 R4;have f6:=fzR 6 R4;have f7:=fzR 7 R4;have f8:=fzR 8 R4;have f9:=fzR 9 R4;have an:=fzR 10 R4;have aw:=fzR 11 R4;have ar:=fzR 12 R4;have ap:=fzR 13 R4;have au:=fzR 14 R4;have R5:=Qaa (Qob (v0:=.int .i64 o.k) (v1:=.int .u64 o.s) (v2:=.int .i64 o.h) (v3:=.int .u64 o.l) (v4:=.int .i64 o.a) (v5:=.int .i64 o.t) (v6:=.int .u64 o.z) (v7:=.slice q.pa o.P.length q.pc) (v8:=.slice q.na o.N.length q.nc) (v9:=.int .i64 o.x) (v10:=.int .u64 o.y) (v11:=.slice q.ea o.E.length q.ec) (v12:=.slice q.ra o.R.length q.rc) R4);have B5:=Qaa (Qkx B4 GG (.int .i64 o.k) (.int .u64 o.s) (.int .i64 o.h) (.int .u64 o.l) (.int .i64 o.a) (.int .i64 o.t) (.int .u64 o.z) (.slice q.pa o.P.length q.pc) (.slice q.na o.N.length q.nc) (.int .i64 o.x) (.int .u64 o.y) (.slice q.ea o.E.length q.ec) (.slice q.ra o.R.length q.rc));go_upto_region 11 with fail;clear q2 f2 q3 f3 q4 f4 q5 f5 q6 f6 q7 f7 q8 f8 q9 f9 af an ag aw ah ar ai ap ae au;have O5:Hid (AgO (((((((((((((w4.setCell ⟨G,2,none⟩ (.int .i64 o.k)).setCell ⟨G,3,none⟩ (.int .u64 o.s)).setCell ⟨G,4,none⟩ (.int .i64 o.h)).setCell ⟨G,5,none⟩ (.int .u64 o.l)).setCell ⟨G,6,none⟩ (.int .i64 o.a)).setCell ⟨G,7,none⟩ (.int .i64 o.t)).setCell ⟨G,8,none⟩ (.int .u64 o.z)).setCell ⟨G,9,none⟩ (.slice q.pa o.P.length q.pc)).setCell ⟨G,10,none⟩ (.slice q.na o.N.length q.nc)).setCell ⟨G,11,none⟩ (.int .i64 o.x)).setCell ⟨G,12,none⟩ (.int .u64 o.y)).setCell ⟨G,13,none⟩ (.slice q.ea o.E.length q.ec)).setCell ⟨G,14,none⟩ (.slice q.ra o.R.length q.rc)) (G+1) o q):=bv.out.kept15 (Nat.lt_succ_self _);generalize (((((((((((((w4.setCell ⟨G,2,none⟩ (.int .i64 o.k)).setCell ⟨G,3,none⟩ (.int .u64 o.s)).setCell ⟨G,4,none⟩ (.int .i64 o.h)).setCell ⟨G,5,none⟩ (.int .u64 o.l)).setCell ⟨G,6,none⟩ (.int .i64 o.a)).setCell ⟨G,7,none⟩ (.int .i64 o.t)).setCell ⟨G,8,none⟩ (.int .u64 o.z)).setCell ⟨G,9,none⟩ (.slice q.pa o.P.length q.pc)).setCell ⟨G,10,none⟩ (.slice q.na o.N.length q.nc)).setCell ⟨G,11,none⟩ (.int .i64 o.x)).setCell ⟨G,12,none⟩ (.int .u64 o.y)).setCell ⟨G,13,none⟩ (.slice q.ea o.E.length q.ec)).setCell ⟨G,14,none⟩ (.slice q.ra o.R.length q.rc))=W5 at R5 B5 O5 ⊢;obtain ⟨q0,q1,q2,q3,q4,q5,q6,q7,q8,q9,af,ag,ah,ai,ae⟩:=Qoz R5;have bm:=Qaa (aW.out.past B5);have aq:Hid (A.length=k):=by show _=_;have:=congrArg List.length a7;simp at this;have:=bn.out;simp at this;omega
    have bC:w.heap.size<=W5.heap.size:=Nat.le_trans aU.out.size B5.out.size;have bq:=Qaa (fun v' w6=>Qok (c:=⟨win,x.se,o,q⟩) (v':=v') (w6:=w6) aW bo aU B5 GG O5);go_wp2_with (at_builtin;refine wpList_append_own _ rfl _ _ 23 rfl w.heap.size 51 i0 (.agg Qch) 15 192 Tryz.underlying23 hi bb a9 bc rfl (by decide) _ _ _ rfl (World.ownsRow.alloc bm _) ⟨W5.heap.size,0,none⟩ 1 1 (ceL ⟨win,x.se,o,q⟩) rfl rfl ?c1 ?c2 ?c3 ?c4 ?c5 ?_)
    case c1=>exact Qb2 (c:=⟨win,x.se,o,q⟩)
    case c2=>exact Qdi _
    case c3=>have:=aq.out;unfold maxLen;omega
    case c4=>have:=aq.out;omega
    case c5=>simp;omega
    intro v6 w6 aj ad aE;obtain ⟨bj,be,bp⟩:=bq.out v6 w6 aj ad;have aQ:=Qaa bj;have bd:=Qaa be;have aL:=Qaa bp;clear aj ad aE bj be bp bq bm aW bo O5 R5 B5 q0 q1 q2 q3 q4 q5 q6 q7 q8 q9 af ag ah ai ae;have bP:(0:Int)<=(k:Int)+1:=by omega
    have bN:(k:Int)+1<=(N:Int):=by omega
    have bM:IntKind.i64.wrap ((k:Int)+1)=(k:Int)+1:=ZZi _ ⟨by omega,by omega⟩;have aR:Hid ((L.drop (k+1)).length=N - (k+1)):=by show _=_;rw [List.length_drop,II.out.hN]
    have ld:N - (k+1)<=1048576:=by have:=II.out.lN;omega
    have aS:w.heap.size<=w6.heap.size:=aL.out.size;have D1:Hid (ca=k+1->Qb7 w (some ⟨b,bt,none⟩) (L.drop (k+1))):=fun e=>by have:=Qgi (k:=k+1) (ca:=ca) II.out.mem (by have:=II.out.hN;omega);rw [if_pos e] at this;exact this
    have D2:Hid (ca≠k+1->Qb7 w (some ⟨b,bt+(k+1)*15,none⟩) (L.drop (k+1))):=fun e=>by have:=Qgi (k:=k+1) (ca:=ca) II.out.mem (by have:=II.out.hN;omega);rw [if_neg e] at this;simpa [Addr.add] using this
    by_cases bl:ca=(k+1)
    ·have aT:=Qaa (D1.out bl)
     go_wp2_with fail
     skip
     refine (QbP (L:=L.drop (k+1)) aR ld (fun d hd=>II.out.sm d (ZZp hd)) (fun d hd=>II.out.pl d (ZZp hd)) (Qa1 aT aL)).mono ?_;rintro e w7 ⟨vB,M,rfl,aJ,aC,am,al,aF⟩;obtain ⟨gB,cB,rfl,aP⟩:=aJ.src aF;have aY:=Qaa aP;have a6:=Qaa aC;have aV:=Qaa am;have ax:=Qaa al;have aH:Hid (M.length=N - (k+1)):=(QcS am).trans aR;have az:=Qaa (aQ.out.past ax);have aX:w.heap.size<=w7.heap.size:=Nat.le_trans aS al.size;have ay:=Qaa (fun v'' w8=>QiB (v'':=v'') (w8:=w8) aQ bd aS aL ax a6);clear aP aC am al aJ aF;go_wp2_with (at_builtin;refine wpList_append_own _ rfl _ _ 23 rfl w.heap.size 51 i0 (.agg Qch) 15 192 Tryz.underlying23 hi bb a9 bc rfl (by decide) _ _ _ rfl az ⟨gB,0,none⟩ M.length cB (flC M) rfl (QbM M) aY (Qdh M) ?c3 ?c4 aX ?_)
     case c3=>have:=aq.out;have:=aH.out;have:=II.out.lN;simp only [List.length_append,List.length_cons,List.length_nil];unfold maxLen;omega
     case c4=>have:=aq.out;have:=aH.out;have:=II.out.lN;simp only [List.length_append,List.length_cons,List.length_nil];omega
     intro v8 w8 aa aI ac;obtain ⟨f1,f2,f3⟩:=ay.out v8 w8 (by rw [List.length_append];exact aa) aI;have F1:=Qaa f1;have F2:=Qaa f2;have F3:=Qaa f3;clear f1 f2 f3 aa aI ac ay az;go_wp2;go_ret2;exact ⟨_,_,0,rfl,PuA.there c o _ HM E1 E2 HK aA (Qkm AS HP a7 aV),F1,F2,F3⟩
    ·have aT:=Qaa (D2.out bl)
     go_wp2_with fail
     skip
     refine (QbP (L:=L.drop (k+1)) aR ld (fun d hd=>II.out.sm d (ZZp hd)) (fun d hd=>II.out.pl d (ZZp hd)) (Qa1 aT aL)).mono ?_;rintro e w7 ⟨vB,M,rfl,aJ,aC,am,al,aF⟩;obtain ⟨gB,cB,rfl,aP⟩:=aJ.src aF;have aY:=Qaa aP;have a6:=Qaa aC;have aV:=Qaa am;have ax:=Qaa al;have aH:Hid (M.length=N - (k+1)):=(QcS am).trans aR;have az:=Qaa (aQ.out.past ax);have aX:w.heap.size<=w7.heap.size:=Nat.le_trans aS al.size;have ay:=Qaa (fun v'' w8=>QiB (v'':=v'') (w8:=w8) aQ bd aS aL ax a6);clear aP aC am al aJ aF;go_wp2_with (at_builtin;refine wpList_append_own _ rfl _ _ 23 rfl w.heap.size 51 i0 (.agg Qch) 15 192 Tryz.underlying23 hi bb a9 bc rfl (by decide) _ _ _ rfl az ⟨gB,0,none⟩ M.length cB (flC M) rfl (QbM M) aY (Qdh M) ?c3 ?c4 aX ?_)
     case c3=>have:=aq.out;have:=aH.out;have:=II.out.lN;simp only [List.length_append,List.length_cons,List.length_nil];unfold maxLen;omega
     case c4=>have:=aq.out;have:=aH.out;have:=II.out.lN;simp only [List.length_append,List.length_cons,List.length_nil];omega
     intro v8 w8 aa aI ac;obtain ⟨f1,f2,f3⟩:=ay.out v8 w8 (by rw [List.length_append];exact aa) aI;have F1:=Qaa f1;have F2:=Qaa f2;have F3:=Qaa f3;clear f1 f2 f3 aa aI ac ay az;go_wp2;go_ret2;exact ⟨_,_,0,rfl,PuA.there c o _ HM E1 E2 HK aA (Qkm AS HP a7 aV),F1,F2,F3⟩
  ·have HR:Hid (PuA L win x [] 9):=PuA.kind c HM E1 E2 hk
   have bk:(c.g.k == x.k)=false:=by simp [hk]
   clear hk;go_upto_region 2 with fail
   go_region_held3 (fun W=>W.cell? ⟨b,bt+k*15+2,none⟩=some (.int .i64 c.g.k)/\W.cell? ⟨w.heap.size,0,none⟩=some (.int .i64 x.k))
    (exact ⟨by simpa using y2,by simpa using z0⟩)
    (fail)
   go_wp2;go_ret2;exact ⟨_,[],9,rfl,HR,World.ownsRow_nil _ _ _ _,CesO.nil _ _,aN.out.drew⟩
 | false=>
  obtain ⟨_,hn⟩:=Qof AS HP;have bu:=Qaa hn;clear hn;go_upto_region 2 with fail;have ab:(fun _=>True) w1.drew:=trivial;refine Qaj (fun _=>True) 99 (by kernel_rfl) ?_;refine tkS 0 (.bool false) ab ?_;refine tkS 1 (.bool false) ab ?_;refine tkU 2 ab ?_;simp only [sX];refine tkU 3 ab ?_;refine tkU 4 ab ?_;refine tkU 5 ab ?_;simp only [sX];refine tkU 6 ab ?_;refine tkU 7 ab ?_;refine tkU 8 ab ?_;simp only [sX];refine tkU 9 ab ?_;refine tkU 10 ab ?_;refine tkS 11 (.bool false) ab ?_;simp only [sX];refine dnE ?_ _;by_cases hf:60<=N
  ·have HR:Hid (PuA L win x [] 8):=PuA.full bu (by have:=II.out.hN;omega)
   have bf:decide ((60:Int)<=(N:Int))=true:=ZZh (by omega);clear hf;go_wp2;go_ret2;exact ⟨_,[],8,rfl,HR,World.ownsRow_nil _ _ _ _,CesO.nil _ _,aN.out.drew⟩
  ·have bf:decide ((60:Int)<=(N:Int))=false:=ZZg (by omega)
   have HF:=Qaa hf;have bJ:(0:Int)<=(k:Int):=by omega
   have bz:(k:Int)<=(ca:Int):=by omega
   clear hf;go_wp2_with fail;have bn:Hid ((L.take k).length=k):=by show _=_;rw [List.length_take];have:=II.out.hN;omega
   have lk:k<=1048576:=by have:=II.out.lN;omega
   refine (QbP (L:=L.take k) bn lk (fun d hd=>II.out.sm d (ZZo hd)) (fun d hd=>II.out.pl d (ZZo hd)) (Qa1 (Qli II.out.mem) aN.out.drew)).mono ?_;rintro e w2 ⟨vA,A,rfl,hr,ho,bh,a8,bi⟩;have aU:=Qaa (Qac aN.out.drew a8);have X2:=Qaa (Qal (w:=w1.drew) X1 a8);have aW:=Qaa (hr.le aN.out.drew.size);have bo:=Qaa (ho.le aN.out.drew.size);have a7:=Qaa bh;have bG:=Qaa bi;clear hr ho bh bi a8;go_upto_region 7 with fail
   go_cut [11] (fun v w'=>∃ G:Nat,v=.pointer (some ⟨G,0,none⟩)/\Hid (w'.heap[G]?=some (.cells (Qap ⟨win,x.se,g0,p0⟩) 51 (0,0)))/\Hid (w2.heap.size<=G)/\Hid (Below w2.heap.size w2 w'))
   case first=>
    have ab:(fun W=>Below w2.heap.size w2 W) w2.drew:=(ZZb _ _).drew;refine Qaj (fun W=>Below w2.heap.size w2 W) 8 (by kernel_rfl) ?_;refine tkS 0 (.int .i64 win) ab ?_;refine tkS 1 (.pointer (some ⟨w.heap.size,1,none⟩)) ab ?_;refine tkL 2 (.string x.se) ab (fun W hW=>?_) ?_
    ·have q:=Qay (Qal X2 hW) 1 rfl
     clear hW;go_simp
    simp only [sX];refine tkS 3 (.pointer (some ⟨w.heap.size,0,none⟩)) ab ?_;refine tkL 4 (.int .i64 x.k) ab (fun W hW=>?_) ?_
    ·have q:=Qay (Qal X2 hW) 0 rfl
     clear hW;go_simp
    simp only [sX];refine Qpr (i:=5) (j:=7) (by kernel_rfl) rfl rfl (fun K hK=>?_) (fun K hK=>?_)
    ·go_simp
     refine (QiK K1 K4).mono ?_;rintro e w3 ⟨rfl,av⟩;rw [<- HG.out,<- bg.out];have aM:Hid (Below w2.heap.size w2 w3):=(ab:Below w2.heap.size w2 _).trans (av.mono (ab:Below w2.heap.size w2 _).size);clear av
     try dsimp only
     refine gK hK aM.out ?_
     try simp only [sX]
     refine tkS 6 (.agg (Qap ⟨win,x.se,g0,p0⟩)) aM ?_;simp only [sX];refine onE 7 fun K hK=>?_;go_simp;have ak:Hid (Below w2.heap.size w2 (w3.alloc (.cells #[.int .i64 0,.string ⟨#[]⟩,.int .i64 0,.int .u64 0,.int .i64 0,.int .u64 0,.int .i64 0,.int .i64 0,.int .u64 0,.slice none 0 0,.slice none 0 0,.int .i64 0,.int .u64 0,.slice none 0 0,.slice none 0 0] 51))):=aM.out.alloc aM.out.size _;have R0:=Qaa (ZZk w3 (.cells #[.int .i64 0,.string ⟨#[]⟩,.int .i64 0,.int .u64 0,.int .i64 0,.int .u64 0,.int .i64 0,.int .i64 0,.int .u64 0,.slice none 0 0,.slice none 0 0,.int .i64 0,.int .u64 0,.slice none 0 0,.slice none 0 0] 51))
     try dsimp only
     refine gK hK ak.out ?_
     try simp only [sX]
     have hG:Hid (w2.heap.size<=w3.heap.size):=aM.out.size;generalize w3.alloc (.cells #[.int .i64 0,.string ⟨#[]⟩,.int .i64 0,.int .u64 0,.int .i64 0,.int .u64 0,.int .i64 0,.int .i64 0,.int .u64 0,.slice none 0 0,.slice none 0 0,.int .i64 0,.int .u64 0,.slice none 0 0,.slice none 0 0] 51)=Wa at ak R0 ⊢;generalize w3.heap.size=G at R0 hG ⊢;obtain ⟨q0,q1,q2,q3,q4,q5,q6,q7,q8,q9,af,ag,ah,ai,ae⟩:=Qoz R0;obtain ⟨f0,f1,f2,f3,f4,f5,f6,f7,f8,f9,an,aw,ar,ap,au⟩:=fA15 R0;refine onE 8 fun K hK=>?_;go_simp;have aG:=Qaa (QkT R0 (.int .i64 win) (.string x.se) (.int .i64 g0.k) (.int .u64 g0.s) (.int .i64 g0.h) (.int .u64 g0.l) (.int .i64 g0.a) (.int .i64 g0.t) (.int .u64 g0.z) (.slice p0.pa g0.P.length p0.pc) (.slice p0.na g0.N.length p0.nc) (.int .i64 g0.x) (.int .u64 g0.y) (.slice p0.ea g0.E.length p0.ec) (.slice p0.ra g0.R.length p0.rc));have aD:=Qaa (Qgl ak hG (.int .i64 win) (.string x.se) (.int .i64 g0.k) (.int .u64 g0.s) (.int .i64 g0.h) (.int .u64 g0.l) (.int .i64 g0.a) (.int .i64 g0.t) (.int .u64 g0.z) (.slice p0.pa g0.P.length p0.pc) (.slice p0.na g0.N.length p0.nc) (.int .i64 g0.x) (.int .u64 g0.y) (.slice p0.ea g0.E.length p0.ec) (.slice p0.ra g0.R.length p0.rc));clear q0 f0 q1 f1 q2 f2 q3 f3 q4 f4 q5 f5 q6 f6 q7 f7 q8 f8 q9 f9 af an ag aw ah ar ai ap ae au;refine hK.out _ _ (fun h=>absurd rfl h) ?_
     try simp only [sX]
     generalize (((((((((((((((Wa.setCell ⟨G,0,none⟩ (.int .i64 win)).setCell ⟨G,1,none⟩ (.string x.se)).setCell ⟨G,2,none⟩ (.int .i64 g0.k)).setCell ⟨G,3,none⟩ (.int .u64 g0.s)).setCell ⟨G,4,none⟩ (.int .i64 g0.h)).setCell ⟨G,5,none⟩ (.int .u64 g0.l)).setCell ⟨G,6,none⟩ (.int .i64 g0.a)).setCell ⟨G,7,none⟩ (.int .i64 g0.t)).setCell ⟨G,8,none⟩ (.int .u64 g0.z)).setCell ⟨G,9,none⟩ (.slice p0.pa g0.P.length p0.pc)).setCell ⟨G,10,none⟩ (.slice p0.na g0.N.length p0.nc)).setCell ⟨G,11,none⟩ (.int .i64 g0.x)).setCell ⟨G,12,none⟩ (.int .u64 g0.y)).setCell ⟨G,13,none⟩ (.slice p0.ea g0.E.length p0.ec)).setCell ⟨G,14,none⟩ (.slice p0.ra g0.R.length p0.rc))=W5 at aG aD ⊢;refine dnE ?_ _;go_wp2;go_meet;exact ⟨G,rfl,aG,hG,aD⟩
    ·go_simp
     have aB:Hid (Below w2.heap.size w2 (w2.alloc (.cells #[.int .i64 0,.string ⟨#[]⟩,.int .i64 0,.int .u64 0,.int .i64 0,.int .u64 0,.int .i64 0,.int .i64 0,.int .u64 0,.slice none 0 0,.slice none 0 0,.int .i64 0,.int .u64 0,.slice none 0 0,.slice none 0 0] 51)).drew):=((ZZb _ _).alloc (ZZa _) _).drew;have R0:Hid ((w2.alloc (.cells #[.int .i64 0,.string ⟨#[]⟩,.int .i64 0,.int .u64 0,.int .i64 0,.int .u64 0,.int .i64 0,.int .i64 0,.int .u64 0,.slice none 0 0,.slice none 0 0,.int .i64 0,.int .u64 0,.slice none 0 0,.slice none 0 0] 51)).drew.heap[w2.heap.size]?=some (.cells #[.int .i64 0,.string ⟨#[]⟩,.int .i64 0,.int .u64 0,.int .i64 0,.int .u64 0,.int .i64 0,.int .i64 0,.int .u64 0,.slice none 0 0,.slice none 0 0,.int .i64 0,.int .u64 0,.slice none 0 0,.slice none 0 0] 51 (0,0))):=ZZk w2 (.cells #[.int .i64 0,.string ⟨#[]⟩,.int .i64 0,.int .u64 0,.int .i64 0,.int .u64 0,.int .i64 0,.int .i64 0,.int .u64 0,.slice none 0 0,.slice none 0 0,.int .i64 0,.int .u64 0,.slice none 0 0,.slice none 0 0] 51)
     try dsimp only
     refine gK hK aB.out ?_
     try simp only [sX]
     generalize (w2.alloc (.cells #[.int .i64 0,.string ⟨#[]⟩,.int .i64 0,.int .u64 0,.int .i64 0,.int .u64 0,.int .i64 0,.int .i64 0,.int .u64 0,.slice none 0 0,.slice none 0 0,.int .i64 0,.int .u64 0,.slice none 0 0,.slice none 0 0] 51)).drew=Wb at aB R0 ⊢;refine onE 5 fun K hK=>?_;go_simp;refine (QiK K1 K4).mono ?_;rintro e Wa ⟨rfl,av⟩;rw [<- HG.out,<- bg.out];have ak:Hid (Below w2.heap.size w2 Wa):=aB.out.trans (av.mono aB.out.size);have R1:=Qaa (Qal R0 av);have hG:Hid (w2.heap.size<=w2.heap.size):=ZZa _;clear av R0 aB
     try dsimp only
     refine gK hK ak.out ?_
     try simp only [sX]
     refine tkS 6 (.agg (Qap ⟨win,x.se,g0,p0⟩)) ak ?_;simp only [sX];obtain ⟨q0,q1,q2,q3,q4,q5,q6,q7,q8,q9,af,ag,ah,ai,ae⟩:=Qoz R1;obtain ⟨f0,f1,f2,f3,f4,f5,f6,f7,f8,f9,an,aw,ar,ap,au⟩:=fA15 R1;refine onE 8 fun K hK=>?_;go_simp;have aG:=Qaa (QkT R1 (.int .i64 win) (.string x.se) (.int .i64 g0.k) (.int .u64 g0.s) (.int .i64 g0.h) (.int .u64 g0.l) (.int .i64 g0.a) (.int .i64 g0.t) (.int .u64 g0.z) (.slice p0.pa g0.P.length p0.pc) (.slice p0.na g0.N.length p0.nc) (.int .i64 g0.x) (.int .u64 g0.y) (.slice p0.ea g0.E.length p0.ec) (.slice p0.ra g0.R.length p0.rc));have aD:=Qaa (Qgl ak hG (.int .i64 win) (.string x.se) (.int .i64 g0.k) (.int .u64 g0.s) (.int .i64 g0.h) (.int .u64 g0.l) (.int .i64 g0.a) (.int .i64 g0.t) (.int .u64 g0.z) (.slice p0.pa g0.P.length p0.pc) (.slice p0.na g0.N.length p0.nc) (.int .i64 g0.x) (.int .u64 g0.y) (.slice p0.ea g0.E.length p0.ec) (.slice p0.ra g0.R.length p0.rc));clear q0 f0 q1 f1 q2 f2 q3 f3 q4 f4 q5 f5 q6 f6 q7 f7 q8 f8 q9 f9 af an ag aw ah ar ai ap ae au;refine hK.out _ _ (fun h=>absurd rfl h) ?_
     try simp only [sX]
     generalize (((((((((((((((Wa.setCell ⟨w2.heap.size,0,none⟩ (.int .i64 win)).setCell ⟨w2.heap.size,1,none⟩ (.string x.se)).setCell ⟨w2.heap.size,2,none⟩ (.int .i64 g0.k)).setCell ⟨w2.heap.size,3,none⟩ (.int .u64 g0.s)).setCell ⟨w2.heap.size,4,none⟩ (.int .i64 g0.h)).setCell ⟨w2.heap.size,5,none⟩ (.int .u64 g0.l)).setCell ⟨w2.heap.size,6,none⟩ (.int .i64 g0.a)).setCell ⟨w2.heap.size,7,none⟩ (.int .i64 g0.t)).setCell ⟨w2.heap.size,8,none⟩ (.int .u64 g0.z)).setCell ⟨w2.heap.size,9,none⟩ (.slice p0.pa g0.P.length p0.pc)).setCell ⟨w2.heap.size,10,none⟩ (.slice p0.na g0.N.length p0.nc)).setCell ⟨w2.heap.size,11,none⟩ (.int .i64 g0.x)).setCell ⟨w2.heap.size,12,none⟩ (.int .u64 g0.y)).setCell ⟨w2.heap.size,13,none⟩ (.slice p0.ea g0.E.length p0.ec)).setCell ⟨w2.heap.size,14,none⟩ (.slice p0.ra g0.R.length p0.rc))=W5 at aG aD ⊢;refine dnE ?_ _;go_wp2;go_meet;exact ⟨w2.heap.size,rfl,aG,hG,aD⟩
   case rest=>
    obtain ⟨G,rfl,RG,GG,BG⟩:=hcut;obtain ⟨a1,a2,a3,a4,a5⟩:=QdO K1 K4;have ba:Hid (agB g0=true/\AgOk g0/\AgSm g0/\g0.k=x.k/\∀ w B,AgO w B g0 p0):=by show _/\_;rw [HG.out,bg.out];exact ⟨a1,a2,a3,a4,a5⟩
    clear a1 a2 a3 a4 a5;go_upto_region 10 with fail;have X9:=Qaa (Qal X2 BG);obtain ⟨s0,s1,s2,s3,s4,s5,s6⟩:=QgS X9;have q2:=Qad RG 2 rfl;have q3:=Qad RG 3 rfl;have q4:=Qad RG 4 rfl;have q5:=Qad RG 5 rfl;have q6:=Qad RG 6 rfl;have q7:=Qad RG 7 rfl;have q8:=Qad RG 8 rfl;have q9:=Qad RG 9 rfl;have af:=Qad RG 10 rfl;have ag:=Qad RG 11 rfl;have ah:=Qad RG 12 rfl;have ai:=Qad RG 13 rfl;have ae:=Qad RG 14 rfl;go_wp2_with fail;clear s0 s1 s2 s3 s4 s5 s6 q2 q3 q4 q5 q6 q7 q8 q9 af ag ah ai ae;refine (Qhz x ba.out.1 HX ba.out.2.2.2.1 ba.out.2.1 OX ba.out.2.2.1 (ba.out.2.2.2.2 w2 0).plgP (ba.out.2.2.2.2 _ 0).at).mono ?_;rintro e w4 ⟨v,o,rfl,aO,⟨q,rfl,a0⟩,aZ⟩;have R4:=Qaa (Qal RG aZ);have B4:=Qaa (BG.out.trans (aZ.mono BG.out.size));have aA:=Qaa aO;have bI:=Qaa a0;have bv:=Qaa (a0.le (show G+1<=wc.heap.size from (ZZc.1 RG).1));clear aO a0 aZ;have q2:=Qad R4 2 rfl;have q3:=Qad R4 3 rfl;have q4:=Qad R4 4 rfl;have q5:=Qad R4 5 rfl;have q6:=Qad R4 6 rfl;have q7:=Qad R4 7 rfl;have q8:=Qad R4 8 rfl;have q9:=Qad R4 9 rfl;have af:=Qad R4 10 rfl;have ag:=Qad R4 11 rfl;have ah:=Qad R4 12 rfl;have ai:=Qad R4 13 rfl;have ae:=Qad R4 14 rfl;have f2:=fzR 2 R4;have f3:=fzR 3 R4;have f4:=fzR 4 R4;have f5:=fzR 5 R4;have f6:=fzR 6 R4;have f7:=fzR 7 R4;have f8:=fzR 8 R4;have f9:=fzR 9 R4;have an:=fzR 10 R4;have aw:=fzR 11 R4;have ar:=fzR 12 R4;have ap:=fzR 13 R4;have au:=fzR 14 R4;have R5:=Qaa (Qob (v0:=.int .i64 o.k) (v1:=.int .u64 o.s) (v2:=.int .i64 o.h) (v3:=.int .u64 o.l) (v4:=.int .i64 o.a) (v5:=.int .i64 o.t) (v6:=.int .u64 o.z) (v7:=.slice q.pa o.P.length q.pc) (v8:=.slice q.na o.N.length q.nc) (v9:=.int .i64 o.x) (v10:=.int .u64 o.y) (v11:=.slice q.ea o.E.length q.ec) (v12:=.slice q.ra o.R.length q.rc) R4);have B5:=Qaa (Qkx B4 GG (.int .i64 o.k) (.int .u64 o.s) (.int .i64 o.h) (.int .u64 o.l) (.int .i64 o.a) (.int .i64 o.t) (.int .u64 o.z) (.slice q.pa o.P.length q.pc) (.slice q.na o.N.length q.nc) (.int .i64 o.x) (.int .u64 o.y) (.slice q.ea o.E.length q.ec) (.slice q.ra o.R.length q.rc));go_upto_region 11 with fail;clear q2 f2 q3 f3 q4 f4 q5 f5 q6 f6 q7 f7 q8 f8 q9 f9 af an ag aw ah ar ai ap ae au;have O5:Hid (AgO (((((((((((((w4.setCell ⟨G,2,none⟩ (.int .i64 o.k)).setCell ⟨G,3,none⟩ (.int .u64 o.s)).setCell ⟨G,4,none⟩ (.int .i64 o.h)).setCell ⟨G,5,none⟩ (.int .u64 o.l)).setCell ⟨G,6,none⟩ (.int .i64 o.a)).setCell ⟨G,7,none⟩ (.int .i64 o.t)).setCell ⟨G,8,none⟩ (.int .u64 o.z)).setCell ⟨G,9,none⟩ (.slice q.pa o.P.length q.pc)).setCell ⟨G,10,none⟩ (.slice q.na o.N.length q.nc)).setCell ⟨G,11,none⟩ (.int .i64 o.x)).setCell ⟨G,12,none⟩ (.int .u64 o.y)).setCell ⟨G,13,none⟩ (.slice q.ea o.E.length q.ec)).setCell ⟨G,14,none⟩ (.slice q.ra o.R.length q.rc)) (G+1) o q):=bv.out.kept15 (Nat.lt_succ_self _);generalize (((((((((((((w4.setCell ⟨G,2,none⟩ (.int .i64 o.k)).setCell ⟨G,3,none⟩ (.int .u64 o.s)).setCell ⟨G,4,none⟩ (.int .i64 o.h)).setCell ⟨G,5,none⟩ (.int .u64 o.l)).setCell ⟨G,6,none⟩ (.int .i64 o.a)).setCell ⟨G,7,none⟩ (.int .i64 o.t)).setCell ⟨G,8,none⟩ (.int .u64 o.z)).setCell ⟨G,9,none⟩ (.slice q.pa o.P.length q.pc)).setCell ⟨G,10,none⟩ (.slice q.na o.N.length q.nc)).setCell ⟨G,11,none⟩ (.int .i64 o.x)).setCell ⟨G,12,none⟩ (.int .u64 o.y)).setCell ⟨G,13,none⟩ (.slice q.ea o.E.length q.ec)).setCell ⟨G,14,none⟩ (.slice q.ra o.R.length q.rc))=W5 at R5 B5 O5 ⊢;obtain ⟨q0,q1,q2,q3,q4,q5,q6,q7,q8,q9,af,ag,ah,ai,ae⟩:=Qoz R5;have bm:=Qaa (aW.out.past B5);have aq:Hid (A.length=k):=by show _=_;have:=congrArg List.length a7;simp at this;have:=bn.out;simp at this;omega
    have bC:w.heap.size<=W5.heap.size:=Nat.le_trans aU.out.size B5.out.size;have bq:=Qaa (fun v' w6=>Qok (c:=⟨win,x.se,o,q⟩) (v':=v') (w6:=w6) aW bo aU B5 GG O5);go_wp2_with (at_builtin;refine wpList_append_own _ rfl _ _ 23 rfl w.heap.size 51 i0 (.agg Qch) 15 192 Tryz.underlying23 hi bb a9 bc rfl (by decide) _ _ _ rfl (World.ownsRow.alloc bm _) ⟨W5.heap.size,0,none⟩ 1 1 (ceL ⟨win,x.se,o,q⟩) rfl rfl ?c1 ?c2 ?c3 ?c4 ?c5 ?_)
    case c1=>exact Qb2 (c:=⟨win,x.se,o,q⟩)
    case c2=>exact Qdi _
    case c3=>have:=aq.out;unfold maxLen;omega
    case c4=>have:=aq.out;omega
    case c5=>simp;omega
    intro v6 w6 aj ad aE;obtain ⟨bj,be,bp⟩:=bq.out v6 w6 aj ad;have aQ:=Qaa bj;have bd:=Qaa be;have aL:=Qaa bp;clear aj ad aE bj be bp bq bm aW bo O5 R5 B5 q0 q1 q2 q3 q4 q5 q6 q7 q8 q9 af ag ah ai ae;have aR:Hid ((L.drop k).length=N - k):=by show _=_;rw [List.length_drop,II.out.hN]
    have ld:N - k<=1048576:=by have:=II.out.lN;omega
    have aS:w.heap.size<=w6.heap.size:=aL.out.size;have D1:Hid (ca=k->Qb7 w ao (L.drop k)):=fun e=>by have:=Qgi (k:=k) (ca:=ca) II.out.mem (by have:=II.out.hN;omega);rw [if_pos e] at this;exact this
    have D2:Hid (ca≠k->Qb7 w (ao.map (·.add (k*15))) (L.drop k)):=fun e=>by have:=Qgi (k:=k) (ca:=ca) II.out.mem (by have:=II.out.hN;omega);rw [if_neg e] at this;exact this
    by_cases bl:ca=k
    ·have aT:=Qaa (D1.out bl)
     go_wp2_with fail
     skip
     refine (QbP (L:=L.drop k) aR ld (fun d hd=>II.out.sm d (ZZp hd)) (fun d hd=>II.out.pl d (ZZp hd)) (Qa1 aT aL)).mono ?_;rintro e w7 ⟨vB,M,rfl,aJ,aC,am,al,aF⟩;obtain ⟨gB,cB,rfl,aP⟩:=aJ.src aF;have aY:=Qaa aP;have a6:=Qaa aC;have aV:=Qaa am;have ax:=Qaa al;have aH:Hid (M.length=N - k):=(QcS am).trans aR;have az:=Qaa (aQ.out.past ax);have aX:w.heap.size<=w7.heap.size:=Nat.le_trans aS al.size;have ay:=Qaa (fun v'' w8=>QiB (v'':=v'') (w8:=w8) aQ bd aS aL ax a6);clear aP aC am al aJ aF;go_wp2_with (at_builtin;refine wpList_append_own _ rfl _ _ 23 rfl w.heap.size 51 i0 (.agg Qch) 15 192 Tryz.underlying23 hi bb a9 bc rfl (by decide) _ _ _ rfl az ⟨gB,0,none⟩ M.length cB (flC M) rfl (QbM M) aY (Qdh M) ?c3 ?c4 aX ?_)
     case c3=>have:=aq.out;have:=aH.out;have:=II.out.lN;simp only [List.length_append,List.length_cons,List.length_nil];unfold maxLen;omega
     case c4=>have:=aq.out;have:=aH.out;have:=II.out.lN;simp only [List.length_append,List.length_cons,List.length_nil];omega
     intro v8 w8 aa aI ac;obtain ⟨f1,f2,f3⟩:=ay.out v8 w8 (by rw [List.length_append];exact aa) aI;have F1:=Qaa f1;have F2:=Qaa f2;have F3:=Qaa f3;clear f1 f2 f3 aa aI ac ay az;go_wp2;go_ret2;exact ⟨_,_,0,rfl,PuA.new o _ bu (by have:=HF.out;have:=II.out.hN;omega) (HG.out ▸ aA.out) (QmL AS HP a7 aV),F1,F2,F3⟩
    ·have aT:=Qaa (D2.out bl)
     go_wp2_with fail
     skip
     refine (QbP (L:=L.drop k) aR ld (fun d hd=>II.out.sm d (ZZp hd)) (fun d hd=>II.out.pl d (ZZp hd)) (Qa1 aT aL)).mono ?_;rintro e w7 ⟨vB,M,rfl,aJ,aC,am,al,aF⟩;obtain ⟨gB,cB,rfl,aP⟩:=aJ.src aF;have aY:=Qaa aP;have a6:=Qaa aC;have aV:=Qaa am;have ax:=Qaa al;have aH:Hid (M.length=N - k):=(QcS am).trans aR;have az:=Qaa (aQ.out.past ax);have aX:w.heap.size<=w7.heap.size:=Nat.le_trans aS al.size;have ay:=Qaa (fun v'' w8=>QiB (v'':=v'') (w8:=w8) aQ bd aS aL ax a6);clear aP aC am al aJ aF;go_wp2_with (at_builtin;refine wpList_append_own _ rfl _ _ 23 rfl w.heap.size 51 i0 (.agg Qch) 15 192 Tryz.underlying23 hi bb a9 bc rfl (by decide) _ _ _ rfl az ⟨gB,0,none⟩ M.length cB (flC M) rfl (QbM M) aY (Qdh M) ?c3 ?c4 aX ?_)
     case c3=>have:=aq.out;have:=aH.out;have:=II.out.lN;simp only [List.length_append,List.length_cons,List.length_nil];unfold maxLen;omega
     case c4=>have:=aq.out;have:=aH.out;have:=II.out.lN;simp only [List.length_append,List.length_cons,List.length_nil];omega
     intro v8 w8 aa aI ac;obtain ⟨f1,f2,f3⟩:=ay.out v8 w8 (by rw [List.length_append];exact aa) aI;have F1:=Qaa f1;have F2:=Qaa f2;have F3:=Qaa f3;clear f1 f2 f3 aa aI ac ay az;go_wp2;go_ret2;exact ⟨_,_,0,rfl,PuA.new o _ bu (by have:=HF.out;have:=II.out.hN;omega) (HG.out ▸ aA.out) (QmL AS HP a7 aV),F1,F2,F3⟩
theorem PuA.told {nm:ByteArray} {L R:List Ce} {win code:Int} {x:Sx} (h:shB nm L=true/\x.B=true/\Qfq win=true) (p:PuA L win x R code):(code=0/\PtA nm L win x nm R 0)∨(code≠0/\R=[]/\PtA nm L win x ⟨#[]⟩ [] code):=by
 cases p with
 | kind c hc k1 k2 hk=>exact .inr ⟨by decide,rfl,.kind c h hc k1 k2 hk⟩
 | there c o R hc k1 k2 hk hp hR=>exact .inl ⟨rfl,.there c o R h hc k1 k2 hk hp hR⟩
 | full hn hl=>exact .inr ⟨by decide,rfl,.full h hn hl⟩
 | new o R hn hl hp hR=>exact .inl ⟨rfl,.new o R h hn hl hp hR⟩
theorem Qoe {c:Ce} (h:cRi c=true):agB c.g=true:=by
 unfold cRi at h;simp only [Bool.and_eq_true] at h
 first | exact h.1.2 | exact h.2 | exact h.1.1.2 | exact h.2.1 | exact h.2.2
theorem QcL {w:World} {ao:Option Addr} {N ca:Nat} {L:List Ce} (nm:ByteArray) (win:Int) (x:Sx) (hs:nm.size<=maxLen) (ox:x.Ok) (hI:ShI w ao N L) (hca:N<=ca) :
  Calls Tryz.prog 9 #[.agg #[.string nm,.slice ao N ca],.int .i64 win,.agg (Qaz x)] w (PtP w nm L win x):=by
 obtain ⟨k0,k1,k2,k3,k4⟩:=Qp4 w #[.string nm,.slice ao N ca] (Qaz x) #[.string ⟨#[]⟩,.slice none 0 0,.slice none 0 0,.int .i64 0] 25 28 32;have II:=Qaa hI;have OX:=Qaa ox;have af:Hid (∀ W j u,Below w.heap.size w W->Below w.heap.size w (W.setCell ⟨w.heap.size+1+1,j,none⟩ u)):=fun W j u q=>q.setCell (by simp;omega) u;clear hI ox;have z0:=Qay k1 0 rfl;have z1:=Qay k1 1 rfl;go_enter Tryz.func9,Tryz.ntmps9;go_wp2_with fail;clear z0 z1;generalize ((w.alloc (.cells #[.string nm,.slice ao N ca] 25)).alloc (.cells (Qaz x) 28)).alloc (.cells #[.string ⟨#[]⟩,.slice none 0 0,.slice none 0 0,.int .i64 0] 32)=W0 at k0 k1 k2 k3 k4 ⊢;refine (Qht nm hs II.out.hN II.out.lN II.out.ok II.out.sm II.out.ss (Qa1 II.out.mem k0)).mono ?_;rintro e w1 ⟨rfl,ac⟩;have ah:=Qaa (Qac k0 ac);have X1:=Qaa (Qal k1 ac);have Y1:=Qaa (Qal k2 ac);have Z1:=Qaa (Qal k3 ac);have S1:Hid (w.heap.size+3<=w1.heap.size):=by show _<=_;have:=ac.size;have:=k4.out;omega
 clear ac k0 k1 k2 k3 k4
 cases h1:shB nm L with
 | false=>
  have HA:Hid (PtA nm L win x ⟨#[]⟩ [] 1):=PtA.form (fun q=>by rw [h1] at q;cases q.1);clear h1;obtain ⟨f0,f1,f2,f3⟩:=fA4 Z1;obtain ⟨y0,y1,y2,y3⟩:=cA4 Z1;go_wp2;refine bodyPost_ret (v:=.agg #[.string ⟨#[]⟩,.slice none 0 0,.slice none 0 0,.int .i64 1]) (by simp [results,Tryz.results9,go_sem,y0,y1,y2,y3]) rfl ?_;refine show PtP _ _ _ _ _ _ _ from ⟨_,_,_,_,rfl,HA,ShO.none _ _ _,?_⟩
  repeat (refine af.out _ _ _ ?_)
  exact ah.out
 | true=>
  obtain ⟨x0,x1,x2,x3,x4,x5,x6⟩:=QgS Y1;go_wp2_with fail;clear x0 x1 x2 x3 x4 x5 x6;refine (QdI x.k x.se x.v x.wd x.wt x.tm x.ti OX.out.se OX.out.wd).mono ?_;rintro e w2 ⟨rfl,ad⟩;have ae:=Qaa (Qac ah ad);have X2:=Qaa (Qal X1 ad);have Y2:=Qaa (Qal Y1 ad);have Z2:=Qaa (Qal Z1 ad);have S2:Hid (w.heap.size+3<=w2.heap.size):=by show _<=_;have:=ad.size;have:=S1.out;omega
  clear ad X1 Y1 Z1 ah S1
  cases h2:QbA x.k x.se x.v x.wd x.wt x.tm x.ti with
  | false=>
   have HA:Hid (PtA nm L win x ⟨#[]⟩ [] 1):=PtA.form (fun q=>by have:=q.2.1;unfold Sx.B at this;rw [h2] at this;cases this);clear h1 h2;obtain ⟨f0,f1,f2,f3⟩:=fA4 Z2;obtain ⟨y0,y1,y2,y3⟩:=cA4 Z2;go_wp2;refine bodyPost_ret (v:=.agg #[.string ⟨#[]⟩,.slice none 0 0,.slice none 0 0,.int .i64 1]) (by simp [results,Tryz.results9,go_sem,y0,y1,y2,y3]) rfl ?_;refine show PtP _ _ _ _ _ _ _ from ⟨_,_,_,_,rfl,HA,ShO.none _ _ _,?_⟩
   repeat (refine af.out _ _ _ ?_)
   exact ae.out
  | true=>
   go_wp2_with fail;refine (QaW win _).mono ?_;rintro e wz ⟨rfl,an⟩;obtain rfl:=an.symm
   cases h3:Qfq win with
   | false=>
    have HA:Hid (PtA nm L win x ⟨#[]⟩ [] 1):=PtA.form (fun q=>by rw [h3] at q;cases q.2.2);clear h1 h2 h3;obtain ⟨f0,f1,f2,f3⟩:=fA4 Z2;obtain ⟨y0,y1,y2,y3⟩:=cA4 Z2;go_wp2;refine bodyPost_ret (v:=.agg #[.string ⟨#[]⟩,.slice none 0 0,.slice none 0 0,.int .i64 1]) (by simp [results,Tryz.results9,go_sem,y0,y1,y2,y3]) rfl ?_;refine show PtP _ _ _ _ _ _ _ from ⟨_,_,_,_,rfl,HA,ShO.none _ _ _,?_⟩
    repeat (refine af.out _ _ _ ?_)
    exact ae.out
   | true=>
    have HH:Hid (shB nm L=true/\x.B=true/\Qfq win=true):=⟨h1,h2,h3⟩;have RA:=Qaa (csR_iff.1 (Qer h1)).2.2;have RI:=Qaa (csR_iff.1 (Qer h1)).2.1;obtain ⟨x0,x1,x2,x3,x4,x5,x6⟩:=QgS Y2;have z1:=Qay X2 1 rfl;clear h1 h2 h3;go_wp2_with fail;clear z1 x0 x1 x2 x3 x4 x5 x6;refine (QpC win x HH.out.2.1 OX (II.out.past ae) hca RA (fun c hc=>Qoe (RI.out c hc))).mono ?_;rintro e w3 ⟨v3,R3,aa,rfl,hp,hr,ho,ab⟩;have ag:=Qaa hr;have am:=Qaa ho;have aj:=ab.size;have ap:=Qaa aj;have HP:=Qaa hp;have aq:=S2;have al:=Qaa (Qac ae ab);have X3:=Qaa (Qal X2 ab);have Y3:=Qaa (Qal Y2 ab);have Z3:=Qaa (Qal Z2 ab);have S3:Hid (w.heap.size+3<=w3.heap.size):=by show _<=_;have:=ab.size;have:=S2.out;omega
    clear ab X2 Y2 Z2 ae S2;clear hp hr ho aj;rcases HP.out.told HH with ⟨rfl,hA⟩ | ⟨hc,rfl,hA⟩
    ·have HA:=Qaa hA
     obtain ⟨ar,cr,rfl,_⟩:=ag.out.form;have x0:=Qad X3 0 rfl;obtain ⟨f0,f1,f2,f3⟩:=fA4 Z3;obtain ⟨y0,y1,y2,y3⟩:=cA4 Z3;clear hA;go_wp2;have ai:w.heap.size+1+1<w2.heap.size:=by have:=aq.out;omega
     have ak:w.heap.size<=w2.heap.size:=by omega
     refine bodyPost_ret (v:=.agg #[.string nm,.slice ar R3.length cr,.slice none 0 0,.int .i64 0]) (by simp [results,Tryz.results9,go_sem,y0,y1,y2,y3]) rfl ?_;refine show PtP _ _ _ _ _ _ _ from ⟨_,_,_,_,rfl,HA,⟨⟨_,_,rfl,?_,OwnC.nil _ _,fun k h1 h2=>by cases h2⟩,?_⟩,?_⟩
     ·refine OwnC.le ?_ ak
      repeat (refine OwnC.setNe ?_ ai _)
      exact ag.out
     ·rw [List.append_nil]
      refine CesO.le ?_ ak
      repeat (refine CesO.setNe ?_ ai _)
      exact am.out
     ·repeat (refine af.out _ _ _ ?_)
      exact al.out
    ·have HA:=Qaa hA
     have av:(aa == 0)=false:=ZZf.2 hc;have au:(aa != 0)=true:=by simp [hc]
     obtain ⟨ar,cr,e3,_⟩:=ag.out.form;subst e3;clear hA hc;obtain ⟨f0,f1,f2,f3⟩:=fA4 Z3;obtain ⟨y0,y1,y2,y3⟩:=cA4 Z3;go_wp2;refine bodyPost_ret (v:=.agg #[.string ⟨#[]⟩,.slice none 0 0,.slice none 0 0,.int .i64 aa]) (by simp [results,Tryz.results9,go_sem,y0,y1,y2,y3]) rfl ?_;refine show PtP _ _ _ _ _ _ _ from ⟨_,_,_,_,rfl,HA,ShO.none _ _ _,?_⟩
     repeat (refine af.out _ _ _ ?_)
     exact al.out
end Go.Proofs.YtandnmpllheniaaGreatDoor
