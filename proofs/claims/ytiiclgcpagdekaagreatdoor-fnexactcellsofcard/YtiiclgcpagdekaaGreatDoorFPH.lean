/-
 l08Put of the model.
-/
import Derived.Test.YtiiclgcpagdekaaGreatDoorFPG
namespace Go.Proofs.YtiiclgcpagdekaaGreatDoor
set_option linter.unusedVariables false
set_option linter.unusedSimpArgs false
open Go.ChangeShapes Go.WideShapes Go.ChangeAt Go.RowKit Go.PlainAid Go.Lib Go.Maps
set_option maxRecDepth 10000
theorem rowAll {w:World} {r:Nat} {T:TypeId} {u0 u1 u2 u3 u4 u5 u6 u7 u8 u9 u10 u11 u12 u13 u14:Value} (h:w.heap[r]?=some (.cells #[u0,u1,u2,u3,u4,u5,u6,u7,u8,u9,u10,u11,u12,u13,u14] T (0,0))) (v0 v1 v2 v3 v4 v5 v6 v7 v8 v9 v10 v11 v12 v13 v14:Value) :
  (((((((((((((((w.setCell ⟨r,0,none⟩ (v0)).setCell ⟨r,1,none⟩ (v1)).setCell ⟨r,2,none⟩ (v2)).setCell ⟨r,3,none⟩ (v3)).setCell ⟨r,4,none⟩ (v4)).setCell ⟨r,5,none⟩ (v5)).setCell ⟨r,6,none⟩ (v6)).setCell ⟨r,7,none⟩ (v7)).setCell ⟨r,8,none⟩ (v8)).setCell ⟨r,9,none⟩ (v9)).setCell ⟨r,10,none⟩ (v10)).setCell ⟨r,11,none⟩ (v11)).setCell ⟨r,12,none⟩ (v12)).setCell ⟨r,13,none⟩ (v13)).setCell ⟨r,14,none⟩ (v14)).heap[r]?=some (.cells #[v0,v1,v2,v3,v4,v5,v6,v7,v8,v9,v10,v11,v12,v13,v14] T (0,0)):=
 row15 (heap_setCell_same _ r 1 _ _ v1 (heap_setCell_same _ r 0 _ _ v0 h))
theorem belowAll {w0 w:World} {r:Nat} (h:Below w0.heap.size w0 w) (hr:w0.heap.size≤r) (v0 v1 v2 v3 v4 v5 v6 v7 v8 v9 v10 v11 v12 v13 v14:Value) :
  Below w0.heap.size w0 (((((((((((((((w.setCell ⟨r,0,none⟩ (v0)).setCell ⟨r,1,none⟩ (v1)).setCell ⟨r,2,none⟩ (v2)).setCell ⟨r,3,none⟩ (v3)).setCell ⟨r,4,none⟩ (v4)).setCell ⟨r,5,none⟩ (v5)).setCell ⟨r,6,none⟩ (v6)).setCell ⟨r,7,none⟩ (v7)).setCell ⟨r,8,none⟩ (v8)).setCell ⟨r,9,none⟩ (v9)).setCell ⟨r,10,none⟩ (v10)).setCell ⟨r,11,none⟩ (v11)).setCell ⟨r,12,none⟩ (v12)).setCell ⟨r,13,none⟩ (v13)).setCell ⟨r,14,none⟩ (v14)):=
 ((((((((((((((h.setCell hr v0).setCell hr v1).setCell hr v2).setCell hr v3).setCell hr v4).setCell hr v5).setCell hr v6).setCell hr v7).setCell hr v8).setCell hr v9).setCell hr v10).setCell hr v11).setCell hr v12).setCell hr v13).setCell hr v14
theorem c_newSX {w:World} {k:Int} (h1:1≤k) (h4:k≤4):Calls Tryz.prog 102 #[.int .i64 k] w fun e w'=>e=.returned (.agg (agArr (agNew k) pl0))∧Below w.heap.size w w':=by
 refine (c_s_AggNew k w).mono (fun e w' h=>?_)
 have e:agNew k=⟨k,0,0,0,0,if k=2 then -1 else 0,0,[],[],0,0,[],[]⟩:=by unfold agNew;rw [if_pos ⟨h1,h4⟩]
 rw [e] at h ⊢
 exact h
theorem CesO.app {w w':World} {B:Nat} {L M:List Ce} (h:CesO w B L) (hb:Below w.heap.size w w') (hB:B≤w.heap.size) (hM:CesO w' w.heap.size M):CesO w' B (L ++ M):=by
 refine ⟨fun d hd=>?_,List.pairwise_append.2 ⟨h.ap,hM.ap,fun c hc d hd k h1 h2=>?_⟩⟩
 ·rcases List.mem_append.1 hd with hd | hd
  ·exact (h.o d hd).past hb
  ·exact (hM.o d hd).le hB
 ·have k1:=((h.o c hc).lt h1).2
  have k2:=((hM.o d hd).lt h2).1
  omega
theorem put_one {w w2 W5 w6:World} {G:Nat} {u v':Value} {A:List Ce} {c:Ce} (hr:OwnC w2 w.heap.size u A) (ho:CesO w2 w.heap.size A) (hb2:Below w.heap.size w w2) (hb5:Below w2.heap.size w2 W5) (hG:w2.heap.size≤G) (ha:AgO W5 (G+1) c.g c.p)
  (hown:w6.ownsRow w.heap.size 81 15 v' (A.length+1) (flC A ++ ceL c)) (hg:(W5.alloc (.cells (ceArr c) 81)).grownBy w6 u.ownBlock):OwnC w6 w.heap.size v' (A ++ [c])∧CesO w6 w.heap.size (A ++ [c])∧Below w.heap.size w w6:=by
 have hb4:Below w2.heap.size w2 (W5.alloc (.cells (ceArr c) 81)):=hb5.alloc hb5.size _
 have hbw:Below w.heap.size w (W5.alloc (.cells (ceArr c) 81)):=hb2.trans (hb4.mono hb2.size)
 have a2:Below W5.heap.size W5 (W5.alloc (.cells (ceArr c) 81)):=(Below.refl _ _).alloc (Nat.le_refl _) _
 have hO:=ho.add hb4 hb2.size (c:=c) ((ha.past a2).le (by omega))
 have hR:OwnC (W5.alloc (.cells (ceArr c) 81)) w.heap.size u A:=hr.past hb4
 have hp:(c :: A:List Ce).Perm (A ++ [c]):=(List.perm_append_singleton _ _).symm
 exact ⟨OwnC.mk hown,(hO.row hR hg).perm hp,hbw.grown hg hbw.size (fun j hj=>(World.ownsRow.lt hr j hj).1)⟩
theorem put_fin {w w6 w7 w8:World} {B:Nat} {v' v'':Value} {A M:List Ce} (hr:OwnC w6 B v' A) (ho:CesO w6 B A) (hB:B≤w6.heap.size) (hb:Below B w w6) (hb7:Below w6.heap.size w6 w7) (hM:CesO w7 w6.heap.size M)
  (hown:w8.ownsRow B 81 15 v'' (A.length+M.length) (flC A ++ flC M)) (hg:w7.grownBy w8 v'.ownBlock):OwnC w8 B v'' (A ++ M)∧CesO w8 B (A ++ M)∧Below B w w8:=by
 refine ⟨?_,(ho.app hb7 hB hM).row (hr.past hb7) hg,(hb.trans (hb7.mono hB)).grown hg (Nat.le_trans hB hb7.size) (fun j hj=>(World.ownsRow.lt hr j hj).1)⟩
 show w8.ownsRow _ _ _ _ _ _
 rw [List.length_append,flC_app]
 exact hown
theorem OwnC.src {w:World} {B:Nat} {v:Value} {M:List Ce} (h:OwnC w B v M) (hn:v≠.slice none 0 0):∃ g cp,v=.slice (some ⟨g,0,none⟩) M.length cp∧∀ j u,(flC M)[j]?=some u→w.cell? ((⟨g,0,none⟩:Addr).add j)=some u:=by
 rcases h.2 with ⟨e,_⟩ | ⟨g,cap,cur,e,q1,q2⟩
 ·exact absurd e hn
 ·subst e
  refine ⟨g,cap,rfl,fun j u hu=>?_⟩
  have hj:=(List.getElem?_eq_some_iff.1 hu).1
  rw [flC_len] at hj
  rw [Addr.add_lit,Nat.zero_add,World.ownsRow.cellAt h j hj];exact hu
theorem flC_oneC (M:List Ce):∀ u∈flC M,u.oneCell'=true:=fun u hu=>by
 obtain ⟨m,_,h⟩:=List.mem_flatMap.1 hu
 exact ceL_one m u h
theorem agNew_all {k:Int} (h1:1≤k) (h4:k≤4):agB (agNew k)=true∧AgOk (agNew k)∧AgSm (agNew k)∧(agNew k).k=k∧∀ w B,AgO w B (agNew k) pl0:=by
 have e:agNew k=⟨k,0,0,0,0,if k=2 then -1 else 0,0,[],[],0,0,[],[]⟩:=by unfold agNew;rw [if_pos ⟨h1,h4⟩]
 have zi:I64 0:=by unfold I64;omega
 have zu:U64 0:=by unfold U64;omega
 refine ⟨?_,?_,?_,by rw [e],fun w B=>?_⟩
 ·have:k=1∨k=2∨k=3∨k=4:=by omega
  rcases this with rfl | rfl | rfl | rfl <;> rfl
 ·rw [e]
  exact ⟨by show I64 k;unfold I64;omega,zu,zi,zu,zi,by show I64 (if k=2 then -1 else 0);split <;> (unfold I64;omega),zu,zi,zu,(fun b hb=>by cases hb),(fun b hb=>by cases hb),(fun b hb=>by cases hb),(fun b hb=>by cases hb)⟩
 ·rw [e];exact ⟨Nat.zero_le _,Nat.zero_le _,Nat.zero_le _,Nat.zero_le _⟩
 ·rw [e];exact AgO.nil _ _ rfl rfl rfl rfl
theorem below13 {w0 w:World} {r:Nat} (h:Below w0.heap.size w0 w) (hr:w0.heap.size≤r) (v0 v1 v2 v3 v4 v5 v6 v7 v8 v9 v10 v11 v12:Value) :
  Below w0.heap.size w0 (((((((((((((w.setCell ⟨r,2,none⟩ (v0)).setCell ⟨r,3,none⟩ (v1)).setCell ⟨r,4,none⟩ (v2)).setCell ⟨r,5,none⟩ (v3)).setCell ⟨r,6,none⟩ (v4)).setCell ⟨r,7,none⟩ (v5)).setCell ⟨r,8,none⟩ (v6)).setCell ⟨r,9,none⟩ (v7)).setCell ⟨r,10,none⟩ (v8)).setCell ⟨r,11,none⟩ (v9)).setCell ⟨r,12,none⟩ (v10)).setCell ⟨r,13,none⟩ (v11)).setCell ⟨r,14,none⟩ (v12)):=
 ((((((((((((h.setCell hr v0).setCell hr v1).setCell hr v2).setCell hr v3).setCell hr v4).setCell hr v5).setCell hr v6).setCell hr v7).setCell hr v8).setCell hr v9).setCell hr v10).setCell hr v11).setCell hr v12
set_option maxHeartbeats 8000000 in
theorem c_l08Put {w:World} {ao:Option Addr} {N ca:Nat} {L:List Ce} (win:Int) (x:Sx) (hx:x.B=true) (ox:x.Ok) (hI:ShI w ao N L) (hca:N≤ca) (asc:AscC L) (rt:∀ c∈L,agB c.g=true) :
  Calls Tryz.prog 51 #[.slice ao N ca,.int .i64 win,.agg (sxArr x)] w fun e w'=>∃ v R code,e=.returned (.tuple #[v,.int .i64 code])∧PuA L win x R code∧OwnC w' w.heap.size v R∧CesO w' w.heap.size R∧Below w.heap.size w w':=by
 obtain ⟨i0,hi,hz0,hz1,hz2⟩:=infoCe
 have II:=hide hI
 have HX:=hide hx
 have OX:=hide ox
 have AS:=hide asc
 have RT:=hide rt
 have HB0:Hid (Below w.heap.size w (w.alloc (.cells (sxArr x) 37))):=(Below.refl _ _).alloc (Nat.le_refl _) _
 have X0:=hide (heap_alloc_new w (.cells (sxArr x) 37))
 have S0:Hid ((w.alloc (.cells (sxArr x) 37)).heap.size=w.heap.size+1):=by show _=_;simp
 have z1:=cellKC X0.out 1 rfl
 obtain ⟨g0,hg0⟩:∃ g,g=agNew x.k:=⟨_,rfl⟩
 obtain ⟨p0,hp0⟩:∃ p,p=pl0:=⟨_,rfl⟩
 have HG:=hide hg0
 have HPl:=hide hp0
 have K1:=hide (smp_parts hx).1.1
 have K4:=hide (smp_parts hx).1.2
 clear hI hx ox asc rt hg0 hp0
 go_enter Tryz.func51,Tryz.ntmps51
 go_wp2_with fail
 clear z1
 generalize w.alloc (.cells (sxArr x) 37)=W0 at HB0 X0 S0 ⊢
 refine (c_l08Place win x.se II.out.hN II.out.lN (ces_past II.out.mem HB0.out)).mono ?_
 rintro e w1 ⟨k,is,rfl,hp,hb1⟩
 have HP:=hide hp
 have HB1:=hide (chain HB0.out hb1)
 have X1:=hide (row_pastP X0.out hb1)
 have S1:Hid (w.heap.size+1≤w1.heap.size):=by show _≤_;have:=hb1.size;have:=S0.out;omega
 have hkN:k≤N:=by have:=hp.le;have:=II.out.hN;omega
 clear hp hb1 HB0 X0 S0
 cases is with
 | true=>
  obtain ⟨c,hc,hm,e1,e2,_⟩:=plc_yes AS.out HP.out
  have hkn:k<N:=by have:=(List.getElem?_eq_some_iff.1 hc).1;have:=II.out.hN;omega
  have hkni:(k:Int)<(N:Int):=by omega
  obtain ⟨b,off,e,hcell⟩:=II.out.mem.1 (by have:=II.out.hN;omega)
  subst e
  obtain ⟨_,_,y2,_⟩:=cec_past (hcell k c hc) HB1.out
  have HC:=hide hc
  have HM:=hide hm
  have E1:=hide e1
  have E2:=hide e2
  have HCe:=hide hcell
  have z0:=cellKC X1.out 0 rfl
  clear hc hm e1 e2 hcell
  by_cases hk:c.g.k=x.k
  ·have bk:(c.g.k == x.k)=true:=by simp [hk]
   have HK:=hide hk
   have hk0:(0:Int)≤(k:Int):=by omega
   have hkc:(k:Int)≤(ca:Int):=by omega
   clear hk
   go_upto_region 2 with fail
   go_region_held3 (fun W=>W.cell? ⟨b,off+k*15+2,none⟩=some (.int .i64 c.g.k)∧W.cell? ⟨w.heap.size,0,none⟩=some (.int .i64 x.k))
    (exact ⟨by simpa using y2,by simpa using z0⟩)
    (fail)
   clear y2 z0
   have HTk:Hid ((L.take k).length=k):=by show _=_;rw [List.length_take];have:=II.out.hN;omega
   have lk:k≤1048576:=by have:=II.out.lN;omega
   go_wp2_with fail
   refine (c_l08CopyS (L:=L.take k) HTk.out lk (fun d hd=>II.out.sm d (List.mem_of_mem_take hd)) (fun d hd=>II.out.pl d (List.mem_of_mem_take hd)) (ces_past (ces_take II.out.mem) HB1.out.drew)).mono ?_
   rintro e w2 ⟨vA,A,rfl,hr,ho,hkA,hb2,hnl⟩
   have HB2:=hide (chain HB1.out.drew hb2)
   have X2:=hide (row_pastP (w:=w1.drew) X1.out hb2)
   have HRA:=hide (hr.le HB1.out.drew.size)
   have HOA:=hide (ho.le HB1.out.drew.size)
   have HKA:=hide hkA
   have HNl:=hide hnl
   clear hr ho hkA hnl hb2
   go_upto_region 7 with fail
   go_cut [11] (fun v w'=>∃ G:Nat,v=.pointer (some ⟨G,0,none⟩)∧Hid (w'.heap[G]?=some (.cells (ceArr ⟨win,x.se,g0,p0⟩) 81 (0,0)))∧Hid (w2.heap.size≤G)∧Hid (Below w2.heap.size w2 w'))
   case first=>
    have HS0:(fun W=>Below w2.heap.size w2 W) w2.drew:=(Below.refl _ _).drew
    refine regionK (fun W=>Below w2.heap.size w2 W) 8 (by kernel_rfl) ?_
    refine tkS (i:=0) (v:=.int .i64 win) rfl rfl HS0 ?_
    refine tkS (i:=1) (v:=.pointer (some ⟨w.heap.size,1,none⟩)) rfl rfl HS0 ?_
    refine tkL (i:=2) (v:=.string x.se) rfl rfl HS0 (fun W hW=>?_) ?_
    ·have q:=cellKC (row_pastP X2.out hW) 1 rfl
     clear hW
     go_simp
    simp only [sA,sB,sC]
    refine tkS (i:=3) (v:=.pointer (some ⟨w.heap.size,0,none⟩)) rfl rfl HS0 ?_
    refine tkL (i:=4) (v:=.int .i64 x.k) rfl rfl HS0 (fun W hW=>?_) ?_
    ·have q:=cellKC (row_pastP X2.out hW) 0 rfl
     clear hW
     go_simp
    simp only [sA,sB,sC]
    refine twoK (i:=5) (j:=7) (by kernel_rfl) rfl rfl (fun K hK=>?_) (fun K hK=>?_)
    ·go_simp
     refine (c_newSX K1.out K4.out).mono ?_
     rintro e w3 ⟨rfl,hb3⟩
     rw [← HG.out,← HPl.out]
     have HB3:Hid (Below w2.heap.size w2 w3):=(HS0:Below w2.heap.size w2 _).trans (hb3.mono (HS0:Below w2.heap.size w2 _).size)
     clear hb3
     try dsimp only
     refine hK.out _ _ (fun _=>HB3.out) ?_
     clear hK K
     try simp only [Act.put,sA,sB,sC]
     refine tkS (i:=6) (v:=.agg (ceArr ⟨win,x.se,g0,p0⟩)) rfl rfl HB3.out ?_
     simp only [sA,sB,sC]
     refine onE (i:=7) rfl (fun K hK=>?_)
     go_simp
     have HBc:Hid (Below w2.heap.size w2 (w3.alloc (.cells #[.int .i64 0,.string ⟨#[]⟩,.int .i64 0,.int .u64 0,.int .i64 0,.int .u64 0,.int .i64 0,.int .i64 0,.int .u64 0,.slice none 0 0,.slice none 0 0,.int .i64 0,.int .u64 0,.slice none 0 0,.slice none 0 0] 81))):=HB3.out.alloc HB3.out.size _
     have R0:=hide (heap_alloc_new w3 (.cells #[.int .i64 0,.string ⟨#[]⟩,.int .i64 0,.int .u64 0,.int .i64 0,.int .u64 0,.int .i64 0,.int .i64 0,.int .u64 0,.slice none 0 0,.slice none 0 0,.int .i64 0,.int .u64 0,.slice none 0 0,.slice none 0 0] 81))
     try dsimp only
     refine hK.out _ _ (fun _=>HBc.out) ?_
     clear hK K
     try simp only [Act.put,sA,sB,sC]
     have hG:Hid (w2.heap.size≤w3.heap.size):=HB3.out.size
     generalize w3.alloc (.cells #[.int .i64 0,.string ⟨#[]⟩,.int .i64 0,.int .u64 0,.int .i64 0,.int .u64 0,.int .i64 0,.int .i64 0,.int .u64 0,.slice none 0 0,.slice none 0 0,.int .i64 0,.int .u64 0,.slice none 0 0,.slice none 0 0] 81)=Wa at HBc R0 ⊢
     generalize w3.heap.size=G at R0 hG ⊢
     have q0:=cellKC R0.out 0 rfl
     have f0:=fzR 0 R0.out
     have q1:=cellKC R0.out 1 rfl
     have f1:=fzR 1 R0.out
     have q2:=cellKC R0.out 2 rfl
     have f2:=fzR 2 R0.out
     have q3:=cellKC R0.out 3 rfl
     have f3:=fzR 3 R0.out
     have q4:=cellKC R0.out 4 rfl
     have f4:=fzR 4 R0.out
     have q5:=cellKC R0.out 5 rfl
     have f5:=fzR 5 R0.out
     have q6:=cellKC R0.out 6 rfl
     have f6:=fzR 6 R0.out
     have q7:=cellKC R0.out 7 rfl
     have f7:=fzR 7 R0.out
     have q8:=cellKC R0.out 8 rfl
     have f8:=fzR 8 R0.out
     have q9:=cellKC R0.out 9 rfl
     have f9:=fzR 9 R0.out
     have q10:=cellKC R0.out 10 rfl
     have f10:=fzR 10 R0.out
     have q11:=cellKC R0.out 11 rfl
     have f11:=fzR 11 R0.out
     have q12:=cellKC R0.out 12 rfl
     have f12:=fzR 12 R0.out
     have q13:=cellKC R0.out 13 rfl
     have f13:=fzR 13 R0.out
     have q14:=cellKC R0.out 14 rfl
     have f14:=fzR 14 R0.out
     refine onE (i:=8) rfl (fun K hK=>?_)
     go_simp
     have HR2:=hide (rowAll R0.out (.int .i64 win) (.string x.se) (.int .i64 g0.k) (.int .u64 g0.s) (.int .i64 g0.h) (.int .u64 g0.l) (.int .i64 g0.a) (.int .i64 g0.t) (.int .u64 g0.z) (.slice p0.pa g0.P.length p0.pc) (.slice p0.na g0.N.length p0.nc) (.int .i64 g0.x) (.int .u64 g0.y) (.slice p0.ea g0.E.length p0.ec) (.slice p0.ra g0.R.length p0.rc))
     have HB5:=hide (belowAll HBc.out hG.out (.int .i64 win) (.string x.se) (.int .i64 g0.k) (.int .u64 g0.s) (.int .i64 g0.h) (.int .u64 g0.l) (.int .i64 g0.a) (.int .i64 g0.t) (.int .u64 g0.z) (.slice p0.pa g0.P.length p0.pc) (.slice p0.na g0.N.length p0.nc) (.int .i64 g0.x) (.int .u64 g0.y) (.slice p0.ea g0.E.length p0.ec) (.slice p0.ra g0.R.length p0.rc))
     clear q0 f0 q1 f1 q2 f2 q3 f3 q4 f4 q5 f5 q6 f6 q7 f7 q8 f8 q9 f9 q10 f10 q11 f11 q12 f12 q13 f13 q14 f14
     refine hK.out _ _ (fun h=>absurd rfl h) ?_
     clear hK K
     try simp only [Act.put,sA,sB,sC]
     generalize (((((((((((((((Wa.setCell ⟨G,0,none⟩ (.int .i64 win)).setCell ⟨G,1,none⟩ (.string x.se)).setCell ⟨G,2,none⟩ (.int .i64 g0.k)).setCell ⟨G,3,none⟩ (.int .u64 g0.s)).setCell ⟨G,4,none⟩ (.int .i64 g0.h)).setCell ⟨G,5,none⟩ (.int .u64 g0.l)).setCell ⟨G,6,none⟩ (.int .i64 g0.a)).setCell ⟨G,7,none⟩ (.int .i64 g0.t)).setCell ⟨G,8,none⟩ (.int .u64 g0.z)).setCell ⟨G,9,none⟩ (.slice p0.pa g0.P.length p0.pc)).setCell ⟨G,10,none⟩ (.slice p0.na g0.N.length p0.nc)).setCell ⟨G,11,none⟩ (.int .i64 g0.x)).setCell ⟨G,12,none⟩ (.int .u64 g0.y)).setCell ⟨G,13,none⟩ (.slice p0.ea g0.E.length p0.ec)).setCell ⟨G,14,none⟩ (.slice p0.ra g0.R.length p0.rc))=W5 at HR2 HB5 ⊢
     refine doneK (by kernel_rfl) ?_ _
     go_wp2
     go_meet
     exact ⟨G,rfl,HR2,hG,HB5⟩
    ·go_simp
     have HBa:Hid (Below w2.heap.size w2 (w2.alloc (.cells #[.int .i64 0,.string ⟨#[]⟩,.int .i64 0,.int .u64 0,.int .i64 0,.int .u64 0,.int .i64 0,.int .i64 0,.int .u64 0,.slice none 0 0,.slice none 0 0,.int .i64 0,.int .u64 0,.slice none 0 0,.slice none 0 0] 81)).drew):=((Below.refl _ _).alloc (Nat.le_refl _) _).drew
     have R0:Hid ((w2.alloc (.cells #[.int .i64 0,.string ⟨#[]⟩,.int .i64 0,.int .u64 0,.int .i64 0,.int .u64 0,.int .i64 0,.int .i64 0,.int .u64 0,.slice none 0 0,.slice none 0 0,.int .i64 0,.int .u64 0,.slice none 0 0,.slice none 0 0] 81)).drew.heap[w2.heap.size]?=some (.cells #[.int .i64 0,.string ⟨#[]⟩,.int .i64 0,.int .u64 0,.int .i64 0,.int .u64 0,.int .i64 0,.int .i64 0,.int .u64 0,.slice none 0 0,.slice none 0 0,.int .i64 0,.int .u64 0,.slice none 0 0,.slice none 0 0] 81 (0,0))):=heap_alloc_new w2 (.cells #[.int .i64 0,.string ⟨#[]⟩,.int .i64 0,.int .u64 0,.int .i64 0,.int .u64 0,.int .i64 0,.int .i64 0,.int .u64 0,.slice none 0 0,.slice none 0 0,.int .i64 0,.int .u64 0,.slice none 0 0,.slice none 0 0] 81)
     try dsimp only
     refine hK.out _ _ (fun _=>HBa.out) ?_
     clear hK K
     try simp only [Act.put,sA,sB,sC]
     generalize (w2.alloc (.cells #[.int .i64 0,.string ⟨#[]⟩,.int .i64 0,.int .u64 0,.int .i64 0,.int .u64 0,.int .i64 0,.int .i64 0,.int .u64 0,.slice none 0 0,.slice none 0 0,.int .i64 0,.int .u64 0,.slice none 0 0,.slice none 0 0] 81)).drew=Wb at HBa R0 ⊢
     refine onE (i:=5) rfl (fun K hK=>?_)
     go_simp
     refine (c_newSX K1.out K4.out).mono ?_
     rintro e Wa ⟨rfl,hb3⟩
     rw [← HG.out,← HPl.out]
     have HBc:Hid (Below w2.heap.size w2 Wa):=HBa.out.trans (hb3.mono HBa.out.size)
     have R1:=hide (row_pastP R0.out hb3)
     have hG:Hid (w2.heap.size≤w2.heap.size):=Nat.le_refl _
     clear hb3 R0 HBa
     try dsimp only
     refine hK.out _ _ (fun _=>HBc.out) ?_
     clear hK K
     try simp only [Act.put,sA,sB,sC]
     refine tkS (i:=6) (v:=.agg (ceArr ⟨win,x.se,g0,p0⟩)) rfl rfl HBc.out ?_
     simp only [sA,sB,sC]
     have q0:=cellKC R1.out 0 rfl
     have f0:=fzR 0 R1.out
     have q1:=cellKC R1.out 1 rfl
     have f1:=fzR 1 R1.out
     have q2:=cellKC R1.out 2 rfl
     have f2:=fzR 2 R1.out
     have q3:=cellKC R1.out 3 rfl
     have f3:=fzR 3 R1.out
     have q4:=cellKC R1.out 4 rfl
     have f4:=fzR 4 R1.out
     have q5:=cellKC R1.out 5 rfl
     have f5:=fzR 5 R1.out
     have q6:=cellKC R1.out 6 rfl
     have f6:=fzR 6 R1.out
     have q7:=cellKC R1.out 7 rfl
     have f7:=fzR 7 R1.out
     have q8:=cellKC R1.out 8 rfl
     have f8:=fzR 8 R1.out
     have q9:=cellKC R1.out 9 rfl
     have f9:=fzR 9 R1.out
     have q10:=cellKC R1.out 10 rfl
     have f10:=fzR 10 R1.out
     have q11:=cellKC R1.out 11 rfl
     have f11:=fzR 11 R1.out
     have q12:=cellKC R1.out 12 rfl
     have f12:=fzR 12 R1.out
     have q13:=cellKC R1.out 13 rfl
     have f13:=fzR 13 R1.out
     have q14:=cellKC R1.out 14 rfl
     have f14:=fzR 14 R1.out
     refine onE (i:=8) rfl (fun K hK=>?_)
     go_simp
     have HR2:=hide (rowAll R1.out (.int .i64 win) (.string x.se) (.int .i64 g0.k) (.int .u64 g0.s) (.int .i64 g0.h) (.int .u64 g0.l) (.int .i64 g0.a) (.int .i64 g0.t) (.int .u64 g0.z) (.slice p0.pa g0.P.length p0.pc) (.slice p0.na g0.N.length p0.nc) (.int .i64 g0.x) (.int .u64 g0.y) (.slice p0.ea g0.E.length p0.ec) (.slice p0.ra g0.R.length p0.rc))
     have HB5:=hide (belowAll HBc.out hG.out (.int .i64 win) (.string x.se) (.int .i64 g0.k) (.int .u64 g0.s) (.int .i64 g0.h) (.int .u64 g0.l) (.int .i64 g0.a) (.int .i64 g0.t) (.int .u64 g0.z) (.slice p0.pa g0.P.length p0.pc) (.slice p0.na g0.N.length p0.nc) (.int .i64 g0.x) (.int .u64 g0.y) (.slice p0.ea g0.E.length p0.ec) (.slice p0.ra g0.R.length p0.rc))
     clear q0 f0 q1 f1 q2 f2 q3 f3 q4 f4 q5 f5 q6 f6 q7 f7 q8 f8 q9 f9 q10 f10 q11 f11 q12 f12 q13 f13 q14 f14
     refine hK.out _ _ (fun h=>absurd rfl h) ?_
     clear hK K
     try simp only [Act.put,sA,sB,sC]
     generalize (((((((((((((((Wa.setCell ⟨w2.heap.size,0,none⟩ (.int .i64 win)).setCell ⟨w2.heap.size,1,none⟩ (.string x.se)).setCell ⟨w2.heap.size,2,none⟩ (.int .i64 g0.k)).setCell ⟨w2.heap.size,3,none⟩ (.int .u64 g0.s)).setCell ⟨w2.heap.size,4,none⟩ (.int .i64 g0.h)).setCell ⟨w2.heap.size,5,none⟩ (.int .u64 g0.l)).setCell ⟨w2.heap.size,6,none⟩ (.int .i64 g0.a)).setCell ⟨w2.heap.size,7,none⟩ (.int .i64 g0.t)).setCell ⟨w2.heap.size,8,none⟩ (.int .u64 g0.z)).setCell ⟨w2.heap.size,9,none⟩ (.slice p0.pa g0.P.length p0.pc)).setCell ⟨w2.heap.size,10,none⟩ (.slice p0.na g0.N.length p0.nc)).setCell ⟨w2.heap.size,11,none⟩ (.int .i64 g0.x)).setCell ⟨w2.heap.size,12,none⟩ (.int .u64 g0.y)).setCell ⟨w2.heap.size,13,none⟩ (.slice p0.ea g0.E.length p0.ec)).setCell ⟨w2.heap.size,14,none⟩ (.slice p0.ra g0.R.length p0.rc))=W5 at HR2 HB5 ⊢
     refine doneK (by kernel_rfl) ?_ _
     go_wp2
     go_meet
     exact ⟨w2.heap.size,rfl,HR2,hG,HB5⟩
   case rest=>
    obtain ⟨G,rfl,RG,GG,BG⟩:=hcut
    obtain ⟨_,_,y2,y3,y4,y5,y6,y7,y8,y9,y10,y11,y12,y13,y14⟩:=cec_past (HCe.out k c HC.out) (chain HB2.out BG.out)
    have q2:=cellKC RG.out 2 rfl
    have f2:=fzR 2 RG.out
    have q3:=cellKC RG.out 3 rfl
    have f3:=fzR 3 RG.out
    have q4:=cellKC RG.out 4 rfl
    have f4:=fzR 4 RG.out
    have q5:=cellKC RG.out 5 rfl
    have f5:=fzR 5 RG.out
    have q6:=cellKC RG.out 6 rfl
    have f6:=fzR 6 RG.out
    have q7:=cellKC RG.out 7 rfl
    have f7:=fzR 7 RG.out
    have q8:=cellKC RG.out 8 rfl
    have f8:=fzR 8 RG.out
    have q9:=cellKC RG.out 9 rfl
    have f9:=fzR 9 RG.out
    have q10:=cellKC RG.out 10 rfl
    have f10:=fzR 10 RG.out
    have q11:=cellKC RG.out 11 rfl
    have f11:=fzR 11 RG.out
    have q12:=cellKC RG.out 12 rfl
    have f12:=fzR 12 RG.out
    have q13:=cellKC RG.out 13 rfl
    have f13:=fzR 13 RG.out
    have q14:=cellKC RG.out 14 rfl
    have f14:=fzR 14 RG.out
    have R9:=hide (row15 (v0:=.int .i64 c.g.k) (v1:=.int .u64 c.g.s) (v2:=.int .i64 c.g.h) (v3:=.int .u64 c.g.l) (v4:=.int .i64 c.g.a) (v5:=.int .i64 c.g.t) (v6:=.int .u64 c.g.z) (v7:=.slice c.p.pa c.g.P.length c.p.pc) (v8:=.slice c.p.na c.g.N.length c.p.nc) (v9:=.int .i64 c.g.x) (v10:=.int .u64 c.g.y) (v11:=.slice c.p.ea c.g.E.length c.p.ec) (v12:=.slice c.p.ra c.g.R.length c.p.rc) RG.out)
    have B9:=hide (below13 BG.out GG.out (.int .i64 c.g.k) (.int .u64 c.g.s) (.int .i64 c.g.h) (.int .u64 c.g.l) (.int .i64 c.g.a) (.int .i64 c.g.t) (.int .u64 c.g.z) (.slice c.p.pa c.g.P.length c.p.pc) (.slice c.p.na c.g.N.length c.p.nc) (.int .i64 c.g.x) (.int .u64 c.g.y) (.slice c.p.ea c.g.E.length c.p.ec) (.slice c.p.ra c.g.R.length c.p.rc))
    go_upto_region 10 with fail
    clear y2 q2 f2 y3 q3 f3 y4 q4 f4 y5 q5 f5 y6 q6 f6 y7 q7 f7 y8 q8 f8 y9 q9 f9 y10 q10 f10 y11 q11 f11 y12 q12 f12 y13 q13 f13 y14 q14 f14
    generalize (((((((((((((wc.setCell ⟨G,2,none⟩ (.int .i64 c.g.k)).setCell ⟨G,3,none⟩ (.int .u64 c.g.s)).setCell ⟨G,4,none⟩ (.int .i64 c.g.h)).setCell ⟨G,5,none⟩ (.int .u64 c.g.l)).setCell ⟨G,6,none⟩ (.int .i64 c.g.a)).setCell ⟨G,7,none⟩ (.int .i64 c.g.t)).setCell ⟨G,8,none⟩ (.int .u64 c.g.z)).setCell ⟨G,9,none⟩ (.slice c.p.pa c.g.P.length c.p.pc)).setCell ⟨G,10,none⟩ (.slice c.p.na c.g.N.length c.p.nc)).setCell ⟨G,11,none⟩ (.int .i64 c.g.x)).setCell ⟨G,12,none⟩ (.int .u64 c.g.y)).setCell ⟨G,13,none⟩ (.slice c.p.ea c.g.E.length c.p.ec)).setCell ⟨G,14,none⟩ (.slice c.p.ra c.g.R.length c.p.rc))=W9 at R9 B9 ⊢
    have X9:=hide (row_pastP X2.out B9.out)
    obtain ⟨s0,s1,s2,s3,s4,s5,s6⟩:=cells7 X9.out
    have q2:=cellKC R9.out 2 rfl
    have q3:=cellKC R9.out 3 rfl
    have q4:=cellKC R9.out 4 rfl
    have q5:=cellKC R9.out 5 rfl
    have q6:=cellKC R9.out 6 rfl
    have q7:=cellKC R9.out 7 rfl
    have q8:=cellKC R9.out 8 rfl
    have q9:=cellKC R9.out 9 rfl
    have q10:=cellKC R9.out 10 rfl
    have q11:=cellKC R9.out 11 rfl
    have q12:=cellKC R9.out 12 rfl
    have q13:=cellKC R9.out 13 rfl
    have q14:=cellKC R9.out 14 rfl
    go_wp2_with fail
    clear s0 s1 s2 s3 s4 s5 s6 q2 q3 q4 q5 q6 q7 q8 q9 q10 q11 q12 q13 q14
    refine (c_s_l07Put x (RT.out c HM.out) HX.out HK.out (II.out.ok c HM.out) OX.out (II.out.sm c HM.out) (II.out.pl c HM.out) (ag_past (II.out.mem.2 c HM.out) (chain HB2.out B9.out))).mono ?_
    rintro e w4 ⟨v,o,rfl,hput,⟨q,rfl,hoo⟩,hb4⟩
    have R4:=hide (row_pastP R9.out hb4)
    have B4:=hide (B9.out.trans (hb4.mono B9.out.size))
    have HPut:=hide hput
    have HOo:=hide hoo
    have HOg:=hide (hoo.le (show G+1≤W9.heap.size from (Array.getElem?_eq_some_iff.1 R9.out).1))
    clear hput hoo hb4
    have q2:=cellKC R4.out 2 rfl
    have f2:=fzR 2 R4.out
    have q3:=cellKC R4.out 3 rfl
    have f3:=fzR 3 R4.out
    have q4:=cellKC R4.out 4 rfl
    have f4:=fzR 4 R4.out
    have q5:=cellKC R4.out 5 rfl
    have f5:=fzR 5 R4.out
    have q6:=cellKC R4.out 6 rfl
    have f6:=fzR 6 R4.out
    have q7:=cellKC R4.out 7 rfl
    have f7:=fzR 7 R4.out
    have q8:=cellKC R4.out 8 rfl
    have f8:=fzR 8 R4.out
    have q9:=cellKC R4.out 9 rfl
    have f9:=fzR 9 R4.out
    have q10:=cellKC R4.out 10 rfl
    have f10:=fzR 10 R4.out
    have q11:=cellKC R4.out 11 rfl
    have f11:=fzR 11 R4.out
    have q12:=cellKC R4.out 12 rfl
    have f12:=fzR 12 R4.out
    have q13:=cellKC R4.out 13 rfl
    have f13:=fzR 13 R4.out
    have q14:=cellKC R4.out 14 rfl
    have f14:=fzR 14 R4.out
    have R5:=hide (row15 (v0:=.int .i64 o.k) (v1:=.int .u64 o.s) (v2:=.int .i64 o.h) (v3:=.int .u64 o.l) (v4:=.int .i64 o.a) (v5:=.int .i64 o.t) (v6:=.int .u64 o.z) (v7:=.slice q.pa o.P.length q.pc) (v8:=.slice q.na o.N.length q.nc) (v9:=.int .i64 o.x) (v10:=.int .u64 o.y) (v11:=.slice q.ea o.E.length q.ec) (v12:=.slice q.ra o.R.length q.rc) R4.out)
    have B5:=hide (below13 B4.out GG.out (.int .i64 o.k) (.int .u64 o.s) (.int .i64 o.h) (.int .u64 o.l) (.int .i64 o.a) (.int .i64 o.t) (.int .u64 o.z) (.slice q.pa o.P.length q.pc) (.slice q.na o.N.length q.nc) (.int .i64 o.x) (.int .u64 o.y) (.slice q.ea o.E.length q.ec) (.slice q.ra o.R.length q.rc))
    go_upto_region 11 with fail
    clear q2 f2 q3 f3 q4 f4 q5 f5 q6 f6 q7 f7 q8 f8 q9 f9 q10 f10 q11 f11 q12 f12 q13 f13 q14 f14
    have O5:Hid (AgO (((((((((((((w4.setCell ⟨G,2,none⟩ (.int .i64 o.k)).setCell ⟨G,3,none⟩ (.int .u64 o.s)).setCell ⟨G,4,none⟩ (.int .i64 o.h)).setCell ⟨G,5,none⟩ (.int .u64 o.l)).setCell ⟨G,6,none⟩ (.int .i64 o.a)).setCell ⟨G,7,none⟩ (.int .i64 o.t)).setCell ⟨G,8,none⟩ (.int .u64 o.z)).setCell ⟨G,9,none⟩ (.slice q.pa o.P.length q.pc)).setCell ⟨G,10,none⟩ (.slice q.na o.N.length q.nc)).setCell ⟨G,11,none⟩ (.int .i64 o.x)).setCell ⟨G,12,none⟩ (.int .u64 o.y)).setCell ⟨G,13,none⟩ (.slice q.ea o.E.length q.ec)).setCell ⟨G,14,none⟩ (.slice q.ra o.R.length q.rc)) (G+1) o q):=HOg.out.kept15 (Nat.lt_succ_self _)
    generalize (((((((((((((w4.setCell ⟨G,2,none⟩ (.int .i64 o.k)).setCell ⟨G,3,none⟩ (.int .u64 o.s)).setCell ⟨G,4,none⟩ (.int .i64 o.h)).setCell ⟨G,5,none⟩ (.int .u64 o.l)).setCell ⟨G,6,none⟩ (.int .i64 o.a)).setCell ⟨G,7,none⟩ (.int .i64 o.t)).setCell ⟨G,8,none⟩ (.int .u64 o.z)).setCell ⟨G,9,none⟩ (.slice q.pa o.P.length q.pc)).setCell ⟨G,10,none⟩ (.slice q.na o.N.length q.nc)).setCell ⟨G,11,none⟩ (.int .i64 o.x)).setCell ⟨G,12,none⟩ (.int .u64 o.y)).setCell ⟨G,13,none⟩ (.slice q.ea o.E.length q.ec)).setCell ⟨G,14,none⟩ (.slice q.ra o.R.length q.rc))=W5 at R5 B5 O5 ⊢
    have q0:=cellKC R5.out 0 rfl
    have q1:=cellKC R5.out 1 rfl
    have q2:=cellKC R5.out 2 rfl
    have q3:=cellKC R5.out 3 rfl
    have q4:=cellKC R5.out 4 rfl
    have q5:=cellKC R5.out 5 rfl
    have q6:=cellKC R5.out 6 rfl
    have q7:=cellKC R5.out 7 rfl
    have q8:=cellKC R5.out 8 rfl
    have q9:=cellKC R5.out 9 rfl
    have q10:=cellKC R5.out 10 rfl
    have q11:=cellKC R5.out 11 rfl
    have q12:=cellKC R5.out 12 rfl
    have q13:=cellKC R5.out 13 rfl
    have q14:=cellKC R5.out 14 rfl
    have HRW:=hide (HRA.out.past B5.out)
    have HLA:Hid (A.length=k):=by show _=_;have:=congrArg List.length HKA.out;simp at this;have:=HTk.out;simp at this;omega
    have hzs:w.heap.size≤W5.heap.size:=Nat.le_trans HB2.out.size B5.out.size
    have HP1:=hide (fun v' w6=>put_one (c:=⟨win,x.se,o,q⟩) (v':=v') (w6:=w6) HRA.out HOA.out HB2.out B5.out GG.out O5.out)
    go_wp2_with (at_builtin;refine wpList_append_own _ rfl _ _ 30 rfl w.heap.size 81 i0 (.agg zeroCe) 15 192 Tryz.underlying30 hi hz0 hz1 hz2 rfl (by decide) _ _ _ rfl (World.ownsRow.alloc HRW.out _) ⟨W5.heap.size,0,none⟩ 1 1 (ceL ⟨win,x.se,o,q⟩) rfl rfl ?c1 ?c2 ?c3 ?c4 ?c5 ?_)
    case c1=>exact new_cellsC (c:=⟨win,x.se,o,q⟩)
    case c2=>exact ceL_one _
    case c3=>have:=HLA.out;unfold maxLen;omega
    case c4=>have:=HLA.out;omega
    case c5=>simp;omega
    intro v6 w6 hown6 hgrow6 hnil6
    obtain ⟨hr6,ho6,hb6⟩:=HP1.out v6 w6 hown6 hgrow6
    have HR6:=hide hr6
    have HO6:=hide ho6
    have HB6:=hide hb6
    clear hown6 hgrow6 hnil6 hr6 ho6 hb6 HP1 HRW HRA HOA O5 R5 B5 q0 q1 q2 q3 q4 q5 q6 q7 q8 q9 q10 q11 q12 q13 q14
    have hk1:(0:Int)≤(k:Int)+1:=by omega
    have hk2:(k:Int)+1≤(N:Int):=by omega
    have ewk:IntKind.i64.wrap ((k:Int)+1)=(k:Int)+1:=IntWalk.i64_in _ ⟨by omega,by omega⟩
    have HDl:Hid ((L.drop (k+1)).length=N - (k+1)):=by show _=_;rw [List.length_drop,II.out.hN]
    have ld:N - (k+1)≤1048576:=by have:=II.out.lN;omega
    have hz6:w.heap.size≤w6.heap.size:=HB6.out.size
    have D1:Hid (ca=k+1→CesAt w (some ⟨b,off,none⟩) (L.drop (k+1))):=fun e=>by have:=ces_drop (k:=k+1) (ca:=ca) II.out.mem (by have:=II.out.hN;omega);rw [if_pos e] at this;exact this
    have D2:Hid (ca≠k+1→CesAt w (some ⟨b,off+(k+1)*15,none⟩) (L.drop (k+1))):=fun e=>by have:=ces_drop (k:=k+1) (ca:=ca) II.out.mem (by have:=II.out.hN;omega);rw [if_neg e] at this;simpa [Addr.add] using this
    by_cases hck:ca=(k+1)
    ·have HCk:=hide (D1.out hck)
     go_wp2_with fail
     skip
     refine (c_l08CopyS (L:=L.drop (k+1)) HDl.out ld (fun d hd=>II.out.sm d (List.mem_of_mem_drop hd)) (fun d hd=>II.out.pl d (List.mem_of_mem_drop hd)) (ces_past HCk.out HB6.out)).mono ?_
     rintro e w7 ⟨vB,M,rfl,hrB,hoB,hkB,hb7,hnB⟩
     obtain ⟨gB,cB,rfl,hsB⟩:=hrB.src hnB
     have HSB:=hide hsB
     have HOB:=hide hoB
     have HKB:=hide hkB
     have HB7:=hide hb7
     have HLM:Hid (M.length=N - (k+1)):=(map_len hkB).trans HDl.out
     have HR7:=hide (HR6.out.past HB7.out)
     have hz7:w.heap.size≤w7.heap.size:=Nat.le_trans hz6 hb7.size
     have HP2:=hide (fun v'' w8=>put_fin (v'':=v'') (w8:=w8) HR6.out HO6.out hz6 HB6.out HB7.out HOB.out)
     clear hsB hoB hkB hb7 hrB hnB
     go_wp2_with (at_builtin;refine wpList_append_own _ rfl _ _ 30 rfl w.heap.size 81 i0 (.agg zeroCe) 15 192 Tryz.underlying30 hi hz0 hz1 hz2 rfl (by decide) _ _ _ rfl HR7.out ⟨gB,0,none⟩ M.length cB (flC M) rfl (flC_len M) HSB.out (flC_oneC M) ?c3 ?c4 hz7 ?_)
     case c3=>have:=HLA.out;have:=HLM.out;have:=II.out.lN;simp only [List.length_append,List.length_cons,List.length_nil];unfold maxLen;omega
     case c4=>have:=HLA.out;have:=HLM.out;have:=II.out.lN;simp only [List.length_append,List.length_cons,List.length_nil];omega
     intro v8 w8 hown8 hg8 hnil8
     obtain ⟨f1,f2,f3⟩:=HP2.out v8 w8 (by rw [List.length_append];exact hown8) hg8
     have F1:=hide f1
     have F2:=hide f2
     have F3:=hide f3
     clear f1 f2 f3 hown8 hg8 hnil8 HP2 HR7
     go_wp2
     go_ret2
     exact ⟨_,_,0,rfl,PuA.there c o _ HM.out E1.out E2.out HK.out HPut.out (ptl_yes AS.out HP.out HKA.out HKB.out),F1.out,F2.out,F3.out⟩
    ·have HCk:=hide (D2.out hck)
     go_wp2_with fail
     skip
     refine (c_l08CopyS (L:=L.drop (k+1)) HDl.out ld (fun d hd=>II.out.sm d (List.mem_of_mem_drop hd)) (fun d hd=>II.out.pl d (List.mem_of_mem_drop hd)) (ces_past HCk.out HB6.out)).mono ?_
     rintro e w7 ⟨vB,M,rfl,hrB,hoB,hkB,hb7,hnB⟩
     obtain ⟨gB,cB,rfl,hsB⟩:=hrB.src hnB
     have HSB:=hide hsB
     have HOB:=hide hoB
     have HKB:=hide hkB
     have HB7:=hide hb7
     have HLM:Hid (M.length=N - (k+1)):=(map_len hkB).trans HDl.out
     have HR7:=hide (HR6.out.past HB7.out)
     have hz7:w.heap.size≤w7.heap.size:=Nat.le_trans hz6 hb7.size
     have HP2:=hide (fun v'' w8=>put_fin (v'':=v'') (w8:=w8) HR6.out HO6.out hz6 HB6.out HB7.out HOB.out)
     clear hsB hoB hkB hb7 hrB hnB
     go_wp2_with (at_builtin;refine wpList_append_own _ rfl _ _ 30 rfl w.heap.size 81 i0 (.agg zeroCe) 15 192 Tryz.underlying30 hi hz0 hz1 hz2 rfl (by decide) _ _ _ rfl HR7.out ⟨gB,0,none⟩ M.length cB (flC M) rfl (flC_len M) HSB.out (flC_oneC M) ?c3 ?c4 hz7 ?_)
     case c3=>have:=HLA.out;have:=HLM.out;have:=II.out.lN;simp only [List.length_append,List.length_cons,List.length_nil];unfold maxLen;omega
     case c4=>have:=HLA.out;have:=HLM.out;have:=II.out.lN;simp only [List.length_append,List.length_cons,List.length_nil];omega
     intro v8 w8 hown8 hg8 hnil8
     obtain ⟨f1,f2,f3⟩:=HP2.out v8 w8 (by rw [List.length_append];exact hown8) hg8
     have F1:=hide f1
     have F2:=hide f2
     have F3:=hide f3
     clear f1 f2 f3 hown8 hg8 hnil8 HP2 HR7
     go_wp2
     go_ret2
     exact ⟨_,_,0,rfl,PuA.there c o _ HM.out E1.out E2.out HK.out HPut.out (ptl_yes AS.out HP.out HKA.out HKB.out),F1.out,F2.out,F3.out⟩
  ·have HR:Hid (PuA L win x [] 9):=PuA.kind c HM.out E1.out E2.out hk
   have bk:(c.g.k == x.k)=false:=by simp [hk]
   clear hk
   go_upto_region 2 with fail
   go_region_held3 (fun W=>W.cell? ⟨b,off+k*15+2,none⟩=some (.int .i64 c.g.k)∧W.cell? ⟨w.heap.size,0,none⟩=some (.int .i64 x.k))
    (exact ⟨by simpa using y2,by simpa using z0⟩)
    (fail)
   go_wp2
   go_ret2
   exact ⟨_,[],9,rfl,HR.out,World.ownsRow_nil _ _ _ _,CesO.nil _ _,HB1.out.drew⟩
 | false=>
  obtain ⟨_,hn⟩:=plc_no AS.out HP.out
  have HNo:=hide hn
  clear hn
  go_upto_region 2 with fail
  have HS0:(fun _=>True) w1.drew:=trivial
  refine regionK (fun _=>True) 99 (by kernel_rfl) ?_
  refine tkS (i:=0) (v:=.bool false) rfl rfl HS0 ?_
  refine tkS (i:=1) (v:=.bool false) rfl rfl HS0 ?_
  refine tkU (i:=2) rfl rfl HS0 ?_
  simp only [sA,sB,sC]
  refine tkU (i:=3) rfl rfl HS0 ?_
  refine tkU (i:=4) rfl rfl HS0 ?_
  refine tkU (i:=5) rfl rfl HS0 ?_
  simp only [sA,sB,sC]
  refine tkU (i:=6) rfl rfl HS0 ?_
  refine tkU (i:=7) rfl rfl HS0 ?_
  refine tkU (i:=8) rfl rfl HS0 ?_
  simp only [sA,sB,sC]
  refine tkU (i:=9) rfl rfl HS0 ?_
  refine tkU (i:=10) rfl rfl HS0 ?_
  refine tkS (i:=11) (v:=.bool false) rfl rfl HS0 ?_
  simp only [sA,sB,sC]
  refine doneK (by kernel_rfl) ?_ _
  by_cases hf:60≤N
  ·have HR:Hid (PuA L win x [] 8):=PuA.full HNo.out (by have:=II.out.hN;omega)
   have bf:decide ((60:Int)≤(N:Int))=true:=decide_eq_true (by omega)
   clear hf
   go_wp2
   go_ret2
   exact ⟨_,[],8,rfl,HR.out,World.ownsRow_nil _ _ _ _,CesO.nil _ _,HB1.out.drew⟩
  ·have bf:decide ((60:Int)≤(N:Int))=false:=decide_eq_false (by omega)
   have HF:=hide hf
   have hk0:(0:Int)≤(k:Int):=by omega
   have hkc:(k:Int)≤(ca:Int):=by omega
   clear hf
   go_wp2_with fail
   have HTk:Hid ((L.take k).length=k):=by show _=_;rw [List.length_take];have:=II.out.hN;omega
   have lk:k≤1048576:=by have:=II.out.lN;omega
   refine (c_l08CopyS (L:=L.take k) HTk.out lk (fun d hd=>II.out.sm d (List.mem_of_mem_take hd)) (fun d hd=>II.out.pl d (List.mem_of_mem_take hd)) (ces_past (ces_take II.out.mem) HB1.out.drew)).mono ?_
   rintro e w2 ⟨vA,A,rfl,hr,ho,hkA,hb2,hnl⟩
   have HB2:=hide (chain HB1.out.drew hb2)
   have X2:=hide (row_pastP (w:=w1.drew) X1.out hb2)
   have HRA:=hide (hr.le HB1.out.drew.size)
   have HOA:=hide (ho.le HB1.out.drew.size)
   have HKA:=hide hkA
   have HNl:=hide hnl
   clear hr ho hkA hnl hb2
   go_upto_region 7 with fail
   go_cut [11] (fun v w'=>∃ G:Nat,v=.pointer (some ⟨G,0,none⟩)∧Hid (w'.heap[G]?=some (.cells (ceArr ⟨win,x.se,g0,p0⟩) 81 (0,0)))∧Hid (w2.heap.size≤G)∧Hid (Below w2.heap.size w2 w'))
   case first=>
    have HS0:(fun W=>Below w2.heap.size w2 W) w2.drew:=(Below.refl _ _).drew
    refine regionK (fun W=>Below w2.heap.size w2 W) 8 (by kernel_rfl) ?_
    refine tkS (i:=0) (v:=.int .i64 win) rfl rfl HS0 ?_
    refine tkS (i:=1) (v:=.pointer (some ⟨w.heap.size,1,none⟩)) rfl rfl HS0 ?_
    refine tkL (i:=2) (v:=.string x.se) rfl rfl HS0 (fun W hW=>?_) ?_
    ·have q:=cellKC (row_pastP X2.out hW) 1 rfl
     clear hW
     go_simp
    simp only [sA,sB,sC]
    refine tkS (i:=3) (v:=.pointer (some ⟨w.heap.size,0,none⟩)) rfl rfl HS0 ?_
    refine tkL (i:=4) (v:=.int .i64 x.k) rfl rfl HS0 (fun W hW=>?_) ?_
    ·have q:=cellKC (row_pastP X2.out hW) 0 rfl
     clear hW
     go_simp
    simp only [sA,sB,sC]
    refine twoK (i:=5) (j:=7) (by kernel_rfl) rfl rfl (fun K hK=>?_) (fun K hK=>?_)
    ·go_simp
     refine (c_newSX K1.out K4.out).mono ?_
     rintro e w3 ⟨rfl,hb3⟩
     rw [← HG.out,← HPl.out]
     have HB3:Hid (Below w2.heap.size w2 w3):=(HS0:Below w2.heap.size w2 _).trans (hb3.mono (HS0:Below w2.heap.size w2 _).size)
     clear hb3
     try dsimp only
     refine hK.out _ _ (fun _=>HB3.out) ?_
     clear hK K
     try simp only [Act.put,sA,sB,sC]
     refine tkS (i:=6) (v:=.agg (ceArr ⟨win,x.se,g0,p0⟩)) rfl rfl HB3.out ?_
     simp only [sA,sB,sC]
     refine onE (i:=7) rfl (fun K hK=>?_)
     go_simp
     have HBc:Hid (Below w2.heap.size w2 (w3.alloc (.cells #[.int .i64 0,.string ⟨#[]⟩,.int .i64 0,.int .u64 0,.int .i64 0,.int .u64 0,.int .i64 0,.int .i64 0,.int .u64 0,.slice none 0 0,.slice none 0 0,.int .i64 0,.int .u64 0,.slice none 0 0,.slice none 0 0] 81))):=HB3.out.alloc HB3.out.size _
     have R0:=hide (heap_alloc_new w3 (.cells #[.int .i64 0,.string ⟨#[]⟩,.int .i64 0,.int .u64 0,.int .i64 0,.int .u64 0,.int .i64 0,.int .i64 0,.int .u64 0,.slice none 0 0,.slice none 0 0,.int .i64 0,.int .u64 0,.slice none 0 0,.slice none 0 0] 81))
     try dsimp only
     refine hK.out _ _ (fun _=>HBc.out) ?_
     clear hK K
     try simp only [Act.put,sA,sB,sC]
     have hG:Hid (w2.heap.size≤w3.heap.size):=HB3.out.size
     generalize w3.alloc (.cells #[.int .i64 0,.string ⟨#[]⟩,.int .i64 0,.int .u64 0,.int .i64 0,.int .u64 0,.int .i64 0,.int .i64 0,.int .u64 0,.slice none 0 0,.slice none 0 0,.int .i64 0,.int .u64 0,.slice none 0 0,.slice none 0 0] 81)=Wa at HBc R0 ⊢
     generalize w3.heap.size=G at R0 hG ⊢
     have q0:=cellKC R0.out 0 rfl
     have f0:=fzR 0 R0.out
     have q1:=cellKC R0.out 1 rfl
     have f1:=fzR 1 R0.out
     have q2:=cellKC R0.out 2 rfl
     have f2:=fzR 2 R0.out
     have q3:=cellKC R0.out 3 rfl
     have f3:=fzR 3 R0.out
     have q4:=cellKC R0.out 4 rfl
     have f4:=fzR 4 R0.out
     have q5:=cellKC R0.out 5 rfl
     have f5:=fzR 5 R0.out
     have q6:=cellKC R0.out 6 rfl
     have f6:=fzR 6 R0.out
     have q7:=cellKC R0.out 7 rfl
     have f7:=fzR 7 R0.out
     have q8:=cellKC R0.out 8 rfl
     have f8:=fzR 8 R0.out
     have q9:=cellKC R0.out 9 rfl
     have f9:=fzR 9 R0.out
     have q10:=cellKC R0.out 10 rfl
     have f10:=fzR 10 R0.out
     have q11:=cellKC R0.out 11 rfl
     have f11:=fzR 11 R0.out
     have q12:=cellKC R0.out 12 rfl
     have f12:=fzR 12 R0.out
     have q13:=cellKC R0.out 13 rfl
     have f13:=fzR 13 R0.out
     have q14:=cellKC R0.out 14 rfl
     have f14:=fzR 14 R0.out
     refine onE (i:=8) rfl (fun K hK=>?_)
     go_simp
     have HR2:=hide (rowAll R0.out (.int .i64 win) (.string x.se) (.int .i64 g0.k) (.int .u64 g0.s) (.int .i64 g0.h) (.int .u64 g0.l) (.int .i64 g0.a) (.int .i64 g0.t) (.int .u64 g0.z) (.slice p0.pa g0.P.length p0.pc) (.slice p0.na g0.N.length p0.nc) (.int .i64 g0.x) (.int .u64 g0.y) (.slice p0.ea g0.E.length p0.ec) (.slice p0.ra g0.R.length p0.rc))
     have HB5:=hide (belowAll HBc.out hG.out (.int .i64 win) (.string x.se) (.int .i64 g0.k) (.int .u64 g0.s) (.int .i64 g0.h) (.int .u64 g0.l) (.int .i64 g0.a) (.int .i64 g0.t) (.int .u64 g0.z) (.slice p0.pa g0.P.length p0.pc) (.slice p0.na g0.N.length p0.nc) (.int .i64 g0.x) (.int .u64 g0.y) (.slice p0.ea g0.E.length p0.ec) (.slice p0.ra g0.R.length p0.rc))
     clear q0 f0 q1 f1 q2 f2 q3 f3 q4 f4 q5 f5 q6 f6 q7 f7 q8 f8 q9 f9 q10 f10 q11 f11 q12 f12 q13 f13 q14 f14
     refine hK.out _ _ (fun h=>absurd rfl h) ?_
     clear hK K
     try simp only [Act.put,sA,sB,sC]
     generalize (((((((((((((((Wa.setCell ⟨G,0,none⟩ (.int .i64 win)).setCell ⟨G,1,none⟩ (.string x.se)).setCell ⟨G,2,none⟩ (.int .i64 g0.k)).setCell ⟨G,3,none⟩ (.int .u64 g0.s)).setCell ⟨G,4,none⟩ (.int .i64 g0.h)).setCell ⟨G,5,none⟩ (.int .u64 g0.l)).setCell ⟨G,6,none⟩ (.int .i64 g0.a)).setCell ⟨G,7,none⟩ (.int .i64 g0.t)).setCell ⟨G,8,none⟩ (.int .u64 g0.z)).setCell ⟨G,9,none⟩ (.slice p0.pa g0.P.length p0.pc)).setCell ⟨G,10,none⟩ (.slice p0.na g0.N.length p0.nc)).setCell ⟨G,11,none⟩ (.int .i64 g0.x)).setCell ⟨G,12,none⟩ (.int .u64 g0.y)).setCell ⟨G,13,none⟩ (.slice p0.ea g0.E.length p0.ec)).setCell ⟨G,14,none⟩ (.slice p0.ra g0.R.length p0.rc))=W5 at HR2 HB5 ⊢
     refine doneK (by kernel_rfl) ?_ _
     go_wp2
     go_meet
     exact ⟨G,rfl,HR2,hG,HB5⟩
    ·go_simp
     have HBa:Hid (Below w2.heap.size w2 (w2.alloc (.cells #[.int .i64 0,.string ⟨#[]⟩,.int .i64 0,.int .u64 0,.int .i64 0,.int .u64 0,.int .i64 0,.int .i64 0,.int .u64 0,.slice none 0 0,.slice none 0 0,.int .i64 0,.int .u64 0,.slice none 0 0,.slice none 0 0] 81)).drew):=((Below.refl _ _).alloc (Nat.le_refl _) _).drew
     have R0:Hid ((w2.alloc (.cells #[.int .i64 0,.string ⟨#[]⟩,.int .i64 0,.int .u64 0,.int .i64 0,.int .u64 0,.int .i64 0,.int .i64 0,.int .u64 0,.slice none 0 0,.slice none 0 0,.int .i64 0,.int .u64 0,.slice none 0 0,.slice none 0 0] 81)).drew.heap[w2.heap.size]?=some (.cells #[.int .i64 0,.string ⟨#[]⟩,.int .i64 0,.int .u64 0,.int .i64 0,.int .u64 0,.int .i64 0,.int .i64 0,.int .u64 0,.slice none 0 0,.slice none 0 0,.int .i64 0,.int .u64 0,.slice none 0 0,.slice none 0 0] 81 (0,0))):=heap_alloc_new w2 (.cells #[.int .i64 0,.string ⟨#[]⟩,.int .i64 0,.int .u64 0,.int .i64 0,.int .u64 0,.int .i64 0,.int .i64 0,.int .u64 0,.slice none 0 0,.slice none 0 0,.int .i64 0,.int .u64 0,.slice none 0 0,.slice none 0 0] 81)
     try dsimp only
     refine hK.out _ _ (fun _=>HBa.out) ?_
     clear hK K
     try simp only [Act.put,sA,sB,sC]
     generalize (w2.alloc (.cells #[.int .i64 0,.string ⟨#[]⟩,.int .i64 0,.int .u64 0,.int .i64 0,.int .u64 0,.int .i64 0,.int .i64 0,.int .u64 0,.slice none 0 0,.slice none 0 0,.int .i64 0,.int .u64 0,.slice none 0 0,.slice none 0 0] 81)).drew=Wb at HBa R0 ⊢
     refine onE (i:=5) rfl (fun K hK=>?_)
     go_simp
     refine (c_newSX K1.out K4.out).mono ?_
     rintro e Wa ⟨rfl,hb3⟩
     rw [← HG.out,← HPl.out]
     have HBc:Hid (Below w2.heap.size w2 Wa):=HBa.out.trans (hb3.mono HBa.out.size)
     have R1:=hide (row_pastP R0.out hb3)
     have hG:Hid (w2.heap.size≤w2.heap.size):=Nat.le_refl _
     clear hb3 R0 HBa
     try dsimp only
     refine hK.out _ _ (fun _=>HBc.out) ?_
     clear hK K
     try simp only [Act.put,sA,sB,sC]
     refine tkS (i:=6) (v:=.agg (ceArr ⟨win,x.se,g0,p0⟩)) rfl rfl HBc.out ?_
     simp only [sA,sB,sC]
     have q0:=cellKC R1.out 0 rfl
     have f0:=fzR 0 R1.out
     have q1:=cellKC R1.out 1 rfl
     have f1:=fzR 1 R1.out
     have q2:=cellKC R1.out 2 rfl
     have f2:=fzR 2 R1.out
     have q3:=cellKC R1.out 3 rfl
     have f3:=fzR 3 R1.out
     have q4:=cellKC R1.out 4 rfl
     have f4:=fzR 4 R1.out
     have q5:=cellKC R1.out 5 rfl
     have f5:=fzR 5 R1.out
     have q6:=cellKC R1.out 6 rfl
     have f6:=fzR 6 R1.out
     have q7:=cellKC R1.out 7 rfl
     have f7:=fzR 7 R1.out
     have q8:=cellKC R1.out 8 rfl
     have f8:=fzR 8 R1.out
     have q9:=cellKC R1.out 9 rfl
     have f9:=fzR 9 R1.out
     have q10:=cellKC R1.out 10 rfl
     have f10:=fzR 10 R1.out
     have q11:=cellKC R1.out 11 rfl
     have f11:=fzR 11 R1.out
     have q12:=cellKC R1.out 12 rfl
     have f12:=fzR 12 R1.out
     have q13:=cellKC R1.out 13 rfl
     have f13:=fzR 13 R1.out
     have q14:=cellKC R1.out 14 rfl
     have f14:=fzR 14 R1.out
     refine onE (i:=8) rfl (fun K hK=>?_)
     go_simp
     have HR2:=hide (rowAll R1.out (.int .i64 win) (.string x.se) (.int .i64 g0.k) (.int .u64 g0.s) (.int .i64 g0.h) (.int .u64 g0.l) (.int .i64 g0.a) (.int .i64 g0.t) (.int .u64 g0.z) (.slice p0.pa g0.P.length p0.pc) (.slice p0.na g0.N.length p0.nc) (.int .i64 g0.x) (.int .u64 g0.y) (.slice p0.ea g0.E.length p0.ec) (.slice p0.ra g0.R.length p0.rc))
     have HB5:=hide (belowAll HBc.out hG.out (.int .i64 win) (.string x.se) (.int .i64 g0.k) (.int .u64 g0.s) (.int .i64 g0.h) (.int .u64 g0.l) (.int .i64 g0.a) (.int .i64 g0.t) (.int .u64 g0.z) (.slice p0.pa g0.P.length p0.pc) (.slice p0.na g0.N.length p0.nc) (.int .i64 g0.x) (.int .u64 g0.y) (.slice p0.ea g0.E.length p0.ec) (.slice p0.ra g0.R.length p0.rc))
     clear q0 f0 q1 f1 q2 f2 q3 f3 q4 f4 q5 f5 q6 f6 q7 f7 q8 f8 q9 f9 q10 f10 q11 f11 q12 f12 q13 f13 q14 f14
     refine hK.out _ _ (fun h=>absurd rfl h) ?_
     clear hK K
     try simp only [Act.put,sA,sB,sC]
     generalize (((((((((((((((Wa.setCell ⟨w2.heap.size,0,none⟩ (.int .i64 win)).setCell ⟨w2.heap.size,1,none⟩ (.string x.se)).setCell ⟨w2.heap.size,2,none⟩ (.int .i64 g0.k)).setCell ⟨w2.heap.size,3,none⟩ (.int .u64 g0.s)).setCell ⟨w2.heap.size,4,none⟩ (.int .i64 g0.h)).setCell ⟨w2.heap.size,5,none⟩ (.int .u64 g0.l)).setCell ⟨w2.heap.size,6,none⟩ (.int .i64 g0.a)).setCell ⟨w2.heap.size,7,none⟩ (.int .i64 g0.t)).setCell ⟨w2.heap.size,8,none⟩ (.int .u64 g0.z)).setCell ⟨w2.heap.size,9,none⟩ (.slice p0.pa g0.P.length p0.pc)).setCell ⟨w2.heap.size,10,none⟩ (.slice p0.na g0.N.length p0.nc)).setCell ⟨w2.heap.size,11,none⟩ (.int .i64 g0.x)).setCell ⟨w2.heap.size,12,none⟩ (.int .u64 g0.y)).setCell ⟨w2.heap.size,13,none⟩ (.slice p0.ea g0.E.length p0.ec)).setCell ⟨w2.heap.size,14,none⟩ (.slice p0.ra g0.R.length p0.rc))=W5 at HR2 HB5 ⊢
     refine doneK (by kernel_rfl) ?_ _
     go_wp2
     go_meet
     exact ⟨w2.heap.size,rfl,HR2,hG,HB5⟩
   case rest=>
    obtain ⟨G,rfl,RG,GG,BG⟩:=hcut
    obtain ⟨a1,a2,a3,a4,a5⟩:=agNew_all K1.out K4.out
    have HNw:Hid (agB g0=true∧AgOk g0∧AgSm g0∧g0.k=x.k∧∀ w B,AgO w B g0 p0):=by show _∧_;rw [HG.out,HPl.out];exact ⟨a1,a2,a3,a4,a5⟩
    clear a1 a2 a3 a4 a5
    go_upto_region 10 with fail
    have X9:=hide (row_pastP X2.out BG.out)
    obtain ⟨s0,s1,s2,s3,s4,s5,s6⟩:=cells7 X9.out
    have q2:=cellKC RG.out 2 rfl
    have q3:=cellKC RG.out 3 rfl
    have q4:=cellKC RG.out 4 rfl
    have q5:=cellKC RG.out 5 rfl
    have q6:=cellKC RG.out 6 rfl
    have q7:=cellKC RG.out 7 rfl
    have q8:=cellKC RG.out 8 rfl
    have q9:=cellKC RG.out 9 rfl
    have q10:=cellKC RG.out 10 rfl
    have q11:=cellKC RG.out 11 rfl
    have q12:=cellKC RG.out 12 rfl
    have q13:=cellKC RG.out 13 rfl
    have q14:=cellKC RG.out 14 rfl
    go_wp2_with fail
    clear s0 s1 s2 s3 s4 s5 s6 q2 q3 q4 q5 q6 q7 q8 q9 q10 q11 q12 q13 q14
    refine (c_s_l07Put x HNw.out.1 HX.out HNw.out.2.2.2.1 HNw.out.2.1 OX.out HNw.out.2.2.1 (HNw.out.2.2.2.2 w2 0).plgP (HNw.out.2.2.2.2 _ 0).at).mono ?_
    rintro e w4 ⟨v,o,rfl,hput,⟨q,rfl,hoo⟩,hb4⟩
    have R4:=hide (row_pastP RG.out hb4)
    have B4:=hide (BG.out.trans (hb4.mono BG.out.size))
    have HPut:=hide hput
    have HOo:=hide hoo
    have HOg:=hide (hoo.le (show G+1≤wc.heap.size from (Array.getElem?_eq_some_iff.1 RG.out).1))
    clear hput hoo hb4
    have q2:=cellKC R4.out 2 rfl
    have f2:=fzR 2 R4.out
    have q3:=cellKC R4.out 3 rfl
    have f3:=fzR 3 R4.out
    have q4:=cellKC R4.out 4 rfl
    have f4:=fzR 4 R4.out
    have q5:=cellKC R4.out 5 rfl
    have f5:=fzR 5 R4.out
    have q6:=cellKC R4.out 6 rfl
    have f6:=fzR 6 R4.out
    have q7:=cellKC R4.out 7 rfl
    have f7:=fzR 7 R4.out
    have q8:=cellKC R4.out 8 rfl
    have f8:=fzR 8 R4.out
    have q9:=cellKC R4.out 9 rfl
    have f9:=fzR 9 R4.out
    have q10:=cellKC R4.out 10 rfl
    have f10:=fzR 10 R4.out
    have q11:=cellKC R4.out 11 rfl
    have f11:=fzR 11 R4.out
    have q12:=cellKC R4.out 12 rfl
    have f12:=fzR 12 R4.out
    have q13:=cellKC R4.out 13 rfl
    have f13:=fzR 13 R4.out
    have q14:=cellKC R4.out 14 rfl
    have f14:=fzR 14 R4.out
    have R5:=hide (row15 (v0:=.int .i64 o.k) (v1:=.int .u64 o.s) (v2:=.int .i64 o.h) (v3:=.int .u64 o.l) (v4:=.int .i64 o.a) (v5:=.int .i64 o.t) (v6:=.int .u64 o.z) (v7:=.slice q.pa o.P.length q.pc) (v8:=.slice q.na o.N.length q.nc) (v9:=.int .i64 o.x) (v10:=.int .u64 o.y) (v11:=.slice q.ea o.E.length q.ec) (v12:=.slice q.ra o.R.length q.rc) R4.out)
    have B5:=hide (below13 B4.out GG.out (.int .i64 o.k) (.int .u64 o.s) (.int .i64 o.h) (.int .u64 o.l) (.int .i64 o.a) (.int .i64 o.t) (.int .u64 o.z) (.slice q.pa o.P.length q.pc) (.slice q.na o.N.length q.nc) (.int .i64 o.x) (.int .u64 o.y) (.slice q.ea o.E.length q.ec) (.slice q.ra o.R.length q.rc))
    go_upto_region 11 with fail
    clear q2 f2 q3 f3 q4 f4 q5 f5 q6 f6 q7 f7 q8 f8 q9 f9 q10 f10 q11 f11 q12 f12 q13 f13 q14 f14
    have O5:Hid (AgO (((((((((((((w4.setCell ⟨G,2,none⟩ (.int .i64 o.k)).setCell ⟨G,3,none⟩ (.int .u64 o.s)).setCell ⟨G,4,none⟩ (.int .i64 o.h)).setCell ⟨G,5,none⟩ (.int .u64 o.l)).setCell ⟨G,6,none⟩ (.int .i64 o.a)).setCell ⟨G,7,none⟩ (.int .i64 o.t)).setCell ⟨G,8,none⟩ (.int .u64 o.z)).setCell ⟨G,9,none⟩ (.slice q.pa o.P.length q.pc)).setCell ⟨G,10,none⟩ (.slice q.na o.N.length q.nc)).setCell ⟨G,11,none⟩ (.int .i64 o.x)).setCell ⟨G,12,none⟩ (.int .u64 o.y)).setCell ⟨G,13,none⟩ (.slice q.ea o.E.length q.ec)).setCell ⟨G,14,none⟩ (.slice q.ra o.R.length q.rc)) (G+1) o q):=HOg.out.kept15 (Nat.lt_succ_self _)
    generalize (((((((((((((w4.setCell ⟨G,2,none⟩ (.int .i64 o.k)).setCell ⟨G,3,none⟩ (.int .u64 o.s)).setCell ⟨G,4,none⟩ (.int .i64 o.h)).setCell ⟨G,5,none⟩ (.int .u64 o.l)).setCell ⟨G,6,none⟩ (.int .i64 o.a)).setCell ⟨G,7,none⟩ (.int .i64 o.t)).setCell ⟨G,8,none⟩ (.int .u64 o.z)).setCell ⟨G,9,none⟩ (.slice q.pa o.P.length q.pc)).setCell ⟨G,10,none⟩ (.slice q.na o.N.length q.nc)).setCell ⟨G,11,none⟩ (.int .i64 o.x)).setCell ⟨G,12,none⟩ (.int .u64 o.y)).setCell ⟨G,13,none⟩ (.slice q.ea o.E.length q.ec)).setCell ⟨G,14,none⟩ (.slice q.ra o.R.length q.rc))=W5 at R5 B5 O5 ⊢
    have q0:=cellKC R5.out 0 rfl
    have q1:=cellKC R5.out 1 rfl
    have q2:=cellKC R5.out 2 rfl
    have q3:=cellKC R5.out 3 rfl
    have q4:=cellKC R5.out 4 rfl
    have q5:=cellKC R5.out 5 rfl
    have q6:=cellKC R5.out 6 rfl
    have q7:=cellKC R5.out 7 rfl
    have q8:=cellKC R5.out 8 rfl
    have q9:=cellKC R5.out 9 rfl
    have q10:=cellKC R5.out 10 rfl
    have q11:=cellKC R5.out 11 rfl
    have q12:=cellKC R5.out 12 rfl
    have q13:=cellKC R5.out 13 rfl
    have q14:=cellKC R5.out 14 rfl
    have HRW:=hide (HRA.out.past B5.out)
    have HLA:Hid (A.length=k):=by show _=_;have:=congrArg List.length HKA.out;simp at this;have:=HTk.out;simp at this;omega
    have hzs:w.heap.size≤W5.heap.size:=Nat.le_trans HB2.out.size B5.out.size
    have HP1:=hide (fun v' w6=>put_one (c:=⟨win,x.se,o,q⟩) (v':=v') (w6:=w6) HRA.out HOA.out HB2.out B5.out GG.out O5.out)
    go_wp2_with (at_builtin;refine wpList_append_own _ rfl _ _ 30 rfl w.heap.size 81 i0 (.agg zeroCe) 15 192 Tryz.underlying30 hi hz0 hz1 hz2 rfl (by decide) _ _ _ rfl (World.ownsRow.alloc HRW.out _) ⟨W5.heap.size,0,none⟩ 1 1 (ceL ⟨win,x.se,o,q⟩) rfl rfl ?c1 ?c2 ?c3 ?c4 ?c5 ?_)
    case c1=>exact new_cellsC (c:=⟨win,x.se,o,q⟩)
    case c2=>exact ceL_one _
    case c3=>have:=HLA.out;unfold maxLen;omega
    case c4=>have:=HLA.out;omega
    case c5=>simp;omega
    intro v6 w6 hown6 hgrow6 hnil6
    obtain ⟨hr6,ho6,hb6⟩:=HP1.out v6 w6 hown6 hgrow6
    have HR6:=hide hr6
    have HO6:=hide ho6
    have HB6:=hide hb6
    clear hown6 hgrow6 hnil6 hr6 ho6 hb6 HP1 HRW HRA HOA O5 R5 B5 q0 q1 q2 q3 q4 q5 q6 q7 q8 q9 q10 q11 q12 q13 q14
    have HDl:Hid ((L.drop k).length=N - k):=by show _=_;rw [List.length_drop,II.out.hN]
    have ld:N - k≤1048576:=by have:=II.out.lN;omega
    have hz6:w.heap.size≤w6.heap.size:=HB6.out.size
    have D1:Hid (ca=k→CesAt w ao (L.drop k)):=fun e=>by have:=ces_drop (k:=k) (ca:=ca) II.out.mem (by have:=II.out.hN;omega);rw [if_pos e] at this;exact this
    have D2:Hid (ca≠k→CesAt w (ao.map (·.add (k*15))) (L.drop k)):=fun e=>by have:=ces_drop (k:=k) (ca:=ca) II.out.mem (by have:=II.out.hN;omega);rw [if_neg e] at this;exact this
    by_cases hck:ca=k
    ·have HCk:=hide (D1.out hck)
     go_wp2_with fail
     skip
     refine (c_l08CopyS (L:=L.drop k) HDl.out ld (fun d hd=>II.out.sm d (List.mem_of_mem_drop hd)) (fun d hd=>II.out.pl d (List.mem_of_mem_drop hd)) (ces_past HCk.out HB6.out)).mono ?_
     rintro e w7 ⟨vB,M,rfl,hrB,hoB,hkB,hb7,hnB⟩
     obtain ⟨gB,cB,rfl,hsB⟩:=hrB.src hnB
     have HSB:=hide hsB
     have HOB:=hide hoB
     have HKB:=hide hkB
     have HB7:=hide hb7
     have HLM:Hid (M.length=N - k):=(map_len hkB).trans HDl.out
     have HR7:=hide (HR6.out.past HB7.out)
     have hz7:w.heap.size≤w7.heap.size:=Nat.le_trans hz6 hb7.size
     have HP2:=hide (fun v'' w8=>put_fin (v'':=v'') (w8:=w8) HR6.out HO6.out hz6 HB6.out HB7.out HOB.out)
     clear hsB hoB hkB hb7 hrB hnB
     go_wp2_with (at_builtin;refine wpList_append_own _ rfl _ _ 30 rfl w.heap.size 81 i0 (.agg zeroCe) 15 192 Tryz.underlying30 hi hz0 hz1 hz2 rfl (by decide) _ _ _ rfl HR7.out ⟨gB,0,none⟩ M.length cB (flC M) rfl (flC_len M) HSB.out (flC_oneC M) ?c3 ?c4 hz7 ?_)
     case c3=>have:=HLA.out;have:=HLM.out;have:=II.out.lN;simp only [List.length_append,List.length_cons,List.length_nil];unfold maxLen;omega
     case c4=>have:=HLA.out;have:=HLM.out;have:=II.out.lN;simp only [List.length_append,List.length_cons,List.length_nil];omega
     intro v8 w8 hown8 hg8 hnil8
     obtain ⟨f1,f2,f3⟩:=HP2.out v8 w8 (by rw [List.length_append];exact hown8) hg8
     have F1:=hide f1
     have F2:=hide f2
     have F3:=hide f3
     clear f1 f2 f3 hown8 hg8 hnil8 HP2 HR7
     go_wp2
     go_ret2
     exact ⟨_,_,0,rfl,PuA.new o _ HNo.out (by have:=HF.out;have:=II.out.hN;omega) (HG.out ▸ HPut.out) (ptl_no AS.out HP.out HKA.out HKB.out),F1.out,F2.out,F3.out⟩
    ·have HCk:=hide (D2.out hck)
     go_wp2_with fail
     skip
     refine (c_l08CopyS (L:=L.drop k) HDl.out ld (fun d hd=>II.out.sm d (List.mem_of_mem_drop hd)) (fun d hd=>II.out.pl d (List.mem_of_mem_drop hd)) (ces_past HCk.out HB6.out)).mono ?_
     rintro e w7 ⟨vB,M,rfl,hrB,hoB,hkB,hb7,hnB⟩
     obtain ⟨gB,cB,rfl,hsB⟩:=hrB.src hnB
     have HSB:=hide hsB
     have HOB:=hide hoB
     have HKB:=hide hkB
     have HB7:=hide hb7
     have HLM:Hid (M.length=N - k):=(map_len hkB).trans HDl.out
     have HR7:=hide (HR6.out.past HB7.out)
     have hz7:w.heap.size≤w7.heap.size:=Nat.le_trans hz6 hb7.size
     have HP2:=hide (fun v'' w8=>put_fin (v'':=v'') (w8:=w8) HR6.out HO6.out hz6 HB6.out HB7.out HOB.out)
     clear hsB hoB hkB hb7 hrB hnB
     go_wp2_with (at_builtin;refine wpList_append_own _ rfl _ _ 30 rfl w.heap.size 81 i0 (.agg zeroCe) 15 192 Tryz.underlying30 hi hz0 hz1 hz2 rfl (by decide) _ _ _ rfl HR7.out ⟨gB,0,none⟩ M.length cB (flC M) rfl (flC_len M) HSB.out (flC_oneC M) ?c3 ?c4 hz7 ?_)
     case c3=>have:=HLA.out;have:=HLM.out;have:=II.out.lN;simp only [List.length_append,List.length_cons,List.length_nil];unfold maxLen;omega
     case c4=>have:=HLA.out;have:=HLM.out;have:=II.out.lN;simp only [List.length_append,List.length_cons,List.length_nil];omega
     intro v8 w8 hown8 hg8 hnil8
     obtain ⟨f1,f2,f3⟩:=HP2.out v8 w8 (by rw [List.length_append];exact hown8) hg8
     have F1:=hide f1
     have F2:=hide f2
     have F3:=hide f3
     clear f1 f2 f3 hown8 hg8 hnil8 HP2 HR7
     go_wp2
     go_ret2
     exact ⟨_,_,0,rfl,PuA.new o _ HNo.out (by have:=HF.out;have:=II.out.hN;omega) (HG.out ▸ HPut.out) (ptl_no AS.out HP.out HKA.out HKB.out),F1.out,F2.out,F3.out⟩
theorem PuA.told {nm:ByteArray} {L R:List Ce} {win code:Int} {x:Sx} (h:shB nm L=true∧x.B=true∧winB win=true) (p:PuA L win x R code):(code=0∧PtA nm L win x nm R 0)∨(code≠0∧R=[]∧PtA nm L win x ⟨#[]⟩ [] code):=by
 cases p with
 | kind c hc k1 k2 hk=>exact .inr ⟨by decide,rfl,.kind c h hc k1 k2 hk⟩
 | there c o R hc k1 k2 hk hp hR=>exact .inl ⟨rfl,.there c o R h hc k1 k2 hk hp hR⟩
 | full hn hl=>exact .inr ⟨by decide,rfl,.full h hn hl⟩
 | new o R hn hl hp hR=>exact .inl ⟨rfl,.new o R h hn hl hp hR⟩
end Go.Proofs.YtiiclgcpagdekaaGreatDoor
