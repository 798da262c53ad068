/-
 Copies of cells and shards as the exact laws make them: they own their memory, each its own.
-/
import Derived.Test.YtiiclgcpagdekaaGreatDoorSCQ
import Derived.Test.YtiiclgcpagdekaaGreatDoorSCN
namespace Go.Proofs.YtiiclgcpagdekaaGreatDoor
set_option linter.unusedVariables false
set_option linter.unusedSimpArgs false
open Go.ChangeShapes Go.WideShapes Go.ChangeAt Go.RowKit Go.PlainAid Go.Lib
set_option maxRecDepth 10000
structure CeRowX (w:World) (g N:Nat) (M:List Ce):Prop where
 row:∃ cur:Array Value,w.heap[g]?=some (.cells cur 81 (0,0))∧cur.size=N*15∧∀ i c,M[i]?=some c→∀ j v,(ceArr c)[j]?=some v→cur[i*15+j]?=some v
 own:∀ c∈M,AgO w (g+1) c.g c.p
 ap:M.Pairwise ApC
theorem CeRowX.past {w w':World} {g N:Nat} {M:List Ce} (h:CeRowX w g N M) (hb:Below w.heap.size w w'):CeRowX w' g N M:=by
 obtain ⟨cur,h1,h2,h3⟩:=h.row
 exact ⟨⟨cur,(hb.block g (Array.getElem?_eq_some_iff.1 h1).1).trans h1,h2,h3⟩,fun c hc=>(h.own c hc).past hb,h.ap⟩
theorem CeRowX.below {w:World} {g N r j:Nat} {M:List Ce} (h:CeRowX w g N M) (hr:r<g) (u:Value):CeRowX (w.setCell ⟨r,j,none⟩ u) g N M:=by
 obtain ⟨cur,h1,h2,h3⟩:=h.row
 exact ⟨⟨cur,by rw [heap_setCell_other _ _ _ _ (by simp;omega)];exact h1,h2,h3⟩,fun c hc=>(h.own c hc).below (by omega) u,h.ap⟩
theorem CeRowX.own_all {w:World} {g N:Nat} {M:List Ce} (h:CeRowX w g N M) (hN:M.length=N) (hl:N≤1048576):OwnC w g (.slice (some ⟨g,0,none⟩) N N) M∧CesO w g M:=by
 obtain ⟨cur,h1,h2,h3⟩:=h.row
 refine ⟨?_,fun c hc=>(h.own c hc).le (Nat.le_succ _),h.ap⟩
 refine ⟨by rw [flC_len],.inr ⟨g,N,cur,by rw [hN],Nat.le_refl _,h1,by omega,by unfold maxLen;omega,h2,?_⟩⟩
 apply List.ext_getElem?
 intro j
 by_cases hj:j<M.length*15
 ·rw [List.getElem?_take_of_lt hj,Array.getElem?_toList]
  have hi:j / 15<M.length:=by omega
  obtain ⟨c,hc⟩:∃ c,M[j / 15]?=some c:=⟨_,List.getElem?_eq_getElem hi⟩
  have q1:=flC_at M (j / 15) c (j % 15) (by omega) hc
  rw [show j / 15*15+j % 15=j by omega] at q1
  obtain ⟨v,hv⟩:∃ v,(ceArr c)[j % 15]?=some v:=⟨(ceArr c)[j % 15]'(by show j % 15<15;omega),Array.getElem?_eq_getElem _⟩
  have q2:=h3 (j / 15) c hc (j % 15) v hv
  rw [show j / 15*15+j % 15=j by omega] at q2
  rw [q2,q1]
  show _=(ceArr c).toList[j % 15]?
  rw [Array.getElem?_toList,hv]
 ·rw [List.getElem?_eq_none (by simp;omega),List.getElem?_eq_none (by rw [flC_len];omega)]
theorem CeRowX.put {w:World} {g N:Nat} {M:List Ce} (h:CeRowX w g N M) {c:Ce} {q:Pl} (hN:M.length<N) (ho:AgO w (g+1) c.g q) (hf:∀ d∈M,ApC d ⟨c.n,c.s,c.g,q⟩) :
  CeRowX (((((((((((((((w.setCell ⟨g,M.length*15,none⟩ (.int .i64 c.n)).setCell ⟨g,M.length*15+1,none⟩ (.string c.s)).setCell ⟨g,M.length*15+2,none⟩ (.int .i64 c.g.k)).setCell ⟨g,M.length*15+3,none⟩ (.int .u64 c.g.s)).setCell ⟨g,M.length*15+4,none⟩ (.int .i64 c.g.h)).setCell ⟨g,M.length*15+5,none⟩ (.int .u64 c.g.l)).setCell ⟨g,M.length*15+6,none⟩ (.int .i64 c.g.a)).setCell ⟨g,M.length*15+7,none⟩ (.int .i64 c.g.t)).setCell ⟨g,M.length*15+8,none⟩ (.int .u64 c.g.z)).setCell ⟨g,M.length*15+9,none⟩ (.slice q.pa c.g.P.length q.pc)).setCell ⟨g,M.length*15+10,none⟩ (.slice q.na c.g.N.length q.nc)).setCell ⟨g,M.length*15+11,none⟩ (.int .i64 c.g.x)).setCell ⟨g,M.length*15+12,none⟩ (.int .u64 c.g.y)).setCell ⟨g,M.length*15+13,none⟩ (.slice q.ea c.g.E.length q.ec)).setCell ⟨g,M.length*15+14,none⟩ (.slice q.ra c.g.R.length q.rc)) g N (M ++ [⟨c.n,c.s,c.g,q⟩]):=by
 obtain ⟨cur,h1,h2,h3⟩:=h.row
 obtain ⟨cur',k1,k2,k3⟩:=heap_setCellsC (e:=81) (ceArr ⟨c.n,c.s,c.g,q⟩).toList (M.length*15) w cur h1
 have hap:(M ++ [(⟨c.n,c.s,c.g,q⟩:Ce)]).Pairwise ApC:=List.pairwise_append.2 ⟨h.ap,List.pairwise_singleton _ _,fun a ha b hb=>by
  rw [List.mem_singleton.1 hb];exact hf a ha⟩
 refine ⟨⟨cur',k1,by rw [k2];exact h2,fun i d hd j v e=>?_⟩,fun d hd=>?_,hap⟩
 ·have hj:j<15:=(Array.getElem?_eq_some_iff.1 e).1
  rw [k3]
  rw [List.getElem?_append] at hd
  split at hd
  ·rename_i hi
   rw [if_neg (by simp;omega)]
   exact h3 i d hd j v e
  ·rename_i hi
   have hi2:i - M.length=0:=by
    have:=(List.getElem?_eq_some_iff.1 hd).1
    simp at this;omega
   rw [hi2] at hd
   simp at hd
   subst hd
   rw [if_pos ⟨by omega,by simp;omega,by omega⟩,show i*15+j - M.length*15=j by omega]
   simpa using e
 ·repeat (refine AgO.below ?_ (Nat.lt_succ_self _) _)
  rcases List.mem_append.1 hd with hd | hd
  ·exact h.own d hd
  ·simp at hd;subst hd;exact ho
set_option maxHeartbeats 4000000 in
theorem c_toCellX {w:World} (c:Ce) (sm:AgSm c.g) (hA:AgAt w c.g c.p) :
  Calls Tryz.prog 61 #[.agg (ceArr c)] w fun e w'=>∃ q,e=.returned (.agg (ceArr ⟨c.n,c.s,c.g,q⟩))∧AgO w' w.heap.size c.g q∧Below w.heap.size w w':=by
 have HA:=hide hA
 have SM:=hide sm
 have HBa:Hid (∀ o1 o2 o3,Below w.heap.size w (((w.alloc o1).alloc o2).alloc o3)):=fun o1 o2 o3=>(((Below.refl _ _).alloc (Nat.le_refl _) _).alloc (by simp) _).alloc (by simp;omega) _
 clear hA sm
 go_enter Tryz.func61,Tryz.ntmps61
 go_wp2_with fail
 refine (c_toAgg SM.out (ag_past HA.out (HBa.out _ _ _))).mono ?_
 rintro e w1 ⟨gp,gn,ge,gr,rfl,_,hpn,_,_,_,ow,hb1⟩
 replace ow:=ow.o hpn
 have hres:=(hb1.block (w.heap.size+1) (by simp)).trans (by rw [heap_alloc_old _ _ (by simp)];simpa using heap_alloc_new (w.alloc (.cells (ceArr c) 110)) (.cells zeroCe 81):_=some (.cells zeroCe 81 (0,0)))
 have hout:=(hb1.block (w.heap.size+1+1) (by simp)).trans (by simpa using heap_alloc_new ((w.alloc (.cells (ceArr c) 110)).alloc (.cells zeroCe 81)) (.cells #[.int .i64 c.n,.string c.s,.int .i64 0,.int .u64 0,.int .i64 0,.int .u64 0,.int .i64 0,.int .i64 0,.int .u64 0,.slice none 0 0,.slice none 0 0,.int .i64 0,.int .u64 0,.slice none 0 0,.slice none 0 0] 81):_=some (.cells #[.int .i64 c.n,.string c.s,.int .i64 0,.int .u64 0,.int .i64 0,.int .u64 0,.int .i64 0,.int .i64 0,.int .u64 0,.slice none 0 0,.slice none 0 0,.int .i64 0,.int .u64 0,.slice none 0 0,.slice none 0 0] 81 (0,0)))
 have HT1:=hide ((HBa.out _ _ _).trans (hb1.mono (by simp;omega)))
 obtain ⟨q,hq⟩:∃ q,plNew c.g gp gn ge gr=q:=⟨_,rfl⟩
 have eq0:Value.agg (agArr c.g (plNew c.g gp gn ge gr))=.agg (agArr c.g q):=by rw [hq]
 rw [hq] at ow
 rw [eq0]
 have HO:=hide ow
 have hsz:=hb1.size
 simp only [World.size_alloc] at HO hsz
 have a0:=cellKC hout 0 rfl
 have b0:=fzR 0 hout
 have c0:=cellKC hres 0 rfl
 have d0:=fzR 0 hres
 have a1:=cellKC hout 1 rfl
 have b1:=fzR 1 hout
 have c1:=cellKC hres 1 rfl
 have d1:=fzR 1 hres
 have a2:=cellKC hout 2 rfl
 have b2:=fzR 2 hout
 have c2:=cellKC hres 2 rfl
 have d2:=fzR 2 hres
 have a3:=cellKC hout 3 rfl
 have b3:=fzR 3 hout
 have c3:=cellKC hres 3 rfl
 have d3:=fzR 3 hres
 have a4:=cellKC hout 4 rfl
 have b4:=fzR 4 hout
 have c4:=cellKC hres 4 rfl
 have d4:=fzR 4 hres
 have a5:=cellKC hout 5 rfl
 have b5:=fzR 5 hout
 have c5:=cellKC hres 5 rfl
 have d5:=fzR 5 hres
 have a6:=cellKC hout 6 rfl
 have b6:=fzR 6 hout
 have c6:=cellKC hres 6 rfl
 have d6:=fzR 6 hres
 have a7:=cellKC hout 7 rfl
 have b7:=fzR 7 hout
 have c7:=cellKC hres 7 rfl
 have d7:=fzR 7 hres
 have a8:=cellKC hout 8 rfl
 have b8:=fzR 8 hout
 have c8:=cellKC hres 8 rfl
 have d8:=fzR 8 hres
 have a9:=cellKC hout 9 rfl
 have b9:=fzR 9 hout
 have c9:=cellKC hres 9 rfl
 have d9:=fzR 9 hres
 have a10:=cellKC hout 10 rfl
 have b10:=fzR 10 hout
 have c10:=cellKC hres 10 rfl
 have d10:=fzR 10 hres
 have a11:=cellKC hout 11 rfl
 have b11:=fzR 11 hout
 have c11:=cellKC hres 11 rfl
 have d11:=fzR 11 hres
 have a12:=cellKC hout 12 rfl
 have b12:=fzR 12 hout
 have c12:=cellKC hres 12 rfl
 have d12:=fzR 12 hres
 have a13:=cellKC hout 13 rfl
 have b13:=fzR 13 hout
 have c13:=cellKC hres 13 rfl
 have d13:=fzR 13 hres
 have a14:=cellKC hout 14 rfl
 have b14:=fzR 14 hout
 have c14:=cellKC hres 14 rfl
 have d14:=fzR 14 hres
 clear hres hout hb1 ow hq eq0
 go_wp2
 refine bodyPost_ret (v:=.agg (ceArr ⟨c.n,c.s,c.g,q⟩)) (by simp [results,Tryz.results61,go_sem,c0,c1,c2,c3,c4,c5,c6,c7,c8,c9,c10,c11,c12,c13,c14]) rfl ⟨q,rfl,?_,?_⟩
 ·refine AgO.le (B:=w.heap.size+1+1+1) ?_ (by omega)
  repeat (refine AgO.below ?_ (by omega) _)
  exact HO.out
 ·repeat (refine Below.setCell ?_ (by simp <;> omega) _)
  exact HT1.out
set_option maxHeartbeats 4000000 in
theorem c_toCellSX {w:World} {ao:Option Addr} {N:Nat} {L:List Ce} (cap:Nat) (hN:L.length=N) (hl:N≤1048576) (sm:∀ c∈L,AgSm c.g) (hA:CesAt w ao L) :
  Calls Tryz.prog 22 #[.slice ao N cap] w fun e w'=>∃ M,e=.returned (.slice (some ⟨w.heap.size,0,none⟩) N N)∧M.length=N∧M.map Ce.key=L.map Ce.key∧CeRowX w' w.heap.size N M∧Below w.heap.size w w':=by
 obtain ⟨i0,hi,hz0,hz1,hz2⟩:=info_parts infoCell
 have HN:=hide hN
 have SM:=hide sm
 have HA:=hide hA
 clear hN sm hA
 go_enter Tryz.func22,Tryz.ntmps22
 go_wp2_with (at_make;refine wpList_make_full _ rfl _ _ 30 rfl w.heap.size 81 i0 (.agg zeroCe) 15 Tryz.underlying30 hi hz0 hz1 .i64 .i64 _ _ N rfl rfl rfl rfl (by rw [hz2];omega) (by unfold maxLen;omega) (Nat.le_refl _) ?_;intro w0 hown0 hgrow0)
 have hB0:Below w.heap.size w w0:=(Below.refl _ _).grown hgrow0 (Nat.le_refl _) (fun k e=>by cases e)
 have hR0:CeRowX w0 w.heap.size N []:=by
  rcases hown0.2 with ⟨e,_⟩ | ⟨g',cap',cur,e,_,hg',_,_,hcs,htake⟩
  ·cases e
  ·simp only [Value.slice.injEq,Option.some.injEq,Addr.mk.injEq,and_true,true_and] at e
   obtain ⟨rfl,rfl⟩:=e
   exact ⟨⟨cur,hg',by omega,fun i c hc=>by simp at hc⟩,(fun c hc=>by simp at hc),.nil⟩
 have HB0:=hide hB0
 have HR0:=hide hR0
 clear hown0 hgrow0 hB0 hR0
 go_wp2
 go_loopw [4] (fun i wr=>∃ (k:Nat) (M:List Ce),k≤N∧i=.int .i64 k∧Hid (M.length=k)∧Hid (M.map Ce.key=(L.take k).map Ce.key)∧Hid (CeRowX wr w.heap.size N M)∧Hid (Below w.heap.size w wr)) (fun i wr=>N - (Go.RowKit.intOf i).toNat)
 case atStart=>exact ⟨0,[],Nat.zero_le _,rfl,hide rfl,hide (by simp),HR0,HB0⟩
 case round=>
  clear HR0 HB0
  obtain ⟨k,M,hk,rfl,HMl,HMk,HR,HB⟩:=hrel
  by_cases hkn:k<N
  ·have hkni:(k:Int)<(N:Int):=by omega
   obtain ⟨b,off,e,hcell⟩:=HA.out.1 (by have:=HN.out;omega)
   subst e
   obtain ⟨c,hc⟩:∃ c,L[k]?=some c:=⟨L[k]'(by have:=HN.out;omega),List.getElem?_eq_getElem _⟩
   have hm:=List.mem_of_getElem? hc
   obtain ⟨x0,x1,x2,x3,x4,x5,x6,x7,x8,x9,x10,x11,x12,x13,x14⟩:=cec_past (hcell k c hc) HB.out
   have HC:=hide hc
   have HM:=hide hm
   clear hcell hc hm
   go_wp2_with fail
   clear x0 x1 x2 x3 x4 x5 x6 x7 x8 x9 x10 x11 x12 x13 x14
   refine (c_toCellX c (SM.out c HM.out) (ag_past (HA.out.2 c HM.out) HB.out)).mono ?_
   rintro e w1 ⟨q,rfl,ho,hb1⟩
   have hR1:=HR.out.past hb1
   have hgs:w.heap.size<wr.heap.size:=by
    obtain ⟨cur,h1,_⟩:=HR.out.row
    exact (Array.getElem?_eq_some_iff.1 h1).1
   obtain ⟨cur,r1,r2,r3⟩:=hR1.row
   have hP:=hR1.put (c:=c) (q:=q) (by rw [HMl.out];exact hkn) (ho.le (by omega)) (fun d hd k q1 q2=>by
    have f1:=((HR.out.own d hd).lt q1).2
    have f2:=(ho.lt q2).1
    omega)
   rw [HMl.out] at hP
   have HP:=hide hP
   have HT1:=hide (chain HB.out hb1)
   have HK2:Hid ((M ++ [(⟨c.n,c.s,c.g,q⟩:Ce)]).map Ce.key=(L.take (k+1)).map Ce.key):=by
    rw [List.take_add_one,HC.out,List.map_append,List.map_append,HMk.out];exact hide rfl
   have HL2:Hid ((M ++ [(⟨c.n,c.s,c.g,q⟩:Ce)]).length=k+1):=by rw [List.length_append,HMl.out];exact hide rfl
   obtain ⟨z0,hz0'⟩:∃ z,w1.cell? ⟨w.heap.size,k*15,none⟩=some z:=⟨cur[k*15]'(by omega),by rw [cell_of_row _ _ _ _ _ (0,0) r1,Array.getElem?_eq_getElem]⟩
   have f0:=fzR (k*15) r1
   obtain ⟨z1,hz1'⟩:∃ z,w1.cell? ⟨w.heap.size,k*15+1,none⟩=some z:=⟨cur[k*15+1]'(by omega),by rw [cell_of_row _ _ _ _ _ (0,0) r1,Array.getElem?_eq_getElem]⟩
   have f1:=fzR (k*15+1) r1
   obtain ⟨z2,hz2'⟩:∃ z,w1.cell? ⟨w.heap.size,k*15+2,none⟩=some z:=⟨cur[k*15+2]'(by omega),by rw [cell_of_row _ _ _ _ _ (0,0) r1,Array.getElem?_eq_getElem]⟩
   have f2:=fzR (k*15+2) r1
   obtain ⟨z3,hz3'⟩:∃ z,w1.cell? ⟨w.heap.size,k*15+3,none⟩=some z:=⟨cur[k*15+3]'(by omega),by rw [cell_of_row _ _ _ _ _ (0,0) r1,Array.getElem?_eq_getElem]⟩
   have f3:=fzR (k*15+3) r1
   obtain ⟨z4,hz4'⟩:∃ z,w1.cell? ⟨w.heap.size,k*15+4,none⟩=some z:=⟨cur[k*15+4]'(by omega),by rw [cell_of_row _ _ _ _ _ (0,0) r1,Array.getElem?_eq_getElem]⟩
   have f4:=fzR (k*15+4) r1
   obtain ⟨z5,hz5'⟩:∃ z,w1.cell? ⟨w.heap.size,k*15+5,none⟩=some z:=⟨cur[k*15+5]'(by omega),by rw [cell_of_row _ _ _ _ _ (0,0) r1,Array.getElem?_eq_getElem]⟩
   have f5:=fzR (k*15+5) r1
   obtain ⟨z6,hz6'⟩:∃ z,w1.cell? ⟨w.heap.size,k*15+6,none⟩=some z:=⟨cur[k*15+6]'(by omega),by rw [cell_of_row _ _ _ _ _ (0,0) r1,Array.getElem?_eq_getElem]⟩
   have f6:=fzR (k*15+6) r1
   obtain ⟨z7,hz7'⟩:∃ z,w1.cell? ⟨w.heap.size,k*15+7,none⟩=some z:=⟨cur[k*15+7]'(by omega),by rw [cell_of_row _ _ _ _ _ (0,0) r1,Array.getElem?_eq_getElem]⟩
   have f7:=fzR (k*15+7) r1
   obtain ⟨z8,hz8'⟩:∃ z,w1.cell? ⟨w.heap.size,k*15+8,none⟩=some z:=⟨cur[k*15+8]'(by omega),by rw [cell_of_row _ _ _ _ _ (0,0) r1,Array.getElem?_eq_getElem]⟩
   have f8:=fzR (k*15+8) r1
   obtain ⟨z9,hz9'⟩:∃ z,w1.cell? ⟨w.heap.size,k*15+9,none⟩=some z:=⟨cur[k*15+9]'(by omega),by rw [cell_of_row _ _ _ _ _ (0,0) r1,Array.getElem?_eq_getElem]⟩
   have f9:=fzR (k*15+9) r1
   obtain ⟨z10,hz10'⟩:∃ z,w1.cell? ⟨w.heap.size,k*15+10,none⟩=some z:=⟨cur[k*15+10]'(by omega),by rw [cell_of_row _ _ _ _ _ (0,0) r1,Array.getElem?_eq_getElem]⟩
   have f10:=fzR (k*15+10) r1
   obtain ⟨z11,hz11'⟩:∃ z,w1.cell? ⟨w.heap.size,k*15+11,none⟩=some z:=⟨cur[k*15+11]'(by omega),by rw [cell_of_row _ _ _ _ _ (0,0) r1,Array.getElem?_eq_getElem]⟩
   have f11:=fzR (k*15+11) r1
   obtain ⟨z12,hz12'⟩:∃ z,w1.cell? ⟨w.heap.size,k*15+12,none⟩=some z:=⟨cur[k*15+12]'(by omega),by rw [cell_of_row _ _ _ _ _ (0,0) r1,Array.getElem?_eq_getElem]⟩
   have f12:=fzR (k*15+12) r1
   obtain ⟨z13,hz13'⟩:∃ z,w1.cell? ⟨w.heap.size,k*15+13,none⟩=some z:=⟨cur[k*15+13]'(by omega),by rw [cell_of_row _ _ _ _ _ (0,0) r1,Array.getElem?_eq_getElem]⟩
   have f13:=fzR (k*15+13) r1
   obtain ⟨z14,hz14'⟩:∃ z,w1.cell? ⟨w.heap.size,k*15+14,none⟩=some z:=⟨cur[k*15+14]'(by omega),by rw [cell_of_row _ _ _ _ _ (0,0) r1,Array.getElem?_eq_getElem]⟩
   have f14:=fzR (k*15+14) r1
   clear r1 r2 r3 hR1 ho hb1 hP hgs
   go_wp2
   go_roundw
   case rel=>exact ⟨k+1,_,by omega,by go_num,HL2,HK2,HP,by
    repeat (refine Below.setCell ?_ (by simp) _)
    exact HT1.out⟩
   case measure=>simp [Go.RowKit.intOf];omega
  ·obtain rfl:N=k:=by omega
   have HK2:Hid (M.map Ce.key=L.map Ce.key):=by
    have:=HMk.out
    rw [List.take_of_length_le (by have:=HN.out;omega)] at this
    exact this
   go_wp2
   go_ret
   exact ⟨M,rfl,HMl.out,HK2.out,HR.out,HB.out⟩
set_option maxHeartbeats 1000000 in
theorem c_toShardX {w:World} {ao:Option Addr} {N:Nat} {L:List Ce} (nm:ByteArray) (cap:Nat) (hN:L.length=N) (hl:N≤1048576) (sm:∀ c∈L,AgSm c.g) (hA:CesAt w ao L) :
  Calls Tryz.prog 12 #[.agg #[.string nm,.slice ao N cap]] w fun e w'=>∃ M g,e=.returned (.agg #[.string nm,.slice (some ⟨g,0,none⟩) N N])∧w.heap.size<g∧M.length=N∧M.map Ce.key=L.map Ce.key∧CeRowX w' g N M∧Below w.heap.size w w':=by
 have HN:=hide hN
 have HA:=hide hA
 have SM:=hide sm
 clear hN hA sm
 go_enter Tryz.func12,Tryz.ntmps12
 go_wp2_with fail
 obtain ⟨HS,HT0,HR1,HR2⟩:=sh_three w nm (.slice ao N cap)
 generalize ((w.alloc (.cells #[.string nm,.slice ao N cap] 24)).alloc (.cells #[.string ⟨#[]⟩,.slice none 0 0] 32)).alloc (.cells #[.string nm,.slice none 0 0] 32)=W0 at HS HT0 HR1 HR2 ⊢
 refine (c_toCellSX cap HN.out hl SM.out (ces_past HA.out HT0.out)).mono ?_
 rintro e w1 ⟨M,rfl,hM,hk,hr,hb1⟩
 have hs1:=hb1.size
 have R1:=(hb1.block (w.heap.size+1) (by have:=HS.out;omega)).trans HR1.out
 have R2:=(hb1.block (w.heap.size+1+1) (by have:=HS.out;omega)).trans HR2.out
 have hz1:W0.heap.size=w.heap.size+1+1+1:=HS.out
 have HQ:=hide (And.intro hM (And.intro hk hr))
 have HT1:=hide (chain HT0.out hb1)
 have x0:=cellKC R1 0 rfl
 have x1:=cellKC R1 1 rfl
 have y0:=cellKC R2 0 rfl
 have y1:=cellKC R2 1 rfl
 have f0:=fzR 0 R1
 have f1:=fzR 1 R1
 have g0:=fzR 0 R2
 have g1:=fzR 1 R2
 clear hb1 hM hk hr R1 R2
 go_wp2
 refine bodyPost_ret (v:=.agg #[.string nm,.slice (some ⟨W0.heap.size,0,none⟩) N N]) (by simp [results,Tryz.results12,go_sem,x0,x1,y0,y1]) rfl ⟨M,W0.heap.size,rfl,by omega,HQ.out.1,HQ.out.2.1,?_,?_⟩
 ·repeat (refine CeRowX.below ?_ (by omega) _)
  exact HQ.out.2.2
 ·repeat (refine Below.setCell ?_ (by simp <;> omega) _)
  exact HT1.out
abbrev shV (nm:ByteArray) (vr vo:Value) (code:Int):Array Value:=#[.string nm,vr,vo,.int .i64 code]
theorem box_so (w:World) (a b:Array Value) (T:TypeId):Hid (Below w.heap.size w ((w.alloc (.cells a T)).alloc (.cells b T)))∧Hid (∀ W,Below ((w.alloc (.cells a T)).alloc (.cells b T)).heap.size ((w.alloc (.cells a T)).alloc (.cells b T)) W→W.heap[w.heap.size]?=some (.cells a T (0,0))∧W.heap[w.heap.size+1]?=some (.cells b T (0,0))):=by
 have a1:∀ (X:World) o,Below X.heap.size X (X.alloc o):=fun X o=>(Below.refl _ _).alloc (Nat.le_refl _) _
 have k0:=heap_alloc_new w (.cells a T)
 have k1:=heap_alloc_new (w.alloc (.cells a T)) (.cells b T)
 simp only [World.size_alloc] at k1
 exact ⟨hide (chain (a1 _ _) (a1 _ _)),hide (fun W hW=>⟨(hW.block _ (by simp;omega)).trans (((a1 _ _).block _ (by simp)).trans k0),(hW.block _ (by simp)).trans k1⟩)⟩
set_option maxHeartbeats 4000000 in
theorem c_eqShardOut {w:World} {ar ap br bp:Option Addr} {n1 n2 c1 c2 d1 d2:Nat} {R O R' O':List Ce} (nm:ByteArray) (code:Int) (hR:R.length=n1) (hR':R'.length=n1) (hO:O.length=n2) (hO':O'.length=n2) (kR:R.map Ce.key=R'.map Ce.key) (kO:O.map Ce.key=O'.map Ce.key) (l1:n1≤1048576) (l2:n2≤1048576) (s1:∀ c∈R,AgSm c.g) (s2:∀ c∈O,AgSm c.g) (aR:CesAt w ar R) (aO:CesAt w ap O) (bR:CesAt w br R') (bO:CesAt w bp O') :
  Calls Tryz.prog 15 #[.agg #[.string nm,.slice ar n1 c1,.slice ap n2 c2,.int .i64 code],.agg #[.string nm,.slice br n1 d1,.slice bp n2 d2,.int .i64 code]] w fun e w'=>e=.returned (.bool true)∧Below w.heap.size w w':=by
 obtain ⟨HT0,HX⟩:=box_so w #[.string nm,.slice ar n1 c1,.slice ap n2 c2,.int .i64 code] #[.string nm,.slice br n1 d1,.slice bp n2 d2,.int .i64 code] 34
 have H:=hide (And.intro (And.intro hR hR') (And.intro hO hO'))
 have K:=hide (And.intro kR kO)
 have S1:=hide s1
 have S2:=hide s2
 have AR:=hide aR
 have AO:=hide aO
 have BR:=hide bR
 have BO:=hide bO
 clear hR hR' hO hO' kR kO s1 s2 aR aO bR bO
 have x0:=cellKC (HX.out _ (Below.refl _ _)).1 0 rfl
 have x1:=cellKC (HX.out _ (Below.refl _ _)).1 1 rfl
 have y0:=cellKC (HX.out _ (Below.refl _ _)).2 0 rfl
 have y1:=cellKC (HX.out _ (Below.refl _ _)).2 1 rfl
 go_enter Tryz.func15,Tryz.ntmps15
 go_wp2_with fail
 clear x0 x1 y0 y1
 generalize (w.alloc (.cells #[.string nm,.slice ar n1 c1,.slice ap n2 c2,.int .i64 code] 34)).alloc (.cells #[.string nm,.slice br n1 d1,.slice bp n2 d2,.int .i64 code] 34)=W0 at HT0 HX ⊢
 refine (c_eqShard nm H.out.1.1 H.out.1.2 K.out.1 l1 S1.out (ces_past AR.out HT0.out) (ces_past BR.out HT0.out)).mono ?_
 rintro e w1 ⟨rfl,hb1⟩
 have HT1:=hide (chain HT0.out hb1)
 have HX1:=hide hb1
 clear hb1
 have x2:=cellKC (HX.out _ HX1.out).1 2 rfl
 have y2:=cellKC (HX.out _ HX1.out).2 2 rfl
 go_wp2_with fail
 clear x2 y2
 refine (c_eqCellS H.out.2.1 H.out.2.2 K.out.2 l2 S2.out (ces_past AO.out HT1.out) (ces_past BO.out HT1.out)).mono ?_
 rintro e w2 ⟨rfl,hb2⟩
 have HT2:=hide (chain HT1.out hb2)
 have x3:=cellKC (HX.out _ (chain HX1.out hb2)).1 3 rfl
 have y3:=cellKC (HX.out _ (chain HX1.out hb2)).2 3 rfl
 clear hb2
 go_wp2
 go_ret
 exact ⟨rfl,HT2.out⟩
set_option maxHeartbeats 2000000 in
theorem c_markShard {w:World} {B N cp:Nat} {ao:Option Addr} {L:List Ce} (nm:ByteArray) (k0:Nat) (h0:1≤k0) (hk:k0+totC L≤50000000) (hN:L.length=N) (lN:N≤1048576) (sm:∀ c∈L,AgSm c.g) (hR:OwnC w B (.slice ao N cp) L) (hO:CesO w B L) :
  Calls Tryz.prog 17 #[.agg #[.string nm,.slice ao N cp],.int .i64 k0] w fun e w'=>e=.returned (.int .i64 ((k0+totC L:Nat):Int))∧MkS w w' B (.slice ao N cp) L (mkCs k0 L):=by
 have HB0:Hid (Below w.heap.size w (w.alloc (.cells #[.string nm,.slice ao N cp] 32))):=(Below.refl _ _).alloc (Nat.le_refl _) _
 have HC:=hide (c_markCellS (w:=w.alloc (.cells #[.string nm,.slice ao N cp] 32)) k0 h0 hk hN lN sm (hR.past HB0.out) (hO.past HB0.out))
 clear hR hO sm
 go_enter Tryz.func17,Tryz.ntmps17
 go_wp2_with fail
 refine HC.out.mono ?_
 rintro e w1 ⟨rfl,hM⟩
 have HM:Hid (MkS w w1 B (.slice ao N cp) L (mkCs k0 L)):=⟨hM.r,hM.o,((GrownS.ofBelow HB0.out).trans hM.g).weak (fun k q=>q.elim (fun f=>f.elim) id)⟩
 clear hM HC
 go_wp2
 go_ret
 exact ⟨rfl,HM.out⟩
set_option maxHeartbeats 2000000 in
theorem c_heldShard {w:World} {B N cp:Nat} {ao:Option Addr} {L:List Ce} (nm:ByteArray) (k0:Nat) (h0:1≤k0) (hk:k0+totC L≤50000000) (hN:L.length=N) (lN:N≤1048576) (sm:∀ c∈L,AgSm c.g) (hR:OwnC w B (.slice ao N cp) (mkCs k0 L)) (hO:CesO w B (mkCs k0 L)) :
  Calls Tryz.prog 58 #[.agg #[.string nm,.slice ao N cp],.int .i64 k0] w fun e w'=>e=.returned (.int .i64 ((k0+totC L:Nat):Int))∧Below w.heap.size w w':=by
 have HB0:Hid (Below w.heap.size w (w.alloc (.cells #[.string nm,.slice ao N cp] 32))):=(Below.refl _ _).alloc (Nat.le_refl _) _
 have HC:=hide (c_heldCellS (w:=w.alloc (.cells #[.string nm,.slice ao N cp] 32)) k0 h0 hk hN lN sm (hR.past HB0.out) (hO.past HB0.out))
 clear hR hO sm
 go_enter Tryz.func58,Tryz.ntmps58
 go_wp2_with fail
 refine HC.out.mono ?_
 rintro e w1 ⟨rfl,hb1⟩
 have HT1:=hide (chain HB0.out hb1)
 have hn:¬ (((k0+totC L:Nat):Int)<0):=by omega
 clear hb1 HC
 go_wp2
 go_ret
 exact ⟨rfl,HT1.out⟩
theorem mkCs_mem {L:List Ce} {d:Ce}:∀ {k:Nat},d∈mkCs k L→∃ c∈L,d.p=c.p:=by
 induction L with
 | nil=>intro k h;cases h
 | cons c L ih=>
  intro k h
  unfold mkCs at h
  rcases List.mem_cons.1 h with e | h
  ·exact ⟨c,List.mem_cons_self,by rw [e];rfl⟩
  ·obtain ⟨x,hx,e⟩:=ih h
   exact ⟨x,List.mem_cons_of_mem _ hx,e⟩
structure ShM (w:World) (B k0:Nat) (vr vo:Value) (R O:List Ce):Prop where
 r:OwnC w B vr (mkCs k0 R)
 o:OwnC w B vo (mkCs (k0+totC R) O)
 cr:CesO w B (mkCs k0 R)
 co:CesO w B (mkCs (k0+totC R) O)
theorem ShM.past {w w':World} {B k0:Nat} {vr vo:Value} {R O:List Ce} (h:ShM w B k0 vr vo R O) (hb:Below w.heap.size w w'):ShM w' B k0 vr vo R O:=⟨h.r.past hb,h.o.past hb,h.cr.past hb,h.co.past hb⟩
def ShBlk (vr vo:Value) (R O:List Ce) (k:Nat):Prop:=CBlk vr R k∨CBlk vo O k
theorem OwnC.keptS {w w':World} {B:Nat} {v:Value} {L:List Ce} {S:Nat→Prop} (h:OwnC w B v L) (hg:GrownS w w' S) (h1:∀ k,v.ownBlock=some k→¬ S k):OwnC w' B v L:=by
 refine ⟨h.1,?_⟩
 rcases h.2 with q | ⟨g,cap,cur,e,q1,q2,q3⟩
 ·exact .inl q
 ·exact .inr ⟨g,cap,cur,e,q1,hg.row q2 (h1 g (by rw [e];rfl)),q3⟩
theorem parts_apart {w:World} {B:Nat} {vr vo:Value} {R O:List Ce} (hr:OwnC w B vr R) (ho:OwnC w B vo O) (ha:ApV vr vo) (hc:CesO w B (R ++ O)):∀ k,CBlk vr R k→¬ CBlk vo O k:=by
 have c1:∀ c∈R,AgO w B c.g c.p:=fun c h=>hc.o c (List.mem_append_left _ h)
 have c2:∀ c∈O,AgO w B c.g c.p:=fun c h=>hc.o c (List.mem_append_right _ h)
 have c3:=(List.pairwise_append.1 hc.ap).2.2
 rintro k (h | ⟨c,m,h⟩) (q | ⟨d,m',q⟩)
 ·exact ha k h q
 ·exact hr.ne (c2 d m') k q h
 ·exact ho.ne (c1 c m) k h q
 ·exact c3 c m d m' k h q
set_option maxHeartbeats 4000000 in
theorem c_markShardOut {w:World} {B n1 n2 c1 c2:Nat} {ar ap:Option Addr} {R O:List Ce} (nm:ByteArray) (code:Int) (k0:Nat) (h0:1≤k0) (hk:k0+totC R+totC O≤50000000) (hR:R.length=n1) (hO:O.length=n2) (l1:n1≤1048576) (l2:n2≤1048576) (s1:∀ c∈R,AgSm c.g) (s2:∀ c∈O,AgSm c.g) (oR:OwnC w B (.slice ar n1 c1) R) (oO:OwnC w B (.slice ap n2 c2) O) (ha:ApV (.slice ar n1 c1) (.slice ap n2 c2)) (hc:CesO w B (R ++ O)) :
  Calls Tryz.prog 18 #[.agg #[.string nm,.slice ar n1 c1,.slice ap n2 c2,.int .i64 code],.int .i64 k0] w fun e w'=>e=.returned (.int .i64 ((k0+totC R+totC O:Nat):Int))∧ShM w' B k0 (.slice ar n1 c1) (.slice ap n2 c2) R O∧GrownS w w' (ShBlk (.slice ar n1 c1) (.slice ap n2 c2) R O):=by
 have HB0:Hid (Below w.heap.size w (w.alloc (.cells #[.string nm,.slice ar n1 c1,.slice ap n2 c2,.int .i64 code] 34))):=(Below.refl _ _).alloc (Nat.le_refl _) _
 have HX:=hide (heap_alloc_new w (.cells #[.string nm,.slice ar n1 c1,.slice ap n2 c2,.int .i64 code] 34))
 have PA:=hide (parts_apart oR oO ha hc)
 have CR:=hide (CesO.sub hc (List.sublist_append_left R O))
 have CO:=hide (CesO.sub hc (List.sublist_append_right R O))
 have OR:=hide oR
 have OO:=hide oO
 have HR:=hide hR
 have HO:=hide hO
 have S1:=hide s1
 have S2:=hide s2
 clear oR oO ha hc hR hO s1 s2
 have x0:=cellKC HX.out 0 rfl
 have x1:=cellKC HX.out 1 rfl
 go_enter Tryz.func18,Tryz.ntmps18
 go_wp2_with fail
 clear x0 x1
 generalize hW0:w.alloc (.cells #[.string nm,.slice ar n1 c1,.slice ap n2 c2,.int .i64 code] 34)=W0 at HB0 HX ⊢
 clear hW0
 refine (c_markShard nm k0 h0 (by omega) HR.out l1 S1.out (OR.out.past HB0.out) (CR.out.past HB0.out)).mono ?_
 rintro e w1 ⟨rfl,hM⟩
 have HM:=hide hM
 have hbx:¬ CBlk (.slice ar n1 c1) R w.heap.size:=by
  rintro (q | ⟨c,m,q⟩)
  ·have:=(World.ownsRow.lt OR.out _ q).2;omega
  ·have:=((CR.out.o c m).lt q).2;omega
 have HX1:=hide (hM.g.row HX.out hbx)
 have OO1:=hide ((OO.out.past HB0.out).keptS hM.g (fun k q1 q2=>PA.out k q2 (.inl q1)))
 have CO1:=hide ((CO.out.past HB0.out).keptS hM.g (fun c m k q1 q2=>PA.out k q2 (.inr ⟨c,m,q1⟩)))
 clear hM hbx
 have x2:=cellKC HX1.out 2 rfl
 go_wp2_with fail
 clear x2
 refine (c_markCellS (k0+totC R) (by omega) (by omega) HO.out l2 S2.out OO1.out CO1.out).mono ?_
 rintro e w2 ⟨rfl,hM2⟩
 have OR2:=hide (HM.out.r.keptS hM2.g (fun k q1 q2=>PA.out k (.inl q1) q2))
 have CR2:=hide (HM.out.o.keptS hM2.g (fun c m k q1 q2=>by
  obtain ⟨d,md,e⟩:=mkCs_mem m
  exact PA.out k (.inr ⟨d,md,by rw [e] at q1;exact blk_same k q1⟩) q2))
 have HG:Hid (GrownS w w2 (ShBlk (.slice ar n1 c1) (.slice ap n2 c2) R O)):=(((GrownS.ofBelow HB0.out).trans HM.out.g).trans hM2.g).weak (fun k q=>q.elim (fun q=>q.elim (fun f=>f.elim) .inl) .inr)
 have HM2:=hide hM2
 clear hM2
 go_wp2
 go_ret
 exact ⟨rfl,⟨OR2.out,HM2.out.r,CR2.out,HM2.out.o⟩,HG.out⟩
set_option maxHeartbeats 4000000 in
theorem c_heldShardOut {w:World} {B n1 n2 c1 c2:Nat} {ar ap:Option Addr} {R O:List Ce} (nm:ByteArray) (code:Int) (k0:Nat) (h0:1≤k0) (hk:k0+totC R+totC O≤50000000) (hR:R.length=n1) (hO:O.length=n2) (l1:n1≤1048576) (l2:n2≤1048576) (s1:∀ c∈R,AgSm c.g) (s2:∀ c∈O,AgSm c.g) (hM:ShM w B k0 (.slice ar n1 c1) (.slice ap n2 c2) R O) :
  Calls Tryz.prog 19 #[.agg #[.string nm,.slice ar n1 c1,.slice ap n2 c2,.int .i64 code],.int .i64 k0] w fun e w'=>e=.returned (.int .i64 ((k0+totC R+totC O:Nat):Int))∧Below w.heap.size w w':=by
 have HB0:Hid (Below w.heap.size w (w.alloc (.cells #[.string nm,.slice ar n1 c1,.slice ap n2 c2,.int .i64 code] 34))):=(Below.refl _ _).alloc (Nat.le_refl _) _
 have HX:=hide (heap_alloc_new w (.cells #[.string nm,.slice ar n1 c1,.slice ap n2 c2,.int .i64 code] 34))
 have HR:=hide hR
 have HO:=hide hO
 have S1:=hide s1
 have S2:=hide s2
 have HM:=hide hM
 clear hR hO s1 s2 hM
 have x0:=cellKC HX.out 0 rfl
 have x1:=cellKC HX.out 1 rfl
 go_enter Tryz.func19,Tryz.ntmps19
 go_wp2_with fail
 clear x0 x1
 generalize hW0:w.alloc (.cells #[.string nm,.slice ar n1 c1,.slice ap n2 c2,.int .i64 code] 34)=W0 at HB0 HX ⊢
 clear hW0
 have HM0:=hide (HM.out.past HB0.out)
 refine (c_heldShard nm k0 h0 (by omega) HR.out l1 S1.out HM0.out.r HM0.out.cr).mono ?_
 rintro e w1 ⟨rfl,hb1⟩
 have HT1:=hide (chain HB0.out hb1)
 have HX1:=hide ((hb1.block _ (Array.getElem?_eq_some_iff.1 HX.out).1).trans HX.out)
 have HM1:=hide (HM0.out.past hb1)
 have hn:¬ (((k0+totC R:Nat):Int)<0):=by omega
 clear hb1
 have x2:=cellKC HX1.out 2 rfl
 go_wp2_with fail
 clear x2
 refine (c_heldCellS (k0+totC R) (by omega) (by omega) HO.out l2 S2.out HM1.out.o HM1.out.co).mono ?_
 rintro e w2 ⟨rfl,hb2⟩
 have HT2:=hide (chain HT1.out hb2)
 have hn2:¬ (((k0+totC R+totC O:Nat):Int)<0):=by omega
 clear hb2 hn
 go_wp2
 go_ret
 exact ⟨rfl,HT2.out⟩
end Go.Proofs.YtiiclgcpagdekaaGreatDoor
