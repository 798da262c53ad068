/-
 Copies of cells and shards as the exact laws make them: they own their memory, each its own.
-/
import Derived.Test.YtiiclgcpagdekaaGreatDoorMCQ
namespace Go.Proofs.YtiiclgcpagdekaaGreatDoor
set_option linter.unusedVariables false
set_option linter.unusedSimpArgs false
open Go.ChangeShapes Go.WideShapes Go.ChangeAt Go.RowKit Go.PlainAid Go.Lib
set_option maxRecDepth 10000
structure CeRowX (w:World) (g N:Nat) (M:List Ce):Prop where
 row:∃ cur:Array Value,w.heap[g]?=some (.cells cur 81 (0,0))∧cur.size=N*15∧∀ i c,M[i]?=some c→∀ j v,(ceArr c)[j]?=some v→cur[i*15+j]?=some v
 own:∀ c∈M,AgO w (g+1) c.g c.p
 ap:M.Pairwise ApC
theorem CeRowX.past {w w':World} {g N:Nat} {M:List Ce} (h:CeRowX w g N M) (hb:Below w.heap.size w w'):CeRowX w' g N M:=by
 obtain ⟨cur,h1,h2,h3⟩:=h.row
 exact ⟨⟨cur,(hb.block g (Array.getElem?_eq_some_iff.1 h1).1).trans h1,h2,h3⟩,fun c hc=>(h.own c hc).past hb,h.ap⟩
theorem CeRowX.own_all {w:World} {g N:Nat} {M:List Ce} (h:CeRowX w g N M) (hN:M.length=N) (hl:N≤1048576):OwnC w g (.slice (some ⟨g,0,none⟩) N N) M∧CesO w g M:=by
 obtain ⟨cur,h1,h2,h3⟩:=h.row
 refine ⟨?_,fun c hc=>(h.own c hc).le (Nat.le_succ _),h.ap⟩
 refine ⟨by rw [flC_len],.inr ⟨g,N,cur,by rw [hN],Nat.le_refl _,h1,by omega,by unfold maxLen;omega,h2,?_⟩⟩
 apply List.ext_getElem?
 intro j
 by_cases hj:j<M.length*15
 ·rw [List.getElem?_take_of_lt hj,Array.getElem?_toList]
  have hi:j / 15<M.length:=by omega
  obtain ⟨c,hc⟩:∃ c,M[j / 15]?=some c:=⟨_,List.getElem?_eq_getElem hi⟩
  have q1:=flC_at M (j / 15) c (j % 15) (by omega) hc
  rw [show j / 15*15+j % 15=j by omega] at q1
  obtain ⟨v,hv⟩:∃ v,(ceArr c)[j % 15]?=some v:=⟨(ceArr c)[j % 15]'(by show j % 15<15;omega),Array.getElem?_eq_getElem _⟩
  have q2:=h3 (j / 15) c hc (j % 15) v hv
  rw [show j / 15*15+j % 15=j by omega] at q2
  rw [q2,q1]
  show _=(ceArr c).toList[j % 15]?
  rw [Array.getElem?_toList,hv]
 ·rw [List.getElem?_eq_none (by simp;omega),List.getElem?_eq_none (by rw [flC_len];omega)]
theorem CeRowX.put {w:World} {g N:Nat} {M:List Ce} (h:CeRowX w g N M) {c:Ce} {q:Pl} (hN:M.length<N) (ho:AgO w (g+1) c.g q) (hf:∀ d∈M,ApC d ⟨c.n,c.s,c.g,q⟩) :
  CeRowX (((((((((((((((w.setCell ⟨g,M.length*15,none⟩ (.int .i64 c.n)).setCell ⟨g,M.length*15+1,none⟩ (.string c.s)).setCell ⟨g,M.length*15+2,none⟩ (.int .i64 c.g.k)).setCell ⟨g,M.length*15+3,none⟩ (.int .u64 c.g.s)).setCell ⟨g,M.length*15+4,none⟩ (.int .i64 c.g.h)).setCell ⟨g,M.length*15+5,none⟩ (.int .u64 c.g.l)).setCell ⟨g,M.length*15+6,none⟩ (.int .i64 c.g.a)).setCell ⟨g,M.length*15+7,none⟩ (.int .i64 c.g.t)).setCell ⟨g,M.length*15+8,none⟩ (.int .u64 c.g.z)).setCell ⟨g,M.length*15+9,none⟩ (.slice q.pa c.g.P.length q.pc)).setCell ⟨g,M.length*15+10,none⟩ (.slice q.na c.g.N.length q.nc)).setCell ⟨g,M.length*15+11,none⟩ (.int .i64 c.g.x)).setCell ⟨g,M.length*15+12,none⟩ (.int .u64 c.g.y)).setCell ⟨g,M.length*15+13,none⟩ (.slice q.ea c.g.E.length q.ec)).setCell ⟨g,M.length*15+14,none⟩ (.slice q.ra c.g.R.length q.rc)) g N (M ++ [⟨c.n,c.s,c.g,q⟩]):=by
 obtain ⟨cur,h1,h2,h3⟩:=h.row
 obtain ⟨cur',k1,k2,k3⟩:=heap_setCellsC (e:=81) (ceArr ⟨c.n,c.s,c.g,q⟩).toList (M.length*15) w cur h1
 have hap:(M ++ [(⟨c.n,c.s,c.g,q⟩:Ce)]).Pairwise ApC:=List.pairwise_append.2 ⟨h.ap,List.pairwise_singleton _ _,fun a ha b hb=>by
  rw [List.mem_singleton.1 hb];exact hf a ha⟩
 refine ⟨⟨cur',k1,by rw [k2];exact h2,fun i d hd j v e=>?_⟩,fun d hd=>?_,hap⟩
 ·have hj:j<15:=(Array.getElem?_eq_some_iff.1 e).1
  rw [k3]
  rw [List.getElem?_append] at hd
  split at hd
  ·rename_i hi
   rw [if_neg (by simp;omega)]
   exact h3 i d hd j v e
  ·rename_i hi
   have hi2:i - M.length=0:=by
    have:=(List.getElem?_eq_some_iff.1 hd).1
    simp at this;omega
   rw [hi2] at hd
   simp at hd
   subst hd
   rw [if_pos ⟨by omega,by simp;omega,by omega⟩,show i*15+j - M.length*15=j by omega]
   simpa using e
 ·repeat (refine AgO.below ?_ (Nat.lt_succ_self _) _)
  rcases List.mem_append.1 hd with hd | hd
  ·exact h.own d hd
  ·simp at hd;subst hd;exact ho
set_option maxHeartbeats 4000000 in
theorem c_toCellX {w:World} (c:Ce) (sm:AgSm c.g) (hA:AgAt w c.g c.p) :
  Calls Tryz.prog 61 #[.agg (ceArr c)] w fun e w'=>∃ q,e=.returned (.agg (ceArr ⟨c.n,c.s,c.g,q⟩))∧AgO w' w.heap.size c.g q∧Below w.heap.size w w':=by
 have HA:=hide hA
 have SM:=hide sm
 have HBa:Hid (∀ o1 o2 o3,Below w.heap.size w (((w.alloc o1).alloc o2).alloc o3)):=fun o1 o2 o3=>(((Below.refl _ _).alloc (Nat.le_refl _) _).alloc (by simp) _).alloc (by simp;omega) _
 clear hA sm
 go_enter Tryz.func61,Tryz.ntmps61
 go_wp2_with fail
 refine (c_toAgg SM.out (ag_past HA.out (HBa.out _ _ _))).mono ?_
 rintro e w1 ⟨gp,gn,ge,gr,rfl,_,hpn,_,_,_,ow,hb1⟩
 replace ow:=ow.o hpn
 have hres:=(hb1.block (w.heap.size+1) (by simp)).trans (by rw [heap_alloc_old _ _ (by simp)];simpa using heap_alloc_new (w.alloc (.cells (ceArr c) 110)) (.cells zeroCe 81):_=some (.cells zeroCe 81 (0,0)))
 have hout:=(hb1.block (w.heap.size+1+1) (by simp)).trans (by simpa using heap_alloc_new ((w.alloc (.cells (ceArr c) 110)).alloc (.cells zeroCe 81)) (.cells #[.int .i64 c.n,.string c.s,.int .i64 0,.int .u64 0,.int .i64 0,.int .u64 0,.int .i64 0,.int .i64 0,.int .u64 0,.slice none 0 0,.slice none 0 0,.int .i64 0,.int .u64 0,.slice none 0 0,.slice none 0 0] 81):_=some (.cells #[.int .i64 c.n,.string c.s,.int .i64 0,.int .u64 0,.int .i64 0,.int .u64 0,.int .i64 0,.int .i64 0,.int .u64 0,.slice none 0 0,.slice none 0 0,.int .i64 0,.int .u64 0,.slice none 0 0,.slice none 0 0] 81 (0,0)))
 have HT1:=hide ((HBa.out _ _ _).trans (hb1.mono (by simp;omega)))
 obtain ⟨q,hq⟩:∃ q,plNew c.g gp gn ge gr=q:=⟨_,rfl⟩
 have eq0:Value.agg (agArr c.g (plNew c.g gp gn ge gr))=.agg (agArr c.g q):=by rw [hq]
 rw [hq] at ow
 rw [eq0]
 have HO:=hide ow
 have hsz:=hb1.size
 simp only [World.size_alloc] at HO hsz
 have a0:=cellKC hout 0 rfl
 have b0:=fzR 0 hout
 have c0:=cellKC hres 0 rfl
 have d0:=fzR 0 hres
 have a1:=cellKC hout 1 rfl
 have b1:=fzR 1 hout
 have c1:=cellKC hres 1 rfl
 have d1:=fzR 1 hres
 have a2:=cellKC hout 2 rfl
 have b2:=fzR 2 hout
 have c2:=cellKC hres 2 rfl
 have d2:=fzR 2 hres
 have a3:=cellKC hout 3 rfl
 have b3:=fzR 3 hout
 have c3:=cellKC hres 3 rfl
 have d3:=fzR 3 hres
 have a4:=cellKC hout 4 rfl
 have b4:=fzR 4 hout
 have c4:=cellKC hres 4 rfl
 have d4:=fzR 4 hres
 have a5:=cellKC hout 5 rfl
 have b5:=fzR 5 hout
 have c5:=cellKC hres 5 rfl
 have d5:=fzR 5 hres
 have a6:=cellKC hout 6 rfl
 have b6:=fzR 6 hout
 have c6:=cellKC hres 6 rfl
 have d6:=fzR 6 hres
 have a7:=cellKC hout 7 rfl
 have b7:=fzR 7 hout
 have c7:=cellKC hres 7 rfl
 have d7:=fzR 7 hres
 have a8:=cellKC hout 8 rfl
 have b8:=fzR 8 hout
 have c8:=cellKC hres 8 rfl
 have d8:=fzR 8 hres
 have a9:=cellKC hout 9 rfl
 have b9:=fzR 9 hout
 have c9:=cellKC hres 9 rfl
 have d9:=fzR 9 hres
 have a10:=cellKC hout 10 rfl
 have b10:=fzR 10 hout
 have c10:=cellKC hres 10 rfl
 have d10:=fzR 10 hres
 have a11:=cellKC hout 11 rfl
 have b11:=fzR 11 hout
 have c11:=cellKC hres 11 rfl
 have d11:=fzR 11 hres
 have a12:=cellKC hout 12 rfl
 have b12:=fzR 12 hout
 have c12:=cellKC hres 12 rfl
 have d12:=fzR 12 hres
 have a13:=cellKC hout 13 rfl
 have b13:=fzR 13 hout
 have c13:=cellKC hres 13 rfl
 have d13:=fzR 13 hres
 have a14:=cellKC hout 14 rfl
 have b14:=fzR 14 hout
 have c14:=cellKC hres 14 rfl
 have d14:=fzR 14 hres
 clear hres hout hb1 ow hq eq0
 go_wp2
 refine bodyPost_ret (v:=.agg (ceArr ⟨c.n,c.s,c.g,q⟩)) (by simp [results,Tryz.results61,go_sem,c0,c1,c2,c3,c4,c5,c6,c7,c8,c9,c10,c11,c12,c13,c14]) rfl ⟨q,rfl,?_,?_⟩
 ·refine AgO.le (B:=w.heap.size+1+1+1) ?_ (by omega)
  repeat (refine AgO.below ?_ (by omega) _)
  exact HO.out
 ·repeat (refine Below.setCell ?_ (by simp <;> omega) _)
  exact HT1.out
set_option maxHeartbeats 4000000 in
theorem c_toCellSX {w:World} {ao:Option Addr} {N:Nat} {L:List Ce} (cap:Nat) (hN:L.length=N) (hl:N≤1048576) (sm:∀ c∈L,AgSm c.g) (hA:CesAt w ao L) :
  Calls Tryz.prog 22 #[.slice ao N cap] w fun e w'=>∃ M,e=.returned (.slice (some ⟨w.heap.size,0,none⟩) N N)∧M.length=N∧M.map Ce.key=L.map Ce.key∧CeRowX w' w.heap.size N M∧Below w.heap.size w w':=by
 obtain ⟨i0,hi,hz0,hz1,hz2⟩:=info_parts infoCell
 have HN:=hide hN
 have SM:=hide sm
 have HA:=hide hA
 clear hN sm hA
 go_enter Tryz.func22,Tryz.ntmps22
 go_wp2_with (at_make;refine wpList_make_full _ rfl _ _ 30 rfl w.heap.size 81 i0 (.agg zeroCe) 15 Tryz.underlying30 hi hz0 hz1 .i64 .i64 _ _ N rfl rfl rfl rfl (by rw [hz2];omega) (by unfold maxLen;omega) (Nat.le_refl _) ?_;intro w0 hown0 hgrow0)
 have hB0:Below w.heap.size w w0:=(Below.refl _ _).grown hgrow0 (Nat.le_refl _) (fun k e=>by cases e)
 have hR0:CeRowX w0 w.heap.size N []:=by
  rcases hown0.2 with ⟨e,_⟩ | ⟨g',cap',cur,e,_,hg',_,_,hcs,htake⟩
  ·cases e
  ·simp only [Value.slice.injEq,Option.some.injEq,Addr.mk.injEq,and_true,true_and] at e
   obtain ⟨rfl,rfl⟩:=e
   exact ⟨⟨cur,hg',by omega,fun i c hc=>by simp at hc⟩,(fun c hc=>by simp at hc),.nil⟩
 have HB0:=hide hB0
 have HR0:=hide hR0
 clear hown0 hgrow0 hB0 hR0
 go_wp2
 go_loopw [4] (fun i wr=>∃ (k:Nat) (M:List Ce),k≤N∧i=.int .i64 k∧Hid (M.length=k)∧Hid (M.map Ce.key=(L.take k).map Ce.key)∧Hid (CeRowX wr w.heap.size N M)∧Hid (Below w.heap.size w wr)) (fun i wr=>N - (Go.RowKit.intOf i).toNat)
 case atStart=>exact ⟨0,[],Nat.zero_le _,rfl,hide rfl,hide (by simp),HR0,HB0⟩
 case round=>
  clear HR0 HB0
  obtain ⟨k,M,hk,rfl,HMl,HMk,HR,HB⟩:=hrel
  by_cases hkn:k<N
  ·have hkni:(k:Int)<(N:Int):=by omega
   obtain ⟨b,off,e,hcell⟩:=HA.out.1 (by have:=HN.out;omega)
   subst e
   obtain ⟨c,hc⟩:∃ c,L[k]?=some c:=⟨L[k]'(by have:=HN.out;omega),List.getElem?_eq_getElem _⟩
   have hm:=List.mem_of_getElem? hc
   obtain ⟨x0,x1,x2,x3,x4,x5,x6,x7,x8,x9,x10,x11,x12,x13,x14⟩:=cec_past (hcell k c hc) HB.out
   have HC:=hide hc
   have HM:=hide hm
   clear hcell hc hm
   go_wp2_with fail
   clear x0 x1 x2 x3 x4 x5 x6 x7 x8 x9 x10 x11 x12 x13 x14
   refine (c_toCellX c (SM.out c HM.out) (ag_past (HA.out.2 c HM.out) HB.out)).mono ?_
   rintro e w1 ⟨q,rfl,ho,hb1⟩
   have hR1:=HR.out.past hb1
   have hgs:w.heap.size<wr.heap.size:=by
    obtain ⟨cur,h1,_⟩:=HR.out.row
    exact (Array.getElem?_eq_some_iff.1 h1).1
   obtain ⟨cur,r1,r2,r3⟩:=hR1.row
   have hP:=hR1.put (c:=c) (q:=q) (by rw [HMl.out];exact hkn) (ho.le (by omega)) (fun d hd k q1 q2=>by
    have f1:=((HR.out.own d hd).lt q1).2
    have f2:=(ho.lt q2).1
    omega)
   rw [HMl.out] at hP
   have HP:=hide hP
   have HT1:=hide (chain HB.out hb1)
   have HK2:Hid ((M ++ [(⟨c.n,c.s,c.g,q⟩:Ce)]).map Ce.key=(L.take (k+1)).map Ce.key):=by
    rw [List.take_add_one,HC.out,List.map_append,List.map_append,HMk.out];exact hide rfl
   have HL2:Hid ((M ++ [(⟨c.n,c.s,c.g,q⟩:Ce)]).length=k+1):=by rw [List.length_append,HMl.out];exact hide rfl
   obtain ⟨z0,hz0'⟩:∃ z,w1.cell? ⟨w.heap.size,k*15,none⟩=some z:=⟨cur[k*15]'(by omega),by rw [cell_of_row _ _ _ _ _ (0,0) r1,Array.getElem?_eq_getElem]⟩
   have f0:=fzR (k*15) r1
   obtain ⟨z1,hz1'⟩:∃ z,w1.cell? ⟨w.heap.size,k*15+1,none⟩=some z:=⟨cur[k*15+1]'(by omega),by rw [cell_of_row _ _ _ _ _ (0,0) r1,Array.getElem?_eq_getElem]⟩
   have f1:=fzR (k*15+1) r1
   obtain ⟨z2,hz2'⟩:∃ z,w1.cell? ⟨w.heap.size,k*15+2,none⟩=some z:=⟨cur[k*15+2]'(by omega),by rw [cell_of_row _ _ _ _ _ (0,0) r1,Array.getElem?_eq_getElem]⟩
   have f2:=fzR (k*15+2) r1
   obtain ⟨z3,hz3'⟩:∃ z,w1.cell? ⟨w.heap.size,k*15+3,none⟩=some z:=⟨cur[k*15+3]'(by omega),by rw [cell_of_row _ _ _ _ _ (0,0) r1,Array.getElem?_eq_getElem]⟩
   have f3:=fzR (k*15+3) r1
   obtain ⟨z4,hz4'⟩:∃ z,w1.cell? ⟨w.heap.size,k*15+4,none⟩=some z:=⟨cur[k*15+4]'(by omega),by rw [cell_of_row _ _ _ _ _ (0,0) r1,Array.getElem?_eq_getElem]⟩
   have f4:=fzR (k*15+4) r1
   obtain ⟨z5,hz5'⟩:∃ z,w1.cell? ⟨w.heap.size,k*15+5,none⟩=some z:=⟨cur[k*15+5]'(by omega),by rw [cell_of_row _ _ _ _ _ (0,0) r1,Array.getElem?_eq_getElem]⟩
   have f5:=fzR (k*15+5) r1
   obtain ⟨z6,hz6'⟩:∃ z,w1.cell? ⟨w.heap.size,k*15+6,none⟩=some z:=⟨cur[k*15+6]'(by omega),by rw [cell_of_row _ _ _ _ _ (0,0) r1,Array.getElem?_eq_getElem]⟩
   have f6:=fzR (k*15+6) r1
   obtain ⟨z7,hz7'⟩:∃ z,w1.cell? ⟨w.heap.size,k*15+7,none⟩=some z:=⟨cur[k*15+7]'(by omega),by rw [cell_of_row _ _ _ _ _ (0,0) r1,Array.getElem?_eq_getElem]⟩
   have f7:=fzR (k*15+7) r1
   obtain ⟨z8,hz8'⟩:∃ z,w1.cell? ⟨w.heap.size,k*15+8,none⟩=some z:=⟨cur[k*15+8]'(by omega),by rw [cell_of_row _ _ _ _ _ (0,0) r1,Array.getElem?_eq_getElem]⟩
   have f8:=fzR (k*15+8) r1
   obtain ⟨z9,hz9'⟩:∃ z,w1.cell? ⟨w.heap.size,k*15+9,none⟩=some z:=⟨cur[k*15+9]'(by omega),by rw [cell_of_row _ _ _ _ _ (0,0) r1,Array.getElem?_eq_getElem]⟩
   have f9:=fzR (k*15+9) r1
   obtain ⟨z10,hz10'⟩:∃ z,w1.cell? ⟨w.heap.size,k*15+10,none⟩=some z:=⟨cur[k*15+10]'(by omega),by rw [cell_of_row _ _ _ _ _ (0,0) r1,Array.getElem?_eq_getElem]⟩
   have f10:=fzR (k*15+10) r1
   obtain ⟨z11,hz11'⟩:∃ z,w1.cell? ⟨w.heap.size,k*15+11,none⟩=some z:=⟨cur[k*15+11]'(by omega),by rw [cell_of_row _ _ _ _ _ (0,0) r1,Array.getElem?_eq_getElem]⟩
   have f11:=fzR (k*15+11) r1
   obtain ⟨z12,hz12'⟩:∃ z,w1.cell? ⟨w.heap.size,k*15+12,none⟩=some z:=⟨cur[k*15+12]'(by omega),by rw [cell_of_row _ _ _ _ _ (0,0) r1,Array.getElem?_eq_getElem]⟩
   have f12:=fzR (k*15+12) r1
   obtain ⟨z13,hz13'⟩:∃ z,w1.cell? ⟨w.heap.size,k*15+13,none⟩=some z:=⟨cur[k*15+13]'(by omega),by rw [cell_of_row _ _ _ _ _ (0,0) r1,Array.getElem?_eq_getElem]⟩
   have f13:=fzR (k*15+13) r1
   obtain ⟨z14,hz14'⟩:∃ z,w1.cell? ⟨w.heap.size,k*15+14,none⟩=some z:=⟨cur[k*15+14]'(by omega),by rw [cell_of_row _ _ _ _ _ (0,0) r1,Array.getElem?_eq_getElem]⟩
   have f14:=fzR (k*15+14) r1
   clear r1 r2 r3 hR1 ho hb1 hP hgs
   go_wp2
   go_roundw
   case rel=>exact ⟨k+1,_,by omega,by go_num,HL2,HK2,HP,by
    repeat (refine Below.setCell ?_ (by simp) _)
    exact HT1.out⟩
   case measure=>simp [Go.RowKit.intOf];omega
  ·obtain rfl:N=k:=by omega
   have HK2:Hid (M.map Ce.key=L.map Ce.key):=by
    have:=HMk.out
    rw [List.take_of_length_le (by have:=HN.out;omega)] at this
    exact this
   go_wp2
   go_ret
   exact ⟨M,rfl,HMl.out,HK2.out,HR.out,HB.out⟩
abbrev shV (nm:ByteArray) (vr vo:Value) (code:Int):Array Value:=#[.string nm,vr,vo,.int .i64 code]
structure ShM (w:World) (B k0:Nat) (vr vo:Value) (R O:List Ce):Prop where
 r:OwnC w B vr (mkCs k0 R)
 o:OwnC w B vo (mkCs (k0+totC R) O)
 cr:CesO w B (mkCs k0 R)
 co:CesO w B (mkCs (k0+totC R) O)
def ShBlk (vr vo:Value) (R O:List Ce) (k:Nat):Prop:=CBlk vr R k∨CBlk vo O k
theorem OwnC.keptS {w w':World} {B:Nat} {v:Value} {L:List Ce} {S:Nat→Prop} (h:OwnC w B v L) (hg:GrownS w w' S) (h1:∀ k,v.ownBlock=some k→¬ S k):OwnC w' B v L:=by
 refine ⟨h.1,?_⟩
 rcases h.2 with q | ⟨g,cap,cur,e,q1,q2,q3⟩
 ·exact .inl q
 ·exact .inr ⟨g,cap,cur,e,q1,hg.row q2 (h1 g (by rw [e];rfl)),q3⟩
end Go.Proofs.YtiiclgcpagdekaaGreatDoor
