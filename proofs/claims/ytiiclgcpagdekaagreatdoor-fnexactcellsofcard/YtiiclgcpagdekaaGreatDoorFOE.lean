/-
 An argument that is a sample, opened.
-/
import Derived.Deep.Slices
import Derived.Deep.Strs
import Derived.Test.YtiiclgcpagdekaaGreatDoorFOB
import Derived.Test.YtiiclgcpagdekaaGreatDoorFOC
namespace Go.Proofs.YtiiclgcpagdekaaGreatDoor
set_option linter.unusedVariables false
set_option linter.unusedSimpArgs false
open Go.ChangeShapes Go.WideShapes Go.ChangeAt Go.RowKit Go.PlainAid
instance:Inhabited St:=⟨⟨0,⟨0,ByteArray.empty,0,ByteArray.empty,0,false,0⟩⟩⟩
theorem list8 {α:Type} {cs:List α} (h:cs.length=8):∃ c0 c1 c2 c3 c4 c5 c6 c7,cs=[c0,c1,c2,c3,c4,c5,c6,c7]:=by
 match cs,h with
 | [c0,c1,c2,c3,c4,c5,c6,c7],_=>exact ⟨c0,c1,c2,c3,c4,c5,c6,c7,rfl⟩
structure StOk (s:St):Prop where
 n:I64 s.n
 x:s.x.Ok
set_option maxRecDepth 100000 in
set_option maxHeartbeats 1000000 in
theorem open_st0 {H:Type} {enc:TypeId×Value→H} {W:World} {base fuel:Nat} {sp:Nat→Bool} {held:Bool} {cs:List Value} {x:DataW H×List MemPlace}
  (hf:DataW.trod enc Tryz.prog W base sp held fuel 123 cs=some x):∃ s:St,cs=(stArr s).toList∧StOk s:=by
 obtain ⟨y0,y1,n,_,hl,h0,h1⟩:=trod_struct2 Tryz.underlying123 hf
 obtain ⟨c0,c1,c2,c3,c4,c5,c6,c7,rfl⟩:=list8 (hl.trans (show Tryz.prog.cellsOf 123=8 by kernel_rfl))
 have eI:Tryz.prog.cellsOf 2=1:=by kernel_rfl
 have eS:Tryz.prog.cellsOf 9=1:=by kernel_rfl
 have eU:Tryz.prog.cellsOf 25=1:=by kernel_rfl
 have eB:Tryz.prog.cellsOf 4=1:=by kernel_rfl
 have eX:Tryz.prog.cellsOf 27=7:=by kernel_rfl
 have k0:DataW.trod enc Tryz.prog W base sp held n 2 [c0]=some y0:=by simpa [eI] using h0
 have k1:DataW.trod enc Tryz.prog W base sp held n 27 [c1,c2,c3,c4,c5,c6,c7]=some y1:=by simpa [eX] using h1
 obtain ⟨i,f0,_,wi⟩:=DataW.trod_int Tryz.underlying2 k0
 obtain ⟨xs,n2,_,_,_,hlen,hfs⟩:=DataW.trod_struct Tryz.underlying27 k1
 match xs,hlen with
 | [y0,y1,y2,y3,y4,y5,y6],_=>
  have k0:DataW.trod enc Tryz.prog W base sp held n2 2 [c1]=some y0:=by simpa [Value.cells,eI] using hfs 0 _ rfl
  have k1:DataW.trod enc Tryz.prog W base sp held n2 9 [c2]=some y1:=by simpa [Value.cells,eS] using hfs 1 _ rfl
  have k2:DataW.trod enc Tryz.prog W base sp held n2 2 [c3]=some y2:=by simpa [Value.cells,eI] using hfs 2 _ rfl
  have k3:DataW.trod enc Tryz.prog W base sp held n2 9 [c4]=some y3:=by simpa [Value.cells,eS] using hfs 3 _ rfl
  have k4:DataW.trod enc Tryz.prog W base sp held n2 25 [c5]=some y4:=by simpa [Value.cells,eU] using hfs 4 _ rfl
  have k5:DataW.trod enc Tryz.prog W base sp held n2 4 [c6]=some y5:=by simpa [Value.cells,eB] using hfs 5 _ rfl
  have k6:DataW.trod enc Tryz.prog W base sp held n2 2 [c7]=some y6:=by simpa [Value.cells,eI] using hfs 6 _ rfl
  obtain ⟨a0,g0,_,w0⟩:=DataW.trod_int Tryz.underlying2 k0
  obtain ⟨a1,g1,_,w1⟩:=DataW.trod_string Tryz.underlying9 k1
  obtain ⟨a2,g2,_,w2⟩:=DataW.trod_int Tryz.underlying2 k2
  obtain ⟨a3,g3,_,w3⟩:=DataW.trod_string Tryz.underlying9 k3
  obtain ⟨a4,g4,_,w4⟩:=DataW.trod_int Tryz.underlying25 k4
  obtain ⟨a5,g5,_⟩:=DataW.trod_bool Tryz.underlying4 k5
  obtain ⟨a6,g6,_,w6⟩:=DataW.trod_int Tryz.underlying2 k6
  simp at f0 g0 g1 g2 g3 g4 g5 g6
  subst f0 g0 g1 g2 g3 g4 g5 g6
  exact ⟨⟨i,⟨a0,a1,a2,a3,a4,a5,a6⟩⟩,rfl,bounds_i64 wi,bounds_i64 w0,bounds_i64 w2,bounds_u64 w4,bounds_i64 w6,w1,w3⟩
set_option maxRecDepth 100000 in
theorem open_stamped {H:Type} {enc:TypeId×Value→H} {W:World} {r:Reach} {b0 base:Nat} {sp:Nat→Bool} {held:Bool} {v:Value} {d:DataW H} {ps:List MemPlace}
  (hval:Value.okWide Tryz.prog W r b0 50 v) (hd:DataW.Trod enc Tryz.prog W base sp held 50 v d ps) :
  ∃ ao cap,∃ L:List St,v=.slice ao L.length cap∧L.length≤maxLen∧StsAt W ao L∧∀ s∈L,StOk s:=by
 obtain ⟨ao,ln,cap,rfl⟩:=okWide_slice Tryz.underlying50 hval
 obtain ⟨fuel,hf⟩:=hd
 rcases Deep.open_slice Tryz.underlying50 hf with ⟨hcs,hx⟩ | ⟨a,len,cap',m,n,D,P,hcs,_,hl,hm,hmm,hx,hcell⟩
 ·simp [Value.cells] at hcs
  obtain ⟨rfl,rfl,rfl⟩:=hcs
  exact ⟨none,0,[],rfl,Nat.zero_le _,fun h=>absurd h (Nat.lt_irrefl 0),fun c hc=>absurd hc List.not_mem_nil⟩
 ·simp [Value.cells] at hcs
  obtain ⟨rfl,rfl,rfl⟩:=hcs
  rw [show Tryz.prog.cellsOf 123=8 by kernel_rfl] at hcell
  have hlm:ln≤m:=by rw [hmm];split <;> omega
  have each:∀ i,i<ln→∃ c:St,(∀ j,j<8→W.cell? ((a.add (i*8)).add j)=(stArr c).toList[j]?)∧StOk c:=fun i hi=>by
   obtain ⟨cs',h1,h2⟩:=hcell i (by omega)
   obtain ⟨c,rfl,ok⟩:=open_st0 h2
   obtain ⟨_,_,h3⟩:=World.cells?_some h1
   exact ⟨c,h3,ok⟩
  obtain ⟨f,hf⟩:=Deep.choose_lt (α:=St) each
  have hlen:((List.range ln).map f).length=ln:=by simp
  have mem:∀ c∈(List.range ln).map f,StOk c:=fun c hc=>by
   obtain ⟨i,hi,rfl⟩:=List.mem_map.1 hc
   exact (hf i (List.mem_range.1 hi)).2
  refine ⟨some a,cap,(List.range ln).map f,by rw [hlen],by rw [hlen];omega,fun h0=>?_,mem⟩
  rw [hlen] at h0
  have g0:=(hf 0 h0).1 0 (by omega)
  obtain ⟨b,off,spot⟩:=a
  have hspot:spot=none:=by
   have g1:W.cell? ⟨b,off,spot⟩=some (.int .i64 (f 0).n):=by simpa [Addr.add,stArr] using g0
   exact World.cell?_spot g1
  subst hspot
  refine ⟨b,off,rfl,fun i x hi=>?_⟩
  have hil:=(List.getElem?_eq_some_iff.1 hi).1
  rw [hlen] at hil
  have e:x=f i:=by
   have:=(List.getElem?_eq_some_iff.1 hi).2
   simpa using this.symm
  subst e
  have q:=(hf i hil).1
  simp only [Addr.add_lit] at q
  exact ⟨q 0 (by omega),q 1 (by omega),q 2 (by omega),q 3 (by omega),q 4 (by omega),q 5 (by omega),q 6 (by omega),q 7 (by omega)⟩
set_option maxRecDepth 10000
open Go.Lib
theorem ptl_few {R R':List Ce} {n:Int} {s:ByteArray} {o:Ag} (h:PtL R n s o R') (k:∀ c∈R,AgFew c.g) (f:AgFew o):∀ c∈R',AgFew c.g:=fun c hc=>by
 have h':R'.map Ce.key=(R.filter (loF n s) ++ ⟨n,s,o,⟨none,0,none,0,none,0,none,0⟩⟩ :: R.filter (hiF n s)).map Ce.key:=by rw [List.map_append,List.map_cons];exact h
 obtain ⟨d,hd,_,_,e3⟩:=key_mem h' hc
 rw [← e3]
 rcases List.mem_append.1 hd with hd | hd
 ·exact k d (List.mem_filter.1 hd).1
 ·rcases List.mem_cons.1 hd with rfl | hd
  ·exact f
  ·exact k d (List.mem_filter.1 hd).1
theorem pua_few {R R':List Ce} {n:Int} {x:Sx} (q:CnQ R) (hx:x.B=true) (k:∀ c∈R,AgFew c.g) (p:PuA R n x R' 0):∀ c∈R',AgFew c.g:=by
 generalize hc0:(0:Int)=c0 at p
 cases p with
 | kind=>exact absurd hc0 (by decide)
 | full=>exact absurd hc0 (by decide)
 | there c o R' hc k1 k2 hk hp hR=>exact ptl_few hR k (put_few5 hp hx (q.rt c hc) hk)
 | new o R' hno hl hp hR=>
  obtain ⟨b1,b4⟩:=(smp_parts hx).1
  obtain ⟨g1,g2,g3,g4,_⟩:=agNew_all b1 b4
  exact ptl_few hR k (put_few5 hp hx g1 g4)
theorem CoI.few {L:List St} {R:List Ce} (h:CoI L R):(∀ s∈L,s.x.Ok)→∀ c∈R,AgFew c.g:=by
 induction h with
 | nil=>intro _ c hc;simp at hc
 | snoc L R R' s h f p ih=>
  intro ok
  exact pua_few (h.right (fun s hs=>ok s (by simp [hs]))).2 f.1 (ih (fun s hs=>ok s (by simp [hs]))) p
theorem totC_few:∀ {R:List Ce},(∀ c∈R,AgFew c.g)→totC R≤1000*R.length
 | [],_=>by simp [totC]
 | c :: R,h=>by
  have a:=totC_few (R:=R) (fun d hd=>h d (List.mem_cons_of_mem _ hd))
  have b:=cst_few (n:=c.n) (s:=c.s) (p:=c.p) (h c (List.mem_cons_self ..))
  have e:totC (c :: R)=cst c+totC R:=rfl
  rw [e,List.length_cons]
  have b':cst c≤1000:=b
  omega
structure CoB (R:List Ce):Prop where
 l:R.length≤1048576
 sm:∀ c∈R,AgSm c.g
 t:1+totC R≤50000000
theorem CoR.bounds {L:List St} {R:List Ce} {code:Int} (h:CoR L R code) (ok:∀ s∈L,s.x.Ok):CoB R:=by
 have z:CoB []:=⟨by simp,by simp,by simp [totC]⟩
 cases h with
 | size=>exact z
 | form=>exact z
 | fall=>exact z
 | ok R h m=>
  obtain ⟨r,q⟩:=m.right ok
  have l:=(csR_iff.1 r).1
  have t:=totC_few (m.few ok)
  exact ⟨by omega,q.sm,by omega⟩
structure CfQ (w:World) (lo hi:Nat) (ao:Option Addr) (n cp:Nat) (R:List Ce):Prop where
 l:R.length=n
 r:OwnC w lo (.slice ao n cp) R
 o:CesO w lo R
 hi:∀ k,CBlk (.slice ao n cp) R k→lo≤k∧k<hi
section
variable {w w':World} {lo hi n cp:Nat} {ao:Option Addr} {R:List Ce}
theorem CfQ.past (h:CfQ w lo hi ao n cp R) (hb:Below w.heap.size w w'):CfQ w' lo hi ao n cp R:=⟨h.l,h.r.past hb,h.o.past hb,h.hi⟩
theorem CfQ.keptS {S:Nat→Prop} (h:CfQ w lo hi ao n cp R) (hg:GrownS w w' S) (hS:∀ k,lo≤k→k<hi→¬ S k):CfQ w' lo hi ao n cp R:=
 ⟨h.l,h.r.keptS hg (fun k q=>by obtain ⟨a,b⟩:=h.hi k (.inl q);exact hS k a b),h.o.keptS hg (fun c m k q=>by obtain ⟨a,b⟩:=h.hi k (.inr ⟨c,m,q⟩);exact hS k a b),h.hi⟩
theorem CfQ.at (h:CfQ w lo hi ao n cp R):CesAt w ao R:=OwnC.at h.r h.o.at
end
theorem CoP.open {w w':World} {L:List St} {e:Ending} (h:CoP w L e w'):∃ ao n cp R code,e=.returned (.agg #[.slice ao n cp,.int .i64 code])∧CoR L R code∧CfQ w' w.heap.size w'.heap.size ao n cp R∧Below w.heap.size w w':=by
 obtain ⟨v,R,code,rfl,hc,hr,ho,hb⟩:=h
 obtain ⟨ao,cp,rfl,_⟩:=hr.form
 refine ⟨ao,_,cp,R,code,rfl,hc,⟨rfl,hr,ho,fun k q=>?_⟩,hb⟩
 rcases q with q | ⟨c,m,q⟩
 ·exact World.ownsRow.lt hr k q
 ·exact (ho.o c m).lt q
structure CfB (w w':World) (L:List St) (G lo hi:Nat) (ao:Option Addr) (n cp:Nat) (R:List Ce) (code:Int):Prop where
 b:Below w.heap.size w w'
 y:w'.heap[G]?=some (.cells #[.slice ao n cp,.int .i64 code] 53 (0,0))
 r:CfQ w' lo hi ao n cp R
 a:CoR L R code
 z1:w.heap.size≤lo
 z2:hi≤w'.heap.size
 g0:w.heap.size≤G
 g1:G<lo∨hi≤G
set_option maxHeartbeats 1000000 in
theorem c_eqCO {w:World} {lo hi lo' hi' n m cp cp':Nat} {ao bo:Option Addr} {R R':List Ce} {code code':Int} (h:CfQ w lo hi ao n cp R) (k:CfQ w lo' hi' bo m cp' R') (e:R.map Ce.key=R'.map Ce.key∧code=code') (b:CoB R) :
  Calls Tryz.prog 31 #[.agg #[.slice ao n cp,.int .i64 code],.agg #[.slice bo m cp',.int .i64 code']] w fun e w'=>e=.returned (.bool true)∧Below w.heap.size w w':=by
 obtain ⟨e,rfl⟩:=e
 obtain rfl:n=m:=by rw [← h.l,← k.l];exact map_len e
 obtain ⟨HT0,HX⟩:=box_so w #[.slice ao n cp,.int .i64 code] #[.slice bo n cp',.int .i64 code] 53
 have H:=hide h
 have K:=hide k
 have E:=hide e
 have Bd:=hide b
 clear h k e b
 have x0:=cellKC (HX.out _ (Below.refl _ _)).1 0 rfl
 have y0:=cellKC (HX.out _ (Below.refl _ _)).2 0 rfl
 go_enter Tryz.func31,Tryz.ntmps31
 go_wp2_with fail
 clear x0 y0
 generalize (w.alloc (.cells #[.slice ao n cp,.int .i64 code] 53)).alloc (.cells #[.slice bo n cp',.int .i64 code] 53)=W0 at HT0 HX ⊢
 refine (c_eqCellS H.out.l K.out.l E.out (by rw [← H.out.l];exact Bd.out.l) Bd.out.sm (ces_past H.out.at HT0.out) (ces_past K.out.at HT0.out)).mono ?_
 rintro e w1 ⟨rfl,hb1⟩
 have HT1:=hide (chain HT0.out hb1)
 have x1:=cellKC (HX.out _ hb1).1 1 rfl
 have y1:=cellKC (HX.out _ hb1).2 1 rfl
 clear hb1
 go_wp2
 go_ret
 exact ⟨rfl,HT1.out⟩
set_option maxHeartbeats 1000000 in
theorem c_markCO {w:World} {lo hi n cp:Nat} {ao:Option Addr} {R:List Ce} {code:Int} (h:CfQ w lo hi ao n cp R) (b:CoB R) :
  Calls Tryz.prog 34 #[.agg #[.slice ao n cp,.int .i64 code],.int .i64 1] w fun e w'=>e=.returned (.int .i64 ((1+totC R:Nat):Int))∧(OwnC w' lo (.slice ao n cp) (mkCs 1 R)∧CesO w' lo (mkCs 1 R))∧GrownS w w' (CBlk (.slice ao n cp) R):=by
 have HB0:Hid (Below w.heap.size w (w.alloc (.cells #[.slice ao n cp,.int .i64 code] 53))):=(Below.refl _ _).alloc (Nat.le_refl _) _
 have HX:=hide (heap_alloc_new w (.cells #[.slice ao n cp,.int .i64 code] 53))
 have H:=hide h
 have Bd:=hide b
 clear h b
 have x0:=cellKC HX.out 0 rfl
 go_enter Tryz.func34,Tryz.ntmps34
 go_wp2_with fail
 clear x0
 generalize hW0:w.alloc (.cells #[.slice ao n cp,.int .i64 code] 53)=W0 at HB0 HX ⊢
 clear hW0
 refine (c_markCellS 1 (Nat.le_refl _) Bd.out.t H.out.l (by rw [← H.out.l];exact Bd.out.l) Bd.out.sm (H.out.r.past HB0.out) (H.out.o.past HB0.out)).mono ?_
 rintro e w1 ⟨rfl,hM⟩
 have HM:=hide hM
 have HG:Hid (GrownS w w1 (CBlk (.slice ao n cp) R)):=((GrownS.ofBelow HB0.out).trans hM.g).weak (fun k q=>q.elim (fun f=>f.elim) id)
 clear hM
 go_wp2
 go_ret
 exact ⟨rfl,⟨HM.out.r,HM.out.o⟩,HG.out⟩
set_option maxHeartbeats 1000000 in
theorem c_heldCO {w:World} {lo n cp:Nat} {ao:Option Addr} {R:List Ce} {code:Int} (l:R.length=n) (b:CoB R) (h:OwnC w lo (.slice ao n cp) (mkCs 1 R)∧CesO w lo (mkCs 1 R)) :
  Calls Tryz.prog 35 #[.agg #[.slice ao n cp,.int .i64 code],.int .i64 1] w fun e w'=>e=.returned (.int .i64 ((1+totC R:Nat):Int))∧Below w.heap.size w w':=by
 have HB0:Hid (Below w.heap.size w (w.alloc (.cells #[.slice ao n cp,.int .i64 code] 53))):=(Below.refl _ _).alloc (Nat.le_refl _) _
 have HX:=hide (heap_alloc_new w (.cells #[.slice ao n cp,.int .i64 code] 53))
 have H:=hide h
 have Bd:=hide b
 have HL:=hide l
 clear h b l
 have x0:=cellKC HX.out 0 rfl
 go_enter Tryz.func35,Tryz.ntmps35
 go_wp2_with fail
 clear x0
 generalize hW0:w.alloc (.cells #[.slice ao n cp,.int .i64 code] 53)=W0 at HB0 HX ⊢
 clear hW0
 refine (c_heldCellS 1 (Nat.le_refl _) Bd.out.t HL.out (by rw [← HL.out];exact Bd.out.l) Bd.out.sm (H.out.1.past HB0.out) (H.out.2.past HB0.out)).mono ?_
 rintro e w1 ⟨rfl,hb1⟩
 have HT1:=hide (chain HB0.out hb1)
 have hn:¬ (((1+totC R:Nat):Int)<0):=by omega
 clear hb1
 go_wp2
 go_ret
 exact ⟨rfl,HT1.out⟩
theorem c_i_CellsOfL {w:World} {ao:Option Addr} {N ca:Nat} {L:List St} (hN:L.length=N) (lN:N≤1048576) (ok:∀ s∈L,s.x.Ok) (hm:MX w) (hA:StsAt w ao L) :
  Calls Tryz.prog 30 #[.slice ao N ca] w (CoP w L):=by
 have e:(L.pmap (fun s h=>(⟨s,h⟩:StO)) ok).map Subtype.val=L:=by rw [List.map_pmap];simp
 have q:=c_i_CellsOf (ca:=ca) (L.pmap (fun s h=>(⟨s,h⟩:StO)) ok) (by rw [List.length_pmap];exact hN) lN hm (by rw [e];exact hA)
 rw [e] at q
 exact q
theorem not_some {a b:Nat} (h:a≠b):¬ (some a=some b):=fun q=>h (by injection q)
set_option maxHeartbeats 16000000 in
theorem walkCellsOf (ao:Option Addr) (ca:Nat) (L:List St) (w:World) (lL:L.length≤maxLen) (hA:StsAt w ao L) (ok:∀ s∈L,StOk s) (hm:MX w) :
  Calls Tryz.prog 5 #[.slice ao L.length ca] w fun e w'=>e=.returned (.bool true)∧Below w.heap.size w w':=by
 obtain ⟨N,hN⟩:∃ N,L.length=N:=⟨_,rfl⟩
 rw [hN] at lL ⊢
 have HN:=hide hN
 have HA:=hide hA
 have OKx:Hid (∀ s∈L,s.x.Ok):=fun s hs=>(ok s hs).x
 have HMx:=hide hm
 have HAl:Hid (∀ (X:World) o,Below X.heap.size X (X.alloc o)):=fun X o=>(Below.refl _ _).alloc (Nat.le_refl _) _
 clear hN hA ok hm
 go_enter Tryz.func5,Tryz.ntmps5
 go_wp2_with fail
 refine (c_szStampedS ca HN.out lL OKx.out HA.out).mono ?_
 rintro e w1 ⟨v,rfl,hv,hb1⟩
 have HT1:=hide hb1
 clear hb1
 by_cases hv0:v<0
 ·clear hv
  go_wp2
  go_ret
  exact ⟨rfl,HT1.out⟩
 have lN:=hv hv0
 clear hv lL
 go_upto_region 5 with fail
 go_cut [4] (fun v w'=>∃ (G lo hi:Nat) (ar:Option Addr) (n c:Nat) (R:List Ce) (code:Int),v=.pointer (some ⟨G,0,none⟩)∧Hid (CfB w1 w' L G lo hi ar n c R code))
 case first=>
  go_wp2_with fail
  refine (c_toStampedS ca HN.out lN (sts_past HA.out HT1.out)).mono ?_
  rintro e X1 ⟨rfl,r1,hb1⟩
  have I1:=hide r1
  have B1:=hide hb1
  clear r1 hb1
  go_wp2_with fail
  refine (c_s_CellsOf (ca:=N) HN.out lN OKx.out I1.out.at).mono ?_
  intro e Y2 hP
  obtain ⟨ao2,n2,c2,R2,code2,rfl,ha,hr,hb⟩:=hP.open
  have hal:=HAl.out Y2 (.cells #[.slice ao2 n2 c2,.int .i64 code2] 53)
  have S2:Hid (CfB w1 (Y2.alloc (.cells #[.slice ao2 n2 c2,.int .i64 code2] 53)) L Y2.heap.size X1.heap.size Y2.heap.size ao2 n2 c2 R2 code2):=⟨chain (chain B1.out hb) hal,heap_alloc_new Y2 (.cells #[.slice ao2 n2 c2,.int .i64 code2] 53),hr.past hal,ha,(Nat.le_trans B1.out.size (Nat.le_refl _)),hal.size,Nat.le_trans (Nat.le_trans B1.out.size (Nat.le_refl _)) hb.size,.inr (Nat.le_refl _)⟩
  clear hP ha hr hb hal
  go_wp2
  go_meet
  exact ⟨Y2.heap.size,_,_,ao2,n2,c2,R2,code2,rfl,S2⟩
 case rest=>
 obtain ⟨b4,lo4,hi4,ar4,n4,c4,R4,code4,rfl,S4⟩:=hcut
 obtain ⟨W4,hw⟩:∃ X,wc=X:=⟨_,rfl⟩
 rw [hw] at S4 ⊢
 clear hw
 have HT4:=hide (chain HT1.out S4.out.b)
 have HW4:=hide S4.out.r
 have HY4:=hide S4.out.y
 have A4:=hide S4.out.a
 have ZZ4:Hid (w.heap.size≤W4.heap.size∧b4<W4.heap.size∧w.heap.size≤b4∧hi4≤W4.heap.size):=⟨HT4.out.size,(Array.getElem?_eq_some_iff.1 S4.out.y).1,Nat.le_trans HT1.out.size S4.out.g0,S4.out.z2⟩
 clear S4 HT1
 go_wp2_with fail
 refine (c_toStampedS ca HN.out lN (sts_past HA.out HT4.out)).mono ?_
 rintro e w5 ⟨rfl,hr5,hb5⟩
 have SX5:=hide hr5
 have HT5:=hide (chain HT4.out hb5)
 have HW5:=hide (HW4.out.past hb5)
 have HYw5:=hide (row_pastS HY4.out hb5)
 clear hr5 hb5 HT4 HW4 HY4
 generalize W4.heap.size=g5 at SX5 ZZ4 ⊢
 have ZX:Hid (g5<w5.heap.size):=SX5.out.lt
 go_upto_region 7 with fail
 go_cut [6] (fun v w'=>∃ (G lo hi:Nat) (ar:Option Addr) (n c:Nat) (R:List Ce) (code:Int),v=.pointer (some ⟨G,0,none⟩)∧Hid (CfB w5 w' L G lo hi ar n c R code))
 case first=>
  go_wp2_with fail
  refine (c_i_CellsOfL (ca:=N) HN.out lN OKx.out (HMx.out.past HT5.out) SX5.out.at).mono ?_
  intro e Y4 hP
  obtain ⟨ao4,n4,c4,R4,code4,rfl,ha,hr,hb⟩:=hP.open
  have hal:=HAl.out Y4 (.cells #[.slice ao4 n4 c4,.int .i64 code4] 53)
  have S4:Hid (CfB w5 (Y4.alloc (.cells #[.slice ao4 n4 c4,.int .i64 code4] 53)) L Y4.heap.size w5.heap.size Y4.heap.size ao4 n4 c4 R4 code4):=⟨chain hb hal,heap_alloc_new Y4 (.cells #[.slice ao4 n4 c4,.int .i64 code4] 53),hr.past hal,ha,(Nat.le_refl _),hal.size,Nat.le_trans (Nat.le_refl _) hb.size,.inr (Nat.le_refl _)⟩
  clear hP ha hr hb hal
  go_wp2
  go_meet
  exact ⟨Y4.heap.size,_,_,ao4,n4,c4,R4,code4,rfl,S4⟩
 case rest=>
 obtain ⟨b6,lo6,hi6,ar6,n6,c6,R6,code6,rfl,S6⟩:=hcut
 obtain ⟨W6,hw⟩:∃ X,wc=X:=⟨_,rfl⟩
 rw [hw] at S6 ⊢
 clear hw
 have A6:=hide S6.out.a
 have HG6:=hide S6.out.r
 have HYg6:=hide S6.out.y
 have ZZ6:Hid (w5.heap.size≤b6∧w5.heap.size≤lo6∧hi6≤W6.heap.size∧(b6<lo6∨hi6≤b6)):=⟨S6.out.g0,S6.out.z1,S6.out.z2,S6.out.g1⟩
 have BA:=hide (A6.out.bounds OKx.out)
 have EQ:=hide (CoR.same OKx.out A6.out A4.out)
 have HL6:=hide S6.out.r.l
 have HT6:=hide (chain HT5.out S6.out.b)
 have HW6:=hide (HW5.out.past S6.out.b)
 have HYw6:=hide (row_pastS HYw5.out S6.out.b)
 have SX6:=hide (SX5.out.past S6.out.b)
 clear S6 HT5 HW5 HYw5 SX5
 obtain ⟨x0,x1⟩:=box2 HYg6.out
 obtain ⟨y0,y1⟩:=box2 HYw6.out
 go_wp2_with fail
 clear x0 x1 y0 y1
 refine (c_eqCO HG6.out HW6.out EQ.out BA.out).mono ?_
 rintro e w7 ⟨rfl,hb7⟩
 have HT7:=hide (chain HT6.out hb7)
 have HG7:=hide (HG6.out.past hb7)
 have HW7:=hide (HW6.out.past hb7)
 have HYg7:=hide (row_pastS HYg6.out hb7)
 have HYw7:=hide (row_pastS HYw6.out hb7)
 have SX7:=hide (SX6.out.past hb7)
 clear hb7 HT6 HG6 HW6 HYg6 HYw6 SX6
 go_wp2_with fail
 refine (c_toStampedS ca HN.out lN (sts_past HA.out HT7.out)).mono ?_
 rintro e w8 ⟨rfl,hr8,hb8⟩
 have SY8:=hide hr8
 clear hr8
 have HT8:=hide (chain HT7.out hb8)
 have HG8:=hide (HG7.out.past hb8)
 have HW8:=hide (HW7.out.past hb8)
 have HYg8:=hide (row_pastS HYg7.out hb8)
 have HYw8:=hide (row_pastS HYw7.out hb8)
 have SX8:=hide (SX7.out.past hb8)
 clear hb8 HT7 HG7 HW7 HYg7 HYw7 SX7
 go_wp2_with fail
 refine (c_eqStampedS _ _ HN.out lN SX8.out.at SY8.out.at).mono ?_
 rintro e w9 ⟨rfl,hb9⟩
 clear SY8
 have HT9:=hide (chain HT8.out hb9)
 have HG9:=hide (HG8.out.past hb9)
 have HW9:=hide (HW8.out.past hb9)
 have HYg9:=hide (row_pastS HYg8.out hb9)
 have HYw9:=hide (row_pastS HYw8.out hb9)
 have SX9:=hide (SX8.out.past hb9)
 clear hb9 HT8 HG8 HW8 HYg8 HYw8 SX8
 go_wp2_with fail
 refine (c_markStampedS lN SX9.out).mono ?_
 rintro e w10 ⟨rfl,hg⟩
 have z4:=ZZ4.out
 have z5:=ZX.out
 have z6:=ZZ6.out
 have hs:=gS hg
 have HG10:=hide (HG9.out.keptS hs (fun k a b=>not_some (by omega)))
 have HW10:=hide (HW9.out.keptS hs (fun k a b=>not_some (by omega)))
 have HYg10:=hide (hs.row HYg9.out (not_some (by omega)))
 have HYw10:=hide (hs.row HYw9.out (not_some (by omega)))
 have HT10:Hid (Below w.heap.size w w10):=GrownS.below HT9.out HT9.out.size hs (fun k q=>by injection q with q;omega)
 have hn10:¬ (((1+8*N:Nat):Int)<0):=by omega
 clear hs hg z4 z5 z6 HG9 HW9 HYg9 HYw9 HT9 SX9
 obtain ⟨TA,hTA⟩:∃ T:Nat,1+8*N=T:=⟨_,rfl⟩
 rw [hTA] at hn10 ⊢
 clear hTA
 obtain ⟨x0,x1⟩:=box2 HYg10.out
 obtain ⟨y0,y1⟩:=box2 HYw10.out
 go_wp2_with fail
 clear x0 x1 y0 y1
 refine (c_eqCO HG10.out HW10.out EQ.out BA.out).mono ?_
 rintro e w11 ⟨rfl,hb11⟩
 have HT11:=hide (chain HT10.out hb11)
 have HG11:=hide (HG10.out.past hb11)
 have HW11:=hide (HW10.out.past hb11)
 have HYg11:=hide (row_pastS HYg10.out hb11)
 have HYw11:=hide (row_pastS HYw10.out hb11)
 clear hb11 HT10 HG10 HW10 HYg10 HYw10
 obtain ⟨x0,x1⟩:=box2 HYg11.out
 go_wp2_with fail
 clear x0 x1
 refine (c_markCO HG11.out BA.out).mono ?_
 rintro e w12 ⟨rfl,hm12,hg12⟩
 have hS:=HG11.out.hi
 have z4:=ZZ4.out
 have z5:=ZX.out
 have z6:=ZZ6.out
 have HW12:=hide (HW11.out.keptS hg12 (fun k a b q=>by have:=hS _ q;omega))
 have HYw12:=hide (hg12.row HYw11.out (fun q=>by have:=hS _ q;omega))
 have HYg12:=hide (hg12.row HYg11.out (fun q=>by have:=hS _ q;omega))
 have HT12:Hid (Below w.heap.size w w12):=GrownS.below HT11.out HT11.out.size hg12 (fun k q=>by have:=hS _ q;omega)
 have MG12:=hide hm12
 clear hS z4 z5 z6 hg12 hm12 HG11 HW11 HYg11 HYw11 HT11
 obtain ⟨TT,hTT⟩:∃ T,1+totC R6=T:=⟨_,rfl⟩
 have HTT:=hide hTT
 rw [hTT]
 clear hTT
 obtain ⟨x0,x1⟩:=box2 HYg12.out
 go_wp2_with fail
 clear x0 x1
 refine (c_heldCO HL6.out BA.out MG12.out).mono ?_
 rintro e w13 ⟨rfl,hb13⟩
 rw [HTT.out]
 have hnT:¬ ((TT:Int)<0):=by omega
 have HT13:=hide (chain HT12.out hb13)
 have HW13:=hide (HW12.out.past hb13)
 have HYg13:=hide (row_pastS HYg12.out hb13)
 have HYw13:=hide (row_pastS HYw12.out hb13)
 have MG13:=hide (And.intro (MG12.out.1.past hb13) (MG12.out.2.past hb13))
 clear hb13 HT12 HW12 HYg12 HYw12 MG12
 go_upto_region 24 with fail
 go_cut [10] (fun v w'=>∃ (G lo hi:Nat) (ar:Option Addr) (n c:Nat) (R:List Ce) (code:Int),v=.pointer (some ⟨G,0,none⟩)∧Hid (CfB w13 w' L G lo hi ar n c R code))
 case first=>
  go_wp2_with fail
  refine (c_toStampedS ca HN.out lN (sts_past HA.out HT13.out)).mono ?_
  rintro e X5 ⟨rfl,r5,hb5⟩
  have I5:=hide r5
  have B5:=hide hb5
  clear r5 hb5
  go_wp2_with fail
  refine (c_i_CellsOfL (ca:=N) HN.out lN OKx.out (HMx.out.past (chain HT13.out B5.out)) I5.out.at).mono ?_
  intro e Y6 hP
  obtain ⟨ao6,n6,c6,R6,code6,rfl,ha,hr,hb⟩:=hP.open
  have hal:=HAl.out Y6 (.cells #[.slice ao6 n6 c6,.int .i64 code6] 53)
  have S6:Hid (CfB w13 (Y6.alloc (.cells #[.slice ao6 n6 c6,.int .i64 code6] 53)) L Y6.heap.size X5.heap.size Y6.heap.size ao6 n6 c6 R6 code6):=⟨chain (chain B5.out hb) hal,heap_alloc_new Y6 (.cells #[.slice ao6 n6 c6,.int .i64 code6] 53),hr.past hal,ha,(Nat.le_trans B5.out.size (Nat.le_refl _)),hal.size,Nat.le_trans (Nat.le_trans B5.out.size (Nat.le_refl _)) hb.size,.inr (Nat.le_refl _)⟩
  clear hP ha hr hb hal
  go_wp2
  go_meet
  exact ⟨Y6.heap.size,_,_,ao6,n6,c6,R6,code6,rfl,S6⟩
 case rest=>
 obtain ⟨b15,lo15,hi15,ar15,n15,c15,R15,code15,rfl,S15⟩:=hcut
 obtain ⟨W15,hw⟩:∃ X,wc=X:=⟨_,rfl⟩
 rw [hw] at S15 ⊢
 clear hw
 have HH15:=hide S15.out.r
 have HYh15:=hide S15.out.y
 have BA15:=hide (S15.out.a.bounds OKx.out)
 have EQ15:=hide (CoR.same OKx.out S15.out.a A4.out)
 have HT15:=hide (chain HT13.out S15.out.b)
 have HW15:=hide (HW13.out.past S15.out.b)
 have HYg15:=hide (row_pastS HYg13.out S15.out.b)
 have HYw15:=hide (row_pastS HYw13.out S15.out.b)
 have MG15:=hide (And.intro (MG13.out.1.past S15.out.b) (MG13.out.2.past S15.out.b))
 clear S15 HT13 HW13 HYg13 HYw13 MG13
 obtain ⟨x0,x1⟩:=box2 HYh15.out
 obtain ⟨y0,y1⟩:=box2 HYw15.out
 go_wp2_with fail
 clear x0 x1 y0 y1
 refine (c_eqCO HH15.out HW15.out EQ15.out BA15.out).mono ?_
 rintro e w16 ⟨rfl,hb16⟩
 have HT16:=hide (chain HT15.out hb16)
 have HYg16:=hide (row_pastS HYg15.out hb16)
 have MG16:=hide (And.intro (MG15.out.1.past hb16) (MG15.out.2.past hb16))
 clear hb16 HT15 HYg15 MG15
 obtain ⟨x0,x1⟩:=box2 HYg16.out
 go_wp2_with fail
 clear x0 x1
 refine (c_heldCO HL6.out BA.out MG16.out).mono ?_
 rintro e w17 ⟨rfl,hb17⟩
 rw [HTT.out]
 have HT17:=hide (chain HT16.out hb17)
 clear hb17
 go_wp2
 go_ret
 exact ⟨rfl,HT17.out⟩
end Go.Proofs.YtiiclgcpagdekaaGreatDoor
