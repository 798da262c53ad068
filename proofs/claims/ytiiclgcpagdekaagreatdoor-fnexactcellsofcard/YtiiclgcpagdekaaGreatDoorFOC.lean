/-
 The closures of CellsOf: what puts a sample, what tells the samples.
-/
import Derived.Test.YtiiclgcpagdekaaGreatDoorFOA
namespace Go.Proofs.YtiiclgcpagdekaaGreatDoor
set_option linter.unusedVariables false
set_option linter.unusedSimpArgs false
open Go.ChangeShapes Go.WideShapes Go.ChangeAt Go.RowKit Go.PlainAid Go.Lib Go.Maps
set_option maxRecDepth 10000
structure AlB (w:World) (A B:Nat) (R:List Ce):Prop where
 ex:∃ v,w.heap[A]?=some (.cells #[.string aln,v] 32 (0,0))∧OwnC w B v R
 o:CesO w B R
 lt:A<B
 le:B≤w.heap.size
def PuC (w:World) (A B:Nat) (R:List Ce) (n:Int) (x:Sx) (e:Ending) (w':World):Prop:=
 ∃ code,e=.returned (.int .i64 code)∧w.grownBy w' (some A)∧((code=0∧∃ R',AlB w' A B R'∧PtA aln R n x aln R' 0)∨(code≠0∧PtA aln R n x ⟨#[]⟩ [] code))
theorem pta_zero {nm nm':ByteArray} {L R:List Ce} {win code:Int} {x:Sx} (h:PtA nm L win x nm' R code):(code=0∧nm'=nm)∨(code≠0∧nm'=⟨#[]⟩∧R=[]):=by
 cases h with
 | form=>exact .inr ⟨by decide,rfl,rfl⟩
 | kind=>exact .inr ⟨by decide,rfl,rfl⟩
 | there=>exact .inl ⟨rfl,rfl⟩
 | full=>exact .inr ⟨by decide,rfl,rfl⟩
 | new=>exact .inl ⟨rfl,rfl⟩
theorem shi_own {w:World} {B n cp:Nat} {ao:Option Addr} {R:List Ce} (r:OwnC w B (.slice ao n cp) R) (o:CesO w B R) (hn:R.length=n) (q:CnQ R) (l:n≤60):ShI w ao n R:=
 ⟨hn,by omega,q.ok,q.sm,fun c hc=>(q.ky c hc).2,fun c hc=>(o.o c hc).plgP,OwnC.at r o.at⟩
set_option maxHeartbeats 4000000 in
theorem c_put1 {w:World} {A B:Nat} {R:List Ce} (n:Int) (x:Sx) (ox:x.Ok) (hm:MX w) (h:AlB w A B R) (rt:csR R=true) (q:CnQ R) :
  Calls Tryz.prog 74 #[.int .i64 n,.agg (sxArr x),.pointer (some ⟨A,0,none⟩)] w (PuC w A B R n x):=by
 obtain ⟨v,hrow,hown⟩:=h.ex
 obtain ⟨ao,cp,rfl,_⟩:=hown.form
 obtain ⟨nn,hnn⟩:∃ k,R.length=k:=⟨_,rfl⟩
 rw [hnn] at hown hrow
 have HNn:=hide hnn
 have HR:=hide hown
 have HO:=hide h.o
 have HLt:=hide h.lt
 have HLe:=hide h.le
 have OX:=hide ox
 have HMx:=hide hm
 have RT:=hide rt
 have HQ:=hide q
 have l60:nn≤60:=by have:=(csR_iff.1 rt).1;omega
 have al:Below w.heap.size w (w.alloc (.cells (sxArr x) 37)):=(Below.refl _ _).alloc (Nat.le_refl _) _
 have HA0:=hide (row_pastP hrow al)
 have X0:=hide (heap_alloc_new w (.cells (sxArr x) 37))
 have HB0:=hide al
 have hAw:A<w.heap.size:=(Array.getElem?_eq_some_iff.1 hrow).1
 have z0:=cellKC hrow 0 rfl
 have z1:=cellKC hrow 1 rfl
 clear hnn hown hrow h ox hm rt q al
 go_enter Tryz.func74,Tryz.ntmps74
 go_wp2_with fail
 clear z0 z1
 generalize w.alloc (.cells (sxArr x) 37)=W0 at HA0 X0 HB0 ⊢
 refine (c_i_ShardPut aln n x (by show 5≤maxLen;unfold maxLen;omega) OX.out (HMx.out.past HB0.out) ((shi_own HR.out HO.out HNn.out HQ.out l60).past HB0.out)).mono ?_
 rintro e w1 ⟨v1,nm1,R1,code,rfl,hA,hS,hb1⟩
 obtain ⟨⟨vr,vo,rfl,h1,h2,h3⟩,h4⟩:=hS
 obtain ⟨ar,cr,rfl,_⟩:=h1.form
 obtain ⟨bo,cq,rfl,_⟩:=h2.form
 have HA1:=hide (row_pastP HA0.out hb1)
 have HPt:=hide hA
 have hbz:Below w.heap.size w (w1.alloc (.cells #[.string nm1,.slice ar R1.length cr,.slice bo ([]:List Ce).length cq,.int .i64 code] 34)):=chain (chain HB0.out hb1) ((Below.refl _ _).alloc (Nat.le_refl _) _)
 have al1:Below w1.heap.size w1 (w1.alloc (.cells #[.string nm1,.slice ar R1.length cr,.slice bo ([]:List Ce).length cq,.int .i64 code] 34)):=(Below.refl _ _).alloc (Nat.le_refl _) _
 have HBz:=hide hbz
 have HA2:=hide (row_pastP HA1.out al1)
 have Y2:=hide (heap_alloc_new w1 (.cells #[.string nm1,.slice ar R1.length cr,.slice bo ([]:List Ce).length cq,.int .i64 code] 34))
 have hw0:w.heap.size≤W0.heap.size:=HB0.out.size
 have HR1:=hide ((h1.past al1).le hw0)
 have HO1:Hid (CesO (w1.alloc (.cells #[.string nm1,.slice ar R1.length cr,.slice bo ([]:List Ce).length cq,.int .i64 code] 34)) w.heap.size R1):=by have:=(h4.past al1).le hw0;rw [List.append_nil] at this;exact this
 clear h1 h2 h3 h4 hA hb1 hbz al1 HA0 HA1 X0
 go_upto_region 2 with fail
 generalize w1.alloc (.cells #[.string nm1,.slice ar R1.length cr,.slice bo ([]:List Ce).length cq,.int .i64 code] 34)=W2 at HBz HA2 Y2 HR1 HO1 ⊢
 generalize w1.heap.size=ry at Y2 ⊢
 have y0:=cellKC Y2.out 0 rfl
 have y1:=cellKC Y2.out 1 rfl
 have y3:=cellKC Y2.out 3 rfl
 have a0:=cellKC HA2.out 0 rfl
 have a1:=cellKC HA2.out 1 rfl
 have f0:=fzR 0 HA2.out
 have f1:=fzR 1 HA2.out
 have hryA:Hid (ry≠A):=fun e=>by
  subst e
  have h1:=HA2.out
  rw [Y2.out] at h1
  injection h1 with h1
  injection h1 with _ h1
  revert h1;decide
 have hne:=hryA.out
 have hne2:A≠ry:=fun e=>hne e.symm
 have HRow:=hide (heap_setCell_same _ A 1 _ _ (.slice ar R1.length cr) (heap_setCell_same _ A 0 _ _ (.string nm1) HA2.out))
 have HGr:Hid (w.grownBy ((W2.setCell ⟨A,0,none⟩ (.string nm1)).setCell ⟨A,1,none⟩ (.slice ar R1.length cr)) (some A)):=by
  have g1:w.grownBy W2 (some A):=World.grownBy.but ⟨HBz.out.os,HBz.out.tape,HBz.out.output,HBz.out.size,fun i hi _=>HBz.out.block i hi⟩ _
  exact (g1.trans (grown_one _ _ _ _)).trans (grown_one _ _ _ _)
 have HR2:Hid (OwnC ((W2.setCell ⟨A,0,none⟩ (.string nm1)).setCell ⟨A,1,none⟩ (.slice ar R1.length cr)) w.heap.size (.slice ar R1.length cr) R1):=OwnC.setNe (OwnC.setNe HR1.out hAw _) hAw _
 have HO2:Hid (CesO ((W2.setCell ⟨A,0,none⟩ (.string nm1)).setCell ⟨A,1,none⟩ (.slice ar R1.length cr)) w.heap.size R1):=CesO.setNe (CesO.setNe HO1.out hAw _) hAw _
 go_wp2
 go_ret
 have hsz:w.heap.size≤((W2.setCell ⟨A,0,none⟩ (.string nm1)).setCell ⟨A,1,none⟩ (.slice ar R1.length cr)).heap.size:=HGr.out.size
 rcases pta_zero HPt.out with ⟨rfl,rfl⟩ | ⟨hc,rfl,rfl⟩
 ·exact ⟨0,rfl,HGr.out,.inl ⟨rfl,R1,⟨⟨_,HRow.out,HR2.out.le HLe.out⟩,HO2.out.le HLe.out,HLt.out,Nat.le_trans HLe.out hsz⟩,HPt.out⟩⟩
 ·exact ⟨code,rfl,HGr.out,.inr ⟨hc,HPt.out⟩⟩
theorem c_inOrder (ao:Option Addr) (N ca:Nat) (w:World):Calls Tryz.prog 75 #[.slice ao N ca] w fun e w'=>e=.returned (.func (.func 120) #[] #[.pointer (some ⟨w.heap.size,0,none⟩)])∧w'=w.alloc (.cells #[.slice ao N ca] 55):=by
 go_enter Tryz.func75,Tryz.ntmps75
 go_wp2
 go_ret
 exact ⟨rfl,rfl⟩
abbrev StO:={ s:St // s.x.Ok }
def encSt (x:StO):Array Value:=#[.int .i64 x.1.n,.agg (sxArr x.1.x)]
attribute [local go_sem] Oper.semAt_some
set_option maxRecDepth 100000 in
set_option maxHeartbeats 2000000 in
theorem it_in (F:Fence) (n:Nat) (hF:F.fn 120) (hro:F.round=none) (hn:1≤n) (l Bs n₀ N ca:Nat) (ao:Option Addr) (L:List StO) (hN:L.length=N) (lN:N≤400) (J Jx:List StO→World→Prop) (W:World) (hJ:AbidesFrom W.heap.size J)
  (hY:∀ pre x W1,J pre W1→pre.length<N→YieldAt F (n - 1) Tryz.prog l (encSt x) W1 fun e W'=>
   (e=.returned (.bool true)∧J (pre ++ [x]) W'∧Below n₀ W1 W')∨(e=.returned (.bool false)∧Jx (pre ++ [x]) W'))
  (hBs:W.cell? ⟨Bs,0,none⟩=some (.slice ao N ca)) (hA:StsAt W ao (L.map Subtype.val)) (hlow:∀ a,ao=some a→0<N→a.block<n₀) (hn0:n₀≤W.heap.size) (h0:J [] W) :
  CallsIn F n Tryz.prog 120 (#[.func (.yield l) #[] #[]] ++ #[.pointer (some ⟨Bs,0,none⟩)]) W fun e W'=>(∃ v,e=.returned v) ∧
   ((∃ ys,ys=L∧J ys W')∨(∃ pre,(∃ k,k≤N∧pre=L.take k)∧Jx pre W')):=by
 have HN:=hide hN
 have HA:=hide hA
 have HL:=hide hlow
 clear hN hA hlow
 refine callsIn_of_wp Tryz.func120 rfl hF ?_ hro
 simp only [Tryz.ntmps120,List.size_toArray,List.length_cons,List.length_nil,Nat.reduceAdd,Nat.reduceSub,Array.replicate_succ,Array.replicate_zero,List.push_toArray,List.append_toArray,List.nil_append,List.cons_append]
 gi_wp2
 gi_loopw [7] (fun i wr=>∃ k:Nat,k≤N∧i=.int .i64 k∧J (L.take k) wr∧Below n₀ W wr∧W.heap.size≤wr.heap.size)
  (fun i _=>N - (Go.RowKit.intOf i).toNat)
 case atStart=>exact ⟨0,Nat.zero_le _,rfl,by rw [List.take_zero];exact h0,Below.refl _ _,Nat.le_refl _⟩
 case round=>
  obtain ⟨k,hk,rfl,hJs,hnx,hsz⟩:=hrel
  by_cases hlt:k<N
  ·obtain ⟨s,hs⟩:∃ s,L[k]?=some s:=⟨L[k]'(by have:=HN.out;omega),List.getElem?_eq_getElem _⟩
   obtain ⟨bb,off,e,hcell⟩:=HA.out (by rw [List.length_map];have:=HN.out;omega)
   subst e
   have hbl:=HL.out _ rfl (by omega)
   have hc:=hcell k s.1 (by rw [List.getElem?_map,hs];rfl)
   have cc:∀ j v,W.cell? ⟨bb,j,none⟩=some v→wr.cell? ⟨bb,j,none⟩=some v:=fun j v h=>(hnx.cell (p:=⟨bb,j,none⟩) hbl).trans h
   obtain ⟨x0,x1,x2,x3,x4,x5,x6,x7⟩:=hc
   have y0:=cc _ _ x0
   have y1:=cc _ _ x1
   have y2:=cc _ _ x2
   have y3:=cc _ _ x3
   have y4:=cc _ _ x4
   have y5:=cc _ _ x5
   have y6:=cc _ _ x6
   have y7:=cc _ _ x7
   have hJ2:J (L.take k) (wr.alloc (.cells (stArr s.1) 125)):=hJ _ wr _ none hJs (World.grownBy_alloc wr _ none) (fun r e=>by cases e)
   have hlk:(L.take k).length<N:=by rw [List.length_take];have:=HN.out;omega
   obtain ⟨fn,tmps,assign,body,hy,hR⟩:=hY _ s _ hJ2 hlk
   unfold encSt at hy
   try dsimp only at hy
   have htk:L.take (k+1)=L.take k ++ [s]:=by rw [List.take_add_one,hs];rfl
   have HTk:=hide htk
   have HHB:Hid (Below n₀ W (wr.alloc (.cells (stArr s.1) 125))):=hnx.alloc (Nat.le_trans hn0 hsz) _
   have HSz:Hid (W.heap.size≤(wr.alloc (.cells (stArr s.1) 125)).heap.size):=by show _≤_;simp;omega
   clear x0 x1 x2 x3 x4 x5 x6 x7 cc hcell htk hs
   gi_wp2
   refine hR.mono ?_
   rintro e W3 (⟨rfl,hJ3,hk3⟩ | ⟨rfl,hJx3⟩)
   ·gi_wp2
    go_roundw
    case rel=>exact ⟨k+1,by omega,by simp,by rw [HTk.out];exact hJ3,HHB.out.trans hk3,Nat.le_trans HSz.out hk3.size⟩
    case measure=>simp [Go.RowKit.intOf];omega
   ·gi_wp2
    refine bodyPost_ret (results_none rfl _ _ _) rfl ?_
    exact ⟨⟨_,rfl⟩,.inr ⟨_,⟨k+1,by omega,HTk.out.symm⟩,hJx3⟩⟩
  ·obtain rfl:k=N:=by omega
   have eL:L.take k=L:=List.take_of_length_le (by have:=HN.out;omega)
   rw [eL] at hJs
   gi_wp2
   go_end0
   exact ⟨⟨_,rfl⟩,.inl ⟨_,rfl,hJs⟩⟩
set_option maxRecDepth 512
attribute [local go_sem] Oper.semAt_some
set_option maxRecDepth 10000
theorem AgO.cells {w:World} {B k:Nat} {g:Ag} {p:Pl} (h:AgO w B g p) (hk:AgBlk g p k):∃ o,w.heap[k]?=some o∧o.isCells=true:=by
 rcases hk with (hk | hk) | (hk | hk)
 ·obtain ⟨c,f,q⟩:=h.P.ty k hk;exact ⟨_,q,rfl⟩
 ·obtain ⟨c,f,q⟩:=h.N.ty k hk;exact ⟨_,q,rfl⟩
 ·rcases h.E.2.2 with ⟨e',_⟩ | ⟨b,c,cur',e',h2,h3,h4⟩
  ·rw [e'] at hk;cases hk
  ·rw [e'] at hk
   obtain rfl:b=k:=Option.some.inj hk
   exact ⟨_,h3,rfl⟩
 ·rcases h.R.2.2 with ⟨e',_⟩ | ⟨b,c,cur',e',h2,h3,h4⟩
  ·rw [e'] at hk;cases hk
  ·rw [e'] at hk
   obtain rfl:b=k:=Option.some.inj hk
   exact ⟨_,h3,rfl⟩
def NoC (W:World) (row:Option Nat):Prop:=∀ r,row=some r→∃ o:Obj,W.heap[r]?=some o∧o.isCells=false
theorem OwnC.turn {W W':World} {B:Nat} {v:Value} {R:List Ce} {row:Option Nat} (h:OwnC W B v R) (hg:W.grownBy W' row) (hr:NoC W row):OwnC W' B v R:=
 h.keptS (gS hg) (fun k e q=>by
  obtain ⟨c,f,h1⟩:=own_ty h k e
  obtain ⟨o,h2,h3⟩:=hr k q
  rw [h1] at h2;cases h2;cases h3)
theorem CesO.turn {W W':World} {B:Nat} {R:List Ce} {row:Option Nat} (h:CesO W B R) (hg:W.grownBy W' row) (hr:NoC W row):CesO W' B R:=
 h.keptS (gS hg) (fun c hc k e q=>by
  obtain ⟨o,h1,h4⟩:=(h.o c hc).cells e
  obtain ⟨o',h2,h3⟩:=hr k q
  rw [h1] at h2;cases h2;rw [h4] at h3;cases h3)
theorem row_turn {W W':World} {k:Nat} {cs:Array Value} {T:TypeId} {row:Option Nat} (h:W.heap[k]?=some (.cells cs T (0,0))) (hg:W.grownBy W' row) (hr:NoC W row):W'.heap[k]?=some (.cells cs T (0,0)):=
 (hg.block k (Array.getElem?_eq_some_iff.1 h).1 (fun e=>by
  obtain ⟨o',h2,h3⟩:=hr k e.symm
  rw [h] at h2;cases h2;cases h3)).trans h
theorem AlB.turn {W W':World} {A B:Nat} {R:List Ce} {row:Option Nat} (h:AlB W A B R) (hg:W.grownBy W' row) (hr:NoC W row):AlB W' A B R:=by
 obtain ⟨v,h1,h2⟩:=h.ex
 exact ⟨⟨v,row_turn h1 hg hr,h2.turn hg hr⟩,h.o.turn hg hr,h.lt,Nat.le_trans h.le hg.size⟩
theorem pta_ok {R R':List Ce} {n:Int} {x:Sx} {nm nm':ByteArray} (h:PtA nm R n x nm' R' 0):(x.B=true∧winB n=true)∧PuA R n x R' 0:=by
 generalize hz:(0:Int)=z at h
 cases h with
 | form=>cases hz
 | kind=>cases hz
 | full=>cases hz
 | there c o R1 h hc k1 k2 hk hp hR=>exact ⟨h.2,.there c o _ hc k1 k2 hk hp hR⟩
 | new o R1 h hn hl hp hR=>exact ⟨h.2,.new o _ hn hl hp hR⟩
theorem pta_bad {R:List Ce} {n code:Int} {x:Sx} {nm':ByteArray} {R':List Ce} (h:PtA aln R n x nm' R' code) (r:csR R=true) (z:code≠0):(¬ (x.B=true∧winB n=true)∧code=1)∨((x.B=true∧winB n=true)∧PuA R n x [] code):=by
 cases h with
 | form h=>exact .inl ⟨fun q=>h ⟨aln_sh r,q.1,q.2⟩,rfl⟩
 | kind c h hc k1 k2 hk=>exact .inr ⟨h.2,.kind c hc k1 k2 hk⟩
 | full h hn hl=>exact .inr ⟨h.2,.full hn hl⟩
 | there=>exact absurd rfl z
 | new=>exact absurd rfl z
structure CoK (w:World) (Pv:Value) (pre:List StO) (W:World):Prop where
 al:∃ R,AlB W (w.heap.size+1) (w.heap.size+4) R∧CoI (pre.map Subtype.val) R
 y:W.heap[w.heap.size]?=some (.cells #[.slice none 0 0,.int .i64 0] 53 (0,0))
 p:W.heap[w.heap.size+1+1]?=some (.cells #[Pv] 127 (0,0))
 b:Below w.heap.size w W
theorem CoK.turn {w:World} {Pv:Value}:OwnFrom (w.heap.size+4) (CoK w Pv):=fun pre W W' row h hg hr=>by
 have nc:NoC W row:=fun r e=>(hr r e).2
 obtain ⟨R,h1,h2⟩:=h.al
 exact ⟨⟨R,h1.turn hg nc,h2⟩,row_turn h.y hg nc,row_turn h.p hg nc,h.b.grown hg h.b.size (fun j e=>by have:=(hr j e).1;omega)⟩
structure CoX (w:World) (c:Code) (pre:List StO) (W:World):Prop where
 c:c=.ret
 e:∃ ini last M code,pre=ini ++ [last]∧CoI (ini.map Subtype.val) M∧W.heap[w.heap.size]?=some (.cells #[.slice none 0 0,.int .i64 code] 53 (0,0))∧code≠0∧((¬ StR last.1∧code=1)∨(StR last.1∧PuA M last.1.n last.1.x [] code))
 b:Below w.heap.size w W
theorem CoX.turn {w:World} (c:Code):OwnFrom (w.heap.size+4) (CoX w c):=fun pre W W' row h hg hr=>by
 have nc:NoC W row:=fun r e=>(hr r e).2
 obtain ⟨ini,last,M,code,h1,h2,h3,h4,h5⟩:=h.e
 exact ⟨h.c,⟨ini,last,M,code,h1,h2,row_turn h3 hg nc,h4,h5⟩,h.b.grown hg h.b.size (fun j e=>by have:=(hr j e).1;omega)⟩
theorem coi_ok {L:List StO}:∀ s∈L.map Subtype.val,s.x.Ok:=fun s hs=>by
 obtain ⟨t,_,rfl⟩:=List.mem_map.1 hs
 exact t.2
theorem co_row {W W1:World} {k A:Nat} {o:Obj} (h:W.heap[k]?=some o) (hg:W.grownBy W1 (some A)) (hn:k≠A):W1.heap[k]?=some o:=(hg.block k (Array.getElem?_eq_some_iff.1 h).1 (fun e=>hn (by cases e;rfl))).trans h
theorem co_next {w W W1:World} {Pv:Value} {pre:List StO} {x:StO} {R:List Ce} {code:Int} (h:CoK w Pv pre W) (hc:CoI (pre.map Subtype.val) R) (hg:W.grownBy W1 (some (w.heap.size+1))) (hr:(code=0∧∃ R',AlB W1 (w.heap.size+1) (w.heap.size+4) R'∧PtA aln R x.1.n x.1.x aln R' 0)∨(code≠0∧PtA aln R x.1.n x.1.x ⟨#[]⟩ [] code)) (h0:code=0):CoK w Pv (pre ++ [x]) W1:=by
 rcases hr with ⟨_,R',h1,h2⟩ | ⟨q,_⟩
 ·obtain ⟨f,p⟩:=pta_ok h2
  refine ⟨⟨R',h1,?_⟩,co_row h.y hg (by omega),co_row h.p hg (by omega),h.b.grown hg h.b.size (fun j e=>by cases e;omega)⟩
  rw [List.map_append]
  exact .snoc _ _ _ _ hc f p
 ·exact absurd h0 q
theorem co_left {w W W1:World} {Pv:Value} {pre:List StO} {x:StO} {R:List Ce} {code:Int} (h:CoK w Pv pre W) (hc:CoI (pre.map Subtype.val) R) (rt:csR R=true) (hy:W1.heap[w.heap.size]?=some (.cells #[.slice none 0 0,.int .i64 0] 53 (0,0))) (hg:W.grownBy W1 (some (w.heap.size+1))) (hr:(code=0∧∃ R',AlB W1 (w.heap.size+1) (w.heap.size+4) R'∧PtA aln R x.1.n x.1.x aln R' 0)∨(code≠0∧PtA aln R x.1.n x.1.x ⟨#[]⟩ [] code)) (h0:code≠0):CoX w .ret (pre ++ [x]) ((W1.setCell ⟨w.heap.size,0,none⟩ (.slice none 0 0)).setCell ⟨w.heap.size,1,none⟩ (.int .i64 code)):=by
 rcases hr with ⟨q,_⟩ | ⟨_,h2⟩
 ·exact absurd q h0
 ·refine ⟨rfl,⟨pre,x,R,code,rfl,hc,heap_setCell_same _ w.heap.size 1 _ _ (.int .i64 code) (heap_setCell_same _ w.heap.size 0 _ _ (.slice none 0 0) hy),h0,pta_bad h2 rt h0⟩,?_⟩
  exact ((h.b.grown hg h.b.size (fun j e=>by cases e;omega)).setCell (Nat.le_refl _) _).setCell (Nat.le_refl _) _
theorem co_stop {L ini:List StO} {last:StO} {pre:List StO} {k:Nat} {M:List Ce} {code:Int} (h4:¬ 400<(L.map Subtype.val).length) (hp:pre=L.take k) (e:pre=ini ++ [last]) (m:CoI (ini.map Subtype.val) M) (z:code≠0) (h:(¬ StR last.1∧code=1)∨(StR last.1∧PuA M last.1.n last.1.x [] code)):CoR (L.map Subtype.val) [] code:=by
 have hl:ini.length+1=(L.take k).length:=by rw [← hp,e];simp
 have e1:ini=L.take ini.length:=by
  have:=congrArg (List.take ini.length) (e.symm.trans hp)
  rw [List.take_left,List.take_take,Nat.min_eq_left (by rw [List.length_take] at hl;omega)] at this
  exact this
 have e2:L[ini.length]?=some last:=by
  have:(ini ++ [last])[ini.length]?=some last:=by simp
  rw [← e,hp,List.getElem?_take,if_pos (by rw [List.length_take] at hl;omega)] at this
  exact this
 have e3:(L.map Subtype.val)[ini.length]?=some last.1:=by rw [List.getElem?_map,e2];rfl
 have m':CoI ((L.map Subtype.val).take ini.length) M:=by rw [← List.map_take,← e1];exact m
 rcases h with ⟨f,rfl⟩ | ⟨f,p⟩
 ·exact .form h4 _ _ M e3 m' f
 ·exact .fall h4 _ _ M code e3 m' f p z
theorem box_four (w:World) (a b c d:Obj):Hid (Below w.heap.size w ((((w.alloc a).alloc b).alloc c).alloc d))∧Hid (((((w.alloc a).alloc b).alloc c).alloc d).heap[w.heap.size]?=some a)∧Hid (((((w.alloc a).alloc b).alloc c).alloc d).heap[w.heap.size+1]?=some b)∧Hid (((((w.alloc a).alloc b).alloc c).alloc d).heap[w.heap.size+1+1]?=some c)∧Hid (((((w.alloc a).alloc b).alloc c).alloc d).heap[w.heap.size+1+1+1]?=some d)∧Hid (((((w.alloc a).alloc b).alloc c).alloc d).heap.size=w.heap.size+4):=by
 have a1:∀ (X:World) o,Below X.heap.size X (X.alloc o):=fun X o=>(Below.refl _ _).alloc (Nat.le_refl _) _
 have k0:=heap_alloc_new w a
 have k1:=heap_alloc_new (w.alloc a) b
 have k2:=heap_alloc_new ((w.alloc a).alloc b) c
 have k3:=heap_alloc_new (((w.alloc a).alloc b).alloc c) d
 simp only [World.size_alloc] at k1 k2 k3
 exact ⟨hide (chain (chain (chain (a1 _ _) (a1 _ _)) (a1 _ _)) (a1 _ _)),hide (((chain (chain (a1 _ _) (a1 _ _)) (a1 _ _)).block _ (by simp)).trans k0),hide (((chain (a1 _ _) (a1 _ _)).block _ (by simp)).trans k1),hide (((a1 _ _).block _ (by simp)).trans k2),hide k3,hide (by simp)⟩
theorem CoK.ret {w W:World} {Pv:Value} {L:List StO} {N:Nat} (h:CoK w Pv L W) (hN:¬ 400<(L.map Subtype.val).length):∃ ao n cp,W.heap[w.heap.size+1]?=some (.cells #[.string aln,.slice ao n cp] 32 (0,0))∧∃ R,CoR (L.map Subtype.val) R 0∧OwnC W (w.heap.size+1) (.slice ao n cp) R∧CesO W (w.heap.size+1) R:=by
 obtain ⟨R,h1,h2⟩:=h.al
 obtain ⟨v,h3,h4⟩:=h1.ex
 obtain ⟨ao,cp,rfl,_⟩:=h4.form
 exact ⟨ao,_,cp,h3,R,.ok R hN h2,h4.le (by omega),h1.o.le (by omega)⟩
set_option maxRecDepth 100000 in
set_option maxHeartbeats 8000000 in
theorem c_i_CellsOf {w:World} {ao:Option Addr} {N ca:Nat} (L:List StO) (hN:L.length=N) (lN:N≤1048576) (hm:MX w) (hA:StsAt w ao (L.map Subtype.val)) :
  Calls Tryz.prog 30 #[.slice ao N ca] w (CoP w (L.map Subtype.val)):=by
 refine (callsIn_wide (n:=6)).1 ?_
 refine callsIn_of_wp_marks Tryz.func30 rfl trivial ?_ rfl
 simp only [Tryz.ntmps30,List.size_toArray,List.length_cons,List.length_nil,Nat.reduceAdd,Nat.reduceSub,Array.replicate_succ,Array.replicate_zero,List.push_toArray,List.append_toArray,List.nil_append,List.cons_append]
 have HN:=hide hN
 have HA:=hide hA
 have HMx:=hide hm
 have HLw:Hid (∀ a,ao=some a→0<N→a.block<w.heap.size):=fun a e h0=>by
  obtain ⟨b,off,e2,hc⟩:=HA.out (by rw [List.length_map];have:=HN.out;omega)
  obtain ⟨s,hs⟩:∃ s,(L.map Subtype.val)[0]?=some s:=⟨_,List.getElem?_eq_getElem (by rw [List.length_map];have:=HN.out;omega)⟩
  rw [e2] at e;cases e
  exact World.block_lt_of_cell? _ _ (hc 0 s hs).1
 clear hN hA hm
 by_cases h4:400<N
 ·have HR:Hid (CoR (L.map Subtype.val) [] 2):=.size (by rw [List.length_map];have:=HN.out;omega)
  have h4i:(400:Int)<(N:Int):=by omega
  clear h4
  gi_wp2
  refine ⟨.agg #[.slice none 0 0,.int .i64 2],by simp [results,Tryz.results30,go_sem],?_⟩
  exact cop_none HR.out ((Below.refl _ _).alloc (Nat.le_refl _) _)
 ·have h4i:¬ (400:Int)<(N:Int):=by omega
  have H4:Hid (¬ 400<(L.map Subtype.val).length):=by show ¬ _;rw [List.length_map];have:=HN.out;omega
  have l4:N≤400:=by omega
  clear h4
  have hsf:=fun (W:World) (a:Addr) (m:Mode)=>run_store Tryz.prog W a (Value.func (.func 74) #[] #[.pointer (some ⟨w.heap.size+1,0,none⟩)]) m rfl
  gi_wp2_with (refine ⟨trivial,?_⟩;gi_at_call 75;refine (callsIn_wide.2 (c_inOrder ao N ca _)).mono ?_;rintro e w' ⟨rfl,rfl⟩)
  obtain ⟨hB0,y0,a0,p0,i0,hsz⟩:=box_four w (.cells #[.slice none 0 0,.int .i64 0] 53) (.cells #[.string ⟨#[97,108,111,110,101]⟩,.slice none 0 0] 32) (.cells #[.func (.func 74) #[] #[.pointer (some ⟨w.heap.size+1,0,none⟩)]] 127) (.cells #[.slice ao N ca] 55)
  obtain ⟨W0,hW0⟩:∃ W0,(((w.alloc (.cells #[.slice none 0 0,.int .i64 0] 53)).alloc (.cells #[.string ⟨#[97,108,111,110,101]⟩,.slice none 0 0] 32)).alloc (.cells #[.func (.func 74) #[] #[.pointer (some ⟨w.heap.size+1,0,none⟩)]] 127)).alloc (.cells #[.slice ao N ca] 55)=W0:=⟨_,rfl⟩
  rw [hW0] at hB0 y0 a0 p0 i0 hsz ⊢
  clear hW0 hsf
  have H0:CoK w (.func (.func 74) #[] #[.pointer (some ⟨w.heap.size+1,0,none⟩)]) [] W0:=⟨⟨[],⟨⟨_,a0.out,OwnC.nil _ _⟩,CesO.nil _ _,by omega,by rw [hsz.out];exact Nat.le_refl _⟩,.nil⟩,y0.out,p0.out,hB0.out⟩
  refine wpIn_rangeFunc_ownH rfl (by decide) (gf:=120) (lb:=#[.pointer (some ⟨w.heap.size+1+1+1,0,none⟩)]) rfl trivial (enters_of Tryz.func120 (by kernel_rfl) rfl)
   (encs:=encSt) (Kp:=Below w.heap.size) (S:=fun ys=>ys=L) (Sp:=fun pre=>∃ k,k≤N∧pre=L.take k) (N:=N) (w0:=W0)
   (fun l J Jx W hW hJ _ hY h0=>it_in Fence.wide 5 trivial rfl (by decide) l (w.heap.size+1+1+1) w.heap.size N ca ao L HN.out l4 J Jx W hJ hY (cell_past hW (cellKC i0.out 0 rfl)) (sts_past HA.out (chain hB0.out hW)) HLw.out (Nat.le_trans hB0.out.size hW.size) h0)
   belowK_t (belowK_b hB0.out.size) (Below.refl _ _) (fun _=>rfl)
   (CoK w (.func (.func 74) #[] #[.pointer (some ⟨w.heap.size+1,0,none⟩)])) (CoX w) (by rw [hsz.out];exact CoK.turn) (fun c=>by rw [hsz.out];exact CoX.turn c) H0
   (fun x a' W=>∃ Bx,w.heap.size+4≤Bx∧W.heap[Bx]?=some (.cells (sxArr x.1.x) 37 (0,0))∧a'=⟨#[.slice ao N ca,undef,.pointer (some ⟨w.heap.size,0,none⟩),.pointer (some ⟨w.heap.size+1,0,none⟩),.pointer (some ⟨w.heap.size+1+1,0,none⟩),.int .i64 x.1.n,.pointer (some ⟨Bx,0,none⟩),undef,.slice ao N ca,.int .i64 (N:Int),.bool false,undef,.agg #[.string aln,.slice none 0 0],.func (.func 74) #[] #[.pointer (some ⟨w.heap.size+1,0,none⟩)],.slice ao N ca,.func (.func 120) #[] #[.pointer (some ⟨w.heap.size+1+1+1,0,none⟩)],.int .i64 x.1.n,.agg (sxArr x.1.x),undef,undef,undef,undef,undef,undef,undef,undef,undef,undef,undef],[]⟩)
   (fun x a' _ X Y row hs hg hr=>by obtain ⟨Bx,h1,h2,h3⟩:=hs;exact ⟨Bx,h1,row_turn h2 hg (fun r e=>(hr r e).2),h3⟩)
   ?assign ?body ?done ?stop
  case assign=>
   rintro l pre x W K hi hK
   unfold encSt
   gi_wp2
   exact hK _ _ ((KeepsOthers.alloc _ _).from _) ((Below.refl _ W).alloc hi.b.size _) (CoK.turn pre W _ none hi (World.grownBy_alloc W _ none) (fun r e=>by cases e)) ⟨W.heap.size,(by obtain ⟨R,h1,_⟩:=hi.al;exact h1.le),heap_alloc_new W _,rfl⟩
  case body=>
   rintro l pre x a' W hl ⟨r,hr⟩ hi ⟨Bx,hBx,bX,rfl⟩ hlt
   obtain ⟨R,hAl,hCo⟩:=hi.al
   obtain ⟨rt,q⟩:=hCo.right coi_ok
   have HAl:=hide hAl
   have HCo:=hide hCo
   have RT:=hide rt
   have HQ:=hide q
   have HI:=hide hi
   have hmx:=hide (HMx.out.past hi.b)
   have cp:=cellKC hi.p 0 rfl
   obtain ⟨x0,x1,x2,x3,x4,x5,x6⟩:=cells7L bX
   clear hAl hCo rt q hi hr bX
   gi_wp2_with (refine ⟨trivial,?_⟩;gi_at_call 74;refine (CallsIn.inRound l (callsIn_wide.2 (c_put1 x.1.n x.1.x x.2 hmx.out HAl.out RT.out HQ.out))).mono ?_;rintro e W1 ⟨code,rfl,hg,hres⟩;have HY1:=hide (co_row HI.out.y hg (by omega));have c0:=cellKC HY1.out 0 rfl;have c1:=cellKC HY1.out 1 rfl;have f0:=frozen_of_row W1 _ 0 _ _ HY1.out;have f1:=frozen_of_row W1 _ 1 _ _ HY1.out;have HG:=hide hg;have HRs:=hide hres;clear hg hres)
   ·have hc0:code≠0:=fun e=>by simp_all
    refine ⟨?_,co_left HI.out HCo.out RT.out HY1.out HG.out HRs.out hc0⟩
    rw [hsz.out]
    exact (KeepsFrom.of_grownBy HG.out (fun j e=>by cases e;omega)).trans (((KeepsOthers.setCell _ _ _).trans (KeepsOthers.setCell _ _ _)).from _)
   ·have hc0:code=0:=by simp_all
    refine ⟨?_,(Below.refl _ _).grown HG.out HI.out.b.size (fun j e=>by cases e;omega),co_next HI.out HCo.out HG.out HRs.out hc0⟩
    rw [hsz.out]
    exact KeepsFrom.of_grownBy HG.out (fun j e=>by cases e;omega)
  case done=>
   rintro D xs W hD rfl hi hK
   obtain ⟨ao',n',cp',hrow,R,hR,hOw,hCe⟩:=hi.ret (N:=N) H4.out
   have b1:=cellKC hrow 1 rfl
   have y0:=cellKC hi.y 0 rfl
   have y1:=cellKC hi.y 1 rfl
   have f0:=fzR 0 hi.y
   have f1:=fzR 1 hi.y
   have HI:=hide hi
   have HR:=hide hR
   have HOw:=hide hOw
   have HCe:=hide hCe
   have HK:=hide hK
   have HD:=hide hD
   clear hi hrow hR hOw hCe hK hD
   gi_wp2
   have hK':=(KeepsOthers.setCell (W.setCell ⟨w.heap.size,0,none⟩ (.slice ao' n' cp')) ⟨w.heap.size,1,none⟩ (.int .i64 0)).same D _ ((KeepsOthers.setCell W ⟨w.heap.size,0,none⟩ (.slice ao' n' cp')).same D _ HK.out rfl) rfl
   refine ⟨by simp,.inl ⟨_,_,rfl,run_takeDeferred hK',?_⟩⟩
   have hy:=row_turn (heap_setCell_same _ w.heap.size 1 _ _ (.int .i64 0) (heap_setCell_same _ w.heap.size 0 _ _ (.slice ao' n' cp') HI.out.y)) (grownBy_putObj' _ D (.deferred none)) (fun r e=>by cases e;exact ⟨_,hK',rfl⟩)
   have q0:=cellKC hy 0 rfl
   have q1:=cellKC hy 1 rfl
   refine ⟨.agg #[.slice ao' n' cp',.int .i64 0],by simp [results,Tryz.results30,go_sem,q0,q1],?_⟩
   have nc:NoC ((W.setCell ⟨w.heap.size,0,none⟩ (.slice ao' n' cp')).setCell ⟨w.heap.size,1,none⟩ (.int .i64 0)) (some D):=fun r e=>by cases e;exact ⟨_,hK',rfl⟩
   refine ⟨_,R,0,rfl,HR.out,((OwnC.set0 (OwnC.set0 HOw.out)).turn (grownBy_putObj' _ D (.deferred none)) nc).le (Nat.le_succ _),((CesO.setNe (CesO.setNe HCe.out (Nat.lt_succ_self _) _) (Nat.lt_succ_self _) _).turn (grownBy_putObj' _ D (.deferred none)) nc).le (Nat.le_succ _),?_⟩
   exact ((HI.out.b.setCell (Nat.le_refl _) _).setCell (Nat.le_refl _) _).trans (belowK_b (w:=w) (Nat.le_refl _) _ D _ _ (by have:=HD.out;have:=hsz.out;omega) hK' rfl rfl)
  case stop=>
   rintro D c pre W hD ⟨k,hk,hpre⟩ hx hK
   obtain ⟨hc,⟨ini,last,M,code,e1,e2,e3,e4,e5⟩,hb⟩:=hx
   subst hc
   have HR:=hide (co_stop H4.out hpre e1 e2 e4 e5)
   have HY:=hide e3
   have HB:=hide hb
   have HK:=hide hK
   have HD:=hide hD
   clear e1 e2 e3 e4 e5 hb hpre hK hD
   gi_wp2
   refine ⟨by simp,.inl ⟨_,_,rfl,run_takeDeferred HK.out,?_⟩⟩
   have hy:=row_turn HY.out (grownBy_putObj' _ D (.deferred none)) (fun r e=>by cases e;exact ⟨_,HK.out,rfl⟩)
   have q0:=cellKC hy 0 rfl
   have q1:=cellKC hy 1 rfl
   refine ⟨.agg #[.slice none 0 0,.int .i64 code],by simp [results,Tryz.results30,go_sem,q0,q1],?_⟩
   exact cop_none HR.out (HB.out.trans (belowK_b (w:=w) (Nat.le_refl _) W D _ _ (by have:=HD.out;have:=hsz.out;omega) HK.out rfl rfl))
end Go.Proofs.YtiiclgcpagdekaaGreatDoor
