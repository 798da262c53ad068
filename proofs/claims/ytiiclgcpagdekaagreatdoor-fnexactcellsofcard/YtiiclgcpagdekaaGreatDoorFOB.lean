/-
 Samples with their windows, as the exact laws size, copy, compare and write over.
-/
import Derived.Test.YtiiclgcpagdekaaGreatDoorFMA
namespace Go.Proofs.YtiiclgcpagdekaaGreatDoor
set_option linter.unusedVariables false
set_option linter.unusedSimpArgs false
open Go.ChangeShapes Go.WideShapes Go.ChangeAt Go.RowKit Go.PlainAid Go.Lib
set_option maxRecDepth 10000
def stL (s:St):List Value:=(stArr s).toList
def flT (L:List St):List Value:=L.flatMap stL
def OwnT8 (w:World) (B:Nat) (v:Value) (L:List St):Prop:=w.ownsRow B 125 8 v L.length (flT L)
set_option maxHeartbeats 1000000 in
theorem c_szSampleB {w:World} (x:Sx) (ox:x.Ok) (left:Int) (h0:0≤left) (hl:left≤1048576) :
  Calls Tryz.prog 10 #[.agg (sxArr x),.int .i64 left] w fun e w'=>∃ r,e=.returned (.int .i64 r)∧r≤left∧Below w.heap.size w w':=by
 have hse:=ox.se
 have hwd:=ox.wd
 unfold maxLen at hse hwd
 have hw1:IntKind.i64.wrap (left - (x.se.size:Int))=left - (x.se.size:Int):=IntWalk.i64_in _ ⟨by omega,by omega⟩
 by_cases h1:left - (x.se.size:Int)<0
 ·go_enter Tryz.func10,Tryz.ntmps10
  go_wp2
  go_ret
  exact ⟨-1,rfl,by omega,(Below.refl _ _).alloc (Nat.le_refl _) _⟩
 ·have hw2:IntKind.i64.wrap (left - (x.se.size:Int) - (x.wd.size:Int))=left - (x.se.size:Int) - (x.wd.size:Int):=IntWalk.i64_in _ ⟨by omega,by omega⟩
  by_cases h2:left - (x.se.size:Int) - (x.wd.size:Int)<0
  ·go_enter Tryz.func10,Tryz.ntmps10
   go_wp2
   go_ret
   exact ⟨-1,rfl,by omega,(Below.refl _ _).alloc (Nat.le_refl _) _⟩
  ·go_enter Tryz.func10,Tryz.ntmps10
   go_wp2
   go_ret
   exact ⟨_,rfl,by omega,(Below.refl _ _).alloc (Nat.le_refl _) _⟩
set_option maxHeartbeats 1000000 in
theorem c_szStamped {w:World} (s:St) (ox:s.x.Ok) (left:Int) (h0:0≤left) (hl:left≤1048576) :
  Calls Tryz.prog 72 #[.agg (stArr s),.int .i64 left] w fun e w'=>∃ r,e=.returned (.int .i64 r)∧r≤left∧Below w.heap.size w w':=by
 have OX:=hide ox
 have HB:Hid (Below w.heap.size w (w.alloc (.cells (stArr s) 123))):=(Below.refl _ _).alloc (Nat.le_refl _) _
 clear ox
 go_enter Tryz.func72,Tryz.ntmps72
 go_wp2_with (go_at_call 10;refine (c_szSampleB s.x OX.out left h0 hl).mono ?_;rintro e w1 ⟨r,rfl,hr,hb1⟩;have HR:=hide hr;have HB1:=hide (chain HB.out hb1);clear hr hb1)
 ·go_ret
  exact ⟨-1,rfl,by omega,HB1.out⟩
 ·go_ret
  exact ⟨_,rfl,HR.out,HB1.out⟩
set_option maxHeartbeats 1000000 in
theorem c_szStampedS {w:World} {ao:Option Addr} {N:Nat} {L:List St} (cap:Nat) (hN:L.length=N) (lN:N≤maxLen) (ok:∀ s∈L,s.x.Ok) (hA:StsAt w ao L) :
  Calls Tryz.prog 27 #[.slice ao N cap,.int .i64 1048576] w fun e w'=>∃ v,e=.returned (.int .i64 v)∧(¬ v<0→N≤1048576)∧Below w.heap.size w w':=by
 have HN:=hide hN
 have HA:=hide hA
 have OK:=hide ok
 clear hN hA ok
 unfold maxLen at lN
 by_cases hlt:(1048576:Int) - (N:Int)<0
 ·go_enter Tryz.func27,Tryz.ntmps27
  go_wp2
  go_ret
  exact ⟨-1,rfl,fun h=>by omega,Below.refl _ _⟩
 ·go_enter Tryz.func27,Tryz.ntmps27
  go_wp2
  go_loopw [1,5] (fun l i wr=>∃ (k:Nat) (m:Int),k≤N∧i=.int .i64 k∧l=.int .i64 m∧0≤m∧m≤1048576∧Hid (Below w.heap.size w wr)) (fun l i wr=>N - (Go.RowKit.intOf i).toNat)
  case atStart=>exact ⟨0,1048576 - N,Nat.zero_le _,rfl,rfl,by omega,by omega,hide (Below.refl _ _)⟩
  case round=>
   obtain ⟨k,m,hk,rfl,rfl,hm0,hm1,HB⟩:=hrel
   by_cases hkn:k<N
   ·obtain ⟨b,off,e,hcell⟩:=HA.out (by have:=HN.out;omega)
    obtain ⟨s,hs⟩:∃ s,L[k]?=some s:=⟨L[k]'(by have:=HN.out;omega),List.getElem?_eq_getElem _⟩
    subst e
    obtain ⟨x0,x1,x2,x3,x4,x5,x6,x7⟩:=stc_past (hcell k s hs) HB.out
    have OS:=hide (OK.out s (List.mem_of_getElem? hs))
    have hkni:(k:Int)<(N:Int):=by omega
    clear hcell hs
    go_wp2_with fail
    clear x0 x1 x2 x3 x4 x5 x6 x7
    refine (c_szStamped s OS.out m hm0 hm1).mono ?_
    rintro e w1 ⟨r,rfl,hr,hb1⟩
    have HB1:=hide (chain HB.out hb1)
    clear hb1
    by_cases hr0:r<0
    ·go_wp2
     go_ret
     exact ⟨-1,rfl,fun h=>by omega,HB1.out⟩
    ·go_wp2
     go_roundw
     case rel=>exact ⟨k+1,r,by omega,by go_num,rfl,by omega,by omega,HB1⟩
     case measure=>simp [Go.RowKit.intOf];omega
   ·clear hk
    go_wp2
    go_ret
    exact ⟨m,rfl,fun _=>by omega,HB.out⟩
theorem c_eqSampleS (x:Sx) (w:World):Calls Tryz.prog 121 #[.agg (sxArr x),.agg (sxArr x)] w fun e w'=>e=.returned (.bool true)∧Below w.heap.size w w':=by
 go_enter Tryz.func121,Tryz.ntmps121
 go_wp2
 go_ret
 exact ⟨rfl,((Below.refl _ _).alloc (Nat.le_refl _) _).alloc (by simp) _⟩
theorem box_st (w:World) (s:St):Hid (Below w.heap.size w ((w.alloc (.cells (stArr s) 125)).alloc (.cells (stArr s) 125)))∧Hid (((w.alloc (.cells (stArr s) 125)).alloc (.cells (stArr s) 125)).heap[w.heap.size]?=some (.cells (stArr s) 125 (0,0)))∧Hid (((w.alloc (.cells (stArr s) 125)).alloc (.cells (stArr s) 125)).heap[w.heap.size+1]?=some (.cells (stArr s) 125 (0,0))):=box_lp w (stArr s) (stArr s) 125 125
set_option maxHeartbeats 1000000 in
theorem c_eqStamped (s:St) (w:World):Calls Tryz.prog 76 #[.agg (stArr s),.agg (stArr s)] w fun e w'=>e=.returned (.bool true)∧Below w.heap.size w w':=by
 obtain ⟨k0,k1,k2⟩:=box_st w s
 go_enter Tryz.func76,Tryz.ntmps76
 go_wp2_with fail
 generalize (w.alloc (.cells (stArr s) 125)).alloc (.cells (stArr s) 125)=W0 at k0 k1 k2 ⊢
 refine (c_eqSampleS s.x _).mono ?_
 rintro e w1 ⟨rfl,hb1⟩
 have HB:=hide (chain k0.out hb1)
 clear hb1
 go_wp2
 go_ret
 exact ⟨rfl,HB.out⟩
set_option maxHeartbeats 1000000 in
theorem c_eqStampedS {w:World} {ao bo:Option Addr} {N:Nat} {L:List St} (ca cb:Nat) (hN:L.length=N) (lN:N≤1048576) (hA:StsAt w ao L) (hB:StsAt w bo L) :
  Calls Tryz.prog 32 #[.slice ao N ca,.slice bo N cb] w fun e w'=>e=.returned (.bool true)∧Below w.heap.size w w':=by
 have HN:=hide hN
 have HA:=hide hA
 have HB':=hide hB
 clear hN hA hB
 go_enter Tryz.func32,Tryz.ntmps32
 go_wp2
 go_loopw [5] (fun i wr=>Below w.heap.size w wr∧∃ k:Nat,k≤N∧i=.int .i64 k) (fun i wr=>N - (Go.RowKit.intOf i).toNat)
 case atStart=>exact ⟨Below.refl _ _,0,Nat.zero_le _,rfl⟩
 case round=>
  obtain ⟨hbel,k,hk,rfl⟩:=hrel
  have HB:=hide hbel
  by_cases hkn:k<N
  ·obtain ⟨b,off,e,hcell⟩:=HA.out (by have:=HN.out;omega)
   obtain ⟨b2,off2,e2,hcell2⟩:=HB'.out (by have:=HN.out;omega)
   obtain ⟨s,hs⟩:∃ s,L[k]?=some s:=⟨L[k]'(by have:=HN.out;omega),List.getElem?_eq_getElem _⟩
   subst e
   subst e2
   have HX:=hide (stc_past (hcell k s hs) hbel)
   have HY:=hide (stc_past (hcell2 k s hs) hbel)
   have hkni:(k:Int)<(N:Int):=by omega
   clear hcell hcell2 hs hbel
   go_upto_region 6 with fail
   have HS0:(fun W=>Below wr.heap.size wr W) wr.drew:=(Below.refl _ _).drew
   refine regionK (fun W=>Below wr.heap.size wr W) 99 (by kernel_rfl) ?_
   refine tkS (i:=0) (v:=.slice (some ⟨b,off,none⟩) N ca) rfl rfl HS0 ?_
   refine tkS (i:=1) (v:=.int .i64 k) rfl rfl HS0 ?_
   refine tkS (i:=2) (v:=.pointer (some ⟨b,off+k*8,none⟩)) rfl rfl HS0 ?_
   simp only [sA,sB,sC]
   refine tkL (i:=3) (v:=.agg (stArr s)) rfl rfl HS0 (fun W hW=>?_) ?_
   ·obtain ⟨x0,x1,x2,x3,x4,x5,x6,x7⟩:=stc_past HX.out hW
    clear hW
    go_simp
   refine tkS (i:=4) (v:=.slice (some ⟨b2,off2,none⟩) N cb) rfl rfl HS0 ?_
   refine tkS (i:=5) (v:=.int .i64 k) rfl rfl HS0 ?_
   simp only [sA,sB,sC]
   refine tkS (i:=6) (v:=.pointer (some ⟨b2,off2+k*8,none⟩)) rfl rfl HS0 ?_
   refine tkL (i:=7) (v:=.agg (stArr s)) rfl rfl HS0 (fun W hW=>?_) ?_
   ·obtain ⟨x0,x1,x2,x3,x4,x5,x6,x7⟩:=stc_past HY.out hW
    clear hW
    go_simp
   simp only [sA,sB,sC]
   refine onE (i:=8) rfl (fun K hK=>?_)
   go_simp
   refine (c_eqStamped s _).mono ?_
   rintro e w1 ⟨rfl,hb1⟩
   have HB1:Hid (Below wr.heap.size wr w1):=(HS0:Below wr.heap.size wr _).trans (hb1.mono (Nat.le_refl _))
   clear hb1
   dsimp only
   refine hK.out _ _ (fun _=>HB1.out) ?_
   clear hK K
   try simp only [Act.put,sA,sB,sC]
   refine tkS (i:=9) (v:=.bool false) rfl rfl HB1.out ?_
   simp only [sA,sB,sC]
   refine doneK (by kernel_rfl) ?_ _
   go_wp2
   go_roundw
   case rel=>exact ⟨chain HB.out HB1.out,k+1,by omega,by go_num⟩
   case measure=>simp [Go.RowKit.intOf];omega
  ·clear hbel
   go_wp2
   go_ret
   exact ⟨rfl,HB.out⟩
theorem infoSt:(Tryz.prog.info? 125).map (fun i=>(i.zero,i.size,i.bytes))=some (some (.agg #[.int .i64 0,.int .i64 0,.string ByteArray.empty,.int .i64 0,.string ByteArray.empty,.int .u64 0,.bool false,.int .i64 0]),8,80):=by kernel_rfl
theorem row8T {w:World} {r:Nat} {T:TypeId} {u0 u1 u2 u3 u4 u5 u6 u7:Value} (h:w.heap[r]?=some (.cells #[u0,u1,u2,u3,u4,u5,u6,u7] T (0,0))) (v0 v1 v2 v3 v4 v5 v6 v7:Value) :
  ((((((((w.setCell ⟨r,0,none⟩ v0).setCell ⟨r,1,none⟩ v1).setCell ⟨r,2,none⟩ v2).setCell ⟨r,3,none⟩ v3).setCell ⟨r,4,none⟩ v4).setCell ⟨r,5,none⟩ v5).setCell ⟨r,6,none⟩ v6).setCell ⟨r,7,none⟩ v7).heap[r]?=some (.cells #[v0,v1,v2,v3,v4,v5,v6,v7] T (0,0)):=by
 have h0:(w.setCell ⟨r,0,none⟩ v0).heap[r]?=some (.cells #[v0,u1,u2,u3,u4,u5,u6,u7] T (0,0)):=heap_setCell_same _ r 0 _ _ v0 h
 have h1:((w.setCell ⟨r,0,none⟩ v0).setCell ⟨r,1,none⟩ v1).heap[r]?=some (.cells #[v0,v1,u2,u3,u4,u5,u6,u7] T (0,0)):=heap_setCell_same _ r 1 _ _ v1 h0
 have h2:(((w.setCell ⟨r,0,none⟩ v0).setCell ⟨r,1,none⟩ v1).setCell ⟨r,2,none⟩ v2).heap[r]?=some (.cells #[v0,v1,v2,u3,u4,u5,u6,u7] T (0,0)):=heap_setCell_same _ r 2 _ _ v2 h1
 have h3:((((w.setCell ⟨r,0,none⟩ v0).setCell ⟨r,1,none⟩ v1).setCell ⟨r,2,none⟩ v2).setCell ⟨r,3,none⟩ v3).heap[r]?=some (.cells #[v0,v1,v2,v3,u4,u5,u6,u7] T (0,0)):=heap_setCell_same _ r 3 _ _ v3 h2
 have h4:(((((w.setCell ⟨r,0,none⟩ v0).setCell ⟨r,1,none⟩ v1).setCell ⟨r,2,none⟩ v2).setCell ⟨r,3,none⟩ v3).setCell ⟨r,4,none⟩ v4).heap[r]?=some (.cells #[v0,v1,v2,v3,v4,u5,u6,u7] T (0,0)):=heap_setCell_same _ r 4 _ _ v4 h3
 have h5:((((((w.setCell ⟨r,0,none⟩ v0).setCell ⟨r,1,none⟩ v1).setCell ⟨r,2,none⟩ v2).setCell ⟨r,3,none⟩ v3).setCell ⟨r,4,none⟩ v4).setCell ⟨r,5,none⟩ v5).heap[r]?=some (.cells #[v0,v1,v2,v3,v4,v5,u6,u7] T (0,0)):=heap_setCell_same _ r 5 _ _ v5 h4
 have h6:(((((((w.setCell ⟨r,0,none⟩ v0).setCell ⟨r,1,none⟩ v1).setCell ⟨r,2,none⟩ v2).setCell ⟨r,3,none⟩ v3).setCell ⟨r,4,none⟩ v4).setCell ⟨r,5,none⟩ v5).setCell ⟨r,6,none⟩ v6).heap[r]?=some (.cells #[v0,v1,v2,v3,v4,v5,v6,u7] T (0,0)):=heap_setCell_same _ r 6 _ _ v6 h5
 have h7:((((((((w.setCell ⟨r,0,none⟩ v0).setCell ⟨r,1,none⟩ v1).setCell ⟨r,2,none⟩ v2).setCell ⟨r,3,none⟩ v3).setCell ⟨r,4,none⟩ v4).setCell ⟨r,5,none⟩ v5).setCell ⟨r,6,none⟩ v6).setCell ⟨r,7,none⟩ v7).heap[r]?=some (.cells #[v0,v1,v2,v3,v4,v5,v6,v7] T (0,0)):=heap_setCell_same _ r 7 _ _ v7 h6
 exact h7
theorem row7T {w:World} {r:Nat} {T:TypeId} {u0 u1 u2 u3 u4 u5 u6 u7:Value} (h:w.heap[r]?=some (.cells #[u0,u1,u2,u3,u4,u5,u6,u7] T (0,0))) (v1 v2 v3 v4 v5 v6 v7:Value) :
  (((((((w.setCell ⟨r,1,none⟩ v1).setCell ⟨r,2,none⟩ v2).setCell ⟨r,3,none⟩ v3).setCell ⟨r,4,none⟩ v4).setCell ⟨r,5,none⟩ v5).setCell ⟨r,6,none⟩ v6).setCell ⟨r,7,none⟩ v7).heap[r]?=some (.cells #[u0,v1,v2,v3,v4,v5,v6,v7] T (0,0)):=by
 have h1:(w.setCell ⟨r,1,none⟩ v1).heap[r]?=some (.cells #[u0,v1,u2,u3,u4,u5,u6,u7] T (0,0)):=heap_setCell_same _ r 1 _ _ v1 h
 have h2:((w.setCell ⟨r,1,none⟩ v1).setCell ⟨r,2,none⟩ v2).heap[r]?=some (.cells #[u0,v1,v2,u3,u4,u5,u6,u7] T (0,0)):=heap_setCell_same _ r 2 _ _ v2 h1
 have h3:(((w.setCell ⟨r,1,none⟩ v1).setCell ⟨r,2,none⟩ v2).setCell ⟨r,3,none⟩ v3).heap[r]?=some (.cells #[u0,v1,v2,v3,u4,u5,u6,u7] T (0,0)):=heap_setCell_same _ r 3 _ _ v3 h2
 have h4:((((w.setCell ⟨r,1,none⟩ v1).setCell ⟨r,2,none⟩ v2).setCell ⟨r,3,none⟩ v3).setCell ⟨r,4,none⟩ v4).heap[r]?=some (.cells #[u0,v1,v2,v3,v4,u5,u6,u7] T (0,0)):=heap_setCell_same _ r 4 _ _ v4 h3
 have h5:(((((w.setCell ⟨r,1,none⟩ v1).setCell ⟨r,2,none⟩ v2).setCell ⟨r,3,none⟩ v3).setCell ⟨r,4,none⟩ v4).setCell ⟨r,5,none⟩ v5).heap[r]?=some (.cells #[u0,v1,v2,v3,v4,v5,u6,u7] T (0,0)):=heap_setCell_same _ r 5 _ _ v5 h4
 have h6:((((((w.setCell ⟨r,1,none⟩ v1).setCell ⟨r,2,none⟩ v2).setCell ⟨r,3,none⟩ v3).setCell ⟨r,4,none⟩ v4).setCell ⟨r,5,none⟩ v5).setCell ⟨r,6,none⟩ v6).heap[r]?=some (.cells #[u0,v1,v2,v3,v4,v5,v6,u7] T (0,0)):=heap_setCell_same _ r 6 _ _ v6 h5
 have h7:(((((((w.setCell ⟨r,1,none⟩ v1).setCell ⟨r,2,none⟩ v2).setCell ⟨r,3,none⟩ v3).setCell ⟨r,4,none⟩ v4).setCell ⟨r,5,none⟩ v5).setCell ⟨r,6,none⟩ v6).setCell ⟨r,7,none⟩ v7).heap[r]?=some (.cells #[u0,v1,v2,v3,v4,v5,v6,v7] T (0,0)):=heap_setCell_same _ r 7 _ _ v7 h6
 exact h7
theorem blk7T {w:World} {r k:Nat} (hk:k≠r) (v1 v2 v3 v4 v5 v6 v7:Value):(((((((w.setCell ⟨r,1,none⟩ (v1)).setCell ⟨r,2,none⟩ (v2)).setCell ⟨r,3,none⟩ (v3)).setCell ⟨r,4,none⟩ (v4)).setCell ⟨r,5,none⟩ (v5)).setCell ⟨r,6,none⟩ (v6)).setCell ⟨r,7,none⟩ (v7)).heap[k]?=w.heap[k]?:=by
 rw [Below.heap_setCell _ _ _ _ hk,Below.heap_setCell _ _ _ _ hk,Below.heap_setCell _ _ _ _ hk,Below.heap_setCell _ _ _ _ hk,Below.heap_setCell _ _ _ _ hk,Below.heap_setCell _ _ _ _ hk,Below.heap_setCell _ _ _ _ hk]
theorem bel8T {w0 w:World} {r B:Nat} (h:Below B w0 w) (hr:B≤r) (v0 v1 v2 v3 v4 v5 v6 v7:Value):Below B w0 ((((((((w.setCell ⟨r,0,none⟩ (v0)).setCell ⟨r,1,none⟩ (v1)).setCell ⟨r,2,none⟩ (v2)).setCell ⟨r,3,none⟩ (v3)).setCell ⟨r,4,none⟩ (v4)).setCell ⟨r,5,none⟩ (v5)).setCell ⟨r,6,none⟩ (v6)).setCell ⟨r,7,none⟩ (v7)):=((((((((h.setCell hr v0).setCell hr v1).setCell hr v2).setCell hr v3).setCell hr v4).setCell hr v5).setCell hr v6).setCell hr v7)
theorem bel7T {w0 w:World} {r B:Nat} (h:Below B w0 w) (hr:B≤r) (v1 v2 v3 v4 v5 v6 v7:Value):Below B w0 (((((((w.setCell ⟨r,1,none⟩ (v1)).setCell ⟨r,2,none⟩ (v2)).setCell ⟨r,3,none⟩ (v3)).setCell ⟨r,4,none⟩ (v4)).setCell ⟨r,5,none⟩ (v5)).setCell ⟨r,6,none⟩ (v6)).setCell ⟨r,7,none⟩ (v7)):=(((((((h.setCell hr v1).setCell hr v2).setCell hr v3).setCell hr v4).setCell hr v5).setCell hr v6).setCell hr v7)
set_option maxHeartbeats 2000000 in
theorem c_toStamped {w:World} (s:St):Calls Tryz.prog 73 #[.agg (stArr s)] w fun e w'=>e=.returned (.agg (stArr s))∧Below w.heap.size w w':=by
 obtain ⟨k0,k1,k2,k3,k4⟩:=box_sp w (stArr s) #[.int .i64 0,.int .i64 0,.string ⟨#[]⟩,.int .i64 0,.string ⟨#[]⟩,.int .u64 0,.bool false,.int .i64 0] #[.int .i64 s.n,.int .i64 0,.string ⟨#[]⟩,.int .i64 0,.string ⟨#[]⟩,.int .u64 0,.bool false,.int .i64 0] 123 125 125
 go_enter Tryz.func73,Tryz.ntmps73
 go_wp2_with fail
 generalize ((w.alloc (.cells (stArr s) 123)).alloc (.cells #[.int .i64 0,.int .i64 0,.string ⟨#[]⟩,.int .i64 0,.string ⟨#[]⟩,.int .u64 0,.bool false,.int .i64 0] 125)).alloc (.cells #[.int .i64 s.n,.int .i64 0,.string ⟨#[]⟩,.int .i64 0,.string ⟨#[]⟩,.int .u64 0,.bool false,.int .i64 0] 125)=W0 at k0 k1 k2 k3 k4 ⊢
 refine (c_toSampleX s.x).mono ?_
 rintro e w1 ⟨rfl,hb1⟩
 have B1:=hide (chain k0.out hb1)
 have X1:=hide (row_pastP k3.out hb1)
 have Y1:=hide (row_pastP k2.out hb1)
 clear hb1 k0 k1 k2 k3 k4
 have X2:=hide (row7T X1.out (.int .i64 s.x.k) (.string s.x.se) (.int .i64 s.x.v) (.string s.x.wd) (.int .u64 s.x.wt) (.bool s.x.tm) (.int .i64 s.x.ti))
 have Y2:=hide ((blk7T (w:=w1) (r:=w.heap.size+1+1) (k:=w.heap.size+1) (by omega) (.int .i64 s.x.k) (.string s.x.se) (.int .i64 s.x.v) (.string s.x.wd) (.int .u64 s.x.wt) (.bool s.x.tm) (.int .i64 s.x.ti)).trans Y1.out)
 have B2:=hide (bel7T B1.out (show w.heap.size≤w.heap.size+1+1 by omega) (.int .i64 s.x.k) (.string s.x.se) (.int .i64 s.x.v) (.string s.x.wd) (.int .u64 s.x.wt) (.bool s.x.tm) (.int .i64 s.x.ti))
 have c1:=cellKC X1.out 1 rfl
 have f1:=fzR 1 X1.out
 have c2:=cellKC X1.out 2 rfl
 have f2:=fzR 2 X1.out
 have c3:=cellKC X1.out 3 rfl
 have f3:=fzR 3 X1.out
 have c4:=cellKC X1.out 4 rfl
 have f4:=fzR 4 X1.out
 have c5:=cellKC X1.out 5 rfl
 have f5:=fzR 5 X1.out
 have c6:=cellKC X1.out 6 rfl
 have f6:=fzR 6 X1.out
 have c7:=cellKC X1.out 7 rfl
 have f7:=fzR 7 X1.out
 clear X1 Y1 B1
 go_upto_region 4 with fail
 clear c1 f1 c2 f2 c3 f3 c4 f4 c5 f5 c6 f6 c7 f7
 generalize (((((((w1.setCell ⟨w.heap.size+1+1,1,none⟩ (.int .i64 s.x.k)).setCell ⟨w.heap.size+1+1,2,none⟩ (.string s.x.se)).setCell ⟨w.heap.size+1+1,3,none⟩ (.int .i64 s.x.v)).setCell ⟨w.heap.size+1+1,4,none⟩ (.string s.x.wd)).setCell ⟨w.heap.size+1+1,5,none⟩ (.int .u64 s.x.wt)).setCell ⟨w.heap.size+1+1,6,none⟩ (.bool s.x.tm)).setCell ⟨w.heap.size+1+1,7,none⟩ (.int .i64 s.x.ti))=W2 at X2 Y2 B2 ⊢
 have d0:=cellKC X2.out 0 rfl
 have c0:=cellKC Y2.out 0 rfl
 have f0:=fzR 0 Y2.out
 have d1:=cellKC X2.out 1 rfl
 have c1:=cellKC Y2.out 1 rfl
 have f1:=fzR 1 Y2.out
 have d2:=cellKC X2.out 2 rfl
 have c2:=cellKC Y2.out 2 rfl
 have f2:=fzR 2 Y2.out
 have d3:=cellKC X2.out 3 rfl
 have c3:=cellKC Y2.out 3 rfl
 have f3:=fzR 3 Y2.out
 have d4:=cellKC X2.out 4 rfl
 have c4:=cellKC Y2.out 4 rfl
 have f4:=fzR 4 Y2.out
 have d5:=cellKC X2.out 5 rfl
 have c5:=cellKC Y2.out 5 rfl
 have f5:=fzR 5 Y2.out
 have d6:=cellKC X2.out 6 rfl
 have c6:=cellKC Y2.out 6 rfl
 have f6:=fzR 6 Y2.out
 have d7:=cellKC X2.out 7 rfl
 have c7:=cellKC Y2.out 7 rfl
 have f7:=fzR 7 Y2.out
 have R3:=hide (row8T Y2.out (.int .i64 s.n) (.int .i64 s.x.k) (.string s.x.se) (.int .i64 s.x.v) (.string s.x.wd) (.int .u64 s.x.wt) (.bool s.x.tm) (.int .i64 s.x.ti))
 have B3:=hide (bel8T B2.out (show w.heap.size≤w.heap.size+1 by omega) (.int .i64 s.n) (.int .i64 s.x.k) (.string s.x.se) (.int .i64 s.x.v) (.string s.x.wd) (.int .u64 s.x.wt) (.bool s.x.tm) (.int .i64 s.x.ti))
 go_wp2_with fail
 clear c0 f0 d0 c1 f1 d1 c2 f2 d2 c3 f3 d3 c4 f4 d4 c5 f5 d5 c6 f6 d6 c7 f7 d7
 have q0:=cellKC R3.out 0 rfl
 have q1:=cellKC R3.out 1 rfl
 have q2:=cellKC R3.out 2 rfl
 have q3:=cellKC R3.out 3 rfl
 have q4:=cellKC R3.out 4 rfl
 have q5:=cellKC R3.out 5 rfl
 have q6:=cellKC R3.out 6 rfl
 have q7:=cellKC R3.out 7 rfl
 exact bodyPost_ret (v:=.agg (stArr s)) (by simp [results,Tryz.results73,go_sem,q0,q1,q2,q3,q4,q5,q6,q7]) rfl ⟨rfl,B3.out⟩
abbrev zeroSt:Array Value:=#[.int .i64 0,.int .i64 0,.string ByteArray.empty,.int .i64 0,.string ByteArray.empty,.int .u64 0,.bool false,.int .i64 0]
structure StRow (w:World) (g N:Nat) (M:List St):Prop where
 row:∃ cur:Array Value,w.heap[g]?=some (.cells cur 125 (0,0))∧N*8≤cur.size∧∀ i c,M[i]?=some c→∀ j v,(stArr c)[j]?=some v→cur[i*8+j]?=some v
theorem StRow.past {w w':World} {g N:Nat} {M:List St} (h:StRow w g N M) (hb:Below w.heap.size w w'):StRow w' g N M:=by
 obtain ⟨cur,h1,h2,h3⟩:=h.row
 exact ⟨⟨cur,(hb.block g (Array.getElem?_eq_some_iff.1 h1).1).trans h1,h2,h3⟩⟩
theorem StRow.lt {w:World} {g N:Nat} {M:List St} (h:StRow w g N M):g<w.heap.size:=by
 obtain ⟨cur,h1,_⟩:=h.row
 exact (Array.getElem?_eq_some_iff.1 h1).1
theorem StRow.at {w:World} {g N:Nat} {M:List St} (h:StRow w g N M):StsAt w (some ⟨g,0,none⟩) M:=fun _=>by
 obtain ⟨cur,h1,h2,h3⟩:=h.row
 refine ⟨g,0,rfl,fun i s hi=>?_⟩
 have q:∀ j v,(stArr s)[j]?=some v→w.cell? ⟨g,0+i*8+j,none⟩=some v:=fun j v e=>by
  rw [Nat.zero_add,cell_of_row _ _ _ _ _ (0,0) h1];exact h3 i s hi j v e
 exact ⟨q 0 _ rfl,q 1 _ rfl,q 2 _ rfl,q 3 _ rfl,q 4 _ rfl,q 5 _ rfl,q 6 _ rfl,q 7 _ rfl⟩
theorem StRow.put {w:World} {g N:Nat} {M:List St} (h:StRow w g N M) {s:St} (hN:M.length<N) :
  StRow ((((((((w.setCell ⟨g,M.length*8,none⟩ (.int .i64 s.n)).setCell ⟨g,M.length*8+1,none⟩ (.int .i64 s.x.k)).setCell ⟨g,M.length*8+2,none⟩ (.string s.x.se)).setCell ⟨g,M.length*8+3,none⟩ (.int .i64 s.x.v)).setCell ⟨g,M.length*8+4,none⟩ (.string s.x.wd)).setCell ⟨g,M.length*8+5,none⟩ (.int .u64 s.x.wt)).setCell ⟨g,M.length*8+6,none⟩ (.bool s.x.tm)).setCell ⟨g,M.length*8+7,none⟩ (.int .i64 s.x.ti)) g N (M ++ [s]):=by
 obtain ⟨cur,h1,h2,h3⟩:=h.row
 obtain ⟨cur',k1,k2,k3⟩:=heap_setCellsC (e:=125) (stArr s).toList (M.length*8) w cur h1
 refine ⟨⟨cur',k1,by rw [k2];exact h2,fun i d hd j v e=>?_⟩⟩
 have hj:j<8:=(Array.getElem?_eq_some_iff.1 e).1
 rw [k3]
 rw [List.getElem?_append] at hd
 split at hd
 ·rename_i hi
  rw [if_neg (by simp;omega)]
  exact h3 i d hd j v e
 ·rename_i hi
  have hi2:i - M.length=0:=by
   have:=(List.getElem?_eq_some_iff.1 hd).1
   simp at this;omega
  rw [hi2] at hd
  simp at hd
  subst hd
  rw [if_pos ⟨by omega,by simp;omega,by omega⟩,show i*8+j - M.length*8=j by omega]
  simpa using e
set_option maxHeartbeats 4000000 in
theorem c_toStampedS {w:World} {ao:Option Addr} {N:Nat} {L:List St} (cap:Nat) (hN:L.length=N) (hl:N≤1048576) (hA:StsAt w ao L) :
  Calls Tryz.prog 29 #[.slice ao N cap] w fun e w'=>e=.returned (.slice (some ⟨w.heap.size,0,none⟩) N N)∧StRow w' w.heap.size N L∧Below w.heap.size w w':=by
 obtain ⟨i0,hi,hz0,hz1,hz2⟩:=info_parts infoSt
 have HN:=hide hN
 have HA:=hide hA
 clear hN hA
 go_enter Tryz.func29,Tryz.ntmps29
 go_wp2_with (at_make;refine wpList_make_full _ rfl _ _ 55 rfl w.heap.size 125 i0 (.agg zeroSt) 8 Tryz.underlying55 hi hz0 hz1 .i64 .i64 _ _ N rfl rfl rfl rfl (by rw [hz2];omega) (by unfold maxLen;omega) (Nat.le_refl _) ?_;intro w0 hown0 hgrow0)
 have hB0:Below w.heap.size w w0:=(Below.refl _ _).grown hgrow0 (Nat.le_refl _) (fun k e=>by cases e)
 have hR0:StRow w0 w.heap.size N []:=by
  rcases hown0.2 with ⟨e,_⟩ | ⟨g',cap',cur,e,_,hg',_,_,hcs,htake⟩
  ·cases e
  ·simp only [Value.slice.injEq,Option.some.injEq,Addr.mk.injEq,and_true,true_and] at e
   obtain ⟨rfl,rfl⟩:=e
   exact ⟨⟨cur,hg',by omega,fun i c hc=>by simp at hc⟩⟩
 have HB0:=hide hB0
 have HR0:=hide hR0
 clear hown0 hgrow0 hB0 hR0
 go_wp2
 go_loopw [4] (fun i wr=>∃ (k:Nat) (M:List St),k≤N∧i=.int .i64 k∧Hid (M=L.take k)∧Hid (StRow wr w.heap.size N M)∧Hid (Below w.heap.size w wr)) (fun i wr=>N - (Go.RowKit.intOf i).toNat)
 case atStart=>exact ⟨0,[],Nat.zero_le _,rfl,hide (by simp),HR0,HB0⟩
 case round=>
  clear HR0 HB0
  obtain ⟨k,M,hk,rfl,HMk,HR,HB⟩:=hrel
  by_cases hkn:k<N
  ·have hkni:(k:Int)<(N:Int):=by omega
   obtain ⟨b,off,e,hcell⟩:=HA.out (by have:=HN.out;omega)
   subst e
   obtain ⟨s,hc⟩:∃ s,L[k]?=some s:=⟨L[k]'(by have:=HN.out;omega),List.getElem?_eq_getElem _⟩
   obtain ⟨x0,x1,x2,x3,x4,x5,x6,x7⟩:=stc_past (hcell k s hc) HB.out
   have HC:=hide hc
   have HMl:Hid (M.length=k):=by rw [HMk.out];exact hide (by have:=HN.out;simp;omega)
   clear hcell hc
   go_wp2_with fail
   clear x0 x1 x2 x3 x4 x5 x6 x7
   refine (c_toStamped s).mono ?_
   rintro e w1 ⟨rfl,hb1⟩
   have hR1:=HR.out.past hb1
   obtain ⟨cur,r1,r2,r3⟩:=hR1.row
   have hP:=hR1.put (s:=s) (by rw [HMl.out];exact hkn)
   rw [HMl.out] at hP
   have HP:=hide hP
   have HT1:=hide (chain HB.out hb1)
   have HK2:Hid (M ++ [s]=L.take (k+1)):=by
    rw [List.take_add_one,HC.out,HMk.out];exact hide rfl
   obtain ⟨z0,hz0'⟩:∃ z,w1.cell? ⟨w.heap.size,k*8,none⟩=some z:=⟨cur[k*8]'(by omega),by rw [cell_of_row _ _ _ _ _ (0,0) r1,Array.getElem?_eq_getElem]⟩
   have f0:=fzR (k*8) r1
   obtain ⟨z1,hz1'⟩:∃ z,w1.cell? ⟨w.heap.size,k*8+1,none⟩=some z:=⟨cur[k*8+1]'(by omega),by rw [cell_of_row _ _ _ _ _ (0,0) r1,Array.getElem?_eq_getElem]⟩
   have f1:=fzR (k*8+1) r1
   obtain ⟨z2,hz2'⟩:∃ z,w1.cell? ⟨w.heap.size,k*8+2,none⟩=some z:=⟨cur[k*8+2]'(by omega),by rw [cell_of_row _ _ _ _ _ (0,0) r1,Array.getElem?_eq_getElem]⟩
   have f2:=fzR (k*8+2) r1
   obtain ⟨z3,hz3'⟩:∃ z,w1.cell? ⟨w.heap.size,k*8+3,none⟩=some z:=⟨cur[k*8+3]'(by omega),by rw [cell_of_row _ _ _ _ _ (0,0) r1,Array.getElem?_eq_getElem]⟩
   have f3:=fzR (k*8+3) r1
   obtain ⟨z4,hz4'⟩:∃ z,w1.cell? ⟨w.heap.size,k*8+4,none⟩=some z:=⟨cur[k*8+4]'(by omega),by rw [cell_of_row _ _ _ _ _ (0,0) r1,Array.getElem?_eq_getElem]⟩
   have f4:=fzR (k*8+4) r1
   obtain ⟨z5,hz5'⟩:∃ z,w1.cell? ⟨w.heap.size,k*8+5,none⟩=some z:=⟨cur[k*8+5]'(by omega),by rw [cell_of_row _ _ _ _ _ (0,0) r1,Array.getElem?_eq_getElem]⟩
   have f5:=fzR (k*8+5) r1
   obtain ⟨z6,hz6'⟩:∃ z,w1.cell? ⟨w.heap.size,k*8+6,none⟩=some z:=⟨cur[k*8+6]'(by omega),by rw [cell_of_row _ _ _ _ _ (0,0) r1,Array.getElem?_eq_getElem]⟩
   have f6:=fzR (k*8+6) r1
   obtain ⟨z7,hz7'⟩:∃ z,w1.cell? ⟨w.heap.size,k*8+7,none⟩=some z:=⟨cur[k*8+7]'(by omega),by rw [cell_of_row _ _ _ _ _ (0,0) r1,Array.getElem?_eq_getElem]⟩
   have f7:=fzR (k*8+7) r1
   clear r1 r2 r3 hR1 hb1 hP
   go_wp2
   go_roundw
   case rel=>exact ⟨k+1,_,by omega,by go_num,HK2,HP,by
    repeat (refine Below.setCell ?_ (by simp) _)
    exact HT1.out⟩
   case measure=>simp [Go.RowKit.intOf];omega
  ·obtain rfl:N=k:=by omega
   have HR2:Hid (StRow wr w.heap.size N L):=by
    have h1:=HMk.out
    rw [List.take_of_length_le (by have:=HN.out;omega)] at h1
    rw [← h1]
    exact HR
   go_wp2
   go_ret
   exact ⟨rfl,HR2.out,HB.out⟩
theorem grown_past8 {w w1 w2:World} {r:Option Nat} (h:w.grownBy w1 r) (hb:Below w1.heap.size w1 w2):w.grownBy w2 r:=
 h.trans ⟨hb.os,hb.tape,hb.output,hb.size,fun k hk _=>hb.block k hk⟩
theorem grown_one8 (w:World) (g o:Nat) (u:Value):w.grownBy (w.setCell ⟨g,o,none⟩ u) (some g):=
 ⟨rfl,rfl,rfl,(KeepsWalks.setCell w _ u).size,fun a _ hk=>Below.heap_setCell _ _ _ a (fun e=>hk (by rw [e]))⟩
theorem c_markTextI {w:World} (n:Int) (h1:1≤n) (h2:n≤100000000):Calls Tryz.prog 65 #[.int .i64 n] w fun e w'=>∃ t,e=.returned (.string t)∧Below w.heap.size w w':=by
 obtain ⟨m,rfl⟩:∃ m:Nat,n=(m:Int):=⟨n.toNat,by omega⟩
 refine (c_markText m (by omega) (by omega) w).mono ?_
 rintro e w' ⟨rfl,hb⟩
 exact ⟨_,rfl,hb⟩
structure StG (w W:World) (g n:Nat):Prop where
 gr:w.grownBy W (some g)
 r:∃ cur:Array Value,W.heap[g]?=some (.cells cur 125 (0,0))∧n≤cur.size
theorem StG.past {w W W':World} {g n:Nat} (h:StG w W g n) (hb:Below W.heap.size W W'):StG w W' g n:=by
 obtain ⟨cur,h1,h2⟩:=h.r
 exact ⟨grown_past8 h.gr hb,cur,(hb.block g (Array.getElem?_eq_some_iff.1 h1).1).trans h1,h2⟩
theorem StG.set {w W:World} {g n:Nat} (h:StG w W g n) (o:Nat) (v:Value):StG w (W.setCell ⟨g,o,none⟩ v) g n:=by
 obtain ⟨cur,h1,h2⟩:=h.r
 exact ⟨h.gr.trans (grown_one8 W g o v),_,heap_setCell_same _ g o _ _ v h1,by simpa using h2⟩
theorem StG.at {w W:World} {g n:Nat} (h:StG w W g n) {o:Nat} (ho:o<n):∃ z,W.cell? ⟨g,o,none⟩=some z:=by
 obtain ⟨cur,h1,h2⟩:=h.r
 exact ⟨cur[o]'(by omega),by rw [cell_of_row _ _ _ _ _ (0,0) h1,Array.getElem?_eq_getElem]⟩
theorem StG.fr {w W:World} {g n:Nat} (h:StG w W g n) (o:Nat):W.frozen? ⟨g,o,none⟩=false:=by
 obtain ⟨cur,h1,h2⟩:=h.r
 exact frozen_of_row W g o _ _ h1
set_option maxHeartbeats 2000000 in
theorem c_markStampedS {w:World} {g N:Nat} {M:List St} (hl:N≤1048576) (h:StRow w g N M) :
  Calls Tryz.prog 33 #[.slice (some ⟨g,0,none⟩) N N,.int .i64 1] w fun e w'=>e=.returned (.int .i64 ((1+8*N:Nat):Int))∧w.grownBy w' (some g):=by
 have H0:Hid (StG w w g (N*8)):=by
  obtain ⟨cur,h1,h2,_⟩:=h.row
  exact ⟨World.grownBy.refl _ _,cur,h1,h2⟩
 clear h
 go_enter Tryz.func33,Tryz.ntmps33
 go_wp2
 go_loopw [1,5] (fun m i wr=>∃ k:Nat,k≤N∧i=.int .i64 k∧m=.int .i64 ((1+8*k:Nat):Int)∧Hid (StG w wr g (N*8))) (fun m i wr=>N - (Go.RowKit.intOf i).toNat)
 case atStart=>exact ⟨0,Nat.zero_le _,rfl,rfl,H0⟩
 case round=>
  clear H0
  obtain ⟨k,hk,rfl,rfl,HG⟩:=hrel
  by_cases hkn:k<N
  ·have hkni:(k:Int)<(N:Int):=by omega
   obtain ⟨z0,e0⟩:=HG.out.at (o:=k*8) (by omega)
   obtain ⟨z1,e1⟩:=HG.out.at (o:=k*8+1) (by omega)
   have f0:=HG.out.fr (k*8)
   have f1:=HG.out.fr (k*8+1)
   go_wp2_with fail
   clear e0 f0 e1 f1
   refine (c_markTextI _ (by omega) (by omega)).mono ?_
   rintro e w1 ⟨t1,rfl,hb1⟩
   have HG1:=hide (((HG.out.set _ _).set _ _).past hb1)
   clear hb1 HG
   obtain ⟨z2,e2⟩:=HG1.out.at (o:=k*8+2) (by omega)
   have f2:=HG1.out.fr (k*8+2)
   obtain ⟨y2,d2⟩:=HG1.out.at (o:=k*8+1+1) (by omega)
   have c2:=HG1.out.fr (k*8+1+1)
   obtain ⟨z3,e3⟩:=HG1.out.at (o:=k*8+3) (by omega)
   have f3:=HG1.out.fr (k*8+3)
   obtain ⟨y3,d3⟩:=HG1.out.at (o:=k*8+1+2) (by omega)
   have c3:=HG1.out.fr (k*8+1+2)
   go_wp2_with fail
   clear e2 f2 d2 c2 e3 f3 d3 c3
   refine (c_markTextI _ (by omega) (by omega)).mono ?_
   rintro e w2 ⟨t2,rfl,hb2⟩
   have HG2:=hide (((HG1.out.set _ _).set _ _).past hb2)
   clear hb2 HG1
   obtain ⟨z4,e4⟩:=HG2.out.at (o:=k*8+4) (by omega)
   have f4:=HG2.out.fr (k*8+4)
   obtain ⟨y4,d4⟩:=HG2.out.at (o:=k*8+1+3) (by omega)
   have c4:=HG2.out.fr (k*8+1+3)
   obtain ⟨z5,e5⟩:=HG2.out.at (o:=k*8+5) (by omega)
   have f5:=HG2.out.fr (k*8+5)
   obtain ⟨y5,d5⟩:=HG2.out.at (o:=k*8+1+4) (by omega)
   have c5:=HG2.out.fr (k*8+1+4)
   obtain ⟨z6,e6⟩:=HG2.out.at (o:=k*8+6) (by omega)
   have f6:=HG2.out.fr (k*8+6)
   obtain ⟨y6,d6⟩:=HG2.out.at (o:=k*8+1+5) (by omega)
   have c6:=HG2.out.fr (k*8+1+5)
   obtain ⟨z7,e7⟩:=HG2.out.at (o:=k*8+7) (by omega)
   have f7:=HG2.out.fr (k*8+7)
   obtain ⟨y7,d7⟩:=HG2.out.at (o:=k*8+1+6) (by omega)
   have c7:=HG2.out.fr (k*8+1+6)
   go_wp2_with fail
   exact ⟨⟨k+1,by omega,by go_num,by rw [show (1+8*(k:Int)+1+1+1+1+1+1+1+1)=((1+8*(k+1):Nat):Int) by omega],hide ((((HG2.out.set _ _).set _ _).set _ _).set _ _)⟩,by simp [Go.RowKit.intOf];omega⟩
  ·obtain rfl:N=k:=by omega
   go_wp2
   go_ret
   exact ⟨by go_num,HG.out.gr⟩
end Go.Proofs.YtiiclgcpagdekaaGreatDoor
