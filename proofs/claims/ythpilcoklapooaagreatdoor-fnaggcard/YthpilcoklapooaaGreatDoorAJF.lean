/-
 slices.Sort at uint64, of at most forty numbers, the library's own text walked: what lies in the row; the insertion sort.
-/
import Derived.Test.YthpilcoklapooaaGreatDoorAJA
import Derived.Test.YthpilcoklapooaaGreatDoorRows
import Derived.Test.YthpilcoklapooaaGreatDoorAKG
import Derived.Deep.RegionHeld3
import Derived.Sort.AssemblyPlain
namespace Go.Proofs.YthpilcoklapooaaGreatDoor
set_option linter.unusedVariables false
set_option linter.unusedSimpArgs false
open Go.ChangeShapes Go.WideShapes Go.ChangeAt Go.RowKit Go.PlainAid
open Go.Sort (swp ltInt PermIn SortedIn)
set_option maxRecDepth 10000
theorem c_isNaNU (x:Int) (w:World) :
  Calls Tryz.prog 356 #[.int .u64 x] w fun e w'=>e=.returned (.bool false)∧w'=w:=by
 go_enter Tryz.func356,Tryz.ntmps356
 go_wp2
 go_ret
 exact ⟨rfl,rfl⟩
theorem c_lessU (x y:Int) (w:World) :
  Calls Tryz.prog 350 #[.int .u64 x,.int .u64 y] w fun e w'=>e=.returned (.bool (decide (x<y)))∧w'=w:=by
 go_enter Tryz.func350,Tryz.ntmps350
 go_wp2_with (go_at_call 356;refine (c_isNaNU _ _).mono ?_;rintro e w2 ⟨rfl,hw⟩;obtain rfl:=hw.symm)
 go_ret
 exact ⟨rfl,rfl⟩
/-- A row of n numbers that lies in block g. -/
def RowU (w:World) (B g n c:Nat) (D:Array Int):Prop:=D.size=n∧w.ownsRow B 23 1 (.slice (some ⟨g,0,none⟩) n c) n (D.toList.map (Value.int .u64))
theorem RowU.cell {w:World} {B g n c k:Nat} {D:Array Int} {x:Int} (h:RowU w B g n c D) (hk:k<n) (hx:x=D[k]!):w.cell? ⟨g,k,none⟩=some (.int .u64 x):=by
 have hs:=h.1
 rw [h.2.cellAt k (by omega),hx,getElem!_pos D k (by omega)]
 simp [hs,hk]
theorem RowU.froz {w:World} {B g n c:Nat} {D:Array Int} (h:RowU w B g n c D) (k:Nat):w.frozen? ⟨g,k,none⟩=false:=h.2.frozenAt k
theorem RowU.drews {w:World} {B g n c:Nat} {D:Array Int} (h:RowU w B g n c D) (m:Nat):RowU (w.drewN m) B g n c D:=h
theorem RowU.lt {w:World} {B g n c:Nat} {D:Array Int} (h:RowU w B g n c D):B≤g∧g<w.heap.size:=by
 rcases h.2.2 with ⟨e,_⟩ | ⟨g',c',cur,e,h1,h2,_⟩
 ·cases e
 ·cases e;exact ⟨h1,(Array.getElem?_eq_some_iff.1 h2).1⟩
theorem RowU.swap {w:World} {B g n c i j:Nat} {D:Array Int} {x y:Int} (h:RowU w B g n c D) (hx:x=D[i]!) (hy:y=D[j]!) (m:Nat) :
  RowU (((w.drewN m).setCell ⟨g,i,none⟩ (.int .u64 y)).setCell ⟨g,j,none⟩ (.int .u64 x)) B g n c (swp D i j):=by
 subst hx hy
 have o1:=((h.drews m).2).stored i (.int .u64 D[j]!)
 have o2:=(o1.1).stored j (.int .u64 D[i]!)
 refine ⟨by simp [swp,h.1],?_⟩
 have e:((D.toList.map (Value.int .u64)).set i (.int .u64 D[j]!)).set j (.int .u64 D[i]!)=(swp D i j).toList.map (Value.int .u64):=by
  simp only [swp,Array.toList_setIfInBounds,List.map_set]
 rw [← e]
 exact o2.1
theorem RowU.below {w w':World} {B K g n c:Nat} {D:Array Int} (h:RowU w B g n c D) (hg:g<K) (hb:Below K w w'):RowU w' B g n c D:=by
 refine ⟨h.1,h.2.1,?_⟩
 rcases h.2.2 with h | ⟨g',cap,cur,e,h1,h2,h3⟩
 ·exact .inl h
 ·cases e;exact .inr ⟨g,c,cur,rfl,h1,by rw [hb.block g hg];exact h2,h3⟩
theorem RowU.bel {w w':World} {B g n c i j:Nat} {D:Array Int} {x y:Value} (h:RowU w' B g n c D) (hb:Below B w w') (m:Nat):Below B w (((w'.drewN m).setCell ⟨g,i,none⟩ x).setCell ⟨g,j,none⟩ y):=
 ((bel_drews hb _).setCell h.lt.1 _).setCell h.lt.1 _
theorem RowU.cellS {w:World} {B g n c i j:Nat} {D:Array Int} {y:Int} (h:RowU w B g n c D) (hj:j<n) (hy:y=D[j]!):(w.setCell ⟨g,i,none⟩ (.int .u64 y)).cell? ⟨g,j,none⟩=some (.int .u64 y):=by
 have o1:=(h.2.stored i (.int .u64 y)).1
 have hs:=h.1
 rw [o1.cellAt j (by omega)]
 by_cases e:i=j
 ·subst e
  rw [List.getElem?_set_self (by simp;omega)]
 ·rw [List.getElem?_set_ne e,hy,getElem!_pos D j (by omega)]
  simp [hs,hj]
theorem ins_stop {a j:Nat} {d:Array Int} (h:j≤a):Go.Sort.insInner ltInt a j d=d:=by
 cases j with
 | zero=>rfl
 | succ j=>rw [Go.Sort.insInner,if_neg (by simp;omega)]
theorem ins_done {a j:Nat} {d:Array Int} {x y:Int} (hx:x=d[j]!) (hy:y=d[j+1]!) (h:¬ y<x):Go.Sort.insInner ltInt a (j+1) d=d:=by
 rw [Go.Sort.insInner,if_neg (by simp only [ltInt,← hx,← hy];simp;omega)]
theorem ins_step {a j:Nat} {d:Array Int} {x y:Int} (hx:x=d[j]!) (hy:y=d[j+1]!) (ha:a<j+1) (h:y<x):Go.Sort.insInner ltInt a (j+1) d=Go.Sort.insInner ltInt a j (swp d (j+1) j):=by
 rw [Go.Sort.insInner,if_pos (by simp only [ltInt,← hx,← hy];simp;omega)]
theorem out_step {a b i:Nat} {d:Array Int} (h:i<b):Go.Sort.insOuter ltInt a b i d=Go.Sort.insOuter ltInt a b (i+1) (Go.Sort.insInner ltInt a i d):=by
 rw [Go.Sort.insOuter,if_pos h]
theorem out_done {a b i:Nat} {d:Array Int} (h:¬ i<b):Go.Sort.insOuter ltInt a b i d=d:=by
 rw [Go.Sort.insOuter,if_neg h]
set_option maxHeartbeats 2000000 in
theorem c_insU {w:World} {B g n c a b:Nat} {D:Array Int} (hl:n≤40) (hab:a≤b) (hbn:b≤n) (hR:RowU w B g n c D) :
  Calls Tryz.prog 344 #[.slice (some ⟨g,0,none⟩) n c,.int .i64 a,.int .i64 b] w fun e w'=>∃ r,e=.returned r∧∃ M:Array Int,PermIn a b D M∧SortedIn ltInt a b M∧RowU w' B g n c M∧Below B w w':=by
 have HI:=hide (Go.Sort.insertionSort_holds (lt:=ltInt) Go.Sort.swo_ltInt D a b hab (by rw [hR.1];exact hbn))
 have HR:=hide hR
 clear hR
 generalize hX:Go.Sort.insertionSort ltInt D a b=X at HI
 have HX:Hid (X=Go.Sort.insOuter ltInt a b (a+1) D):=hX.symm
 clear hX
 go_enter Tryz.func344,Tryz.ntmps344
 go_wp2
 go_loopw [6] (fun vi wr=>Below B w wr∧∃ (i:Nat) (M:Array Int),vi=.int .i64 i∧a<i∧i≤n+1∧Hid (X=Go.Sort.insOuter ltInt a b i M)∧Hid (RowU wr B g n c M)) (fun vi wr=>n - (Go.RowKit.intOf vi).toNat)
 case atStart=>exact ⟨Below.refl _ _,a+1,D,by go_num,Nat.lt_succ_self _,by omega,HX,HR⟩
 case round=>
  obtain ⟨hbel,i,M,rfl,hi1,hin,HO,HM⟩:=hrel
  have HB:=hide hbel
  clear hbel HX HR
  by_cases hlt:i<b
  ·have HO2:Hid (X=Go.Sort.insOuter ltInt a b (i+1) (Go.Sort.insInner ltInt a i M)):=HO.out.trans (out_step hlt)
   clear HO
   go_wp2
   go_loopw [7] (fun vj wr2=>Below B w wr2∧∃ (j:Nat) (N:Array Int),vj=.int .i64 j∧a≤j∧j≤i∧Hid (X=Go.Sort.insOuter ltInt a b (i+1) (Go.Sort.insInner ltInt a j N))∧Hid (RowU wr2 B g n c N)) (fun vj wr2=>(Go.RowKit.intOf vj).toNat)
   case atStart=>exact ⟨HB.out,i,M,rfl,by omega,Nat.le_refl _,HO2,HM⟩
   case round=>
    obtain ⟨hbel2,j,N,rfl,hja,hji,HO3,HM2⟩:=hrel
    have HB2:=hide hbel2
    clear hbel2
    by_cases hj0:j=a
    ·subst hj0
     have HO4:Hid (X=Go.Sort.insOuter ltInt j b (i+1) N):=by have:=HO3.out;rw [ins_stop (Nat.le_refl _)] at this;exact this
     go_wp2
     go_quiet (first | (go_at_call 350;refine Calls.quiet_of_same (c_lessU _ _ _)))
     go_wp2
     go_roundw
     case rel=>exact ⟨bel_drews HB2.out _,i+1,N,by go_num,by omega,by omega,HO4,(HM2.out.drews _:_)⟩
     case measure=>simp [Go.RowKit.intOf];omega
    ·obtain ⟨k,rfl⟩:∃ k,j=k+1:=⟨j - 1,by omega⟩
     obtain ⟨x,hx⟩:∃ x,x=N[k]!:=⟨_,rfl⟩
     obtain ⟨y,hy⟩:∃ y,y=N[k+1]!:=⟨_,rfl⟩
     have hcx:=HM2.out.cell (k:=k) (by omega) hx
     have hcy:=HM2.out.cell (k:=k+1) (by omega) hy
     have hfx:=HM2.out.froz k
     have hfy:=HM2.out.froz (k+1)
     have e1:((k+1:Nat):Int) - 1=(k:Int):=by omega
     have ew:IntKind.i64.wrap (k:Int)=k:=IntWalk.i64_in _ ⟨by omega,by omega⟩
     have g1:(a:Int)<(k:Int)+1:=by omega
     have g2:¬ (k:Int)+1≤(a:Int):=by omega
     have HXY:=hide (And.intro hx hy)
     by_cases hl2:y<x
     ·have d1:decide (y<x)=true:=decide_eq_true hl2
      have HO4:Hid (X=Go.Sort.insOuter ltInt a b (i+1) (Go.Sort.insInner ltInt a k (swp N (k+1) k))):=by have:=HO3.out;rw [ins_step hx hy (by omega) hl2] at this;exact this
      clear hx hy HO3
      go_wp2
      go_quiet (first | (go_at_call 350;refine Calls.quiet_of_same (c_lessU _ _ _)))
      go_wp2
      go_region
      all_goals go_wp2
      go_roundw
      case rel=>exact ⟨HM2.out.bel HB2.out _,k,swp N (k+1) k,rfl,by omega,by omega,HO4,(HM2.out.swap HXY.out.2 HXY.out.1 _:_)⟩
      case measure=>simp [Go.RowKit.intOf]
     ·have d1:decide (y<x)=false:=decide_eq_false hl2
      have HO4:Hid (X=Go.Sort.insOuter ltInt a b (i+1) N):=by have:=HO3.out;rw [ins_done hx hy hl2] at this;exact this
      clear hx hy HO3
      go_wp2
      go_quiet (first | (go_at_call 350;refine Calls.quiet_of_same (c_lessU _ _ _)))
      go_wp2
      go_roundw
      case rel=>exact ⟨bel_drews HB2.out _,i+1,N,by go_num,by omega,by omega,HO4,(HM2.out.drews _:_)⟩
      case measure=>simp [Go.RowKit.intOf];omega
  ·have HO2:Hid (X=M):=HO.out.trans (out_done hlt)
   clear HO
   go_wp2
   go_end0
   exact ⟨_,rfl,M,by rw [← HO2.out];exact HI.out.1,by rw [← HO2.out];exact HI.out.2,HM.out,HB.out⟩
/-
 slices.Sort at uint64, of at most forty numbers: the heap sort.
-/
theorem sift_end {hi first root:Nat} {d:Array Int} (h:2*root+1 ≥ hi):Go.Sort.siftDown ltInt hi first root d=d:=by
 rw [Go.Sort.siftDown,dif_pos h]
theorem sift_right {hi first root:Nat} {d:Array Int} {r x y:Int} (h:¬ 2*root+1 ≥ hi) (hr:r=d[first+root]!) (hx:x=d[first+(2*root+1)]!) (hy:y=d[first+(2*root+1)+1]!) (h1:2*root+2<hi) (h2:x<y) :
  (¬ r<y→Go.Sort.siftDown ltInt hi first root d=d)∧(r<y→Go.Sort.siftDown ltInt hi first root d=Go.Sort.siftDown ltInt hi first (2*root+2) (swp d (first+root) (first+(2*root+2)))):=by
 have c1:(decide (2*root+1+1<hi) && ltInt d[first+(2*root+1)]! d[first+(2*root+1)+1]!)=true:=by rw [← hx,← hy];simp [ltInt];omega
 have e2:d[first+(2*root+2)]! = y:=by rw [hy];rfl
 constructor
 ·intro h3
  rw [Go.Sort.siftDown,dif_neg h,if_pos c1,e2,← hr,if_pos (by simp [ltInt];omega)]
 ·intro h3
  rw [Go.Sort.siftDown,dif_neg h,if_pos c1,e2,← hr,if_neg (by simp [ltInt];omega),dif_pos h1]
theorem sift_left {hi first root:Nat} {d:Array Int} {r x:Int} (h:¬ 2*root+1 ≥ hi) (hr:r=d[first+root]!) (hx:x=d[first+(2*root+1)]!) (h1:∀ y,y=d[first+(2*root+1)+1]!→¬ (2*root+2<hi∧x<y)) :
  (¬ r<x→Go.Sort.siftDown ltInt hi first root d=d)∧(r<x→Go.Sort.siftDown ltInt hi first root d=Go.Sort.siftDown ltInt hi first (2*root+1) (swp d (first+root) (first+(2*root+1)))):=by
 have c1:¬ (decide (2*root+1+1<hi) && ltInt d[first+(2*root+1)]! d[first+(2*root+1)+1]!)=true:=by
  rw [← hx];intro hh
  have:=Bool.and_eq_true_iff.1 hh
  exact h1 _ rfl ⟨by simpa using this.1,by simpa [ltInt] using this.2⟩
 constructor
 ·intro h3
  rw [Go.Sort.siftDown,dif_neg h,if_neg c1,← hr,← hx,if_pos (by simp [ltInt];omega)]
 ·intro h3
  rw [Go.Sort.siftDown,dif_neg h,if_neg c1,← hr,← hx,if_neg (by simp [ltInt];omega)]
set_option maxHeartbeats 2000000 in
theorem c_siftU {w:World} {B g n c lo hi first:Nat} {D:Array Int} (hl:n≤40) (hlo:lo≤n) (hhi:first+hi≤n) (hR:RowU w B g n c D) :
  Calls Tryz.prog 353 #[.slice (some ⟨g,0,none⟩) n c,.int .i64 lo,.int .i64 hi,.int .i64 first] w fun e w'=>∃ r,e=.returned r∧RowU w' B g n c (Go.Sort.siftDown ltInt hi first lo D)∧Below B w w':=by
 have HR:=hide hR
 clear hR
 generalize hX:Go.Sort.siftDown ltInt hi first lo D=X
 have HX:Hid (X=Go.Sort.siftDown ltInt hi first lo D):=hX.symm
 clear hX
 go_enter Tryz.func353,Tryz.ntmps353
 go_wp2
 go_loopw [8] (fun vi wr=>Below B w wr∧∃ (i:Nat) (M:Array Int),vi=.int .i64 i∧i≤n∧Hid (X=Go.Sort.siftDown ltInt hi first i M)∧Hid (RowU wr B g n c M)) (fun vi wr=>n - (Go.RowKit.intOf vi).toNat)
 case atStart=>exact ⟨Below.refl _ _,lo,D,by go_num,hlo,HX,HR⟩
 case round=>
  obtain ⟨hbel,i,M,rfl,hin,HO,HM⟩:=hrel
  have HB:=hide hbel
  clear hbel HX HR
  have ew1:IntKind.i64.wrap (2*(i:Int))=2*(i:Int):=IntWalk.i64_in _ ⟨by omega,by omega⟩
  have ew2:IntKind.i64.wrap (2*(i:Int)+1)=2*(i:Int)+1:=IntWalk.i64_in _ ⟨by omega,by omega⟩
  by_cases hend:2*i+1 ≥ hi
  ·have HO2:Hid (X=M):=HO.out.trans (sift_end hend)
   have hge:(hi:Int)≤2*(i:Int)+1:=by omega
   clear HO
   go_wp2
   go_end0
   exact ⟨_,rfl,by rw [HO2.out];exact HM.out,HB.out⟩
  ·have hge:¬ (hi:Int)≤2*(i:Int)+1:=by omega
   have hge2:2*(i:Int)+1<(hi:Int):=by omega
   have ew3:IntKind.i64.wrap (2*(i:Int)+1+1)=2*(i:Int)+1+1:=IntWalk.i64_in _ ⟨by omega,by omega⟩
   have ea0:(first:Int)+(i:Int)=((first+i:Nat):Int):=by omega
   have ea1:(first:Int)+(2*(i:Int)+1)=((first+(2*i+1):Nat):Int):=by omega
   have ea2:((first+(2*i+1):Nat):Int)+1=((first+(2*i+1)+1:Nat):Int):=by omega
   have ea3:(first:Int)+(2*(i:Int)+1+1)=((first+(2*i+1)+1:Nat):Int):=by omega
   obtain ⟨q0,hq0⟩:∃ q,q=first+i:=⟨_,rfl⟩
   obtain ⟨q1,hq1⟩:∃ q,q=first+(2*i+1):=⟨_,rfl⟩
   rw [← hq0] at ea0
   rw [← hq1] at ea1 ea2 ea3
   obtain ⟨q2,hq2⟩:∃ q,q=q1+1:=⟨_,rfl⟩
   rw [← hq2] at ea2 ea3
   have HQ:=hide (And.intro hq0 (And.intro hq1 hq2))
   have b0:q0<n:=by omega
   have b1:q1<n:=by omega
   have u0:IntKind.i64.wrap (q0:Int)=q0:=IntWalk.i64_in _ ⟨by omega,by omega⟩
   have u1:IntKind.i64.wrap (q1:Int)=q1:=IntWalk.i64_in _ ⟨by omega,by omega⟩
   have u2:IntKind.i64.wrap (q2:Int)=q2:=IntWalk.i64_in _ ⟨by omega,by omega⟩
   obtain ⟨r,hr⟩:∃ r,r=M[q0]!:=⟨_,rfl⟩
   obtain ⟨x,hx⟩:∃ x,x=M[q1]!:=⟨_,rfl⟩
   obtain ⟨y,hy⟩:∃ y,y=M[q2]!:=⟨_,rfl⟩
   have hcr:=HM.out.cell (k:=q0) b0 hr
   have hcx:=HM.out.cell (k:=q1) b1 hx
   have hfr:=HM.out.froz q0
   have hfx:=HM.out.froz q1
   have hfy:=HM.out.froz q2
   have HF:=hide (And.intro hr (And.intro hx hy))
   by_cases hrt:2*i+2<hi∧x<y
   ·obtain ⟨hrt1,hrt2⟩:=hrt
    have HS:=hide (sift_right (d:=M) (first:=first) (r:=r) (x:=x) (y:=y) hend (by rw [hr,hq0]) (by rw [hx,hq1]) (by rw [hy,hq2,hq1]) hrt1 hrt2)
    have b2:q2<n:=by omega
    have hcy:=HM.out.cell (k:=q2) b2 hy
    have hl1:2*(i:Int)+1+1<(hi:Int):=by omega
    have d1:decide (x<y)=true:=decide_eq_true hrt2
    clear hr hx hy hq0 hq1 hq2
    by_cases hs:r<y
    ·have d2:decide (r<y)=true:=decide_eq_true hs
     have HO2:Hid (X=Go.Sort.siftDown ltInt hi first (2*i+2) (swp M q0 q2)):=by
      have:=HO.out;rw [HS.out.2 hs] at this;rw [HQ.out.2.2,HQ.out.1,HQ.out.2.1];exact this
     clear HO HS
     go_wp2
     go_quiet (first | (go_at_call 350;refine Calls.quiet_of_same (c_lessU _ _ _)))
     go_wp2
     generalize hw2:wr.drewN nq=w2
     have HM2:Hid (RowU w2 B g n c M):=by rw [← hw2];exact HM.out.drews _
     have HB2:Hid (Below B w w2):=by rw [← hw2];exact bel_drews HB.out _
     clear hw2
     have hcr:=HM2.out.cell b0 HF.out.1
     have hcz:=HM2.out.cell b2 HF.out.2.2
     have hfr:=HM2.out.froz q0
     have hfz:=HM2.out.froz q2
     go_quiet (first | (go_at_call 350;refine Calls.quiet_of_same (c_lessU _ _ _)))
     go_wp2
     go_region
     all_goals go_wp2
     go_roundw
     case rel=>exact ⟨HM2.out.bel HB2.out _,2*i+2,swp M q0 q2,by go_num,by omega,HO2,(HM2.out.swap HF.out.1 HF.out.2.2 _:_)⟩
     case measure=>simp [Go.RowKit.intOf];omega
    ·have d2:decide (r<y)=false:=decide_eq_false hs
     have HO2:Hid (X=M):=HO.out.trans (HS.out.1 hs)
     clear HO HS
     go_wp2
     go_quiet (first | (go_at_call 350;refine Calls.quiet_of_same (c_lessU _ _ _)))
     go_wp2
     generalize hw2:wr.drewN nq=w2
     have HM2:Hid (RowU w2 B g n c M):=by rw [← hw2];exact HM.out.drews _
     have HB2:Hid (Below B w w2):=by rw [← hw2];exact bel_drews HB.out _
     clear hw2
     have hcr:=HM2.out.cell b0 HF.out.1
     have hcz:=HM2.out.cell b2 HF.out.2.2
     have hfr:=HM2.out.froz q0
     have hfz:=HM2.out.froz q2
     go_quiet (first | (go_at_call 350;refine Calls.quiet_of_same (c_lessU _ _ _)))
     go_wp2
     (try simp only [Exit.inBlock,Exit.then]);refine bodyPost_ret (results_none rfl _ _ _) rfl ?_
     exact ⟨_,rfl,by rw [HO2.out];exact HM2.out,bel_drews HB2.out _⟩
   ·have HS:=hide (sift_left (d:=M) (first:=first) (r:=r) (x:=x) hend (by rw [hr,hq0]) (by rw [hx,hq1]) (fun y' e h=>hrt (by rw [e,← hq1,← hq2,← hy] at h;exact h)))
    by_cases hrt1:2*i+2<hi
    ·have b2:q2<n:=by omega
     have hcy:=HM.out.cell (k:=q2) b2 hy
     have hl1:2*(i:Int)+1+1<(hi:Int):=by omega
     have d1:decide (x<y)=false:=decide_eq_false (fun h=>hrt ⟨hrt1,h⟩)
     clear hr hx hy hq0 hq1 hq2
     by_cases hs:r<x
     ·have d2:decide (r<x)=true:=decide_eq_true hs
      have HO2:Hid (X=Go.Sort.siftDown ltInt hi first (2*i+1) (swp M q0 q1)):=by
       have:=HO.out;rw [HS.out.2 hs] at this;rw [HQ.out.1,HQ.out.2.1];exact this
      clear HO HS
      go_wp2
      go_quiet (first | (go_at_call 350;refine Calls.quiet_of_same (c_lessU _ _ _)))
      go_wp2
      generalize hw2:wr.drewN nq=w2
      have HM2:Hid (RowU w2 B g n c M):=by rw [← hw2];exact HM.out.drews _
      have HB2:Hid (Below B w w2):=by rw [← hw2];exact bel_drews HB.out _
      clear hw2
      have hcr:=HM2.out.cell b0 HF.out.1
      have hcz:=HM2.out.cell b1 HF.out.2.1
      have hfr:=HM2.out.froz q0
      have hfz:=HM2.out.froz q1
      go_quiet (first | (go_at_call 350;refine Calls.quiet_of_same (c_lessU _ _ _)))
      go_wp2
      go_region
      all_goals go_wp2
      go_roundw
      case rel=>exact ⟨HM2.out.bel HB2.out _,2*i+1,swp M q0 q1,by go_num,by omega,HO2,(HM2.out.swap HF.out.1 HF.out.2.1 _:_)⟩
      case measure=>simp [Go.RowKit.intOf];omega
     ·have d2:decide (r<x)=false:=decide_eq_false hs
      have HO2:Hid (X=M):=HO.out.trans (HS.out.1 hs)
      clear HO HS
      go_wp2
      go_quiet (first | (go_at_call 350;refine Calls.quiet_of_same (c_lessU _ _ _)))
      go_wp2
      generalize hw2:wr.drewN nq=w2
      have HM2:Hid (RowU w2 B g n c M):=by rw [← hw2];exact HM.out.drews _
      have HB2:Hid (Below B w w2):=by rw [← hw2];exact bel_drews HB.out _
      clear hw2
      have hcr:=HM2.out.cell b0 HF.out.1
      have hcz:=HM2.out.cell b1 HF.out.2.1
      have hfr:=HM2.out.froz q0
      have hfz:=HM2.out.froz q1
      go_quiet (first | (go_at_call 350;refine Calls.quiet_of_same (c_lessU _ _ _)))
      go_wp2
      (try simp only [Exit.inBlock,Exit.then]);refine bodyPost_ret (results_none rfl _ _ _) rfl ?_
      exact ⟨_,rfl,by rw [HO2.out];exact HM2.out,bel_drews HB2.out _⟩
    ·have dg:decide (2*(i:Int)+1+1<(hi:Int))=false:=decide_eq_false (by omega)
     clear hr hx hy hq0 hq1 hq2
     by_cases hs:r<x
     ·have d2:decide (r<x)=true:=decide_eq_true hs
      have HO2:Hid (X=Go.Sort.siftDown ltInt hi first (2*i+1) (swp M q0 q1)):=by
       have:=HO.out;rw [HS.out.2 hs] at this;rw [HQ.out.1,HQ.out.2.1];exact this
      clear HO HS
      go_wp2
      go_quiet (first | (go_at_call 350;refine Calls.quiet_of_same (c_lessU _ _ _)))
      go_wp2
      generalize hw2:wr.drewN nq=w2
      have HM2:Hid (RowU w2 B g n c M):=by rw [← hw2];exact HM.out.drews _
      have HB2:Hid (Below B w w2):=by rw [← hw2];exact bel_drews HB.out _
      clear hw2
      have hcr:=HM2.out.cell b0 HF.out.1
      have hcz:=HM2.out.cell b1 HF.out.2.1
      have hfr:=HM2.out.froz q0
      have hfz:=HM2.out.froz q1
      go_quiet (first | (go_at_call 350;refine Calls.quiet_of_same (c_lessU _ _ _)))
      go_wp2
      go_region
      all_goals go_wp2
      go_roundw
      case rel=>exact ⟨HM2.out.bel HB2.out _,2*i+1,swp M q0 q1,by go_num,by omega,HO2,(HM2.out.swap HF.out.1 HF.out.2.1 _:_)⟩
      case measure=>simp [Go.RowKit.intOf];omega
     ·have d2:decide (r<x)=false:=decide_eq_false hs
      have HO2:Hid (X=M):=HO.out.trans (HS.out.1 hs)
      clear HO HS
      go_wp2
      go_quiet (first | (go_at_call 350;refine Calls.quiet_of_same (c_lessU _ _ _)))
      go_wp2
      generalize hw2:wr.drewN nq=w2
      have HM2:Hid (RowU w2 B g n c M):=by rw [← hw2];exact HM.out.drews _
      have HB2:Hid (Below B w w2):=by rw [← hw2];exact bel_drews HB.out _
      clear hw2
      have hcr:=HM2.out.cell b0 HF.out.1
      have hcz:=HM2.out.cell b1 HF.out.2.1
      have hfr:=HM2.out.froz q0
      have hfz:=HM2.out.froz q1
      go_quiet (first | (go_at_call 350;refine Calls.quiet_of_same (c_lessU _ _ _)))
      go_wp2
      (try simp only [Exit.inBlock,Exit.then]);refine bodyPost_ret (results_none rfl _ _ _) rfl ?_
      exact ⟨_,rfl,by rw [HO2.out];exact HM2.out,bel_drews HB2.out _⟩
set_option maxHeartbeats 2000000 in
theorem c_heapU {w:World} {B g n c a b:Nat} {D:Array Int} (hl:n≤40) (hab:a<b) (hbn:b≤n) (hR:RowU w B g n c D) :
  Calls Tryz.prog 345 #[.slice (some ⟨g,0,none⟩) n c,.int .i64 a,.int .i64 b] w fun e w'=>∃ r,e=.returned r∧∃ M:Array Int,PermIn a b D M∧SortedIn ltInt a b M∧RowU w' B g n c M∧Below B w w':=by
 have HI:=hide (Go.Sort.heapSort_holds (lt:=ltInt) Go.Sort.swo_ltInt D a b (by omega) (by rw [hR.1];exact hbn))
 have HR:=hide hR
 clear hR
 generalize hX:Go.Sort.heapSort ltInt D a b=X at HI
 obtain ⟨h,eh⟩:∃ h,h=b - a:=⟨_,rfl⟩
 have HX:Hid (X=Go.Sort.heapPop ltInt a h (Go.Sort.heapBuild ltInt h a ((h - 1) / 2+1) D)):=by rw [eh];exact hX.symm
 clear hX
 have e1:(b:Int) - (a:Int)=(h:Int):=by omega
 have u1:IntKind.i64.wrap (h:Int)=h:=IntWalk.i64_in _ ⟨by omega,by omega⟩
 have e2:(h:Int) - 1=((h - 1:Nat):Int):=by omega
 obtain ⟨h1,eh1⟩:∃ h1,h1=h - 1:=⟨_,rfl⟩
 rw [← eh1] at e2
 have u2:IntKind.i64.wrap (h1:Int)=h1:=IntWalk.i64_in _ ⟨by omega,by omega⟩
 have e3:(h1:Int).tdiv 2=((h1 / 2:Nat):Int):=by rw [Int.tdiv_eq_ediv_of_nonneg (by omega)];omega
 obtain ⟨h2,eh2⟩:∃ h2,h2=h1 / 2:=⟨_,rfl⟩
 rw [← eh2] at e3
 have u3:IntKind.i64.wrap (h2:Int)=h2:=IntWalk.i64_in _ ⟨by omega,by omega⟩
 have HX2:Hid (X=Go.Sort.heapPop ltInt a h (Go.Sort.heapBuild ltInt h a (h2+1) D)):=by rw [eh2,eh1];exact HX.out
 have HEH:=hide (And.intro eh (And.intro eh1 eh2))
 have bh:h≤n:=by omega
 have bh1:h1<h:=by omega
 have bh2:h2≤h1:=by omega
 have bah:a+h≤n:=by omega
 clear HX eh eh1 eh2
 go_enter Tryz.func345,Tryz.ntmps345
 go_wp2
 go_loopw [9] (fun vi wr=>Below B w wr∧∃ (k:Nat) (M:Array Int),vi=.int .i64 ((k:Int) - 1)∧k≤h2+1∧Hid (X=Go.Sort.heapPop ltInt a h (Go.Sort.heapBuild ltInt h a k M))∧Hid (RowU wr B g n c M)) (fun vi wr=>(Go.RowKit.intOf vi+1).toNat)
 case atStart=>exact ⟨Below.refl _ _,h2+1,D,by go_num,Nat.le_refl _,HX2,HR⟩
 case round=>
  obtain ⟨hbel,k,M,rfl,hk,HO,HM⟩:=hrel
  have HB:=hide hbel
  clear hbel HX2 HR
  cases k with
  | zero=>
   have HO2:Hid (X=Go.Sort.heapPop ltInt a h M):=HO.out
   clear HO
   rw [show (((0:Nat):Int) - 1)=-1 from rfl]
   go_wp2
   go_loopw [10] (fun vi wr=>Below B w wr∧∃ (k:Nat) (M:Array Int),vi=.int .i64 ((k:Int) - 1)∧k≤h∧Hid (X=Go.Sort.heapPop ltInt a k M)∧Hid (RowU wr B g n c M)) (fun vi wr=>(Go.RowKit.intOf vi+1).toNat)
   case atStart=>exact ⟨HB.out,h,M,by go_num,Nat.le_refl _,HO2,HM⟩
   case round=>
    clear HB HO2 HM
    obtain ⟨hbel,k,M,rfl,hk,HO,HM⟩:=hrel
    have HB:=hide hbel
    clear hbel
    cases k with
    | zero=>
     have HO2:Hid (X=M):=HO.out
     go_wp2
     go_end0
     exact ⟨_,rfl,M,by rw [← HO2.out];exact HI.out.1,by rw [← HO2.out];exact HI.out.2,HM.out,HB.out⟩
    | succ k=>
     have HO2:Hid (X=Go.Sort.heapPop ltInt a k (Go.Sort.siftDown ltInt k a 0 (swp M a (a+k)))):=HO.out
     have e5:((k+1:Nat):Int) - 1=(k:Int):=by omega
     have e6:(a:Int)+(k:Int)=((a+k:Nat):Int):=by omega
     obtain ⟨q,hq⟩:∃ q,q=a+k:=⟨_,rfl⟩
     rw [← hq] at e6
     have bq:q<n:=by omega
     have ba:a<n:=by omega
     have u6:IntKind.i64.wrap (q:Int)=q:=IntWalk.i64_in _ ⟨by omega,by omega⟩
     have u5:IntKind.i64.wrap ((k:Int) - 1)=(k:Int) - 1:=IntWalk.i64_in _ ⟨by omega,by omega⟩
     obtain ⟨x,hx⟩:∃ x,x=M[a]!:=⟨_,rfl⟩
     obtain ⟨y,hy⟩:∃ y,y=M[q]!:=⟨_,rfl⟩
     have hcx:=HM.out.cell ba hx
     have hcy:=HM.out.cell bq hy
     have hcs:=HM.out.cellS (i:=a) bq hy
     have hfx:=HM.out.froz a
     have hfy:=HM.out.froz q
     have HF:=hide (And.intro hx hy)
     have HQ:=hide hq
     rw [e5]
     clear hx hy hq HO e5
     go_wp2
     go_region
     all_goals go_wp2_with fail
     refine (c_siftU (lo:=0) (hi:=k) (first:=a) hl (by omega) (by omega) (HM.out.swap HF.out.1 HF.out.2 _)).mono ?_
     rintro e w2 ⟨r,rfl,hR2,hb2⟩
     have HM2:Hid (RowU w2 B g n c (Go.Sort.siftDown ltInt k a 0 (swp M a (a+k)))):=by rw [← HQ.out];exact hR2
     have HB2:=hide ((HM.out.bel HB.out _).trans hb2)
     clear hR2 hb2
     go_wp2
     go_roundw
     case rel=>exact ⟨HB2.out,k,_,rfl,by omega,HO2,HM2⟩
     case measure=>simp [Go.RowKit.intOf]
  | succ k=>
   have HO2:Hid (X=Go.Sort.heapPop ltInt a h (Go.Sort.heapBuild ltInt h a k (Go.Sort.siftDown ltInt h a k M))):=HO.out
   have e5:((k+1:Nat):Int) - 1=(k:Int):=by omega
   have u5:IntKind.i64.wrap ((k:Int) - 1)=(k:Int) - 1:=IntWalk.i64_in _ ⟨by omega,by omega⟩
   rw [e5]
   clear HO e5
   go_wp2_with fail
   refine (c_siftU (lo:=k) (hi:=h) (first:=a) hl (by omega) (by omega) HM.out).mono ?_
   rintro e w2 ⟨r,rfl,hR2,hb2⟩
   have HM2:=hide hR2
   have HB2:=hide (HB.out.trans hb2)
   clear hR2 hb2
   go_wp2
   go_roundw
   case rel=>exact ⟨HB2.out,k,_,rfl,by omega,HO2,HM2⟩
   case measure=>simp [Go.RowKit.intOf]
end Go.Proofs.YthpilcoklapooaaGreatDoor
