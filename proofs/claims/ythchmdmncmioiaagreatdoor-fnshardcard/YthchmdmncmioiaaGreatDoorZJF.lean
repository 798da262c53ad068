/-
 slices.Sort at uint64, of at most forty numbers, the library's own text walked: what lies in the row; the insertion sort.
-/
import Derived.Test.YthchmdmncmioiaaGreatDoorZJA
import Derived.Sort.AssemblyPlain
import Derived.Sort.Row
set_option maxHeartbeats 16000000
namespace Go.Proofs.YthchmdmncmioiaaGreatDoor
set_option linter.unusedVariables false
set_option linter.unusedSimpArgs false
open Go.ChangeShapes Go.WideShapes Go.ChangeAt Go.RowKit Go.PlainAid
open Go.Sort (swp ltInt PermIn SortedIn)
set_option maxRecDepth 10000
theorem QnW (x:Int) (w:World) :
  Calls Tryz.prog 340 #[.int .u64 x] w fun e w'=>e=.returned (.bool false)/\w'=w:=by
 go_enter Tryz.func340,Tryz.ntmps340;go_wp2;go_ret;exact ⟨rfl,rfl⟩
theorem Qat (x y:Int) (w:World) :
  Calls Tryz.prog 334 #[.int .u64 x,.int .u64 y] w fun e w'=>e=.returned (.bool (decide (x<y)))/\w'=w:=by
 go_enter Tryz.func334,Tryz.ntmps334;go_wp2_with (go_at_call 340;refine (QnW _ _).mono ?_;rintro e w2 ⟨rfl,hw⟩;obtain rfl:=hw.symm);go_ret;exact ⟨rfl,rfl⟩
def RowU (w:World) (B g n c:Nat) (D:Array Int):Prop:=D.size=n/\w.ownsRow B 26 1 (.slice (some ⟨g,0,none⟩) n c) n (D.toList.map (Value.int .u64))
theorem RowU.cell {w:World} {B g n c k:Nat} {D:Array Int} {x:Int} (h:RowU w B g n c D) (hk:k<n) (hx:x=D[k]!):w.cell? ⟨g,k,none⟩=some (.int .u64 x):=by
 have hs:=h.1;rw [h.2.cellAt k (by omega),hx,getElem!_pos D k (by omega)];simp [hs,hk]
theorem RowU.froz {w:World} {B g n c:Nat} {D:Array Int} (h:RowU w B g n c D) (k:Nat):w.frozen? ⟨g,k,none⟩=false:=h.2.frozenAt k
theorem RowU.drews {w:World} {B g n c:Nat} {D:Array Int} (h:RowU w B g n c D) (m:Nat):RowU (w.drewN m) B g n c D:=h
theorem RowU.lt {w:World} {B g n c:Nat} {D:Array Int} (h:RowU w B g n c D):B<=g/\g<w.heap.size:=by
 rcases h.2.2 with ⟨e,_⟩ | ⟨g',c',cur,e,h1,h2,_⟩
 ·cases e
 ·cases e;exact ⟨h1,(ZZc.1 h2).1⟩
theorem RowU.swap {w:World} {B g n c i j:Nat} {D:Array Int} {x y:Int} (h:RowU w B g n c D) (hx:x=D[i]!) (hy:y=D[j]!) (m:Nat) :
  RowU (((w.drewN m).setCell ⟨g,i,none⟩ (.int .u64 y)).setCell ⟨g,j,none⟩ (.int .u64 x)) B g n c (swp D i j):=by
 subst hx hy;have o1:=((h.drews m).2).stored i (.int .u64 D[j]!);have o2:=(o1.1).stored j (.int .u64 D[i]!);refine ⟨by simp [swp,h.1],?_⟩
 have e:((D.toList.map (Value.int .u64)).set i (.int .u64 D[j]!)).set j (.int .u64 D[i]!)=(swp D i j).toList.map (Value.int .u64):=by
  simp only [swp,Array.toList_setIfInBounds,List.map_set]
 rw [<- e];exact o2.1
theorem RowU.below {w w':World} {B K g n c:Nat} {D:Array Int} (h:RowU w B g n c D) (hg:g<K) (hb:Below K w w'):RowU w' B g n c D:=by
 refine ⟨h.1,h.2.1,?_⟩;rcases h.2.2 with h | ⟨g',cap,cur,e,h1,h2,h3⟩
 ·exact .inl h
 ·cases e;exact .inr ⟨g,c,cur,rfl,h1,by rw [hb.block g hg];exact h2,h3⟩
theorem RowU.bel {w w':World} {B g n c i j:Nat} {D:Array Int} {x y:Value} (h:RowU w' B g n c D) (hb:Below B w w') (m:Nat):Below B w (((w'.drewN m).setCell ⟨g,i,none⟩ x).setCell ⟨g,j,none⟩ y):=
 ((Qah hb _).setCell h.lt.1 _).setCell h.lt.1 _
theorem RowU.cellS {w:World} {B g n c i j:Nat} {D:Array Int} {y:Int} (h:RowU w B g n c D) (hj:j<n) (hy:y=D[j]!):(w.setCell ⟨g,i,none⟩ (.int .u64 y)).cell? ⟨g,j,none⟩=some (.int .u64 y):=by
 have o1:=(h.2.stored i (.int .u64 y)).1;have hs:=h.1;rw [o1.cellAt j (by omega)];by_cases e:i=j
 ·subst e
  rw [List.getElem?_set_self (by simp;omega)]
 ·rw [List.getElem?_set_ne e,hy,getElem!_pos D j (by omega)]
  simp [hs,hj]
theorem QoV {a j:Nat} {d:Array Int} (h:j<=a):Go.Sort.insInner ltInt a j d=d:=by
 cases j with
 | zero=>rfl
 | succ j=>rw [Go.Sort.insInner,if_neg (by simp;omega)]
theorem Qo6 {a j:Nat} {d:Array Int} {x y:Int} (hx:x=d[j]!) (hy:y=d[j+1]!) (h:¬ y<x):Go.Sort.insInner ltInt a (j+1) d=d:=by
 rw [Go.Sort.insInner,if_neg (by simp only [ltInt,<- hx,<- hy];simp;omega)]
theorem Qos {a j:Nat} {d:Array Int} {x y:Int} (hx:x=d[j]!) (hy:y=d[j+1]!) (ha:a<j+1) (h:y<x):Go.Sort.insInner ltInt a (j+1) d=Go.Sort.insInner ltInt a j (swp d (j+1) j):=by
 rw [Go.Sort.insInner,if_pos (by simp only [ltInt,<- hx,<- hy];simp;omega)]
theorem Qod {a b i:Nat} {d:Array Int} (h:i<b):Go.Sort.insOuter ltInt a b i d=Go.Sort.insOuter ltInt a b (i+1) (Go.Sort.insInner ltInt a i d):=by
 rw [Go.Sort.insOuter,if_pos h]
theorem Qow {a b i:Nat} {d:Array Int} (h:¬ i<b):Go.Sort.insOuter ltInt a b i d=d:=by
 rw [Go.Sort.insOuter,if_neg h]
theorem c_insU {w:World} {B g n c a b:Nat} {D:Array Int} (hl:n<=40) (hab:a<=b) (hbn:b<=n) (hR:RowU w B g n c D) :
  Calls Tryz.prog 328 #[.slice (some ⟨g,0,none⟩) n c,.int .i64 a,.int .i64 b] w fun e w'=>∃ r,e=.returned r/\∃ M:Array Int,PermIn a b D M/\SortedIn ltInt a b M/\RowU w' B g n c M/\Below B w w':=by
 have HI:=Qaa (Go.Sort.insertionSort_holds (lt:=ltInt) Go.Sort.swo_ltInt D a b hab (by rw [hR.1];exact hbn));have HR:=Qaa hR;clear hR;generalize hX:Go.Sort.insertionSort ltInt D a b=X at HI;have HX:Hid (X=Go.Sort.insOuter ltInt a b (a+1) D):=hX.symm;clear hX;go_enter Tryz.func328,Tryz.ntmps328;go_wp2
 go_loopw [6] (fun vi wr=>Below B w wr/\∃ (i:Nat) (M:Array Int),vi=.int .i64 i/\a<i/\i<=n+1/\Hid (X=Go.Sort.insOuter ltInt a b i M)/\Hid (RowU wr B g n c M)) (fun vi wr=>n - (Go.RowKit.intOf vi).toNat)
 case atStart=>exact ⟨ZZb _ _,a+1,D,by go_num,Nat.lt_succ_self _,by omega,HX,HR⟩
 case round=>
  obtain ⟨hbel,i,M,rfl,hi1,hin,HO,HM⟩:=hrel;have HB:=Qaa hbel;clear hbel HX HR;by_cases hlt:i<b
  ·have HO2:Hid (X=Go.Sort.insOuter ltInt a b (i+1) (Go.Sort.insInner ltInt a i M)):=HO.out.trans (Qod hlt)
   clear HO;go_wp2
   go_loopw [7] (fun vj wr2=>Below B w wr2/\∃ (j:Nat) (N:Array Int),vj=.int .i64 j/\a<=j/\j<=i/\Hid (X=Go.Sort.insOuter ltInt a b (i+1) (Go.Sort.insInner ltInt a j N))/\Hid (RowU wr2 B g n c N)) (fun vj wr2=>(Go.RowKit.intOf vj).toNat)
   case atStart=>exact ⟨HB.out,i,M,rfl,by omega,ZZa _,HO2,HM⟩
   case round=>
    obtain ⟨hbel2,j,N,rfl,hja,hji,HO3,HM2⟩:=hrel;have HB2:=Qaa hbel2;clear hbel2;by_cases hj0:j=a
    ·subst hj0
     have HO4:Hid (X=Go.Sort.insOuter ltInt j b (i+1) N):=by have:=HO3.out;rw [QoV (Nat.le_refl _)] at this;exact this
     go_wp2
     go_quiet (first | (go_at_call 334;refine Calls.quiet_of_same (Qat _ _ _)))
     go_wp2;go_roundw
     case rel=>exact ⟨Qah HB2.out _,i+1,N,by go_num,by omega,by omega,HO4,(HM2.out.drews _:_)⟩
     case measure=>simp [Go.RowKit.intOf];omega
    ·obtain ⟨k,rfl⟩:∃ k,j=k+1:=⟨j - 1,by omega⟩
     obtain ⟨x,hx⟩:∃ x,x=N[k]!:=⟨_,rfl⟩;obtain ⟨y,hy⟩:∃ y,y=N[k+1]!:=⟨_,rfl⟩;have hcx:=HM2.out.cell (k:=k) (by omega) hx;have hcy:=HM2.out.cell (k:=k+1) (by omega) hy;have hfx:=HM2.out.froz k;have hfy:=HM2.out.froz (k+1);have e1:((k+1:Nat):Int) - 1=(k:Int):=by omega
     have ew:IntKind.i64.wrap (k:Int)=k:=ZZi _ ⟨by omega,by omega⟩;have g1:(a:Int)<(k:Int)+1:=by omega
     have g2:¬ (k:Int)+1<=(a:Int):=by omega
     have HXY:=Qaa (And.intro hx hy);by_cases hl2:y<x
     ·have d1:decide (y<x)=true:=ZZh hl2
      have HO4:Hid (X=Go.Sort.insOuter ltInt a b (i+1) (Go.Sort.insInner ltInt a k (swp N (k+1) k))):=by have:=HO3.out;rw [Qos hx hy (by omega) hl2] at this;exact this
      clear hx hy HO3;go_wp2
      go_quiet (first | (go_at_call 334;refine Calls.quiet_of_same (Qat _ _ _)))
      go_wp2;go_region
      all_goals go_wp2
      go_roundw
      case rel=>exact ⟨HM2.out.bel HB2.out _,k,swp N (k+1) k,rfl,by omega,by omega,HO4,(HM2.out.swap HXY.out.2 HXY.out.1 _:_)⟩
      case measure=>simp [Go.RowKit.intOf]
     ·have d1:decide (y<x)=false:=ZZg hl2
      have HO4:Hid (X=Go.Sort.insOuter ltInt a b (i+1) N):=by have:=HO3.out;rw [Qo6 hx hy hl2] at this;exact this
      clear hx hy HO3;go_wp2
      go_quiet (first | (go_at_call 334;refine Calls.quiet_of_same (Qat _ _ _)))
      go_wp2;go_roundw
      case rel=>exact ⟨Qah HB2.out _,i+1,N,by go_num,by omega,by omega,HO4,(HM2.out.drews _:_)⟩
      case measure=>simp [Go.RowKit.intOf];omega
  ·have HO2:Hid (X=M):=HO.out.trans (Qow hlt)
   clear HO;go_wp2
   go_end0
   exact ⟨_,rfl,M,by rw [<- HO2.out];exact HI.out.1,by rw [<- HO2.out];exact HI.out.2,HM.out,HB.out⟩
theorem QoU {hi first root:Nat} {d:Array Int} (h:2*root+1 ≥ hi):Go.Sort.siftDown ltInt hi first root d=d:=by
 rw [Go.Sort.siftDown,dif_pos h]
theorem QlD {hi first root:Nat} {d:Array Int} {r x y:Int} (h:¬ 2*root+1 ≥ hi) (hr:r=d[first+root]!) (hx:x=d[first+(2*root+1)]!) (hy:y=d[first+(2*root+1)+1]!) (h1:2*root+2<hi) (h2:x<y) :
  (¬ r<y->Go.Sort.siftDown ltInt hi first root d=d)/\(r<y->Go.Sort.siftDown ltInt hi first root d=Go.Sort.siftDown ltInt hi first (2*root+2) (swp d (first+root) (first+(2*root+2)))):=by
 have c1:(decide (2*root+1+1<hi) && ltInt d[first+(2*root+1)]! d[first+(2*root+1)+1]!)=true:=by rw [<- hx,<- hy];simp [ltInt];omega
 have e2:d[first+(2*root+2)]! = y:=by rw [hy];rfl
 constructor
 ·intro h3
  rw [Go.Sort.siftDown,dif_neg h,if_pos c1,e2,<- hr,if_pos (by simp [ltInt];omega)]
 ·intro h3
  rw [Go.Sort.siftDown,dif_neg h,if_pos c1,e2,<- hr,if_neg (by simp [ltInt];omega),dif_pos h1]
theorem QmH {hi first root:Nat} {d:Array Int} {r x:Int} (h:¬ 2*root+1 ≥ hi) (hr:r=d[first+root]!) (hx:x=d[first+(2*root+1)]!) (h1:∀ y,y=d[first+(2*root+1)+1]!->¬ (2*root+2<hi/\x<y)) :
  (¬ r<x->Go.Sort.siftDown ltInt hi first root d=d)/\(r<x->Go.Sort.siftDown ltInt hi first root d=Go.Sort.siftDown ltInt hi first (2*root+1) (swp d (first+root) (first+(2*root+1)))):=by
 have c1:¬ (decide (2*root+1+1<hi) && ltInt d[first+(2*root+1)]! d[first+(2*root+1)+1]!)=true:=by
  rw [<- hx];intro hh;have:=Bool.and_eq_true_iff.1 hh;exact h1 _ rfl ⟨by simpa using this.1,by simpa [ltInt] using this.2⟩
 constructor
 ·intro h3
  rw [Go.Sort.siftDown,dif_neg h,if_neg c1,<- hr,<- hx,if_pos (by simp [ltInt];omega)]
 ·intro h3
  rw [Go.Sort.siftDown,dif_neg h,if_neg c1,<- hr,<- hx,if_neg (by simp [ltInt];omega)]
theorem Qm5 {w:World} {B g n c lo hi first:Nat} {D:Array Int} (hl:n<=40) (hlo:lo<=n) (hhi:first+hi<=n) (hR:RowU w B g n c D) :
  Calls Tryz.prog 337 #[.slice (some ⟨g,0,none⟩) n c,.int .i64 lo,.int .i64 hi,.int .i64 first] w fun e w'=>∃ r,e=.returned r/\RowU w' B g n c (Go.Sort.siftDown ltInt hi first lo D)/\Below B w w':=by
 have HR:=Qaa hR;clear hR;generalize hX:Go.Sort.siftDown ltInt hi first lo D=X;have HX:Hid (X=Go.Sort.siftDown ltInt hi first lo D):=hX.symm;clear hX;go_enter Tryz.func337,Tryz.ntmps337;go_wp2
 go_loopw [8] (fun vi wr=>Below B w wr/\∃ (i:Nat) (M:Array Int),vi=.int .i64 i/\i<=n/\Hid (X=Go.Sort.siftDown ltInt hi first i M)/\Hid (RowU wr B g n c M)) (fun vi wr=>n - (Go.RowKit.intOf vi).toNat)
 case atStart=>exact ⟨ZZb _ _,lo,D,by go_num,hlo,HX,HR⟩
 case round=>
  obtain ⟨hbel,i,M,rfl,hin,HO,HM⟩:=hrel;have HB:=Qaa hbel;clear hbel HX HR;have ew1:IntKind.i64.wrap (2*(i:Int))=2*(i:Int):=ZZi _ ⟨by omega,by omega⟩;have ew2:IntKind.i64.wrap (2*(i:Int)+1)=2*(i:Int)+1:=ZZi _ ⟨by omega,by omega⟩;by_cases hend:2*i+1 ≥ hi
  ·have HO2:Hid (X=M):=HO.out.trans (QoU hend)
   have hge:(hi:Int)<=2*(i:Int)+1:=by omega
   clear HO;go_wp2
   go_end0
   exact ⟨_,rfl,by rw [HO2.out];exact HM.out,HB.out⟩
  ·have hge:¬ (hi:Int)<=2*(i:Int)+1:=by omega
   have hge2:2*(i:Int)+1<(hi:Int):=by omega
   have ew3:IntKind.i64.wrap (2*(i:Int)+1+1)=2*(i:Int)+1+1:=ZZi _ ⟨by omega,by omega⟩;have ea0:(first:Int)+(i:Int)=((first+i:Nat):Int):=by omega
   have ea1:(first:Int)+(2*(i:Int)+1)=((first+(2*i+1):Nat):Int):=by omega
   have ea2:((first+(2*i+1):Nat):Int)+1=((first+(2*i+1)+1:Nat):Int):=by omega
   have ea3:(first:Int)+(2*(i:Int)+1+1)=((first+(2*i+1)+1:Nat):Int):=by omega
   obtain ⟨q0,hq0⟩:∃ q,q=first+i:=⟨_,rfl⟩;obtain ⟨q1,hq1⟩:∃ q,q=first+(2*i+1):=⟨_,rfl⟩;rw [<- hq0] at ea0;rw [<- hq1] at ea1 ea2 ea3;obtain ⟨q2,hq2⟩:∃ q,q=q1+1:=⟨_,rfl⟩;rw [<- hq2] at ea2 ea3;have HQ:=Qaa (And.intro hq0 (And.intro hq1 hq2));have b0:q0<n:=by omega
   have b1:q1<n:=by omega
   have u0:IntKind.i64.wrap (q0:Int)=q0:=ZZi _ ⟨by omega,by omega⟩;have u1:IntKind.i64.wrap (q1:Int)=q1:=ZZi _ ⟨by omega,by omega⟩;have u2:IntKind.i64.wrap (q2:Int)=q2:=ZZi _ ⟨by omega,by omega⟩;obtain ⟨r,hr⟩:∃ r,r=M[q0]!:=⟨_,rfl⟩;obtain ⟨x,hx⟩:∃ x,x=M[q1]!:=⟨_,rfl⟩;obtain ⟨y,hy⟩:∃ y,y=M[q2]!:=⟨_,rfl⟩;have hcr:=HM.out.cell (k:=q0) b0 hr;have hcx:=HM.out.cell (k:=q1) b1 hx;have hfr:=HM.out.froz q0;have hfx:=HM.out.froz q1;have hfy:=HM.out.froz q2;have HF:=Qaa (And.intro hr (And.intro hx hy));by_cases hrt:2*i+2<hi/\x<y
   ·obtain ⟨hrt1,hrt2⟩:=hrt
    have HS:=Qaa (QlD (d:=M) (first:=first) (r:=r) (x:=x) (y:=y) hend (by rw [hr,hq0]) (by rw [hx,hq1]) (by rw [hy,hq2,hq1]) hrt1 hrt2);have b2:q2<n:=by omega
    have hcy:=HM.out.cell (k:=q2) b2 hy;have hl1:2*(i:Int)+1+1<(hi:Int):=by omega
    have d1:decide (x<y)=true:=ZZh hrt2;clear hr hx hy hq0 hq1 hq2;by_cases hs:r<y
    ·have d2:decide (r<y)=true:=ZZh hs
     have HO2:Hid (X=Go.Sort.siftDown ltInt hi first (2*i+2) (swp M q0 q2)):=by
      have:=HO.out;rw [HS.out.2 hs] at this;rw [HQ.out.2.2,HQ.out.1,HQ.out.2.1];exact this
     clear HO HS;go_wp2
     go_quiet (first | (go_at_call 334;refine Calls.quiet_of_same (Qat _ _ _)))
     go_wp2;generalize hw2:wr.drewN nq=w2;have HM2:Hid (RowU w2 B g n c M):=by rw [<- hw2];exact HM.out.drews _
     have HB2:Hid (Below B w w2):=by rw [<- hw2];exact Qah HB.out _
     clear hw2;have hcr:=HM2.out.cell b0 HF.out.1;have hcz:=HM2.out.cell b2 HF.out.2.2;have hfr:=HM2.out.froz q0;have hfz:=HM2.out.froz q2
     go_quiet (first | (go_at_call 334;refine Calls.quiet_of_same (Qat _ _ _)))
     go_wp2;go_region
     all_goals go_wp2
     go_roundw
     case rel=>exact ⟨HM2.out.bel HB2.out _,2*i+2,swp M q0 q2,by go_num,by omega,HO2,(HM2.out.swap HF.out.1 HF.out.2.2 _:_)⟩
     case measure=>simp [Go.RowKit.intOf];omega
    ·have d2:decide (r<y)=false:=ZZg hs
     have HO2:Hid (X=M):=HO.out.trans (HS.out.1 hs);clear HO HS;go_wp2
     go_quiet (first | (go_at_call 334;refine Calls.quiet_of_same (Qat _ _ _)))
     go_wp2;generalize hw2:wr.drewN nq=w2;have HM2:Hid (RowU w2 B g n c M):=by rw [<- hw2];exact HM.out.drews _
     have HB2:Hid (Below B w w2):=by rw [<- hw2];exact Qah HB.out _
     clear hw2;have hcr:=HM2.out.cell b0 HF.out.1;have hcz:=HM2.out.cell b2 HF.out.2.2;have hfr:=HM2.out.froz q0;have hfz:=HM2.out.froz q2
     go_quiet (first | (go_at_call 334;refine Calls.quiet_of_same (Qat _ _ _)))
     go_wp2
     (try simp only [Exit.inBlock,Exit.then]);refine bodyPost_ret (results_none rfl _ _ _) rfl ?_
     exact ⟨_,rfl,by rw [HO2.out];exact HM2.out,Qah HB2.out _⟩
   ·have HS:=Qaa (QmH (d:=M) (first:=first) (r:=r) (x:=x) hend (by rw [hr,hq0]) (by rw [hx,hq1]) (fun y' e h=>hrt (by rw [e,<- hq1,<- hq2,<- hy] at h;exact h)))
    by_cases hrt1:2*i+2<hi
    ·have b2:q2<n:=by omega
     have hcy:=HM.out.cell (k:=q2) b2 hy;have hl1:2*(i:Int)+1+1<(hi:Int):=by omega
     have d1:decide (x<y)=false:=ZZg (fun h=>hrt ⟨hrt1,h⟩);clear hr hx hy hq0 hq1 hq2;by_cases hs:r<x
     ·have d2:decide (r<x)=true:=ZZh hs
      have HO2:Hid (X=Go.Sort.siftDown ltInt hi first (2*i+1) (swp M q0 q1)):=by
       have:=HO.out;rw [HS.out.2 hs] at this;rw [HQ.out.1,HQ.out.2.1];exact this
      clear HO HS;go_wp2
      go_quiet (first | (go_at_call 334;refine Calls.quiet_of_same (Qat _ _ _)))
      go_wp2;generalize hw2:wr.drewN nq=w2;have HM2:Hid (RowU w2 B g n c M):=by rw [<- hw2];exact HM.out.drews _
      have HB2:Hid (Below B w w2):=by rw [<- hw2];exact Qah HB.out _
      clear hw2;have hcr:=HM2.out.cell b0 HF.out.1;have hcz:=HM2.out.cell b1 HF.out.2.1;have hfr:=HM2.out.froz q0;have hfz:=HM2.out.froz q1
      go_quiet (first | (go_at_call 334;refine Calls.quiet_of_same (Qat _ _ _)))
      go_wp2;go_region
      all_goals go_wp2
      go_roundw
      case rel=>exact ⟨HM2.out.bel HB2.out _,2*i+1,swp M q0 q1,by go_num,by omega,HO2,(HM2.out.swap HF.out.1 HF.out.2.1 _:_)⟩
      case measure=>simp [Go.RowKit.intOf];omega
     ·have d2:decide (r<x)=false:=ZZg hs
      have HO2:Hid (X=M):=HO.out.trans (HS.out.1 hs);clear HO HS;go_wp2
      go_quiet (first | (go_at_call 334;refine Calls.quiet_of_same (Qat _ _ _)))
      go_wp2;generalize hw2:wr.drewN nq=w2;have HM2:Hid (RowU w2 B g n c M):=by rw [<- hw2];exact HM.out.drews _
      have HB2:Hid (Below B w w2):=by rw [<- hw2];exact Qah HB.out _
      clear hw2;have hcr:=HM2.out.cell b0 HF.out.1;have hcz:=HM2.out.cell b1 HF.out.2.1;have hfr:=HM2.out.froz q0;have hfz:=HM2.out.froz q1
      go_quiet (first | (go_at_call 334;refine Calls.quiet_of_same (Qat _ _ _)))
      go_wp2
      (try simp only [Exit.inBlock,Exit.then]);refine bodyPost_ret (results_none rfl _ _ _) rfl ?_
      exact ⟨_,rfl,by rw [HO2.out];exact HM2.out,Qah HB2.out _⟩
    ·have dg:decide (2*(i:Int)+1+1<(hi:Int))=false:=ZZg (by omega)
     clear hr hx hy hq0 hq1 hq2;by_cases hs:r<x
     ·have d2:decide (r<x)=true:=ZZh hs
      have HO2:Hid (X=Go.Sort.siftDown ltInt hi first (2*i+1) (swp M q0 q1)):=by
       have:=HO.out;rw [HS.out.2 hs] at this;rw [HQ.out.1,HQ.out.2.1];exact this
      clear HO HS;go_wp2
      go_quiet (first | (go_at_call 334;refine Calls.quiet_of_same (Qat _ _ _)))
      go_wp2;generalize hw2:wr.drewN nq=w2;have HM2:Hid (RowU w2 B g n c M):=by rw [<- hw2];exact HM.out.drews _
      have HB2:Hid (Below B w w2):=by rw [<- hw2];exact Qah HB.out _
      clear hw2;have hcr:=HM2.out.cell b0 HF.out.1;have hcz:=HM2.out.cell b1 HF.out.2.1;have hfr:=HM2.out.froz q0;have hfz:=HM2.out.froz q1
      go_quiet (first | (go_at_call 334;refine Calls.quiet_of_same (Qat _ _ _)))
      go_wp2;go_region
      all_goals go_wp2
      go_roundw
      case rel=>exact ⟨HM2.out.bel HB2.out _,2*i+1,swp M q0 q1,by go_num,by omega,HO2,(HM2.out.swap HF.out.1 HF.out.2.1 _:_)⟩
      case measure=>simp [Go.RowKit.intOf];omega
     ·have d2:decide (r<x)=false:=ZZg hs
      have HO2:Hid (X=M):=HO.out.trans (HS.out.1 hs);clear HO HS;go_wp2
      go_quiet (first | (go_at_call 334;refine Calls.quiet_of_same (Qat _ _ _)))
      go_wp2;generalize hw2:wr.drewN nq=w2;have HM2:Hid (RowU w2 B g n c M):=by rw [<- hw2];exact HM.out.drews _
      have HB2:Hid (Below B w w2):=by rw [<- hw2];exact Qah HB.out _
      clear hw2;have hcr:=HM2.out.cell b0 HF.out.1;have hcz:=HM2.out.cell b1 HF.out.2.1;have hfr:=HM2.out.froz q0;have hfz:=HM2.out.froz q1
      go_quiet (first | (go_at_call 334;refine Calls.quiet_of_same (Qat _ _ _)))
      go_wp2
      (try simp only [Exit.inBlock,Exit.then]);refine bodyPost_ret (results_none rfl _ _ _) rfl ?_
      exact ⟨_,rfl,by rw [HO2.out];exact HM2.out,Qah HB2.out _⟩
theorem Qp6 {w:World} {B g n c a b:Nat} {D:Array Int} (hl:n<=40) (hab:a<b) (hbn:b<=n) (hR:RowU w B g n c D) :
  Calls Tryz.prog 329 #[.slice (some ⟨g,0,none⟩) n c,.int .i64 a,.int .i64 b] w fun e w'=>∃ r,e=.returned r/\∃ M:Array Int,PermIn a b D M/\SortedIn ltInt a b M/\RowU w' B g n c M/\Below B w w':=by
 have HI:=Qaa (Go.Sort.heapSort_holds (lt:=ltInt) Go.Sort.swo_ltInt D a b (by omega) (by rw [hR.1];exact hbn));have HR:=Qaa hR;clear hR;generalize hX:Go.Sort.heapSort ltInt D a b=X at HI;obtain ⟨h,eh⟩:∃ h,h=b - a:=⟨_,rfl⟩;have HX:Hid (X=Go.Sort.heapPop ltInt a h (Go.Sort.heapBuild ltInt h a ((h - 1) / 2+1) D)):=by rw [eh];exact hX.symm
 clear hX;have e1:(b:Int) - (a:Int)=(h:Int):=by omega
 have u1:IntKind.i64.wrap (h:Int)=h:=ZZi _ ⟨by omega,by omega⟩;have e2:(h:Int) - 1=((h - 1:Nat):Int):=by omega
 obtain ⟨h1,eh1⟩:∃ h1,h1=h - 1:=⟨_,rfl⟩;rw [<- eh1] at e2;have u2:IntKind.i64.wrap (h1:Int)=h1:=ZZi _ ⟨by omega,by omega⟩;have e3:(h1:Int).tdiv 2=((h1 / 2:Nat):Int):=by rw [Int.tdiv_eq_ediv_of_nonneg (by omega)];omega
 obtain ⟨h2,eh2⟩:∃ h2,h2=h1 / 2:=⟨_,rfl⟩;rw [<- eh2] at e3;have u3:IntKind.i64.wrap (h2:Int)=h2:=ZZi _ ⟨by omega,by omega⟩;have HX2:Hid (X=Go.Sort.heapPop ltInt a h (Go.Sort.heapBuild ltInt h a (h2+1) D)):=by rw [eh2,eh1];exact HX.out
 have HEH:=Qaa (And.intro eh (And.intro eh1 eh2));have bh:h<=n:=by omega
 have bh1:h1<h:=by omega
 have bh2:h2<=h1:=by omega
 have bah:a+h<=n:=by omega
 clear HX eh eh1 eh2;go_enter Tryz.func329,Tryz.ntmps329;go_wp2
 go_loopw [9] (fun vi wr=>Below B w wr/\∃ (k:Nat) (M:Array Int),vi=.int .i64 ((k:Int) - 1)/\k<=h2+1/\Hid (X=Go.Sort.heapPop ltInt a h (Go.Sort.heapBuild ltInt h a k M))/\Hid (RowU wr B g n c M)) (fun vi wr=>(Go.RowKit.intOf vi+1).toNat)
 case atStart=>exact ⟨ZZb _ _,h2+1,D,by go_num,ZZa _,HX2,HR⟩
 case round=>
  obtain ⟨hbel,k,M,rfl,hk,HO,HM⟩:=hrel;have HB:=Qaa hbel;clear hbel HX2 HR
  cases k with
  | zero=>
   have HO2:Hid (X=Go.Sort.heapPop ltInt a h M):=HO.out;clear HO;rw [show (((0:Nat):Int) - 1)=-1 from rfl];go_wp2
   go_loopw [10] (fun vi wr=>Below B w wr/\∃ (k:Nat) (M:Array Int),vi=.int .i64 ((k:Int) - 1)/\k<=h/\Hid (X=Go.Sort.heapPop ltInt a k M)/\Hid (RowU wr B g n c M)) (fun vi wr=>(Go.RowKit.intOf vi+1).toNat)
   case atStart=>exact ⟨HB.out,h,M,by go_num,ZZa _,HO2,HM⟩
   case round=>
    clear HB HO2 HM;obtain ⟨hbel,k,M,rfl,hk,HO,HM⟩:=hrel;have HB:=Qaa hbel;clear hbel
    cases k with
    | zero=>
     have HO2:Hid (X=M):=HO.out;go_wp2
     go_end0
     exact ⟨_,rfl,M,by rw [<- HO2.out];exact HI.out.1,by rw [<- HO2.out];exact HI.out.2,HM.out,HB.out⟩
    | succ k=>
     have HO2:Hid (X=Go.Sort.heapPop ltInt a k (Go.Sort.siftDown ltInt k a 0 (swp M a (a+k)))):=HO.out;have e5:((k+1:Nat):Int) - 1=(k:Int):=by omega
     have e6:(a:Int)+(k:Int)=((a+k:Nat):Int):=by omega
     obtain ⟨q,hq⟩:∃ q,q=a+k:=⟨_,rfl⟩;rw [<- hq] at e6;have bq:q<n:=by omega
     have ba:a<n:=by omega
     have u6:IntKind.i64.wrap (q:Int)=q:=ZZi _ ⟨by omega,by omega⟩;have u5:IntKind.i64.wrap ((k:Int) - 1)=(k:Int) - 1:=ZZi _ ⟨by omega,by omega⟩;obtain ⟨x,hx⟩:∃ x,x=M[a]!:=⟨_,rfl⟩;obtain ⟨y,hy⟩:∃ y,y=M[q]!:=⟨_,rfl⟩;have hcx:=HM.out.cell ba hx;have hcy:=HM.out.cell bq hy;have hcs:=HM.out.cellS (i:=a) bq hy;have hfx:=HM.out.froz a;have hfy:=HM.out.froz q;have HF:=Qaa (And.intro hx hy);have HQ:=Qaa hq;rw [e5];clear hx hy hq HO e5;go_wp2;go_region
     all_goals go_wp2_with fail
     refine (Qm5 (lo:=0) (hi:=k) (first:=a) hl (by omega) (by omega) (HM.out.swap HF.out.1 HF.out.2 _)).mono ?_;rintro e w2 ⟨r,rfl,hR2,hb2⟩;have HM2:Hid (RowU w2 B g n c (Go.Sort.siftDown ltInt k a 0 (swp M a (a+k)))):=by rw [<- HQ.out];exact hR2
     have HB2:=Qaa ((HM.out.bel HB.out _).trans hb2);clear hR2 hb2;go_wp2;go_roundw
     case rel=>exact ⟨HB2.out,k,_,rfl,by omega,HO2,HM2⟩
     case measure=>simp [Go.RowKit.intOf]
  | succ k=>
   have HO2:Hid (X=Go.Sort.heapPop ltInt a h (Go.Sort.heapBuild ltInt h a k (Go.Sort.siftDown ltInt h a k M))):=HO.out;have e5:((k+1:Nat):Int) - 1=(k:Int):=by omega
   have u5:IntKind.i64.wrap ((k:Int) - 1)=(k:Int) - 1:=ZZi _ ⟨by omega,by omega⟩;rw [e5];clear HO e5;go_wp2_with fail;refine (Qm5 (lo:=k) (hi:=h) (first:=a) hl (by omega) (by omega) HM.out).mono ?_;rintro e w2 ⟨r,rfl,hR2,hb2⟩;have HM2:=Qaa hR2;have HB2:=Qaa (HB.out.trans hb2);clear hR2 hb2;go_wp2;go_roundw
   case rel=>exact ⟨HB2.out,k,_,rfl,by omega,HO2,HM2⟩
   case measure=>simp [Go.RowKit.intOf]
theorem Qgt {d:Array Int} {i j t:Nat} (hi:i<d.size) (hj:j<d.size):(swp d i j)[t]! = if t=j then d[i]! else if t=i then d[j]! else d[t]!:=by
 unfold swp;by_cases h1:t=j
 ·subst h1
  rw [if_pos rfl,Go.Sort.getElem!_set_same _ _ _ (by simpa using hj)]
 ·rw [if_neg h1,Go.Sort.getElem!_set_other _ _ _ _ h1]
  by_cases h2:t=i
  ·subst h2
   rw [if_pos rfl,Go.Sort.getElem!_set_same _ _ _ hi]
  ·rw [if_neg h2,Go.Sort.getElem!_set_other _ _ _ _ h2]
structure PI (D:Array Int) (a b i j:Nat) (M:Array Int) (p:Int):Prop where
 perm:PermIn a b D M
 bd:b<=D.size
 hp:p=M[a]!
 ai:a<i
 ij:i<=j+1
 jb:j<b
 aj:a<=j
 L:∀ t,a<t->t<i->M[t]! < p
 R:∀ t,j<t->t<b->¬ M[t]! < p
theorem PI.start {D:Array Int} {a b q:Nat} (ha:a<=q) (hq:q<b) (hb:b<=D.size):PI D a b (a+1) (b - 1) (swp D a q) (D[q]!) where
 perm:=Go.Sort.swp_permIn D a b a q (ZZa _) (by omega) ha hq hb
 bd:=hb
 hp:=by
  rw [Qgt (by omega) (by omega)];by_cases e:a=q
  ·rw [if_pos e,e]
  ·rw [if_neg e,if_pos rfl]
 ai:=Nat.lt_succ_self _
 ij:=by omega
 jb:=by omega
 aj:=by omega
 L:=fun t h1 h2=>absurd h2 (by omega)
 R:=fun t h1 h2=>absurd h2 (by omega)
theorem PI.up {D M:Array Int} {a b i j:Nat} {p:Int} (h:PI D a b i j M p) (hij:i<=j) (hx:M[i]! < p):PI D a b (i+1) j M p:=
 ⟨h.perm,h.bd,h.hp,(by have:=h.ai;omega),(by omega),h.jb,h.aj,(fun t h1 h2=>by
   by_cases e:t=i
   ·subst e;exact hx
   ·exact h.L t h1 (by omega)),h.R⟩
theorem PI.down {D M:Array Int} {a b i k:Nat} {p:Int} (h:PI D a b i (k+1) M p) (hij:i<=k+1) (hx:¬ M[k+1]! < p):PI D a b i k M p:=
 ⟨h.perm,h.bd,h.hp,h.ai,(by omega),(by have:=h.jb;omega),(by have:=h.ai;omega),h.L,(fun t h1 h2=>by
   by_cases e:t=k+1
   ·subst e;exact hx
   ·exact h.R t (by omega) h2)⟩
theorem PI.swap {D M:Array Int} {a b i k:Nat} {p:Int} (h:PI D a b i (k+1) M p) (hij:i<=k+1) (hx:¬ M[i]! < p) (hy:M[k+1]! < p):PI D a b (i+1) k (swp M i (k+1)) p:=by
 have hs:M.size=D.size:=h.perm.1;have hne:i≠k+1:=fun e=>hx (by rw [e];exact hy);have b1:=h.bd;have b2:=h.jb;have b3:=h.ai;refine ⟨Go.Sort.permIn_trans _ _ _ _ _ h.perm (Go.Sort.swp_permIn M a b i (k+1) (by omega) (by omega) (by omega) b2 (by omega)),b1,?_,by omega,by omega,by omega,by omega,fun t h1 h2=>?_,fun t h1 h2=>?_⟩
 ·rw [Qgt (by omega) (by omega),if_neg (by omega),if_neg (by omega)];exact h.hp
 ·rw [Qgt (by omega) (by omega),if_neg (by omega)]
  by_cases e:t=i
  ·rw [if_pos e];exact hy
  ·rw [if_neg e];exact h.L t h1 (by omega)
 ·rw [Qgt (by omega) (by omega)]
  by_cases e:t=k+1
  ·rw [if_pos e];exact hx
  ·rw [if_neg e,if_neg (by omega)];exact h.R t (by omega) h2
structure PO (D:Array Int) (a b m:Nat) (M:Array Int):Prop where
 am:a<=m
 mb:m<b
 perm:PermIn a b D M
 L:∀ t,a<=t->t<m->M[t]! < M[m]!
 R:∀ t,m<t->t<b->¬ M[t]! < M[m]!
theorem PI.fin {D M:Array Int} {a b i j:Nat} {p:Int} (h:PI D a b i j M p) (hij:¬ i<=j):PO D a b j (swp M j a):=by
 have hs:M.size=D.size:=h.perm.1;have b1:=h.bd;have b2:=h.jb;have b3:=h.ai;have b4:=h.aj;have b5:=h.ij
 have em:(swp M j a)[j]! = p:=by
  rw [Qgt (by omega) (by omega)];by_cases e:j=a
  ·rw [if_pos e,e];exact h.hp.symm
  ·rw [if_neg e,if_pos rfl];exact h.hp.symm
 refine ⟨b4,b2,Go.Sort.permIn_trans _ _ _ _ _ h.perm (Go.Sort.swp_permIn M a b j a b4 b2 (ZZa _) (by omega) (by omega)),fun t h1 h2=>?_,fun t h1 h2=>?_⟩
 ·rw [em,Qgt (by omega) (by omega)]
  by_cases e:t=a
  ·rw [if_pos e];exact h.L j (by omega) (by omega)
  ·rw [if_neg e,if_neg (by omega)];exact h.L t (by omega) (by omega)
 ·rw [em,Qgt (by omega) (by omega),if_neg (by omega),if_neg (by omega)]
  exact h.R t h1 h2
theorem Qdi {w:World} {B g n c a b q:Nat} {D:Array Int} (hl:n<=40) (haq:a<=q) (hqb:q<b) (hbn:b<=n) (hR:RowU w B g n c D) :
  Calls Tryz.prog 336 #[.slice (some ⟨g,0,none⟩) n c,.int .i64 a,.int .i64 b,.int .i64 q] w fun e w'=>∃ (m:Nat) (z:Bool),e=.returned (.tuple #[.int .i64 m,.bool z])/\∃ M:Array Int,PO D a b m M/\RowU w' B g n c M/\Below B w w':=by
 have HP:=Qaa (PI.start (D:=D) haq hqb (by rw [hR.1];exact hbn));obtain ⟨x,hx⟩:∃ x,x=D[a]!:=⟨_,rfl⟩;obtain ⟨p,hp⟩:∃ p,p=D[q]!:=⟨_,rfl⟩;rw [<- hp] at HP;have ba:a<n:=by omega
 have bq:q<n:=by omega
 have hcx:=hR.cell ba hx;have hcp:=hR.cell bq hp;have hcs:=hR.cellS (i:=a) bq hp;have hfx:=hR.froz a;have hfp:=hR.froz q;have HR:=Qaa hR;have HF:=Qaa (And.intro hx hp);have e1:(b:Int) - 1=((b - 1:Nat):Int):=by omega
 obtain ⟨b1,hb1⟩:∃ b1,b1=b - 1:=⟨_,rfl⟩;rw [<- hb1] at e1 HP;have u1:IntKind.i64.wrap (b1:Int)=b1:=ZZi _ ⟨by omega,by omega⟩;have HB0:=Qaa hb1;clear hR hx hp hb1;go_enter Tryz.func336,Tryz.ntmps336;go_wp2;go_region
 all_goals go_wp2_with fail
 have HR1:=Qaa (HR.out.swap HF.out.1 HF.out.2 1);have HB1:=Qaa (HR.out.bel (i:=a) (j:=q) (x:=.int .u64 p) (y:=.int .u64 x) (ZZb B w) 1)
 go_loopw [10] (fun vi wr=>Below B w wr/\∃ i:Nat,vi=.int .i64 i/\(a+1)<=i/\Hid (PI D a b i b1 (swp D a q) p)/\Hid (RowU wr B g n c (swp D a q))) (fun vi wr=>n - (Go.RowKit.intOf vi).toNat)
 case atStart=>exact ⟨HB1.out,(a+1),by go_num,ZZa _,HP,HR1⟩
 case round=>
  obtain ⟨hbel,i1,rfl,hlb1,HP1,HR1⟩:=hrel;have HB1:=Qaa hbel;clear hbel;have bi1:a<i1/\i1<=b1+1/\b1<b:=⟨HP1.out.ai,HP1.out.ij,HP1.out.jb⟩;obtain ⟨x1,hx1⟩:∃ x,x=(swp D a q)[i1]!:=⟨_,rfl⟩;have HX1:=Qaa hx1;by_cases hij1:i1<=b1
  ·have d0:decide ((i1:Int)<=(b1:Int))=true:=ZZh (by omega)
   have hcx1:=HR1.out.cell (k:=i1) (by omega) hx1;have hca1:=HR1.out.cell (k:=a) (by omega) HP1.out.hp;have bn1:i1<n:=by omega
   clear hx1;by_cases hxp1:x1<p
   ·have d1:decide (x1<p)=true:=ZZh hxp1
    have HP1n:Hid (PI D a b (i1+1) b1 (swp D a q) p):=HP1.out.up hij1 (by rw [<- HX1.out];exact hxp1);go_wp2
    go_quiet (first | (go_at_call 334;refine Calls.quiet_of_same (Qat _ _ _)))
    go_wp2;go_roundw
    case rel=>exact ⟨Qah HB1.out _,i1+1,by go_num,by omega,HP1n,(HR1.out.drews _:_)⟩
    case measure=>first | (simp [Go.RowKit.intOf];done) | (simp [Go.RowKit.intOf];omega)
   ·have d1:decide (x1<p)=false:=ZZg hxp1
    have HE1:Hid (i1<=b1->p<=(swp D a q)[i1]!):=(fun _=>by rw [<- HX1.out];exact Int.not_lt.1 hxp1:i1<=b1->p<=(swp D a q)[i1]!);go_wp2
    go_quiet (first | (go_at_call 334;refine Calls.quiet_of_same (Qat _ _ _)))
    go_wp2;generalize hwz:wr.drewN nq=W1;have HRz1:Hid (RowU W1 B g n c (swp D a q)):=by rw [<- hwz];exact HR1.out.drews _
    have HBz1:Hid (Below B w W1):=by rw [<- hwz];exact Qah HB1.out _
    clear hwz
    try simp only [d1]
    clear d0 d1 hcx1 hca1 HR1 HB1 hxp1
    go_loopw [11] (fun vj wr=>Below B w wr/\∃ j:Nat,vj=.int .i64 j/\j<=b1/\Hid (PI D a b i1 j (swp D a q) p/\(i1<=j->p<=(swp D a q)[i1]!))/\Hid (RowU wr B g n c (swp D a q))) (fun vj wr=>(Go.RowKit.intOf vj).toNat)
    case atStart=>exact ⟨HBz1.out,b1,by go_num,ZZa _,Qaa (And.intro HP1.out HE1.out),HRz1⟩
    case round=>
     obtain ⟨hbel,j2,rfl,hub2,HPE2,HR2⟩:=hrel;have HB2:=Qaa hbel;clear hbel;have HP2:=Qaa HPE2.out.1;have HE2:=Qaa HPE2.out.2;have bi2:a<i1/\i1<=j2+1/\j2<b/\a<=j2:=⟨HP2.out.ai,HP2.out.ij,HP2.out.jb,HP2.out.aj⟩;have hca2:=HR2.out.cell (k:=a) (by omega) HP2.out.hp;obtain ⟨y2,hy2⟩:∃ y,y=(swp D a q)[j2]!:=⟨_,rfl⟩;have HY2:=Qaa hy2;have hcy2:=HR2.out.cell (k:=j2) (by omega) hy2;clear hy2 HPE2;by_cases hij2:i1<=j2
     ·have d0:decide ((i1:Int)<=(j2:Int))=true:=ZZh (by omega)
      by_cases hyp2:y2<p
      ·have d1:decide (y2<p)=true:=ZZh hyp2
       have dg:decide ((j2:Int)<(i1:Int))=false:=ZZg (by omega);have dgN:decide (j2<i1)=false:=ZZg (by omega);obtain ⟨k2,hk2⟩:∃ k,j2=k+1:=⟨j2 - 1,by omega⟩;have HPn2:Hid (PI D a b (i1+1) k2 (swp (swp D a q) i1 j2) p):=by have h1:=HP2.out;have h2:=HE2.out hij2;have h3:=HY2.out;rw [hk2] at h1 h3 ⊢; exact h1.swap (by omega) (Int.not_lt.2 h2) (by rw [<- h3];exact hyp2)
       have ek:(j2:Int) - 1=(k2:Int):=by omega
       have HKK:=Qaa hk2;clear hk2;go_wp2
       go_quiet (first | (go_at_call 334;refine Calls.quiet_of_same (Qat _ _ _)))
       go_wp2_with fail;generalize hwz:wr.drewN nq=W2;have HRz2:Hid (RowU W2 B g n c (swp D a q)):=by rw [<- hwz];exact HR2.out.drews _
       have HBz2:Hid (Below B w W2):=by rw [<- hwz];exact Qah HB2.out _
       clear hwz d0 hca2 hcy2 HR2 HB2
       try simp only [d1]
       clear d1 hyp2;obtain ⟨xx,hxx⟩:∃ x,x=(swp D a q)[i1]!:=⟨_,rfl⟩;have HXX:=Qaa hxx;have hcx:=HRz2.out.cell (k:=i1) (by omega) hxx;have hcy:=HRz2.out.cell (k:=j2) (by omega) HY2.out;have hcs:=HRz2.out.cellS (i:=i1) (j:=j2) (by omega) HY2.out;have hfx:=HRz2.out.froz i1;have hfy:=HRz2.out.froz j2;have bjn:j2<n:=by omega
       have bin:i1<n:=by omega
       have uk:IntKind.i64.wrap (k2:Int)=k2:=ZZi _ ⟨by omega,by omega⟩;have ui:IntKind.i64.wrap ((i1:Int)+1)=(i1:Int)+1:=ZZi _ ⟨by omega,by omega⟩;clear hxx;go_wp2;go_region
       all_goals go_wp2_with fail
       go_loopw [10,11] (fun vi vj wr=>Below B w wr/\∃ (i j:Nat) (M:Array Int),vi=.int .i64 i/\vj=.int .i64 j/\Hid (PI D a b i j M p)/\Hid (RowU wr B g n c M)) (fun vi vj wr=>n - (Go.RowKit.intOf vi).toNat)
       case atStart=>exact ⟨HRz2.out.bel HBz2.out _,i1+1,k2,_,by go_num,by first | rfl | go_num,HPn2,(HRz2.out.swap HXX.out HY2.out _:_)⟩
       case round=>
        obtain ⟨hbel,io,jo,M,rfl,rfl,HPo,HRo⟩:=hrel;have HBo:=Qaa hbel;clear hbel HRz2 HBz2 HPn2 HY2 HXX HKK hcx hcy hcs hfx hfy bjn bin ek uk ui dg dgN;have bo:a<io/\io<=jo+1/\jo<b/\a<=jo:=⟨HPo.out.ai,HPo.out.ij,HPo.out.jb,HPo.out.aj⟩;go_wp2_with fail
        go_loopw [10] (fun vi wr=>Below B w wr/\∃ i:Nat,vi=.int .i64 i/\io<=i/\Hid (PI D a b i jo M p)/\Hid (RowU wr B g n c M)) (fun vi wr=>n - (Go.RowKit.intOf vi).toNat)
        case atStart=>exact ⟨HBo.out,io,by go_num,ZZa _,HPo,HRo⟩
        case round=>
         obtain ⟨hbel,i3,rfl,hlb3,HP3,HR3⟩:=hrel;have HB3:=Qaa hbel;clear hbel;have bi3:a<i3/\i3<=jo+1/\jo<b:=⟨HP3.out.ai,HP3.out.ij,HP3.out.jb⟩;obtain ⟨x3,hx3⟩:∃ x,x=M[i3]!:=⟨_,rfl⟩;have HX3:=Qaa hx3;by_cases hij3:i3<=jo
         ·have d0:decide ((i3:Int)<=(jo:Int))=true:=ZZh (by omega)
          have hcx3:=HR3.out.cell (k:=i3) (by omega) hx3;have hca3:=HR3.out.cell (k:=a) (by omega) HP3.out.hp;have bn3:i3<n:=by omega
          clear hx3;by_cases hxp3:x3<p
          ·have d1:decide (x3<p)=true:=ZZh hxp3
           have HP3n:Hid (PI D a b (i3+1) jo M p):=HP3.out.up hij3 (by rw [<- HX3.out];exact hxp3);go_wp2
           go_quiet (first | (go_at_call 334;refine Calls.quiet_of_same (Qat _ _ _)))
           go_wp2;go_roundw
           case rel=>exact ⟨Qah HB3.out _,i3+1,by go_num,by omega,HP3n,(HR3.out.drews _:_)⟩
           case measure=>first | (simp [Go.RowKit.intOf];done) | (simp [Go.RowKit.intOf];omega)
          ·have d1:decide (x3<p)=false:=ZZg hxp3
           have HE3:Hid (i3<=jo->p<=M[i3]!):=(fun _=>by rw [<- HX3.out];exact Int.not_lt.1 hxp3:i3<=jo->p<=M[i3]!);go_wp2
           go_quiet (first | (go_at_call 334;refine Calls.quiet_of_same (Qat _ _ _)))
           go_wp2;generalize hwz:wr.drewN nq=W3;have HRz3:Hid (RowU W3 B g n c M):=by rw [<- hwz];exact HR3.out.drews _
           have HBz3:Hid (Below B w W3):=by rw [<- hwz];exact Qah HB3.out _
           clear hwz
           try simp only [d1]
           clear d0 d1 hcx3 hca3 HR3 HB3 hxp3
           go_loopw [11] (fun vj wr=>Below B w wr/\∃ j:Nat,vj=.int .i64 j/\j<=jo/\Hid (PI D a b i3 j M p/\(i3<=j->p<=M[i3]!))/\Hid (RowU wr B g n c M)) (fun vj wr=>(Go.RowKit.intOf vj).toNat)
           case atStart=>exact ⟨HBz3.out,jo,by go_num,ZZa _,Qaa (And.intro HP3.out HE3.out),HRz3⟩
           case round=>
            obtain ⟨hbel,j4,rfl,hub4,HPE4,HR4⟩:=hrel;have HB4:=Qaa hbel;clear hbel;have HP4:=Qaa HPE4.out.1;have HE4:=Qaa HPE4.out.2;have bi4:a<i3/\i3<=j4+1/\j4<b/\a<=j4:=⟨HP4.out.ai,HP4.out.ij,HP4.out.jb,HP4.out.aj⟩;have hca4:=HR4.out.cell (k:=a) (by omega) HP4.out.hp;obtain ⟨y4,hy4⟩:∃ y,y=M[j4]!:=⟨_,rfl⟩;have HY4:=Qaa hy4;have hcy4:=HR4.out.cell (k:=j4) (by omega) hy4;clear hy4 HPE4;by_cases hij4:i3<=j4
            ·have d0:decide ((i3:Int)<=(j4:Int))=true:=ZZh (by omega)
             by_cases hyp4:y4<p
             ·have d1:decide (y4<p)=true:=ZZh hyp4
              have dg:decide ((j4:Int)<(i3:Int))=false:=ZZg (by omega);have dgN:decide (j4<i3)=false:=ZZg (by omega);obtain ⟨k4,hk4⟩:∃ k,j4=k+1:=⟨j4 - 1,by omega⟩;have HPn4:Hid (PI D a b (i3+1) k4 (swp M i3 j4) p):=by have h1:=HP4.out;have h2:=HE4.out hij4;have h3:=HY4.out;rw [hk4] at h1 h3 ⊢; exact h1.swap (by omega) (Int.not_lt.2 h2) (by rw [<- h3];exact hyp4)
              have ek:(j4:Int) - 1=(k4:Int):=by omega
              have HKK:=Qaa hk4;clear hk4;go_wp2
              go_quiet (first | (go_at_call 334;refine Calls.quiet_of_same (Qat _ _ _)))
              go_wp2_with fail;generalize hwz:wr.drewN nq=W4;have HRz4:Hid (RowU W4 B g n c M):=by rw [<- hwz];exact HR4.out.drews _
              have HBz4:Hid (Below B w W4):=by rw [<- hwz];exact Qah HB4.out _
              clear hwz d0 hca4 hcy4 HR4 HB4
              try simp only [d1]
              clear d1 hyp4;obtain ⟨xx,hxx⟩:∃ x,x=M[i3]!:=⟨_,rfl⟩;have HXX:=Qaa hxx;have hcx:=HRz4.out.cell (k:=i3) (by omega) hxx;have hcy:=HRz4.out.cell (k:=j4) (by omega) HY4.out;have hcs:=HRz4.out.cellS (i:=i3) (j:=j4) (by omega) HY4.out;have hfx:=HRz4.out.froz i3;have hfy:=HRz4.out.froz j4;have bjn:j4<n:=by omega
              have bin:i3<n:=by omega
              have uk:IntKind.i64.wrap (k4:Int)=k4:=ZZi _ ⟨by omega,by omega⟩;have ui:IntKind.i64.wrap ((i3:Int)+1)=(i3:Int)+1:=ZZi _ ⟨by omega,by omega⟩;clear hxx;go_wp2;go_region
              all_goals go_wp2_with fail
              go_roundw
              case rel=>exact ⟨HRz4.out.bel HBz4.out _,i3+1,k4,_,by go_num,by first | rfl | go_num,HPn4,(HRz4.out.swap HXX.out HY4.out _:_)⟩
              case measure=>first | (simp [Go.RowKit.intOf];done) | (simp [Go.RowKit.intOf];omega)
             ·have d1:decide (y4<p)=false:=ZZg hyp4
              obtain ⟨k4,hk4⟩:∃ k,j4=k+1:=⟨j4 - 1,by omega⟩;have HPn4:Hid (PI D a b i3 k4 M p/\(i3<=k4->p<=M[i3]!)):=Qaa (And.intro (by have h1:=HP4.out;have h3:=HY4.out;rw [hk4] at h1 h3;exact h1.down (by omega) (by rw [<- h3];exact hyp4)) (fun _=>HE4.out hij4));have e5:((j4:Nat):Int) - 1=(k4:Int):=by omega
              have HK4:=Qaa hk4;clear hk4;have u5:IntKind.i64.wrap (k4:Int)=k4:=ZZi _ ⟨by omega,by omega⟩;go_wp2
              go_quiet (first | (go_at_call 334;refine Calls.quiet_of_same (Qat _ _ _)))
              go_wp2;go_roundw
              case rel=>exact ⟨Qah HB4.out _,k4,by first | rfl | go_num,by omega,HPn4,(HR4.out.drews _:_)⟩
              case measure=>have:=HK4.out;first | (simp [Go.RowKit.intOf];done) | (simp [Go.RowKit.intOf];omega)
            ·have d0:decide ((i3:Int)<=(j4:Int))=false:=ZZg (by omega)
             have dg:decide ((j4:Int)<(i3:Int))=true:=ZZh (by omega);have dgN:decide (j4<i3)=true:=ZZh (by omega);have HPO4:=Qaa (HP4.out.fin hij4);go_wp2
             go_quiet (first | (go_at_call 334;refine Calls.quiet_of_same (Qat _ _ _)))
             go_wp2_with fail;generalize hwz:wr.drewN nq=W4;have HRz4:Hid (RowU W4 B g n c M):=by rw [<- hwz];exact HR4.out.drews _
             have HBz4:Hid (Below B w W4):=by rw [<- hwz];exact Qah HB4.out _
             clear hwz d0 hca4 hcy4 HR4 HB4;have hca:=HRz4.out.cell (k:=a) ba HP4.out.hp;have hcy:=HRz4.out.cell (k:=j4) (by omega) HY4.out;have hcs:=HRz4.out.cellS (i:=j4) ba HP4.out.hp;have hfa:=HRz4.out.froz a;have hfy:=HRz4.out.froz j4;have bjn:j4<n:=by omega
             go_wp2;go_region
             all_goals go_wp2
             go_ret2;exact ⟨j4,false,rfl,_,HPO4.out,HRz4.out.swap HY4.out HP4.out.hp _,HRz4.out.bel HBz4.out _⟩
         ·have d0:decide ((i3:Int)<=(jo:Int))=false:=ZZg (by omega)
          have HE3:Hid (i3<=jo->p<=M[i3]!):=(fun h=>absurd h hij3:i3<=jo->p<=M[i3]!);go_wp2
          go_quiet (first | (go_at_call 334;refine Calls.quiet_of_same (Qat _ _ _)))
          go_wp2;generalize hwz:wr.drewN nq=W3;have HRz3:Hid (RowU W3 B g n c M):=by rw [<- hwz];exact HR3.out.drews _
          have HBz3:Hid (Below B w W3):=by rw [<- hwz];exact Qah HB3.out _
          clear hwz;clear d0 hx3 HR3 HB3
          go_loopw [11] (fun vj wr=>Below B w wr/\∃ j:Nat,vj=.int .i64 j/\j<=jo/\Hid (PI D a b i3 j M p/\(i3<=j->p<=M[i3]!))/\Hid (RowU wr B g n c M)) (fun vj wr=>(Go.RowKit.intOf vj).toNat)
          case atStart=>exact ⟨HBz3.out,jo,by go_num,ZZa _,Qaa (And.intro HP3.out HE3.out),HRz3⟩
          case round=>
           obtain ⟨hbel,j5,rfl,hub5,HPE5,HR5⟩:=hrel;have HB5:=Qaa hbel;clear hbel;have HP5:=Qaa HPE5.out.1;have HE5:=Qaa HPE5.out.2;have bi5:a<i3/\i3<=j5+1/\j5<b/\a<=j5:=⟨HP5.out.ai,HP5.out.ij,HP5.out.jb,HP5.out.aj⟩;have hca5:=HR5.out.cell (k:=a) (by omega) HP5.out.hp;obtain ⟨y5,hy5⟩:∃ y,y=M[j5]!:=⟨_,rfl⟩;have HY5:=Qaa hy5;have hcy5:=HR5.out.cell (k:=j5) (by omega) hy5;clear hy5 HPE5;by_cases hij5:i3<=j5
           ·exfalso;omega
           ·have d0:decide ((i3:Int)<=(j5:Int))=false:=ZZg (by omega)
            have dg:decide ((j5:Int)<(i3:Int))=true:=ZZh (by omega);have dgN:decide (j5<i3)=true:=ZZh (by omega);have HPO5:=Qaa (HP5.out.fin hij5);go_wp2
            go_quiet (first | (go_at_call 334;refine Calls.quiet_of_same (Qat _ _ _)))
            go_wp2_with fail;generalize hwz:wr.drewN nq=W5;have HRz5:Hid (RowU W5 B g n c M):=by rw [<- hwz];exact HR5.out.drews _
            have HBz5:Hid (Below B w W5):=by rw [<- hwz];exact Qah HB5.out _
            clear hwz d0 hca5 hcy5 HR5 HB5;have hca:=HRz5.out.cell (k:=a) ba HP5.out.hp;have hcy:=HRz5.out.cell (k:=j5) (by omega) HY5.out;have hcs:=HRz5.out.cellS (i:=j5) ba HP5.out.hp;have hfa:=HRz5.out.froz a;have hfy:=HRz5.out.froz j5;have bjn:j5<n:=by omega
            go_wp2;go_region
            all_goals go_wp2
            go_ret2;exact ⟨j5,false,rfl,_,HPO5.out,HRz5.out.swap HY5.out HP5.out.hp _,HRz5.out.bel HBz5.out _⟩
      ·have d1:decide (y2<p)=false:=ZZg hyp2
       obtain ⟨k2,hk2⟩:∃ k,j2=k+1:=⟨j2 - 1,by omega⟩;have HPn2:Hid (PI D a b i1 k2 (swp D a q) p/\(i1<=k2->p<=(swp D a q)[i1]!)):=Qaa (And.intro (by have h1:=HP2.out;have h3:=HY2.out;rw [hk2] at h1 h3;exact h1.down (by omega) (by rw [<- h3];exact hyp2)) (fun _=>HE2.out hij2));have e5:((j2:Nat):Int) - 1=(k2:Int):=by omega
       have HK2:=Qaa hk2;clear hk2;have u5:IntKind.i64.wrap (k2:Int)=k2:=ZZi _ ⟨by omega,by omega⟩;go_wp2
       go_quiet (first | (go_at_call 334;refine Calls.quiet_of_same (Qat _ _ _)))
       go_wp2;go_roundw
       case rel=>exact ⟨Qah HB2.out _,k2,by first | rfl | go_num,by omega,HPn2,(HR2.out.drews _:_)⟩
       case measure=>have:=HK2.out;first | (simp [Go.RowKit.intOf];done) | (simp [Go.RowKit.intOf];omega)
     ·have d0:decide ((i1:Int)<=(j2:Int))=false:=ZZg (by omega)
      have dg:decide ((j2:Int)<(i1:Int))=true:=ZZh (by omega);have dgN:decide (j2<i1)=true:=ZZh (by omega);have HPO2:=Qaa (HP2.out.fin hij2);go_wp2
      go_quiet (first | (go_at_call 334;refine Calls.quiet_of_same (Qat _ _ _)))
      go_wp2_with fail;generalize hwz:wr.drewN nq=W2;have HRz2:Hid (RowU W2 B g n c (swp D a q)):=by rw [<- hwz];exact HR2.out.drews _
      have HBz2:Hid (Below B w W2):=by rw [<- hwz];exact Qah HB2.out _
      clear hwz d0 hca2 hcy2 HR2 HB2;have hca:=HRz2.out.cell (k:=a) ba HP2.out.hp;have hcy:=HRz2.out.cell (k:=j2) (by omega) HY2.out;have hcs:=HRz2.out.cellS (i:=j2) ba HP2.out.hp;have hfa:=HRz2.out.froz a;have hfy:=HRz2.out.froz j2;have bjn:j2<n:=by omega
      go_wp2;go_region
      all_goals go_wp2
      go_ret2;exact ⟨j2,true,rfl,_,HPO2.out,HRz2.out.swap HY2.out HP2.out.hp _,HRz2.out.bel HBz2.out _⟩
  ·have d0:decide ((i1:Int)<=(b1:Int))=false:=ZZg (by omega)
   have HE1:Hid (i1<=b1->p<=(swp D a q)[i1]!):=(fun h=>absurd h hij1:i1<=b1->p<=(swp D a q)[i1]!);go_wp2
   go_quiet (first | (go_at_call 334;refine Calls.quiet_of_same (Qat _ _ _)))
   go_wp2;generalize hwz:wr.drewN nq=W1;have HRz1:Hid (RowU W1 B g n c (swp D a q)):=by rw [<- hwz];exact HR1.out.drews _
   have HBz1:Hid (Below B w W1):=by rw [<- hwz];exact Qah HB1.out _
   clear hwz;clear d0 hx1 HR1 HB1
   go_loopw [11] (fun vj wr=>Below B w wr/\∃ j:Nat,vj=.int .i64 j/\j<=b1/\Hid (PI D a b i1 j (swp D a q) p/\(i1<=j->p<=(swp D a q)[i1]!))/\Hid (RowU wr B g n c (swp D a q))) (fun vj wr=>(Go.RowKit.intOf vj).toNat)
   case atStart=>exact ⟨HBz1.out,b1,by go_num,ZZa _,Qaa (And.intro HP1.out HE1.out),HRz1⟩
   case round=>
    obtain ⟨hbel,j6,rfl,hub6,HPE6,HR6⟩:=hrel;have HB6:=Qaa hbel;clear hbel;have HP6:=Qaa HPE6.out.1;have HE6:=Qaa HPE6.out.2;have bi6:a<i1/\i1<=j6+1/\j6<b/\a<=j6:=⟨HP6.out.ai,HP6.out.ij,HP6.out.jb,HP6.out.aj⟩;have hca6:=HR6.out.cell (k:=a) (by omega) HP6.out.hp;obtain ⟨y6,hy6⟩:∃ y,y=(swp D a q)[j6]!:=⟨_,rfl⟩;have HY6:=Qaa hy6;have hcy6:=HR6.out.cell (k:=j6) (by omega) hy6;clear hy6 HPE6;by_cases hij6:i1<=j6
    ·exfalso;omega
    ·have d0:decide ((i1:Int)<=(j6:Int))=false:=ZZg (by omega)
     have dg:decide ((j6:Int)<(i1:Int))=true:=ZZh (by omega);have dgN:decide (j6<i1)=true:=ZZh (by omega);have HPO6:=Qaa (HP6.out.fin hij6);go_wp2
     go_quiet (first | (go_at_call 334;refine Calls.quiet_of_same (Qat _ _ _)))
     go_wp2_with fail;generalize hwz:wr.drewN nq=W6;have HRz6:Hid (RowU W6 B g n c (swp D a q)):=by rw [<- hwz];exact HR6.out.drews _
     have HBz6:Hid (Below B w W6):=by rw [<- hwz];exact Qah HB6.out _
     clear hwz d0 hca6 hcy6 HR6 HB6;have hca:=HRz6.out.cell (k:=a) ba HP6.out.hp;have hcy:=HRz6.out.cell (k:=j6) (by omega) HY6.out;have hcs:=HRz6.out.cellS (i:=j6) ba HP6.out.hp;have hfa:=HRz6.out.froz a;have hfy:=HRz6.out.froz j6;have bjn:j6<n:=by omega
     go_wp2;go_region
     all_goals go_wp2
     go_ret2;exact ⟨j6,true,rfl,_,HPO6.out,HRz6.out.swap HY6.out HP6.out.hp _,HRz6.out.bel HBz6.out _⟩
def Asc (M:Array Int) (a i:Nat):Prop:=∀ t,a<t->t<i->M[t - 1]!<=M[t]!
theorem Asc.le {M:Array Int} {a b:Nat} (h:Asc M a b) {s:Nat} (hs:a<=s):∀ t,s<=t->t<b->M[s]!<=M[t]!:=by
 intro t ht
 induction ht with
 | refl=>intro _;exact Int.le_refl _
 | @step m hm ih=>
  intro hb;have h1:=ih (by omega);have hm':s<=m:=hm;have h2:=h (m+1) (by omega) hb;rw [Nat.add_sub_cancel] at h2;exact Int.le_trans h1 h2
theorem Asc.sorted {M:Array Int} {a b:Nat} (h:Asc M a b):SortedIn ltInt a b M:=fun i j h1 h2 h3=>by
 have:=h.le h1 j (by omega) h3;simp only [ltInt];exact ZZg (by omega)
theorem Qlv {w:World} {B g n c a b:Nat} {D:Array Int} (hl:n<=40) (hab:a<b) (hbn:b<=n) (hR:RowU w B g n c D) :
  Calls Tryz.prog 333 #[.slice (some ⟨g,0,none⟩) n c,.int .i64 a,.int .i64 b] w fun e w'=>∃ z:Bool,e=.returned (.bool z)/\(z=true->SortedIn ltInt a b D)/\∃ m,w'=w.drewN m:=by
 have HR:=Qaa hR;clear hR;have hd:decide ((b:Int) - (a:Int)<50)=true:=ZZh (by omega);obtain ⟨l,el⟩:∃ l,(b:Int) - (a:Int)=l:=⟨_,rfl⟩;have ul:IntKind.i64.wrap l=l:=ZZi _ ⟨by omega,by omega⟩;have hl50:l<50:=by omega
 have HA0:Hid (Asc D a (a+1)):=(fun t h1 h2=>absurd h2 (by omega):Asc D a (a+1));go_enter Tryz.func333,Tryz.ntmps333;go_wp2;refine wp_loop_rounds 1 ?_;rw [rounds_succ];go_wp2
 go_loopw [7] (fun vi wr=>∃ i m:Nat,vi=.int .i64 i/\wr=w.drewN m/\a<i/\i<=b/\Hid (Asc D a i)) (fun vi wr=>n - (Go.RowKit.intOf vi).toNat)
 case atStart=>exact ⟨a+1,0,by go_num,rfl,by omega,by omega,HA0⟩
 case round=>
  clear HA0;obtain ⟨i,m,rfl,rfl,hai,hib,HA⟩:=hrel;generalize hW:w.drewN m=W;have HRW:Hid (RowU W B g n c D):=by rw [<- hW];exact HR.out.drews _
  have HW:=Qaa hW;clear hW;by_cases hlt:i<b
  ·have d0:decide ((i:Int)<(b:Int))=true:=ZZh (by omega)
   obtain ⟨k,hk⟩:∃ k,i=k+1:=⟨i - 1,by omega⟩;have e1:(i:Int) - 1=(k:Int):=by omega
   have ew:IntKind.i64.wrap (k:Int)=k:=ZZi _ ⟨by omega,by omega⟩;obtain ⟨x,hx⟩:∃ x,x=D[k]!:=⟨_,rfl⟩;obtain ⟨y,hy⟩:∃ y,y=D[i]!:=⟨_,rfl⟩;have bk:k<n:=by omega
   have bi:i<n:=by omega
   have hcx:=HRW.out.cell bk hx;have hcy:=HRW.out.cell bi hy;have hki:k<i:=by omega
   by_cases hyx:y<x
   ·have d1:decide (y<x)=true:=ZZh hyx
    have dn:((i:Int) == (b:Int))=false:=ZZf.2 (by omega);have HK:=Qaa hk;clear hx hy hk;go_wp2
    go_quiet (first | (go_at_call 334;refine Calls.quiet_of_same (Qat _ _ _)))
    go_wp2;go_ret;exact ⟨false,rfl,(fun h=>Bool.noConfusion h),_,(by rw [<- HW.out];exact QfQ _ _ _)⟩
   ·have d1:decide (y<x)=false:=ZZg hyx
    have HA2:Hid (Asc D a (i+1)):=(fun t h1 h2=>by
     by_cases e:t=i
     ·subst e;rw [hk,Nat.add_sub_cancel,<- hx,<- hk,<- hy];omega
     ·exact HA.out t h1 (by omega):Asc D a (i+1))
    have HK:=Qaa hk;clear hx hy hk;go_wp2
    go_quiet (first | (go_at_call 334;refine Calls.quiet_of_same (Qat _ _ _)))
    go_wp2;go_roundw
    case rel=>exact ⟨i+1,_,by go_num,(by rw [<- HW.out];exact QfQ _ _ _),by omega,by omega,HA2⟩
    case measure=>simp [Go.RowKit.intOf];omega
  ·have hib2:i=b:=by omega
   subst hib2;have HS:=Qaa HA.out.sorted;go_wp2
   go_quiet (first | (go_at_call 334;refine Calls.quiet_of_same (Qat _ _ _)))
   go_wp2;go_ret;exact ⟨true,rfl,(fun _=>HS.out),_,(by rw [<- HW.out];exact QfQ _ _ _)⟩
def SwC (w:World) (K:Nat) (s:Int):Prop:=w.cell? ⟨K,0,none⟩=some (.int .i64 s)/\w.frozen? ⟨K,0,none⟩=false/\0<=s/\s<=100
theorem SwC.put {w:World} {K:Nat} {s t:Int} (h:SwC w K s) (m:Nat) (h0:0<=t) (h1:t<=100):SwC ((w.drewN m).setCell ⟨K,0,none⟩ (.int .i64 t)) K t:=
 ⟨World.cell?_setCell_same (w.drewN m) _ _ h.1,(World.frozen?_setCell _ _ _ _).trans h.2.1,h0,h1⟩
theorem Qgj {w:World} {B g n c K:Nat} {D:Array Int} (i j:Nat) (s:Int) (hl:n<=40) (hi:i<n) (hj:j<n) (hgK:g<K) (hs9:s<=90) (hR:RowU w B g n c D) (hS:SwC w K s) :
  Calls Tryz.prog 341 #[.slice (some ⟨g,0,none⟩) n c,.int .i64 i,.int .i64 j,.pointer (some ⟨K,0,none⟩)] w fun e w'=>∃ (x y:Nat) (s':Int),e=.returned (.tuple #[.int .i64 x,.int .i64 y])/\(x=i/\y=j∨x=j/\y=i)/\s<=s'/\s'<=s+1/\SwC w' K s'/\Below K w w':=by
 obtain ⟨x,hx⟩:∃ x,x=D[i]!:=⟨_,rfl⟩;obtain ⟨y,hy⟩:∃ y,y=D[j]!:=⟨_,rfl⟩;have hcx:=hR.cell hi hx;have hcy:=hR.cell hj hy;have HS:=Qaa hS;obtain ⟨hc,hf,s0,s1⟩:=hS;have us:IntKind.i64.wrap (s+1)=s+1:=ZZi _ ⟨by omega,by omega⟩;have HR:=Qaa hR;clear hR hx hy;by_cases hyx:y<x
 ·have d1:decide (y<x)=true:=ZZh hyx
  go_enter Tryz.func341,Tryz.ntmps341;go_wp2
  go_quiet (first | (go_at_call 334;refine Calls.quiet_of_same (Qat _ _ _)))
  go_wp2;go_ret2;exact ⟨j,i,s+1,rfl,Or.inr ⟨rfl,rfl⟩,by omega,by omega,HS.out.put _ (by omega) (by omega),by refine Below.setCell (Qah (ZZb K w) _) ?_ _;exact ZZa K⟩
 ·have d1:decide (y<x)=false:=ZZg hyx
  go_enter Tryz.func341,Tryz.ntmps341;go_wp2
  go_quiet (first | (go_at_call 334;refine Calls.quiet_of_same (Qat _ _ _)))
  go_wp2;go_ret2;exact ⟨i,j,s,rfl,Or.inl ⟨rfl,rfl⟩,by omega,by omega,⟨hc,hf,by omega,by omega⟩,Qah (ZZb _ _) _⟩
theorem QmN {w:World} {B g n c K:Nat} {D:Array Int} (i j k:Nat) (s:Int) (hl:n<=40) (hi:i<n) (hj:j<n) (hk:k<n) (hgK:g<K) (hs9:s<=80) (hR:RowU w B g n c D) (hS:SwC w K s) :
  Calls Tryz.prog 339 #[.slice (some ⟨g,0,none⟩) n c,.int .i64 i,.int .i64 j,.int .i64 k,.pointer (some ⟨K,0,none⟩)] w fun e w'=>∃ (x:Nat) (s':Int),e=.returned (.int .i64 x)/\(x=i∨x=j∨x=k)/\s<=s'/\s'<=s+3/\SwC w' K s'/\Below K w w':=by
 have HR:=Qaa hR;have HS:=Qaa hS;clear hR hS;go_enter Tryz.func339,Tryz.ntmps339;go_wp2_with fail;refine (Qgj i j s hl hi hj hgK (by omega) HR.out HS.out).mono ?_;rintro e w1 ⟨x1,y1,s1,rfl,hxy1,hs1,hs2,hS1,hb1⟩;have HR1:=Qaa (HR.out.below hgK hb1);have HS1:=Qaa hS1;have HB1:=Qaa hb1;have bx1:x1<n/\y1<n/\(x1=i∨x1=j)/\(y1=i∨y1=j):=by omega
 have HX1:=Qaa bx1;clear hS1 hb1 hxy1 bx1;go_wp2_with fail;refine (Qgj y1 k s1 hl HX1.out.2.1 hk hgK (by omega) HR1.out HS1.out).mono ?_;rintro e w2 ⟨x2,y2,s2,rfl,hxy2,hs3,hs4,hS2,hb2⟩;have HR2:=Qaa (HR1.out.below hgK hb2);have HS2:=Qaa hS2;have HB2:=Qaa (HB1.out.trans hb2);have bx2:x2<n/\(x2=i∨x2=j∨x2=k):=by have:=HX1.out;omega
 have HX2:=Qaa bx2;clear hS2 hb2 hxy2 bx2;go_wp2_with fail;refine (Qgj x1 x2 s2 hl HX1.out.1 HX2.out.1 hgK (by omega) HR2.out HS2.out).mono ?_;rintro e w3 ⟨x3,y3,s3,rfl,hxy3,hs5,hs6,hS3,hb3⟩;have HS3:=Qaa hS3;have HB3:=Qaa (HB2.out.trans hb3);have HX3:Hid (y3=i∨y3=j∨y3=k):=(by have h1:=HX1.out;have h2:=HX2.out;omega:y3=i∨y3=j∨y3=k);clear hS3 hb3 hxy3;go_wp2;go_ret;exact ⟨y3,s3,rfl,HX3.out,by omega,by omega,HS3.out,HB3.out⟩
theorem Qk4 {w:World} {B g n c a b:Nat} {D:Array Int} (hl:n<=40) (hab:a+8<=b) (hbn:b<=n) (hR:RowU w B g n c D) :
  Calls Tryz.prog 331 #[.slice (some ⟨g,0,none⟩) n c,.int .i64 a,.int .i64 b] w fun e w'=>∃ (x:Nat) (h:Int),e=.returned (.tuple #[.int .i64 x,.int .i64 h])/\a<=x/\x<b/\(h=0∨h=1)/\Below w.heap.size w w':=by
 have HR:=Qaa hR;clear hR;obtain ⟨l,el⟩:∃ l,l=b - a:=⟨_,rfl⟩;have e1:(b:Int) - (a:Int)=(l:Int):=by omega
 have u1:IntKind.i64.wrap (l:Int)=l:=ZZi _ ⟨by omega,by omega⟩;obtain ⟨q,eq⟩:∃ q,q=l / 4:=⟨_,rfl⟩;have e2:(l:Int).tdiv 4=(q:Int):=by rw [Int.tdiv_eq_ediv_of_nonneg (by omega)];omega
 have u2:IntKind.i64.wrap (q:Int)=q:=ZZi _ ⟨by omega,by omega⟩;have u3:IntKind.i64.wrap ((q:Int)*2)=(q:Int)*2:=ZZi _ ⟨by omega,by omega⟩;have u4:IntKind.i64.wrap ((q:Int)*3)=(q:Int)*3:=ZZi _ ⟨by omega,by omega⟩;obtain ⟨i,ei⟩:∃ i,i=a+q:=⟨_,rfl⟩;obtain ⟨j,ej⟩:∃ j,j=a+q*2:=⟨_,rfl⟩;obtain ⟨k,ek⟩:∃ k,k=a+q*3:=⟨_,rfl⟩;have e3:(a:Int)+(q:Int)=(i:Int):=by omega
 have e4:(a:Int)+(q:Int)*2=(j:Int):=by omega
 have e5:(a:Int)+(q:Int)*3=(k:Int):=by omega
 have u5:IntKind.i64.wrap (i:Int)=i:=ZZi _ ⟨by omega,by omega⟩;have u6:IntKind.i64.wrap (j:Int)=j:=ZZi _ ⟨by omega,by omega⟩;have u7:IntKind.i64.wrap (k:Int)=k:=ZZi _ ⟨by omega,by omega⟩;have hb:(a<=i/\i<b)/\(a<=j/\j<b)/\(a<=k/\k<b):=by omega
 have HQ:=Qaa hb;have d1:decide ((8:Int)<=(l:Int))=true:=ZZh (by omega);have d1N:decide (8<=l)=true:=ZZh (by omega);have d2:decide ((50:Int)<=(l:Int))=false:=ZZg (by omega);have d2N:decide (50<=l)=false:=ZZg (by omega);have g1:8<=l:=by omega
 have g2:l<50:=by omega
 have hg:=HR.out.lt.2;clear el eq ei ej ek hb;go_enter Tryz.func331,Tryz.ntmps331;go_wp2_with fail;refine (QmN i j k 0 hl (by have:=HQ.out;omega) (by have:=HQ.out;omega) (by have:=HQ.out;omega) (K:=w.heap.size) hg (by omega) (HR.out.below hg ((Below.refl _ _).alloc (Nat.le_refl _) _)) ⟨by simp,by simp,by omega,by omega⟩).mono ?_;rintro e w1 ⟨x,s,rfl,hx,hs0,hs1,hS,hb1⟩;have HT:=Qaa (((ZZb w.heap.size w).alloc (ZZa _) (.cells #[.int .i64 0] 3)).trans hb1);have HX:Hid (a<=x/\x<b):=(by have:=HQ.out;omega:a<=x/\x<b);obtain ⟨hc,_,_,_⟩:=hS;clear hb1 hx;by_cases hz:s=0
 ·subst hz
  go_wp2;go_ret2;exact ⟨x,1,rfl,HX.out.1,HX.out.2,Or.inr rfl,HT.out⟩
 ·have hz1:(s == 0)=false:=ZZf.2 hz
  have hz2:(s == 12)=false:=ZZf.2 (by omega);have hz3:¬ s=12:=by omega
  go_wp2;go_ret2;exact ⟨x,0,rfl,HX.out.1,HX.out.2,Or.inl rfl,HT.out⟩
def Qqe (x:Nat) (v:Nat):Prop:=v<=6/\2 ^ v<=2*x/\x<2 ^ v
set_option maxRecDepth 100000 in
theorem QoQ (x:Nat) (h0:1<=x) (h:x<=40) (w:World) :
  Calls Tryz.prog 173 #[.int .u64 x] w fun e w'=>∃ v:Nat,e=.returned (.int .i64 v)/\Qqe x v/\w'=w:=by
 have hc:x=1∨x=2∨x=3∨x=4∨x=5∨x=6∨x=7∨x=8∨x=9∨x=10∨x=11∨x=12∨x=13∨x=14∨x=15∨x=16∨x=17∨x=18∨x=19∨x=20∨x=21∨x=22∨x=23∨x=24∨x=25∨x=26∨x=27∨x=28∨x=29∨x=30∨x=31∨x=32∨x=33∨x=34∨x=35∨x=36∨x=37∨x=38∨x=39∨x=40:=by omega
 rcases hc with rfl | rfl | rfl | rfl | rfl | rfl | rfl | rfl | rfl | rfl | rfl | rfl | rfl | rfl | rfl | rfl | rfl | rfl | rfl | rfl | rfl | rfl | rfl | rfl | rfl | rfl | rfl | rfl | rfl | rfl | rfl | rfl | rfl | rfl | rfl | rfl | rfl | rfl | rfl | rfl
 all_goals
  go_enter Tryz.func173,Tryz.ntmps173;go_wp2;go_ret
  first
   | exact ⟨1,by kernel_rfl,⟨by decide,by decide,by decide⟩,rfl⟩
   | exact ⟨2,by kernel_rfl,⟨by decide,by decide,by decide⟩,rfl⟩
   | exact ⟨3,by kernel_rfl,⟨by decide,by decide,by decide⟩,rfl⟩
   | exact ⟨4,by kernel_rfl,⟨by decide,by decide,by decide⟩,rfl⟩
   | exact ⟨5,by kernel_rfl,⟨by decide,by decide,by decide⟩,rfl⟩
   | exact ⟨6,by kernel_rfl,⟨by decide,by decide,by decide⟩,rfl⟩
theorem Qg2 (x:Nat) (h0:1<=x) (h:x<=40) (w:World) :
  Calls Tryz.prog 130 #[.int .u64 x] w fun e w'=>∃ v:Nat,e=.returned (.int .i64 v)/\Qqe x v/\w'=w:=by
 go_enter Tryz.func130,Tryz.ntmps130;go_wp2_with (go_at_call 173;refine (QoQ _ h0 h _).mono ?_;rintro e w2 ⟨v,rfl,hv,hw⟩;obtain rfl:=hw.symm;have HV:=Qaa hv;clear hv);go_ret;exact ⟨_,rfl,HV.out,rfl⟩
theorem c_powU (x:Nat) (h0:1<=x) (h:x<=40) (w:World) :
  Calls Tryz.prog 207 #[.int .i64 x] w fun e w'=>∃ v:Nat,e=.returned (.int .u64 ((2 ^ v:Nat):Int))/\Qqe x v/\w'=w:=by
 have u1:IntKind.u64.wrap (x:Int)=x:=IntWalk.u64_in _ ⟨by omega,by omega⟩;go_enter Tryz.func207,Tryz.ntmps207;go_wp2_with fail;refine (Qg2 x h0 h _).mono ?_;rintro e w2 ⟨v,rfl,hv,hw⟩;obtain rfl:=hw.symm;have h6:v=0∨v=1∨v=2∨v=3∨v=4∨v=5∨v=6:=by have:=hv.1;omega
 have HV:=Qaa hv;clear hv;rcases h6 with rfl | rfl | rfl | rfl | rfl | rfl | rfl
 all_goals
  go_wp2;go_ret;exact ⟨_,rfl,HV.out,rfl⟩
theorem and_bd (r m:Int) (h0:0<=m) (h1:m<9223372036854775808):0<=bits BinOp.and IntKind.u64 r m/\bits BinOp.and IntKind.u64 r m<=m:=by
 have hb:((BitVec.ofInt 64 r &&& BitVec.ofInt 64 m).toNat:Int)<=m:=by
  have h2:(BitVec.ofInt 64 m).toNat=m.toNat:=by
   rw [BitVec.toNat_ofInt];have:m % ((2 ^ 64:Nat):Int)=m:=Int.emod_eq_of_lt h0 (by omega);rw [this]
  rw [BitVec.toNat_and,h2];have:=Nat.and_le_right (n:=(BitVec.ofInt 64 r).toNat) (m:=m.toNat);omega
 have e:bits BinOp.and IntKind.u64 r m=((BitVec.ofInt 64 r &&& BitVec.ofInt 64 m).toNat:Int):=by
  show IntKind.u64.wrap ((BitVec.ofInt 64 r &&& BitVec.ofInt 64 m).toNat:Int)=_
  exact IntWalk.u64_in _ ⟨by omega,by omega⟩
 rw [e];exact ⟨by omega,hb⟩
theorem c_xorU {w:World} (K:Nat) (s:Int) (hc:w.cell? ⟨K,0,none⟩=some (.int .u64 s)) (hf:w.frozen? ⟨K,0,none⟩=false) :
  Calls Tryz.prog 208 #[.pointer (some ⟨K,0,none⟩)] w fun e w'=>∃ v,e=.returned (.int .u64 v)/\w'.cell? ⟨K,0,none⟩=some (.int .u64 v)/\w'.frozen? ⟨K,0,none⟩=false/\Below K w w':=by
 obtain ⟨m1,e1⟩:∃ m1,bits BinOp.xor IntKind.u64 s (IntKind.u64.wrap (s*8192))=m1:=⟨_,rfl⟩;obtain ⟨m2,e2⟩:∃ m2,bits BinOp.xor IntKind.u64 m1 (m1 / 128)=m2:=⟨_,rfl⟩;obtain ⟨m3,e3⟩:∃ m3,bits BinOp.xor IntKind.u64 m2 (IntKind.u64.wrap (m2*131072))=m3:=⟨_,rfl⟩
 have c5:∀ x y z,(((w.setCell ⟨K,0,none⟩ x).setCell ⟨K,0,none⟩ y).setCell ⟨K,0,none⟩ z).cell? ⟨K,0,none⟩=some z:=fun x y z=>by
  have g1:=World.cell?_setCell_same _ _ x hc;have g2:=World.cell?_setCell_same _ _ y g1;exact World.cell?_setCell_same _ _ z g2
 go_enter Tryz.func208,Tryz.ntmps208;go_wp2;go_region
 go_wp2;go_region
 go_wp2;go_region
 go_wp2;go_ret;refine ⟨m3,rfl,c5 _ _ _,?_,?_⟩
 ·exact (World.frozen?_setCell _ _ _ _).trans ((World.frozen?_setCell _ _ _ _).trans ((World.frozen?_setCell _ _ _ _).trans hf))
 ·have h3:Below K w (((w.setCell ⟨K,0,none⟩ (.int .u64 m1)).setCell ⟨K,0,none⟩ (.int .u64 m2)).setCell ⟨K,0,none⟩ (.int .u64 m3)):=by
   refine Below.setCell ?_ (ZZa K) _;refine Below.setCell ?_ (ZZa K) _;refine Below.setCell ?_ (ZZa K) _;exact ZZb K w
  exact h3.drew.drew.drew
theorem RowU.far2 {w:World} {B g n c i j K:Nat} {D:Array Int} {x y u:Value} (h:RowU w B g n c D) (hK:g≠K) (hc:w.cell? ⟨K,0,none⟩=some u/\w.frozen? ⟨K,0,none⟩=false) (m:Nat) :
  (((w.drewN m).setCell ⟨g,i,none⟩ x).setCell ⟨g,j,none⟩ y).cell? ⟨K,0,none⟩=some u/\(((w.drewN m).setCell ⟨g,i,none⟩ x).setCell ⟨g,j,none⟩ y).frozen? ⟨K,0,none⟩=false:=
 ⟨(World.cell?_setCell_far _ _ _ _ hK).trans ((World.cell?_setCell_far _ _ _ _ hK).trans hc.1),(World.frozen?_setCell _ _ _ _).trans ((World.frozen?_setCell _ _ _ _).trans hc.2)⟩
theorem Qor {w:World} {B g n c a b:Nat} {D:Array Int} (hl:n<=40) (hab:a+8<=b) (hbn:b<=n) (hR:RowU w B g n c D) :
  Calls Tryz.prog 330 #[.slice (some ⟨g,0,none⟩) n c,.int .i64 a,.int .i64 b] w fun e w'=>∃ r,e=.returned r/\∃ M:Array Int,PermIn a b D M/\RowU w' B g n c M/\Below B w w':=by
 have HR:=Qaa hR;have hgB:=hR.lt;have hDn:D.size=n:=hR.1;clear hR;obtain ⟨l,el⟩:∃ l,l=b - a:=⟨_,rfl⟩;have e1:(b:Int) - (a:Int)=(l:Int):=by omega
 have u1:IntKind.i64.wrap (l:Int)=l:=ZZi _ ⟨by omega,by omega⟩;have u1b:IntKind.u64.wrap (l:Int)=l:=IntWalk.u64_in _ ⟨by omega,by omega⟩;obtain ⟨q,eq⟩:∃ q,q=l / 4:=⟨_,rfl⟩;have e2:(l:Int).tdiv 4=(q:Int):=by rw [Int.tdiv_eq_ediv_of_nonneg (by omega)];omega
 have u2:IntKind.i64.wrap (q:Int)=q:=ZZi _ ⟨by omega,by omega⟩;have u3:IntKind.i64.wrap ((q:Int)*2)=(q:Int)*2:=ZZi _ ⟨by omega,by omega⟩;obtain ⟨j,ej⟩:∃ j,j=a+q*2:=⟨_,rfl⟩;have e4:(a:Int)+(q:Int)*2=(j:Int):=by omega
 have u6:IntKind.i64.wrap (j:Int)=j:=ZZi _ ⟨by omega,by omega⟩;obtain ⟨j0,ej0⟩:∃ j0,j0=j - 1:=⟨_,rfl⟩;have e5:(j:Int) - 1=(j0:Int):=by omega
 have u7:IntKind.i64.wrap (j0:Int)=j0:=ZZi _ ⟨by omega,by omega⟩;have u8:IntKind.i64.wrap ((j:Int)+1)=(j:Int)+1:=ZZi _ ⟨by omega,by omega⟩;have hjb:a<=j0/\j0+1=j/\j+1<b/\b=a+l/\8<=l:=by omega
 obtain ⟨b1,b2,b3,b4,b5⟩:=hjb;have HQ:Hid (a<=j0/\j0+1=j/\j+1<b/\b=a+l/\8<=l):=⟨b1,b2,b3,b4,b5⟩;have d1:decide ((8:Int)<=(l:Int))=true:=ZZh (by omega);have l40:l<=40:=by omega
 clear el eq ej ej0 b2 b4;go_enter Tryz.func330,Tryz.ntmps330;go_wp2_with fail;refine (c_powU l (by omega) l40 _).mono ?_;rintro e w1 ⟨v,rfl,hv,hw⟩;obtain rfl:=hw;obtain ⟨P,hP⟩:∃ P,P=2 ^ v:=⟨_,rfl⟩;rw [<- hP];have hP1:P<=2*l/\l<P:=by rw [hP];exact hv.2
 have uP:IntKind.u64.wrap ((P:Int) - 1)=(P:Int) - 1:=IntWalk.u64_in _ ⟨by omega,by omega⟩;clear hP hv;generalize hW0:w.alloc (Obj.cells #[Value.int IntKind.u64 (l:Int)] 250)=W0;have HR0:Hid (RowU W0 B g n c D):=by rw [<- hW0];exact HR.out.below hgB.2 ((ZZb _ _).alloc (ZZa _) _)
 have HB0:Hid (Below B w W0):=by rw [<- hW0];exact (ZZb B w).alloc (by omega) _
 have HC0:Hid (W0.cell? ⟨w.heap.size,0,none⟩=some (.int .u64 (l:Int))/\W0.frozen? ⟨w.heap.size,0,none⟩=false):=by rw [<- hW0];exact ⟨by simp,by simp⟩
 generalize hK:w.heap.size=K at HC0 hgB ⊢;clear hK hW0;have HP0:Hid (PermIn a b D D):=Go.Sort.permIn_refl D a b;go_wp2_with fail
 go_loopw [9] (fun vi wr=>Below B w wr/\∃ (i:Nat) (M:Array Int) (s:Int),vi=.int .i64 i/\j0<=i/\i<=j+2/\Hid (PermIn a b D M)/\Hid (RowU wr B g n c M)/\Hid (wr.cell? ⟨K,0,none⟩=some (.int .u64 s)/\wr.frozen? ⟨K,0,none⟩=false)) (fun vi wr=>100 - (Go.RowKit.intOf vi).toNat)
 case atStart=>exact ⟨HB0.out,j0,D,l,rfl,ZZa _,by have:=HQ.out;omega,HP0,HR0,HC0⟩
 case round=>
  clear HB0 HR0 HC0 HP0;obtain ⟨hbel,i,M,s,rfl,hi0,hi1,HP,HM,HC⟩:=hrel;have HB:=Qaa hbel;clear hbel;by_cases hlt:i<=j+1
  ·have d2:decide ((i:Int)<=(j:Int)+1)=true:=ZZh (by omega)
   go_wp2_with fail;refine (c_xorU K s HC.out.1 HC.out.2).mono ?_;rintro e w2 ⟨v,rfl,hc2,hf2,hb2⟩;have HM2:=Qaa (HM.out.below hgB.2 hb2);have HB2:=Qaa (HB.out.trans (hb2.mono (by omega)));have HC2:=Qaa (And.intro hc2 hf2);clear HM HB HC hb2 hc2 hf2;obtain ⟨ho0,ho1⟩:=and_bd v ((P:Int) - 1) (by omega) (by omega);obtain ⟨o,eo⟩:∃ o:Nat,bits BinOp.and IntKind.u64 v ((P:Int) - 1)=(o:Int):=⟨(bits BinOp.and IntKind.u64 v ((P:Int) - 1)).toNat,by omega⟩;rw [eo] at ho0 ho1;have uo:IntKind.i64.wrap (o:Int)=o:=ZZi _ ⟨by omega,by omega⟩;by_cases hol:l<=o
   ·have d3:decide ((l:Int)<=(o:Int))=true:=ZZh (by omega)
    have d3N:decide (l<=o)=true:=ZZh hol;obtain ⟨r,er⟩:∃ r,r=o - l:=⟨_,rfl⟩;have e7:(o:Int) - (l:Int)=(r:Int):=by omega
    have u9:IntKind.i64.wrap (r:Int)=r:=ZZi _ ⟨by omega,by omega⟩;obtain ⟨t,et⟩:∃ t,t=a+r:=⟨_,rfl⟩;have e8:(a:Int)+(r:Int)=(t:Int):=by omega
    have u10:IntKind.i64.wrap (t:Int)=t:=ZZi _ ⟨by omega,by omega⟩;have htb:a<=t/\t<b/\a<=i/\i<b:=by have:=HQ.out;omega
    have HT:=Qaa htb;have btn:t<n:=by omega
    have bin:i<n:=by omega
    obtain ⟨x,hx⟩:∃ x,x=M[i]!:=⟨_,rfl⟩;obtain ⟨y,hy⟩:∃ y,y=M[t]!:=⟨_,rfl⟩;have hcx:=HM2.out.cell bin hx;have hcy:=HM2.out.cell btn hy;have hcs:=HM2.out.cellS (i:=i) btn hy;have hfx:=HM2.out.froz i;have hfy:=HM2.out.froz t;have HF:=Qaa (And.intro hx hy);have HP2:Hid (PermIn a b D (swp M i t)):=Go.Sort.permIn_trans _ _ _ _ _ HP.out (Go.Sort.swp_permIn M a b i t htb.2.2.1 htb.2.2.2 htb.1 htb.2.1 (by rw [HM2.out.1];exact hbn));clear hx hy er et htb ho0 ho1;go_wp2;go_region
    all_goals go_wp2
    go_roundw
    case rel=>exact ⟨HM2.out.bel HB2.out _,i+1,swp M i t,v,by go_num,by omega,by omega,HP2,(HM2.out.swap HF.out.1 HF.out.2 _:_),(HM2.out.far2 (Nat.ne_of_lt hgB.2) HC2.out _:_)⟩
    case measure=>first | (simp [Go.RowKit.intOf];done) | (simp [Go.RowKit.intOf];omega)
   ·have d3:decide ((l:Int)<=(o:Int))=false:=ZZg (by omega)
    have d3N:decide (l<=o)=false:=ZZg hol;obtain ⟨r,er⟩:∃ r,r=o:=⟨_,rfl⟩;obtain ⟨t,et⟩:∃ t,t=a+r:=⟨_,rfl⟩;have e8:(a:Int)+(o:Int)=(t:Int):=by omega
    have u10:IntKind.i64.wrap (t:Int)=t:=ZZi _ ⟨by omega,by omega⟩;have htb:a<=t/\t<b/\a<=i/\i<b:=by have:=HQ.out;omega
    have HT:=Qaa htb;have btn:t<n:=by omega
    have bin:i<n:=by omega
    obtain ⟨x,hx⟩:∃ x,x=M[i]!:=⟨_,rfl⟩;obtain ⟨y,hy⟩:∃ y,y=M[t]!:=⟨_,rfl⟩;have hcx:=HM2.out.cell bin hx;have hcy:=HM2.out.cell btn hy;have hcs:=HM2.out.cellS (i:=i) btn hy;have hfx:=HM2.out.froz i;have hfy:=HM2.out.froz t;have HF:=Qaa (And.intro hx hy);have HP2:Hid (PermIn a b D (swp M i t)):=Go.Sort.permIn_trans _ _ _ _ _ HP.out (Go.Sort.swp_permIn M a b i t htb.2.2.1 htb.2.2.2 htb.1 htb.2.1 (by rw [HM2.out.1];exact hbn));clear hx hy er et htb ho0 ho1;go_wp2;go_region
    all_goals go_wp2
    go_roundw
    case rel=>exact ⟨HM2.out.bel HB2.out _,i+1,swp M i t,v,by go_num,by omega,by omega,HP2,(HM2.out.swap HF.out.1 HF.out.2 _:_),(HM2.out.far2 (Nat.ne_of_lt hgB.2) HC2.out _:_)⟩
    case measure=>first | (simp [Go.RowKit.intOf];done) | (simp [Go.RowKit.intOf];omega)
  ·have d2:decide ((i:Int)<=(j:Int)+1)=false:=ZZg (by omega)
   go_wp2
   go_end0
   exact ⟨_,rfl,M,HP.out,HM.out,HB.out⟩
end Go.Proofs.YthchmdmncmioiaaGreatDoor
namespace Go.Proofs.YthchmdmncmioiaaGreatDoor
set_option linter.unusedVariables false
set_option linter.unusedSimpArgs false
open Go.ChangeShapes Go.WideShapes Go.ChangeAt Go.RowKit Go.PlainAid
open Go.Sort (swp ltInt PermIn SortedIn permIn_all permIn_mono permIn_trans permIn_refl)
set_option maxRecDepth 10000
theorem QeJ {a b:Nat} {d d':Array Int} (h:PermIn a b d d') (hb:b<=d.size):d'.toList.Perm d.toList:=by
 have h1:=permIn_mono d d' a b 0 d.size (ZZj _) hb (ZZa _) h;have h2:=h1.2.2;have e1:d.extract 0 d.size=d:=by simp
 have e2:d'.extract 0 d.size=d':=by rw [<- h1.1];simp
 rwa [e1,e2] at h2
def LowI (x y:Nat) (M:Array Int):Prop:=x=0∨∀ i,x<=i->i<y->M[x - 1]!<=M[i]!
theorem LowI.perm {x y:Nat} {M M1:Array Int} (h:LowI x y M) (hp:PermIn x y M M1) (hy:y<=M.size):LowI x y M1:=by
 rcases h with h | h
 ·exact .inl h
 ·by_cases hx:x=0
  ·exact .inl hx
  ·refine .inr (fun i h1 h2=>?_)
   rw [hp.2.1 (x - 1) (by omega)];exact permIn_all M M1 x y (fun v=>M[x - 1]!<=v) hy hp h i h1 h2
theorem LowI.cut {x y m:Nat} {M:Array Int} (h:LowI x y M) (hm:m<=y):LowI x m M:=by
 rcases h with h | h
 ·exact .inl h
 ·exact .inr (fun i h1 h2=>h i h1 (by omega))
theorem Qgu {x y m:Nat} {N:Array Int} {p:Int} (hm:N[m]! = p) (hL:∀ i,x<=i->i<m->N[i]! < p) (hR:∀ i,m<i->i<y->p<=N[i]!) (sL:SortedIn ltInt x m N) (sR:SortedIn ltInt (m+1) y N):SortedIn ltInt x y N:=fun i j h1 h2 h3=>by
 rcases Nat.lt_trichotomy j m with hj | hj | hj
 ·exact sL i j h1 h2 hj
 ·subst hj
  have:=hL i h1 h2;simp only [ltInt];exact ZZg (by omega)
 ·rcases Nat.lt_trichotomy i m with hi | hi | hi
  ·have a1:=hL i h1 hi
   have a2:=hR j hj h3;simp only [ltInt];exact ZZg (by omega)
  ·subst hi
   have a2:=hR j hj h3;simp only [ltInt];exact ZZg (by omega)
  ·exact sR i j (by omega) h2 h3
structure PQ (D:Array Int) (a b x y:Nat) (M:Array Int):Prop where
 fin:∀ M',PermIn x y M M'->SortedIn ltInt x y M'->PermIn a b D M'/\SortedIn ltInt a b M'
 nd:M.toList.Nodup
 low:LowI x y M
 ax:a<=x
 xy:x<=y
 yb:y<=b
 bs:b<=M.size
theorem PQ.start {D:Array Int} {a b:Nat} (nd:D.toList.Nodup) (low:LowI a b D) (ab:a<=b) (bs:b<=D.size):PQ D a b a b D:=
 ⟨fun M' h1 h2=>⟨h1,h2⟩,nd,low,ZZa _,ab,ZZa _,bs⟩
theorem PQ.perm {D M M1:Array Int} {a b x y:Nat} (h:PQ D a b x y M) (hp:PermIn x y M M1):PQ D a b x y M1:=by
 have b1:=h.yb;have b2:=h.bs;exact ⟨fun M' h1 h2=>h.fin M' (permIn_trans _ _ _ _ _ hp h1) h2,(QeJ hp (by omega)).nodup_iff.2 h.nd,h.low.perm hp (by omega),h.ax,h.xy,h.yb,by rw [hp.1];exact h.bs⟩
theorem PQ.left {D M M2 M3:Array Int} {a b x y m:Nat} (h:PQ D a b x y M) (po:PO M x y m M2) (hp:PermIn x m M2 M3) (hs:SortedIn ltInt x m M3):PQ D a b (m+1) y M3:=by
 have h2:=h.perm po.perm;have b1:=h2.yb;have b2:=h2.bs;have b3:=po.am;have b4:=po.mb;have b5:=h.ax;have e3:M3[m]! = M2[m]!:=hp.2.1 m (.inr (ZZa _));have l3:∀ i,x<=i->i<m->M3[i]! < M2[m]!:=fun i h1 h2=>permIn_all M2 M3 x m (fun v=>v<M2[m]!) (by omega) hp po.L i h1 h2
 have r3:∀ i,m<i->i<y->M2[m]!<=M3[i]!:=fun i h1 h2=>by
  rw [hp.2.1 i (.inr (by omega))];exact Int.not_lt.1 (po.R i h1 h2)
 refine ⟨fun M' p1 s1=>?_,(QeJ hp (by omega)).nodup_iff.2 h2.nd,.inr (fun i h1 h2=>?_),by omega,by omega,b1,by rw [hp.1];exact b2⟩
 ·have em:M'[m]! = M2[m]!:=(p1.2.1 m (.inl (by omega))).trans e3
  refine h2.fin M' (permIn_trans _ _ _ _ _ (permIn_mono _ _ _ _ x y (Nat.le_refl _) (by omega) (by omega) hp) (permIn_mono _ _ _ _ x y (by omega) (Nat.le_refl _) (by rw [hp.1];omega) p1)) ?_;refine Qgu em (fun i h1 h2=>?_) (fun i h1 h2=>?_) (fun i j h1 h2 h3=>?_) s1
  ·rw [p1.2.1 i (.inl (by omega))];exact l3 i h1 h2
  ·exact permIn_all M3 M' (m+1) y (fun v=>M2[m]!<=v) (by rw [hp.1];omega) p1 (fun i h1 h2=>r3 i (by omega) h2) i (by omega) h2
  ·rw [p1.2.1 i (.inl (by omega)),p1.2.1 j (.inl (by omega))];exact hs i j h1 h2 h3
 ·rw [Nat.add_sub_cancel,e3];exact r3 i (by omega) h2
theorem PQ.right {D M M2 M3:Array Int} {a b x y m:Nat} (h:PQ D a b x y M) (po:PO M x y m M2) (hp:PermIn (m+1) y M2 M3) (hs:SortedIn ltInt (m+1) y M3):PQ D a b x m M3:=by
 have h2:=h.perm po.perm;have b1:=h2.yb;have b2:=h2.bs;have b3:=po.am;have b4:=po.mb;have b5:=h.ax;have e3:M3[m]! = M2[m]!:=hp.2.1 m (.inl (by omega));have l3:∀ i,x<=i->i<m->M3[i]! < M2[m]!:=fun i h1 h2=>by rw [hp.2.1 i (.inl (by omega))];exact po.L i h1 h2
 have r3:∀ i,m<i->i<y->M2[m]!<=M3[i]!:=fun i h1 h2=>permIn_all M2 M3 (m+1) y (fun v=>M2[m]!<=v) (by omega) hp (fun i h1 h2=>Int.not_lt.1 (po.R i (by omega) h2)) i (by omega) h2;refine ⟨fun M' p1 s1=>?_,(QeJ hp (by omega)).nodup_iff.2 h2.nd,?_,b5,by omega,by omega,by rw [hp.1];exact b2⟩
 ·have em:M'[m]! = M2[m]!:=(p1.2.1 m (.inr (ZZa _))).trans e3
  refine h2.fin M' (permIn_trans _ _ _ _ _ (permIn_mono _ _ _ _ x y (by omega) (Nat.le_refl _) (by omega) hp) (permIn_mono _ _ _ _ x y (Nat.le_refl _) (by omega) (by rw [hp.1];omega) p1)) ?_;refine Qgu em (fun i h1 h2=>?_) (fun i h1 h2=>?_) s1 (fun i j h1 h2 h3=>?_)
  ·exact permIn_all M3 M' x m (fun v=>v<M2[m]!) (by rw [hp.1];omega) p1 (fun i h1 h2=>l3 i h1 h2) i h1 h2
  ·rw [p1.2.1 i (.inr (by omega))];exact r3 i h1 h2
  ·rw [p1.2.1 i (.inr (by omega)),p1.2.1 j (.inr (by omega))];exact hs i j h1 h2 h3
 ·rcases h2.low with h | h
  ·exact .inl h
  ·by_cases hx:x=0
   ·exact .inl hx
   ·refine .inr (fun i h1 h2=>?_)
    rw [hp.2.1 (x - 1) (.inl (by omega)),hp.2.1 i (.inl (by omega))];exact h i h1 (by omega)
theorem PQ.lowL {D M M2:Array Int} {a b x y m:Nat} (h:PQ D a b x y M) (po:PO M x y m M2):LowI x m M2:=(h.perm po.perm).low.cut (Nat.le_of_lt po.mb)
theorem PO.lowR {M M2:Array Int} {x y m:Nat} (po:PO M x y m M2):LowI (m+1) y M2:=.inr (fun i h1 h2=>by rw [Nat.add_sub_cancel];exact Int.not_lt.1 (po.R i (by omega) h2))
theorem nd_ne {M:Array Int} (h:M.toList.Nodup) {i j:Nat} (hi:i<M.size) (hj:j<M.size) (hij:i≠j):M[i]!≠M[j]!:=by
 rw [getElem!_pos M i hi,getElem!_pos M j hj];have hp:=List.pairwise_iff_getElem.1 h;rcases Nat.lt_or_gt_of_ne hij with hlt | hlt
 ·have:=hp i j (by simpa using hi) (by simpa using hj) hlt
  simpa using this
 ·have:=hp j i (by simpa using hj) (by simpa using hi) hlt
  intro e;exact this (by simpa using e.symm)
theorem PQ.less {D M:Array Int} {a b x y q:Nat} (h:PQ D a b x y M) (hx:0<x) (h1:x<=q) (h2:q<y):M[x - 1]! < M[q]!:=by
 have b1:=h.yb;have b2:=h.bs;have n1:=nd_ne h.nd (i:=x - 1) (j:=q) (by omega) (by omega) (by omega);rcases h.low with hl | hl
 ·omega
 ·have:=hl q h1 h2
  omega
theorem c_pdqU:∀ (N:Nat) {w:World} {B g n c a b:Nat} {D:Array Int} (lim:Int),b - a<=N->n<=40->a<=b->b<=n->0<=lim->lim<=64->D.toList.Nodup->LowI a b D->RowU w B g n c D ->
  Calls Tryz.prog 327 #[.slice (some ⟨g,0,none⟩) n c,.int .i64 a,.int .i64 b,.int .i64 lim] w fun e w'=>∃ r,e=.returned r/\∃ M:Array Int,PermIn a b D M/\SortedIn ltInt a b M/\RowU w' B g n c M/\Below B w w':=by
 intro N
 induction N using Nat.strongRecOn with
 | ind N IH=>
 intro w B g n c a b D lim hN hl hab hbn hl0 hl1 hnd hlow hR;have HIH:Hid (∀ m<N,∀ {w:World} {B g n c a b:Nat} {D:Array Int} (lim:Int),b - a<=m->n<=40->a<=b->b<=n->0<=lim->lim<=64->D.toList.Nodup->LowI a b D->RowU w B g n c D->Calls Tryz.prog 327 #[.slice (some ⟨g,0,none⟩) n c,.int .i64 a,.int .i64 b,.int .i64 lim] w fun e w'=>∃ r,e=.returned r/\∃ M:Array Int,PermIn a b D M/\SortedIn ltInt a b M/\RowU w' B g n c M/\Below B w w'):=IH;clear IH;have HQ0:=Qaa (PQ.start hnd hlow hab (by rw [hR.1];exact hbn));have HR0:=Qaa hR;clear hR hnd hlow;go_enter Tryz.func327,Tryz.ntmps327;go_wp2
 go_loopw [1,2,3,8,9] (fun va vb vl v8 v9 wr=>Below B w wr/\∃ (x y:Nat) (li:Int) (q8 q9:Bool) (M:Array Int),va=.int .i64 x/\vb=.int .i64 y/\vl=.int .i64 li/\v8=.bool q8/\v9=.bool q9/\0<=li/\li<=64/\Hid (PQ D a b x y M)/\Hid (RowU wr B g n c M)) (fun va vb vl v8 v9 wr=>(Go.RowKit.intOf vb - Go.RowKit.intOf va).toNat)
 case atStart=>exact ⟨ZZb _ _,a,b,lim,true,true,D,rfl,rfl,rfl,rfl,rfl,hl0,hl1,HQ0,HR0⟩
 case round=>
  clear HQ0 HR0 hl0 hl1;obtain ⟨hbel,x,y,li,q8,q9,M,rfl,rfl,rfl,rfl,rfl,hl0,hl1,HQ,HM⟩:=hrel;have HB:=Qaa hbel;clear hbel;have bx:a<=x/\x<=y/\y<=b:=⟨HQ.out.ax,HQ.out.xy,HQ.out.yb⟩;obtain ⟨l,el⟩:∃ l,l=y - x:=⟨_,rfl⟩;have e1:(y:Int) - (x:Int)=(l:Int):=by omega
  have u1:IntKind.i64.wrap (l:Int)=l:=ZZi _ ⟨by omega,by omega⟩;have HL:=Qaa el;by_cases h12:l<=12
  ·have d0:decide ((l:Int)<=12)=true:=ZZh (by omega)
   have d0N:decide (l<=12)=true:=ZZh h12;clear el;go_wp2_with fail;refine (c_insU hl bx.2.1 (by omega) HM.out).mono ?_;rintro e w1 ⟨r,rfl,M1,p1,s1,hR1,hb1⟩;have HF:=Qaa (HQ.out.fin M1 p1 s1);have HR1:=Qaa hR1;have HB1:=Qaa (HB.out.trans hb1);clear p1 s1 hR1 hb1;go_wp2
   (try simp only [Exit.inBlock,Exit.then]);refine bodyPost_ret (results_none rfl _ _ _) rfl ?_
   exact ⟨_,rfl,M1,HF.out.1,HF.out.2,HR1.out,HB1.out⟩
  have d0:decide ((l:Int)<=12)=false:=ZZg (by omega);have d0N:decide (l<=12)=false:=ZZg h12;have hyx:x+13<=y:=by omega
  by_cases hz:li=0
  ·subst hz
   clear el;go_wp2_with fail;refine (Qp6 hl (by omega) (by omega) HM.out).mono ?_;rintro e w1 ⟨r,rfl,M1,p1,s1,hR1,hb1⟩;have HF:=Qaa (HQ.out.fin M1 p1 s1);have HR1:=Qaa hR1;have HB1:=Qaa (HB.out.trans hb1);clear p1 s1 hR1 hb1;go_wp2
   (try simp only [Exit.inBlock,Exit.then]);refine bodyPost_ret (results_none rfl _ _ _) rfl ?_
   exact ⟨_,rfl,M1,HF.out.1,HF.out.2,HR1.out,HB1.out⟩
  have dz:(li == 0)=false:=ZZf.2 hz;have uli:IntKind.i64.wrap (li - 1)=li - 1:=ZZi _ ⟨by omega,by omega⟩;clear el
  cases q8 with
  | false=>
   go_wp2_with fail;refine (Qor hl (a:=x) (b:=y) (by omega) (by omega) HM.out).mono ?_;rintro e w1 ⟨r,rfl,M1,p1,hR1,hb1⟩;have HQ1:=Qaa (HQ.out.perm p1);have HM1:=Qaa hR1;have HB1:=Qaa (HB.out.trans hb1);clear p1 hR1 hb1;go_wp2_with fail;refine (Qk4 hl (a:=x) (b:=y) (by omega) (by omega) HM1.out).mono ?_;rintro e wp1 ⟨q,h,rfl,hq0,hq1,hh,hbp⟩;have HMp1:=Qaa (HM1.out.below HM1.out.lt.2 hbp);have HBp1:=Qaa (HB1.out.trans (hbp.mono (Nat.le_of_lt (Nat.lt_of_le_of_lt HM1.out.lt.1 HM1.out.lt.2))));clear hbp;have dh:(h == 2)=false:=ZZf.2 (by omega);clear hh;by_cases hx0:x=0
   ·have dx:decide ((0:Int)<(x:Int))=false:=ZZg (by omega)
    have dxN:decide (0<x)=false:=ZZg (by omega);clear hx0;go_wp2
    go_quiet (first | (go_at_call 334;refine Calls.quiet_of_same (Qat _ _ _)))
    go_wp2_with fail;generalize hwz:wp1.drewN nq=W2;have HMz2:Hid (RowU W2 B g n c M1):=by rw [<- hwz];exact HMp1.out.drews _
    have HBz2:Hid (Below B w W2):=by rw [<- hwz];exact Qah HBp1.out _
    clear hwz;refine (Qdi hl hq0 hq1 (by omega) HMz2.out).mono ?_;rintro e w2 ⟨m,z,rfl,M2,hpo,hR2,hb2⟩;have HPO:=Qaa hpo;have bm:x<=m/\m<y:=⟨hpo.am,hpo.mb⟩;have HM2:=Qaa hR2;have HB2:=Qaa (HBz2.out.trans hb2);clear hpo hR2 hb2;obtain ⟨l1,el1⟩:∃ l1,l1=m - x:=⟨_,rfl⟩;obtain ⟨l2,el2⟩:∃ l2,l2=y - m:=⟨_,rfl⟩;obtain ⟨l3,el3⟩:∃ l3,l3=l / 8:=⟨_,rfl⟩;have f1:(m:Int) - (x:Int)=(l1:Int):=by omega
    have f2:(y:Int) - (m:Int)=(l2:Int):=by omega
    have f3:(l:Int).tdiv 8=(l3:Int):=by rw [Int.tdiv_eq_ediv_of_nonneg (by omega)];omega
    have v1:IntKind.i64.wrap (l1:Int)=l1:=ZZi _ ⟨by omega,by omega⟩;have v2:IntKind.i64.wrap (l2:Int)=l2:=ZZi _ ⟨by omega,by omega⟩;have v3:IntKind.i64.wrap (l3:Int)=l3:=ZZi _ ⟨by omega,by omega⟩;have vm:IntKind.i64.wrap ((m:Int)+1)=(m:Int)+1:=ZZi _ ⟨by omega,by omega⟩;have HE3:=Qaa (And.intro el1 (And.intro el2 el3));have hlN:l<=N:=by have:=HL.out;omega
    have HLL:=HL.out;have bl1:m - x<N/\y - (m+1)<N:=by omega
    have HBL:=Qaa bl1;clear HLL bl1 el1 el2 el3;by_cases hlr:l1<l2
    ·have dlr:decide ((l1:Int)<(l2:Int))=true:=ZZh (by omega)
     have dlrN:decide (l1<l2)=true:=ZZh hlr;go_wp2_with fail;refine (HIH.out (m - x) HBL.out.1 (li - 1) (ZZa _) hl bm.1 (by omega) (by omega) (by omega) (HQ1.out.perm HPO.out.perm).nd (HQ1.out.lowL HPO.out) HM2.out).mono ?_;rintro e w3 ⟨r,rfl,M3,p3,s3,hR3,hb3⟩;have HQ3:=Qaa (HQ1.out.left HPO.out p3 s3);have HM3:=Qaa hR3;have HB3:=Qaa (HB2.out.trans hb3);clear p3 s3 hR3 hb3;go_wp2;go_roundw
     case rel=>exact ⟨HB3.out,m+1,y,li - 1,_,z,M3,by go_num,rfl,rfl,rfl,rfl,by omega,by omega,HQ3,HM3⟩
     case measure=>first | (simp [Go.RowKit.intOf];done) | (simp [Go.RowKit.intOf];omega)
    ·have dlr:decide ((l1:Int)<(l2:Int))=false:=ZZg (by omega)
     have dlrN:decide (l1<l2)=false:=ZZg hlr;go_wp2_with fail;refine (HIH.out (y - (m+1)) HBL.out.2 (a:=m+1) (b:=y) (li - 1) (ZZa _) hl (by omega) (by omega) (by omega) (by omega) (HQ1.out.perm HPO.out.perm).nd HPO.out.lowR HM2.out).mono ?_;rintro e w3 ⟨r,rfl,M3,p3,s3,hR3,hb3⟩;have HQ3:=Qaa (HQ1.out.right HPO.out p3 s3);have HM3:=Qaa hR3;have HB3:=Qaa (HB2.out.trans hb3);clear p3 s3 hR3 hb3;go_wp2;go_roundw
     case rel=>exact ⟨HB3.out,x,m,li - 1,_,z,M3,rfl,rfl,rfl,rfl,rfl,by omega,by omega,HQ3,HM3⟩
     case measure=>first | (simp [Go.RowKit.intOf];done) | (simp [Go.RowKit.intOf];omega)
   ·have dx:decide ((0:Int)<(x:Int))=true:=ZZh (by omega)
    have dxN:decide (0<x)=true:=ZZh (by omega);obtain ⟨x1,ex1⟩:∃ x1,x1=x - 1:=⟨_,rfl⟩;have ex:(x:Int) - 1=(x1:Int):=by omega
    have ux:IntKind.i64.wrap (x1:Int)=x1:=ZZi _ ⟨by omega,by omega⟩;obtain ⟨vx,hvx⟩:∃ v,v=M1[x1]!:=⟨_,rfl⟩;obtain ⟨vq,hvq⟩:∃ v,v=M1[q]!:=⟨_,rfl⟩;have bx1:x1<n:=by omega
    have bq1:q<n:=by omega
    have hcx:=HMp1.out.cell bx1 hvx;have hcq:=HMp1.out.cell bq1 hvq;have dl:decide (vx<vq)=true:=decide_eq_true (by rw [hvx,hvq,ex1];exact HQ1.out.less (by omega) hq0 hq1);clear ex1 hvx hvq hx0;go_wp2
    go_quiet (first | (go_at_call 334;refine Calls.quiet_of_same (Qat _ _ _)))
    go_wp2_with fail;generalize hwz:wp1.drewN nq=W3;have HMz3:Hid (RowU W3 B g n c M1):=by rw [<- hwz];exact HMp1.out.drews _
    have HBz3:Hid (Below B w W3):=by rw [<- hwz];exact Qah HBp1.out _
    clear hwz
    try simp only [dl]
    clear dl hcx hcq;refine (Qdi hl hq0 hq1 (by omega) HMz3.out).mono ?_;rintro e w2 ⟨m,z,rfl,M2,hpo,hR2,hb2⟩;have HPO:=Qaa hpo;have bm:x<=m/\m<y:=⟨hpo.am,hpo.mb⟩;have HM2:=Qaa hR2;have HB2:=Qaa (HBz3.out.trans hb2);clear hpo hR2 hb2;obtain ⟨l1,el1⟩:∃ l1,l1=m - x:=⟨_,rfl⟩;obtain ⟨l2,el2⟩:∃ l2,l2=y - m:=⟨_,rfl⟩;obtain ⟨l3,el3⟩:∃ l3,l3=l / 8:=⟨_,rfl⟩;have f1:(m:Int) - (x:Int)=(l1:Int):=by omega
    have f2:(y:Int) - (m:Int)=(l2:Int):=by omega
    have f3:(l:Int).tdiv 8=(l3:Int):=by rw [Int.tdiv_eq_ediv_of_nonneg (by omega)];omega
    have v1:IntKind.i64.wrap (l1:Int)=l1:=ZZi _ ⟨by omega,by omega⟩;have v2:IntKind.i64.wrap (l2:Int)=l2:=ZZi _ ⟨by omega,by omega⟩;have v3:IntKind.i64.wrap (l3:Int)=l3:=ZZi _ ⟨by omega,by omega⟩;have vm:IntKind.i64.wrap ((m:Int)+1)=(m:Int)+1:=ZZi _ ⟨by omega,by omega⟩;have HE3:=Qaa (And.intro el1 (And.intro el2 el3));have hlN:l<=N:=by have:=HL.out;omega
    have HLL:=HL.out;have bl1:m - x<N/\y - (m+1)<N:=by omega
    have HBL:=Qaa bl1;clear HLL bl1 el1 el2 el3;by_cases hlr:l1<l2
    ·have dlr:decide ((l1:Int)<(l2:Int))=true:=ZZh (by omega)
     have dlrN:decide (l1<l2)=true:=ZZh hlr;go_wp2_with fail;refine (HIH.out (m - x) HBL.out.1 (li - 1) (ZZa _) hl bm.1 (by omega) (by omega) (by omega) (HQ1.out.perm HPO.out.perm).nd (HQ1.out.lowL HPO.out) HM2.out).mono ?_;rintro e w3 ⟨r,rfl,M3,p3,s3,hR3,hb3⟩;have HQ3:=Qaa (HQ1.out.left HPO.out p3 s3);have HM3:=Qaa hR3;have HB3:=Qaa (HB2.out.trans hb3);clear p3 s3 hR3 hb3;go_wp2;go_roundw
     case rel=>exact ⟨HB3.out,m+1,y,li - 1,_,z,M3,by go_num,rfl,rfl,rfl,rfl,by omega,by omega,HQ3,HM3⟩
     case measure=>first | (simp [Go.RowKit.intOf];done) | (simp [Go.RowKit.intOf];omega)
    ·have dlr:decide ((l1:Int)<(l2:Int))=false:=ZZg (by omega)
     have dlrN:decide (l1<l2)=false:=ZZg hlr;go_wp2_with fail;refine (HIH.out (y - (m+1)) HBL.out.2 (a:=m+1) (b:=y) (li - 1) (ZZa _) hl (by omega) (by omega) (by omega) (by omega) (HQ1.out.perm HPO.out.perm).nd HPO.out.lowR HM2.out).mono ?_;rintro e w3 ⟨r,rfl,M3,p3,s3,hR3,hb3⟩;have HQ3:=Qaa (HQ1.out.right HPO.out p3 s3);have HM3:=Qaa hR3;have HB3:=Qaa (HB2.out.trans hb3);clear p3 s3 hR3 hb3;go_wp2;go_roundw
     case rel=>exact ⟨HB3.out,x,m,li - 1,_,z,M3,rfl,rfl,rfl,rfl,rfl,by omega,by omega,HQ3,HM3⟩
     case measure=>first | (simp [Go.RowKit.intOf];done) | (simp [Go.RowKit.intOf];omega)
  | true=>
   go_wp2_with fail;refine (Qk4 hl (a:=x) (b:=y) (by omega) (by omega) HM.out).mono ?_;rintro e wp4 ⟨q,h,rfl,hq0,hq1,hh,hbp⟩;have HMp4:=Qaa (HM.out.below HM.out.lt.2 hbp);have HBp4:=Qaa (HB.out.trans (hbp.mono (Nat.le_of_lt (Nat.lt_of_le_of_lt HM.out.lt.1 HM.out.lt.2))));clear hbp;have dh:(h == 2)=false:=ZZf.2 (by omega)
   cases q9 with
   | false=>
    clear hh;by_cases hx0:x=0
    ·have dx:decide ((0:Int)<(x:Int))=false:=ZZg (by omega)
     have dxN:decide (0<x)=false:=ZZg (by omega);clear hx0;go_wp2
     go_quiet (first | (go_at_call 334;refine Calls.quiet_of_same (Qat _ _ _)))
     go_wp2_with fail;generalize hwz:wp4.drewN nq=W5;have HMz5:Hid (RowU W5 B g n c M):=by rw [<- hwz];exact HMp4.out.drews _
     have HBz5:Hid (Below B w W5):=by rw [<- hwz];exact Qah HBp4.out _
     clear hwz;refine (Qdi hl hq0 hq1 (by omega) HMz5.out).mono ?_;rintro e w2 ⟨m,z,rfl,M2,hpo,hR2,hb2⟩;have HPO:=Qaa hpo;have bm:x<=m/\m<y:=⟨hpo.am,hpo.mb⟩;have HM2:=Qaa hR2;have HB2:=Qaa (HBz5.out.trans hb2);clear hpo hR2 hb2;obtain ⟨l1,el1⟩:∃ l1,l1=m - x:=⟨_,rfl⟩;obtain ⟨l2,el2⟩:∃ l2,l2=y - m:=⟨_,rfl⟩;obtain ⟨l3,el3⟩:∃ l3,l3=l / 8:=⟨_,rfl⟩;have f1:(m:Int) - (x:Int)=(l1:Int):=by omega
     have f2:(y:Int) - (m:Int)=(l2:Int):=by omega
     have f3:(l:Int).tdiv 8=(l3:Int):=by rw [Int.tdiv_eq_ediv_of_nonneg (by omega)];omega
     have v1:IntKind.i64.wrap (l1:Int)=l1:=ZZi _ ⟨by omega,by omega⟩;have v2:IntKind.i64.wrap (l2:Int)=l2:=ZZi _ ⟨by omega,by omega⟩;have v3:IntKind.i64.wrap (l3:Int)=l3:=ZZi _ ⟨by omega,by omega⟩;have vm:IntKind.i64.wrap ((m:Int)+1)=(m:Int)+1:=ZZi _ ⟨by omega,by omega⟩;have HE3:=Qaa (And.intro el1 (And.intro el2 el3));have hlN:l<=N:=by have:=HL.out;omega
     have HLL:=HL.out;have bl1:m - x<N/\y - (m+1)<N:=by omega
     have HBL:=Qaa bl1;clear HLL bl1 el1 el2 el3;by_cases hlr:l1<l2
     ·have dlr:decide ((l1:Int)<(l2:Int))=true:=ZZh (by omega)
      have dlrN:decide (l1<l2)=true:=ZZh hlr;go_wp2_with fail;refine (HIH.out (m - x) HBL.out.1 (li) (ZZa _) hl bm.1 (by omega) (by omega) (by omega) (HQ.out.perm HPO.out.perm).nd (HQ.out.lowL HPO.out) HM2.out).mono ?_;rintro e w3 ⟨r,rfl,M3,p3,s3,hR3,hb3⟩;have HQ3:=Qaa (HQ.out.left HPO.out p3 s3);have HM3:=Qaa hR3;have HB3:=Qaa (HB2.out.trans hb3);clear p3 s3 hR3 hb3;go_wp2;go_roundw
      case rel=>exact ⟨HB3.out,m+1,y,li,_,z,M3,by go_num,rfl,rfl,rfl,rfl,by omega,by omega,HQ3,HM3⟩
      case measure=>first | (simp [Go.RowKit.intOf];done) | (simp [Go.RowKit.intOf];omega)
     ·have dlr:decide ((l1:Int)<(l2:Int))=false:=ZZg (by omega)
      have dlrN:decide (l1<l2)=false:=ZZg hlr;go_wp2_with fail;refine (HIH.out (y - (m+1)) HBL.out.2 (a:=m+1) (b:=y) (li) (ZZa _) hl (by omega) (by omega) (by omega) (by omega) (HQ.out.perm HPO.out.perm).nd HPO.out.lowR HM2.out).mono ?_;rintro e w3 ⟨r,rfl,M3,p3,s3,hR3,hb3⟩;have HQ3:=Qaa (HQ.out.right HPO.out p3 s3);have HM3:=Qaa hR3;have HB3:=Qaa (HB2.out.trans hb3);clear p3 s3 hR3 hb3;go_wp2;go_roundw
      case rel=>exact ⟨HB3.out,x,m,li,_,z,M3,rfl,rfl,rfl,rfl,rfl,by omega,by omega,HQ3,HM3⟩
      case measure=>first | (simp [Go.RowKit.intOf];done) | (simp [Go.RowKit.intOf];omega)
    ·have dx:decide ((0:Int)<(x:Int))=true:=ZZh (by omega)
     have dxN:decide (0<x)=true:=ZZh (by omega);obtain ⟨x1,ex1⟩:∃ x1,x1=x - 1:=⟨_,rfl⟩;have ex:(x:Int) - 1=(x1:Int):=by omega
     have ux:IntKind.i64.wrap (x1:Int)=x1:=ZZi _ ⟨by omega,by omega⟩;obtain ⟨vx,hvx⟩:∃ v,v=M[x1]!:=⟨_,rfl⟩;obtain ⟨vq,hvq⟩:∃ v,v=M[q]!:=⟨_,rfl⟩;have bx1:x1<n:=by omega
     have bq1:q<n:=by omega
     have hcx:=HMp4.out.cell bx1 hvx;have hcq:=HMp4.out.cell bq1 hvq;have dl:decide (vx<vq)=true:=decide_eq_true (by rw [hvx,hvq,ex1];exact HQ.out.less (by omega) hq0 hq1);clear ex1 hvx hvq hx0;go_wp2
     go_quiet (first | (go_at_call 334;refine Calls.quiet_of_same (Qat _ _ _)))
     go_wp2_with fail;generalize hwz:wp4.drewN nq=W6;have HMz6:Hid (RowU W6 B g n c M):=by rw [<- hwz];exact HMp4.out.drews _
     have HBz6:Hid (Below B w W6):=by rw [<- hwz];exact Qah HBp4.out _
     clear hwz
     try simp only [dl]
     clear dl hcx hcq;refine (Qdi hl hq0 hq1 (by omega) HMz6.out).mono ?_;rintro e w2 ⟨m,z,rfl,M2,hpo,hR2,hb2⟩;have HPO:=Qaa hpo;have bm:x<=m/\m<y:=⟨hpo.am,hpo.mb⟩;have HM2:=Qaa hR2;have HB2:=Qaa (HBz6.out.trans hb2);clear hpo hR2 hb2;obtain ⟨l1,el1⟩:∃ l1,l1=m - x:=⟨_,rfl⟩;obtain ⟨l2,el2⟩:∃ l2,l2=y - m:=⟨_,rfl⟩;obtain ⟨l3,el3⟩:∃ l3,l3=l / 8:=⟨_,rfl⟩;have f1:(m:Int) - (x:Int)=(l1:Int):=by omega
     have f2:(y:Int) - (m:Int)=(l2:Int):=by omega
     have f3:(l:Int).tdiv 8=(l3:Int):=by rw [Int.tdiv_eq_ediv_of_nonneg (by omega)];omega
     have v1:IntKind.i64.wrap (l1:Int)=l1:=ZZi _ ⟨by omega,by omega⟩;have v2:IntKind.i64.wrap (l2:Int)=l2:=ZZi _ ⟨by omega,by omega⟩;have v3:IntKind.i64.wrap (l3:Int)=l3:=ZZi _ ⟨by omega,by omega⟩;have vm:IntKind.i64.wrap ((m:Int)+1)=(m:Int)+1:=ZZi _ ⟨by omega,by omega⟩;have HE3:=Qaa (And.intro el1 (And.intro el2 el3));have hlN:l<=N:=by have:=HL.out;omega
     have HLL:=HL.out;have bl1:m - x<N/\y - (m+1)<N:=by omega
     have HBL:=Qaa bl1;clear HLL bl1 el1 el2 el3;by_cases hlr:l1<l2
     ·have dlr:decide ((l1:Int)<(l2:Int))=true:=ZZh (by omega)
      have dlrN:decide (l1<l2)=true:=ZZh hlr;go_wp2_with fail;refine (HIH.out (m - x) HBL.out.1 (li) (ZZa _) hl bm.1 (by omega) (by omega) (by omega) (HQ.out.perm HPO.out.perm).nd (HQ.out.lowL HPO.out) HM2.out).mono ?_;rintro e w3 ⟨r,rfl,M3,p3,s3,hR3,hb3⟩;have HQ3:=Qaa (HQ.out.left HPO.out p3 s3);have HM3:=Qaa hR3;have HB3:=Qaa (HB2.out.trans hb3);clear p3 s3 hR3 hb3;go_wp2;go_roundw
      case rel=>exact ⟨HB3.out,m+1,y,li,_,z,M3,by go_num,rfl,rfl,rfl,rfl,by omega,by omega,HQ3,HM3⟩
      case measure=>first | (simp [Go.RowKit.intOf];done) | (simp [Go.RowKit.intOf];omega)
     ·have dlr:decide ((l1:Int)<(l2:Int))=false:=ZZg (by omega)
      have dlrN:decide (l1<l2)=false:=ZZg hlr;go_wp2_with fail;refine (HIH.out (y - (m+1)) HBL.out.2 (a:=m+1) (b:=y) (li) (ZZa _) hl (by omega) (by omega) (by omega) (by omega) (HQ.out.perm HPO.out.perm).nd HPO.out.lowR HM2.out).mono ?_;rintro e w3 ⟨r,rfl,M3,p3,s3,hR3,hb3⟩;have HQ3:=Qaa (HQ.out.right HPO.out p3 s3);have HM3:=Qaa hR3;have HB3:=Qaa (HB2.out.trans hb3);clear p3 s3 hR3 hb3;go_wp2;go_roundw
      case rel=>exact ⟨HB3.out,x,m,li,_,z,M3,rfl,rfl,rfl,rfl,rfl,by omega,by omega,HQ3,HM3⟩
      case measure=>first | (simp [Go.RowKit.intOf];done) | (simp [Go.RowKit.intOf];omega)
   | true=>
    rcases hh with rfl | rfl
    ·clear dh
     by_cases hx0:x=0
     ·have dx:decide ((0:Int)<(x:Int))=false:=ZZg (by omega)
      have dxN:decide (0<x)=false:=ZZg (by omega);clear hx0;go_wp2
      go_quiet (first | (go_at_call 334;refine Calls.quiet_of_same (Qat _ _ _)))
      go_wp2_with fail;generalize hwz:wp4.drewN nq=W7;have HMz7:Hid (RowU W7 B g n c M):=by rw [<- hwz];exact HMp4.out.drews _
      have HBz7:Hid (Below B w W7):=by rw [<- hwz];exact Qah HBp4.out _
      clear hwz;refine (Qdi hl hq0 hq1 (by omega) HMz7.out).mono ?_;rintro e w2 ⟨m,z,rfl,M2,hpo,hR2,hb2⟩;have HPO:=Qaa hpo;have bm:x<=m/\m<y:=⟨hpo.am,hpo.mb⟩;have HM2:=Qaa hR2;have HB2:=Qaa (HBz7.out.trans hb2);clear hpo hR2 hb2;obtain ⟨l1,el1⟩:∃ l1,l1=m - x:=⟨_,rfl⟩;obtain ⟨l2,el2⟩:∃ l2,l2=y - m:=⟨_,rfl⟩;obtain ⟨l3,el3⟩:∃ l3,l3=l / 8:=⟨_,rfl⟩;have f1:(m:Int) - (x:Int)=(l1:Int):=by omega
      have f2:(y:Int) - (m:Int)=(l2:Int):=by omega
      have f3:(l:Int).tdiv 8=(l3:Int):=by rw [Int.tdiv_eq_ediv_of_nonneg (by omega)];omega
      have v1:IntKind.i64.wrap (l1:Int)=l1:=ZZi _ ⟨by omega,by omega⟩;have v2:IntKind.i64.wrap (l2:Int)=l2:=ZZi _ ⟨by omega,by omega⟩;have v3:IntKind.i64.wrap (l3:Int)=l3:=ZZi _ ⟨by omega,by omega⟩;have vm:IntKind.i64.wrap ((m:Int)+1)=(m:Int)+1:=ZZi _ ⟨by omega,by omega⟩;have HE3:=Qaa (And.intro el1 (And.intro el2 el3));have hlN:l<=N:=by have:=HL.out;omega
      have HLL:=HL.out;have bl1:m - x<N/\y - (m+1)<N:=by omega
      have HBL:=Qaa bl1;clear HLL bl1 el1 el2 el3;by_cases hlr:l1<l2
      ·have dlr:decide ((l1:Int)<(l2:Int))=true:=ZZh (by omega)
       have dlrN:decide (l1<l2)=true:=ZZh hlr;go_wp2_with fail;refine (HIH.out (m - x) HBL.out.1 (li) (ZZa _) hl bm.1 (by omega) (by omega) (by omega) (HQ.out.perm HPO.out.perm).nd (HQ.out.lowL HPO.out) HM2.out).mono ?_;rintro e w3 ⟨r,rfl,M3,p3,s3,hR3,hb3⟩;have HQ3:=Qaa (HQ.out.left HPO.out p3 s3);have HM3:=Qaa hR3;have HB3:=Qaa (HB2.out.trans hb3);clear p3 s3 hR3 hb3;go_wp2;go_roundw
       case rel=>exact ⟨HB3.out,m+1,y,li,_,z,M3,by go_num,rfl,rfl,rfl,rfl,by omega,by omega,HQ3,HM3⟩
       case measure=>first | (simp [Go.RowKit.intOf];done) | (simp [Go.RowKit.intOf];omega)
      ·have dlr:decide ((l1:Int)<(l2:Int))=false:=ZZg (by omega)
       have dlrN:decide (l1<l2)=false:=ZZg hlr;go_wp2_with fail;refine (HIH.out (y - (m+1)) HBL.out.2 (a:=m+1) (b:=y) (li) (ZZa _) hl (by omega) (by omega) (by omega) (by omega) (HQ.out.perm HPO.out.perm).nd HPO.out.lowR HM2.out).mono ?_;rintro e w3 ⟨r,rfl,M3,p3,s3,hR3,hb3⟩;have HQ3:=Qaa (HQ.out.right HPO.out p3 s3);have HM3:=Qaa hR3;have HB3:=Qaa (HB2.out.trans hb3);clear p3 s3 hR3 hb3;go_wp2;go_roundw
       case rel=>exact ⟨HB3.out,x,m,li,_,z,M3,rfl,rfl,rfl,rfl,rfl,by omega,by omega,HQ3,HM3⟩
       case measure=>first | (simp [Go.RowKit.intOf];done) | (simp [Go.RowKit.intOf];omega)
     ·have dx:decide ((0:Int)<(x:Int))=true:=ZZh (by omega)
      have dxN:decide (0<x)=true:=ZZh (by omega);obtain ⟨x1,ex1⟩:∃ x1,x1=x - 1:=⟨_,rfl⟩;have ex:(x:Int) - 1=(x1:Int):=by omega
      have ux:IntKind.i64.wrap (x1:Int)=x1:=ZZi _ ⟨by omega,by omega⟩;obtain ⟨vx,hvx⟩:∃ v,v=M[x1]!:=⟨_,rfl⟩;obtain ⟨vq,hvq⟩:∃ v,v=M[q]!:=⟨_,rfl⟩;have bx1:x1<n:=by omega
      have bq1:q<n:=by omega
      have hcx:=HMp4.out.cell bx1 hvx;have hcq:=HMp4.out.cell bq1 hvq;have dl:decide (vx<vq)=true:=decide_eq_true (by rw [hvx,hvq,ex1];exact HQ.out.less (by omega) hq0 hq1);clear ex1 hvx hvq hx0;go_wp2
      go_quiet (first | (go_at_call 334;refine Calls.quiet_of_same (Qat _ _ _)))
      go_wp2_with fail;generalize hwz:wp4.drewN nq=W8;have HMz8:Hid (RowU W8 B g n c M):=by rw [<- hwz];exact HMp4.out.drews _
      have HBz8:Hid (Below B w W8):=by rw [<- hwz];exact Qah HBp4.out _
      clear hwz
      try simp only [dl]
      clear dl hcx hcq;refine (Qdi hl hq0 hq1 (by omega) HMz8.out).mono ?_;rintro e w2 ⟨m,z,rfl,M2,hpo,hR2,hb2⟩;have HPO:=Qaa hpo;have bm:x<=m/\m<y:=⟨hpo.am,hpo.mb⟩;have HM2:=Qaa hR2;have HB2:=Qaa (HBz8.out.trans hb2);clear hpo hR2 hb2;obtain ⟨l1,el1⟩:∃ l1,l1=m - x:=⟨_,rfl⟩;obtain ⟨l2,el2⟩:∃ l2,l2=y - m:=⟨_,rfl⟩;obtain ⟨l3,el3⟩:∃ l3,l3=l / 8:=⟨_,rfl⟩;have f1:(m:Int) - (x:Int)=(l1:Int):=by omega
      have f2:(y:Int) - (m:Int)=(l2:Int):=by omega
      have f3:(l:Int).tdiv 8=(l3:Int):=by rw [Int.tdiv_eq_ediv_of_nonneg (by omega)];omega
      have v1:IntKind.i64.wrap (l1:Int)=l1:=ZZi _ ⟨by omega,by omega⟩;have v2:IntKind.i64.wrap (l2:Int)=l2:=ZZi _ ⟨by omega,by omega⟩;have v3:IntKind.i64.wrap (l3:Int)=l3:=ZZi _ ⟨by omega,by omega⟩;have vm:IntKind.i64.wrap ((m:Int)+1)=(m:Int)+1:=ZZi _ ⟨by omega,by omega⟩;have HE3:=Qaa (And.intro el1 (And.intro el2 el3));have hlN:l<=N:=by have:=HL.out;omega
      have HLL:=HL.out;have bl1:m - x<N/\y - (m+1)<N:=by omega
      have HBL:=Qaa bl1;clear HLL bl1 el1 el2 el3;by_cases hlr:l1<l2
      ·have dlr:decide ((l1:Int)<(l2:Int))=true:=ZZh (by omega)
       have dlrN:decide (l1<l2)=true:=ZZh hlr;go_wp2_with fail;refine (HIH.out (m - x) HBL.out.1 (li) (ZZa _) hl bm.1 (by omega) (by omega) (by omega) (HQ.out.perm HPO.out.perm).nd (HQ.out.lowL HPO.out) HM2.out).mono ?_;rintro e w3 ⟨r,rfl,M3,p3,s3,hR3,hb3⟩;have HQ3:=Qaa (HQ.out.left HPO.out p3 s3);have HM3:=Qaa hR3;have HB3:=Qaa (HB2.out.trans hb3);clear p3 s3 hR3 hb3;go_wp2;go_roundw
       case rel=>exact ⟨HB3.out,m+1,y,li,_,z,M3,by go_num,rfl,rfl,rfl,rfl,by omega,by omega,HQ3,HM3⟩
       case measure=>first | (simp [Go.RowKit.intOf];done) | (simp [Go.RowKit.intOf];omega)
      ·have dlr:decide ((l1:Int)<(l2:Int))=false:=ZZg (by omega)
       have dlrN:decide (l1<l2)=false:=ZZg hlr;go_wp2_with fail;refine (HIH.out (y - (m+1)) HBL.out.2 (a:=m+1) (b:=y) (li) (ZZa _) hl (by omega) (by omega) (by omega) (by omega) (HQ.out.perm HPO.out.perm).nd HPO.out.lowR HM2.out).mono ?_;rintro e w3 ⟨r,rfl,M3,p3,s3,hR3,hb3⟩;have HQ3:=Qaa (HQ.out.right HPO.out p3 s3);have HM3:=Qaa hR3;have HB3:=Qaa (HB2.out.trans hb3);clear p3 s3 hR3 hb3;go_wp2;go_roundw
       case rel=>exact ⟨HB3.out,x,m,li,_,z,M3,rfl,rfl,rfl,rfl,rfl,by omega,by omega,HQ3,HM3⟩
       case measure=>first | (simp [Go.RowKit.intOf];done) | (simp [Go.RowKit.intOf];omega)
    ·clear dh
     go_wp2_with fail;refine (Qlv hl (a:=x) (b:=y) (by omega) (by omega) HMp4.out).mono ?_;rintro e wq9 ⟨z,rfl,hzs,mq,hwq⟩;have HMq9:Hid (RowU wq9 B g n c M):=by rw [hwq];exact HMp4.out.drews _
     have HBq9:Hid (Below B w wq9):=by rw [hwq];exact Qah HBp4.out _
     clear hwq
     cases z with
     | true=>
      have HF:=Qaa (HQ.out.fin M (permIn_refl _ _ _) (hzs rfl));clear hzs;go_wp2
      (try simp only [Exit.inBlock,Exit.then]);refine bodyPost_ret (results_none rfl _ _ _) rfl ?_
      exact ⟨_,rfl,M,HF.out.1,HF.out.2,HMq9.out,HBq9.out⟩
     | false=>
      clear hzs;by_cases hx0:x=0
      ·have dx:decide ((0:Int)<(x:Int))=false:=ZZg (by omega)
       have dxN:decide (0<x)=false:=ZZg (by omega);clear hx0;go_wp2
       go_quiet (first | (go_at_call 334;refine Calls.quiet_of_same (Qat _ _ _)))
       go_wp2_with fail;generalize hwz:wq9.drewN nq=W10;have HMz10:Hid (RowU W10 B g n c M):=by rw [<- hwz];exact HMq9.out.drews _
       have HBz10:Hid (Below B w W10):=by rw [<- hwz];exact Qah HBq9.out _
       clear hwz;refine (Qdi hl hq0 hq1 (by omega) HMz10.out).mono ?_;rintro e w2 ⟨m,z,rfl,M2,hpo,hR2,hb2⟩;have HPO:=Qaa hpo;have bm:x<=m/\m<y:=⟨hpo.am,hpo.mb⟩;have HM2:=Qaa hR2;have HB2:=Qaa (HBz10.out.trans hb2);clear hpo hR2 hb2;obtain ⟨l1,el1⟩:∃ l1,l1=m - x:=⟨_,rfl⟩;obtain ⟨l2,el2⟩:∃ l2,l2=y - m:=⟨_,rfl⟩;obtain ⟨l3,el3⟩:∃ l3,l3=l / 8:=⟨_,rfl⟩;have f1:(m:Int) - (x:Int)=(l1:Int):=by omega
       have f2:(y:Int) - (m:Int)=(l2:Int):=by omega
       have f3:(l:Int).tdiv 8=(l3:Int):=by rw [Int.tdiv_eq_ediv_of_nonneg (by omega)];omega
       have v1:IntKind.i64.wrap (l1:Int)=l1:=ZZi _ ⟨by omega,by omega⟩;have v2:IntKind.i64.wrap (l2:Int)=l2:=ZZi _ ⟨by omega,by omega⟩;have v3:IntKind.i64.wrap (l3:Int)=l3:=ZZi _ ⟨by omega,by omega⟩;have vm:IntKind.i64.wrap ((m:Int)+1)=(m:Int)+1:=ZZi _ ⟨by omega,by omega⟩;have HE3:=Qaa (And.intro el1 (And.intro el2 el3));have hlN:l<=N:=by have:=HL.out;omega
       have HLL:=HL.out;have bl1:m - x<N/\y - (m+1)<N:=by omega
       have HBL:=Qaa bl1;clear HLL bl1 el1 el2 el3;by_cases hlr:l1<l2
       ·have dlr:decide ((l1:Int)<(l2:Int))=true:=ZZh (by omega)
        have dlrN:decide (l1<l2)=true:=ZZh hlr;go_wp2_with fail;refine (HIH.out (m - x) HBL.out.1 (li) (ZZa _) hl bm.1 (by omega) (by omega) (by omega) (HQ.out.perm HPO.out.perm).nd (HQ.out.lowL HPO.out) HM2.out).mono ?_;rintro e w3 ⟨r,rfl,M3,p3,s3,hR3,hb3⟩;have HQ3:=Qaa (HQ.out.left HPO.out p3 s3);have HM3:=Qaa hR3;have HB3:=Qaa (HB2.out.trans hb3);clear p3 s3 hR3 hb3;go_wp2;go_roundw
        case rel=>exact ⟨HB3.out,m+1,y,li,_,z,M3,by go_num,rfl,rfl,rfl,rfl,by omega,by omega,HQ3,HM3⟩
        case measure=>first | (simp [Go.RowKit.intOf];done) | (simp [Go.RowKit.intOf];omega)
       ·have dlr:decide ((l1:Int)<(l2:Int))=false:=ZZg (by omega)
        have dlrN:decide (l1<l2)=false:=ZZg hlr;go_wp2_with fail;refine (HIH.out (y - (m+1)) HBL.out.2 (a:=m+1) (b:=y) (li) (ZZa _) hl (by omega) (by omega) (by omega) (by omega) (HQ.out.perm HPO.out.perm).nd HPO.out.lowR HM2.out).mono ?_;rintro e w3 ⟨r,rfl,M3,p3,s3,hR3,hb3⟩;have HQ3:=Qaa (HQ.out.right HPO.out p3 s3);have HM3:=Qaa hR3;have HB3:=Qaa (HB2.out.trans hb3);clear p3 s3 hR3 hb3;go_wp2;go_roundw
        case rel=>exact ⟨HB3.out,x,m,li,_,z,M3,rfl,rfl,rfl,rfl,rfl,by omega,by omega,HQ3,HM3⟩
        case measure=>first | (simp [Go.RowKit.intOf];done) | (simp [Go.RowKit.intOf];omega)
      ·have dx:decide ((0:Int)<(x:Int))=true:=ZZh (by omega)
       have dxN:decide (0<x)=true:=ZZh (by omega);obtain ⟨x1,ex1⟩:∃ x1,x1=x - 1:=⟨_,rfl⟩;have ex:(x:Int) - 1=(x1:Int):=by omega
       have ux:IntKind.i64.wrap (x1:Int)=x1:=ZZi _ ⟨by omega,by omega⟩;obtain ⟨vx,hvx⟩:∃ v,v=M[x1]!:=⟨_,rfl⟩;obtain ⟨vq,hvq⟩:∃ v,v=M[q]!:=⟨_,rfl⟩;have bx1:x1<n:=by omega
       have bq1:q<n:=by omega
       have hcx:=HMq9.out.cell bx1 hvx;have hcq:=HMq9.out.cell bq1 hvq;have dl:decide (vx<vq)=true:=decide_eq_true (by rw [hvx,hvq,ex1];exact HQ.out.less (by omega) hq0 hq1);clear ex1 hvx hvq hx0;go_wp2
       go_quiet (first | (go_at_call 334;refine Calls.quiet_of_same (Qat _ _ _)))
       go_wp2_with fail;generalize hwz:wq9.drewN nq=W11;have HMz11:Hid (RowU W11 B g n c M):=by rw [<- hwz];exact HMq9.out.drews _
       have HBz11:Hid (Below B w W11):=by rw [<- hwz];exact Qah HBq9.out _
       clear hwz
       try simp only [dl]
       clear dl hcx hcq;refine (Qdi hl hq0 hq1 (by omega) HMz11.out).mono ?_;rintro e w2 ⟨m,z,rfl,M2,hpo,hR2,hb2⟩;have HPO:=Qaa hpo;have bm:x<=m/\m<y:=⟨hpo.am,hpo.mb⟩;have HM2:=Qaa hR2;have HB2:=Qaa (HBz11.out.trans hb2);clear hpo hR2 hb2;obtain ⟨l1,el1⟩:∃ l1,l1=m - x:=⟨_,rfl⟩;obtain ⟨l2,el2⟩:∃ l2,l2=y - m:=⟨_,rfl⟩;obtain ⟨l3,el3⟩:∃ l3,l3=l / 8:=⟨_,rfl⟩;have f1:(m:Int) - (x:Int)=(l1:Int):=by omega
       have f2:(y:Int) - (m:Int)=(l2:Int):=by omega
       have f3:(l:Int).tdiv 8=(l3:Int):=by rw [Int.tdiv_eq_ediv_of_nonneg (by omega)];omega
       have v1:IntKind.i64.wrap (l1:Int)=l1:=ZZi _ ⟨by omega,by omega⟩;have v2:IntKind.i64.wrap (l2:Int)=l2:=ZZi _ ⟨by omega,by omega⟩;have v3:IntKind.i64.wrap (l3:Int)=l3:=ZZi _ ⟨by omega,by omega⟩;have vm:IntKind.i64.wrap ((m:Int)+1)=(m:Int)+1:=ZZi _ ⟨by omega,by omega⟩;have HE3:=Qaa (And.intro el1 (And.intro el2 el3));have hlN:l<=N:=by have:=HL.out;omega
       have HLL:=HL.out;have bl1:m - x<N/\y - (m+1)<N:=by omega
       have HBL:=Qaa bl1;clear HLL bl1 el1 el2 el3;by_cases hlr:l1<l2
       ·have dlr:decide ((l1:Int)<(l2:Int))=true:=ZZh (by omega)
        have dlrN:decide (l1<l2)=true:=ZZh hlr;go_wp2_with fail;refine (HIH.out (m - x) HBL.out.1 (li) (ZZa _) hl bm.1 (by omega) (by omega) (by omega) (HQ.out.perm HPO.out.perm).nd (HQ.out.lowL HPO.out) HM2.out).mono ?_;rintro e w3 ⟨r,rfl,M3,p3,s3,hR3,hb3⟩;have HQ3:=Qaa (HQ.out.left HPO.out p3 s3);have HM3:=Qaa hR3;have HB3:=Qaa (HB2.out.trans hb3);clear p3 s3 hR3 hb3;go_wp2;go_roundw
        case rel=>exact ⟨HB3.out,m+1,y,li,_,z,M3,by go_num,rfl,rfl,rfl,rfl,by omega,by omega,HQ3,HM3⟩
        case measure=>first | (simp [Go.RowKit.intOf];done) | (simp [Go.RowKit.intOf];omega)
       ·have dlr:decide ((l1:Int)<(l2:Int))=false:=ZZg (by omega)
        have dlrN:decide (l1<l2)=false:=ZZg hlr;go_wp2_with fail;refine (HIH.out (y - (m+1)) HBL.out.2 (a:=m+1) (b:=y) (li) (ZZa _) hl (by omega) (by omega) (by omega) (by omega) (HQ.out.perm HPO.out.perm).nd HPO.out.lowR HM2.out).mono ?_;rintro e w3 ⟨r,rfl,M3,p3,s3,hR3,hb3⟩;have HQ3:=Qaa (HQ.out.right HPO.out p3 s3);have HM3:=Qaa hR3;have HB3:=Qaa (HB2.out.trans hb3);clear p3 s3 hR3 hb3;go_wp2;go_roundw
        case rel=>exact ⟨HB3.out,x,m,li,_,z,M3,rfl,rfl,rfl,rfl,rfl,by omega,by omega,HQ3,HM3⟩
        case measure=>first | (simp [Go.RowKit.intOf];done) | (simp [Go.RowKit.intOf];omega)
theorem QqM {w:World} {B g n c:Nat} {D:Array Int} (hl:n<=40) (h1:1<=n) (hnd:D.toList.Nodup) (hR:RowU w B g n c D) :
  Calls Tryz.prog 323 #[.slice (some ⟨g,0,none⟩) n c] w fun e w'=>∃ r,e=.returned r/\∃ M:Array Int,M.toList.Perm D.toList/\SortedIn ltInt 0 n M/\RowU w' B g n c M/\Below B w w':=by
 have HR:=Qaa hR;have hDn:D.size=n:=hR.1;have u1:IntKind.u64.wrap (n:Int)=n:=IntWalk.u64_in _ ⟨by omega,by omega⟩;clear hR;go_enter Tryz.func323,Tryz.ntmps323;go_wp2_with fail;refine (Qg2 n h1 hl _).mono ?_;rintro e w1 ⟨v,rfl,hv,hw⟩;obtain rfl:=hw.symm;have hv6:=hv.1;clear hw hv;go_wp2_with fail;refine (c_pdqU n (a:=0) (b:=n) (v:Int) (by omega) hl (ZZj _) (ZZa _) (by omega) (by omega) hnd (.inl rfl) HR.out).mono ?_;rintro e w2 ⟨r,rfl,M,p1,s1,hR1,hb1⟩;have HF:=Qaa (And.intro (QeJ p1 (by omega)) (And.intro s1 (And.intro hR1 hb1)));clear p1 s1 hR1 hb1;go_wp2
 go_end0
 exact ⟨_,rfl,M,HF.out.1,HF.out.2.1,HF.out.2.2.1,HF.out.2.2.2⟩
end Go.Proofs.YthchmdmncmioiaaGreatDoor
