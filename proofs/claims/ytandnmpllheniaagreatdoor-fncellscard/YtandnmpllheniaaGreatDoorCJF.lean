/-
 Parts.
-/
import Derived.Test.YtandnmpllheniaaGreatDoorCJA
import Derived.Sort.AssemblyPlain
import Derived.Sort.Row
set_option linter.all false
set_option maxHeartbeats 16000000
set_option maxRecDepth 10000
namespace Go.Proofs.YtandnmpllheniaaGreatDoor
open Go.ChangeShapes Go.WideShapes Go.ChangeAt Go.RowKit Go.PlainAid
open Go.Sort (swp ltInt PermIn SortedIn)
theorem QoG (x:Int) (w:World) :
  Calls Tryz.prog 340 #[.int .u64 x] w fun e w'=>e=.returned (.bool false)/\w'=w:=by
 go_enter Tryz.func340,Tryz.ntmps340;go_wp2;go_ret;exact ⟨rfl,rfl⟩
theorem Qav (x y:Int) (w:World) :
  Calls Tryz.prog 334 #[.int .u64 x,.int .u64 y] w fun e w'=>e=.returned (.bool (decide (x<y)))/\w'=w:=by
 go_enter Tryz.func334,Tryz.ntmps334;go_wp2_with (go_at_call 340;refine (QoG _ _).mono ?_;rintro e w2 ⟨rfl,hw⟩;obtain rfl:=hw.symm);go_ret;exact ⟨rfl,rfl⟩
def RowU (w:World) (B g n c:Nat) (D:Array Int):Prop:=D.size=n/\w.ownsRow B 26 1 (.slice (some ⟨g,0,none⟩) n c) n (D.toList.map (Value.int .u64))
theorem RowU.cell {w:World} {B g n c k:Nat} {D:Array Int} {x:Int} (h:RowU w B g n c D) (hk:k<n) (hx:x=D[k]!):w.cell? ⟨g,k,none⟩=some (.int .u64 x):=by
 have hs:=h.1;rw [h.2.cellAt k (by omega),hx,getElem!_pos D k (by omega)];simp [hs,hk]
theorem RowU.froz {w:World} {B g n c:Nat} {D:Array Int} (h:RowU w B g n c D) (k:Nat):w.frozen? ⟨g,k,none⟩=false:=h.2.frozenAt k
theorem RowU.drews {w:World} {B g n c:Nat} {D:Array Int} (h:RowU w B g n c D) (m:Nat):RowU (w.drewN m) B g n c D:=h
theorem RowU.lt {w:World} {B g n c:Nat} {D:Array Int} (h:RowU w B g n c D):B<=g/\g<w.heap.size:=by
 rcases h.2.2 with ⟨e,_⟩ | ⟨g',c',aa,e,h1,h2,_⟩
 ·cases e
 ·cases e;exact ⟨h1,(ZZc.1 h2).1⟩
theorem RowU.swap {w:World} {B g n c i j:Nat} {D:Array Int} {x y:Int} (h:RowU w B g n c D) (hx:x=D[i]!) (hy:y=D[j]!) (m:Nat) :
  RowU (((w.drewN m).setCell ⟨g,i,none⟩ (.int .u64 y)).setCell ⟨g,j,none⟩ (.int .u64 x)) B g n c (swp D i j):=by
 subst hx hy;have o1:=((h.drews m).2).stored i (.int .u64 D[j]!);have o2:=(o1.1).stored j (.int .u64 D[i]!);refine ⟨by simp [swp,h.1],?_⟩
 have e:((D.toList.map (Value.int .u64)).set i (.int .u64 D[j]!)).set j (.int .u64 D[i]!)=(swp D i j).toList.map (Value.int .u64):=by
  simp only [swp,Array.toList_setIfInBounds,List.map_set]
 rw [<- e];exact o2.1
theorem RowU.below {w w':World} {B K g n c:Nat} {D:Array Int} (h:RowU w B g n c D) (hg:g<K) (hb:Below K w w'):RowU w' B g n c D:=by
 refine ⟨h.1,h.2.1,?_⟩;rcases h.2.2 with h | ⟨g',ab,aa,e,h1,h2,h3⟩
 ·exact .inl h
 ·cases e;exact .inr ⟨g,c,aa,rfl,h1,by rw [hb.block g hg];exact h2,h3⟩
theorem RowU.bel {w w':World} {B g n c i j:Nat} {D:Array Int} {x y:Value} (h:RowU w' B g n c D) (hb:Below B w w') (m:Nat):Below B w (((w'.drewN m).setCell ⟨g,i,none⟩ x).setCell ⟨g,j,none⟩ y):=
 ((Qah hb _).setCell h.lt.1 _).setCell h.lt.1 _
theorem RowU.cellS {w:World} {B g n c i j:Nat} {D:Array Int} {y:Int} (h:RowU w B g n c D) (hj:j<n) (hy:y=D[j]!):(w.setCell ⟨g,i,none⟩ (.int .u64 y)).cell? ⟨g,j,none⟩=some (.int .u64 y):=by
 have o1:=(h.2.stored i (.int .u64 y)).1;have hs:=h.1;rw [o1.cellAt j (by omega)];by_cases e:i=j
 ·subst e
  rw [List.getElem?_set_self (by simp;omega)]
 ·rw [List.getElem?_set_ne e,hy,getElem!_pos D j (by omega)]
  simp [hs,hj]
theorem Qpj {a j:Nat} {d:Array Int} (h:j<=a):Go.Sort.insInner ltInt a j d=d:=by
 cases j with
 | zero=>rfl
 | succ j=>rw [Go.Sort.insInner,if_neg (by simp;omega)]
theorem QpV {a j:Nat} {d:Array Int} {x y:Int} (hx:x=d[j]!) (hy:y=d[j+1]!) (h:¬ y<x):Go.Sort.insInner ltInt a (j+1) d=d:=by
 rw [Go.Sort.insInner,if_neg (by simp only [ltInt,<- hx,<- hy];simp;omega)]
theorem QpB {a j:Nat} {d:Array Int} {x y:Int} (hx:x=d[j]!) (hy:y=d[j+1]!) (ha:a<j+1) (h:y<x):Go.Sort.insInner ltInt a (j+1) d=Go.Sort.insInner ltInt a j (swp d (j+1) j):=by
 rw [Go.Sort.insInner,if_pos (by simp only [ltInt,<- hx,<- hy];simp;omega)]
theorem Qph {a b i:Nat} {d:Array Int} (h:i<b):Go.Sort.insOuter ltInt a b i d=Go.Sort.insOuter ltInt a b (i+1) (Go.Sort.insInner ltInt a i d):=by
 rw [Go.Sort.insOuter,if_pos h]
theorem QpO {a b i:Nat} {d:Array Int} (h:¬ i<b):Go.Sort.insOuter ltInt a b i d=d:=by
 rw [Go.Sort.insOuter,if_neg h]
theorem c_insU {w:World} {B g n c a b:Nat} {D:Array Int} (hl:n<=40) (hab:a<=b) (hbn:b<=n) (hR:RowU w B g n c D) :
  Calls Tryz.prog 328 #[.slice (some ⟨g,0,none⟩) n c,.int .i64 a,.int .i64 b] w fun e w'=>∃ r,e=.returned r/\∃ M:Array Int,PermIn a b D M/\SortedIn ltInt a b M/\RowU w' B g n c M/\Below B w w':=by
 have HI:=Qaa (Go.Sort.insertionSort_holds (lt:=ltInt) Go.Sort.swo_ltInt D a b hab (by rw [hR.1];exact hbn));have HR:=Qaa hR;clear hR;generalize hX:Go.Sort.insertionSort ltInt D a b=X at HI;have HX:Hid (X=Go.Sort.insOuter ltInt a b (a+1) D):=hX.symm;clear hX;go_enter Tryz.func328,Tryz.ntmps328;go_wp2
 go_loopw [6] (fun vi wr=>Below B w wr/\∃ (i:Nat) (M:Array Int),vi=.int .i64 i/\a<i/\i<=n+1/\Hid (X=Go.Sort.insOuter ltInt a b i M)/\Hid (RowU wr B g n c M)) (fun vi wr=>n - (Go.RowKit.intOf vi).toNat)
 case atStart=>exact ⟨ZZb _ _,a+1,D,by go_num,Nat.lt_succ_self _,by omega,HX,HR⟩
 case round=>
  obtain ⟨ae,i,M,rfl,ap,ao,HO,HM⟩:=hrel;have HB:=Qaa ae;clear ae HX HR;by_cases aj:i<b
  ·have ag:Hid (X=Go.Sort.insOuter ltInt a b (i+1) (Go.Sort.insInner ltInt a i M)):=HO.out.trans (Qph aj)
   clear HO;go_wp2
   go_loopw [7] (fun vj wr2=>Below B w wr2/\∃ (j:Nat) (N:Array Int),vj=.int .i64 j/\a<=j/\j<=i/\Hid (X=Go.Sort.insOuter ltInt a b (i+1) (Go.Sort.insInner ltInt a j N))/\Hid (RowU wr2 B g n c N)) (fun vj wr2=>(Go.RowKit.intOf vj).toNat)
   case atStart=>exact ⟨HB,i,M,rfl,by omega,ZZa _,ag,HM⟩
   case round=>
    obtain ⟨aa,j,N,rfl,ar,au,ad,ab⟩:=hrel;have ah:=Qaa aa;clear aa;by_cases ak:j=a
    ·subst ak
     have ac:Hid (X=Go.Sort.insOuter ltInt j b (i+1) N):=by have:=ad.out;rw [Qpj (Nat.le_refl _)] at this;exact this
     go_wp2
     go_quiet (first | (go_at_call 334;refine Calls.quiet_of_same (Qav _ _ _)))
     go_wp2;go_roundw
     case rel=>exact ⟨Qah ah _,i+1,N,by go_num,by omega,by omega,ac,(ab.out.drews _:_)⟩
     case measure=>simp [zI];omega
    ·obtain ⟨k,rfl⟩:∃ k,j=k+1:=⟨j - 1,by omega⟩
     obtain ⟨x,hx⟩:∃ x,x=N[k]!:=⟨_,rfl⟩;obtain ⟨y,hy⟩:∃ y,y=N[k+1]!:=⟨_,rfl⟩;have am:=ab.out.cell (k:=k) (by omega) hx;have al:=ab.out.cell (k:=k+1) (by omega) hy;have aq:=ab.out.froz k;have an:=ab.out.froz (k+1);have e1:((k+1:Nat):Int) - 1=(k:Int):=by omega
     have ew:IntKind.i64.wrap (k:Int)=k:=ZZi _ ⟨by omega,by omega⟩;have g1:(a:Int)<(k:Int)+1:=by omega
     have g2:¬ (k:Int)+1<=(a:Int):=by omega
     have ai:=Qaa (And.intro hx hy);by_cases af:y<x
     ·have d1:decide (y<x)=true:=ZZh af
      have ac:Hid (X=Go.Sort.insOuter ltInt a b (i+1) (Go.Sort.insInner ltInt a k (swp N (k+1) k))):=by have:=ad.out;rw [QpB hx hy (by omega) af] at this;exact this
      clear hx hy ad;go_wp2
      go_quiet (first | (go_at_call 334;refine Calls.quiet_of_same (Qav _ _ _)))
      go_wp2;go_region
      all_goals go_wp2
      go_roundw
      case rel=>exact ⟨ab.out.bel ah _,k,swp N (k+1) k,rfl,by omega,by omega,ac,(ab.out.swap ai.out.2 ai.out.1 _:_)⟩
      case measure=>simp [zI]
     ·have d1:decide (y<x)=false:=ZZg af
      have ac:Hid (X=Go.Sort.insOuter ltInt a b (i+1) N):=by have:=ad.out;rw [QpV hx hy af] at this;exact this
      clear hx hy ad;go_wp2
      go_quiet (first | (go_at_call 334;refine Calls.quiet_of_same (Qav _ _ _)))
      go_wp2;go_roundw
      case rel=>exact ⟨Qah ah _,i+1,N,by go_num,by omega,by omega,ac,(ab.out.drews _:_)⟩
      case measure=>simp [zI];omega
  ·have ag:Hid (X=M):=HO.out.trans (QpO aj)
   clear HO;go_wp2
   go_end0
   exact ⟨_,rfl,M,by rw [<- ag.out];exact HI.out.1,by rw [<- ag.out];exact HI.out.2,HM,HB⟩
theorem QpU {hi first root:Nat} {d:Array Int} (h:2*root+1 ≥ hi):Go.Sort.siftDown ltInt hi first root d=d:=by
 rw [Go.Sort.siftDown,dif_pos h]
theorem Qmb {hi first root:Nat} {d:Array Int} {r x y:Int} (h:¬ 2*root+1 ≥ hi) (hr:r=d[first+root]!) (hx:x=d[first+(2*root+1)]!) (hy:y=d[first+(2*root+1)+1]!) (h1:2*root+2<hi) (h2:x<y) :
  (¬ r<y->Go.Sort.siftDown ltInt hi first root d=d)/\(r<y->Go.Sort.siftDown ltInt hi first root d=Go.Sort.siftDown ltInt hi first (2*root+2) (swp d (first+root) (first+(2*root+2)))):=by
 have c1:(decide (2*root+1+1<hi) && ltInt d[first+(2*root+1)]! d[first+(2*root+1)+1]!)=true:=by rw [<- hx,<- hy];simp [ltInt];omega
 have e2:d[first+(2*root+2)]! = y:=by rw [hy];rfl
 constructor
 ·intro h3
  rw [Go.Sort.siftDown,dif_neg h,if_pos c1,e2,<- hr,if_pos (by simp [ltInt];omega)]
 ·intro h3
  rw [Go.Sort.siftDown,dif_neg h,if_pos c1,e2,<- hr,if_neg (by simp [ltInt];omega),dif_pos h1]
theorem Qnl {hi first root:Nat} {d:Array Int} {r x:Int} (h:¬ 2*root+1 ≥ hi) (hr:r=d[first+root]!) (hx:x=d[first+(2*root+1)]!) (h1:∀ y,y=d[first+(2*root+1)+1]!->¬ (2*root+2<hi/\x<y)) :
  (¬ r<x->Go.Sort.siftDown ltInt hi first root d=d)/\(r<x->Go.Sort.siftDown ltInt hi first root d=Go.Sort.siftDown ltInt hi first (2*root+1) (swp d (first+root) (first+(2*root+1)))):=by
 have c1:¬ (decide (2*root+1+1<hi) && ltInt d[first+(2*root+1)]! d[first+(2*root+1)+1]!)=true:=by
  rw [<- hx];intro hh;have:=Bool.and_eq_true_iff.1 hh;exact h1 _ rfl ⟨by simpa using this.1,by simpa [ltInt] using this.2⟩
 constructor
 ·intro h3
  rw [Go.Sort.siftDown,dif_neg h,if_neg c1,<- hr,<- hx,if_pos (by simp [ltInt];omega)]
 ·intro h3
  rw [Go.Sort.siftDown,dif_neg h,if_neg c1,<- hr,<- hx,if_neg (by simp [ltInt];omega)]
theorem QnQ {w:World} {B g n c lo hi first:Nat} {D:Array Int} (hl:n<=40) (hlo:lo<=n) (hhi:first+hi<=n) (hR:RowU w B g n c D) :
  Calls Tryz.prog 337 #[.slice (some ⟨g,0,none⟩) n c,.int .i64 lo,.int .i64 hi,.int .i64 first] w fun e w'=>∃ r,e=.returned r/\RowU w' B g n c (Go.Sort.siftDown ltInt hi first lo D)/\Below B w w':=by
 have HR:=Qaa hR;clear hR;generalize hX:Go.Sort.siftDown ltInt hi first lo D=X;have HX:Hid (X=Go.Sort.siftDown ltInt hi first lo D):=hX.symm;clear hX;go_enter Tryz.func337,Tryz.ntmps337;go_wp2
 go_loopw [8] (fun vi wr=>Below B w wr/\∃ (i:Nat) (M:Array Int),vi=.int .i64 i/\i<=n/\Hid (X=Go.Sort.siftDown ltInt hi first i M)/\Hid (RowU wr B g n c M)) (fun vi wr=>n - (Go.RowKit.intOf vi).toNat)
 case atStart=>exact ⟨ZZb _ _,lo,D,by go_num,hlo,HX,HR⟩
 case round=>
  obtain ⟨an,i,M,rfl,aA,HO,HM⟩:=hrel;have HB:=Qaa an;clear an HX HR;have aB:IntKind.i64.wrap (2*(i:Int))=2*(i:Int):=ZZi _ ⟨by omega,by omega⟩;have aD:IntKind.i64.wrap (2*(i:Int)+1)=2*(i:Int)+1:=ZZi _ ⟨by omega,by omega⟩;by_cases ah:2*i+1 ≥ hi
  ·have ab:Hid (X=M):=HO.out.trans (QpU ah)
   have av:(hi:Int)<=2*(i:Int)+1:=by omega
   clear HO;go_wp2
   go_end0
   exact ⟨_,rfl,by rw [ab.out];exact HM.out,HB⟩
  ·have av:¬ (hi:Int)<=2*(i:Int)+1:=by omega
   have aw:2*(i:Int)+1<(hi:Int):=by omega
   have aF:IntKind.i64.wrap (2*(i:Int)+1+1)=2*(i:Int)+1+1:=ZZi _ ⟨by omega,by omega⟩;have ax:(first:Int)+(i:Int)=((first+i:Nat):Int):=by omega
   have ar:(first:Int)+(2*(i:Int)+1)=((first+(2*i+1):Nat):Int):=by omega
   have aq:((first+(2*i+1):Nat):Int)+1=((first+(2*i+1)+1:Nat):Int):=by omega
   have ap:(first:Int)+(2*(i:Int)+1+1)=((first+(2*i+1)+1:Nat):Int):=by omega
   obtain ⟨q0,af⟩:∃ q,q=first+i:=⟨_,rfl⟩;obtain ⟨q1,ad⟩:∃ q,q=first+(2*i+1):=⟨_,rfl⟩;rw [<- af] at ax;rw [<- ad] at ar aq ap;obtain ⟨q2,ag⟩:∃ q,q=q1+1:=⟨_,rfl⟩;rw [<- ag] at aq ap;have HQ:=Qaa (And.intro af (And.intro ad ag));have b0:q0<n:=by omega
   have b1:q1<n:=by omega
   have u0:IntKind.i64.wrap (q0:Int)=q0:=ZZi _ ⟨by omega,by omega⟩;have u1:IntKind.i64.wrap (q1:Int)=q1:=ZZi _ ⟨by omega,by omega⟩;have u2:IntKind.i64.wrap (q2:Int)=q2:=ZZi _ ⟨by omega,by omega⟩;obtain ⟨r,hr⟩:∃ r,r=M[q0]!:=⟨_,rfl⟩;obtain ⟨x,hx⟩:∃ x,x=M[q1]!:=⟨_,rfl⟩;obtain ⟨y,hy⟩:∃ y,y=M[q2]!:=⟨_,rfl⟩;have aj:=HM.out.cell (k:=q0) b0 hr;have aC:=HM.out.cell (k:=q1) b1 hx;have ai:=HM.out.froz q0;have aE:=HM.out.froz q1;have az:=HM.out.froz q2;have HF:=Qaa (And.intro hr (And.intro hx hy));by_cases ao:2*i+2<hi/\x<y
   ·obtain ⟨ae,am⟩:=ao
    have HS:=Qaa (Qmb (d:=M) (first:=first) (r:=r) (x:=x) (y:=y) ah (by rw [hr,af]) (by rw [hx,ad]) (by rw [hy,ag,ad]) ae am);have b2:q2<n:=by omega
    have au:=HM.out.cell (k:=q2) b2 hy;have ay:2*(i:Int)+1+1<(hi:Int):=by omega
    have d1:decide (x<y)=true:=ZZh am;clear hr hx hy af ad ag;by_cases hs:r<y
    ·have d2:decide (r<y)=true:=ZZh hs
     have ab:Hid (X=Go.Sort.siftDown ltInt hi first (2*i+2) (swp M q0 q2)):=by
      have:=HO.out;rw [HS.out.2 hs] at this;rw [HQ.out.2.2,HQ.out.1,HQ.out.2.1];exact this
     clear HO HS;go_wp2
     go_quiet (first | (go_at_call 334;refine Calls.quiet_of_same (Qav _ _ _)))
     go_wp2;generalize hw2:wr.drewN nq=w2;have aa:Hid (RowU w2 B g n c M):=by rw [<- hw2];exact HM.out.drews _
     have ac:Hid (Below B w w2):=by rw [<- hw2];exact Qah HB _
     clear hw2;have aj:=aa.out.cell b0 HF.out.1;have ak:=aa.out.cell b2 HF.out.2.2;have ai:=aa.out.froz q0;have al:=aa.out.froz q2
     go_quiet (first | (go_at_call 334;refine Calls.quiet_of_same (Qav _ _ _)))
     go_wp2;go_region
     all_goals go_wp2
     go_roundw
     case rel=>exact ⟨aa.out.bel ac _,2*i+2,swp M q0 q2,by go_num,by omega,ab,(aa.out.swap HF.out.1 HF.out.2.2 _:_)⟩
     case measure=>simp [zI];omega
    ·have d2:decide (r<y)=false:=ZZg hs
     have ab:Hid (X=M):=HO.out.trans (HS.out.1 hs);clear HO HS;go_wp2
     go_quiet (first | (go_at_call 334;refine Calls.quiet_of_same (Qav _ _ _)))
     go_wp2;generalize hw2:wr.drewN nq=w2;have aa:Hid (RowU w2 B g n c M):=by rw [<- hw2];exact HM.out.drews _
     have ac:Hid (Below B w w2):=by rw [<- hw2];exact Qah HB _
     clear hw2;have aj:=aa.out.cell b0 HF.out.1;have ak:=aa.out.cell b2 HF.out.2.2;have ai:=aa.out.froz q0;have al:=aa.out.froz q2
     go_quiet (first | (go_at_call 334;refine Calls.quiet_of_same (Qav _ _ _)))
     go_wp2
     (try simp only [Exit.inBlock,Exit.then]);refine bodyPost_ret (results_none rfl _ _ _) rfl ?_
     exact ⟨_,rfl,by rw [ab.out];exact aa.out,Qah ac _⟩
   ·have HS:=Qaa (Qnl (d:=M) (first:=first) (r:=r) (x:=x) ah (by rw [hr,af]) (by rw [hx,ad]) (fun y' e h=>ao (by rw [e,<- ad,<- ag,<- hy] at h;exact h)))
    by_cases ae:2*i+2<hi
    ·have b2:q2<n:=by omega
     have au:=HM.out.cell (k:=q2) b2 hy;have ay:2*(i:Int)+1+1<(hi:Int):=by omega
     have d1:decide (x<y)=false:=ZZg (fun h=>ao ⟨ae,h⟩);clear hr hx hy af ad ag;by_cases hs:r<x
     ·have d2:decide (r<x)=true:=ZZh hs
      have ab:Hid (X=Go.Sort.siftDown ltInt hi first (2*i+1) (swp M q0 q1)):=by
       have:=HO.out;rw [HS.out.2 hs] at this;rw [HQ.out.1,HQ.out.2.1];exact this
      clear HO HS;go_wp2
      go_quiet (first | (go_at_call 334;refine Calls.quiet_of_same (Qav _ _ _)))
      go_wp2;generalize hw2:wr.drewN nq=w2;have aa:Hid (RowU w2 B g n c M):=by rw [<- hw2];exact HM.out.drews _
      have ac:Hid (Below B w w2):=by rw [<- hw2];exact Qah HB _
      clear hw2;have aj:=aa.out.cell b0 HF.out.1;have ak:=aa.out.cell b1 HF.out.2.1;have ai:=aa.out.froz q0;have al:=aa.out.froz q1
      go_quiet (first | (go_at_call 334;refine Calls.quiet_of_same (Qav _ _ _)))
      go_wp2;go_region
      all_goals go_wp2
      go_roundw
      case rel=>exact ⟨aa.out.bel ac _,2*i+1,swp M q0 q1,by go_num,by omega,ab,(aa.out.swap HF.out.1 HF.out.2.1 _:_)⟩
      case measure=>simp [zI];omega
     ·have d2:decide (r<x)=false:=ZZg hs
      have ab:Hid (X=M):=HO.out.trans (HS.out.1 hs);clear HO HS;go_wp2
      go_quiet (first | (go_at_call 334;refine Calls.quiet_of_same (Qav _ _ _)))
      go_wp2;generalize hw2:wr.drewN nq=w2;have aa:Hid (RowU w2 B g n c M):=by rw [<- hw2];exact HM.out.drews _
      have ac:Hid (Below B w w2):=by rw [<- hw2];exact Qah HB _
      clear hw2;have aj:=aa.out.cell b0 HF.out.1;have ak:=aa.out.cell b1 HF.out.2.1;have ai:=aa.out.froz q0;have al:=aa.out.froz q1
      go_quiet (first | (go_at_call 334;refine Calls.quiet_of_same (Qav _ _ _)))
      go_wp2
      (try simp only [Exit.inBlock,Exit.then]);refine bodyPost_ret (results_none rfl _ _ _) rfl ?_
      exact ⟨_,rfl,by rw [ab.out];exact aa.out,Qah ac _⟩
    ·have dg:decide (2*(i:Int)+1+1<(hi:Int))=false:=ZZg (by omega)
     clear hr hx hy af ad ag;by_cases hs:r<x
     ·have d2:decide (r<x)=true:=ZZh hs
      have ab:Hid (X=Go.Sort.siftDown ltInt hi first (2*i+1) (swp M q0 q1)):=by
       have:=HO.out;rw [HS.out.2 hs] at this;rw [HQ.out.1,HQ.out.2.1];exact this
      clear HO HS;go_wp2
      go_quiet (first | (go_at_call 334;refine Calls.quiet_of_same (Qav _ _ _)))
      go_wp2;generalize hw2:wr.drewN nq=w2;have aa:Hid (RowU w2 B g n c M):=by rw [<- hw2];exact HM.out.drews _
      have ac:Hid (Below B w w2):=by rw [<- hw2];exact Qah HB _
      clear hw2;have aj:=aa.out.cell b0 HF.out.1;have ak:=aa.out.cell b1 HF.out.2.1;have ai:=aa.out.froz q0;have al:=aa.out.froz q1
      go_quiet (first | (go_at_call 334;refine Calls.quiet_of_same (Qav _ _ _)))
      go_wp2;go_region
      all_goals go_wp2
      go_roundw
      case rel=>exact ⟨aa.out.bel ac _,2*i+1,swp M q0 q1,by go_num,by omega,ab,(aa.out.swap HF.out.1 HF.out.2.1 _:_)⟩
      case measure=>simp [zI];omega
     ·have d2:decide (r<x)=false:=ZZg hs
      have ab:Hid (X=M):=HO.out.trans (HS.out.1 hs);clear HO HS;go_wp2
      go_quiet (first | (go_at_call 334;refine Calls.quiet_of_same (Qav _ _ _)))
      go_wp2;generalize hw2:wr.drewN nq=w2;have aa:Hid (RowU w2 B g n c M):=by rw [<- hw2];exact HM.out.drews _
      have ac:Hid (Below B w w2):=by rw [<- hw2];exact Qah HB _
      clear hw2;have aj:=aa.out.cell b0 HF.out.1;have ak:=aa.out.cell b1 HF.out.2.1;have ai:=aa.out.froz q0;have al:=aa.out.froz q1
      go_quiet (first | (go_at_call 334;refine Calls.quiet_of_same (Qav _ _ _)))
      go_wp2
      (try simp only [Exit.inBlock,Exit.then]);refine bodyPost_ret (results_none rfl _ _ _) rfl ?_
      exact ⟨_,rfl,by rw [ab.out];exact aa.out,Qah ac _⟩
theorem Qrc {w:World} {B g n c a b:Nat} {D:Array Int} (hl:n<=40) (hab:a<b) (hbn:b<=n) (hR:RowU w B g n c D) :
  Calls Tryz.prog 329 #[.slice (some ⟨g,0,none⟩) n c,.int .i64 a,.int .i64 b] w fun e w'=>∃ r,e=.returned r/\∃ M:Array Int,PermIn a b D M/\SortedIn ltInt a b M/\RowU w' B g n c M/\Below B w w':=by
 have HI:=Qaa (Go.Sort.heapSort_holds (lt:=ltInt) Go.Sort.swo_ltInt D a b (by omega) (by rw [hR.1];exact hbn));have HR:=Qaa hR;clear hR;generalize hX:Go.Sort.heapSort ltInt D a b=X at HI;obtain ⟨h,eh⟩:∃ h,h=b - a:=⟨_,rfl⟩;have HX:Hid (X=Go.Sort.heapPop ltInt a h (Go.Sort.heapBuild ltInt h a ((h - 1) / 2+1) D)):=by rw [eh];exact hX.symm
 clear hX;have e1:(b:Int) - (a:Int)=(h:Int):=by omega
 have u1:IntKind.i64.wrap (h:Int)=h:=ZZi _ ⟨by omega,by omega⟩;have e2:(h:Int) - 1=((h - 1:Nat):Int):=by omega
 obtain ⟨h1,ae⟩:∃ h1,h1=h - 1:=⟨_,rfl⟩;rw [<- ae] at e2;have u2:IntKind.i64.wrap (h1:Int)=h1:=ZZi _ ⟨by omega,by omega⟩;have e3:(h1:Int).tdiv 2=((h1 / 2:Nat):Int):=by rw [Int.tdiv_eq_ediv_of_nonneg (by omega)];omega
 obtain ⟨h2,af⟩:∃ h2,h2=h1 / 2:=⟨_,rfl⟩;rw [<- af] at e3;have u3:IntKind.i64.wrap (h2:Int)=h2:=ZZi _ ⟨by omega,by omega⟩;have ai:Hid (X=Go.Sort.heapPop ltInt a h (Go.Sort.heapBuild ltInt h a (h2+1) D)):=by rw [af,ae];exact HX.out
 have ar:=Qaa (And.intro eh (And.intro ae af));have bh:h<=n:=by omega
 have aq:h1<h:=by omega
 have ao:h2<=h1:=by omega
 have aj:a+h<=n:=by omega
 clear HX eh ae af;go_enter Tryz.func329,Tryz.ntmps329;go_wp2
 go_loopw [9] (fun vi wr=>Below B w wr/\∃ (k:Nat) (M:Array Int),vi=.int .i64 ((k:Int) - 1)/\k<=h2+1/\Hid (X=Go.Sort.heapPop ltInt a h (Go.Sort.heapBuild ltInt h a k M))/\Hid (RowU wr B g n c M)) (fun vi wr=>(Go.RowKit.intOf vi+1).toNat)
 case atStart=>exact ⟨ZZb _ _,h2+1,D,by go_num,ZZa _,ai,HR⟩
 case round=>
  obtain ⟨aa,k,M,rfl,hk,HO,HM⟩:=hrel;have HB:=Qaa aa;clear aa ai HR
  cases k with
  | zero=>
   have ab:Hid (X=Go.Sort.heapPop ltInt a h M):=HO.out;clear HO;rw [show (((0:Nat):Int) - 1)=-1 from rfl];go_wp2
   go_loopw [10] (fun vi wr=>Below B w wr/\∃ (k:Nat) (M:Array Int),vi=.int .i64 ((k:Int) - 1)/\k<=h/\Hid (X=Go.Sort.heapPop ltInt a k M)/\Hid (RowU wr B g n c M)) (fun vi wr=>(Go.RowKit.intOf vi+1).toNat)
   case atStart=>exact ⟨HB,h,M,by go_num,ZZa _,ab,HM⟩
   case round=>
    clear HB ab HM;obtain ⟨aa,k,M,rfl,hk,HO,HM⟩:=hrel;have HB:=Qaa aa;clear aa
    cases k with
    | zero=>
     have ab:Hid (X=M):=HO.out;go_wp2
     go_end0
     exact ⟨_,rfl,M,by rw [<- ab.out];exact HI.out.1,by rw [<- ab.out];exact HI.out.2,HM,HB⟩
    | succ k=>
     have ab:Hid (X=Go.Sort.heapPop ltInt a k (Go.Sort.siftDown ltInt k a 0 (swp M a (a+k)))):=HO.out;have e5:((k+1:Nat):Int) - 1=(k:Int):=by omega
     have e6:(a:Int)+(k:Int)=((a+k:Nat):Int):=by omega
     obtain ⟨q,hq⟩:∃ q,q=a+k:=⟨_,rfl⟩;rw [<- hq] at e6;have bq:q<n:=by omega
     have ba:a<n:=by omega
     have u6:IntKind.i64.wrap (q:Int)=q:=ZZi _ ⟨by omega,by omega⟩;have u5:IntKind.i64.wrap ((k:Int) - 1)=(k:Int) - 1:=ZZi _ ⟨by omega,by omega⟩;obtain ⟨x,hx⟩:∃ x,x=M[a]!:=⟨_,rfl⟩;obtain ⟨y,hy⟩:∃ y,y=M[q]!:=⟨_,rfl⟩;have am:=HM.out.cell ba hx;have al:=HM.out.cell bq hy;have an:=HM.out.cellS (i:=a) bq hy;have ap:=HM.out.froz a;have ak:=HM.out.froz q;have HF:=Qaa (And.intro hx hy);have HQ:=Qaa hq;rw [e5];clear hx hy hq HO e5;go_wp2;go_region
     all_goals go_wp2_with fail
     refine (QnQ (lo:=0) (hi:=k) (first:=a) hl (by omega) (by omega) (HM.out.swap HF.out.1 HF.out.2 _)).mono ?_;rintro e w2 ⟨r,rfl,ac,ad⟩;have ah:Hid (RowU w2 B g n c (Go.Sort.siftDown ltInt k a 0 (swp M a (a+k)))):=by rw [<- HQ.out];exact ac
     have ag:=Qaa ((HM.out.bel HB _).trans ad);clear ac ad;go_wp2;go_roundw
     case rel=>exact ⟨ag,k,_,rfl,by omega,ab,ah⟩
     case measure=>simp [zI]
  | succ k=>
   have ab:Hid (X=Go.Sort.heapPop ltInt a h (Go.Sort.heapBuild ltInt h a k (Go.Sort.siftDown ltInt h a k M))):=HO.out;have e5:((k+1:Nat):Int) - 1=(k:Int):=by omega
   have u5:IntKind.i64.wrap ((k:Int) - 1)=(k:Int) - 1:=ZZi _ ⟨by omega,by omega⟩;rw [e5];clear HO e5;go_wp2_with fail;refine (QnQ (lo:=k) (hi:=h) (first:=a) hl (by omega) (by omega) HM).mono ?_;rintro e w2 ⟨r,rfl,ac,ad⟩;have ah:=Qaa ac;have ag:=Qaa (HB.out.trans ad);clear ac ad;go_wp2;go_roundw
   case rel=>exact ⟨ag,k,_,rfl,by omega,ab,ah⟩
   case measure=>simp [zI]
theorem Qg7 {d:Array Int} {i j t:Nat} (hi:i<d.size) (hj:j<d.size):(swp d i j)[t]! = if t=j then d[i]! else if t=i then d[j]! else d[t]!:=by
 unfold swp;by_cases h1:t=j
 ·subst h1
  rw [if_pos rfl,Go.Sort.getElem!_set_same _ _ _ (by simpa using hj)]
 ·rw [if_neg h1,Go.Sort.getElem!_set_other _ _ _ _ h1]
  by_cases h2:t=i
  ·subst h2
   rw [if_pos rfl,Go.Sort.getElem!_set_same _ _ _ hi]
  ·rw [if_neg h2,Go.Sort.getElem!_set_other _ _ _ _ h2]
structure PI (D:Array Int) (a b i j:Nat) (M:Array Int) (p:Int):Prop where
 perm:PermIn a b D M
 bd:b<=D.size
 hp:p=M[a]!
 ai:a<i
 ij:i<=j+1
 jb:j<b
 aj:a<=j
 L:∀ t,a<t->t<i->M[t]! < p
 R:∀ t,j<t->t<b->¬ M[t]! < p
theorem PI.start {D:Array Int} {a b q:Nat} (ha:a<=q) (hq:q<b) (hb:b<=D.size):PI D a b (a+1) (b - 1) (swp D a q) (D[q]!) where
 perm:=Go.Sort.swp_permIn D a b a q (ZZa _) (by omega) ha hq hb
 bd:=hb
 hp:=by
  rw [Qg7 (by omega) (by omega)];by_cases e:a=q
  ·rw [if_pos e,e]
  ·rw [if_neg e,if_pos rfl]
 ai:=Nat.lt_succ_self _
 ij:=by omega
 jb:=by omega
 aj:=by omega
 L:=fun t h1 h2=>absurd h2 (by omega)
 R:=fun t h1 h2=>absurd h2 (by omega)
theorem PI.up {D M:Array Int} {a b i j:Nat} {p:Int} (h:PI D a b i j M p) (hij:i<=j) (hx:M[i]! < p):PI D a b (i+1) j M p:=
 ⟨h.perm,h.bd,h.hp,(by have:=h.ai;omega),(by omega),h.jb,h.aj,(fun t h1 h2=>by
   by_cases e:t=i
   ·subst e;exact hx
   ·exact h.L t h1 (by omega)),h.R⟩
theorem PI.down {D M:Array Int} {a b i k:Nat} {p:Int} (h:PI D a b i (k+1) M p) (hij:i<=k+1) (hx:¬ M[k+1]! < p):PI D a b i k M p:=
 ⟨h.perm,h.bd,h.hp,h.ai,(by omega),(by have:=h.jb;omega),(by have:=h.ai;omega),h.L,(fun t h1 h2=>by
   by_cases e:t=k+1
   ·subst e;exact hx
   ·exact h.R t (by omega) h2)⟩
theorem PI.swap {D M:Array Int} {a b i k:Nat} {p:Int} (h:PI D a b i (k+1) M p) (hij:i<=k+1) (hx:¬ M[i]! < p) (hy:M[k+1]! < p):PI D a b (i+1) k (swp M i (k+1)) p:=by
 have hs:M.size=D.size:=h.perm.1;have aa:i≠k+1:=fun e=>hx (by rw [e];exact hy);have b1:=h.bd;have b2:=h.jb;have b3:=h.ai;refine ⟨Go.Sort.permIn_trans _ _ _ _ _ h.perm (Go.Sort.swp_permIn M a b i (k+1) (by omega) (by omega) (by omega) b2 (by omega)),b1,?_,by omega,by omega,by omega,by omega,fun t h1 h2=>?_,fun t h1 h2=>?_⟩
 ·rw [Qg7 (by omega) (by omega),if_neg (by omega),if_neg (by omega)];exact h.hp
 ·rw [Qg7 (by omega) (by omega),if_neg (by omega)]
  by_cases e:t=i
  ·rw [if_pos e];exact hy
  ·rw [if_neg e];exact h.L t h1 (by omega)
 ·rw [Qg7 (by omega) (by omega)]
  by_cases e:t=k+1
  ·rw [if_pos e];exact hx
  ·rw [if_neg e,if_neg (by omega)];exact h.R t (by omega) h2
structure PO (D:Array Int) (a b m:Nat) (M:Array Int):Prop where
 am:a<=m
 mb:m<b
 perm:PermIn a b D M
 L:∀ t,a<=t->t<m->M[t]! < M[m]!
 R:∀ t,m<t->t<b->¬ M[t]! < M[m]!
theorem PI.fin {D M:Array Int} {a b i j:Nat} {p:Int} (h:PI D a b i j M p) (hij:¬ i<=j):PO D a b j (swp M j a):=by
 have hs:M.size=D.size:=h.perm.1;have b1:=h.bd;have b2:=h.jb;have b3:=h.ai;have b4:=h.aj;have b5:=h.ij
 have em:(swp M j a)[j]! = p:=by
  rw [Qg7 (by omega) (by omega)];by_cases e:j=a
  ·rw [if_pos e,e];exact h.hp.symm
  ·rw [if_neg e,if_pos rfl];exact h.hp.symm
 refine ⟨b4,b2,Go.Sort.permIn_trans _ _ _ _ _ h.perm (Go.Sort.swp_permIn M a b j a b4 b2 (ZZa _) (by omega) (by omega)),fun t h1 h2=>?_,fun t h1 h2=>?_⟩
 ·rw [em,Qg7 (by omega) (by omega)]
  by_cases e:t=a
  ·rw [if_pos e];exact h.L j (by omega) (by omega)
  ·rw [if_neg e,if_neg (by omega)];exact h.L t (by omega) (by omega)
 ·rw [em,Qg7 (by omega) (by omega),if_neg (by omega),if_neg (by omega)]
  exact h.R t h1 h2
theorem QdB {w:World} {B g n c a b q:Nat} {D:Array Int} (hl:n<=40) (haq:a<=q) (hqb:q<b) (hbn:b<=n) (hR:RowU w B g n c D) :
  Calls Tryz.prog 336 #[.slice (some ⟨g,0,none⟩) n c,.int .i64 a,.int .i64 b,.int .i64 q] w fun e w'=>∃ (m:Nat) (z:Bool),e=.returned (.tuple #[.int .i64 m,.bool z])/\∃ M:Array Int,PO D a b m M/\RowU w' B g n c M/\Below B w w':=by
 have HP:=Qaa (PI.start (D:=D) haq hqb (by rw [hR.1];exact hbn));obtain ⟨x,hx⟩:∃ x,x=D[a]!:=⟨_,rfl⟩;obtain ⟨p,hp⟩:∃ p,p=D[q]!:=⟨_,rfl⟩;rw [<- hp] at HP;have ba:a<n:=by omega
 have bq:q<n:=by omega
 have bc:=hR.cell ba hx;have cb:=hR.cell bq hp;have aP:=hR.cellS (i:=a) bq hp;have bi:=hR.froz a;have b6:=hR.froz q;have HR:=Qaa hR;have HF:=Qaa (And.intro hx hp);have e1:(b:Int) - 1=((b - 1:Nat):Int):=by omega
 obtain ⟨b1,bh⟩:∃ b1,b1=b - 1:=⟨_,rfl⟩;rw [<- bh] at e1 HP;have u1:IntKind.i64.wrap (b1:Int)=b1:=ZZi _ ⟨by omega,by omega⟩;have b3:=Qaa bh;clear hR hx hp bh;go_enter Tryz.func336,Tryz.ntmps336;go_wp2;go_region
 all_goals go_wp2_with fail
 have an:=Qaa (HR.out.swap HF.out.1 HF.out.2 1);have aQ:=Qaa (HR.out.bel (i:=a) (j:=q) (x:=.int .u64 p) (y:=.int .u64 x) (ZZb B w) 1)
 go_loopw [10] (fun vi wr=>Below B w wr/\∃ i:Nat,vi=.int .i64 i/\(a+1)<=i/\Hid (PI D a b i b1 (swp D a q) p)/\Hid (RowU wr B g n c (swp D a q))) (fun vi wr=>n - (Go.RowKit.intOf vi).toNat)
 case atStart=>exact ⟨aQ,(a+1),by go_num,ZZa _,HP,an⟩
 case round=>
  obtain ⟨aa,i1,rfl,bZ,aN,an⟩:=hrel;have aQ:=Qaa aa;clear aa;have ca:a<i1/\i1<=b1+1/\b1<b:=⟨aN.out.ai,aN.out.ij,aN.out.jb⟩;obtain ⟨x1,a7⟩:∃ x,x=(swp D a q)[i1]!:=⟨_,rfl⟩;have bP:=Qaa a7;by_cases aY:i1<=b1
  ·have d0:decide ((i1:Int)<=(b1:Int))=true:=ZZh (by omega)
   have bH:=an.out.cell (k:=i1) (by omega) a7;have br:=an.out.cell (k:=a) (by omega) aN.out.hp;have b9:i1<n:=by omega
   clear a7;by_cases am:x1<p
   ·have d1:decide (x1<p)=true:=ZZh am
    have be:Hid (PI D a b (i1+1) b1 (swp D a q) p):=aN.out.up aY (by rw [<- bP.out];exact am);go_wp2
    go_quiet (first | (go_at_call 334;refine Calls.quiet_of_same (Qav _ _ _)))
    go_wp2;go_roundw
    case rel=>exact ⟨Qah aQ _,i1+1,by go_num,by omega,be,(an.out.drews _:_)⟩
    case measure=>first | (simp [zI];done) | (simp [zI];omega)
   ·have d1:decide (x1<p)=false:=ZZg am
    have bj:Hid (i1<=b1->p<=(swp D a q)[i1]!):=(fun _=>by rw [<- bP.out];exact Int.not_lt.1 am:i1<=b1->p<=(swp D a q)[i1]!);go_wp2
    go_quiet (first | (go_at_call 334;refine Calls.quiet_of_same (Qav _ _ _)))
    go_wp2;generalize hwz:wr.drewN nq=W1;have av:Hid (RowU W1 B g n c (swp D a q)):=by rw [<- hwz];exact an.out.drews _
    have aI:Hid (Below B w W1):=by rw [<- hwz];exact Qah aQ _
    clear hwz
    try simp only [d1]
    clear d0 d1 bH br an aQ am
    go_loopw [11] (fun vj wr=>Below B w wr/\∃ j:Nat,vj=.int .i64 j/\j<=b1/\Hid (PI D a b i1 j (swp D a q) p/\(i1<=j->p<=(swp D a q)[i1]!))/\Hid (RowU wr B g n c (swp D a q))) (fun vj wr=>(Go.RowKit.intOf vj).toNat)
    case atStart=>exact ⟨aI,b1,by go_num,ZZa _,Qaa (And.intro aN bj),av⟩
    case round=>
     obtain ⟨aa,j2,rfl,b0,aM,aH⟩:=hrel;have aW:=Qaa aa;clear aa;have af:=Qaa aM.out.1;have bM:=Qaa aM.out.2;have cc:a<i1/\i1<=j2+1/\j2<b/\a<=j2:=⟨af.out.ai,af.out.ij,af.out.jb,af.out.aj⟩;have a3:=aH.out.cell (k:=a) (by omega) af.out.hp;obtain ⟨y2,bC⟩:∃ y,y=(swp D a q)[j2]!:=⟨_,rfl⟩;have au:=Qaa bC;have aZ:=aH.out.cell (k:=j2) (by omega) bC;clear bC aM;by_cases aC:i1<=j2
     ·have d0:decide ((i1:Int)<=(j2:Int))=true:=ZZh (by omega)
      by_cases ah:y2<p
      ·have d1:decide (y2<p)=true:=ZZh ah
       have dg:decide ((j2:Int)<(i1:Int))=false:=ZZg (by omega);have aU:decide (j2<i1)=false:=ZZg (by omega);obtain ⟨k2,aF⟩:∃ k,j2=k+1:=⟨j2 - 1,by omega⟩;have ao:Hid (PI D a b (i1+1) k2 (swp (swp D a q) i1 j2) p):=by have h1:=af.out;have h2:=bM.out aC;have h3:=au.out;rw [aF] at h1 h3 ⊢; exact h1.swap (by omega) (Int.not_lt.2 h2) (by rw [<- h3];exact ah)
       have ek:(j2:Int) - 1=(k2:Int):=by omega
       have bK:=Qaa aF;clear aF;go_wp2
       go_quiet (first | (go_at_call 334;refine Calls.quiet_of_same (Qav _ _ _)))
       go_wp2_with fail;generalize hwz:wr.drewN nq=W2;have ab:Hid (RowU W2 B g n c (swp D a q)):=by rw [<- hwz];exact aH.out.drews _
       have aq:Hid (Below B w W2):=by rw [<- hwz];exact Qah aW _
       clear hwz d0 a3 aZ aH aW
       try simp only [d1]
       clear d1 ah;obtain ⟨xx,aD⟩:∃ x,x=(swp D a q)[i1]!:=⟨_,rfl⟩;have a9:=Qaa aD;have bc:=ab.out.cell (k:=i1) (by omega) aD;have aT:=ab.out.cell (k:=j2) (by omega) au;have aP:=ab.out.cellS (i:=i1) (j:=j2) (by omega) au;have bi:=ab.out.froz i1;have aV:=ab.out.froz j2;have aS:j2<n:=by omega
       have bI:i1<n:=by omega
       have uk:IntKind.i64.wrap (k2:Int)=k2:=ZZi _ ⟨by omega,by omega⟩;have ui:IntKind.i64.wrap ((i1:Int)+1)=(i1:Int)+1:=ZZi _ ⟨by omega,by omega⟩;clear aD;go_wp2;go_region
       all_goals go_wp2_with fail
       go_loopw [10,11] (fun vi vj wr=>Below B w wr/\∃ (i j:Nat) (M:Array Int),vi=.int .i64 i/\vj=.int .i64 j/\Hid (PI D a b i j M p)/\Hid (RowU wr B g n c M)) (fun vi vj wr=>n - (Go.RowKit.intOf vi).toNat)
       case atStart=>exact ⟨ab.out.bel aq _,i1+1,k2,_,by go_num,by first | rfl | go_num,ao,(ab.out.swap a9 au _:_)⟩
       case round=>
        obtain ⟨aa,io,jo,M,rfl,rfl,a1,b2⟩:=hrel;have bW:=Qaa aa;clear aa ab aq ao au a9 bK bc aT aP bi aV aS bI ek uk ui dg aU;have bo:a<io/\io<=jo+1/\jo<b/\a<=jo:=⟨a1.out.ai,a1.out.ij,a1.out.jb,a1.out.aj⟩;go_wp2_with fail
        go_loopw [10] (fun vi wr=>Below B w wr/\∃ i:Nat,vi=.int .i64 i/\io<=i/\Hid (PI D a b i jo M p)/\Hid (RowU wr B g n c M)) (fun vi wr=>n - (Go.RowKit.intOf vi).toNat)
        case atStart=>exact ⟨bW,io,by go_num,ZZa _,a1,b2⟩
        case round=>
         obtain ⟨aa,i3,rfl,bT,aL,aG⟩:=hrel;have a2:=Qaa aa;clear aa;have b5:a<i3/\i3<=jo+1/\jo<b:=⟨aL.out.ai,aL.out.ij,aL.out.jb⟩;obtain ⟨x3,a8⟩:∃ x,x=M[i3]!:=⟨_,rfl⟩;have bN:=Qaa a8;by_cases a5:i3<=jo
         ·have d0:decide ((i3:Int)<=(jo:Int))=true:=ZZh (by omega)
          have bF:=aG.out.cell (k:=i3) (by omega) a8;have bd:=aG.out.cell (k:=a) (by omega) aL.out.hp;have b7:i3<n:=by omega
          clear a8;by_cases ak:x3<p
          ·have d1:decide (x3<p)=true:=ZZh ak
           have bz:Hid (PI D a b (i3+1) jo M p):=aL.out.up a5 (by rw [<- bN.out];exact ak);go_wp2
           go_quiet (first | (go_at_call 334;refine Calls.quiet_of_same (Qav _ _ _)))
           go_wp2;go_roundw
           case rel=>exact ⟨Qah a2 _,i3+1,by go_num,by omega,bz,(aG.out.drews _:_)⟩
           case measure=>first | (simp [zI];done) | (simp [zI];omega)
          ·have d1:decide (x3<p)=false:=ZZg ak
           have bE:Hid (i3<=jo->p<=M[i3]!):=(fun _=>by rw [<- bN.out];exact Int.not_lt.1 ak:i3<=jo->p<=M[i3]!);go_wp2
           go_quiet (first | (go_at_call 334;refine Calls.quiet_of_same (Qav _ _ _)))
           go_wp2;generalize hwz:wr.drewN nq=W3;have aR:Hid (RowU W3 B g n c M):=by rw [<- hwz];exact aG.out.drews _
           have aE:Hid (Below B w W3):=by rw [<- hwz];exact Qah a2 _
           clear hwz
           try simp only [d1]
           clear d0 d1 bF bd aG a2 ak
           go_loopw [11] (fun vj wr=>Below B w wr/\∃ j:Nat,vj=.int .i64 j/\j<=jo/\Hid (PI D a b i3 j M p/\(i3<=j->p<=M[i3]!))/\Hid (RowU wr B g n c M)) (fun vj wr=>(Go.RowKit.intOf vj).toNat)
           case atStart=>exact ⟨aE,jo,by go_num,ZZa _,Qaa (And.intro aL bE),aR⟩
           case round=>
            obtain ⟨aa,j4,rfl,bX,az,aO⟩:=hrel;have a0:=Qaa aa;clear aa;have ag:=Qaa az.out.1;have bO:=Qaa az.out.2;have b4:a<i3/\i3<=j4+1/\j4<b/\a<=j4:=⟨ag.out.ai,ag.out.ij,ag.out.jb,ag.out.aj⟩;have aX:=aO.out.cell (k:=a) (by omega) ag.out.hp;obtain ⟨y4,bg⟩:∃ y,y=M[j4]!:=⟨_,rfl⟩;have aA:=Qaa bg;have a4:=aO.out.cell (k:=j4) (by omega) bg;clear bg az;by_cases aK:i3<=j4
            ·have d0:decide ((i3:Int)<=(j4:Int))=true:=ZZh (by omega)
             by_cases al:y4<p
             ·have d1:decide (y4<p)=true:=ZZh al
              have dg:decide ((j4:Int)<(i3:Int))=false:=ZZg (by omega);have aU:decide (j4<i3)=false:=ZZg (by omega);obtain ⟨k4,aJ⟩:∃ k,j4=k+1:=⟨j4 - 1,by omega⟩;have aB:Hid (PI D a b (i3+1) k4 (swp M i3 j4) p):=by have h1:=ag.out;have h2:=bO.out aK;have h3:=aA.out;rw [aJ] at h1 h3 ⊢; exact h1.swap (by omega) (Int.not_lt.2 h2) (by rw [<- h3];exact al)
              have ek:(j4:Int) - 1=(k4:Int):=by omega
              have bK:=Qaa aJ;clear aJ;go_wp2
              go_quiet (first | (go_at_call 334;refine Calls.quiet_of_same (Qav _ _ _)))
              go_wp2_with fail;generalize hwz:wr.drewN nq=W4;have ac:Hid (RowU W4 B g n c M):=by rw [<- hwz];exact aO.out.drews _
              have ax:Hid (Below B w W4):=by rw [<- hwz];exact Qah a0 _
              clear hwz d0 aX a4 aO a0
              try simp only [d1]
              clear d1 al;obtain ⟨xx,aD⟩:∃ x,x=M[i3]!:=⟨_,rfl⟩;have a9:=Qaa aD;have bc:=ac.out.cell (k:=i3) (by omega) aD;have aT:=ac.out.cell (k:=j4) (by omega) aA;have aP:=ac.out.cellS (i:=i3) (j:=j4) (by omega) aA;have bi:=ac.out.froz i3;have aV:=ac.out.froz j4;have aS:j4<n:=by omega
              have bI:i3<n:=by omega
              have uk:IntKind.i64.wrap (k4:Int)=k4:=ZZi _ ⟨by omega,by omega⟩;have ui:IntKind.i64.wrap ((i3:Int)+1)=(i3:Int)+1:=ZZi _ ⟨by omega,by omega⟩;clear aD;go_wp2;go_region
              all_goals go_wp2_with fail
              go_roundw
              case rel=>exact ⟨ac.out.bel ax _,i3+1,k4,_,by go_num,by first | rfl | go_num,aB,(ac.out.swap a9 aA _:_)⟩
              case measure=>first | (simp [zI];done) | (simp [zI];omega)
             ·have d1:decide (y4<p)=false:=ZZg al
              obtain ⟨k4,aJ⟩:∃ k,j4=k+1:=⟨j4 - 1,by omega⟩;have aB:Hid (PI D a b i3 k4 M p/\(i3<=k4->p<=M[i3]!)):=Qaa (And.intro (by have h1:=ag.out;have h3:=aA.out;rw [aJ] at h1 h3;exact h1.down (by omega) (by rw [<- h3];exact al)) (fun _=>bO.out aK));have e5:((j4:Nat):Int) - 1=(k4:Int):=by omega
              have bV:=Qaa aJ;clear aJ;have u5:IntKind.i64.wrap (k4:Int)=k4:=ZZi _ ⟨by omega,by omega⟩;go_wp2
              go_quiet (first | (go_at_call 334;refine Calls.quiet_of_same (Qav _ _ _)))
              go_wp2;go_roundw
              case rel=>exact ⟨Qah a0 _,k4,by first | rfl | go_num,by omega,aB,(aO.out.drews _:_)⟩
              case measure=>have:=bV.out;first | (simp [zI];done) | (simp [zI];omega)
            ·have d0:decide ((i3:Int)<=(j4:Int))=false:=ZZg (by omega)
             have dg:decide ((j4:Int)<(i3:Int))=true:=ZZh (by omega);have aU:decide (j4<i3)=true:=ZZh (by omega);have bB:=Qaa (ag.out.fin aK);go_wp2
             go_quiet (first | (go_at_call 334;refine Calls.quiet_of_same (Qav _ _ _)))
             go_wp2_with fail;generalize hwz:wr.drewN nq=W4;have ac:Hid (RowU W4 B g n c M):=by rw [<- hwz];exact aO.out.drews _
             have ax:Hid (Below B w W4):=by rw [<- hwz];exact Qah a0 _
             clear hwz d0 aX a4 aO a0;have bD:=ac.out.cell (k:=a) ba ag.out.hp;have aT:=ac.out.cell (k:=j4) (by omega) aA;have aP:=ac.out.cellS (i:=j4) ba ag.out.hp;have bA:=ac.out.froz a;have aV:=ac.out.froz j4;have aS:j4<n:=by omega
             go_wp2;go_region
             all_goals go_wp2
             go_ret2;exact ⟨j4,false,rfl,_,bB,ac.out.swap aA ag.out.hp _,ac.out.bel ax _⟩
         ·have d0:decide ((i3:Int)<=(jo:Int))=false:=ZZg (by omega)
          have bE:Hid (i3<=jo->p<=M[i3]!):=(fun h=>absurd h a5:i3<=jo->p<=M[i3]!);go_wp2
          go_quiet (first | (go_at_call 334;refine Calls.quiet_of_same (Qav _ _ _)))
          go_wp2;generalize hwz:wr.drewN nq=W3;have aR:Hid (RowU W3 B g n c M):=by rw [<- hwz];exact aG.out.drews _
          have aE:Hid (Below B w W3):=by rw [<- hwz];exact Qah a2 _
          clear hwz;clear d0 a8 aG a2
          go_loopw [11] (fun vj wr=>Below B w wr/\∃ j:Nat,vj=.int .i64 j/\j<=jo/\Hid (PI D a b i3 j M p/\(i3<=j->p<=M[i3]!))/\Hid (RowU wr B g n c M)) (fun vj wr=>(Go.RowKit.intOf vj).toNat)
          case atStart=>exact ⟨aE,jo,by go_num,ZZa _,Qaa (And.intro aL bE),aR⟩
          case round=>
           obtain ⟨aa,j5,rfl,bS,aw,bb⟩:=hrel;have bL:=Qaa aa;clear aa;have ap:=Qaa aw.out.1;have cd:=Qaa aw.out.2;have b8:a<i3/\i3<=j5+1/\j5<b/\a<=j5:=⟨ap.out.ai,ap.out.ij,ap.out.jb,ap.out.aj⟩;have bm:=bb.out.cell (k:=a) (by omega) ap.out.hp;obtain ⟨y5,bk⟩:∃ y,y=M[j5]!:=⟨_,rfl⟩;have bQ:=Qaa bk;have bv:=bb.out.cell (k:=j5) (by omega) bk;clear bk aw;by_cases bt:i3<=j5
           ·exfalso;omega
           ·have d0:decide ((i3:Int)<=(j5:Int))=false:=ZZg (by omega)
            have dg:decide ((j5:Int)<(i3:Int))=true:=ZZh (by omega);have aU:decide (j5<i3)=true:=ZZh (by omega);have bp:=Qaa (ap.out.fin bt);go_wp2
            go_quiet (first | (go_at_call 334;refine Calls.quiet_of_same (Qav _ _ _)))
            go_wp2_with fail;generalize hwz:wr.drewN nq=W5;have ae:Hid (RowU W5 B g n c M):=by rw [<- hwz];exact bb.out.drews _
            have bn:Hid (Below B w W5):=by rw [<- hwz];exact Qah bL _
            clear hwz d0 bm bv bb bL;have bD:=ae.out.cell (k:=a) ba ap.out.hp;have aT:=ae.out.cell (k:=j5) (by omega) bQ;have aP:=ae.out.cellS (i:=j5) ba ap.out.hp;have bA:=ae.out.froz a;have aV:=ae.out.froz j5;have aS:j5<n:=by omega
            go_wp2;go_region
            all_goals go_wp2
            go_ret2;exact ⟨j5,false,rfl,_,bp,ae.out.swap bQ ap.out.hp _,ae.out.bel bn _⟩
      ·have d1:decide (y2<p)=false:=ZZg ah
       obtain ⟨k2,aF⟩:∃ k,j2=k+1:=⟨j2 - 1,by omega⟩;have ao:Hid (PI D a b i1 k2 (swp D a q) p/\(i1<=k2->p<=(swp D a q)[i1]!)):=Qaa (And.intro (by have h1:=af.out;have h3:=au.out;rw [aF] at h1 h3;exact h1.down (by omega) (by rw [<- h3];exact ah)) (fun _=>bM.out aC));have e5:((j2:Nat):Int) - 1=(k2:Int):=by omega
       have bY:=Qaa aF;clear aF;have u5:IntKind.i64.wrap (k2:Int)=k2:=ZZi _ ⟨by omega,by omega⟩;go_wp2
       go_quiet (first | (go_at_call 334;refine Calls.quiet_of_same (Qav _ _ _)))
       go_wp2;go_roundw
       case rel=>exact ⟨Qah aW _,k2,by first | rfl | go_num,by omega,ao,(aH.out.drews _:_)⟩
       case measure=>have:=bY.out;first | (simp [zI];done) | (simp [zI];omega)
     ·have d0:decide ((i1:Int)<=(j2:Int))=false:=ZZg (by omega)
      have dg:decide ((j2:Int)<(i1:Int))=true:=ZZh (by omega);have aU:decide (j2<i1)=true:=ZZh (by omega);have bs:=Qaa (af.out.fin aC);go_wp2
      go_quiet (first | (go_at_call 334;refine Calls.quiet_of_same (Qav _ _ _)))
      go_wp2_with fail;generalize hwz:wr.drewN nq=W2;have ab:Hid (RowU W2 B g n c (swp D a q)):=by rw [<- hwz];exact aH.out.drews _
      have aq:Hid (Below B w W2):=by rw [<- hwz];exact Qah aW _
      clear hwz d0 a3 aZ aH aW;have bD:=ab.out.cell (k:=a) ba af.out.hp;have aT:=ab.out.cell (k:=j2) (by omega) au;have aP:=ab.out.cellS (i:=j2) ba af.out.hp;have bA:=ab.out.froz a;have aV:=ab.out.froz j2;have aS:j2<n:=by omega
      go_wp2;go_region
      all_goals go_wp2
      go_ret2;exact ⟨j2,true,rfl,_,bs,ab.out.swap au af.out.hp _,ab.out.bel aq _⟩
  ·have d0:decide ((i1:Int)<=(b1:Int))=false:=ZZg (by omega)
   have bj:Hid (i1<=b1->p<=(swp D a q)[i1]!):=(fun h=>absurd h aY:i1<=b1->p<=(swp D a q)[i1]!);go_wp2
   go_quiet (first | (go_at_call 334;refine Calls.quiet_of_same (Qav _ _ _)))
   go_wp2;generalize hwz:wr.drewN nq=W1;have av:Hid (RowU W1 B g n c (swp D a q)):=by rw [<- hwz];exact an.out.drews _
   have aI:Hid (Below B w W1):=by rw [<- hwz];exact Qah aQ _
   clear hwz;clear d0 a7 an aQ
   go_loopw [11] (fun vj wr=>Below B w wr/\∃ j:Nat,vj=.int .i64 j/\j<=b1/\Hid (PI D a b i1 j (swp D a q) p/\(i1<=j->p<=(swp D a q)[i1]!))/\Hid (RowU wr B g n c (swp D a q))) (fun vj wr=>(Go.RowKit.intOf vj).toNat)
   case atStart=>exact ⟨aI,b1,by go_num,ZZa _,Qaa (And.intro aN bj),av⟩
   case round=>
    obtain ⟨aa,j6,rfl,bU,ay,a6⟩:=hrel;have bR:=Qaa aa;clear aa;have ar:=Qaa ay.out.1;have cf:=Qaa ay.out.2;have ce:a<i1/\i1<=j6+1/\j6<b/\a<=j6:=⟨ar.out.ai,ar.out.ij,ar.out.jb,ar.out.aj⟩;have bw:=a6.out.cell (k:=a) (by omega) ar.out.hp;obtain ⟨y6,bl⟩:∃ y,y=(swp D a q)[j6]!:=⟨_,rfl⟩;have bJ:=Qaa bl;have bu:=a6.out.cell (k:=j6) (by omega) bl;clear bl ay;by_cases bf:i1<=j6
    ·exfalso;omega
    ·have d0:decide ((i1:Int)<=(j6:Int))=false:=ZZg (by omega)
     have dg:decide ((j6:Int)<(i1:Int))=true:=ZZh (by omega);have aU:decide (j6<i1)=true:=ZZh (by omega);have bG:=Qaa (ar.out.fin bf);go_wp2
     go_quiet (first | (go_at_call 334;refine Calls.quiet_of_same (Qav _ _ _)))
     go_wp2_with fail;generalize hwz:wr.drewN nq=W6;have ad:Hid (RowU W6 B g n c (swp D a q)):=by rw [<- hwz];exact a6.out.drews _
     have bx:Hid (Below B w W6):=by rw [<- hwz];exact Qah bR _
     clear hwz d0 bw bu a6 bR;have bD:=ad.out.cell (k:=a) ba ar.out.hp;have aT:=ad.out.cell (k:=j6) (by omega) bJ;have aP:=ad.out.cellS (i:=j6) ba ar.out.hp;have bA:=ad.out.froz a;have aV:=ad.out.froz j6;have aS:j6<n:=by omega
     go_wp2;go_region
     all_goals go_wp2
     go_ret2;exact ⟨j6,true,rfl,_,bG,ad.out.swap bJ ar.out.hp _,ad.out.bel bx _⟩
def Asc (M:Array Int) (a i:Nat):Prop:=∀ t,a<t->t<i->M[t - 1]!<=M[t]!
theorem Asc.le {M:Array Int} {a b:Nat} (h:Asc M a b) {s:Nat} (hs:a<=s):∀ t,s<=t->t<b->M[s]!<=M[t]!:=by
 intro t ht
 induction ht with
 | refl=>intro _;exact Int.le_refl _
 | @step m hm ih=>
  intro hb;have h1:=ih (by omega);have aa:s<=m:=hm;have h2:=h (m+1) (by omega) hb;rw [Nat.add_sub_cancel] at h2;exact Int.le_trans h1 h2
theorem Asc.sorted {M:Array Int} {a b:Nat} (h:Asc M a b):SortedIn ltInt a b M:=fun i j h1 h2 h3=>by
 have:=h.le h1 j (by omega) h3;simp only [ltInt];exact ZZg (by omega)
theorem Qmm {w:World} {B g n c a b:Nat} {D:Array Int} (hl:n<=40) (hab:a<b) (hbn:b<=n) (hR:RowU w B g n c D) :
  Calls Tryz.prog 333 #[.slice (some ⟨g,0,none⟩) n c,.int .i64 a,.int .i64 b] w fun e w'=>∃ z:Bool,e=.returned (.bool z)/\(z=true->SortedIn ltInt a b D)/\∃ m,w'=w.drewN m:=by
 have HR:=Qaa hR;clear hR;have hd:decide ((b:Int) - (a:Int)<50)=true:=ZZh (by omega);obtain ⟨l,el⟩:∃ l,(b:Int) - (a:Int)=l:=⟨_,rfl⟩;have ul:IntKind.i64.wrap l=l:=ZZi _ ⟨by omega,by omega⟩;have ae:l<50:=by omega
 have ad:Hid (Asc D a (a+1)):=(fun t h1 h2=>absurd h2 (by omega):Asc D a (a+1));go_enter Tryz.func333,Tryz.ntmps333;go_wp2;refine wp_loop_rounds 1 ?_;rw [rounds_succ];go_wp2
 go_loopw [7] (fun vi wr=>∃ i m:Nat,vi=.int .i64 i/\wr=w.drewN m/\a<i/\i<=b/\Hid (Asc D a i)) (fun vi wr=>n - (Go.RowKit.intOf vi).toNat)
 case atStart=>exact ⟨a+1,0,by go_num,rfl,by omega,by omega,ad⟩
 case round=>
  clear ad;obtain ⟨i,m,rfl,rfl,aj,al,HA⟩:=hrel;generalize hW:w.drewN m=W;have ab:Hid (RowU W B g n c D):=by rw [<- hW];exact HR.out.drews _
  have HW:=Qaa hW;clear hW;by_cases ag:i<b
  ·have d0:decide ((i:Int)<(b:Int))=true:=ZZh (by omega)
   obtain ⟨k,hk⟩:∃ k,i=k+1:=⟨i - 1,by omega⟩;have e1:(i:Int) - 1=(k:Int):=by omega
   have ew:IntKind.i64.wrap (k:Int)=k:=ZZi _ ⟨by omega,by omega⟩;obtain ⟨x,hx⟩:∃ x,x=D[k]!:=⟨_,rfl⟩;obtain ⟨y,hy⟩:∃ y,y=D[i]!:=⟨_,rfl⟩;have bk:k<n:=by omega
   have bi:i<n:=by omega
   have ai:=ab.out.cell bk hx;have ah:=ab.out.cell bi hy;have ak:k<i:=by omega
   by_cases ac:y<x
   ·have d1:decide (y<x)=true:=ZZh ac
    have dn:((i:Int) == (b:Int))=false:=ZZf.2 (by omega);have HK:=Qaa hk;clear hx hy hk;go_wp2
    go_quiet (first | (go_at_call 334;refine Calls.quiet_of_same (Qav _ _ _)))
    go_wp2;go_ret;exact ⟨false,rfl,(fun h=>Bool.noConfusion h),_,(by rw [<- HW.out];exact Qg8 _ _ _)⟩
   ·have d1:decide (y<x)=false:=ZZg ac
    have af:Hid (Asc D a (i+1)):=(fun t h1 h2=>by
     by_cases e:t=i
     ·subst e;rw [hk,Nat.add_sub_cancel,<- hx,<- hk,<- hy];omega
     ·exact HA.out t h1 (by omega):Asc D a (i+1))
    have HK:=Qaa hk;clear hx hy hk;go_wp2
    go_quiet (first | (go_at_call 334;refine Calls.quiet_of_same (Qav _ _ _)))
    go_wp2;go_roundw
    case rel=>exact ⟨i+1,_,by go_num,(by rw [<- HW.out];exact Qg8 _ _ _),by omega,by omega,af⟩
    case measure=>simp [zI];omega
  ·have aa:i=b:=by omega
   subst aa;have HS:=Qaa HA.out.sorted;go_wp2
   go_quiet (first | (go_at_call 334;refine Calls.quiet_of_same (Qav _ _ _)))
   go_wp2;go_ret;exact ⟨true,rfl,(fun _=>HS.out),_,(by rw [<- HW.out];exact Qg8 _ _ _)⟩
def SwC (w:World) (K:Nat) (s:Int):Prop:=w.cell? ⟨K,0,none⟩=some (.int .i64 s)/\w.frozen? ⟨K,0,none⟩=false/\0<=s/\s<=100
theorem SwC.put {w:World} {K:Nat} {s t:Int} (h:SwC w K s) (m:Nat) (h0:0<=t) (h1:t<=100):SwC ((w.drewN m).setCell ⟨K,0,none⟩ (.int .i64 t)) K t:=
 ⟨World.cell?_setCell_same (w.drewN m) _ _ h.1,(World.frozen?_setCell _ _ _ _).trans h.2.1,h0,h1⟩
theorem QgZ {w:World} {B g n c K:Nat} {D:Array Int} (i j:Nat) (s:Int) (hl:n<=40) (hi:i<n) (hj:j<n) (hgK:g<K) (hs9:s<=90) (hR:RowU w B g n c D) (hS:SwC w K s) :
  Calls Tryz.prog 341 #[.slice (some ⟨g,0,none⟩) n c,.int .i64 i,.int .i64 j,.pointer (some ⟨K,0,none⟩)] w fun e w'=>∃ (x y:Nat) (s':Int),e=.returned (.tuple #[.int .i64 x,.int .i64 y])/\(x=i/\y=j∨x=j/\y=i)/\s<=s'/\s'<=s+1/\SwC w' K s'/\Below K w w':=by
 obtain ⟨x,hx⟩:∃ x,x=D[i]!:=⟨_,rfl⟩;obtain ⟨y,hy⟩:∃ y,y=D[j]!:=⟨_,rfl⟩;have ac:=hR.cell hi hx;have ab:=hR.cell hj hy;have HS:=Qaa hS;obtain ⟨hc,hf,s0,s1⟩:=hS;have us:IntKind.i64.wrap (s+1)=s+1:=ZZi _ ⟨by omega,by omega⟩;have HR:=Qaa hR;clear hR hx hy;by_cases aa:y<x
 ·have d1:decide (y<x)=true:=ZZh aa
  go_enter Tryz.func341,Tryz.ntmps341;go_wp2
  go_quiet (first | (go_at_call 334;refine Calls.quiet_of_same (Qav _ _ _)))
  go_wp2;go_ret2;exact ⟨j,i,s+1,rfl,Or.inr ⟨rfl,rfl⟩,by omega,by omega,HS.out.put _ (by omega) (by omega),by refine Below.setCell (Qah (ZZb K w) _) ?_ _;exact ZZa K⟩
 ·have d1:decide (y<x)=false:=ZZg aa
  go_enter Tryz.func341,Tryz.ntmps341;go_wp2
  go_quiet (first | (go_at_call 334;refine Calls.quiet_of_same (Qav _ _ _)))
  go_wp2;go_ret2;exact ⟨i,j,s,rfl,Or.inl ⟨rfl,rfl⟩,by omega,by omega,⟨hc,hf,by omega,by omega⟩,Qah (ZZb _ _) _⟩
theorem Qns {w:World} {B g n c K:Nat} {D:Array Int} (i j k:Nat) (s:Int) (hl:n<=40) (hi:i<n) (hj:j<n) (hk:k<n) (hgK:g<K) (hs9:s<=80) (hR:RowU w B g n c D) (hS:SwC w K s) :
  Calls Tryz.prog 339 #[.slice (some ⟨g,0,none⟩) n c,.int .i64 i,.int .i64 j,.int .i64 k,.pointer (some ⟨K,0,none⟩)] w fun e w'=>∃ (x:Nat) (s':Int),e=.returned (.int .i64 x)/\(x=i∨x=j∨x=k)/\s<=s'/\s'<=s+3/\SwC w' K s'/\Below K w w':=by
 have HR:=Qaa hR;have HS:=Qaa hS;clear hR hS;go_enter Tryz.func339,Tryz.ntmps339;go_wp2_with fail;refine (QgZ i j s hl hi hj hgK (by omega) HR HS).mono ?_;rintro e w1 ⟨x1,y1,s1,rfl,ac,aB,ay,am,ad⟩;have ah:=Qaa (HR.out.below hgK ad);have aq:=Qaa am;have av:=Qaa ad;have ak:x1<n/\y1<n/\(x1=i∨x1=j)/\(y1=i∨y1=j):=by omega
 have aa:=Qaa ak;clear am ad ac ak;go_wp2_with fail;refine (QgZ y1 k s1 hl aa.out.2.1 hk hgK (by omega) ah aq).mono ?_;rintro e w2 ⟨x2,y2,s2,rfl,af,aD,aC,an,ae⟩;have ao:=Qaa (ah.out.below hgK ae);have aw:=Qaa an;have ap:=Qaa (av.out.trans ae);have aj:x2<n/\(x2=i∨x2=j∨x2=k):=by have:=aa.out;omega
 have ai:=Qaa aj;clear an ae af aj;go_wp2_with fail;refine (QgZ x1 x2 s2 hl aa.out.1 ai.out.1 hgK (by omega) ao aw).mono ?_;rintro e w3 ⟨x3,y3,s3,rfl,ab,aA,az,al,ag⟩;have ar:=Qaa al;have ax:=Qaa (ap.out.trans ag);have au:Hid (y3=i∨y3=j∨y3=k):=(by have h1:=aa.out;have h2:=ai.out;omega:y3=i∨y3=j∨y3=k);clear al ag ab;go_wp2;go_ret;exact ⟨y3,s3,rfl,au,by omega,by omega,ar,ax⟩
theorem Qk7 {w:World} {B g n c a b:Nat} {D:Array Int} (hl:n<=40) (hab:a+8<=b) (hbn:b<=n) (hR:RowU w B g n c D) :
  Calls Tryz.prog 331 #[.slice (some ⟨g,0,none⟩) n c,.int .i64 a,.int .i64 b] w fun e w'=>∃ (x:Nat) (h:Int),e=.returned (.tuple #[.int .i64 x,.int .i64 h])/\a<=x/\x<b/\(h=0∨h=1)/\Below w.heap.size w w':=by
 have HR:=Qaa hR;clear hR;obtain ⟨l,el⟩:∃ l,l=b - a:=⟨_,rfl⟩;have e1:(b:Int) - (a:Int)=(l:Int):=by omega
 have u1:IntKind.i64.wrap (l:Int)=l:=ZZi _ ⟨by omega,by omega⟩;obtain ⟨q,eq⟩:∃ q,q=l / 4:=⟨_,rfl⟩;have e2:(l:Int).tdiv 4=(q:Int):=by rw [Int.tdiv_eq_ediv_of_nonneg (by omega)];omega
 have u2:IntKind.i64.wrap (q:Int)=q:=ZZi _ ⟨by omega,by omega⟩;have u3:IntKind.i64.wrap ((q:Int)*2)=(q:Int)*2:=ZZi _ ⟨by omega,by omega⟩;have u4:IntKind.i64.wrap ((q:Int)*3)=(q:Int)*3:=ZZi _ ⟨by omega,by omega⟩;obtain ⟨i,ei⟩:∃ i,i=a+q:=⟨_,rfl⟩;obtain ⟨j,ej⟩:∃ j,j=a+q*2:=⟨_,rfl⟩;obtain ⟨k,ek⟩:∃ k,k=a+q*3:=⟨_,rfl⟩;have e3:(a:Int)+(q:Int)=(i:Int):=by omega
 have e4:(a:Int)+(q:Int)*2=(j:Int):=by omega
 have e5:(a:Int)+(q:Int)*3=(k:Int):=by omega
 have u5:IntKind.i64.wrap (i:Int)=i:=ZZi _ ⟨by omega,by omega⟩;have u6:IntKind.i64.wrap (j:Int)=j:=ZZi _ ⟨by omega,by omega⟩;have u7:IntKind.i64.wrap (k:Int)=k:=ZZi _ ⟨by omega,by omega⟩;have hb:(a<=i/\i<b)/\(a<=j/\j<b)/\(a<=k/\k<b):=by omega
 have HQ:=Qaa hb;have d1:decide ((8:Int)<=(l:Int))=true:=ZZh (by omega);have ad:decide (8<=l)=true:=ZZh (by omega);have d2:decide ((50:Int)<=(l:Int))=false:=ZZg (by omega);have ah:decide (50<=l)=false:=ZZg (by omega);have g1:8<=l:=by omega
 have g2:l<50:=by omega
 have hg:=HR.out.lt.2;clear el eq ei ej ek hb;go_enter Tryz.func331,Tryz.ntmps331;go_wp2_with fail;refine (Qns i j k 0 hl (by have:=HQ.out;omega) (by have:=HQ.out;omega) (by have:=HQ.out;omega) (K:=w.heap.size) hg (by omega) (HR.out.below hg ((Below.refl _ _).alloc (Nat.le_refl _) _)) ⟨by simp,by simp,by omega,by omega⟩).mono ?_;rintro e w1 ⟨x,s,rfl,hx,ab,ac,hS,aa⟩;have HT:=Qaa (((ZZb w.heap.size w).alloc (ZZa _) (.cells #[.int .i64 0] 3)).trans aa);have HX:Hid (a<=x/\x<b):=(by have:=HQ.out;omega:a<=x/\x<b);obtain ⟨hc,_,_,_⟩:=hS;clear aa hx;by_cases hz:s=0
 ·subst hz
  go_wp2;go_ret2;exact ⟨x,1,rfl,HX.out.1,HX.out.2,Or.inr rfl,HT⟩
 ·have af:(s == 0)=false:=ZZf.2 hz
  have ag:(s == 12)=false:=ZZf.2 (by omega);have ae:¬ s=12:=by omega
  go_wp2;go_ret2;exact ⟨x,0,rfl,HX.out.1,HX.out.2,Or.inl rfl,HT⟩
def Qqx (x:Nat) (v:Nat):Prop:=v<=6/\2 ^ v<=2*x/\x<2 ^ v
set_option maxRecDepth 100000 in
theorem QpJ (x:Nat) (h0:1<=x) (h:x<=40) (w:World) :
  Calls Tryz.prog 173 #[.int .u64 x] w fun e w'=>∃ v:Nat,e=.returned (.int .i64 v)/\Qqx x v/\w'=w:=by
 have hc:x=1∨x=2∨x=3∨x=4∨x=5∨x=6∨x=7∨x=8∨x=9∨x=10∨x=11∨x=12∨x=13∨x=14∨x=15∨x=16∨x=17∨x=18∨x=19∨x=20∨x=21∨x=22∨x=23∨x=24∨x=25∨x=26∨x=27∨x=28∨x=29∨x=30∨x=31∨x=32∨x=33∨x=34∨x=35∨x=36∨x=37∨x=38∨x=39∨x=40:=by omega
 rcases hc with rfl | rfl | rfl | rfl | rfl | rfl | rfl | rfl | rfl | rfl | rfl | rfl | rfl | rfl | rfl | rfl | rfl | rfl | rfl | rfl | rfl | rfl | rfl | rfl | rfl | rfl | rfl | rfl | rfl | rfl | rfl | rfl | rfl | rfl | rfl | rfl | rfl | rfl | rfl | rfl
 all_goals
  go_enter Tryz.func173,Tryz.ntmps173;go_wp2;go_ret
  first
   | exact ⟨1,by kernel_rfl,⟨by decide,by decide,by decide⟩,rfl⟩
   | exact ⟨2,by kernel_rfl,⟨by decide,by decide,by decide⟩,rfl⟩
   | exact ⟨3,by kernel_rfl,⟨by decide,by decide,by decide⟩,rfl⟩
   | exact ⟨4,by kernel_rfl,⟨by decide,by decide,by decide⟩,rfl⟩
   | exact ⟨5,by kernel_rfl,⟨by decide,by decide,by decide⟩,rfl⟩
   | exact ⟨6,by kernel_rfl,⟨by decide,by decide,by decide⟩,rfl⟩
theorem QhT (x:Nat) (h0:1<=x) (h:x<=40) (w:World) :
  Calls Tryz.prog 130 #[.int .u64 x] w fun e w'=>∃ v:Nat,e=.returned (.int .i64 v)/\Qqx x v/\w'=w:=by
 go_enter Tryz.func130,Tryz.ntmps130;go_wp2_with (go_at_call 173;refine (QpJ _ h0 h _).mono ?_;rintro e w2 ⟨v,rfl,hv,hw⟩;obtain rfl:=hw.symm;have HV:=Qaa hv;clear hv);go_ret;exact ⟨_,rfl,HV,rfl⟩
theorem c_powU (x:Nat) (h0:1<=x) (h:x<=40) (w:World) :
  Calls Tryz.prog 207 #[.int .i64 x] w fun e w'=>∃ v:Nat,e=.returned (.int .u64 ((2 ^ v:Nat):Int))/\Qqx x v/\w'=w:=by
 have u1:IntKind.u64.wrap (x:Int)=x:=IntWalk.u64_in _ ⟨by omega,by omega⟩;go_enter Tryz.func207,Tryz.ntmps207;go_wp2_with fail;refine (QhT x h0 h _).mono ?_;rintro e w2 ⟨v,rfl,hv,hw⟩;obtain rfl:=hw.symm;have h6:v=0∨v=1∨v=2∨v=3∨v=4∨v=5∨v=6:=by have:=hv.1;omega
 have HV:=Qaa hv;clear hv;rcases h6 with rfl | rfl | rfl | rfl | rfl | rfl | rfl
 all_goals
  go_wp2;go_ret;exact ⟨_,rfl,HV,rfl⟩
theorem and_bd (r m:Int) (h0:0<=m) (h1:m<9223372036854775808):0<=bits BinOp.and IntKind.u64 r m/\bits BinOp.and IntKind.u64 r m<=m:=by
 have hb:((BitVec.ofInt 64 r &&& BitVec.ofInt 64 m).toNat:Int)<=m:=by
  have h2:(BitVec.ofInt 64 m).toNat=m.toNat:=by
   rw [BitVec.toNat_ofInt];have:m % ((2 ^ 64:Nat):Int)=m:=Int.emod_eq_of_lt h0 (by omega);rw [this]
  rw [BitVec.toNat_and,h2];have:=Nat.and_le_right (n:=(BitVec.ofInt 64 r).toNat) (m:=m.toNat);omega
 have e:bits BinOp.and IntKind.u64 r m=((BitVec.ofInt 64 r &&& BitVec.ofInt 64 m).toNat:Int):=by
  show IntKind.u64.wrap ((BitVec.ofInt 64 r &&& BitVec.ofInt 64 m).toNat:Int)=_
  exact IntWalk.u64_in _ ⟨by omega,by omega⟩
 rw [e];exact ⟨by omega,hb⟩
theorem c_xorU {w:World} (K:Nat) (s:Int) (hc:w.cell? ⟨K,0,none⟩=some (.int .u64 s)) (hf:w.frozen? ⟨K,0,none⟩=false) :
  Calls Tryz.prog 208 #[.pointer (some ⟨K,0,none⟩)] w fun e w'=>∃ v,e=.returned (.int .u64 v)/\w'.cell? ⟨K,0,none⟩=some (.int .u64 v)/\w'.frozen? ⟨K,0,none⟩=false/\Below K w w':=by
 obtain ⟨m1,e1⟩:∃ m1,bits BinOp.xor IntKind.u64 s (IntKind.u64.wrap (s*8192))=m1:=⟨_,rfl⟩;obtain ⟨m2,e2⟩:∃ m2,bits BinOp.xor IntKind.u64 m1 (m1 / 128)=m2:=⟨_,rfl⟩;obtain ⟨m3,e3⟩:∃ m3,bits BinOp.xor IntKind.u64 m2 (IntKind.u64.wrap (m2*131072))=m3:=⟨_,rfl⟩
 have c5:∀ x y z,(((w.setCell ⟨K,0,none⟩ x).setCell ⟨K,0,none⟩ y).setCell ⟨K,0,none⟩ z).cell? ⟨K,0,none⟩=some z:=fun x y z=>by
  have g1:=World.cell?_setCell_same _ _ x hc;have g2:=World.cell?_setCell_same _ _ y g1;exact World.cell?_setCell_same _ _ z g2
 go_enter Tryz.func208,Tryz.ntmps208;go_wp2;go_region
 go_wp2;go_region
 go_wp2;go_region
 go_wp2;go_ret;refine ⟨m3,rfl,c5 _ _ _,?_,?_⟩
 ·exact (World.frozen?_setCell _ _ _ _).trans ((World.frozen?_setCell _ _ _ _).trans ((World.frozen?_setCell _ _ _ _).trans hf))
 ·have h3:Below K w (((w.setCell ⟨K,0,none⟩ (.int .u64 m1)).setCell ⟨K,0,none⟩ (.int .u64 m2)).setCell ⟨K,0,none⟩ (.int .u64 m3)):=by
   refine Below.setCell ?_ (ZZa K) _;refine Below.setCell ?_ (ZZa K) _;refine Below.setCell ?_ (ZZa K) _;exact ZZb K w
  exact h3.drew.drew.drew
theorem RowU.far2 {w:World} {B g n c i j K:Nat} {D:Array Int} {x y u:Value} (h:RowU w B g n c D) (hK:g≠K) (hc:w.cell? ⟨K,0,none⟩=some u/\w.frozen? ⟨K,0,none⟩=false) (m:Nat) :
  (((w.drewN m).setCell ⟨g,i,none⟩ x).setCell ⟨g,j,none⟩ y).cell? ⟨K,0,none⟩=some u/\(((w.drewN m).setCell ⟨g,i,none⟩ x).setCell ⟨g,j,none⟩ y).frozen? ⟨K,0,none⟩=false:=
 ⟨(World.cell?_setCell_far _ _ _ _ hK).trans ((World.cell?_setCell_far _ _ _ _ hK).trans hc.1),(World.frozen?_setCell _ _ _ _).trans ((World.frozen?_setCell _ _ _ _).trans hc.2)⟩
theorem QoZ {w:World} {B g n c a b:Nat} {D:Array Int} (hl:n<=40) (hab:a+8<=b) (hbn:b<=n) (hR:RowU w B g n c D) :
  Calls Tryz.prog 330 #[.slice (some ⟨g,0,none⟩) n c,.int .i64 a,.int .i64 b] w fun e w'=>∃ r,e=.returned r/\∃ M:Array Int,PermIn a b D M/\RowU w' B g n c M/\Below B w w':=by
 have HR:=Qaa hR;have ac:=hR.lt;have aI:D.size=n:=hR.1;clear hR;obtain ⟨l,el⟩:∃ l,l=b - a:=⟨_,rfl⟩;have e1:(b:Int) - (a:Int)=(l:Int):=by omega
 have u1:IntKind.i64.wrap (l:Int)=l:=ZZi _ ⟨by omega,by omega⟩;have aK:IntKind.u64.wrap (l:Int)=l:=IntWalk.u64_in _ ⟨by omega,by omega⟩;obtain ⟨q,eq⟩:∃ q,q=l / 4:=⟨_,rfl⟩;have e2:(l:Int).tdiv 4=(q:Int):=by rw [Int.tdiv_eq_ediv_of_nonneg (by omega)];omega
 have u2:IntKind.i64.wrap (q:Int)=q:=ZZi _ ⟨by omega,by omega⟩;have u3:IntKind.i64.wrap ((q:Int)*2)=(q:Int)*2:=ZZi _ ⟨by omega,by omega⟩;obtain ⟨j,ej⟩:∃ j,j=a+q*2:=⟨_,rfl⟩;have e4:(a:Int)+(q:Int)*2=(j:Int):=by omega
 have u6:IntKind.i64.wrap (j:Int)=j:=ZZi _ ⟨by omega,by omega⟩;obtain ⟨j0,aE⟩:∃ j0,j0=j - 1:=⟨_,rfl⟩;have e5:(j:Int) - 1=(j0:Int):=by omega
 have u7:IntKind.i64.wrap (j0:Int)=j0:=ZZi _ ⟨by omega,by omega⟩;have u8:IntKind.i64.wrap ((j:Int)+1)=(j:Int)+1:=ZZi _ ⟨by omega,by omega⟩;have aC:a<=j0/\j0+1=j/\j+1<b/\b=a+l/\8<=l:=by omega
 obtain ⟨b1,b2,b3,b4,b5⟩:=aC;have HQ:Hid (a<=j0/\j0+1=j/\j+1<b/\b=a+l/\8<=l):=⟨b1,b2,b3,b4,b5⟩;have d1:decide ((8:Int)<=(l:Int))=true:=ZZh (by omega);have aw:l<=40:=by omega
 clear el eq ej aE b2 b4;go_enter Tryz.func330,Tryz.ntmps330;go_wp2_with fail;refine (c_powU l (by omega) aw _).mono ?_;rintro e w1 ⟨v,rfl,hv,hw⟩;obtain rfl:=hw;obtain ⟨P,hP⟩:∃ P,P=2 ^ v:=⟨_,rfl⟩;rw [<- hP];have aF:P<=2*l/\l<P:=by rw [hP];exact hv.2
 have uP:IntKind.u64.wrap ((P:Int) - 1)=(P:Int) - 1:=IntWalk.u64_in _ ⟨by omega,by omega⟩;clear hP hv;generalize hW0:w.alloc (Obj.cells #[Value.int IntKind.u64 (l:Int)] 250)=W0;have al:Hid (RowU W0 B g n c D):=by rw [<- hW0];exact HR.out.below ac.2 ((ZZb _ _).alloc (ZZa _) _)
 have ap:Hid (Below B w W0):=by rw [<- hW0];exact (ZZb B w).alloc (by omega) _
 have af:Hid (W0.cell? ⟨w.heap.size,0,none⟩=some (.int .u64 (l:Int))/\W0.frozen? ⟨w.heap.size,0,none⟩=false):=by rw [<- hW0];exact ⟨by simp,by simp⟩
 generalize hK:w.heap.size=K at af ac ⊢;clear hK hW0;have au:Hid (PermIn a b D D):=Go.Sort.permIn_refl D a b;go_wp2_with fail
 go_loopw [9] (fun vi wr=>Below B w wr/\∃ (i:Nat) (M:Array Int) (s:Int),vi=.int .i64 i/\j0<=i/\i<=j+2/\Hid (PermIn a b D M)/\Hid (RowU wr B g n c M)/\Hid (wr.cell? ⟨K,0,none⟩=some (.int .u64 s)/\wr.frozen? ⟨K,0,none⟩=false)) (fun vi wr=>100 - (Go.RowKit.intOf vi).toNat)
 case atStart=>exact ⟨ap,j0,D,l,rfl,ZZa _,by have:=HQ.out;omega,au,al,af⟩
 case round=>
  clear ap al af au;obtain ⟨ae,i,M,s,rfl,aH,aJ,HP,HM,HC⟩:=hrel;have HB:=Qaa ae;clear ae;by_cases aG:i<=j+1
  ·have d2:decide ((i:Int)<=(j:Int)+1)=true:=ZZh (by omega)
   go_wp2_with fail;refine (c_xorU K s HC.out.1 HC.out.2).mono ?_;rintro e w2 ⟨v,rfl,an,aq,ak⟩;have aa:=Qaa (HM.out.below ac.2 ak);have ao:=Qaa (HB.out.trans (ak.mono (by omega)));have am:=Qaa (And.intro an aq);clear HM HB HC ak an aq;obtain ⟨ai,aj⟩:=and_bd v ((P:Int) - 1) (by omega) (by omega);obtain ⟨o,eo⟩:∃ o:Nat,bits BinOp.and IntKind.u64 v ((P:Int) - 1)=(o:Int):=⟨(bits BinOp.and IntKind.u64 v ((P:Int) - 1)).toNat,by omega⟩;rw [eo] at ai aj;have uo:IntKind.i64.wrap (o:Int)=o:=ZZi _ ⟨by omega,by omega⟩;by_cases ar:l<=o
   ·have d3:decide ((l:Int)<=(o:Int))=true:=ZZh (by omega)
    have az:decide (l<=o)=true:=ZZh ar;obtain ⟨r,er⟩:∃ r,r=o - l:=⟨_,rfl⟩;have e7:(o:Int) - (l:Int)=(r:Int):=by omega
    have u9:IntKind.i64.wrap (r:Int)=r:=ZZi _ ⟨by omega,by omega⟩;obtain ⟨t,et⟩:∃ t,t=a+r:=⟨_,rfl⟩;have e8:(a:Int)+(r:Int)=(t:Int):=by omega
    have ay:IntKind.i64.wrap (t:Int)=t:=ZZi _ ⟨by omega,by omega⟩;have ab:a<=t/\t<b/\a<=i/\i<b:=by have:=HQ.out;omega
    have HT:=Qaa ab;have ad:t<n:=by omega
    have ah:i<n:=by omega
    obtain ⟨x,hx⟩:∃ x,x=M[i]!:=⟨_,rfl⟩;obtain ⟨y,hy⟩:∃ y,y=M[t]!:=⟨_,rfl⟩;have ax:=aa.out.cell ah hx;have av:=aa.out.cell ad hy;have aB:=aa.out.cellS (i:=i) ad hy;have aD:=aa.out.froz i;have aA:=aa.out.froz t;have HF:=Qaa (And.intro hx hy);have ag:Hid (PermIn a b D (swp M i t)):=Go.Sort.permIn_trans _ _ _ _ _ HP (Go.Sort.swp_permIn M a b i t ab.2.2.1 ab.2.2.2 ab.1 ab.2.1 (by rw [aa.out.1];exact hbn));clear hx hy er et ab ai aj;go_wp2;go_region
    all_goals go_wp2
    go_roundw
    case rel=>exact ⟨aa.out.bel ao _,i+1,swp M i t,v,by go_num,by omega,by omega,ag,(aa.out.swap HF.out.1 HF.out.2 _:_),(aa.out.far2 (Nat.ne_of_lt ac.2) am _:_)⟩
    case measure=>first | (simp [zI];done) | (simp [zI];omega)
   ·have d3:decide ((l:Int)<=(o:Int))=false:=ZZg (by omega)
    have az:decide (l<=o)=false:=ZZg ar;obtain ⟨r,er⟩:∃ r,r=o:=⟨_,rfl⟩;obtain ⟨t,et⟩:∃ t,t=a+r:=⟨_,rfl⟩;have e8:(a:Int)+(o:Int)=(t:Int):=by omega
    have ay:IntKind.i64.wrap (t:Int)=t:=ZZi _ ⟨by omega,by omega⟩;have ab:a<=t/\t<b/\a<=i/\i<b:=by have:=HQ.out;omega
    have HT:=Qaa ab;have ad:t<n:=by omega
    have ah:i<n:=by omega
    obtain ⟨x,hx⟩:∃ x,x=M[i]!:=⟨_,rfl⟩;obtain ⟨y,hy⟩:∃ y,y=M[t]!:=⟨_,rfl⟩;have ax:=aa.out.cell ah hx;have av:=aa.out.cell ad hy;have aB:=aa.out.cellS (i:=i) ad hy;have aD:=aa.out.froz i;have aA:=aa.out.froz t;have HF:=Qaa (And.intro hx hy);have ag:Hid (PermIn a b D (swp M i t)):=Go.Sort.permIn_trans _ _ _ _ _ HP (Go.Sort.swp_permIn M a b i t ab.2.2.1 ab.2.2.2 ab.1 ab.2.1 (by rw [aa.out.1];exact hbn));clear hx hy er et ab ai aj;go_wp2;go_region
    all_goals go_wp2
    go_roundw
    case rel=>exact ⟨aa.out.bel ao _,i+1,swp M i t,v,by go_num,by omega,by omega,ag,(aa.out.swap HF.out.1 HF.out.2 _:_),(aa.out.far2 (Nat.ne_of_lt ac.2) am _:_)⟩
    case measure=>first | (simp [zI];done) | (simp [zI];omega)
  ·have d2:decide ((i:Int)<=(j:Int)+1)=false:=ZZg (by omega)
   go_wp2
   go_end0
   exact ⟨_,rfl,M,HP,HM,HB⟩
end Go.Proofs.YtandnmpllheniaaGreatDoor
namespace Go.Proofs.YtandnmpllheniaaGreatDoor
open Go.ChangeShapes Go.WideShapes Go.ChangeAt Go.RowKit Go.PlainAid
open Go.Sort (swp ltInt PermIn SortedIn permIn_all permIn_mono permIn_trans permIn_refl)
theorem Qfm {a b:Nat} {d d':Array Int} (h:PermIn a b d d') (hb:b<=d.size):d'.toList.Perm d.toList:=by
 have h1:=permIn_mono d d' a b 0 d.size (ZZj _) hb (ZZa _) h;have h2:=h1.2.2;have e1:d.extract 0 d.size=d:=by simp
 have e2:d'.extract 0 d.size=d':=by rw [<- h1.1];simp
 rwa [e1,e2] at h2
def LowI (x y:Nat) (M:Array Int):Prop:=x=0∨∀ i,x<=i->i<y->M[x - 1]!<=M[i]!
theorem LowI.perm {x y:Nat} {M M1:Array Int} (h:LowI x y M) (hp:PermIn x y M M1) (hy:y<=M.size):LowI x y M1:=by
 rcases h with h | h
 ·exact .inl h
 ·by_cases hx:x=0
  ·exact .inl hx
  ·refine .inr (fun i h1 h2=>?_)
   rw [hp.2.1 (x - 1) (by omega)];exact permIn_all M M1 x y (fun v=>M[x - 1]!<=v) hy hp h i h1 h2
theorem LowI.cut {x y m:Nat} {M:Array Int} (h:LowI x y M) (hm:m<=y):LowI x m M:=by
 rcases h with h | h
 ·exact .inl h
 ·exact .inr (fun i h1 h2=>h i h1 (by omega))
theorem Qg4 {x y m:Nat} {N:Array Int} {p:Int} (hm:N[m]! = p) (hL:∀ i,x<=i->i<m->N[i]! < p) (hR:∀ i,m<i->i<y->p<=N[i]!) (sL:SortedIn ltInt x m N) (sR:SortedIn ltInt (m+1) y N):SortedIn ltInt x y N:=fun i j h1 h2 h3=>by
 rcases Nat.lt_trichotomy j m with hj | hj | hj
 ·exact sL i j h1 h2 hj
 ·subst hj
  have:=hL i h1 h2;simp only [ltInt];exact ZZg (by omega)
 ·rcases Nat.lt_trichotomy i m with hi | hi | hi
  ·have a1:=hL i h1 hi
   have a2:=hR j hj h3;simp only [ltInt];exact ZZg (by omega)
  ·subst hi
   have a2:=hR j hj h3;simp only [ltInt];exact ZZg (by omega)
  ·exact sR i j (by omega) h2 h3
structure PQ (D:Array Int) (a b x y:Nat) (M:Array Int):Prop where
 fin:∀ M',PermIn x y M M'->SortedIn ltInt x y M'->PermIn a b D M'/\SortedIn ltInt a b M'
 nd:M.toList.Nodup
 low:LowI x y M
 ax:a<=x
 xy:x<=y
 yb:y<=b
 bs:b<=M.size
theorem PQ.start {D:Array Int} {a b:Nat} (nd:D.toList.Nodup) (low:LowI a b D) (ab:a<=b) (bs:b<=D.size):PQ D a b a b D:=
 ⟨fun M' h1 h2=>⟨h1,h2⟩,nd,low,ZZa _,ab,ZZa _,bs⟩
theorem PQ.perm {D M M1:Array Int} {a b x y:Nat} (h:PQ D a b x y M) (hp:PermIn x y M M1):PQ D a b x y M1:=by
 have b1:=h.yb;have b2:=h.bs;exact ⟨fun M' h1 h2=>h.fin M' (permIn_trans _ _ _ _ _ hp h1) h2,(Qfm hp (by omega)).nodup_iff.2 h.nd,h.low.perm hp (by omega),h.ax,h.xy,h.yb,by rw [hp.1];exact h.bs⟩
theorem PQ.left {D M M2 M3:Array Int} {a b x y m:Nat} (h:PQ D a b x y M) (po:PO M x y m M2) (hp:PermIn x m M2 M3) (hs:SortedIn ltInt x m M3):PQ D a b (m+1) y M3:=by
 have h2:=h.perm po.perm;have b1:=h2.yb;have b2:=h2.bs;have b3:=po.am;have b4:=po.mb;have b5:=h.ax;have e3:M3[m]! = M2[m]!:=hp.2.1 m (.inr (ZZa _));have l3:∀ i,x<=i->i<m->M3[i]! < M2[m]!:=fun i h1 h2=>permIn_all M2 M3 x m (fun v=>v<M2[m]!) (by omega) hp po.L i h1 h2
 have r3:∀ i,m<i->i<y->M2[m]!<=M3[i]!:=fun i h1 h2=>by
  rw [hp.2.1 i (.inr (by omega))];exact Int.not_lt.1 (po.R i h1 h2)
 refine ⟨fun M' p1 s1=>?_,(Qfm hp (by omega)).nodup_iff.2 h2.nd,.inr (fun i h1 h2=>?_),by omega,by omega,b1,by rw [hp.1];exact b2⟩
 ·have em:M'[m]! = M2[m]!:=(p1.2.1 m (.inl (by omega))).trans e3
  refine h2.fin M' (permIn_trans _ _ _ _ _ (permIn_mono _ _ _ _ x y (Nat.le_refl _) (by omega) (by omega) hp) (permIn_mono _ _ _ _ x y (by omega) (Nat.le_refl _) (by rw [hp.1];omega) p1)) ?_;refine Qg4 em (fun i h1 h2=>?_) (fun i h1 h2=>?_) (fun i j h1 h2 h3=>?_) s1
  ·rw [p1.2.1 i (.inl (by omega))];exact l3 i h1 h2
  ·exact permIn_all M3 M' (m+1) y (fun v=>M2[m]!<=v) (by rw [hp.1];omega) p1 (fun i h1 h2=>r3 i (by omega) h2) i (by omega) h2
  ·rw [p1.2.1 i (.inl (by omega)),p1.2.1 j (.inl (by omega))];exact hs i j h1 h2 h3
 ·rw [Nat.add_sub_cancel,e3];exact r3 i (by omega) h2
theorem PQ.right {D M M2 M3:Array Int} {a b x y m:Nat} (h:PQ D a b x y M) (po:PO M x y m M2) (hp:PermIn (m+1) y M2 M3) (hs:SortedIn ltInt (m+1) y M3):PQ D a b x m M3:=by
 have h2:=h.perm po.perm;have b1:=h2.yb;have b2:=h2.bs;have b3:=po.am;have b4:=po.mb;have b5:=h.ax;have e3:M3[m]! = M2[m]!:=hp.2.1 m (.inl (by omega));have l3:∀ i,x<=i->i<m->M3[i]! < M2[m]!:=fun i h1 h2=>by rw [hp.2.1 i (.inl (by omega))];exact po.L i h1 h2
 have r3:∀ i,m<i->i<y->M2[m]!<=M3[i]!:=fun i h1 h2=>permIn_all M2 M3 (m+1) y (fun v=>M2[m]!<=v) (by omega) hp (fun i h1 h2=>Int.not_lt.1 (po.R i (by omega) h2)) i (by omega) h2;refine ⟨fun M' p1 s1=>?_,(Qfm hp (by omega)).nodup_iff.2 h2.nd,?_,b5,by omega,by omega,by rw [hp.1];exact b2⟩
 ·have em:M'[m]! = M2[m]!:=(p1.2.1 m (.inr (ZZa _))).trans e3
  refine h2.fin M' (permIn_trans _ _ _ _ _ (permIn_mono _ _ _ _ x y (by omega) (Nat.le_refl _) (by omega) hp) (permIn_mono _ _ _ _ x y (Nat.le_refl _) (by omega) (by rw [hp.1];omega) p1)) ?_;refine Qg4 em (fun i h1 h2=>?_) (fun i h1 h2=>?_) s1 (fun i j h1 h2 h3=>?_)
  ·exact permIn_all M3 M' x m (fun v=>v<M2[m]!) (by rw [hp.1];omega) p1 (fun i h1 h2=>l3 i h1 h2) i h1 h2
  ·rw [p1.2.1 i (.inr (by omega))];exact r3 i h1 h2
  ·rw [p1.2.1 i (.inr (by omega)),p1.2.1 j (.inr (by omega))];exact hs i j h1 h2 h3
 ·rcases h2.low with h | h
  ·exact .inl h
  ·by_cases hx:x=0
   ·exact .inl hx
   ·refine .inr (fun i h1 h2=>?_)
    rw [hp.2.1 (x - 1) (.inl (by omega)),hp.2.1 i (.inl (by omega))];exact h i h1 (by omega)
theorem PQ.lowL {D M M2:Array Int} {a b x y m:Nat} (h:PQ D a b x y M) (po:PO M x y m M2):LowI x m M2:=(h.perm po.perm).low.cut (Nat.le_of_lt po.mb)
theorem PO.lowR {M M2:Array Int} {x y m:Nat} (po:PO M x y m M2):LowI (m+1) y M2:=.inr (fun i h1 h2=>by rw [Nat.add_sub_cancel];exact Int.not_lt.1 (po.R i (by omega) h2))
theorem nd_ne {M:Array Int} (h:M.toList.Nodup) {i j:Nat} (hi:i<M.size) (hj:j<M.size) (hij:i≠j):M[i]!≠M[j]!:=by
 rw [getElem!_pos M i hi,getElem!_pos M j hj];have hp:=List.pairwise_iff_getElem.1 h;rcases Nat.lt_or_gt_of_ne hij with aa | aa
 ·have:=hp i j (by simpa using hi) (by simpa using hj) aa
  simpa using this
 ·have:=hp j i (by simpa using hj) (by simpa using hi) aa
  intro e;exact this (by simpa using e.symm)
theorem PQ.less {D M:Array Int} {a b x y q:Nat} (h:PQ D a b x y M) (hx:0<x) (h1:x<=q) (h2:q<y):M[x - 1]! < M[q]!:=by
 have b1:=h.yb;have b2:=h.bs;have n1:=nd_ne h.nd (i:=x - 1) (j:=q) (by omega) (by omega) (by omega);rcases h.low with hl | hl
 ·omega
 ·have:=hl q h1 h2
  omega
theorem c_pdqU:∀ (N:Nat) {w:World} {B g n c a b:Nat} {D:Array Int} (lim:Int),b - a<=N->n<=40->a<=b->b<=n->0<=lim->lim<=64->D.toList.Nodup->LowI a b D->RowU w B g n c D ->
  Calls Tryz.prog 327 #[.slice (some ⟨g,0,none⟩) n c,.int .i64 a,.int .i64 b,.int .i64 lim] w fun e w'=>∃ r,e=.returned r/\∃ M:Array Int,PermIn a b D M/\SortedIn ltInt a b M/\RowU w' B g n c M/\Below B w w':=by
 intro N
 induction N using Nat.strongRecOn with
 | ind N IH=>
 intro w B g n c a b D lim hN hl bu bv bd bn bp aV hR;have aw:Hid (∀ m<N,∀ {w:World} {B g n c a b:Nat} {D:Array Int} (lim:Int),b - a<=m->n<=40->a<=b->b<=n->0<=lim->lim<=64->D.toList.Nodup->LowI a b D->RowU w B g n c D->Calls Tryz.prog 327 #[.slice (some ⟨g,0,none⟩) n c,.int .i64 a,.int .i64 b,.int .i64 lim] w fun e w'=>∃ r,e=.returned r/\∃ M:Array Int,PermIn a b D M/\SortedIn ltInt a b M/\RowU w' B g n c M/\Below B w w'):=IH;clear IH;have br:=Qaa (PQ.start bp aV bu (by rw [hR.1];exact bv));have bq:=Qaa hR;clear hR bp aV;go_enter Tryz.func327,Tryz.ntmps327;go_wp2
 go_loopw [1,2,3,8,9] (fun va vb vl v8 v9 wr=>Below B w wr/\∃ (x y:Nat) (li:Int) (q8 q9:Bool) (M:Array Int),va=.int .i64 x/\vb=.int .i64 y/\vl=.int .i64 li/\v8=.bool q8/\v9=.bool q9/\0<=li/\li<=64/\Hid (PQ D a b x y M)/\Hid (RowU wr B g n c M)) (fun va vb vl v8 v9 wr=>(Go.RowKit.intOf vb - Go.RowKit.intOf va).toNat)
 case atStart=>exact ⟨ZZb _ _,a,b,lim,true,true,D,rfl,rfl,rfl,rfl,rfl,bd,bn,br,bq⟩
 case round=>
  clear br bq bd bn;obtain ⟨a3,x,y,li,q8,q9,M,rfl,rfl,rfl,rfl,rfl,bd,bn,HQ,HM⟩:=hrel;have HB:=Qaa a3;clear a3;have bx:a<=x/\x<=y/\y<=b:=⟨HQ.out.ax,HQ.out.xy,HQ.out.yb⟩;obtain ⟨l,el⟩:∃ l,l=y - x:=⟨_,rfl⟩;have e1:(y:Int) - (x:Int)=(l:Int):=by omega
  have u1:IntKind.i64.wrap (l:Int)=l:=ZZi _ ⟨by omega,by omega⟩;have HL:=Qaa el;by_cases bs:l<=12
  ·have d0:decide ((l:Int)<=12)=true:=ZZh (by omega)
   have bt:decide (l<=12)=true:=ZZh bs;clear el;go_wp2_with fail;refine (c_insU hl bx.2.1 (by omega) HM).mono ?_;rintro e w1 ⟨r,rfl,M1,p1,s1,aL,aK⟩;have HF:=Qaa (HQ.out.fin M1 p1 s1);have bf:=Qaa aL;have a2:=Qaa (HB.out.trans aK);clear p1 s1 aL aK;go_wp2
   (try simp only [Exit.inBlock,Exit.then]);refine bodyPost_ret (results_none rfl _ _ _) rfl ?_
   exact ⟨_,rfl,M1,HF.out.1,HF.out.2,bf,a2⟩
  have d0:decide ((l:Int)<=12)=false:=ZZg (by omega);have bt:decide (l<=12)=false:=ZZg bs;have bz:x+13<=y:=by omega
  by_cases hz:li=0
  ·subst hz
   clear el;go_wp2_with fail;refine (Qrc hl (by omega) (by omega) HM).mono ?_;rintro e w1 ⟨r,rfl,M1,p1,s1,aL,aK⟩;have HF:=Qaa (HQ.out.fin M1 p1 s1);have bf:=Qaa aL;have a2:=Qaa (HB.out.trans aK);clear p1 s1 aL aK;go_wp2
   (try simp only [Exit.inBlock,Exit.then]);refine bodyPost_ret (results_none rfl _ _ _) rfl ?_
   exact ⟨_,rfl,M1,HF.out.1,HF.out.2,bf,a2⟩
  have dz:(li == 0)=false:=ZZf.2 hz;have bw:IntKind.i64.wrap (li - 1)=li - 1:=ZZi _ ⟨by omega,by omega⟩;clear el
  cases q8 with
  | false=>
   go_wp2_with fail;refine (QoZ hl (a:=x) (b:=y) (by omega) (by omega) HM).mono ?_;rintro e w1 ⟨r,rfl,M1,p1,aL,aK⟩;have aI:=Qaa (HQ.out.perm p1);have aY:=Qaa aL;have a2:=Qaa (HB.out.trans aK);clear p1 aL aK;go_wp2_with fail;refine (Qk7 hl (a:=x) (b:=y) (by omega) (by omega) aY).mono ?_;rintro e bo ⟨q,h,rfl,aC,aD,hh,aT⟩;have aJ:=Qaa (aY.out.below aY.out.lt.2 aT);have a0:=Qaa (a2.out.trans (aT.mono (Nat.le_of_lt (Nat.lt_of_le_of_lt aY.out.lt.1 aY.out.lt.2))));clear aT;have dh:(h == 2)=false:=ZZf.2 (by omega);clear hh;by_cases aH:x=0
   ·have dx:decide ((0:Int)<(x:Int))=false:=ZZg (by omega)
    have aS:decide (0<x)=false:=ZZg (by omega);clear aH;go_wp2
    go_quiet (first | (go_at_call 334;refine Calls.quiet_of_same (Qav _ _ _)))
    go_wp2_with fail;generalize hwz:bo.drewN nq=W2;have ba:Hid (RowU W2 B g n c M1):=by rw [<- hwz];exact aJ.out.drews _
    have a7:Hid (Below B w W2):=by rw [<- hwz];exact Qah a0 _
    clear hwz;refine (QdB hl aC aD (by omega) ba).mono ?_;rintro e w2 ⟨m,z,rfl,M2,ad,aq,ar⟩;have aa:=Qaa ad;have bm:x<=m/\m<y:=⟨ad.am,ad.mb⟩;have al:=Qaa aq;have ai:=Qaa (a7.out.trans ar);clear ad aq ar;obtain ⟨l1,an⟩:∃ l1,l1=m - x:=⟨_,rfl⟩;obtain ⟨l2,au⟩:∃ l2,l2=y - m:=⟨_,rfl⟩;obtain ⟨l3,aj⟩:∃ l3,l3=l / 8:=⟨_,rfl⟩;have f1:(m:Int) - (x:Int)=(l1:Int):=by omega
    have f2:(y:Int) - (m:Int)=(l2:Int):=by omega
    have f3:(l:Int).tdiv 8=(l3:Int):=by rw [Int.tdiv_eq_ediv_of_nonneg (by omega)];omega
    have v1:IntKind.i64.wrap (l1:Int)=l1:=ZZi _ ⟨by omega,by omega⟩;have v2:IntKind.i64.wrap (l2:Int)=l2:=ZZi _ ⟨by omega,by omega⟩;have v3:IntKind.i64.wrap (l3:Int)=l3:=ZZi _ ⟨by omega,by omega⟩;have vm:IntKind.i64.wrap ((m:Int)+1)=(m:Int)+1:=ZZi _ ⟨by omega,by omega⟩;have aR:=Qaa (And.intro an (And.intro au aj));have aO:l<=N:=by have:=HL.out;omega
    have aB:=HL.out;have ao:m - x<N/\y - (m+1)<N:=by omega
    have ak:=Qaa ao;clear aB ao an au aj;by_cases ap:l1<l2
    ·have ay:decide ((l1:Int)<(l2:Int))=true:=ZZh (by omega)
     have af:decide (l1<l2)=true:=ZZh ap;go_wp2_with fail;refine (aw.out (m - x) ak.out.1 (li - 1) (ZZa _) hl bm.1 (by omega) (by omega) (by omega) (aI.out.perm aa.out.perm).nd (aI.out.lowL aa) al).mono ?_;rintro e w3 ⟨r,rfl,M3,p3,s3,ab,ac⟩;have ah:=Qaa (aI.out.left aa p3 s3);have ae:=Qaa ab;have ag:=Qaa (ai.out.trans ac);clear p3 s3 ab ac;go_wp2;go_roundw
     case rel=>exact ⟨ag,m+1,y,li - 1,_,z,M3,by go_num,rfl,rfl,rfl,rfl,by omega,by omega,ah,ae⟩
     case measure=>first | (simp [zI];done) | (simp [zI];omega)
    ·have ay:decide ((l1:Int)<(l2:Int))=false:=ZZg (by omega)
     have af:decide (l1<l2)=false:=ZZg ap;go_wp2_with fail;refine (aw.out (y - (m+1)) ak.out.2 (a:=m+1) (b:=y) (li - 1) (ZZa _) hl (by omega) (by omega) (by omega) (by omega) (aI.out.perm aa.out.perm).nd aa.out.lowR al).mono ?_;rintro e w3 ⟨r,rfl,M3,p3,s3,ab,ac⟩;have ah:=Qaa (aI.out.right aa p3 s3);have ae:=Qaa ab;have ag:=Qaa (ai.out.trans ac);clear p3 s3 ab ac;go_wp2;go_roundw
     case rel=>exact ⟨ag,x,m,li - 1,_,z,M3,rfl,rfl,rfl,rfl,rfl,by omega,by omega,ah,ae⟩
     case measure=>first | (simp [zI];done) | (simp [zI];omega)
   ·have dx:decide ((0:Int)<(x:Int))=true:=ZZh (by omega)
    have aS:decide (0<x)=true:=ZZh (by omega);obtain ⟨x1,aF⟩:∃ x1,x1=x - 1:=⟨_,rfl⟩;have ex:(x:Int) - 1=(x1:Int):=by omega
    have ux:IntKind.i64.wrap (x1:Int)=x1:=ZZi _ ⟨by omega,by omega⟩;obtain ⟨vx,az⟩:∃ v,v=M1[x1]!:=⟨_,rfl⟩;obtain ⟨vq,aA⟩:∃ v,v=M1[q]!:=⟨_,rfl⟩;have aU:x1<n:=by omega
    have aQ:q<n:=by omega
    have aM:=aJ.out.cell aU az;have aP:=aJ.out.cell aQ aA;have dl:decide (vx<vq)=true:=decide_eq_true (by rw [az,aA,aF];exact aI.out.less (by omega) aC aD);clear aF az aA aH;go_wp2
    go_quiet (first | (go_at_call 334;refine Calls.quiet_of_same (Qav _ _ _)))
    go_wp2_with fail;generalize hwz:bo.drewN nq=W3;have a8:Hid (RowU W3 B g n c M1):=by rw [<- hwz];exact aJ.out.drews _
    have bk:Hid (Below B w W3):=by rw [<- hwz];exact Qah a0 _
    clear hwz
    try simp only [dl]
    clear dl aM aP;refine (QdB hl aC aD (by omega) a8).mono ?_;rintro e w2 ⟨m,z,rfl,M2,ad,aq,ar⟩;have aa:=Qaa ad;have bm:x<=m/\m<y:=⟨ad.am,ad.mb⟩;have al:=Qaa aq;have ai:=Qaa (bk.out.trans ar);clear ad aq ar;obtain ⟨l1,an⟩:∃ l1,l1=m - x:=⟨_,rfl⟩;obtain ⟨l2,au⟩:∃ l2,l2=y - m:=⟨_,rfl⟩;obtain ⟨l3,aj⟩:∃ l3,l3=l / 8:=⟨_,rfl⟩;have f1:(m:Int) - (x:Int)=(l1:Int):=by omega
    have f2:(y:Int) - (m:Int)=(l2:Int):=by omega
    have f3:(l:Int).tdiv 8=(l3:Int):=by rw [Int.tdiv_eq_ediv_of_nonneg (by omega)];omega
    have v1:IntKind.i64.wrap (l1:Int)=l1:=ZZi _ ⟨by omega,by omega⟩;have v2:IntKind.i64.wrap (l2:Int)=l2:=ZZi _ ⟨by omega,by omega⟩;have v3:IntKind.i64.wrap (l3:Int)=l3:=ZZi _ ⟨by omega,by omega⟩;have vm:IntKind.i64.wrap ((m:Int)+1)=(m:Int)+1:=ZZi _ ⟨by omega,by omega⟩;have aR:=Qaa (And.intro an (And.intro au aj));have aO:l<=N:=by have:=HL.out;omega
    have aB:=HL.out;have ao:m - x<N/\y - (m+1)<N:=by omega
    have ak:=Qaa ao;clear aB ao an au aj;by_cases ap:l1<l2
    ·have ay:decide ((l1:Int)<(l2:Int))=true:=ZZh (by omega)
     have af:decide (l1<l2)=true:=ZZh ap;go_wp2_with fail;refine (aw.out (m - x) ak.out.1 (li - 1) (ZZa _) hl bm.1 (by omega) (by omega) (by omega) (aI.out.perm aa.out.perm).nd (aI.out.lowL aa) al).mono ?_;rintro e w3 ⟨r,rfl,M3,p3,s3,ab,ac⟩;have ah:=Qaa (aI.out.left aa p3 s3);have ae:=Qaa ab;have ag:=Qaa (ai.out.trans ac);clear p3 s3 ab ac;go_wp2;go_roundw
     case rel=>exact ⟨ag,m+1,y,li - 1,_,z,M3,by go_num,rfl,rfl,rfl,rfl,by omega,by omega,ah,ae⟩
     case measure=>first | (simp [zI];done) | (simp [zI];omega)
    ·have ay:decide ((l1:Int)<(l2:Int))=false:=ZZg (by omega)
     have af:decide (l1<l2)=false:=ZZg ap;go_wp2_with fail;refine (aw.out (y - (m+1)) ak.out.2 (a:=m+1) (b:=y) (li - 1) (ZZa _) hl (by omega) (by omega) (by omega) (by omega) (aI.out.perm aa.out.perm).nd aa.out.lowR al).mono ?_;rintro e w3 ⟨r,rfl,M3,p3,s3,ab,ac⟩;have ah:=Qaa (aI.out.right aa p3 s3);have ae:=Qaa ab;have ag:=Qaa (ai.out.trans ac);clear p3 s3 ab ac;go_wp2;go_roundw
     case rel=>exact ⟨ag,x,m,li - 1,_,z,M3,rfl,rfl,rfl,rfl,rfl,by omega,by omega,ah,ae⟩
     case measure=>first | (simp [zI];done) | (simp [zI];omega)
  | true=>
   go_wp2_with fail;refine (Qk7 hl (a:=x) (b:=y) (by omega) (by omega) HM).mono ?_;rintro e a4 ⟨q,h,rfl,aC,aD,hh,aT⟩;have av:=Qaa (HM.out.below HM.out.lt.2 aT);have aE:=Qaa (HB.out.trans (aT.mono (Nat.le_of_lt (Nat.lt_of_le_of_lt HM.out.lt.1 HM.out.lt.2))));clear aT;have dh:(h == 2)=false:=ZZf.2 (by omega)
   cases q9 with
   | false=>
    clear hh;by_cases aH:x=0
    ·have dx:decide ((0:Int)<(x:Int))=false:=ZZg (by omega)
     have aS:decide (0<x)=false:=ZZg (by omega);clear aH;go_wp2
     go_quiet (first | (go_at_call 334;refine Calls.quiet_of_same (Qav _ _ _)))
     go_wp2_with fail;generalize hwz:a4.drewN nq=W5;have a6:Hid (RowU W5 B g n c M):=by rw [<- hwz];exact av.out.drews _
     have bl:Hid (Below B w W5):=by rw [<- hwz];exact Qah aE _
     clear hwz;refine (QdB hl aC aD (by omega) a6).mono ?_;rintro e w2 ⟨m,z,rfl,M2,ad,aq,ar⟩;have aa:=Qaa ad;have bm:x<=m/\m<y:=⟨ad.am,ad.mb⟩;have al:=Qaa aq;have ai:=Qaa (bl.out.trans ar);clear ad aq ar;obtain ⟨l1,an⟩:∃ l1,l1=m - x:=⟨_,rfl⟩;obtain ⟨l2,au⟩:∃ l2,l2=y - m:=⟨_,rfl⟩;obtain ⟨l3,aj⟩:∃ l3,l3=l / 8:=⟨_,rfl⟩;have f1:(m:Int) - (x:Int)=(l1:Int):=by omega
     have f2:(y:Int) - (m:Int)=(l2:Int):=by omega
     have f3:(l:Int).tdiv 8=(l3:Int):=by rw [Int.tdiv_eq_ediv_of_nonneg (by omega)];omega
     have v1:IntKind.i64.wrap (l1:Int)=l1:=ZZi _ ⟨by omega,by omega⟩;have v2:IntKind.i64.wrap (l2:Int)=l2:=ZZi _ ⟨by omega,by omega⟩;have v3:IntKind.i64.wrap (l3:Int)=l3:=ZZi _ ⟨by omega,by omega⟩;have vm:IntKind.i64.wrap ((m:Int)+1)=(m:Int)+1:=ZZi _ ⟨by omega,by omega⟩;have aR:=Qaa (And.intro an (And.intro au aj));have aO:l<=N:=by have:=HL.out;omega
     have aB:=HL.out;have ao:m - x<N/\y - (m+1)<N:=by omega
     have ak:=Qaa ao;clear aB ao an au aj;by_cases ap:l1<l2
     ·have ay:decide ((l1:Int)<(l2:Int))=true:=ZZh (by omega)
      have af:decide (l1<l2)=true:=ZZh ap;go_wp2_with fail;refine (aw.out (m - x) ak.out.1 (li) (ZZa _) hl bm.1 (by omega) (by omega) (by omega) (HQ.out.perm aa.out.perm).nd (HQ.out.lowL aa) al).mono ?_;rintro e w3 ⟨r,rfl,M3,p3,s3,ab,ac⟩;have ah:=Qaa (HQ.out.left aa p3 s3);have ae:=Qaa ab;have ag:=Qaa (ai.out.trans ac);clear p3 s3 ab ac;go_wp2;go_roundw
      case rel=>exact ⟨ag,m+1,y,li,_,z,M3,by go_num,rfl,rfl,rfl,rfl,by omega,by omega,ah,ae⟩
      case measure=>first | (simp [zI];done) | (simp [zI];omega)
     ·have ay:decide ((l1:Int)<(l2:Int))=false:=ZZg (by omega)
      have af:decide (l1<l2)=false:=ZZg ap;go_wp2_with fail;refine (aw.out (y - (m+1)) ak.out.2 (a:=m+1) (b:=y) (li) (ZZa _) hl (by omega) (by omega) (by omega) (by omega) (HQ.out.perm aa.out.perm).nd aa.out.lowR al).mono ?_;rintro e w3 ⟨r,rfl,M3,p3,s3,ab,ac⟩;have ah:=Qaa (HQ.out.right aa p3 s3);have ae:=Qaa ab;have ag:=Qaa (ai.out.trans ac);clear p3 s3 ab ac;go_wp2;go_roundw
      case rel=>exact ⟨ag,x,m,li,_,z,M3,rfl,rfl,rfl,rfl,rfl,by omega,by omega,ah,ae⟩
      case measure=>first | (simp [zI];done) | (simp [zI];omega)
    ·have dx:decide ((0:Int)<(x:Int))=true:=ZZh (by omega)
     have aS:decide (0<x)=true:=ZZh (by omega);obtain ⟨x1,aF⟩:∃ x1,x1=x - 1:=⟨_,rfl⟩;have ex:(x:Int) - 1=(x1:Int):=by omega
     have ux:IntKind.i64.wrap (x1:Int)=x1:=ZZi _ ⟨by omega,by omega⟩;obtain ⟨vx,az⟩:∃ v,v=M[x1]!:=⟨_,rfl⟩;obtain ⟨vq,aA⟩:∃ v,v=M[q]!:=⟨_,rfl⟩;have aU:x1<n:=by omega
     have aQ:q<n:=by omega
     have aM:=av.out.cell aU az;have aP:=av.out.cell aQ aA;have dl:decide (vx<vq)=true:=decide_eq_true (by rw [az,aA,aF];exact HQ.out.less (by omega) aC aD);clear aF az aA aH;go_wp2
     go_quiet (first | (go_at_call 334;refine Calls.quiet_of_same (Qav _ _ _)))
     go_wp2_with fail;generalize hwz:a4.drewN nq=W6;have bc:Hid (RowU W6 B g n c M):=by rw [<- hwz];exact av.out.drews _
     have a9:Hid (Below B w W6):=by rw [<- hwz];exact Qah aE _
     clear hwz
     try simp only [dl]
     clear dl aM aP;refine (QdB hl aC aD (by omega) bc).mono ?_;rintro e w2 ⟨m,z,rfl,M2,ad,aq,ar⟩;have aa:=Qaa ad;have bm:x<=m/\m<y:=⟨ad.am,ad.mb⟩;have al:=Qaa aq;have ai:=Qaa (a9.out.trans ar);clear ad aq ar;obtain ⟨l1,an⟩:∃ l1,l1=m - x:=⟨_,rfl⟩;obtain ⟨l2,au⟩:∃ l2,l2=y - m:=⟨_,rfl⟩;obtain ⟨l3,aj⟩:∃ l3,l3=l / 8:=⟨_,rfl⟩;have f1:(m:Int) - (x:Int)=(l1:Int):=by omega
     have f2:(y:Int) - (m:Int)=(l2:Int):=by omega
     have f3:(l:Int).tdiv 8=(l3:Int):=by rw [Int.tdiv_eq_ediv_of_nonneg (by omega)];omega
     have v1:IntKind.i64.wrap (l1:Int)=l1:=ZZi _ ⟨by omega,by omega⟩;have v2:IntKind.i64.wrap (l2:Int)=l2:=ZZi _ ⟨by omega,by omega⟩;have v3:IntKind.i64.wrap (l3:Int)=l3:=ZZi _ ⟨by omega,by omega⟩;have vm:IntKind.i64.wrap ((m:Int)+1)=(m:Int)+1:=ZZi _ ⟨by omega,by omega⟩;have aR:=Qaa (And.intro an (And.intro au aj));have aO:l<=N:=by have:=HL.out;omega
     have aB:=HL.out;have ao:m - x<N/\y - (m+1)<N:=by omega
     have ak:=Qaa ao;clear aB ao an au aj;by_cases ap:l1<l2
     ·have ay:decide ((l1:Int)<(l2:Int))=true:=ZZh (by omega)
      have af:decide (l1<l2)=true:=ZZh ap;go_wp2_with fail;refine (aw.out (m - x) ak.out.1 (li) (ZZa _) hl bm.1 (by omega) (by omega) (by omega) (HQ.out.perm aa.out.perm).nd (HQ.out.lowL aa) al).mono ?_;rintro e w3 ⟨r,rfl,M3,p3,s3,ab,ac⟩;have ah:=Qaa (HQ.out.left aa p3 s3);have ae:=Qaa ab;have ag:=Qaa (ai.out.trans ac);clear p3 s3 ab ac;go_wp2;go_roundw
      case rel=>exact ⟨ag,m+1,y,li,_,z,M3,by go_num,rfl,rfl,rfl,rfl,by omega,by omega,ah,ae⟩
      case measure=>first | (simp [zI];done) | (simp [zI];omega)
     ·have ay:decide ((l1:Int)<(l2:Int))=false:=ZZg (by omega)
      have af:decide (l1<l2)=false:=ZZg ap;go_wp2_with fail;refine (aw.out (y - (m+1)) ak.out.2 (a:=m+1) (b:=y) (li) (ZZa _) hl (by omega) (by omega) (by omega) (by omega) (HQ.out.perm aa.out.perm).nd aa.out.lowR al).mono ?_;rintro e w3 ⟨r,rfl,M3,p3,s3,ab,ac⟩;have ah:=Qaa (HQ.out.right aa p3 s3);have ae:=Qaa ab;have ag:=Qaa (ai.out.trans ac);clear p3 s3 ab ac;go_wp2;go_roundw
      case rel=>exact ⟨ag,x,m,li,_,z,M3,rfl,rfl,rfl,rfl,rfl,by omega,by omega,ah,ae⟩
      case measure=>first | (simp [zI];done) | (simp [zI];omega)
   | true=>
    rcases hh with rfl | rfl
    ·clear dh
     by_cases aH:x=0
     ·have dx:decide ((0:Int)<(x:Int))=false:=ZZg (by omega)
      have aS:decide (0<x)=false:=ZZg (by omega);clear aH;go_wp2
      go_quiet (first | (go_at_call 334;refine Calls.quiet_of_same (Qav _ _ _)))
      go_wp2_with fail;generalize hwz:a4.drewN nq=W7;have bb:Hid (RowU W7 B g n c M):=by rw [<- hwz];exact av.out.drews _
      have bj:Hid (Below B w W7):=by rw [<- hwz];exact Qah aE _
      clear hwz;refine (QdB hl aC aD (by omega) bb).mono ?_;rintro e w2 ⟨m,z,rfl,M2,ad,aq,ar⟩;have aa:=Qaa ad;have bm:x<=m/\m<y:=⟨ad.am,ad.mb⟩;have al:=Qaa aq;have ai:=Qaa (bj.out.trans ar);clear ad aq ar;obtain ⟨l1,an⟩:∃ l1,l1=m - x:=⟨_,rfl⟩;obtain ⟨l2,au⟩:∃ l2,l2=y - m:=⟨_,rfl⟩;obtain ⟨l3,aj⟩:∃ l3,l3=l / 8:=⟨_,rfl⟩;have f1:(m:Int) - (x:Int)=(l1:Int):=by omega
      have f2:(y:Int) - (m:Int)=(l2:Int):=by omega
      have f3:(l:Int).tdiv 8=(l3:Int):=by rw [Int.tdiv_eq_ediv_of_nonneg (by omega)];omega
      have v1:IntKind.i64.wrap (l1:Int)=l1:=ZZi _ ⟨by omega,by omega⟩;have v2:IntKind.i64.wrap (l2:Int)=l2:=ZZi _ ⟨by omega,by omega⟩;have v3:IntKind.i64.wrap (l3:Int)=l3:=ZZi _ ⟨by omega,by omega⟩;have vm:IntKind.i64.wrap ((m:Int)+1)=(m:Int)+1:=ZZi _ ⟨by omega,by omega⟩;have aR:=Qaa (And.intro an (And.intro au aj));have aO:l<=N:=by have:=HL.out;omega
      have aB:=HL.out;have ao:m - x<N/\y - (m+1)<N:=by omega
      have ak:=Qaa ao;clear aB ao an au aj;by_cases ap:l1<l2
      ·have ay:decide ((l1:Int)<(l2:Int))=true:=ZZh (by omega)
       have af:decide (l1<l2)=true:=ZZh ap;go_wp2_with fail;refine (aw.out (m - x) ak.out.1 (li) (ZZa _) hl bm.1 (by omega) (by omega) (by omega) (HQ.out.perm aa.out.perm).nd (HQ.out.lowL aa) al).mono ?_;rintro e w3 ⟨r,rfl,M3,p3,s3,ab,ac⟩;have ah:=Qaa (HQ.out.left aa p3 s3);have ae:=Qaa ab;have ag:=Qaa (ai.out.trans ac);clear p3 s3 ab ac;go_wp2;go_roundw
       case rel=>exact ⟨ag,m+1,y,li,_,z,M3,by go_num,rfl,rfl,rfl,rfl,by omega,by omega,ah,ae⟩
       case measure=>first | (simp [zI];done) | (simp [zI];omega)
      ·have ay:decide ((l1:Int)<(l2:Int))=false:=ZZg (by omega)
       have af:decide (l1<l2)=false:=ZZg ap;go_wp2_with fail;refine (aw.out (y - (m+1)) ak.out.2 (a:=m+1) (b:=y) (li) (ZZa _) hl (by omega) (by omega) (by omega) (by omega) (HQ.out.perm aa.out.perm).nd aa.out.lowR al).mono ?_;rintro e w3 ⟨r,rfl,M3,p3,s3,ab,ac⟩;have ah:=Qaa (HQ.out.right aa p3 s3);have ae:=Qaa ab;have ag:=Qaa (ai.out.trans ac);clear p3 s3 ab ac;go_wp2;go_roundw
       case rel=>exact ⟨ag,x,m,li,_,z,M3,rfl,rfl,rfl,rfl,rfl,by omega,by omega,ah,ae⟩
       case measure=>first | (simp [zI];done) | (simp [zI];omega)
     ·have dx:decide ((0:Int)<(x:Int))=true:=ZZh (by omega)
      have aS:decide (0<x)=true:=ZZh (by omega);obtain ⟨x1,aF⟩:∃ x1,x1=x - 1:=⟨_,rfl⟩;have ex:(x:Int) - 1=(x1:Int):=by omega
      have ux:IntKind.i64.wrap (x1:Int)=x1:=ZZi _ ⟨by omega,by omega⟩;obtain ⟨vx,az⟩:∃ v,v=M[x1]!:=⟨_,rfl⟩;obtain ⟨vq,aA⟩:∃ v,v=M[q]!:=⟨_,rfl⟩;have aU:x1<n:=by omega
      have aQ:q<n:=by omega
      have aM:=av.out.cell aU az;have aP:=av.out.cell aQ aA;have dl:decide (vx<vq)=true:=decide_eq_true (by rw [az,aA,aF];exact HQ.out.less (by omega) aC aD);clear aF az aA aH;go_wp2
      go_quiet (first | (go_at_call 334;refine Calls.quiet_of_same (Qav _ _ _)))
      go_wp2_with fail;generalize hwz:a4.drewN nq=W8;have bg:Hid (RowU W8 B g n c M):=by rw [<- hwz];exact av.out.drews _
      have bh:Hid (Below B w W8):=by rw [<- hwz];exact Qah aE _
      clear hwz
      try simp only [dl]
      clear dl aM aP;refine (QdB hl aC aD (by omega) bg).mono ?_;rintro e w2 ⟨m,z,rfl,M2,ad,aq,ar⟩;have aa:=Qaa ad;have bm:x<=m/\m<y:=⟨ad.am,ad.mb⟩;have al:=Qaa aq;have ai:=Qaa (bh.out.trans ar);clear ad aq ar;obtain ⟨l1,an⟩:∃ l1,l1=m - x:=⟨_,rfl⟩;obtain ⟨l2,au⟩:∃ l2,l2=y - m:=⟨_,rfl⟩;obtain ⟨l3,aj⟩:∃ l3,l3=l / 8:=⟨_,rfl⟩;have f1:(m:Int) - (x:Int)=(l1:Int):=by omega
      have f2:(y:Int) - (m:Int)=(l2:Int):=by omega
      have f3:(l:Int).tdiv 8=(l3:Int):=by rw [Int.tdiv_eq_ediv_of_nonneg (by omega)];omega
      have v1:IntKind.i64.wrap (l1:Int)=l1:=ZZi _ ⟨by omega,by omega⟩;have v2:IntKind.i64.wrap (l2:Int)=l2:=ZZi _ ⟨by omega,by omega⟩;have v3:IntKind.i64.wrap (l3:Int)=l3:=ZZi _ ⟨by omega,by omega⟩;have vm:IntKind.i64.wrap ((m:Int)+1)=(m:Int)+1:=ZZi _ ⟨by omega,by omega⟩;have aR:=Qaa (And.intro an (And.intro au aj));have aO:l<=N:=by have:=HL.out;omega
      have aB:=HL.out;have ao:m - x<N/\y - (m+1)<N:=by omega
      have ak:=Qaa ao;clear aB ao an au aj;by_cases ap:l1<l2
      ·have ay:decide ((l1:Int)<(l2:Int))=true:=ZZh (by omega)
       have af:decide (l1<l2)=true:=ZZh ap;go_wp2_with fail;refine (aw.out (m - x) ak.out.1 (li) (ZZa _) hl bm.1 (by omega) (by omega) (by omega) (HQ.out.perm aa.out.perm).nd (HQ.out.lowL aa) al).mono ?_;rintro e w3 ⟨r,rfl,M3,p3,s3,ab,ac⟩;have ah:=Qaa (HQ.out.left aa p3 s3);have ae:=Qaa ab;have ag:=Qaa (ai.out.trans ac);clear p3 s3 ab ac;go_wp2;go_roundw
       case rel=>exact ⟨ag,m+1,y,li,_,z,M3,by go_num,rfl,rfl,rfl,rfl,by omega,by omega,ah,ae⟩
       case measure=>first | (simp [zI];done) | (simp [zI];omega)
      ·have ay:decide ((l1:Int)<(l2:Int))=false:=ZZg (by omega)
       have af:decide (l1<l2)=false:=ZZg ap;go_wp2_with fail;refine (aw.out (y - (m+1)) ak.out.2 (a:=m+1) (b:=y) (li) (ZZa _) hl (by omega) (by omega) (by omega) (by omega) (HQ.out.perm aa.out.perm).nd aa.out.lowR al).mono ?_;rintro e w3 ⟨r,rfl,M3,p3,s3,ab,ac⟩;have ah:=Qaa (HQ.out.right aa p3 s3);have ae:=Qaa ab;have ag:=Qaa (ai.out.trans ac);clear p3 s3 ab ac;go_wp2;go_roundw
       case rel=>exact ⟨ag,x,m,li,_,z,M3,rfl,rfl,rfl,rfl,rfl,by omega,by omega,ah,ae⟩
       case measure=>first | (simp [zI];done) | (simp [zI];omega)
    ·clear dh
     go_wp2_with fail;refine (Qmm hl (a:=x) (b:=y) (by omega) (by omega) av).mono ?_;rintro e a5 ⟨z,rfl,bi,mq,be⟩;have aG:Hid (RowU a5 B g n c M):=by rw [be];exact av.out.drews _
     have aN:Hid (Below B w a5):=by rw [be];exact Qah aE _
     clear be
     cases z with
     | true=>
      have HF:=Qaa (HQ.out.fin M (permIn_refl _ _ _) (bi rfl));clear bi;go_wp2
      (try simp only [Exit.inBlock,Exit.then]);refine bodyPost_ret (results_none rfl _ _ _) rfl ?_
      exact ⟨_,rfl,M,HF.out.1,HF.out.2,aG,aN⟩
     | false=>
      clear bi;by_cases aH:x=0
      ·have dx:decide ((0:Int)<(x:Int))=false:=ZZg (by omega)
       have aS:decide (0<x)=false:=ZZg (by omega);clear aH;go_wp2
       go_quiet (first | (go_at_call 334;refine Calls.quiet_of_same (Qav _ _ _)))
       go_wp2_with fail;generalize hwz:a5.drewN nq=W10;have aX:Hid (RowU W10 B g n c M):=by rw [<- hwz];exact aG.out.drews _
       have aW:Hid (Below B w W10):=by rw [<- hwz];exact Qah aN _
       clear hwz;refine (QdB hl aC aD (by omega) aX).mono ?_;rintro e w2 ⟨m,z,rfl,M2,ad,aq,ar⟩;have aa:=Qaa ad;have bm:x<=m/\m<y:=⟨ad.am,ad.mb⟩;have al:=Qaa aq;have ai:=Qaa (aW.out.trans ar);clear ad aq ar;obtain ⟨l1,an⟩:∃ l1,l1=m - x:=⟨_,rfl⟩;obtain ⟨l2,au⟩:∃ l2,l2=y - m:=⟨_,rfl⟩;obtain ⟨l3,aj⟩:∃ l3,l3=l / 8:=⟨_,rfl⟩;have f1:(m:Int) - (x:Int)=(l1:Int):=by omega
       have f2:(y:Int) - (m:Int)=(l2:Int):=by omega
       have f3:(l:Int).tdiv 8=(l3:Int):=by rw [Int.tdiv_eq_ediv_of_nonneg (by omega)];omega
       have v1:IntKind.i64.wrap (l1:Int)=l1:=ZZi _ ⟨by omega,by omega⟩;have v2:IntKind.i64.wrap (l2:Int)=l2:=ZZi _ ⟨by omega,by omega⟩;have v3:IntKind.i64.wrap (l3:Int)=l3:=ZZi _ ⟨by omega,by omega⟩;have vm:IntKind.i64.wrap ((m:Int)+1)=(m:Int)+1:=ZZi _ ⟨by omega,by omega⟩;have aR:=Qaa (And.intro an (And.intro au aj));have aO:l<=N:=by have:=HL.out;omega
       have aB:=HL.out;have ao:m - x<N/\y - (m+1)<N:=by omega
       have ak:=Qaa ao;clear aB ao an au aj;by_cases ap:l1<l2
       ·have ay:decide ((l1:Int)<(l2:Int))=true:=ZZh (by omega)
        have af:decide (l1<l2)=true:=ZZh ap;go_wp2_with fail;refine (aw.out (m - x) ak.out.1 (li) (ZZa _) hl bm.1 (by omega) (by omega) (by omega) (HQ.out.perm aa.out.perm).nd (HQ.out.lowL aa) al).mono ?_;rintro e w3 ⟨r,rfl,M3,p3,s3,ab,ac⟩;have ah:=Qaa (HQ.out.left aa p3 s3);have ae:=Qaa ab;have ag:=Qaa (ai.out.trans ac);clear p3 s3 ab ac;go_wp2;go_roundw
        case rel=>exact ⟨ag,m+1,y,li,_,z,M3,by go_num,rfl,rfl,rfl,rfl,by omega,by omega,ah,ae⟩
        case measure=>first | (simp [zI];done) | (simp [zI];omega)
       ·have ay:decide ((l1:Int)<(l2:Int))=false:=ZZg (by omega)
        have af:decide (l1<l2)=false:=ZZg ap;go_wp2_with fail;refine (aw.out (y - (m+1)) ak.out.2 (a:=m+1) (b:=y) (li) (ZZa _) hl (by omega) (by omega) (by omega) (by omega) (HQ.out.perm aa.out.perm).nd aa.out.lowR al).mono ?_;rintro e w3 ⟨r,rfl,M3,p3,s3,ab,ac⟩;have ah:=Qaa (HQ.out.right aa p3 s3);have ae:=Qaa ab;have ag:=Qaa (ai.out.trans ac);clear p3 s3 ab ac;go_wp2;go_roundw
        case rel=>exact ⟨ag,x,m,li,_,z,M3,rfl,rfl,rfl,rfl,rfl,by omega,by omega,ah,ae⟩
        case measure=>first | (simp [zI];done) | (simp [zI];omega)
      ·have dx:decide ((0:Int)<(x:Int))=true:=ZZh (by omega)
       have aS:decide (0<x)=true:=ZZh (by omega);obtain ⟨x1,aF⟩:∃ x1,x1=x - 1:=⟨_,rfl⟩;have ex:(x:Int) - 1=(x1:Int):=by omega
       have ux:IntKind.i64.wrap (x1:Int)=x1:=ZZi _ ⟨by omega,by omega⟩;obtain ⟨vx,az⟩:∃ v,v=M[x1]!:=⟨_,rfl⟩;obtain ⟨vq,aA⟩:∃ v,v=M[q]!:=⟨_,rfl⟩;have aU:x1<n:=by omega
       have aQ:q<n:=by omega
       have aM:=aG.out.cell aU az;have aP:=aG.out.cell aQ aA;have dl:decide (vx<vq)=true:=decide_eq_true (by rw [az,aA,aF];exact HQ.out.less (by omega) aC aD);clear aF az aA aH;go_wp2
       go_quiet (first | (go_at_call 334;refine Calls.quiet_of_same (Qav _ _ _)))
       go_wp2_with fail;generalize hwz:a5.drewN nq=W11;have aZ:Hid (RowU W11 B g n c M):=by rw [<- hwz];exact aG.out.drews _
       have a1:Hid (Below B w W11):=by rw [<- hwz];exact Qah aN _
       clear hwz
       try simp only [dl]
       clear dl aM aP;refine (QdB hl aC aD (by omega) aZ).mono ?_;rintro e w2 ⟨m,z,rfl,M2,ad,aq,ar⟩;have aa:=Qaa ad;have bm:x<=m/\m<y:=⟨ad.am,ad.mb⟩;have al:=Qaa aq;have ai:=Qaa (a1.out.trans ar);clear ad aq ar;obtain ⟨l1,an⟩:∃ l1,l1=m - x:=⟨_,rfl⟩;obtain ⟨l2,au⟩:∃ l2,l2=y - m:=⟨_,rfl⟩;obtain ⟨l3,aj⟩:∃ l3,l3=l / 8:=⟨_,rfl⟩;have f1:(m:Int) - (x:Int)=(l1:Int):=by omega
       have f2:(y:Int) - (m:Int)=(l2:Int):=by omega
       have f3:(l:Int).tdiv 8=(l3:Int):=by rw [Int.tdiv_eq_ediv_of_nonneg (by omega)];omega
       have v1:IntKind.i64.wrap (l1:Int)=l1:=ZZi _ ⟨by omega,by omega⟩;have v2:IntKind.i64.wrap (l2:Int)=l2:=ZZi _ ⟨by omega,by omega⟩;have v3:IntKind.i64.wrap (l3:Int)=l3:=ZZi _ ⟨by omega,by omega⟩;have vm:IntKind.i64.wrap ((m:Int)+1)=(m:Int)+1:=ZZi _ ⟨by omega,by omega⟩;have aR:=Qaa (And.intro an (And.intro au aj));have aO:l<=N:=by have:=HL.out;omega
       have aB:=HL.out;have ao:m - x<N/\y - (m+1)<N:=by omega
       have ak:=Qaa ao;clear aB ao an au aj;by_cases ap:l1<l2
       ·have ay:decide ((l1:Int)<(l2:Int))=true:=ZZh (by omega)
        have af:decide (l1<l2)=true:=ZZh ap;go_wp2_with fail;refine (aw.out (m - x) ak.out.1 (li) (ZZa _) hl bm.1 (by omega) (by omega) (by omega) (HQ.out.perm aa.out.perm).nd (HQ.out.lowL aa) al).mono ?_;rintro e w3 ⟨r,rfl,M3,p3,s3,ab,ac⟩;have ah:=Qaa (HQ.out.left aa p3 s3);have ae:=Qaa ab;have ag:=Qaa (ai.out.trans ac);clear p3 s3 ab ac;go_wp2;go_roundw
        case rel=>exact ⟨ag,m+1,y,li,_,z,M3,by go_num,rfl,rfl,rfl,rfl,by omega,by omega,ah,ae⟩
        case measure=>first | (simp [zI];done) | (simp [zI];omega)
       ·have ay:decide ((l1:Int)<(l2:Int))=false:=ZZg (by omega)
        have af:decide (l1<l2)=false:=ZZg ap;go_wp2_with fail;refine (aw.out (y - (m+1)) ak.out.2 (a:=m+1) (b:=y) (li) (ZZa _) hl (by omega) (by omega) (by omega) (by omega) (HQ.out.perm aa.out.perm).nd aa.out.lowR al).mono ?_;rintro e w3 ⟨r,rfl,M3,p3,s3,ab,ac⟩;have ah:=Qaa (HQ.out.right aa p3 s3);have ae:=Qaa ab;have ag:=Qaa (ai.out.trans ac);clear p3 s3 ab ac;go_wp2;go_roundw
        case rel=>exact ⟨ag,x,m,li,_,z,M3,rfl,rfl,rfl,rfl,rfl,by omega,by omega,ah,ae⟩
        case measure=>first | (simp [zI];done) | (simp [zI];omega)
theorem QqY {w:World} {B g n c:Nat} {D:Array Int} (hl:n<=40) (h1:1<=n) (hnd:D.toList.Nodup) (hR:RowU w B g n c D) :
  Calls Tryz.prog 323 #[.slice (some ⟨g,0,none⟩) n c] w fun e w'=>∃ r,e=.returned r/\∃ M:Array Int,M.toList.Perm D.toList/\SortedIn ltInt 0 n M/\RowU w' B g n c M/\Below B w w':=by
 have HR:=Qaa hR;have ad:D.size=n:=hR.1;have u1:IntKind.u64.wrap (n:Int)=n:=IntWalk.u64_in _ ⟨by omega,by omega⟩;clear hR;go_enter Tryz.func323,Tryz.ntmps323;go_wp2_with fail;refine (QhT n h1 hl _).mono ?_;rintro e w1 ⟨v,rfl,hv,hw⟩;obtain rfl:=hw.symm;have ac:=hv.1;clear hw hv;go_wp2_with fail;refine (c_pdqU n (a:=0) (b:=n) (v:Int) (by omega) hl (ZZj _) (ZZa _) (by omega) (by omega) hnd (.inl rfl) HR).mono ?_;rintro e w2 ⟨r,rfl,M,p1,s1,aa,ab⟩;have HF:=Qaa (And.intro (Qfm p1 (by omega)) (And.intro s1 (And.intro aa ab)));clear p1 s1 aa ab;go_wp2
 go_end0
 exact ⟨_,rfl,M,HF.out.1,HF.out.2.1,HF.out.2.2.1,HF.out.2.2.2⟩
end Go.Proofs.YtandnmpllheniaaGreatDoor
