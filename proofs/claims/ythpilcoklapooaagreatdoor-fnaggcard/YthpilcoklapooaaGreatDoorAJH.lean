/-
 slices.Sort at uint64, of at most forty numbers: what stands in a pattern is scattered.
-/
import Derived.Test.YthpilcoklapooaaGreatDoorAJF
namespace Go.Proofs.YthpilcoklapooaaGreatDoor
set_option linter.unusedVariables false
set_option linter.unusedSimpArgs false
open Go.ChangeShapes Go.WideShapes Go.ChangeAt Go.RowKit Go.PlainAid
open Go.Sort (swp ltInt PermIn SortedIn)
set_option maxRecDepth 10000
/-- What a length's bits come to: between the length and twice it. -/
def LenIs (x:Nat) (v:Nat):Prop:=v≤6∧2 ^ v≤2*x∧x<2 ^ v
set_option maxRecDepth 100000 in
set_option maxHeartbeats 16000000 in
theorem c_Len64U (x:Nat) (h0:1≤x) (h:x≤40) (w:World) :
  Calls Tryz.prog 207 #[.int .u64 x] w fun e w'=>∃ v:Nat,e=.returned (.int .i64 v)∧LenIs x v∧w'=w:=by
 have hc:x=1∨x=2∨x=3∨x=4∨x=5∨x=6∨x=7∨x=8∨x=9∨x=10∨x=11∨x=12∨x=13∨x=14∨x=15∨x=16∨x=17∨x=18∨x=19∨x=20∨x=21∨x=22∨x=23∨x=24∨x=25∨x=26∨x=27∨x=28∨x=29∨x=30∨x=31∨x=32∨x=33∨x=34∨x=35∨x=36∨x=37∨x=38∨x=39∨x=40:=by omega
 rcases hc with rfl | rfl | rfl | rfl | rfl | rfl | rfl | rfl | rfl | rfl | rfl | rfl | rfl | rfl | rfl | rfl | rfl | rfl | rfl | rfl | rfl | rfl | rfl | rfl | rfl | rfl | rfl | rfl | rfl | rfl | rfl | rfl | rfl | rfl | rfl | rfl | rfl | rfl | rfl | rfl
 all_goals
  go_enter Tryz.func207,Tryz.ntmps207
  go_wp2
  go_ret
  first
   | exact ⟨1,by kernel_rfl,⟨by decide,by decide,by decide⟩,rfl⟩
   | exact ⟨2,by kernel_rfl,⟨by decide,by decide,by decide⟩,rfl⟩
   | exact ⟨3,by kernel_rfl,⟨by decide,by decide,by decide⟩,rfl⟩
   | exact ⟨4,by kernel_rfl,⟨by decide,by decide,by decide⟩,rfl⟩
   | exact ⟨5,by kernel_rfl,⟨by decide,by decide,by decide⟩,rfl⟩
   | exact ⟨6,by kernel_rfl,⟨by decide,by decide,by decide⟩,rfl⟩
theorem c_bitsLenU (x:Nat) (h0:1≤x) (h:x≤40) (w:World) :
  Calls Tryz.prog 177 #[.int .u64 x] w fun e w'=>∃ v:Nat,e=.returned (.int .i64 v)∧LenIs x v∧w'=w:=by
 go_enter Tryz.func177,Tryz.ntmps177
 go_wp2_with (go_at_call 207;refine (c_Len64U _ h0 h _).mono ?_;rintro e w2 ⟨v,rfl,hv,hw⟩;obtain rfl:=hw.symm;have HV:=hide hv;clear hv)
 go_ret
 exact ⟨_,rfl,HV.out,rfl⟩
theorem c_powU (x:Nat) (h0:1≤x) (h:x≤40) (w:World) :
  Calls Tryz.prog 231 #[.int .i64 x] w fun e w'=>∃ v:Nat,e=.returned (.int .u64 ((2 ^ v:Nat):Int))∧LenIs x v∧w'=w:=by
 have u1:IntKind.u64.wrap (x:Int)=x:=IntWalk.u64_in _ ⟨by omega,by omega⟩
 go_enter Tryz.func231,Tryz.ntmps231
 go_wp2_with fail
 refine (c_bitsLenU x h0 h _).mono ?_
 rintro e w2 ⟨v,rfl,hv,hw⟩
 obtain rfl:=hw.symm
 have h6:v=0∨v=1∨v=2∨v=3∨v=4∨v=5∨v=6:=by have:=hv.1;omega
 have HV:=hide hv
 clear hv
 rcases h6 with rfl | rfl | rfl | rfl | rfl | rfl | rfl
 all_goals
  go_wp2
  go_ret
  exact ⟨_,rfl,HV.out,rfl⟩
theorem and_bd (r m:Int) (h0:0≤m) (h1:m<9223372036854775808):0≤bits BinOp.and IntKind.u64 r m∧bits BinOp.and IntKind.u64 r m≤m:=by
 have hb:((BitVec.ofInt 64 r &&& BitVec.ofInt 64 m).toNat:Int)≤m:=by
  have h2:(BitVec.ofInt 64 m).toNat=m.toNat:=by
   rw [BitVec.toNat_ofInt]
   have:m % ((2 ^ 64:Nat):Int)=m:=Int.emod_eq_of_lt h0 (by omega)
   rw [this]
  rw [BitVec.toNat_and,h2]
  have:=Nat.and_le_right (n:=(BitVec.ofInt 64 r).toNat) (m:=m.toNat)
  omega
 have e:bits BinOp.and IntKind.u64 r m=((BitVec.ofInt 64 r &&& BitVec.ofInt 64 m).toNat:Int):=by
  show IntKind.u64.wrap ((BitVec.ofInt 64 r &&& BitVec.ofInt 64 m).toNat:Int)=_
  exact IntWalk.u64_in _ ⟨by omega,by omega⟩
 rw [e]
 exact ⟨by omega,hb⟩
set_option maxHeartbeats 2000000 in
theorem c_xorU {w:World} (K:Nat) (s:Int) (hc:w.cell? ⟨K,0,none⟩=some (.int .u64 s)) (hf:w.frozen? ⟨K,0,none⟩=false) :
  Calls Tryz.prog 232 #[.pointer (some ⟨K,0,none⟩)] w fun e w'=>∃ v,e=.returned (.int .u64 v)∧w'.cell? ⟨K,0,none⟩=some (.int .u64 v)∧w'.frozen? ⟨K,0,none⟩=false∧Below K w w':=by
 obtain ⟨m1,e1⟩:∃ m1,bits BinOp.xor IntKind.u64 s (IntKind.u64.wrap (s*8192))=m1:=⟨_,rfl⟩
 obtain ⟨m2,e2⟩:∃ m2,bits BinOp.xor IntKind.u64 m1 (m1 / 128)=m2:=⟨_,rfl⟩
 obtain ⟨m3,e3⟩:∃ m3,bits BinOp.xor IntKind.u64 m2 (IntKind.u64.wrap (m2*131072))=m3:=⟨_,rfl⟩
 have c5:∀ x y z,(((w.setCell ⟨K,0,none⟩ x).setCell ⟨K,0,none⟩ y).setCell ⟨K,0,none⟩ z).cell? ⟨K,0,none⟩=some z:=fun x y z=>by
  have g1:=World.cell?_setCell_same _ _ x hc
  have g2:=World.cell?_setCell_same _ _ y g1
  exact World.cell?_setCell_same _ _ z g2
 go_enter Tryz.func232,Tryz.ntmps232
 go_wp2
 go_region
 go_wp2
 go_region
 go_wp2
 go_region
 go_wp2
 go_ret
 refine ⟨m3,rfl,c5 _ _ _,?_,?_⟩
 ·exact (World.frozen?_setCell _ _ _ _).trans ((World.frozen?_setCell _ _ _ _).trans ((World.frozen?_setCell _ _ _ _).trans hf))
 ·have h3:Below K w (((w.setCell ⟨K,0,none⟩ (.int .u64 m1)).setCell ⟨K,0,none⟩ (.int .u64 m2)).setCell ⟨K,0,none⟩ (.int .u64 m3)):=by
   refine Below.setCell ?_ (Nat.le_refl K) _
   refine Below.setCell ?_ (Nat.le_refl K) _
   refine Below.setCell ?_ (Nat.le_refl K) _
   exact Below.refl K w
  exact h3.drew.drew.drew
theorem RowU.far2 {w:World} {B g n c i j K:Nat} {D:Array Int} {x y u:Value} (h:RowU w B g n c D) (hK:g≠K) (hc:w.cell? ⟨K,0,none⟩=some u∧w.frozen? ⟨K,0,none⟩=false) (m:Nat) :
  (((w.drewN m).setCell ⟨g,i,none⟩ x).setCell ⟨g,j,none⟩ y).cell? ⟨K,0,none⟩=some u∧(((w.drewN m).setCell ⟨g,i,none⟩ x).setCell ⟨g,j,none⟩ y).frozen? ⟨K,0,none⟩=false:=
 ⟨(World.cell?_setCell_far _ _ _ _ hK).trans ((World.cell?_setCell_far _ _ _ _ hK).trans hc.1),(World.frozen?_setCell _ _ _ _).trans ((World.frozen?_setCell _ _ _ _).trans hc.2)⟩
set_option maxHeartbeats 4000000 in
theorem c_breakU {w:World} {B g n c a b:Nat} {D:Array Int} (hl:n≤40) (hab:a+8≤b) (hbn:b≤n) (hR:RowU w B g n c D) :
  Calls Tryz.prog 346 #[.slice (some ⟨g,0,none⟩) n c,.int .i64 a,.int .i64 b] w fun e w'=>∃ r,e=.returned r∧∃ M:Array Int,PermIn a b D M∧RowU w' B g n c M∧Below B w w':=by
 have HR:=hide hR
 have hgB:=hR.lt
 have hDn:D.size=n:=hR.1
 clear hR
 obtain ⟨l,el⟩:∃ l,l=b - a:=⟨_,rfl⟩
 have e1:(b:Int) - (a:Int)=(l:Int):=by omega
 have u1:IntKind.i64.wrap (l:Int)=l:=IntWalk.i64_in _ ⟨by omega,by omega⟩
 have u1b:IntKind.u64.wrap (l:Int)=l:=IntWalk.u64_in _ ⟨by omega,by omega⟩
 obtain ⟨q,eq⟩:∃ q,q=l / 4:=⟨_,rfl⟩
 have e2:(l:Int).tdiv 4=(q:Int):=by rw [Int.tdiv_eq_ediv_of_nonneg (by omega)];omega
 have u2:IntKind.i64.wrap (q:Int)=q:=IntWalk.i64_in _ ⟨by omega,by omega⟩
 have u3:IntKind.i64.wrap ((q:Int)*2)=(q:Int)*2:=IntWalk.i64_in _ ⟨by omega,by omega⟩
 obtain ⟨j,ej⟩:∃ j,j=a+q*2:=⟨_,rfl⟩
 have e4:(a:Int)+(q:Int)*2=(j:Int):=by omega
 have u6:IntKind.i64.wrap (j:Int)=j:=IntWalk.i64_in _ ⟨by omega,by omega⟩
 obtain ⟨j0,ej0⟩:∃ j0,j0=j - 1:=⟨_,rfl⟩
 have e5:(j:Int) - 1=(j0:Int):=by omega
 have u7:IntKind.i64.wrap (j0:Int)=j0:=IntWalk.i64_in _ ⟨by omega,by omega⟩
 have u8:IntKind.i64.wrap ((j:Int)+1)=(j:Int)+1:=IntWalk.i64_in _ ⟨by omega,by omega⟩
 have hjb:a≤j0∧j0+1=j∧j+1<b∧b=a+l∧8≤l:=by omega
 obtain ⟨b1,b2,b3,b4,b5⟩:=hjb
 have HQ:Hid (a≤j0∧j0+1=j∧j+1<b∧b=a+l∧8≤l):=⟨b1,b2,b3,b4,b5⟩
 have d1:decide ((8:Int)≤(l:Int))=true:=decide_eq_true (by omega)
 have l40:l≤40:=by omega
 clear el eq ej ej0 b2 b4
 go_enter Tryz.func346,Tryz.ntmps346
 go_wp2_with fail
 refine (c_powU l (by omega) l40 _).mono ?_
 rintro e w1 ⟨v,rfl,hv,hw⟩
 obtain rfl:=hw
 obtain ⟨P,hP⟩:∃ P,P=2 ^ v:=⟨_,rfl⟩
 rw [← hP]
 have hP1:P≤2*l∧l<P:=by rw [hP];exact hv.2
 have uP:IntKind.u64.wrap ((P:Int) - 1)=(P:Int) - 1:=IntWalk.u64_in _ ⟨by omega,by omega⟩
 clear hP hv
 generalize hW0:w.alloc (Obj.cells #[Value.int IntKind.u64 (l:Int)] 272)=W0
 have HR0:Hid (RowU W0 B g n c D):=by rw [← hW0];exact HR.out.below hgB.2 ((Below.refl _ _).alloc (Nat.le_refl _) _)
 have HB0:Hid (Below B w W0):=by rw [← hW0];exact (Below.refl B w).alloc (by omega) _
 have HC0:Hid (W0.cell? ⟨w.heap.size,0,none⟩=some (.int .u64 (l:Int))∧W0.frozen? ⟨w.heap.size,0,none⟩=false):=by rw [← hW0];exact ⟨by simp,by simp⟩
 generalize hK:w.heap.size=K at HC0 hgB ⊢
 clear hK hW0
 have HP0:Hid (PermIn a b D D):=Go.Sort.permIn_refl D a b
 go_wp2_with fail
 go_loopw [9] (fun vi wr=>Below B w wr∧∃ (i:Nat) (M:Array Int) (s:Int),vi=.int .i64 i∧j0≤i∧i≤j+2∧Hid (PermIn a b D M)∧Hid (RowU wr B g n c M)∧Hid (wr.cell? ⟨K,0,none⟩=some (.int .u64 s)∧wr.frozen? ⟨K,0,none⟩=false)) (fun vi wr=>100 - (Go.RowKit.intOf vi).toNat)
 case atStart=>exact ⟨HB0.out,j0,D,l,rfl,Nat.le_refl _,by have:=HQ.out;omega,HP0,HR0,HC0⟩
 case round=>
  clear HB0 HR0 HC0 HP0
  obtain ⟨hbel,i,M,s,rfl,hi0,hi1,HP,HM,HC⟩:=hrel
  have HB:=hide hbel
  clear hbel
  by_cases hlt:i≤j+1
  ·have d2:decide ((i:Int)≤(j:Int)+1)=true:=decide_eq_true (by omega)
   go_wp2_with fail
   refine (c_xorU K s HC.out.1 HC.out.2).mono ?_
   rintro e w2 ⟨v,rfl,hc2,hf2,hb2⟩
   have HM2:=hide (HM.out.below hgB.2 hb2)
   have HB2:=hide (HB.out.trans (hb2.mono (by omega)))
   have HC2:=hide (And.intro hc2 hf2)
   clear HM HB HC hb2 hc2 hf2
   obtain ⟨ho0,ho1⟩:=and_bd v ((P:Int) - 1) (by omega) (by omega)
   obtain ⟨o,eo⟩:∃ o:Nat,bits BinOp.and IntKind.u64 v ((P:Int) - 1)=(o:Int):=⟨(bits BinOp.and IntKind.u64 v ((P:Int) - 1)).toNat,by omega⟩
   rw [eo] at ho0 ho1
   have uo:IntKind.i64.wrap (o:Int)=o:=IntWalk.i64_in _ ⟨by omega,by omega⟩
   by_cases hol:l≤o
   ·have d3:decide ((l:Int)≤(o:Int))=true:=decide_eq_true (by omega)
    have d3N:decide (l≤o)=true:=decide_eq_true hol
    obtain ⟨r,er⟩:∃ r,r=o - l:=⟨_,rfl⟩
    have e7:(o:Int) - (l:Int)=(r:Int):=by omega
    have u9:IntKind.i64.wrap (r:Int)=r:=IntWalk.i64_in _ ⟨by omega,by omega⟩
    obtain ⟨t,et⟩:∃ t,t=a+r:=⟨_,rfl⟩
    have e8:(a:Int)+(r:Int)=(t:Int):=by omega
    have u10:IntKind.i64.wrap (t:Int)=t:=IntWalk.i64_in _ ⟨by omega,by omega⟩
    have htb:a≤t∧t<b∧a≤i∧i<b:=by have:=HQ.out;omega
    have HT:=hide htb
    have btn:t<n:=by omega
    have bin:i<n:=by omega
    obtain ⟨x,hx⟩:∃ x,x=M[i]!:=⟨_,rfl⟩
    obtain ⟨y,hy⟩:∃ y,y=M[t]!:=⟨_,rfl⟩
    have hcx:=HM2.out.cell bin hx
    have hcy:=HM2.out.cell btn hy
    have hcs:=HM2.out.cellS (i:=i) btn hy
    have hfx:=HM2.out.froz i
    have hfy:=HM2.out.froz t
    have HF:=hide (And.intro hx hy)
    have HP2:Hid (PermIn a b D (swp M i t)):=Go.Sort.permIn_trans _ _ _ _ _ HP.out (Go.Sort.swp_permIn M a b i t htb.2.2.1 htb.2.2.2 htb.1 htb.2.1 (by rw [HM2.out.1];exact hbn))
    clear hx hy er et htb ho0 ho1
    go_wp2
    go_region
    all_goals go_wp2
    go_roundw
    case rel=>exact ⟨HM2.out.bel HB2.out _,i+1,swp M i t,v,by go_num,by omega,by omega,HP2,(HM2.out.swap HF.out.1 HF.out.2 _:_),(HM2.out.far2 (Nat.ne_of_lt hgB.2) HC2.out _:_)⟩
    case measure=>first | (simp [Go.RowKit.intOf];done) | (simp [Go.RowKit.intOf];omega)
   ·have d3:decide ((l:Int)≤(o:Int))=false:=decide_eq_false (by omega)
    have d3N:decide (l≤o)=false:=decide_eq_false hol
    obtain ⟨r,er⟩:∃ r,r=o:=⟨_,rfl⟩
    obtain ⟨t,et⟩:∃ t,t=a+r:=⟨_,rfl⟩
    have e8:(a:Int)+(o:Int)=(t:Int):=by omega
    have u10:IntKind.i64.wrap (t:Int)=t:=IntWalk.i64_in _ ⟨by omega,by omega⟩
    have htb:a≤t∧t<b∧a≤i∧i<b:=by have:=HQ.out;omega
    have HT:=hide htb
    have btn:t<n:=by omega
    have bin:i<n:=by omega
    obtain ⟨x,hx⟩:∃ x,x=M[i]!:=⟨_,rfl⟩
    obtain ⟨y,hy⟩:∃ y,y=M[t]!:=⟨_,rfl⟩
    have hcx:=HM2.out.cell bin hx
    have hcy:=HM2.out.cell btn hy
    have hcs:=HM2.out.cellS (i:=i) btn hy
    have hfx:=HM2.out.froz i
    have hfy:=HM2.out.froz t
    have HF:=hide (And.intro hx hy)
    have HP2:Hid (PermIn a b D (swp M i t)):=Go.Sort.permIn_trans _ _ _ _ _ HP.out (Go.Sort.swp_permIn M a b i t htb.2.2.1 htb.2.2.2 htb.1 htb.2.1 (by rw [HM2.out.1];exact hbn))
    clear hx hy er et htb ho0 ho1
    go_wp2
    go_region
    all_goals go_wp2
    go_roundw
    case rel=>exact ⟨HM2.out.bel HB2.out _,i+1,swp M i t,v,by go_num,by omega,by omega,HP2,(HM2.out.swap HF.out.1 HF.out.2 _:_),(HM2.out.far2 (Nat.ne_of_lt hgB.2) HC2.out _:_)⟩
    case measure=>first | (simp [Go.RowKit.intOf];done) | (simp [Go.RowKit.intOf];omega)
  ·have d2:decide ((i:Int)≤(j:Int)+1)=false:=decide_eq_false (by omega)
   go_wp2
   go_end0
   exact ⟨_,rfl,M,HP.out,HM.out,HB.out⟩
end Go.Proofs.YthpilcoklapooaaGreatDoor
