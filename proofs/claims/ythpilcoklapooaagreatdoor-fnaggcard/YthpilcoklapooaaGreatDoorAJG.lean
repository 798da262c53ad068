/-
 slices.Sort at uint64, of at most forty numbers: the partition.
-/
import Derived.Test.YthpilcoklapooaaGreatDoorAJF
import Derived.Sort.Row
namespace Go.Proofs.YthpilcoklapooaaGreatDoor
set_option linter.unusedVariables false
set_option linter.unusedSimpArgs false
open Go.ChangeShapes Go.WideShapes Go.ChangeAt Go.RowKit Go.PlainAid
open Go.Sort (swp ltInt PermIn SortedIn)
set_option maxRecDepth 10000
theorem swp_at {d:Array Int} {i j t:Nat} (hi:i<d.size) (hj:j<d.size):(swp d i j)[t]! = if t=j then d[i]! else if t=i then d[j]! else d[t]!:=by
 unfold swp
 by_cases h1:t=j
 ·subst h1
  rw [if_pos rfl,Go.Sort.getElem!_set_same _ _ _ (by simpa using hj)]
 ·rw [if_neg h1,Go.Sort.getElem!_set_other _ _ _ _ h1]
  by_cases h2:t=i
  ·subst h2
   rw [if_pos rfl,Go.Sort.getElem!_set_same _ _ _ hi]
  ·rw [if_neg h2,Go.Sort.getElem!_set_other _ _ _ _ h2]
/-- What the two scans have found: less than p up to i, not less behind j. -/
structure PI (D:Array Int) (a b i j:Nat) (M:Array Int) (p:Int):Prop where
 perm:PermIn a b D M
 bd:b≤D.size
 hp:p=M[a]!
 ai:a<i
 ij:i≤j+1
 jb:j<b
 aj:a≤j
 L:∀ t,a<t→t<i→M[t]! < p
 R:∀ t,j<t→t<b→¬ M[t]! < p
theorem PI.start {D:Array Int} {a b q:Nat} (ha:a≤q) (hq:q<b) (hb:b≤D.size):PI D a b (a+1) (b - 1) (swp D a q) (D[q]!) where
 perm:=Go.Sort.swp_permIn D a b a q (Nat.le_refl _) (by omega) ha hq hb
 bd:=hb
 hp:=by
  rw [swp_at (by omega) (by omega)]
  by_cases e:a=q
  ·rw [if_pos e,e]
  ·rw [if_neg e,if_pos rfl]
 ai:=Nat.lt_succ_self _
 ij:=by omega
 jb:=by omega
 aj:=by omega
 L:=fun t h1 h2=>absurd h2 (by omega)
 R:=fun t h1 h2=>absurd h2 (by omega)
theorem PI.up {D M:Array Int} {a b i j:Nat} {p:Int} (h:PI D a b i j M p) (hij:i≤j) (hx:M[i]! < p):PI D a b (i+1) j M p:=
 ⟨h.perm,h.bd,h.hp,(by have:=h.ai;omega),(by omega),h.jb,h.aj,(fun t h1 h2=>by
   by_cases e:t=i
   ·subst e;exact hx
   ·exact h.L t h1 (by omega)),h.R⟩
theorem PI.down {D M:Array Int} {a b i k:Nat} {p:Int} (h:PI D a b i (k+1) M p) (hij:i≤k+1) (hx:¬ M[k+1]! < p):PI D a b i k M p:=
 ⟨h.perm,h.bd,h.hp,h.ai,(by omega),(by have:=h.jb;omega),(by have:=h.ai;omega),h.L,(fun t h1 h2=>by
   by_cases e:t=k+1
   ·subst e;exact hx
   ·exact h.R t (by omega) h2)⟩
theorem PI.swap {D M:Array Int} {a b i k:Nat} {p:Int} (h:PI D a b i (k+1) M p) (hij:i≤k+1) (hx:¬ M[i]! < p) (hy:M[k+1]! < p):PI D a b (i+1) k (swp M i (k+1)) p:=by
 have hs:M.size=D.size:=h.perm.1
 have hne:i≠k+1:=fun e=>hx (by rw [e];exact hy)
 have b1:=h.bd
 have b2:=h.jb
 have b3:=h.ai
 refine ⟨Go.Sort.permIn_trans _ _ _ _ _ h.perm (Go.Sort.swp_permIn M a b i (k+1) (by omega) (by omega) (by omega) b2 (by omega)),b1,?_,by omega,by omega,by omega,by omega,fun t h1 h2=>?_,fun t h1 h2=>?_⟩
 ·rw [swp_at (by omega) (by omega),if_neg (by omega),if_neg (by omega)];exact h.hp
 ·rw [swp_at (by omega) (by omega),if_neg (by omega)]
  by_cases e:t=i
  ·rw [if_pos e];exact hy
  ·rw [if_neg e];exact h.L t h1 (by omega)
 ·rw [swp_at (by omega) (by omega)]
  by_cases e:t=k+1
  ·rw [if_pos e];exact hx
  ·rw [if_neg e,if_neg (by omega)];exact h.R t (by omega) h2
/-- What a partition gives. -/
structure PO (D:Array Int) (a b m:Nat) (M:Array Int):Prop where
 am:a≤m
 mb:m<b
 perm:PermIn a b D M
 L:∀ t,a≤t→t<m→M[t]! < M[m]!
 R:∀ t,m<t→t<b→¬ M[t]! < M[m]!
theorem PI.fin {D M:Array Int} {a b i j:Nat} {p:Int} (h:PI D a b i j M p) (hij:¬ i≤j):PO D a b j (swp M j a):=by
 have hs:M.size=D.size:=h.perm.1
 have b1:=h.bd
 have b2:=h.jb
 have b3:=h.ai
 have b4:=h.aj
 have b5:=h.ij
 have em:(swp M j a)[j]! = p:=by
  rw [swp_at (by omega) (by omega)]
  by_cases e:j=a
  ·rw [if_pos e,e];exact h.hp.symm
  ·rw [if_neg e,if_pos rfl];exact h.hp.symm
 refine ⟨b4,b2,Go.Sort.permIn_trans _ _ _ _ _ h.perm (Go.Sort.swp_permIn M a b j a b4 b2 (Nat.le_refl _) (by omega) (by omega)),fun t h1 h2=>?_,fun t h1 h2=>?_⟩
 ·rw [em,swp_at (by omega) (by omega)]
  by_cases e:t=a
  ·rw [if_pos e];exact h.L j (by omega) (by omega)
  ·rw [if_neg e,if_neg (by omega)];exact h.L t (by omega) (by omega)
 ·rw [em,swp_at (by omega) (by omega),if_neg (by omega),if_neg (by omega)]
  exact h.R t h1 h2
set_option maxHeartbeats 8000000 in
theorem c_partU {w:World} {B g n c a b q:Nat} {D:Array Int} (hl:n≤40) (haq:a≤q) (hqb:q<b) (hbn:b≤n) (hR:RowU w B g n c D) :
  Calls Tryz.prog 352 #[.slice (some ⟨g,0,none⟩) n c,.int .i64 a,.int .i64 b,.int .i64 q] w fun e w'=>∃ (m:Nat) (z:Bool),e=.returned (.tuple #[.int .i64 m,.bool z])∧∃ M:Array Int,PO D a b m M∧RowU w' B g n c M∧Below B w w':=by
 have HP:=hide (PI.start (D:=D) haq hqb (by rw [hR.1];exact hbn))
 obtain ⟨x,hx⟩:∃ x,x=D[a]!:=⟨_,rfl⟩
 obtain ⟨p,hp⟩:∃ p,p=D[q]!:=⟨_,rfl⟩
 rw [← hp] at HP
 have ba:a<n:=by omega
 have bq:q<n:=by omega
 have hcx:=hR.cell ba hx
 have hcp:=hR.cell bq hp
 have hcs:=hR.cellS (i:=a) bq hp
 have hfx:=hR.froz a
 have hfp:=hR.froz q
 have HR:=hide hR
 have HF:=hide (And.intro hx hp)
 have e1:(b:Int) - 1=((b - 1:Nat):Int):=by omega
 obtain ⟨b1,hb1⟩:∃ b1,b1=b - 1:=⟨_,rfl⟩
 rw [← hb1] at e1 HP
 have u1:IntKind.i64.wrap (b1:Int)=b1:=IntWalk.i64_in _ ⟨by omega,by omega⟩
 have HB0:=hide hb1
 clear hR hx hp hb1
 go_enter Tryz.func352,Tryz.ntmps352
 go_wp2
 go_region
 all_goals go_wp2_with fail
 have HR1:=hide (HR.out.swap HF.out.1 HF.out.2 1)
 have HB1:=hide (HR.out.bel (i:=a) (j:=q) (x:=.int .u64 p) (y:=.int .u64 x) (Below.refl B w) 1)
 go_loopw [10] (fun vi wr=>Below B w wr∧∃ i:Nat,vi=.int .i64 i∧(a+1)≤i∧Hid (PI D a b i b1 (swp D a q) p)∧Hid (RowU wr B g n c (swp D a q))) (fun vi wr=>n - (Go.RowKit.intOf vi).toNat)
 case atStart=>exact ⟨HB1.out,(a+1),by go_num,Nat.le_refl _,HP,HR1⟩
 case round=>
  obtain ⟨hbel,i1,rfl,hlb1,HP1,HR1⟩:=hrel
  have HB1:=hide hbel
  clear hbel
  have bi1:a<i1∧i1≤b1+1∧b1<b:=⟨HP1.out.ai,HP1.out.ij,HP1.out.jb⟩
  obtain ⟨x1,hx1⟩:∃ x,x=(swp D a q)[i1]!:=⟨_,rfl⟩
  have HX1:=hide hx1
  by_cases hij1:i1≤b1
  ·have d0:decide ((i1:Int)≤(b1:Int))=true:=decide_eq_true (by omega)
   have hcx1:=HR1.out.cell (k:=i1) (by omega) hx1
   have hca1:=HR1.out.cell (k:=a) (by omega) HP1.out.hp
   have bn1:i1<n:=by omega
   clear hx1
   by_cases hxp1:x1<p
   ·have d1:decide (x1<p)=true:=decide_eq_true hxp1
    have HP1n:Hid (PI D a b (i1+1) b1 (swp D a q) p):=HP1.out.up hij1 (by rw [← HX1.out];exact hxp1)
    go_wp2
    go_quiet (first | (go_at_call 350;refine Calls.quiet_of_same (c_lessU _ _ _)))
    go_wp2
    go_roundw
    case rel=>exact ⟨bel_drews HB1.out _,i1+1,by go_num,by omega,HP1n,(HR1.out.drews _:_)⟩
    case measure=>first | (simp [Go.RowKit.intOf];done) | (simp [Go.RowKit.intOf];omega)
   ·have d1:decide (x1<p)=false:=decide_eq_false hxp1
    have HE1:Hid (i1≤b1→p≤(swp D a q)[i1]!):=(fun _=>by rw [← HX1.out];exact Int.not_lt.1 hxp1:i1≤b1→p≤(swp D a q)[i1]!)
    go_wp2
    go_quiet (first | (go_at_call 350;refine Calls.quiet_of_same (c_lessU _ _ _)))
    go_wp2
    generalize hwz:wr.drewN nq=W1
    have HRz1:Hid (RowU W1 B g n c (swp D a q)):=by rw [← hwz];exact HR1.out.drews _
    have HBz1:Hid (Below B w W1):=by rw [← hwz];exact bel_drews HB1.out _
    clear hwz
    try simp only [d1]
    clear d0 d1 hcx1 hca1 HR1 HB1 hxp1
    go_loopw [11] (fun vj wr=>Below B w wr∧∃ j:Nat,vj=.int .i64 j∧j≤b1∧Hid (PI D a b i1 j (swp D a q) p∧(i1≤j→p≤(swp D a q)[i1]!))∧Hid (RowU wr B g n c (swp D a q))) (fun vj wr=>(Go.RowKit.intOf vj).toNat)
    case atStart=>exact ⟨HBz1.out,b1,by go_num,Nat.le_refl _,hide (And.intro HP1.out HE1.out),HRz1⟩
    case round=>
     obtain ⟨hbel,j2,rfl,hub2,HPE2,HR2⟩:=hrel
     have HB2:=hide hbel
     clear hbel
     have HP2:=hide HPE2.out.1
     have HE2:=hide HPE2.out.2
     have bi2:a<i1∧i1≤j2+1∧j2<b∧a≤j2:=⟨HP2.out.ai,HP2.out.ij,HP2.out.jb,HP2.out.aj⟩
     have hca2:=HR2.out.cell (k:=a) (by omega) HP2.out.hp
     obtain ⟨y2,hy2⟩:∃ y,y=(swp D a q)[j2]!:=⟨_,rfl⟩
     have HY2:=hide hy2
     have hcy2:=HR2.out.cell (k:=j2) (by omega) hy2
     clear hy2 HPE2
     by_cases hij2:i1≤j2
     ·have d0:decide ((i1:Int)≤(j2:Int))=true:=decide_eq_true (by omega)
      by_cases hyp2:y2<p
      ·have d1:decide (y2<p)=true:=decide_eq_true hyp2
       have dg:decide ((j2:Int)<(i1:Int))=false:=decide_eq_false (by omega)
       have dgN:decide (j2<i1)=false:=decide_eq_false (by omega)
       obtain ⟨k2,hk2⟩:∃ k,j2=k+1:=⟨j2 - 1,by omega⟩
       have HPn2:Hid (PI D a b (i1+1) k2 (swp (swp D a q) i1 j2) p):=by have h1:=HP2.out;have h2:=HE2.out hij2;have h3:=HY2.out;rw [hk2] at h1 h3 ⊢; exact h1.swap (by omega) (Int.not_lt.2 h2) (by rw [← h3];exact hyp2)
       have ek:(j2:Int) - 1=(k2:Int):=by omega
       have HKK:=hide hk2
       clear hk2
       go_wp2
       go_quiet (first | (go_at_call 350;refine Calls.quiet_of_same (c_lessU _ _ _)))
       go_wp2_with fail
       generalize hwz:wr.drewN nq=W2
       have HRz2:Hid (RowU W2 B g n c (swp D a q)):=by rw [← hwz];exact HR2.out.drews _
       have HBz2:Hid (Below B w W2):=by rw [← hwz];exact bel_drews HB2.out _
       clear hwz d0 hca2 hcy2 HR2 HB2
       try simp only [d1]
       clear d1 hyp2
       obtain ⟨xx,hxx⟩:∃ x,x=(swp D a q)[i1]!:=⟨_,rfl⟩
       have HXX:=hide hxx
       have hcx:=HRz2.out.cell (k:=i1) (by omega) hxx
       have hcy:=HRz2.out.cell (k:=j2) (by omega) HY2.out
       have hcs:=HRz2.out.cellS (i:=i1) (j:=j2) (by omega) HY2.out
       have hfx:=HRz2.out.froz i1
       have hfy:=HRz2.out.froz j2
       have bjn:j2<n:=by omega
       have bin:i1<n:=by omega
       have uk:IntKind.i64.wrap (k2:Int)=k2:=IntWalk.i64_in _ ⟨by omega,by omega⟩
       have ui:IntKind.i64.wrap ((i1:Int)+1)=(i1:Int)+1:=IntWalk.i64_in _ ⟨by omega,by omega⟩
       clear hxx
       go_wp2
       go_region
       all_goals go_wp2_with fail
       go_loopw [10,11] (fun vi vj wr=>Below B w wr∧∃ (i j:Nat) (M:Array Int),vi=.int .i64 i∧vj=.int .i64 j∧Hid (PI D a b i j M p)∧Hid (RowU wr B g n c M)) (fun vi vj wr=>n - (Go.RowKit.intOf vi).toNat)
       case atStart=>exact ⟨HRz2.out.bel HBz2.out _,i1+1,k2,_,by go_num,by first | rfl | go_num,HPn2,(HRz2.out.swap HXX.out HY2.out _:_)⟩
       case round=>
        obtain ⟨hbel,io,jo,M,rfl,rfl,HPo,HRo⟩:=hrel
        have HBo:=hide hbel
        clear hbel HRz2 HBz2 HPn2 HY2 HXX HKK hcx hcy hcs hfx hfy bjn bin ek uk ui dg dgN
        have bo:a<io∧io≤jo+1∧jo<b∧a≤jo:=⟨HPo.out.ai,HPo.out.ij,HPo.out.jb,HPo.out.aj⟩
        go_wp2_with fail
        go_loopw [10] (fun vi wr=>Below B w wr∧∃ i:Nat,vi=.int .i64 i∧io≤i∧Hid (PI D a b i jo M p)∧Hid (RowU wr B g n c M)) (fun vi wr=>n - (Go.RowKit.intOf vi).toNat)
        case atStart=>exact ⟨HBo.out,io,by go_num,Nat.le_refl _,HPo,HRo⟩
        case round=>
         obtain ⟨hbel,i3,rfl,hlb3,HP3,HR3⟩:=hrel
         have HB3:=hide hbel
         clear hbel
         have bi3:a<i3∧i3≤jo+1∧jo<b:=⟨HP3.out.ai,HP3.out.ij,HP3.out.jb⟩
         obtain ⟨x3,hx3⟩:∃ x,x=M[i3]!:=⟨_,rfl⟩
         have HX3:=hide hx3
         by_cases hij3:i3≤jo
         ·have d0:decide ((i3:Int)≤(jo:Int))=true:=decide_eq_true (by omega)
          have hcx3:=HR3.out.cell (k:=i3) (by omega) hx3
          have hca3:=HR3.out.cell (k:=a) (by omega) HP3.out.hp
          have bn3:i3<n:=by omega
          clear hx3
          by_cases hxp3:x3<p
          ·have d1:decide (x3<p)=true:=decide_eq_true hxp3
           have HP3n:Hid (PI D a b (i3+1) jo M p):=HP3.out.up hij3 (by rw [← HX3.out];exact hxp3)
           go_wp2
           go_quiet (first | (go_at_call 350;refine Calls.quiet_of_same (c_lessU _ _ _)))
           go_wp2
           go_roundw
           case rel=>exact ⟨bel_drews HB3.out _,i3+1,by go_num,by omega,HP3n,(HR3.out.drews _:_)⟩
           case measure=>first | (simp [Go.RowKit.intOf];done) | (simp [Go.RowKit.intOf];omega)
          ·have d1:decide (x3<p)=false:=decide_eq_false hxp3
           have HE3:Hid (i3≤jo→p≤M[i3]!):=(fun _=>by rw [← HX3.out];exact Int.not_lt.1 hxp3:i3≤jo→p≤M[i3]!)
           go_wp2
           go_quiet (first | (go_at_call 350;refine Calls.quiet_of_same (c_lessU _ _ _)))
           go_wp2
           generalize hwz:wr.drewN nq=W3
           have HRz3:Hid (RowU W3 B g n c M):=by rw [← hwz];exact HR3.out.drews _
           have HBz3:Hid (Below B w W3):=by rw [← hwz];exact bel_drews HB3.out _
           clear hwz
           try simp only [d1]
           clear d0 d1 hcx3 hca3 HR3 HB3 hxp3
           go_loopw [11] (fun vj wr=>Below B w wr∧∃ j:Nat,vj=.int .i64 j∧j≤jo∧Hid (PI D a b i3 j M p∧(i3≤j→p≤M[i3]!))∧Hid (RowU wr B g n c M)) (fun vj wr=>(Go.RowKit.intOf vj).toNat)
           case atStart=>exact ⟨HBz3.out,jo,by go_num,Nat.le_refl _,hide (And.intro HP3.out HE3.out),HRz3⟩
           case round=>
            obtain ⟨hbel,j4,rfl,hub4,HPE4,HR4⟩:=hrel
            have HB4:=hide hbel
            clear hbel
            have HP4:=hide HPE4.out.1
            have HE4:=hide HPE4.out.2
            have bi4:a<i3∧i3≤j4+1∧j4<b∧a≤j4:=⟨HP4.out.ai,HP4.out.ij,HP4.out.jb,HP4.out.aj⟩
            have hca4:=HR4.out.cell (k:=a) (by omega) HP4.out.hp
            obtain ⟨y4,hy4⟩:∃ y,y=M[j4]!:=⟨_,rfl⟩
            have HY4:=hide hy4
            have hcy4:=HR4.out.cell (k:=j4) (by omega) hy4
            clear hy4 HPE4
            by_cases hij4:i3≤j4
            ·have d0:decide ((i3:Int)≤(j4:Int))=true:=decide_eq_true (by omega)
             by_cases hyp4:y4<p
             ·have d1:decide (y4<p)=true:=decide_eq_true hyp4
              have dg:decide ((j4:Int)<(i3:Int))=false:=decide_eq_false (by omega)
              have dgN:decide (j4<i3)=false:=decide_eq_false (by omega)
              obtain ⟨k4,hk4⟩:∃ k,j4=k+1:=⟨j4 - 1,by omega⟩
              have HPn4:Hid (PI D a b (i3+1) k4 (swp M i3 j4) p):=by have h1:=HP4.out;have h2:=HE4.out hij4;have h3:=HY4.out;rw [hk4] at h1 h3 ⊢; exact h1.swap (by omega) (Int.not_lt.2 h2) (by rw [← h3];exact hyp4)
              have ek:(j4:Int) - 1=(k4:Int):=by omega
              have HKK:=hide hk4
              clear hk4
              go_wp2
              go_quiet (first | (go_at_call 350;refine Calls.quiet_of_same (c_lessU _ _ _)))
              go_wp2_with fail
              generalize hwz:wr.drewN nq=W4
              have HRz4:Hid (RowU W4 B g n c M):=by rw [← hwz];exact HR4.out.drews _
              have HBz4:Hid (Below B w W4):=by rw [← hwz];exact bel_drews HB4.out _
              clear hwz d0 hca4 hcy4 HR4 HB4
              try simp only [d1]
              clear d1 hyp4
              obtain ⟨xx,hxx⟩:∃ x,x=M[i3]!:=⟨_,rfl⟩
              have HXX:=hide hxx
              have hcx:=HRz4.out.cell (k:=i3) (by omega) hxx
              have hcy:=HRz4.out.cell (k:=j4) (by omega) HY4.out
              have hcs:=HRz4.out.cellS (i:=i3) (j:=j4) (by omega) HY4.out
              have hfx:=HRz4.out.froz i3
              have hfy:=HRz4.out.froz j4
              have bjn:j4<n:=by omega
              have bin:i3<n:=by omega
              have uk:IntKind.i64.wrap (k4:Int)=k4:=IntWalk.i64_in _ ⟨by omega,by omega⟩
              have ui:IntKind.i64.wrap ((i3:Int)+1)=(i3:Int)+1:=IntWalk.i64_in _ ⟨by omega,by omega⟩
              clear hxx
              go_wp2
              go_region
              all_goals go_wp2_with fail
              go_roundw
              case rel=>exact ⟨HRz4.out.bel HBz4.out _,i3+1,k4,_,by go_num,by first | rfl | go_num,HPn4,(HRz4.out.swap HXX.out HY4.out _:_)⟩
              case measure=>first | (simp [Go.RowKit.intOf];done) | (simp [Go.RowKit.intOf];omega)
             ·have d1:decide (y4<p)=false:=decide_eq_false hyp4
              obtain ⟨k4,hk4⟩:∃ k,j4=k+1:=⟨j4 - 1,by omega⟩
              have HPn4:Hid (PI D a b i3 k4 M p∧(i3≤k4→p≤M[i3]!)):=hide (And.intro (by have h1:=HP4.out;have h3:=HY4.out;rw [hk4] at h1 h3;exact h1.down (by omega) (by rw [← h3];exact hyp4)) (fun _=>HE4.out hij4))
              have e5:((j4:Nat):Int) - 1=(k4:Int):=by omega
              have HK4:=hide hk4
              clear hk4
              have u5:IntKind.i64.wrap (k4:Int)=k4:=IntWalk.i64_in _ ⟨by omega,by omega⟩
              go_wp2
              go_quiet (first | (go_at_call 350;refine Calls.quiet_of_same (c_lessU _ _ _)))
              go_wp2
              go_roundw
              case rel=>exact ⟨bel_drews HB4.out _,k4,by first | rfl | go_num,by omega,HPn4,(HR4.out.drews _:_)⟩
              case measure=>have:=HK4.out;first | (simp [Go.RowKit.intOf];done) | (simp [Go.RowKit.intOf];omega)
            ·have d0:decide ((i3:Int)≤(j4:Int))=false:=decide_eq_false (by omega)
             have dg:decide ((j4:Int)<(i3:Int))=true:=decide_eq_true (by omega)
             have dgN:decide (j4<i3)=true:=decide_eq_true (by omega)
             have HPO4:=hide (HP4.out.fin hij4)
             go_wp2
             go_quiet (first | (go_at_call 350;refine Calls.quiet_of_same (c_lessU _ _ _)))
             go_wp2_with fail
             generalize hwz:wr.drewN nq=W4
             have HRz4:Hid (RowU W4 B g n c M):=by rw [← hwz];exact HR4.out.drews _
             have HBz4:Hid (Below B w W4):=by rw [← hwz];exact bel_drews HB4.out _
             clear hwz d0 hca4 hcy4 HR4 HB4
             have hca:=HRz4.out.cell (k:=a) ba HP4.out.hp
             have hcy:=HRz4.out.cell (k:=j4) (by omega) HY4.out
             have hcs:=HRz4.out.cellS (i:=j4) ba HP4.out.hp
             have hfa:=HRz4.out.froz a
             have hfy:=HRz4.out.froz j4
             have bjn:j4<n:=by omega
             go_wp2
             go_region
             all_goals go_wp2
             go_ret2
             exact ⟨j4,false,rfl,_,HPO4.out,HRz4.out.swap HY4.out HP4.out.hp _,HRz4.out.bel HBz4.out _⟩
         ·have d0:decide ((i3:Int)≤(jo:Int))=false:=decide_eq_false (by omega)
          have HE3:Hid (i3≤jo→p≤M[i3]!):=(fun h=>absurd h hij3:i3≤jo→p≤M[i3]!)
          go_wp2
          go_quiet (first | (go_at_call 350;refine Calls.quiet_of_same (c_lessU _ _ _)))
          go_wp2
          generalize hwz:wr.drewN nq=W3
          have HRz3:Hid (RowU W3 B g n c M):=by rw [← hwz];exact HR3.out.drews _
          have HBz3:Hid (Below B w W3):=by rw [← hwz];exact bel_drews HB3.out _
          clear hwz
          clear d0 hx3 HR3 HB3
          go_loopw [11] (fun vj wr=>Below B w wr∧∃ j:Nat,vj=.int .i64 j∧j≤jo∧Hid (PI D a b i3 j M p∧(i3≤j→p≤M[i3]!))∧Hid (RowU wr B g n c M)) (fun vj wr=>(Go.RowKit.intOf vj).toNat)
          case atStart=>exact ⟨HBz3.out,jo,by go_num,Nat.le_refl _,hide (And.intro HP3.out HE3.out),HRz3⟩
          case round=>
           obtain ⟨hbel,j5,rfl,hub5,HPE5,HR5⟩:=hrel
           have HB5:=hide hbel
           clear hbel
           have HP5:=hide HPE5.out.1
           have HE5:=hide HPE5.out.2
           have bi5:a<i3∧i3≤j5+1∧j5<b∧a≤j5:=⟨HP5.out.ai,HP5.out.ij,HP5.out.jb,HP5.out.aj⟩
           have hca5:=HR5.out.cell (k:=a) (by omega) HP5.out.hp
           obtain ⟨y5,hy5⟩:∃ y,y=M[j5]!:=⟨_,rfl⟩
           have HY5:=hide hy5
           have hcy5:=HR5.out.cell (k:=j5) (by omega) hy5
           clear hy5 HPE5
           by_cases hij5:i3≤j5
           ·exfalso;omega
           ·have d0:decide ((i3:Int)≤(j5:Int))=false:=decide_eq_false (by omega)
            have dg:decide ((j5:Int)<(i3:Int))=true:=decide_eq_true (by omega)
            have dgN:decide (j5<i3)=true:=decide_eq_true (by omega)
            have HPO5:=hide (HP5.out.fin hij5)
            go_wp2
            go_quiet (first | (go_at_call 350;refine Calls.quiet_of_same (c_lessU _ _ _)))
            go_wp2_with fail
            generalize hwz:wr.drewN nq=W5
            have HRz5:Hid (RowU W5 B g n c M):=by rw [← hwz];exact HR5.out.drews _
            have HBz5:Hid (Below B w W5):=by rw [← hwz];exact bel_drews HB5.out _
            clear hwz d0 hca5 hcy5 HR5 HB5
            have hca:=HRz5.out.cell (k:=a) ba HP5.out.hp
            have hcy:=HRz5.out.cell (k:=j5) (by omega) HY5.out
            have hcs:=HRz5.out.cellS (i:=j5) ba HP5.out.hp
            have hfa:=HRz5.out.froz a
            have hfy:=HRz5.out.froz j5
            have bjn:j5<n:=by omega
            go_wp2
            go_region
            all_goals go_wp2
            go_ret2
            exact ⟨j5,false,rfl,_,HPO5.out,HRz5.out.swap HY5.out HP5.out.hp _,HRz5.out.bel HBz5.out _⟩
      ·have d1:decide (y2<p)=false:=decide_eq_false hyp2
       obtain ⟨k2,hk2⟩:∃ k,j2=k+1:=⟨j2 - 1,by omega⟩
       have HPn2:Hid (PI D a b i1 k2 (swp D a q) p∧(i1≤k2→p≤(swp D a q)[i1]!)):=hide (And.intro (by have h1:=HP2.out;have h3:=HY2.out;rw [hk2] at h1 h3;exact h1.down (by omega) (by rw [← h3];exact hyp2)) (fun _=>HE2.out hij2))
       have e5:((j2:Nat):Int) - 1=(k2:Int):=by omega
       have HK2:=hide hk2
       clear hk2
       have u5:IntKind.i64.wrap (k2:Int)=k2:=IntWalk.i64_in _ ⟨by omega,by omega⟩
       go_wp2
       go_quiet (first | (go_at_call 350;refine Calls.quiet_of_same (c_lessU _ _ _)))
       go_wp2
       go_roundw
       case rel=>exact ⟨bel_drews HB2.out _,k2,by first | rfl | go_num,by omega,HPn2,(HR2.out.drews _:_)⟩
       case measure=>have:=HK2.out;first | (simp [Go.RowKit.intOf];done) | (simp [Go.RowKit.intOf];omega)
     ·have d0:decide ((i1:Int)≤(j2:Int))=false:=decide_eq_false (by omega)
      have dg:decide ((j2:Int)<(i1:Int))=true:=decide_eq_true (by omega)
      have dgN:decide (j2<i1)=true:=decide_eq_true (by omega)
      have HPO2:=hide (HP2.out.fin hij2)
      go_wp2
      go_quiet (first | (go_at_call 350;refine Calls.quiet_of_same (c_lessU _ _ _)))
      go_wp2_with fail
      generalize hwz:wr.drewN nq=W2
      have HRz2:Hid (RowU W2 B g n c (swp D a q)):=by rw [← hwz];exact HR2.out.drews _
      have HBz2:Hid (Below B w W2):=by rw [← hwz];exact bel_drews HB2.out _
      clear hwz d0 hca2 hcy2 HR2 HB2
      have hca:=HRz2.out.cell (k:=a) ba HP2.out.hp
      have hcy:=HRz2.out.cell (k:=j2) (by omega) HY2.out
      have hcs:=HRz2.out.cellS (i:=j2) ba HP2.out.hp
      have hfa:=HRz2.out.froz a
      have hfy:=HRz2.out.froz j2
      have bjn:j2<n:=by omega
      go_wp2
      go_region
      all_goals go_wp2
      go_ret2
      exact ⟨j2,true,rfl,_,HPO2.out,HRz2.out.swap HY2.out HP2.out.hp _,HRz2.out.bel HBz2.out _⟩
  ·have d0:decide ((i1:Int)≤(b1:Int))=false:=decide_eq_false (by omega)
   have HE1:Hid (i1≤b1→p≤(swp D a q)[i1]!):=(fun h=>absurd h hij1:i1≤b1→p≤(swp D a q)[i1]!)
   go_wp2
   go_quiet (first | (go_at_call 350;refine Calls.quiet_of_same (c_lessU _ _ _)))
   go_wp2
   generalize hwz:wr.drewN nq=W1
   have HRz1:Hid (RowU W1 B g n c (swp D a q)):=by rw [← hwz];exact HR1.out.drews _
   have HBz1:Hid (Below B w W1):=by rw [← hwz];exact bel_drews HB1.out _
   clear hwz
   clear d0 hx1 HR1 HB1
   go_loopw [11] (fun vj wr=>Below B w wr∧∃ j:Nat,vj=.int .i64 j∧j≤b1∧Hid (PI D a b i1 j (swp D a q) p∧(i1≤j→p≤(swp D a q)[i1]!))∧Hid (RowU wr B g n c (swp D a q))) (fun vj wr=>(Go.RowKit.intOf vj).toNat)
   case atStart=>exact ⟨HBz1.out,b1,by go_num,Nat.le_refl _,hide (And.intro HP1.out HE1.out),HRz1⟩
   case round=>
    obtain ⟨hbel,j6,rfl,hub6,HPE6,HR6⟩:=hrel
    have HB6:=hide hbel
    clear hbel
    have HP6:=hide HPE6.out.1
    have HE6:=hide HPE6.out.2
    have bi6:a<i1∧i1≤j6+1∧j6<b∧a≤j6:=⟨HP6.out.ai,HP6.out.ij,HP6.out.jb,HP6.out.aj⟩
    have hca6:=HR6.out.cell (k:=a) (by omega) HP6.out.hp
    obtain ⟨y6,hy6⟩:∃ y,y=(swp D a q)[j6]!:=⟨_,rfl⟩
    have HY6:=hide hy6
    have hcy6:=HR6.out.cell (k:=j6) (by omega) hy6
    clear hy6 HPE6
    by_cases hij6:i1≤j6
    ·exfalso;omega
    ·have d0:decide ((i1:Int)≤(j6:Int))=false:=decide_eq_false (by omega)
     have dg:decide ((j6:Int)<(i1:Int))=true:=decide_eq_true (by omega)
     have dgN:decide (j6<i1)=true:=decide_eq_true (by omega)
     have HPO6:=hide (HP6.out.fin hij6)
     go_wp2
     go_quiet (first | (go_at_call 350;refine Calls.quiet_of_same (c_lessU _ _ _)))
     go_wp2_with fail
     generalize hwz:wr.drewN nq=W6
     have HRz6:Hid (RowU W6 B g n c (swp D a q)):=by rw [← hwz];exact HR6.out.drews _
     have HBz6:Hid (Below B w W6):=by rw [← hwz];exact bel_drews HB6.out _
     clear hwz d0 hca6 hcy6 HR6 HB6
     have hca:=HRz6.out.cell (k:=a) ba HP6.out.hp
     have hcy:=HRz6.out.cell (k:=j6) (by omega) HY6.out
     have hcs:=HRz6.out.cellS (i:=j6) ba HP6.out.hp
     have hfa:=HRz6.out.froz a
     have hfy:=HRz6.out.froz j6
     have bjn:j6<n:=by omega
     go_wp2
     go_region
     all_goals go_wp2
     go_ret2
     exact ⟨j6,true,rfl,_,HPO6.out,HRz6.out.swap HY6.out HP6.out.hp _,HRz6.out.bel HBz6.out _⟩
/-
 slices.Sort at uint64, of at most forty numbers: is it sorted already? which one is the pivot?
-/
/-- In order from a up to i. -/
def Asc (M:Array Int) (a i:Nat):Prop:=∀ t,a<t→t<i→M[t - 1]!≤M[t]!
theorem Asc.le {M:Array Int} {a b:Nat} (h:Asc M a b) {s:Nat} (hs:a≤s):∀ t,s≤t→t<b→M[s]!≤M[t]!:=by
 intro t ht
 induction ht with
 | refl=>intro _;exact Int.le_refl _
 | @step m hm ih=>
  intro hb
  have h1:=ih (by omega)
  have hm':s≤m:=hm
  have h2:=h (m+1) (by omega) hb
  rw [Nat.add_sub_cancel] at h2
  exact Int.le_trans h1 h2
theorem Asc.sorted {M:Array Int} {a b:Nat} (h:Asc M a b):SortedIn ltInt a b M:=fun i j h1 h2 h3=>by
 have:=h.le h1 j (by omega) h3
 simp only [ltInt]
 exact decide_eq_false (by omega)
set_option maxHeartbeats 4000000 in
theorem c_partialU {w:World} {B g n c a b:Nat} {D:Array Int} (hl:n≤40) (hab:a<b) (hbn:b≤n) (hR:RowU w B g n c D) :
  Calls Tryz.prog 349 #[.slice (some ⟨g,0,none⟩) n c,.int .i64 a,.int .i64 b] w fun e w'=>∃ z:Bool,e=.returned (.bool z)∧(z=true→SortedIn ltInt a b D)∧∃ m,w'=w.drewN m:=by
 have HR:=hide hR
 clear hR
 have hd:decide ((b:Int) - (a:Int)<50)=true:=decide_eq_true (by omega)
 obtain ⟨l,el⟩:∃ l,(b:Int) - (a:Int)=l:=⟨_,rfl⟩
 have ul:IntKind.i64.wrap l=l:=IntWalk.i64_in _ ⟨by omega,by omega⟩
 have hl50:l<50:=by omega
 have HA0:Hid (Asc D a (a+1)):=(fun t h1 h2=>absurd h2 (by omega):Asc D a (a+1))
 go_enter Tryz.func349,Tryz.ntmps349
 go_wp2
 refine wp_loop_rounds 1 ?_
 rw [rounds_succ]
 go_wp2
 go_loopw [7] (fun vi wr=>∃ i m:Nat,vi=.int .i64 i∧wr=w.drewN m∧a<i∧i≤b∧Hid (Asc D a i)) (fun vi wr=>n - (Go.RowKit.intOf vi).toNat)
 case atStart=>exact ⟨a+1,0,by go_num,rfl,by omega,by omega,HA0⟩
 case round=>
  clear HA0
  obtain ⟨i,m,rfl,rfl,hai,hib,HA⟩:=hrel
  generalize hW:w.drewN m=W
  have HRW:Hid (RowU W B g n c D):=by rw [← hW];exact HR.out.drews _
  have HW:=hide hW
  clear hW
  by_cases hlt:i<b
  ·have d0:decide ((i:Int)<(b:Int))=true:=decide_eq_true (by omega)
   obtain ⟨k,hk⟩:∃ k,i=k+1:=⟨i - 1,by omega⟩
   have e1:(i:Int) - 1=(k:Int):=by omega
   have ew:IntKind.i64.wrap (k:Int)=k:=IntWalk.i64_in _ ⟨by omega,by omega⟩
   obtain ⟨x,hx⟩:∃ x,x=D[k]!:=⟨_,rfl⟩
   obtain ⟨y,hy⟩:∃ y,y=D[i]!:=⟨_,rfl⟩
   have bk:k<n:=by omega
   have bi:i<n:=by omega
   have hcx:=HRW.out.cell bk hx
   have hcy:=HRW.out.cell bi hy
   have hki:k<i:=by omega
   by_cases hyx:y<x
   ·have d1:decide (y<x)=true:=decide_eq_true hyx
    have dn:((i:Int) == (b:Int))=false:=beq_eq_false_iff_ne.2 (by omega)
    have HK:=hide hk
    clear hx hy hk
    go_wp2
    go_quiet (first | (go_at_call 350;refine Calls.quiet_of_same (c_lessU _ _ _)))
    go_wp2
    go_ret
    exact ⟨false,rfl,(fun h=>Bool.noConfusion h),_,(by rw [← HW.out];exact drews_add _ _ _)⟩
   ·have d1:decide (y<x)=false:=decide_eq_false hyx
    have HA2:Hid (Asc D a (i+1)):=(fun t h1 h2=>by
     by_cases e:t=i
     ·subst e;rw [hk,Nat.add_sub_cancel,← hx,← hk,← hy];omega
     ·exact HA.out t h1 (by omega):Asc D a (i+1))
    have HK:=hide hk
    clear hx hy hk
    go_wp2
    go_quiet (first | (go_at_call 350;refine Calls.quiet_of_same (c_lessU _ _ _)))
    go_wp2
    go_roundw
    case rel=>exact ⟨i+1,_,by go_num,(by rw [← HW.out];exact drews_add _ _ _),by omega,by omega,HA2⟩
    case measure=>simp [Go.RowKit.intOf];omega
  ·have hib2:i=b:=by omega
   subst hib2
   have HS:=hide HA.out.sorted
   go_wp2
   go_quiet (first | (go_at_call 350;refine Calls.quiet_of_same (c_lessU _ _ _)))
   go_wp2
   go_ret
   exact ⟨true,rfl,(fun _=>HS.out),_,(by rw [← HW.out];exact drews_add _ _ _)⟩
/-- How many were out of order, as a cell has it. -/
def SwC (w:World) (K:Nat) (s:Int):Prop:=w.cell? ⟨K,0,none⟩=some (.int .i64 s)∧w.frozen? ⟨K,0,none⟩=false∧0≤s∧s≤100
theorem SwC.put {w:World} {K:Nat} {s t:Int} (h:SwC w K s) (m:Nat) (h0:0≤t) (h1:t≤100):SwC ((w.drewN m).setCell ⟨K,0,none⟩ (.int .i64 t)) K t:=
 ⟨World.cell?_setCell_same (w.drewN m) _ _ h.1,(World.frozen?_setCell _ _ _ _).trans h.2.1,h0,h1⟩
set_option maxHeartbeats 2000000 in
theorem c_order2U {w:World} {B g n c K:Nat} {D:Array Int} (i j:Nat) (s:Int) (hl:n≤40) (hi:i<n) (hj:j<n) (hgK:g<K) (hs9:s≤90) (hR:RowU w B g n c D) (hS:SwC w K s) :
  Calls Tryz.prog 357 #[.slice (some ⟨g,0,none⟩) n c,.int .i64 i,.int .i64 j,.pointer (some ⟨K,0,none⟩)] w fun e w'=>∃ (x y:Nat) (s':Int),e=.returned (.tuple #[.int .i64 x,.int .i64 y])∧(x=i∧y=j∨x=j∧y=i)∧s≤s'∧s'≤s+1∧SwC w' K s'∧Below K w w':=by
 obtain ⟨x,hx⟩:∃ x,x=D[i]!:=⟨_,rfl⟩
 obtain ⟨y,hy⟩:∃ y,y=D[j]!:=⟨_,rfl⟩
 have hcx:=hR.cell hi hx
 have hcy:=hR.cell hj hy
 have HS:=hide hS
 obtain ⟨hc,hf,s0,s1⟩:=hS
 have us:IntKind.i64.wrap (s+1)=s+1:=IntWalk.i64_in _ ⟨by omega,by omega⟩
 have HR:=hide hR
 clear hR hx hy
 by_cases hyx:y<x
 ·have d1:decide (y<x)=true:=decide_eq_true hyx
  go_enter Tryz.func357,Tryz.ntmps357
  go_wp2
  go_quiet (first | (go_at_call 350;refine Calls.quiet_of_same (c_lessU _ _ _)))
  go_wp2
  go_ret2
  exact ⟨j,i,s+1,rfl,Or.inr ⟨rfl,rfl⟩,by omega,by omega,HS.out.put _ (by omega) (by omega),by refine Below.setCell (bel_drews (Below.refl K w) _) ?_ _;exact Nat.le_refl K⟩
 ·have d1:decide (y<x)=false:=decide_eq_false hyx
  go_enter Tryz.func357,Tryz.ntmps357
  go_wp2
  go_quiet (first | (go_at_call 350;refine Calls.quiet_of_same (c_lessU _ _ _)))
  go_wp2
  go_ret2
  exact ⟨i,j,s,rfl,Or.inl ⟨rfl,rfl⟩,by omega,by omega,⟨hc,hf,by omega,by omega⟩,bel_drews (Below.refl _ _) _⟩
set_option maxHeartbeats 2000000 in
theorem c_medianU {w:World} {B g n c K:Nat} {D:Array Int} (i j k:Nat) (s:Int) (hl:n≤40) (hi:i<n) (hj:j<n) (hk:k<n) (hgK:g<K) (hs9:s≤80) (hR:RowU w B g n c D) (hS:SwC w K s) :
  Calls Tryz.prog 355 #[.slice (some ⟨g,0,none⟩) n c,.int .i64 i,.int .i64 j,.int .i64 k,.pointer (some ⟨K,0,none⟩)] w fun e w'=>∃ (x:Nat) (s':Int),e=.returned (.int .i64 x)∧(x=i∨x=j∨x=k)∧s≤s'∧s'≤s+3∧SwC w' K s'∧Below K w w':=by
 have HR:=hide hR
 have HS:=hide hS
 clear hR hS
 go_enter Tryz.func355,Tryz.ntmps355
 go_wp2_with fail
 refine (c_order2U i j s hl hi hj hgK (by omega) HR.out HS.out).mono ?_
 rintro e w1 ⟨x1,y1,s1,rfl,hxy1,hs1,hs2,hS1,hb1⟩
 have HR1:=hide (HR.out.below hgK hb1)
 have HS1:=hide hS1
 have HB1:=hide hb1
 have bx1:x1<n∧y1<n∧(x1=i∨x1=j)∧(y1=i∨y1=j):=by omega
 have HX1:=hide bx1
 clear hS1 hb1 hxy1 bx1
 go_wp2_with fail
 refine (c_order2U y1 k s1 hl HX1.out.2.1 hk hgK (by omega) HR1.out HS1.out).mono ?_
 rintro e w2 ⟨x2,y2,s2,rfl,hxy2,hs3,hs4,hS2,hb2⟩
 have HR2:=hide (HR1.out.below hgK hb2)
 have HS2:=hide hS2
 have HB2:=hide (HB1.out.trans hb2)
 have bx2:x2<n∧(x2=i∨x2=j∨x2=k):=by have:=HX1.out;omega
 have HX2:=hide bx2
 clear hS2 hb2 hxy2 bx2
 go_wp2_with fail
 refine (c_order2U x1 x2 s2 hl HX1.out.1 HX2.out.1 hgK (by omega) HR2.out HS2.out).mono ?_
 rintro e w3 ⟨x3,y3,s3,rfl,hxy3,hs5,hs6,hS3,hb3⟩
 have HS3:=hide hS3
 have HB3:=hide (HB2.out.trans hb3)
 have HX3:Hid (y3=i∨y3=j∨y3=k):=(by have h1:=HX1.out;have h2:=HX2.out;omega:y3=i∨y3=j∨y3=k)
 clear hS3 hb3 hxy3
 go_wp2
 go_ret
 exact ⟨y3,s3,rfl,HX3.out,by omega,by omega,HS3.out,HB3.out⟩
set_option maxHeartbeats 2000000 in
theorem c_pivotU {w:World} {B g n c a b:Nat} {D:Array Int} (hl:n≤40) (hab:a+8≤b) (hbn:b≤n) (hR:RowU w B g n c D) :
  Calls Tryz.prog 347 #[.slice (some ⟨g,0,none⟩) n c,.int .i64 a,.int .i64 b] w fun e w'=>∃ (x:Nat) (h:Int),e=.returned (.tuple #[.int .i64 x,.int .i64 h])∧a≤x∧x<b∧(h=0∨h=1)∧Below w.heap.size w w':=by
 have HR:=hide hR
 clear hR
 obtain ⟨l,el⟩:∃ l,l=b - a:=⟨_,rfl⟩
 have e1:(b:Int) - (a:Int)=(l:Int):=by omega
 have u1:IntKind.i64.wrap (l:Int)=l:=IntWalk.i64_in _ ⟨by omega,by omega⟩
 obtain ⟨q,eq⟩:∃ q,q=l / 4:=⟨_,rfl⟩
 have e2:(l:Int).tdiv 4=(q:Int):=by rw [Int.tdiv_eq_ediv_of_nonneg (by omega)];omega
 have u2:IntKind.i64.wrap (q:Int)=q:=IntWalk.i64_in _ ⟨by omega,by omega⟩
 have u3:IntKind.i64.wrap ((q:Int)*2)=(q:Int)*2:=IntWalk.i64_in _ ⟨by omega,by omega⟩
 have u4:IntKind.i64.wrap ((q:Int)*3)=(q:Int)*3:=IntWalk.i64_in _ ⟨by omega,by omega⟩
 obtain ⟨i,ei⟩:∃ i,i=a+q:=⟨_,rfl⟩
 obtain ⟨j,ej⟩:∃ j,j=a+q*2:=⟨_,rfl⟩
 obtain ⟨k,ek⟩:∃ k,k=a+q*3:=⟨_,rfl⟩
 have e3:(a:Int)+(q:Int)=(i:Int):=by omega
 have e4:(a:Int)+(q:Int)*2=(j:Int):=by omega
 have e5:(a:Int)+(q:Int)*3=(k:Int):=by omega
 have u5:IntKind.i64.wrap (i:Int)=i:=IntWalk.i64_in _ ⟨by omega,by omega⟩
 have u6:IntKind.i64.wrap (j:Int)=j:=IntWalk.i64_in _ ⟨by omega,by omega⟩
 have u7:IntKind.i64.wrap (k:Int)=k:=IntWalk.i64_in _ ⟨by omega,by omega⟩
 have hb:(a≤i∧i<b)∧(a≤j∧j<b)∧(a≤k∧k<b):=by omega
 have HQ:=hide hb
 have d1:decide ((8:Int)≤(l:Int))=true:=decide_eq_true (by omega)
 have d1N:decide (8≤l)=true:=decide_eq_true (by omega)
 have d2:decide ((50:Int)≤(l:Int))=false:=decide_eq_false (by omega)
 have d2N:decide (50≤l)=false:=decide_eq_false (by omega)
 have g1:8≤l:=by omega
 have g2:l<50:=by omega
 have hg:=HR.out.lt.2
 clear el eq ei ej ek hb
 go_enter Tryz.func347,Tryz.ntmps347
 go_wp2_with fail
 refine (c_medianU i j k 0 hl (by have:=HQ.out;omega) (by have:=HQ.out;omega) (by have:=HQ.out;omega) (K:=w.heap.size) hg (by omega) (HR.out.below hg ((Below.refl _ _).alloc (Nat.le_refl _) _)) ⟨by simp,by simp,by omega,by omega⟩).mono ?_
 rintro e w1 ⟨x,s,rfl,hx,hs0,hs1,hS,hb1⟩
 have HT:=hide (((Below.refl w.heap.size w).alloc (Nat.le_refl _) (.cells #[.int .i64 0] 3)).trans hb1)
 have HX:Hid (a≤x∧x<b):=(by have:=HQ.out;omega:a≤x∧x<b)
 obtain ⟨hc,_,_,_⟩:=hS
 clear hb1 hx
 by_cases hz:s=0
 ·subst hz
  go_wp2
  go_ret2
  exact ⟨x,1,rfl,HX.out.1,HX.out.2,Or.inr rfl,HT.out⟩
 ·have hz1:(s == 0)=false:=beq_eq_false_iff_ne.2 hz
  have hz2:(s == 12)=false:=beq_eq_false_iff_ne.2 (by omega)
  have hz3:¬ s=12:=by omega
  go_wp2
  go_ret2
  exact ⟨x,0,rfl,HX.out.1,HX.out.2,Or.inl rfl,HT.out⟩
end Go.Proofs.YthpilcoklapooaaGreatDoor
