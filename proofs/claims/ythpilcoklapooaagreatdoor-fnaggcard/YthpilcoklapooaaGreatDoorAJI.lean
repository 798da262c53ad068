/-
 slices.Sort at uint64, of at most forty numbers that all differ: the sort itself.
-/
import Derived.Test.YthpilcoklapooaaGreatDoorAJF
import Derived.Test.YthpilcoklapooaaGreatDoorAJG
import Derived.Test.YthpilcoklapooaaGreatDoorAJH
namespace Go.Proofs.YthpilcoklapooaaGreatDoor
set_option linter.unusedVariables false
set_option linter.unusedSimpArgs false
open Go.ChangeShapes Go.WideShapes Go.ChangeAt Go.RowKit Go.PlainAid
open Go.Sort (swp ltInt PermIn SortedIn permIn_all permIn_mono permIn_trans permIn_refl)
set_option maxRecDepth 10000
theorem perm_list {a b:Nat} {d d':Array Int} (h:PermIn a b d d') (hb:b≤d.size):d'.toList.Perm d.toList:=by
 have h1:=permIn_mono d d' a b 0 d.size (Nat.zero_le _) hb (Nat.le_refl _) h
 have h2:=h1.2.2
 have e1:d.extract 0 d.size=d:=by simp
 have e2:d'.extract 0 d.size=d':=by rw [← h1.1];simp
 rwa [e1,e2] at h2
/-- Nothing from x on is less than what stands ahead of it. -/
def LowI (x y:Nat) (M:Array Int):Prop:=x=0∨∀ i,x≤i→i<y→M[x - 1]!≤M[i]!
theorem LowI.perm {x y:Nat} {M M1:Array Int} (h:LowI x y M) (hp:PermIn x y M M1) (hy:y≤M.size):LowI x y M1:=by
 rcases h with h | h
 ·exact .inl h
 ·by_cases hx:x=0
  ·exact .inl hx
  ·refine .inr (fun i h1 h2=>?_)
   rw [hp.2.1 (x - 1) (by omega)]
   exact permIn_all M M1 x y (fun v=>M[x - 1]!≤v) hy hp h i h1 h2
theorem LowI.cut {x y m:Nat} {M:Array Int} (h:LowI x y M) (hm:m≤y):LowI x m M:=by
 rcases h with h | h
 ·exact .inl h
 ·exact .inr (fun i h1 h2=>h i h1 (by omega))
theorem join_sorted {x y m:Nat} {N:Array Int} {p:Int} (hm:N[m]! = p) (hL:∀ i,x≤i→i<m→N[i]! < p) (hR:∀ i,m<i→i<y→p≤N[i]!) (sL:SortedIn ltInt x m N) (sR:SortedIn ltInt (m+1) y N):SortedIn ltInt x y N:=fun i j h1 h2 h3=>by
 rcases Nat.lt_trichotomy j m with hj | hj | hj
 ·exact sL i j h1 h2 hj
 ·subst hj
  have:=hL i h1 h2
  simp only [ltInt];exact decide_eq_false (by omega)
 ·rcases Nat.lt_trichotomy i m with hi | hi | hi
  ·have a1:=hL i h1 hi
   have a2:=hR j hj h3
   simp only [ltInt];exact decide_eq_false (by omega)
  ·subst hi
   have a2:=hR j hj h3
   simp only [ltInt];exact decide_eq_false (by omega)
  ·exact sR i j (by omega) h2 h3
/-- What the loop keeps: if x .. y is sorted, all is. -/
structure PQ (D:Array Int) (a b x y:Nat) (M:Array Int):Prop where
 fin:∀ M',PermIn x y M M'→SortedIn ltInt x y M'→PermIn a b D M'∧SortedIn ltInt a b M'
 nd:M.toList.Nodup
 low:LowI x y M
 ax:a≤x
 xy:x≤y
 yb:y≤b
 bs:b≤M.size
theorem PQ.start {D:Array Int} {a b:Nat} (nd:D.toList.Nodup) (low:LowI a b D) (ab:a≤b) (bs:b≤D.size):PQ D a b a b D:=
 ⟨fun M' h1 h2=>⟨h1,h2⟩,nd,low,Nat.le_refl _,ab,Nat.le_refl _,bs⟩
theorem PQ.perm {D M M1:Array Int} {a b x y:Nat} (h:PQ D a b x y M) (hp:PermIn x y M M1):PQ D a b x y M1:=by
 have b1:=h.yb
 have b2:=h.bs
 exact ⟨fun M' h1 h2=>h.fin M' (permIn_trans _ _ _ _ _ hp h1) h2,(perm_list hp (by omega)).nodup_iff.2 h.nd,h.low.perm hp (by omega),h.ax,h.xy,h.yb,by rw [hp.1];exact h.bs⟩
theorem PQ.left {D M M2 M3:Array Int} {a b x y m:Nat} (h:PQ D a b x y M) (po:PO M x y m M2) (hp:PermIn x m M2 M3) (hs:SortedIn ltInt x m M3):PQ D a b (m+1) y M3:=by
 have h2:=h.perm po.perm
 have b1:=h2.yb
 have b2:=h2.bs
 have b3:=po.am
 have b4:=po.mb
 have b5:=h.ax
 have e3:M3[m]! = M2[m]!:=hp.2.1 m (.inr (Nat.le_refl _))
 have l3:∀ i,x≤i→i<m→M3[i]! < M2[m]!:=fun i h1 h2=>permIn_all M2 M3 x m (fun v=>v<M2[m]!) (by omega) hp po.L i h1 h2
 have r3:∀ i,m<i→i<y→M2[m]!≤M3[i]!:=fun i h1 h2=>by
  rw [hp.2.1 i (.inr (by omega))];exact Int.not_lt.1 (po.R i h1 h2)
 refine ⟨fun M' p1 s1=>?_,(perm_list hp (by omega)).nodup_iff.2 h2.nd,.inr (fun i h1 h2=>?_),by omega,by omega,b1,by rw [hp.1];exact b2⟩
 ·have em:M'[m]! = M2[m]!:=(p1.2.1 m (.inl (by omega))).trans e3
  refine h2.fin M' (permIn_trans _ _ _ _ _ (permIn_mono _ _ _ _ x y (Nat.le_refl _) (by omega) (by omega) hp) (permIn_mono _ _ _ _ x y (by omega) (Nat.le_refl _) (by rw [hp.1];omega) p1)) ?_
  refine join_sorted em (fun i h1 h2=>?_) (fun i h1 h2=>?_) (fun i j h1 h2 h3=>?_) s1
  ·rw [p1.2.1 i (.inl (by omega))];exact l3 i h1 h2
  ·exact permIn_all M3 M' (m+1) y (fun v=>M2[m]!≤v) (by rw [hp.1];omega) p1 (fun i h1 h2=>r3 i (by omega) h2) i (by omega) h2
  ·rw [p1.2.1 i (.inl (by omega)),p1.2.1 j (.inl (by omega))];exact hs i j h1 h2 h3
 ·rw [Nat.add_sub_cancel,e3];exact r3 i (by omega) h2
theorem PQ.right {D M M2 M3:Array Int} {a b x y m:Nat} (h:PQ D a b x y M) (po:PO M x y m M2) (hp:PermIn (m+1) y M2 M3) (hs:SortedIn ltInt (m+1) y M3):PQ D a b x m M3:=by
 have h2:=h.perm po.perm
 have b1:=h2.yb
 have b2:=h2.bs
 have b3:=po.am
 have b4:=po.mb
 have b5:=h.ax
 have e3:M3[m]! = M2[m]!:=hp.2.1 m (.inl (by omega))
 have l3:∀ i,x≤i→i<m→M3[i]! < M2[m]!:=fun i h1 h2=>by rw [hp.2.1 i (.inl (by omega))];exact po.L i h1 h2
 have r3:∀ i,m<i→i<y→M2[m]!≤M3[i]!:=fun i h1 h2=>permIn_all M2 M3 (m+1) y (fun v=>M2[m]!≤v) (by omega) hp (fun i h1 h2=>Int.not_lt.1 (po.R i (by omega) h2)) i (by omega) h2
 refine ⟨fun M' p1 s1=>?_,(perm_list hp (by omega)).nodup_iff.2 h2.nd,?_,b5,by omega,by omega,by rw [hp.1];exact b2⟩
 ·have em:M'[m]! = M2[m]!:=(p1.2.1 m (.inr (Nat.le_refl _))).trans e3
  refine h2.fin M' (permIn_trans _ _ _ _ _ (permIn_mono _ _ _ _ x y (by omega) (Nat.le_refl _) (by omega) hp) (permIn_mono _ _ _ _ x y (Nat.le_refl _) (by omega) (by rw [hp.1];omega) p1)) ?_
  refine join_sorted em (fun i h1 h2=>?_) (fun i h1 h2=>?_) s1 (fun i j h1 h2 h3=>?_)
  ·exact permIn_all M3 M' x m (fun v=>v<M2[m]!) (by rw [hp.1];omega) p1 (fun i h1 h2=>l3 i h1 h2) i h1 h2
  ·rw [p1.2.1 i (.inr (by omega))];exact r3 i h1 h2
  ·rw [p1.2.1 i (.inr (by omega)),p1.2.1 j (.inr (by omega))];exact hs i j h1 h2 h3
 ·rcases h2.low with h | h
  ·exact .inl h
  ·by_cases hx:x=0
   ·exact .inl hx
   ·refine .inr (fun i h1 h2=>?_)
    rw [hp.2.1 (x - 1) (.inl (by omega)),hp.2.1 i (.inl (by omega))]
    exact h i h1 (by omega)
theorem PQ.lowL {D M M2:Array Int} {a b x y m:Nat} (h:PQ D a b x y M) (po:PO M x y m M2):LowI x m M2:=(h.perm po.perm).low.cut (Nat.le_of_lt po.mb)
theorem PO.lowR {M M2:Array Int} {x y m:Nat} (po:PO M x y m M2):LowI (m+1) y M2:=.inr (fun i h1 h2=>by rw [Nat.add_sub_cancel];exact Int.not_lt.1 (po.R i (by omega) h2))
theorem nd_ne {M:Array Int} (h:M.toList.Nodup) {i j:Nat} (hi:i<M.size) (hj:j<M.size) (hij:i≠j):M[i]!≠M[j]!:=by
 rw [getElem!_pos M i hi,getElem!_pos M j hj]
 have hp:=List.pairwise_iff_getElem.1 h
 rcases Nat.lt_or_gt_of_ne hij with hlt | hlt
 ·have:=hp i j (by simpa using hi) (by simpa using hj) hlt
  simpa using this
 ·have:=hp j i (by simpa using hj) (by simpa using hi) hlt
  intro e;exact this (by simpa using e.symm)
theorem PQ.less {D M:Array Int} {a b x y q:Nat} (h:PQ D a b x y M) (hx:0<x) (h1:x≤q) (h2:q<y):M[x - 1]! < M[q]!:=by
 have b1:=h.yb
 have b2:=h.bs
 have n1:=nd_ne h.nd (i:=x - 1) (j:=q) (by omega) (by omega) (by omega)
 rcases h.low with hl | hl
 ·omega
 ·have:=hl q h1 h2
  omega
set_option maxHeartbeats 16000000 in
theorem c_pdqU:∀ (N:Nat) {w:World} {B g n c a b:Nat} {D:Array Int} (lim:Int),b - a≤N→n≤40→a≤b→b≤n→0≤lim→lim≤64→D.toList.Nodup→LowI a b D→RowU w B g n c D →
  Calls Tryz.prog 343 #[.slice (some ⟨g,0,none⟩) n c,.int .i64 a,.int .i64 b,.int .i64 lim] w fun e w'=>∃ r,e=.returned r∧∃ M:Array Int,PermIn a b D M∧SortedIn ltInt a b M∧RowU w' B g n c M∧Below B w w':=by
 intro N
 induction N using Nat.strongRecOn with
 | ind N IH=>
 intro w B g n c a b D lim hN hl hab hbn hl0 hl1 hnd hlow hR
 have HIH:Hid (∀ m<N,∀ {w:World} {B g n c a b:Nat} {D:Array Int} (lim:Int),b - a≤m→n≤40→a≤b→b≤n→0≤lim→lim≤64→D.toList.Nodup→LowI a b D→RowU w B g n c D→Calls Tryz.prog 343 #[.slice (some ⟨g,0,none⟩) n c,.int .i64 a,.int .i64 b,.int .i64 lim] w fun e w'=>∃ r,e=.returned r∧∃ M:Array Int,PermIn a b D M∧SortedIn ltInt a b M∧RowU w' B g n c M∧Below B w w'):=IH
 clear IH
 have HQ0:=hide (PQ.start hnd hlow hab (by rw [hR.1];exact hbn))
 have HR0:=hide hR
 clear hR hnd hlow
 go_enter Tryz.func343,Tryz.ntmps343
 go_wp2
 go_loopw [1,2,3,8,9] (fun va vb vl v8 v9 wr=>Below B w wr∧∃ (x y:Nat) (li:Int) (q8 q9:Bool) (M:Array Int),va=.int .i64 x∧vb=.int .i64 y∧vl=.int .i64 li∧v8=.bool q8∧v9=.bool q9∧0≤li∧li≤64∧Hid (PQ D a b x y M)∧Hid (RowU wr B g n c M)) (fun va vb vl v8 v9 wr=>(Go.RowKit.intOf vb - Go.RowKit.intOf va).toNat)
 case atStart=>exact ⟨Below.refl _ _,a,b,lim,true,true,D,rfl,rfl,rfl,rfl,rfl,hl0,hl1,HQ0,HR0⟩
 case round=>
  clear HQ0 HR0 hl0 hl1
  obtain ⟨hbel,x,y,li,q8,q9,M,rfl,rfl,rfl,rfl,rfl,hl0,hl1,HQ,HM⟩:=hrel
  have HB:=hide hbel
  clear hbel
  have bx:a≤x∧x≤y∧y≤b:=⟨HQ.out.ax,HQ.out.xy,HQ.out.yb⟩
  obtain ⟨l,el⟩:∃ l,l=y - x:=⟨_,rfl⟩
  have e1:(y:Int) - (x:Int)=(l:Int):=by omega
  have u1:IntKind.i64.wrap (l:Int)=l:=IntWalk.i64_in _ ⟨by omega,by omega⟩
  have HL:=hide el
  by_cases h12:l≤12
  ·have d0:decide ((l:Int)≤12)=true:=decide_eq_true (by omega)
   have d0N:decide (l≤12)=true:=decide_eq_true h12
   clear el
   go_wp2_with fail
   refine (c_insU hl bx.2.1 (by omega) HM.out).mono ?_
   rintro e w1 ⟨r,rfl,M1,p1,s1,hR1,hb1⟩
   have HF:=hide (HQ.out.fin M1 p1 s1)
   have HR1:=hide hR1
   have HB1:=hide (HB.out.trans hb1)
   clear p1 s1 hR1 hb1
   go_wp2
   (try simp only [Exit.inBlock,Exit.then]);refine bodyPost_ret (results_none rfl _ _ _) rfl ?_
   exact ⟨_,rfl,M1,HF.out.1,HF.out.2,HR1.out,HB1.out⟩
  have d0:decide ((l:Int)≤12)=false:=decide_eq_false (by omega)
  have d0N:decide (l≤12)=false:=decide_eq_false h12
  have hyx:x+13≤y:=by omega
  by_cases hz:li=0
  ·subst hz
   clear el
   go_wp2_with fail
   refine (c_heapU hl (by omega) (by omega) HM.out).mono ?_
   rintro e w1 ⟨r,rfl,M1,p1,s1,hR1,hb1⟩
   have HF:=hide (HQ.out.fin M1 p1 s1)
   have HR1:=hide hR1
   have HB1:=hide (HB.out.trans hb1)
   clear p1 s1 hR1 hb1
   go_wp2
   (try simp only [Exit.inBlock,Exit.then]);refine bodyPost_ret (results_none rfl _ _ _) rfl ?_
   exact ⟨_,rfl,M1,HF.out.1,HF.out.2,HR1.out,HB1.out⟩
  have dz:(li == 0)=false:=beq_eq_false_iff_ne.2 hz
  have uli:IntKind.i64.wrap (li - 1)=li - 1:=IntWalk.i64_in _ ⟨by omega,by omega⟩
  clear el
  cases q8 with
  | false=>
   go_wp2_with fail
   refine (c_breakU hl (a:=x) (b:=y) (by omega) (by omega) HM.out).mono ?_
   rintro e w1 ⟨r,rfl,M1,p1,hR1,hb1⟩
   have HQ1:=hide (HQ.out.perm p1)
   have HM1:=hide hR1
   have HB1:=hide (HB.out.trans hb1)
   clear p1 hR1 hb1
   go_wp2_with fail
   refine (c_pivotU hl (a:=x) (b:=y) (by omega) (by omega) HM1.out).mono ?_
   rintro e wp1 ⟨q,h,rfl,hq0,hq1,hh,hbp⟩
   have HMp1:=hide (HM1.out.below HM1.out.lt.2 hbp)
   have HBp1:=hide (HB1.out.trans (hbp.mono (Nat.le_of_lt (Nat.lt_of_le_of_lt HM1.out.lt.1 HM1.out.lt.2))))
   clear hbp
   have dh:(h == 2)=false:=beq_eq_false_iff_ne.2 (by omega)
   clear hh
   by_cases hx0:x=0
   ·have dx:decide ((0:Int)<(x:Int))=false:=decide_eq_false (by omega)
    have dxN:decide (0<x)=false:=decide_eq_false (by omega)
    clear hx0
    go_wp2
    go_quiet (first | (go_at_call 350;refine Calls.quiet_of_same (c_lessU _ _ _)))
    go_wp2_with fail
    generalize hwz:wp1.drewN nq=W2
    have HMz2:Hid (RowU W2 B g n c M1):=by rw [← hwz];exact HMp1.out.drews _
    have HBz2:Hid (Below B w W2):=by rw [← hwz];exact bel_drews HBp1.out _
    clear hwz
    refine (c_partU hl hq0 hq1 (by omega) HMz2.out).mono ?_
    rintro e w2 ⟨m,z,rfl,M2,hpo,hR2,hb2⟩
    have HPO:=hide hpo
    have bm:x≤m∧m<y:=⟨hpo.am,hpo.mb⟩
    have HM2:=hide hR2
    have HB2:=hide (HBz2.out.trans hb2)
    clear hpo hR2 hb2
    obtain ⟨l1,el1⟩:∃ l1,l1=m - x:=⟨_,rfl⟩
    obtain ⟨l2,el2⟩:∃ l2,l2=y - m:=⟨_,rfl⟩
    obtain ⟨l3,el3⟩:∃ l3,l3=l / 8:=⟨_,rfl⟩
    have f1:(m:Int) - (x:Int)=(l1:Int):=by omega
    have f2:(y:Int) - (m:Int)=(l2:Int):=by omega
    have f3:(l:Int).tdiv 8=(l3:Int):=by rw [Int.tdiv_eq_ediv_of_nonneg (by omega)];omega
    have v1:IntKind.i64.wrap (l1:Int)=l1:=IntWalk.i64_in _ ⟨by omega,by omega⟩
    have v2:IntKind.i64.wrap (l2:Int)=l2:=IntWalk.i64_in _ ⟨by omega,by omega⟩
    have v3:IntKind.i64.wrap (l3:Int)=l3:=IntWalk.i64_in _ ⟨by omega,by omega⟩
    have vm:IntKind.i64.wrap ((m:Int)+1)=(m:Int)+1:=IntWalk.i64_in _ ⟨by omega,by omega⟩
    have HE3:=hide (And.intro el1 (And.intro el2 el3))
    have hlN:l≤N:=by have:=HL.out;omega
    have HLL:=HL.out
    have bl1:m - x<N∧y - (m+1)<N:=by omega
    have HBL:=hide bl1
    clear HLL bl1 el1 el2 el3
    by_cases hlr:l1<l2
    ·have dlr:decide ((l1:Int)<(l2:Int))=true:=decide_eq_true (by omega)
     have dlrN:decide (l1<l2)=true:=decide_eq_true hlr
     go_wp2_with fail
     refine (HIH.out (m - x) HBL.out.1 (li - 1) (Nat.le_refl _) hl bm.1 (by omega) (by omega) (by omega) (HQ1.out.perm HPO.out.perm).nd (HQ1.out.lowL HPO.out) HM2.out).mono ?_
     rintro e w3 ⟨r,rfl,M3,p3,s3,hR3,hb3⟩
     have HQ3:=hide (HQ1.out.left HPO.out p3 s3)
     have HM3:=hide hR3
     have HB3:=hide (HB2.out.trans hb3)
     clear p3 s3 hR3 hb3
     go_wp2
     go_roundw
     case rel=>exact ⟨HB3.out,m+1,y,li - 1,_,z,M3,by go_num,rfl,rfl,rfl,rfl,by omega,by omega,HQ3,HM3⟩
     case measure=>first | (simp [Go.RowKit.intOf];done) | (simp [Go.RowKit.intOf];omega)
    ·have dlr:decide ((l1:Int)<(l2:Int))=false:=decide_eq_false (by omega)
     have dlrN:decide (l1<l2)=false:=decide_eq_false hlr
     go_wp2_with fail
     refine (HIH.out (y - (m+1)) HBL.out.2 (a:=m+1) (b:=y) (li - 1) (Nat.le_refl _) hl (by omega) (by omega) (by omega) (by omega) (HQ1.out.perm HPO.out.perm).nd HPO.out.lowR HM2.out).mono ?_
     rintro e w3 ⟨r,rfl,M3,p3,s3,hR3,hb3⟩
     have HQ3:=hide (HQ1.out.right HPO.out p3 s3)
     have HM3:=hide hR3
     have HB3:=hide (HB2.out.trans hb3)
     clear p3 s3 hR3 hb3
     go_wp2
     go_roundw
     case rel=>exact ⟨HB3.out,x,m,li - 1,_,z,M3,rfl,rfl,rfl,rfl,rfl,by omega,by omega,HQ3,HM3⟩
     case measure=>first | (simp [Go.RowKit.intOf];done) | (simp [Go.RowKit.intOf];omega)
   ·have dx:decide ((0:Int)<(x:Int))=true:=decide_eq_true (by omega)
    have dxN:decide (0<x)=true:=decide_eq_true (by omega)
    obtain ⟨x1,ex1⟩:∃ x1,x1=x - 1:=⟨_,rfl⟩
    have ex:(x:Int) - 1=(x1:Int):=by omega
    have ux:IntKind.i64.wrap (x1:Int)=x1:=IntWalk.i64_in _ ⟨by omega,by omega⟩
    obtain ⟨vx,hvx⟩:∃ v,v=M1[x1]!:=⟨_,rfl⟩
    obtain ⟨vq,hvq⟩:∃ v,v=M1[q]!:=⟨_,rfl⟩
    have bx1:x1<n:=by omega
    have bq1:q<n:=by omega
    have hcx:=HMp1.out.cell bx1 hvx
    have hcq:=HMp1.out.cell bq1 hvq
    have dl:decide (vx<vq)=true:=decide_eq_true (by rw [hvx,hvq,ex1];exact HQ1.out.less (by omega) hq0 hq1)
    clear ex1 hvx hvq hx0
    go_wp2
    go_quiet (first | (go_at_call 350;refine Calls.quiet_of_same (c_lessU _ _ _)))
    go_wp2_with fail
    generalize hwz:wp1.drewN nq=W3
    have HMz3:Hid (RowU W3 B g n c M1):=by rw [← hwz];exact HMp1.out.drews _
    have HBz3:Hid (Below B w W3):=by rw [← hwz];exact bel_drews HBp1.out _
    clear hwz
    try simp only [dl]
    clear dl hcx hcq
    refine (c_partU hl hq0 hq1 (by omega) HMz3.out).mono ?_
    rintro e w2 ⟨m,z,rfl,M2,hpo,hR2,hb2⟩
    have HPO:=hide hpo
    have bm:x≤m∧m<y:=⟨hpo.am,hpo.mb⟩
    have HM2:=hide hR2
    have HB2:=hide (HBz3.out.trans hb2)
    clear hpo hR2 hb2
    obtain ⟨l1,el1⟩:∃ l1,l1=m - x:=⟨_,rfl⟩
    obtain ⟨l2,el2⟩:∃ l2,l2=y - m:=⟨_,rfl⟩
    obtain ⟨l3,el3⟩:∃ l3,l3=l / 8:=⟨_,rfl⟩
    have f1:(m:Int) - (x:Int)=(l1:Int):=by omega
    have f2:(y:Int) - (m:Int)=(l2:Int):=by omega
    have f3:(l:Int).tdiv 8=(l3:Int):=by rw [Int.tdiv_eq_ediv_of_nonneg (by omega)];omega
    have v1:IntKind.i64.wrap (l1:Int)=l1:=IntWalk.i64_in _ ⟨by omega,by omega⟩
    have v2:IntKind.i64.wrap (l2:Int)=l2:=IntWalk.i64_in _ ⟨by omega,by omega⟩
    have v3:IntKind.i64.wrap (l3:Int)=l3:=IntWalk.i64_in _ ⟨by omega,by omega⟩
    have vm:IntKind.i64.wrap ((m:Int)+1)=(m:Int)+1:=IntWalk.i64_in _ ⟨by omega,by omega⟩
    have HE3:=hide (And.intro el1 (And.intro el2 el3))
    have hlN:l≤N:=by have:=HL.out;omega
    have HLL:=HL.out
    have bl1:m - x<N∧y - (m+1)<N:=by omega
    have HBL:=hide bl1
    clear HLL bl1 el1 el2 el3
    by_cases hlr:l1<l2
    ·have dlr:decide ((l1:Int)<(l2:Int))=true:=decide_eq_true (by omega)
     have dlrN:decide (l1<l2)=true:=decide_eq_true hlr
     go_wp2_with fail
     refine (HIH.out (m - x) HBL.out.1 (li - 1) (Nat.le_refl _) hl bm.1 (by omega) (by omega) (by omega) (HQ1.out.perm HPO.out.perm).nd (HQ1.out.lowL HPO.out) HM2.out).mono ?_
     rintro e w3 ⟨r,rfl,M3,p3,s3,hR3,hb3⟩
     have HQ3:=hide (HQ1.out.left HPO.out p3 s3)
     have HM3:=hide hR3
     have HB3:=hide (HB2.out.trans hb3)
     clear p3 s3 hR3 hb3
     go_wp2
     go_roundw
     case rel=>exact ⟨HB3.out,m+1,y,li - 1,_,z,M3,by go_num,rfl,rfl,rfl,rfl,by omega,by omega,HQ3,HM3⟩
     case measure=>first | (simp [Go.RowKit.intOf];done) | (simp [Go.RowKit.intOf];omega)
    ·have dlr:decide ((l1:Int)<(l2:Int))=false:=decide_eq_false (by omega)
     have dlrN:decide (l1<l2)=false:=decide_eq_false hlr
     go_wp2_with fail
     refine (HIH.out (y - (m+1)) HBL.out.2 (a:=m+1) (b:=y) (li - 1) (Nat.le_refl _) hl (by omega) (by omega) (by omega) (by omega) (HQ1.out.perm HPO.out.perm).nd HPO.out.lowR HM2.out).mono ?_
     rintro e w3 ⟨r,rfl,M3,p3,s3,hR3,hb3⟩
     have HQ3:=hide (HQ1.out.right HPO.out p3 s3)
     have HM3:=hide hR3
     have HB3:=hide (HB2.out.trans hb3)
     clear p3 s3 hR3 hb3
     go_wp2
     go_roundw
     case rel=>exact ⟨HB3.out,x,m,li - 1,_,z,M3,rfl,rfl,rfl,rfl,rfl,by omega,by omega,HQ3,HM3⟩
     case measure=>first | (simp [Go.RowKit.intOf];done) | (simp [Go.RowKit.intOf];omega)
  | true=>
   go_wp2_with fail
   refine (c_pivotU hl (a:=x) (b:=y) (by omega) (by omega) HM.out).mono ?_
   rintro e wp4 ⟨q,h,rfl,hq0,hq1,hh,hbp⟩
   have HMp4:=hide (HM.out.below HM.out.lt.2 hbp)
   have HBp4:=hide (HB.out.trans (hbp.mono (Nat.le_of_lt (Nat.lt_of_le_of_lt HM.out.lt.1 HM.out.lt.2))))
   clear hbp
   have dh:(h == 2)=false:=beq_eq_false_iff_ne.2 (by omega)
   cases q9 with
   | false=>
    clear hh
    by_cases hx0:x=0
    ·have dx:decide ((0:Int)<(x:Int))=false:=decide_eq_false (by omega)
     have dxN:decide (0<x)=false:=decide_eq_false (by omega)
     clear hx0
     go_wp2
     go_quiet (first | (go_at_call 350;refine Calls.quiet_of_same (c_lessU _ _ _)))
     go_wp2_with fail
     generalize hwz:wp4.drewN nq=W5
     have HMz5:Hid (RowU W5 B g n c M):=by rw [← hwz];exact HMp4.out.drews _
     have HBz5:Hid (Below B w W5):=by rw [← hwz];exact bel_drews HBp4.out _
     clear hwz
     refine (c_partU hl hq0 hq1 (by omega) HMz5.out).mono ?_
     rintro e w2 ⟨m,z,rfl,M2,hpo,hR2,hb2⟩
     have HPO:=hide hpo
     have bm:x≤m∧m<y:=⟨hpo.am,hpo.mb⟩
     have HM2:=hide hR2
     have HB2:=hide (HBz5.out.trans hb2)
     clear hpo hR2 hb2
     obtain ⟨l1,el1⟩:∃ l1,l1=m - x:=⟨_,rfl⟩
     obtain ⟨l2,el2⟩:∃ l2,l2=y - m:=⟨_,rfl⟩
     obtain ⟨l3,el3⟩:∃ l3,l3=l / 8:=⟨_,rfl⟩
     have f1:(m:Int) - (x:Int)=(l1:Int):=by omega
     have f2:(y:Int) - (m:Int)=(l2:Int):=by omega
     have f3:(l:Int).tdiv 8=(l3:Int):=by rw [Int.tdiv_eq_ediv_of_nonneg (by omega)];omega
     have v1:IntKind.i64.wrap (l1:Int)=l1:=IntWalk.i64_in _ ⟨by omega,by omega⟩
     have v2:IntKind.i64.wrap (l2:Int)=l2:=IntWalk.i64_in _ ⟨by omega,by omega⟩
     have v3:IntKind.i64.wrap (l3:Int)=l3:=IntWalk.i64_in _ ⟨by omega,by omega⟩
     have vm:IntKind.i64.wrap ((m:Int)+1)=(m:Int)+1:=IntWalk.i64_in _ ⟨by omega,by omega⟩
     have HE3:=hide (And.intro el1 (And.intro el2 el3))
     have hlN:l≤N:=by have:=HL.out;omega
     have HLL:=HL.out
     have bl1:m - x<N∧y - (m+1)<N:=by omega
     have HBL:=hide bl1
     clear HLL bl1 el1 el2 el3
     by_cases hlr:l1<l2
     ·have dlr:decide ((l1:Int)<(l2:Int))=true:=decide_eq_true (by omega)
      have dlrN:decide (l1<l2)=true:=decide_eq_true hlr
      go_wp2_with fail
      refine (HIH.out (m - x) HBL.out.1 (li) (Nat.le_refl _) hl bm.1 (by omega) (by omega) (by omega) (HQ.out.perm HPO.out.perm).nd (HQ.out.lowL HPO.out) HM2.out).mono ?_
      rintro e w3 ⟨r,rfl,M3,p3,s3,hR3,hb3⟩
      have HQ3:=hide (HQ.out.left HPO.out p3 s3)
      have HM3:=hide hR3
      have HB3:=hide (HB2.out.trans hb3)
      clear p3 s3 hR3 hb3
      go_wp2
      go_roundw
      case rel=>exact ⟨HB3.out,m+1,y,li,_,z,M3,by go_num,rfl,rfl,rfl,rfl,by omega,by omega,HQ3,HM3⟩
      case measure=>first | (simp [Go.RowKit.intOf];done) | (simp [Go.RowKit.intOf];omega)
     ·have dlr:decide ((l1:Int)<(l2:Int))=false:=decide_eq_false (by omega)
      have dlrN:decide (l1<l2)=false:=decide_eq_false hlr
      go_wp2_with fail
      refine (HIH.out (y - (m+1)) HBL.out.2 (a:=m+1) (b:=y) (li) (Nat.le_refl _) hl (by omega) (by omega) (by omega) (by omega) (HQ.out.perm HPO.out.perm).nd HPO.out.lowR HM2.out).mono ?_
      rintro e w3 ⟨r,rfl,M3,p3,s3,hR3,hb3⟩
      have HQ3:=hide (HQ.out.right HPO.out p3 s3)
      have HM3:=hide hR3
      have HB3:=hide (HB2.out.trans hb3)
      clear p3 s3 hR3 hb3
      go_wp2
      go_roundw
      case rel=>exact ⟨HB3.out,x,m,li,_,z,M3,rfl,rfl,rfl,rfl,rfl,by omega,by omega,HQ3,HM3⟩
      case measure=>first | (simp [Go.RowKit.intOf];done) | (simp [Go.RowKit.intOf];omega)
    ·have dx:decide ((0:Int)<(x:Int))=true:=decide_eq_true (by omega)
     have dxN:decide (0<x)=true:=decide_eq_true (by omega)
     obtain ⟨x1,ex1⟩:∃ x1,x1=x - 1:=⟨_,rfl⟩
     have ex:(x:Int) - 1=(x1:Int):=by omega
     have ux:IntKind.i64.wrap (x1:Int)=x1:=IntWalk.i64_in _ ⟨by omega,by omega⟩
     obtain ⟨vx,hvx⟩:∃ v,v=M[x1]!:=⟨_,rfl⟩
     obtain ⟨vq,hvq⟩:∃ v,v=M[q]!:=⟨_,rfl⟩
     have bx1:x1<n:=by omega
     have bq1:q<n:=by omega
     have hcx:=HMp4.out.cell bx1 hvx
     have hcq:=HMp4.out.cell bq1 hvq
     have dl:decide (vx<vq)=true:=decide_eq_true (by rw [hvx,hvq,ex1];exact HQ.out.less (by omega) hq0 hq1)
     clear ex1 hvx hvq hx0
     go_wp2
     go_quiet (first | (go_at_call 350;refine Calls.quiet_of_same (c_lessU _ _ _)))
     go_wp2_with fail
     generalize hwz:wp4.drewN nq=W6
     have HMz6:Hid (RowU W6 B g n c M):=by rw [← hwz];exact HMp4.out.drews _
     have HBz6:Hid (Below B w W6):=by rw [← hwz];exact bel_drews HBp4.out _
     clear hwz
     try simp only [dl]
     clear dl hcx hcq
     refine (c_partU hl hq0 hq1 (by omega) HMz6.out).mono ?_
     rintro e w2 ⟨m,z,rfl,M2,hpo,hR2,hb2⟩
     have HPO:=hide hpo
     have bm:x≤m∧m<y:=⟨hpo.am,hpo.mb⟩
     have HM2:=hide hR2
     have HB2:=hide (HBz6.out.trans hb2)
     clear hpo hR2 hb2
     obtain ⟨l1,el1⟩:∃ l1,l1=m - x:=⟨_,rfl⟩
     obtain ⟨l2,el2⟩:∃ l2,l2=y - m:=⟨_,rfl⟩
     obtain ⟨l3,el3⟩:∃ l3,l3=l / 8:=⟨_,rfl⟩
     have f1:(m:Int) - (x:Int)=(l1:Int):=by omega
     have f2:(y:Int) - (m:Int)=(l2:Int):=by omega
     have f3:(l:Int).tdiv 8=(l3:Int):=by rw [Int.tdiv_eq_ediv_of_nonneg (by omega)];omega
     have v1:IntKind.i64.wrap (l1:Int)=l1:=IntWalk.i64_in _ ⟨by omega,by omega⟩
     have v2:IntKind.i64.wrap (l2:Int)=l2:=IntWalk.i64_in _ ⟨by omega,by omega⟩
     have v3:IntKind.i64.wrap (l3:Int)=l3:=IntWalk.i64_in _ ⟨by omega,by omega⟩
     have vm:IntKind.i64.wrap ((m:Int)+1)=(m:Int)+1:=IntWalk.i64_in _ ⟨by omega,by omega⟩
     have HE3:=hide (And.intro el1 (And.intro el2 el3))
     have hlN:l≤N:=by have:=HL.out;omega
     have HLL:=HL.out
     have bl1:m - x<N∧y - (m+1)<N:=by omega
     have HBL:=hide bl1
     clear HLL bl1 el1 el2 el3
     by_cases hlr:l1<l2
     ·have dlr:decide ((l1:Int)<(l2:Int))=true:=decide_eq_true (by omega)
      have dlrN:decide (l1<l2)=true:=decide_eq_true hlr
      go_wp2_with fail
      refine (HIH.out (m - x) HBL.out.1 (li) (Nat.le_refl _) hl bm.1 (by omega) (by omega) (by omega) (HQ.out.perm HPO.out.perm).nd (HQ.out.lowL HPO.out) HM2.out).mono ?_
      rintro e w3 ⟨r,rfl,M3,p3,s3,hR3,hb3⟩
      have HQ3:=hide (HQ.out.left HPO.out p3 s3)
      have HM3:=hide hR3
      have HB3:=hide (HB2.out.trans hb3)
      clear p3 s3 hR3 hb3
      go_wp2
      go_roundw
      case rel=>exact ⟨HB3.out,m+1,y,li,_,z,M3,by go_num,rfl,rfl,rfl,rfl,by omega,by omega,HQ3,HM3⟩
      case measure=>first | (simp [Go.RowKit.intOf];done) | (simp [Go.RowKit.intOf];omega)
     ·have dlr:decide ((l1:Int)<(l2:Int))=false:=decide_eq_false (by omega)
      have dlrN:decide (l1<l2)=false:=decide_eq_false hlr
      go_wp2_with fail
      refine (HIH.out (y - (m+1)) HBL.out.2 (a:=m+1) (b:=y) (li) (Nat.le_refl _) hl (by omega) (by omega) (by omega) (by omega) (HQ.out.perm HPO.out.perm).nd HPO.out.lowR HM2.out).mono ?_
      rintro e w3 ⟨r,rfl,M3,p3,s3,hR3,hb3⟩
      have HQ3:=hide (HQ.out.right HPO.out p3 s3)
      have HM3:=hide hR3
      have HB3:=hide (HB2.out.trans hb3)
      clear p3 s3 hR3 hb3
      go_wp2
      go_roundw
      case rel=>exact ⟨HB3.out,x,m,li,_,z,M3,rfl,rfl,rfl,rfl,rfl,by omega,by omega,HQ3,HM3⟩
      case measure=>first | (simp [Go.RowKit.intOf];done) | (simp [Go.RowKit.intOf];omega)
   | true=>
    rcases hh with rfl | rfl
    ·clear dh
     by_cases hx0:x=0
     ·have dx:decide ((0:Int)<(x:Int))=false:=decide_eq_false (by omega)
      have dxN:decide (0<x)=false:=decide_eq_false (by omega)
      clear hx0
      go_wp2
      go_quiet (first | (go_at_call 350;refine Calls.quiet_of_same (c_lessU _ _ _)))
      go_wp2_with fail
      generalize hwz:wp4.drewN nq=W7
      have HMz7:Hid (RowU W7 B g n c M):=by rw [← hwz];exact HMp4.out.drews _
      have HBz7:Hid (Below B w W7):=by rw [← hwz];exact bel_drews HBp4.out _
      clear hwz
      refine (c_partU hl hq0 hq1 (by omega) HMz7.out).mono ?_
      rintro e w2 ⟨m,z,rfl,M2,hpo,hR2,hb2⟩
      have HPO:=hide hpo
      have bm:x≤m∧m<y:=⟨hpo.am,hpo.mb⟩
      have HM2:=hide hR2
      have HB2:=hide (HBz7.out.trans hb2)
      clear hpo hR2 hb2
      obtain ⟨l1,el1⟩:∃ l1,l1=m - x:=⟨_,rfl⟩
      obtain ⟨l2,el2⟩:∃ l2,l2=y - m:=⟨_,rfl⟩
      obtain ⟨l3,el3⟩:∃ l3,l3=l / 8:=⟨_,rfl⟩
      have f1:(m:Int) - (x:Int)=(l1:Int):=by omega
      have f2:(y:Int) - (m:Int)=(l2:Int):=by omega
      have f3:(l:Int).tdiv 8=(l3:Int):=by rw [Int.tdiv_eq_ediv_of_nonneg (by omega)];omega
      have v1:IntKind.i64.wrap (l1:Int)=l1:=IntWalk.i64_in _ ⟨by omega,by omega⟩
      have v2:IntKind.i64.wrap (l2:Int)=l2:=IntWalk.i64_in _ ⟨by omega,by omega⟩
      have v3:IntKind.i64.wrap (l3:Int)=l3:=IntWalk.i64_in _ ⟨by omega,by omega⟩
      have vm:IntKind.i64.wrap ((m:Int)+1)=(m:Int)+1:=IntWalk.i64_in _ ⟨by omega,by omega⟩
      have HE3:=hide (And.intro el1 (And.intro el2 el3))
      have hlN:l≤N:=by have:=HL.out;omega
      have HLL:=HL.out
      have bl1:m - x<N∧y - (m+1)<N:=by omega
      have HBL:=hide bl1
      clear HLL bl1 el1 el2 el3
      by_cases hlr:l1<l2
      ·have dlr:decide ((l1:Int)<(l2:Int))=true:=decide_eq_true (by omega)
       have dlrN:decide (l1<l2)=true:=decide_eq_true hlr
       go_wp2_with fail
       refine (HIH.out (m - x) HBL.out.1 (li) (Nat.le_refl _) hl bm.1 (by omega) (by omega) (by omega) (HQ.out.perm HPO.out.perm).nd (HQ.out.lowL HPO.out) HM2.out).mono ?_
       rintro e w3 ⟨r,rfl,M3,p3,s3,hR3,hb3⟩
       have HQ3:=hide (HQ.out.left HPO.out p3 s3)
       have HM3:=hide hR3
       have HB3:=hide (HB2.out.trans hb3)
       clear p3 s3 hR3 hb3
       go_wp2
       go_roundw
       case rel=>exact ⟨HB3.out,m+1,y,li,_,z,M3,by go_num,rfl,rfl,rfl,rfl,by omega,by omega,HQ3,HM3⟩
       case measure=>first | (simp [Go.RowKit.intOf];done) | (simp [Go.RowKit.intOf];omega)
      ·have dlr:decide ((l1:Int)<(l2:Int))=false:=decide_eq_false (by omega)
       have dlrN:decide (l1<l2)=false:=decide_eq_false hlr
       go_wp2_with fail
       refine (HIH.out (y - (m+1)) HBL.out.2 (a:=m+1) (b:=y) (li) (Nat.le_refl _) hl (by omega) (by omega) (by omega) (by omega) (HQ.out.perm HPO.out.perm).nd HPO.out.lowR HM2.out).mono ?_
       rintro e w3 ⟨r,rfl,M3,p3,s3,hR3,hb3⟩
       have HQ3:=hide (HQ.out.right HPO.out p3 s3)
       have HM3:=hide hR3
       have HB3:=hide (HB2.out.trans hb3)
       clear p3 s3 hR3 hb3
       go_wp2
       go_roundw
       case rel=>exact ⟨HB3.out,x,m,li,_,z,M3,rfl,rfl,rfl,rfl,rfl,by omega,by omega,HQ3,HM3⟩
       case measure=>first | (simp [Go.RowKit.intOf];done) | (simp [Go.RowKit.intOf];omega)
     ·have dx:decide ((0:Int)<(x:Int))=true:=decide_eq_true (by omega)
      have dxN:decide (0<x)=true:=decide_eq_true (by omega)
      obtain ⟨x1,ex1⟩:∃ x1,x1=x - 1:=⟨_,rfl⟩
      have ex:(x:Int) - 1=(x1:Int):=by omega
      have ux:IntKind.i64.wrap (x1:Int)=x1:=IntWalk.i64_in _ ⟨by omega,by omega⟩
      obtain ⟨vx,hvx⟩:∃ v,v=M[x1]!:=⟨_,rfl⟩
      obtain ⟨vq,hvq⟩:∃ v,v=M[q]!:=⟨_,rfl⟩
      have bx1:x1<n:=by omega
      have bq1:q<n:=by omega
      have hcx:=HMp4.out.cell bx1 hvx
      have hcq:=HMp4.out.cell bq1 hvq
      have dl:decide (vx<vq)=true:=decide_eq_true (by rw [hvx,hvq,ex1];exact HQ.out.less (by omega) hq0 hq1)
      clear ex1 hvx hvq hx0
      go_wp2
      go_quiet (first | (go_at_call 350;refine Calls.quiet_of_same (c_lessU _ _ _)))
      go_wp2_with fail
      generalize hwz:wp4.drewN nq=W8
      have HMz8:Hid (RowU W8 B g n c M):=by rw [← hwz];exact HMp4.out.drews _
      have HBz8:Hid (Below B w W8):=by rw [← hwz];exact bel_drews HBp4.out _
      clear hwz
      try simp only [dl]
      clear dl hcx hcq
      refine (c_partU hl hq0 hq1 (by omega) HMz8.out).mono ?_
      rintro e w2 ⟨m,z,rfl,M2,hpo,hR2,hb2⟩
      have HPO:=hide hpo
      have bm:x≤m∧m<y:=⟨hpo.am,hpo.mb⟩
      have HM2:=hide hR2
      have HB2:=hide (HBz8.out.trans hb2)
      clear hpo hR2 hb2
      obtain ⟨l1,el1⟩:∃ l1,l1=m - x:=⟨_,rfl⟩
      obtain ⟨l2,el2⟩:∃ l2,l2=y - m:=⟨_,rfl⟩
      obtain ⟨l3,el3⟩:∃ l3,l3=l / 8:=⟨_,rfl⟩
      have f1:(m:Int) - (x:Int)=(l1:Int):=by omega
      have f2:(y:Int) - (m:Int)=(l2:Int):=by omega
      have f3:(l:Int).tdiv 8=(l3:Int):=by rw [Int.tdiv_eq_ediv_of_nonneg (by omega)];omega
      have v1:IntKind.i64.wrap (l1:Int)=l1:=IntWalk.i64_in _ ⟨by omega,by omega⟩
      have v2:IntKind.i64.wrap (l2:Int)=l2:=IntWalk.i64_in _ ⟨by omega,by omega⟩
      have v3:IntKind.i64.wrap (l3:Int)=l3:=IntWalk.i64_in _ ⟨by omega,by omega⟩
      have vm:IntKind.i64.wrap ((m:Int)+1)=(m:Int)+1:=IntWalk.i64_in _ ⟨by omega,by omega⟩
      have HE3:=hide (And.intro el1 (And.intro el2 el3))
      have hlN:l≤N:=by have:=HL.out;omega
      have HLL:=HL.out
      have bl1:m - x<N∧y - (m+1)<N:=by omega
      have HBL:=hide bl1
      clear HLL bl1 el1 el2 el3
      by_cases hlr:l1<l2
      ·have dlr:decide ((l1:Int)<(l2:Int))=true:=decide_eq_true (by omega)
       have dlrN:decide (l1<l2)=true:=decide_eq_true hlr
       go_wp2_with fail
       refine (HIH.out (m - x) HBL.out.1 (li) (Nat.le_refl _) hl bm.1 (by omega) (by omega) (by omega) (HQ.out.perm HPO.out.perm).nd (HQ.out.lowL HPO.out) HM2.out).mono ?_
       rintro e w3 ⟨r,rfl,M3,p3,s3,hR3,hb3⟩
       have HQ3:=hide (HQ.out.left HPO.out p3 s3)
       have HM3:=hide hR3
       have HB3:=hide (HB2.out.trans hb3)
       clear p3 s3 hR3 hb3
       go_wp2
       go_roundw
       case rel=>exact ⟨HB3.out,m+1,y,li,_,z,M3,by go_num,rfl,rfl,rfl,rfl,by omega,by omega,HQ3,HM3⟩
       case measure=>first | (simp [Go.RowKit.intOf];done) | (simp [Go.RowKit.intOf];omega)
      ·have dlr:decide ((l1:Int)<(l2:Int))=false:=decide_eq_false (by omega)
       have dlrN:decide (l1<l2)=false:=decide_eq_false hlr
       go_wp2_with fail
       refine (HIH.out (y - (m+1)) HBL.out.2 (a:=m+1) (b:=y) (li) (Nat.le_refl _) hl (by omega) (by omega) (by omega) (by omega) (HQ.out.perm HPO.out.perm).nd HPO.out.lowR HM2.out).mono ?_
       rintro e w3 ⟨r,rfl,M3,p3,s3,hR3,hb3⟩
       have HQ3:=hide (HQ.out.right HPO.out p3 s3)
       have HM3:=hide hR3
       have HB3:=hide (HB2.out.trans hb3)
       clear p3 s3 hR3 hb3
       go_wp2
       go_roundw
       case rel=>exact ⟨HB3.out,x,m,li,_,z,M3,rfl,rfl,rfl,rfl,rfl,by omega,by omega,HQ3,HM3⟩
       case measure=>first | (simp [Go.RowKit.intOf];done) | (simp [Go.RowKit.intOf];omega)
    ·clear dh
     go_wp2_with fail
     refine (c_partialU hl (a:=x) (b:=y) (by omega) (by omega) HMp4.out).mono ?_
     rintro e wq9 ⟨z,rfl,hzs,mq,hwq⟩
     have HMq9:Hid (RowU wq9 B g n c M):=by rw [hwq];exact HMp4.out.drews _
     have HBq9:Hid (Below B w wq9):=by rw [hwq];exact bel_drews HBp4.out _
     clear hwq
     cases z with
     | true=>
      have HF:=hide (HQ.out.fin M (permIn_refl _ _ _) (hzs rfl))
      clear hzs
      go_wp2
      (try simp only [Exit.inBlock,Exit.then]);refine bodyPost_ret (results_none rfl _ _ _) rfl ?_
      exact ⟨_,rfl,M,HF.out.1,HF.out.2,HMq9.out,HBq9.out⟩
     | false=>
      clear hzs
      by_cases hx0:x=0
      ·have dx:decide ((0:Int)<(x:Int))=false:=decide_eq_false (by omega)
       have dxN:decide (0<x)=false:=decide_eq_false (by omega)
       clear hx0
       go_wp2
       go_quiet (first | (go_at_call 350;refine Calls.quiet_of_same (c_lessU _ _ _)))
       go_wp2_with fail
       generalize hwz:wq9.drewN nq=W10
       have HMz10:Hid (RowU W10 B g n c M):=by rw [← hwz];exact HMq9.out.drews _
       have HBz10:Hid (Below B w W10):=by rw [← hwz];exact bel_drews HBq9.out _
       clear hwz
       refine (c_partU hl hq0 hq1 (by omega) HMz10.out).mono ?_
       rintro e w2 ⟨m,z,rfl,M2,hpo,hR2,hb2⟩
       have HPO:=hide hpo
       have bm:x≤m∧m<y:=⟨hpo.am,hpo.mb⟩
       have HM2:=hide hR2
       have HB2:=hide (HBz10.out.trans hb2)
       clear hpo hR2 hb2
       obtain ⟨l1,el1⟩:∃ l1,l1=m - x:=⟨_,rfl⟩
       obtain ⟨l2,el2⟩:∃ l2,l2=y - m:=⟨_,rfl⟩
       obtain ⟨l3,el3⟩:∃ l3,l3=l / 8:=⟨_,rfl⟩
       have f1:(m:Int) - (x:Int)=(l1:Int):=by omega
       have f2:(y:Int) - (m:Int)=(l2:Int):=by omega
       have f3:(l:Int).tdiv 8=(l3:Int):=by rw [Int.tdiv_eq_ediv_of_nonneg (by omega)];omega
       have v1:IntKind.i64.wrap (l1:Int)=l1:=IntWalk.i64_in _ ⟨by omega,by omega⟩
       have v2:IntKind.i64.wrap (l2:Int)=l2:=IntWalk.i64_in _ ⟨by omega,by omega⟩
       have v3:IntKind.i64.wrap (l3:Int)=l3:=IntWalk.i64_in _ ⟨by omega,by omega⟩
       have vm:IntKind.i64.wrap ((m:Int)+1)=(m:Int)+1:=IntWalk.i64_in _ ⟨by omega,by omega⟩
       have HE3:=hide (And.intro el1 (And.intro el2 el3))
       have hlN:l≤N:=by have:=HL.out;omega
       have HLL:=HL.out
       have bl1:m - x<N∧y - (m+1)<N:=by omega
       have HBL:=hide bl1
       clear HLL bl1 el1 el2 el3
       by_cases hlr:l1<l2
       ·have dlr:decide ((l1:Int)<(l2:Int))=true:=decide_eq_true (by omega)
        have dlrN:decide (l1<l2)=true:=decide_eq_true hlr
        go_wp2_with fail
        refine (HIH.out (m - x) HBL.out.1 (li) (Nat.le_refl _) hl bm.1 (by omega) (by omega) (by omega) (HQ.out.perm HPO.out.perm).nd (HQ.out.lowL HPO.out) HM2.out).mono ?_
        rintro e w3 ⟨r,rfl,M3,p3,s3,hR3,hb3⟩
        have HQ3:=hide (HQ.out.left HPO.out p3 s3)
        have HM3:=hide hR3
        have HB3:=hide (HB2.out.trans hb3)
        clear p3 s3 hR3 hb3
        go_wp2
        go_roundw
        case rel=>exact ⟨HB3.out,m+1,y,li,_,z,M3,by go_num,rfl,rfl,rfl,rfl,by omega,by omega,HQ3,HM3⟩
        case measure=>first | (simp [Go.RowKit.intOf];done) | (simp [Go.RowKit.intOf];omega)
       ·have dlr:decide ((l1:Int)<(l2:Int))=false:=decide_eq_false (by omega)
        have dlrN:decide (l1<l2)=false:=decide_eq_false hlr
        go_wp2_with fail
        refine (HIH.out (y - (m+1)) HBL.out.2 (a:=m+1) (b:=y) (li) (Nat.le_refl _) hl (by omega) (by omega) (by omega) (by omega) (HQ.out.perm HPO.out.perm).nd HPO.out.lowR HM2.out).mono ?_
        rintro e w3 ⟨r,rfl,M3,p3,s3,hR3,hb3⟩
        have HQ3:=hide (HQ.out.right HPO.out p3 s3)
        have HM3:=hide hR3
        have HB3:=hide (HB2.out.trans hb3)
        clear p3 s3 hR3 hb3
        go_wp2
        go_roundw
        case rel=>exact ⟨HB3.out,x,m,li,_,z,M3,rfl,rfl,rfl,rfl,rfl,by omega,by omega,HQ3,HM3⟩
        case measure=>first | (simp [Go.RowKit.intOf];done) | (simp [Go.RowKit.intOf];omega)
      ·have dx:decide ((0:Int)<(x:Int))=true:=decide_eq_true (by omega)
       have dxN:decide (0<x)=true:=decide_eq_true (by omega)
       obtain ⟨x1,ex1⟩:∃ x1,x1=x - 1:=⟨_,rfl⟩
       have ex:(x:Int) - 1=(x1:Int):=by omega
       have ux:IntKind.i64.wrap (x1:Int)=x1:=IntWalk.i64_in _ ⟨by omega,by omega⟩
       obtain ⟨vx,hvx⟩:∃ v,v=M[x1]!:=⟨_,rfl⟩
       obtain ⟨vq,hvq⟩:∃ v,v=M[q]!:=⟨_,rfl⟩
       have bx1:x1<n:=by omega
       have bq1:q<n:=by omega
       have hcx:=HMq9.out.cell bx1 hvx
       have hcq:=HMq9.out.cell bq1 hvq
       have dl:decide (vx<vq)=true:=decide_eq_true (by rw [hvx,hvq,ex1];exact HQ.out.less (by omega) hq0 hq1)
       clear ex1 hvx hvq hx0
       go_wp2
       go_quiet (first | (go_at_call 350;refine Calls.quiet_of_same (c_lessU _ _ _)))
       go_wp2_with fail
       generalize hwz:wq9.drewN nq=W11
       have HMz11:Hid (RowU W11 B g n c M):=by rw [← hwz];exact HMq9.out.drews _
       have HBz11:Hid (Below B w W11):=by rw [← hwz];exact bel_drews HBq9.out _
       clear hwz
       try simp only [dl]
       clear dl hcx hcq
       refine (c_partU hl hq0 hq1 (by omega) HMz11.out).mono ?_
       rintro e w2 ⟨m,z,rfl,M2,hpo,hR2,hb2⟩
       have HPO:=hide hpo
       have bm:x≤m∧m<y:=⟨hpo.am,hpo.mb⟩
       have HM2:=hide hR2
       have HB2:=hide (HBz11.out.trans hb2)
       clear hpo hR2 hb2
       obtain ⟨l1,el1⟩:∃ l1,l1=m - x:=⟨_,rfl⟩
       obtain ⟨l2,el2⟩:∃ l2,l2=y - m:=⟨_,rfl⟩
       obtain ⟨l3,el3⟩:∃ l3,l3=l / 8:=⟨_,rfl⟩
       have f1:(m:Int) - (x:Int)=(l1:Int):=by omega
       have f2:(y:Int) - (m:Int)=(l2:Int):=by omega
       have f3:(l:Int).tdiv 8=(l3:Int):=by rw [Int.tdiv_eq_ediv_of_nonneg (by omega)];omega
       have v1:IntKind.i64.wrap (l1:Int)=l1:=IntWalk.i64_in _ ⟨by omega,by omega⟩
       have v2:IntKind.i64.wrap (l2:Int)=l2:=IntWalk.i64_in _ ⟨by omega,by omega⟩
       have v3:IntKind.i64.wrap (l3:Int)=l3:=IntWalk.i64_in _ ⟨by omega,by omega⟩
       have vm:IntKind.i64.wrap ((m:Int)+1)=(m:Int)+1:=IntWalk.i64_in _ ⟨by omega,by omega⟩
       have HE3:=hide (And.intro el1 (And.intro el2 el3))
       have hlN:l≤N:=by have:=HL.out;omega
       have HLL:=HL.out
       have bl1:m - x<N∧y - (m+1)<N:=by omega
       have HBL:=hide bl1
       clear HLL bl1 el1 el2 el3
       by_cases hlr:l1<l2
       ·have dlr:decide ((l1:Int)<(l2:Int))=true:=decide_eq_true (by omega)
        have dlrN:decide (l1<l2)=true:=decide_eq_true hlr
        go_wp2_with fail
        refine (HIH.out (m - x) HBL.out.1 (li) (Nat.le_refl _) hl bm.1 (by omega) (by omega) (by omega) (HQ.out.perm HPO.out.perm).nd (HQ.out.lowL HPO.out) HM2.out).mono ?_
        rintro e w3 ⟨r,rfl,M3,p3,s3,hR3,hb3⟩
        have HQ3:=hide (HQ.out.left HPO.out p3 s3)
        have HM3:=hide hR3
        have HB3:=hide (HB2.out.trans hb3)
        clear p3 s3 hR3 hb3
        go_wp2
        go_roundw
        case rel=>exact ⟨HB3.out,m+1,y,li,_,z,M3,by go_num,rfl,rfl,rfl,rfl,by omega,by omega,HQ3,HM3⟩
        case measure=>first | (simp [Go.RowKit.intOf];done) | (simp [Go.RowKit.intOf];omega)
       ·have dlr:decide ((l1:Int)<(l2:Int))=false:=decide_eq_false (by omega)
        have dlrN:decide (l1<l2)=false:=decide_eq_false hlr
        go_wp2_with fail
        refine (HIH.out (y - (m+1)) HBL.out.2 (a:=m+1) (b:=y) (li) (Nat.le_refl _) hl (by omega) (by omega) (by omega) (by omega) (HQ.out.perm HPO.out.perm).nd HPO.out.lowR HM2.out).mono ?_
        rintro e w3 ⟨r,rfl,M3,p3,s3,hR3,hb3⟩
        have HQ3:=hide (HQ.out.right HPO.out p3 s3)
        have HM3:=hide hR3
        have HB3:=hide (HB2.out.trans hb3)
        clear p3 s3 hR3 hb3
        go_wp2
        go_roundw
        case rel=>exact ⟨HB3.out,x,m,li,_,z,M3,rfl,rfl,rfl,rfl,rfl,by omega,by omega,HQ3,HM3⟩
        case measure=>first | (simp [Go.RowKit.intOf];done) | (simp [Go.RowKit.intOf];omega)
set_option maxHeartbeats 2000000 in
theorem c_SortU {w:World} {B g n c:Nat} {D:Array Int} (hl:n≤40) (h1:1≤n) (hnd:D.toList.Nodup) (hR:RowU w B g n c D) :
  Calls Tryz.prog 339 #[.slice (some ⟨g,0,none⟩) n c] w fun e w'=>∃ r,e=.returned r∧∃ M:Array Int,M.toList.Perm D.toList∧SortedIn ltInt 0 n M∧RowU w' B g n c M∧Below B w w':=by
 have HR:=hide hR
 have hDn:D.size=n:=hR.1
 have u1:IntKind.u64.wrap (n:Int)=n:=IntWalk.u64_in _ ⟨by omega,by omega⟩
 clear hR
 go_enter Tryz.func339,Tryz.ntmps339
 go_wp2_with fail
 refine (c_bitsLenU n h1 hl _).mono ?_
 rintro e w1 ⟨v,rfl,hv,hw⟩
 obtain rfl:=hw.symm
 have hv6:=hv.1
 clear hw hv
 go_wp2_with fail
 refine (c_pdqU n (a:=0) (b:=n) (v:Int) (by omega) hl (Nat.zero_le _) (Nat.le_refl _) (by omega) (by omega) hnd (.inl rfl) HR.out).mono ?_
 rintro e w2 ⟨r,rfl,M,p1,s1,hR1,hb1⟩
 have HF:=hide (And.intro (perm_list p1 (by omega)) (And.intro s1 (And.intro hR1 hb1)))
 clear p1 s1 hR1 hb1
 go_wp2
 go_end0
 exact ⟨_,rfl,M,HF.out.1,HF.out.2.1,HF.out.2.2.1,HF.out.2.2.2⟩
end Go.Proofs.YthpilcoklapooaaGreatDoor
