/-
 A world over which the listed variables are laid. Of no program.
-/
import Derived.Test.YthpilcoklapooaaGreatDoorRows
import Derived.Carry
import Derived.ChangeOld
import Derived.ChangeSame
import Derived.ChangeVars
import Derived.JoinedOf
import Derived.LaidLaws
import Derived.LaidHandle
import Derived.LaidSub
import Derived.Lay
import Derived.MakeChecks
import Derived.Stop.Joined
import Derived.WalkKit
import Derived.ProofKit
import Derived.OpenShut
import Derived.Test.YthpilcoklapooaaGreatDoorADA
import Derived.ChangeSlices
import Derived.Test.YthpilcoklapooaaGreatDoorADH
import Derived.Test.YthpilcoklapooaaGreatDoorASE
import Derived.Deep.DeepCutAuto
import Derived.Lib.SmallJoins
import Derived.Lib.LaidTab
namespace Go.Proofs.YthpilcoklapooaaGreatDoor
set_option linter.unusedVariables false
set_option linter.unusedSimpArgs false
open Go.RowKit
end Go.Proofs.YthpilcoklapooaaGreatDoor
/-
 An argument that is a slice of bytes, opened; the listed variables' world with a handle among them.
-/
namespace Go.Proofs.YthpilcoklapooaaGreatDoor
set_option linter.unusedVariables false
set_option linter.unusedSimpArgs false
open Go.ChangeMaps (open_string shut_string)
open Go.ChangeShapes Go.WideShapes Go.ChangeAt Go.RowKit Go.PlainAid
set_option maxRecDepth 100000 in
theorem open_code {H:Type} {enc:TypeId×Value→H} {W:World} {r:Reach} {b0 base:Nat} {sp:Nat→Bool} {held:Bool} {v:Value} {d:DataW H} {ps:List MemPlace}
  (hval:Value.okWide Tryz.prog W r b0 22 v) (hd:DataW.Trod enc Tryz.prog W base sp held 22 v d ps):∃ ao ln cap,v=.slice ao ln cap∧ln≤maxLen∧(ln≤1048576→CodeAt W W.heap.size ao ln):=by
 obtain ⟨ao,ln,cap,rfl⟩:=okWide_slice Tryz.underlying22 hval
 obtain ⟨fuel,hf⟩:=hd
 rcases open_ints Tryz.underlying22 Tryz.underlying5 (show Tryz.prog.cellsOf 5=1 by kernel_rfl) hf with ⟨hcs,hx⟩ | ⟨a,len',cap',zs,hcs,_,hl,hm,hz,hx,hcell,hwz⟩
 ·simp [Value.cells] at hcs
  obtain ⟨rfl,rfl,rfl⟩:=hcs
  exact ⟨none,0,0,rfl,Nat.zero_le _,fun _=>⟨by omega,fun h=>absurd h (by omega)⟩⟩
 ·simp [Value.cells] at hcs
  obtain ⟨rfl,rfl,rfl⟩:=hcs
  refine ⟨some a,ln,cap,rfl,Nat.le_trans hl hm,fun h=>⟨h,fun h0=>?_⟩⟩
  have hzl:ln≤zs.length:=by rw [hz];split <;> omega
  have g0:=hcell 0 (by omega)
  obtain ⟨b,off,spot⟩:=a
  have hspot:spot=none:=by simpa [Addr.add] using World.cell?_spot g0
  subst hspot
  refine ⟨b,off,rfl,by have:=World.block_lt_of_cell? W _ g0;simpa [Addr.add] using this,fun i hi=>⟨zs.getD i 0,?_,by have:=range_u8 hwz i;simpa [List.getD] using this⟩⟩
  have:=hcell i (by omega)
  by_cases hi0:i=0
  ·subst hi0;simpa [Addr.add] using this
  ·simpa [Addr.add,hi0] using this
end Go.Proofs.YthpilcoklapooaaGreatDoor
/-
 The law FnAgg: into a drawn right Agg samples are put in any order, and ahead of bringing it together with another one or behind; two are brought together either way round; they stay right. Condition: the library's tables as the program's text lays them (the card ties them).
-/
namespace Go.Proofs.YthpilcoklapooaaGreatDoor
set_option linter.unusedVariables false
set_option linter.unusedSimpArgs false
open Go.ChangeMaps (open_string shut_string)
open Go.ChangeShapes Go.WideShapes Go.ChangeAt Go.RowKit Go.Joins
set_option maxRecDepth 10000
theorem two_ax {w:World} {g:Ag} {p:Pl} {x:Sx} (k:AI w g p) (ox:x.Ok):AL ((w.alloc (.cells (agArr g p) 34)).alloc (.cells (sxArr x) 36)) w.heap.size g p∧SL ((w.alloc (.cells (agArr g p) 34)).alloc (.cells (sxArr x) 36)) (w.heap.size+1) x∧Below w.heap.size w ((w.alloc (.cells (agArr g p) 34)).alloc (.cells (sxArr x) 36)):=by
 have a1:Below w.heap.size w (w.alloc (.cells (agArr g p) 34)):=(Below.refl _ _).alloc (Nat.le_refl _) _
 have a2:Below (w.alloc (.cells (agArr g p) 34)).heap.size (w.alloc (.cells (agArr g p) 34)) ((w.alloc (.cells (agArr g p) 34)).alloc (.cells (sxArr x) 36)):=(Below.refl _ _).alloc (Nat.le_refl _) _
 have k2:=heap_alloc_new (w.alloc (.cells (agArr g p) 34)) (.cells (sxArr x) 36)
 have e:(w.alloc (.cells (agArr g p) 34)).heap.size=w.heap.size+1:=by simp
 rw [e] at k2
 exact ⟨(AL.made k).past a2,⟨k2,ox⟩,chain a1 a2⟩
theorem two_aa {w:World} {g g':Ag} {p p':Pl} (k:AI w g p) (k':AI w g' p'):AL ((w.alloc (.cells (agArr g p) 34)).alloc (.cells (agArr g' p') 34)) w.heap.size g p∧AL ((w.alloc (.cells (agArr g p) 34)).alloc (.cells (agArr g' p') 34)) (w.heap.size+1) g' p'∧Below w.heap.size w ((w.alloc (.cells (agArr g p) 34)).alloc (.cells (agArr g' p') 34)):=by
 have a1:Below w.heap.size w (w.alloc (.cells (agArr g p) 34)):=(Below.refl _ _).alloc (Nat.le_refl _) _
 have a2:Below (w.alloc (.cells (agArr g p) 34)).heap.size (w.alloc (.cells (agArr g p) 34)) ((w.alloc (.cells (agArr g p) 34)).alloc (.cells (agArr g' p') 34)):=(Below.refl _ _).alloc (Nat.le_refl _) _
 have m:=AL.made (k'.past a1)
 have e:(w.alloc (.cells (agArr g p) 34)).heap.size=w.heap.size+1:=by simp
 rw [e] at m
 exact ⟨(AL.made k).past a2,m,chain a1 a2⟩
theorem mrg_k0 {g g' o:Ag} (h:AgMrg g g' o) (q:¬ (agB g=true∧agB g'=true∧g.k=g'.k)):o.k=0:=by
 unfold AgMrg at h
 rw [if_neg q] at h
 rw [h];rfl
theorem cells13 {w:World} {r:Nat} {g:Ag} {p:Pl} (row:w.heap[r]?=some (.cells (agArr g p) 34 (0,0))):w.cell? ⟨r,0,none⟩=some (.int .i64 g.k)∧w.cell? ⟨r,1,none⟩=some (.int .u64 g.s)∧w.cell? ⟨r,2,none⟩=some (.int .i64 g.h)∧w.cell? ⟨r,3,none⟩=some (.int .u64 g.l)∧w.cell? ⟨r,4,none⟩=some (.int .i64 g.a)∧w.cell? ⟨r,5,none⟩=some (.int .i64 g.t)∧w.cell? ⟨r,6,none⟩=some (.int .u64 g.z)∧w.cell? ⟨r,7,none⟩=some (.slice p.pa g.P.length p.pc)∧w.cell? ⟨r,8,none⟩=some (.slice p.na g.N.length p.nc)∧w.cell? ⟨r,9,none⟩=some (.int .i64 g.x)∧w.cell? ⟨r,10,none⟩=some (.int .u64 g.y)∧w.cell? ⟨r,11,none⟩=some (.slice p.ea g.E.length p.ec)∧w.cell? ⟨r,12,none⟩=some (.slice p.ra g.R.length p.rc):=
 ⟨cellK row 0 rfl,cellK row 1 rfl,cellK row 2 rfl,cellK row 3 rfl,cellK row 4 rfl,cellK row 5 rfl,cellK row 6 rfl,cellK row 7 rfl,cellK row 8 rfl,cellK row 9 rfl,cellK row 10 rfl,cellK row 11 rfl,cellK row 12 rfl⟩
set_option maxHeartbeats 8000000 in
theorem walkAgg (ao:Option Addr) (ln cap:Nat) (bo:Option Addr) (lm cbp:Nat) (w:World) (hl:ln≤maxLen) (ha:ln≤1048576→CodeAt w w.heap.size ao ln) (hm:lm≤maxLen) (hb:lm≤1048576→CodeAt w w.heap.size bo lm) (hx:MX w) :
  Calls Tryz.prog 3 #[.slice ao ln cap,.slice bo lm cbp] w fun e w'=>e=.returned (.bool true)∧Below w.heap.size w w':=by
 have hlz:ln≤9223372036854775807:=hl
 have hmz:lm≤9223372036854775807:=hm
 by_cases hl1:1048576<ln
 ·have hl1i:(1048576:Int)<(ln:Int):=by omega
  clear ha hb
  go_enter Tryz.func3,Tryz.ntmps3
  go_wp2
  go_ret
  exact ⟨rfl,Below.refl _ _⟩
 have hl1i:¬ (1048576:Int)<(ln:Int):=by omega
 by_cases hm1:1048576<lm
 ·have hm1i:(1048576:Int)<(lm:Int):=by omega
  clear ha hb
  go_enter Tryz.func3,Tryz.ntmps3
  go_wp2
  go_ret
  exact ⟨rfl,Below.refl _ _⟩
 have hm1i:¬ (1048576:Int)<(lm:Int):=by omega
 have HCa:=hide (ha (by omega))
 have HCb:=hide (hb (by omega))
 have HM:=hide hx
 clear ha hb hx
 go_enter Tryz.func3,Tryz.ntmps3
 go_wp2_with fail
 refine (c_DrawAggPut HCa.out).mono ?_
 rintro e w1 ⟨g,p,x,rfl,ok,sm,ho,ox,hb1⟩
 obtain ⟨la,lx,hb1'⟩:=two_ax (AI.of ok sm ho) ox
 have LA:=hide la
 have LX:=hide lx
 have HT1:=hide (chain hb1 hb1')
 clear ok sm ho ox hb1 hb1' la lx
 go_wp2_with fail
 generalize (w1.alloc (.cells (agArr g p) 34)).alloc (.cells (sxArr x) 36)=W1 at LA LX HT1 ⊢
 generalize w1.heap.size+1=rx at LX ⊢
 generalize w1.heap.size=ra at LA ⊢
 refine (c_DrawAggPut (codeAt_in (B:=W1.heap.size) HCb.out HT1.out (Nat.le_refl _) HT1.out.size)).mono ?_
 rintro e w2 ⟨g0,p0,y,rfl,ok,sm,ho,oy,hb2⟩
 obtain ⟨_,ly,hb2'⟩:=two_ax (AI.of ok sm ho) oy
 have LY:=hide ly
 have HB2:=hide (chain hb2 hb2')
 have HT2:=hide (chain HT1.out HB2.out)
 replace LA:=hide (LA.out.past HB2.out)
 replace LX:=hide (LX.out.past HB2.out)
 clear ok sm ho oy hb2 hb2' ly
 go_wp2_with fail
 generalize (w2.alloc (.cells (agArr g0 p0) 34)).alloc (.cells (sxArr y) 36)=W2 at LA LX LY HT2 HB2 ⊢
 generalize w2.heap.size+1=ry at LY ⊢
 generalize w2.heap.size=rz
 refine (c_DrawAggMerge (codeAt_in (B:=W2.heap.size) HCb.out HT2.out (Nat.le_refl _) HT2.out.size)).mono ?_
 rintro e w3 ⟨g1,p1,g2,p2,rfl,ok1,sm1,ho1,ok2,sm2,ho2,hb3⟩
 obtain ⟨lb,lo,hb3'⟩:=two_aa (AI.of ok1 sm1 ho1) (AI.of ok2 sm2 ho2)
 have LB:=hide lb
 have LO:=hide lo
 have HB3:=hide (chain hb3 hb3')
 have HT3:=hide (chain HT2.out HB3.out)
 replace LA:=hide (LA.out.past HB3.out)
 replace LX:=hide (LX.out.past HB3.out)
 replace LY:=hide (LY.out.past HB3.out)
 clear ok1 sm1 ho1 ok2 sm2 ho2 hb3 hb3' lb lo HB2
 go_upto_region 6 with fail
 generalize (w3.alloc (.cells (agArr g1 p1) 34)).alloc (.cells (agArr g2 p2) 34)=W3 at LA LX LY LB LO HT3 HB3 ⊢
 generalize w3.heap.size+1=ro at LO ⊢
 generalize w3.heap.size=rb at LB ⊢
 clear HB3
 have MX3:=hide (HM.out.past HT3.out)
 go_cut [11] (fun v w'=>∃ (b:Nat) (o1 o:Ag) (q:Pl),v=.pointer (some ⟨b,0,none⟩)∧Hid (AgPut g x o1∧AgPut o1 y o)∧Hid (AL w' b o q)∧Hid (Below W3.heap.size W3 w'))
 case first=>
  refine reg6 MX3.out LA.out LX.out LY.out (fun b o1 o q X _ _ _ _ _ h1 h2 hal hb=>?_)
  go_wp2
  go_meet
  exact ⟨b,o1,o,q,rfl,hide ⟨h1,h2⟩,hide hal,hide hb⟩
 case rest=>
 obtain ⟨rp,o1,gp,pp,rfl,HP,LP,HB4⟩:=hcut
 obtain ⟨W4,hW4⟩:∃ X,wc=X:=⟨_,rfl⟩
 rw [hW4] at LP HB4 ⊢
 clear hW4
 have HT4:=hide (chain HT3.out HB4.out)
 replace LA:=hide (LA.out.past HB4.out)
 replace LX:=hide (LX.out.past HB4.out)
 replace LY:=hide (LY.out.past HB4.out)
 replace LB:=hide (LB.out.past HB4.out)
 replace LO:=hide (LO.out.past HB4.out)
 have MX4:=hide (HM.out.past HT4.out)
 clear MX3 HB4
 go_upto_region 7 with fail
 go_cut [12] (fun v w'=>∃ (b:Nat) (o1 o:Ag) (q:Pl),v=.pointer (some ⟨b,0,none⟩)∧Hid (AgPut g y o1∧AgPut o1 x o)∧Hid (AL w' b o q)∧Hid (Below W4.heap.size W4 w'))
 case first=>
  refine reg7 MX4.out LA.out LX.out LY.out (fun b o1 o q X _ _ _ _ _ h1 h2 hal hb=>?_)
  go_wp2
  go_meet
  exact ⟨b,o1,o,q,rfl,hide ⟨h1,h2⟩,hide hal,hide hb⟩
 case rest=>
 obtain ⟨rq,o2,gq,pq,rfl,HQ,LQ,HB5⟩:=hcut
 obtain ⟨W5,hW5⟩:∃ X,wc=X:=⟨_,rfl⟩
 rw [hW5] at LQ HB5 ⊢
 clear hW5
 obtain rfl:=put_swap LX.out.ok LY.out.ok LA.out.i.ok HP.out.1 HP.out.2 HQ.out.1 HQ.out.2
 have HR:Hid (agB g=true→agB gp=true):=fun h=>(put_stays LY.out.ok (put_stays LX.out.ok LA.out.i.ok HP.out.1).1 HP.out.2).2.1 ((put_stays LX.out.ok LA.out.i.ok HP.out.1).2.1 h)
 have HT5:=hide (chain HT4.out HB5.out)
 replace LA:=hide (LA.out.past HB5.out)
 replace LX:=hide (LX.out.past HB5.out)
 replace LB:=hide (LB.out.past HB5.out)
 replace LO:=hide (LO.out.past HB5.out)
 replace LP:=hide (LP.out.past HB5.out)
 have MX5:=hide (HM.out.past HT5.out)
 clear MX4 HB5 HP HQ LY
 go_upto_region 8 with fail
 go_cut [66] (fun v w'=>v=.bool false∧Hid (Below W5.heap.size W5 w'))
 case first=>
  refine reg8 (ry:=0) (rb:=0) (ro:=0) (rm:=0) (g1:=g) (g2:=g) (gm:=g) (p1:=p) (p2:=p) (pm:=p) (y:=x) MX5.out LA.out LX.out LP.out LQ.out (fun X _ _ _ _ _ _ _ _ _ _ _ _ _ _ _ _ _ _ _ hb=>?_)
  go_wp2
  go_meet
  exact ⟨rfl,hide hb⟩
 case rest=>
 obtain ⟨rfl,HB6⟩:=hcut
 obtain ⟨W6,hW6⟩:∃ X,wc=X:=⟨_,rfl⟩
 rw [hW6] at HB6 ⊢
 clear hW6
 have HT6:=hide (chain HT5.out HB6.out)
 replace LA:=hide (LA.out.past HB6.out)
 replace LX:=hide (LX.out.past HB6.out)
 replace LB:=hide (LB.out.past HB6.out)
 replace LO:=hide (LO.out.past HB6.out)
 replace LP:=hide (LP.out.past HB6.out)
 clear MX5 HB6 LQ
 obtain ⟨b0,b1,b2,b3,b4,b5,b6,b7,b8,b9,b10,b11,b12⟩:=cells13 LB.out.row
 obtain ⟨d0,d1,d2,d3,d4,d5,d6,d7,d8,d9,d10,d11,d12⟩:=cells13 LO.out.row
 go_wp2_with fail
 clear b0 b1 b2 b3 b4 b5 b6 b7 b8 b9 b10 b11 b12 d0 d1 d2 d3 d4 d5 d6 d7 d8 d9 d10 d11 d12
 refine (c_mrgI LB.out.i LO.out.i).mono ?_
 rintro e w7 ⟨gm,pm,rfl,hmg,ho,okm,smm,hb7⟩
 have HMG:=hide hmg
 have lm7:=AL.made (AI.of okm smm ho)
 have LM:=hide lm7
 have HB7:Hid (Below W6.heap.size W6 (w7.alloc (.cells (agArr gm pm) 34))):=chain hb7 ((Below.refl _ _).alloc (Nat.le_refl _) _)
 have HT7:=hide (chain HT6.out HB7.out)
 replace LA:=hide (LA.out.past HB7.out)
 replace LX:=hide (LX.out.past HB7.out)
 replace LB:=hide (LB.out.past HB7.out)
 replace LO:=hide (LO.out.past HB7.out)
 replace LP:=hide (LP.out.past HB7.out)
 clear hmg ho okm smm hb7 lm7
 go_upto_region 11 with fail
 generalize w7.alloc (.cells (agArr gm pm) 34)=W7 at LA LX LB LO LP LM HT7 HB7 ⊢
 generalize w7.heap.size=rm at LM ⊢
 clear HB7
 go_cut [92] (fun v w'=>v=.bool false∧Hid (Below W7.heap.size W7 w'))
 case first=>
  refine reg11 (rx:=0) (ry:=0) (rq:=0) (pq:=p) (x:=x) (y:=x) LA.out LB.out LO.out LP.out LM.out HMG.out HR.out (fun X _ _ _ _ _ _ _ _ _ _ _ _ _ _ _ _ _ _ _ _ _ _ hb=>?_)
  go_wp2
  go_meet
  exact ⟨rfl,hide hb⟩
 case rest=>
 obtain ⟨rfl,HB8⟩:=hcut
 obtain ⟨W8,hW8⟩:∃ X,wc=X:=⟨_,rfl⟩
 rw [hW8] at HB8 ⊢
 clear hW8
 have HT8:=hide (chain HT7.out HB8.out)
 replace LX:=hide (LX.out.past HB8.out)
 replace LB:=hide (LB.out.past HB8.out)
 replace LO:=hide (LO.out.past HB8.out)
 replace LM:=hide (LM.out.past HB8.out)
 clear HB8 LA LP HR
 obtain ⟨b0,b1,b2,b3,b4,b5,b6,b7,b8,b9,b10,b11,b12⟩:=cells13 LB.out.row
 go_wp2_with fail
 clear b0 b1 b2 b3 b4 b5 b6 b7 b8 b9 b10 b11 b12
 refine (c_rightS LB.out.i).mono ?_
 rintro e w9 ⟨rfl,hb9⟩
 have HT9:=hide (chain HT8.out hb9)
 replace LX:=hide (LX.out.past hb9)
 replace LB:=hide (LB.out.past hb9)
 replace LO:=hide (LO.out.past hb9)
 replace LM:=hide (LM.out.past hb9)
 clear hb9
 cases hB:agB g1 with
 | false=>
  have HK:Hid (gm.k=0):=mrg_k0 HMG.out (fun h=>by rw [hB] at h;cases h.1)
  obtain ⟨m0,m1,m2,m3,m4,m5,m6,m7,m8,m9,m10,m11,m12⟩:=cells13 LM.out.row
  have hk0:(gm.k == 0)=true:=by rw [HK.out];rfl
  go_wp2
  go_ret
  exact ⟨rfl,HT9.out⟩
 | true=>
  obtain ⟨d0,d1,d2,d3,d4,d5,d6,d7,d8,d9,d10,d11,d12⟩:=cells13 LO.out.row
  go_wp2_with fail
  clear d0 d1 d2 d3 d4 d5 d6 d7 d8 d9 d10 d11 d12
  refine (c_rightS LO.out.i).mono ?_
  rintro e w10 ⟨rfl,hb10⟩
  have HT10:=hide (chain HT9.out hb10)
  replace LX:=hide (LX.out.past hb10)
  replace LB:=hide (LB.out.past hb10)
  replace LO:=hide (LO.out.past hb10)
  replace LM:=hide (LM.out.past hb10)
  clear hb10
  cases hO:agB g2 with
  | false=>
   have HK:Hid (gm.k=0):=mrg_k0 HMG.out (fun h=>by rw [hO] at h;cases h.2.1)
   obtain ⟨m0,m1,m2,m3,m4,m5,m6,m7,m8,m9,m10,m11,m12⟩:=cells13 LM.out.row
   have hk0:(gm.k == 0)=true:=by rw [HK.out];rfl
   go_wp2
   go_ret
   exact ⟨rfl,HT10.out⟩
  | true=>
   have b0:=cellK LB.out.row 0 rfl
   have d0:=cellK LO.out.row 0 rfl
   by_cases hkk:g1.k=g2.k
   ·have HRR:Hid (AgR2 g1 g2):=⟨hB,hO,hkk⟩
    have hne:(g1.k != g2.k)=false:=by simp [hkk]
    have MX10:=hide (HM.out.past HT10.out)
    clear hkk hB hO
    go_upto_region 15 with fail
    refine reg15 (ra:=0) (ry:=0) (rp:=0) (rq:=0) (g:=g1) (gp:=g1) (p:=p1) (pp:=p1) (pq:=p1) (y:=x) MX10.out LX.out LB.out LO.out LM.out HMG.out HRR.out (fun X _ _ _ _ _ _ _ _ _ _ _ _ _ _ _ _ _ _ hb=>?_)
    go_wp2
    go_ret
    exact ⟨rfl,chain HT10.out hb⟩
   ·have HK:Hid (gm.k=0):=mrg_k0 HMG.out (fun h=>hkk h.2.2)
    have hne:(g1.k != g2.k)=true:=by simp [hkk]
    obtain ⟨m0,m1,m2,m3,m4,m5,m6,m7,m8,m9,m10,m11,m12⟩:=cells13 LM.out.row
    have hk0:(gm.k == 0)=true:=by rw [HK.out];rfl
    clear hkk
    go_wp2
    go_ret
    exact ⟨rfl,HT10.out⟩
end Go.Proofs.YthpilcoklapooaaGreatDoor
