/-
 A drawn series.
-/
import Derived.Test.YthpilcoklapooaaGreatDoorADB
import Derived.Test.YthpilcoklapooaaGreatDoorASF
import Derived.Deep.DeepCutAuto
namespace Go.Proofs.YthpilcoklapooaaGreatDoor
set_option linter.unusedVariables false
set_option linter.unusedSimpArgs false
open Go.ChangeShapes Go.WideShapes Go.ChangeAt Go.RowKit Go.PlainAid
set_option maxRecDepth 10000
theorem grown_farX {w w1 w2:World} {r:Option Nat} (h:w.grownBy w1 r) (hb:Below w.heap.size w1 w2):w.grownBy w2 r:=
 ⟨hb.os.trans h.os,hb.tape.trans h.tape,hb.output.trans h.output,Nat.le_trans h.size hb.size,fun k hk hne=>by rw [hb.block k hk];exact h.block k hk hne⟩
theorem serO_100 (name:ByteArray) (L:List ByteArray):(serO name L).size≤100:=by
 have e0:ByteArray.empty.size≤100:=by decide
 unfold serO
 split
 ·exact e0
 ·unfold serW
  split
  ·unfold serF
   split
   ·exact e0
   ·rename_i h;omega
  ·exact e0
set_option maxHeartbeats 2000000 in
theorem c_d_l06Series {W w:World} {B ln cap s:Nat} {ao:Option Addr} (hc:CodeAt W B ao ln) (h:Src W B ao ln cap s w) :
  Calls Tryz.prog 111 #[.pointer (some ⟨s,0,none⟩)] w fun e w'=>∃ u,e=.returned (.string u)∧u.size≤100∧Src W B ao ln cap s w'∧w.grownBy w' (some s):=by
 obtain ⟨i0,hi,hz0,hz1,hz2⟩:=info_parts infoStr
 have HC:=hide hc
 have HS:=hide h
 clear hc h
 go_enter Tryz.func111,Tryz.ntmps111
 go_wp2_with fail
 refine (c_pick_lit HC.out HS.out 40 (by rfl) (by omega) (by omega) (by decide)).mono ?_
 rintro e w2 ⟨name,rfl,hnm,hS2,hg2⟩
 have hlt2:s<w2.heap.size:=src_lt hS2
 have HG2:=hide hg2
 replace HS:=hide hS2
 clear hS2 hg2
 go_wp2_with fail
 refine (c_n HC.out (src_past HS.out ((Below.refl _ _).alloc (Nat.le_refl _) (.cells #[] 9))) _ (by omega)).mono ?_
 rintro e w3 ⟨kk,rfl,k0,k1,_,hS3,hg3⟩
 have k1:=k1 (by omega)
 have D0:DL W B ao ln cap s w2 w3 (.slice (some ⟨w2.heap.size,0,none⟩) 0 0) []:=by
  have O0:OwnT (w2.alloc (.cells #[] 9)) w2.heap.size (.slice (some ⟨w2.heap.size,0,none⟩) 0 0) []:=World.ownsRow_made w2 #[] 0 (Nat.le_refl _) (Nat.zero_le _) rfl
  have D1:DL W B ao ln cap s w2 (w2.alloc (.cells #[] 9)) (.slice (some ⟨w2.heap.size,0,none⟩) 0 0) []:=⟨O0,fun u hu=>absurd hu List.not_mem_nil,src_past HS.out ((Below.refl _ _).alloc (Nat.le_refl _) _),World.grownBy_alloc _ _ _⟩
  exact D1.step hlt2 hS3 hg3
 have HD0:=hide D0
 clear D0 hS3 hg3 HS
 obtain ⟨kn,rfl⟩:=Int.eq_ofNat_of_zero_le k0
 have hk6:kn<3:=by omega
 clear k0 k1
 go_wp2_with fail
 go_loopw [4,5] (fun lv kv wr=>∃ (j:Nat) (lo:Option Addr) (n lc:Nat) (L:List ByteArray),kv=.int .i64 j∧j≤3∧lv=.slice lo n lc∧n+j≤3∧Hid (L.length=n∧DL W B ao ln cap s w2 wr (.slice lo n lc) L)) (fun lv kv wr=>(RowKit.intOf kv).toNat)
 case atStart=>exact ⟨kn,_,0,0,[],rfl,by omega,rfl,by omega,⟨rfl,HD0.out⟩⟩
 case round=>
  clear HD0
  obtain ⟨j,lo,n,lc,L,rfl,hj,rfl,hnj,HD⟩:=hrel
  rcases Nat.eq_zero_or_pos j with h0 | h0
  ·subst h0
   go_wp2_with fail
   refine (c_s_SeriesOf name lc n (by unfold maxLen;omega) HD.out.1 (by omega) (fun u hu=>by have:=HD.out.2.sz u hu;unfold maxLen;omega) HD.out.2.own.at).mono ?_
   rintro e w4 ⟨rfl,hb4⟩
   have HS4:=hide (src_past HD.out.2.src hb4)
   have HG4:=hide (grown_farX (HG2.out.trans HD.out.2.gr) (hb4.mono (Nat.le_trans HG2.out.size HD.out.2.gr.size)))
   have h100:=serO_100 name L
   clear hb4 HD
   generalize serO name L=u at h100 ⊢
   go_wp2
   go_ret
   exact ⟨u,rfl,h100,HS4.out,HG4.out⟩
  ·have hj0:(0:Int)<(j:Int):=by omega
   have hwj:IntKind.i64.wrap ((j:Int) - 1)=((j - 1:Nat):Int):=by rw [IntWalk.i64_in _ ⟨by omega,by omega⟩];omega
   have hn6:n≤6:=by omega
   go_wp2_with (first
    | (go_at_call 112;refine (c_pick_lit HC.out HD.out.2.src 21 (by rfl) (by omega) (by omega) (by decide)).mono ?_;rintro e w4 ⟨u,rfl,hu,hS4,hg4⟩;have HD1:=hide (HD.out.2.step hlt2 hS4 hg4);have HD2:=hide (HD1.out.past hlt2 ((Below.refl _ _).alloc (Nat.le_refl _) (.cells #[.string u] 9)));have HN:=hide HD.out.1;clear hS4 hg4 HD)
    | (at_builtin;refine wpList_append_own _ rfl (.tmp 16) (.tmp 20) 164 rfl w2.heap.size 9 i0 (.string ByteArray.empty) 1 16 Tryz.underlying164 hi hz0 hz1 hz2 rfl (by decide) _ _ _ rfl HD2.out.own ⟨w4.heap.size,0,none⟩ 1 1 [.string u] rfl rfl (new_cells (cs:=#[.string u]) rfl) (strs_one [u]) (by have:=HN.out;unfold maxLen;omega) (by have:=HN.out;omega) HD2.out.gr.size ?_;intro v5 w5 hown hgrow hnil;have HD5:=hide (HD2.out.app hlt2 (show u.size≤40 by omega) hown hgrow);obtain ⟨lo5,c5,rfl⟩:=own_any hown;clear hown hgrow hnil))
   go_roundw
   case rel=>exact ⟨j - 1,lo5,L.length+1,c5,L ++ [u],rfl,by omega,rfl,by have:=HN.out;omega,⟨by simp,HD5.out⟩⟩
   case measure=>simp [RowKit.intOf];omega
/-
 A drawn sample.
-/
theorem src_farX {W w w':World} {B ln cap s K:Nat} {ao:Option Addr} (h:Src W B ao ln cap s w) (hb:Below K w w') (hs:s<K):Src W B ao ln cap s w':=by
 obtain ⟨a,m,z,hk,h1,h2⟩:=h.blk
 exact ⟨h.bel.trans (hb.mono (Nat.le_trans h.hB (Nat.le_of_lt hs))),h.hB,a,m,z,by rw [hb.block s hs];exact hk,h1,h2⟩
theorem cellKX {w:World} {r:Nat} {cs:Array Value} {T:TypeId} (h:w.heap[r]?=some (.cells cs T (0,0))) (j:Nat) {v:Value} (e:cs[j]?=some v):w.cell? ⟨r,j,none⟩=some v:=by rw [cell_of_row _ _ j _ _ (0,0) h];exact e
/-- A sample as it is drawn: its box, the result's box, the source. -/
structure SD (W:World) (B:Nat) (ao:Option Addr) (ln cap s:Nat) (w wr:World) (b:Nat) (x:Sx):Prop where
 row:wr.heap[b]?=some (.cells (sxArr x) 36 (0,0))
 res:wr.heap[w.heap.size]?=some (.cells #[.int .i64 0,.string ⟨#[]⟩,.int .i64 0,.string ⟨#[]⟩,.int .u64 0,.bool false,.int .i64 0] 36 (0,0))
 src:Src W B ao ln cap s wr
 gr:w.grownBy wr (some s)
 lb:w.heap.size<b
 hs:s<w.heap.size
 ok:x.Ok
section
variable {W:World} {B ln cap s:Nat} {ao:Option Addr} {w wr:World} {b:Nat} {x:Sx}
theorem SD.step (h:SD W B ao ln cap s w wr b x) {w1:World} (hS:Src W B ao ln cap s w1) (hg:wr.grownBy w1 (some s)):SD W B ao ln cap s w w1 b x:=by
 have l1:=h.lb
 have l2:=h.hs
 exact ⟨(hg.block b (Array.getElem?_eq_some_iff.1 h.row).1 (fun e=>by cases e;omega)).trans h.row,(hg.block _ (Array.getElem?_eq_some_iff.1 h.res).1 (fun e=>by cases e;omega)).trans h.res,hS,h.gr.trans hg,h.lb,h.hs,h.ok⟩
theorem SD.past (h:SD W B ao ln cap s w wr b x) {w1:World} (hb:Below wr.heap.size wr w1):SD W B ao ln cap s w w1 b x:=
 h.step (src_past h.src hb) ⟨hb.os,hb.tape,hb.output,hb.size,fun j hj _=>hb.block j hj⟩
theorem SD.set (h:SD W B ao ln cap s w wr b x) {x':Sx} (j:Nat) (u:Value) (e:(sxArr x).setIfInBounds j u=sxArr x') (ok:x'.Ok):SD W B ao ln cap s w (wr.setCell ⟨b,j,none⟩ u) b x':=by
 have l1:=h.lb
 have l2:=h.hs
 have hb:Below b wr (wr.setCell ⟨b,j,none⟩ u):=(Below.refl b wr).setCell (by simp) u
 refine ⟨?_,(hb.block _ l1).trans h.res,src_farX h.src hb (by omega),grown_farX h.gr (hb.mono (by omega)),h.lb,h.hs,ok⟩
 rw [← e]
 exact heap_setCell_same wr b j _ _ u h.row
end
theorem sx_cellsX {w:World} {b:Nat} {x:Sx} {T:TypeId} (h:w.heap[b]?=some (.cells (sxArr x) T (0,0))):w.cell? ⟨b,0,none⟩=some (.int .i64 x.k)∧w.cell? ⟨b,1,none⟩=some (.string x.se)∧w.cell? ⟨b,2,none⟩=some (.int .i64 x.v)∧w.cell? ⟨b,3,none⟩=some (.string x.wd)∧w.cell? ⟨b,4,none⟩=some (.int .u64 x.wt)∧w.cell? ⟨b,5,none⟩=some (.bool x.tm)∧w.cell? ⟨b,6,none⟩=some (.int .i64 x.ti):=
 ⟨cellKX h 0 rfl,cellKX h 1 rfl,cellKX h 2 rfl,cellKX h 3 rfl,cellKX h 4 rfl,cellKX h 5 rfl,cellKX h 6 rfl⟩
theorem i64_small {v:Int} (h0:-1≤v) (h1:v≤2000000000):I64 v:=by unfold I64;omega
/-- What a drawn sample is. -/
def DrawnSx (W:World) (B:Nat) (ao:Option Addr) (ln cap s:Nat) (w:World) (e:Ending) (w':World):Prop:=∃ x:Sx,e=.returned (.agg (sxArr x))∧x.Ok∧Src W B ao ln cap s w'∧w.grownBy w' (some s)
set_option maxHeartbeats 8000000 in
theorem c_l06Sample {W w:World} {B ln cap s:Nat} {ao:Option Addr} (hc:CodeAt W B ao ln) (h:Src W B ao ln cap s w) :
  Calls Tryz.prog 54 #[.pointer (some ⟨s,0,none⟩)] w fun e w'=>DrawnSx W B ao ln cap s w e w':=by
 have HC:=hide hc
 have hs:=src_lt h
 have a0:Below w.heap.size w (w.alloc (.cells #[.int .i64 0,.string ⟨#[]⟩,.int .i64 0,.string ⟨#[]⟩,.int .u64 0,.bool false,.int .i64 0] 36)):=(Below.refl _ _).alloc (Nat.le_refl _) _
 have HS0:=hide (src_past h a0)
 have HR0:=hide (heap_alloc_new w (.cells #[.int .i64 0,.string ⟨#[]⟩,.int .i64 0,.string ⟨#[]⟩,.int .u64 0,.bool false,.int .i64 0] 36))
 have HG0:Hid (w.grownBy (w.alloc (.cells #[.int .i64 0,.string ⟨#[]⟩,.int .i64 0,.string ⟨#[]⟩,.int .u64 0,.bool false,.int .i64 0] 36)) (some s)):=(⟨a0.os,a0.tape,a0.output,a0.size,fun j hj _=>a0.block j hj⟩:w.grownBy _ (some s))
 have hz0:(w.alloc (.cells #[.int .i64 0,.string ⟨#[]⟩,.int .i64 0,.string ⟨#[]⟩,.int .u64 0,.bool false,.int .i64 0] 36)).heap.size=w.heap.size+1:=by simp
 clear hc h a0
 go_enter Tryz.func54,Tryz.ntmps54
 go_wp2_with fail
 generalize w.alloc (.cells #[.int .i64 0,.string ⟨#[]⟩,.int .i64 0,.string ⟨#[]⟩,.int .u64 0,.bool false,.int .i64 0] 36)=W0 at HS0 HR0 HG0 hz0 ⊢
 refine (c_n HC.out HS0.out 4 (by omega)).mono ?_
 rintro e w1 ⟨k0,rfl,k1,k2,_,hS1,hg1⟩
 have k2:=k2 (by omega)
 have hwk:IntKind.i64.wrap (1+k0)=1+k0:=IntWalk.i64_in _ ⟨by omega,by omega⟩
 have HS1:=hide hS1
 have HG1:=hide hg1
 clear hS1 hg1
 go_wp2_with fail
 refine (c_d_l06Series HC.out HS1.out).mono ?_
 rintro e w2 ⟨se,rfl,hse,hS2,hg2⟩
 have HS2:=hide hS2
 have HG2:=hide (HG1.out.trans hg2)
 clear hS2 hg2 HS1 HG1
 go_wp2_with fail
 refine (c_one HC.out HS2.out 2 (by omega)).mono ?_
 rintro e w3 ⟨tm,rfl,hS3,hg3⟩
 have HG3:=hide (HG2.out.trans hg3)
 have a3:Below w3.heap.size w3 (w3.alloc (.cells (sxArr ⟨1+k0,se,0,⟨#[]⟩,1,tm,0⟩) 36)):=(Below.refl _ _).alloc (Nat.le_refl _) _
 have z3:=HG3.out.size
 have HD:Hid (SD W B ao ln cap s w (w3.alloc (.cells (sxArr ⟨1+k0,se,0,⟨#[]⟩,1,tm,0⟩) 36)) w3.heap.size ⟨1+k0,se,0,⟨#[]⟩,1,tm,0⟩):=by
  refine hide ⟨heap_alloc_new w3 _,?_,src_past hS3 a3,grown_farX (HG0.out.trans HG3.out) (a3.mono (by omega)),by omega,hs,⟨i64_small (by show -1≤1+k0;omega) (by show 1+k0≤_;omega),i64_small (by show (-1:Int)≤0;omega) (by show (0:Int)≤_;omega),by show U64 1;unfold U64;omega,i64_small (by show (-1:Int)≤0;omega) (by show (0:Int)≤_;omega),by show se.size≤_;unfold maxLen;omega,by show (⟨#[]⟩:ByteArray).size≤_;decide⟩⟩
  exact (a3.block _ (by omega)).trans ((HG3.out.block _ (by omega) (fun e=>by cases e;omega)).trans HR0.out)
 clear hS3 hg3 a3 HS2 HG2 HG3 HS0 HR0 HG0 hz0
 go_upto_if 13 with fail
 generalize w3.alloc (.cells (sxArr ⟨1+k0,se,0,⟨#[]⟩,1,tm,0⟩) 36)=W4 at HD ⊢
 generalize w3.heap.size=b at HD z3 ⊢
 generalize hx0:(⟨1+k0,se,0,⟨#[]⟩,1,tm,0⟩:Sx)=x at HD
 have etm:tm=x.tm:=by rw [← hx0]
 subst etm
 clear hx0 z3
 obtain ⟨x0,x1,x2,x3,x4,x5,x6⟩:=sx_cellsX HD.out.row
 go_cut [3] (fun p w'=>p=.pointer (some ⟨b,0,none⟩)∧∃ x,Hid (SD W B ao ln cap s w w' b x))
 case first=>
  cases ht:x.tm with
  | false=>
   rw [ht] at x5
   go_wp2
   go_meet
   exact ⟨rfl,x,HD⟩
  | true=>
   rw [ht] at x5
   go_wp2_with fail
   refine (c_n HC.out HD.out.src 60 (by omega)).mono ?_
   rintro e w5 ⟨v5,rfl,a5,c5,_,hS5,hg5⟩
   have c5:=c5 (by omega)
   have HD5:=hide (HD.out.step hS5 hg5)
   clear hS5 hg5 x0 x1 x2 x3 x4 x5 x6
   obtain ⟨x0,x1,x2,x3,x4,x5,x6⟩:=sx_cellsX HD5.out.row
   have f0:=fzR 0 HD5.out.row
   have f1:=fzR 1 HD5.out.row
   have f2:=fzR 2 HD5.out.row
   have f3:=fzR 3 HD5.out.row
   have f4:=fzR 4 HD5.out.row
   have f5:=fzR 5 HD5.out.row
   have f6:=fzR 6 HD5.out.row
   go_wp2
   go_meet
   exact ⟨rfl,⟨x.k,x.se,x.v,x.wd,x.wt,x.tm,v5⟩,hide (HD5.out.set 6 (.int .i64 v5) rfl ⟨HD5.out.ok.k,HD5.out.ok.v,HD5.out.ok.wt,(show I64 v5 from i64_small (by omega) (by omega)),HD5.out.ok.se,HD5.out.ok.wd⟩)⟩
 case rest=>
  clear HD x0 x1 x2 x3 x4 x5 x6
  obtain ⟨rfl,x,HD⟩:=hcut
  obtain ⟨w6,hw6⟩:∃ w6,wc=w6:=⟨_,rfl⟩
  rw [hw6] at HD ⊢
  clear hw6
  obtain ⟨x0,x1,x2,x3,x4,x5,x6⟩:=sx_cellsX HD.out.row
  go_upto_if 19 with fail
  go_cut [3] (fun p w'=>p=.pointer (some ⟨b,0,none⟩)∧∃ x,Hid (SD W B ao ln cap s w w' b x))
  case first=>
   by_cases h4:x.k=4
   ·have hk4:(x.k == 4)=true:=by simp [h4]
    clear h4
    go_wp2_with fail
    refine (c_pick_lit HC.out HD.out.src 40 (by rfl) (by omega) (by omega) (by decide)).mono ?_
    rintro e w5 ⟨u5,rfl,hu5,hS5,hg5⟩
    have HD5:=hide (HD.out.step hS5 hg5)
    clear hS5 hg5 x0 x1 x2 x3 x4 x5 x6
    obtain ⟨x0,x1,x2,x3,x4,x5,x6⟩:=sx_cellsX HD5.out.row
    have f0:=fzR 0 HD5.out.row
    have f1:=fzR 1 HD5.out.row
    have f2:=fzR 2 HD5.out.row
    have f3:=fzR 3 HD5.out.row
    have f4:=fzR 4 HD5.out.row
    have f5:=fzR 5 HD5.out.row
    have f6:=fzR 6 HD5.out.row
    go_wp2
    go_meet
    exact ⟨rfl,⟨x.k,x.se,x.v,u5,x.wt,x.tm,x.ti⟩,hide (HD5.out.set 3 (.string u5) rfl ⟨HD5.out.ok.k,HD5.out.ok.v,HD5.out.ok.wt,HD5.out.ok.ti,HD5.out.ok.se,(show u5.size≤_ by unfold maxLen;omega)⟩)⟩
   ·have hk4:(x.k == 4)=false:=beq_eq_false_iff_ne.2 h4
    clear h4
    go_wp2_with fail
    refine (c_l03Any HC.out HD.out.src).mono ?_
    rintro e w5 ⟨v5,rfl,hv5,hS5,hg5⟩
    have HD5:=hide (HD.out.step hS5 hg5)
    clear hS5 hg5 x0 x1 x2 x3 x4 x5 x6
    obtain ⟨x0,x1,x2,x3,x4,x5,x6⟩:=sx_cellsX HD5.out.row
    have f0:=fzR 0 HD5.out.row
    have f1:=fzR 1 HD5.out.row
    have f2:=fzR 2 HD5.out.row
    have f3:=fzR 3 HD5.out.row
    have f4:=fzR 4 HD5.out.row
    have f5:=fzR 5 HD5.out.row
    have f6:=fzR 6 HD5.out.row
    go_wp2
    go_meet
    exact ⟨rfl,⟨x.k,x.se,v5,x.wd,x.wt,x.tm,x.ti⟩,hide (HD5.out.set 2 (.int .i64 v5) rfl ⟨HD5.out.ok.k,hv5,HD5.out.ok.wt,HD5.out.ok.ti,HD5.out.ok.se,HD5.out.ok.wd⟩)⟩
  case rest=>
   clear HD x0 x1 x2 x3 x4 x5 x6
   obtain ⟨rfl,x,HD⟩:=hcut
   obtain ⟨w7,hw7⟩:∃ w7,wc=w7:=⟨_,rfl⟩
   rw [hw7] at HD ⊢
   clear hw7
   obtain ⟨x0,x1,x2,x3,x4,x5,x6⟩:=sx_cellsX HD.out.row
   go_upto_region 7 with fail
   go_cut [3,38] (fun p c w'=>p=.pointer (some ⟨b,0,none⟩)∧(∃ bb,c=.bool bb)∧Hid (SD W B ao ln cap s w w' b x))
   case first=>
    by_cases h4:x.k=4
    ·have hk4:(x.k != 4)=false:=by simp [h4]
     clear h4
     go_wp2
     go_meet
     exact ⟨rfl,⟨false,rfl⟩,HD⟩
    ·have hk4:(x.k != 4)=true:=by simp [h4]
     by_cases h2:x.k=2
     ·have hk2:(x.k != 2)=false:=by simp [h2]
      clear h4 h2
      go_wp2
      go_meet
      exact ⟨rfl,⟨false,rfl⟩,HD⟩
     ·have hk2:(x.k != 2)=true:=by simp [h2]
      clear h4 h2
      go_wp2_with fail
      refine (c_one HC.out HD.out.src 3 (by omega)).mono ?_
      rintro e w4 ⟨bb,rfl,hS4,hg4⟩
      have HD4:=hide (HD.out.step hS4 hg4)
      clear hS4 hg4 x0 x1 x2 x3 x4 x5 x6
      cases bb with
      | false=>
       go_wp2
       go_meet
       exact ⟨rfl,⟨false,rfl⟩,HD4⟩
      | true=>
       go_wp2
       go_meet
       exact ⟨rfl,⟨true,rfl⟩,HD4⟩
   case rest=>
    obtain ⟨rfl,⟨bb,rfl⟩,HD4⟩:=hcut
    obtain ⟨w4,hw4⟩:∃ w4,wc=w4:=⟨_,rfl⟩
    rw [hw4] at HD4 ⊢
    clear hw4 HD x0 x1 x2 x3 x4 x5 x6
    go_upto_if 38 with fail
    go_cut [3] (fun p w'=>p=.pointer (some ⟨b,0,none⟩)∧∃ x,Hid (SD W B ao ln cap s w w' b x))
    case first=>
      cases bb with
      | false=>
       go_wp2
       go_meet
       exact ⟨rfl,x,HD4⟩
      | true=>
       go_wp2_with fail
       refine (c_n HC.out HD4.out.src 20 (by omega)).mono ?_
       rintro e w5 ⟨v5,rfl,a5,c5,_,hS5,hg5⟩
       have c5:=c5 (by omega)
       have HD5:=hide (HD4.out.step hS5 hg5)
       have hw1:IntKind.i64.wrap (1+v5)=1+v5:=IntWalk.i64_in _ ⟨by omega,by omega⟩
       have hw2:IntKind.u64.wrap (1+v5)=1+v5:=by rw [IntKind.wrap_u64];omega
       clear hS5 hg5
       obtain ⟨x0,x1,x2,x3,x4,x5,x6⟩:=sx_cellsX HD5.out.row
       have f0:=fzR 0 HD5.out.row
       have f1:=fzR 1 HD5.out.row
       have f2:=fzR 2 HD5.out.row
       have f3:=fzR 3 HD5.out.row
       have f4:=fzR 4 HD5.out.row
       have f5:=fzR 5 HD5.out.row
       have f6:=fzR 6 HD5.out.row
       go_wp2
       go_meet
       exact ⟨rfl,⟨x.k,x.se,x.v,x.wd,1+v5,x.tm,x.ti⟩,hide (HD5.out.set 4 (.int .u64 (1+v5)) rfl ⟨HD5.out.ok.k,HD5.out.ok.v,(show U64 (1+v5) by unfold U64;omega),HD5.out.ok.ti,HD5.out.ok.se,HD5.out.ok.wd⟩)⟩
    case rest=>
     clear HD4
     obtain ⟨rfl,x,HD⟩:=hcut
     obtain ⟨w8,hw8⟩:∃ w8,wc=w8:=⟨_,rfl⟩
     rw [hw8] at HD ⊢
     clear hw8
     obtain ⟨x0,x1,x2,x3,x4,x5,x6⟩:=sx_cellsX HD.out.row
     go_wp2_with fail
     refine (c_one HC.out HD.out.src 20 (by omega)).mono ?_
     rintro e w4 ⟨bb,rfl,hS4,hg4⟩
     have HD4:=hide (HD.out.step hS4 hg4)
     clear hS4 hg4 x0 x1 x2 x3 x4 x5 x6
     go_upto_if 45 with fail
     go_cut [3] (fun p w'=>p=.pointer (some ⟨b,0,none⟩)∧∃ x,Hid (SD W B ao ln cap s w w' b x))
     case first=>
      cases bb with
      | false=>
       go_wp2
       go_meet
       exact ⟨rfl,x,HD4⟩
      | true=>
       go_wp2_with fail
       refine (c_n HC.out HD4.out.src 6 (by omega)).mono ?_
       rintro e w9 ⟨v9,rfl,a9,c9,_,hS9,hg9⟩
       have c9:=c9 (by omega)
       have HD9:=hide (HD4.out.step hS9 hg9)
       clear hS9 hg9
       have h9:v9=0∨v9=1∨v9=2∨v9=3∨v9=4∨v9=5:=by omega
       clear a9 c9
       rcases h9 with rfl | rfl | rfl | rfl | rfl | rfl
       ·go_wp2_with fail
        refine (c_n HC.out HD9.out.src 6 (by omega)).mono ?_
        rintro e w5 ⟨v5,rfl,a5,c5,_,hS5,hg5⟩
        have c5:=c5 (by omega)
        have HD5:=hide (HD9.out.step hS5 hg5)
        clear hS5 hg5
        obtain ⟨x0,x1,x2,x3,x4,x5,x6⟩:=sx_cellsX HD5.out.row
        have f0:=fzR 0 HD5.out.row
        have f1:=fzR 1 HD5.out.row
        have f2:=fzR 2 HD5.out.row
        have f3:=fzR 3 HD5.out.row
        have f4:=fzR 4 HD5.out.row
        have f5:=fzR 5 HD5.out.row
        have f6:=fzR 6 HD5.out.row
        go_wp2
        go_meet
        exact ⟨rfl,⟨v5,x.se,x.v,x.wd,x.wt,x.tm,x.ti⟩,hide (HD5.out.set 0 (.int .i64 v5) rfl ⟨(show I64 v5 from i64_small (by omega) (by omega)),HD5.out.ok.v,HD5.out.ok.wt,HD5.out.ok.ti,HD5.out.ok.se,HD5.out.ok.wd⟩)⟩
       ·go_wp2_with fail
        refine (c_pick_lit HC.out HD9.out.src 40 (by rfl) (by omega) (by omega) (by decide)).mono ?_
        rintro e w5 ⟨u5,rfl,hu5,hS5,hg5⟩
        have HD5:=hide (HD9.out.step hS5 hg5)
        clear hS5 hg5
        obtain ⟨x0,x1,x2,x3,x4,x5,x6⟩:=sx_cellsX HD5.out.row
        have f0:=fzR 0 HD5.out.row
        have f1:=fzR 1 HD5.out.row
        have f2:=fzR 2 HD5.out.row
        have f3:=fzR 3 HD5.out.row
        have f4:=fzR 4 HD5.out.row
        have f5:=fzR 5 HD5.out.row
        have f6:=fzR 6 HD5.out.row
        go_wp2
        go_meet
        exact ⟨rfl,⟨x.k,u5,x.v,x.wd,x.wt,x.tm,x.ti⟩,hide (HD5.out.set 1 (.string u5) rfl ⟨HD5.out.ok.k,HD5.out.ok.v,HD5.out.ok.wt,HD5.out.ok.ti,(show u5.size≤_ by unfold maxLen;omega),HD5.out.ok.wd⟩)⟩
       ·go_wp2_with fail
        have aL:Below w9.heap.size w9 (w9.alloc (.cells #[.int .u64 0,.int .u64 1000000,.int .u64 1000001,.int .u64 777777] 23)):=(Below.refl _ _).alloc (Nat.le_refl _) _
        have HL:=hide (heap_alloc_new w9 (.cells #[.int .u64 0,.int .u64 1000000,.int .u64 1000001,.int .u64 777777] 23))
        have HDL:=hide (HD9.out.past aL)
        have hzL:(w9.alloc (.cells #[.int .u64 0,.int .u64 1000000,.int .u64 1000001,.int .u64 777777] 23)).heap.size=w9.heap.size+1:=by simp
        have hbl:=(Array.getElem?_eq_some_iff.1 HD9.out.row).1
        have hsl:=src_lt HD9.out.src
        clear aL
        generalize w9.alloc (.cells #[.int .u64 0,.int .u64 1000000,.int .u64 1000001,.int .u64 777777] 23)=WL at HL HDL hzL ⊢
        refine (c_n HC.out HDL.out.src 4 (by omega)).mono ?_
        rintro e w5 ⟨v5,rfl,a5,c5,_,hS5,hg5⟩
        have c5:=c5 (by omega)
        have HD5:=hide (HDL.out.step hS5 hg5)
        have HL5:=hide ((hg5.block w9.heap.size (by omega) (fun e=>by cases e;omega)).trans HL.out)
        clear hS5 hg5
        have l0:=cellKX HL5.out 0 rfl
        have l1:=cellKX HL5.out 1 rfl
        have l2:=cellKX HL5.out 2 rfl
        have l3:=cellKX HL5.out 3 rfl
        obtain ⟨x0,x1,x2,x3,x4,x5,x6⟩:=sx_cellsX HD5.out.row
        have f0:=fzR 0 HD5.out.row
        have f1:=fzR 1 HD5.out.row
        have f2:=fzR 2 HD5.out.row
        have f3:=fzR 3 HD5.out.row
        have f4:=fzR 4 HD5.out.row
        have f5:=fzR 5 HD5.out.row
        have f6:=fzR 6 HD5.out.row
        have h5:v5=0∨v5=1∨v5=2∨v5=3:=by omega
        clear a5 c5
        rcases h5 with rfl | rfl | rfl | rfl
        ·go_wp2
         go_meet
         exact ⟨rfl,⟨x.k,x.se,x.v,x.wd,0,x.tm,x.ti⟩,hide (HD5.out.set 4 (.int .u64 0) rfl ⟨HD5.out.ok.k,HD5.out.ok.v,(show U64 0 by unfold U64;omega),HD5.out.ok.ti,HD5.out.ok.se,HD5.out.ok.wd⟩)⟩
        ·go_wp2
         go_meet
         exact ⟨rfl,⟨x.k,x.se,x.v,x.wd,1000000,x.tm,x.ti⟩,hide (HD5.out.set 4 (.int .u64 1000000) rfl ⟨HD5.out.ok.k,HD5.out.ok.v,(show U64 1000000 by unfold U64;omega),HD5.out.ok.ti,HD5.out.ok.se,HD5.out.ok.wd⟩)⟩
        ·go_wp2
         go_meet
         exact ⟨rfl,⟨x.k,x.se,x.v,x.wd,1000001,x.tm,x.ti⟩,hide (HD5.out.set 4 (.int .u64 1000001) rfl ⟨HD5.out.ok.k,HD5.out.ok.v,(show U64 1000001 by unfold U64;omega),HD5.out.ok.ti,HD5.out.ok.se,HD5.out.ok.wd⟩)⟩
        ·go_wp2
         go_meet
         exact ⟨rfl,⟨x.k,x.se,x.v,x.wd,777777,x.tm,x.ti⟩,hide (HD5.out.set 4 (.int .u64 777777) rfl ⟨HD5.out.ok.k,HD5.out.ok.v,(show U64 777777 by unfold U64;omega),HD5.out.ok.ti,HD5.out.ok.se,HD5.out.ok.wd⟩)⟩
       ·go_wp2_with fail
        have aL:Below w9.heap.size w9 (w9.alloc (.cells #[.int .i64 (-1),.int .i64 1000000000,.int .i64 1000000001] 2)):=(Below.refl _ _).alloc (Nat.le_refl _) _
        have HL:=hide (heap_alloc_new w9 (.cells #[.int .i64 (-1),.int .i64 1000000000,.int .i64 1000000001] 2))
        have HDL:=hide (HD9.out.past aL)
        have hzL:(w9.alloc (.cells #[.int .i64 (-1),.int .i64 1000000000,.int .i64 1000000001] 2)).heap.size=w9.heap.size+1:=by simp
        have hbl:=(Array.getElem?_eq_some_iff.1 HD9.out.row).1
        have hsl:=src_lt HD9.out.src
        clear aL
        generalize w9.alloc (.cells #[.int .i64 (-1),.int .i64 1000000000,.int .i64 1000000001] 2)=WL at HL HDL hzL ⊢
        refine (c_n HC.out HDL.out.src 3 (by omega)).mono ?_
        rintro e w5 ⟨v5,rfl,a5,c5,_,hS5,hg5⟩
        have c5:=c5 (by omega)
        have HD5:=hide (HDL.out.step hS5 hg5)
        have HL5:=hide ((hg5.block w9.heap.size (by omega) (fun e=>by cases e;omega)).trans HL.out)
        clear hS5 hg5
        have l0:=cellKX HL5.out 0 rfl
        have l1:=cellKX HL5.out 1 rfl
        have l2:=cellKX HL5.out 2 rfl
        obtain ⟨x0,x1,x2,x3,x4,x5,x6⟩:=sx_cellsX HD5.out.row
        have f0:=fzR 0 HD5.out.row
        have f1:=fzR 1 HD5.out.row
        have f2:=fzR 2 HD5.out.row
        have f3:=fzR 3 HD5.out.row
        have f4:=fzR 4 HD5.out.row
        have f5:=fzR 5 HD5.out.row
        have f6:=fzR 6 HD5.out.row
        have h5:v5=0∨v5=1∨v5=2:=by omega
        clear a5 c5
        rcases h5 with rfl | rfl | rfl
        ·go_wp2
         go_meet
         exact ⟨rfl,⟨x.k,x.se,x.v,x.wd,x.wt,x.tm,(-1)⟩,hide (HD5.out.set 6 (.int .i64 (-1)) rfl ⟨HD5.out.ok.k,HD5.out.ok.v,HD5.out.ok.wt,(show I64 (-1) by unfold I64;omega),HD5.out.ok.se,HD5.out.ok.wd⟩)⟩
        ·go_wp2
         go_meet
         exact ⟨rfl,⟨x.k,x.se,x.v,x.wd,x.wt,x.tm,1000000000⟩,hide (HD5.out.set 6 (.int .i64 1000000000) rfl ⟨HD5.out.ok.k,HD5.out.ok.v,HD5.out.ok.wt,(show I64 1000000000 by unfold I64;omega),HD5.out.ok.se,HD5.out.ok.wd⟩)⟩
        ·go_wp2
         go_meet
         exact ⟨rfl,⟨x.k,x.se,x.v,x.wd,x.wt,x.tm,1000000001⟩,hide (HD5.out.set 6 (.int .i64 1000000001) rfl ⟨HD5.out.ok.k,HD5.out.ok.v,HD5.out.ok.wt,(show I64 1000000001 by unfold I64;omega),HD5.out.ok.se,HD5.out.ok.wd⟩)⟩
       ·have HD5:=HD9
        obtain ⟨x0,x1,x2,x3,x4,x5,x6⟩:=sx_cellsX HD5.out.row
        have f0:=fzR 0 HD5.out.row
        have f1:=fzR 1 HD5.out.row
        have f2:=fzR 2 HD5.out.row
        have f3:=fzR 3 HD5.out.row
        have f4:=fzR 4 HD5.out.row
        have f5:=fzR 5 HD5.out.row
        have f6:=fzR 6 HD5.out.row
        go_wp2
        go_meet
        exact ⟨rfl,⟨x.k,x.se,x.v,⟨#[119]⟩,x.wt,x.tm,x.ti⟩,hide (HD5.out.set 3 (.string ⟨#[119]⟩) rfl ⟨HD5.out.ok.k,HD5.out.ok.v,HD5.out.ok.wt,HD5.out.ok.ti,HD5.out.ok.se,(show (⟨#[119]⟩:ByteArray).size≤_ by decide)⟩)⟩
       ·go_wp2_with fail
        refine (c_l01Any HC.out HD9.out.src).mono ?_
        rintro e w5 ⟨v5,rfl,hv5,hS5,hg5⟩
        have HD5:=hide (HD9.out.step hS5 hg5)
        clear hS5 hg5
        obtain ⟨x0,x1,x2,x3,x4,x5,x6⟩:=sx_cellsX HD5.out.row
        have f0:=fzR 0 HD5.out.row
        have f1:=fzR 1 HD5.out.row
        have f2:=fzR 2 HD5.out.row
        have f3:=fzR 3 HD5.out.row
        have f4:=fzR 4 HD5.out.row
        have f5:=fzR 5 HD5.out.row
        have f6:=fzR 6 HD5.out.row
        go_wp2
        go_meet
        exact ⟨rfl,⟨x.k,x.se,v5,x.wd,x.wt,x.tm,x.ti⟩,hide (HD5.out.set 2 (.int .i64 v5) rfl ⟨HD5.out.ok.k,hv5,HD5.out.ok.wt,HD5.out.ok.ti,HD5.out.ok.se,HD5.out.ok.wd⟩)⟩
     case rest=>
      clear HD HD4
      obtain ⟨rfl,x,HD⟩:=hcut
      obtain ⟨w10,hw10⟩:∃ w10,wc=w10:=⟨_,rfl⟩
      rw [hw10] at HD ⊢
      clear hw10
      obtain ⟨x0,x1,x2,x3,x4,x5,x6⟩:=sx_cellsX HD.out.row
      have z0:=cellKX HD.out.res 0 rfl
      have z1:=cellKX HD.out.res 1 rfl
      have z2:=cellKX HD.out.res 2 rfl
      have z3:=cellKX HD.out.res 3 rfl
      have z4:=cellKX HD.out.res 4 rfl
      have z5:=cellKX HD.out.res 5 rfl
      have z6:=cellKX HD.out.res 6 rfl
      have f0:=fzR 0 HD.out.res
      have f1:=fzR 1 HD.out.res
      have f2:=fzR 2 HD.out.res
      have f3:=fzR 3 HD.out.res
      have f4:=fzR 4 HD.out.res
      have f5:=fzR 5 HD.out.res
      have f6:=fzR 6 HD.out.res
      have hbn:¬ b=w.heap.size:=by have:=HD.out.lb;omega
      go_wp2
      refine bodyPost_ret (v:=.agg (sxArr x)) (by simp [results,Tryz.results54,go_sem,z0,z1,z2,z3,z4,z5,z6]) rfl ⟨x,rfl,HD.out.ok,?_,?_⟩
      ·refine src_farX (K:=w.heap.size) HD.out.src ?_ hs
       repeat (refine Below.setCell ?_ (by simp) _)
       exact Below.refl _ _
      ·refine grown_farX HD.out.gr ?_
       repeat (refine Below.setCell ?_ (by simp) _)
       exact Below.refl _ _
end Go.Proofs.YthpilcoklapooaaGreatDoor
