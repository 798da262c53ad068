/-
 An Agg drawn: the samples that are put.
-/
import Derived.Test.YthpilcoklapooaaGreatDoorADD
import Derived.Deep.DeepCutAuto
namespace Go.Proofs.YthpilcoklapooaaGreatDoor
set_option linter.unusedVariables false
set_option linter.unusedSimpArgs false
open Go.ChangeShapes Go.WideShapes Go.ChangeAt Go.RowKit Go.PlainAid Go.Lib
set_option maxRecDepth 10000
theorem keepL_len2 (L:List Bn):(keepL L).length≤30:=by
 unfold keepL
 split
 ·assumption
 ·have hd:(L.drop (L.length - 30)).length=30:=by rw [List.length_drop];omega
  split
  ·rename_i h;rw [h] at hd;simp at hd
  ·rename_i h;rw [h] at hd;simp at hd ⊢; omega
theorem mrg_sm2 {g g' o:Ag} (h:AgMrg g g' o):AgSm o:=by
 unfold AgMrg at h
 split at h
 ·rename_i hg
  obtain ⟨E,R,m,rfl⟩:=h
  have n:=agB_no hg.1
  have n':=agB_no hg.2.1
  have m':MrgH g.E g.R g'.E g'.R E R:=by unfold MrgH;rw [if_pos ⟨n.hl,n'.hl⟩];exact m
  have l:=hlB_len (mrg_right n.hl n'.hl m')
  exact ⟨Nat.le_trans (keepL_len2 _) (by omega),Nat.le_trans (keepL_len2 _) (by omega),by show E.length≤_;omega,by show R.length≤_;omega⟩
 ·subst h
  exact ⟨by simp [agZero],by simp [agZero],by simp [agZero],by simp [agZero]⟩
theorem put_sm2 {g o:Ag} {x:Sx} (h:AgPut g x o) (sm:AgSm g):AgSm o:=by
 unfold AgPut at h
 split at h
 ·exact mrg_sm2 h
 ·rw [h];exact sm
theorem str_addZ {a b:ByteArray} (h:a.size+b.size≤1000000):Op.stringOp .add a b=pure (.string (a ++ b)):=by
 unfold Op.stringOp
 have:¬ (((a.size+b.size:Nat):Int) > IntKind.i64.max):=by
  have e:IntKind.i64.max=9223372036854775807:=by decide
  rw [e];omega
 simp only
 rw [if_neg this]
/-- One field of the Agg turned. -/
theorem LD.set1 {W:World} {B ln cap s:Nat} {ao:Option Addr} {w wr:World} {b:Nat} {g g':Ag} {p:Pl} (h:LD W B ao ln cap s w wr b g p) (j:Nat) (u:Value) (e:(agArr g p).setIfInBounds j u=agArr g' p) (eP:g'.P=g.P) (eN:g'.N=g.N) (eE:g'.E=g.E) (eR:g'.R=g.R) (ok:AgOk g'):LD W B ao ln cap s w (wr.setCell ⟨b,j,none⟩ u) b g' p:=by
 have l1:=h.lb
 have l2:=h.hs
 have hb:Below b wr (wr.setCell ⟨b,j,none⟩ u):=(Below.refl b wr).setCell (by simp) u
 have o:=h.own.setNe (r:=b) (j:=j) h.ne u
 have en:∀ k,AgBlk g' p k→AgBlk g p k:=fun k q=>by unfold AgBlk at q ⊢; rw [eP,eN,eE,eR] at q;exact q
 refine ⟨?_,(hb.block _ l1).trans h.res,⟨by rw [eP];exact o.P,by rw [eN];exact o.N,by rw [eP,eN];exact o.ap,by rw [eE];exact o.E,by rw [eR];exact o.R⟩,fun k q=>h.ne k (en k q),src_farX h.src hb (by omega),grown_farX h.gr (hb.mono (by omega)),h.lb,h.hs,ok,⟨by rw [eP];exact h.sm.P,by rw [eN];exact h.sm.N,by rw [eE];exact h.sm.E,by rw [eR];exact h.sm.R⟩⟩
 rw [← e]
 exact heap_setCell_same wr b j _ _ u h.row
/-- Its sketch of how many turned. -/
theorem LD.setH {W:World} {B ln cap s:Nat} {ao:Option Addr} {w wr w5:World} {b:Nat} {g:Ag} {p:Pl} {ea ra:Option Addr} {ec rc:Nat} {E R:List Int} (h0:LD W B ao ln cap s w wr b g p) (h:LD W B ao ln cap s w w5 b g p) (oE:w5.ownsRow wr.heap.size 23 1 (.slice ea E.length ec) E.length (E.map (Value.int .u64))) (oR:w5.ownsRow wr.heap.size 2 1 (.slice ra R.length rc) R.length (R.map (Value.int .i64))) (uE:∀ y∈E,U64 y) (uR:∀ y∈R,I64 y) (lE:E.length≤1048576) (lR:R.length≤1048576) :
  LD W B ao ln cap s w ((w5.setCell ⟨b,11,none⟩ (.slice ea E.length ec)).setCell ⟨b,12,none⟩ (.slice ra R.length rc)) b { g with E:=E,R:=R } ⟨p.pa,p.pc,p.na,p.nc,ea,ec,ra,rc⟩:=by
 have l1:=h.lb
 have l2:=h.hs
 have lr:=(Array.getElem?_eq_some_iff.1 h0.row).1
 have hb:Below b w5 ((w5.setCell ⟨b,11,none⟩ (.slice ea E.length ec)).setCell ⟨b,12,none⟩ (.slice ra R.length rc)):=((Below.refl b w5).setCell (by simp) _).setCell (by simp) _
 have nE:∀ k,(Value.slice ea E.length ec).ownBlock=some k→wr.heap.size≤k:=own_ltB oE
 have nR:∀ k,(Value.slice ra R.length rc).ownBlock=some k→wr.heap.size≤k:=own_ltB oR
 have ne:∀ k,AgBlk { g with E:=E,R:=R } ⟨p.pa,p.pc,p.na,p.nc,ea,ec,ra,rc⟩ k→k≠b:=fun k q=>by
  rcases q with q | (q | q)
  ·exact h.ne k (.inl q)
  ·have:=nE k q;omega
  ·have:=nR k q;omega
 have o5:AgO w5 (w.heap.size+1) { g with E:=E,R:=R } ⟨p.pa,p.pc,p.na,p.nc,ea,ec,ra,rc⟩:=⟨h.own.P,h.own.N,h.own.ap,⟨rfl,own_le oE (by omega)⟩,⟨rfl,own_le oR (by omega)⟩⟩
 have r1:=heap_setCell_same w5 b 11 _ _ (.slice ea E.length ec) h.row
 exact ⟨heap_setCell_same _ b 12 _ _ _ r1,(hb.block _ l1).trans h.res,(o5.setNe ne _).setNe ne _,ne,src_farX h.src hb (by omega),grown_farX h.gr (hb.mono (by omega)),h.lb,h.hs,⟨h.ok.k,h.ok.s,h.ok.h,h.ok.l,h.ok.a,h.ok.t,h.ok.z,h.ok.x,h.ok.y,h.ok.P,h.ok.N,uE,uR⟩,⟨h.sm.P,h.sm.N,lE,lR⟩⟩
/-- A sample's box while it is turned. -/
theorem sb_set {w1:World} {c:Nat} {x x':Sx} (h:w1.heap[c]?=some (.cells (sxArr x) 36 (0,0))) (j:Nat) (u:Value) (e:(sxArr x).setIfInBounds j u=sxArr x'):(w1.setCell ⟨c,j,none⟩ u).heap[c]?=some (.cells (sxArr x') 36 (0,0)):=by
 rw [← e];exact heap_setCell_same w1 c j _ _ u h
set_option maxHeartbeats 8000000 in
theorem c_l07Agg {W w:World} {B ln cap s:Nat} {ao:Option Addr} (kind:Int) (hk:I64 kind) (hc:CodeAt W B ao ln) (h:Src W B ao ln cap s w) :
  Calls Tryz.prog 57 #[.pointer (some ⟨s,0,none⟩),.int .i64 kind] w fun e w'=>∃ g p,e=.returned (.agg (agArr g p))∧AgOk g∧AgSm g∧AgO w' (w.heap.size+1) g p∧Src W B ao ln cap s w'∧w.grownBy w' (some s):=by
 have HC:=hide hc
 have hs:=src_lt h
 have a0:Below w.heap.size w (w.alloc (.cells z13 34)):=(Below.refl _ _).alloc (Nat.le_refl _) _
 have HS0:=hide (src_past h a0)
 have HR0:=hide (heap_alloc_new w (.cells z13 34))
 have HG0:Hid (w.grownBy (w.alloc (.cells z13 34)) (some s)):=(⟨a0.os,a0.tape,a0.output,a0.size,fun j hj _=>a0.block j hj⟩:w.grownBy _ (some s))
 have hz0:(w.alloc (.cells z13 34)).heap.size=w.heap.size+1:=by simp
 have HZ0:=hide hz0
 have HKk:=hide hk
 clear hc h a0 hz0 hk
 go_enter Tryz.func57,Tryz.ntmps57
 go_wp2_with fail
 generalize w.alloc (.cells z13 34)=W0 at HS0 HR0 HG0 HZ0 ⊢
 refine (c_s_AggNew kind _).mono ?_
 rintro e w1 ⟨rfl,hb1⟩
 have en:∀ k:Int,agNew k=⟨(agNew k).k,0,0,0,0,(agNew k).t,0,[],[],0,0,[],[]⟩:=fun k=>by unfold agNew;split <;> rfl
 have hok:I64 (agNew kind).k∧I64 (agNew kind).t:=by
  have z:I64 0:=by unfold I64;omega
  unfold agNew
  split
  ·exact ⟨HKk.out,by show I64 (if kind=2 then -1 else 0);split <;> (unfold I64;omega)⟩
  ·exact ⟨z,z⟩
 generalize (agNew kind).k=k0 at hok ⊢
 generalize (agNew kind).t=t0 at hok ⊢
 have a1:Below w1.heap.size w1 (w1.alloc (.cells (agArr ⟨k0,0,0,0,0,t0,0,[],[],0,0,[],[]⟩ pl0) 34)):=(Below.refl _ _).alloc (Nat.le_refl _) _
 have zi:I64 0:=by unfold I64;omega
 have zu:U64 0:=by unfold U64;omega
 have HD0:Hid (LD W B ao ln cap s w (w1.alloc (.cells (agArr ⟨k0,0,0,0,0,t0,0,[],[],0,0,[],[]⟩ pl0) 34)) w1.heap.size ⟨k0,0,0,0,0,t0,0,[],[],0,0,[],[]⟩ pl0):=by
  have hz:=HZ0.out
  have hs1:=hb1.size
  refine hide ⟨heap_alloc_new w1 _,(a1.block _ (by omega)).trans ((hb1.block _ (by omega)).trans HR0.out),AgO.nil _ _ rfl rfl rfl rfl,fun k e=>?_,src_past (src_past HS0.out hb1) a1,grown_farX HG0.out ((hb1.mono (by omega)).trans (a1.mono (by omega))),by omega,hs,⟨hok.1,zu,zi,zu,zi,hok.2,zu,zi,zu,(fun b hb=>by cases hb),(fun b hb=>by cases hb),(fun b hb=>by cases hb),(fun b hb=>by cases hb)⟩,⟨Nat.zero_le _,Nat.zero_le _,Nat.zero_le _,Nat.zero_le _⟩⟩
  rcases e with (e | e) | (e | e) <;> cases e
 have hbs:=hb1.size
 clear hb1 a1 hok en zi zu HS0 HR0 HG0
 go_wp2_with fail
 generalize w1.alloc (.cells (agArr ⟨k0,0,0,0,0,t0,0,[],[],0,0,[],[]⟩ pl0) 34)=W1 at HD0 ⊢
 generalize w1.heap.size=b at HD0 ⊢
 refine (c_n HC.out HD0.out.src 8 (by omega)).mono ?_
 rintro e w2 ⟨kk,rfl,q0,q1,_,hS2,hg2⟩
 have q1:=q1 (by omega)
 have HD1:=hide (HD0.out.step hS2 hg2)
 obtain ⟨kn,rfl⟩:=Int.eq_ofNat_of_zero_le q0
 have hk8:kn<8:=by omega
 clear hS2 hg2 q0 q1 HD0
 generalize (⟨k0,0,0,0,0,t0,0,[],[],0,0,[],[]⟩:Ag)=g0 at HD1
 go_wp2_with fail
 go_loopw [6] (fun kv wr=>∃ (j:Nat) (g:Ag) (p:Pl),kv=.int .i64 j∧j≤8∧Hid (LD W B ao ln cap s w wr b g p)) (fun kv wr=>(RowKit.intOf kv).toNat)
 case atStart=>exact ⟨kn,g0,pl0,rfl,by omega,HD1⟩
 case round=>
  clear HD1
  obtain ⟨j,g,p,rfl,hj,HD⟩:=hrel
  rcases Nat.eq_zero_or_pos j with h0 | h0
  ·subst h0
   go_wp2_with fail
   refine (c_one HC.out HD.out.src 20 (by omega)).mono ?_
   rintro e w4 ⟨bb,rfl,hS4,hg4⟩
   have HD4:=hide (HD.out.step hS4 hg4)
   clear hS4 hg4 HD
   go_upto_if 43 with fail
   go_cut [5] (fun p' w'=>p'=.pointer (some ⟨b,0,none⟩)∧∃ g p,Hid (LD W B ao ln cap s w w' b g p))
   case first=>
    cases bb with
    | false=>
     go_wp2
     go_meet
     exact ⟨rfl,g,p,HD4⟩
    | true=>
     go_wp2_with fail
     refine (c_n HC.out HD4.out.src 5 (by omega)).mono ?_
     rintro e w5 ⟨v5,rfl,a5,c5,_,hS5,hg5⟩
     have c5:=c5 (by omega)
     have HD5:=hide (HD4.out.step hS5 hg5)
     have h5:v5=0∨v5=1∨v5=2∨v5=3∨v5=4:=by omega
     clear hS5 hg5 a5 c5 HD4
     rcases h5 with rfl | rfl | rfl | rfl | rfl
     ·go_wp2_with fail
      refine (c_n HC.out HD5.out.src 6 (by omega)).mono ?_
      rintro e w6 ⟨v6,rfl,a6,c6,_,hS6,hg6⟩
      have c6:=c6 (by omega)
      have HD6:=hide (HD5.out.step hS6 hg6)
      clear hS6 hg6
      have q0:=cellK HD6.out.row 0 rfl
      have f0:=fzR 0 HD6.out.row
      go_wp2
      go_meet
      exact ⟨rfl,{ g with k:=v6 },p,hide (HD6.out.set1 0 (.int .i64 v6) rfl rfl rfl rfl rfl ⟨(show I64 v6 by unfold I64;omega),HD6.out.ok.s,HD6.out.ok.h,HD6.out.ok.l,HD6.out.ok.a,HD6.out.ok.t,HD6.out.ok.z,HD6.out.ok.x,HD6.out.ok.y,HD6.out.ok.P,HD6.out.ok.N,HD6.out.ok.E,HD6.out.ok.R⟩)⟩
     ·go_wp2_with fail
      have HS0:(fun W'=>W'.cell? ⟨b,5,none⟩=some (.int .i64 g.t)) w5.drew:=cellK HD5.out.row 5 rfl
      refine regionK (fun W'=>W'.cell? ⟨b,5,none⟩=some (.int .i64 g.t)) 7 (by kernel_rfl) ?_
      refine tkL (i:=0) (d:=54) (v:=.pointer (some ⟨b,5,none⟩)) rfl rfl HS0 (fun W hW=>by clear hW;go_simp) ?_
      refine tkL (i:=1) (d:=55) (v:=.int .i64 g.t) rfl rfl HS0 (fun W hW=>?_) ?_
      ·have x5:=hW
       clear hW
       go_simp
      refine tkL (i:=2) (d:=56) (v:=.pointer (some ⟨s,0,none⟩)) rfl rfl HS0 (fun W hW=>by clear hW;go_simp) ?_
      simp only [sA,sB,sC]
      refine onE (i:=3) rfl (fun K hK=>?_)
      go_simp
      refine (c_n HC.out (src_past HD5.out.src (Below.refl _ _).drew) 3 (by omega)).mono ?_
      rintro e w6 ⟨v6,rfl,a6,c6,_,hS6,hg6⟩
      have c6:=c6 (by omega)
      have HD5d:=hide (HD5.out.past (Below.refl _ _).drew)
      have HD6:=hide (HD5d.out.step hS6 hg6)
      obtain ⟨t6,ht6⟩:∃ t6,IntKind.i64.wrap (g.t+v6)=t6:=⟨_,rfl⟩
      obtain ⟨tt,htt0⟩:∃ tt,IntKind.i64.wrap (t6 - 1)=tt:=⟨_,rfl⟩
      have htt:I64 tt:=by rw [← htt0,IntKind.wrap_i64];unfold I64;omega
      clear hS6 hg6
      have HS6:(fun W'=>W'.cell? ⟨b,5,none⟩=some (.int .i64 g.t)) w6:=cellK HD6.out.row 5 rfl
      have q5:=cellK HD6.out.row 5 rfl
      have f5:=fzR 5 HD6.out.row
      dsimp only
      refine hK.out _ _ (fun _=>HS6) ?_
      clear hK K
      try simp only [Act.put,sA,sB,sC]
      refine tkL (i:=4) (d:=58) (v:=.int .i64 t6) rfl rfl HS6 (fun W hW=>by clear hW;go_simp) ?_
      refine tkL (i:=5) (d:=59) (v:=.int .i64 tt) rfl rfl HS6 (fun W hW=>by clear hW;go_simp) ?_
      refine tkL (i:=6) (d:=60) (v:=.pointer (some ⟨b,5,none⟩)) rfl rfl HS6 (fun W hW=>by clear hW;go_simp) ?_
      simp only [sA,sB,sC]
      refine onE (i:=7) rfl (fun K hK=>?_)
      go_simp
      refine hK.out _ _ (fun h=>absurd rfl h) ?_
      clear hK K
      try simp only [Act.put,sA,sB,sC]
      refine doneK (by kernel_rfl) ?_ _
      go_wp2
      go_meet
      exact ⟨rfl,{ g with t:=tt },p,hide (HD6.out.set1 5 (.int .i64 tt) rfl rfl rfl rfl rfl ⟨HD6.out.ok.k,HD6.out.ok.s,HD6.out.ok.h,HD6.out.ok.l,HD6.out.ok.a,htt,HD6.out.ok.z,HD6.out.ok.x,HD6.out.ok.y,HD6.out.ok.P,HD6.out.ok.N,HD6.out.ok.E,HD6.out.ok.R⟩)⟩
     ·have q3:=cellK HD5.out.row 3 rfl
      have f3:=fzR 3 HD5.out.row
      go_wp2
      go_meet
      exact ⟨rfl,{ g with l:=5 },p,hide (HD5.out.set1 3 (.int .u64 5) rfl rfl rfl rfl rfl ⟨HD5.out.ok.k,HD5.out.ok.s,HD5.out.ok.h,(show U64 5 by unfold U64;omega),HD5.out.ok.a,HD5.out.ok.t,HD5.out.ok.z,HD5.out.ok.x,HD5.out.ok.y,HD5.out.ok.P,HD5.out.ok.N,HD5.out.ok.E,HD5.out.ok.R⟩)⟩
     ·go_wp2_with fail
      refine (c_l04Hll HC.out HD5.out.src).mono ?_
      rintro e w6 ⟨v6,E,R,rfl,⟨ve,vr,rfl,oE,oR⟩,uE,uR,lE,lR,hS6,hg6⟩
      obtain ⟨ea,ec,rfl⟩:=own_any oE
      obtain ⟨ra,rc,rfl⟩:=own_any oR
      have HD6:=hide (HD5.out.step hS6 hg6)
      have HD7:=hide (HD5.out.setH HD6.out oE oR uE uR (by omega) (by omega))
      clear hS6 hg6 oE oR uE uR
      have q11:=cellK HD6.out.row 11 rfl
      have f11:=fzR 11 HD6.out.row
      have q12:=cellK HD6.out.row 12 rfl
      have f12:=fzR 12 HD6.out.row
      go_wp2
      go_meet
      exact ⟨rfl,_,_,HD7⟩
     ·have q1:=cellK HD5.out.row 1 rfl
      have f1:=fzR 1 HD5.out.row
      go_wp2
      go_meet
      exact ⟨rfl,{ g with s:=18446744073709551615 },p,hide (HD5.out.set1 1 (.int .u64 18446744073709551615) rfl rfl rfl rfl rfl ⟨HD5.out.ok.k,(show U64 18446744073709551615 by unfold U64;omega),HD5.out.ok.h,HD5.out.ok.l,HD5.out.ok.a,HD5.out.ok.t,HD5.out.ok.z,HD5.out.ok.x,HD5.out.ok.y,HD5.out.ok.P,HD5.out.ok.N,HD5.out.ok.E,HD5.out.ok.R⟩)⟩
   case rest=>
    obtain ⟨rfl,g,p,HD⟩:=hcut
    obtain ⟨w8,hw8⟩:∃ w8,wc=w8:=⟨_,rfl⟩
    rw [hw8] at HD ⊢
    clear hw8 HD4
    have q0:=cellK HD.out.row 0 rfl
    have z0:=cellK HD.out.res 0 rfl
    have f0:=fzR 0 HD.out.res
    have q1:=cellK HD.out.row 1 rfl
    have z1:=cellK HD.out.res 1 rfl
    have f1:=fzR 1 HD.out.res
    have q2:=cellK HD.out.row 2 rfl
    have z2:=cellK HD.out.res 2 rfl
    have f2:=fzR 2 HD.out.res
    have q3:=cellK HD.out.row 3 rfl
    have z3:=cellK HD.out.res 3 rfl
    have f3:=fzR 3 HD.out.res
    have q4:=cellK HD.out.row 4 rfl
    have z4:=cellK HD.out.res 4 rfl
    have f4:=fzR 4 HD.out.res
    have q5:=cellK HD.out.row 5 rfl
    have z5:=cellK HD.out.res 5 rfl
    have f5:=fzR 5 HD.out.res
    have q6:=cellK HD.out.row 6 rfl
    have z6:=cellK HD.out.res 6 rfl
    have f6:=fzR 6 HD.out.res
    have q7:=cellK HD.out.row 7 rfl
    have z7:=cellK HD.out.res 7 rfl
    have f7:=fzR 7 HD.out.res
    have q8:=cellK HD.out.row 8 rfl
    have z8:=cellK HD.out.res 8 rfl
    have f8:=fzR 8 HD.out.res
    have q9:=cellK HD.out.row 9 rfl
    have z9:=cellK HD.out.res 9 rfl
    have f9:=fzR 9 HD.out.res
    have q10:=cellK HD.out.row 10 rfl
    have z10:=cellK HD.out.res 10 rfl
    have f10:=fzR 10 HD.out.res
    have q11:=cellK HD.out.row 11 rfl
    have z11:=cellK HD.out.res 11 rfl
    have f11:=fzR 11 HD.out.res
    have q12:=cellK HD.out.row 12 rfl
    have z12:=cellK HD.out.res 12 rfl
    have f12:=fzR 12 HD.out.res
    have hbn:¬ b=w.heap.size:=by have:=HD.out.lb;omega
    go_wp2
    refine bodyPost_ret (v:=.agg (agArr g p)) (by simp [results,Tryz.results57,go_sem,q0,z0,q1,z1,q2,z2,q3,z3,q4,z4,q5,z5,q6,z6,q7,z7,q8,z8,q9,z9,q10,z10,q11,z11,q12,z12]) rfl ⟨g,p,rfl,HD.out.ok,HD.out.sm,?_,?_,?_⟩
    ·repeat (refine AgO.below ?_ (by omega) _)
     exact HD.out.own
    ·refine src_farX (K:=w.heap.size) HD.out.src ?_ hs
     repeat (refine Below.setCell ?_ (by simp) _)
     exact Below.refl _ _
    ·refine grown_farX HD.out.gr ?_
     repeat (refine Below.setCell ?_ (by simp) _)
     exact Below.refl _ _
  ·have hj0:(0:Int)<(j:Int):=by omega
   have hwj:IntKind.i64.wrap ((j:Int) - 1)=((j - 1:Nat):Int):=by rw [IntWalk.i64_in _ ⟨by omega,by omega⟩];omega
   go_wp2_with fail
   refine (c_l06Sample HC.out HD.out.src).mono ?_
   rintro e w3 ⟨x,rfl,ox,hS3,hg3⟩
   have HD3:=hide (HD.out.step hS3 hg3)
   have OX:=hide ox
   clear hS3 hg3 ox HD
   go_wp2_with fail
   have aX:Below w3.heap.size w3 (w3.alloc (.cells (sxArr ⟨kind,x.se,x.v,⟨#[]⟩,x.wt,x.tm,x.ti⟩) 36)):=(Below.refl _ _).alloc (Nat.le_refl _) _
   have HDX:=hide (HD3.out.past aX)
   have HRX:=hide (heap_alloc_new w3 (.cells (sxArr ⟨kind,x.se,x.v,⟨#[]⟩,x.wt,x.tm,x.ti⟩) 36))
   have hbc:b<w3.heap.size:=(Array.getElem?_eq_some_iff.1 HD3.out.row).1
   have HLc:Hid (∀ k,AgBlk g p k→k<w3.heap.size):=fun k e=>(HD3.out.own.lt e).2
   have hcX:w3.heap.size<(w3.alloc (.cells (sxArr ⟨kind,x.se,x.v,⟨#[]⟩,x.wt,x.tm,x.ti⟩) 36)).heap.size:=by simp
   have HcX:=hide hcX
   have hsc:s<w3.heap.size:=by have:=HD3.out.hs;have:=HD3.out.lb;omega
   clear aX HD3 hcX
   generalize w3.alloc (.cells (sxArr ⟨kind,x.se,x.v,⟨#[]⟩,x.wt,x.tm,x.ti⟩) 36)=WX at HDX HRX HcX ⊢
   generalize w3.heap.size=c at HDX HRX hbc HLc hsc HcX ⊢
   refine (c_l03Any HC.out HDX.out.src).mono ?_
   rintro e w4 ⟨v4,rfl,hv4,hS4,hg4⟩
   have HD4:=hide (HDX.out.step hS4 hg4)
   have HR4:=hide ((hg4.block c HcX.out (fun e=>by cases e;omega)).trans HRX.out)
   clear hS4 hg4 HDX HRX
   have hbn:¬ c=b:=by omega
   have hsn:¬ c=s:=by omega
   obtain ⟨x0,x1,x2,x3,x4,x5,x6⟩:=sx_cellsX HR4.out
   have f0:=fzR 0 HR4.out
   have f1:=fzR 1 HR4.out
   have f2:=fzR 2 HR4.out
   have f3:=fzR 3 HR4.out
   have f4:=fzR 4 HR4.out
   have f5:=fzR 5 HR4.out
   have f6:=fzR 6 HR4.out
   by_cases h4:kind=4
   ·have e4:(kind == 4)=true:=by simp [h4]
    clear h4
    have HDZ:=hide (HD4.out.far (K:=c) (w1:=((w4.setCell ⟨c,2,none⟩ (.int .i64 v4)).setCell ⟨c,2,none⟩ (.int .i64 0))) (((Below.refl c w4).setCell (by simp) _).setCell (by simp) _) hbc HLc.out)
    have HRZ:=hide (sb_set (x':=⟨kind,x.se,0,⟨#[]⟩,x.wt,x.tm,x.ti⟩) (sb_set (x':=⟨kind,x.se,v4,⟨#[]⟩,x.wt,x.tm,x.ti⟩) HR4.out 2 (.int .i64 v4) rfl) 2 (.int .i64 0) rfl)
    have hcZ:c<((w4.setCell ⟨c,2,none⟩ (.int .i64 v4)).setCell ⟨c,2,none⟩ (.int .i64 0)).heap.size:=(Array.getElem?_eq_some_iff.1 HRZ.out).1
    have HcZ:=hide hcZ
    clear hcZ
    go_wp2_with fail
    clear x0 x1 x2 x3 x4 x5 x6 f0 f1 f2 f3 f4 f5 f6
    generalize ((w4.setCell ⟨c,2,none⟩ (.int .i64 v4)).setCell ⟨c,2,none⟩ (.int .i64 0))=WZ at HDZ HRZ HcZ ⊢
    refine (c_n HC.out HDZ.out.src 60 (by omega)).mono ?_
    rintro e w6 ⟨v6,rfl,r0,r1,_,hS6,hg6⟩
    have r1:=r1 (by omega)
    have HD6:=hide (HDZ.out.step hS6 hg6)
    have HR6:=hide ((hg6.block c HcZ.out (fun e=>by cases e;omega)).trans HRZ.out)
    obtain ⟨n6,rfl⟩:=Int.eq_ofNat_of_zero_le r0
    have hn6:n6≤1000:=by omega
    clear hS6 hg6 r0 r1 HDZ HRZ HcZ
    go_wp2_with fail
    refine (c_decT n6 hn6 _).mono ?_
    rintro e w7 ⟨u7,rfl,hu7,hb7⟩
    have HD7:=hide (HD6.out.past hb7)
    have HR7:=hide ((hb7.block c (Array.getElem?_eq_some_iff.1 HR6.out).1).trans HR6.out)
    obtain ⟨U,hU⟩:∃ U:ByteArray,U=⟨#[117]⟩ ++ u7:=⟨_,rfl⟩
    have hUs:U.size≤31:=by rw [hU,ByteArray.size_append];have:(⟨#[117]⟩:ByteArray).size=1:=rfl;omega
    have hadd:Op.stringOp .add ⟨#[117]⟩ u7=pure (.string U):=by rw [hU];exact str_addZ (by have:(⟨#[117]⟩:ByteArray).size=1:=rfl;omega)
    clear hU hb7 HD6 HR6 hu7
    have HDY:=hide (HD7.out.far (K:=c) (w1:=((w7.setCell ⟨c,3,none⟩ (.string U)).setCell ⟨c,4,none⟩ (.int .u64 1))) (((Below.refl c w7).setCell (by simp) _).setCell (by simp) _) hbc HLc.out)
    obtain ⟨x0,x1,x2,x3,x4,x5,x6⟩:=sx_cellsX HR7.out
    have f0:=fzR 0 HR7.out
    have f1:=fzR 1 HR7.out
    have f2:=fzR 2 HR7.out
    have f3:=fzR 3 HR7.out
    have f4:=fzR 4 HR7.out
    have f5:=fzR 5 HR7.out
    have f6:=fzR 6 HR7.out
    have q0:=cellK HD7.out.row 0 rfl
    have q1:=cellK HD7.out.row 1 rfl
    have q2:=cellK HD7.out.row 2 rfl
    have q3:=cellK HD7.out.row 3 rfl
    have q4:=cellK HD7.out.row 4 rfl
    have q5:=cellK HD7.out.row 5 rfl
    have q6:=cellK HD7.out.row 6 rfl
    have q7:=cellK HD7.out.row 7 rfl
    have q8:=cellK HD7.out.row 8 rfl
    have q9:=cellK HD7.out.row 9 rfl
    have q10:=cellK HD7.out.row 10 rfl
    have q11:=cellK HD7.out.row 11 rfl
    have q12:=cellK HD7.out.row 12 rfl
    go_wp2_with fail
    clear x0 x1 x2 x3 x4 x5 x6 f0 f1 f2 f3 f4 f5 f6 q0 q1 q2 q3 q4 q5 q6 q7 q8 q9 q10 q11 q12
    refine (c_s_AggPut ⟨kind,x.se,0,U,1,x.tm,x.ti⟩ HDY.out.ok (⟨HKk.out,(show I64 0 by unfold I64;omega),(show U64 1 by unfold U64;omega),OX.out.ti,OX.out.se,(show U.size≤maxLen by unfold maxLen;omega)⟩:Sx.Ok ⟨kind,x.se,0,U,1,x.tm,x.ti⟩) HDY.out.sm HDY.out.own.plg HDY.out.own.at).mono ?_
    rintro e w9 ⟨v9,o9,rfl,hq9,⟨p9,rfl,ho9⟩,hb9⟩
    have HD9:=hide (HDY.out.new hb9 ho9 (put_stays (⟨HKk.out,(show I64 0 by unfold I64;omega),(show U64 1 by unfold U64;omega),OX.out.ti,OX.out.se,(show U.size≤maxLen by unfold maxLen;omega)⟩:Sx.Ok ⟨kind,x.se,0,U,1,x.tm,x.ti⟩) HDY.out.ok hq9).1 (put_sm2 hq9 HDY.out.sm))
    have HY9:=hide (HDY.out.past hb9)
    clear hq9 ho9 hb9
    have q0:=cellK HY9.out.row 0 rfl
    have q1:=cellK HY9.out.row 1 rfl
    have q2:=cellK HY9.out.row 2 rfl
    have q3:=cellK HY9.out.row 3 rfl
    have q4:=cellK HY9.out.row 4 rfl
    have q5:=cellK HY9.out.row 5 rfl
    have q6:=cellK HY9.out.row 6 rfl
    have q7:=cellK HY9.out.row 7 rfl
    have q8:=cellK HY9.out.row 8 rfl
    have q9:=cellK HY9.out.row 9 rfl
    have q10:=cellK HY9.out.row 10 rfl
    have q11:=cellK HY9.out.row 11 rfl
    have q12:=cellK HY9.out.row 12 rfl
    have f0:=fzR 0 HY9.out.row
    have f1:=fzR 1 HY9.out.row
    have f2:=fzR 2 HY9.out.row
    have f3:=fzR 3 HY9.out.row
    have f4:=fzR 4 HY9.out.row
    have f5:=fzR 5 HY9.out.row
    have f6:=fzR 6 HY9.out.row
    have f7:=fzR 7 HY9.out.row
    have f8:=fzR 8 HY9.out.row
    have f9:=fzR 9 HY9.out.row
    have f10:=fzR 10 HY9.out.row
    have f11:=fzR 11 HY9.out.row
    have f12:=fzR 12 HY9.out.row
    go_wp2
    go_roundw
    case rel=>exact ⟨j - 1,o9,p9,rfl,by omega,HD9⟩
    case measure=>simp [RowKit.intOf];omega
   ·have e4:(kind == 4)=false:=beq_eq_false_iff_ne.2 h4
    by_cases h2:kind=2
    ·have e2:(kind == 2)=true:=by simp [h2]
     clear h4 h2
     have HDY:=hide (HD4.out.far (K:=c) (w1:=((w4.setCell ⟨c,2,none⟩ (.int .i64 v4)).setCell ⟨c,4,none⟩ (.int .u64 1))) (((Below.refl c w4).setCell (by simp) _).setCell (by simp) _) hbc HLc.out)
     have q0:=cellK HD4.out.row 0 rfl
     have q1:=cellK HD4.out.row 1 rfl
     have q2:=cellK HD4.out.row 2 rfl
     have q3:=cellK HD4.out.row 3 rfl
     have q4:=cellK HD4.out.row 4 rfl
     have q5:=cellK HD4.out.row 5 rfl
     have q6:=cellK HD4.out.row 6 rfl
     have q7:=cellK HD4.out.row 7 rfl
     have q8:=cellK HD4.out.row 8 rfl
     have q9:=cellK HD4.out.row 9 rfl
     have q10:=cellK HD4.out.row 10 rfl
     have q11:=cellK HD4.out.row 11 rfl
     have q12:=cellK HD4.out.row 12 rfl
     go_wp2_with fail
     clear x0 x1 x2 x3 x4 x5 x6 f0 f1 f2 f3 f4 f5 f6 q0 q1 q2 q3 q4 q5 q6 q7 q8 q9 q10 q11 q12
     refine (c_s_AggPut ⟨kind,x.se,v4,⟨#[]⟩,1,x.tm,x.ti⟩ HDY.out.ok (⟨HKk.out,hv4,(show U64 1 by unfold U64;omega),OX.out.ti,OX.out.se,(show (⟨#[]⟩:ByteArray).size≤maxLen by decide)⟩:Sx.Ok ⟨kind,x.se,v4,⟨#[]⟩,1,x.tm,x.ti⟩) HDY.out.sm HDY.out.own.plg HDY.out.own.at).mono ?_
     rintro e w9 ⟨v9,o9,rfl,hq9,⟨p9,rfl,ho9⟩,hb9⟩
     have HD9:=hide (HDY.out.new hb9 ho9 (put_stays (⟨HKk.out,hv4,(show U64 1 by unfold U64;omega),OX.out.ti,OX.out.se,(show (⟨#[]⟩:ByteArray).size≤maxLen by decide)⟩:Sx.Ok ⟨kind,x.se,v4,⟨#[]⟩,1,x.tm,x.ti⟩) HDY.out.ok hq9).1 (put_sm2 hq9 HDY.out.sm))
     have HY9:=hide (HDY.out.past hb9)
     clear hq9 ho9 hb9
     have q0:=cellK HY9.out.row 0 rfl
     have q1:=cellK HY9.out.row 1 rfl
     have q2:=cellK HY9.out.row 2 rfl
     have q3:=cellK HY9.out.row 3 rfl
     have q4:=cellK HY9.out.row 4 rfl
     have q5:=cellK HY9.out.row 5 rfl
     have q6:=cellK HY9.out.row 6 rfl
     have q7:=cellK HY9.out.row 7 rfl
     have q8:=cellK HY9.out.row 8 rfl
     have q9:=cellK HY9.out.row 9 rfl
     have q10:=cellK HY9.out.row 10 rfl
     have q11:=cellK HY9.out.row 11 rfl
     have q12:=cellK HY9.out.row 12 rfl
     have f0:=fzR 0 HY9.out.row
     have f1:=fzR 1 HY9.out.row
     have f2:=fzR 2 HY9.out.row
     have f3:=fzR 3 HY9.out.row
     have f4:=fzR 4 HY9.out.row
     have f5:=fzR 5 HY9.out.row
     have f6:=fzR 6 HY9.out.row
     have f7:=fzR 7 HY9.out.row
     have f8:=fzR 8 HY9.out.row
     have f9:=fzR 9 HY9.out.row
     have f10:=fzR 10 HY9.out.row
     have f11:=fzR 11 HY9.out.row
     have f12:=fzR 12 HY9.out.row
     go_wp2
     go_roundw
     case rel=>exact ⟨j - 1,o9,p9,rfl,by omega,HD9⟩
     case measure=>simp [RowKit.intOf];omega
    ·have e2:(kind == 2)=false:=beq_eq_false_iff_ne.2 h2
     clear h4 h2
     have HDY:=hide (HD4.out.far (K:=c) (w1:=(w4.setCell ⟨c,2,none⟩ (.int .i64 v4))) ((Below.refl c w4).setCell (by simp) _) hbc HLc.out)
     have q0:=cellK HD4.out.row 0 rfl
     have q1:=cellK HD4.out.row 1 rfl
     have q2:=cellK HD4.out.row 2 rfl
     have q3:=cellK HD4.out.row 3 rfl
     have q4:=cellK HD4.out.row 4 rfl
     have q5:=cellK HD4.out.row 5 rfl
     have q6:=cellK HD4.out.row 6 rfl
     have q7:=cellK HD4.out.row 7 rfl
     have q8:=cellK HD4.out.row 8 rfl
     have q9:=cellK HD4.out.row 9 rfl
     have q10:=cellK HD4.out.row 10 rfl
     have q11:=cellK HD4.out.row 11 rfl
     have q12:=cellK HD4.out.row 12 rfl
     go_wp2_with fail
     clear x0 x1 x2 x3 x4 x5 x6 f0 f1 f2 f3 f4 f5 f6 q0 q1 q2 q3 q4 q5 q6 q7 q8 q9 q10 q11 q12
     refine (c_s_AggPut ⟨kind,x.se,v4,⟨#[]⟩,x.wt,x.tm,x.ti⟩ HDY.out.ok (⟨HKk.out,hv4,OX.out.wt,OX.out.ti,OX.out.se,(show (⟨#[]⟩:ByteArray).size≤maxLen by decide)⟩:Sx.Ok ⟨kind,x.se,v4,⟨#[]⟩,x.wt,x.tm,x.ti⟩) HDY.out.sm HDY.out.own.plg HDY.out.own.at).mono ?_
     rintro e w9 ⟨v9,o9,rfl,hq9,⟨p9,rfl,ho9⟩,hb9⟩
     have HD9:=hide (HDY.out.new hb9 ho9 (put_stays (⟨HKk.out,hv4,OX.out.wt,OX.out.ti,OX.out.se,(show (⟨#[]⟩:ByteArray).size≤maxLen by decide)⟩:Sx.Ok ⟨kind,x.se,v4,⟨#[]⟩,x.wt,x.tm,x.ti⟩) HDY.out.ok hq9).1 (put_sm2 hq9 HDY.out.sm))
     have HY9:=hide (HDY.out.past hb9)
     clear hq9 ho9 hb9
     have q0:=cellK HY9.out.row 0 rfl
     have q1:=cellK HY9.out.row 1 rfl
     have q2:=cellK HY9.out.row 2 rfl
     have q3:=cellK HY9.out.row 3 rfl
     have q4:=cellK HY9.out.row 4 rfl
     have q5:=cellK HY9.out.row 5 rfl
     have q6:=cellK HY9.out.row 6 rfl
     have q7:=cellK HY9.out.row 7 rfl
     have q8:=cellK HY9.out.row 8 rfl
     have q9:=cellK HY9.out.row 9 rfl
     have q10:=cellK HY9.out.row 10 rfl
     have q11:=cellK HY9.out.row 11 rfl
     have q12:=cellK HY9.out.row 12 rfl
     have f0:=fzR 0 HY9.out.row
     have f1:=fzR 1 HY9.out.row
     have f2:=fzR 2 HY9.out.row
     have f3:=fzR 3 HY9.out.row
     have f4:=fzR 4 HY9.out.row
     have f5:=fzR 5 HY9.out.row
     have f6:=fzR 6 HY9.out.row
     have f7:=fzR 7 HY9.out.row
     have f8:=fzR 8 HY9.out.row
     have f9:=fzR 9 HY9.out.row
     have f10:=fzR 10 HY9.out.row
     have f11:=fzR 11 HY9.out.row
     have f12:=fzR 12 HY9.out.row
     go_wp2
     go_roundw
     case rel=>exact ⟨j - 1,o9,p9,rfl,by omega,HD9⟩
     case measure=>simp [RowKit.intOf];omega
/-
 Drawn Aggs: one and a sample, and two.
-/
theorem below_13 {w:World} {K r:Nat} {u0 u1 u2 u3 u4 u5 u6 u7 u8 u9 u10 u11 u12:Value} (hK:K≤r):Below K w (((((((((((((w.setCell ⟨r,0,none⟩ u0).setCell ⟨r,1,none⟩ u1).setCell ⟨r,2,none⟩ u2).setCell ⟨r,3,none⟩ u3).setCell ⟨r,4,none⟩ u4).setCell ⟨r,5,none⟩ u5).setCell ⟨r,6,none⟩ u6).setCell ⟨r,7,none⟩ u7).setCell ⟨r,8,none⟩ u8).setCell ⟨r,9,none⟩ u9).setCell ⟨r,10,none⟩ u10).setCell ⟨r,11,none⟩ u11).setCell ⟨r,12,none⟩ u12):=by
 repeat (refine Below.setCell ?_ hK _)
 exact Below.refl _ _
theorem AgO.kept13 {w:World} {B r:Nat} {o:Ag} {p:Pl} {u0 u1 u2 u3 u4 u5 u6 u7 u8 u9 u10 u11 u12:Value} (h:AgO w B o p) (hr:r<B):AgO (((((((((((((w.setCell ⟨r,0,none⟩ u0).setCell ⟨r,1,none⟩ u1).setCell ⟨r,2,none⟩ u2).setCell ⟨r,3,none⟩ u3).setCell ⟨r,4,none⟩ u4).setCell ⟨r,5,none⟩ u5).setCell ⟨r,6,none⟩ u6).setCell ⟨r,7,none⟩ u7).setCell ⟨r,8,none⟩ u8).setCell ⟨r,9,none⟩ u9).setCell ⟨r,10,none⟩ u10).setCell ⟨r,11,none⟩ u11).setCell ⟨r,12,none⟩ u12) B o p:=by
 repeat (refine AgO.below ?_ hr _)
 exact h
theorem AgO.grown {w w':World} {B s:Nat} {o:Ag} {p:Pl} (h:AgO w B o p) (hg:w.grownBy w' (some s)) (hs:s<B):AgO w' B o p:=by
 refine h.keptS (S:=fun k=>k=s) ⟨hg.os,hg.tape,hg.output,hg.size,fun k hk hn=>hg.block k hk (fun e=>hn (by cases e;rfl))⟩ (fun k e q=>?_)
 have:=(h.lt e).1
 omega
theorem set13_other {w:World} {c r:Nat} {b:Obj} {u0 u1 u2 u3 u4 u5 u6 u7 u8 u9 u10 u11 u12:Value} (h:w.heap[c]?=some b) (hn:c≠r):(((((((((((((w.setCell ⟨r,0,none⟩ u0).setCell ⟨r,1,none⟩ u1).setCell ⟨r,2,none⟩ u2).setCell ⟨r,3,none⟩ u3).setCell ⟨r,4,none⟩ u4).setCell ⟨r,5,none⟩ u5).setCell ⟨r,6,none⟩ u6).setCell ⟨r,7,none⟩ u7).setCell ⟨r,8,none⟩ u8).setCell ⟨r,9,none⟩ u9).setCell ⟨r,10,none⟩ u10).setCell ⟨r,11,none⟩ u11).setCell ⟨r,12,none⟩ u12).heap[c]?=some b:=by
 repeat rw [Below.heap_setCell _ _ _ _ (by simpa using hn)]
 exact h
/-- Boxes beside the source stay. -/
theorem row_grown {w w':World} {c s:Nat} {b:Obj} (h:w.heap[c]?=some b) (hg:w.grownBy w' (some s)) (hn:c≠s):w'.heap[c]?=some b:=
 (hg.block c (Array.getElem?_eq_some_iff.1 h).1 (fun e=>by cases e;exact hn rfl)).trans h
set_option maxHeartbeats 8000000 in
theorem c_DrawAggPut {w:World} {ln cap:Nat} {ao:Option Addr} (hc:CodeAt w w.heap.size ao ln) :
  Calls Tryz.prog 9 #[.slice ao ln cap] w fun e w'=>∃ (g:Ag) (p:Pl) (x:Sx),e=.returned (.tuple #[.agg (agArr g p),.agg (sxArr x)])∧AgOk g∧AgSm g∧AgO w' w.heap.size g p∧x.Ok∧Below w.heap.size w w':=by
 have a0:Below w.heap.size w ((w.alloc (.cells z13 34)).alloc (.cells #[.int .i64 0,.string ⟨#[]⟩,.int .i64 0,.string ⟨#[]⟩,.int .u64 0,.bool false,.int .i64 0] 36)):=((Below.refl _ _).alloc (Nat.le_refl _) _).alloc (by simp) _
 have HC:=hide (codeAt_in (B:=((w.alloc (.cells z13 34)).alloc (.cells #[.int .i64 0,.string ⟨#[]⟩,.int .i64 0,.string ⟨#[]⟩,.int .u64 0,.bool false,.int .i64 0] 36)).heap.size) hc a0 (Nat.le_refl _) a0.size)
 have hr1:((w.alloc (.cells z13 34)).alloc (.cells #[.int .i64 0,.string ⟨#[]⟩,.int .i64 0,.string ⟨#[]⟩,.int .u64 0,.bool false,.int .i64 0] 36)).heap[w.heap.size]?=some (.cells z13 34 (0,0)):=((Below.refl (w.alloc (.cells z13 34)).heap.size _).alloc (Nat.le_refl _) _).block w.heap.size (by simp) |>.trans (heap_alloc_new w _)
 have hr2:((w.alloc (.cells z13 34)).alloc (.cells #[.int .i64 0,.string ⟨#[]⟩,.int .i64 0,.string ⟨#[]⟩,.int .u64 0,.bool false,.int .i64 0] 36)).heap[w.heap.size+1]?=some (.cells #[.int .i64 0,.string ⟨#[]⟩,.int .i64 0,.string ⟨#[]⟩,.int .u64 0,.bool false,.int .i64 0] 36 (0,0)):=by
  have:=heap_alloc_new (w.alloc (.cells z13 34)) (.cells #[.int .i64 0,.string ⟨#[]⟩,.int .i64 0,.string ⟨#[]⟩,.int .u64 0,.bool false,.int .i64 0] 36)
  have e:(w.alloc (.cells z13 34)).heap.size=w.heap.size+1:=by simp
  rw [e] at this
  exact this
 have HR1:=hide hr1
 have HR2:=hide hr2
 have HT0:=hide a0
 have hz0:((w.alloc (.cells z13 34)).alloc (.cells #[.int .i64 0,.string ⟨#[]⟩,.int .i64 0,.string ⟨#[]⟩,.int .u64 0,.bool false,.int .i64 0] 36)).heap.size=w.heap.size+2:=by simp
 have HZ0:=hide hz0
 clear hc a0 hz0 hr1 hr2
 go_enter Tryz.func9,Tryz.ntmps9
 go_wp2_with fail
 generalize ((w.alloc (.cells z13 34)).alloc (.cells #[.int .i64 0,.string ⟨#[]⟩,.int .i64 0,.string ⟨#[]⟩,.int .u64 0,.bool false,.int .i64 0] 36))=W0 at HC HR1 HR2 HT0 HZ0 ⊢
 refine (c_source_at (K:=W0.heap.size) _ _ _ _ rfl HC.out).mono ?_
 rintro e w1 ⟨rfl,hS1⟩
 have HS1:=hide hS1
 clear hS1
 go_wp2_with fail
 refine (c_l06Sample HC.out HS1.out).mono ?_
 rintro e w2 ⟨x,rfl,ok,hS2,hg2⟩
 have OX:=hide ok
 have aX:Below w2.heap.size w2 (w2.alloc (.cells (sxArr x) 36)):=(Below.refl _ _).alloc (Nat.le_refl _) _
 have HS3:=hide (src_past hS2 aX)
 have HX3:=hide (heap_alloc_new w2 (.cells (sxArr x) 36))
 have hsl:=src_lt hS2
 have hgz:=hg2.size
 have hsz:W0.heap.size<w2.heap.size:=hsl
 clear hS2 hg2 HS1 ok aX hgz
 go_wp2_with fail
 generalize w2.alloc (.cells (sxArr x) 36)=W3 at HS3 HX3 ⊢
 generalize w2.heap.size=c at HX3 hsl hsz ⊢
 have x0:=(sx_cellsX HX3.out).1
 go_wp2_with fail
 clear x0
 refine (c_one HC.out HS3.out 8 (by omega)).mono ?_
 rintro e w4 ⟨bb,rfl,hS4,hg4⟩
 have HS4:=hide hS4
 have HX4:=hide (row_grown HX3.out hg4 (by omega))
 clear hS4 hg4 HS3 HX3
 go_upto_if 14 with fail
 go_cut [6] (fun kv w'=>∃ k:Int,kv=.int .i64 k∧I64 k∧Hid (Src W0 W0.heap.size ao ln cap W0.heap.size w')∧Hid (w'.heap[c]?=some (.cells (sxArr x) 36 (0,0))))
 case first=>
  cases bb with
  | false=>
   go_wp2
   go_meet
   exact ⟨x.k,rfl,OX.out.k,HS4,HX4⟩
  | true=>
   go_wp2_with fail
   refine (c_n HC.out HS4.out 4 (by omega)).mono ?_
   rintro e w5 ⟨v5,rfl,a5,c5,_,hS5,hg5⟩
   have c5:=c5 (by omega)
   have hw5:IntKind.i64.wrap (1+v5)=1+v5:=IntWalk.i64_in _ ⟨by omega,by omega⟩
   have HS5:=hide hS5
   have HX5:=hide (row_grown HX4.out hg5 (by omega))
   clear hS5 hg5
   go_wp2
   go_meet
   exact ⟨1+v5,rfl,(by unfold I64;omega),HS5,HX5⟩
 case rest=>
  obtain ⟨kk,rfl,hkk,HS5,HX5⟩:=hcut
  obtain ⟨w5,hw5⟩:∃ w5,wc=w5:=⟨_,rfl⟩
  rw [hw5] at HS5 HX5 ⊢
  clear hw5 HS4 HX4
  go_wp2_with fail
  have HS0:w5.drew.heap[c]?=some (.cells (sxArr x) 36 (0,0)):=HX5.out
  refine regionK (fun W'=>W'.heap[c]?=some (.cells (sxArr x) 36 (0,0))) 5 (by kernel_rfl) ?_
  refine tkL (i:=0) (d:=18) (v:=.pointer (some ⟨W0.heap.size,0,none⟩)) rfl rfl HS0 (fun W hW=>by clear hW;go_simp) ?_
  refine tkL (i:=1) (d:=19) (v:=.int .i64 kk) rfl rfl HS0 (fun W hW=>by clear hW;go_simp) ?_
  refine tkL (i:=3) (d:=21) (v:=.agg (sxArr x)) rfl rfl HS0 (fun W hW=>?_) ?_
  ·obtain ⟨x0,x1,x2,x3,x4,x5,x6⟩:=sx_cellsX hW
   clear hW
   go_simp
  simp only [sA,sB,sC]
  refine onE (i:=2) rfl (fun K hK=>?_)
  go_simp
  refine (c_l07Agg kk hkk HC.out (src_past HS5.out (Below.refl _ _).drew)).mono ?_
  rintro e w6 ⟨g,p,rfl,okg,smg,og,hS6,hg6⟩
  have HX6:w6.heap[c]?=some (.cells (sxArr x) 36 (0,0)):=row_grown HS0 hg6 (by omega)
  have HA6:=hide ((hS6.bel.block w.heap.size (by have:=HZ0.out;omega)).trans HR1.out)
  have HB6:=hide ((hS6.bel.block (w.heap.size+1) (by have:=HZ0.out;omega)).trans HR2.out)
  have HO6:=hide (og.le (B':=w.heap.size+2) (by have:w5.drew.heap.size=w5.heap.size:=rfl;have:=HZ0.out;have:=HS5.out.bel.size;have:=(src_lt HS5.out);omega))
  have HT6:=hide (chain HT0.out hS6.bel)
  have OKG:=hide okg
  have SMG:=hide smg
  clear hS6 hg6 og okg smg
  have z0:=cellK HA6.out 0 rfl
  have f0:=fzR 0 HA6.out
  have z1:=cellK HA6.out 1 rfl
  have f1:=fzR 1 HA6.out
  have z2:=cellK HA6.out 2 rfl
  have f2:=fzR 2 HA6.out
  have z3:=cellK HA6.out 3 rfl
  have f3:=fzR 3 HA6.out
  have z4:=cellK HA6.out 4 rfl
  have f4:=fzR 4 HA6.out
  have z5:=cellK HA6.out 5 rfl
  have f5:=fzR 5 HA6.out
  have z6:=cellK HA6.out 6 rfl
  have f6:=fzR 6 HA6.out
  have z7:=cellK HA6.out 7 rfl
  have f7:=fzR 7 HA6.out
  have z8:=cellK HA6.out 8 rfl
  have f8:=fzR 8 HA6.out
  have z9:=cellK HA6.out 9 rfl
  have f9:=fzR 9 HA6.out
  have z10:=cellK HA6.out 10 rfl
  have f10:=fzR 10 HA6.out
  have z11:=cellK HA6.out 11 rfl
  have f11:=fzR 11 HA6.out
  have z12:=cellK HA6.out 12 rfl
  have f12:=fzR 12 HA6.out
  dsimp only
  refine hK.out _ _ (fun _=>HX6) ?_
  clear hK K
  try simp only [Act.put,sA,sB,sC]
  refine onE (i:=4) rfl (fun K hK=>?_)
  go_simp
  have HX7:=hide (set13_other (r:=w.heap.size) HX6 (by have:=HZ0.out;omega):(((((((((((((w6.setCell ⟨w.heap.size,0,none⟩ (.int .i64 g.k)).setCell ⟨w.heap.size,1,none⟩ (.int .u64 g.s)).setCell ⟨w.heap.size,2,none⟩ (.int .i64 g.h)).setCell ⟨w.heap.size,3,none⟩ (.int .u64 g.l)).setCell ⟨w.heap.size,4,none⟩ (.int .i64 g.a)).setCell ⟨w.heap.size,5,none⟩ (.int .i64 g.t)).setCell ⟨w.heap.size,6,none⟩ (.int .u64 g.z)).setCell ⟨w.heap.size,7,none⟩ (.slice p.pa g.P.length p.pc)).setCell ⟨w.heap.size,8,none⟩ (.slice p.na g.N.length p.nc)).setCell ⟨w.heap.size,9,none⟩ (.int .i64 g.x)).setCell ⟨w.heap.size,10,none⟩ (.int .u64 g.y)).setCell ⟨w.heap.size,11,none⟩ (.slice p.ea g.E.length p.ec)).setCell ⟨w.heap.size,12,none⟩ (.slice p.ra g.R.length p.rc)).heap[c]?=some (.cells (sxArr x) 36 (0,0)))
  have HB7:=hide (set13_other (r:=w.heap.size) HB6.out (by omega):(((((((((((((w6.setCell ⟨w.heap.size,0,none⟩ (.int .i64 g.k)).setCell ⟨w.heap.size,1,none⟩ (.int .u64 g.s)).setCell ⟨w.heap.size,2,none⟩ (.int .i64 g.h)).setCell ⟨w.heap.size,3,none⟩ (.int .u64 g.l)).setCell ⟨w.heap.size,4,none⟩ (.int .i64 g.a)).setCell ⟨w.heap.size,5,none⟩ (.int .i64 g.t)).setCell ⟨w.heap.size,6,none⟩ (.int .u64 g.z)).setCell ⟨w.heap.size,7,none⟩ (.slice p.pa g.P.length p.pc)).setCell ⟨w.heap.size,8,none⟩ (.slice p.na g.N.length p.nc)).setCell ⟨w.heap.size,9,none⟩ (.int .i64 g.x)).setCell ⟨w.heap.size,10,none⟩ (.int .u64 g.y)).setCell ⟨w.heap.size,11,none⟩ (.slice p.ea g.E.length p.ec)).setCell ⟨w.heap.size,12,none⟩ (.slice p.ra g.R.length p.rc)).heap[w.heap.size+1]?=some (.cells #[.int .i64 0,.string ⟨#[]⟩,.int .i64 0,.string ⟨#[]⟩,.int .u64 0,.bool false,.int .i64 0] 36 (0,0)))
  have HA7:=hide (row13 HA6.out:(((((((((((((w6.setCell ⟨w.heap.size,0,none⟩ (.int .i64 g.k)).setCell ⟨w.heap.size,1,none⟩ (.int .u64 g.s)).setCell ⟨w.heap.size,2,none⟩ (.int .i64 g.h)).setCell ⟨w.heap.size,3,none⟩ (.int .u64 g.l)).setCell ⟨w.heap.size,4,none⟩ (.int .i64 g.a)).setCell ⟨w.heap.size,5,none⟩ (.int .i64 g.t)).setCell ⟨w.heap.size,6,none⟩ (.int .u64 g.z)).setCell ⟨w.heap.size,7,none⟩ (.slice p.pa g.P.length p.pc)).setCell ⟨w.heap.size,8,none⟩ (.slice p.na g.N.length p.nc)).setCell ⟨w.heap.size,9,none⟩ (.int .i64 g.x)).setCell ⟨w.heap.size,10,none⟩ (.int .u64 g.y)).setCell ⟨w.heap.size,11,none⟩ (.slice p.ea g.E.length p.ec)).setCell ⟨w.heap.size,12,none⟩ (.slice p.ra g.R.length p.rc)).heap[w.heap.size]?=some (.cells (agArr g p) 34 (0,0)))
  have HO7:=hide (HO6.out.kept13 (by omega):AgO (((((((((((((w6.setCell ⟨w.heap.size,0,none⟩ (.int .i64 g.k)).setCell ⟨w.heap.size,1,none⟩ (.int .u64 g.s)).setCell ⟨w.heap.size,2,none⟩ (.int .i64 g.h)).setCell ⟨w.heap.size,3,none⟩ (.int .u64 g.l)).setCell ⟨w.heap.size,4,none⟩ (.int .i64 g.a)).setCell ⟨w.heap.size,5,none⟩ (.int .i64 g.t)).setCell ⟨w.heap.size,6,none⟩ (.int .u64 g.z)).setCell ⟨w.heap.size,7,none⟩ (.slice p.pa g.P.length p.pc)).setCell ⟨w.heap.size,8,none⟩ (.slice p.na g.N.length p.nc)).setCell ⟨w.heap.size,9,none⟩ (.int .i64 g.x)).setCell ⟨w.heap.size,10,none⟩ (.int .u64 g.y)).setCell ⟨w.heap.size,11,none⟩ (.slice p.ea g.E.length p.ec)).setCell ⟨w.heap.size,12,none⟩ (.slice p.ra g.R.length p.rc)) (w.heap.size+2) g p)
  have HT7:=hide (HT6.out.trans (below_13 (Nat.le_refl _)):Below w.heap.size w (((((((((((((w6.setCell ⟨w.heap.size,0,none⟩ (.int .i64 g.k)).setCell ⟨w.heap.size,1,none⟩ (.int .u64 g.s)).setCell ⟨w.heap.size,2,none⟩ (.int .i64 g.h)).setCell ⟨w.heap.size,3,none⟩ (.int .u64 g.l)).setCell ⟨w.heap.size,4,none⟩ (.int .i64 g.a)).setCell ⟨w.heap.size,5,none⟩ (.int .i64 g.t)).setCell ⟨w.heap.size,6,none⟩ (.int .u64 g.z)).setCell ⟨w.heap.size,7,none⟩ (.slice p.pa g.P.length p.pc)).setCell ⟨w.heap.size,8,none⟩ (.slice p.na g.N.length p.nc)).setCell ⟨w.heap.size,9,none⟩ (.int .i64 g.x)).setCell ⟨w.heap.size,10,none⟩ (.int .u64 g.y)).setCell ⟨w.heap.size,11,none⟩ (.slice p.ea g.E.length p.ec)).setCell ⟨w.heap.size,12,none⟩ (.slice p.ra g.R.length p.rc)))
  generalize (((((((((((((w6.setCell ⟨w.heap.size,0,none⟩ (.int .i64 g.k)).setCell ⟨w.heap.size,1,none⟩ (.int .u64 g.s)).setCell ⟨w.heap.size,2,none⟩ (.int .i64 g.h)).setCell ⟨w.heap.size,3,none⟩ (.int .u64 g.l)).setCell ⟨w.heap.size,4,none⟩ (.int .i64 g.a)).setCell ⟨w.heap.size,5,none⟩ (.int .i64 g.t)).setCell ⟨w.heap.size,6,none⟩ (.int .u64 g.z)).setCell ⟨w.heap.size,7,none⟩ (.slice p.pa g.P.length p.pc)).setCell ⟨w.heap.size,8,none⟩ (.slice p.na g.N.length p.nc)).setCell ⟨w.heap.size,9,none⟩ (.int .i64 g.x)).setCell ⟨w.heap.size,10,none⟩ (.int .u64 g.y)).setCell ⟨w.heap.size,11,none⟩ (.slice p.ea g.E.length p.ec)).setCell ⟨w.heap.size,12,none⟩ (.slice p.ra g.R.length p.rc))=w7 at HX7 HB7 HA7 HO7 HT7 ⊢
  clear z0 f0 z1 f1 z2 f2 z3 f3 z4 f4 z5 f5 z6 f6 z7 f7 z8 f8 z9 f9 z10 f10 z11 f11 z12 f12
  clear HX6 HA6 HB6 HO6 HT6
  have y0:=cellK HB7.out 0 rfl
  have y1:=cellK HB7.out 1 rfl
  have y2:=cellK HB7.out 2 rfl
  have y3:=cellK HB7.out 3 rfl
  have y4:=cellK HB7.out 4 rfl
  have y5:=cellK HB7.out 5 rfl
  have y6:=cellK HB7.out 6 rfl
  have f0:=fzR 0 HB7.out
  have f1:=fzR 1 HB7.out
  have f2:=fzR 2 HB7.out
  have f3:=fzR 3 HB7.out
  have f4:=fzR 4 HB7.out
  have f5:=fzR 5 HB7.out
  have f6:=fzR 6 HB7.out
  refine hK.out _ _ (fun _=>HX7.out) ?_
  clear hK K
  try simp only [Act.put,sA,sB,sC]
  refine onE (i:=5) rfl (fun K hK=>?_)
  go_simp
  refine hK.out _ _ (fun h=>absurd rfl h) ?_
  clear hK K
  try simp only [Act.put,sA,sB,sC]
  refine doneK (by kernel_rfl) ?_ _
  have z0:=cellK HA7.out 0 rfl
  have z1:=cellK HA7.out 1 rfl
  have z2:=cellK HA7.out 2 rfl
  have z3:=cellK HA7.out 3 rfl
  have z4:=cellK HA7.out 4 rfl
  have z5:=cellK HA7.out 5 rfl
  have z6:=cellK HA7.out 6 rfl
  have z7:=cellK HA7.out 7 rfl
  have z8:=cellK HA7.out 8 rfl
  have z9:=cellK HA7.out 9 rfl
  have z10:=cellK HA7.out 10 rfl
  have z11:=cellK HA7.out 11 rfl
  have z12:=cellK HA7.out 12 rfl
  go_wp2
  refine bodyPost_ret (v:=.tuple #[.agg (agArr g p),.agg (sxArr x)]) (by simp [results,Tryz.results9,go_sem,z0,z1,z2,z3,z4,z5,z6,z7,z8,z9,z10,z11,z12,y0,y1,y2,y3,y4,y5,y6]) rfl ⟨g,p,x,rfl,OKG.out,SMG.out,?_,OX.out,?_⟩
  ·refine AgO.le (B:=w.heap.size+2) ?_ (by omega)
   repeat (refine AgO.below ?_ (by omega) _)
   exact HO7.out
  ·repeat (refine Below.setCell ?_ (by simp) _)
   exact HT7.out
set_option maxHeartbeats 8000000 in
theorem c_DrawAggMerge {w:World} {ln cap:Nat} {ao:Option Addr} (hc:CodeAt w w.heap.size ao ln) :
  Calls Tryz.prog 10 #[.slice ao ln cap] w fun e w'=>∃ (g:Ag) (p:Pl) (g1:Ag) (p1:Pl),e=.returned (.tuple #[.agg (agArr g p),.agg (agArr g1 p1)])∧AgOk g∧AgSm g∧AgO w' w.heap.size g p∧AgOk g1∧AgSm g1∧AgO w' w.heap.size g1 p1∧Below w.heap.size w w':=by
 have a0:Below w.heap.size w ((w.alloc (.cells z13 34)).alloc (.cells z13 34)):=((Below.refl _ _).alloc (Nat.le_refl _) _).alloc (by simp) _
 have HC:=hide (codeAt_in (B:=((w.alloc (.cells z13 34)).alloc (.cells z13 34)).heap.size) hc a0 (Nat.le_refl _) a0.size)
 have hr1:((w.alloc (.cells z13 34)).alloc (.cells z13 34)).heap[w.heap.size]?=some (.cells z13 34 (0,0)):=((Below.refl (w.alloc (.cells z13 34)).heap.size _).alloc (Nat.le_refl _) _).block w.heap.size (by simp) |>.trans (heap_alloc_new w _)
 have hr2:((w.alloc (.cells z13 34)).alloc (.cells z13 34)).heap[w.heap.size+1]?=some (.cells z13 34 (0,0)):=by
  have:=heap_alloc_new (w.alloc (.cells z13 34)) (.cells z13 34)
  have e:(w.alloc (.cells z13 34)).heap.size=w.heap.size+1:=by simp
  rw [e] at this
  exact this
 have HR1:=hide hr1
 have HR2:=hide hr2
 have HT0:=hide a0
 have hz0:((w.alloc (.cells z13 34)).alloc (.cells z13 34)).heap.size=w.heap.size+2:=by simp
 have HZ0:=hide hz0
 clear hc a0 hz0 hr1 hr2
 go_enter Tryz.func10,Tryz.ntmps10
 go_wp2_with fail
 generalize ((w.alloc (.cells z13 34)).alloc (.cells z13 34))=W0 at HC HR1 HR2 HT0 HZ0 ⊢
 refine (c_source_at (K:=W0.heap.size) _ _ _ _ rfl HC.out).mono ?_
 rintro e w1 ⟨rfl,hS1⟩
 have HS1:=hide hS1
 clear hS1
 go_wp2_with fail
 refine (c_n HC.out HS1.out 4 (by omega)).mono ?_
 rintro e w2 ⟨v2,rfl,a2,c2,_,hS2,hg2⟩
 have c2:=c2 (by omega)
 have hw2:IntKind.i64.wrap (1+v2)=1+v2:=IntWalk.i64_in _ ⟨by omega,by omega⟩
 have hk2:I64 (1+v2):=by unfold I64;omega
 have HS2:=hide hS2
 clear hS2 hg2 HS1
 go_wp2_with fail
 refine (c_l07Agg (1+v2) hk2 HC.out HS2.out).mono ?_
 rintro e w3 ⟨g,p,rfl,okg,smg,og,hS3,hg3⟩
 have OKG:=hide okg
 have SMG:=hide smg
 have hsl:=src_lt hS3
 have aX:Below w3.heap.size w3 (w3.alloc (.cells (agArr g p) 34)):=(Below.refl _ _).alloc (Nat.le_refl _) _
 have HS4:=hide (src_past hS3 aX)
 have HX4:=hide (heap_alloc_new w3 (.cells (agArr g p) 34))
 have HO4:=hide ((og.past aX).le (B':=W0.heap.size+1) (by have:=src_lt HS2.out;omega))
 generalize hkd:(1+v2:Int)=kd at *
 clear hS3 hg3 og okg smg HS2 aX a2 c2 hw2 hkd
 go_wp2_with fail
 generalize w3.alloc (.cells (agArr g p) 34)=W4 at HS4 HX4 HO4 ⊢
 generalize w3.heap.size=c at HX4 hsl ⊢
 refine (c_one HC.out HS4.out 10 (by omega)).mono ?_
 rintro e w5 ⟨bb,rfl,hS5,hg5⟩
 have HS5:=hide hS5
 have HX5:=hide (row_grown HX4.out hg5 (by omega))
 have HO5:=hide (HO4.out.grown hg5 (by omega))
 clear hS5 hg5 HS4 HX4 HO4
 go_upto_if 16 with fail
 go_cut [5] (fun kv w'=>∃ k:Int,kv=.int .i64 k∧I64 k∧Hid (Src W0 W0.heap.size ao ln cap W0.heap.size w')∧Hid (w'.heap[c]?=some (.cells (agArr g p) 34 (0,0)))∧Hid (AgO w' (W0.heap.size+1) g p))
 case first=>
  cases bb with
  | false=>
   go_wp2
   go_meet
   exact ⟨_,rfl,hk2,HS5,HX5,HO5⟩
  | true=>
   go_wp2_with fail
   refine (c_n HC.out HS5.out 4 (by omega)).mono ?_
   rintro e w6 ⟨v5,rfl,a5,c5,_,hS6,hg6⟩
   have c5:=c5 (by omega)
   have hw5:IntKind.i64.wrap (1+v5)=1+v5:=IntWalk.i64_in _ ⟨by omega,by omega⟩
   have HS6:=hide hS6
   have HX6:=hide (row_grown HX5.out hg6 (by omega))
   have HO6:=hide (HO5.out.grown hg6 (by omega))
   clear hS6 hg6
   go_wp2
   go_meet
   exact ⟨1+v5,rfl,(by unfold I64;omega),HS6,HX6,HO6⟩
 case rest=>
  obtain ⟨kk,rfl,hkk,HSc,HXc,HOc⟩:=hcut
  obtain ⟨w5',hw5⟩:∃ w5',wc=w5':=⟨_,rfl⟩
  rw [hw5] at HSc HXc HOc ⊢
  clear hw5 HS5 HX5 HO5
  go_wp2_with fail
  have HS0:w5'.drew.heap[c]?=some (.cells (agArr g p) 34 (0,0)):=HXc.out
  refine regionK (fun W'=>W'.heap[c]?=some (.cells (agArr g p) 34 (0,0))) 5 (by kernel_rfl) ?_
  refine tkL (i:=0) (d:=20) (v:=.agg (agArr g p)) rfl rfl HS0 (fun W hW=>?_) ?_
  ·have q0:=cellK hW 0 rfl
   have q1:=cellK hW 1 rfl
   have q2:=cellK hW 2 rfl
   have q3:=cellK hW 3 rfl
   have q4:=cellK hW 4 rfl
   have q5:=cellK hW 5 rfl
   have q6:=cellK hW 6 rfl
   have q7:=cellK hW 7 rfl
   have q8:=cellK hW 8 rfl
   have q9:=cellK hW 9 rfl
   have q10:=cellK hW 10 rfl
   have q11:=cellK hW 11 rfl
   have q12:=cellK hW 12 rfl
   clear hW
   go_simp
  refine tkL (i:=1) (d:=21) (v:=.pointer (some ⟨W0.heap.size,0,none⟩)) rfl rfl HS0 (fun W hW=>by clear hW;go_simp) ?_
  refine tkL (i:=2) (d:=22) (v:=.int .i64 kk) rfl rfl HS0 (fun W hW=>by clear hW;go_simp) ?_
  simp only [sA,sB,sC]
  refine onE (i:=3) rfl (fun K hK=>?_)
  go_simp
  refine (c_l07Agg kk hkk HC.out (src_past HSc.out (Below.refl _ _).drew)).mono ?_
  rintro e w6 ⟨g1,p1,rfl,okg,smg,og,hS6,hg6⟩
  have HX6:w6.heap[c]?=some (.cells (agArr g p) 34 (0,0)):=row_grown HS0 hg6 (by omega)
  have HA6:=hide ((hS6.bel.block w.heap.size (by have:=HZ0.out;omega)).trans HR1.out)
  have HB6:=hide ((hS6.bel.block (w.heap.size+1) (by have:=HZ0.out;omega)).trans HR2.out)
  have HO6:=hide (og.le (B':=w.heap.size+2) (by have:w5'.drew.heap.size=w5'.heap.size:=rfl;have:=HZ0.out;have:=HSc.out.bel.size;have:=(src_lt HSc.out);omega))
  have HG6:=hide (((HOc.out.past (Below.refl _ _).drew).grown hg6 (by omega)).le (B':=w.heap.size+2) (by have:=HZ0.out;omega))
  have HT6:=hide (chain HT0.out hS6.bel)
  have OKG1:=hide okg
  have SMG1:=hide smg
  clear hS6 hg6 og okg smg
  have z0:=cellK HA6.out 0 rfl
  have f0:=fzR 0 HA6.out
  have z1:=cellK HA6.out 1 rfl
  have f1:=fzR 1 HA6.out
  have z2:=cellK HA6.out 2 rfl
  have f2:=fzR 2 HA6.out
  have z3:=cellK HA6.out 3 rfl
  have f3:=fzR 3 HA6.out
  have z4:=cellK HA6.out 4 rfl
  have f4:=fzR 4 HA6.out
  have z5:=cellK HA6.out 5 rfl
  have f5:=fzR 5 HA6.out
  have z6:=cellK HA6.out 6 rfl
  have f6:=fzR 6 HA6.out
  have z7:=cellK HA6.out 7 rfl
  have f7:=fzR 7 HA6.out
  have z8:=cellK HA6.out 8 rfl
  have f8:=fzR 8 HA6.out
  have z9:=cellK HA6.out 9 rfl
  have f9:=fzR 9 HA6.out
  have z10:=cellK HA6.out 10 rfl
  have f10:=fzR 10 HA6.out
  have z11:=cellK HA6.out 11 rfl
  have f11:=fzR 11 HA6.out
  have z12:=cellK HA6.out 12 rfl
  have f12:=fzR 12 HA6.out
  dsimp only
  refine hK.out _ _ (fun _=>HX6) ?_
  clear hK K
  try simp only [Act.put,sA,sB,sC]
  refine onE (i:=4) rfl (fun K hK=>?_)
  go_simp
  have HX7:=hide (set13_other (r:=w.heap.size) HX6 (by have:=HZ0.out;omega):(((((((((((((w6.setCell ⟨w.heap.size,0,none⟩ (.int .i64 g.k)).setCell ⟨w.heap.size,1,none⟩ (.int .u64 g.s)).setCell ⟨w.heap.size,2,none⟩ (.int .i64 g.h)).setCell ⟨w.heap.size,3,none⟩ (.int .u64 g.l)).setCell ⟨w.heap.size,4,none⟩ (.int .i64 g.a)).setCell ⟨w.heap.size,5,none⟩ (.int .i64 g.t)).setCell ⟨w.heap.size,6,none⟩ (.int .u64 g.z)).setCell ⟨w.heap.size,7,none⟩ (.slice p.pa g.P.length p.pc)).setCell ⟨w.heap.size,8,none⟩ (.slice p.na g.N.length p.nc)).setCell ⟨w.heap.size,9,none⟩ (.int .i64 g.x)).setCell ⟨w.heap.size,10,none⟩ (.int .u64 g.y)).setCell ⟨w.heap.size,11,none⟩ (.slice p.ea g.E.length p.ec)).setCell ⟨w.heap.size,12,none⟩ (.slice p.ra g.R.length p.rc)).heap[c]?=some (.cells (agArr g p) 34 (0,0)))
  have HB7:=hide (set13_other (r:=w.heap.size) HB6.out (by omega):(((((((((((((w6.setCell ⟨w.heap.size,0,none⟩ (.int .i64 g.k)).setCell ⟨w.heap.size,1,none⟩ (.int .u64 g.s)).setCell ⟨w.heap.size,2,none⟩ (.int .i64 g.h)).setCell ⟨w.heap.size,3,none⟩ (.int .u64 g.l)).setCell ⟨w.heap.size,4,none⟩ (.int .i64 g.a)).setCell ⟨w.heap.size,5,none⟩ (.int .i64 g.t)).setCell ⟨w.heap.size,6,none⟩ (.int .u64 g.z)).setCell ⟨w.heap.size,7,none⟩ (.slice p.pa g.P.length p.pc)).setCell ⟨w.heap.size,8,none⟩ (.slice p.na g.N.length p.nc)).setCell ⟨w.heap.size,9,none⟩ (.int .i64 g.x)).setCell ⟨w.heap.size,10,none⟩ (.int .u64 g.y)).setCell ⟨w.heap.size,11,none⟩ (.slice p.ea g.E.length p.ec)).setCell ⟨w.heap.size,12,none⟩ (.slice p.ra g.R.length p.rc)).heap[w.heap.size+1]?=some (.cells z13 34 (0,0)))
  have HA7:=hide (row13 HA6.out:(((((((((((((w6.setCell ⟨w.heap.size,0,none⟩ (.int .i64 g.k)).setCell ⟨w.heap.size,1,none⟩ (.int .u64 g.s)).setCell ⟨w.heap.size,2,none⟩ (.int .i64 g.h)).setCell ⟨w.heap.size,3,none⟩ (.int .u64 g.l)).setCell ⟨w.heap.size,4,none⟩ (.int .i64 g.a)).setCell ⟨w.heap.size,5,none⟩ (.int .i64 g.t)).setCell ⟨w.heap.size,6,none⟩ (.int .u64 g.z)).setCell ⟨w.heap.size,7,none⟩ (.slice p.pa g.P.length p.pc)).setCell ⟨w.heap.size,8,none⟩ (.slice p.na g.N.length p.nc)).setCell ⟨w.heap.size,9,none⟩ (.int .i64 g.x)).setCell ⟨w.heap.size,10,none⟩ (.int .u64 g.y)).setCell ⟨w.heap.size,11,none⟩ (.slice p.ea g.E.length p.ec)).setCell ⟨w.heap.size,12,none⟩ (.slice p.ra g.R.length p.rc)).heap[w.heap.size]?=some (.cells (agArr g p) 34 (0,0)))
  have HO7:=hide (HO6.out.kept13 (by omega):AgO (((((((((((((w6.setCell ⟨w.heap.size,0,none⟩ (.int .i64 g.k)).setCell ⟨w.heap.size,1,none⟩ (.int .u64 g.s)).setCell ⟨w.heap.size,2,none⟩ (.int .i64 g.h)).setCell ⟨w.heap.size,3,none⟩ (.int .u64 g.l)).setCell ⟨w.heap.size,4,none⟩ (.int .i64 g.a)).setCell ⟨w.heap.size,5,none⟩ (.int .i64 g.t)).setCell ⟨w.heap.size,6,none⟩ (.int .u64 g.z)).setCell ⟨w.heap.size,7,none⟩ (.slice p.pa g.P.length p.pc)).setCell ⟨w.heap.size,8,none⟩ (.slice p.na g.N.length p.nc)).setCell ⟨w.heap.size,9,none⟩ (.int .i64 g.x)).setCell ⟨w.heap.size,10,none⟩ (.int .u64 g.y)).setCell ⟨w.heap.size,11,none⟩ (.slice p.ea g.E.length p.ec)).setCell ⟨w.heap.size,12,none⟩ (.slice p.ra g.R.length p.rc)) (w.heap.size+2) g1 p1)
  have HG7:=hide (HG6.out.kept13 (by omega):AgO (((((((((((((w6.setCell ⟨w.heap.size,0,none⟩ (.int .i64 g.k)).setCell ⟨w.heap.size,1,none⟩ (.int .u64 g.s)).setCell ⟨w.heap.size,2,none⟩ (.int .i64 g.h)).setCell ⟨w.heap.size,3,none⟩ (.int .u64 g.l)).setCell ⟨w.heap.size,4,none⟩ (.int .i64 g.a)).setCell ⟨w.heap.size,5,none⟩ (.int .i64 g.t)).setCell ⟨w.heap.size,6,none⟩ (.int .u64 g.z)).setCell ⟨w.heap.size,7,none⟩ (.slice p.pa g.P.length p.pc)).setCell ⟨w.heap.size,8,none⟩ (.slice p.na g.N.length p.nc)).setCell ⟨w.heap.size,9,none⟩ (.int .i64 g.x)).setCell ⟨w.heap.size,10,none⟩ (.int .u64 g.y)).setCell ⟨w.heap.size,11,none⟩ (.slice p.ea g.E.length p.ec)).setCell ⟨w.heap.size,12,none⟩ (.slice p.ra g.R.length p.rc)) (w.heap.size+2) g p)
  have HT7:=hide (HT6.out.trans (below_13 (Nat.le_refl _)):Below w.heap.size w (((((((((((((w6.setCell ⟨w.heap.size,0,none⟩ (.int .i64 g.k)).setCell ⟨w.heap.size,1,none⟩ (.int .u64 g.s)).setCell ⟨w.heap.size,2,none⟩ (.int .i64 g.h)).setCell ⟨w.heap.size,3,none⟩ (.int .u64 g.l)).setCell ⟨w.heap.size,4,none⟩ (.int .i64 g.a)).setCell ⟨w.heap.size,5,none⟩ (.int .i64 g.t)).setCell ⟨w.heap.size,6,none⟩ (.int .u64 g.z)).setCell ⟨w.heap.size,7,none⟩ (.slice p.pa g.P.length p.pc)).setCell ⟨w.heap.size,8,none⟩ (.slice p.na g.N.length p.nc)).setCell ⟨w.heap.size,9,none⟩ (.int .i64 g.x)).setCell ⟨w.heap.size,10,none⟩ (.int .u64 g.y)).setCell ⟨w.heap.size,11,none⟩ (.slice p.ea g.E.length p.ec)).setCell ⟨w.heap.size,12,none⟩ (.slice p.ra g.R.length p.rc)))
  generalize (((((((((((((w6.setCell ⟨w.heap.size,0,none⟩ (.int .i64 g.k)).setCell ⟨w.heap.size,1,none⟩ (.int .u64 g.s)).setCell ⟨w.heap.size,2,none⟩ (.int .i64 g.h)).setCell ⟨w.heap.size,3,none⟩ (.int .u64 g.l)).setCell ⟨w.heap.size,4,none⟩ (.int .i64 g.a)).setCell ⟨w.heap.size,5,none⟩ (.int .i64 g.t)).setCell ⟨w.heap.size,6,none⟩ (.int .u64 g.z)).setCell ⟨w.heap.size,7,none⟩ (.slice p.pa g.P.length p.pc)).setCell ⟨w.heap.size,8,none⟩ (.slice p.na g.N.length p.nc)).setCell ⟨w.heap.size,9,none⟩ (.int .i64 g.x)).setCell ⟨w.heap.size,10,none⟩ (.int .u64 g.y)).setCell ⟨w.heap.size,11,none⟩ (.slice p.ea g.E.length p.ec)).setCell ⟨w.heap.size,12,none⟩ (.slice p.ra g.R.length p.rc))=w7 at HX7 HB7 HA7 HO7 HG7 HT7 ⊢
  clear z0 f0 z1 f1 z2 f2 z3 f3 z4 f4 z5 f5 z6 f6 z7 f7 z8 f8 z9 f9 z10 f10 z11 f11 z12 f12
  clear HX6 HA6 HB6 HO6 HG6 HT6
  have y0:=cellK HB7.out 0 rfl
  have y1:=cellK HB7.out 1 rfl
  have y2:=cellK HB7.out 2 rfl
  have y3:=cellK HB7.out 3 rfl
  have y4:=cellK HB7.out 4 rfl
  have y5:=cellK HB7.out 5 rfl
  have y6:=cellK HB7.out 6 rfl
  have y7:=cellK HB7.out 7 rfl
  have y8:=cellK HB7.out 8 rfl
  have y9:=cellK HB7.out 9 rfl
  have y10:=cellK HB7.out 10 rfl
  have y11:=cellK HB7.out 11 rfl
  have y12:=cellK HB7.out 12 rfl
  have f0:=fzR 0 HB7.out
  have f1:=fzR 1 HB7.out
  have f2:=fzR 2 HB7.out
  have f3:=fzR 3 HB7.out
  have f4:=fzR 4 HB7.out
  have f5:=fzR 5 HB7.out
  have f6:=fzR 6 HB7.out
  have f7:=fzR 7 HB7.out
  have f8:=fzR 8 HB7.out
  have f9:=fzR 9 HB7.out
  have f10:=fzR 10 HB7.out
  have f11:=fzR 11 HB7.out
  have f12:=fzR 12 HB7.out
  refine hK.out _ _ (fun _=>HX7.out) ?_
  clear hK K
  try simp only [Act.put,sA,sB,sC]
  refine onE (i:=5) rfl (fun K hK=>?_)
  go_simp
  refine hK.out _ _ (fun h=>absurd rfl h) ?_
  clear hK K
  try simp only [Act.put,sA,sB,sC]
  refine doneK (by kernel_rfl) ?_ _
  have z0:=cellK HA7.out 0 rfl
  have z1:=cellK HA7.out 1 rfl
  have z2:=cellK HA7.out 2 rfl
  have z3:=cellK HA7.out 3 rfl
  have z4:=cellK HA7.out 4 rfl
  have z5:=cellK HA7.out 5 rfl
  have z6:=cellK HA7.out 6 rfl
  have z7:=cellK HA7.out 7 rfl
  have z8:=cellK HA7.out 8 rfl
  have z9:=cellK HA7.out 9 rfl
  have z10:=cellK HA7.out 10 rfl
  have z11:=cellK HA7.out 11 rfl
  have z12:=cellK HA7.out 12 rfl
  go_wp2
  refine bodyPost_ret (v:=.tuple #[.agg (agArr g p),.agg (agArr g1 p1)]) (by simp [results,Tryz.results10,go_sem,z0,z1,z2,z3,z4,z5,z6,z7,z8,z9,z10,z11,z12,y0,y1,y2,y3,y4,y5,y6,y7,y8,y9,y10,y11,y12]) rfl ⟨g,p,g1,p1,rfl,OKG.out,SMG.out,?_,OKG1.out,SMG1.out,?_,?_⟩
  ·refine AgO.le (B:=w.heap.size+2) ?_ (by omega)
   repeat (refine AgO.below ?_ (by omega) _)
   exact HG7.out
  ·refine AgO.le (B:=w.heap.size+2) ?_ (by omega)
   repeat (refine AgO.below ?_ (by omega) _)
   exact HO7.out
  ·repeat (refine Below.setCell ?_ (by simp) _)
   exact HT7.out
end Go.Proofs.YthpilcoklapooaaGreatDoor
