/-
 Parts.
-/
import Derived.Test.YtioohanfodmddaaGreatDoorCWD
set_option maxHeartbeats 8000000
set_option maxRecDepth 10000
set_option linter.all false
namespace Go.Proofs.YtioohanfodmddaaGreatDoor
open Go.ChangeShapes Go.WideShapes Go.ChangeAt Go.RowKit Go.PlainAid Go.Lib Tryz
theorem mAb {p:Prop} (h:p:=by
 obtain ⟨k,L5,g5,c5,rfl,aT,aM,aE,rfl,hM⟩:=hrel;have az:=Qaa hM;have aS:=hM.gr.size;clear hM;obtain ⟨Y,hY⟩:∃ Y,strOfNums [97+(k:Int)]=Y:=⟨_,rfl⟩;have am:Y.size=1:=by rw [<- hY];rfl
 have ew:IntKind.u8.wrap (97+(k:Int))=97+(k:Int):=IntWalk.u8_in _ ⟨by omega,by omega⟩;have aG:Op.stringOp .add ⟨#[122,122]⟩ Y=pure (.string ((⟨#[122,122]⟩:ByteArray) ++ Y)):=Qix (by rw [am];decide);have hZ:((⟨#[122,122]⟩:ByteArray) ++ Y).size<=10:=by rw [ByteArray.size_append,am];decide
 have aF:=fun W=>QiU W (97+(k:Int));simp only [hY] at aF;have HZ:=Qaa hZ;clear hY hZ am
 go_wp2_with (first
  | (go_at_call 18;refine (c_n hc az.src _ oB).mono ?_;rintro e w9 ⟨aH,rfl,m0,m1,_,aA,aq⟩;have m1:=m1 oB;have ag:=Qaa (az.call hs aA aq);have aO:=aq.size;clear aA aq)
  | (at_builtin;refine wpList_append_own _ rfl (.tmp 38) (.tmp 45) 75 rfl w.heap.size 9 i0 (.string ByteArray.empty) 1 16 underlying75 hi ai aj ah rfl oF _ _ _ rfl ((ag.own.alloc _).alloc _) ⟨w9.heap.size+1,0,none⟩ 1 1 [.string (⟨#[122,122]⟩ ++ Y)] rfl rfl (Qav (cs:=#[.string (⟨#[122,122]⟩ ++ Y)]) oE) (fun x hx=>by simp at hx;subst hx;rfl) oC oB oH ?_;intro v3 w3 aa ab ad;have ae:=Qaa (ag.put hs HZ aa ((((Below.refl w.heap.size w9).alloc oB _).alloc oH _).grown ab oH (fun j hj=>(ag.own.lt j hj).1)));clear aa ab ad))
 ·obtain ⟨g7,c7,e7⟩:=Qb3 ae.own oE
  subst e7;have aN:(L5.length:Int)<11+aH:=by assumption
  go_roundw
  case rel=>exact ⟨k+1,L5 ++ [(⟨#[122,122]⟩:ByteArray) ++ Y],g7,c7,by go_num,by simp;omega,by simp,by simp;omega,rfl,ae⟩
  case measure=>simp [zI];omega
 ·go_ret
  exact ⟨_,_,rfl,by omega,ag⟩):p:=h
theorem mAk {p:Prop} (h:p:=by
 obtain ⟨x0,x1,x2,x3,x4,x5,x6⟩:=QaB HD.row;obtain ⟨z0,z1,z2,z3,z4,z5,z6⟩:=cA7 HD.res;obtain ⟨f0,f1,f2,f3,f4,f5,f6⟩:=fA7 HD.res;have ad:¬ b=w.heap.size:=by have:=HD.lb;omega
 go_wp2;refine bodyPost_ret (v:=.agg (Qa0 y)) (by simp [results,results85,go_sem,z0,z1,z2,z3,z4,z5,z6]) rfl ⟨y,rfl,HD.ok,?_,?_⟩
 ·refine Qbk (K:=w.heap.size) HD.src ?_ hs
  repeat (refine Below.setCell ?_ oE _)
  exact ZZb _ _
 ·refine QaC HD.gr ?_
  repeat (refine Below.setCell ?_ oE _)
  exact ZZb _ _):p:=h
theorem mA1 {p:Prop} (h:p:=by
 obtain ⟨x0,x1,x2,x3,x4,x5,x6⟩:=QaB HD.row;obtain ⟨z0,z1,z2,z3,z4,z5,z6⟩:=cA7 HD.res;obtain ⟨f0,f1,f2,f3,f4,f5,f6⟩:=fA7 HD.res;have ad:¬ b=w.heap.size:=by have:=HD.lb;omega
 go_wp2;refine bodyPost_ret (v:=.agg (Qa0 x)) (by simp [results,results85,go_sem,z0,z1,z2,z3,z4,z5,z6]) rfl ⟨x,rfl,HD.ok,?_,?_⟩
 ·refine Qbk (K:=w.heap.size) HD.src ?_ hs
  repeat (refine Below.setCell ?_ oE _)
  exact ZZb _ _
 ·refine QaC HD.gr ?_
  repeat (refine Below.setCell ?_ oE _)
  exact ZZb _ _):p:=h
theorem mBs {p:Prop} (h:p:=by obtain ⟨a,m,z,hk,h1,h2⟩:=h.blk;exact ⟨h.bel.trans (hb.mono (Nat.le_trans h.hB (Nat.le_of_lt hs))),h.hB,a,m,z,by rw [hb.block s hs];exact hk,h1,h2⟩):p:=h
theorem mBz {p:Prop} (h:p:=by obtain ⟨x0,x1,x2,x3,x4,x5,x6⟩:=QaB aa.row;obtain ⟨f0,f1,f2,f3,f4,f5,f6⟩:=fA7 aa.row;go_wp2;go_meet;exact ⟨rfl,⟨x.k,x.se,v5,x.wd,x.wt,x.tm,x.ti⟩,Qaa (aa.set 2 (.int .i64 v5) rfl ⟨aa.ok.k,al,aa.ok.wt,aa.ok.ti,aa.ok.se,aa.ok.wd⟩)⟩):p:=h
theorem mC8 {p:Prop} (h:p:=by have g1:=World.cell?_setCell_same _ _ x g0;have g2:=World.cell?_setCell_same _ _ y g1;exact World.cell?_setCell_same _ _ z g2):p:=h
theorem mDk {p:Prop} (h:p:=by
 go_wp2
 go_ret;exact ⟨rfl,Qnd (Qv7 (Qv7 HS)) ((HB.setCell (ZZa _) _).setCell (ZZa _) _) (ZZa _) oB oB⟩):p:=h
theorem mD1 {p:Prop} (h:p:=by
 go_wp2
 go_ret;exact ⟨rfl,Qnd (Qv7 HS) (HB.setCell (ZZa _) _) (ZZa _) oB oB⟩):p:=h
theorem mEc {p:Prop} (h:p:=by have h1:=ZZl _ s 2 _ _ x h0;have h2:=ZZl _ s 2 _ _ y h1;exact ZZl _ s 2 _ _ z h2):p:=h
variable {W w w' w1 w2 wr:World}
variable {B K b cap k ln n s:Nat}
variable {ao:Option Addr}
variable {r:Option Nat}
variable {A C D v v' x y:Value}
variable {T t:TypeId}
section
def Qbi (W:World) (B:Nat) (ao:Option Addr) (ln:Nat):Prop:=
 ln<=1048576/\(0<ln->∃ b off,ao=some ⟨b,off,none⟩/\b<B/\∀ i,i<ln->∃ x:Int,W.cell? ⟨b,off+i,none⟩=some (.int .u8 x)/\0<=x/\x<=255)
structure Src (W:World) (B:Nat) (ao:Option Addr) (ln cap s:Nat) (w:World):Prop where
 bel:Below B W w
 hB:B<=s
 blk:∃ at_ mix sz:Int,w.heap[s]?=some (.cells #[.slice ao ln cap,.int .i64 at_,.int .u64 mix,.int .i64 sz] 92 (0,0))/\0<=at_/\at_<=ln/\0<=sz/\sz<=12
theorem Qcv (h:Src W B ao ln cap s w):s<w.heap.size:=by
 obtain ⟨_,_,_,h,_⟩:=h.blk;rcases Nat.lt_or_ge s w.heap.size with k | k
 ·exact k
 ·rw [Array.getElem?_eq_none k] at h;cases h
theorem Qlm (h:Src W B ao ln cap s w) (hb:w.grownBy w' (some s)):Below B W w':=
 h.bel.grown hb (Nat.le_trans h.hB (Nat.le_of_lt (Qcv h))) (fun k e=>by cases e;exact h.hB)
theorem QaO (h:Src W B ao ln cap s w) (hb:Bw w w'):Src W B ao ln cap s w':=by
 have hs:=Qcv h;exact mBs
theorem Qcg (w:World) (a:Addr) (u:Value):w.grownBy (w.setCell a u) (some a.block):=
 ⟨rfl,rfl,rfl,by simp [World.setCell],fun k hk hne=>Below.heap_setCell _ _ _ _ (fun e=>hne xP)⟩
theorem QkU (w:World):w.drew.heap=w.heap:=rfl
theorem Qie (h:w.grownBy w1 r):w.grownBy w1.drew r:=⟨h.os,h.tape,h.output,h.size,h.block⟩
theorem Qcq (w:World) (k:Nat) (r:Option Nat):w.grownBy (w.drewN k) r:=⟨rfl,rfl,rfl,ZZa _,fun _ _ _=>rfl⟩
theorem QnE (a m:Int) (hm:1<m) (h9:m<=9223372036854775807):0<=wrap64 (Int.tmod (IntKind.u64.wrap a) m)/\wrap64 (Int.tmod (IntKind.u64.wrap a) m)<m:=by
 have h0:0<=IntKind.u64.wrap a:=by rw [IntKind.wrap_u64];omega
 have h1:0<=Int.tmod (IntKind.u64.wrap a) m:=Int.tmod_nonneg _ h0;have h2:Int.tmod (IntKind.u64.wrap a) m<m:=Int.tmod_lt_of_pos _ oB;have e:wrap64 (Int.tmod (IntKind.u64.wrap a) m)=Int.tmod (IntKind.u64.wrap a) m:=by rw [<- i64_is];exact ZZi _ ⟨by omega,by omega⟩
 rw [e];exact ⟨h1,h2⟩
theorem heap3 {B z:Value} (hk:w.heap[s]?=some (.cells #[A,B,C,D] t (0,0))) :
  ((((w.drewN k).setCell ⟨s,2,none⟩ x).setCell ⟨s,2,none⟩ y).setCell ⟨s,2,none⟩ z).heap[s]?=some (.cells #[A,B,z,D] t (0,0)):=by
 have h0:(w.drewN k).heap[s]?=some (.cells #[A,B,C,D] t (0,0)):=hk;exact mEc
theorem heap4 {B z u:Value} (hk:w.heap[s]?=some (.cells #[A,B,C,D] t (0,0))) :
  (((((w.drewN k).setCell ⟨s,1,none⟩ u).setCell ⟨s,2,none⟩ x).setCell ⟨s,2,none⟩ y).setCell ⟨s,2,none⟩ z).heap[s]?=some (.cells #[A,u,z,D] t (0,0)):=by
 have h0:(w.drewN k).heap[s]?=some (.cells #[A,B,C,D] t (0,0)):=hk;have h0:=ZZl _ s 1 _ _ u h0;exact mEc
theorem grown3 (w:World) (s k:Nat) (x y z:Value):w.grownBy ((((w.drewN k).setCell ⟨s,2,none⟩ x).setCell ⟨s,2,none⟩ y).setCell ⟨s,2,none⟩ z) (some s):=
 (((Qcq w k _).trans (Qcg _ ⟨s,2,none⟩ x)).trans (Qcg _ ⟨s,2,none⟩ y)).trans (Qcg _ ⟨s,2,none⟩ z)
theorem Qu8 (w:World) (s k:Nat) (u x y z:Value):w.grownBy (((((w.drewN k).setCell ⟨s,1,none⟩ u).setCell ⟨s,2,none⟩ x).setCell ⟨s,2,none⟩ y).setCell ⟨s,2,none⟩ z) (some s):=
 ((((Qcq w k _).trans (Qcg _ ⟨s,1,none⟩ u)).trans (Qcg _ ⟨s,2,none⟩ x)).trans (Qcg _ ⟨s,2,none⟩ y)).trans (Qcg _ ⟨s,2,none⟩ z)
theorem n_late (most at_ mix sz:Int) (ao:Option Addr) (len cap s:Nat) (w:World) (hm:1<most) (hm2:most<=9223372036854775807)
  (hk:w.heap[s]?=some (.cells #[.slice ao len cap,.int .i64 at_,.int .u64 mix,.int .i64 sz] 92 (0,0))) (hat:¬ at_<(len:Int)) :
  Calls prog 18 #[.pointer (some ⟨s,0,none⟩),.int .i64 most] w fun e w'=>∃ v mix',e=.returned (.int .i64 v)/\0<=v/\v<most/\w'.heap[s]?=some (.cells #[.slice ao len cap,.int .i64 at_,.int .u64 mix',.int .i64 sz] 92 (0,0))/\w.grownBy w' (some s):=by
 have c0:w.cell? ⟨s,0,none⟩=some (.slice ao len cap):=by rw [cell_of_row w s 0 _ _ (0,0) hk];rfl
 have c1:w.cell? ⟨s,1,none⟩=some (.int .i64 at_):=by rw [cell_of_row w s 1 _ _ (0,0) hk];rfl
 have c2:w.cell? ⟨s,2,none⟩=some (.int .u64 mix):=by rw [cell_of_row w s 2 _ _ (0,0) hk];rfl
 have f2:=fzR 2 hk;obtain ⟨m1,e1⟩:∃ m1,bits BinOp.xor IntKind.u64 mix (IntKind.u64.wrap (mix*8192))=m1:=⟨_,rfl⟩;obtain ⟨m2,e2⟩:∃ m2,bits BinOp.xor IntKind.u64 m1 (m1 / 128)=m2:=⟨_,rfl⟩;obtain ⟨m3,e3⟩:∃ m3,bits BinOp.xor IntKind.u64 m2 (IntKind.u64.wrap (m2*131072))=m3:=⟨_,rfl⟩
 have c5:∀ k x y z,((((w.drewN k).setCell ⟨s,2,none⟩ x).setCell ⟨s,2,none⟩ y).setCell ⟨s,2,none⟩ z).cell? ⟨s,2,none⟩=some z:=fun k x y z=>by
  have g0:(w.drewN k).cell? ⟨s,2,none⟩=some (.int .u64 mix):=c2;exact mC8
 have HK:Hid (w.heap[s]?=some (.cells #[.slice ao len cap,.int .i64 at_,.int .u64 mix,.int .i64 sz] 92 (0,0))):=hk;clear hk;go_enter func18,ntmps18;go_wp2
 go_quiet (fail)
 go_wp2;go_region
 go_wp2;go_region
 go_wp2;go_region
 go_wp2;go_ret;refine ⟨_,m3,rfl,(QnE _ _ hm hm2).1,(QnE _ _ hm hm2).2,?_,?_⟩
 ·simp only [QkU];exact heap3 HK
 ·repeat apply Qie
  exact grown3 w s _ _ _ _
theorem Qt7 (most mix sz x:Int) (len cap s a b off:Nat) (w:World) (hm:1<most) (hm2:most<=9223372036854775807)
  (hk:w.heap[s]?=some (.cells #[.slice (some ⟨b,off,none⟩) len cap,.int .i64 a,.int .u64 mix,.int .i64 sz] 92 (0,0))) (hat:(a:Int)<(len:Int)) (hlen:len<=1048576) (hx:w.cell? ⟨b,off+a,none⟩=some (.int .u8 x)) :
  Calls prog 18 #[.pointer (some ⟨s,0,none⟩),.int .i64 most] w fun e w'=>∃ v mix',e=.returned (.int .i64 v)/\0<=v/\v<most/\w'.heap[s]?=some (.cells #[.slice (some ⟨b,off,none⟩) len cap,.int .i64 ((a:Int)+1),.int .u64 mix',.int .i64 sz] 92 (0,0))/\w.grownBy w' (some s):=by
 have c0:w.cell? ⟨s,0,none⟩=some (.slice (some ⟨b,off,none⟩) len cap):=by rw [cell_of_row w s 0 _ _ (0,0) hk];rfl
 have c1:w.cell? ⟨s,1,none⟩=some (.int .i64 a):=by rw [cell_of_row w s 1 _ _ (0,0) hk];rfl
 have c2:w.cell? ⟨s,2,none⟩=some (.int .u64 mix):=by rw [cell_of_row w s 2 _ _ (0,0) hk];rfl
 have f1:=fzR 1 hk;have f2:=fzR 2 hk;obtain ⟨m1,e1⟩:∃ m1,bits BinOp.xor IntKind.u64 mix (IntKind.u64.wrap (mix*8192))=m1:=⟨_,rfl⟩;obtain ⟨m2,e2⟩:∃ m2,bits BinOp.xor IntKind.u64 m1 (m1 / 128)=m2:=⟨_,rfl⟩;obtain ⟨m3,e3⟩:∃ m3,bits BinOp.xor IntKind.u64 m2 (IntKind.u64.wrap (m2*131072))=m3:=⟨_,rfl⟩
 have c4:∀ k u x y,((((w.drewN k).setCell ⟨s,1,none⟩ u).setCell ⟨s,2,none⟩ x).setCell ⟨s,2,none⟩ y).cell? ⟨s,2,none⟩=some y:=fun k u x y=>by
  have g0:((w.drewN k).setCell ⟨s,1,none⟩ u).cell? ⟨s,2,none⟩=some (.int .u64 mix):=by rw [World.cell?_setCell_other _ _ _ _ oE];exact c2
  have g1:=World.cell?_setCell_same _ _ x g0;exact World.cell?_setCell_same _ _ y g1
 have c5:∀ k u x y z,(((((w.drewN k).setCell ⟨s,1,none⟩ u).setCell ⟨s,2,none⟩ x).setCell ⟨s,2,none⟩ y).setCell ⟨s,2,none⟩ z).cell? ⟨s,2,none⟩=some z:=fun k u x y z=>by
  have g0:((w.drewN k).setCell ⟨s,1,none⟩ u).cell? ⟨s,2,none⟩=some (.int .u64 mix):=by rw [World.cell?_setCell_other _ _ _ _ oE];exact c2
  exact mC8
 have HK:Hid (w.heap[s]?=some (.cells #[.slice (some ⟨b,off,none⟩) len cap,.int .i64 a,.int .u64 mix,.int .i64 sz] 92 (0,0))):=hk;clear hk;go_enter func18,ntmps18;go_wp2
 go_quiet (fail)
 go_wp2
 go_quiet (fail)
 go_wp2;go_region
 go_wp2;go_region
 go_wp2;go_region
 go_wp2;go_ret;refine ⟨_,m3,rfl,(QnE _ _ hm hm2).1,(QnE _ _ hm hm2).2,?_,?_⟩
 ·simp only [QkU];exact heap4 HK
 ·repeat apply Qie
  exact Qu8 w s _ _ _ _ _
theorem c_n (hc:Qbi W B ao ln) (h:Src W B ao ln cap s w) (most:Int) (h9:most<=9223372036854775807) :
  Calls prog 18 #[.pointer (some ⟨s,0,none⟩),.int .i64 most] w fun e w'=>∃ v,e=.returned (.int .i64 v)/\0<=v/\(1<=most->v<most)/\(most<=1->v=0)/\Src W B ao ln cap s w'/\w.grownBy w' (some s):=by
 by_cases hm:1<most
 ·obtain ⟨aa,af,sz,hk,h0,h1,z0,z1⟩:=h.blk
  by_cases ac:aa<(ln:Int)
  ·obtain ⟨b,ag,rfl,hb,ab⟩:=hc.2 oB
   obtain ⟨x,hx,_⟩:=ab aa.toNat oB;have ha:aa=(aa.toNat:Int):=oB
   have ah:w.cell? ⟨b,ag+aa.toNat,none⟩=some (.int .u8 x):=by rw [h.bel.cell (by exact hb)];exact hx
   rw [ha] at hk ac;refine (Qt7 most af sz x ln cap s aa.toNat b ag w hm h9 hk ac hc.1 ah).mono ?_;rintro e w' ⟨v,ad,rfl,v0,v1,ae,hg⟩;exact ⟨v,rfl,v0,fun _=>v1,fun h=>by omega,⟨Qlm h hg,h.hB,_,_,_,ae,by omega,by omega,z0,z1⟩,hg⟩
  ·refine (n_late most aa af sz ao ln cap s w hm h9 hk ac).mono ?_
   rintro e w' ⟨v,ad,rfl,v0,v1,ae,hg⟩;exact ⟨v,rfl,v0,fun _=>v1,fun h=>by omega,⟨Qlm h hg,h.hB,_,_,_,ae,h0,h1,z0,z1⟩,hg⟩
 ·have ai:most<=1:=by omega
  have HS:Hid (Src W B ao ln cap s w):=h;clear h hc hm;go_enter func18,ntmps18;go_wp2;go_ret;exact ⟨0,rfl,by omega,fun h=>by omega,fun _=>rfl,HS,World.grownBy.refl _ _⟩
end
variable {m z:Int}
section
def SB (w:World) (s:Nat) (ao:Option Addr) (ln cap:Nat) (m z:Int):Prop:=w.heap[s]?=some (.cells #[.slice ao ln cap,.int .i64 0,.int .u64 m,.int .i64 z] 92 (0,0))
theorem Qmb (h:SB w s ao ln cap m z):w.cell? ⟨s,2,none⟩=some (.int .u64 m)/\w.cell? ⟨s,3,none⟩=some (.int .i64 z)/\w.frozen? ⟨s,2,none⟩=false/\w.frozen? ⟨s,3,none⟩=false:=by
 refine ⟨?_,?_,frozen_of_row w s 2 _ _ h,frozen_of_row w s 3 _ _ h⟩
 ·rw [cell_of_row w s 2 _ _ (0,0) h];rfl
 ·rw [cell_of_row w s 3 _ _ (0,0) h];rfl
theorem sb_2 {m':Int} (h:SB w s ao ln cap m z):SB (w.setCell ⟨s,2,none⟩ (.int .u64 m')) s ao ln cap m' z:=ZZl w s 2 _ _ _ h
theorem Qv7 {z':Int} (h:SB w s ao ln cap m z):SB (w.setCell ⟨s,3,none⟩ (.int .i64 z')) s ao ln cap m z':=ZZl w s 3 _ _ _ h
theorem QuQ (h:SB w s ao ln cap m z):SB w.drew s ao ln cap m z:=h
theorem Qnd (h:SB w s ao ln cap m z) (hb:Below B W w) (hB:B<=s) (z0:0<=z) (z1:z<=12):Src W B ao ln cap s w:=⟨hb,hB,0,m,z,h,by omega,by omega,z0,z1⟩
theorem Qlg (ao:Option Addr) (ln cap:Nat) (w:World) (hc:Qbi w w.heap.size ao ln) :
  Calls prog 15 #[.slice ao ln cap] w fun e w'=>e=.returned (.pointer (some ⟨w.heap.size,0,none⟩))/\Src w w.heap.size ao ln cap w.heap.size w':=by
 have am:=hc.1;have HC:Hid (Qbi w w.heap.size ao ln):=hc;clear hc;obtain ⟨z,hz,al,ai⟩:∃ z,Int.tdiv (ln:Int) 20=z/\0<=z/\z<=1048576:=⟨((ln / 20:Nat):Int),rfl,by omega,by omega⟩;go_enter func15,ntmps15;go_wp2
 go_loopw [4] (fun i wr=>∃ (k:Nat) (m:Int),i=.int .i64 k/\k<=ln/\k<=64/\SB wr w.heap.size ao ln cap m 0/\Bw w wr) (fun i wr=>64 - (Go.RowKit.intOf i).toNat)
 case atStart=>exact ⟨0,_,rfl,by omega,by omega,ZZk w _,(ZZb _ _).alloc (ZZa _) _⟩
 case round=>
  obtain ⟨k,m,rfl,hk,af,hS,aa⟩:=hrel;by_cases ad:k<ln/\k<64
  ·obtain ⟨h1,h2⟩:=ad
   obtain ⟨b,ae,rfl,hb,ab⟩:=HC.2 oB;obtain ⟨x,hx,_⟩:=ab k h1;have ah:wr.cell? ⟨b,ae+k,none⟩=some (.int .u8 x):=by rw [aa.cell (by exact hb)];exact hx
   have aj:(k:Int)<(ln:Int):=oB
   have ak:(k:Int)<64:=oB
   obtain ⟨c2,c3,f2,f3⟩:=Qmb hS;have HS:Hid (SB wr w.heap.size (some ⟨b,ae,none⟩) ln cap m 0):=hS;have HB:Hid (Bw w wr):=aa;clear hS aa hx ab;go_wp2;go_region
   go_wp2;go_roundw
   case rel=>exact ⟨k+1,_,by go_num,by omega,by omega,QuQ (sb_2 HS),(HB.setCell (ZZa _) _).drew⟩
   case measure=>simp [zI];omega
  ·have ag:(¬ (k:Int)<(ln:Int))∨((k:Int)<(ln:Int)/\¬ (k:Int)<64):=by omega
   obtain ⟨c2,c3,f2,f3⟩:=Qmb hS;have HS:Hid (SB wr w.heap.size ao ln cap m 0):=hS;have HB:Hid (Bw w wr):=aa;clear hS aa ad;rcases ag with h1 | ⟨h1,h2⟩
   ·by_cases ac:12<z
    ·exact mDk
    ·exact mD1
   ·by_cases ac:12<z
    ·exact mDk
    ·exact mD1
end
variable {cs:Array Value}
section
theorem QjQ (h:Src W B ao ln cap s w):Src W B ao ln cap s (w.drewN k):=
 ⟨Qlm h (Qcq _ _ _),h.hB,h.blk⟩
def isI:Value->Bool
 | .int .i64 y=>decide (-9223372036854775808<=y) && decide (y<=9223372036854775807)
 | _=>false
theorem isI_of (h:isI v=true):∃ y,v=.int .i64 y/\I64 y:=by
 unfold isI at h
 split at h
 ·rename_i y
  have:=Bool.and_eq_true_iff.1 h;exact ⟨y,rfl,of_decide_eq_true this.1,of_decide_eq_true this.2⟩
 ·cases h
def allI (cs:Array Value):Bool:=cs.toList.all isI
theorem Quk (h:allI cs=true) {i:Nat} (hi:i<cs.size):∃ y,cs[i]?=some (.int .i64 y)/\I64 y:=by
 obtain ⟨y,e,hI⟩:=isI_of (List.all_eq_true.1 h cs[i] (Array.mem_toList_iff.2 (Array.getElem_mem hi)));exact ⟨y,by rw [Array.getElem?_eq_getElem hi,e],hI⟩
theorem Qnm (hg:(w.alloc (.cells cs t)).grownBy w2 (some s)) (hs:s<w.heap.size) (h:allI cs=true) {v:Int} (h0:0<=v) (h1:v<cs.size) :
  ∃ y,w2.cell? ⟨w.heap.size,v.toNat,none⟩=some (.int .i64 y)/\I64 y:=by
 obtain ⟨y,hy,hI⟩:=Quk h (i:=v.toNat) oB
 have hb:w2.heap[w.heap.size]?=some (.cells cs t (0,0)):=by
  rw [hg.block w.heap.size oE (fun e=>by cases e;omega)];exact ZZk w _
 exact ⟨y,by rw [cell_of_row w2 w.heap.size v.toNat _ _ (0,0) hb];exact hy,hI⟩
theorem Qf1 (hc:Qbi W B ao ln) (h:Src W B ao ln cap s w) (most:Int) (h9:most<=9223372036854775807) :
  Calls prog 49 #[.pointer (some ⟨s,0,none⟩),.int .i64 most] w fun e w'=>∃ b,e=.returned (.bool b)/\Src W B ao ln cap s w'/\w.grownBy w' (some s):=by
 go_enter func49,ntmps49;go_wp2_with (go_at_call 18;refine (c_n hc h _ h9).mono ?_;rintro e w2 ⟨v,rfl,v0,v1,_,ab,aa⟩);go_ret;exact ⟨_,rfl,ab,aa⟩
theorem c_edge (hc:Qbi W B ao ln) (h:Src W B ao ln cap s w) :
  Calls prog 241 #[.pointer (some ⟨s,0,none⟩)] w fun e w'=>∃ v,e=.returned (.int .i64 v)/\I64 v/\Src W B ao ln cap s w'/\w.grownBy w' (some s):=by
 have hs:=Qcv h;have ha:∀ o,Src W B ao ln cap s (w.alloc o):=fun o=>QaO h bAA;go_enter func241,ntmps241;go_wp2_with (go_at_call 18;refine (c_n hc (ha _) _ oB).mono ?_;rintro e w2 ⟨v,rfl,v0,v1,_,ab,aa⟩;have v1:=v1 oB;obtain ⟨y,hy,hI⟩:=Qnm aa hs oF v0 v1);go_ret;exact ⟨y,rfl,hI,ab,(World.grownBy_alloc _ _ _).trans aa⟩
theorem Qmx (hc:Qbi W B ao ln) (h:Src W B ao ln cap s w) :
  Calls prog 199 #[.pointer (some ⟨s,0,none⟩)] w fun e w'=>∃ v,e=.returned (.int .i64 v)/\I64 v/\Src W B ao ln cap s w'/\w.grownBy w' (some s):=by
 have hG:w.grownBy w (some s):=World.grownBy.refl _ _;have hS:=h;clear h;go_enter func199,ntmps199
 go_wp2_with (first
  | (go_at_call 241;refine (c_edge hc hS).mono ?_;rintro e w2 ⟨y,rfl,hI,ab,aa⟩;have hG:=hG.trans aa)
  | (go_at_call 18;refine (c_n hc (by first | exact hS | exact QaO hS bAA) _ oB).mono ?_;rintro e w2 ⟨v,rfl,v0,v1,_,ab,aa⟩;have v1:=v1 oB; (first | (have hG:=hG.trans aa) | (obtain ⟨y,hy,hI⟩:=Qnm aa (Qcv hS) oF v0 v1;have hG:=hG.trans ((World.grownBy_alloc _ _ _).trans aa)));have hS:=ab))
 all_goals (go_ret;first | exact ⟨_,rfl,hI,ab,hG⟩ | exact ⟨_,rfl,by unfold I64;omega,ab,hG⟩)
theorem Qpi (hc:Qbi W B ao ln) (h:Src W B ao ln cap s w) (g k M:Nat) (hg:g≠s) (hk:1<k) (hk9:k<=1000) (hcell:∀ j,j<k->∃ u,w.cell? ⟨g,j,none⟩=some (.string u)/\u.size<=M) :
  Calls prog 46 #[.pointer (some ⟨s,0,none⟩),.slice (some ⟨g,0,none⟩) k k] w fun e w'=>∃ u,e=.returned (.string u)/\u.size<=M/\Src W B ao ln cap s w'/\w.grownBy w' (some s):=by
 go_enter func46,ntmps46;go_wp2_with (go_at_call 18;refine (c_n hc h _ oB).mono ?_;rintro e w2 ⟨v,rfl,v0,v1,_,ac,aa⟩;have v1:=v1 oB;obtain ⟨u,hu,ab⟩:=hcell v.toNat oB;have ad:=aa.cell hu (by simpa using hg));go_ret;exact ⟨u,rfl,ab,ac,aa⟩
theorem QiU (w:World) (y:Int):(convert 22 9 (.slice (some ⟨w.heap.size,0,none⟩) 1 1)).run prog (w.alloc (.cells #[.int .u8 y] 5))=.ok (.string (strOfNums [y])) (w.alloc (.cells #[.int .u8 y] 5)):=
 run_convert_bytes_arg (P:=prog) (w.alloc (.cells #[.int .u8 y] 5)) 22 5 underlying22 underlying5 w.heap.size 0 1 1 [y] rfl (fun i hi=>by
  obtain rfl:i=0:=oB
  simp) 9 underlying9
theorem QuK (hc:Qbi W B ao ln) (h:Src W B ao ln cap s w) (t:ByteArray) (ht:t.size<=1000000) :
  Calls prog 88 #[.pointer (some ⟨s,0,none⟩),.string t] w fun e w'=>∃ u,e=.returned (.string u)/\u.size<=t.size+2/\Src W B ao ln cap s w'/\w.grownBy w' (some s):=by
 have hG:w.grownBy w (some s):=World.grownBy.refl _ _;have hS:=h;have ad:=get_bt ⟨#[32,10,48,97,45,110,44,58,93,255,40,120,126,49,128,225,59]⟩;have ac:∀ y,(strOfNums [y]).size=1:=fun y=>rfl;clear h;go_enter func88,ntmps88
 go_wp2_with (first
  | (go_at_call 18;refine (c_n hc hS _ oB).mono ?_;rintro e w2 ⟨v,rfl,v0,v1,_,ab,aa⟩;have v1:=v1 oB;have hG:=hG.trans aa;have hS:=ab;have kc:=QiU w2)
  | (go_at_call 49;refine (Qf1 hc (by first | exact hS | exact QaO hS bAA) _ oB).mono ?_;rintro e w2 ⟨b,rfl,ab,aa⟩; (first | (have hG:=hG.trans aa) | (have hG:=hG.trans ((World.grownBy_alloc _ _ _).trans aa)));have hS:=ab))
 all_goals (go_quiet (fail);go_wp2)
 all_goals (go_ret;first
  | exact ⟨_,rfl,by simp only [ByteArray.size_append,ByteArray.size_extract,ac];omega,QjQ hS,hG.trans (Qcq _ _ _)⟩
  | exact ⟨_,rfl,by simp only [ByteArray.size_append,ByteArray.size_extract,ac];omega,QjQ (QaO hS bAA),hG.trans ((World.grownBy_alloc _ _ _).trans (Qcq _ _ _))⟩)
def isS (m:Nat):Value->Bool
 | .string u=>decide (u.size<=m)
 | _=>false
theorem isS_of {m:Nat} (h:isS m v=true):∃ u,v=.string u/\u.size<=m:=by
 unfold isS at h
 split at h
 ·rename_i u
  exact ⟨u,rfl,of_decide_eq_true h⟩
 ·cases h
theorem Qgu {m:Nat} (h:cs.toList.all (isS m)=true) (j:Nat) (hj:j<cs.size):∃ u,(w.alloc (.cells cs t)).cell? ⟨w.heap.size,j,none⟩=some (.string u)/\u.size<=m:=by
 obtain ⟨u,e,hu⟩:=isS_of (List.all_eq_true.1 h cs[j] (Array.mem_toList_iff.2 (Array.getElem_mem hj)));have hb:(w.alloc (.cells cs t)).heap[w.heap.size]?=some (.cells cs t (0,0)):=ZZk w _;exact ⟨u,by rw [cell_of_row _ w.heap.size j _ _ (0,0) hb,Array.getElem?_eq_getElem hj,e],hu⟩
theorem QdQ (hc:Qbi W B ao ln) (h:Src W B ao ln cap s w) (M:Nat) (hk:k=cs.size) (h1:1<k) (h9:k<=1000) (hcs:cs.toList.all (isS M)=true) :
  Calls prog 46 #[.pointer (some ⟨s,0,none⟩),.slice (some ⟨w.heap.size,0,none⟩) k k] (w.alloc (.cells cs t)) fun e w'=>∃ u,e=.returned (.string u)/\u.size<=M/\Src W B ao ln cap s w'/\w.grownBy w' (some s):=by
 refine (Qpi hc (QaO h bAA) w.heap.size k M (oA (Qcv h)) h1 h9 (fun j hj=>Qgu hcs j oB)).mono ?_;rintro e w' ⟨u,rfl,hu,hS,hg⟩;exact ⟨u,rfl,hu,hS,(World.grownBy_alloc _ _ _).trans hg⟩
end
section
theorem Qlt (ao:Option Addr) (ln cap:Nat) (w:World) (hK:w.heap.size=K) (hc:Qbi w K ao ln) :
  Calls prog 15 #[.slice ao ln cap] w fun e w'=>e=.returned (.pointer (some ⟨K,0,none⟩))/\Src w K ao ln cap K w':=by
 subst hK;exact Qlg ao ln cap w hc
end
variable {u:ByteArray}
section
structure DL (W:World) (B:Nat) (ao:Option Addr) (ln cap s:Nat) (w wr:World) (v:Value) (L:List ByteArray):Prop where
 own:OwnT wr w.heap.size v L
 sz:∀ u∈L,u.size<=40
 src:Src W B ao ln cap s wr
 gr:w.grownBy wr (some s)
section
variable {W:World} {B ln cap s:Nat} {ao:Option Addr} {w wr:World} {v:Value} {L:List ByteArray}
theorem DL.step (h:DL W B ao ln cap s w wr v L) (hs:s<w.heap.size) (hS:Src W B ao ln cap s w1) (hg:wr.grownBy w1 (some s)):DL W B ao ln cap s w w1 v L:=by
 refine ⟨World.ownsRow.kept h.own hg ?_,h.sz,hS,h.gr.trans hg⟩
 cases e:v.ownBlock with
 | none=>exact .inl rfl
 | some k=>exact .inr (fun q=>by have:=(World.ownsRow.lt h.own k e).1;cases q;omega)
theorem DL.past (h:DL W B ao ln cap s w wr v L) (hs:s<w.heap.size) (hb:Bw wr w1):DL W B ao ln cap s w w1 v L:=
 h.step hs (QaO h.src hb) ⟨hb.os,hb.tape,hb.output,hb.size,fun j hj _=>hb.block j hj⟩
theorem DL.app (h:DL W B ao ln cap s w wr v L) (hs:s<w.heap.size) (hu:u.size<=40) (ho:w1.ownsRow w.heap.size 9 1 v' n (L.map Value.string ++ [.string u])) (hg:wr.grownBy w1 v.ownBlock):DL W B ao ln cap s w w1 v' (L ++ [u]):=by
 have bel:Below w.heap.size wr w1:=⟨hg.os,hg.tape,hg.output,hg.size,fun j hj=>hg.block j (oA h.gr.size) (fun e=>by have:=(World.ownsRow.lt h.own j e.symm).1;omega)⟩;refine ⟨OwnT.of ho oE,fun x hx=>?_,?_,?_⟩
 ·rcases List.mem_append.1 hx with hx | hx
  ·exact h.sz x hx
  ·obtain rfl:=List.mem_singleton.1 hx;exact hu
 ·obtain ⟨x,m,y,h0,h1,h2⟩:=h.src.blk
  exact ⟨h.src.bel.trans (bel.mono (Nat.le_trans h.src.hB (Nat.le_of_lt hs))),h.src.hB,x,m,y,by rw [bel.block s hs];exact h0,h1,h2⟩
 ·exact ⟨hg.os.trans h.gr.os,hg.tape.trans h.gr.tape,hg.output.trans h.gr.output,Nat.le_trans h.gr.size hg.size,fun j hj hne=>by rw [bel.block j hj];exact h.gr.block j hj hne⟩
end
theorem c_decT (N:Nat) (hN:N<=1000) (w:World):Calls prog 113 #[.int .i64 N] w fun e w'=>∃ u,e=.returned (.string u)/\u.size<=30/\Bw w w':=by
 by_cases h0:N=0
 ·subst h0
  go_enter func113,ntmps113;go_wp2;go_ret;exact ⟨_,rfl,by decide,ZZb _ _⟩
 ·refine (Qds N h0 oB w).mono ?_
  rintro e w' ⟨rfl,hb⟩;refine ⟨_,rfl,?_,hb⟩;rw [<- Qam,QaQ,Lib.decDigits_length];have:=Lib.nDigits_le20 N oB;omega
end
section
theorem Qsn (hc:Qbi W B ao ln) (h:Src W B ao ln cap s w) :
  Calls prog 198 #[.pointer (some ⟨s,0,none⟩)] w fun e w'=>∃ v,e=.returned (.int .i64 v)/\I64 v/\Src W B ao ln cap s w'/\w.grownBy w' (some s):=by
 have HC:=Qaa hc;go_enter func198,ntmps198;go_wp2_with fail;refine (Qf1 HC h _ oB).mono ?_;rintro e w1 ⟨b,rfl,al,ak⟩;have ag:=Qaa al;have ai:=Qaa ak;clear al ak h hc
 cases b with
 | true=>
  go_wp2_with fail;refine (Qmx HC ag).mono ?_;rintro e w2 ⟨v,rfl,hI,ab,aa⟩;have ac:=Qaa ab;have ad:=Qaa (ai.trans aa);clear ab aa;go_wp2;go_ret;exact ⟨v,rfl,hI,ac,ad⟩
 | false=>
  go_wp2_with fail;refine (c_n HC ag _ oB).mono ?_;rintro e w2 ⟨v,rfl,v0,v1,_,ab,aa⟩;have v1:=v1 oB;have ac:=Qaa ab;have ad:=Qaa (ai.trans aa);clear ab aa;go_wp2_with fail;refine (c_n HC ac _ oB).mono ?_;rintro e w3 ⟨k,rfl,k0,k1,_,ah,an⟩;have k1:=k1 oB;have aq:=Qaa ah;have ap:=Qaa (ad.trans an);clear ah an;go_wp2_with fail;obtain ⟨k,rfl⟩:=Int.eq_ofNat_of_zero_le k0
  go_loop [3,4] (fun xv kv=>∃ (j:Nat) (x:Int),j<=8/\kv=.int .i64 j/\xv=.int .i64 x/\I64 x) (fun xv kv=>(Go.RowKit.intOf kv).toNat)
  case atStart=>exact ⟨k,v,by omega,rfl,rfl,by unfold I64;omega⟩
  case round=>
   clear v0 v1 k0 k1;obtain ⟨j,x,hj,rfl,rfl,hx⟩:=hrel;rcases Nat.eq_zero_or_pos j with h0 | h0
   ·subst h0
    go_wp2_with fail;refine (Qf1 HC aq _ oB).mono ?_;rintro e w4 ⟨b,rfl,af,ae⟩;have aj:=Qaa af;have am:=Qaa (ap.trans ae);clear af ae;have hm:=Qhk (-x)
    cases b with
    | true=>
     go_wp2;go_ret;exact ⟨_,rfl,by first | exact hm | (unfold I64 at *; omega),aj,am⟩
    | false=>
     go_wp2;go_ret;exact ⟨_,rfl,hx,aj,am⟩
   ·have ar:(0:Int)<(j:Int):=by omega
    have hm:=Qhk (x*9);go_wp2
    go_round
    case rel=>exact ⟨j - 1,_,by omega,by congr 1;omega,rfl,hm⟩
    case measure=>simp [zI];omega
end
section
theorem QaC (h:w.grownBy w1 r) (hb:Below w.heap.size w1 w2):w.grownBy w2 r:=
 ⟨hb.os.trans h.os,hb.tape.trans h.tape,hb.output.trans h.output,Nat.le_trans h.size hb.size,fun k hk hne=>by rw [hb.block k hk];exact h.block k hk hne⟩
theorem Qr8 (name:ByteArray) (L:List ByteArray):(Qn2 name L).size<=100:=by
 have e0:ByteArray.empty.size<=100:=oF
 unfold Qn2
 split
 ·exact e0
 ·unfold QbM
  split
  ·unfold Qb6
   split
   ·exact e0
   ·rename_i h;omega
  ·exact e0
theorem Qi0 (hc:Qbi W B ao ln) (h:Src W B ao ln cap s w) :
  Calls prog 197 #[.pointer (some ⟨s,0,none⟩)] w fun e w'=>∃ u,e=.returned (.string u)/\u.size<=100/\Src W B ao ln cap s w'/\w.grownBy w' (some s):=by
 obtain ⟨i0,hi,az,ax,ar⟩:=info_parts QgO;have HC:=Qaa hc;have HS:=Qaa h;clear hc h;go_enter func197,ntmps197;go_wp2_with fail;refine (QdQ HC HS 40 oR oB oB oF).mono ?_;rintro e w2 ⟨ad,rfl,aB,ai,aj⟩;have aa:s<w2.heap.size:=Qcv ai;have am:=Qaa aj;replace HS:=Qaa ai;clear ai aj;go_wp2_with fail;refine (c_n HC (QaO HS ((ZZb _ _).alloc (ZZa _) (.cells #[] 9))) _ oB).mono ?_;rintro e w3 ⟨kk,rfl,k0,k1,_,an,aq⟩;have k1:=k1 oB
 have D0:DL W B ao ln cap s w2 w3 (.slice (some ⟨w2.heap.size,0,none⟩) 0 0) []:=by
  have O0:OwnT (w2.alloc (.cells #[] 9)) w2.heap.size (.slice (some ⟨w2.heap.size,0,none⟩) 0 0) []:=World.ownsRow_made w2 #[] 0 (ZZa _) (ZZj _) rfl;have D1:DL W B ao ln cap s w2 (w2.alloc (.cells #[] 9)) (.slice (some ⟨w2.heap.size,0,none⟩) 0 0) []:=⟨O0,fun u hu=>absurd hu List.not_mem_nil,QaO HS bAA,World.grownBy_alloc _ _ _⟩;exact D1.step aa an aq
 have ap:=Qaa D0;clear D0 an aq HS;obtain ⟨kn,rfl⟩:=Int.eq_ofNat_of_zero_le k0;have aF:kn<3:=oB
 clear k0 k1;go_wp2_with fail
 go_loopw [4,5] (fun lv kv wr=>∃ (j:Nat) (lo:Option Addr) (n lc:Nat) (L:List ByteArray),kv=.int .i64 j/\j<=3/\lv=.slice lo n lc/\n+j<=3/\Hid (L.length=n/\DL W B ao ln cap s w2 wr (.slice lo n lc) L)) (fun lv kv wr=>(RowKit.intOf kv).toNat)
 case atStart=>exact ⟨kn,_,0,0,[],rfl,by omega,rfl,by omega,⟨rfl,ap⟩⟩
 case round=>
  clear ap;obtain ⟨j,lo,n,lc,L,rfl,hj,rfl,aD,HD⟩:=hrel;rcases Nat.eq_zero_or_pos j with h0 | h0
  ·subst h0
   go_wp2_with fail;refine (QkW ad lc n oC HD.1 oB (fun u hu=>by have:=HD.2.sz u hu;unfold maxLen;omega) HD.2.own.at).mono ?_;rintro e w4 ⟨rfl,ah⟩;have aw:=Qaa (QaO HD.2.src ah);have aA:=Qaa (QaC (am.trans HD.2.gr) (ah.mono (Nat.le_trans am.size HD.2.gr.size)));have ae:=Qr8 ad L;clear ah HD;generalize Qn2 ad L=u at ae ⊢;go_wp2;go_ret;exact ⟨u,rfl,ae,aw,aA⟩
  ·have aE:(0:Int)<(j:Int):=by omega
   have aG:IntKind.i64.wrap ((j:Int) - 1)=((j - 1:Nat):Int):=by rw [IntWalk.i64_in _ ⟨by omega,by omega⟩];omega
   have aC:n<=6:=oB
   go_wp2_with (first
    | (go_at_call 46;refine (QdQ HC HD.2.src 21 oR oB oB oF).mono ?_;rintro e w4 ⟨u,rfl,hu,al,ak⟩;have au:=Qaa (HD.2.step aa al ak);have ag:=Qaa (au.past aa ((ZZb _ _).alloc (ZZa _) (.cells #[.string u] 9)));have HN:=Qaa HD.1;clear al ak HD)
    | (at_builtin;refine wpList_append_own _ rfl (.tmp 16) (.tmp 20) 75 rfl w2.heap.size 9 i0 (.string ByteArray.empty) 1 16 underlying75 hi az ax ar rfl oF _ _ _ rfl ag.own ⟨w4.heap.size,0,none⟩ 1 1 [.string u] rfl rfl (Qav (cs:=#[.string u]) rfl) (QaY [u]) (by have:=HN.out;unfold maxLen;omega) (oA HN.out) ag.gr.size ?_;intro v5 w5 ac ab af;have ay:=Qaa (ag.app aa (show u.size<=40 by omega) ac ab);obtain ⟨av,c5,rfl⟩:=Qan ac;clear ac ab af))
   go_roundw
   case rel=>exact ⟨j - 1,av,L.length+1,c5,L ++ [u],rfl,by omega,rfl,by have:=HN.out;omega,⟨by simp,ay⟩⟩
   case measure=>simp [RowKit.intOf];omega
end
section
theorem Qbk (h:Src W B ao ln cap s w) (hb:Below K w w') (hs:s<K):Src W B ao ln cap s w':=by
 exact mBs
theorem QgP {r:Nat} (h:w.heap[r]?=some (.cells cs T (0,0))) (j:Nat) (e:cs[j]?=some v):w.cell? ⟨r,j,none⟩=some v:=by rw [cell_of_row _ _ j _ _ (0,0) h];exact e
structure SD (W:World) (B:Nat) (ao:Option Addr) (ln cap s:Nat) (w wr:World) (b:Nat) (x:Sx):Prop where
 row:wr.heap[b]?=some (.cells (Qa0 x) 85 (0,0))
 res:wr.heap[w.heap.size]?=some (.cells zAa 85 (0,0))
 src:Src W B ao ln cap s wr
 gr:w.grownBy wr (some s)
 lb:w.heap.size<b
 hs:s<w.heap.size
 ok:x.Ok
section
variable {W:World} {B ln cap s:Nat} {ao:Option Addr} {w wr:World} {b:Nat} {x:Sx}
theorem SD.step (h:SD W B ao ln cap s w wr b x) (hS:Src W B ao ln cap s w1) (hg:wr.grownBy w1 (some s)):SD W B ao ln cap s w w1 b x:=by
 have l1:=h.lb;have l2:=h.hs;exact ⟨(hg.block b (ZZc.1 h.row).1 (fun e=>by cases e;omega)).trans h.row,(hg.block _ (ZZc.1 h.res).1 (fun e=>by cases e;omega)).trans h.res,hS,h.gr.trans hg,h.lb,h.hs,h.ok⟩
theorem SD.past (h:SD W B ao ln cap s w wr b x) (hb:Bw wr w1):SD W B ao ln cap s w w1 b x:=
 h.step (QaO h.src hb) ⟨hb.os,hb.tape,hb.output,hb.size,fun j hj _=>hb.block j hj⟩
theorem SD.set (h:SD W B ao ln cap s w wr b x) {x':Sx} (j:Nat) (u:Value) (e:(Qa0 x).setIfInBounds j u=Qa0 x') (ok:x'.Ok):SD W B ao ln cap s w (wr.setCell ⟨b,j,none⟩ u) b x':=by
 have l1:=h.lb;have l2:=h.hs;have hb:Below b wr (wr.setCell ⟨b,j,none⟩ u):=(Below.refl b wr).setCell oE u;refine ⟨?_,(hb.block _ l1).trans h.res,Qbk h.src hb oB,QaC h.gr (hb.mono oB),h.lb,h.hs,ok⟩;rw [<- e];exact ZZl wr b j _ _ u h.row
end
theorem QaB {x:Sx} (h:w.heap[b]?=some (.cells (Qa0 x) T (0,0))):w.cell? ⟨b,0,none⟩=some (.int .i64 x.k)/\w.cell? ⟨b,1,none⟩=some (.string x.se)/\w.cell? ⟨b,2,none⟩=some (.int .i64 x.v)/\w.cell? ⟨b,3,none⟩=some (.string x.wd)/\w.cell? ⟨b,4,none⟩=some (.int .u64 x.wt)/\w.cell? ⟨b,5,none⟩=some (.bool x.tm)/\w.cell? ⟨b,6,none⟩=some (.int .i64 x.ti):=
 ⟨QgP h 0 rfl,QgP h 1 rfl,QgP h 2 rfl,QgP h 3 rfl,QgP h 4 rfl,QgP h 5 rfl,QgP h 6 rfl⟩
theorem Qcm {v:Int} (h0:-1<=v) (h1:v<=2000000000):I64 v:=by unfold I64;omega
def QqX (W:World) (B:Nat) (ao:Option Addr) (ln cap s:Nat) (w:World) (e:Ending) (w':World):Prop:=∃ x:Sx,e=.returned (.agg (Qa0 x))/\x.Ok/\Src W B ao ln cap s w'/\w.grownBy w' (some s)
theorem QgJ (hc:Qbi W B ao ln) (h:Src W B ao ln cap s w) :
  Calls prog 139 #[.pointer (some ⟨s,0,none⟩)] w fun e w'=>QqX W B ao ln cap s w e w':=by
 have HC:=Qaa hc;have hs:=Qcv h;have a0:Bw w (w.alloc (.cells zAa 85)):=bAA;have an:=Qaa (QaO h a0);have am:=Qaa (ZZk w (.cells zAa 85));have aq:Hid (w.grownBy (w.alloc (.cells zAa 85)) (some s)):=(⟨a0.os,a0.tape,a0.output,a0.size,fun j hj _=>a0.block j hj⟩:w.grownBy _ (some s));have aK:(w.alloc (.cells zAa 85)).heap.size=w.heap.size+1:=oE
 clear hc h a0;go_enter func139,ntmps139;go_wp2_with fail;generalize w.alloc _=W0 at an am aq aK ⊢;refine (c_n HC an 4 oB).mono ?_;rintro e w1 ⟨k0,rfl,k1,k2,_,aB,ay⟩;have k2:=k2 oB;have aW:IntKind.i64.wrap (1+k0)=1+k0:=ZZi _ ⟨by omega,by omega⟩;have au:=Qaa aB;have ax:=Qaa ay;clear aB ay;go_wp2_with fail;refine (Qi0 HC au).mono ?_;rintro e w2 ⟨se,rfl,aV,aM,aC⟩;have aE:=Qaa aM;have aF:=Qaa (ax.trans aC);clear aM aC au ax;go_wp2_with fail;refine (Qf1 HC aE 2 oB).mono ?_;rintro e w3 ⟨tm,rfl,aw,aD⟩;have ak:=Qaa (aF.trans aD);have a3:Bw w3 (w3.alloc (.cells (Qa0 ⟨1+k0,se,0,⟨#[]⟩,1,tm,0⟩) 85)):=bAA;have z3:=ak.size
 have HD:Hid (SD W B ao ln cap s w (w3.alloc (.cells (Qa0 ⟨1+k0,se,0,⟨#[]⟩,1,tm,0⟩) 85)) w3.heap.size ⟨1+k0,se,0,⟨#[]⟩,1,tm,0⟩):=by
  refine Qaa ⟨heap_alloc_new w3 _,?_,QaO aw a3,QaC (aq.trans ak) (a3.mono oB),by omega,hs,⟨Qcm (by show -1<=1+k0;omega) (by show 1+k0<=_;omega),Qcm (by show (-1:Int)<=0;omega) (by show (0:Int)<=_;omega),by show U64 1;unfold U64;omega,Qcm (by show (-1:Int)<=0;omega) (by show (0:Int)<=_;omega),by show se.size<=_;unfold maxLen;omega,by show (⟨#[]⟩:ByteArray).size<=_;decide⟩⟩;exact (a3.block _ oB).trans ((ak.block _ oB (fun e=>by cases e;omega)).trans am)
 clear aw aD a3 aE aF ak an am aq aK;go_upto_if 13 with fail;generalize w3.alloc _=W4 at HD ⊢;generalize w3.heap.size=b at HD z3 ⊢;generalize hx0:(⟨1+k0,se,0,⟨#[]⟩,1,tm,0⟩:Sx)=x at HD;have aN:tm=x.tm:=by rw [<- hx0]
 subst aN;clear hx0 z3;obtain ⟨x0,x1,x2,x3,x4,x5,x6⟩:=QaB HD.row
 go_cut [3] (fun p w'=>p=.pointer (some ⟨b,0,none⟩)/\∃ x,Hid (SD W B ao ln cap s w w' b x))
 case first=>
  cases ht:x.tm with
  | false=>
   rw [ht] at x5;go_wp2;go_meet;exact ⟨rfl,x,HD⟩
  | true=>
   rw [ht] at x5;go_wp2_with fail;refine (c_n HC HD.src 60 oB).mono ?_;rintro e w5 ⟨v5,rfl,a5,c5,_,ac,ab⟩;have c5:=c5 oB;have aa:=Qaa (HD.step ac ab);clear ac ab x0 x1 x2 x3 x4 x5 x6;obtain ⟨x0,x1,x2,x3,x4,x5,x6⟩:=QaB aa.row;obtain ⟨f0,f1,f2,f3,f4,f5,f6⟩:=fA7 aa.row;go_wp2;go_meet;exact ⟨rfl,⟨x.k,x.se,x.v,x.wd,x.wt,x.tm,v5⟩,Qaa (aa.set 6 (.int .i64 v5) rfl ⟨aa.ok.k,aa.ok.v,aa.ok.wt,(show I64 v5 from Qcm oB oB),aa.ok.se,aa.ok.wd⟩)⟩
 case rest=>
  clear HD x0 x1 x2 x3 x4 x5 x6;obtain ⟨rfl,x,HD⟩:=hcut;obtain ⟨w6,aH⟩:∃ w6,wc=w6:=⟨_,rfl⟩;rw [aH] at HD ⊢;clear aH;obtain ⟨x0,x1,x2,x3,x4,x5,x6⟩:=QaB HD.row;go_upto_if 19 with fail
  go_cut [3] (fun p w'=>p=.pointer (some ⟨b,0,none⟩)/\∃ x,Hid (SD W B ao ln cap s w w' b x))
  case first=>
   by_cases h4:x.k=4
   ·have ar:(x.k == 4)=true:=by simp [h4]
    clear h4;go_wp2_with fail;refine (QdQ HC HD.src 40 oR oB oB oF).mono ?_;rintro e w5 ⟨u5,rfl,aQ,ac,ab⟩;have aa:=Qaa (HD.step ac ab);clear ac ab x0 x1 x2 x3 x4 x5 x6;obtain ⟨x0,x1,x2,x3,x4,x5,x6⟩:=QaB aa.row;obtain ⟨f0,f1,f2,f3,f4,f5,f6⟩:=fA7 aa.row;go_wp2;go_meet;exact ⟨rfl,⟨x.k,x.se,x.v,u5,x.wt,x.tm,x.ti⟩,Qaa (aa.set 3 (.string u5) rfl ⟨aa.ok.k,aa.ok.v,aa.ok.wt,aa.ok.ti,aa.ok.se,(show u5.size<=_ by unfold maxLen;omega)⟩)⟩
   ·have ar:(x.k == 4)=false:=ZZf.2 h4
    clear h4;go_wp2_with fail;refine (Qsn HC HD.src).mono ?_;rintro e w5 ⟨v5,rfl,al,ac,ab⟩;have aa:=Qaa (HD.step ac ab);clear ac ab x0 x1 x2 x3 x4 x5 x6;exact mBz
  case rest=>
   clear HD x0 x1 x2 x3 x4 x5 x6;obtain ⟨rfl,x,HD⟩:=hcut;obtain ⟨w7,aJ⟩:∃ w7,wc=w7:=⟨_,rfl⟩;rw [aJ] at HD ⊢;clear aJ;obtain ⟨x0,x1,x2,x3,x4,x5,x6⟩:=QaB HD.row;go_upto_region 7 with fail
   go_cut [3,38] (fun p c w'=>p=.pointer (some ⟨b,0,none⟩)/\(∃ bb,c=.bool bb)/\Hid (SD W B ao ln cap s w w' b x))
   case first=>
    by_cases h4:x.k=4
    ·have ar:(x.k != 4)=false:=by simp [h4]
     clear h4;go_wp2;go_meet;exact ⟨rfl,⟨false,rfl⟩,HD⟩
    ·have ar:(x.k != 4)=true:=by simp [h4]
     by_cases h2:x.k=2
     ·have aO:(x.k != 2)=false:=by simp [h2]
      clear h4 h2;go_wp2;go_meet;exact ⟨rfl,⟨false,rfl⟩,HD⟩
     ·have aO:(x.k != 2)=true:=by simp [h2]
      clear h4 h2;go_wp2_with fail;refine (Qf1 HC HD.src 3 oB).mono ?_;rintro e w4 ⟨bb,rfl,ai,ah⟩;have ae:=Qaa (HD.step ai ah);clear ai ah x0 x1 x2 x3 x4 x5 x6
      cases bb with
      | false=>
       go_wp2;go_meet;exact ⟨rfl,⟨false,rfl⟩,ae⟩
      | true=>
       go_wp2;go_meet;exact ⟨rfl,⟨true,rfl⟩,ae⟩
   case rest=>
    obtain ⟨rfl,⟨bb,rfl⟩,ae⟩:=hcut;obtain ⟨w4,aG⟩:∃ w4,wc=w4:=⟨_,rfl⟩;rw [aG] at ae ⊢;clear aG HD x0 x1 x2 x3 x4 x5 x6;go_upto_if 38 with fail
    go_cut [3] (fun p w'=>p=.pointer (some ⟨b,0,none⟩)/\∃ x,Hid (SD W B ao ln cap s w w' b x))
    case first=>
      cases bb with
      | false=>
       go_wp2;go_meet;exact ⟨rfl,x,ae⟩
      | true=>
       go_wp2_with fail;refine (c_n HC ae.src 20 oB).mono ?_;rintro e w5 ⟨v5,rfl,a5,c5,_,ac,ab⟩;have c5:=c5 oB;have aa:=Qaa (ae.step ac ab);have aU:IntKind.i64.wrap (1+v5)=1+v5:=ZZi _ ⟨by omega,by omega⟩;have aS:IntKind.u64.wrap (1+v5)=1+v5:=by rw [IntKind.wrap_u64];omega
       clear ac ab;obtain ⟨x0,x1,x2,x3,x4,x5,x6⟩:=QaB aa.row;obtain ⟨f0,f1,f2,f3,f4,f5,f6⟩:=fA7 aa.row;go_wp2;go_meet;exact ⟨rfl,⟨x.k,x.se,x.v,x.wd,1+v5,x.tm,x.ti⟩,Qaa (aa.set 4 (.int .u64 (1+v5)) rfl ⟨aa.ok.k,aa.ok.v,(show U64 (1+v5) by unfold U64;omega),aa.ok.ti,aa.ok.se,aa.ok.wd⟩)⟩
    case rest=>
     clear ae;obtain ⟨rfl,x,HD⟩:=hcut;obtain ⟨w8,az⟩:∃ w8,wc=w8:=⟨_,rfl⟩;rw [az] at HD ⊢;clear az;obtain ⟨x0,x1,x2,x3,x4,x5,x6⟩:=QaB HD.row;go_wp2_with fail;refine (Qf1 HC HD.src 20 oB).mono ?_;rintro e w4 ⟨bb,rfl,ai,ah⟩;have ae:=Qaa (HD.step ai ah);clear ai ah x0 x1 x2 x3 x4 x5 x6;go_upto_if 45 with fail
     go_cut [3] (fun p w'=>p=.pointer (some ⟨b,0,none⟩)/\∃ x,Hid (SD W B ao ln cap s w w' b x))
     case first=>
      cases bb with
      | false=>
       go_wp2;go_meet;exact ⟨rfl,x,ae⟩
      | true=>
       go_wp2_with fail;refine (c_n HC ae.src 6 oB).mono ?_;rintro e w9 ⟨v9,rfl,a9,c9,_,aI,aA⟩;have c9:=c9 oB;have ad:=Qaa (ae.step aI aA);clear aI aA;have h9:v9=0∨v9=1∨v9=2∨v9=3∨v9=4∨v9=5:=oB
       clear a9 c9;rcases h9 with rfl | rfl | rfl | rfl | rfl | rfl
       ·go_wp2_with fail
        refine (c_n HC ad.src 6 oB).mono ?_;rintro e w5 ⟨v5,rfl,a5,c5,_,ac,ab⟩;have c5:=c5 oB;have aa:=Qaa (ad.step ac ab);clear ac ab;obtain ⟨x0,x1,x2,x3,x4,x5,x6⟩:=QaB aa.row;obtain ⟨f0,f1,f2,f3,f4,f5,f6⟩:=fA7 aa.row;go_wp2;go_meet;exact ⟨rfl,⟨v5,x.se,x.v,x.wd,x.wt,x.tm,x.ti⟩,Qaa (aa.set 0 (.int .i64 v5) rfl ⟨(show I64 v5 from Qcm oB oB),aa.ok.v,aa.ok.wt,aa.ok.ti,aa.ok.se,aa.ok.wd⟩)⟩
       ·go_wp2_with fail
        refine (QdQ HC ad.src 40 oR oB oB oF).mono ?_;rintro e w5 ⟨u5,rfl,aQ,ac,ab⟩;have aa:=Qaa (ad.step ac ab);clear ac ab;obtain ⟨x0,x1,x2,x3,x4,x5,x6⟩:=QaB aa.row;obtain ⟨f0,f1,f2,f3,f4,f5,f6⟩:=fA7 aa.row;go_wp2;go_meet;exact ⟨rfl,⟨x.k,u5,x.v,x.wd,x.wt,x.tm,x.ti⟩,Qaa (aa.set 1 (.string u5) rfl ⟨aa.ok.k,aa.ok.v,aa.ok.wt,aa.ok.ti,(show u5.size<=_ by unfold maxLen;omega),aa.ok.wd⟩)⟩
       ·go_wp2_with fail
        have aL:Bw w9 (w9.alloc (.cells zAk 33)):=bAA;have HL:=Qaa (ZZk w9 (.cells zAk 33));have af:=Qaa (ad.past aL);have ap:(w9.alloc (.cells zAk 33)).heap.size=w9.heap.size+1:=oE
        have aP:=(ZZc.1 ad.row).1;have aR:=Qcv ad.src;clear aL;generalize w9.alloc _=WL at HL af ap ⊢;refine (c_n HC af.src 4 oB).mono ?_;rintro e w5 ⟨v5,rfl,a5,c5,_,ac,ab⟩;have c5:=c5 oB;have aa:=Qaa (af.step ac ab);have ag:=Qaa ((ab.block w9.heap.size oB (fun e=>by cases e;omega)).trans HL);clear ac ab;obtain ⟨l0,l1,l2,l3⟩:=cA4 ag;obtain ⟨x0,x1,x2,x3,x4,x5,x6⟩:=QaB aa.row;obtain ⟨f0,f1,f2,f3,f4,f5,f6⟩:=fA7 aa.row;have h5:v5=0∨v5=1∨v5=2∨v5=3:=oB
        clear a5 c5;rcases h5 with rfl | rfl | rfl | rfl
        ·go_wp2
         go_meet;exact ⟨rfl,⟨x.k,x.se,x.v,x.wd,0,x.tm,x.ti⟩,Qaa (aa.set 4 (.int .u64 0) rfl ⟨aa.ok.k,aa.ok.v,(show U64 0 by unfold U64;omega),aa.ok.ti,aa.ok.se,aa.ok.wd⟩)⟩
        ·go_wp2
         go_meet;exact ⟨rfl,⟨x.k,x.se,x.v,x.wd,1000000,x.tm,x.ti⟩,Qaa (aa.set 4 (.int .u64 1000000) rfl ⟨aa.ok.k,aa.ok.v,(show U64 1000000 by unfold U64;omega),aa.ok.ti,aa.ok.se,aa.ok.wd⟩)⟩
        ·go_wp2
         go_meet;exact ⟨rfl,⟨x.k,x.se,x.v,x.wd,1000001,x.tm,x.ti⟩,Qaa (aa.set 4 (.int .u64 1000001) rfl ⟨aa.ok.k,aa.ok.v,(show U64 1000001 by unfold U64;omega),aa.ok.ti,aa.ok.se,aa.ok.wd⟩)⟩
        ·go_wp2
         go_meet;exact ⟨rfl,⟨x.k,x.se,x.v,x.wd,777777,x.tm,x.ti⟩,Qaa (aa.set 4 (.int .u64 777777) rfl ⟨aa.ok.k,aa.ok.v,(show U64 777777 by unfold U64;omega),aa.ok.ti,aa.ok.se,aa.ok.wd⟩)⟩
       ·go_wp2_with fail
        have aL:Bw w9 (w9.alloc (.cells zAg 2)):=bAA;have HL:=Qaa (ZZk w9 (.cells zAg 2));have af:=Qaa (ad.past aL);have ap:(w9.alloc (.cells zAg 2)).heap.size=w9.heap.size+1:=oE
        have aP:=(ZZc.1 ad.row).1;have aR:=Qcv ad.src;clear aL;generalize w9.alloc _=WL at HL af ap ⊢;refine (c_n HC af.src 3 oB).mono ?_;rintro e w5 ⟨v5,rfl,a5,c5,_,ac,ab⟩;have c5:=c5 oB;have aa:=Qaa (af.step ac ab);have ag:=Qaa ((ab.block w9.heap.size oB (fun e=>by cases e;omega)).trans HL);clear ac ab;have l0:=Qaf ag 0 rfl;have l1:=Qaf ag 1 rfl;have l2:=Qaf ag 2 rfl;obtain ⟨x0,x1,x2,x3,x4,x5,x6⟩:=QaB aa.row;obtain ⟨f0,f1,f2,f3,f4,f5,f6⟩:=fA7 aa.row;have h5:v5=0∨v5=1∨v5=2:=oB
        clear a5 c5;rcases h5 with rfl | rfl | rfl
        ·go_wp2
         go_meet;exact ⟨rfl,⟨x.k,x.se,x.v,x.wd,x.wt,x.tm,(-1)⟩,Qaa (aa.set 6 (.int .i64 (-1)) rfl ⟨aa.ok.k,aa.ok.v,aa.ok.wt,(show I64 (-1) by unfold I64;omega),aa.ok.se,aa.ok.wd⟩)⟩
        ·go_wp2
         go_meet;exact ⟨rfl,⟨x.k,x.se,x.v,x.wd,x.wt,x.tm,1000000000⟩,Qaa (aa.set 6 (.int .i64 1000000000) rfl ⟨aa.ok.k,aa.ok.v,aa.ok.wt,(show I64 1000000000 by unfold I64;omega),aa.ok.se,aa.ok.wd⟩)⟩
        ·go_wp2
         go_meet;exact ⟨rfl,⟨x.k,x.se,x.v,x.wd,x.wt,x.tm,1000000001⟩,Qaa (aa.set 6 (.int .i64 1000000001) rfl ⟨aa.ok.k,aa.ok.v,aa.ok.wt,(show I64 1000000001 by unfold I64;omega),aa.ok.se,aa.ok.wd⟩)⟩
       ·have aa:=ad
        obtain ⟨x0,x1,x2,x3,x4,x5,x6⟩:=QaB aa.row;obtain ⟨f0,f1,f2,f3,f4,f5,f6⟩:=fA7 aa.row;go_wp2;go_meet;exact ⟨rfl,⟨x.k,x.se,x.v,⟨#[119]⟩,x.wt,x.tm,x.ti⟩,Qaa (aa.set 3 (.string ⟨#[119]⟩) rfl ⟨aa.ok.k,aa.ok.v,aa.ok.wt,aa.ok.ti,aa.ok.se,(show (⟨#[119]⟩:ByteArray).size<=_ by decide)⟩)⟩
       ·go_wp2_with fail
        refine (Qmx HC ad.src).mono ?_;rintro e w5 ⟨v5,rfl,al,ac,ab⟩;have aa:=Qaa (ad.step ac ab);clear ac ab;exact mBz
     case rest=>
      clear HD ae;obtain ⟨rfl,x,HD⟩:=hcut;obtain ⟨av,aj⟩:∃ av,wc=av:=⟨_,rfl⟩;rw [aj] at HD ⊢;clear aj;obtain ⟨x0,x1,x2,x3,x4,x5,x6⟩:=QaB HD.row;obtain ⟨z0,z1,z2,z3,z4,z5,z6⟩:=cA7 HD.res;obtain ⟨f0,f1,f2,f3,f4,f5,f6⟩:=fA7 HD.res;have aT:¬ b=w.heap.size:=by have:=HD.lb;omega
      go_wp2;refine bodyPost_ret (v:=.agg (Qa0 x)) (by simp [results,results139,go_sem,z0,z1,z2,z3,z4,z5,z6]) rfl ⟨x,rfl,HD.ok,?_,?_⟩
      ·refine Qbk (K:=w.heap.size) HD.src ?_ hs
       repeat (refine Below.setCell ?_ oE _)
       exact ZZb _ _
      ·refine QaC HD.gr ?_
       repeat (refine Below.setCell ?_ oE _)
       exact ZZb _ _
end
section
theorem SD.set7 {x y:Sx} (h:SD W B ao ln cap s w wr b x) (oy:y.Ok):SD W B ao ln cap s w (((((((wr.setCell ⟨b,0,none⟩ (.int .i64 y.k)).setCell ⟨b,1,none⟩ (.string y.se)).setCell ⟨b,2,none⟩ (.int .i64 y.v)).setCell ⟨b,3,none⟩ (.string y.wd)).setCell ⟨b,4,none⟩ (.int .u64 y.wt)).setCell ⟨b,5,none⟩ (.bool y.tm)).setCell ⟨b,6,none⟩ (.int .i64 y.ti)) b y:=by
 have h0:=h.set (x':=⟨y.k,x.se,x.v,x.wd,x.wt,x.tm,x.ti⟩) 0 (.int .i64 y.k) rfl ⟨oy.k,h.ok.v,h.ok.wt,h.ok.ti,h.ok.se,h.ok.wd⟩;have h1:=h0.set (x':=⟨y.k,y.se,x.v,x.wd,x.wt,x.tm,x.ti⟩) 1 (.string y.se) rfl ⟨oy.k,h.ok.v,h.ok.wt,h.ok.ti,oy.se,h.ok.wd⟩;have h2:=h1.set (x':=⟨y.k,y.se,y.v,x.wd,x.wt,x.tm,x.ti⟩) 2 (.int .i64 y.v) rfl ⟨oy.k,oy.v,h.ok.wt,h.ok.ti,oy.se,h.ok.wd⟩;have h3:=h2.set (x':=⟨y.k,y.se,y.v,y.wd,x.wt,x.tm,x.ti⟩) 3 (.string y.wd) rfl ⟨oy.k,oy.v,h.ok.wt,h.ok.ti,oy.se,oy.wd⟩;have h4:=h3.set (x':=⟨y.k,y.se,y.v,y.wd,y.wt,x.tm,x.ti⟩) 4 (.int .u64 y.wt) rfl ⟨oy.k,oy.v,oy.wt,h.ok.ti,oy.se,oy.wd⟩;have h5:=h4.set (x':=⟨y.k,y.se,y.v,y.wd,y.wt,y.tm,x.ti⟩) 5 (.bool y.tm) rfl ⟨oy.k,oy.v,oy.wt,h.ok.ti,oy.se,oy.wd⟩;have h6:=h5.set (x':=⟨y.k,y.se,y.v,y.wd,y.wt,y.tm,y.ti⟩) 6 (.int .i64 y.ti) rfl ⟨oy.k,oy.v,oy.wt,oy.ti,oy.se,oy.wd⟩;exact h6
theorem QlL (hc:Qbi W B ao ln) (h:Src W B ao ln cap s w) :
  Calls prog 85 #[.pointer (some ⟨s,0,none⟩)] w fun e w'=>QqX W B ao ln cap s w e w':=by
 have HC:=Qaa hc;have hs:=Qcv h;have a0:Bw w (w.alloc (.cells zAa 85)):=bAA;have an:=Qaa (QaO h a0);have al:=Qaa (ZZk w (.cells zAa 85));have ap:Hid (w.grownBy (w.alloc (.cells zAa 85)) (some s)):=(⟨a0.os,a0.tape,a0.output,a0.size,fun j hj _=>a0.block j hj⟩:w.grownBy _ (some s));have aC:(w.alloc (.cells zAa 85)).heap.size=w.heap.size+1:=oE
 clear hc h a0;go_enter func85,ntmps85;go_wp2_with fail;generalize w.alloc _=W0 at an al ap aC ⊢;refine (QgJ HC an).mono ?_;rintro e w3 ⟨x,rfl,ox,ar,af⟩;have a3:Bw w3 (w3.alloc (.cells (Qa0 x) 85)):=bAA;have z3:=af.size
 have HD:Hid (SD W B ao ln cap s w (w3.alloc (.cells (Qa0 x) 85)) w3.heap.size x):=by
  refine Qaa ⟨ZZk w3 _,?_,QaO ar a3,QaC (ap.trans af) (a3.mono oB),by omega,hs,ox⟩;exact (a3.block _ oB).trans ((af.block _ oB (fun e=>by cases e;omega)).trans al)
 clear ar af a3 an al ap aC ox;go_upto_block 0 with fail;generalize w3.alloc _=W4 at HD ⊢;generalize w3.heap.size=b at HD z3 ⊢;clear z3
 go_cut [3] (fun p w'=>p=.pointer (some ⟨b,0,none⟩)/\∃ x,Hid (SD W B ao ln cap s w w' b x))
 case first=>
  go_wp2_with fail
  go_loopw [4] (fun i wr=>∃ (k:Nat) (y:Sx),k<=5/\i=.int .i64 k/\Hid (SD W B ao ln cap s w wr b y)) (fun i wr=>5 - (Go.RowKit.intOf i).toNat)
  case atStart=>exact ⟨0,x,by omega,rfl,HD⟩
  case round=>
   clear HD;obtain ⟨k,x,hk,rfl,HD⟩:=hrel;by_cases aI:k<5
   ·have am:(k:Int)<5:=by omega
    obtain ⟨x0,x1,x2,x3,x4,x5,x6⟩:=QaB HD.row;go_wp2_with fail;clear x0 x1 x2 x3 x4 x5 x6;refine (Qck x.k x.se x.v x.wd x.wt x.tm x.ti HD.ok.se HD.ok.wd).mono ?_;rintro e w5 ⟨rfl,av⟩;have aj:=Qaa (HD.past av);clear av HD
    cases hB:QbC x.k x.se x.v x.wd x.wt x.tm x.ti with
    | true=>
     go_wp2;go_meet;exact ⟨rfl,x,aj⟩
    | false=>
     go_wp2_with fail;refine (QgJ HC aj.src).mono ?_;rintro e w6 ⟨y,rfl,oy,ax,aq⟩;have ak:=Qaa (aj.step ax aq);have aE:=Qaa (ak.set7 oy);clear ax aq;obtain ⟨x0,x1,x2,x3,x4,x5,x6⟩:=QaB ak.row;obtain ⟨f0,f1,f2,f3,f4,f5,f6⟩:=fA7 ak.row;go_wp2;go_roundw
     case rel=>exact ⟨k+1,y,by omega,by go_num,aE⟩
     case measure=>simp [zI];omega
   ·have am:¬ ((k:Int)<5):=by omega
    go_wp2;go_meet;exact ⟨rfl,x,HD⟩
 case rest=>
  clear HD;obtain ⟨rfl,x,HD⟩:=hcut;obtain ⟨w7,aA⟩:∃ w7,wc=w7:=⟨_,rfl⟩;rw [aA] at HD ⊢;clear aA;go_wp2_with fail;refine (Qf1 HC HD.src 12 oB).mono ?_;rintro e w8 ⟨bb,rfl,au,ay⟩;have aa:=Qaa (HD.step au ay);clear au ay HD
  cases bb with
  | true=>
   have HD:=aa;clear aa;exact mA1
  | false=>
   obtain ⟨kd,aD⟩:∃ kd:Int,1+(x.se.size:Int) % 4=kd:=⟨_,rfl⟩;have aH:1<=kd/\kd<=4:=oB
   have aL:IntKind.i64.wrap (1+(x.se.size:Int) % 4)=kd:=by rw [aD];exact ZZi _ ⟨by omega,by omega⟩
   have ag:=aa.ok.se;unfold maxLen at ag;obtain ⟨x0,x1,x2,x3,x4,x5,x6⟩:=QaB aa.row;by_cases ae:x.k=kd
   ·have ah:(x.k == kd)=true:=by simp [ae]
    clear x0 x1 x2 x3 x4 x5 x6;have HD:=aa;clear aa ae;exact mA1
   ·have ah:(x.k == kd)=false:=ZZf.2 ae
    clear ae;clear x0 x1 x2 x3 x4 x5 x6;obtain ⟨x0,x1,x2,x3,x4,x5,x6⟩:=QaB aa.row;obtain ⟨f0,f1,f2,f3,f4,f5,f6⟩:=fA7 aa.row;have i0:I64 kd:=Qcm oB oB;by_cases h4:kd=4
    ·subst h4
     go_wp2_with fail;clear x0 x1 x2 x3 x4 x5 x6 f0 f1 f2 f3 f4 f5 f6;have ai:=Qaa (((aa.set (x':=⟨4,x.se,x.v,x.wd,x.wt,x.tm,x.ti⟩) 0 (.int .i64 4) rfl ⟨i0,aa.ok.v,aa.ok.wt,aa.ok.ti,aa.ok.se,aa.ok.wd⟩).set (x':=⟨4,x.se,x.v,⟨#[]⟩,x.wt,x.tm,x.ti⟩) 3 (.string ⟨#[]⟩) rfl ⟨i0,aa.ok.v,aa.ok.wt,aa.ok.ti,aa.ok.se,OO⟩).set (x':=⟨4,x.se,0,⟨#[]⟩,x.wt,x.tm,x.ti⟩) 2 (.int .i64 0) rfl ⟨i0,(show I64 (0:Int) from Qcm oB oB),aa.ok.wt,aa.ok.ti,aa.ok.se,OO⟩);clear aa;refine (c_n HC ai.src 5 oB).mono ?_;rintro e w9 ⟨v9,rfl,a9,c9,_,az,aw⟩;have c9:=c9 oB;have aB:=Qaa (ai.step az aw);clear az aw ai;obtain ⟨m9,rfl⟩:∃ m:Nat,v9=(m:Int):=⟨v9.toNat,by omega⟩;go_wp2_with fail;refine (c_decT m9 oB _).mono ?_;rintro e aF ⟨u,rfl,hu,ac⟩;have ab:=Qaa (aB.past ac);clear ac aB;have aG:(({ data:=#[119] }:ByteArray) ++ u).size<=31:=by rw [ByteArray.size_append];show 1+u.size<=31;omega
     obtain ⟨x0,x1,x2,x3,x4,x5,x6⟩:=QaB ab.row;obtain ⟨f0,f1,f2,f3,f4,f5,f6⟩:=fA7 ab.row;go_upto_region 17 with fail;clear x0 x1 x2 x3 x4 x5 x6 f0 f1 f2 f3 f4 f5 f6;have HD:=Qaa ((ab.set (x':=⟨4,x.se,0,{ data:=#[119] } ++ u,x.wt,x.tm,x.ti⟩) 3 (.string ({ data:=#[119] } ++ u)) rfl ⟨i0,ab.ok.v,ab.ok.wt,ab.ok.ti,ab.ok.se,OL⟩).set (x':=⟨4,x.se,0,{ data:=#[119] } ++ u,1,x.tm,x.ti⟩) 4 (.int .u64 1) rfl ⟨i0,ab.ok.v,(show U64 (1:Int) by unfold U64;omega),ab.ok.ti,ab.ok.se,OL⟩);clear ab;generalize World.setCell _ _ _=wz at HD ⊢;generalize (⟨4,x.se,0,{ data:=#[119] } ++ u,1,x.tm,x.ti⟩:Sx)=y at HD;exact mAk
    ·have aJ:(kd == 4)=false:=ZZf.2 h4
     by_cases h2:kd=2
     ·subst h2
      clear h4;go_upto_region 17 with fail;clear x0 x1 x2 x3 x4 x5 x6 f0 f1 f2 f3 f4 f5 f6;have HD:=Qaa (((aa.set (x':=⟨2,x.se,x.v,x.wd,x.wt,x.tm,x.ti⟩) 0 (.int .i64 2) rfl ⟨i0,aa.ok.v,aa.ok.wt,aa.ok.ti,aa.ok.se,aa.ok.wd⟩).set (x':=⟨2,x.se,x.v,⟨#[]⟩,x.wt,x.tm,x.ti⟩) 3 (.string ⟨#[]⟩) rfl ⟨i0,aa.ok.v,aa.ok.wt,aa.ok.ti,aa.ok.se,OO⟩).set (x':=⟨2,x.se,x.v,⟨#[]⟩,1,x.tm,x.ti⟩) 4 (.int .u64 1) rfl ⟨i0,aa.ok.v,(show U64 (1:Int) by unfold U64;omega),aa.ok.ti,aa.ok.se,OO⟩);clear aa;generalize World.setCell _ _ _=wz at HD ⊢;generalize (⟨2,x.se,x.v,⟨#[]⟩,1,x.tm,x.ti⟩:Sx)=y at HD;exact mAk
     ·have aK:(kd == 2)=false:=ZZf.2 h2
      clear h4 h2;go_upto_region 17 with fail;clear x0 x1 x2 x3 x4 x5 x6 f0 f1 f2 f3 f4 f5 f6;have HD:=Qaa ((aa.set (x':=⟨kd,x.se,x.v,x.wd,x.wt,x.tm,x.ti⟩) 0 (.int .i64 kd) rfl ⟨i0,aa.ok.v,aa.ok.wt,aa.ok.ti,aa.ok.se,aa.ok.wd⟩).set (x':=⟨kd,x.se,x.v,⟨#[]⟩,x.wt,x.tm,x.ti⟩) 3 (.string ⟨#[]⟩) rfl ⟨i0,aa.ok.v,aa.ok.wt,aa.ok.ti,aa.ok.se,OO⟩);clear aa;generalize World.setCell _ _ _=wz at HD ⊢;generalize (⟨kd,x.se,x.v,⟨#[]⟩,x.wt,x.tm,x.ti⟩:Sx)=y at HD;exact mAk
end
variable {L:List ByteArray}
section
theorem Quu (h:Src W B ao ln cap s w) (hb:Below K w w') (hs:s<K):Src W B ao ln cap s w':=by
 exact mBs
theorem Qo1 (h:w.grownBy w1 r) (hb:Below w.heap.size w1 w2):w.grownBy w2 r:=
 ⟨hb.os.trans h.os,hb.tape.trans h.tape,hb.output.trans h.output,Nat.le_trans h.size hb.size,fun k hk hne=>by rw [hb.block k hk];exact h.block k hk hne⟩
theorem QpJ {z n':Nat} {xs xs':List Value} (h:w.ownsRow B T z v n xs) (e:n=n') (e2:xs=xs'):w.ownsRow B T z v n' xs':=by subst e e2;exact h
structure Mem (W:World) (B:Nat) (ao:Option Addr) (ln cap s:Nat) (w wr:World) (v:Value) (L:List ByteArray):Prop where
 own:wr.ownsRow w.heap.size 9 1 v L.length (L.map Value.string)
 sz:∀ u∈L,u.size<=10
 src:Src W B ao ln cap s wr
 gr:w.grownBy wr (some s)
theorem Mem.ne (h:Mem W B ao ln cap s w wr v L) (hs:s<w.heap.size):v.ownBlock=none∨v.ownBlock≠some s:=by
 cases e:v.ownBlock with
 | none=>exact .inl rfl
 | some k=>
  right
  have:=(h.own.lt k e).1;intro q;cases q;omega
theorem Mem.call (h:Mem W B ao ln cap s w wr v L) (hs:s<w.heap.size) (hS:Src W B ao ln cap s w2) (hg:wr.grownBy w2 (some s)):Mem W B ao ln cap s w w2 v L:=
 ⟨h.own.kept hg (h.ne hs),h.sz,hS,h.gr.trans hg⟩
theorem Mem.put (h:Mem W B ao ln cap s w wr v L) (hs:s<w.heap.size) (hu:u.size<=10)
  (ho:w2.ownsRow w.heap.size 9 1 v' (L.length+1) (L.map Value.string ++ [.string u])) (hb:Below w.heap.size wr w2):Mem W B ao ln cap s w w2 v' (L ++ [u]):=
 ⟨QpJ ho oE oE,fun x hx=>by rcases List.mem_append.1 hx with h1 | h1;exact h.sz x h1;simp at h1;subst h1;exact hu,Quu h.src hb hs,Qo1 h.gr hb⟩
theorem QhT {g c:Nat} (h:w.ownsRow B 9 1 (.slice (some ⟨g,0,none⟩) n c) n (L.map Value.string)) (hu:L[0]?=some u):w.cell? ⟨g,0,none⟩=some (.string u):=by
 have hl:=(ZZd.1 hu).1;have hn:=h.1;rw [yA] at hn;rw [h.cellAt 0 oB];simp [hu]
theorem Qk5 (hc:Qbi W B ao ln) (h:Src W B ao ln cap s w) :
  Calls prog 44 #[.pointer (some ⟨s,0,none⟩)] w fun e w'=>∃ v L,e=.returned v/\L.length<=14/\Mem W B ao ln cap s w w' v L:=by
 obtain ⟨i0,hi,ai,aj,ah⟩:=info_parts QgO;have hs:=Qcv h;have HS:=Qaa h;clear h;go_enter func44,ntmps44;go_wp2
 go_loopw [3,4] (fun v i wr=>∃ (k:Nat) (L:List ByteArray),k<=6/\i=.int .i64 k/\L.length<=k/\Mem W B ao ln cap s w wr v L) (fun v i wr=>6 - (Go.RowKit.intOf i).toNat)
 case atStart=>exact ⟨0,[],Nat.zero_le _,rfl,Nat.le_refl _,⟨World.ownsRow_made w #[] 0 (Nat.le_refl _) (Nat.zero_le _) rfl,fun u hu=>by simp at hu,QaO HS bAA,World.grownBy_alloc _ _ _⟩⟩
 case round=>
  obtain ⟨k,L,hk,rfl,aY,hM⟩:=hrel;have HM:=Qaa hM;have aL:=hM.gr.size;clear hM;by_cases aX:k<6
  ·go_wp2_with (first
    | (go_at_call 49;refine (Qf1 hc HM.src _ oB).mono ?_;rintro e w2 ⟨bb,rfl,aK,aI⟩;have aC:=Qaa (HM.call hs aK aI);have aQ:=aI.size;obtain ⟨u,hu,aV⟩:=Qgu (w:=w2) (m:=10) (t:=9) (cs:=#[.string ⟨#[97]⟩,.string ⟨#[98]⟩,.string ⟨#[110,49]⟩,.string ⟨#[110,50]⟩,.string ⟨#[115,104,97,114,100]⟩,.string ⟨#[122]⟩]) oF k (by simpa using aX);clear aK aI)
    | (at_builtin;refine wpList_append_own _ rfl (.tmp 13) (.tmp 18) 75 rfl w.heap.size 9 i0 (.string ByteArray.empty) 1 16 underlying75 hi ai aj ah rfl oF _ _ _ rfl ((aC.own.alloc _).alloc _) ⟨w2.heap.size+1,0,none⟩ 1 1 [.string u] rfl rfl (Qav (cs:=#[.string u]) oE) (fun x hx=>by simp at hx;subst hx;rfl) oC oB oH ?_;intro v3 w3 aa ab ad;have an:=Qaa (aC.put hs aV aa ((((Below.refl w.heap.size w2).alloc oB _).alloc oH _).grown ab oH (fun j hj=>(aC.own.lt j hj).1)));have ad:=Qaa ad;clear aa ab))
   ·go_roundw
    case rel=>exact ⟨k+1,L ++ [u],by omega,by go_num,by simp;omega,an⟩
    case measure=>simp [zI];omega
   ·go_roundw
    case rel=>exact ⟨k+1,L,by omega,by go_num,by omega,aC⟩
    case measure=>simp [zI];omega
  ·obtain ⟨lo,lc,hv⟩:=Qan HM.own
   subst hv
   go_wp2_with (first
    | (at_builtin;refine wpList_append_own _ rfl (.tmp 23) (.tmp 24) 75 rfl w.heap.size 9 i0 (.string ByteArray.empty) 1 16 underlying75 hi ai aj ah rfl oF _ _ _ rfl (HM.own.alloc _) ⟨wr.heap.size,0,none⟩ 1 1 [.string ⟨#[111,110,108,121]⟩] rfl rfl (Qav (cs:=#[.string ⟨#[111,110,108,121]⟩]) rfl) (fun x hx=>by simp at hx;subst hx;rfl) oC oB oH ?_;intro v3 w3 aa ab ad;have an:=Qaa (HM.put hs oF aa (((Below.refl w.heap.size wr).alloc oB _).grown ab oH (fun j hj=>(HM.own.lt j hj).1)));clear aa ab ad))
   ·obtain ⟨g4,c4,e4⟩:=Qb3 an.own oE
    obtain ⟨L4,af⟩:∃ L4,L4=L ++ [(⟨#[111,110,108,121]⟩:ByteArray)]:=⟨_,rfl⟩;rw [<- af] at e4 an;subst e4;have aB:1<=L4.length:=by rw [af];simp
    have aU:L4.length<=7:=by rw [af];simp;omega
    have aR:=an.gr.size;clear af aL;obtain ⟨u0,ay⟩:∃ u0,L4[0]?=some u0:=⟨_,ZZe oB⟩;have av:=Qaa ay;clear ay
    go_wp2_with (first
     | (go_at_call 49;refine (Qf1 hc an.src _ oB).mono ?_;rintro e w5 ⟨bb,rfl,aw,al⟩;have ap:=Qaa (an.call hs aw al);have aW:=al.size;clear aw al)
     | (go_at_call 18;refine (c_n hc ap.src _ oB).mono ?_;rintro e w6 ⟨nv,rfl,n0,n1,_,au,ak⟩;have ac:=Qaa (ap.call hs au ak);have aP:=ak.size;have aD:=QhT ac.own av;clear au ak;have n1:=n1 oB;have aJ:nv=0∨nv=1∨nv=2∨nv=3:=oB;clear n0 n1;rcases aJ with rfl | rfl | rfl | rfl)
     | (at_builtin;refine wpList_append_own _ rfl (.tmp 49) (.tmp 53) 75 rfl w.heap.size 9 i0 (.string ByteArray.empty) 1 16 underlying75 hi ai aj ah rfl oF _ _ _ rfl (ac.own.alloc _) ⟨w6.heap.size,0,none⟩ 1 1 [.string u0] rfl rfl (Qav (cs:=#[.string u0]) rfl) (fun x hx=>by simp at hx;subst hx;rfl) oC oB oH ?_;intro v3 w3 aa ab ad;have ax:=Qaa (ac.put hs (ac.sz u0 (List.mem_of_getElem? av)) aa (((Below.refl w.heap.size w6).alloc oB _).grown ab oH (fun j hj=>(ac.own.lt j hj).1)));clear aa ab ad)
     | (at_builtin;refine wpList_append_own _ rfl (.tmp 57) (.tmp 58) 75 rfl w.heap.size 9 i0 (.string ByteArray.empty) 1 16 underlying75 hi ai aj ah rfl oF _ _ _ rfl (ac.own.alloc _) ⟨w6.heap.size,0,none⟩ 1 1 [.string ⟨#[126]⟩] rfl rfl (Qav (cs:=#[.string ⟨#[126]⟩]) rfl) (fun x hx=>by simp at hx;subst hx;rfl) oC oB oH ?_;intro v3 w3 aa ab ad;have ax:=Qaa (ac.put hs oF aa (((Below.refl w.heap.size w6).alloc oB _).grown ab oH (fun j hj=>(ac.own.lt j hj).1)));clear aa ab ad))
    all_goals try (go_ret;first
     | exact ⟨_,_,rfl,by simp;omega,ax⟩
     | exact ⟨_,_,rfl,by omega,ap⟩
     | exact ⟨.slice none 0 0,[],rfl,by simp,⟨World.ownsRow_nil _ _ _ _,fun u hu=>by simp at hu,ac.src,ac.gr⟩⟩)
    go_loopw [3,5] (fun v i wr=>∃ (k:Nat) (L5:List ByteArray) (g c:Nat),i=.int .i64 k/\k<=L5.length/\1<=L5.length/\L5.length<=13/\v=.slice (some ⟨g,0,none⟩) L5.length c/\Mem W B ao ln cap s w wr v L5) (fun v i wr=>14 - (Go.RowKit.intOf i).toNat)
    case atStart=>exact ⟨0,L4,_,_,rfl,ZZj _,aB,by omega,rfl,ac⟩
    case round=>
     exact mAb
   ·have ar:((L.length:Int) == 0)=false:=by assumption
    have aB:1<=L.length:=by have:=ZZf.1 ar;omega
    obtain ⟨g4,c4,e4⟩:=Qb3 HM.own oB
    cases e4
    obtain ⟨L4,af⟩:∃ L4,L4=L:=⟨_,rfl⟩;rw [<- af] at HM aB;have aU:L4.length<=7:=by rw [af];omega
    have aR:=HM.gr.size;rw [<- af];clear af aL ar;obtain ⟨u0,ay⟩:∃ u0,L4[0]?=some u0:=⟨_,ZZe oB⟩;have av:=Qaa ay;clear ay
    go_wp2_with (first
     | (go_at_call 49;refine (Qf1 hc HM.src _ oB).mono ?_;rintro e w5 ⟨bb,rfl,aw,al⟩;have ap:=Qaa (HM.call hs aw al);have aW:=al.size;clear aw al)
     | (go_at_call 18;refine (c_n hc ap.src _ oB).mono ?_;rintro e w6 ⟨nv,rfl,n0,n1,_,au,ak⟩;have ac:=Qaa (ap.call hs au ak);have aP:=ak.size;have aD:=QhT ac.own av;clear au ak;have n1:=n1 oB;have aJ:nv=0∨nv=1∨nv=2∨nv=3:=oB;clear n0 n1;rcases aJ with rfl | rfl | rfl | rfl)
     | (at_builtin;refine wpList_append_own _ rfl (.tmp 49) (.tmp 53) 75 rfl w.heap.size 9 i0 (.string ByteArray.empty) 1 16 underlying75 hi ai aj ah rfl oF _ _ _ rfl (ac.own.alloc _) ⟨w6.heap.size,0,none⟩ 1 1 [.string u0] rfl rfl (Qav (cs:=#[.string u0]) rfl) (fun x hx=>by simp at hx;subst hx;rfl) oC oB oH ?_;intro v3 w3 aa ab ad;have ax:=Qaa (ac.put hs (ac.sz u0 (List.mem_of_getElem? av)) aa (((Below.refl w.heap.size w6).alloc oB _).grown ab oH (fun j hj=>(ac.own.lt j hj).1)));clear aa ab ad)
     | (at_builtin;refine wpList_append_own _ rfl (.tmp 57) (.tmp 58) 75 rfl w.heap.size 9 i0 (.string ByteArray.empty) 1 16 underlying75 hi ai aj ah rfl oF _ _ _ rfl (ac.own.alloc _) ⟨w6.heap.size,0,none⟩ 1 1 [.string ⟨#[126]⟩] rfl rfl (Qav (cs:=#[.string ⟨#[126]⟩]) rfl) (fun x hx=>by simp at hx;subst hx;rfl) oC oB oH ?_;intro v3 w3 aa ab ad;have ax:=Qaa (ac.put hs oF aa (((Below.refl w.heap.size w6).alloc oB _).grown ab oH (fun j hj=>(ac.own.lt j hj).1)));clear aa ab ad))
    all_goals try (go_ret;first
     | exact ⟨_,_,rfl,by simp;omega,ax⟩
     | exact ⟨_,_,rfl,by omega,ap⟩
     | exact ⟨.slice none 0 0,[],rfl,by simp,⟨World.ownsRow_nil _ _ _ _,fun u hu=>by simp at hu,ac.src,ac.gr⟩⟩)
    go_loopw [3,5] (fun v i wr=>∃ (k:Nat) (L5:List ByteArray) (g c:Nat),i=.int .i64 k/\k<=L5.length/\1<=L5.length/\L5.length<=13/\v=.slice (some ⟨g,0,none⟩) L5.length c/\Mem W B ao ln cap s w wr v L5) (fun v i wr=>14 - (Go.RowKit.intOf i).toNat)
    case atStart=>exact ⟨0,L4,_,_,rfl,ZZj _,aB,by omega,rfl,ac⟩
    case round=>
     exact mAb
end
section
def lwF (w:World) (ao:Option Addr) (ln k:Nat) (m:Int):Int:=if ln=0 then 0 else match ao with
 | some a=>match w.cell? ⟨a.block,a.off+k % ln,none⟩ with
  | some (.int .u8 x)=>Int.tmod x m
  | _=>0
 | none=>0
end
section
end
end Go.Proofs.YtioohanfodmddaaGreatDoor
