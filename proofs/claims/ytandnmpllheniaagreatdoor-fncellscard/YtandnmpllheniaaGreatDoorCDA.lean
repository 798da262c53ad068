/-
 Parts.
-/
import Derived.Test.YtandnmpllheniaaGreatDoorCJA
import Derived.RegionTactic
import Derived.BigRegion
set_option linter.all false
set_option maxHeartbeats 1000000
namespace Go.Proofs.YtandnmpllheniaaGreatDoor
open Go.ChangeShapes Go.WideShapes Go.ChangeAt Go.RowKit Go.PlainAid
def QbD (W:World) (B:Nat) (ao:Option Addr) (ln:Nat):Prop:=
 ln<=1048576/\(0<ln->∃ b off,ao=some ⟨b,off,none⟩/\b<B/\∀ i,i<ln->∃ x:Int,W.cell? ⟨b,off+i,none⟩=some (.int .u8 x)/\0<=x/\x<=255)
structure Src (W:World) (B:Nat) (ao:Option Addr) (ln cap s:Nat) (w:World):Prop where
 bel:Below B W w
 hB:B<=s
 blk:∃ at_ mix sz:Int,w.heap[s]?=some (.cells #[.slice ao ln cap,.int .i64 at_,.int .u64 mix,.int .i64 sz] 117 (0,0))/\0<=at_/\at_<=ln/\0<=sz/\sz<=12
theorem QdQ {W w:World} {B ln cap s:Nat} {ao:Option Addr} (h:Src W B ao ln cap s w):s<w.heap.size:=by
 obtain ⟨_,_,_,h,_⟩:=h.blk;rcases Nat.lt_or_ge s w.heap.size with k | k
 ·exact k
 ·rw [Array.getElem?_eq_none k] at h;cases h
theorem Qkk {W w:World} {B ln cap s:Nat} {ao:Option Addr} (h:Src W B ao ln cap s w) {w':World} (hb:w.grownBy w' (some s)):Below B W w':=
 h.bel.grown hb (Nat.le_trans h.hB (Nat.le_of_lt (QdQ h))) (fun k e=>by cases e;exact h.hB)
theorem Qbd {W w:World} {B ln cap s:Nat} {ao:Option Addr} (h:Src W B ao ln cap s w) {w':World} (hb:Below w.heap.size w w'):Src W B ao ln cap s w':=by
 have hs:=QdQ h;obtain ⟨a,m,z,hk,h1,h2⟩:=h.blk;exact ⟨h.bel.trans (hb.mono (Nat.le_trans h.hB (Nat.le_of_lt hs))),h.hB,a,m,z,by rw [hb.block s hs];exact hk,h1,h2⟩
theorem QbT (w:World) (a:Addr) (u:Value):w.grownBy (w.setCell a u) (some a.block):=
 ⟨rfl,rfl,rfl,by simp [World.setCell],fun k hk hne=>Below.heap_setCell _ _ _ _ (fun e=>hne (by rw [e]))⟩
theorem Qjt (w:World):w.drew.heap=w.heap:=rfl
theorem QhN {w w1:World} {r:Option Nat} (h:w.grownBy w1 r):w.grownBy w1.drew r:=⟨h.os,h.tape,h.output,h.size,h.block⟩
theorem Qbu (w:World) (k:Nat) (r:Option Nat):w.grownBy (w.drewN k) r:=⟨rfl,rfl,rfl,ZZa _,fun _ _ _=>rfl⟩
theorem Qlh (a m:Int) (hm:1<m) (h9:m<=9223372036854775807):0<=wrap64 (Int.tmod (IntKind.u64.wrap a) m)/\wrap64 (Int.tmod (IntKind.u64.wrap a) m)<m:=by
 have h0:0<=IntKind.u64.wrap a:=by rw [IntKind.wrap_u64];omega
 have h1:0<=Int.tmod (IntKind.u64.wrap a) m:=Int.tmod_nonneg _ h0;have h2:Int.tmod (IntKind.u64.wrap a) m<m:=Int.tmod_lt_of_pos _ (by omega);have e:wrap64 (Int.tmod (IntKind.u64.wrap a) m)=Int.tmod (IntKind.u64.wrap a) m:=by rw [<- i64_is];exact ZZi _ ⟨by omega,by omega⟩
 rw [e];exact ⟨h1,h2⟩
theorem heap3 {w:World} {s k:Nat} {A B C D x y z:Value} {t:TypeId} (hk:w.heap[s]?=some (.cells #[A,B,C,D] t (0,0))) :
  ((((w.drewN k).setCell ⟨s,2,none⟩ x).setCell ⟨s,2,none⟩ y).setCell ⟨s,2,none⟩ z).heap[s]?=some (.cells #[A,B,z,D] t (0,0)):=by
 have h0:(w.drewN k).heap[s]?=some (.cells #[A,B,C,D] t (0,0)):=hk;have h1:=ZZl _ s 2 _ _ x h0;have h2:=ZZl _ s 2 _ _ y h1;exact ZZl _ s 2 _ _ z h2
theorem heap4 {w:World} {s k:Nat} {A B C D x y z u:Value} {t:TypeId} (hk:w.heap[s]?=some (.cells #[A,B,C,D] t (0,0))) :
  (((((w.drewN k).setCell ⟨s,1,none⟩ u).setCell ⟨s,2,none⟩ x).setCell ⟨s,2,none⟩ y).setCell ⟨s,2,none⟩ z).heap[s]?=some (.cells #[A,u,z,D] t (0,0)):=by
 have h0:(w.drewN k).heap[s]?=some (.cells #[A,B,C,D] t (0,0)):=hk;have h0:=ZZl _ s 1 _ _ u h0;have h1:=ZZl _ s 2 _ _ x h0;have h2:=ZZl _ s 2 _ _ y h1;exact ZZl _ s 2 _ _ z h2
theorem grown3 (w:World) (s k:Nat) (x y z:Value):w.grownBy ((((w.drewN k).setCell ⟨s,2,none⟩ x).setCell ⟨s,2,none⟩ y).setCell ⟨s,2,none⟩ z) (some s):=
 (((Qbu w k _).trans (QbT _ ⟨s,2,none⟩ x)).trans (QbT _ ⟨s,2,none⟩ y)).trans (QbT _ ⟨s,2,none⟩ z)
theorem grown4 (w:World) (s k:Nat) (u x y z:Value):w.grownBy (((((w.drewN k).setCell ⟨s,1,none⟩ u).setCell ⟨s,2,none⟩ x).setCell ⟨s,2,none⟩ y).setCell ⟨s,2,none⟩ z) (some s):=
 ((((Qbu w k _).trans (QbT _ ⟨s,1,none⟩ u)).trans (QbT _ ⟨s,2,none⟩ x)).trans (QbT _ ⟨s,2,none⟩ y)).trans (QbT _ ⟨s,2,none⟩ z)
theorem n_late (most at_ mix sz:Int) (ao:Option Addr) (len cap s:Nat) (w:World) (hm:1<most) (hm2:most<=9223372036854775807)
  (hk:w.heap[s]?=some (.cells #[.slice ao len cap,.int .i64 at_,.int .u64 mix,.int .i64 sz] 117 (0,0))) (hat:¬ at_<(len:Int)) :
  Calls Tryz.prog 34 #[.pointer (some ⟨s,0,none⟩),.int .i64 most] w fun e w'=>∃ v mix',e=.returned (.int .i64 v)/\0<=v/\v<most/\w'.heap[s]?=some (.cells #[.slice ao len cap,.int .i64 at_,.int .u64 mix',.int .i64 sz] 117 (0,0))/\w.grownBy w' (some s):=by
 have c0:w.cell? ⟨s,0,none⟩=some (.slice ao len cap):=by rw [cell_of_row w s 0 _ _ (0,0) hk];rfl
 have c1:w.cell? ⟨s,1,none⟩=some (.int .i64 at_):=by rw [cell_of_row w s 1 _ _ (0,0) hk];rfl
 have c2:w.cell? ⟨s,2,none⟩=some (.int .u64 mix):=by rw [cell_of_row w s 2 _ _ (0,0) hk];rfl
 have f2:=fzR 2 hk;obtain ⟨m1,e1⟩:∃ m1,bits BinOp.xor IntKind.u64 mix (IntKind.u64.wrap (mix*8192))=m1:=⟨_,rfl⟩;obtain ⟨m2,e2⟩:∃ m2,bits BinOp.xor IntKind.u64 m1 (m1 / 128)=m2:=⟨_,rfl⟩;obtain ⟨m3,e3⟩:∃ m3,bits BinOp.xor IntKind.u64 m2 (IntKind.u64.wrap (m2*131072))=m3:=⟨_,rfl⟩
 have c5:∀ k x y z,((((w.drewN k).setCell ⟨s,2,none⟩ x).setCell ⟨s,2,none⟩ y).setCell ⟨s,2,none⟩ z).cell? ⟨s,2,none⟩=some z:=fun k x y z=>by
  have g0:(w.drewN k).cell? ⟨s,2,none⟩=some (.int .u64 mix):=c2;have g1:=World.cell?_setCell_same _ _ x g0;have g2:=World.cell?_setCell_same _ _ y g1;exact World.cell?_setCell_same _ _ z g2
 have HK:Hid (w.heap[s]?=some (.cells #[.slice ao len cap,.int .i64 at_,.int .u64 mix,.int .i64 sz] 117 (0,0))):=hk;clear hk;go_enter Tryz.func34,Tryz.ntmps34;go_wp2
 go_quiet (fail)
 go_wp2;go_region
 go_wp2;go_region
 go_wp2;go_region
 go_wp2;go_ret;refine ⟨_,m3,rfl,(Qlh _ _ hm hm2).1,(Qlh _ _ hm hm2).2,?_,?_⟩
 ·simp only [Qjt];exact heap3 HK
 ·repeat apply QhN
  exact grown3 w s _ _ _ _
theorem Qrh (most mix sz x:Int) (len cap s a b off:Nat) (w:World) (hm:1<most) (hm2:most<=9223372036854775807)
  (hk:w.heap[s]?=some (.cells #[.slice (some ⟨b,off,none⟩) len cap,.int .i64 a,.int .u64 mix,.int .i64 sz] 117 (0,0))) (hat:(a:Int)<(len:Int)) (hlen:len<=1048576) (hx:w.cell? ⟨b,off+a,none⟩=some (.int .u8 x)) :
  Calls Tryz.prog 34 #[.pointer (some ⟨s,0,none⟩),.int .i64 most] w fun e w'=>∃ v mix',e=.returned (.int .i64 v)/\0<=v/\v<most/\w'.heap[s]?=some (.cells #[.slice (some ⟨b,off,none⟩) len cap,.int .i64 ((a:Int)+1),.int .u64 mix',.int .i64 sz] 117 (0,0))/\w.grownBy w' (some s):=by
 have c0:w.cell? ⟨s,0,none⟩=some (.slice (some ⟨b,off,none⟩) len cap):=by rw [cell_of_row w s 0 _ _ (0,0) hk];rfl
 have c1:w.cell? ⟨s,1,none⟩=some (.int .i64 a):=by rw [cell_of_row w s 1 _ _ (0,0) hk];rfl
 have c2:w.cell? ⟨s,2,none⟩=some (.int .u64 mix):=by rw [cell_of_row w s 2 _ _ (0,0) hk];rfl
 have f1:=fzR 1 hk;have f2:=fzR 2 hk;obtain ⟨m1,e1⟩:∃ m1,bits BinOp.xor IntKind.u64 mix (IntKind.u64.wrap (mix*8192))=m1:=⟨_,rfl⟩;obtain ⟨m2,e2⟩:∃ m2,bits BinOp.xor IntKind.u64 m1 (m1 / 128)=m2:=⟨_,rfl⟩;obtain ⟨m3,e3⟩:∃ m3,bits BinOp.xor IntKind.u64 m2 (IntKind.u64.wrap (m2*131072))=m3:=⟨_,rfl⟩
 have c4:∀ k u x y,((((w.drewN k).setCell ⟨s,1,none⟩ u).setCell ⟨s,2,none⟩ x).setCell ⟨s,2,none⟩ y).cell? ⟨s,2,none⟩=some y:=fun k u x y=>by
  have g0:((w.drewN k).setCell ⟨s,1,none⟩ u).cell? ⟨s,2,none⟩=some (.int .u64 mix):=by rw [World.cell?_setCell_other _ _ _ _ (by simp)];exact c2
  have g1:=World.cell?_setCell_same _ _ x g0;exact World.cell?_setCell_same _ _ y g1
 have c5:∀ k u x y z,(((((w.drewN k).setCell ⟨s,1,none⟩ u).setCell ⟨s,2,none⟩ x).setCell ⟨s,2,none⟩ y).setCell ⟨s,2,none⟩ z).cell? ⟨s,2,none⟩=some z:=fun k u x y z=>by
  have g0:((w.drewN k).setCell ⟨s,1,none⟩ u).cell? ⟨s,2,none⟩=some (.int .u64 mix):=by rw [World.cell?_setCell_other _ _ _ _ (by simp)];exact c2
  have g1:=World.cell?_setCell_same _ _ x g0;have g2:=World.cell?_setCell_same _ _ y g1;exact World.cell?_setCell_same _ _ z g2
 have HK:Hid (w.heap[s]?=some (.cells #[.slice (some ⟨b,off,none⟩) len cap,.int .i64 a,.int .u64 mix,.int .i64 sz] 117 (0,0))):=hk;clear hk;go_enter Tryz.func34,Tryz.ntmps34;go_wp2
 go_quiet (fail)
 go_wp2
 go_quiet (fail)
 go_wp2;go_region
 go_wp2;go_region
 go_wp2;go_region
 go_wp2;go_ret;refine ⟨_,m3,rfl,(Qlh _ _ hm hm2).1,(Qlh _ _ hm hm2).2,?_,?_⟩
 ·simp only [Qjt];exact heap4 HK
 ·repeat apply QhN
  exact grown4 w s _ _ _ _ _
theorem c_n {W w:World} {B ln cap s:Nat} {ao:Option Addr} (hc:QbD W B ao ln) (h:Src W B ao ln cap s w) (most:Int) (h9:most<=9223372036854775807) :
  Calls Tryz.prog 34 #[.pointer (some ⟨s,0,none⟩),.int .i64 most] w fun e w'=>∃ v,e=.returned (.int .i64 v)/\0<=v/\(1<=most->v<most)/\(most<=1->v=0)/\Src W B ao ln cap s w'/\w.grownBy w' (some s):=by
 by_cases hm:1<most
 ·obtain ⟨aa,ag,sz,hk,h0,h1,z0,z1⟩:=h.blk
  by_cases ae:aa<(ln:Int)
  ·obtain ⟨b,af,rfl,hb,ab⟩:=hc.2 (by omega)
   obtain ⟨x,hx,_⟩:=ab aa.toNat (by omega);have ha:aa=(aa.toNat:Int):=by omega
   have ah:w.cell? ⟨b,af+aa.toNat,none⟩=some (.int .u8 x):=by rw [h.bel.cell (by exact hb)];exact hx
   rw [ha] at hk ae;refine (Qrh most ag sz x ln cap s aa.toNat b af w hm h9 hk ae hc.1 ah).mono ?_;rintro e w' ⟨v,ac,rfl,v0,v1,ad,hg⟩;exact ⟨v,rfl,v0,fun _=>v1,fun h=>by omega,⟨Qkk h hg,h.hB,_,_,_,ad,by omega,by omega,z0,z1⟩,hg⟩
  ·refine (n_late most aa ag sz ao ln cap s w hm h9 hk ae).mono ?_
   rintro e w' ⟨v,ac,rfl,v0,v1,ad,hg⟩;exact ⟨v,rfl,v0,fun _=>v1,fun h=>by omega,⟨Qkk h hg,h.hB,_,_,_,ad,h0,h1,z0,z1⟩,hg⟩
 ·have ai:most<=1:=by omega
  have HS:Hid (Src W B ao ln cap s w):=h;clear h hc hm;go_enter Tryz.func34,Tryz.ntmps34;go_wp2;go_ret;exact ⟨0,rfl,by omega,fun h=>by omega,fun _=>rfl,HS,World.grownBy.refl _ _⟩
def SB (w:World) (s:Nat) (ao:Option Addr) (ln cap:Nat) (m z:Int):Prop:=w.heap[s]?=some (.cells #[.slice ao ln cap,.int .i64 0,.int .u64 m,.int .i64 z] 117 (0,0))
theorem Qlc {w:World} {s ln cap:Nat} {ao:Option Addr} {m z:Int} (h:SB w s ao ln cap m z):w.cell? ⟨s,2,none⟩=some (.int .u64 m)/\w.cell? ⟨s,3,none⟩=some (.int .i64 z)/\w.frozen? ⟨s,2,none⟩=false/\w.frozen? ⟨s,3,none⟩=false:=by
 refine ⟨?_,?_,frozen_of_row w s 2 _ _ h,frozen_of_row w s 3 _ _ h⟩
 ·rw [cell_of_row w s 2 _ _ (0,0) h];rfl
 ·rw [cell_of_row w s 3 _ _ (0,0) h];rfl
theorem sb_2 {w:World} {s ln cap:Nat} {ao:Option Addr} {m z m':Int} (h:SB w s ao ln cap m z):SB (w.setCell ⟨s,2,none⟩ (.int .u64 m')) s ao ln cap m' z:=ZZl w s 2 _ _ _ h
theorem QrG {w:World} {s ln cap:Nat} {ao:Option Addr} {m z z':Int} (h:SB w s ao ln cap m z):SB (w.setCell ⟨s,3,none⟩ (.int .i64 z')) s ao ln cap m z':=ZZl w s 3 _ _ _ h
theorem Qqs {w:World} {s ln cap:Nat} {ao:Option Addr} {m z:Int} (h:SB w s ao ln cap m z):SB w.drew s ao ln cap m z:=h
theorem QlC {W w:World} {B s ln cap:Nat} {ao:Option Addr} {m z:Int} (h:SB w s ao ln cap m z) (hb:Below B W w) (hB:B<=s) (z0:0<=z) (z1:z<=12):Src W B ao ln cap s w:=⟨hb,hB,0,m,z,h,by omega,by omega,z0,z1⟩
theorem Qhd (ao:Option Addr) (ln cap:Nat) (w:World) (hc:QbD w w.heap.size ao ln) :
  Calls Tryz.prog 32 #[.slice ao ln cap] w fun e w'=>e=.returned (.pointer (some ⟨w.heap.size,0,none⟩))/\Src w w.heap.size ao ln cap w.heap.size w':=by
 have ak:=hc.1;have HC:Hid (QbD w w.heap.size ao ln):=hc;clear hc;obtain ⟨z,hz,am,al⟩:∃ z,Int.tdiv (ln:Int) 20=z/\0<=z/\z<=1048576:=⟨((ln / 20:Nat):Int),rfl,by omega,by omega⟩;go_enter Tryz.func32,Tryz.ntmps32;go_wp2
 go_loopw [4] (fun i wr=>∃ (k:Nat) (m:Int),i=.int .i64 k/\k<=ln/\k<=64/\SB wr w.heap.size ao ln cap m 0/\Below w.heap.size w wr) (fun i wr=>64 - (Go.RowKit.intOf i).toNat)
 case atStart=>exact ⟨0,_,rfl,by omega,by omega,ZZk w _,(ZZb _ _).alloc (ZZa _) _⟩
 case round=>
  obtain ⟨k,m,rfl,hk,af,hS,aa⟩:=hrel;by_cases ad:k<ln/\k<64
  ·obtain ⟨h1,h2⟩:=ad
   obtain ⟨b,ae,rfl,hb,ab⟩:=HC.out.2 (by omega);obtain ⟨x,hx,_⟩:=ab k h1;have ah:wr.cell? ⟨b,ae+k,none⟩=some (.int .u8 x):=by rw [aa.cell (by exact hb)];exact hx
   have ai:(k:Int)<(ln:Int):=by omega
   have aj:(k:Int)<64:=by omega
   obtain ⟨c2,c3,f2,f3⟩:=Qlc hS;have HS:Hid (SB wr w.heap.size (some ⟨b,ae,none⟩) ln cap m 0):=hS;have HB:Hid (Below w.heap.size w wr):=aa;clear hS aa hx ab;go_wp2;go_region
   go_wp2;go_roundw
   case rel=>exact ⟨k+1,_,by go_num,by omega,by omega,Qqs (sb_2 HS),(HB.out.setCell (ZZa _) _).drew⟩
   case measure=>simp [zI];omega
  ·have ag:(¬ (k:Int)<(ln:Int))∨((k:Int)<(ln:Int)/\¬ (k:Int)<64):=by omega
   obtain ⟨c2,c3,f2,f3⟩:=Qlc hS;have HS:Hid (SB wr w.heap.size ao ln cap m 0):=hS;have HB:Hid (Below w.heap.size w wr):=aa;clear hS aa ad;rcases ag with h1 | ⟨h1,h2⟩
   ·by_cases ac:12<z
    ·go_wp2
     go_ret;exact ⟨rfl,QlC (QrG (QrG HS)) ((HB.out.setCell (ZZa _) _).setCell (ZZa _) _) (ZZa _) (by omega) (by omega)⟩
    ·go_wp2
     go_ret;exact ⟨rfl,QlC (QrG HS) (HB.out.setCell (ZZa _) _) (ZZa _) (by omega) (by omega)⟩
   ·by_cases ac:12<z
    ·go_wp2
     go_ret;exact ⟨rfl,QlC (QrG (QrG HS)) ((HB.out.setCell (ZZa _) _).setCell (ZZa _) _) (ZZa _) (by omega) (by omega)⟩
    ·go_wp2
     go_ret;exact ⟨rfl,QlC (QrG HS) (HB.out.setCell (ZZa _) _) (ZZa _) (by omega) (by omega)⟩
theorem Qc7 {W w:World} {B ln cap s k:Nat} {ao:Option Addr} (h:Src W B ao ln cap s w):Src W B ao ln cap s (w.drewN k):=
 ⟨Qkk h (Qbu _ _ _),h.hB,h.blk⟩
def isI:Value->Bool
 | .int .i64 y=>decide (-9223372036854775808<=y) && decide (y<=9223372036854775807)
 | _=>false
theorem isI_of {v:Value} (h:isI v=true):∃ y,v=.int .i64 y/\I64 y:=by
 unfold isI at h
 split at h
 ·rename_i y
  have:=Bool.and_eq_true_iff.1 h;exact ⟨y,rfl,of_decide_eq_true this.1,of_decide_eq_true this.2⟩
 ·cases h
def allI (cs:Array Value):Bool:=cs.toList.all isI
theorem Qro {cs:Array Value} (h:allI cs=true) {i:Nat} (hi:i<cs.size):∃ y,cs[i]?=some (.int .i64 y)/\I64 y:=by
 obtain ⟨y,e,hI⟩:=isI_of (List.all_eq_true.1 h cs[i] (Array.mem_toList_iff.2 (Array.getElem_mem hi)));exact ⟨y,by rw [Array.getElem?_eq_getElem hi,e],hI⟩
theorem QlZ {w w2:World} {cs:Array Value} {t:TypeId} {s:Nat} (hg:(w.alloc (.cells cs t)).grownBy w2 (some s)) (hs:s<w.heap.size) (h:allI cs=true) {v:Int} (h0:0<=v) (h1:v<cs.size) :
  ∃ y,w2.cell? ⟨w.heap.size,v.toNat,none⟩=some (.int .i64 y)/\I64 y:=by
 obtain ⟨y,hy,hI⟩:=Qro h (i:=v.toNat) (by omega)
 have hb:w2.heap[w.heap.size]?=some (.cells cs t (0,0)):=by
  rw [hg.block w.heap.size (by simp) (fun e=>by cases e;omega)];exact ZZk w _
 exact ⟨y,by rw [cell_of_row w2 w.heap.size v.toNat _ _ (0,0) hb];exact hy,hI⟩
theorem Qio {W w:World} {B ln cap s:Nat} {ao:Option Addr} (hc:QbD W B ao ln) (h:Src W B ao ln cap s w) (most:Int) (h9:most<=9223372036854775807) :
  Calls Tryz.prog 35 #[.pointer (some ⟨s,0,none⟩),.int .i64 most] w fun e w'=>∃ b,e=.returned (.bool b)/\Src W B ao ln cap s w'/\w.grownBy w' (some s):=by
 go_enter Tryz.func35,Tryz.ntmps35;go_wp2_with (go_at_call 34;refine (c_n hc h _ h9).mono ?_;rintro e w2 ⟨v,rfl,v0,v1,_,ab,aa⟩);go_ret;exact ⟨_,rfl,ab,aa⟩
theorem Qqi {W w:World} {B ln cap s:Nat} {ao:Option Addr} (hc:QbD W B ao ln) (h:Src W B ao ln cap s w) :
  Calls Tryz.prog 36 #[.pointer (some ⟨s,0,none⟩)] w fun e w'=>∃ v,e=.returned (.int .i64 v)/\I64 v/\Src W B ao ln cap s w'/\w.grownBy w' (some s):=by
 have hs:=QdQ h;have ha:∀ o,Src W B ao ln cap s (w.alloc o):=fun o=>Qbd h ((ZZb _ _).alloc (ZZa _) _);go_enter Tryz.func36,Tryz.ntmps36;go_wp2_with (go_at_call 34;refine (c_n hc (ha _) _ (by omega)).mono ?_;rintro e w2 ⟨v,rfl,v0,v1,_,ab,aa⟩;have v1:=v1 (by omega);obtain ⟨y,hy,hI⟩:=QlZ aa hs (by decide) v0 v1);go_ret;exact ⟨y,rfl,hI,ab,(World.grownBy_alloc _ _ _).trans aa⟩
theorem QlM {W w:World} {B ln cap s:Nat} {ao:Option Addr} (hc:QbD W B ao ln) (h:Src W B ao ln cap s w) :
  Calls Tryz.prog 75 #[.pointer (some ⟨s,0,none⟩)] w fun e w'=>∃ v,e=.returned (.int .i64 v)/\I64 v/\Src W B ao ln cap s w'/\w.grownBy w' (some s):=by
 have hG:w.grownBy w (some s):=World.grownBy.refl _ _;have hS:=h;clear h;go_enter Tryz.func75,Tryz.ntmps75
 go_wp2_with (first
  | (go_at_call 36;refine (Qqi hc hS).mono ?_;rintro e w2 ⟨y,rfl,hI,ab,aa⟩;have hG:=hG.trans aa)
  | (go_at_call 34;refine (c_n hc (by first | exact hS | exact Qbd hS ((ZZb _ _).alloc (ZZa _) _)) _ (by omega)).mono ?_;rintro e w2 ⟨v,rfl,v0,v1,_,ab,aa⟩;have v1:=v1 (by omega); (first | (have hG:=hG.trans aa) | (obtain ⟨y,hy,hI⟩:=QlZ aa (QdQ hS) (by decide) v0 v1;have hG:=hG.trans ((World.grownBy_alloc _ _ _).trans aa)));have hS:=ab))
 all_goals (go_ret;first | exact ⟨_,rfl,hI,ab,hG⟩ | exact ⟨_,rfl,by unfold I64;omega,ab,hG⟩)
theorem c_pick {W w:World} {B ln cap s:Nat} {ao:Option Addr} (hc:QbD W B ao ln) (h:Src W B ao ln cap s w) (g k M:Nat) (hg:g≠s) (hk:1<k) (hk9:k<=1000) (hcell:∀ j,j<k->∃ u,w.cell? ⟨g,j,none⟩=some (.string u)/\u.size<=M) :
  Calls Tryz.prog 72 #[.pointer (some ⟨s,0,none⟩),.slice (some ⟨g,0,none⟩) k k] w fun e w'=>∃ u,e=.returned (.string u)/\u.size<=M/\Src W B ao ln cap s w'/\w.grownBy w' (some s):=by
 go_enter Tryz.func72,Tryz.ntmps72;go_wp2_with (go_at_call 34;refine (c_n hc h _ (by omega)).mono ?_;rintro e w2 ⟨v,rfl,v0,v1,_,ab,aa⟩;have v1:=v1 (by omega);obtain ⟨u,hu,ac⟩:=hcell v.toNat (by omega);have ad:=aa.cell hu (by simpa using hg));go_ret;exact ⟨u,rfl,ac,ab,aa⟩
def isS (m:Nat):Value->Bool
 | .string u=>decide (u.size<=m)
 | _=>false
theorem isS_of {m:Nat} {v:Value} (h:isS m v=true):∃ u,v=.string u/\u.size<=m:=by
 unfold isS at h
 split at h
 ·rename_i u
  exact ⟨u,rfl,of_decide_eq_true h⟩
 ·cases h
theorem Qpo {w:World} {m:Nat} {cs:Array Value} {t:TypeId} (h:cs.toList.all (isS m)=true) (j:Nat) (hj:j<cs.size):∃ u,(w.alloc (.cells cs t)).cell? ⟨w.heap.size,j,none⟩=some (.string u)/\u.size<=m:=by
 obtain ⟨u,e,hu⟩:=isS_of (List.all_eq_true.1 h cs[j] (Array.mem_toList_iff.2 (Array.getElem_mem hj)));have hb:(w.alloc (.cells cs t)).heap[w.heap.size]?=some (.cells cs t (0,0)):=ZZk w _;exact ⟨u,by rw [cell_of_row _ w.heap.size j _ _ (0,0) hb,Array.getElem?_eq_getElem hj,e],hu⟩
theorem Qc2 {W w:World} {B ln cap s:Nat} {ao:Option Addr} (hc:QbD W B ao ln) (h:Src W B ao ln cap s w) (M:Nat) {k:Nat} {cs:Array Value} {t:TypeId} (hk:k=cs.size) (h1:1<k) (h9:k<=1000) (hcs:cs.toList.all (isS M)=true) :
  Calls Tryz.prog 72 #[.pointer (some ⟨s,0,none⟩),.slice (some ⟨w.heap.size,0,none⟩) k k] (w.alloc (.cells cs t)) fun e w'=>∃ u,e=.returned (.string u)/\u.size<=M/\Src W B ao ln cap s w'/\w.grownBy w' (some s):=by
 refine (c_pick hc (Qbd h ((ZZb _ _).alloc (ZZa _) _)) w.heap.size k M (by have:=QdQ h;omega) h1 h9 (fun j hj=>Qpo hcs j (by omega))).mono ?_;rintro e w' ⟨u,rfl,hu,hS,hg⟩;exact ⟨u,rfl,hu,hS,(World.grownBy_alloc _ _ _).trans hg⟩
theorem QjF {w w':World} {ao:Option Addr} {ln K B:Nat} (h:QbD w K ao ln) (hb:Below K w w') (hw:K<=w.heap.size) (hK:K<=B):QbD w' B ao ln:=by
 refine ⟨h.1,fun h0=>?_⟩;obtain ⟨b,aa,e,ab,hc⟩:=h.2 h0
 exact ⟨b,aa,e,by omega,fun i hi=>by
  obtain ⟨x,hx,h1,h2⟩:=hc i hi;refine ⟨x,?_,h1,h2⟩;rw [show w'.cell? ⟨b,aa+i,none⟩=w.cell? ⟨b,aa+i,none⟩ from ?_];exact hx;unfold World.cell?;rw [hb.block b ab]⟩
theorem QjZ (ao:Option Addr) (ln cap:Nat) (w:World) {K:Nat} (hK:w.heap.size=K) (hc:QbD w K ao ln) :
  Calls Tryz.prog 32 #[.slice ao ln cap] w fun e w'=>e=.returned (.pointer (some ⟨K,0,none⟩))/\Src w K ao ln cap K w':=by
 subst hK;exact Qhd ao ln cap w hc
end Go.Proofs.YtandnmpllheniaaGreatDoor
