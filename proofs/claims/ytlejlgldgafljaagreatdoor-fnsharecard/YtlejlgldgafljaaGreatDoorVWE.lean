/-
 Parts.
-/
import Derived.Test.YtlejlgldgafljaaGreatDoorVWD
set_option maxHeartbeats 8000000
set_option maxRecDepth 10000
set_option linter.all false
namespace Go.Proofs.YtlejlgldgafljaaGreatDoor
open Go.ChangeShapes Go.WideShapes Go.ChangeAt Go.RowKit Go.PlainAid Go.Lib Tryz
variable {W w w' w1 w2 wr:World}
variable {B K b cap k ln n s:Nat}
variable {ao:Option Addr}
variable {r:Option Nat}
variable {A C D v v' x y:Value}
variable {T t:TypeId}
section
def Qbq (W:World) (B:Nat) (ao:Option Addr) (ln:Nat):Prop:=
 ln<=1048576/\(0<ln->∃ b off,ao=some ⟨b,off,none⟩/\b<B/\∀ i,i<ln->∃ x:Int,W.cell? ⟨b,off+i,none⟩=some (.int .u8 x)/\0<=x/\x<=255)
structure Src (W:World) (B:Nat) (ao:Option Addr) (ln cap s:Nat) (w:World):Prop where
 bel:Below B W w
 hB:B<=s
 blk:∃ at_ mix sz:Int,w.heap[s]?=some (.cells #[.slice ao ln cap,.int .i64 at_,.int .u64 mix,.int .i64 sz] 89 (0,0))/\0<=at_/\at_<=ln/\0<=sz/\sz<=12
theorem QcF (h:Src W B ao ln cap s w):s<w.heap.size:=by
 obtain ⟨_,_,_,h,_⟩:=h.blk;rcases Nat.lt_or_ge s w.heap.size with k | k
 ·exact k
 ·rw [Array.getElem?_eq_none k] at h;cases h
theorem Qlw (h:Src W B ao ln cap s w) (hb:w.grownBy w' (some s)):Below B W w':=
 h.bel.grown hb (Nat.le_trans h.hB (Nat.le_of_lt (QcF h))) (fun k e=>by cases e;exact h.hB)
theorem QaJ (h:Src W B ao ln cap s w) (hb:Bw w w'):Src W B ao ln cap s w':=by
 have hs:=QcF h;obtain ⟨a,m,z,hk,h1,h2⟩:=h.blk;exact ⟨h.bel.trans (hb.mono (Nat.le_trans h.hB (Nat.le_of_lt hs))),h.hB,a,m,z,by rw [hb.block s hs];exact hk,h1,h2⟩
theorem Qcy (w:World) (a:Addr) (u:Value):w.grownBy (w.setCell a u) (some a.block):=
 ⟨rfl,rfl,rfl,by simp [World.setCell],fun k hk hne=>Below.heap_setCell _ _ _ _ (fun e=>hne (by rw [e]))⟩
theorem Qkm (w:World):w.drew.heap=w.heap:=rfl
theorem Qii (h:w.grownBy w1 r):w.grownBy w1.drew r:=⟨h.os,h.tape,h.output,h.size,h.block⟩
theorem Qcx (w:World) (k:Nat) (r:Option Nat):w.grownBy (w.drewN k) r:=⟨rfl,rfl,rfl,ZZa _,fun _ _ _=>rfl⟩
theorem QmB (a m:Int) (hm:1<m) (h9:m<=9223372036854775807):0<=wrap64 (Int.tmod (IntKind.u64.wrap a) m)/\wrap64 (Int.tmod (IntKind.u64.wrap a) m)<m:=by
 have h0:0<=IntKind.u64.wrap a:=by rw [IntKind.wrap_u64];omega
 have h1:0<=Int.tmod (IntKind.u64.wrap a) m:=Int.tmod_nonneg _ h0;have h2:Int.tmod (IntKind.u64.wrap a) m<m:=Int.tmod_lt_of_pos _ (by omega);have e:wrap64 (Int.tmod (IntKind.u64.wrap a) m)=Int.tmod (IntKind.u64.wrap a) m:=by rw [<- i64_is];exact ZZi _ ⟨by omega,by omega⟩
 rw [e];exact ⟨h1,h2⟩
theorem heap3 {B z:Value} (hk:w.heap[s]?=some (.cells #[A,B,C,D] t (0,0))) :
  ((((w.drewN k).setCell ⟨s,2,none⟩ x).setCell ⟨s,2,none⟩ y).setCell ⟨s,2,none⟩ z).heap[s]?=some (.cells #[A,B,z,D] t (0,0)):=by
 have h0:(w.drewN k).heap[s]?=some (.cells #[A,B,C,D] t (0,0)):=hk;have h1:=ZZl _ s 2 _ _ x h0;have h2:=ZZl _ s 2 _ _ y h1;exact ZZl _ s 2 _ _ z h2
theorem heap4 {B z u:Value} (hk:w.heap[s]?=some (.cells #[A,B,C,D] t (0,0))) :
  (((((w.drewN k).setCell ⟨s,1,none⟩ u).setCell ⟨s,2,none⟩ x).setCell ⟨s,2,none⟩ y).setCell ⟨s,2,none⟩ z).heap[s]?=some (.cells #[A,u,z,D] t (0,0)):=by
 have h0:(w.drewN k).heap[s]?=some (.cells #[A,B,C,D] t (0,0)):=hk;have h0:=ZZl _ s 1 _ _ u h0;have h1:=ZZl _ s 2 _ _ x h0;have h2:=ZZl _ s 2 _ _ y h1;exact ZZl _ s 2 _ _ z h2
theorem grown3 (w:World) (s k:Nat) (x y z:Value):w.grownBy ((((w.drewN k).setCell ⟨s,2,none⟩ x).setCell ⟨s,2,none⟩ y).setCell ⟨s,2,none⟩ z) (some s):=
 (((Qcx w k _).trans (Qcy _ ⟨s,2,none⟩ x)).trans (Qcy _ ⟨s,2,none⟩ y)).trans (Qcy _ ⟨s,2,none⟩ z)
theorem Qvc (w:World) (s k:Nat) (u x y z:Value):w.grownBy (((((w.drewN k).setCell ⟨s,1,none⟩ u).setCell ⟨s,2,none⟩ x).setCell ⟨s,2,none⟩ y).setCell ⟨s,2,none⟩ z) (some s):=
 ((((Qcx w k _).trans (Qcy _ ⟨s,1,none⟩ u)).trans (Qcy _ ⟨s,2,none⟩ x)).trans (Qcy _ ⟨s,2,none⟩ y)).trans (Qcy _ ⟨s,2,none⟩ z)
theorem n_late (most at_ mix sz:Int) (ao:Option Addr) (len cap s:Nat) (w:World) (hm:1<most) (hm2:most<=9223372036854775807)
  (hk:w.heap[s]?=some (.cells #[.slice ao len cap,.int .i64 at_,.int .u64 mix,.int .i64 sz] 89 (0,0))) (hat:¬ at_<(len:Int)) :
  Calls prog 24 #[.pointer (some ⟨s,0,none⟩),.int .i64 most] w fun e w'=>∃ v mix',e=.returned (.int .i64 v)/\0<=v/\v<most/\w'.heap[s]?=some (.cells #[.slice ao len cap,.int .i64 at_,.int .u64 mix',.int .i64 sz] 89 (0,0))/\w.grownBy w' (some s):=by
 have c0:w.cell? ⟨s,0,none⟩=some (.slice ao len cap):=by rw [cell_of_row w s 0 _ _ (0,0) hk];rfl
 have c1:w.cell? ⟨s,1,none⟩=some (.int .i64 at_):=by rw [cell_of_row w s 1 _ _ (0,0) hk];rfl
 have c2:w.cell? ⟨s,2,none⟩=some (.int .u64 mix):=by rw [cell_of_row w s 2 _ _ (0,0) hk];rfl
 have f2:=fzR 2 hk;obtain ⟨m1,e1⟩:∃ m1,bits BinOp.xor IntKind.u64 mix (IntKind.u64.wrap (mix*8192))=m1:=⟨_,rfl⟩;obtain ⟨m2,e2⟩:∃ m2,bits BinOp.xor IntKind.u64 m1 (m1 / 128)=m2:=⟨_,rfl⟩;obtain ⟨m3,e3⟩:∃ m3,bits BinOp.xor IntKind.u64 m2 (IntKind.u64.wrap (m2*131072))=m3:=⟨_,rfl⟩
 have c5:∀ k x y z,((((w.drewN k).setCell ⟨s,2,none⟩ x).setCell ⟨s,2,none⟩ y).setCell ⟨s,2,none⟩ z).cell? ⟨s,2,none⟩=some z:=fun k x y z=>by
  have g0:(w.drewN k).cell? ⟨s,2,none⟩=some (.int .u64 mix):=c2;have g1:=World.cell?_setCell_same _ _ x g0;have g2:=World.cell?_setCell_same _ _ y g1;exact World.cell?_setCell_same _ _ z g2
 have HK:Hid (w.heap[s]?=some (.cells #[.slice ao len cap,.int .i64 at_,.int .u64 mix,.int .i64 sz] 89 (0,0))):=hk;clear hk;go_enter func24,ntmps24;go_wp2
 go_quiet (fail)
 go_wp2;go_region
 go_wp2;go_region
 go_wp2;go_region
 go_wp2;go_ret;refine ⟨_,m3,rfl,(QmB _ _ hm hm2).1,(QmB _ _ hm hm2).2,?_,?_⟩
 ·simp only [Qkm];exact heap3 HK
 ·repeat apply Qii
  exact grown3 w s _ _ _ _
theorem Qt8 (most mix sz x:Int) (len cap s a b off:Nat) (w:World) (hm:1<most) (hm2:most<=9223372036854775807)
  (hk:w.heap[s]?=some (.cells #[.slice (some ⟨b,off,none⟩) len cap,.int .i64 a,.int .u64 mix,.int .i64 sz] 89 (0,0))) (hat:(a:Int)<(len:Int)) (hlen:len<=1048576) (hx:w.cell? ⟨b,off+a,none⟩=some (.int .u8 x)) :
  Calls prog 24 #[.pointer (some ⟨s,0,none⟩),.int .i64 most] w fun e w'=>∃ v mix',e=.returned (.int .i64 v)/\0<=v/\v<most/\w'.heap[s]?=some (.cells #[.slice (some ⟨b,off,none⟩) len cap,.int .i64 ((a:Int)+1),.int .u64 mix',.int .i64 sz] 89 (0,0))/\w.grownBy w' (some s):=by
 have c0:w.cell? ⟨s,0,none⟩=some (.slice (some ⟨b,off,none⟩) len cap):=by rw [cell_of_row w s 0 _ _ (0,0) hk];rfl
 have c1:w.cell? ⟨s,1,none⟩=some (.int .i64 a):=by rw [cell_of_row w s 1 _ _ (0,0) hk];rfl
 have c2:w.cell? ⟨s,2,none⟩=some (.int .u64 mix):=by rw [cell_of_row w s 2 _ _ (0,0) hk];rfl
 have f1:=fzR 1 hk;have f2:=fzR 2 hk;obtain ⟨m1,e1⟩:∃ m1,bits BinOp.xor IntKind.u64 mix (IntKind.u64.wrap (mix*8192))=m1:=⟨_,rfl⟩;obtain ⟨m2,e2⟩:∃ m2,bits BinOp.xor IntKind.u64 m1 (m1 / 128)=m2:=⟨_,rfl⟩;obtain ⟨m3,e3⟩:∃ m3,bits BinOp.xor IntKind.u64 m2 (IntKind.u64.wrap (m2*131072))=m3:=⟨_,rfl⟩
 have c4:∀ k u x y,((((w.drewN k).setCell ⟨s,1,none⟩ u).setCell ⟨s,2,none⟩ x).setCell ⟨s,2,none⟩ y).cell? ⟨s,2,none⟩=some y:=fun k u x y=>by
  have g0:((w.drewN k).setCell ⟨s,1,none⟩ u).cell? ⟨s,2,none⟩=some (.int .u64 mix):=by rw [World.cell?_setCell_other _ _ _ _ (by simp)];exact c2
  have g1:=World.cell?_setCell_same _ _ x g0;exact World.cell?_setCell_same _ _ y g1
 have c5:∀ k u x y z,(((((w.drewN k).setCell ⟨s,1,none⟩ u).setCell ⟨s,2,none⟩ x).setCell ⟨s,2,none⟩ y).setCell ⟨s,2,none⟩ z).cell? ⟨s,2,none⟩=some z:=fun k u x y z=>by
  have g0:((w.drewN k).setCell ⟨s,1,none⟩ u).cell? ⟨s,2,none⟩=some (.int .u64 mix):=by rw [World.cell?_setCell_other _ _ _ _ (by simp)];exact c2
  have g1:=World.cell?_setCell_same _ _ x g0;have g2:=World.cell?_setCell_same _ _ y g1;exact World.cell?_setCell_same _ _ z g2
 have HK:Hid (w.heap[s]?=some (.cells #[.slice (some ⟨b,off,none⟩) len cap,.int .i64 a,.int .u64 mix,.int .i64 sz] 89 (0,0))):=hk;clear hk;go_enter func24,ntmps24;go_wp2
 go_quiet (fail)
 go_wp2
 go_quiet (fail)
 go_wp2;go_region
 go_wp2;go_region
 go_wp2;go_region
 go_wp2;go_ret;refine ⟨_,m3,rfl,(QmB _ _ hm hm2).1,(QmB _ _ hm hm2).2,?_,?_⟩
 ·simp only [Qkm];exact heap4 HK
 ·repeat apply Qii
  exact Qvc w s _ _ _ _ _
theorem c_n (hc:Qbq W B ao ln) (h:Src W B ao ln cap s w) (most:Int) (h9:most<=9223372036854775807) :
  Calls prog 24 #[.pointer (some ⟨s,0,none⟩),.int .i64 most] w fun e w'=>∃ v,e=.returned (.int .i64 v)/\0<=v/\(1<=most->v<most)/\(most<=1->v=0)/\Src W B ao ln cap s w'/\w.grownBy w' (some s):=by
 by_cases hm:1<most
 ·obtain ⟨aa,ag,sz,hk,h0,h1,z0,z1⟩:=h.blk
  by_cases ac:aa<(ln:Int)
  ·obtain ⟨b,af,rfl,hb,ab⟩:=hc.2 (by omega)
   obtain ⟨x,hx,_⟩:=ab aa.toNat (by omega);have ha:aa=(aa.toNat:Int):=by omega
   have ah:w.cell? ⟨b,af+aa.toNat,none⟩=some (.int .u8 x):=by rw [h.bel.cell (by exact hb)];exact hx
   rw [ha] at hk ac;refine (Qt8 most ag sz x ln cap s aa.toNat b af w hm h9 hk ac hc.1 ah).mono ?_;rintro e w' ⟨v,ad,rfl,v0,v1,ae,hg⟩;exact ⟨v,rfl,v0,fun _=>v1,fun h=>by omega,⟨Qlw h hg,h.hB,_,_,_,ae,by omega,by omega,z0,z1⟩,hg⟩
  ·refine (n_late most aa ag sz ao ln cap s w hm h9 hk ac).mono ?_
   rintro e w' ⟨v,ad,rfl,v0,v1,ae,hg⟩;exact ⟨v,rfl,v0,fun _=>v1,fun h=>by omega,⟨Qlw h hg,h.hB,_,_,_,ae,h0,h1,z0,z1⟩,hg⟩
 ·have ai:most<=1:=by omega
  have HS:Hid (Src W B ao ln cap s w):=h;clear h hc hm;go_enter func24,ntmps24;go_wp2;go_ret;exact ⟨0,rfl,by omega,fun h=>by omega,fun _=>rfl,HS,World.grownBy.refl _ _⟩
end
variable {m z:Int}
section
def SB (w:World) (s:Nat) (ao:Option Addr) (ln cap:Nat) (m z:Int):Prop:=w.heap[s]?=some (.cells #[.slice ao ln cap,.int .i64 0,.int .u64 m,.int .i64 z] 89 (0,0))
theorem Ql4 (h:SB w s ao ln cap m z):w.cell? ⟨s,2,none⟩=some (.int .u64 m)/\w.cell? ⟨s,3,none⟩=some (.int .i64 z)/\w.frozen? ⟨s,2,none⟩=false/\w.frozen? ⟨s,3,none⟩=false:=by
 refine ⟨?_,?_,frozen_of_row w s 2 _ _ h,frozen_of_row w s 3 _ _ h⟩
 ·rw [cell_of_row w s 2 _ _ (0,0) h];rfl
 ·rw [cell_of_row w s 3 _ _ (0,0) h];rfl
theorem sb_2 {m':Int} (h:SB w s ao ln cap m z):SB (w.setCell ⟨s,2,none⟩ (.int .u64 m')) s ao ln cap m' z:=ZZl w s 2 _ _ _ h
theorem Qvj {z':Int} (h:SB w s ao ln cap m z):SB (w.setCell ⟨s,3,none⟩ (.int .i64 z')) s ao ln cap m z':=ZZl w s 3 _ _ _ h
theorem Qum (h:SB w s ao ln cap m z):SB w.drew s ao ln cap m z:=h
theorem Qmj (h:SB w s ao ln cap m z) (hb:Below B W w) (hB:B<=s) (z0:0<=z) (z1:z<=12):Src W B ao ln cap s w:=⟨hb,hB,0,m,z,h,by omega,by omega,z0,z1⟩
theorem Qk4 (ao:Option Addr) (ln cap:Nat) (w:World) (hc:Qbq w w.heap.size ao ln) :
  Calls prog 20 #[.slice ao ln cap] w fun e w'=>e=.returned (.pointer (some ⟨w.heap.size,0,none⟩))/\Src w w.heap.size ao ln cap w.heap.size w':=by
 have al:=hc.1;have HC:Hid (Qbq w w.heap.size ao ln):=hc;clear hc;obtain ⟨z,hz,ai,ah⟩:∃ z,Int.tdiv (ln:Int) 20=z/\0<=z/\z<=1048576:=⟨((ln / 20:Nat):Int),rfl,by omega,by omega⟩;go_enter func20,ntmps20;go_wp2
 go_loopw [4] (fun i wr=>∃ (k:Nat) (m:Int),i=.int .i64 k/\k<=ln/\k<=64/\SB wr w.heap.size ao ln cap m 0/\Bw w wr) (fun i wr=>64 - (Go.RowKit.intOf i).toNat)
 case atStart=>exact ⟨0,_,rfl,by omega,by omega,ZZk w _,(ZZb _ _).alloc (ZZa _) _⟩
 case round=>
  obtain ⟨k,m,rfl,hk,ag,hS,aa⟩:=hrel;by_cases ad:k<ln/\k<64
  ·obtain ⟨h1,h2⟩:=ad
   obtain ⟨b,ae,rfl,hb,ab⟩:=HC.2 (by omega);obtain ⟨x,hx,_⟩:=ab k h1;have am:wr.cell? ⟨b,ae+k,none⟩=some (.int .u8 x):=by rw [aa.cell (by exact hb)];exact hx
   have ak:(k:Int)<(ln:Int):=by omega
   have aj:(k:Int)<64:=by omega
   obtain ⟨c2,c3,f2,f3⟩:=Ql4 hS;have HS:Hid (SB wr w.heap.size (some ⟨b,ae,none⟩) ln cap m 0):=hS;have HB:Hid (Bw w wr):=aa;clear hS aa hx ab;go_wp2;go_region
   go_wp2;go_roundw
   case rel=>exact ⟨k+1,_,by go_num,by omega,by omega,Qum (sb_2 HS),(HB.setCell (ZZa _) _).drew⟩
   case measure=>simp [zI];omega
  ·have af:(¬ (k:Int)<(ln:Int))∨((k:Int)<(ln:Int)/\¬ (k:Int)<64):=by omega
   obtain ⟨c2,c3,f2,f3⟩:=Ql4 hS;have HS:Hid (SB wr w.heap.size ao ln cap m 0):=hS;have HB:Hid (Bw w wr):=aa;clear hS aa ad;rcases af with h1 | ⟨h1,h2⟩
   ·by_cases ac:12<z
    ·go_wp2
     go_ret;exact ⟨rfl,Qmj (Qvj (Qvj HS)) ((HB.setCell (ZZa _) _).setCell (ZZa _) _) (ZZa _) (by omega) (by omega)⟩
    ·go_wp2
     go_ret;exact ⟨rfl,Qmj (Qvj HS) (HB.setCell (ZZa _) _) (ZZa _) (by omega) (by omega)⟩
   ·by_cases ac:12<z
    ·go_wp2
     go_ret;exact ⟨rfl,Qmj (Qvj (Qvj HS)) ((HB.setCell (ZZa _) _).setCell (ZZa _) _) (ZZa _) (by omega) (by omega)⟩
    ·go_wp2
     go_ret;exact ⟨rfl,Qmj (Qvj HS) (HB.setCell (ZZa _) _) (ZZa _) (by omega) (by omega)⟩
end
variable {cs:Array Value}
section
theorem Qks (h:Src W B ao ln cap s w):Src W B ao ln cap s (w.drewN k):=
 ⟨Qlw h (Qcx _ _ _),h.hB,h.blk⟩
def isI:Value->Bool
 | .int .i64 y=>decide (-9223372036854775808<=y) && decide (y<=9223372036854775807)
 | _=>false
theorem isI_of (h:isI v=true):∃ y,v=.int .i64 y/\I64 y:=by
 unfold isI at h
 split at h
 ·rename_i y
  have:=Bool.and_eq_true_iff.1 h;exact ⟨y,rfl,of_decide_eq_true this.1,of_decide_eq_true this.2⟩
 ·cases h
def allI (cs:Array Value):Bool:=cs.toList.all isI
theorem Qug (h:allI cs=true) {i:Nat} (hi:i<cs.size):∃ y,cs[i]?=some (.int .i64 y)/\I64 y:=by
 obtain ⟨y,e,hI⟩:=isI_of (List.all_eq_true.1 h cs[i] (Array.mem_toList_iff.2 (Array.getElem_mem hi)));exact ⟨y,by rw [Array.getElem?_eq_getElem hi,e],hI⟩
theorem Qmt (hg:(w.alloc (.cells cs t)).grownBy w2 (some s)) (hs:s<w.heap.size) (h:allI cs=true) {v:Int} (h0:0<=v) (h1:v<cs.size) :
  ∃ y,w2.cell? ⟨w.heap.size,v.toNat,none⟩=some (.int .i64 y)/\I64 y:=by
 obtain ⟨y,hy,hI⟩:=Qug h (i:=v.toNat) (by omega)
 have hb:w2.heap[w.heap.size]?=some (.cells cs t (0,0)):=by
  rw [hg.block w.heap.size (by simp) (fun e=>by cases e;omega)];exact ZZk w _
 exact ⟨y,by rw [cell_of_row w2 w.heap.size v.toNat _ _ (0,0) hb];exact hy,hI⟩
theorem QfR (hc:Qbq W B ao ln) (h:Src W B ao ln cap s w) (most:Int) (h9:most<=9223372036854775807) :
  Calls prog 22 #[.pointer (some ⟨s,0,none⟩),.int .i64 most] w fun e w'=>∃ b,e=.returned (.bool b)/\Src W B ao ln cap s w'/\w.grownBy w' (some s):=by
 go_enter func22,ntmps22;go_wp2_with (go_at_call 24;refine (c_n hc h _ h9).mono ?_;rintro e w2 ⟨v,rfl,v0,v1,_,ab,aa⟩);go_ret;exact ⟨_,rfl,ab,aa⟩
theorem c_edge (hc:Qbq W B ao ln) (h:Src W B ao ln cap s w) :
  Calls prog 23 #[.pointer (some ⟨s,0,none⟩)] w fun e w'=>∃ v,e=.returned (.int .i64 v)/\I64 v/\Src W B ao ln cap s w'/\w.grownBy w' (some s):=by
 have hs:=QcF h;have ha:∀ o,Src W B ao ln cap s (w.alloc o):=fun o=>QaJ h bA;go_enter func23,ntmps23;go_wp2_with (go_at_call 24;refine (c_n hc (ha _) _ (by omega)).mono ?_;rintro e w2 ⟨v,rfl,v0,v1,_,ab,aa⟩;have v1:=v1 (by omega);obtain ⟨y,hy,hI⟩:=Qmt aa hs (by decide) v0 v1);go_ret;exact ⟨y,rfl,hI,ab,(World.grownBy_alloc _ _ _).trans aa⟩
theorem QmP (hc:Qbq W B ao ln) (h:Src W B ao ln cap s w) :
  Calls prog 163 #[.pointer (some ⟨s,0,none⟩)] w fun e w'=>∃ v,e=.returned (.int .i64 v)/\I64 v/\Src W B ao ln cap s w'/\w.grownBy w' (some s):=by
 have hG:w.grownBy w (some s):=World.grownBy.refl _ _;have hS:=h;clear h;go_enter func163,ntmps163
 go_wp2_with (first
  | (go_at_call 23;refine (c_edge hc hS).mono ?_;rintro e w2 ⟨y,rfl,hI,ab,aa⟩;have hG:=hG.trans aa)
  | (go_at_call 24;refine (c_n hc (by first | exact hS | exact QaJ hS bA) _ (by omega)).mono ?_;rintro e w2 ⟨v,rfl,v0,v1,_,ab,aa⟩;have v1:=v1 (by omega); (first | (have hG:=hG.trans aa) | (obtain ⟨y,hy,hI⟩:=Qmt aa (QcF hS) (by decide) v0 v1;have hG:=hG.trans ((World.grownBy_alloc _ _ _).trans aa)));have hS:=ab))
 all_goals (go_ret;first | exact ⟨_,rfl,hI,ab,hG⟩ | exact ⟨_,rfl,by unfold I64;omega,ab,hG⟩)
theorem QjK (hc:Qbq W B ao ln) (h:Src W B ao ln cap s w) (g k M:Nat) (hg:g≠s) (hk:1<k) (hk9:k<=1000) (hcell:∀ j,j<k->∃ u,w.cell? ⟨g,j,none⟩=some (.string u)/\u.size<=M) :
  Calls prog 39 #[.pointer (some ⟨s,0,none⟩),.slice (some ⟨g,0,none⟩) k k] w fun e w'=>∃ u,e=.returned (.string u)/\u.size<=M/\Src W B ao ln cap s w'/\w.grownBy w' (some s):=by
 go_enter func39,ntmps39;go_wp2_with (go_at_call 24;refine (c_n hc h _ (by omega)).mono ?_;rintro e w2 ⟨v,rfl,v0,v1,_,ac,aa⟩;have v1:=v1 (by omega);obtain ⟨u,hu,ab⟩:=hcell v.toNat (by omega);have ad:=aa.cell hu (by simpa using hg));go_ret;exact ⟨u,rfl,ab,ac,aa⟩
theorem Qi0 (w:World) (y:Int):(convert 22 9 (.slice (some ⟨w.heap.size,0,none⟩) 1 1)).run prog (w.alloc (.cells #[.int .u8 y] 5))=.ok (.string (strOfNums [y])) (w.alloc (.cells #[.int .u8 y] 5)):=
 run_convert_bytes_arg (P:=prog) (w.alloc (.cells #[.int .u8 y] 5)) 22 5 underlying22 underlying5 w.heap.size 0 1 1 [y] rfl (fun i hi=>by
  obtain rfl:i=0:=by omega
  simp) 9 underlying9
theorem Quu (hc:Qbq W B ao ln) (h:Src W B ao ln cap s w) (t:ByteArray) (ht:t.size<=1000000) :
  Calls prog 85 #[.pointer (some ⟨s,0,none⟩),.string t] w fun e w'=>∃ u,e=.returned (.string u)/\u.size<=t.size+2/\Src W B ao ln cap s w'/\w.grownBy w' (some s):=by
 have hG:w.grownBy w (some s):=World.grownBy.refl _ _;have hS:=h;have ad:=get_bt ⟨#[32,10,48,97,45,110,44,58,93,255,40,120,126,49,128,225,59]⟩;have ac:∀ y,(strOfNums [y]).size=1:=fun y=>rfl;clear h;go_enter func85,ntmps85
 go_wp2_with (first
  | (go_at_call 24;refine (c_n hc hS _ (by omega)).mono ?_;rintro e w2 ⟨v,rfl,v0,v1,_,ab,aa⟩;have v1:=v1 (by omega);have hG:=hG.trans aa;have hS:=ab;have kc:=Qi0 w2)
  | (go_at_call 22;refine (QfR hc (by first | exact hS | exact QaJ hS bA) _ (by omega)).mono ?_;rintro e w2 ⟨b,rfl,ab,aa⟩; (first | (have hG:=hG.trans aa) | (have hG:=hG.trans ((World.grownBy_alloc _ _ _).trans aa)));have hS:=ab))
 all_goals (go_quiet (fail);go_wp2)
 all_goals (go_ret;first
  | exact ⟨_,rfl,by simp only [ByteArray.size_append,ByteArray.size_extract,ac];omega,Qks hS,hG.trans (Qcx _ _ _)⟩
  | exact ⟨_,rfl,by simp only [ByteArray.size_append,ByteArray.size_extract,ac];omega,Qks (QaJ hS bA),hG.trans ((World.grownBy_alloc _ _ _).trans (Qcx _ _ _))⟩)
def isS (m:Nat):Value->Bool
 | .string u=>decide (u.size<=m)
 | _=>false
theorem isS_of {m:Nat} (h:isS m v=true):∃ u,v=.string u/\u.size<=m:=by
 unfold isS at h
 split at h
 ·rename_i u
  exact ⟨u,rfl,of_decide_eq_true h⟩
 ·cases h
theorem QeB {m:Nat} (h:cs.toList.all (isS m)=true) (j:Nat) (hj:j<cs.size):∃ u,(w.alloc (.cells cs t)).cell? ⟨w.heap.size,j,none⟩=some (.string u)/\u.size<=m:=by
 obtain ⟨u,e,hu⟩:=isS_of (List.all_eq_true.1 h cs[j] (Array.mem_toList_iff.2 (Array.getElem_mem hj)));have hb:(w.alloc (.cells cs t)).heap[w.heap.size]?=some (.cells cs t (0,0)):=ZZk w _;exact ⟨u,by rw [cell_of_row _ w.heap.size j _ _ (0,0) hb,Array.getElem?_eq_getElem hj,e],hu⟩
theorem QdS (hc:Qbq W B ao ln) (h:Src W B ao ln cap s w) (M:Nat) (hk:k=cs.size) (h1:1<k) (h9:k<=1000) (hcs:cs.toList.all (isS M)=true) :
  Calls prog 39 #[.pointer (some ⟨s,0,none⟩),.slice (some ⟨w.heap.size,0,none⟩) k k] (w.alloc (.cells cs t)) fun e w'=>∃ u,e=.returned (.string u)/\u.size<=M/\Src W B ao ln cap s w'/\w.grownBy w' (some s):=by
 refine (QjK hc (QaJ h bA) w.heap.size k M (by have:=QcF h;omega) h1 h9 (fun j hj=>QeB hcs j (by omega))).mono ?_;rintro e w' ⟨u,rfl,hu,hS,hg⟩;exact ⟨u,rfl,hu,hS,(World.grownBy_alloc _ _ _).trans hg⟩
end
section
theorem Qgy (ao:Option Addr) (ln cap:Nat) (w:World) (hK:w.heap.size=K) (hc:Qbq w K ao ln) :
  Calls prog 20 #[.slice ao ln cap] w fun e w'=>e=.returned (.pointer (some ⟨K,0,none⟩))/\Src w K ao ln cap K w':=by
 subst hK;exact Qk4 ao ln cap w hc
end
variable {u:ByteArray}
section
structure DL (W:World) (B:Nat) (ao:Option Addr) (ln cap s:Nat) (w wr:World) (v:Value) (L:List ByteArray):Prop where
 own:OwnT wr w.heap.size v L
 sz:∀ u∈L,u.size<=40
 src:Src W B ao ln cap s wr
 gr:w.grownBy wr (some s)
section
variable {W:World} {B ln cap s:Nat} {ao:Option Addr} {w wr:World} {v:Value} {L:List ByteArray}
theorem DL.step (h:DL W B ao ln cap s w wr v L) (hs:s<w.heap.size) (hS:Src W B ao ln cap s w1) (hg:wr.grownBy w1 (some s)):DL W B ao ln cap s w w1 v L:=by
 refine ⟨World.ownsRow.kept h.own hg ?_,h.sz,hS,h.gr.trans hg⟩
 cases e:v.ownBlock with
 | none=>exact .inl rfl
 | some k=>exact .inr (fun q=>by have:=(World.ownsRow.lt h.own k e).1;cases q;omega)
theorem DL.past (h:DL W B ao ln cap s w wr v L) (hs:s<w.heap.size) (hb:Bw wr w1):DL W B ao ln cap s w w1 v L:=
 h.step hs (QaJ h.src hb) ⟨hb.os,hb.tape,hb.output,hb.size,fun j hj _=>hb.block j hj⟩
theorem DL.app (h:DL W B ao ln cap s w wr v L) (hs:s<w.heap.size) (hu:u.size<=40) (ho:w1.ownsRow w.heap.size 9 1 v' n (L.map Value.string ++ [.string u])) (hg:wr.grownBy w1 v.ownBlock):DL W B ao ln cap s w w1 v' (L ++ [u]):=by
 have bel:Below w.heap.size wr w1:=⟨hg.os,hg.tape,hg.output,hg.size,fun j hj=>hg.block j (by have:=h.gr.size;omega) (fun e=>by have:=(World.ownsRow.lt h.own j e.symm).1;omega)⟩;refine ⟨OwnT.of ho (by simp),fun x hx=>?_,?_,?_⟩
 ·rcases List.mem_append.1 hx with hx | hx
  ·exact h.sz x hx
  ·obtain rfl:=List.mem_singleton.1 hx;exact hu
 ·obtain ⟨x,m,y,h0,h1,h2⟩:=h.src.blk
  exact ⟨h.src.bel.trans (bel.mono (Nat.le_trans h.src.hB (Nat.le_of_lt hs))),h.src.hB,x,m,y,by rw [bel.block s hs];exact h0,h1,h2⟩
 ·exact ⟨hg.os.trans h.gr.os,hg.tape.trans h.gr.tape,hg.output.trans h.gr.output,Nat.le_trans h.gr.size hg.size,fun j hj hne=>by rw [bel.block j hj];exact h.gr.block j hj hne⟩
end
theorem c_decT (N:Nat) (hN:N<=1000) (w:World):Calls prog 101 #[.int .i64 N] w fun e w'=>∃ u,e=.returned (.string u)/\u.size<=30/\Bw w w':=by
 by_cases h0:N=0
 ·subst h0
  go_enter func101,ntmps101;go_wp2;go_ret;exact ⟨_,rfl,by decide,ZZb _ _⟩
 ·refine (Qds N h0 (by omega) w).mono ?_
  rintro e w' ⟨rfl,hb⟩;refine ⟨_,rfl,?_,hb⟩;rw [<- Qaq,Qba,Lib.decDigits_length];have:=Lib.nDigits_le20 N (by omega);omega
end
section
theorem Qsy (hc:Qbq W B ao ln) (h:Src W B ao ln cap s w) :
  Calls prog 162 #[.pointer (some ⟨s,0,none⟩)] w fun e w'=>∃ v,e=.returned (.int .i64 v)/\I64 v/\Src W B ao ln cap s w'/\w.grownBy w' (some s):=by
 have HC:=Qaa hc;go_enter func162,ntmps162;go_wp2_with fail;refine (QfR HC h _ (by omega)).mono ?_;rintro e w1 ⟨b,rfl,ai,ah⟩;have an:=Qaa ai;have ak:=Qaa ah;clear ai ah h hc
 cases b with
 | true=>
  go_wp2_with fail;refine (QmP HC an).mono ?_;rintro e w2 ⟨v,rfl,hI,aa,ab⟩;have ad:=Qaa aa;have ac:=Qaa (ak.trans ab);clear aa ab;go_wp2;go_ret;exact ⟨v,rfl,hI,ad,ac⟩
 | false=>
  go_wp2_with fail;refine (c_n HC an _ (by omega)).mono ?_;rintro e w2 ⟨v,rfl,v0,v1,_,aa,ab⟩;have v1:=v1 (by omega);have ad:=Qaa aa;have ac:=Qaa (ak.trans ab);clear aa ab;go_wp2_with fail;refine (c_n HC ad _ (by omega)).mono ?_;rintro e w3 ⟨k,rfl,k0,k1,_,ag,ae⟩;have k1:=k1 (by omega);have ap:=Qaa ag;have aq:=Qaa (ac.trans ae);clear ag ae;go_wp2_with fail;obtain ⟨k,rfl⟩:=Int.eq_ofNat_of_zero_le k0
  go_loop [3,4] (fun xv kv=>∃ (j:Nat) (x:Int),j<=8/\kv=.int .i64 j/\xv=.int .i64 x/\I64 x) (fun xv kv=>(Go.RowKit.intOf kv).toNat)
  case atStart=>exact ⟨k,v,by omega,rfl,rfl,by unfold I64;omega⟩
  case round=>
   clear v0 v1 k0 k1;obtain ⟨j,x,hj,rfl,rfl,hx⟩:=hrel;rcases Nat.eq_zero_or_pos j with h0 | h0
   ·subst h0
    go_wp2_with fail;refine (QfR HC ap _ (by omega)).mono ?_;rintro e w4 ⟨b,rfl,am,al⟩;have af:=Qaa am;have aj:=Qaa (aq.trans al);clear am al;have hm:=QgX (-x)
    cases b with
    | true=>
     go_wp2;go_ret;exact ⟨_,rfl,by first | exact hm | (unfold I64 at *; omega),af,aj⟩
    | false=>
     go_wp2;go_ret;exact ⟨_,rfl,hx,af,aj⟩
   ·have ar:(0:Int)<(j:Int):=by omega
    have hm:=QgX (x*9);go_wp2
    go_round
    case rel=>exact ⟨j - 1,_,by omega,by congr 1;omega,rfl,hm⟩
    case measure=>simp [zI];omega
end
section
theorem QaE (h:w.grownBy w1 r) (hb:Below w.heap.size w1 w2):w.grownBy w2 r:=
 ⟨hb.os.trans h.os,hb.tape.trans h.tape,hb.output.trans h.output,Nat.le_trans h.size hb.size,fun k hk hne=>by rw [hb.block k hk];exact h.block k hk hne⟩
theorem Qrl (name:ByteArray) (L:List ByteArray):(QnD name L).size<=100:=by
 have e0:ByteArray.empty.size<=100:=by decide
 unfold QnD
 split
 ·exact e0
 ·unfold Qcp
  split
  ·unfold Qch
   split
   ·exact e0
   ·rename_i h;omega
  ·exact e0
theorem Qi2 (hc:Qbq W B ao ln) (h:Src W B ao ln cap s w) :
  Calls prog 161 #[.pointer (some ⟨s,0,none⟩)] w fun e w'=>∃ u,e=.returned (.string u)/\u.size<=100/\Src W B ao ln cap s w'/\w.grownBy w' (some s):=by
 obtain ⟨i0,hi,aA,ay,az⟩:=info_parts Qen;have HC:=Qaa hc;have HS:=Qaa h;clear hc h;go_enter func161,ntmps161;go_wp2_with fail;refine (QdS HC HS 40 (by rfl) (by omega) (by omega) (by decide)).mono ?_;rintro e w2 ⟨ad,rfl,aC,ai,aq⟩;have aa:s<w2.heap.size:=QcF ai;have al:=Qaa aq;replace HS:=Qaa ai;clear ai aq;go_wp2_with fail;refine (c_n HC (QaJ HS ((ZZb _ _).alloc (ZZa _) (.cells #[] 9))) _ (by omega)).mono ?_;rintro e w3 ⟨kk,rfl,k0,k1,_,ak,aj⟩;have k1:=k1 (by omega)
 have D0:DL W B ao ln cap s w2 w3 (.slice (some ⟨w2.heap.size,0,none⟩) 0 0) []:=by
  have O0:OwnT (w2.alloc (.cells #[] 9)) w2.heap.size (.slice (some ⟨w2.heap.size,0,none⟩) 0 0) []:=World.ownsRow_made w2 #[] 0 (ZZa _) (ZZj _) rfl;have D1:DL W B ao ln cap s w2 (w2.alloc (.cells #[] 9)) (.slice (some ⟨w2.heap.size,0,none⟩) 0 0) []:=⟨O0,fun u hu=>absurd hu List.not_mem_nil,QaJ HS bA,World.grownBy_alloc _ _ _⟩;exact D1.step aa ak aj
 have am:=Qaa D0;clear D0 ak aj HS;obtain ⟨kn,rfl⟩:=Int.eq_ofNat_of_zero_le k0;have aG:kn<3:=by omega
 clear k0 k1;go_wp2_with fail
 go_loopw [4,5] (fun lv kv wr=>∃ (j:Nat) (lo:Option Addr) (n lc:Nat) (L:List ByteArray),kv=.int .i64 j/\j<=3/\lv=.slice lo n lc/\n+j<=3/\Hid (L.length=n/\DL W B ao ln cap s w2 wr (.slice lo n lc) L)) (fun lv kv wr=>(Go.RowKit.intOf kv).toNat)
 case atStart=>exact ⟨kn,_,0,0,[],rfl,by omega,rfl,by omega,⟨rfl,am⟩⟩
 case round=>
  clear am;obtain ⟨j,lo,n,lc,L,rfl,hj,rfl,aD,HD⟩:=hrel;rcases Nat.eq_zero_or_pos j with h0 | h0
  ·subst h0
   go_wp2_with fail;refine (QjO ad lc n (by unfold maxLen;omega) HD.1 (by omega) (fun u hu=>by have:=HD.2.sz u hu;unfold maxLen;omega) HD.2.own.at).mono ?_;rintro e w4 ⟨rfl,af⟩;have ar:=Qaa (QaJ HD.2.src af);have av:=Qaa (QaE (al.trans HD.2.gr) (af.mono (Nat.le_trans al.size HD.2.gr.size)));have ae:=Qrl ad L;clear af HD;generalize QnD ad L=u at ae ⊢;go_wp2;go_ret;exact ⟨u,rfl,ae,ar,av⟩
  ·have aF:(0:Int)<(j:Int):=by omega
   have aB:IntKind.i64.wrap ((j:Int) - 1)=((j - 1:Nat):Int):=by rw [IntWalk.i64_in _ ⟨by omega,by omega⟩];omega
   have aE:n<=6:=by omega
   go_wp2_with (first
    | (go_at_call 39;refine (QdS HC HD.2.src 21 (by rfl) (by omega) (by omega) (by decide)).mono ?_;rintro e w4 ⟨u,rfl,hu,ap,an⟩;have aw:=Qaa (HD.2.step aa ap an);have ag:=Qaa (aw.past aa ((ZZb _ _).alloc (ZZa _) (.cells #[.string u] 9)));have HN:=Qaa HD.1;clear ap an HD)
    | (at_builtin;refine wpList_append_own _ rfl (.tmp 16) (.tmp 20) 57 rfl w2.heap.size 9 i0 (.string ByteArray.empty) 1 16 underlying57 hi aA ay az rfl (by decide) _ _ _ rfl ag.own ⟨w4.heap.size,0,none⟩ 1 1 [.string u] rfl rfl (Qav (cs:=#[.string u]) rfl) (Qa0 [u]) (by have:=HN.out;unfold maxLen;omega) (by have:=HN.out;omega) ag.gr.size ?_;intro v5 w5 ac ab ah;have au:=Qaa (ag.app aa (show u.size<=40 by omega) ac ab);obtain ⟨ax,c5,rfl⟩:=Qam ac;clear ac ab ah))
   go_roundw
   case rel=>exact ⟨j - 1,ax,L.length+1,c5,L ++ [u],rfl,by omega,rfl,by have:=HN.out;omega,⟨by simp,au⟩⟩
   case measure=>simp [Go.RowKit.intOf];omega
end
section
theorem Qbp (h:Src W B ao ln cap s w) (hb:Below K w w') (hs:s<K):Src W B ao ln cap s w':=by
 obtain ⟨a,m,z,hk,h1,h2⟩:=h.blk;exact ⟨h.bel.trans (hb.mono (Nat.le_trans h.hB (Nat.le_of_lt hs))),h.hB,a,m,z,by rw [hb.block s hs];exact hk,h1,h2⟩
theorem QgU {r:Nat} (h:w.heap[r]?=some (.cells cs T (0,0))) (j:Nat) (e:cs[j]?=some v):w.cell? ⟨r,j,none⟩=some v:=by rw [cell_of_row _ _ j _ _ (0,0) h];exact e
structure SD (W:World) (B:Nat) (ao:Option Addr) (ln cap s:Nat) (w wr:World) (b:Nat) (x:Sx):Prop where
 row:wr.heap[b]?=some (.cells (Qa3 x) 97 (0,0))
 res:wr.heap[w.heap.size]?=some (.cells zAa 97 (0,0))
 src:Src W B ao ln cap s wr
 gr:w.grownBy wr (some s)
 lb:w.heap.size<b
 hs:s<w.heap.size
 ok:x.Ok
section
variable {W:World} {B ln cap s:Nat} {ao:Option Addr} {w wr:World} {b:Nat} {x:Sx}
theorem SD.step (h:SD W B ao ln cap s w wr b x) (hS:Src W B ao ln cap s w1) (hg:wr.grownBy w1 (some s)):SD W B ao ln cap s w w1 b x:=by
 have l1:=h.lb;have l2:=h.hs;exact ⟨(hg.block b (ZZc.1 h.row).1 (fun e=>by cases e;omega)).trans h.row,(hg.block _ (ZZc.1 h.res).1 (fun e=>by cases e;omega)).trans h.res,hS,h.gr.trans hg,h.lb,h.hs,h.ok⟩
theorem SD.past (h:SD W B ao ln cap s w wr b x) (hb:Bw wr w1):SD W B ao ln cap s w w1 b x:=
 h.step (QaJ h.src hb) ⟨hb.os,hb.tape,hb.output,hb.size,fun j hj _=>hb.block j hj⟩
theorem SD.set (h:SD W B ao ln cap s w wr b x) {x':Sx} (j:Nat) (u:Value) (e:(Qa3 x).setIfInBounds j u=Qa3 x') (ok:x'.Ok):SD W B ao ln cap s w (wr.setCell ⟨b,j,none⟩ u) b x':=by
 have l1:=h.lb;have l2:=h.hs;have hb:Below b wr (wr.setCell ⟨b,j,none⟩ u):=(Below.refl b wr).setCell (by simp) u;refine ⟨?_,(hb.block _ l1).trans h.res,Qbp h.src hb (by omega),QaE h.gr (hb.mono (by omega)),h.lb,h.hs,ok⟩;rw [<- e];exact ZZl wr b j _ _ u h.row
end
theorem QaD {x:Sx} (h:w.heap[b]?=some (.cells (Qa3 x) T (0,0))):w.cell? ⟨b,0,none⟩=some (.int .i64 x.k)/\w.cell? ⟨b,1,none⟩=some (.string x.se)/\w.cell? ⟨b,2,none⟩=some (.int .i64 x.v)/\w.cell? ⟨b,3,none⟩=some (.string x.wd)/\w.cell? ⟨b,4,none⟩=some (.int .u64 x.wt)/\w.cell? ⟨b,5,none⟩=some (.bool x.tm)/\w.cell? ⟨b,6,none⟩=some (.int .i64 x.ti):=
 ⟨QgU h 0 rfl,QgU h 1 rfl,QgU h 2 rfl,QgU h 3 rfl,QgU h 4 rfl,QgU h 5 rfl,QgU h 6 rfl⟩
theorem Qcr {v:Int} (h0:-1<=v) (h1:v<=2000000000):I64 v:=by unfold I64;omega
def QoW (W:World) (B:Nat) (ao:Option Addr) (ln cap s:Nat) (w:World) (e:Ending) (w':World):Prop:=∃ x:Sx,e=.returned (.agg (Qa3 x))/\x.Ok/\Src W B ao ln cap s w'/\w.grownBy w' (some s)
theorem QgW (hc:Qbq W B ao ln) (h:Src W B ao ln cap s w) :
  Calls prog 117 #[.pointer (some ⟨s,0,none⟩)] w fun e w'=>QoW W B ao ln cap s w e w':=by
 have HC:=Qaa hc;have hs:=QcF h;have a0:Bw w (w.alloc (.cells zAa 97)):=bA;have an:=Qaa (QaJ h a0);have ap:=Qaa (ZZk w (.cells zAa 97));have aq:Hid (w.grownBy (w.alloc (.cells zAa 97)) (some s)):=(⟨a0.os,a0.tape,a0.output,a0.size,fun j hj _=>a0.block j hj⟩:w.grownBy _ (some s));have aG:(w.alloc (.cells zAa 97)).heap.size=w.heap.size+1:=by simp
 clear hc h a0;go_enter func117,ntmps117;go_wp2_with fail;generalize w.alloc _=W0 at an ap aq aG ⊢;refine (c_n HC an 4 (by omega)).mono ?_;rintro e w1 ⟨k0,rfl,k1,k2,_,aC,aB⟩;have k2:=k2 (by omega);have aV:IntKind.i64.wrap (1+k0)=1+k0:=ZZi _ ⟨by omega,by omega⟩;have aI:=Qaa aC;have ax:=Qaa aB;clear aC aB;go_wp2_with fail;refine (Qi2 HC aI).mono ?_;rintro e w2 ⟨se,rfl,aS,aF,ay⟩;have aE:=Qaa aF;have aD:=Qaa (ax.trans ay);clear aF ay aI ax;go_wp2_with fail;refine (QfR HC aE 2 (by omega)).mono ?_;rintro e w3 ⟨tm,rfl,aA,az⟩;have ak:=Qaa (aD.trans az);have a3:Bw w3 (w3.alloc (.cells (Qa3 ⟨1+k0,se,0,⟨#[]⟩,1,tm,0⟩) 97)):=bA;have z3:=ak.size
 have HD:Hid (SD W B ao ln cap s w (w3.alloc (.cells (Qa3 ⟨1+k0,se,0,⟨#[]⟩,1,tm,0⟩) 97)) w3.heap.size ⟨1+k0,se,0,⟨#[]⟩,1,tm,0⟩):=by
  refine Qaa ⟨heap_alloc_new w3 _,?_,QaJ aA a3,QaE (aq.trans ak) (a3.mono (by omega)),by omega,hs,⟨Qcr (by show -1<=1+k0;omega) (by show 1+k0<=_;omega),Qcr (by show (-1:Int)<=0;omega) (by show (0:Int)<=_;omega),by show U64 1;unfold U64;omega,Qcr (by show (-1:Int)<=0;omega) (by show (0:Int)<=_;omega),by show se.size<=_;unfold maxLen;omega,by show (⟨#[]⟩:ByteArray).size<=_;decide⟩⟩;exact (a3.block _ (by omega)).trans ((ak.block _ (by omega) (fun e=>by cases e;omega)).trans ap)
 clear aA az a3 aE aD ak an ap aq aG;go_upto_if 13 with fail;generalize w3.alloc _=W4 at HD ⊢;generalize w3.heap.size=b at HD z3 ⊢;generalize hx0:(⟨1+k0,se,0,⟨#[]⟩,1,tm,0⟩:Sx)=x at HD;have aP:tm=x.tm:=by rw [<- hx0]
 subst aP;clear hx0 z3;obtain ⟨x0,x1,x2,x3,x4,x5,x6⟩:=QaD HD.row
 go_cut [3] (fun p w'=>p=.pointer (some ⟨b,0,none⟩)/\∃ x,Hid (SD W B ao ln cap s w w' b x))
 case first=>
  cases ht:x.tm with
  | false=>
   rw [ht] at x5;go_wp2;go_meet;exact ⟨rfl,x,HD⟩
  | true=>
   rw [ht] at x5;go_wp2_with fail;refine (c_n HC HD.src 60 (by omega)).mono ?_;rintro e w5 ⟨v5,rfl,a5,c5,_,ac,ab⟩;have c5:=c5 (by omega);have aa:=Qaa (HD.step ac ab);clear ac ab x0 x1 x2 x3 x4 x5 x6;obtain ⟨x0,x1,x2,x3,x4,x5,x6⟩:=QaD aa.row;obtain ⟨f0,f1,f2,f3,f4,f5,f6⟩:=fA7 aa.row;go_wp2;go_meet;exact ⟨rfl,⟨x.k,x.se,x.v,x.wd,x.wt,x.tm,v5⟩,Qaa (aa.set 6 (.int .i64 v5) rfl ⟨aa.ok.k,aa.ok.v,aa.ok.wt,(show I64 v5 from Qcr (by omega) (by omega)),aa.ok.se,aa.ok.wd⟩)⟩
 case rest=>
  clear HD x0 x1 x2 x3 x4 x5 x6;obtain ⟨rfl,x,HD⟩:=hcut;obtain ⟨w6,aM⟩:∃ w6,wc=w6:=⟨_,rfl⟩;rw [aM] at HD ⊢;clear aM;obtain ⟨x0,x1,x2,x3,x4,x5,x6⟩:=QaD HD.row;go_upto_if 19 with fail
  go_cut [3] (fun p w'=>p=.pointer (some ⟨b,0,none⟩)/\∃ x,Hid (SD W B ao ln cap s w w' b x))
  case first=>
   by_cases h4:x.k=4
   ·have al:(x.k == 4)=true:=by simp [h4]
    clear h4;go_wp2_with fail;refine (QdS HC HD.src 40 (by rfl) (by omega) (by omega) (by decide)).mono ?_;rintro e w5 ⟨u5,rfl,aO,ac,ab⟩;have aa:=Qaa (HD.step ac ab);clear ac ab x0 x1 x2 x3 x4 x5 x6;obtain ⟨x0,x1,x2,x3,x4,x5,x6⟩:=QaD aa.row;obtain ⟨f0,f1,f2,f3,f4,f5,f6⟩:=fA7 aa.row;go_wp2;go_meet;exact ⟨rfl,⟨x.k,x.se,x.v,u5,x.wt,x.tm,x.ti⟩,Qaa (aa.set 3 (.string u5) rfl ⟨aa.ok.k,aa.ok.v,aa.ok.wt,aa.ok.ti,aa.ok.se,(show u5.size<=_ by unfold maxLen;omega)⟩)⟩
   ·have al:(x.k == 4)=false:=ZZf.2 h4
    clear h4;go_wp2_with fail;refine (Qsy HC HD.src).mono ?_;rintro e w5 ⟨v5,rfl,am,ac,ab⟩;have aa:=Qaa (HD.step ac ab);clear ac ab x0 x1 x2 x3 x4 x5 x6;obtain ⟨x0,x1,x2,x3,x4,x5,x6⟩:=QaD aa.row;obtain ⟨f0,f1,f2,f3,f4,f5,f6⟩:=fA7 aa.row;go_wp2;go_meet;exact ⟨rfl,⟨x.k,x.se,v5,x.wd,x.wt,x.tm,x.ti⟩,Qaa (aa.set 2 (.int .i64 v5) rfl ⟨aa.ok.k,am,aa.ok.wt,aa.ok.ti,aa.ok.se,aa.ok.wd⟩)⟩
  case rest=>
   clear HD x0 x1 x2 x3 x4 x5 x6;obtain ⟨rfl,x,HD⟩:=hcut;obtain ⟨w7,av⟩:∃ w7,wc=w7:=⟨_,rfl⟩;rw [av] at HD ⊢;clear av;obtain ⟨x0,x1,x2,x3,x4,x5,x6⟩:=QaD HD.row;go_upto_region 7 with fail
   go_cut [3,38] (fun p c w'=>p=.pointer (some ⟨b,0,none⟩)/\(∃ bb,c=.bool bb)/\Hid (SD W B ao ln cap s w w' b x))
   case first=>
    by_cases h4:x.k=4
    ·have al:(x.k != 4)=false:=by simp [h4]
     clear h4;go_wp2;go_meet;exact ⟨rfl,⟨false,rfl⟩,HD⟩
    ·have al:(x.k != 4)=true:=by simp [h4]
     by_cases h2:x.k=2
     ·have aQ:(x.k != 2)=false:=by simp [h2]
      clear h4 h2;go_wp2;go_meet;exact ⟨rfl,⟨false,rfl⟩,HD⟩
     ·have aQ:(x.k != 2)=true:=by simp [h2]
      clear h4 h2;go_wp2_with fail;refine (QfR HC HD.src 3 (by omega)).mono ?_;rintro e w4 ⟨bb,rfl,ah,ag⟩;have ae:=Qaa (HD.step ah ag);clear ah ag x0 x1 x2 x3 x4 x5 x6
      cases bb with
      | false=>
       go_wp2;go_meet;exact ⟨rfl,⟨false,rfl⟩,ae⟩
      | true=>
       go_wp2;go_meet;exact ⟨rfl,⟨true,rfl⟩,ae⟩
   case rest=>
    obtain ⟨rfl,⟨bb,rfl⟩,ae⟩:=hcut;obtain ⟨w4,aJ⟩:∃ w4,wc=w4:=⟨_,rfl⟩;rw [aJ] at ae ⊢;clear aJ HD x0 x1 x2 x3 x4 x5 x6;go_upto_if 38 with fail
    go_cut [3] (fun p w'=>p=.pointer (some ⟨b,0,none⟩)/\∃ x,Hid (SD W B ao ln cap s w w' b x))
    case first=>
      cases bb with
      | false=>
       go_wp2;go_meet;exact ⟨rfl,x,ae⟩
      | true=>
       go_wp2_with fail;refine (c_n HC ae.src 20 (by omega)).mono ?_;rintro e w5 ⟨v5,rfl,a5,c5,_,ac,ab⟩;have c5:=c5 (by omega);have aa:=Qaa (ae.step ac ab);have aU:IntKind.i64.wrap (1+v5)=1+v5:=ZZi _ ⟨by omega,by omega⟩;have aT:IntKind.u64.wrap (1+v5)=1+v5:=by rw [IntKind.wrap_u64];omega
       clear ac ab;obtain ⟨x0,x1,x2,x3,x4,x5,x6⟩:=QaD aa.row;obtain ⟨f0,f1,f2,f3,f4,f5,f6⟩:=fA7 aa.row;go_wp2;go_meet;exact ⟨rfl,⟨x.k,x.se,x.v,x.wd,1+v5,x.tm,x.ti⟩,Qaa (aa.set 4 (.int .u64 (1+v5)) rfl ⟨aa.ok.k,aa.ok.v,(show U64 (1+v5) by unfold U64;omega),aa.ok.ti,aa.ok.se,aa.ok.wd⟩)⟩
    case rest=>
     clear ae;obtain ⟨rfl,x,HD⟩:=hcut;obtain ⟨w8,aH⟩:∃ w8,wc=w8:=⟨_,rfl⟩;rw [aH] at HD ⊢;clear aH;obtain ⟨x0,x1,x2,x3,x4,x5,x6⟩:=QaD HD.row;go_wp2_with fail;refine (QfR HC HD.src 20 (by omega)).mono ?_;rintro e w4 ⟨bb,rfl,ah,ag⟩;have ae:=Qaa (HD.step ah ag);clear ah ag x0 x1 x2 x3 x4 x5 x6;go_upto_if 45 with fail
     go_cut [3] (fun p w'=>p=.pointer (some ⟨b,0,none⟩)/\∃ x,Hid (SD W B ao ln cap s w w' b x))
     case first=>
      cases bb with
      | false=>
       go_wp2;go_meet;exact ⟨rfl,x,ae⟩
      | true=>
       go_wp2_with fail;refine (c_n HC ae.src 6 (by omega)).mono ?_;rintro e w9 ⟨v9,rfl,a9,c9,_,au,aw⟩;have c9:=c9 (by omega);have ad:=Qaa (ae.step au aw);clear au aw;have h9:v9=0∨v9=1∨v9=2∨v9=3∨v9=4∨v9=5:=by omega
       clear a9 c9;rcases h9 with rfl | rfl | rfl | rfl | rfl | rfl
       ·go_wp2_with fail
        refine (c_n HC ad.src 6 (by omega)).mono ?_;rintro e w5 ⟨v5,rfl,a5,c5,_,ac,ab⟩;have c5:=c5 (by omega);have aa:=Qaa (ad.step ac ab);clear ac ab;obtain ⟨x0,x1,x2,x3,x4,x5,x6⟩:=QaD aa.row;obtain ⟨f0,f1,f2,f3,f4,f5,f6⟩:=fA7 aa.row;go_wp2;go_meet;exact ⟨rfl,⟨v5,x.se,x.v,x.wd,x.wt,x.tm,x.ti⟩,Qaa (aa.set 0 (.int .i64 v5) rfl ⟨(show I64 v5 from Qcr (by omega) (by omega)),aa.ok.v,aa.ok.wt,aa.ok.ti,aa.ok.se,aa.ok.wd⟩)⟩
       ·go_wp2_with fail
        refine (QdS HC ad.src 40 (by rfl) (by omega) (by omega) (by decide)).mono ?_;rintro e w5 ⟨u5,rfl,aO,ac,ab⟩;have aa:=Qaa (ad.step ac ab);clear ac ab;obtain ⟨x0,x1,x2,x3,x4,x5,x6⟩:=QaD aa.row;obtain ⟨f0,f1,f2,f3,f4,f5,f6⟩:=fA7 aa.row;go_wp2;go_meet;exact ⟨rfl,⟨x.k,u5,x.v,x.wd,x.wt,x.tm,x.ti⟩,Qaa (aa.set 1 (.string u5) rfl ⟨aa.ok.k,aa.ok.v,aa.ok.wt,aa.ok.ti,(show u5.size<=_ by unfold maxLen;omega),aa.ok.wd⟩)⟩
       ·go_wp2_with fail
        have aL:Bw w9 (w9.alloc (.cells zAi 62)):=bA;have HL:=Qaa (ZZk w9 (.cells zAi 62));have af:=Qaa (ad.past aL);have ar:(w9.alloc (.cells zAi 62)).heap.size=w9.heap.size+1:=by simp
        have aR:=(ZZc.1 ad.row).1;have aN:=QcF ad.src;clear aL;generalize w9.alloc _=WL at HL af ar ⊢;refine (c_n HC af.src 4 (by omega)).mono ?_;rintro e w5 ⟨v5,rfl,a5,c5,_,ac,ab⟩;have c5:=c5 (by omega);have aa:=Qaa (af.step ac ab);have ai:=Qaa ((ab.block w9.heap.size (by omega) (fun e=>by cases e;omega)).trans HL);clear ac ab;obtain ⟨l0,l1,l2,l3⟩:=cA4 ai;obtain ⟨x0,x1,x2,x3,x4,x5,x6⟩:=QaD aa.row;obtain ⟨f0,f1,f2,f3,f4,f5,f6⟩:=fA7 aa.row;have h5:v5=0∨v5=1∨v5=2∨v5=3:=by omega
        clear a5 c5;rcases h5 with rfl | rfl | rfl | rfl
        ·go_wp2
         go_meet;exact ⟨rfl,⟨x.k,x.se,x.v,x.wd,0,x.tm,x.ti⟩,Qaa (aa.set 4 (.int .u64 0) rfl ⟨aa.ok.k,aa.ok.v,(show U64 0 by unfold U64;omega),aa.ok.ti,aa.ok.se,aa.ok.wd⟩)⟩
        ·go_wp2
         go_meet;exact ⟨rfl,⟨x.k,x.se,x.v,x.wd,1000000,x.tm,x.ti⟩,Qaa (aa.set 4 (.int .u64 1000000) rfl ⟨aa.ok.k,aa.ok.v,(show U64 1000000 by unfold U64;omega),aa.ok.ti,aa.ok.se,aa.ok.wd⟩)⟩
        ·go_wp2
         go_meet;exact ⟨rfl,⟨x.k,x.se,x.v,x.wd,1000001,x.tm,x.ti⟩,Qaa (aa.set 4 (.int .u64 1000001) rfl ⟨aa.ok.k,aa.ok.v,(show U64 1000001 by unfold U64;omega),aa.ok.ti,aa.ok.se,aa.ok.wd⟩)⟩
        ·go_wp2
         go_meet;exact ⟨rfl,⟨x.k,x.se,x.v,x.wd,777777,x.tm,x.ti⟩,Qaa (aa.set 4 (.int .u64 777777) rfl ⟨aa.ok.k,aa.ok.v,(show U64 777777 by unfold U64;omega),aa.ok.ti,aa.ok.se,aa.ok.wd⟩)⟩
       ·go_wp2_with fail
        have aL:Bw w9 (w9.alloc (.cells zAe 2)):=bA;have HL:=Qaa (ZZk w9 (.cells zAe 2));have af:=Qaa (ad.past aL);have ar:(w9.alloc (.cells zAe 2)).heap.size=w9.heap.size+1:=by simp
        have aR:=(ZZc.1 ad.row).1;have aN:=QcF ad.src;clear aL;generalize w9.alloc _=WL at HL af ar ⊢;refine (c_n HC af.src 3 (by omega)).mono ?_;rintro e w5 ⟨v5,rfl,a5,c5,_,ac,ab⟩;have c5:=c5 (by omega);have aa:=Qaa (af.step ac ab);have ai:=Qaa ((ab.block w9.heap.size (by omega) (fun e=>by cases e;omega)).trans HL);clear ac ab;have l0:=Qah ai 0 rfl;have l1:=Qah ai 1 rfl;have l2:=Qah ai 2 rfl;obtain ⟨x0,x1,x2,x3,x4,x5,x6⟩:=QaD aa.row;obtain ⟨f0,f1,f2,f3,f4,f5,f6⟩:=fA7 aa.row;have h5:v5=0∨v5=1∨v5=2:=by omega
        clear a5 c5;rcases h5 with rfl | rfl | rfl
        ·go_wp2
         go_meet;exact ⟨rfl,⟨x.k,x.se,x.v,x.wd,x.wt,x.tm,(-1)⟩,Qaa (aa.set 6 (.int .i64 (-1)) rfl ⟨aa.ok.k,aa.ok.v,aa.ok.wt,(show I64 (-1) by unfold I64;omega),aa.ok.se,aa.ok.wd⟩)⟩
        ·go_wp2
         go_meet;exact ⟨rfl,⟨x.k,x.se,x.v,x.wd,x.wt,x.tm,1000000000⟩,Qaa (aa.set 6 (.int .i64 1000000000) rfl ⟨aa.ok.k,aa.ok.v,aa.ok.wt,(show I64 1000000000 by unfold I64;omega),aa.ok.se,aa.ok.wd⟩)⟩
        ·go_wp2
         go_meet;exact ⟨rfl,⟨x.k,x.se,x.v,x.wd,x.wt,x.tm,1000000001⟩,Qaa (aa.set 6 (.int .i64 1000000001) rfl ⟨aa.ok.k,aa.ok.v,aa.ok.wt,(show I64 1000000001 by unfold I64;omega),aa.ok.se,aa.ok.wd⟩)⟩
       ·have aa:=ad
        obtain ⟨x0,x1,x2,x3,x4,x5,x6⟩:=QaD aa.row;obtain ⟨f0,f1,f2,f3,f4,f5,f6⟩:=fA7 aa.row;go_wp2;go_meet;exact ⟨rfl,⟨x.k,x.se,x.v,⟨#[119]⟩,x.wt,x.tm,x.ti⟩,Qaa (aa.set 3 (.string ⟨#[119]⟩) rfl ⟨aa.ok.k,aa.ok.v,aa.ok.wt,aa.ok.ti,aa.ok.se,(show (⟨#[119]⟩:ByteArray).size<=_ by decide)⟩)⟩
       ·go_wp2_with fail
        refine (QmP HC ad.src).mono ?_;rintro e w5 ⟨v5,rfl,am,ac,ab⟩;have aa:=Qaa (ad.step ac ab);clear ac ab;obtain ⟨x0,x1,x2,x3,x4,x5,x6⟩:=QaD aa.row;obtain ⟨f0,f1,f2,f3,f4,f5,f6⟩:=fA7 aa.row;go_wp2;go_meet;exact ⟨rfl,⟨x.k,x.se,v5,x.wd,x.wt,x.tm,x.ti⟩,Qaa (aa.set 2 (.int .i64 v5) rfl ⟨aa.ok.k,am,aa.ok.wt,aa.ok.ti,aa.ok.se,aa.ok.wd⟩)⟩
     case rest=>
      clear HD ae;obtain ⟨rfl,x,HD⟩:=hcut;obtain ⟨aK,aj⟩:∃ aK,wc=aK:=⟨_,rfl⟩;rw [aj] at HD ⊢;clear aj;obtain ⟨x0,x1,x2,x3,x4,x5,x6⟩:=QaD HD.row;obtain ⟨z0,z1,z2,z3,z4,z5,z6⟩:=cA7 HD.res;obtain ⟨f0,f1,f2,f3,f4,f5,f6⟩:=fA7 HD.res;have aW:¬ b=w.heap.size:=by have:=HD.lb;omega
      go_wp2;refine bodyPost_ret (v:=.agg (Qa3 x)) (by simp [results,results117,go_sem,z0,z1,z2,z3,z4,z5,z6]) rfl ⟨x,rfl,HD.ok,?_,?_⟩
      ·refine Qbp (K:=w.heap.size) HD.src ?_ hs
       repeat (refine Below.setCell ?_ (by simp) _)
       exact ZZb _ _
      ·refine QaE HD.gr ?_
       repeat (refine Below.setCell ?_ (by simp) _)
       exact ZZb _ _
end
section
theorem SD.set7 {x y:Sx} (h:SD W B ao ln cap s w wr b x) (oy:y.Ok):SD W B ao ln cap s w (((((((wr.setCell ⟨b,0,none⟩ (.int .i64 y.k)).setCell ⟨b,1,none⟩ (.string y.se)).setCell ⟨b,2,none⟩ (.int .i64 y.v)).setCell ⟨b,3,none⟩ (.string y.wd)).setCell ⟨b,4,none⟩ (.int .u64 y.wt)).setCell ⟨b,5,none⟩ (.bool y.tm)).setCell ⟨b,6,none⟩ (.int .i64 y.ti)) b y:=by
 have h0:=h.set (x':=⟨y.k,x.se,x.v,x.wd,x.wt,x.tm,x.ti⟩) 0 (.int .i64 y.k) rfl ⟨oy.k,h.ok.v,h.ok.wt,h.ok.ti,h.ok.se,h.ok.wd⟩;have h1:=h0.set (x':=⟨y.k,y.se,x.v,x.wd,x.wt,x.tm,x.ti⟩) 1 (.string y.se) rfl ⟨oy.k,h.ok.v,h.ok.wt,h.ok.ti,oy.se,h.ok.wd⟩;have h2:=h1.set (x':=⟨y.k,y.se,y.v,x.wd,x.wt,x.tm,x.ti⟩) 2 (.int .i64 y.v) rfl ⟨oy.k,oy.v,h.ok.wt,h.ok.ti,oy.se,h.ok.wd⟩;have h3:=h2.set (x':=⟨y.k,y.se,y.v,y.wd,x.wt,x.tm,x.ti⟩) 3 (.string y.wd) rfl ⟨oy.k,oy.v,h.ok.wt,h.ok.ti,oy.se,oy.wd⟩;have h4:=h3.set (x':=⟨y.k,y.se,y.v,y.wd,y.wt,x.tm,x.ti⟩) 4 (.int .u64 y.wt) rfl ⟨oy.k,oy.v,oy.wt,h.ok.ti,oy.se,oy.wd⟩;have h5:=h4.set (x':=⟨y.k,y.se,y.v,y.wd,y.wt,y.tm,x.ti⟩) 5 (.bool y.tm) rfl ⟨oy.k,oy.v,oy.wt,h.ok.ti,oy.se,oy.wd⟩;have h6:=h5.set (x':=⟨y.k,y.se,y.v,y.wd,y.wt,y.tm,y.ti⟩) 6 (.int .i64 y.ti) rfl ⟨oy.k,oy.v,oy.wt,oy.ti,oy.se,oy.wd⟩;exact h6
theorem Qk3 (hc:Qbq W B ao ln) (h:Src W B ao ln cap s w) :
  Calls prog 82 #[.pointer (some ⟨s,0,none⟩)] w fun e w'=>QoW W B ao ln cap s w e w':=by
 have HC:=Qaa hc;have hs:=QcF h;have a0:Bw w (w.alloc (.cells zAa 97)):=bA;have ah:=Qaa (QaJ h a0);have ai:=Qaa (ZZk w (.cells zAa 97));have aj:Hid (w.grownBy (w.alloc (.cells zAa 97)) (some s)):=(⟨a0.os,a0.tape,a0.output,a0.size,fun j hj _=>a0.block j hj⟩:w.grownBy _ (some s));have aA:(w.alloc (.cells zAa 97)).heap.size=w.heap.size+1:=by simp
 clear hc h a0;go_enter func82,ntmps82;go_wp2_with fail;generalize w.alloc _=W0 at ah ai aj aA ⊢;refine (QgW HC ah).mono ?_;rintro e w3 ⟨x,rfl,ox,aw,ae⟩;have a3:Bw w3 (w3.alloc (.cells (Qa3 x) 97)):=bA;have z3:=ae.size
 have HD:Hid (SD W B ao ln cap s w (w3.alloc (.cells (Qa3 x) 97)) w3.heap.size x):=by
  refine Qaa ⟨ZZk w3 _,?_,QaJ aw a3,QaE (aj.trans ae) (a3.mono (by omega)),by omega,hs,ox⟩;exact (a3.block _ (by omega)).trans ((ae.block _ (by omega) (fun e=>by cases e;omega)).trans ai)
 clear aw ae a3 ah ai aj aA ox;go_upto_block 0 with fail;generalize w3.alloc _=W4 at HD ⊢;generalize w3.heap.size=b at HD z3 ⊢;clear z3
 go_cut [3] (fun p w'=>p=.pointer (some ⟨b,0,none⟩)/\∃ x,Hid (SD W B ao ln cap s w w' b x))
 case first=>
  go_wp2_with fail
  go_loopw [4] (fun i wr=>∃ (k:Nat) (y:Sx),k<=5/\i=.int .i64 k/\Hid (SD W B ao ln cap s w wr b y)) (fun i wr=>5 - (Go.RowKit.intOf i).toNat)
  case atStart=>exact ⟨0,x,by omega,rfl,HD⟩
  case round=>
   clear HD;obtain ⟨k,x,hk,rfl,HD⟩:=hrel;by_cases aH:k<5
   ·have al:(k:Int)<5:=by omega
    obtain ⟨x0,x1,x2,x3,x4,x5,x6⟩:=QaD HD.row;go_wp2_with fail;clear x0 x1 x2 x3 x4 x5 x6;refine (QcA x.k x.se x.v x.wd x.wt x.tm x.ti HD.ok.se HD.ok.wd).mono ?_;rintro e w5 ⟨rfl,aC⟩;have ak:=Qaa (HD.past aC);clear aC HD
    cases hB:QbK x.k x.se x.v x.wd x.wt x.tm x.ti with
    | true=>
     go_wp2;go_meet;exact ⟨rfl,x,ak⟩
    | false=>
     go_wp2_with fail;refine (QgW HC ak.src).mono ?_;rintro e w6 ⟨y,rfl,oy,az,ax⟩;have an:=Qaa (ak.step az ax);have aE:=Qaa (an.set7 oy);clear az ax;obtain ⟨x0,x1,x2,x3,x4,x5,x6⟩:=QaD an.row;obtain ⟨f0,f1,f2,f3,f4,f5,f6⟩:=fA7 an.row;go_wp2;go_roundw
     case rel=>exact ⟨k+1,y,by omega,by go_num,aE⟩
     case measure=>simp [zI];omega
   ·have al:¬ ((k:Int)<5):=by omega
    go_wp2;go_meet;exact ⟨rfl,x,HD⟩
 case rest=>
  clear HD;obtain ⟨rfl,x,HD⟩:=hcut;obtain ⟨w7,au⟩:∃ w7,wc=w7:=⟨_,rfl⟩;rw [au] at HD ⊢;clear au;go_wp2_with fail;refine (QfR HC HD.src 12 (by omega)).mono ?_;rintro e w8 ⟨bb,rfl,ay,av⟩;have aa:=Qaa (HD.step ay av);clear ay av HD
  cases bb with
  | true=>
   have HD:=aa;clear aa;obtain ⟨x0,x1,x2,x3,x4,x5,x6⟩:=QaD HD.row;obtain ⟨z0,z1,z2,z3,z4,z5,z6⟩:=cA7 HD.res;obtain ⟨f0,f1,f2,f3,f4,f5,f6⟩:=fA7 HD.res;have af:¬ b=w.heap.size:=by have:=HD.lb;omega
   go_wp2;refine bodyPost_ret (v:=.agg (Qa3 x)) (by simp [results,results82,go_sem,z0,z1,z2,z3,z4,z5,z6]) rfl ⟨x,rfl,HD.ok,?_,?_⟩
   ·refine Qbp (K:=w.heap.size) HD.src ?_ hs
    repeat (refine Below.setCell ?_ (by simp) _)
    exact ZZb _ _
   ·refine QaE HD.gr ?_
    repeat (refine Below.setCell ?_ (by simp) _)
    exact ZZb _ _
  | false=>
   obtain ⟨kd,aD⟩:∃ kd:Int,1+(x.se.size:Int) % 4=kd:=⟨_,rfl⟩;have aL:1<=kd/\kd<=4:=by omega
   have aK:IntKind.i64.wrap (1+(x.se.size:Int) % 4)=kd:=by rw [aD];exact ZZi _ ⟨by omega,by omega⟩
   have ap:=aa.ok.se;unfold maxLen at ap;obtain ⟨x0,x1,x2,x3,x4,x5,x6⟩:=QaD aa.row;by_cases ad:x.k=kd
   ·have am:(x.k == kd)=true:=by simp [ad]
    clear x0 x1 x2 x3 x4 x5 x6;have HD:=aa;clear aa ad;obtain ⟨x0,x1,x2,x3,x4,x5,x6⟩:=QaD HD.row;obtain ⟨z0,z1,z2,z3,z4,z5,z6⟩:=cA7 HD.res;obtain ⟨f0,f1,f2,f3,f4,f5,f6⟩:=fA7 HD.res;have af:¬ b=w.heap.size:=by have:=HD.lb;omega
    go_wp2;refine bodyPost_ret (v:=.agg (Qa3 x)) (by simp [results,results82,go_sem,z0,z1,z2,z3,z4,z5,z6]) rfl ⟨x,rfl,HD.ok,?_,?_⟩
    ·refine Qbp (K:=w.heap.size) HD.src ?_ hs
     repeat (refine Below.setCell ?_ (by simp) _)
     exact ZZb _ _
    ·refine QaE HD.gr ?_
     repeat (refine Below.setCell ?_ (by simp) _)
     exact ZZb _ _
   ·have am:(x.k == kd)=false:=ZZf.2 ad
    clear ad;clear x0 x1 x2 x3 x4 x5 x6;obtain ⟨x0,x1,x2,x3,x4,x5,x6⟩:=QaD aa.row;obtain ⟨f0,f1,f2,f3,f4,f5,f6⟩:=fA7 aa.row;have i0:I64 kd:=Qcr (by omega) (by omega);by_cases h4:kd=4
    ·subst h4
     go_wp2_with fail;clear x0 x1 x2 x3 x4 x5 x6 f0 f1 f2 f3 f4 f5 f6;have ag:=Qaa (((aa.set (x':=⟨4,x.se,x.v,x.wd,x.wt,x.tm,x.ti⟩) 0 (.int .i64 4) rfl ⟨i0,aa.ok.v,aa.ok.wt,aa.ok.ti,aa.ok.se,aa.ok.wd⟩).set (x':=⟨4,x.se,x.v,⟨#[]⟩,x.wt,x.tm,x.ti⟩) 3 (.string ⟨#[]⟩) rfl ⟨i0,aa.ok.v,aa.ok.wt,aa.ok.ti,aa.ok.se,(by show (0:Nat)<=_;omega)⟩).set (x':=⟨4,x.se,0,⟨#[]⟩,x.wt,x.tm,x.ti⟩) 2 (.int .i64 0) rfl ⟨i0,(show I64 (0:Int) from Qcr (by omega) (by omega)),aa.ok.wt,aa.ok.ti,aa.ok.se,(by show (0:Nat)<=_;omega)⟩);clear aa;refine (c_n HC ag.src 5 (by omega)).mono ?_;rintro e w9 ⟨v9,rfl,a9,c9,_,aq,ar⟩;have c9:=c9 (by omega);have aB:=Qaa (ag.step aq ar);clear aq ar ag;obtain ⟨m9,rfl⟩:∃ m:Nat,v9=(m:Int):=⟨v9.toNat,by omega⟩;go_wp2_with fail;refine (c_decT m9 (by omega) _).mono ?_;rintro e aF ⟨u,rfl,hu,ac⟩;have ab:=Qaa (aB.past ac);clear ac aB;have aG:(({ data:=#[119] }:ByteArray) ++ u).size<=31:=by rw [ByteArray.size_append];show 1+u.size<=31;omega
     obtain ⟨x0,x1,x2,x3,x4,x5,x6⟩:=QaD ab.row;obtain ⟨f0,f1,f2,f3,f4,f5,f6⟩:=fA7 ab.row;go_upto_region 17 with fail;clear x0 x1 x2 x3 x4 x5 x6 f0 f1 f2 f3 f4 f5 f6;have HD:=Qaa ((ab.set (x':=⟨4,x.se,0,{ data:=#[119] } ++ u,x.wt,x.tm,x.ti⟩) 3 (.string ({ data:=#[119] } ++ u)) rfl ⟨i0,ab.ok.v,ab.ok.wt,ab.ok.ti,ab.ok.se,(by show (({ data:=#[119] }:ByteArray) ++ u).size<=_;unfold maxLen;omega)⟩).set (x':=⟨4,x.se,0,{ data:=#[119] } ++ u,1,x.tm,x.ti⟩) 4 (.int .u64 1) rfl ⟨i0,ab.ok.v,(show U64 (1:Int) by unfold U64;omega),ab.ok.ti,ab.ok.se,(by show (({ data:=#[119] }:ByteArray) ++ u).size<=_;unfold maxLen;omega)⟩);clear ab;generalize World.setCell _ _ _=wz at HD ⊢;generalize (⟨4,x.se,0,{ data:=#[119] } ++ u,1,x.tm,x.ti⟩:Sx)=y at HD;obtain ⟨x0,x1,x2,x3,x4,x5,x6⟩:=QaD HD.row;obtain ⟨z0,z1,z2,z3,z4,z5,z6⟩:=cA7 HD.res;obtain ⟨f0,f1,f2,f3,f4,f5,f6⟩:=fA7 HD.res;have af:¬ b=w.heap.size:=by have:=HD.lb;omega
     go_wp2;refine bodyPost_ret (v:=.agg (Qa3 y)) (by simp [results,results82,go_sem,z0,z1,z2,z3,z4,z5,z6]) rfl ⟨y,rfl,HD.ok,?_,?_⟩
     ·refine Qbp (K:=w.heap.size) HD.src ?_ hs
      repeat (refine Below.setCell ?_ (by simp) _)
      exact ZZb _ _
     ·refine QaE HD.gr ?_
      repeat (refine Below.setCell ?_ (by simp) _)
      exact ZZb _ _
    ·have aJ:(kd == 4)=false:=ZZf.2 h4
     by_cases h2:kd=2
     ·subst h2
      clear h4;go_upto_region 17 with fail;clear x0 x1 x2 x3 x4 x5 x6 f0 f1 f2 f3 f4 f5 f6;have HD:=Qaa (((aa.set (x':=⟨2,x.se,x.v,x.wd,x.wt,x.tm,x.ti⟩) 0 (.int .i64 2) rfl ⟨i0,aa.ok.v,aa.ok.wt,aa.ok.ti,aa.ok.se,aa.ok.wd⟩).set (x':=⟨2,x.se,x.v,⟨#[]⟩,x.wt,x.tm,x.ti⟩) 3 (.string ⟨#[]⟩) rfl ⟨i0,aa.ok.v,aa.ok.wt,aa.ok.ti,aa.ok.se,(by show (0:Nat)<=_;omega)⟩).set (x':=⟨2,x.se,x.v,⟨#[]⟩,1,x.tm,x.ti⟩) 4 (.int .u64 1) rfl ⟨i0,aa.ok.v,(show U64 (1:Int) by unfold U64;omega),aa.ok.ti,aa.ok.se,(by show (0:Nat)<=_;omega)⟩);clear aa;generalize World.setCell _ _ _=wz at HD ⊢;generalize (⟨2,x.se,x.v,⟨#[]⟩,1,x.tm,x.ti⟩:Sx)=y at HD;obtain ⟨x0,x1,x2,x3,x4,x5,x6⟩:=QaD HD.row;obtain ⟨z0,z1,z2,z3,z4,z5,z6⟩:=cA7 HD.res;obtain ⟨f0,f1,f2,f3,f4,f5,f6⟩:=fA7 HD.res;have af:¬ b=w.heap.size:=by have:=HD.lb;omega
      go_wp2;refine bodyPost_ret (v:=.agg (Qa3 y)) (by simp [results,results82,go_sem,z0,z1,z2,z3,z4,z5,z6]) rfl ⟨y,rfl,HD.ok,?_,?_⟩
      ·refine Qbp (K:=w.heap.size) HD.src ?_ hs
       repeat (refine Below.setCell ?_ (by simp) _)
       exact ZZb _ _
      ·refine QaE HD.gr ?_
       repeat (refine Below.setCell ?_ (by simp) _)
       exact ZZb _ _
     ·have aI:(kd == 2)=false:=ZZf.2 h2
      clear h4 h2;go_upto_region 17 with fail;clear x0 x1 x2 x3 x4 x5 x6 f0 f1 f2 f3 f4 f5 f6;have HD:=Qaa ((aa.set (x':=⟨kd,x.se,x.v,x.wd,x.wt,x.tm,x.ti⟩) 0 (.int .i64 kd) rfl ⟨i0,aa.ok.v,aa.ok.wt,aa.ok.ti,aa.ok.se,aa.ok.wd⟩).set (x':=⟨kd,x.se,x.v,⟨#[]⟩,x.wt,x.tm,x.ti⟩) 3 (.string ⟨#[]⟩) rfl ⟨i0,aa.ok.v,aa.ok.wt,aa.ok.ti,aa.ok.se,(by show (0:Nat)<=_;omega)⟩);clear aa;generalize World.setCell _ _ _=wz at HD ⊢;generalize (⟨kd,x.se,x.v,⟨#[]⟩,x.wt,x.tm,x.ti⟩:Sx)=y at HD;obtain ⟨x0,x1,x2,x3,x4,x5,x6⟩:=QaD HD.row;obtain ⟨z0,z1,z2,z3,z4,z5,z6⟩:=cA7 HD.res;obtain ⟨f0,f1,f2,f3,f4,f5,f6⟩:=fA7 HD.res;have af:¬ b=w.heap.size:=by have:=HD.lb;omega
      go_wp2;refine bodyPost_ret (v:=.agg (Qa3 y)) (by simp [results,results82,go_sem,z0,z1,z2,z3,z4,z5,z6]) rfl ⟨y,rfl,HD.ok,?_,?_⟩
      ·refine Qbp (K:=w.heap.size) HD.src ?_ hs
       repeat (refine Below.setCell ?_ (by simp) _)
       exact ZZb _ _
      ·refine QaE HD.gr ?_
       repeat (refine Below.setCell ?_ (by simp) _)
       exact ZZb _ _
end
variable {L:List ByteArray}
section
theorem Qtx (h:Src W B ao ln cap s w) (hb:Below K w w') (hs:s<K):Src W B ao ln cap s w':=by
 obtain ⟨a,m,z,hk,h1,h2⟩:=h.blk;exact ⟨h.bel.trans (hb.mono (Nat.le_trans h.hB (Nat.le_of_lt hs))),h.hB,a,m,z,by rw [hb.block s hs];exact hk,h1,h2⟩
theorem QoQ (h:w.grownBy w1 r) (hb:Below w.heap.size w1 w2):w.grownBy w2 r:=
 ⟨hb.os.trans h.os,hb.tape.trans h.tape,hb.output.trans h.output,Nat.le_trans h.size hb.size,fun k hk hne=>by rw [hb.block k hk];exact h.block k hk hne⟩
theorem QpD {z n':Nat} {xs xs':List Value} (h:w.ownsRow B T z v n xs) (e:n=n') (e2:xs=xs'):w.ownsRow B T z v n' xs':=by subst e e2;exact h
structure Mem (W:World) (B:Nat) (ao:Option Addr) (ln cap s:Nat) (w wr:World) (v:Value) (L:List ByteArray):Prop where
 own:wr.ownsRow w.heap.size 9 1 v L.length (L.map Value.string)
 sz:∀ u∈L,u.size<=10
 src:Src W B ao ln cap s wr
 gr:w.grownBy wr (some s)
theorem Mem.ne (h:Mem W B ao ln cap s w wr v L) (hs:s<w.heap.size):v.ownBlock=none∨v.ownBlock≠some s:=by
 cases e:v.ownBlock with
 | none=>exact .inl rfl
 | some k=>
  right
  have:=(h.own.lt k e).1;intro q;cases q;omega
theorem Mem.call (h:Mem W B ao ln cap s w wr v L) (hs:s<w.heap.size) (hS:Src W B ao ln cap s w2) (hg:wr.grownBy w2 (some s)):Mem W B ao ln cap s w w2 v L:=
 ⟨h.own.kept hg (h.ne hs),h.sz,hS,h.gr.trans hg⟩
theorem Mem.put (h:Mem W B ao ln cap s w wr v L) (hs:s<w.heap.size) (hu:u.size<=10)
  (ho:w2.ownsRow w.heap.size 9 1 v' (L.length+1) (L.map Value.string ++ [.string u])) (hb:Below w.heap.size wr w2):Mem W B ao ln cap s w w2 v' (L ++ [u]):=
 ⟨QpD ho (by simp) (by simp),fun x hx=>by rcases List.mem_append.1 hx with h1 | h1;exact h.sz x h1;simp at h1;subst h1;exact hu,Qtx h.src hb hs,QoQ h.gr hb⟩
theorem Qih {g c:Nat} (h:w.ownsRow B 9 1 (.slice (some ⟨g,0,none⟩) n c) n (L.map Value.string)) (hu:L[0]?=some u):w.cell? ⟨g,0,none⟩=some (.string u):=by
 have hl:=(ZZd.1 hu).1;have hn:=h.1;rw [yA] at hn;rw [h.cellAt 0 (by omega)];simp [hu]
theorem QkB (hc:Qbq W B ao ln) (h:Src W B ao ln cap s w) :
  Calls prog 52 #[.pointer (some ⟨s,0,none⟩)] w fun e w'=>∃ v L,e=.returned v/\L.length<=14/\Mem W B ao ln cap s w w' v L:=by
 obtain ⟨i0,hi,ai,aj,ah⟩:=info_parts Qen;have hs:=QcF h;have HS:=Qaa h;clear h;go_enter func52,ntmps52;go_wp2
 go_loopw [3,4] (fun v i wr=>∃ (k:Nat) (L:List ByteArray),k<=6/\i=.int .i64 k/\L.length<=k/\Mem W B ao ln cap s w wr v L) (fun v i wr=>6 - (Go.RowKit.intOf i).toNat)
 case atStart=>exact ⟨0,[],Nat.zero_le _,rfl,Nat.le_refl _,⟨World.ownsRow_made w #[] 0 (Nat.le_refl _) (Nat.zero_le _) rfl,fun u hu=>by simp at hu,QaJ HS bA,World.grownBy_alloc _ _ _⟩⟩
 case round=>
  obtain ⟨k,L,hk,rfl,aY,hM⟩:=hrel;have HM:=Qaa hM;have aK:=hM.gr.size;clear hM;by_cases aQ:k<6
  ·go_wp2_with (first
    | (go_at_call 22;refine (QfR hc HM.src _ (by omega)).mono ?_;rintro e w2 ⟨bb,rfl,aL,aG⟩;have aC:=Qaa (HM.call hs aL aG);have aV:=aG.size;obtain ⟨u,hu,aW⟩:=QeB (w:=w2) (m:=10) (t:=9) (cs:=#[.string ⟨#[97]⟩,.string ⟨#[98]⟩,.string ⟨#[110,49]⟩,.string ⟨#[110,50]⟩,.string ⟨#[115,104,97,114,100]⟩,.string ⟨#[122]⟩]) (by decide) k (by simpa using aQ);clear aL aG)
    | (at_builtin;refine wpList_append_own _ rfl (.tmp 13) (.tmp 18) 57 rfl w.heap.size 9 i0 (.string ByteArray.empty) 1 16 underlying57 hi ai aj ah rfl (by decide) _ _ _ rfl ((aC.own.alloc _).alloc _) ⟨w2.heap.size+1,0,none⟩ 1 1 [.string u] rfl rfl (Qav (cs:=#[.string u]) (by simp)) (fun x hx=>by simp at hx;subst hx;rfl) (by unfold maxLen;omega) (by omega) (by simp;omega) ?_;intro v3 w3 ab ac ad;have am:=Qaa (aC.put hs aW ab ((((Below.refl w.heap.size w2).alloc (by omega) _).alloc (by simp;omega) _).grown ac (by simp;omega) (fun j hj=>(aC.own.lt j hj).1)));have ad:=Qaa ad;clear ab ac))
   ·go_roundw
    case rel=>exact ⟨k+1,L ++ [u],by omega,by go_num,by simp;omega,am⟩
    case measure=>simp [zI];omega
   ·go_roundw
    case rel=>exact ⟨k+1,L,by omega,by go_num,by omega,aC⟩
    case measure=>simp [zI];omega
  ·obtain ⟨lo,lc,hv⟩:=Qam HM.own
   subst hv
   go_wp2_with (first
    | (at_builtin;refine wpList_append_own _ rfl (.tmp 23) (.tmp 24) 57 rfl w.heap.size 9 i0 (.string ByteArray.empty) 1 16 underlying57 hi ai aj ah rfl (by decide) _ _ _ rfl (HM.own.alloc _) ⟨wr.heap.size,0,none⟩ 1 1 [.string ⟨#[111,110,108,121]⟩] rfl rfl (Qav (cs:=#[.string ⟨#[111,110,108,121]⟩]) rfl) (fun x hx=>by simp at hx;subst hx;rfl) (by unfold maxLen;omega) (by omega) (by simp;omega) ?_;intro v3 w3 ab ac ad;have am:=Qaa (HM.put hs (by decide) ab (((Below.refl w.heap.size wr).alloc (by omega) _).grown ac (by simp;omega) (fun j hj=>(HM.own.lt j hj).1)));clear ab ac ad))
   ·obtain ⟨g4,c4,e4⟩:=Qcf am.own (by simp)
    obtain ⟨L4,af⟩:∃ L4,L4=L ++ [(⟨#[111,110,108,121]⟩:ByteArray)]:=⟨_,rfl⟩;rw [<- af] at e4 am;subst e4;have aB:1<=L4.length:=by rw [af];simp
    have aX:L4.length<=7:=by rw [af];simp;omega
    have aR:=am.gr.size;clear af aK;obtain ⟨u0,az⟩:∃ u0,L4[0]?=some u0:=⟨_,ZZe (by omega)⟩;have ar:=Qaa az;clear az
    go_wp2_with (first
     | (go_at_call 22;refine (QfR hc am.src _ (by omega)).mono ?_;rintro e w5 ⟨bb,rfl,aw,al⟩;have ak:=Qaa (am.call hs aw al);have aN:=al.size;clear aw al)
     | (go_at_call 24;refine (c_n hc ak.src _ (by omega)).mono ?_;rintro e w6 ⟨nv,rfl,n0,n1,_,av,aq⟩;have aa:=Qaa (ak.call hs av aq);have aP:=aq.size;have aD:=Qih aa.own ar;clear av aq;have n1:=n1 (by omega);have aJ:nv=0∨nv=1∨nv=2∨nv=3:=(by omega);clear n0 n1;rcases aJ with rfl | rfl | rfl | rfl)
     | (at_builtin;refine wpList_append_own _ rfl (.tmp 49) (.tmp 53) 57 rfl w.heap.size 9 i0 (.string ByteArray.empty) 1 16 underlying57 hi ai aj ah rfl (by decide) _ _ _ rfl (aa.own.alloc _) ⟨w6.heap.size,0,none⟩ 1 1 [.string u0] rfl rfl (Qav (cs:=#[.string u0]) rfl) (fun x hx=>by simp at hx;subst hx;rfl) (by unfold maxLen;omega) (by omega) (by simp;omega) ?_;intro v3 w3 ab ac ad;have ay:=Qaa (aa.put hs (aa.sz u0 (List.mem_of_getElem? ar)) ab (((Below.refl w.heap.size w6).alloc (by omega) _).grown ac (by simp;omega) (fun j hj=>(aa.own.lt j hj).1)));clear ab ac ad)
     | (at_builtin;refine wpList_append_own _ rfl (.tmp 57) (.tmp 58) 57 rfl w.heap.size 9 i0 (.string ByteArray.empty) 1 16 underlying57 hi ai aj ah rfl (by decide) _ _ _ rfl (aa.own.alloc _) ⟨w6.heap.size,0,none⟩ 1 1 [.string ⟨#[126]⟩] rfl rfl (Qav (cs:=#[.string ⟨#[126]⟩]) rfl) (fun x hx=>by simp at hx;subst hx;rfl) (by unfold maxLen;omega) (by omega) (by simp;omega) ?_;intro v3 w3 ab ac ad;have ay:=Qaa (aa.put hs (by decide) ab (((Below.refl w.heap.size w6).alloc (by omega) _).grown ac (by simp;omega) (fun j hj=>(aa.own.lt j hj).1)));clear ab ac ad))
    all_goals try (go_ret;first
     | exact ⟨_,_,rfl,by simp;omega,ay⟩
     | exact ⟨_,_,rfl,by omega,ak⟩
     | exact ⟨.slice none 0 0,[],rfl,by simp,⟨World.ownsRow_nil _ _ _ _,fun u hu=>by simp at hu,aa.src,aa.gr⟩⟩)
    go_loopw [3,5] (fun v i wr=>∃ (k:Nat) (L5:List ByteArray) (g c:Nat),i=.int .i64 k/\k<=L5.length/\1<=L5.length/\L5.length<=13/\v=.slice (some ⟨g,0,none⟩) L5.length c/\Mem W B ao ln cap s w wr v L5) (fun v i wr=>14 - (Go.RowKit.intOf i).toNat)
    case atStart=>exact ⟨0,L4,_,_,rfl,ZZj _,aB,by omega,rfl,aa⟩
    case round=>
     obtain ⟨k,L5,g5,c5,rfl,aT,aS,aI,rfl,hM⟩:=hrel;have au:=Qaa hM;have aO:=hM.gr.size;clear hM;obtain ⟨Y,hY⟩:∃ Y,strOfNums [97+(k:Int)]=Y:=⟨_,rfl⟩;have ap:Y.size=1:=by rw [<- hY];rfl
     have ew:IntKind.u8.wrap (97+(k:Int))=97+(k:Int):=IntWalk.u8_in _ ⟨by omega,by omega⟩;have aH:Op.stringOp .add ⟨#[122,122]⟩ Y=pure (.string ((⟨#[122,122]⟩:ByteArray) ++ Y)):=QiJ (by rw [ap];decide);have hZ:((⟨#[122,122]⟩:ByteArray) ++ Y).size<=10:=by rw [ByteArray.size_append,ap];decide
     have aE:=fun W=>Qi0 W (97+(k:Int));simp only [hY] at aE;have HZ:=Qaa hZ;clear hY hZ ap
     go_wp2_with (first
      | (go_at_call 24;refine (c_n hc au.src _ (by omega)).mono ?_;rintro e w9 ⟨aF,rfl,m0,m1,_,ax,an⟩;have m1:=m1 (by omega);have ag:=Qaa (au.call hs ax an);have aU:=an.size;clear ax an)
      | (at_builtin;refine wpList_append_own _ rfl (.tmp 38) (.tmp 45) 57 rfl w.heap.size 9 i0 (.string ByteArray.empty) 1 16 underlying57 hi ai aj ah rfl (by decide) _ _ _ rfl ((ag.own.alloc _).alloc _) ⟨w9.heap.size+1,0,none⟩ 1 1 [.string (⟨#[122,122]⟩ ++ Y)] rfl rfl (Qav (cs:=#[.string (⟨#[122,122]⟩ ++ Y)]) (by simp)) (fun x hx=>by simp at hx;subst hx;rfl) (by unfold maxLen;omega) (by omega) (by simp;omega) ?_;intro v3 w3 ab ac ad;have ae:=Qaa (ag.put hs HZ ab ((((Below.refl w.heap.size w9).alloc (by omega) _).alloc (by simp;omega) _).grown ac (by simp;omega) (fun j hj=>(ag.own.lt j hj).1)));clear ab ac ad))
     ·obtain ⟨g7,c7,e7⟩:=Qcf ae.own (by simp)
      subst e7;have aM:(L5.length:Int)<11+aF:=by assumption
      go_roundw
      case rel=>exact ⟨k+1,L5 ++ [(⟨#[122,122]⟩:ByteArray) ++ Y],g7,c7,by go_num,by simp;omega,by simp,by simp;omega,rfl,ae⟩
      case measure=>simp [zI];omega
     ·go_ret
      exact ⟨_,_,rfl,by omega,ag⟩
   ·have aA:((L.length:Int) == 0)=false:=by assumption
    have aB:1<=L.length:=by have:=ZZf.1 aA;omega
    obtain ⟨g4,c4,e4⟩:=Qcf HM.own (by omega)
    cases e4
    obtain ⟨L4,af⟩:∃ L4,L4=L:=⟨_,rfl⟩;rw [<- af] at HM aB;have aX:L4.length<=7:=by rw [af];omega
    have aR:=HM.gr.size;rw [<- af];clear af aK aA;obtain ⟨u0,az⟩:∃ u0,L4[0]?=some u0:=⟨_,ZZe (by omega)⟩;have ar:=Qaa az;clear az
    go_wp2_with (first
     | (go_at_call 22;refine (QfR hc HM.src _ (by omega)).mono ?_;rintro e w5 ⟨bb,rfl,aw,al⟩;have ak:=Qaa (HM.call hs aw al);have aN:=al.size;clear aw al)
     | (go_at_call 24;refine (c_n hc ak.src _ (by omega)).mono ?_;rintro e w6 ⟨nv,rfl,n0,n1,_,av,aq⟩;have aa:=Qaa (ak.call hs av aq);have aP:=aq.size;have aD:=Qih aa.own ar;clear av aq;have n1:=n1 (by omega);have aJ:nv=0∨nv=1∨nv=2∨nv=3:=(by omega);clear n0 n1;rcases aJ with rfl | rfl | rfl | rfl)
     | (at_builtin;refine wpList_append_own _ rfl (.tmp 49) (.tmp 53) 57 rfl w.heap.size 9 i0 (.string ByteArray.empty) 1 16 underlying57 hi ai aj ah rfl (by decide) _ _ _ rfl (aa.own.alloc _) ⟨w6.heap.size,0,none⟩ 1 1 [.string u0] rfl rfl (Qav (cs:=#[.string u0]) rfl) (fun x hx=>by simp at hx;subst hx;rfl) (by unfold maxLen;omega) (by omega) (by simp;omega) ?_;intro v3 w3 ab ac ad;have ay:=Qaa (aa.put hs (aa.sz u0 (List.mem_of_getElem? ar)) ab (((Below.refl w.heap.size w6).alloc (by omega) _).grown ac (by simp;omega) (fun j hj=>(aa.own.lt j hj).1)));clear ab ac ad)
     | (at_builtin;refine wpList_append_own _ rfl (.tmp 57) (.tmp 58) 57 rfl w.heap.size 9 i0 (.string ByteArray.empty) 1 16 underlying57 hi ai aj ah rfl (by decide) _ _ _ rfl (aa.own.alloc _) ⟨w6.heap.size,0,none⟩ 1 1 [.string ⟨#[126]⟩] rfl rfl (Qav (cs:=#[.string ⟨#[126]⟩]) rfl) (fun x hx=>by simp at hx;subst hx;rfl) (by unfold maxLen;omega) (by omega) (by simp;omega) ?_;intro v3 w3 ab ac ad;have ay:=Qaa (aa.put hs (by decide) ab (((Below.refl w.heap.size w6).alloc (by omega) _).grown ac (by simp;omega) (fun j hj=>(aa.own.lt j hj).1)));clear ab ac ad))
    all_goals try (go_ret;first
     | exact ⟨_,_,rfl,by simp;omega,ay⟩
     | exact ⟨_,_,rfl,by omega,ak⟩
     | exact ⟨.slice none 0 0,[],rfl,by simp,⟨World.ownsRow_nil _ _ _ _,fun u hu=>by simp at hu,aa.src,aa.gr⟩⟩)
    go_loopw [3,5] (fun v i wr=>∃ (k:Nat) (L5:List ByteArray) (g c:Nat),i=.int .i64 k/\k<=L5.length/\1<=L5.length/\L5.length<=13/\v=.slice (some ⟨g,0,none⟩) L5.length c/\Mem W B ao ln cap s w wr v L5) (fun v i wr=>14 - (Go.RowKit.intOf i).toNat)
    case atStart=>exact ⟨0,L4,_,_,rfl,ZZj _,aB,by omega,rfl,aa⟩
    case round=>
     obtain ⟨k,L5,g5,c5,rfl,aT,aS,aI,rfl,hM⟩:=hrel;have au:=Qaa hM;have aO:=hM.gr.size;clear hM;obtain ⟨Y,hY⟩:∃ Y,strOfNums [97+(k:Int)]=Y:=⟨_,rfl⟩;have ap:Y.size=1:=by rw [<- hY];rfl
     have ew:IntKind.u8.wrap (97+(k:Int))=97+(k:Int):=IntWalk.u8_in _ ⟨by omega,by omega⟩;have aH:Op.stringOp .add ⟨#[122,122]⟩ Y=pure (.string ((⟨#[122,122]⟩:ByteArray) ++ Y)):=QiJ (by rw [ap];decide);have hZ:((⟨#[122,122]⟩:ByteArray) ++ Y).size<=10:=by rw [ByteArray.size_append,ap];decide
     have aE:=fun W=>Qi0 W (97+(k:Int));simp only [hY] at aE;have HZ:=Qaa hZ;clear hY hZ ap
     go_wp2_with (first
      | (go_at_call 24;refine (c_n hc au.src _ (by omega)).mono ?_;rintro e w9 ⟨aF,rfl,m0,m1,_,ax,an⟩;have m1:=m1 (by omega);have ag:=Qaa (au.call hs ax an);have aU:=an.size;clear ax an)
      | (at_builtin;refine wpList_append_own _ rfl (.tmp 38) (.tmp 45) 57 rfl w.heap.size 9 i0 (.string ByteArray.empty) 1 16 underlying57 hi ai aj ah rfl (by decide) _ _ _ rfl ((ag.own.alloc _).alloc _) ⟨w9.heap.size+1,0,none⟩ 1 1 [.string (⟨#[122,122]⟩ ++ Y)] rfl rfl (Qav (cs:=#[.string (⟨#[122,122]⟩ ++ Y)]) (by simp)) (fun x hx=>by simp at hx;subst hx;rfl) (by unfold maxLen;omega) (by omega) (by simp;omega) ?_;intro v3 w3 ab ac ad;have ae:=Qaa (ag.put hs HZ ab ((((Below.refl w.heap.size w9).alloc (by omega) _).alloc (by simp;omega) _).grown ac (by simp;omega) (fun j hj=>(ag.own.lt j hj).1)));clear ab ac ad))
     ·obtain ⟨g7,c7,e7⟩:=Qcf ae.own (by simp)
      subst e7;have aM:(L5.length:Int)<11+aF:=by assumption
      go_roundw
      case rel=>exact ⟨k+1,L5 ++ [(⟨#[122,122]⟩:ByteArray) ++ Y],g7,c7,by go_num,by simp;omega,by simp,by simp;omega,rfl,ae⟩
      case measure=>simp [zI];omega
     ·go_ret
      exact ⟨_,_,rfl,by omega,ag⟩
end
section
def lwF (w:World) (ao:Option Addr) (ln k:Nat) (m:Int):Int:=if ln=0 then 0 else match ao with
 | some a=>match w.cell? ⟨a.block,a.off+k % ln,none⟩ with
  | some (.int .u8 x)=>Int.tmod x m
  | _=>0
 | none=>0
end
section
end
end Go.Proofs.YtlejlgldgafljaaGreatDoor
