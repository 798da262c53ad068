/-
 Parts.
-/
import Derived.Test.YtlejlgldgafljaaGreatDoorKWD
set_option maxHeartbeats 8000000
set_option maxRecDepth 10000
set_option linter.all false
namespace Go.Proofs.YtlejlgldgafljaaGreatDoor
open Go.ChangeShapes Go.WideShapes Go.ChangeAt Go.RowKit Go.PlainAid Go.Lib Tryz
variable {W w w' w1 w2 wr:World}
variable {B K b cap k ln n s:Nat}
variable {ao:Option Addr}
variable {r:Option Nat}
variable {A C D v v' x y:Value}
variable {T t:TypeId}
section
def Qbd (W:World) (B:Nat) (ao:Option Addr) (ln:Nat):Prop:=
 ln<=1048576/\(0<ln->∃ b off,ao=some ⟨b,off,none⟩/\b<B/\∀ i,i<ln->∃ x:Int,W.cell? ⟨b,off+i,none⟩=some (.int .u8 x)/\0<=x/\x<=255)
structure Src (W:World) (B:Nat) (ao:Option Addr) (ln cap s:Nat) (w:World):Prop where
 bel:Below B W w
 hB:B<=s
 blk:∃ at_ mix sz:Int,w.heap[s]?=some (.cells #[.slice ao ln cap,.int .i64 at_,.int .u64 mix,.int .i64 sz] 89 (0,0))/\0<=at_/\at_<=ln/\0<=sz/\sz<=12
theorem Qcs (h:Src W B ao ln cap s w):s<w.heap.size:=by
 obtain ⟨_,_,_,h,_⟩:=h.blk;rcases Nat.lt_or_ge s w.heap.size with k | k
 ·exact k
 ·rw [Array.getElem?_eq_none k] at h;cases h
theorem QkT (h:Src W B ao ln cap s w) (hb:w.grownBy w' (some s)):Below B W w':=
 h.bel.grown hb (Nat.le_trans h.hB (Nat.le_of_lt (Qcs h))) (fun k e=>by cases e;exact h.hB)
theorem QaK (h:Src W B ao ln cap s w) (hb:Below w.heap.size w w'):Src W B ao ln cap s w':=by
 have hs:=Qcs h;obtain ⟨a,m,z,hk,h1,h2⟩:=h.blk;exact ⟨h.bel.trans (hb.mono (Nat.le_trans h.hB (Nat.le_of_lt hs))),h.hB,a,m,z,by rw [hb.block s hs];exact hk,h1,h2⟩
theorem Qcg (w:World) (a:Addr) (u:Value):w.grownBy (w.setCell a u) (some a.block):=
 ⟨rfl,rfl,rfl,by simp [World.setCell],fun k hk hne=>Below.heap_setCell _ _ _ _ (fun e=>hne (by rw [e]))⟩
theorem Qjs (w:World):w.drew.heap=w.heap:=rfl
theorem Qhr (h:w.grownBy w1 r):w.grownBy w1.drew r:=⟨h.os,h.tape,h.output,h.size,h.block⟩
theorem Qca (w:World) (k:Nat) (r:Option Nat):w.grownBy (w.drewN k) r:=⟨rfl,rfl,rfl,ZZa _,fun _ _ _=>rfl⟩
theorem Qk0 (a m:Int) (hm:1<m) (h9:m<=9223372036854775807):0<=wrap64 (Int.tmod (IntKind.u64.wrap a) m)/\wrap64 (Int.tmod (IntKind.u64.wrap a) m)<m:=by
 have h0:0<=IntKind.u64.wrap a:=by rw [IntKind.wrap_u64];omega
 have h1:0<=Int.tmod (IntKind.u64.wrap a) m:=Int.tmod_nonneg _ h0;have h2:Int.tmod (IntKind.u64.wrap a) m<m:=Int.tmod_lt_of_pos _ (by omega);have e:wrap64 (Int.tmod (IntKind.u64.wrap a) m)=Int.tmod (IntKind.u64.wrap a) m:=by rw [<- i64_is];exact ZZi _ ⟨by omega,by omega⟩
 rw [e];exact ⟨h1,h2⟩
theorem heap3 {B z:Value} (hk:w.heap[s]?=some (.cells #[A,B,C,D] t (0,0))) :
  ((((w.drewN k).setCell ⟨s,2,none⟩ x).setCell ⟨s,2,none⟩ y).setCell ⟨s,2,none⟩ z).heap[s]?=some (.cells #[A,B,z,D] t (0,0)):=by
 have h0:(w.drewN k).heap[s]?=some (.cells #[A,B,C,D] t (0,0)):=hk;have h1:=ZZl _ s 2 _ _ x h0;have h2:=ZZl _ s 2 _ _ y h1;exact ZZl _ s 2 _ _ z h2
theorem heap4 {B z u:Value} (hk:w.heap[s]?=some (.cells #[A,B,C,D] t (0,0))) :
  (((((w.drewN k).setCell ⟨s,1,none⟩ u).setCell ⟨s,2,none⟩ x).setCell ⟨s,2,none⟩ y).setCell ⟨s,2,none⟩ z).heap[s]?=some (.cells #[A,u,z,D] t (0,0)):=by
 have h0:(w.drewN k).heap[s]?=some (.cells #[A,B,C,D] t (0,0)):=hk;have h0:=ZZl _ s 1 _ _ u h0;have h1:=ZZl _ s 2 _ _ x h0;have h2:=ZZl _ s 2 _ _ y h1;exact ZZl _ s 2 _ _ z h2
theorem grown3 (w:World) (s k:Nat) (x y z:Value):w.grownBy ((((w.drewN k).setCell ⟨s,2,none⟩ x).setCell ⟨s,2,none⟩ y).setCell ⟨s,2,none⟩ z) (some s):=
 (((Qca w k _).trans (Qcg _ ⟨s,2,none⟩ x)).trans (Qcg _ ⟨s,2,none⟩ y)).trans (Qcg _ ⟨s,2,none⟩ z)
theorem QsY (w:World) (s k:Nat) (u x y z:Value):w.grownBy (((((w.drewN k).setCell ⟨s,1,none⟩ u).setCell ⟨s,2,none⟩ x).setCell ⟨s,2,none⟩ y).setCell ⟨s,2,none⟩ z) (some s):=
 ((((Qca w k _).trans (Qcg _ ⟨s,1,none⟩ u)).trans (Qcg _ ⟨s,2,none⟩ x)).trans (Qcg _ ⟨s,2,none⟩ y)).trans (Qcg _ ⟨s,2,none⟩ z)
theorem n_late (most at_ mix sz:Int) (ao:Option Addr) (len cap s:Nat) (w:World) (hm:1<most) (hm2:most<=9223372036854775807)
  (hk:w.heap[s]?=some (.cells #[.slice ao len cap,.int .i64 at_,.int .u64 mix,.int .i64 sz] 89 (0,0))) (hat:¬ at_<(len:Int)) :
  Calls prog 24 #[.pointer (some ⟨s,0,none⟩),.int .i64 most] w fun e w'=>∃ v mix',e=.returned (.int .i64 v)/\0<=v/\v<most/\w'.heap[s]?=some (.cells #[.slice ao len cap,.int .i64 at_,.int .u64 mix',.int .i64 sz] 89 (0,0))/\w.grownBy w' (some s):=by
 have c0:w.cell? ⟨s,0,none⟩=some (.slice ao len cap):=by rw [cell_of_row w s 0 _ _ (0,0) hk];rfl
 have c1:w.cell? ⟨s,1,none⟩=some (.int .i64 at_):=by rw [cell_of_row w s 1 _ _ (0,0) hk];rfl
 have c2:w.cell? ⟨s,2,none⟩=some (.int .u64 mix):=by rw [cell_of_row w s 2 _ _ (0,0) hk];rfl
 have f2:=fzR 2 hk;obtain ⟨m1,e1⟩:∃ m1,bits BinOp.xor IntKind.u64 mix (IntKind.u64.wrap (mix*8192))=m1:=⟨_,rfl⟩;obtain ⟨m2,e2⟩:∃ m2,bits BinOp.xor IntKind.u64 m1 (m1 / 128)=m2:=⟨_,rfl⟩;obtain ⟨m3,e3⟩:∃ m3,bits BinOp.xor IntKind.u64 m2 (IntKind.u64.wrap (m2*131072))=m3:=⟨_,rfl⟩
 have c5:∀ k x y z,((((w.drewN k).setCell ⟨s,2,none⟩ x).setCell ⟨s,2,none⟩ y).setCell ⟨s,2,none⟩ z).cell? ⟨s,2,none⟩=some z:=fun k x y z=>by
  have g0:(w.drewN k).cell? ⟨s,2,none⟩=some (.int .u64 mix):=c2;have g1:=World.cell?_setCell_same _ _ x g0;have g2:=World.cell?_setCell_same _ _ y g1;exact World.cell?_setCell_same _ _ z g2
 have HK:Hid (w.heap[s]?=some (.cells #[.slice ao len cap,.int .i64 at_,.int .u64 mix,.int .i64 sz] 89 (0,0))):=hk;clear hk;go_enter func24,ntmps24;go_wp2
 go_quiet (fail)
 go_wp2;go_region
 go_wp2;go_region
 go_wp2;go_region
 go_wp2;go_ret;refine ⟨_,m3,rfl,(Qk0 _ _ hm hm2).1,(Qk0 _ _ hm hm2).2,?_,?_⟩
 ·simp only [Qjs];exact heap3 HK
 ·repeat apply Qhr
  exact grown3 w s _ _ _ _
theorem QtQ (most mix sz x:Int) (len cap s a b off:Nat) (w:World) (hm:1<most) (hm2:most<=9223372036854775807)
  (hk:w.heap[s]?=some (.cells #[.slice (some ⟨b,off,none⟩) len cap,.int .i64 a,.int .u64 mix,.int .i64 sz] 89 (0,0))) (hat:(a:Int)<(len:Int)) (hlen:len<=1048576) (hx:w.cell? ⟨b,off+a,none⟩=some (.int .u8 x)) :
  Calls prog 24 #[.pointer (some ⟨s,0,none⟩),.int .i64 most] w fun e w'=>∃ v mix',e=.returned (.int .i64 v)/\0<=v/\v<most/\w'.heap[s]?=some (.cells #[.slice (some ⟨b,off,none⟩) len cap,.int .i64 ((a:Int)+1),.int .u64 mix',.int .i64 sz] 89 (0,0))/\w.grownBy w' (some s):=by
 have c0:w.cell? ⟨s,0,none⟩=some (.slice (some ⟨b,off,none⟩) len cap):=by rw [cell_of_row w s 0 _ _ (0,0) hk];rfl
 have c1:w.cell? ⟨s,1,none⟩=some (.int .i64 a):=by rw [cell_of_row w s 1 _ _ (0,0) hk];rfl
 have c2:w.cell? ⟨s,2,none⟩=some (.int .u64 mix):=by rw [cell_of_row w s 2 _ _ (0,0) hk];rfl
 have f1:=fzR 1 hk;have f2:=fzR 2 hk;obtain ⟨m1,e1⟩:∃ m1,bits BinOp.xor IntKind.u64 mix (IntKind.u64.wrap (mix*8192))=m1:=⟨_,rfl⟩;obtain ⟨m2,e2⟩:∃ m2,bits BinOp.xor IntKind.u64 m1 (m1 / 128)=m2:=⟨_,rfl⟩;obtain ⟨m3,e3⟩:∃ m3,bits BinOp.xor IntKind.u64 m2 (IntKind.u64.wrap (m2*131072))=m3:=⟨_,rfl⟩
 have c4:∀ k u x y,((((w.drewN k).setCell ⟨s,1,none⟩ u).setCell ⟨s,2,none⟩ x).setCell ⟨s,2,none⟩ y).cell? ⟨s,2,none⟩=some y:=fun k u x y=>by
  have g0:((w.drewN k).setCell ⟨s,1,none⟩ u).cell? ⟨s,2,none⟩=some (.int .u64 mix):=by rw [World.cell?_setCell_other _ _ _ _ (by simp)];exact c2
  have g1:=World.cell?_setCell_same _ _ x g0;exact World.cell?_setCell_same _ _ y g1
 have c5:∀ k u x y z,(((((w.drewN k).setCell ⟨s,1,none⟩ u).setCell ⟨s,2,none⟩ x).setCell ⟨s,2,none⟩ y).setCell ⟨s,2,none⟩ z).cell? ⟨s,2,none⟩=some z:=fun k u x y z=>by
  have g0:((w.drewN k).setCell ⟨s,1,none⟩ u).cell? ⟨s,2,none⟩=some (.int .u64 mix):=by rw [World.cell?_setCell_other _ _ _ _ (by simp)];exact c2
  have g1:=World.cell?_setCell_same _ _ x g0;have g2:=World.cell?_setCell_same _ _ y g1;exact World.cell?_setCell_same _ _ z g2
 have HK:Hid (w.heap[s]?=some (.cells #[.slice (some ⟨b,off,none⟩) len cap,.int .i64 a,.int .u64 mix,.int .i64 sz] 89 (0,0))):=hk;clear hk;go_enter func24,ntmps24;go_wp2
 go_quiet (fail)
 go_wp2
 go_quiet (fail)
 go_wp2;go_region
 go_wp2;go_region
 go_wp2;go_region
 go_wp2;go_ret;refine ⟨_,m3,rfl,(Qk0 _ _ hm hm2).1,(Qk0 _ _ hm hm2).2,?_,?_⟩
 ·simp only [Qjs];exact heap4 HK
 ·repeat apply Qhr
  exact QsY w s _ _ _ _ _
theorem c_n (hc:Qbd W B ao ln) (h:Src W B ao ln cap s w) (most:Int) (h9:most<=9223372036854775807) :
  Calls prog 24 #[.pointer (some ⟨s,0,none⟩),.int .i64 most] w fun e w'=>∃ v,e=.returned (.int .i64 v)/\0<=v/\(1<=most->v<most)/\(most<=1->v=0)/\Src W B ao ln cap s w'/\w.grownBy w' (some s):=by
 by_cases hm:1<most
 ·obtain ⟨aa,af,sz,hk,h0,h1,z0,z1⟩:=h.blk
  by_cases ad:aa<(ln:Int)
  ·obtain ⟨b,ag,rfl,hb,ab⟩:=hc.2 (by omega)
   obtain ⟨x,hx,_⟩:=ab aa.toNat (by omega);have ha:aa=(aa.toNat:Int):=by omega
   have ah:w.cell? ⟨b,ag+aa.toNat,none⟩=some (.int .u8 x):=by rw [h.bel.cell (by exact hb)];exact hx
   rw [ha] at hk ad;refine (QtQ most af sz x ln cap s aa.toNat b ag w hm h9 hk ad hc.1 ah).mono ?_;rintro e w' ⟨v,ac,rfl,v0,v1,ae,hg⟩;exact ⟨v,rfl,v0,fun _=>v1,fun h=>by omega,⟨QkT h hg,h.hB,_,_,_,ae,by omega,by omega,z0,z1⟩,hg⟩
  ·refine (n_late most aa af sz ao ln cap s w hm h9 hk ad).mono ?_
   rintro e w' ⟨v,ac,rfl,v0,v1,ae,hg⟩;exact ⟨v,rfl,v0,fun _=>v1,fun h=>by omega,⟨QkT h hg,h.hB,_,_,_,ae,h0,h1,z0,z1⟩,hg⟩
 ·have ai:most<=1:=by omega
  have HS:Hid (Src W B ao ln cap s w):=h;clear h hc hm;go_enter func24,ntmps24;go_wp2;go_ret;exact ⟨0,rfl,by omega,fun h=>by omega,fun _=>rfl,HS,World.grownBy.refl _ _⟩
end
variable {m z:Int}
section
def SB (w:World) (s:Nat) (ao:Option Addr) (ln cap:Nat) (m z:Int):Prop:=w.heap[s]?=some (.cells #[.slice ao ln cap,.int .i64 0,.int .u64 m,.int .i64 z] 89 (0,0))
theorem QlA (h:SB w s ao ln cap m z):w.cell? ⟨s,2,none⟩=some (.int .u64 m)/\w.cell? ⟨s,3,none⟩=some (.int .i64 z)/\w.frozen? ⟨s,2,none⟩=false/\w.frozen? ⟨s,3,none⟩=false:=by
 refine ⟨?_,?_,frozen_of_row w s 2 _ _ h,frozen_of_row w s 3 _ _ h⟩
 ·rw [cell_of_row w s 2 _ _ (0,0) h];rfl
 ·rw [cell_of_row w s 3 _ _ (0,0) h];rfl
theorem sb_2 {m':Int} (h:SB w s ao ln cap m z):SB (w.setCell ⟨s,2,none⟩ (.int .u64 m')) s ao ln cap m' z:=ZZl w s 2 _ _ _ h
theorem Quf {z':Int} (h:SB w s ao ln cap m z):SB (w.setCell ⟨s,3,none⟩ (.int .i64 z')) s ao ln cap m z':=ZZl w s 3 _ _ _ h
theorem QsD (h:SB w s ao ln cap m z):SB w.drew s ao ln cap m z:=h
theorem QlC (h:SB w s ao ln cap m z) (hb:Below B W w) (hB:B<=s) (z0:0<=z) (z1:z<=12):Src W B ao ln cap s w:=⟨hb,hB,0,m,z,h,by omega,by omega,z0,z1⟩
theorem QkR (ao:Option Addr) (ln cap:Nat) (w:World) (hc:Qbd w w.heap.size ao ln) :
  Calls prog 20 #[.slice ao ln cap] w fun e w'=>e=.returned (.pointer (some ⟨w.heap.size,0,none⟩))/\Src w w.heap.size ao ln cap w.heap.size w':=by
 have am:=hc.1;have HC:Hid (Qbd w w.heap.size ao ln):=hc;clear hc;obtain ⟨z,hz,ai,ak⟩:∃ z,Int.tdiv (ln:Int) 20=z/\0<=z/\z<=1048576:=⟨((ln / 20:Nat):Int),rfl,by omega,by omega⟩;go_enter func20,ntmps20;go_wp2
 go_loopw [4] (fun i wr=>∃ (k:Nat) (m:Int),i=.int .i64 k/\k<=ln/\k<=64/\SB wr w.heap.size ao ln cap m 0/\Below w.heap.size w wr) (fun i wr=>64 - (Go.RowKit.intOf i).toNat)
 case atStart=>exact ⟨0,_,rfl,by omega,by omega,ZZk w _,(ZZb _ _).alloc (ZZa _) _⟩
 case round=>
  obtain ⟨k,m,rfl,hk,af,hS,aa⟩:=hrel;by_cases ae:k<ln/\k<64
  ·obtain ⟨h1,h2⟩:=ae
   obtain ⟨b,ad,rfl,hb,ab⟩:=HC.out.2 (by omega);obtain ⟨x,hx,_⟩:=ab k h1;have al:wr.cell? ⟨b,ad+k,none⟩=some (.int .u8 x):=by rw [aa.cell (by exact hb)];exact hx
   have aj:(k:Int)<(ln:Int):=by omega
   have ah:(k:Int)<64:=by omega
   obtain ⟨c2,c3,f2,f3⟩:=QlA hS;have HS:Hid (SB wr w.heap.size (some ⟨b,ad,none⟩) ln cap m 0):=hS;have HB:Hid (Below w.heap.size w wr):=aa;clear hS aa hx ab;go_wp2;go_region
   go_wp2;go_roundw
   case rel=>exact ⟨k+1,_,by go_num,by omega,by omega,QsD (sb_2 HS),(HB.out.setCell (ZZa _) _).drew⟩
   case measure=>simp [zI];omega
  ·have ag:(¬ (k:Int)<(ln:Int))∨((k:Int)<(ln:Int)/\¬ (k:Int)<64):=by omega
   obtain ⟨c2,c3,f2,f3⟩:=QlA hS;have HS:Hid (SB wr w.heap.size ao ln cap m 0):=hS;have HB:Hid (Below w.heap.size w wr):=aa;clear hS aa ae;rcases ag with h1 | ⟨h1,h2⟩
   ·by_cases ac:12<z
    ·go_wp2
     go_ret;exact ⟨rfl,QlC (Quf (Quf HS)) ((HB.out.setCell (ZZa _) _).setCell (ZZa _) _) (ZZa _) (by omega) (by omega)⟩
    ·go_wp2
     go_ret;exact ⟨rfl,QlC (Quf HS) (HB.out.setCell (ZZa _) _) (ZZa _) (by omega) (by omega)⟩
   ·by_cases ac:12<z
    ·go_wp2
     go_ret;exact ⟨rfl,QlC (Quf (Quf HS)) ((HB.out.setCell (ZZa _) _).setCell (ZZa _) _) (ZZa _) (by omega) (by omega)⟩
    ·go_wp2
     go_ret;exact ⟨rfl,QlC (Quf HS) (HB.out.setCell (ZZa _) _) (ZZa _) (by omega) (by omega)⟩
end
variable {cs:Array Value}
section
theorem Qjk (h:Src W B ao ln cap s w):Src W B ao ln cap s (w.drewN k):=
 ⟨QkT h (Qca _ _ _),h.hB,h.blk⟩
def isI:Value->Bool
 | .int .i64 y=>decide (-9223372036854775808<=y) && decide (y<=9223372036854775807)
 | _=>false
theorem isI_of (h:isI v=true):∃ y,v=.int .i64 y/\I64 y:=by
 unfold isI at h
 split at h
 ·rename_i y
  have:=Bool.and_eq_true_iff.1 h;exact ⟨y,rfl,of_decide_eq_true this.1,of_decide_eq_true this.2⟩
 ·cases h
def allI (cs:Array Value):Bool:=cs.toList.all isI
theorem QsS (h:allI cs=true) {i:Nat} (hi:i<cs.size):∃ y,cs[i]?=some (.int .i64 y)/\I64 y:=by
 obtain ⟨y,e,hI⟩:=isI_of (List.all_eq_true.1 h cs[i] (Array.mem_toList_iff.2 (Array.getElem_mem hi)));exact ⟨y,by rw [Array.getElem?_eq_getElem hi,e],hI⟩
theorem QlH (hg:(w.alloc (.cells cs t)).grownBy w2 (some s)) (hs:s<w.heap.size) (h:allI cs=true) {v:Int} (h0:0<=v) (h1:v<cs.size) :
  ∃ y,w2.cell? ⟨w.heap.size,v.toNat,none⟩=some (.int .i64 y)/\I64 y:=by
 obtain ⟨y,hy,hI⟩:=QsS h (i:=v.toNat) (by omega)
 have hb:w2.heap[w.heap.size]?=some (.cells cs t (0,0)):=by
  rw [hg.block w.heap.size (by simp) (fun e=>by cases e;omega)];exact ZZk w _
 exact ⟨y,by rw [cell_of_row w2 w.heap.size v.toNat _ _ (0,0) hb];exact hy,hI⟩
theorem QeX (hc:Qbd W B ao ln) (h:Src W B ao ln cap s w) (most:Int) (h9:most<=9223372036854775807) :
  Calls prog 22 #[.pointer (some ⟨s,0,none⟩),.int .i64 most] w fun e w'=>∃ b,e=.returned (.bool b)/\Src W B ao ln cap s w'/\w.grownBy w' (some s):=by
 go_enter func22,ntmps22;go_wp2_with (go_at_call 24;refine (c_n hc h _ h9).mono ?_;rintro e w2 ⟨v,rfl,v0,v1,_,aa,ab⟩);go_ret;exact ⟨_,rfl,aa,ab⟩
theorem QrP (hc:Qbd W B ao ln) (h:Src W B ao ln cap s w) :
  Calls prog 23 #[.pointer (some ⟨s,0,none⟩)] w fun e w'=>∃ v,e=.returned (.int .i64 v)/\I64 v/\Src W B ao ln cap s w'/\w.grownBy w' (some s):=by
 have hs:=Qcs h;have ha:∀ o,Src W B ao ln cap s (w.alloc o):=fun o=>QaK h ((ZZb _ _).alloc (ZZa _) _);go_enter func23,ntmps23;go_wp2_with (go_at_call 24;refine (c_n hc (ha _) _ (by omega)).mono ?_;rintro e w2 ⟨v,rfl,v0,v1,_,ab,aa⟩;have v1:=v1 (by omega);obtain ⟨y,hy,hI⟩:=QlH aa hs (by decide) v0 v1);go_ret;exact ⟨y,rfl,hI,ab,(World.grownBy_alloc _ _ _).trans aa⟩
theorem Qlc (hc:Qbd W B ao ln) (h:Src W B ao ln cap s w) :
  Calls prog 163 #[.pointer (some ⟨s,0,none⟩)] w fun e w'=>∃ v,e=.returned (.int .i64 v)/\I64 v/\Src W B ao ln cap s w'/\w.grownBy w' (some s):=by
 have hG:w.grownBy w (some s):=World.grownBy.refl _ _;have hS:=h;clear h;go_enter func163,ntmps163
 go_wp2_with (first
  | (go_at_call 23;refine (QrP hc hS).mono ?_;rintro e w2 ⟨y,rfl,hI,ab,aa⟩;have hG:=hG.trans aa)
  | (go_at_call 24;refine (c_n hc (by first | exact hS | exact QaK hS ((ZZb _ _).alloc (ZZa _) _)) _ (by omega)).mono ?_;rintro e w2 ⟨v,rfl,v0,v1,_,ab,aa⟩;have v1:=v1 (by omega); (first | (have hG:=hG.trans aa) | (obtain ⟨y,hy,hI⟩:=QlH aa (Qcs hS) (by decide) v0 v1;have hG:=hG.trans ((World.grownBy_alloc _ _ _).trans aa)));have hS:=ab))
 all_goals (go_ret;first | exact ⟨_,rfl,hI,ab,hG⟩ | exact ⟨_,rfl,by unfold I64;omega,ab,hG⟩)
theorem Ql7 (hc:Qbd W B ao ln) (h:Src W B ao ln cap s w) (g k M:Nat) (hg:g≠s) (hk:1<k) (hk9:k<=1000) (hcell:∀ j,j<k->∃ u,w.cell? ⟨g,j,none⟩=some (.string u)/\u.size<=M) :
  Calls prog 39 #[.pointer (some ⟨s,0,none⟩),.slice (some ⟨g,0,none⟩) k k] w fun e w'=>∃ u,e=.returned (.string u)/\u.size<=M/\Src W B ao ln cap s w'/\w.grownBy w' (some s):=by
 go_enter func39,ntmps39;go_wp2_with (go_at_call 24;refine (c_n hc h _ (by omega)).mono ?_;rintro e w2 ⟨v,rfl,v0,v1,_,ab,aa⟩;have v1:=v1 (by omega);obtain ⟨u,hu,ac⟩:=hcell v.toNat (by omega);have ad:=aa.cell hu (by simpa using hg));go_ret;exact ⟨u,rfl,ac,ab,aa⟩
theorem Qh1 (w:World) (y:Int):(convert 22 9 (.slice (some ⟨w.heap.size,0,none⟩) 1 1)).run prog (w.alloc (.cells #[.int .u8 y] 5))=.ok (.string (strOfNums [y])) (w.alloc (.cells #[.int .u8 y] 5)):=
 run_convert_bytes_arg (P:=prog) (w.alloc (.cells #[.int .u8 y] 5)) 22 5 underlying22 underlying5 w.heap.size 0 1 1 [y] rfl (fun i hi=>by
  obtain rfl:i=0:=by omega
  simp) 9 underlying9
theorem Qss (hc:Qbd W B ao ln) (h:Src W B ao ln cap s w) (t:ByteArray) (ht:t.size<=1000000) :
  Calls prog 85 #[.pointer (some ⟨s,0,none⟩),.string t] w fun e w'=>∃ u,e=.returned (.string u)/\u.size<=t.size+2/\Src W B ao ln cap s w'/\w.grownBy w' (some s):=by
 have hG:w.grownBy w (some s):=World.grownBy.refl _ _;have hS:=h;have ad:=get_bt ⟨#[32,10,48,97,45,110,44,58,93,255,40,120,126,49,128,225,59]⟩;have ac:∀ y,(strOfNums [y]).size=1:=fun y=>rfl;clear h;go_enter func85,ntmps85
 go_wp2_with (first
  | (go_at_call 24;refine (c_n hc hS _ (by omega)).mono ?_;rintro e w2 ⟨v,rfl,v0,v1,_,ab,aa⟩;have v1:=v1 (by omega);have hG:=hG.trans aa;have hS:=ab;have kc:=Qh1 w2)
  | (go_at_call 22;refine (QeX hc (by first | exact hS | exact QaK hS ((ZZb _ _).alloc (ZZa _) _)) _ (by omega)).mono ?_;rintro e w2 ⟨b,rfl,ab,aa⟩; (first | (have hG:=hG.trans aa) | (have hG:=hG.trans ((World.grownBy_alloc _ _ _).trans aa)));have hS:=ab))
 all_goals (go_quiet (fail);go_wp2)
 all_goals (go_ret;first
  | exact ⟨_,rfl,by simp only [ByteArray.size_append,ByteArray.size_extract,ac];omega,Qjk hS,hG.trans (Qca _ _ _)⟩
  | exact ⟨_,rfl,by simp only [ByteArray.size_append,ByteArray.size_extract,ac];omega,Qjk (QaK hS ((Below.refl _ _).alloc (Nat.le_refl _) _)),hG.trans ((World.grownBy_alloc _ _ _).trans (Qca _ _ _))⟩)
def isS (m:Nat):Value->Bool
 | .string u=>decide (u.size<=m)
 | _=>false
theorem isS_of {m:Nat} (h:isS m v=true):∃ u,v=.string u/\u.size<=m:=by
 unfold isS at h
 split at h
 ·rename_i u
  exact ⟨u,rfl,of_decide_eq_true h⟩
 ·cases h
theorem QfG {m:Nat} (h:cs.toList.all (isS m)=true) (j:Nat) (hj:j<cs.size):∃ u,(w.alloc (.cells cs t)).cell? ⟨w.heap.size,j,none⟩=some (.string u)/\u.size<=m:=by
 obtain ⟨u,e,hu⟩:=isS_of (List.all_eq_true.1 h cs[j] (Array.mem_toList_iff.2 (Array.getElem_mem hj)));have hb:(w.alloc (.cells cs t)).heap[w.heap.size]?=some (.cells cs t (0,0)):=ZZk w _;exact ⟨u,by rw [cell_of_row _ w.heap.size j _ _ (0,0) hb,Array.getElem?_eq_getElem hj,e],hu⟩
theorem QdC (hc:Qbd W B ao ln) (h:Src W B ao ln cap s w) (M:Nat) (hk:k=cs.size) (h1:1<k) (h9:k<=1000) (hcs:cs.toList.all (isS M)=true) :
  Calls prog 39 #[.pointer (some ⟨s,0,none⟩),.slice (some ⟨w.heap.size,0,none⟩) k k] (w.alloc (.cells cs t)) fun e w'=>∃ u,e=.returned (.string u)/\u.size<=M/\Src W B ao ln cap s w'/\w.grownBy w' (some s):=by
 refine (Ql7 hc (QaK h ((ZZb _ _).alloc (ZZa _) _)) w.heap.size k M (by have:=Qcs h;omega) h1 h9 (fun j hj=>QfG hcs j (by omega))).mono ?_;rintro e w' ⟨u,rfl,hu,hS,hg⟩;exact ⟨u,rfl,hu,hS,(World.grownBy_alloc _ _ _).trans hg⟩
end
section
theorem QkV (ao:Option Addr) (ln cap:Nat) (w:World) (hK:w.heap.size=K) (hc:Qbd w K ao ln) :
  Calls prog 20 #[.slice ao ln cap] w fun e w'=>e=.returned (.pointer (some ⟨K,0,none⟩))/\Src w K ao ln cap K w':=by
 subst hK;exact QkR ao ln cap w hc
end
variable {u:ByteArray}
section
structure DL (W:World) (B:Nat) (ao:Option Addr) (ln cap s:Nat) (w wr:World) (v:Value) (L:List ByteArray):Prop where
 own:OwnT wr w.heap.size v L
 sz:∀ u∈L,u.size<=40
 src:Src W B ao ln cap s wr
 gr:w.grownBy wr (some s)
section
variable {W:World} {B ln cap s:Nat} {ao:Option Addr} {w wr:World} {v:Value} {L:List ByteArray}
theorem DL.step (h:DL W B ao ln cap s w wr v L) (hs:s<w.heap.size) (hS:Src W B ao ln cap s w1) (hg:wr.grownBy w1 (some s)):DL W B ao ln cap s w w1 v L:=by
 refine ⟨World.ownsRow.kept h.own hg ?_,h.sz,hS,h.gr.trans hg⟩
 cases e:v.ownBlock with
 | none=>exact .inl rfl
 | some k=>exact .inr (fun q=>by have:=(World.ownsRow.lt h.own k e).1;cases q;omega)
theorem DL.past (h:DL W B ao ln cap s w wr v L) (hs:s<w.heap.size) (hb:Below wr.heap.size wr w1):DL W B ao ln cap s w w1 v L:=
 h.step hs (QaK h.src hb) ⟨hb.os,hb.tape,hb.output,hb.size,fun j hj _=>hb.block j hj⟩
theorem DL.app (h:DL W B ao ln cap s w wr v L) (hs:s<w.heap.size) (hu:u.size<=40) (ho:w1.ownsRow w.heap.size 9 1 v' n (L.map Value.string ++ [.string u])) (hg:wr.grownBy w1 v.ownBlock):DL W B ao ln cap s w w1 v' (L ++ [u]):=by
 have bel:Below w.heap.size wr w1:=⟨hg.os,hg.tape,hg.output,hg.size,fun j hj=>hg.block j (by have:=h.gr.size;omega) (fun e=>by have:=(World.ownsRow.lt h.own j e.symm).1;omega)⟩;refine ⟨OwnT.of ho (by simp),fun x hx=>?_,?_,?_⟩
 ·rcases List.mem_append.1 hx with hx | hx
  ·exact h.sz x hx
  ·obtain rfl:=List.mem_singleton.1 hx;exact hu
 ·obtain ⟨x,m,y,h0,h1,h2⟩:=h.src.blk
  exact ⟨h.src.bel.trans (bel.mono (Nat.le_trans h.src.hB (Nat.le_of_lt hs))),h.src.hB,x,m,y,by rw [bel.block s hs];exact h0,h1,h2⟩
 ·exact ⟨hg.os.trans h.gr.os,hg.tape.trans h.gr.tape,hg.output.trans h.gr.output,Nat.le_trans h.gr.size hg.size,fun j hj hne=>by rw [bel.block j hj];exact h.gr.block j hj hne⟩
end
theorem c_decT (N:Nat) (hN:N<=1000) (w:World):Calls prog 101 #[.int .i64 N] w fun e w'=>∃ u,e=.returned (.string u)/\u.size<=30/\Below w.heap.size w w':=by
 by_cases h0:N=0
 ·subst h0
  go_enter func101,ntmps101;go_wp2;go_ret;exact ⟨_,rfl,by decide,ZZb _ _⟩
 ·refine (Qdk N h0 (by omega) w).mono ?_
  rintro e w' ⟨rfl,hb⟩;refine ⟨_,rfl,?_,hb⟩;rw [<- Qaq,Qa8,Lib.decDigits_length];have:=Lib.nDigits_le20 N (by omega);omega
end
section
theorem QqP (hc:Qbd W B ao ln) (h:Src W B ao ln cap s w) :
  Calls prog 162 #[.pointer (some ⟨s,0,none⟩)] w fun e w'=>∃ v,e=.returned (.int .i64 v)/\I64 v/\Src W B ao ln cap s w'/\w.grownBy w' (some s):=by
 have HC:=Qaa hc;go_enter func162,ntmps162;go_wp2_with fail;refine (QeX HC h _ (by omega)).mono ?_;rintro e w1 ⟨b,rfl,ae,am⟩;have al:=Qaa ae;have ai:=Qaa am;clear ae am h hc
 cases b with
 | true=>
  go_wp2_with fail;refine (Qlc HC al).mono ?_;rintro e w2 ⟨v,rfl,hI,aa,ab⟩;have ac:=Qaa aa;have ad:=Qaa (ai.out.trans ab);clear aa ab;go_wp2;go_ret;exact ⟨v,rfl,hI,ac,ad⟩
 | false=>
  go_wp2_with fail;refine (c_n HC al _ (by omega)).mono ?_;rintro e w2 ⟨v,rfl,v0,v1,_,aa,ab⟩;have v1:=v1 (by omega);have ac:=Qaa aa;have ad:=Qaa (ai.out.trans ab);clear aa ab;go_wp2_with fail;refine (c_n HC ac _ (by omega)).mono ?_;rintro e w3 ⟨k,rfl,k0,k1,_,aj,an⟩;have k1:=k1 (by omega);have aq:=Qaa aj;have ap:=Qaa (ad.out.trans an);clear aj an;go_wp2_with fail;obtain ⟨k,rfl⟩:=Int.eq_ofNat_of_zero_le k0
  go_loop [3,4] (fun xv kv=>∃ (j:Nat) (x:Int),j<=8/\kv=.int .i64 j/\xv=.int .i64 x/\I64 x) (fun xv kv=>(Go.RowKit.intOf kv).toNat)
  case atStart=>exact ⟨k,v,by omega,rfl,rfl,by unfold I64;omega⟩
  case round=>
   clear v0 v1 k0 k1;obtain ⟨j,x,hj,rfl,rfl,hx⟩:=hrel;rcases Nat.eq_zero_or_pos j with h0 | h0
   ·subst h0
    go_wp2_with fail;refine (QeX HC aq _ (by omega)).mono ?_;rintro e w4 ⟨b,rfl,af,ak⟩;have ah:=Qaa af;have ag:=Qaa (ap.out.trans ak);clear af ak;have hm:=Qgg (-x)
    cases b with
    | true=>
     go_wp2;go_ret;exact ⟨_,rfl,by first | exact hm | (unfold I64 at *; omega),ah,ag⟩
    | false=>
     go_wp2;go_ret;exact ⟨_,rfl,hx,ah,ag⟩
   ·have ar:(0:Int)<(j:Int):=by omega
    have hm:=Qgg (x*9);go_wp2
    go_round
    case rel=>exact ⟨j - 1,_,by omega,by congr 1;omega,rfl,hm⟩
    case measure=>simp [zI];omega
end
section
theorem QaB (h:w.grownBy w1 r) (hb:Below w.heap.size w1 w2):w.grownBy w2 r:=
 ⟨hb.os.trans h.os,hb.tape.trans h.tape,hb.output.trans h.output,Nat.le_trans h.size hb.size,fun k hk hne=>by rw [hb.block k hk];exact h.block k hk hne⟩
theorem Qrj (name:ByteArray) (L:List ByteArray):(Qmy name L).size<=100:=by
 have e0:ByteArray.empty.size<=100:=by decide
 unfold Qmy
 split
 ·exact e0
 ·unfold Qce
  split
  ·unfold Qb2
   split
   ·exact e0
   ·rename_i h;omega
  ·exact e0
theorem QhV (hc:Qbd W B ao ln) (h:Src W B ao ln cap s w) :
  Calls prog 161 #[.pointer (some ⟨s,0,none⟩)] w fun e w'=>∃ u,e=.returned (.string u)/\u.size<=100/\Src W B ao ln cap s w'/\w.grownBy w' (some s):=by
 obtain ⟨i0,hi,ay,az,ax⟩:=info_parts Qf2;have HC:=Qaa hc;have HS:=Qaa h;clear hc h;go_enter func161,ntmps161;go_wp2_with fail;refine (QdC HC HS 40 (by rfl) (by omega) (by omega) (by decide)).mono ?_;rintro e w2 ⟨ac,rfl,aC,ah,aq⟩;have aa:s<w2.heap.size:=Qcs ah;have ap:=Qaa aq;replace HS:=Qaa ah;clear ah aq;go_wp2_with fail;refine (c_n HC (QaK HS ((ZZb _ _).alloc (ZZa _) (.cells #[] 9))) _ (by omega)).mono ?_;rintro e w3 ⟨kk,rfl,k0,k1,_,al,ak⟩;have k1:=k1 (by omega)
 have D0:DL W B ao ln cap s w2 w3 (.slice (some ⟨w2.heap.size,0,none⟩) 0 0) []:=by
  have O0:OwnT (w2.alloc (.cells #[] 9)) w2.heap.size (.slice (some ⟨w2.heap.size,0,none⟩) 0 0) []:=World.ownsRow_made w2 #[] 0 (ZZa _) (ZZj _) rfl;have D1:DL W B ao ln cap s w2 (w2.alloc (.cells #[] 9)) (.slice (some ⟨w2.heap.size,0,none⟩) 0 0) []:=⟨O0,fun u hu=>absurd hu List.not_mem_nil,QaK HS ((ZZb _ _).alloc (ZZa _) _),World.grownBy_alloc _ _ _⟩;exact D1.step aa al ak
 have am:=Qaa D0;clear D0 al ak HS;obtain ⟨kn,rfl⟩:=Int.eq_ofNat_of_zero_le k0;have aG:kn<3:=by omega
 clear k0 k1;go_wp2_with fail
 go_loopw [4,5] (fun lv kv wr=>∃ (j:Nat) (lo:Option Addr) (n lc:Nat) (L:List ByteArray),kv=.int .i64 j/\j<=3/\lv=.slice lo n lc/\n+j<=3/\Hid (L.length=n/\DL W B ao ln cap s w2 wr (.slice lo n lc) L)) (fun lv kv wr=>(RowKit.intOf kv).toNat)
 case atStart=>exact ⟨kn,_,0,0,[],rfl,by omega,rfl,by omega,⟨rfl,am⟩⟩
 case round=>
  clear am;obtain ⟨j,lo,n,lc,L,rfl,hj,rfl,aF,HD⟩:=hrel;rcases Nat.eq_zero_or_pos j with h0 | h0
  ·subst h0
   go_wp2_with fail;refine (QjT ac lc n (by unfold maxLen;omega) HD.out.1 (by omega) (fun u hu=>by have:=HD.out.2.sz u hu;unfold maxLen;omega) HD.out.2.own.at).mono ?_;rintro e w4 ⟨rfl,ag⟩;have aw:=Qaa (QaK HD.out.2.src ag);have ar:=Qaa (QaB (ap.out.trans HD.out.2.gr) (ag.mono (Nat.le_trans ap.out.size HD.out.2.gr.size)));have ae:=Qrj ac L;clear ag HD;generalize Qmy ac L=u at ae ⊢;go_wp2;go_ret;exact ⟨u,rfl,ae,aw,ar⟩
  ·have aD:(0:Int)<(j:Int):=by omega
   have aB:IntKind.i64.wrap ((j:Int) - 1)=((j - 1:Nat):Int):=by rw [IntWalk.i64_in _ ⟨by omega,by omega⟩];omega
   have aE:n<=6:=by omega
   go_wp2_with (first
    | (go_at_call 39;refine (QdC HC HD.out.2.src 21 (by rfl) (by omega) (by omega) (by decide)).mono ?_;rintro e w4 ⟨u,rfl,hu,aj,an⟩;have av:=Qaa (HD.out.2.step aa aj an);have ai:=Qaa (av.out.past aa ((ZZb _ _).alloc (ZZa _) (.cells #[.string u] 9)));have HN:=Qaa HD.out.1;clear aj an HD)
    | (at_builtin;refine wpList_append_own _ rfl (.tmp 16) (.tmp 20) 57 rfl w2.heap.size 9 i0 (.string ByteArray.empty) 1 16 underlying57 hi ay az ax rfl (by decide) _ _ _ rfl ai.out.own ⟨w4.heap.size,0,none⟩ 1 1 [.string u] rfl rfl (Qau (cs:=#[.string u]) rfl) (QaS [u]) (by have:=HN.out;unfold maxLen;omega) (by have:=HN.out;omega) ai.out.gr.size ?_;intro v5 w5 ad ab af;have aA:=Qaa (ai.out.app aa (show u.size<=40 by omega) ad ab);obtain ⟨au,c5,rfl⟩:=Qan ad;clear ad ab af))
   go_roundw
   case rel=>exact ⟨j - 1,au,L.length+1,c5,L ++ [u],rfl,by omega,rfl,by have:=HN.out;omega,⟨by simp,aA⟩⟩
   case measure=>simp [RowKit.intOf];omega
end
section
theorem Qbo (h:Src W B ao ln cap s w) (hb:Below K w w') (hs:s<K):Src W B ao ln cap s w':=by
 obtain ⟨a,m,z,hk,h1,h2⟩:=h.blk;exact ⟨h.bel.trans (hb.mono (Nat.le_trans h.hB (Nat.le_of_lt hs))),h.hB,a,m,z,by rw [hb.block s hs];exact hk,h1,h2⟩
theorem Qgo {r:Nat} (h:w.heap[r]?=some (.cells cs T (0,0))) (j:Nat) (e:cs[j]?=some v):w.cell? ⟨r,j,none⟩=some v:=by rw [cell_of_row _ _ j _ _ (0,0) h];exact e
structure SD (W:World) (B:Nat) (ao:Option Addr) (ln cap s:Nat) (w wr:World) (b:Nat) (x:Sx):Prop where
 row:wr.heap[b]?=some (.cells (QaV x) 97 (0,0))
 res:wr.heap[w.heap.size]?=some (.cells #[.int .i64 0,.string ⟨#[]⟩,.int .i64 0,.string ⟨#[]⟩,.int .u64 0,.bool false,.int .i64 0] 97 (0,0))
 src:Src W B ao ln cap s wr
 gr:w.grownBy wr (some s)
 lb:w.heap.size<b
 hs:s<w.heap.size
 ok:x.Ok
section
variable {W:World} {B ln cap s:Nat} {ao:Option Addr} {w wr:World} {b:Nat} {x:Sx}
theorem SD.step (h:SD W B ao ln cap s w wr b x) (hS:Src W B ao ln cap s w1) (hg:wr.grownBy w1 (some s)):SD W B ao ln cap s w w1 b x:=by
 have l1:=h.lb;have l2:=h.hs;exact ⟨(hg.block b (ZZc.1 h.row).1 (fun e=>by cases e;omega)).trans h.row,(hg.block _ (ZZc.1 h.res).1 (fun e=>by cases e;omega)).trans h.res,hS,h.gr.trans hg,h.lb,h.hs,h.ok⟩
theorem SD.past (h:SD W B ao ln cap s w wr b x) (hb:Below wr.heap.size wr w1):SD W B ao ln cap s w w1 b x:=
 h.step (QaK h.src hb) ⟨hb.os,hb.tape,hb.output,hb.size,fun j hj _=>hb.block j hj⟩
theorem SD.set (h:SD W B ao ln cap s w wr b x) {x':Sx} (j:Nat) (u:Value) (e:(QaV x).setIfInBounds j u=QaV x') (ok:x'.Ok):SD W B ao ln cap s w (wr.setCell ⟨b,j,none⟩ u) b x':=by
 have l1:=h.lb;have l2:=h.hs;have hb:Below b wr (wr.setCell ⟨b,j,none⟩ u):=(Below.refl b wr).setCell (by simp) u;refine ⟨?_,(hb.block _ l1).trans h.res,Qbo h.src hb (by omega),QaB h.gr (hb.mono (by omega)),h.lb,h.hs,ok⟩;rw [<- e];exact ZZl wr b j _ _ u h.row
end
theorem QaA {x:Sx} (h:w.heap[b]?=some (.cells (QaV x) T (0,0))):w.cell? ⟨b,0,none⟩=some (.int .i64 x.k)/\w.cell? ⟨b,1,none⟩=some (.string x.se)/\w.cell? ⟨b,2,none⟩=some (.int .i64 x.v)/\w.cell? ⟨b,3,none⟩=some (.string x.wd)/\w.cell? ⟨b,4,none⟩=some (.int .u64 x.wt)/\w.cell? ⟨b,5,none⟩=some (.bool x.tm)/\w.cell? ⟨b,6,none⟩=some (.int .i64 x.ti):=
 ⟨Qgo h 0 rfl,Qgo h 1 rfl,Qgo h 2 rfl,Qgo h 3 rfl,Qgo h 4 rfl,Qgo h 5 rfl,Qgo h 6 rfl⟩
theorem Qb8 {v:Int} (h0:-1<=v) (h1:v<=2000000000):I64 v:=by unfold I64;omega
def Qnd (W:World) (B:Nat) (ao:Option Addr) (ln cap s:Nat) (w:World) (e:Ending) (w':World):Prop:=∃ x:Sx,e=.returned (.agg (QaV x))/\x.Ok/\Src W B ao ln cap s w'/\w.grownBy w' (some s)
theorem Qgn (hc:Qbd W B ao ln) (h:Src W B ao ln cap s w) :
  Calls prog 117 #[.pointer (some ⟨s,0,none⟩)] w fun e w'=>Qnd W B ao ln cap s w e w':=by
 have HC:=Qaa hc;have hs:=Qcs h;have a0:Below w.heap.size w (w.alloc (.cells #[.int .i64 0,.string ⟨#[]⟩,.int .i64 0,.string ⟨#[]⟩,.int .u64 0,.bool false,.int .i64 0] 97)):=(ZZb _ _).alloc (ZZa _) _;have an:=Qaa (QaK h a0);have al:=Qaa (ZZk w (.cells #[.int .i64 0,.string ⟨#[]⟩,.int .i64 0,.string ⟨#[]⟩,.int .u64 0,.bool false,.int .i64 0] 97));have ar:Hid (w.grownBy (w.alloc (.cells #[.int .i64 0,.string ⟨#[]⟩,.int .i64 0,.string ⟨#[]⟩,.int .u64 0,.bool false,.int .i64 0] 97)) (some s)):=(⟨a0.os,a0.tape,a0.output,a0.size,fun j hj _=>a0.block j hj⟩:w.grownBy _ (some s));have aC:(w.alloc (.cells #[.int .i64 0,.string ⟨#[]⟩,.int .i64 0,.string ⟨#[]⟩,.int .u64 0,.bool false,.int .i64 0] 97)).heap.size=w.heap.size+1:=by simp
 clear hc h a0;go_enter func117,ntmps117;go_wp2_with fail;generalize w.alloc (.cells #[.int .i64 0,.string ⟨#[]⟩,.int .i64 0,.string ⟨#[]⟩,.int .u64 0,.bool false,.int .i64 0] 97)=W0 at an al ar aC ⊢;refine (c_n HC an 4 (by omega)).mono ?_;rintro e w1 ⟨k0,rfl,k1,k2,_,aw,aH⟩;have k2:=k2 (by omega);have aW:IntKind.i64.wrap (1+k0)=1+k0:=ZZi _ ⟨by omega,by omega⟩;have aK:=Qaa aw;have aB:=Qaa aH;clear aw aH;go_wp2_with fail;refine (QhV HC aK).mono ?_;rintro e w2 ⟨se,rfl,aT,aA,aG⟩;have aD:=Qaa aA;have aF:=Qaa (aB.out.trans aG);clear aA aG aK aB;go_wp2_with fail;refine (QeX HC aD 2 (by omega)).mono ?_;rintro e w3 ⟨tm,rfl,aI,aM⟩;have ak:=Qaa (aF.out.trans aM);have a3:Below w3.heap.size w3 (w3.alloc (.cells (QaV ⟨1+k0,se,0,⟨#[]⟩,1,tm,0⟩) 97)):=(ZZb _ _).alloc (ZZa _) _;have z3:=ak.out.size
 have HD:Hid (SD W B ao ln cap s w (w3.alloc (.cells (QaV ⟨1+k0,se,0,⟨#[]⟩,1,tm,0⟩) 97)) w3.heap.size ⟨1+k0,se,0,⟨#[]⟩,1,tm,0⟩):=by
  refine Qaa ⟨heap_alloc_new w3 _,?_,QaK aI a3,QaB (ar.out.trans ak) (a3.mono (by omega)),by omega,hs,⟨Qb8 (by show -1<=1+k0;omega) (by show 1+k0<=_;omega),Qb8 (by show (-1:Int)<=0;omega) (by show (0:Int)<=_;omega),by show U64 1;unfold U64;omega,Qb8 (by show (-1:Int)<=0;omega) (by show (0:Int)<=_;omega),by show se.size<=_;unfold maxLen;omega,by show (⟨#[]⟩:ByteArray).size<=_;decide⟩⟩;exact (a3.block _ (by omega)).trans ((ak.out.block _ (by omega) (fun e=>by cases e;omega)).trans al)
 clear aI aM a3 aD aF ak an al ar aC;go_upto_if 13 with fail;generalize w3.alloc (.cells (QaV ⟨1+k0,se,0,⟨#[]⟩,1,tm,0⟩) 97)=W4 at HD ⊢;generalize w3.heap.size=b at HD z3 ⊢;generalize hx0:(⟨1+k0,se,0,⟨#[]⟩,1,tm,0⟩:Sx)=x at HD;have aR:tm=x.tm:=by rw [<- hx0]
 subst aR;clear hx0 z3;obtain ⟨x0,x1,x2,x3,x4,x5,x6⟩:=QaA HD.out.row
 go_cut [3] (fun p w'=>p=.pointer (some ⟨b,0,none⟩)/\∃ x,Hid (SD W B ao ln cap s w w' b x))
 case first=>
  cases ht:x.tm with
  | false=>
   rw [ht] at x5;go_wp2;go_meet;exact ⟨rfl,x,HD⟩
  | true=>
   rw [ht] at x5;go_wp2_with fail;refine (c_n HC HD.out.src 60 (by omega)).mono ?_;rintro e w5 ⟨v5,rfl,a5,c5,_,ac,ab⟩;have c5:=c5 (by omega);have aa:=Qaa (HD.out.step ac ab);clear ac ab x0 x1 x2 x3 x4 x5 x6;obtain ⟨x0,x1,x2,x3,x4,x5,x6⟩:=QaA aa.out.row;obtain ⟨f0,f1,f2,f3,f4,f5,f6⟩:=fA7 aa.out.row;go_wp2;go_meet;exact ⟨rfl,⟨x.k,x.se,x.v,x.wd,x.wt,x.tm,v5⟩,Qaa (aa.out.set 6 (.int .i64 v5) rfl ⟨aa.out.ok.k,aa.out.ok.v,aa.out.ok.wt,(show I64 v5 from Qb8 (by omega) (by omega)),aa.out.ok.se,aa.out.ok.wd⟩)⟩
 case rest=>
  clear HD x0 x1 x2 x3 x4 x5 x6;obtain ⟨rfl,x,HD⟩:=hcut;obtain ⟨w6,aE⟩:∃ w6,wc=w6:=⟨_,rfl⟩;rw [aE] at HD ⊢;clear aE;obtain ⟨x0,x1,x2,x3,x4,x5,x6⟩:=QaA HD.out.row;go_upto_if 19 with fail
  go_cut [3] (fun p w'=>p=.pointer (some ⟨b,0,none⟩)/\∃ x,Hid (SD W B ao ln cap s w w' b x))
  case first=>
   by_cases h4:x.k=4
   ·have aq:(x.k == 4)=true:=by simp [h4]
    clear h4;go_wp2_with fail;refine (QdC HC HD.out.src 40 (by rfl) (by omega) (by omega) (by decide)).mono ?_;rintro e w5 ⟨u5,rfl,aP,ac,ab⟩;have aa:=Qaa (HD.out.step ac ab);clear ac ab x0 x1 x2 x3 x4 x5 x6;obtain ⟨x0,x1,x2,x3,x4,x5,x6⟩:=QaA aa.out.row;obtain ⟨f0,f1,f2,f3,f4,f5,f6⟩:=fA7 aa.out.row;go_wp2;go_meet;exact ⟨rfl,⟨x.k,x.se,x.v,u5,x.wt,x.tm,x.ti⟩,Qaa (aa.out.set 3 (.string u5) rfl ⟨aa.out.ok.k,aa.out.ok.v,aa.out.ok.wt,aa.out.ok.ti,aa.out.ok.se,(show u5.size<=_ by unfold maxLen;omega)⟩)⟩
   ·have aq:(x.k == 4)=false:=ZZf.2 h4
    clear h4;go_wp2_with fail;refine (QqP HC HD.out.src).mono ?_;rintro e w5 ⟨v5,rfl,am,ac,ab⟩;have aa:=Qaa (HD.out.step ac ab);clear ac ab x0 x1 x2 x3 x4 x5 x6;obtain ⟨x0,x1,x2,x3,x4,x5,x6⟩:=QaA aa.out.row;obtain ⟨f0,f1,f2,f3,f4,f5,f6⟩:=fA7 aa.out.row;go_wp2;go_meet;exact ⟨rfl,⟨x.k,x.se,v5,x.wd,x.wt,x.tm,x.ti⟩,Qaa (aa.out.set 2 (.int .i64 v5) rfl ⟨aa.out.ok.k,am,aa.out.ok.wt,aa.out.ok.ti,aa.out.ok.se,aa.out.ok.wd⟩)⟩
  case rest=>
   clear HD x0 x1 x2 x3 x4 x5 x6;obtain ⟨rfl,x,HD⟩:=hcut;obtain ⟨w7,av⟩:∃ w7,wc=w7:=⟨_,rfl⟩;rw [av] at HD ⊢;clear av;obtain ⟨x0,x1,x2,x3,x4,x5,x6⟩:=QaA HD.out.row;go_upto_region 7 with fail
   go_cut [3,38] (fun p c w'=>p=.pointer (some ⟨b,0,none⟩)/\(∃ bb,c=.bool bb)/\Hid (SD W B ao ln cap s w w' b x))
   case first=>
    by_cases h4:x.k=4
    ·have aq:(x.k != 4)=false:=by simp [h4]
     clear h4;go_wp2;go_meet;exact ⟨rfl,⟨false,rfl⟩,HD⟩
    ·have aq:(x.k != 4)=true:=by simp [h4]
     by_cases h2:x.k=2
     ·have aQ:(x.k != 2)=false:=by simp [h2]
      clear h4 h2;go_wp2;go_meet;exact ⟨rfl,⟨false,rfl⟩,HD⟩
     ·have aQ:(x.k != 2)=true:=by simp [h2]
      clear h4 h2;go_wp2_with fail;refine (QeX HC HD.out.src 3 (by omega)).mono ?_;rintro e w4 ⟨bb,rfl,ai,aj⟩;have ae:=Qaa (HD.out.step ai aj);clear ai aj x0 x1 x2 x3 x4 x5 x6
      cases bb with
      | false=>
       go_wp2;go_meet;exact ⟨rfl,⟨false,rfl⟩,ae⟩
      | true=>
       go_wp2;go_meet;exact ⟨rfl,⟨true,rfl⟩,ae⟩
   case rest=>
    obtain ⟨rfl,⟨bb,rfl⟩,ae⟩:=hcut;obtain ⟨w4,au⟩:∃ w4,wc=w4:=⟨_,rfl⟩;rw [au] at ae ⊢;clear au HD x0 x1 x2 x3 x4 x5 x6;go_upto_if 38 with fail
    go_cut [3] (fun p w'=>p=.pointer (some ⟨b,0,none⟩)/\∃ x,Hid (SD W B ao ln cap s w w' b x))
    case first=>
      cases bb with
      | false=>
       go_wp2;go_meet;exact ⟨rfl,x,ae⟩
      | true=>
       go_wp2_with fail;refine (c_n HC ae.out.src 20 (by omega)).mono ?_;rintro e w5 ⟨v5,rfl,a5,c5,_,ac,ab⟩;have c5:=c5 (by omega);have aa:=Qaa (ae.out.step ac ab);have aU:IntKind.i64.wrap (1+v5)=1+v5:=ZZi _ ⟨by omega,by omega⟩;have aS:IntKind.u64.wrap (1+v5)=1+v5:=by rw [IntKind.wrap_u64];omega
       clear ac ab;obtain ⟨x0,x1,x2,x3,x4,x5,x6⟩:=QaA aa.out.row;obtain ⟨f0,f1,f2,f3,f4,f5,f6⟩:=fA7 aa.out.row;go_wp2;go_meet;exact ⟨rfl,⟨x.k,x.se,x.v,x.wd,1+v5,x.tm,x.ti⟩,Qaa (aa.out.set 4 (.int .u64 (1+v5)) rfl ⟨aa.out.ok.k,aa.out.ok.v,(show U64 (1+v5) by unfold U64;omega),aa.out.ok.ti,aa.out.ok.se,aa.out.ok.wd⟩)⟩
    case rest=>
     clear ae;obtain ⟨rfl,x,HD⟩:=hcut;obtain ⟨w8,aJ⟩:∃ w8,wc=w8:=⟨_,rfl⟩;rw [aJ] at HD ⊢;clear aJ;obtain ⟨x0,x1,x2,x3,x4,x5,x6⟩:=QaA HD.out.row;go_wp2_with fail;refine (QeX HC HD.out.src 20 (by omega)).mono ?_;rintro e w4 ⟨bb,rfl,ai,aj⟩;have ae:=Qaa (HD.out.step ai aj);clear ai aj x0 x1 x2 x3 x4 x5 x6;go_upto_if 45 with fail
     go_cut [3] (fun p w'=>p=.pointer (some ⟨b,0,none⟩)/\∃ x,Hid (SD W B ao ln cap s w w' b x))
     case first=>
      cases bb with
      | false=>
       go_wp2;go_meet;exact ⟨rfl,x,ae⟩
      | true=>
       go_wp2_with fail;refine (c_n HC ae.out.src 6 (by omega)).mono ?_;rintro e w9 ⟨v9,rfl,a9,c9,_,az,ax⟩;have c9:=c9 (by omega);have ad:=Qaa (ae.out.step az ax);clear az ax;have h9:v9=0∨v9=1∨v9=2∨v9=3∨v9=4∨v9=5:=by omega
       clear a9 c9;rcases h9 with rfl | rfl | rfl | rfl | rfl | rfl
       ·go_wp2_with fail
        refine (c_n HC ad.out.src 6 (by omega)).mono ?_;rintro e w5 ⟨v5,rfl,a5,c5,_,ac,ab⟩;have c5:=c5 (by omega);have aa:=Qaa (ad.out.step ac ab);clear ac ab;obtain ⟨x0,x1,x2,x3,x4,x5,x6⟩:=QaA aa.out.row;obtain ⟨f0,f1,f2,f3,f4,f5,f6⟩:=fA7 aa.out.row;go_wp2;go_meet;exact ⟨rfl,⟨v5,x.se,x.v,x.wd,x.wt,x.tm,x.ti⟩,Qaa (aa.out.set 0 (.int .i64 v5) rfl ⟨(show I64 v5 from Qb8 (by omega) (by omega)),aa.out.ok.v,aa.out.ok.wt,aa.out.ok.ti,aa.out.ok.se,aa.out.ok.wd⟩)⟩
       ·go_wp2_with fail
        refine (QdC HC ad.out.src 40 (by rfl) (by omega) (by omega) (by decide)).mono ?_;rintro e w5 ⟨u5,rfl,aP,ac,ab⟩;have aa:=Qaa (ad.out.step ac ab);clear ac ab;obtain ⟨x0,x1,x2,x3,x4,x5,x6⟩:=QaA aa.out.row;obtain ⟨f0,f1,f2,f3,f4,f5,f6⟩:=fA7 aa.out.row;go_wp2;go_meet;exact ⟨rfl,⟨x.k,u5,x.v,x.wd,x.wt,x.tm,x.ti⟩,Qaa (aa.out.set 1 (.string u5) rfl ⟨aa.out.ok.k,aa.out.ok.v,aa.out.ok.wt,aa.out.ok.ti,(show u5.size<=_ by unfold maxLen;omega),aa.out.ok.wd⟩)⟩
       ·go_wp2_with fail
        have aL:Below w9.heap.size w9 (w9.alloc (.cells #[.int .u64 0,.int .u64 1000000,.int .u64 1000001,.int .u64 777777] 62)):=(ZZb _ _).alloc (ZZa _) _;have HL:=Qaa (ZZk w9 (.cells #[.int .u64 0,.int .u64 1000000,.int .u64 1000001,.int .u64 777777] 62));have af:=Qaa (ad.out.past aL);have ap:(w9.alloc (.cells #[.int .u64 0,.int .u64 1000000,.int .u64 1000001,.int .u64 777777] 62)).heap.size=w9.heap.size+1:=by simp
        have aO:=(ZZc.1 ad.out.row).1;have aN:=Qcs ad.out.src;clear aL;generalize w9.alloc (.cells #[.int .u64 0,.int .u64 1000000,.int .u64 1000001,.int .u64 777777] 62)=WL at HL af ap ⊢;refine (c_n HC af.out.src 4 (by omega)).mono ?_;rintro e w5 ⟨v5,rfl,a5,c5,_,ac,ab⟩;have c5:=c5 (by omega);have aa:=Qaa (af.out.step ac ab);have ah:=Qaa ((ab.block w9.heap.size (by omega) (fun e=>by cases e;omega)).trans HL);clear ac ab;obtain ⟨l0,l1,l2,l3⟩:=cA4 ah;obtain ⟨x0,x1,x2,x3,x4,x5,x6⟩:=QaA aa.out.row;obtain ⟨f0,f1,f2,f3,f4,f5,f6⟩:=fA7 aa.out.row;have h5:v5=0∨v5=1∨v5=2∨v5=3:=by omega
        clear a5 c5;rcases h5 with rfl | rfl | rfl | rfl
        ·go_wp2
         go_meet;exact ⟨rfl,⟨x.k,x.se,x.v,x.wd,0,x.tm,x.ti⟩,Qaa (aa.out.set 4 (.int .u64 0) rfl ⟨aa.out.ok.k,aa.out.ok.v,(show U64 0 by unfold U64;omega),aa.out.ok.ti,aa.out.ok.se,aa.out.ok.wd⟩)⟩
        ·go_wp2
         go_meet;exact ⟨rfl,⟨x.k,x.se,x.v,x.wd,1000000,x.tm,x.ti⟩,Qaa (aa.out.set 4 (.int .u64 1000000) rfl ⟨aa.out.ok.k,aa.out.ok.v,(show U64 1000000 by unfold U64;omega),aa.out.ok.ti,aa.out.ok.se,aa.out.ok.wd⟩)⟩
        ·go_wp2
         go_meet;exact ⟨rfl,⟨x.k,x.se,x.v,x.wd,1000001,x.tm,x.ti⟩,Qaa (aa.out.set 4 (.int .u64 1000001) rfl ⟨aa.out.ok.k,aa.out.ok.v,(show U64 1000001 by unfold U64;omega),aa.out.ok.ti,aa.out.ok.se,aa.out.ok.wd⟩)⟩
        ·go_wp2
         go_meet;exact ⟨rfl,⟨x.k,x.se,x.v,x.wd,777777,x.tm,x.ti⟩,Qaa (aa.out.set 4 (.int .u64 777777) rfl ⟨aa.out.ok.k,aa.out.ok.v,(show U64 777777 by unfold U64;omega),aa.out.ok.ti,aa.out.ok.se,aa.out.ok.wd⟩)⟩
       ·go_wp2_with fail
        have aL:Below w9.heap.size w9 (w9.alloc (.cells #[.int .i64 (-1),.int .i64 1000000000,.int .i64 1000000001] 2)):=(ZZb _ _).alloc (ZZa _) _;have HL:=Qaa (ZZk w9 (.cells #[.int .i64 (-1),.int .i64 1000000000,.int .i64 1000000001] 2));have af:=Qaa (ad.out.past aL);have ap:(w9.alloc (.cells #[.int .i64 (-1),.int .i64 1000000000,.int .i64 1000000001] 2)).heap.size=w9.heap.size+1:=by simp
        have aO:=(ZZc.1 ad.out.row).1;have aN:=Qcs ad.out.src;clear aL;generalize w9.alloc (.cells #[.int .i64 (-1),.int .i64 1000000000,.int .i64 1000000001] 2)=WL at HL af ap ⊢;refine (c_n HC af.out.src 3 (by omega)).mono ?_;rintro e w5 ⟨v5,rfl,a5,c5,_,ac,ab⟩;have c5:=c5 (by omega);have aa:=Qaa (af.out.step ac ab);have ah:=Qaa ((ab.block w9.heap.size (by omega) (fun e=>by cases e;omega)).trans HL);clear ac ab;have l0:=Qae ah 0 rfl;have l1:=Qae ah 1 rfl;have l2:=Qae ah 2 rfl;obtain ⟨x0,x1,x2,x3,x4,x5,x6⟩:=QaA aa.out.row;obtain ⟨f0,f1,f2,f3,f4,f5,f6⟩:=fA7 aa.out.row;have h5:v5=0∨v5=1∨v5=2:=by omega
        clear a5 c5;rcases h5 with rfl | rfl | rfl
        ·go_wp2
         go_meet;exact ⟨rfl,⟨x.k,x.se,x.v,x.wd,x.wt,x.tm,(-1)⟩,Qaa (aa.out.set 6 (.int .i64 (-1)) rfl ⟨aa.out.ok.k,aa.out.ok.v,aa.out.ok.wt,(show I64 (-1) by unfold I64;omega),aa.out.ok.se,aa.out.ok.wd⟩)⟩
        ·go_wp2
         go_meet;exact ⟨rfl,⟨x.k,x.se,x.v,x.wd,x.wt,x.tm,1000000000⟩,Qaa (aa.out.set 6 (.int .i64 1000000000) rfl ⟨aa.out.ok.k,aa.out.ok.v,aa.out.ok.wt,(show I64 1000000000 by unfold I64;omega),aa.out.ok.se,aa.out.ok.wd⟩)⟩
        ·go_wp2
         go_meet;exact ⟨rfl,⟨x.k,x.se,x.v,x.wd,x.wt,x.tm,1000000001⟩,Qaa (aa.out.set 6 (.int .i64 1000000001) rfl ⟨aa.out.ok.k,aa.out.ok.v,aa.out.ok.wt,(show I64 1000000001 by unfold I64;omega),aa.out.ok.se,aa.out.ok.wd⟩)⟩
       ·have aa:=ad
        obtain ⟨x0,x1,x2,x3,x4,x5,x6⟩:=QaA aa.out.row;obtain ⟨f0,f1,f2,f3,f4,f5,f6⟩:=fA7 aa.out.row;go_wp2;go_meet;exact ⟨rfl,⟨x.k,x.se,x.v,⟨#[119]⟩,x.wt,x.tm,x.ti⟩,Qaa (aa.out.set 3 (.string ⟨#[119]⟩) rfl ⟨aa.out.ok.k,aa.out.ok.v,aa.out.ok.wt,aa.out.ok.ti,aa.out.ok.se,(show (⟨#[119]⟩:ByteArray).size<=_ by decide)⟩)⟩
       ·go_wp2_with fail
        refine (Qlc HC ad.out.src).mono ?_;rintro e w5 ⟨v5,rfl,am,ac,ab⟩;have aa:=Qaa (ad.out.step ac ab);clear ac ab;obtain ⟨x0,x1,x2,x3,x4,x5,x6⟩:=QaA aa.out.row;obtain ⟨f0,f1,f2,f3,f4,f5,f6⟩:=fA7 aa.out.row;go_wp2;go_meet;exact ⟨rfl,⟨x.k,x.se,v5,x.wd,x.wt,x.tm,x.ti⟩,Qaa (aa.out.set 2 (.int .i64 v5) rfl ⟨aa.out.ok.k,am,aa.out.ok.wt,aa.out.ok.ti,aa.out.ok.se,aa.out.ok.wd⟩)⟩
     case rest=>
      clear HD ae;obtain ⟨rfl,x,HD⟩:=hcut;obtain ⟨ay,ag⟩:∃ ay,wc=ay:=⟨_,rfl⟩;rw [ag] at HD ⊢;clear ag;obtain ⟨x0,x1,x2,x3,x4,x5,x6⟩:=QaA HD.out.row;obtain ⟨z0,z1,z2,z3,z4,z5,z6⟩:=cA7 HD.out.res;obtain ⟨f0,f1,f2,f3,f4,f5,f6⟩:=fA7 HD.out.res;have aV:¬ b=w.heap.size:=by have:=HD.out.lb;omega
      go_wp2;refine bodyPost_ret (v:=.agg (QaV x)) (by simp [results,results117,go_sem,z0,z1,z2,z3,z4,z5,z6]) rfl ⟨x,rfl,HD.out.ok,?_,?_⟩
      ·refine Qbo (K:=w.heap.size) HD.out.src ?_ hs
       repeat (refine Below.setCell ?_ (by simp) _)
       exact ZZb _ _
      ·refine QaB HD.out.gr ?_
       repeat (refine Below.setCell ?_ (by simp) _)
       exact ZZb _ _
end
section
theorem SD.set7 {x y:Sx} (h:SD W B ao ln cap s w wr b x) (oy:y.Ok):SD W B ao ln cap s w (((((((wr.setCell ⟨b,0,none⟩ (.int .i64 y.k)).setCell ⟨b,1,none⟩ (.string y.se)).setCell ⟨b,2,none⟩ (.int .i64 y.v)).setCell ⟨b,3,none⟩ (.string y.wd)).setCell ⟨b,4,none⟩ (.int .u64 y.wt)).setCell ⟨b,5,none⟩ (.bool y.tm)).setCell ⟨b,6,none⟩ (.int .i64 y.ti)) b y:=by
 have h0:=h.set (x':=⟨y.k,x.se,x.v,x.wd,x.wt,x.tm,x.ti⟩) 0 (.int .i64 y.k) rfl ⟨oy.k,h.ok.v,h.ok.wt,h.ok.ti,h.ok.se,h.ok.wd⟩;have h1:=h0.set (x':=⟨y.k,y.se,x.v,x.wd,x.wt,x.tm,x.ti⟩) 1 (.string y.se) rfl ⟨oy.k,h.ok.v,h.ok.wt,h.ok.ti,oy.se,h.ok.wd⟩;have h2:=h1.set (x':=⟨y.k,y.se,y.v,x.wd,x.wt,x.tm,x.ti⟩) 2 (.int .i64 y.v) rfl ⟨oy.k,oy.v,h.ok.wt,h.ok.ti,oy.se,h.ok.wd⟩;have h3:=h2.set (x':=⟨y.k,y.se,y.v,y.wd,x.wt,x.tm,x.ti⟩) 3 (.string y.wd) rfl ⟨oy.k,oy.v,h.ok.wt,h.ok.ti,oy.se,oy.wd⟩;have h4:=h3.set (x':=⟨y.k,y.se,y.v,y.wd,y.wt,x.tm,x.ti⟩) 4 (.int .u64 y.wt) rfl ⟨oy.k,oy.v,oy.wt,h.ok.ti,oy.se,oy.wd⟩;have h5:=h4.set (x':=⟨y.k,y.se,y.v,y.wd,y.wt,y.tm,x.ti⟩) 5 (.bool y.tm) rfl ⟨oy.k,oy.v,oy.wt,h.ok.ti,oy.se,oy.wd⟩;have h6:=h5.set (x':=⟨y.k,y.se,y.v,y.wd,y.wt,y.tm,y.ti⟩) 6 (.int .i64 y.ti) rfl ⟨oy.k,oy.v,oy.wt,oy.ti,oy.se,oy.wd⟩;exact h6
theorem QkY (hc:Qbd W B ao ln) (h:Src W B ao ln cap s w) :
  Calls prog 82 #[.pointer (some ⟨s,0,none⟩)] w fun e w'=>Qnd W B ao ln cap s w e w':=by
 have HC:=Qaa hc;have hs:=Qcs h;have a0:Below w.heap.size w (w.alloc (.cells #[.int .i64 0,.string ⟨#[]⟩,.int .i64 0,.string ⟨#[]⟩,.int .u64 0,.bool false,.int .i64 0] 97)):=(ZZb _ _).alloc (ZZa _) _;have aj:=Qaa (QaK h a0);have ag:=Qaa (ZZk w (.cells #[.int .i64 0,.string ⟨#[]⟩,.int .i64 0,.string ⟨#[]⟩,.int .u64 0,.bool false,.int .i64 0] 97));have an:Hid (w.grownBy (w.alloc (.cells #[.int .i64 0,.string ⟨#[]⟩,.int .i64 0,.string ⟨#[]⟩,.int .u64 0,.bool false,.int .i64 0] 97)) (some s)):=(⟨a0.os,a0.tape,a0.output,a0.size,fun j hj _=>a0.block j hj⟩:w.grownBy _ (some s));have ay:(w.alloc (.cells #[.int .i64 0,.string ⟨#[]⟩,.int .i64 0,.string ⟨#[]⟩,.int .u64 0,.bool false,.int .i64 0] 97)).heap.size=w.heap.size+1:=by simp
 clear hc h a0;go_enter func82,ntmps82;go_wp2_with fail;generalize w.alloc (.cells #[.int .i64 0,.string ⟨#[]⟩,.int .i64 0,.string ⟨#[]⟩,.int .u64 0,.bool false,.int .i64 0] 97)=W0 at aj ag an ay ⊢;refine (Qgn HC aj).mono ?_;rintro e w3 ⟨x,rfl,ox,aC,af⟩;have a3:Below w3.heap.size w3 (w3.alloc (.cells (QaV x) 97)):=(ZZb _ _).alloc (ZZa _) _;have z3:=af.size
 have HD:Hid (SD W B ao ln cap s w (w3.alloc (.cells (QaV x) 97)) w3.heap.size x):=by
  refine Qaa ⟨ZZk w3 _,?_,QaK aC a3,QaB (an.out.trans af) (a3.mono (by omega)),by omega,hs,ox⟩;exact (a3.block _ (by omega)).trans ((af.block _ (by omega) (fun e=>by cases e;omega)).trans ag)
 clear aC af a3 aj ag an ay ox;go_upto_block 0 with fail;generalize w3.alloc (.cells (QaV x) 97)=W4 at HD ⊢;generalize w3.heap.size=b at HD z3 ⊢;clear z3
 go_cut [3] (fun p w'=>p=.pointer (some ⟨b,0,none⟩)/\∃ x,Hid (SD W B ao ln cap s w w' b x))
 case first=>
  go_wp2_with fail
  go_loopw [4] (fun i wr=>∃ (k:Nat) (y:Sx),k<=5/\i=.int .i64 k/\Hid (SD W B ao ln cap s w wr b y)) (fun i wr=>5 - (Go.RowKit.intOf i).toNat)
  case atStart=>exact ⟨0,x,by omega,rfl,HD⟩
  case round=>
   clear HD;obtain ⟨k,x,hk,rfl,HD⟩:=hrel;by_cases aH:k<5
   ·have al:(k:Int)<5:=by omega
    obtain ⟨x0,x1,x2,x3,x4,x5,x6⟩:=QaA HD.out.row;go_wp2_with fail;clear x0 x1 x2 x3 x4 x5 x6;refine (Qcl x.k x.se x.v x.wd x.wt x.tm x.ti HD.out.ok.se HD.out.ok.wd).mono ?_;rintro e w5 ⟨rfl,ax⟩;have ap:=Qaa (HD.out.past ax);clear ax HD
    cases hB:QbB x.k x.se x.v x.wd x.wt x.tm x.ti with
    | true=>
     go_wp2;go_meet;exact ⟨rfl,x,ap⟩
    | false=>
     go_wp2_with fail;refine (Qgn HC ap.out.src).mono ?_;rintro e w6 ⟨y,rfl,oy,aB,aw⟩;have ai:=Qaa (ap.out.step aB aw);have aF:=Qaa (ai.out.set7 oy);clear aB aw;obtain ⟨x0,x1,x2,x3,x4,x5,x6⟩:=QaA ai.out.row;obtain ⟨f0,f1,f2,f3,f4,f5,f6⟩:=fA7 ai.out.row;go_wp2;go_roundw
     case rel=>exact ⟨k+1,y,by omega,by go_num,aF⟩
     case measure=>simp [zI];omega
   ·have al:¬ ((k:Int)<5):=by omega
    go_wp2;go_meet;exact ⟨rfl,x,HD⟩
 case rest=>
  clear HD;obtain ⟨rfl,x,HD⟩:=hcut;obtain ⟨w7,aq⟩:∃ w7,wc=w7:=⟨_,rfl⟩;rw [aq] at HD ⊢;clear aq;go_wp2_with fail;refine (QeX HC HD.out.src 12 (by omega)).mono ?_;rintro e w8 ⟨bb,rfl,az,ar⟩;have aa:=Qaa (HD.out.step az ar);clear az ar HD
  cases bb with
  | true=>
   have HD:=aa;clear aa;obtain ⟨x0,x1,x2,x3,x4,x5,x6⟩:=QaA HD.out.row;obtain ⟨z0,z1,z2,z3,z4,z5,z6⟩:=cA7 HD.out.res;obtain ⟨f0,f1,f2,f3,f4,f5,f6⟩:=fA7 HD.out.res;have ad:¬ b=w.heap.size:=by have:=HD.out.lb;omega
   go_wp2;refine bodyPost_ret (v:=.agg (QaV x)) (by simp [results,results82,go_sem,z0,z1,z2,z3,z4,z5,z6]) rfl ⟨x,rfl,HD.out.ok,?_,?_⟩
   ·refine Qbo (K:=w.heap.size) HD.out.src ?_ hs
    repeat (refine Below.setCell ?_ (by simp) _)
    exact ZZb _ _
   ·refine QaB HD.out.gr ?_
    repeat (refine Below.setCell ?_ (by simp) _)
    exact ZZb _ _
  | false=>
   obtain ⟨kd,aE⟩:∃ kd:Int,1+(x.se.size:Int) % 4=kd:=⟨_,rfl⟩;have aL:1<=kd/\kd<=4:=by omega
   have aJ:IntKind.i64.wrap (1+(x.se.size:Int) % 4)=kd:=by rw [aE];exact ZZi _ ⟨by omega,by omega⟩
   have am:=aa.out.ok.se;unfold maxLen at am;obtain ⟨x0,x1,x2,x3,x4,x5,x6⟩:=QaA aa.out.row;by_cases ae:x.k=kd
   ·have ak:(x.k == kd)=true:=by simp [ae]
    clear x0 x1 x2 x3 x4 x5 x6;have HD:=aa;clear aa ae;obtain ⟨x0,x1,x2,x3,x4,x5,x6⟩:=QaA HD.out.row;obtain ⟨z0,z1,z2,z3,z4,z5,z6⟩:=cA7 HD.out.res;obtain ⟨f0,f1,f2,f3,f4,f5,f6⟩:=fA7 HD.out.res;have ad:¬ b=w.heap.size:=by have:=HD.out.lb;omega
    go_wp2;refine bodyPost_ret (v:=.agg (QaV x)) (by simp [results,results82,go_sem,z0,z1,z2,z3,z4,z5,z6]) rfl ⟨x,rfl,HD.out.ok,?_,?_⟩
    ·refine Qbo (K:=w.heap.size) HD.out.src ?_ hs
     repeat (refine Below.setCell ?_ (by simp) _)
     exact ZZb _ _
    ·refine QaB HD.out.gr ?_
     repeat (refine Below.setCell ?_ (by simp) _)
     exact ZZb _ _
   ·have ak:(x.k == kd)=false:=ZZf.2 ae
    clear ae;clear x0 x1 x2 x3 x4 x5 x6;obtain ⟨x0,x1,x2,x3,x4,x5,x6⟩:=QaA aa.out.row;obtain ⟨f0,f1,f2,f3,f4,f5,f6⟩:=fA7 aa.out.row;have i0:I64 kd:=Qb8 (by omega) (by omega);by_cases h4:kd=4
    ·subst h4
     go_wp2_with fail;clear x0 x1 x2 x3 x4 x5 x6 f0 f1 f2 f3 f4 f5 f6;have ah:=Qaa (((aa.out.set (x':=⟨4,x.se,x.v,x.wd,x.wt,x.tm,x.ti⟩) 0 (.int .i64 4) rfl ⟨i0,aa.out.ok.v,aa.out.ok.wt,aa.out.ok.ti,aa.out.ok.se,aa.out.ok.wd⟩).set (x':=⟨4,x.se,x.v,⟨#[]⟩,x.wt,x.tm,x.ti⟩) 3 (.string ⟨#[]⟩) rfl ⟨i0,aa.out.ok.v,aa.out.ok.wt,aa.out.ok.ti,aa.out.ok.se,(by show (0:Nat)<=_;omega)⟩).set (x':=⟨4,x.se,0,⟨#[]⟩,x.wt,x.tm,x.ti⟩) 2 (.int .i64 0) rfl ⟨i0,(show I64 (0:Int) from Qb8 (by omega) (by omega)),aa.out.ok.wt,aa.out.ok.ti,aa.out.ok.se,(by show (0:Nat)<=_;omega)⟩);clear aa;refine (c_n HC ah.out.src 5 (by omega)).mono ?_;rintro e w9 ⟨v9,rfl,a9,c9,_,av,au⟩;have c9:=c9 (by omega);have aA:=Qaa (ah.out.step av au);clear av au ah;obtain ⟨m9,rfl⟩:∃ m:Nat,v9=(m:Int):=⟨v9.toNat,by omega⟩;go_wp2_with fail;refine (c_decT m9 (by omega) _).mono ?_;rintro e aD ⟨u,rfl,hu,ac⟩;have ab:=Qaa (aA.out.past ac);clear ac aA;have aG:(({ data:=#[119] }:ByteArray) ++ u).size<=31:=by rw [ByteArray.size_append];show 1+u.size<=31;omega
     obtain ⟨x0,x1,x2,x3,x4,x5,x6⟩:=QaA ab.out.row;obtain ⟨f0,f1,f2,f3,f4,f5,f6⟩:=fA7 ab.out.row;go_upto_region 17 with fail;clear x0 x1 x2 x3 x4 x5 x6 f0 f1 f2 f3 f4 f5 f6;have HD:=Qaa ((ab.out.set (x':=⟨4,x.se,0,{ data:=#[119] } ++ u,x.wt,x.tm,x.ti⟩) 3 (.string ({ data:=#[119] } ++ u)) rfl ⟨i0,ab.out.ok.v,ab.out.ok.wt,ab.out.ok.ti,ab.out.ok.se,(by show (({ data:=#[119] }:ByteArray) ++ u).size<=_;unfold maxLen;omega)⟩).set (x':=⟨4,x.se,0,{ data:=#[119] } ++ u,1,x.tm,x.ti⟩) 4 (.int .u64 1) rfl ⟨i0,ab.out.ok.v,(show U64 (1:Int) by unfold U64;omega),ab.out.ok.ti,ab.out.ok.se,(by show (({ data:=#[119] }:ByteArray) ++ u).size<=_;unfold maxLen;omega)⟩);clear ab;generalize ((aD.setCell ⟨b,3,none⟩ (.string ({ data:=#[119] } ++ u))).setCell ⟨b,4,none⟩ (.int .u64 1))=wz at HD ⊢;generalize (⟨4,x.se,0,{ data:=#[119] } ++ u,1,x.tm,x.ti⟩:Sx)=y at HD;obtain ⟨x0,x1,x2,x3,x4,x5,x6⟩:=QaA HD.out.row;obtain ⟨z0,z1,z2,z3,z4,z5,z6⟩:=cA7 HD.out.res;obtain ⟨f0,f1,f2,f3,f4,f5,f6⟩:=fA7 HD.out.res;have ad:¬ b=w.heap.size:=by have:=HD.out.lb;omega
     go_wp2;refine bodyPost_ret (v:=.agg (QaV y)) (by simp [results,results82,go_sem,z0,z1,z2,z3,z4,z5,z6]) rfl ⟨y,rfl,HD.out.ok,?_,?_⟩
     ·refine Qbo (K:=w.heap.size) HD.out.src ?_ hs
      repeat (refine Below.setCell ?_ (by simp) _)
      exact ZZb _ _
     ·refine QaB HD.out.gr ?_
      repeat (refine Below.setCell ?_ (by simp) _)
      exact ZZb _ _
    ·have aI:(kd == 4)=false:=ZZf.2 h4
     by_cases h2:kd=2
     ·subst h2
      clear h4;go_upto_region 17 with fail;clear x0 x1 x2 x3 x4 x5 x6 f0 f1 f2 f3 f4 f5 f6;have HD:=Qaa (((aa.out.set (x':=⟨2,x.se,x.v,x.wd,x.wt,x.tm,x.ti⟩) 0 (.int .i64 2) rfl ⟨i0,aa.out.ok.v,aa.out.ok.wt,aa.out.ok.ti,aa.out.ok.se,aa.out.ok.wd⟩).set (x':=⟨2,x.se,x.v,⟨#[]⟩,x.wt,x.tm,x.ti⟩) 3 (.string ⟨#[]⟩) rfl ⟨i0,aa.out.ok.v,aa.out.ok.wt,aa.out.ok.ti,aa.out.ok.se,(by show (0:Nat)<=_;omega)⟩).set (x':=⟨2,x.se,x.v,⟨#[]⟩,1,x.tm,x.ti⟩) 4 (.int .u64 1) rfl ⟨i0,aa.out.ok.v,(show U64 (1:Int) by unfold U64;omega),aa.out.ok.ti,aa.out.ok.se,(by show (0:Nat)<=_;omega)⟩);clear aa;generalize (((w8.setCell ⟨b,0,none⟩ (.int .i64 2)).setCell ⟨b,3,none⟩ (.string ⟨#[]⟩)).setCell ⟨b,4,none⟩ (.int .u64 1))=wz at HD ⊢;generalize (⟨2,x.se,x.v,⟨#[]⟩,1,x.tm,x.ti⟩:Sx)=y at HD;obtain ⟨x0,x1,x2,x3,x4,x5,x6⟩:=QaA HD.out.row;obtain ⟨z0,z1,z2,z3,z4,z5,z6⟩:=cA7 HD.out.res;obtain ⟨f0,f1,f2,f3,f4,f5,f6⟩:=fA7 HD.out.res;have ad:¬ b=w.heap.size:=by have:=HD.out.lb;omega
      go_wp2;refine bodyPost_ret (v:=.agg (QaV y)) (by simp [results,results82,go_sem,z0,z1,z2,z3,z4,z5,z6]) rfl ⟨y,rfl,HD.out.ok,?_,?_⟩
      ·refine Qbo (K:=w.heap.size) HD.out.src ?_ hs
       repeat (refine Below.setCell ?_ (by simp) _)
       exact ZZb _ _
      ·refine QaB HD.out.gr ?_
       repeat (refine Below.setCell ?_ (by simp) _)
       exact ZZb _ _
     ·have aK:(kd == 2)=false:=ZZf.2 h2
      clear h4 h2;go_upto_region 17 with fail;clear x0 x1 x2 x3 x4 x5 x6 f0 f1 f2 f3 f4 f5 f6;have HD:=Qaa ((aa.out.set (x':=⟨kd,x.se,x.v,x.wd,x.wt,x.tm,x.ti⟩) 0 (.int .i64 kd) rfl ⟨i0,aa.out.ok.v,aa.out.ok.wt,aa.out.ok.ti,aa.out.ok.se,aa.out.ok.wd⟩).set (x':=⟨kd,x.se,x.v,⟨#[]⟩,x.wt,x.tm,x.ti⟩) 3 (.string ⟨#[]⟩) rfl ⟨i0,aa.out.ok.v,aa.out.ok.wt,aa.out.ok.ti,aa.out.ok.se,(by show (0:Nat)<=_;omega)⟩);clear aa;generalize ((w8.setCell ⟨b,0,none⟩ (.int .i64 kd)).setCell ⟨b,3,none⟩ (.string ⟨#[]⟩))=wz at HD ⊢;generalize (⟨kd,x.se,x.v,⟨#[]⟩,x.wt,x.tm,x.ti⟩:Sx)=y at HD;obtain ⟨x0,x1,x2,x3,x4,x5,x6⟩:=QaA HD.out.row;obtain ⟨z0,z1,z2,z3,z4,z5,z6⟩:=cA7 HD.out.res;obtain ⟨f0,f1,f2,f3,f4,f5,f6⟩:=fA7 HD.out.res;have ad:¬ b=w.heap.size:=by have:=HD.out.lb;omega
      go_wp2;refine bodyPost_ret (v:=.agg (QaV y)) (by simp [results,results82,go_sem,z0,z1,z2,z3,z4,z5,z6]) rfl ⟨y,rfl,HD.out.ok,?_,?_⟩
      ·refine Qbo (K:=w.heap.size) HD.out.src ?_ hs
       repeat (refine Below.setCell ?_ (by simp) _)
       exact ZZb _ _
      ·refine QaB HD.out.gr ?_
       repeat (refine Below.setCell ?_ (by simp) _)
       exact ZZb _ _
end
variable {L:List ByteArray}
section
theorem Qs0 (h:Src W B ao ln cap s w) (hb:Below K w w') (hs:s<K):Src W B ao ln cap s w':=by
 obtain ⟨a,m,z,hk,h1,h2⟩:=h.blk;exact ⟨h.bel.trans (hb.mono (Nat.le_trans h.hB (Nat.le_of_lt hs))),h.hB,a,m,z,by rw [hb.block s hs];exact hk,h1,h2⟩
theorem QoL (h:w.grownBy w1 r) (hb:Below w.heap.size w1 w2):w.grownBy w2 r:=
 ⟨hb.os.trans h.os,hb.tape.trans h.tape,hb.output.trans h.output,Nat.le_trans h.size hb.size,fun k hk hne=>by rw [hb.block k hk];exact h.block k hk hne⟩
theorem Qpl {z n':Nat} {xs xs':List Value} (h:w.ownsRow B T z v n xs) (e:n=n') (e2:xs=xs'):w.ownsRow B T z v n' xs':=by subst e e2;exact h
structure Mem (W:World) (B:Nat) (ao:Option Addr) (ln cap s:Nat) (w wr:World) (v:Value) (L:List ByteArray):Prop where
 own:wr.ownsRow w.heap.size 9 1 v L.length (L.map Value.string)
 sz:∀ u∈L,u.size<=10
 src:Src W B ao ln cap s wr
 gr:w.grownBy wr (some s)
theorem Mem.ne (h:Mem W B ao ln cap s w wr v L) (hs:s<w.heap.size):v.ownBlock=none∨v.ownBlock≠some s:=by
 cases e:v.ownBlock with
 | none=>exact .inl rfl
 | some k=>
  right
  have:=(h.own.lt k e).1;intro q;cases q;omega
theorem Mem.call (h:Mem W B ao ln cap s w wr v L) (hs:s<w.heap.size) (hS:Src W B ao ln cap s w2) (hg:wr.grownBy w2 (some s)):Mem W B ao ln cap s w w2 v L:=
 ⟨h.own.kept hg (h.ne hs),h.sz,hS,h.gr.trans hg⟩
theorem Mem.put (h:Mem W B ao ln cap s w wr v L) (hs:s<w.heap.size) (hu:u.size<=10)
  (ho:w2.ownsRow w.heap.size 9 1 v' (L.length+1) (L.map Value.string ++ [.string u])) (hb:Below w.heap.size wr w2):Mem W B ao ln cap s w w2 v' (L ++ [u]):=
 ⟨Qpl ho (by simp) (by simp),fun x hx=>by rcases List.mem_append.1 hx with h1 | h1;exact h.sz x h1;simp at h1;subst h1;exact hu,Qs0 h.src hb hs,QoL h.gr hb⟩
theorem QhL {g c:Nat} (h:w.ownsRow B 9 1 (.slice (some ⟨g,0,none⟩) n c) n (L.map Value.string)) (hu:L[0]?=some u):w.cell? ⟨g,0,none⟩=some (.string u):=by
 have hl:=(ZZd.1 hu).1;have hn:=h.1;rw [List.length_map] at hn;rw [h.cellAt 0 (by omega)];simp [hu]
theorem Qj2 (hc:Qbd W B ao ln) (h:Src W B ao ln cap s w) :
  Calls prog 52 #[.pointer (some ⟨s,0,none⟩)] w fun e w'=>∃ v L,e=.returned v/\L.length<=14/\Mem W B ao ln cap s w w' v L:=by
 obtain ⟨i0,hi,ah,aj,ai⟩:=info_parts Qf2;have hs:=Qcs h;have HS:=Qaa h;clear h;go_enter func52,ntmps52;go_wp2
 go_loopw [3,4] (fun v i wr=>∃ (k:Nat) (L:List ByteArray),k<=6/\i=.int .i64 k/\L.length<=k/\Mem W B ao ln cap s w wr v L) (fun v i wr=>6 - (Go.RowKit.intOf i).toNat)
 case atStart=>exact ⟨0,[],Nat.zero_le _,rfl,Nat.le_refl _,⟨World.ownsRow_made w #[] 0 (Nat.le_refl _) (Nat.zero_le _) rfl,fun u hu=>by simp at hu,QaK HS ((Below.refl _ _).alloc (Nat.le_refl _) _),World.grownBy_alloc _ _ _⟩⟩
 case round=>
  obtain ⟨k,L,hk,rfl,aY,hM⟩:=hrel;have HM:=Qaa hM;have aK:=hM.gr.size;clear hM;by_cases aQ:k<6
  ·go_wp2_with (first
    | (go_at_call 22;refine (QeX hc HM.out.src _ (by omega)).mono ?_;rintro e w2 ⟨bb,rfl,aL,aE⟩;have aC:=Qaa (HM.out.call hs aL aE);have aR:=aE.size;obtain ⟨u,hu,aN⟩:=QfG (w:=w2) (m:=10) (t:=9) (cs:=#[.string ⟨#[97]⟩,.string ⟨#[98]⟩,.string ⟨#[110,49]⟩,.string ⟨#[110,50]⟩,.string ⟨#[115,104,97,114,100]⟩,.string ⟨#[122]⟩]) (by decide) k (by simpa using aQ);clear aL aE)
    | (at_builtin;refine wpList_append_own _ rfl (.tmp 13) (.tmp 18) 57 rfl w.heap.size 9 i0 (.string ByteArray.empty) 1 16 underlying57 hi ah aj ai rfl (by decide) _ _ _ rfl ((aC.out.own.alloc _).alloc _) ⟨w2.heap.size+1,0,none⟩ 1 1 [.string u] rfl rfl (Qau (cs:=#[.string u]) (by simp)) (fun x hx=>by simp at hx;subst hx;rfl) (by unfold maxLen;omega) (by omega) (by simp;omega) ?_;intro v3 w3 aa ac ad;have aq:=Qaa (aC.out.put hs aN aa ((((Below.refl w.heap.size w2).alloc (by omega) _).alloc (by simp;omega) _).grown ac (by simp;omega) (fun j hj=>(aC.out.own.lt j hj).1)));have ad:=Qaa ad;clear aa ac))
   ·go_roundw
    case rel=>exact ⟨k+1,L ++ [u],by omega,by go_num,by simp;omega,aq⟩
    case measure=>simp [zI];omega
   ·go_roundw
    case rel=>exact ⟨k+1,L,by omega,by go_num,by omega,aC⟩
    case measure=>simp [zI];omega
  ·obtain ⟨lo,lc,hv⟩:=Qan HM.out.own
   subst hv
   go_wp2_with (first
    | (at_builtin;refine wpList_append_own _ rfl (.tmp 23) (.tmp 24) 57 rfl w.heap.size 9 i0 (.string ByteArray.empty) 1 16 underlying57 hi ah aj ai rfl (by decide) _ _ _ rfl (HM.out.own.alloc _) ⟨wr.heap.size,0,none⟩ 1 1 [.string ⟨#[111,110,108,121]⟩] rfl rfl (Qau (cs:=#[.string ⟨#[111,110,108,121]⟩]) rfl) (fun x hx=>by simp at hx;subst hx;rfl) (by unfold maxLen;omega) (by omega) (by simp;omega) ?_;intro v3 w3 aa ac ad;have aq:=Qaa (HM.out.put hs (by decide) aa (((Below.refl w.heap.size wr).alloc (by omega) _).grown ac (by simp;omega) (fun j hj=>(HM.out.own.lt j hj).1)));clear aa ac ad))
   ·obtain ⟨g4,c4,e4⟩:=Qb1 aq.out.own (by simp)
    obtain ⟨L4,af⟩:∃ L4,L4=L ++ [(⟨#[111,110,108,121]⟩:ByteArray)]:=⟨_,rfl⟩;rw [<- af] at e4 aq;subst e4;have aB:1<=L4.length:=by rw [af];simp
    have aU:L4.length<=7:=by rw [af];simp;omega
    have aS:=aq.out.gr.size;clear af aK;obtain ⟨u0,au⟩:∃ u0,L4[0]?=some u0:=⟨_,ZZe (by omega)⟩;have aA:=Qaa au;clear au
    go_wp2_with (first
     | (go_at_call 22;refine (QeX hc aq.out.src _ (by omega)).mono ?_;rintro e w5 ⟨bb,rfl,ar,al⟩;have am:=Qaa (aq.out.call hs ar al);have aW:=al.size;clear ar al)
     | (go_at_call 24;refine (c_n hc am.out.src _ (by omega)).mono ?_;rintro e w6 ⟨nv,rfl,n0,n1,_,az,ap⟩;have ab:=Qaa (am.out.call hs az ap);have aV:=ap.size;have aJ:=QhL ab.out.own aA;clear az ap;have n1:=n1 (by omega);have aI:nv=0∨nv=1∨nv=2∨nv=3:=(by omega);clear n0 n1;rcases aI with rfl | rfl | rfl | rfl)
     | (at_builtin;refine wpList_append_own _ rfl (.tmp 49) (.tmp 53) 57 rfl w.heap.size 9 i0 (.string ByteArray.empty) 1 16 underlying57 hi ah aj ai rfl (by decide) _ _ _ rfl (ab.out.own.alloc _) ⟨w6.heap.size,0,none⟩ 1 1 [.string u0] rfl rfl (Qau (cs:=#[.string u0]) rfl) (fun x hx=>by simp at hx;subst hx;rfl) (by unfold maxLen;omega) (by omega) (by simp;omega) ?_;intro v3 w3 aa ac ad;have ay:=Qaa (ab.out.put hs (ab.out.sz u0 (List.mem_of_getElem? aA)) aa (((Below.refl w.heap.size w6).alloc (by omega) _).grown ac (by simp;omega) (fun j hj=>(ab.out.own.lt j hj).1)));clear aa ac ad)
     | (at_builtin;refine wpList_append_own _ rfl (.tmp 57) (.tmp 58) 57 rfl w.heap.size 9 i0 (.string ByteArray.empty) 1 16 underlying57 hi ah aj ai rfl (by decide) _ _ _ rfl (ab.out.own.alloc _) ⟨w6.heap.size,0,none⟩ 1 1 [.string ⟨#[126]⟩] rfl rfl (Qau (cs:=#[.string ⟨#[126]⟩]) rfl) (fun x hx=>by simp at hx;subst hx;rfl) (by unfold maxLen;omega) (by omega) (by simp;omega) ?_;intro v3 w3 aa ac ad;have ay:=Qaa (ab.out.put hs (by decide) aa (((Below.refl w.heap.size w6).alloc (by omega) _).grown ac (by simp;omega) (fun j hj=>(ab.out.own.lt j hj).1)));clear aa ac ad))
    all_goals try (go_ret;first
     | exact ⟨_,_,rfl,by simp;omega,ay⟩
     | exact ⟨_,_,rfl,by omega,am⟩
     | exact ⟨.slice none 0 0,[],rfl,by simp,⟨World.ownsRow_nil _ _ _ _,fun u hu=>by simp at hu,ab.out.src,ab.out.gr⟩⟩)
    go_loopw [3,5] (fun v i wr=>∃ (k:Nat) (L5:List ByteArray) (g c:Nat),i=.int .i64 k/\k<=L5.length/\1<=L5.length/\L5.length<=13/\v=.slice (some ⟨g,0,none⟩) L5.length c/\Mem W B ao ln cap s w wr v L5) (fun v i wr=>14 - (Go.RowKit.intOf i).toNat)
    case atStart=>exact ⟨0,L4,_,_,rfl,ZZj _,aB,by omega,rfl,ab⟩
    case round=>
     obtain ⟨k,L5,g5,c5,rfl,aO,aP,aG,rfl,hM⟩:=hrel;have aw:=Qaa hM;have aM:=hM.gr.size;clear hM;obtain ⟨Y,hY⟩:∃ Y,strOfNums [97+(k:Int)]=Y:=⟨_,rfl⟩;have an:Y.size=1:=by rw [<- hY];rfl
     have ew:IntKind.u8.wrap (97+(k:Int))=97+(k:Int):=IntWalk.u8_in _ ⟨by omega,by omega⟩;have aF:Op.stringOp .add ⟨#[122,122]⟩ Y=pure (.string ((⟨#[122,122]⟩:ByteArray) ++ Y)):=Qix (by rw [an];decide);have hZ:((⟨#[122,122]⟩:ByteArray) ++ Y).size<=10:=by rw [ByteArray.size_append,an];decide
     have aD:=fun W=>Qh1 W (97+(k:Int));simp only [hY] at aD;have HZ:=Qaa hZ;clear hY hZ an
     go_wp2_with (first
      | (go_at_call 24;refine (c_n hc aw.out.src _ (by omega)).mono ?_;rintro e w9 ⟨aH,rfl,m0,m1,_,ax,ak⟩;have m1:=m1 (by omega);have ag:=Qaa (aw.out.call hs ax ak);have aX:=ak.size;clear ax ak)
      | (at_builtin;refine wpList_append_own _ rfl (.tmp 38) (.tmp 45) 57 rfl w.heap.size 9 i0 (.string ByteArray.empty) 1 16 underlying57 hi ah aj ai rfl (by decide) _ _ _ rfl ((ag.out.own.alloc _).alloc _) ⟨w9.heap.size+1,0,none⟩ 1 1 [.string (⟨#[122,122]⟩ ++ Y)] rfl rfl (Qau (cs:=#[.string (⟨#[122,122]⟩ ++ Y)]) (by simp)) (fun x hx=>by simp at hx;subst hx;rfl) (by unfold maxLen;omega) (by omega) (by simp;omega) ?_;intro v3 w3 aa ac ad;have ae:=Qaa (ag.out.put hs HZ aa ((((Below.refl w.heap.size w9).alloc (by omega) _).alloc (by simp;omega) _).grown ac (by simp;omega) (fun j hj=>(ag.out.own.lt j hj).1)));clear aa ac ad))
     ·obtain ⟨g7,c7,e7⟩:=Qb1 ae.out.own (by simp)
      subst e7;have aT:(L5.length:Int)<11+aH:=by assumption
      go_roundw
      case rel=>exact ⟨k+1,L5 ++ [(⟨#[122,122]⟩:ByteArray) ++ Y],g7,c7,by go_num,by simp;omega,by simp,by simp;omega,rfl,ae⟩
      case measure=>simp [zI];omega
     ·go_ret
      exact ⟨_,_,rfl,by omega,ag⟩
   ·have av:((L.length:Int) == 0)=false:=by assumption
    have aB:1<=L.length:=by have:=ZZf.1 av;omega
    obtain ⟨g4,c4,e4⟩:=Qb1 HM.out.own (by omega)
    cases e4
    obtain ⟨L4,af⟩:∃ L4,L4=L:=⟨_,rfl⟩;rw [<- af] at HM aB;have aU:L4.length<=7:=by rw [af];omega
    have aS:=HM.out.gr.size;rw [<- af];clear af aK av;obtain ⟨u0,au⟩:∃ u0,L4[0]?=some u0:=⟨_,ZZe (by omega)⟩;have aA:=Qaa au;clear au
    go_wp2_with (first
     | (go_at_call 22;refine (QeX hc HM.out.src _ (by omega)).mono ?_;rintro e w5 ⟨bb,rfl,ar,al⟩;have am:=Qaa (HM.out.call hs ar al);have aW:=al.size;clear ar al)
     | (go_at_call 24;refine (c_n hc am.out.src _ (by omega)).mono ?_;rintro e w6 ⟨nv,rfl,n0,n1,_,az,ap⟩;have ab:=Qaa (am.out.call hs az ap);have aV:=ap.size;have aJ:=QhL ab.out.own aA;clear az ap;have n1:=n1 (by omega);have aI:nv=0∨nv=1∨nv=2∨nv=3:=(by omega);clear n0 n1;rcases aI with rfl | rfl | rfl | rfl)
     | (at_builtin;refine wpList_append_own _ rfl (.tmp 49) (.tmp 53) 57 rfl w.heap.size 9 i0 (.string ByteArray.empty) 1 16 underlying57 hi ah aj ai rfl (by decide) _ _ _ rfl (ab.out.own.alloc _) ⟨w6.heap.size,0,none⟩ 1 1 [.string u0] rfl rfl (Qau (cs:=#[.string u0]) rfl) (fun x hx=>by simp at hx;subst hx;rfl) (by unfold maxLen;omega) (by omega) (by simp;omega) ?_;intro v3 w3 aa ac ad;have ay:=Qaa (ab.out.put hs (ab.out.sz u0 (List.mem_of_getElem? aA)) aa (((Below.refl w.heap.size w6).alloc (by omega) _).grown ac (by simp;omega) (fun j hj=>(ab.out.own.lt j hj).1)));clear aa ac ad)
     | (at_builtin;refine wpList_append_own _ rfl (.tmp 57) (.tmp 58) 57 rfl w.heap.size 9 i0 (.string ByteArray.empty) 1 16 underlying57 hi ah aj ai rfl (by decide) _ _ _ rfl (ab.out.own.alloc _) ⟨w6.heap.size,0,none⟩ 1 1 [.string ⟨#[126]⟩] rfl rfl (Qau (cs:=#[.string ⟨#[126]⟩]) rfl) (fun x hx=>by simp at hx;subst hx;rfl) (by unfold maxLen;omega) (by omega) (by simp;omega) ?_;intro v3 w3 aa ac ad;have ay:=Qaa (ab.out.put hs (by decide) aa (((Below.refl w.heap.size w6).alloc (by omega) _).grown ac (by simp;omega) (fun j hj=>(ab.out.own.lt j hj).1)));clear aa ac ad))
    all_goals try (go_ret;first
     | exact ⟨_,_,rfl,by simp;omega,ay⟩
     | exact ⟨_,_,rfl,by omega,am⟩
     | exact ⟨.slice none 0 0,[],rfl,by simp,⟨World.ownsRow_nil _ _ _ _,fun u hu=>by simp at hu,ab.out.src,ab.out.gr⟩⟩)
    go_loopw [3,5] (fun v i wr=>∃ (k:Nat) (L5:List ByteArray) (g c:Nat),i=.int .i64 k/\k<=L5.length/\1<=L5.length/\L5.length<=13/\v=.slice (some ⟨g,0,none⟩) L5.length c/\Mem W B ao ln cap s w wr v L5) (fun v i wr=>14 - (Go.RowKit.intOf i).toNat)
    case atStart=>exact ⟨0,L4,_,_,rfl,ZZj _,aB,by omega,rfl,ab⟩
    case round=>
     obtain ⟨k,L5,g5,c5,rfl,aO,aP,aG,rfl,hM⟩:=hrel;have aw:=Qaa hM;have aM:=hM.gr.size;clear hM;obtain ⟨Y,hY⟩:∃ Y,strOfNums [97+(k:Int)]=Y:=⟨_,rfl⟩;have an:Y.size=1:=by rw [<- hY];rfl
     have ew:IntKind.u8.wrap (97+(k:Int))=97+(k:Int):=IntWalk.u8_in _ ⟨by omega,by omega⟩;have aF:Op.stringOp .add ⟨#[122,122]⟩ Y=pure (.string ((⟨#[122,122]⟩:ByteArray) ++ Y)):=Qix (by rw [an];decide);have hZ:((⟨#[122,122]⟩:ByteArray) ++ Y).size<=10:=by rw [ByteArray.size_append,an];decide
     have aD:=fun W=>Qh1 W (97+(k:Int));simp only [hY] at aD;have HZ:=Qaa hZ;clear hY hZ an
     go_wp2_with (first
      | (go_at_call 24;refine (c_n hc aw.out.src _ (by omega)).mono ?_;rintro e w9 ⟨aH,rfl,m0,m1,_,ax,ak⟩;have m1:=m1 (by omega);have ag:=Qaa (aw.out.call hs ax ak);have aX:=ak.size;clear ax ak)
      | (at_builtin;refine wpList_append_own _ rfl (.tmp 38) (.tmp 45) 57 rfl w.heap.size 9 i0 (.string ByteArray.empty) 1 16 underlying57 hi ah aj ai rfl (by decide) _ _ _ rfl ((ag.out.own.alloc _).alloc _) ⟨w9.heap.size+1,0,none⟩ 1 1 [.string (⟨#[122,122]⟩ ++ Y)] rfl rfl (Qau (cs:=#[.string (⟨#[122,122]⟩ ++ Y)]) (by simp)) (fun x hx=>by simp at hx;subst hx;rfl) (by unfold maxLen;omega) (by omega) (by simp;omega) ?_;intro v3 w3 aa ac ad;have ae:=Qaa (ag.out.put hs HZ aa ((((Below.refl w.heap.size w9).alloc (by omega) _).alloc (by simp;omega) _).grown ac (by simp;omega) (fun j hj=>(ag.out.own.lt j hj).1)));clear aa ac ad))
     ·obtain ⟨g7,c7,e7⟩:=Qb1 ae.out.own (by simp)
      subst e7;have aT:(L5.length:Int)<11+aH:=by assumption
      go_roundw
      case rel=>exact ⟨k+1,L5 ++ [(⟨#[122,122]⟩:ByteArray) ++ Y],g7,c7,by go_num,by simp;omega,by simp,by simp;omega,rfl,ae⟩
      case measure=>simp [zI];omega
     ·go_ret
      exact ⟨_,_,rfl,by omega,ag⟩
end
section
def lwF (w:World) (ao:Option Addr) (ln k:Nat) (m:Int):Int:=if ln=0 then 0 else match ao with
 | some a=>match w.cell? ⟨a.block,a.off+k % ln,none⟩ with
  | some (.int .u8 x)=>Int.tmod x m
  | _=>0
 | none=>0
theorem lwF_in (hc:Qbd w w.heap.size ao ln) (hm:0<m) (k:Nat):0<=lwF w ao ln k m/\lwF w ao ln k m<m:=by
 unfold lwF
 split
 ·omega
 ·rename_i h0
  obtain ⟨b,ac,rfl,ab,aa⟩:=hc.2 (by omega);obtain ⟨x,hx,x0,x1⟩:=aa (k % ln) (Nat.mod_lt _ (by omega));simp only [hx];exact ⟨Int.tmod_nonneg _ x0,Int.tmod_lt_of_pos _ hm⟩
theorem QsU (ao:Option Addr) (ln cap k:Nat) (m:Int) (hk:k<=1000) (hm:1<m) (hm9:m<=2000000000) (w w0:World) (hc:Qbd w0 w0.heap.size ao ln) (hb:Below w0.heap.size w0 w) :
  Calls prog 10 #[.slice ao ln cap,.int .i64 k,.int .i64 m] w fun e w'=>e=.returned (.int .i64 (lwF w0 ao ln k m))/\w'=w:=by
 have ah:=hc.1;rcases Nat.eq_zero_or_pos ln with h0 | h0
 ·subst h0
  have HE:Hid (0=lwF w0 ao 0 k m):=(rfl:0=lwF w0 ao 0 k m);clear hc hb;go_enter func10,ntmps10;go_wp2;go_ret;exact ⟨by rw [<- HE.out];rfl,rfl⟩
 ·obtain ⟨b,ab,rfl,ad,aa⟩:=hc.2 h0
  obtain ⟨r,hr⟩:∃ r,k % ln=r:=⟨_,rfl⟩;have ac:r<ln:=by rw [<- hr];exact Nat.mod_lt _ h0
  have er:Int.tmod (k:Int) (ln:Int)=(r:Int):=by rw [<- hr];rfl
  obtain ⟨x,hx,x0,x1⟩:=aa r ac
  have HE:Hid (Int.tmod x m=lwF w0 (some ⟨b,ab,none⟩) ln k m):=by
   refine (?_:Int.tmod x m=lwF w0 (some ⟨b,ab,none⟩) ln k m);unfold lwF;rw [if_neg (by omega)];simp only [hr,hx]
  have t0:0<=Int.tmod x m:=Int.tmod_nonneg _ x0;have t1:Int.tmod x m<m:=Int.tmod_lt_of_pos _ (by omega);have ew:IntKind.i64.wrap x=x:=ZZi _ ⟨by omega,by omega⟩;have ae:w.cell? ⟨b,ab+r,none⟩=some (.int .u8 x):=by rw [hb.cell (by exact ad)];exact hx
  have ag:((ln:Int) == 0)=false:=ZZf.2 (by omega);have af:((m:Int) == 0)=false:=ZZf.2 (by omega);obtain ⟨q,hq⟩:∃ q,Int.tmod x m=q:=⟨_,rfl⟩;rw [hq] at HE t0 t1;have wq:wrap64 q=q:=w64_id (by unfold I64;omega);clear hc hb aa hx hr;go_enter func10,ntmps10;go_wp2;go_ret;exact ⟨by rw [<- HE.out];rfl,rfl⟩
end
section
theorem QtW (ao:Option Addr) (ln cap k:Nat) (m:Int) (hk:k<=1000) (hm:0<m) (hm9:m<=2000000000) (w w0:World) (hc:Qbd w0 w0.heap.size ao ln) (hb:Below w0.heap.size w0 w) :
  Calls prog 10 #[.slice ao ln cap,.int .i64 k,.int .i64 m] w fun e w'=>∃ r:Nat,e=.returned (.int .i64 r)/\(r:Int)<m/\w'=w:=by
 by_cases h1:1<m
 ·refine (QsU ao ln cap k m hk h1 hm9 w w0 hc hb).mono ?_
  rintro e w' ⟨rfl,rfl⟩;obtain ⟨a,b⟩:=lwF_in hc hm k;exact ⟨(lwF w0 ao ln k m).toNat,by rw [Int.toNat_of_nonneg a],by omega,rfl⟩
 ·obtain rfl:m=1:=by omega
  clear hc hb;go_enter func10,ntmps10;go_wp2;go_ret;exact ⟨0,rfl,by omega,rfl⟩
end
end Go.Proofs.YtlejlgldgafljaaGreatDoor
