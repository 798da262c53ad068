/-
 Numbers in digits. Of no program's walk.
-/
import Derived.Test.YthpilcoklapooaaGreatDoorRows
import Derived.Test.YthpilcoklapooaaGreatDoorAJA
import Derived.Outline
import Derived.WalkKit
import Derived.PlainAid
import Derived.Lib.ItoaNum
import Derived.Lib.ItoaLen
import Derived.Test.YthpilcoklapooaaGreatDoorADA
import Derived.Test.YthpilcoklapooaaGreatDoorASC
import Derived.Deep.RegionHeld3
namespace Go.Proofs.YthpilcoklapooaaGreatDoor
set_option linter.unusedVariables false
set_option linter.unusedSimpArgs false
open Go.ChangeShapes Go.WideShapes Go.ChangeAt Go.RowKit Go.PlainAid
theorem dec_ten {n:Nat} (h:¬ n<10):Lib.decDigits n=Lib.decDigits (n / 10) ++ [UInt8.ofNat (48+n % 10)]:=by
 rw [Lib.decDigits,dif_neg h]
/-- What is still to be written is n, D stands behind it. -/
def DecR (N m:Nat) (D:List UInt8):Prop:=(m=0→D=Lib.decDigits N)∧(m≠0→Lib.decDigits m ++ D=Lib.decDigits N)
theorem decR_step {N m:Nat} {D:List UInt8} (h:DecR N m D) (hm:m≠0):DecR N (m / 10) (UInt8.ofNat (48+m % 10) :: D):=by
 have h2:=h.2 hm
 by_cases k:m<10
 ·rw [Lib.decDigits_one k] at h2
  refine ⟨fun _=>by rw [Nat.mod_eq_of_lt k];exact h2,fun h0=>absurd (Nat.div_eq_of_lt k) h0⟩
 ·rw [dec_ten k,List.append_assoc] at h2
  exact ⟨fun h0=>by omega,fun _=>h2⟩
theorem decR_len {N m:Nat} {D:List UInt8} (h:DecR N m D) (hN:(Lib.decDigits N).length≤21):D.length≤21:=by
 by_cases k:m=0
 ·rw [h.1 k];exact hN
 ·have:=congrArg List.length (h.2 k);simp at this;omega
theorem dec_len (N:Nat) (h:N≤9223372036854775807):(Lib.decDigits N).length≤21:=by
 have:=Lib.itoa_length_le (N:Int) (by omega) (by omega)
 have e:Lib.itoa (N:Int)=Lib.decDigits N:=by unfold Lib.itoa;rw [if_neg (by omega)];simp
 rw [e] at this;exact this
theorem ret_str {a b:ByteArray} (h:a=b):Ending.returned (.string a)=.returned (.string b):=by rw [h]
theorem str_cat (b:UInt8) (D:List UInt8):(⟨#[b]⟩:ByteArray) ++ ⟨D.toArray⟩=⟨(b :: D).toArray⟩:=by
 apply ByteArray.ext;rw [ByteArray.data_append];simp
/-
 The contract of spec.l01Dec: a number that is not negative in digits.
-/
set_option maxRecDepth 10000 in
set_option maxHeartbeats 1000000 in
theorem c_l01Dec_pos (N:Nat) (hN0:N≠0) (hN:N≤9223372036854775807) (w:World) :
  Calls Tryz.prog 116 #[.int .i64 N] w fun e w'=>e=.returned (.string ⟨(Lib.decDigits N).toArray⟩)∧Below w.heap.size w w':=by
 have hb0:((N:Int) == 0)=false:=beq_eq_false_iff_ne.2 (by omega)
 have hb1:decide ((N:Int)<0)=false:=decide_eq_false (by omega)
 go_enter Tryz.func116,Tryz.ntmps116
 go_wp2
 go_loopw [0,4,5] (fun n o d wr=>∃ (m:Nat) (D:List UInt8),m≤N∧n=.int .i64 m∧o=.string ⟨D.toArray⟩∧DecR N m D∧Below w.heap.size w wr) (fun n o d wr=>(Go.RowKit.intOf n).toNat)
 case atStart=>exact ⟨N,[],Nat.le_refl _,rfl,rfl,⟨fun h=>absurd h hN0,fun _=>by simp⟩,Below.refl _ _⟩
 case round=>
  obtain ⟨m,D,hm,rfl,rfl,hR,hbel⟩:=hrel
  by_cases k:m=0
  ·subst k
   have HR:Hid (DecR N 0 D):=hR
   clear hR
   go_wp2
   go_ret
   exact ⟨ret_str (by rw [HR.out.1 rfl]),hbel⟩
  ·obtain ⟨d,hd⟩:∃ d,d=m % 10:=⟨_,rfl⟩
   obtain ⟨q,hq⟩:∃ q,q=m / 10:=⟨_,rfl⟩
   have HR:Hid (DecR N q (UInt8.ofNat (48+d) :: D)):=by rw [hd,hq];exact decR_step hR k
   have hln:=decR_len hR (dec_len N hN)
   have e1:Int.tmod (m:Int) 10=(d:Int):=by rw [hd];rfl
   have e2:Int.tdiv (m:Int) 10=(q:Int):=by rw [hq];rfl
   have hk:((m:Int) != 0)=true:=by simp;omega
   have hd9:d<10:=by omega
   have hqm:q<m:=by omega
   have e3:decide ((d:Int)<0)=false:=decide_eq_false (by omega)
   have e4:IntKind.u8.wrap (48+(d:Int))=48+(d:Int):=IntWalk.u8_in _ ⟨by omega,by omega⟩
   obtain ⟨B,hB⟩:∃ B,B=strOfNums [48+(d:Int)]:=⟨_,rfl⟩
   have kc:=run_convert_bytes_arg (P:=Tryz.prog) (wr.alloc (.cells #[.int .u8 (48+(d:Int))] 5)) 22 5 Tryz.underlying22 Tryz.underlying5 wr.heap.size 0 1 1 [48+(d:Int)] rfl (fun i hi=>by
      obtain rfl:i=0:=by omega
      simp) 9 Tryz.underlying9
   rw [← hB] at kc
   have hB1:B.size=1:=by rw [hB];rfl
   have HB:Hid (B ++ ⟨D.toArray⟩=(⟨(UInt8.ofNat (48+d) :: D).toArray⟩:ByteArray)):=(by
    rw [hB,← str_cat];congr 1;:B ++ ⟨D.toArray⟩=(⟨(UInt8.ofNat (48+d) :: D).toArray⟩:ByteArray))
   have hD:(⟨D.toArray⟩:ByteArray).size=D.length:=rfl
   have HL:Hid (Below w.heap.size w wr):=hbel
   have hz:=hbel.size
   clear hR hd hq k hb0 hb1 hB hbel
   go_wp2
   go_roundw
   case rel=>exact ⟨q,UInt8.ofNat (48+d) :: D,by omega,rfl,by rw [HB.out],HR.out,HL.out.alloc (by omega) _⟩
   case measure=>simp [Go.RowKit.intOf];omega
end Go.Proofs.YthpilcoklapooaaGreatDoor
/-
 A drawn name with tags.
-/
namespace Go.Proofs.YthpilcoklapooaaGreatDoor
set_option linter.unusedVariables false
set_option linter.unusedSimpArgs false
open Go.ChangeShapes Go.WideShapes Go.ChangeAt Go.RowKit Go.PlainAid
set_option maxRecDepth 10000
/-- The tags drawn so far. -/
structure DL (W:World) (B:Nat) (ao:Option Addr) (ln cap s:Nat) (w wr:World) (v:Value) (L:List ByteArray):Prop where
 own:OwnT wr w.heap.size v L
 sz:∀ u∈L,u.size≤40
 src:Src W B ao ln cap s wr
 gr:w.grownBy wr (some s)
section
variable {W:World} {B ln cap s:Nat} {ao:Option Addr} {w wr:World} {v:Value} {L:List ByteArray}
theorem DL.step (h:DL W B ao ln cap s w wr v L) (hs:s<w.heap.size) {w1:World} (hS:Src W B ao ln cap s w1) (hg:wr.grownBy w1 (some s)):DL W B ao ln cap s w w1 v L:=by
 refine ⟨World.ownsRow.kept h.own hg ?_,h.sz,hS,h.gr.trans hg⟩
 cases e:v.ownBlock with
 | none=>exact .inl rfl
 | some k=>exact .inr (fun q=>by have:=(World.ownsRow.lt h.own k e).1;cases q;omega)
theorem DL.past (h:DL W B ao ln cap s w wr v L) (hs:s<w.heap.size) {w1:World} (hb:Below wr.heap.size wr w1):DL W B ao ln cap s w w1 v L:=
 h.step hs (src_past h.src hb) ⟨hb.os,hb.tape,hb.output,hb.size,fun j hj _=>hb.block j hj⟩
theorem DL.app (h:DL W B ao ln cap s w wr v L) (hs:s<w.heap.size) {w1:World} {v':Value} {u:ByteArray} (hu:u.size≤40) {n:Nat} (ho:w1.ownsRow w.heap.size 9 1 v' n (L.map Value.string ++ [.string u])) (hg:wr.grownBy w1 v.ownBlock):DL W B ao ln cap s w w1 v' (L ++ [u]):=by
 have bel:Below w.heap.size wr w1:=⟨hg.os,hg.tape,hg.output,hg.size,fun j hj=>hg.block j (by have:=h.gr.size;omega) (fun e=>by have:=(World.ownsRow.lt h.own j e.symm).1;omega)⟩
 refine ⟨OwnT.of ho (by simp),fun x hx=>?_,?_,?_⟩
 ·rcases List.mem_append.1 hx with hx | hx
  ·exact h.sz x hx
  ·obtain rfl:=List.mem_singleton.1 hx;exact hu
 ·obtain ⟨x,m,y,h0,h1,h2⟩:=h.src.blk
  exact ⟨h.src.bel.trans (bel.mono (Nat.le_trans h.src.hB (Nat.le_of_lt hs))),h.src.hB,x,m,y,by rw [bel.block s hs];exact h0,h1,h2⟩
 ·exact ⟨hg.os.trans h.gr.os,hg.tape.trans h.gr.tape,hg.output.trans h.gr.output,Nat.le_trans h.gr.size hg.size,fun j hj hne=>by rw [bel.block j hj];exact h.gr.block j hj hne⟩
end
theorem c_decT (N:Nat) (hN:N≤1000) (w:World):Calls Tryz.prog 116 #[.int .i64 N] w fun e w'=>∃ u,e=.returned (.string u)∧u.size≤30∧Below w.heap.size w w':=by
 by_cases h0:N=0
 ·subst h0
  go_enter Tryz.func116,Tryz.ntmps116
  go_wp2
  go_ret
  exact ⟨_,rfl,by decide,Below.refl _ _⟩
 ·refine (c_l01Dec_pos N h0 (by omega) w).mono ?_
  rintro e w' ⟨rfl,hb⟩
  refine ⟨_,rfl,?_,hb⟩
  rw [← toL_len,toL_mk,Lib.decDigits_length]
  have:=Lib.nDigits_le20 N (by omega)
  omega
end Go.Proofs.YthpilcoklapooaaGreatDoor
/-
 Weak contracts of the draws: weights and the values that a sketch takes.
-/
namespace Go.Proofs.YthpilcoklapooaaGreatDoor
set_option linter.unusedVariables false
set_option linter.unusedSimpArgs false
open Go.ChangeShapes Go.WideShapes Go.ChangeAt Go.RowKit Go.PlainAid
def isU:Value→Bool
 | .int .u64 y=>decide (0≤y) && decide (y≤18446744073709551615)
 | _=>false
set_option maxHeartbeats 1000000 in
theorem c_l03Any {W w:World} {B ln cap s:Nat} {ao:Option Addr} (hc:CodeAt W B ao ln) (h:Src W B ao ln cap s w) :
  Calls Tryz.prog 113 #[.pointer (some ⟨s,0,none⟩)] w fun e w'=>∃ v,e=.returned (.int .i64 v)∧I64 v∧Src W B ao ln cap s w'∧w.grownBy w' (some s):=by
 have HC:=hide hc
 go_enter Tryz.func113,Tryz.ntmps113
 go_wp2_with fail
 refine (c_one HC.out h _ (by omega)).mono ?_
 rintro e w1 ⟨b,rfl,hS1,hg1⟩
 have HS1:=hide hS1
 have HG1:=hide hg1
 clear hS1 hg1 h hc
 cases b with
 | true=>
  go_wp2_with fail
  refine (c_l01Any HC.out HS1.out).mono ?_
  rintro e w2 ⟨v,rfl,hI,hS2,hg2⟩
  have HS2:=hide hS2
  have HG2:=hide (HG1.out.trans hg2)
  clear hS2 hg2
  go_wp2
  go_ret
  exact ⟨v,rfl,hI,HS2.out,HG2.out⟩
 | false=>
  go_wp2_with fail
  refine (c_n HC.out HS1.out _ (by omega)).mono ?_
  rintro e w2 ⟨v,rfl,v0,v1,_,hS2,hg2⟩
  have v1:=v1 (by omega)
  have HS2:=hide hS2
  have HG2:=hide (HG1.out.trans hg2)
  clear hS2 hg2
  go_wp2_with fail
  refine (c_n HC.out HS2.out _ (by omega)).mono ?_
  rintro e w3 ⟨k,rfl,k0,k1,_,hS3,hg3⟩
  have k1:=k1 (by omega)
  have HS3:=hide hS3
  have HG3:=hide (HG2.out.trans hg3)
  clear hS3 hg3
  go_wp2_with fail
  obtain ⟨k,rfl⟩:=Int.eq_ofNat_of_zero_le k0
  go_loop [3,4] (fun xv kv=>∃ (j:Nat) (x:Int),j≤8∧kv=.int .i64 j∧xv=.int .i64 x∧I64 x) (fun xv kv=>(Go.RowKit.intOf kv).toNat)
  case atStart=>exact ⟨k,v,by omega,rfl,rfl,by unfold I64;omega⟩
  case round=>
   clear v0 v1 k0 k1
   obtain ⟨j,x,hj,rfl,rfl,hx⟩:=hrel
   rcases Nat.eq_zero_or_pos j with h0 | h0
   ·subst h0
    go_wp2_with fail
    refine (c_one HC.out HS3.out _ (by omega)).mono ?_
    rintro e w4 ⟨b,rfl,hS4,hg4⟩
    have HS4:=hide hS4
    have HG4:=hide (HG3.out.trans hg4)
    clear hS4 hg4
    have hm:=w64_in (-x)
    cases b with
    | true=>
     go_wp2
     go_ret
     exact ⟨_,rfl,by first | exact hm | (unfold I64 at *; omega),HS4.out,HG4.out⟩
    | false=>
     go_wp2
     go_ret
     exact ⟨_,rfl,hx,HS4.out,HG4.out⟩
   ·have hj0:(0:Int)<(j:Int):=by omega
    have hm:=w64_in (x*9)
    go_wp2
    go_round
    case rel=>exact ⟨j - 1,_,by omega,by congr 1;omega,rfl,hm⟩
    case measure=>simp [Go.RowKit.intOf];omega
end Go.Proofs.YthpilcoklapooaaGreatDoor
