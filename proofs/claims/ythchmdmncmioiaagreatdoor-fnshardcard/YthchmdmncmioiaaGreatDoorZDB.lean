/-
 The contract of spec.l01Dec: a number that is not negative in digits.
-/
import Derived.Test.YthchmdmncmioiaaGreatDoorZCO
import Derived.Test.YthchmdmncmioiaaGreatDoorZDA
import Derived.Deep.CutBlock
set_option maxHeartbeats 8000000
namespace Go.Proofs.YthchmdmncmioiaaGreatDoor
set_option linter.unusedVariables false
set_option linter.unusedSimpArgs false
open Go.ChangeShapes Go.WideShapes Go.ChangeAt Go.RowKit Go.PlainAid
set_option maxRecDepth 10000 in
theorem Qio (N:Nat) (hN0:N≠0) (hN:N<=9223372036854775807) (w:World) :
  Calls Tryz.prog 76 #[.int .i64 N] w fun e w'=>e=.returned (.string ⟨(Lib.decDigits N).toArray⟩)/\Below w.heap.size w w':=by
 have hb0:((N:Int) == 0)=false:=ZZf.2 (by omega);have hb1:decide ((N:Int)<0)=false:=ZZg (by omega);go_enter Tryz.func76,Tryz.ntmps76;go_wp2
 go_loopw [0,4,5] (fun n o d wr=>∃ (m:Nat) (D:List UInt8),m<=N/\n=.int .i64 m/\o=.string ⟨D.toArray⟩/\QqP N m D/\Below w.heap.size w wr) (fun n o d wr=>(Go.RowKit.intOf n).toNat)
 case atStart=>exact ⟨N,[],Nat.le_refl _,rfl,rfl,⟨fun h=>absurd h hN0,fun _=>by simp⟩,Below.refl _ _⟩
 case round=>
  obtain ⟨m,D,hm,rfl,rfl,hR,hbel⟩:=hrel;by_cases k:m=0
  ·subst k
   have HR:Hid (QqP N 0 D):=hR;clear hR;go_wp2;go_ret;exact ⟨QpP (by rw [HR.out.1 rfl]),hbel⟩
  ·obtain ⟨d,hd⟩:∃ d,d=m % 10:=⟨_,rfl⟩
   obtain ⟨q,hq⟩:∃ q,q=m / 10:=⟨_,rfl⟩;have HR:Hid (QqP N q (UInt8.ofNat (48+d) :: D)):=by rw [hd,hq];exact Qmm hR k
   have hln:=QoO hR (Qqv N hN);have e1:Int.tmod (m:Int) 10=(d:Int):=by rw [hd];rfl
   have e2:Int.tdiv (m:Int) 10=(q:Int):=by rw [hq];rfl
   have hk:((m:Int) != 0)=true:=by simp;omega
   have hd9:d<10:=by omega
   have hqm:q<m:=by omega
   have e3:decide ((d:Int)<0)=false:=ZZg (by omega);have e4:IntKind.u8.wrap (48+(d:Int))=48+(d:Int):=IntWalk.u8_in _ ⟨by omega,by omega⟩;obtain ⟨B,hB⟩:∃ B,B=strOfNums [48+(d:Int)]:=⟨_,rfl⟩
   have kc:=run_convert_bytes_arg (P:=Tryz.prog) (wr.alloc (.cells #[.int .u8 (48+(d:Int))] 5)) 22 5 Tryz.underlying22 Tryz.underlying5 wr.heap.size 0 1 1 [48+(d:Int)] rfl (fun i hi=>by
      obtain rfl:i=0:=by omega
      simp) 9 Tryz.underlying9
   rw [<- hB] at kc;have hB1:B.size=1:=by rw [hB];rfl
   have HB:Hid (B ++ ⟨D.toArray⟩=(⟨(UInt8.ofNat (48+d) :: D).toArray⟩:ByteArray)):=(by
    rw [hB,<- QpY];congr 1;:B ++ ⟨D.toArray⟩=(⟨(UInt8.ofNat (48+d) :: D).toArray⟩:ByteArray))
   have hD:(⟨D.toArray⟩:ByteArray).size=D.length:=rfl;have HL:Hid (Below w.heap.size w wr):=hbel;have hz:=hbel.size;clear hR hd hq k hb0 hb1 hB hbel;go_wp2;go_roundw
   case rel=>exact ⟨q,UInt8.ofNat (48+d) :: D,by omega,rfl,by rw [HB.out],HR.out,HL.out.alloc (by omega) _⟩
   case measure=>simp [Go.RowKit.intOf];omega
set_option maxRecDepth 10000
structure DL (W:World) (B:Nat) (ao:Option Addr) (ln cap s:Nat) (w wr:World) (v:Value) (L:List ByteArray):Prop where
 own:OwnT wr w.heap.size v L
 sz:∀ u∈L,u.size<=40
 src:Src W B ao ln cap s wr
 gr:w.grownBy wr (some s)
section
variable {W:World} {B ln cap s:Nat} {ao:Option Addr} {w wr:World} {v:Value} {L:List ByteArray}
theorem DL.step (h:DL W B ao ln cap s w wr v L) (hs:s<w.heap.size) {w1:World} (hS:Src W B ao ln cap s w1) (hg:wr.grownBy w1 (some s)):DL W B ao ln cap s w w1 v L:=by
 refine ⟨World.ownsRow.kept h.own hg ?_,h.sz,hS,h.gr.trans hg⟩
 cases e:v.ownBlock with
 | none=>exact .inl rfl
 | some k=>exact .inr (fun q=>by have:=(World.ownsRow.lt h.own k e).1;cases q;omega)
theorem DL.past (h:DL W B ao ln cap s w wr v L) (hs:s<w.heap.size) {w1:World} (hb:Below wr.heap.size wr w1):DL W B ao ln cap s w w1 v L:=
 h.step hs (Qa7 h.src hb) ⟨hb.os,hb.tape,hb.output,hb.size,fun j hj _=>hb.block j hj⟩
theorem DL.app (h:DL W B ao ln cap s w wr v L) (hs:s<w.heap.size) {w1:World} {v':Value} {u:ByteArray} (hu:u.size<=40) {n:Nat} (ho:w1.ownsRow w.heap.size 9 1 v' n (L.map Value.string ++ [.string u])) (hg:wr.grownBy w1 v.ownBlock):DL W B ao ln cap s w w1 v' (L ++ [u]):=by
 have bel:Below w.heap.size wr w1:=⟨hg.os,hg.tape,hg.output,hg.size,fun j hj=>hg.block j (by have:=h.gr.size;omega) (fun e=>by have:=(World.ownsRow.lt h.own j e.symm).1;omega)⟩;refine ⟨OwnT.of ho (by simp),fun x hx=>?_,?_,?_⟩
 ·rcases List.mem_append.1 hx with hx | hx
  ·exact h.sz x hx
  ·obtain rfl:=List.mem_singleton.1 hx;exact hu
 ·obtain ⟨x,m,y,h0,h1,h2⟩:=h.src.blk
  exact ⟨h.src.bel.trans (bel.mono (Nat.le_trans h.src.hB (Nat.le_of_lt hs))),h.src.hB,x,m,y,by rw [bel.block s hs];exact h0,h1,h2⟩
 ·exact ⟨hg.os.trans h.gr.os,hg.tape.trans h.gr.tape,hg.output.trans h.gr.output,Nat.le_trans h.gr.size hg.size,fun j hj hne=>by rw [bel.block j hj];exact h.gr.block j hj hne⟩
end
theorem c_decT (N:Nat) (hN:N<=1000) (w:World):Calls Tryz.prog 76 #[.int .i64 N] w fun e w'=>∃ u,e=.returned (.string u)/\u.size<=30/\Below w.heap.size w w':=by
 by_cases h0:N=0
 ·subst h0
  go_enter Tryz.func76,Tryz.ntmps76;go_wp2;go_ret;exact ⟨_,rfl,by decide,ZZb _ _⟩
 ·refine (Qio N h0 (by omega) w).mono ?_
  rintro e w' ⟨rfl,hb⟩;refine ⟨_,rfl,?_,hb⟩;rw [<- QaC,Qcc,Lib.decDigits_length];have:=Lib.nDigits_le20 N (by omega);omega
def isU:Value->Bool
 | .int .u64 y=>decide (0<=y) && decide (y<=18446744073709551615)
 | _=>false
theorem QoF {W w:World} {B ln cap s:Nat} {ao:Option Addr} (hc:Qbr W B ao ln) (h:Src W B ao ln cap s w) :
  Calls Tryz.prog 74 #[.pointer (some ⟨s,0,none⟩)] w fun e w'=>∃ v,e=.returned (.int .i64 v)/\I64 v/\Src W B ao ln cap s w'/\w.grownBy w' (some s):=by
 have HC:=Qaa hc;go_enter Tryz.func74,Tryz.ntmps74;go_wp2_with fail;refine (Qh1 HC.out h _ (by omega)).mono ?_;rintro e w1 ⟨b,rfl,hS1,hg1⟩;have HS1:=Qaa hS1;have HG1:=Qaa hg1;clear hS1 hg1 h hc
 cases b with
 | true=>
  go_wp2_with fail;refine (Qkz HC.out HS1.out).mono ?_;rintro e w2 ⟨v,rfl,hI,hS2,hg2⟩;have HS2:=Qaa hS2;have HG2:=Qaa (HG1.out.trans hg2);clear hS2 hg2;go_wp2;go_ret;exact ⟨v,rfl,hI,HS2.out,HG2.out⟩
 | false=>
  go_wp2_with fail;refine (c_n HC.out HS1.out _ (by omega)).mono ?_;rintro e w2 ⟨v,rfl,v0,v1,_,hS2,hg2⟩;have v1:=v1 (by omega);have HS2:=Qaa hS2;have HG2:=Qaa (HG1.out.trans hg2);clear hS2 hg2;go_wp2_with fail;refine (c_n HC.out HS2.out _ (by omega)).mono ?_;rintro e w3 ⟨k,rfl,k0,k1,_,hS3,hg3⟩;have k1:=k1 (by omega);have HS3:=Qaa hS3;have HG3:=Qaa (HG2.out.trans hg3);clear hS3 hg3;go_wp2_with fail;obtain ⟨k,rfl⟩:=Int.eq_ofNat_of_zero_le k0
  go_loop [3,4] (fun xv kv=>∃ (j:Nat) (x:Int),j<=8/\kv=.int .i64 j/\xv=.int .i64 x/\I64 x) (fun xv kv=>(Go.RowKit.intOf kv).toNat)
  case atStart=>exact ⟨k,v,by omega,rfl,rfl,by unfold I64;omega⟩
  case round=>
   clear v0 v1 k0 k1;obtain ⟨j,x,hj,rfl,rfl,hx⟩:=hrel;rcases Nat.eq_zero_or_pos j with h0 | h0
   ·subst h0
    go_wp2_with fail;refine (Qh1 HC.out HS3.out _ (by omega)).mono ?_;rintro e w4 ⟨b,rfl,hS4,hg4⟩;have HS4:=Qaa hS4;have HG4:=Qaa (HG3.out.trans hg4);clear hS4 hg4;have hm:=Qgo (-x)
    cases b with
    | true=>
     go_wp2;go_ret;exact ⟨_,rfl,by first | exact hm | (unfold I64 at *; omega),HS4.out,HG4.out⟩
    | false=>
     go_wp2;go_ret;exact ⟨_,rfl,hx,HS4.out,HG4.out⟩
   ·have hj0:(0:Int)<(j:Int):=by omega
    have hm:=Qgo (x*9);go_wp2
    go_round
    case rel=>exact ⟨j - 1,_,by omega,by congr 1;omega,rfl,hm⟩
    case measure=>simp [Go.RowKit.intOf];omega
theorem QaE {w w1 w2:World} {r:Option Nat} (h:w.grownBy w1 r) (hb:Below w.heap.size w1 w2):w.grownBy w2 r:=
 ⟨hb.os.trans h.os,hb.tape.trans h.tape,hb.output.trans h.output,Nat.le_trans h.size hb.size,fun k hk hne=>by rw [hb.block k hk];exact h.block k hk hne⟩
theorem Qn3 (name:ByteArray) (L:List ByteArray):(Qlt name L).size<=100:=by
 have e0:ByteArray.empty.size<=100:=by decide
 unfold Qlt
 split
 ·exact e0
 ·unfold QdN
  split
  ·unfold QdM
   split
   ·exact e0
   ·rename_i h;omega
  ·exact e0
theorem Qh4 {W w:World} {B ln cap s:Nat} {ao:Option Addr} (hc:Qbr W B ao ln) (h:Src W B ao ln cap s w) :
  Calls Tryz.prog 73 #[.pointer (some ⟨s,0,none⟩)] w fun e w'=>∃ u,e=.returned (.string u)/\u.size<=100/\Src W B ao ln cap s w'/\w.grownBy w' (some s):=by
 obtain ⟨i0,hi,hz0,hz1,hz2⟩:=info_parts QnK;have HC:=Qaa hc;have HS:=Qaa h;clear hc h;go_enter Tryz.func73,Tryz.ntmps73;go_wp2_with fail;refine (QcP HC.out HS.out 40 (by rfl) (by omega) (by omega) (by decide)).mono ?_;rintro e w2 ⟨name,rfl,hnm,hS2,hg2⟩;have hlt2:s<w2.heap.size:=Qdm hS2;have HG2:=Qaa hg2;replace HS:=Qaa hS2;clear hS2 hg2;go_wp2_with fail;refine (c_n HC.out (Qa7 HS.out ((ZZb _ _).alloc (ZZa _) (.cells #[] 9))) _ (by omega)).mono ?_;rintro e w3 ⟨kk,rfl,k0,k1,_,hS3,hg3⟩;have k1:=k1 (by omega)
 have D0:DL W B ao ln cap s w2 w3 (.slice (some ⟨w2.heap.size,0,none⟩) 0 0) []:=by
  have O0:OwnT (w2.alloc (.cells #[] 9)) w2.heap.size (.slice (some ⟨w2.heap.size,0,none⟩) 0 0) []:=World.ownsRow_made w2 #[] 0 (ZZa _) (ZZj _) rfl;have D1:DL W B ao ln cap s w2 (w2.alloc (.cells #[] 9)) (.slice (some ⟨w2.heap.size,0,none⟩) 0 0) []:=⟨O0,fun u hu=>absurd hu List.not_mem_nil,Qa7 HS.out ((ZZb _ _).alloc (ZZa _) _),World.grownBy_alloc _ _ _⟩;exact D1.step hlt2 hS3 hg3
 have HD0:=Qaa D0;clear D0 hS3 hg3 HS;obtain ⟨kn,rfl⟩:=Int.eq_ofNat_of_zero_le k0;have hk6:kn<3:=by omega
 clear k0 k1;go_wp2_with fail
 go_loopw [4,5] (fun lv kv wr=>∃ (j:Nat) (lo:Option Addr) (n lc:Nat) (L:List ByteArray),kv=.int .i64 j/\j<=3/\lv=.slice lo n lc/\n+j<=3/\Hid (L.length=n/\DL W B ao ln cap s w2 wr (.slice lo n lc) L)) (fun lv kv wr=>(RowKit.intOf kv).toNat)
 case atStart=>exact ⟨kn,_,0,0,[],rfl,by omega,rfl,by omega,⟨rfl,HD0.out⟩⟩
 case round=>
  clear HD0;obtain ⟨j,lo,n,lc,L,rfl,hj,rfl,hnj,HD⟩:=hrel;rcases Nat.eq_zero_or_pos j with h0 | h0
  ·subst h0
   go_wp2_with fail;refine (Qi3 name lc n (by unfold maxLen;omega) HD.out.1 (by omega) (fun u hu=>by have:=HD.out.2.sz u hu;unfold maxLen;omega) HD.out.2.own.at).mono ?_;rintro e w4 ⟨rfl,hb4⟩;have HS4:=Qaa (Qa7 HD.out.2.src hb4);have HG4:=Qaa (QaE (HG2.out.trans HD.out.2.gr) (hb4.mono (Nat.le_trans HG2.out.size HD.out.2.gr.size)));have h100:=Qn3 name L;clear hb4 HD;generalize Qlt name L=u at h100 ⊢;go_wp2;go_ret;exact ⟨u,rfl,h100,HS4.out,HG4.out⟩
  ·have hj0:(0:Int)<(j:Int):=by omega
   have hwj:IntKind.i64.wrap ((j:Int) - 1)=((j - 1:Nat):Int):=by rw [IntWalk.i64_in _ ⟨by omega,by omega⟩];omega
   have hn6:n<=6:=by omega
   go_wp2_with (first
    | (go_at_call 72;refine (QcP HC.out HD.out.2.src 21 (by rfl) (by omega) (by omega) (by decide)).mono ?_;rintro e w4 ⟨u,rfl,hu,hS4,hg4⟩;have HD1:=Qaa (HD.out.2.step hlt2 hS4 hg4);have HD2:=Qaa (HD1.out.past hlt2 ((ZZb _ _).alloc (ZZa _) (.cells #[.string u] 9)));have HN:=Qaa HD.out.1;clear hS4 hg4 HD)
    | (at_builtin;refine wpList_append_own _ rfl (.tmp 16) (.tmp 20) 119 rfl w2.heap.size 9 i0 (.string ByteArray.empty) 1 16 Tryz.underlying119 hi hz0 hz1 hz2 rfl (by decide) _ _ _ rfl HD2.out.own ⟨w4.heap.size,0,none⟩ 1 1 [.string u] rfl rfl (QaM (cs:=#[.string u]) rfl) (QaV [u]) (by have:=HN.out;unfold maxLen;omega) (by have:=HN.out;omega) HD2.out.gr.size ?_;intro v5 w5 hown hgrow hnil;have HD5:=Qaa (HD2.out.app hlt2 (show u.size<=40 by omega) hown hgrow);obtain ⟨lo5,c5,rfl⟩:=Qam hown;clear hown hgrow hnil))
   go_roundw
   case rel=>exact ⟨j - 1,lo5,L.length+1,c5,L ++ [u],rfl,by omega,rfl,by have:=HN.out;omega,⟨by simp,HD5.out⟩⟩
   case measure=>simp [RowKit.intOf];omega
theorem Qbo {W w w':World} {B ln cap s K:Nat} {ao:Option Addr} (h:Src W B ao ln cap s w) (hb:Below K w w') (hs:s<K):Src W B ao ln cap s w':=by
 obtain ⟨a,m,z,hk,h1,h2⟩:=h.blk;exact ⟨h.bel.trans (hb.mono (Nat.le_trans h.hB (Nat.le_of_lt hs))),h.hB,a,m,z,by rw [hb.block s hs];exact hk,h1,h2⟩
theorem Qaw {w:World} {r:Nat} {cs:Array Value} {T:TypeId} (h:w.heap[r]?=some (.cells cs T (0,0))) (j:Nat) {v:Value} (e:cs[j]?=some v):w.cell? ⟨r,j,none⟩=some v:=by rw [cell_of_row _ _ j _ _ (0,0) h];exact e
structure SD (W:World) (B:Nat) (ao:Option Addr) (ln cap s:Nat) (w wr:World) (b:Nat) (x:Sx):Prop where
 row:wr.heap[b]?=some (.cells (Qax x) 28 (0,0))
 res:wr.heap[w.heap.size]?=some (.cells #[.int .i64 0,.string ⟨#[]⟩,.int .i64 0,.string ⟨#[]⟩,.int .u64 0,.bool false,.int .i64 0] 28 (0,0))
 src:Src W B ao ln cap s wr
 gr:w.grownBy wr (some s)
 lb:w.heap.size<b
 hs:s<w.heap.size
 ok:x.Ok
section
variable {W:World} {B ln cap s:Nat} {ao:Option Addr} {w wr:World} {b:Nat} {x:Sx}
theorem SD.step (h:SD W B ao ln cap s w wr b x) {w1:World} (hS:Src W B ao ln cap s w1) (hg:wr.grownBy w1 (some s)):SD W B ao ln cap s w w1 b x:=by
 have l1:=h.lb;have l2:=h.hs;exact ⟨(hg.block b (ZZc.1 h.row).1 (fun e=>by cases e;omega)).trans h.row,(hg.block _ (ZZc.1 h.res).1 (fun e=>by cases e;omega)).trans h.res,hS,h.gr.trans hg,h.lb,h.hs,h.ok⟩
theorem SD.past (h:SD W B ao ln cap s w wr b x) {w1:World} (hb:Below wr.heap.size wr w1):SD W B ao ln cap s w w1 b x:=
 h.step (Qa7 h.src hb) ⟨hb.os,hb.tape,hb.output,hb.size,fun j hj _=>hb.block j hj⟩
theorem SD.set (h:SD W B ao ln cap s w wr b x) {x':Sx} (j:Nat) (u:Value) (e:(Qax x).setIfInBounds j u=Qax x') (ok:x'.Ok):SD W B ao ln cap s w (wr.setCell ⟨b,j,none⟩ u) b x':=by
 have l1:=h.lb;have l2:=h.hs;have hb:Below b wr (wr.setCell ⟨b,j,none⟩ u):=(Below.refl b wr).setCell (by simp) u;refine ⟨?_,(hb.block _ l1).trans h.res,Qbo h.src hb (by omega),QaE h.gr (hb.mono (by omega)),h.lb,h.hs,ok⟩;rw [<- e];exact ZZl wr b j _ _ u h.row
end
theorem Qau {w:World} {b:Nat} {x:Sx} {T:TypeId} (h:w.heap[b]?=some (.cells (Qax x) T (0,0))):w.cell? ⟨b,0,none⟩=some (.int .i64 x.k)/\w.cell? ⟨b,1,none⟩=some (.string x.se)/\w.cell? ⟨b,2,none⟩=some (.int .i64 x.v)/\w.cell? ⟨b,3,none⟩=some (.string x.wd)/\w.cell? ⟨b,4,none⟩=some (.int .u64 x.wt)/\w.cell? ⟨b,5,none⟩=some (.bool x.tm)/\w.cell? ⟨b,6,none⟩=some (.int .i64 x.ti):=
 ⟨Qaw h 0 rfl,Qaw h 1 rfl,Qaw h 2 rfl,Qaw h 3 rfl,Qaw h 4 rfl,Qaw h 5 rfl,Qaw h 6 rfl⟩
theorem Qcb {v:Int} (h0:-1<=v) (h1:v<=2000000000):I64 v:=by unfold I64;omega
def Qma (W:World) (B:Nat) (ao:Option Addr) (ln cap s:Nat) (w:World) (e:Ending) (w':World):Prop:=∃ x:Sx,e=.returned (.agg (Qax x))/\x.Ok/\Src W B ao ln cap s w'/\w.grownBy w' (some s)
theorem Qed {W w:World} {B ln cap s:Nat} {ao:Option Addr} (hc:Qbr W B ao ln) (h:Src W B ao ln cap s w) :
  Calls Tryz.prog 37 #[.pointer (some ⟨s,0,none⟩)] w fun e w'=>Qma W B ao ln cap s w e w':=by
 have HC:=Qaa hc;have hs:=Qdm h;have a0:Below w.heap.size w (w.alloc (.cells #[.int .i64 0,.string ⟨#[]⟩,.int .i64 0,.string ⟨#[]⟩,.int .u64 0,.bool false,.int .i64 0] 28)):=(ZZb _ _).alloc (ZZa _) _;have HS0:=Qaa (Qa7 h a0);have HR0:=Qaa (ZZk w (.cells #[.int .i64 0,.string ⟨#[]⟩,.int .i64 0,.string ⟨#[]⟩,.int .u64 0,.bool false,.int .i64 0] 28));have HG0:Hid (w.grownBy (w.alloc (.cells #[.int .i64 0,.string ⟨#[]⟩,.int .i64 0,.string ⟨#[]⟩,.int .u64 0,.bool false,.int .i64 0] 28)) (some s)):=(⟨a0.os,a0.tape,a0.output,a0.size,fun j hj _=>a0.block j hj⟩:w.grownBy _ (some s));have hz0:(w.alloc (.cells #[.int .i64 0,.string ⟨#[]⟩,.int .i64 0,.string ⟨#[]⟩,.int .u64 0,.bool false,.int .i64 0] 28)).heap.size=w.heap.size+1:=by simp
 clear hc h a0;go_enter Tryz.func37,Tryz.ntmps37;go_wp2_with fail;generalize w.alloc (.cells #[.int .i64 0,.string ⟨#[]⟩,.int .i64 0,.string ⟨#[]⟩,.int .u64 0,.bool false,.int .i64 0] 28)=W0 at HS0 HR0 HG0 hz0 ⊢;refine (c_n HC.out HS0.out 4 (by omega)).mono ?_;rintro e w1 ⟨k0,rfl,k1,k2,_,hS1,hg1⟩;have k2:=k2 (by omega);have hwk:IntKind.i64.wrap (1+k0)=1+k0:=ZZi _ ⟨by omega,by omega⟩;have HS1:=Qaa hS1;have HG1:=Qaa hg1;clear hS1 hg1;go_wp2_with fail;refine (Qh4 HC.out HS1.out).mono ?_;rintro e w2 ⟨se,rfl,hse,hS2,hg2⟩;have HS2:=Qaa hS2;have HG2:=Qaa (HG1.out.trans hg2);clear hS2 hg2 HS1 HG1;go_wp2_with fail;refine (Qh1 HC.out HS2.out 2 (by omega)).mono ?_;rintro e w3 ⟨tm,rfl,hS3,hg3⟩;have HG3:=Qaa (HG2.out.trans hg3);have a3:Below w3.heap.size w3 (w3.alloc (.cells (Qax ⟨1+k0,se,0,⟨#[]⟩,1,tm,0⟩) 28)):=(ZZb _ _).alloc (ZZa _) _;have z3:=HG3.out.size
 have HD:Hid (SD W B ao ln cap s w (w3.alloc (.cells (Qax ⟨1+k0,se,0,⟨#[]⟩,1,tm,0⟩) 28)) w3.heap.size ⟨1+k0,se,0,⟨#[]⟩,1,tm,0⟩):=by
  refine Qaa ⟨heap_alloc_new w3 _,?_,Qa7 hS3 a3,QaE (HG0.out.trans HG3.out) (a3.mono (by omega)),by omega,hs,⟨Qcb (by show -1<=1+k0;omega) (by show 1+k0<=_;omega),Qcb (by show (-1:Int)<=0;omega) (by show (0:Int)<=_;omega),by show U64 1;unfold U64;omega,Qcb (by show (-1:Int)<=0;omega) (by show (0:Int)<=_;omega),by show se.size<=_;unfold maxLen;omega,by show (⟨#[]⟩:ByteArray).size<=_;decide⟩⟩;exact (a3.block _ (by omega)).trans ((HG3.out.block _ (by omega) (fun e=>by cases e;omega)).trans HR0.out)
 clear hS3 hg3 a3 HS2 HG2 HG3 HS0 HR0 HG0 hz0;go_upto_if 13 with fail;generalize w3.alloc (.cells (Qax ⟨1+k0,se,0,⟨#[]⟩,1,tm,0⟩) 28)=W4 at HD ⊢;generalize w3.heap.size=b at HD z3 ⊢;generalize hx0:(⟨1+k0,se,0,⟨#[]⟩,1,tm,0⟩:Sx)=x at HD;have etm:tm=x.tm:=by rw [<- hx0]
 subst etm;clear hx0 z3;obtain ⟨x0,x1,x2,x3,x4,x5,x6⟩:=Qau HD.out.row
 go_cut [3] (fun p w'=>p=.pointer (some ⟨b,0,none⟩)/\∃ x,Hid (SD W B ao ln cap s w w' b x))
 case first=>
  cases ht:x.tm with
  | false=>
   rw [ht] at x5;go_wp2;go_meet;exact ⟨rfl,x,HD⟩
  | true=>
   rw [ht] at x5;go_wp2_with fail;refine (c_n HC.out HD.out.src 60 (by omega)).mono ?_;rintro e w5 ⟨v5,rfl,a5,c5,_,hS5,hg5⟩;have c5:=c5 (by omega);have HD5:=Qaa (HD.out.step hS5 hg5);clear hS5 hg5 x0 x1 x2 x3 x4 x5 x6;obtain ⟨x0,x1,x2,x3,x4,x5,x6⟩:=Qau HD5.out.row;obtain ⟨f0,f1,f2,f3,f4,f5,f6⟩:=fA7 HD5.out.row;go_wp2;go_meet;exact ⟨rfl,⟨x.k,x.se,x.v,x.wd,x.wt,x.tm,v5⟩,Qaa (HD5.out.set 6 (.int .i64 v5) rfl ⟨HD5.out.ok.k,HD5.out.ok.v,HD5.out.ok.wt,(show I64 v5 from Qcb (by omega) (by omega)),HD5.out.ok.se,HD5.out.ok.wd⟩)⟩
 case rest=>
  clear HD x0 x1 x2 x3 x4 x5 x6;obtain ⟨rfl,x,HD⟩:=hcut;obtain ⟨w6,hw6⟩:∃ w6,wc=w6:=⟨_,rfl⟩;rw [hw6] at HD ⊢;clear hw6;obtain ⟨x0,x1,x2,x3,x4,x5,x6⟩:=Qau HD.out.row;go_upto_if 19 with fail
  go_cut [3] (fun p w'=>p=.pointer (some ⟨b,0,none⟩)/\∃ x,Hid (SD W B ao ln cap s w w' b x))
  case first=>
   by_cases h4:x.k=4
   ·have hk4:(x.k == 4)=true:=by simp [h4]
    clear h4;go_wp2_with fail;refine (QcP HC.out HD.out.src 40 (by rfl) (by omega) (by omega) (by decide)).mono ?_;rintro e w5 ⟨u5,rfl,hu5,hS5,hg5⟩;have HD5:=Qaa (HD.out.step hS5 hg5);clear hS5 hg5 x0 x1 x2 x3 x4 x5 x6;obtain ⟨x0,x1,x2,x3,x4,x5,x6⟩:=Qau HD5.out.row;obtain ⟨f0,f1,f2,f3,f4,f5,f6⟩:=fA7 HD5.out.row;go_wp2;go_meet;exact ⟨rfl,⟨x.k,x.se,x.v,u5,x.wt,x.tm,x.ti⟩,Qaa (HD5.out.set 3 (.string u5) rfl ⟨HD5.out.ok.k,HD5.out.ok.v,HD5.out.ok.wt,HD5.out.ok.ti,HD5.out.ok.se,(show u5.size<=_ by unfold maxLen;omega)⟩)⟩
   ·have hk4:(x.k == 4)=false:=ZZf.2 h4
    clear h4;go_wp2_with fail;refine (QoF HC.out HD.out.src).mono ?_;rintro e w5 ⟨v5,rfl,hv5,hS5,hg5⟩;have HD5:=Qaa (HD.out.step hS5 hg5);clear hS5 hg5 x0 x1 x2 x3 x4 x5 x6;obtain ⟨x0,x1,x2,x3,x4,x5,x6⟩:=Qau HD5.out.row;obtain ⟨f0,f1,f2,f3,f4,f5,f6⟩:=fA7 HD5.out.row;go_wp2;go_meet;exact ⟨rfl,⟨x.k,x.se,v5,x.wd,x.wt,x.tm,x.ti⟩,Qaa (HD5.out.set 2 (.int .i64 v5) rfl ⟨HD5.out.ok.k,hv5,HD5.out.ok.wt,HD5.out.ok.ti,HD5.out.ok.se,HD5.out.ok.wd⟩)⟩
  case rest=>
   clear HD x0 x1 x2 x3 x4 x5 x6;obtain ⟨rfl,x,HD⟩:=hcut;obtain ⟨w7,hw7⟩:∃ w7,wc=w7:=⟨_,rfl⟩;rw [hw7] at HD ⊢;clear hw7;obtain ⟨x0,x1,x2,x3,x4,x5,x6⟩:=Qau HD.out.row;go_upto_region 7 with fail
   go_cut [3,38] (fun p c w'=>p=.pointer (some ⟨b,0,none⟩)/\(∃ bb,c=.bool bb)/\Hid (SD W B ao ln cap s w w' b x))
   case first=>
    by_cases h4:x.k=4
    ·have hk4:(x.k != 4)=false:=by simp [h4]
     clear h4;go_wp2;go_meet;exact ⟨rfl,⟨false,rfl⟩,HD⟩
    ·have hk4:(x.k != 4)=true:=by simp [h4]
     by_cases h2:x.k=2
     ·have hk2:(x.k != 2)=false:=by simp [h2]
      clear h4 h2;go_wp2;go_meet;exact ⟨rfl,⟨false,rfl⟩,HD⟩
     ·have hk2:(x.k != 2)=true:=by simp [h2]
      clear h4 h2;go_wp2_with fail;refine (Qh1 HC.out HD.out.src 3 (by omega)).mono ?_;rintro e w4 ⟨bb,rfl,hS4,hg4⟩;have HD4:=Qaa (HD.out.step hS4 hg4);clear hS4 hg4 x0 x1 x2 x3 x4 x5 x6
      cases bb with
      | false=>
       go_wp2;go_meet;exact ⟨rfl,⟨false,rfl⟩,HD4⟩
      | true=>
       go_wp2;go_meet;exact ⟨rfl,⟨true,rfl⟩,HD4⟩
   case rest=>
    obtain ⟨rfl,⟨bb,rfl⟩,HD4⟩:=hcut;obtain ⟨w4,hw4⟩:∃ w4,wc=w4:=⟨_,rfl⟩;rw [hw4] at HD4 ⊢;clear hw4 HD x0 x1 x2 x3 x4 x5 x6;go_upto_if 38 with fail
    go_cut [3] (fun p w'=>p=.pointer (some ⟨b,0,none⟩)/\∃ x,Hid (SD W B ao ln cap s w w' b x))
    case first=>
      cases bb with
      | false=>
       go_wp2;go_meet;exact ⟨rfl,x,HD4⟩
      | true=>
       go_wp2_with fail;refine (c_n HC.out HD4.out.src 20 (by omega)).mono ?_;rintro e w5 ⟨v5,rfl,a5,c5,_,hS5,hg5⟩;have c5:=c5 (by omega);have HD5:=Qaa (HD4.out.step hS5 hg5);have hw1:IntKind.i64.wrap (1+v5)=1+v5:=ZZi _ ⟨by omega,by omega⟩;have hw2:IntKind.u64.wrap (1+v5)=1+v5:=by rw [IntKind.wrap_u64];omega
       clear hS5 hg5;obtain ⟨x0,x1,x2,x3,x4,x5,x6⟩:=Qau HD5.out.row;obtain ⟨f0,f1,f2,f3,f4,f5,f6⟩:=fA7 HD5.out.row;go_wp2;go_meet;exact ⟨rfl,⟨x.k,x.se,x.v,x.wd,1+v5,x.tm,x.ti⟩,Qaa (HD5.out.set 4 (.int .u64 (1+v5)) rfl ⟨HD5.out.ok.k,HD5.out.ok.v,(show U64 (1+v5) by unfold U64;omega),HD5.out.ok.ti,HD5.out.ok.se,HD5.out.ok.wd⟩)⟩
    case rest=>
     clear HD4;obtain ⟨rfl,x,HD⟩:=hcut;obtain ⟨w8,hw8⟩:∃ w8,wc=w8:=⟨_,rfl⟩;rw [hw8] at HD ⊢;clear hw8;obtain ⟨x0,x1,x2,x3,x4,x5,x6⟩:=Qau HD.out.row;go_wp2_with fail;refine (Qh1 HC.out HD.out.src 20 (by omega)).mono ?_;rintro e w4 ⟨bb,rfl,hS4,hg4⟩;have HD4:=Qaa (HD.out.step hS4 hg4);clear hS4 hg4 x0 x1 x2 x3 x4 x5 x6;go_upto_if 45 with fail
     go_cut [3] (fun p w'=>p=.pointer (some ⟨b,0,none⟩)/\∃ x,Hid (SD W B ao ln cap s w w' b x))
     case first=>
      cases bb with
      | false=>
       go_wp2;go_meet;exact ⟨rfl,x,HD4⟩
      | true=>
       go_wp2_with fail;refine (c_n HC.out HD4.out.src 6 (by omega)).mono ?_;rintro e w9 ⟨v9,rfl,a9,c9,_,hS9,hg9⟩;have c9:=c9 (by omega);have HD9:=Qaa (HD4.out.step hS9 hg9);clear hS9 hg9;have h9:v9=0∨v9=1∨v9=2∨v9=3∨v9=4∨v9=5:=by omega
       clear a9 c9;rcases h9 with rfl | rfl | rfl | rfl | rfl | rfl
       ·go_wp2_with fail
        refine (c_n HC.out HD9.out.src 6 (by omega)).mono ?_;rintro e w5 ⟨v5,rfl,a5,c5,_,hS5,hg5⟩;have c5:=c5 (by omega);have HD5:=Qaa (HD9.out.step hS5 hg5);clear hS5 hg5;obtain ⟨x0,x1,x2,x3,x4,x5,x6⟩:=Qau HD5.out.row;obtain ⟨f0,f1,f2,f3,f4,f5,f6⟩:=fA7 HD5.out.row;go_wp2;go_meet;exact ⟨rfl,⟨v5,x.se,x.v,x.wd,x.wt,x.tm,x.ti⟩,Qaa (HD5.out.set 0 (.int .i64 v5) rfl ⟨(show I64 v5 from Qcb (by omega) (by omega)),HD5.out.ok.v,HD5.out.ok.wt,HD5.out.ok.ti,HD5.out.ok.se,HD5.out.ok.wd⟩)⟩
       ·go_wp2_with fail
        refine (QcP HC.out HD9.out.src 40 (by rfl) (by omega) (by omega) (by decide)).mono ?_;rintro e w5 ⟨u5,rfl,hu5,hS5,hg5⟩;have HD5:=Qaa (HD9.out.step hS5 hg5);clear hS5 hg5;obtain ⟨x0,x1,x2,x3,x4,x5,x6⟩:=Qau HD5.out.row;obtain ⟨f0,f1,f2,f3,f4,f5,f6⟩:=fA7 HD5.out.row;go_wp2;go_meet;exact ⟨rfl,⟨x.k,u5,x.v,x.wd,x.wt,x.tm,x.ti⟩,Qaa (HD5.out.set 1 (.string u5) rfl ⟨HD5.out.ok.k,HD5.out.ok.v,HD5.out.ok.wt,HD5.out.ok.ti,(show u5.size<=_ by unfold maxLen;omega),HD5.out.ok.wd⟩)⟩
       ·go_wp2_with fail
        have aL:Below w9.heap.size w9 (w9.alloc (.cells #[.int .u64 0,.int .u64 1000000,.int .u64 1000001,.int .u64 777777] 26)):=(ZZb _ _).alloc (ZZa _) _;have HL:=Qaa (ZZk w9 (.cells #[.int .u64 0,.int .u64 1000000,.int .u64 1000001,.int .u64 777777] 26));have HDL:=Qaa (HD9.out.past aL);have hzL:(w9.alloc (.cells #[.int .u64 0,.int .u64 1000000,.int .u64 1000001,.int .u64 777777] 26)).heap.size=w9.heap.size+1:=by simp
        have hbl:=(ZZc.1 HD9.out.row).1;have hsl:=Qdm HD9.out.src;clear aL;generalize w9.alloc (.cells #[.int .u64 0,.int .u64 1000000,.int .u64 1000001,.int .u64 777777] 26)=WL at HL HDL hzL ⊢;refine (c_n HC.out HDL.out.src 4 (by omega)).mono ?_;rintro e w5 ⟨v5,rfl,a5,c5,_,hS5,hg5⟩;have c5:=c5 (by omega);have HD5:=Qaa (HDL.out.step hS5 hg5);have HL5:=Qaa ((hg5.block w9.heap.size (by omega) (fun e=>by cases e;omega)).trans HL.out);clear hS5 hg5;obtain ⟨l0,l1,l2,l3⟩:=cA4 HL5.out;obtain ⟨x0,x1,x2,x3,x4,x5,x6⟩:=Qau HD5.out.row;obtain ⟨f0,f1,f2,f3,f4,f5,f6⟩:=fA7 HD5.out.row;have h5:v5=0∨v5=1∨v5=2∨v5=3:=by omega
        clear a5 c5;rcases h5 with rfl | rfl | rfl | rfl
        ·go_wp2
         go_meet;exact ⟨rfl,⟨x.k,x.se,x.v,x.wd,0,x.tm,x.ti⟩,Qaa (HD5.out.set 4 (.int .u64 0) rfl ⟨HD5.out.ok.k,HD5.out.ok.v,(show U64 0 by unfold U64;omega),HD5.out.ok.ti,HD5.out.ok.se,HD5.out.ok.wd⟩)⟩
        ·go_wp2
         go_meet;exact ⟨rfl,⟨x.k,x.se,x.v,x.wd,1000000,x.tm,x.ti⟩,Qaa (HD5.out.set 4 (.int .u64 1000000) rfl ⟨HD5.out.ok.k,HD5.out.ok.v,(show U64 1000000 by unfold U64;omega),HD5.out.ok.ti,HD5.out.ok.se,HD5.out.ok.wd⟩)⟩
        ·go_wp2
         go_meet;exact ⟨rfl,⟨x.k,x.se,x.v,x.wd,1000001,x.tm,x.ti⟩,Qaa (HD5.out.set 4 (.int .u64 1000001) rfl ⟨HD5.out.ok.k,HD5.out.ok.v,(show U64 1000001 by unfold U64;omega),HD5.out.ok.ti,HD5.out.ok.se,HD5.out.ok.wd⟩)⟩
        ·go_wp2
         go_meet;exact ⟨rfl,⟨x.k,x.se,x.v,x.wd,777777,x.tm,x.ti⟩,Qaa (HD5.out.set 4 (.int .u64 777777) rfl ⟨HD5.out.ok.k,HD5.out.ok.v,(show U64 777777 by unfold U64;omega),HD5.out.ok.ti,HD5.out.ok.se,HD5.out.ok.wd⟩)⟩
       ·go_wp2_with fail
        have aL:Below w9.heap.size w9 (w9.alloc (.cells #[.int .i64 (-1),.int .i64 1000000000,.int .i64 1000000001] 2)):=(ZZb _ _).alloc (ZZa _) _;have HL:=Qaa (ZZk w9 (.cells #[.int .i64 (-1),.int .i64 1000000000,.int .i64 1000000001] 2));have HDL:=Qaa (HD9.out.past aL);have hzL:(w9.alloc (.cells #[.int .i64 (-1),.int .i64 1000000000,.int .i64 1000000001] 2)).heap.size=w9.heap.size+1:=by simp
        have hbl:=(ZZc.1 HD9.out.row).1;have hsl:=Qdm HD9.out.src;clear aL;generalize w9.alloc (.cells #[.int .i64 (-1),.int .i64 1000000000,.int .i64 1000000001] 2)=WL at HL HDL hzL ⊢;refine (c_n HC.out HDL.out.src 3 (by omega)).mono ?_;rintro e w5 ⟨v5,rfl,a5,c5,_,hS5,hg5⟩;have c5:=c5 (by omega);have HD5:=Qaa (HDL.out.step hS5 hg5);have HL5:=Qaa ((hg5.block w9.heap.size (by omega) (fun e=>by cases e;omega)).trans HL.out);clear hS5 hg5;have l0:=Qac HL5.out 0 rfl;have l1:=Qac HL5.out 1 rfl;have l2:=Qac HL5.out 2 rfl;obtain ⟨x0,x1,x2,x3,x4,x5,x6⟩:=Qau HD5.out.row;obtain ⟨f0,f1,f2,f3,f4,f5,f6⟩:=fA7 HD5.out.row;have h5:v5=0∨v5=1∨v5=2:=by omega
        clear a5 c5;rcases h5 with rfl | rfl | rfl
        ·go_wp2
         go_meet;exact ⟨rfl,⟨x.k,x.se,x.v,x.wd,x.wt,x.tm,(-1)⟩,Qaa (HD5.out.set 6 (.int .i64 (-1)) rfl ⟨HD5.out.ok.k,HD5.out.ok.v,HD5.out.ok.wt,(show I64 (-1) by unfold I64;omega),HD5.out.ok.se,HD5.out.ok.wd⟩)⟩
        ·go_wp2
         go_meet;exact ⟨rfl,⟨x.k,x.se,x.v,x.wd,x.wt,x.tm,1000000000⟩,Qaa (HD5.out.set 6 (.int .i64 1000000000) rfl ⟨HD5.out.ok.k,HD5.out.ok.v,HD5.out.ok.wt,(show I64 1000000000 by unfold I64;omega),HD5.out.ok.se,HD5.out.ok.wd⟩)⟩
        ·go_wp2
         go_meet;exact ⟨rfl,⟨x.k,x.se,x.v,x.wd,x.wt,x.tm,1000000001⟩,Qaa (HD5.out.set 6 (.int .i64 1000000001) rfl ⟨HD5.out.ok.k,HD5.out.ok.v,HD5.out.ok.wt,(show I64 1000000001 by unfold I64;omega),HD5.out.ok.se,HD5.out.ok.wd⟩)⟩
       ·have HD5:=HD9
        obtain ⟨x0,x1,x2,x3,x4,x5,x6⟩:=Qau HD5.out.row;obtain ⟨f0,f1,f2,f3,f4,f5,f6⟩:=fA7 HD5.out.row;go_wp2;go_meet;exact ⟨rfl,⟨x.k,x.se,x.v,⟨#[119]⟩,x.wt,x.tm,x.ti⟩,Qaa (HD5.out.set 3 (.string ⟨#[119]⟩) rfl ⟨HD5.out.ok.k,HD5.out.ok.v,HD5.out.ok.wt,HD5.out.ok.ti,HD5.out.ok.se,(show (⟨#[119]⟩:ByteArray).size<=_ by decide)⟩)⟩
       ·go_wp2_with fail
        refine (Qkz HC.out HD9.out.src).mono ?_;rintro e w5 ⟨v5,rfl,hv5,hS5,hg5⟩;have HD5:=Qaa (HD9.out.step hS5 hg5);clear hS5 hg5;obtain ⟨x0,x1,x2,x3,x4,x5,x6⟩:=Qau HD5.out.row;obtain ⟨f0,f1,f2,f3,f4,f5,f6⟩:=fA7 HD5.out.row;go_wp2;go_meet;exact ⟨rfl,⟨x.k,x.se,v5,x.wd,x.wt,x.tm,x.ti⟩,Qaa (HD5.out.set 2 (.int .i64 v5) rfl ⟨HD5.out.ok.k,hv5,HD5.out.ok.wt,HD5.out.ok.ti,HD5.out.ok.se,HD5.out.ok.wd⟩)⟩
     case rest=>
      clear HD HD4;obtain ⟨rfl,x,HD⟩:=hcut;obtain ⟨w10,hw10⟩:∃ w10,wc=w10:=⟨_,rfl⟩;rw [hw10] at HD ⊢;clear hw10;obtain ⟨x0,x1,x2,x3,x4,x5,x6⟩:=Qau HD.out.row;obtain ⟨z0,z1,z2,z3,z4,z5,z6⟩:=cA7 HD.out.res;obtain ⟨f0,f1,f2,f3,f4,f5,f6⟩:=fA7 HD.out.res;have hbn:¬ b=w.heap.size:=by have:=HD.out.lb;omega
      go_wp2;refine bodyPost_ret (v:=.agg (Qax x)) (by simp [results,Tryz.results37,go_sem,z0,z1,z2,z3,z4,z5,z6]) rfl ⟨x,rfl,HD.out.ok,?_,?_⟩
      ·refine Qbo (K:=w.heap.size) HD.out.src ?_ hs
       repeat (refine Below.setCell ?_ (by simp) _)
       exact ZZb _ _
      ·refine QaE HD.out.gr ?_
       repeat (refine Below.setCell ?_ (by simp) _)
       exact ZZb _ _
theorem SD.set7 {W:World} {B ln cap s:Nat} {ao:Option Addr} {w wr:World} {b:Nat} {x y:Sx} (h:SD W B ao ln cap s w wr b x) (oy:y.Ok):SD W B ao ln cap s w (((((((wr.setCell ⟨b,0,none⟩ (.int .i64 y.k)).setCell ⟨b,1,none⟩ (.string y.se)).setCell ⟨b,2,none⟩ (.int .i64 y.v)).setCell ⟨b,3,none⟩ (.string y.wd)).setCell ⟨b,4,none⟩ (.int .u64 y.wt)).setCell ⟨b,5,none⟩ (.bool y.tm)).setCell ⟨b,6,none⟩ (.int .i64 y.ti)) b y:=by
 have h0:=h.set (x':=⟨y.k,x.se,x.v,x.wd,x.wt,x.tm,x.ti⟩) 0 (.int .i64 y.k) rfl ⟨oy.k,h.ok.v,h.ok.wt,h.ok.ti,h.ok.se,h.ok.wd⟩;have h1:=h0.set (x':=⟨y.k,y.se,x.v,x.wd,x.wt,x.tm,x.ti⟩) 1 (.string y.se) rfl ⟨oy.k,h.ok.v,h.ok.wt,h.ok.ti,oy.se,h.ok.wd⟩;have h2:=h1.set (x':=⟨y.k,y.se,y.v,x.wd,x.wt,x.tm,x.ti⟩) 2 (.int .i64 y.v) rfl ⟨oy.k,oy.v,h.ok.wt,h.ok.ti,oy.se,h.ok.wd⟩;have h3:=h2.set (x':=⟨y.k,y.se,y.v,y.wd,x.wt,x.tm,x.ti⟩) 3 (.string y.wd) rfl ⟨oy.k,oy.v,h.ok.wt,h.ok.ti,oy.se,oy.wd⟩;have h4:=h3.set (x':=⟨y.k,y.se,y.v,y.wd,y.wt,x.tm,x.ti⟩) 4 (.int .u64 y.wt) rfl ⟨oy.k,oy.v,oy.wt,h.ok.ti,oy.se,oy.wd⟩;have h5:=h4.set (x':=⟨y.k,y.se,y.v,y.wd,y.wt,y.tm,x.ti⟩) 5 (.bool y.tm) rfl ⟨oy.k,oy.v,oy.wt,h.ok.ti,oy.se,oy.wd⟩;have h6:=h5.set (x':=⟨y.k,y.se,y.v,y.wd,y.wt,y.tm,y.ti⟩) 6 (.int .i64 y.ti) rfl ⟨oy.k,oy.v,oy.wt,oy.ti,oy.se,oy.wd⟩;exact h6
theorem QcQ {W w:World} {B ln cap s:Nat} {ao:Option Addr} (hc:Qbr W B ao ln) (h:Src W B ao ln cap s w) :
  Calls Tryz.prog 38 #[.pointer (some ⟨s,0,none⟩)] w fun e w'=>Qma W B ao ln cap s w e w':=by
 have HC:=Qaa hc;have hs:=Qdm h;have a0:Below w.heap.size w (w.alloc (.cells #[.int .i64 0,.string ⟨#[]⟩,.int .i64 0,.string ⟨#[]⟩,.int .u64 0,.bool false,.int .i64 0] 28)):=(ZZb _ _).alloc (ZZa _) _;have HS0:=Qaa (Qa7 h a0);have HR0:=Qaa (ZZk w (.cells #[.int .i64 0,.string ⟨#[]⟩,.int .i64 0,.string ⟨#[]⟩,.int .u64 0,.bool false,.int .i64 0] 28));have HG0:Hid (w.grownBy (w.alloc (.cells #[.int .i64 0,.string ⟨#[]⟩,.int .i64 0,.string ⟨#[]⟩,.int .u64 0,.bool false,.int .i64 0] 28)) (some s)):=(⟨a0.os,a0.tape,a0.output,a0.size,fun j hj _=>a0.block j hj⟩:w.grownBy _ (some s));have hz0:(w.alloc (.cells #[.int .i64 0,.string ⟨#[]⟩,.int .i64 0,.string ⟨#[]⟩,.int .u64 0,.bool false,.int .i64 0] 28)).heap.size=w.heap.size+1:=by simp
 clear hc h a0;go_enter Tryz.func38,Tryz.ntmps38;go_wp2_with fail;generalize w.alloc (.cells #[.int .i64 0,.string ⟨#[]⟩,.int .i64 0,.string ⟨#[]⟩,.int .u64 0,.bool false,.int .i64 0] 28)=W0 at HS0 HR0 HG0 hz0 ⊢;refine (Qed HC.out HS0.out).mono ?_;rintro e w3 ⟨x,rfl,ox,hS3,hg3⟩;have a3:Below w3.heap.size w3 (w3.alloc (.cells (Qax x) 28)):=(ZZb _ _).alloc (ZZa _) _;have z3:=hg3.size
 have HD:Hid (SD W B ao ln cap s w (w3.alloc (.cells (Qax x) 28)) w3.heap.size x):=by
  refine Qaa ⟨ZZk w3 _,?_,Qa7 hS3 a3,QaE (HG0.out.trans hg3) (a3.mono (by omega)),by omega,hs,ox⟩;exact (a3.block _ (by omega)).trans ((hg3.block _ (by omega) (fun e=>by cases e;omega)).trans HR0.out)
 clear hS3 hg3 a3 HS0 HR0 HG0 hz0 ox;go_upto_block 0 with fail;generalize w3.alloc (.cells (Qax x) 28)=W4 at HD ⊢;generalize w3.heap.size=b at HD z3 ⊢;clear z3
 go_cut [3] (fun p w'=>p=.pointer (some ⟨b,0,none⟩)/\∃ x,Hid (SD W B ao ln cap s w w' b x))
 case first=>
  go_wp2_with fail
  go_loopw [4] (fun i wr=>∃ (k:Nat) (y:Sx),k<=5/\i=.int .i64 k/\Hid (SD W B ao ln cap s w wr b y)) (fun i wr=>5 - (Go.RowKit.intOf i).toNat)
  case atStart=>exact ⟨0,x,by omega,rfl,HD⟩
  case round=>
   clear HD;obtain ⟨k,x,hk,rfl,HD⟩:=hrel;by_cases hk5:k<5
   ·have hk5i:(k:Int)<5:=by omega
    obtain ⟨x0,x1,x2,x3,x4,x5,x6⟩:=Qau HD.out.row;go_wp2_with fail;clear x0 x1 x2 x3 x4 x5 x6;refine (Qdv x.k x.se x.v x.wd x.wt x.tm x.ti HD.out.ok.se HD.out.ok.wd).mono ?_;rintro e w5 ⟨rfl,hb5⟩;have HD5:=Qaa (HD.out.past hb5);clear hb5 HD
    cases hB:Qbm x.k x.se x.v x.wd x.wt x.tm x.ti with
    | true=>
     go_wp2;go_meet;exact ⟨rfl,x,HD5⟩
    | false=>
     go_wp2_with fail;refine (Qed HC.out HD5.out.src).mono ?_;rintro e w6 ⟨y,rfl,oy,hS6,hg6⟩;have HD6:=Qaa (HD5.out.step hS6 hg6);have HD7:=Qaa (HD6.out.set7 oy);clear hS6 hg6;obtain ⟨x0,x1,x2,x3,x4,x5,x6⟩:=Qau HD6.out.row;obtain ⟨f0,f1,f2,f3,f4,f5,f6⟩:=fA7 HD6.out.row;go_wp2;go_roundw
     case rel=>exact ⟨k+1,y,by omega,by go_num,HD7⟩
     case measure=>simp [Go.RowKit.intOf];omega
   ·have hk5i:¬ ((k:Int)<5):=by omega
    go_wp2;go_meet;exact ⟨rfl,x,HD⟩
 case rest=>
  clear HD;obtain ⟨rfl,x,HD⟩:=hcut;obtain ⟨w7,hw7⟩:∃ w7,wc=w7:=⟨_,rfl⟩;rw [hw7] at HD ⊢;clear hw7;go_wp2_with fail;refine (Qh1 HC.out HD.out.src 12 (by omega)).mono ?_;rintro e w8 ⟨bb,rfl,hS8,hg8⟩;have HD8:=Qaa (HD.out.step hS8 hg8);clear hS8 hg8 HD
  cases bb with
  | true=>
   have HD:=HD8;clear HD8;obtain ⟨x0,x1,x2,x3,x4,x5,x6⟩:=Qau HD.out.row;obtain ⟨z0,z1,z2,z3,z4,z5,z6⟩:=cA7 HD.out.res;obtain ⟨f0,f1,f2,f3,f4,f5,f6⟩:=fA7 HD.out.res;have hbn:¬ b=w.heap.size:=by have:=HD.out.lb;omega
   go_wp2;refine bodyPost_ret (v:=.agg (Qax x)) (by simp [results,Tryz.results38,go_sem,z0,z1,z2,z3,z4,z5,z6]) rfl ⟨x,rfl,HD.out.ok,?_,?_⟩
   ·refine Qbo (K:=w.heap.size) HD.out.src ?_ hs
    repeat (refine Below.setCell ?_ (by simp) _)
    exact ZZb _ _
   ·refine QaE HD.out.gr ?_
    repeat (refine Below.setCell ?_ (by simp) _)
    exact ZZb _ _
  | false=>
   obtain ⟨kd,hkd⟩:∃ kd:Int,1+(x.se.size:Int) % 4=kd:=⟨_,rfl⟩;have kd1:1<=kd/\kd<=4:=by omega
   have hwk:IntKind.i64.wrap (1+(x.se.size:Int) % 4)=kd:=by rw [hkd];exact ZZi _ ⟨by omega,by omega⟩
   have hszx:=HD8.out.ok.se;unfold maxLen at hszx;obtain ⟨x0,x1,x2,x3,x4,x5,x6⟩:=Qau HD8.out.row;by_cases hke:x.k=kd
   ·have hke2:(x.k == kd)=true:=by simp [hke]
    clear x0 x1 x2 x3 x4 x5 x6;have HD:=HD8;clear HD8 hke;obtain ⟨x0,x1,x2,x3,x4,x5,x6⟩:=Qau HD.out.row;obtain ⟨z0,z1,z2,z3,z4,z5,z6⟩:=cA7 HD.out.res;obtain ⟨f0,f1,f2,f3,f4,f5,f6⟩:=fA7 HD.out.res;have hbn:¬ b=w.heap.size:=by have:=HD.out.lb;omega
    go_wp2;refine bodyPost_ret (v:=.agg (Qax x)) (by simp [results,Tryz.results38,go_sem,z0,z1,z2,z3,z4,z5,z6]) rfl ⟨x,rfl,HD.out.ok,?_,?_⟩
    ·refine Qbo (K:=w.heap.size) HD.out.src ?_ hs
     repeat (refine Below.setCell ?_ (by simp) _)
     exact ZZb _ _
    ·refine QaE HD.out.gr ?_
     repeat (refine Below.setCell ?_ (by simp) _)
     exact ZZb _ _
   ·have hke2:(x.k == kd)=false:=ZZf.2 hke
    clear hke;clear x0 x1 x2 x3 x4 x5 x6;obtain ⟨x0,x1,x2,x3,x4,x5,x6⟩:=Qau HD8.out.row;obtain ⟨f0,f1,f2,f3,f4,f5,f6⟩:=fA7 HD8.out.row;have i0:I64 kd:=Qcb (by omega) (by omega);by_cases h4:kd=4
    ·subst h4
     go_wp2_with fail;clear x0 x1 x2 x3 x4 x5 x6 f0 f1 f2 f3 f4 f5 f6;have HD9:=Qaa (((HD8.out.set (x':=⟨4,x.se,x.v,x.wd,x.wt,x.tm,x.ti⟩) 0 (.int .i64 4) rfl ⟨i0,HD8.out.ok.v,HD8.out.ok.wt,HD8.out.ok.ti,HD8.out.ok.se,HD8.out.ok.wd⟩).set (x':=⟨4,x.se,x.v,⟨#[]⟩,x.wt,x.tm,x.ti⟩) 3 (.string ⟨#[]⟩) rfl ⟨i0,HD8.out.ok.v,HD8.out.ok.wt,HD8.out.ok.ti,HD8.out.ok.se,(by show (0:Nat)<=_;omega)⟩).set (x':=⟨4,x.se,0,⟨#[]⟩,x.wt,x.tm,x.ti⟩) 2 (.int .i64 0) rfl ⟨i0,(show I64 (0:Int) from Qcb (by omega) (by omega)),HD8.out.ok.wt,HD8.out.ok.ti,HD8.out.ok.se,(by show (0:Nat)<=_;omega)⟩);clear HD8;refine (c_n HC.out HD9.out.src 5 (by omega)).mono ?_;rintro e w9 ⟨v9,rfl,a9,c9,_,hS9,hg9⟩;have c9:=c9 (by omega);have HDa:=Qaa (HD9.out.step hS9 hg9);clear hS9 hg9 HD9;obtain ⟨m9,rfl⟩:∃ m:Nat,v9=(m:Int):=⟨v9.toNat,by omega⟩;go_wp2_with fail;refine (c_decT m9 (by omega) _).mono ?_;rintro e w10 ⟨u,rfl,hu,hb10⟩;have HDb:=Qaa (HDa.out.past hb10);clear hb10 HDa;have hsu:(({ data:=#[119] }:ByteArray) ++ u).size<=31:=by rw [ByteArray.size_append];show 1+u.size<=31;omega
     obtain ⟨x0,x1,x2,x3,x4,x5,x6⟩:=Qau HDb.out.row;obtain ⟨f0,f1,f2,f3,f4,f5,f6⟩:=fA7 HDb.out.row;go_upto_region 17 with fail;clear x0 x1 x2 x3 x4 x5 x6 f0 f1 f2 f3 f4 f5 f6;have HD:=Qaa ((HDb.out.set (x':=⟨4,x.se,0,{ data:=#[119] } ++ u,x.wt,x.tm,x.ti⟩) 3 (.string ({ data:=#[119] } ++ u)) rfl ⟨i0,HDb.out.ok.v,HDb.out.ok.wt,HDb.out.ok.ti,HDb.out.ok.se,(by show (({ data:=#[119] }:ByteArray) ++ u).size<=_;unfold maxLen;omega)⟩).set (x':=⟨4,x.se,0,{ data:=#[119] } ++ u,1,x.tm,x.ti⟩) 4 (.int .u64 1) rfl ⟨i0,HDb.out.ok.v,(show U64 (1:Int) by unfold U64;omega),HDb.out.ok.ti,HDb.out.ok.se,(by show (({ data:=#[119] }:ByteArray) ++ u).size<=_;unfold maxLen;omega)⟩);clear HDb;generalize ((w10.setCell ⟨b,3,none⟩ (.string ({ data:=#[119] } ++ u))).setCell ⟨b,4,none⟩ (.int .u64 1))=wz at HD ⊢;generalize (⟨4,x.se,0,{ data:=#[119] } ++ u,1,x.tm,x.ti⟩:Sx)=y at HD;obtain ⟨x0,x1,x2,x3,x4,x5,x6⟩:=Qau HD.out.row;obtain ⟨z0,z1,z2,z3,z4,z5,z6⟩:=cA7 HD.out.res;obtain ⟨f0,f1,f2,f3,f4,f5,f6⟩:=fA7 HD.out.res;have hbn:¬ b=w.heap.size:=by have:=HD.out.lb;omega
     go_wp2;refine bodyPost_ret (v:=.agg (Qax y)) (by simp [results,Tryz.results38,go_sem,z0,z1,z2,z3,z4,z5,z6]) rfl ⟨y,rfl,HD.out.ok,?_,?_⟩
     ·refine Qbo (K:=w.heap.size) HD.out.src ?_ hs
      repeat (refine Below.setCell ?_ (by simp) _)
      exact ZZb _ _
     ·refine QaE HD.out.gr ?_
      repeat (refine Below.setCell ?_ (by simp) _)
      exact ZZb _ _
    ·have h4b:(kd == 4)=false:=ZZf.2 h4
     by_cases h2:kd=2
     ·subst h2
      clear h4;go_upto_region 17 with fail;clear x0 x1 x2 x3 x4 x5 x6 f0 f1 f2 f3 f4 f5 f6;have HD:=Qaa (((HD8.out.set (x':=⟨2,x.se,x.v,x.wd,x.wt,x.tm,x.ti⟩) 0 (.int .i64 2) rfl ⟨i0,HD8.out.ok.v,HD8.out.ok.wt,HD8.out.ok.ti,HD8.out.ok.se,HD8.out.ok.wd⟩).set (x':=⟨2,x.se,x.v,⟨#[]⟩,x.wt,x.tm,x.ti⟩) 3 (.string ⟨#[]⟩) rfl ⟨i0,HD8.out.ok.v,HD8.out.ok.wt,HD8.out.ok.ti,HD8.out.ok.se,(by show (0:Nat)<=_;omega)⟩).set (x':=⟨2,x.se,x.v,⟨#[]⟩,1,x.tm,x.ti⟩) 4 (.int .u64 1) rfl ⟨i0,HD8.out.ok.v,(show U64 (1:Int) by unfold U64;omega),HD8.out.ok.ti,HD8.out.ok.se,(by show (0:Nat)<=_;omega)⟩);clear HD8;generalize (((w8.setCell ⟨b,0,none⟩ (.int .i64 2)).setCell ⟨b,3,none⟩ (.string ⟨#[]⟩)).setCell ⟨b,4,none⟩ (.int .u64 1))=wz at HD ⊢;generalize (⟨2,x.se,x.v,⟨#[]⟩,1,x.tm,x.ti⟩:Sx)=y at HD;obtain ⟨x0,x1,x2,x3,x4,x5,x6⟩:=Qau HD.out.row;obtain ⟨z0,z1,z2,z3,z4,z5,z6⟩:=cA7 HD.out.res;obtain ⟨f0,f1,f2,f3,f4,f5,f6⟩:=fA7 HD.out.res;have hbn:¬ b=w.heap.size:=by have:=HD.out.lb;omega
      go_wp2;refine bodyPost_ret (v:=.agg (Qax y)) (by simp [results,Tryz.results38,go_sem,z0,z1,z2,z3,z4,z5,z6]) rfl ⟨y,rfl,HD.out.ok,?_,?_⟩
      ·refine Qbo (K:=w.heap.size) HD.out.src ?_ hs
       repeat (refine Below.setCell ?_ (by simp) _)
       exact ZZb _ _
      ·refine QaE HD.out.gr ?_
       repeat (refine Below.setCell ?_ (by simp) _)
       exact ZZb _ _
     ·have h2b:(kd == 2)=false:=ZZf.2 h2
      clear h4 h2;go_upto_region 17 with fail;clear x0 x1 x2 x3 x4 x5 x6 f0 f1 f2 f3 f4 f5 f6;have HD:=Qaa ((HD8.out.set (x':=⟨kd,x.se,x.v,x.wd,x.wt,x.tm,x.ti⟩) 0 (.int .i64 kd) rfl ⟨i0,HD8.out.ok.v,HD8.out.ok.wt,HD8.out.ok.ti,HD8.out.ok.se,HD8.out.ok.wd⟩).set (x':=⟨kd,x.se,x.v,⟨#[]⟩,x.wt,x.tm,x.ti⟩) 3 (.string ⟨#[]⟩) rfl ⟨i0,HD8.out.ok.v,HD8.out.ok.wt,HD8.out.ok.ti,HD8.out.ok.se,(by show (0:Nat)<=_;omega)⟩);clear HD8;generalize ((w8.setCell ⟨b,0,none⟩ (.int .i64 kd)).setCell ⟨b,3,none⟩ (.string ⟨#[]⟩))=wz at HD ⊢;generalize (⟨kd,x.se,x.v,⟨#[]⟩,x.wt,x.tm,x.ti⟩:Sx)=y at HD;obtain ⟨x0,x1,x2,x3,x4,x5,x6⟩:=Qau HD.out.row;obtain ⟨z0,z1,z2,z3,z4,z5,z6⟩:=cA7 HD.out.res;obtain ⟨f0,f1,f2,f3,f4,f5,f6⟩:=fA7 HD.out.res;have hbn:¬ b=w.heap.size:=by have:=HD.out.lb;omega
      go_wp2;refine bodyPost_ret (v:=.agg (Qax y)) (by simp [results,Tryz.results38,go_sem,z0,z1,z2,z3,z4,z5,z6]) rfl ⟨y,rfl,HD.out.ok,?_,?_⟩
      ·refine Qbo (K:=w.heap.size) HD.out.src ?_ hs
       repeat (refine Below.setCell ?_ (by simp) _)
       exact ZZb _ _
      ·refine QaE HD.out.gr ?_
       repeat (refine Below.setCell ?_ (by simp) _)
       exact ZZb _ _
end Go.Proofs.YthchmdmncmioiaaGreatDoor
