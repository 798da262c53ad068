/-
 Parts.
-/
import Derived.Test.YtandnmpllheniaaGreatDoorCCO
import Derived.Test.YtandnmpllheniaaGreatDoorCDA
import Derived.Deep.CutBlock
set_option linter.all false
set_option maxHeartbeats 8000000
namespace Go.Proofs.YtandnmpllheniaaGreatDoor
open Go.ChangeShapes Go.WideShapes Go.ChangeAt Go.RowKit Go.PlainAid
set_option maxRecDepth 10000 in
theorem Qi3 (N:Nat) (hN0:N≠0) (hN:N<=9223372036854775807) (w:World) :
  Calls Tryz.prog 76 #[.int .i64 N] w fun e w'=>e=.returned (.string ⟨(Lib.decDigits N).toArray⟩)/\Below w.heap.size w w':=by
 have ac:((N:Int) == 0)=false:=ZZf.2 (by omega);have ab:decide ((N:Int)<0)=false:=ZZg (by omega);go_enter Tryz.func76,Tryz.ntmps76;go_wp2
 go_loopw [0,4,5] (fun n o d wr=>∃ (m:Nat) (D:List UInt8),m<=N/\n=.int .i64 m/\o=.string ⟨D.toArray⟩/\QrE N m D/\Below w.heap.size w wr) (fun n o d wr=>(Go.RowKit.intOf n).toNat)
 case atStart=>exact ⟨N,[],Nat.le_refl _,rfl,rfl,⟨fun h=>absurd h hN0,fun _=>by simp⟩,Below.refl _ _⟩
 case round=>
  obtain ⟨m,D,hm,rfl,rfl,hR,aa⟩:=hrel;by_cases k:m=0
  ·subst k
   have HR:Hid (QrE N 0 D):=hR;clear hR;go_wp2;go_ret;exact ⟨QqP (by rw [HR.out.1 rfl]),aa⟩
  ·obtain ⟨d,hd⟩:∃ d,d=m % 10:=⟨_,rfl⟩
   obtain ⟨q,hq⟩:∃ q,q=m / 10:=⟨_,rfl⟩;have HR:Hid (QrE N q (UInt8.ofNat (48+d) :: D)):=by rw [hd,hq];exact QnR hR k
   have ae:=QoT hR (QqB N hN);have e1:Int.tmod (m:Int) 10=(d:Int):=by rw [hd];rfl
   have e2:Int.tdiv (m:Int) 10=(q:Int):=by rw [hq];rfl
   have hk:((m:Int) != 0)=true:=by simp;omega
   have ag:d<10:=by omega
   have ad:q<m:=by omega
   have e3:decide ((d:Int)<0)=false:=ZZg (by omega);have e4:IntKind.u8.wrap (48+(d:Int))=48+(d:Int):=IntWalk.u8_in _ ⟨by omega,by omega⟩;obtain ⟨B,hB⟩:∃ B,B=strOfNums [48+(d:Int)]:=⟨_,rfl⟩
   have kc:=run_convert_bytes_arg (P:=Tryz.prog) (wr.alloc (.cells #[.int .u8 (48+(d:Int))] 5)) 22 5 Tryz.underlying22 Tryz.underlying5 wr.heap.size 0 1 1 [48+(d:Int)] rfl (fun i hi=>by
      obtain rfl:i=0:=by omega
      simp) 9 Tryz.underlying9
   rw [<- hB] at kc;have af:B.size=1:=by rw [hB];rfl
   have HB:Hid (B ++ ⟨D.toArray⟩=(⟨(UInt8.ofNat (48+d) :: D).toArray⟩:ByteArray)):=(by
    rw [hB,<- Qrw];congr 1;:B ++ ⟨D.toArray⟩=(⟨(UInt8.ofNat (48+d) :: D).toArray⟩:ByteArray))
   have hD:(⟨D.toArray⟩:ByteArray).size=D.length:=rfl;have HL:Hid (Below w.heap.size w wr):=aa;have hz:=aa.size;clear hR hd hq k ac ab hB aa;go_wp2;go_roundw
   case rel=>exact ⟨q,UInt8.ofNat (48+d) :: D,by omega,rfl,by rw [HB.out],HR,HL.out.alloc (by omega) _⟩
   case measure=>simp [zI];omega
set_option maxRecDepth 10000
structure DL (W:World) (B:Nat) (ao:Option Addr) (ln cap s:Nat) (w wr:World) (v:Value) (L:List ByteArray):Prop where
 own:OwnT wr w.heap.size v L
 sz:∀ u∈L,u.size<=40
 src:Src W B ao ln cap s wr
 gr:w.grownBy wr (some s)
section
variable {W:World} {B ln cap s:Nat} {ao:Option Addr} {w wr:World} {v:Value} {L:List ByteArray}
theorem DL.step (h:DL W B ao ln cap s w wr v L) (hs:s<w.heap.size) {w1:World} (hS:Src W B ao ln cap s w1) (hg:wr.grownBy w1 (some s)):DL W B ao ln cap s w w1 v L:=by
 refine ⟨World.ownsRow.kept h.own hg ?_,h.sz,hS,h.gr.trans hg⟩
 cases e:v.ownBlock with
 | none=>exact .inl rfl
 | some k=>exact .inr (fun q=>by have:=(World.ownsRow.lt h.own k e).1;cases q;omega)
theorem DL.past (h:DL W B ao ln cap s w wr v L) (hs:s<w.heap.size) {w1:World} (hb:Below wr.heap.size wr w1):DL W B ao ln cap s w w1 v L:=
 h.step hs (Qbd h.src hb) ⟨hb.os,hb.tape,hb.output,hb.size,fun j hj _=>hb.block j hj⟩
theorem DL.app (h:DL W B ao ln cap s w wr v L) (hs:s<w.heap.size) {w1:World} {v':Value} {u:ByteArray} (hu:u.size<=40) {n:Nat} (ho:w1.ownsRow w.heap.size 9 1 v' n (L.map Value.string ++ [.string u])) (hg:wr.grownBy w1 v.ownBlock):DL W B ao ln cap s w w1 v' (L ++ [u]):=by
 have bel:Below w.heap.size wr w1:=⟨hg.os,hg.tape,hg.output,hg.size,fun j hj=>hg.block j (by have:=h.gr.size;omega) (fun e=>by have:=(World.ownsRow.lt h.own j e.symm).1;omega)⟩;refine ⟨OwnT.of ho (by simp),fun x hx=>?_,?_,?_⟩
 ·rcases List.mem_append.1 hx with hx | hx
  ·exact h.sz x hx
  ·obtain rfl:=List.mem_singleton.1 hx;exact hu
 ·obtain ⟨x,m,y,h0,h1,h2⟩:=h.src.blk
  exact ⟨h.src.bel.trans (bel.mono (Nat.le_trans h.src.hB (Nat.le_of_lt hs))),h.src.hB,x,m,y,by rw [bel.block s hs];exact h0,h1,h2⟩
 ·exact ⟨hg.os.trans h.gr.os,hg.tape.trans h.gr.tape,hg.output.trans h.gr.output,Nat.le_trans h.gr.size hg.size,fun j hj hne=>by rw [bel.block j hj];exact h.gr.block j hj hne⟩
end
theorem c_decT (N:Nat) (hN:N<=1000) (w:World):Calls Tryz.prog 76 #[.int .i64 N] w fun e w'=>∃ u,e=.returned (.string u)/\u.size<=30/\Below w.heap.size w w':=by
 by_cases h0:N=0
 ·subst h0
  go_enter Tryz.func76,Tryz.ntmps76;go_wp2;go_ret;exact ⟨_,rfl,by decide,ZZb _ _⟩
 ·refine (Qi3 N h0 (by omega) w).mono ?_
  rintro e w' ⟨rfl,hb⟩;refine ⟨_,rfl,?_,hb⟩;rw [<- QaC,QcD,Lib.decDigits_length];have:=Lib.nDigits_le20 N (by omega);omega
def isU:Value->Bool
 | .int .u64 y=>decide (0<=y) && decide (y<=18446744073709551615)
 | _=>false
theorem Qpt {W w:World} {B ln cap s:Nat} {ao:Option Addr} (hc:QbD W B ao ln) (h:Src W B ao ln cap s w) :
  Calls Tryz.prog 74 #[.pointer (some ⟨s,0,none⟩)] w fun e w'=>∃ v,e=.returned (.int .i64 v)/\I64 v/\Src W B ao ln cap s w'/\w.grownBy w' (some s):=by
 have HC:=Qaa hc;go_enter Tryz.func74,Tryz.ntmps74;go_wp2_with fail;refine (Qio HC h _ (by omega)).mono ?_;rintro e w1 ⟨b,rfl,am,aj⟩;have an:=Qaa am;have ag:=Qaa aj;clear am aj h hc
 cases b with
 | true=>
  go_wp2_with fail;refine (QlM HC an).mono ?_;rintro e w2 ⟨v,rfl,hI,ab,aa⟩;have ac:=Qaa ab;have ad:=Qaa (ag.out.trans aa);clear ab aa;go_wp2;go_ret;exact ⟨v,rfl,hI,ac,ad⟩
 | false=>
  go_wp2_with fail;refine (c_n HC an _ (by omega)).mono ?_;rintro e w2 ⟨v,rfl,v0,v1,_,ab,aa⟩;have v1:=v1 (by omega);have ac:=Qaa ab;have ad:=Qaa (ag.out.trans aa);clear ab aa;go_wp2_with fail;refine (c_n HC ac _ (by omega)).mono ?_;rintro e w3 ⟨k,rfl,k0,k1,_,ak,ai⟩;have k1:=k1 (by omega);have ap:=Qaa ak;have aq:=Qaa (ad.out.trans ai);clear ak ai;go_wp2_with fail;obtain ⟨k,rfl⟩:=Int.eq_ofNat_of_zero_le k0
  go_loop [3,4] (fun xv kv=>∃ (j:Nat) (x:Int),j<=8/\kv=.int .i64 j/\xv=.int .i64 x/\I64 x) (fun xv kv=>(Go.RowKit.intOf kv).toNat)
  case atStart=>exact ⟨k,v,by omega,rfl,rfl,by unfold I64;omega⟩
  case round=>
   clear v0 v1 k0 k1;obtain ⟨j,x,hj,rfl,rfl,hx⟩:=hrel;rcases Nat.eq_zero_or_pos j with h0 | h0
   ·subst h0
    go_wp2_with fail;refine (Qio HC ap _ (by omega)).mono ?_;rintro e w4 ⟨b,rfl,ae,ah⟩;have al:=Qaa ae;have af:=Qaa (aq.out.trans ah);clear ae ah;have hm:=QgN (-x)
    cases b with
    | true=>
     go_wp2;go_ret;exact ⟨_,rfl,by first | exact hm | (unfold I64 at *; omega),al,af⟩
    | false=>
     go_wp2;go_ret;exact ⟨_,rfl,hx,al,af⟩
   ·have ar:(0:Int)<(j:Int):=by omega
    have hm:=QgN (x*9);go_wp2
    go_round
    case rel=>exact ⟨j - 1,_,by omega,by congr 1;omega,rfl,hm⟩
    case measure=>simp [zI];omega
theorem QaH {w w1 w2:World} {r:Option Nat} (h:w.grownBy w1 r) (hb:Below w.heap.size w1 w2):w.grownBy w2 r:=
 ⟨hb.os.trans h.os,hb.tape.trans h.tape,hb.output.trans h.output,Nat.le_trans h.size hb.size,fun k hk hne=>by rw [hb.block k hk];exact h.block k hk hne⟩
theorem Qpq (name:ByteArray) (L:List ByteArray):(Qml name L).size<=100:=by
 have e0:ByteArray.empty.size<=100:=by decide
 unfold Qml
 split
 ·exact e0
 ·unfold Qeh
  split
  ·unfold Qeg
   split
   ·exact e0
   ·rename_i h;omega
  ·exact e0
theorem QiM {W w:World} {B ln cap s:Nat} {ao:Option Addr} (hc:QbD W B ao ln) (h:Src W B ao ln cap s w) :
  Calls Tryz.prog 73 #[.pointer (some ⟨s,0,none⟩)] w fun e w'=>∃ u,e=.returned (.string u)/\u.size<=100/\Src W B ao ln cap s w'/\w.grownBy w' (some s):=by
 obtain ⟨i0,hi,aA,ax,az⟩:=info_parts Qnn;have HC:=Qaa hc;have HS:=Qaa h;clear hc h;go_enter Tryz.func73,Tryz.ntmps73;go_wp2_with fail;refine (Qc2 HC HS 40 (by rfl) (by omega) (by omega) (by decide)).mono ?_;rintro e w2 ⟨ad,rfl,aE,ah,aj⟩;have aa:s<w2.heap.size:=QdQ ah;have ap:=Qaa aj;replace HS:=Qaa ah;clear ah aj;go_wp2_with fail;refine (c_n HC (Qbd HS ((ZZb _ _).alloc (ZZa _) (.cells #[] 9))) _ (by omega)).mono ?_;rintro e w3 ⟨kk,rfl,k0,k1,_,an,am⟩;have k1:=k1 (by omega)
 have D0:DL W B ao ln cap s w2 w3 (.slice (some ⟨w2.heap.size,0,none⟩) 0 0) []:=by
  have O0:OwnT (w2.alloc (.cells #[] 9)) w2.heap.size (.slice (some ⟨w2.heap.size,0,none⟩) 0 0) []:=World.ownsRow_made w2 #[] 0 (ZZa _) (ZZj _) rfl;have D1:DL W B ao ln cap s w2 (w2.alloc (.cells #[] 9)) (.slice (some ⟨w2.heap.size,0,none⟩) 0 0) []:=⟨O0,fun u hu=>absurd hu List.not_mem_nil,Qbd HS ((ZZb _ _).alloc (ZZa _) _),World.grownBy_alloc _ _ _⟩;exact D1.step aa an am
 have aq:=Qaa D0;clear D0 an am HS;obtain ⟨kn,rfl⟩:=Int.eq_ofNat_of_zero_le k0;have aB:kn<3:=by omega
 clear k0 k1;go_wp2_with fail
 go_loopw [4,5] (fun lv kv wr=>∃ (j:Nat) (lo:Option Addr) (n lc:Nat) (L:List ByteArray),kv=.int .i64 j/\j<=3/\lv=.slice lo n lc/\n+j<=3/\Hid (L.length=n/\DL W B ao ln cap s w2 wr (.slice lo n lc) L)) (fun lv kv wr=>(RowKit.intOf kv).toNat)
 case atStart=>exact ⟨kn,_,0,0,[],rfl,by omega,rfl,by omega,⟨rfl,aq⟩⟩
 case round=>
  clear aq;obtain ⟨j,lo,n,lc,L,rfl,hj,rfl,aF,HD⟩:=hrel;rcases Nat.eq_zero_or_pos j with h0 | h0
  ·subst h0
   go_wp2_with fail;refine (QiT ad lc n (by unfold maxLen;omega) HD.out.1 (by omega) (fun u hu=>by have:=HD.out.2.sz u hu;unfold maxLen;omega) HD.out.2.own.at).mono ?_;rintro e w4 ⟨rfl,ag⟩;have ay:=Qaa (Qbd HD.out.2.src ag);have au:=Qaa (QaH (ap.out.trans HD.out.2.gr) (ag.mono (Nat.le_trans ap.out.size HD.out.2.gr.size)));have ae:=Qpq ad L;clear ag HD;generalize Qml ad L=u at ae ⊢;go_wp2;go_ret;exact ⟨u,rfl,ae,ay,au⟩
  ·have aD:(0:Int)<(j:Int):=by omega
   have aC:IntKind.i64.wrap ((j:Int) - 1)=((j - 1:Nat):Int):=by rw [IntWalk.i64_in _ ⟨by omega,by omega⟩];omega
   have aG:n<=6:=by omega
   go_wp2_with (first
    | (go_at_call 72;refine (Qc2 HC HD.out.2.src 21 (by rfl) (by omega) (by omega) (by decide)).mono ?_;rintro e w4 ⟨u,rfl,hu,ak,al⟩;have ar:=Qaa (HD.out.2.step aa ak al);have af:=Qaa (ar.out.past aa ((ZZb _ _).alloc (ZZa _) (.cells #[.string u] 9)));have HN:=Qaa HD.out.1;clear ak al HD)
    | (at_builtin;refine wpList_append_own _ rfl (.tmp 16) (.tmp 20) 119 rfl w2.heap.size 9 i0 (.string ByteArray.empty) 1 16 Tryz.underlying119 hi aA ax az rfl (by decide) _ _ _ rfl af.out.own ⟨w4.heap.size,0,none⟩ 1 1 [.string u] rfl rfl (QaP (cs:=#[.string u]) rfl) (QaY [u]) (by have:=HN.out;unfold maxLen;omega) (by have:=HN.out;omega) af.out.gr.size ?_;intro v5 w5 ac ab ai;have av:=Qaa (af.out.app aa (show u.size<=40 by omega) ac ab);obtain ⟨aw,c5,rfl⟩:=Qam ac;clear ac ab ai))
   go_roundw
   case rel=>exact ⟨j - 1,aw,L.length+1,c5,L ++ [u],rfl,by omega,rfl,by have:=HN.out;omega,⟨by simp,av⟩⟩
   case measure=>simp [RowKit.intOf];omega
theorem Qbz {W w w':World} {B ln cap s K:Nat} {ao:Option Addr} (h:Src W B ao ln cap s w) (hb:Below K w w') (hs:s<K):Src W B ao ln cap s w':=by
 obtain ⟨a,m,z,hk,h1,h2⟩:=h.blk;exact ⟨h.bel.trans (hb.mono (Nat.le_trans h.hB (Nat.le_of_lt hs))),h.hB,a,m,z,by rw [hb.block s hs];exact hk,h1,h2⟩
theorem Qba {w:World} {r:Nat} {cs:Array Value} {T:TypeId} (h:w.heap[r]?=some (.cells cs T (0,0))) (j:Nat) {v:Value} (e:cs[j]?=some v):w.cell? ⟨r,j,none⟩=some v:=by rw [cell_of_row _ _ j _ _ (0,0) h];exact e
structure SD (W:World) (B:Nat) (ao:Option Addr) (ln cap s:Nat) (w wr:World) (b:Nat) (x:Sx):Prop where
 row:wr.heap[b]?=some (.cells (Qaz x) 28 (0,0))
 res:wr.heap[w.heap.size]?=some (.cells #[.int .i64 0,.string ⟨#[]⟩,.int .i64 0,.string ⟨#[]⟩,.int .u64 0,.bool false,.int .i64 0] 28 (0,0))
 src:Src W B ao ln cap s wr
 gr:w.grownBy wr (some s)
 lb:w.heap.size<b
 hs:s<w.heap.size
 ok:x.Ok
section
variable {W:World} {B ln cap s:Nat} {ao:Option Addr} {w wr:World} {b:Nat} {x:Sx}
theorem SD.step (h:SD W B ao ln cap s w wr b x) {w1:World} (hS:Src W B ao ln cap s w1) (hg:wr.grownBy w1 (some s)):SD W B ao ln cap s w w1 b x:=by
 have l1:=h.lb;have l2:=h.hs;exact ⟨(hg.block b (ZZc.1 h.row).1 (fun e=>by cases e;omega)).trans h.row,(hg.block _ (ZZc.1 h.res).1 (fun e=>by cases e;omega)).trans h.res,hS,h.gr.trans hg,h.lb,h.hs,h.ok⟩
theorem SD.past (h:SD W B ao ln cap s w wr b x) {w1:World} (hb:Below wr.heap.size wr w1):SD W B ao ln cap s w w1 b x:=
 h.step (Qbd h.src hb) ⟨hb.os,hb.tape,hb.output,hb.size,fun j hj _=>hb.block j hj⟩
theorem SD.set (h:SD W B ao ln cap s w wr b x) {x':Sx} (j:Nat) (u:Value) (e:(Qaz x).setIfInBounds j u=Qaz x') (ok:x'.Ok):SD W B ao ln cap s w (wr.setCell ⟨b,j,none⟩ u) b x':=by
 have l1:=h.lb;have l2:=h.hs;have hb:Below b wr (wr.setCell ⟨b,j,none⟩ u):=(Below.refl b wr).setCell (by simp) u;refine ⟨?_,(hb.block _ l1).trans h.res,Qbz h.src hb (by omega),QaH h.gr (hb.mono (by omega)),h.lb,h.hs,ok⟩;rw [<- e];exact ZZl wr b j _ _ u h.row
end
theorem Qaw {w:World} {b:Nat} {x:Sx} {T:TypeId} (h:w.heap[b]?=some (.cells (Qaz x) T (0,0))):w.cell? ⟨b,0,none⟩=some (.int .i64 x.k)/\w.cell? ⟨b,1,none⟩=some (.string x.se)/\w.cell? ⟨b,2,none⟩=some (.int .i64 x.v)/\w.cell? ⟨b,3,none⟩=some (.string x.wd)/\w.cell? ⟨b,4,none⟩=some (.int .u64 x.wt)/\w.cell? ⟨b,5,none⟩=some (.bool x.tm)/\w.cell? ⟨b,6,none⟩=some (.int .i64 x.ti):=
 ⟨Qba h 0 rfl,Qba h 1 rfl,Qba h 2 rfl,Qba h 3 rfl,Qba h 4 rfl,Qba h 5 rfl,Qba h 6 rfl⟩
theorem Qcz {v:Int} (h0:-1<=v) (h1:v<=2000000000):I64 v:=by unfold I64;omega
def QnS (W:World) (B:Nat) (ao:Option Addr) (ln cap s:Nat) (w:World) (e:Ending) (w':World):Prop:=∃ x:Sx,e=.returned (.agg (Qaz x))/\x.Ok/\Src W B ao ln cap s w'/\w.grownBy w' (some s)
theorem Qeu {W w:World} {B ln cap s:Nat} {ao:Option Addr} (hc:QbD W B ao ln) (h:Src W B ao ln cap s w) :
  Calls Tryz.prog 37 #[.pointer (some ⟨s,0,none⟩)] w fun e w'=>QnS W B ao ln cap s w e w':=by
 have HC:=Qaa hc;have hs:=QdQ h;have a0:Below w.heap.size w (w.alloc (.cells #[.int .i64 0,.string ⟨#[]⟩,.int .i64 0,.string ⟨#[]⟩,.int .u64 0,.bool false,.int .i64 0] 28)):=(ZZb _ _).alloc (ZZa _) _;have am:=Qaa (Qbd h a0);have al:=Qaa (ZZk w (.cells #[.int .i64 0,.string ⟨#[]⟩,.int .i64 0,.string ⟨#[]⟩,.int .u64 0,.bool false,.int .i64 0] 28));have ap:Hid (w.grownBy (w.alloc (.cells #[.int .i64 0,.string ⟨#[]⟩,.int .i64 0,.string ⟨#[]⟩,.int .u64 0,.bool false,.int .i64 0] 28)) (some s)):=(⟨a0.os,a0.tape,a0.output,a0.size,fun j hj _=>a0.block j hj⟩:w.grownBy _ (some s));have aM:(w.alloc (.cells #[.int .i64 0,.string ⟨#[]⟩,.int .i64 0,.string ⟨#[]⟩,.int .u64 0,.bool false,.int .i64 0] 28)).heap.size=w.heap.size+1:=by simp
 clear hc h a0;go_enter Tryz.func37,Tryz.ntmps37;go_wp2_with fail;generalize w.alloc (.cells #[.int .i64 0,.string ⟨#[]⟩,.int .i64 0,.string ⟨#[]⟩,.int .u64 0,.bool false,.int .i64 0] 28)=W0 at am al ap aM ⊢;refine (c_n HC am 4 (by omega)).mono ?_;rintro e w1 ⟨k0,rfl,k1,k2,_,az,aG⟩;have k2:=k2 (by omega);have aU:IntKind.i64.wrap (1+k0)=1+k0:=ZZi _ ⟨by omega,by omega⟩;have aK:=Qaa az;have aE:=Qaa aG;clear az aG;go_wp2_with fail;refine (QiM HC aK).mono ?_;rintro e w2 ⟨se,rfl,aT,aH,aC⟩;have aF:=Qaa aH;have aJ:=Qaa (aE.out.trans aC);clear aH aC aK aE;go_wp2_with fail;refine (Qio HC aF 2 (by omega)).mono ?_;rintro e w3 ⟨tm,rfl,ay,aw⟩;have ak:=Qaa (aJ.out.trans aw);have a3:Below w3.heap.size w3 (w3.alloc (.cells (Qaz ⟨1+k0,se,0,⟨#[]⟩,1,tm,0⟩) 28)):=(ZZb _ _).alloc (ZZa _) _;have z3:=ak.out.size
 have HD:Hid (SD W B ao ln cap s w (w3.alloc (.cells (Qaz ⟨1+k0,se,0,⟨#[]⟩,1,tm,0⟩) 28)) w3.heap.size ⟨1+k0,se,0,⟨#[]⟩,1,tm,0⟩):=by
  refine Qaa ⟨heap_alloc_new w3 _,?_,Qbd ay a3,QaH (ap.out.trans ak) (a3.mono (by omega)),by omega,hs,⟨Qcz (by show -1<=1+k0;omega) (by show 1+k0<=_;omega),Qcz (by show (-1:Int)<=0;omega) (by show (0:Int)<=_;omega),by show U64 1;unfold U64;omega,Qcz (by show (-1:Int)<=0;omega) (by show (0:Int)<=_;omega),by show se.size<=_;unfold maxLen;omega,by show (⟨#[]⟩:ByteArray).size<=_;decide⟩⟩;exact (a3.block _ (by omega)).trans ((ak.out.block _ (by omega) (fun e=>by cases e;omega)).trans al)
 clear ay aw a3 aF aJ ak am al ap aM;go_upto_if 13 with fail;generalize w3.alloc (.cells (Qaz ⟨1+k0,se,0,⟨#[]⟩,1,tm,0⟩) 28)=W4 at HD ⊢;generalize w3.heap.size=b at HD z3 ⊢;generalize hx0:(⟨1+k0,se,0,⟨#[]⟩,1,tm,0⟩:Sx)=x at HD;have aR:tm=x.tm:=by rw [<- hx0]
 subst aR;clear hx0 z3;obtain ⟨x0,x1,x2,x3,x4,x5,x6⟩:=Qaw HD.out.row
 go_cut [3] (fun p w'=>p=.pointer (some ⟨b,0,none⟩)/\∃ x,Hid (SD W B ao ln cap s w w' b x))
 case first=>
  cases ht:x.tm with
  | false=>
   rw [ht] at x5;go_wp2;go_meet;exact ⟨rfl,x,HD⟩
  | true=>
   rw [ht] at x5;go_wp2_with fail;refine (c_n HC HD.out.src 60 (by omega)).mono ?_;rintro e w5 ⟨v5,rfl,a5,c5,_,ac,ab⟩;have c5:=c5 (by omega);have aa:=Qaa (HD.out.step ac ab);clear ac ab x0 x1 x2 x3 x4 x5 x6;obtain ⟨x0,x1,x2,x3,x4,x5,x6⟩:=Qaw aa.out.row;obtain ⟨f0,f1,f2,f3,f4,f5,f6⟩:=fA7 aa.out.row;go_wp2;go_meet;exact ⟨rfl,⟨x.k,x.se,x.v,x.wd,x.wt,x.tm,v5⟩,Qaa (aa.out.set 6 (.int .i64 v5) rfl ⟨aa.out.ok.k,aa.out.ok.v,aa.out.ok.wt,(show I64 v5 from Qcz (by omega) (by omega)),aa.out.ok.se,aa.out.ok.wd⟩)⟩
 case rest=>
  clear HD x0 x1 x2 x3 x4 x5 x6;obtain ⟨rfl,x,HD⟩:=hcut;obtain ⟨w6,aI⟩:∃ w6,wc=w6:=⟨_,rfl⟩;rw [aI] at HD ⊢;clear aI;obtain ⟨x0,x1,x2,x3,x4,x5,x6⟩:=Qaw HD.out.row;go_upto_if 19 with fail
  go_cut [3] (fun p w'=>p=.pointer (some ⟨b,0,none⟩)/\∃ x,Hid (SD W B ao ln cap s w w' b x))
  case first=>
   by_cases h4:x.k=4
   ·have aq:(x.k == 4)=true:=by simp [h4]
    clear h4;go_wp2_with fail;refine (Qc2 HC HD.out.src 40 (by rfl) (by omega) (by omega) (by decide)).mono ?_;rintro e w5 ⟨u5,rfl,aO,ac,ab⟩;have aa:=Qaa (HD.out.step ac ab);clear ac ab x0 x1 x2 x3 x4 x5 x6;obtain ⟨x0,x1,x2,x3,x4,x5,x6⟩:=Qaw aa.out.row;obtain ⟨f0,f1,f2,f3,f4,f5,f6⟩:=fA7 aa.out.row;go_wp2;go_meet;exact ⟨rfl,⟨x.k,x.se,x.v,u5,x.wt,x.tm,x.ti⟩,Qaa (aa.out.set 3 (.string u5) rfl ⟨aa.out.ok.k,aa.out.ok.v,aa.out.ok.wt,aa.out.ok.ti,aa.out.ok.se,(show u5.size<=_ by unfold maxLen;omega)⟩)⟩
   ·have aq:(x.k == 4)=false:=ZZf.2 h4
    clear h4;go_wp2_with fail;refine (Qpt HC HD.out.src).mono ?_;rintro e w5 ⟨v5,rfl,an,ac,ab⟩;have aa:=Qaa (HD.out.step ac ab);clear ac ab x0 x1 x2 x3 x4 x5 x6;obtain ⟨x0,x1,x2,x3,x4,x5,x6⟩:=Qaw aa.out.row;obtain ⟨f0,f1,f2,f3,f4,f5,f6⟩:=fA7 aa.out.row;go_wp2;go_meet;exact ⟨rfl,⟨x.k,x.se,v5,x.wd,x.wt,x.tm,x.ti⟩,Qaa (aa.out.set 2 (.int .i64 v5) rfl ⟨aa.out.ok.k,an,aa.out.ok.wt,aa.out.ok.ti,aa.out.ok.se,aa.out.ok.wd⟩)⟩
  case rest=>
   clear HD x0 x1 x2 x3 x4 x5 x6;obtain ⟨rfl,x,HD⟩:=hcut;obtain ⟨w7,av⟩:∃ w7,wc=w7:=⟨_,rfl⟩;rw [av] at HD ⊢;clear av;obtain ⟨x0,x1,x2,x3,x4,x5,x6⟩:=Qaw HD.out.row;go_upto_region 7 with fail
   go_cut [3,38] (fun p c w'=>p=.pointer (some ⟨b,0,none⟩)/\(∃ bb,c=.bool bb)/\Hid (SD W B ao ln cap s w w' b x))
   case first=>
    by_cases h4:x.k=4
    ·have aq:(x.k != 4)=false:=by simp [h4]
     clear h4;go_wp2;go_meet;exact ⟨rfl,⟨false,rfl⟩,HD⟩
    ·have aq:(x.k != 4)=true:=by simp [h4]
     by_cases h2:x.k=2
     ·have aQ:(x.k != 2)=false:=by simp [h2]
      clear h4 h2;go_wp2;go_meet;exact ⟨rfl,⟨false,rfl⟩,HD⟩
     ·have aQ:(x.k != 2)=true:=by simp [h2]
      clear h4 h2;go_wp2_with fail;refine (Qio HC HD.out.src 3 (by omega)).mono ?_;rintro e w4 ⟨bb,rfl,ai,ah⟩;have ae:=Qaa (HD.out.step ai ah);clear ai ah x0 x1 x2 x3 x4 x5 x6
      cases bb with
      | false=>
       go_wp2;go_meet;exact ⟨rfl,⟨false,rfl⟩,ae⟩
      | true=>
       go_wp2;go_meet;exact ⟨rfl,⟨true,rfl⟩,ae⟩
   case rest=>
    obtain ⟨rfl,⟨bb,rfl⟩,ae⟩:=hcut;obtain ⟨w4,aA⟩:∃ w4,wc=w4:=⟨_,rfl⟩;rw [aA] at ae ⊢;clear aA HD x0 x1 x2 x3 x4 x5 x6;go_upto_if 38 with fail
    go_cut [3] (fun p w'=>p=.pointer (some ⟨b,0,none⟩)/\∃ x,Hid (SD W B ao ln cap s w w' b x))
    case first=>
      cases bb with
      | false=>
       go_wp2;go_meet;exact ⟨rfl,x,ae⟩
      | true=>
       go_wp2_with fail;refine (c_n HC ae.out.src 20 (by omega)).mono ?_;rintro e w5 ⟨v5,rfl,a5,c5,_,ac,ab⟩;have c5:=c5 (by omega);have aa:=Qaa (ae.out.step ac ab);have aS:IntKind.i64.wrap (1+v5)=1+v5:=ZZi _ ⟨by omega,by omega⟩;have aV:IntKind.u64.wrap (1+v5)=1+v5:=by rw [IntKind.wrap_u64];omega
       clear ac ab;obtain ⟨x0,x1,x2,x3,x4,x5,x6⟩:=Qaw aa.out.row;obtain ⟨f0,f1,f2,f3,f4,f5,f6⟩:=fA7 aa.out.row;go_wp2;go_meet;exact ⟨rfl,⟨x.k,x.se,x.v,x.wd,1+v5,x.tm,x.ti⟩,Qaa (aa.out.set 4 (.int .u64 (1+v5)) rfl ⟨aa.out.ok.k,aa.out.ok.v,(show U64 (1+v5) by unfold U64;omega),aa.out.ok.ti,aa.out.ok.se,aa.out.ok.wd⟩)⟩
    case rest=>
     clear ae;obtain ⟨rfl,x,HD⟩:=hcut;obtain ⟨w8,aB⟩:∃ w8,wc=w8:=⟨_,rfl⟩;rw [aB] at HD ⊢;clear aB;obtain ⟨x0,x1,x2,x3,x4,x5,x6⟩:=Qaw HD.out.row;go_wp2_with fail;refine (Qio HC HD.out.src 20 (by omega)).mono ?_;rintro e w4 ⟨bb,rfl,ai,ah⟩;have ae:=Qaa (HD.out.step ai ah);clear ai ah x0 x1 x2 x3 x4 x5 x6;go_upto_if 45 with fail
     go_cut [3] (fun p w'=>p=.pointer (some ⟨b,0,none⟩)/\∃ x,Hid (SD W B ao ln cap s w w' b x))
     case first=>
      cases bb with
      | false=>
       go_wp2;go_meet;exact ⟨rfl,x,ae⟩
      | true=>
       go_wp2_with fail;refine (c_n HC ae.out.src 6 (by omega)).mono ?_;rintro e w9 ⟨v9,rfl,a9,c9,_,ax,aD⟩;have c9:=c9 (by omega);have ad:=Qaa (ae.out.step ax aD);clear ax aD;have h9:v9=0∨v9=1∨v9=2∨v9=3∨v9=4∨v9=5:=by omega
       clear a9 c9;rcases h9 with rfl | rfl | rfl | rfl | rfl | rfl
       ·go_wp2_with fail
        refine (c_n HC ad.out.src 6 (by omega)).mono ?_;rintro e w5 ⟨v5,rfl,a5,c5,_,ac,ab⟩;have c5:=c5 (by omega);have aa:=Qaa (ad.out.step ac ab);clear ac ab;obtain ⟨x0,x1,x2,x3,x4,x5,x6⟩:=Qaw aa.out.row;obtain ⟨f0,f1,f2,f3,f4,f5,f6⟩:=fA7 aa.out.row;go_wp2;go_meet;exact ⟨rfl,⟨v5,x.se,x.v,x.wd,x.wt,x.tm,x.ti⟩,Qaa (aa.out.set 0 (.int .i64 v5) rfl ⟨(show I64 v5 from Qcz (by omega) (by omega)),aa.out.ok.v,aa.out.ok.wt,aa.out.ok.ti,aa.out.ok.se,aa.out.ok.wd⟩)⟩
       ·go_wp2_with fail
        refine (Qc2 HC ad.out.src 40 (by rfl) (by omega) (by omega) (by decide)).mono ?_;rintro e w5 ⟨u5,rfl,aO,ac,ab⟩;have aa:=Qaa (ad.out.step ac ab);clear ac ab;obtain ⟨x0,x1,x2,x3,x4,x5,x6⟩:=Qaw aa.out.row;obtain ⟨f0,f1,f2,f3,f4,f5,f6⟩:=fA7 aa.out.row;go_wp2;go_meet;exact ⟨rfl,⟨x.k,u5,x.v,x.wd,x.wt,x.tm,x.ti⟩,Qaa (aa.out.set 1 (.string u5) rfl ⟨aa.out.ok.k,aa.out.ok.v,aa.out.ok.wt,aa.out.ok.ti,(show u5.size<=_ by unfold maxLen;omega),aa.out.ok.wd⟩)⟩
       ·go_wp2_with fail
        have aL:Below w9.heap.size w9 (w9.alloc (.cells #[.int .u64 0,.int .u64 1000000,.int .u64 1000001,.int .u64 777777] 26)):=(ZZb _ _).alloc (ZZa _) _;have HL:=Qaa (ZZk w9 (.cells #[.int .u64 0,.int .u64 1000000,.int .u64 1000001,.int .u64 777777] 26));have af:=Qaa (ad.out.past aL);have ar:(w9.alloc (.cells #[.int .u64 0,.int .u64 1000000,.int .u64 1000001,.int .u64 777777] 26)).heap.size=w9.heap.size+1:=by simp
        have aN:=(ZZc.1 ad.out.row).1;have aP:=QdQ ad.out.src;clear aL;generalize w9.alloc (.cells #[.int .u64 0,.int .u64 1000000,.int .u64 1000001,.int .u64 777777] 26)=WL at HL af ar ⊢;refine (c_n HC af.out.src 4 (by omega)).mono ?_;rintro e w5 ⟨v5,rfl,a5,c5,_,ac,ab⟩;have c5:=c5 (by omega);have aa:=Qaa (af.out.step ac ab);have aj:=Qaa ((ab.block w9.heap.size (by omega) (fun e=>by cases e;omega)).trans HL);clear ac ab;obtain ⟨l0,l1,l2,l3⟩:=cA4 aj;obtain ⟨x0,x1,x2,x3,x4,x5,x6⟩:=Qaw aa.out.row;obtain ⟨f0,f1,f2,f3,f4,f5,f6⟩:=fA7 aa.out.row;have h5:v5=0∨v5=1∨v5=2∨v5=3:=by omega
        clear a5 c5;rcases h5 with rfl | rfl | rfl | rfl
        ·go_wp2
         go_meet;exact ⟨rfl,⟨x.k,x.se,x.v,x.wd,0,x.tm,x.ti⟩,Qaa (aa.out.set 4 (.int .u64 0) rfl ⟨aa.out.ok.k,aa.out.ok.v,(show U64 0 by unfold U64;omega),aa.out.ok.ti,aa.out.ok.se,aa.out.ok.wd⟩)⟩
        ·go_wp2
         go_meet;exact ⟨rfl,⟨x.k,x.se,x.v,x.wd,1000000,x.tm,x.ti⟩,Qaa (aa.out.set 4 (.int .u64 1000000) rfl ⟨aa.out.ok.k,aa.out.ok.v,(show U64 1000000 by unfold U64;omega),aa.out.ok.ti,aa.out.ok.se,aa.out.ok.wd⟩)⟩
        ·go_wp2
         go_meet;exact ⟨rfl,⟨x.k,x.se,x.v,x.wd,1000001,x.tm,x.ti⟩,Qaa (aa.out.set 4 (.int .u64 1000001) rfl ⟨aa.out.ok.k,aa.out.ok.v,(show U64 1000001 by unfold U64;omega),aa.out.ok.ti,aa.out.ok.se,aa.out.ok.wd⟩)⟩
        ·go_wp2
         go_meet;exact ⟨rfl,⟨x.k,x.se,x.v,x.wd,777777,x.tm,x.ti⟩,Qaa (aa.out.set 4 (.int .u64 777777) rfl ⟨aa.out.ok.k,aa.out.ok.v,(show U64 777777 by unfold U64;omega),aa.out.ok.ti,aa.out.ok.se,aa.out.ok.wd⟩)⟩
       ·go_wp2_with fail
        have aL:Below w9.heap.size w9 (w9.alloc (.cells #[.int .i64 (-1),.int .i64 1000000000,.int .i64 1000000001] 2)):=(ZZb _ _).alloc (ZZa _) _;have HL:=Qaa (ZZk w9 (.cells #[.int .i64 (-1),.int .i64 1000000000,.int .i64 1000000001] 2));have af:=Qaa (ad.out.past aL);have ar:(w9.alloc (.cells #[.int .i64 (-1),.int .i64 1000000000,.int .i64 1000000001] 2)).heap.size=w9.heap.size+1:=by simp
        have aN:=(ZZc.1 ad.out.row).1;have aP:=QdQ ad.out.src;clear aL;generalize w9.alloc (.cells #[.int .i64 (-1),.int .i64 1000000000,.int .i64 1000000001] 2)=WL at HL af ar ⊢;refine (c_n HC af.out.src 3 (by omega)).mono ?_;rintro e w5 ⟨v5,rfl,a5,c5,_,ac,ab⟩;have c5:=c5 (by omega);have aa:=Qaa (af.out.step ac ab);have aj:=Qaa ((ab.block w9.heap.size (by omega) (fun e=>by cases e;omega)).trans HL);clear ac ab;have l0:=Qad aj 0 rfl;have l1:=Qad aj 1 rfl;have l2:=Qad aj 2 rfl;obtain ⟨x0,x1,x2,x3,x4,x5,x6⟩:=Qaw aa.out.row;obtain ⟨f0,f1,f2,f3,f4,f5,f6⟩:=fA7 aa.out.row;have h5:v5=0∨v5=1∨v5=2:=by omega
        clear a5 c5;rcases h5 with rfl | rfl | rfl
        ·go_wp2
         go_meet;exact ⟨rfl,⟨x.k,x.se,x.v,x.wd,x.wt,x.tm,(-1)⟩,Qaa (aa.out.set 6 (.int .i64 (-1)) rfl ⟨aa.out.ok.k,aa.out.ok.v,aa.out.ok.wt,(show I64 (-1) by unfold I64;omega),aa.out.ok.se,aa.out.ok.wd⟩)⟩
        ·go_wp2
         go_meet;exact ⟨rfl,⟨x.k,x.se,x.v,x.wd,x.wt,x.tm,1000000000⟩,Qaa (aa.out.set 6 (.int .i64 1000000000) rfl ⟨aa.out.ok.k,aa.out.ok.v,aa.out.ok.wt,(show I64 1000000000 by unfold I64;omega),aa.out.ok.se,aa.out.ok.wd⟩)⟩
        ·go_wp2
         go_meet;exact ⟨rfl,⟨x.k,x.se,x.v,x.wd,x.wt,x.tm,1000000001⟩,Qaa (aa.out.set 6 (.int .i64 1000000001) rfl ⟨aa.out.ok.k,aa.out.ok.v,aa.out.ok.wt,(show I64 1000000001 by unfold I64;omega),aa.out.ok.se,aa.out.ok.wd⟩)⟩
       ·have aa:=ad
        obtain ⟨x0,x1,x2,x3,x4,x5,x6⟩:=Qaw aa.out.row;obtain ⟨f0,f1,f2,f3,f4,f5,f6⟩:=fA7 aa.out.row;go_wp2;go_meet;exact ⟨rfl,⟨x.k,x.se,x.v,⟨#[119]⟩,x.wt,x.tm,x.ti⟩,Qaa (aa.out.set 3 (.string ⟨#[119]⟩) rfl ⟨aa.out.ok.k,aa.out.ok.v,aa.out.ok.wt,aa.out.ok.ti,aa.out.ok.se,(show (⟨#[119]⟩:ByteArray).size<=_ by decide)⟩)⟩
       ·go_wp2_with fail
        refine (QlM HC ad.out.src).mono ?_;rintro e w5 ⟨v5,rfl,an,ac,ab⟩;have aa:=Qaa (ad.out.step ac ab);clear ac ab;obtain ⟨x0,x1,x2,x3,x4,x5,x6⟩:=Qaw aa.out.row;obtain ⟨f0,f1,f2,f3,f4,f5,f6⟩:=fA7 aa.out.row;go_wp2;go_meet;exact ⟨rfl,⟨x.k,x.se,v5,x.wd,x.wt,x.tm,x.ti⟩,Qaa (aa.out.set 2 (.int .i64 v5) rfl ⟨aa.out.ok.k,an,aa.out.ok.wt,aa.out.ok.ti,aa.out.ok.se,aa.out.ok.wd⟩)⟩
     case rest=>
      clear HD ae;obtain ⟨rfl,x,HD⟩:=hcut;obtain ⟨au,ag⟩:∃ au,wc=au:=⟨_,rfl⟩;rw [ag] at HD ⊢;clear ag;obtain ⟨x0,x1,x2,x3,x4,x5,x6⟩:=Qaw HD.out.row;obtain ⟨z0,z1,z2,z3,z4,z5,z6⟩:=cA7 HD.out.res;obtain ⟨f0,f1,f2,f3,f4,f5,f6⟩:=fA7 HD.out.res;have aW:¬ b=w.heap.size:=by have:=HD.out.lb;omega
      go_wp2;refine bodyPost_ret (v:=.agg (Qaz x)) (by simp [results,Tryz.results37,go_sem,z0,z1,z2,z3,z4,z5,z6]) rfl ⟨x,rfl,HD.out.ok,?_,?_⟩
      ·refine Qbz (K:=w.heap.size) HD.out.src ?_ hs
       repeat (refine Below.setCell ?_ (by simp) _)
       exact ZZb _ _
      ·refine QaH HD.out.gr ?_
       repeat (refine Below.setCell ?_ (by simp) _)
       exact ZZb _ _
theorem SD.set7 {W:World} {B ln cap s:Nat} {ao:Option Addr} {w wr:World} {b:Nat} {x y:Sx} (h:SD W B ao ln cap s w wr b x) (oy:y.Ok):SD W B ao ln cap s w (((((((wr.setCell ⟨b,0,none⟩ (.int .i64 y.k)).setCell ⟨b,1,none⟩ (.string y.se)).setCell ⟨b,2,none⟩ (.int .i64 y.v)).setCell ⟨b,3,none⟩ (.string y.wd)).setCell ⟨b,4,none⟩ (.int .u64 y.wt)).setCell ⟨b,5,none⟩ (.bool y.tm)).setCell ⟨b,6,none⟩ (.int .i64 y.ti)) b y:=by
 have h0:=h.set (x':=⟨y.k,x.se,x.v,x.wd,x.wt,x.tm,x.ti⟩) 0 (.int .i64 y.k) rfl ⟨oy.k,h.ok.v,h.ok.wt,h.ok.ti,h.ok.se,h.ok.wd⟩;have h1:=h0.set (x':=⟨y.k,y.se,x.v,x.wd,x.wt,x.tm,x.ti⟩) 1 (.string y.se) rfl ⟨oy.k,h.ok.v,h.ok.wt,h.ok.ti,oy.se,h.ok.wd⟩;have h2:=h1.set (x':=⟨y.k,y.se,y.v,x.wd,x.wt,x.tm,x.ti⟩) 2 (.int .i64 y.v) rfl ⟨oy.k,oy.v,h.ok.wt,h.ok.ti,oy.se,h.ok.wd⟩;have h3:=h2.set (x':=⟨y.k,y.se,y.v,y.wd,x.wt,x.tm,x.ti⟩) 3 (.string y.wd) rfl ⟨oy.k,oy.v,h.ok.wt,h.ok.ti,oy.se,oy.wd⟩;have h4:=h3.set (x':=⟨y.k,y.se,y.v,y.wd,y.wt,x.tm,x.ti⟩) 4 (.int .u64 y.wt) rfl ⟨oy.k,oy.v,oy.wt,h.ok.ti,oy.se,oy.wd⟩;have h5:=h4.set (x':=⟨y.k,y.se,y.v,y.wd,y.wt,y.tm,x.ti⟩) 5 (.bool y.tm) rfl ⟨oy.k,oy.v,oy.wt,h.ok.ti,oy.se,oy.wd⟩;have h6:=h5.set (x':=⟨y.k,y.se,y.v,y.wd,y.wt,y.tm,y.ti⟩) 6 (.int .i64 y.ti) rfl ⟨oy.k,oy.v,oy.wt,oy.ti,oy.se,oy.wd⟩;exact h6
theorem Qc9 {W w:World} {B ln cap s:Nat} {ao:Option Addr} (hc:QbD W B ao ln) (h:Src W B ao ln cap s w) :
  Calls Tryz.prog 38 #[.pointer (some ⟨s,0,none⟩)] w fun e w'=>QnS W B ao ln cap s w e w':=by
 have HC:=Qaa hc;have hs:=QdQ h;have a0:Below w.heap.size w (w.alloc (.cells #[.int .i64 0,.string ⟨#[]⟩,.int .i64 0,.string ⟨#[]⟩,.int .u64 0,.bool false,.int .i64 0] 28)):=(ZZb _ _).alloc (ZZa _) _;have ah:=Qaa (Qbd h a0);have ag:=Qaa (ZZk w (.cells #[.int .i64 0,.string ⟨#[]⟩,.int .i64 0,.string ⟨#[]⟩,.int .u64 0,.bool false,.int .i64 0] 28));have al:Hid (w.grownBy (w.alloc (.cells #[.int .i64 0,.string ⟨#[]⟩,.int .i64 0,.string ⟨#[]⟩,.int .u64 0,.bool false,.int .i64 0] 28)) (some s)):=(⟨a0.os,a0.tape,a0.output,a0.size,fun j hj _=>a0.block j hj⟩:w.grownBy _ (some s));have aC:(w.alloc (.cells #[.int .i64 0,.string ⟨#[]⟩,.int .i64 0,.string ⟨#[]⟩,.int .u64 0,.bool false,.int .i64 0] 28)).heap.size=w.heap.size+1:=by simp
 clear hc h a0;go_enter Tryz.func38,Tryz.ntmps38;go_wp2_with fail;generalize w.alloc (.cells #[.int .i64 0,.string ⟨#[]⟩,.int .i64 0,.string ⟨#[]⟩,.int .u64 0,.bool false,.int .i64 0] 28)=W0 at ah ag al aC ⊢;refine (Qeu HC ah).mono ?_;rintro e w3 ⟨x,rfl,ox,ay,ae⟩;have a3:Below w3.heap.size w3 (w3.alloc (.cells (Qaz x) 28)):=(ZZb _ _).alloc (ZZa _) _;have z3:=ae.size
 have HD:Hid (SD W B ao ln cap s w (w3.alloc (.cells (Qaz x) 28)) w3.heap.size x):=by
  refine Qaa ⟨ZZk w3 _,?_,Qbd ay a3,QaH (al.out.trans ae) (a3.mono (by omega)),by omega,hs,ox⟩;exact (a3.block _ (by omega)).trans ((ae.block _ (by omega) (fun e=>by cases e;omega)).trans ag)
 clear ay ae a3 ah ag al aC ox;go_upto_block 0 with fail;generalize w3.alloc (.cells (Qaz x) 28)=W4 at HD ⊢;generalize w3.heap.size=b at HD z3 ⊢;clear z3
 go_cut [3] (fun p w'=>p=.pointer (some ⟨b,0,none⟩)/\∃ x,Hid (SD W B ao ln cap s w w' b x))
 case first=>
  go_wp2_with fail
  go_loopw [4] (fun i wr=>∃ (k:Nat) (y:Sx),k<=5/\i=.int .i64 k/\Hid (SD W B ao ln cap s w wr b y)) (fun i wr=>5 - (Go.RowKit.intOf i).toNat)
  case atStart=>exact ⟨0,x,by omega,rfl,HD⟩
  case round=>
   clear HD;obtain ⟨k,x,hk,rfl,HD⟩:=hrel;by_cases aG:k<5
   ·have ap:(k:Int)<5:=by omega
    obtain ⟨x0,x1,x2,x3,x4,x5,x6⟩:=Qaw HD.out.row;go_wp2_with fail;clear x0 x1 x2 x3 x4 x5 x6;refine (QdI x.k x.se x.v x.wd x.wt x.tm x.ti HD.out.ok.se HD.out.ok.wd).mono ?_;rintro e w5 ⟨rfl,aw⟩;have aj:=Qaa (HD.out.past aw);clear aw HD
    cases hB:QbA x.k x.se x.v x.wd x.wt x.tm x.ti with
    | true=>
     go_wp2;go_meet;exact ⟨rfl,x,aj⟩
    | false=>
     go_wp2_with fail;refine (Qeu HC aj.out.src).mono ?_;rintro e w6 ⟨y,rfl,oy,ar,aq⟩;have an:=Qaa (aj.out.step ar aq);have aF:=Qaa (an.out.set7 oy);clear ar aq;obtain ⟨x0,x1,x2,x3,x4,x5,x6⟩:=Qaw an.out.row;obtain ⟨f0,f1,f2,f3,f4,f5,f6⟩:=fA7 an.out.row;go_wp2;go_roundw
     case rel=>exact ⟨k+1,y,by omega,by go_num,aF⟩
     case measure=>simp [zI];omega
   ·have ap:¬ ((k:Int)<5):=by omega
    go_wp2;go_meet;exact ⟨rfl,x,HD⟩
 case rest=>
  clear HD;obtain ⟨rfl,x,HD⟩:=hcut;obtain ⟨w7,av⟩:∃ w7,wc=w7:=⟨_,rfl⟩;rw [av] at HD ⊢;clear av;go_wp2_with fail;refine (Qio HC HD.out.src 12 (by omega)).mono ?_;rintro e w8 ⟨bb,rfl,az,au⟩;have aa:=Qaa (HD.out.step az au);clear az au HD
  cases bb with
  | true=>
   have HD:=aa;clear aa;obtain ⟨x0,x1,x2,x3,x4,x5,x6⟩:=Qaw HD.out.row;obtain ⟨z0,z1,z2,z3,z4,z5,z6⟩:=cA7 HD.out.res;obtain ⟨f0,f1,f2,f3,f4,f5,f6⟩:=fA7 HD.out.res;have af:¬ b=w.heap.size:=by have:=HD.out.lb;omega
   go_wp2;refine bodyPost_ret (v:=.agg (Qaz x)) (by simp [results,Tryz.results38,go_sem,z0,z1,z2,z3,z4,z5,z6]) rfl ⟨x,rfl,HD.out.ok,?_,?_⟩
   ·refine Qbz (K:=w.heap.size) HD.out.src ?_ hs
    repeat (refine Below.setCell ?_ (by simp) _)
    exact ZZb _ _
   ·refine QaH HD.out.gr ?_
    repeat (refine Below.setCell ?_ (by simp) _)
    exact ZZb _ _
  | false=>
   obtain ⟨kd,aE⟩:∃ kd:Int,1+(x.se.size:Int) % 4=kd:=⟨_,rfl⟩;have aL:1<=kd/\kd<=4:=by omega
   have aI:IntKind.i64.wrap (1+(x.se.size:Int) % 4)=kd:=by rw [aE];exact ZZi _ ⟨by omega,by omega⟩
   have am:=aa.out.ok.se;unfold maxLen at am;obtain ⟨x0,x1,x2,x3,x4,x5,x6⟩:=Qaw aa.out.row;by_cases ad:x.k=kd
   ·have ai:(x.k == kd)=true:=by simp [ad]
    clear x0 x1 x2 x3 x4 x5 x6;have HD:=aa;clear aa ad;obtain ⟨x0,x1,x2,x3,x4,x5,x6⟩:=Qaw HD.out.row;obtain ⟨z0,z1,z2,z3,z4,z5,z6⟩:=cA7 HD.out.res;obtain ⟨f0,f1,f2,f3,f4,f5,f6⟩:=fA7 HD.out.res;have af:¬ b=w.heap.size:=by have:=HD.out.lb;omega
    go_wp2;refine bodyPost_ret (v:=.agg (Qaz x)) (by simp [results,Tryz.results38,go_sem,z0,z1,z2,z3,z4,z5,z6]) rfl ⟨x,rfl,HD.out.ok,?_,?_⟩
    ·refine Qbz (K:=w.heap.size) HD.out.src ?_ hs
     repeat (refine Below.setCell ?_ (by simp) _)
     exact ZZb _ _
    ·refine QaH HD.out.gr ?_
     repeat (refine Below.setCell ?_ (by simp) _)
     exact ZZb _ _
   ·have ai:(x.k == kd)=false:=ZZf.2 ad
    clear ad;clear x0 x1 x2 x3 x4 x5 x6;obtain ⟨x0,x1,x2,x3,x4,x5,x6⟩:=Qaw aa.out.row;obtain ⟨f0,f1,f2,f3,f4,f5,f6⟩:=fA7 aa.out.row;have i0:I64 kd:=Qcz (by omega) (by omega);by_cases h4:kd=4
    ·subst h4
     go_wp2_with fail;clear x0 x1 x2 x3 x4 x5 x6 f0 f1 f2 f3 f4 f5 f6;have ak:=Qaa (((aa.out.set (x':=⟨4,x.se,x.v,x.wd,x.wt,x.tm,x.ti⟩) 0 (.int .i64 4) rfl ⟨i0,aa.out.ok.v,aa.out.ok.wt,aa.out.ok.ti,aa.out.ok.se,aa.out.ok.wd⟩).set (x':=⟨4,x.se,x.v,⟨#[]⟩,x.wt,x.tm,x.ti⟩) 3 (.string ⟨#[]⟩) rfl ⟨i0,aa.out.ok.v,aa.out.ok.wt,aa.out.ok.ti,aa.out.ok.se,(by show (0:Nat)<=_;omega)⟩).set (x':=⟨4,x.se,0,⟨#[]⟩,x.wt,x.tm,x.ti⟩) 2 (.int .i64 0) rfl ⟨i0,(show I64 (0:Int) from Qcz (by omega) (by omega)),aa.out.ok.wt,aa.out.ok.ti,aa.out.ok.se,(by show (0:Nat)<=_;omega)⟩);clear aa;refine (c_n HC ak.out.src 5 (by omega)).mono ?_;rintro e w9 ⟨v9,rfl,a9,c9,_,ax,aA⟩;have c9:=c9 (by omega);have aB:=Qaa (ak.out.step ax aA);clear ax aA ak;obtain ⟨m9,rfl⟩:∃ m:Nat,v9=(m:Int):=⟨v9.toNat,by omega⟩;go_wp2_with fail;refine (c_decT m9 (by omega) _).mono ?_;rintro e aD ⟨u,rfl,hu,ac⟩;have ab:=Qaa (aB.out.past ac);clear ac aB;have aJ:(({ data:=#[119] }:ByteArray) ++ u).size<=31:=by rw [ByteArray.size_append];show 1+u.size<=31;omega
     obtain ⟨x0,x1,x2,x3,x4,x5,x6⟩:=Qaw ab.out.row;obtain ⟨f0,f1,f2,f3,f4,f5,f6⟩:=fA7 ab.out.row;go_upto_region 17 with fail;clear x0 x1 x2 x3 x4 x5 x6 f0 f1 f2 f3 f4 f5 f6;have HD:=Qaa ((ab.out.set (x':=⟨4,x.se,0,{ data:=#[119] } ++ u,x.wt,x.tm,x.ti⟩) 3 (.string ({ data:=#[119] } ++ u)) rfl ⟨i0,ab.out.ok.v,ab.out.ok.wt,ab.out.ok.ti,ab.out.ok.se,(by show (({ data:=#[119] }:ByteArray) ++ u).size<=_;unfold maxLen;omega)⟩).set (x':=⟨4,x.se,0,{ data:=#[119] } ++ u,1,x.tm,x.ti⟩) 4 (.int .u64 1) rfl ⟨i0,ab.out.ok.v,(show U64 (1:Int) by unfold U64;omega),ab.out.ok.ti,ab.out.ok.se,(by show (({ data:=#[119] }:ByteArray) ++ u).size<=_;unfold maxLen;omega)⟩);clear ab;generalize ((aD.setCell ⟨b,3,none⟩ (.string ({ data:=#[119] } ++ u))).setCell ⟨b,4,none⟩ (.int .u64 1))=wz at HD ⊢;generalize (⟨4,x.se,0,{ data:=#[119] } ++ u,1,x.tm,x.ti⟩:Sx)=y at HD;obtain ⟨x0,x1,x2,x3,x4,x5,x6⟩:=Qaw HD.out.row;obtain ⟨z0,z1,z2,z3,z4,z5,z6⟩:=cA7 HD.out.res;obtain ⟨f0,f1,f2,f3,f4,f5,f6⟩:=fA7 HD.out.res;have af:¬ b=w.heap.size:=by have:=HD.out.lb;omega
     go_wp2;refine bodyPost_ret (v:=.agg (Qaz y)) (by simp [results,Tryz.results38,go_sem,z0,z1,z2,z3,z4,z5,z6]) rfl ⟨y,rfl,HD.out.ok,?_,?_⟩
     ·refine Qbz (K:=w.heap.size) HD.out.src ?_ hs
      repeat (refine Below.setCell ?_ (by simp) _)
      exact ZZb _ _
     ·refine QaH HD.out.gr ?_
      repeat (refine Below.setCell ?_ (by simp) _)
      exact ZZb _ _
    ·have aK:(kd == 4)=false:=ZZf.2 h4
     by_cases h2:kd=2
     ·subst h2
      clear h4;go_upto_region 17 with fail;clear x0 x1 x2 x3 x4 x5 x6 f0 f1 f2 f3 f4 f5 f6;have HD:=Qaa (((aa.out.set (x':=⟨2,x.se,x.v,x.wd,x.wt,x.tm,x.ti⟩) 0 (.int .i64 2) rfl ⟨i0,aa.out.ok.v,aa.out.ok.wt,aa.out.ok.ti,aa.out.ok.se,aa.out.ok.wd⟩).set (x':=⟨2,x.se,x.v,⟨#[]⟩,x.wt,x.tm,x.ti⟩) 3 (.string ⟨#[]⟩) rfl ⟨i0,aa.out.ok.v,aa.out.ok.wt,aa.out.ok.ti,aa.out.ok.se,(by show (0:Nat)<=_;omega)⟩).set (x':=⟨2,x.se,x.v,⟨#[]⟩,1,x.tm,x.ti⟩) 4 (.int .u64 1) rfl ⟨i0,aa.out.ok.v,(show U64 (1:Int) by unfold U64;omega),aa.out.ok.ti,aa.out.ok.se,(by show (0:Nat)<=_;omega)⟩);clear aa;generalize (((w8.setCell ⟨b,0,none⟩ (.int .i64 2)).setCell ⟨b,3,none⟩ (.string ⟨#[]⟩)).setCell ⟨b,4,none⟩ (.int .u64 1))=wz at HD ⊢;generalize (⟨2,x.se,x.v,⟨#[]⟩,1,x.tm,x.ti⟩:Sx)=y at HD;obtain ⟨x0,x1,x2,x3,x4,x5,x6⟩:=Qaw HD.out.row;obtain ⟨z0,z1,z2,z3,z4,z5,z6⟩:=cA7 HD.out.res;obtain ⟨f0,f1,f2,f3,f4,f5,f6⟩:=fA7 HD.out.res;have af:¬ b=w.heap.size:=by have:=HD.out.lb;omega
      go_wp2;refine bodyPost_ret (v:=.agg (Qaz y)) (by simp [results,Tryz.results38,go_sem,z0,z1,z2,z3,z4,z5,z6]) rfl ⟨y,rfl,HD.out.ok,?_,?_⟩
      ·refine Qbz (K:=w.heap.size) HD.out.src ?_ hs
       repeat (refine Below.setCell ?_ (by simp) _)
       exact ZZb _ _
      ·refine QaH HD.out.gr ?_
       repeat (refine Below.setCell ?_ (by simp) _)
       exact ZZb _ _
     ·have aH:(kd == 2)=false:=ZZf.2 h2
      clear h4 h2;go_upto_region 17 with fail;clear x0 x1 x2 x3 x4 x5 x6 f0 f1 f2 f3 f4 f5 f6;have HD:=Qaa ((aa.out.set (x':=⟨kd,x.se,x.v,x.wd,x.wt,x.tm,x.ti⟩) 0 (.int .i64 kd) rfl ⟨i0,aa.out.ok.v,aa.out.ok.wt,aa.out.ok.ti,aa.out.ok.se,aa.out.ok.wd⟩).set (x':=⟨kd,x.se,x.v,⟨#[]⟩,x.wt,x.tm,x.ti⟩) 3 (.string ⟨#[]⟩) rfl ⟨i0,aa.out.ok.v,aa.out.ok.wt,aa.out.ok.ti,aa.out.ok.se,(by show (0:Nat)<=_;omega)⟩);clear aa;generalize ((w8.setCell ⟨b,0,none⟩ (.int .i64 kd)).setCell ⟨b,3,none⟩ (.string ⟨#[]⟩))=wz at HD ⊢;generalize (⟨kd,x.se,x.v,⟨#[]⟩,x.wt,x.tm,x.ti⟩:Sx)=y at HD;obtain ⟨x0,x1,x2,x3,x4,x5,x6⟩:=Qaw HD.out.row;obtain ⟨z0,z1,z2,z3,z4,z5,z6⟩:=cA7 HD.out.res;obtain ⟨f0,f1,f2,f3,f4,f5,f6⟩:=fA7 HD.out.res;have af:¬ b=w.heap.size:=by have:=HD.out.lb;omega
      go_wp2;refine bodyPost_ret (v:=.agg (Qaz y)) (by simp [results,Tryz.results38,go_sem,z0,z1,z2,z3,z4,z5,z6]) rfl ⟨y,rfl,HD.out.ok,?_,?_⟩
      ·refine Qbz (K:=w.heap.size) HD.out.src ?_ hs
       repeat (refine Below.setCell ?_ (by simp) _)
       exact ZZb _ _
      ·refine QaH HD.out.gr ?_
       repeat (refine Below.setCell ?_ (by simp) _)
       exact ZZb _ _
end Go.Proofs.YtandnmpllheniaaGreatDoor
