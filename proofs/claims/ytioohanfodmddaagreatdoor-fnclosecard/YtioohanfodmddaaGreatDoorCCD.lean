/-
 Parts.
-/
import Derived.Test.YtioohanfodmddaaGreatDoorCCB
import Derived.Test.YtioohanfodmddaaGreatDoorCSD
set_option maxHeartbeats 16000000
set_option linter.all false
namespace Go.Proofs.YtioohanfodmddaaGreatDoor
open Go.ChangeShapes Go.WideShapes Go.ChangeAt Go.RowKit Go.PlainAid Go.Lib Tryz
set_option maxRecDepth 10000
theorem mAq {p:Prop} (h:p:=by
 refine tkS 21 (.bool true) aa ?_;refine tkS 22 (.bool true) aa ?_;simp only [sX];refine tkU 23 aa ?_;refine tkU 24 aa ?_;refine tkU 25 aa ?_;simp only [sX];refine tkU 26 aa ?_;refine tkU 27 aa ?_;refine tkU 28 aa ?_;simp only [sX];refine tkU 29 aa ?_;refine tkU 30 aa ?_;refine tkU 31 aa ?_;simp only [sX];refine tkU 32 aa ?_;refine tkU 33 aa ?_;refine tkU 34 aa ?_;simp only [sX];refine onE 35 fun K hK=>?_;refine Eq.mpr (if_neg (fun h=>Bool.noConfusion (show false=true from h))) ?_;refine gK hK aa.out ?_
 try simp only [sX]
 refine tkU 36 aa ?_;refine tkU 37 aa ?_;refine tkS 38 (.bool true) aa ?_;simp only [sX];refine dnE ?_ _;go_wp2;go_meet;exact ⟨by rw [HR.out],Qaa (Qac ae aa)⟩):p:=h
def ahP:Option Ce->Ce->Bool
 | none,_=>true
 | some b,c=>cAh b c
variable {L:List Ce}
variable {k:Nat}
theorem Qni {b:Ce} (hb:L[k]?=some b):Qc8 L (k+1)=some b:=by unfold Qc8;rw [if_neg oB];simpa using hb
theorem QuE {c:Ce} (hc:L[k]?=some c):cRs (Qc8 L k) (L.drop k)=((cRi c && ahP (Qc8 L k) c) && cRs (Qc8 L (k+1)) (L.drop (k+1))):=by
 cases k with
 | zero=>rw [QmW hc,show ahP (Qc8 L 0) c=true from rfl,Bool.and_true]
 | succ k=>
  have h1:=(ZZd.1 hc).1;have hb:L[k]?=some (L[k]'oB):=ZZe _;rw [Qmq hb hc,Qni hb]
  rfl
theorem QhN {a b:Bool} (h:a=b):Ending.returned (.bool a)=.returned (.bool b):=by rw [h]
theorem Qs8 (n lo hi:Int) (w:World):Calls prog 31 #[.int .i64 n,.int .i64 lo,.int .i64 hi] w fun e w'=>e=.returned (.bool (decide (lo<=n) && decide (n<=hi)))/\w'=w:=by
 by_cases h1:lo<=n <;> by_cases h2:n<=hi <;> (go_enter func31,ntmps31;go_wp2;go_ret;exact ⟨by simp [h1,h2],rfl⟩)
theorem Qem (n:Int) (w:World):Calls prog 32 #[.int .i64 n] w fun e w'=>e=.returned (.bool (Qf7 n))/\w'=w:=by
 go_enter func32,ntmps32;go_wp2_with (go_at_call 31;refine (Qs8 _ _ _ _).mono ?_;rintro e w1 ⟨rfl,aa⟩;obtain rfl:=aa);exact mBk
theorem QcJ (c:Ce) (n:Int) (s:ByteArray) (w:World) :
  Calls prog 79 #[.agg (Qao c),.int .i64 n,.string s] w fun e w'=>e=.returned (.bool (decide (c.n<n) || ((c.n == n) && QaJ c.s s)))/\Bw w w':=by
 have aa:Hid (Bw w (w.alloc (.cells (Qao c) 46))):=bAA;obtain ⟨B,hB⟩:∃ B,QaJ c.s s=B:=⟨_,rfl⟩;have HL:=Qaa hB;by_cases h1:c.n<n
 ·have HE:Hid (true=(decide (c.n<n) || ((c.n == n) && QaJ c.s s))):=Qaa (by simp [h1])
  generalize (decide (c.n<n) || ((c.n == n) && QaJ c.s s))=Z at HE ⊢;go_enter func79,ntmps79;go_wp2;go_ret;exact ⟨QhN HE,aa⟩
 ·by_cases h2:c.n=n
  ·have HE:Hid (B=(decide (c.n<n) || ((c.n == n) && QaJ c.s s))):=Qaa (by simp [h2,hB])
   generalize (decide (c.n<n) || ((c.n == n) && QaJ c.s s))=Z at HE ⊢;have b2:(c.n == n)=true:=by simp [h2]
   have ab:Op.bytesLess c.s.toList s.toList=B:=hB;clear h2 hB HL;go_enter func79,ntmps79
   cases B <;> (go_wp2;go_ret;exact ⟨QhN HE,aa⟩)
  ·have HE:Hid (false=(decide (c.n<n) || ((c.n == n) && QaJ c.s s))):=Qaa (by simp [h1,h2])
   generalize (decide (c.n<n) || ((c.n == n) && QaJ c.s s))=Z at HE ⊢;have b2:(c.n == n)=false:=ZZf.2 h2;clear h2;go_enter func79,ntmps79;go_wp2;go_ret;exact ⟨QhN HE,aa⟩
theorem Qcz {w:World} {ao:Option Addr} {N ca:Nat} (hN:L.length=N) (lN:N<=1048576) (ok:∀ c∈L,AgOk c.g) (sm:∀ c∈L,AgSm c.g) (ss:∀ c∈L,c.s.size<=maxLen) (hA:QbG w ao L) :
  Calls prog 41 #[.slice ao N ca] w fun e w'=>e=.returned (.bool (csR L))/\Bw w w':=by
 have HE:Hid (csR L=(decide (N<=60) && cRs none L)):=by unfold csR;rw [hN];exact Qaa rfl
 have HN:=Qaa hN;have OK:=Qaa ok;have SM:=Qaa sm;have SS:=Qaa ss;have HA:=Qaa hA;clear hN ok sm ss hA;by_cases h1:N<=60
 ·have d1:decide ((60:Int)<(N:Int))=false:=ZZg oB
  have HF:Hid (cRs (Qc8 L 0) (L.drop 0)=csR L):=by rw [HE.out,decide_eq_true h1];exact Qaa rfl
  go_enter func41,ntmps41;go_wp2
  go_loopw [3] (fun i wr=>∃ k:Nat,k<=N/\i=.int .i64 k/\Hid (cRs (Qc8 L k) (L.drop k)=csR L)/\Hid (Bw w wr)) (fun i wr=>N - (Go.RowKit.intOf i).toNat)
  case atStart=>exact ⟨0,ZZj _,rfl,HF,ZZb _ _⟩
  case round=>
   obtain ⟨k,hk,rfl,av,aq⟩:=hrel;by_cases aL:k<N
   ·have aG:(k:Int)<(N:Int):=by omega
    obtain ⟨b,aD,e,ad⟩:=HA.1 (oA HN.out);subst e;obtain ⟨c,hc⟩:∃ c,L[k]?=some c:=⟨L[k]'(oA HN.out),ZZe _⟩;have aw:=ZZn hc;have an:=Qaa aw;have aF:=Qaa hc;obtain ⟨x0,x1,x2,x3,x4,x5,x6,x7,x8,x9,ak,ag,ai,aj,af⟩:=Qaq (ad k c hc) aq;have aJ:=Qaa ad;clear ad hc aw;go_upto_region 7 with fail;clear x0 x1 x2 x3 x4 x5 x6 x7 x8 x9 ak ag ai aj af;have ar:Bw wr (wr.alloc (.cells (Qao c) 46)):=bAA;have K0:=QfC wr 46 c;generalize hW0:wr.alloc _=W0 at ar K0 ⊢;have ae:=Qaa (Qac aq ar);have al:=Qaa K0;clear hW0 ar K0;have HS:=Qaa (QuE aF)
    go_cut [56] (fun v w'=>v=.bool (!(cRi c && ahP (Qc8 L k) c))/\Hid (Bw w w'))
    case first=>
     have ab:(fun W=>Bw W0 W) W0.drew:=(ZZb _ _).drew;refine Qal (fun W=>Bw W0 W) 99 oG ?_;refine tkS 0 (.pointer (some ⟨wr.heap.size,0,none⟩)) ab ?_;refine tkL 1 (.int .i64 c.n) ab (fun W hW=>?_) ?_
     ·obtain ⟨x0,x1,x2,x3,x4,x5,x6,x7,x8,x9,ak,ag,ai,aj,af⟩:=Qaq al hW
      exact mAo
     simp only [sX];refine onE 2 fun K hK=>?_;go_simp;refine (Qem _ _).mono ?_;rintro e wz ⟨rfl,aE⟩;obtain rfl:=aE.symm;dsimp only;refine gK hK ab ?_
     try simp only [sX]
     cases hw:Qf7 c.n with
     | false=>
      have HR:Hid ((!(cRi c && ahP (Qc8 L k) c))=true):=Qaa (by simp [cRi,hw]);refine tkS 3 (.bool true) ab ?_;refine tkS 4 (.bool true) ab ?_;refine tkU 5 ab ?_;simp only [sX];refine tkU 6 ab ?_;simp only [sX];refine onE 7 fun K hK=>?_;refine Eq.mpr (if_neg (fun h=>Bool.noConfusion (show false=true from h))) ?_;refine gK hK ab ?_
      try simp only [sX]
      refine tkU 8 ab ?_;refine tkS 9 (.bool true) ab ?_;refine tkS 10 (.bool true) ab ?_;simp only [sX];refine tkU 11 ab ?_;refine tkU 12 ab ?_;simp only [sX];refine onE 13 fun K hK=>?_;refine Eq.mpr (if_neg (fun h=>Bool.noConfusion (show false=true from h))) ?_;refine gK hK ab ?_
      try simp only [sX]
      refine tkU 14 ab ?_;refine tkS 15 (.bool true) ab ?_;refine tkS 16 (.bool true) ab ?_;simp only [sX];refine tkU 17 ab ?_;refine tkU 18 ab ?_;refine tkU 19 ab ?_;simp only [sX];refine tkU 20 ab ?_;refine tkS 21 (.bool true) ab ?_;refine tkS 22 (.bool true) ab ?_;simp only [sX];refine tkU 23 ab ?_;refine tkU 24 ab ?_;refine tkU 25 ab ?_;simp only [sX];refine tkU 26 ab ?_;refine tkU 27 ab ?_;refine tkU 28 ab ?_;simp only [sX];refine tkU 29 ab ?_;refine tkU 30 ab ?_;refine tkU 31 ab ?_;simp only [sX];refine tkU 32 ab ?_;refine tkU 33 ab ?_;refine tkU 34 ab ?_;simp only [sX];refine onE 35 fun K hK=>?_;refine Eq.mpr (if_neg (fun h=>Bool.noConfusion (show false=true from h))) ?_;refine gK hK ab ?_
      try simp only [sX]
      refine tkU 36 ab ?_;refine tkU 37 ab ?_;refine tkS 38 (.bool true) ab ?_;simp only [sX];refine dnE ?_ _;go_wp2;go_meet;exact ⟨by rw [HR.out],Qaa (Qac ae ab)⟩
     | true=>
      refine tkS 3 (.bool false) ab ?_;refine tkS 4 (.bool false) ab ?_;refine tkS 5 (.pointer (some ⟨wr.heap.size,1,none⟩)) ab ?_;simp only [sX];refine tkL 6 (.string c.s) ab (fun W hW=>?_) ?_
      ·obtain ⟨x0,x1,x2,x3,x4,x5,x6,x7,x8,x9,ak,ag,ai,aj,af⟩:=Qaq al hW
       exact mAo
      simp only [sX];refine onE 7 fun K hK=>?_;go_simp;refine (Qdr c.s (SS.out c an)).mono ?_;rintro e w1 ⟨rfl,az⟩;have ac:Hid (Bw W0 w1):=(ab:Bw W0 W0.drew).trans (az.mono (ZZa _));clear az;dsimp only;refine gK hK ac.out ?_
      try simp only [sX]
      cases hs:Qbl c.s with
      | false=>
       have HR:Hid ((!(cRi c && ahP (Qc8 L k) c))=true):=Qaa (by simp [cRi,hs]);refine tkS 8 (.bool true) ac ?_;refine tkS 9 (.bool true) ac ?_;refine tkS 10 (.bool true) ac ?_;simp only [sX];refine tkU 11 ac ?_;refine tkU 12 ac ?_;simp only [sX];refine onE 13 fun K hK=>?_;refine Eq.mpr (if_neg (fun h=>Bool.noConfusion (show false=true from h))) ?_;refine gK hK ac.out ?_
       try simp only [sX]
       refine tkU 14 ac ?_;refine tkS 15 (.bool true) ac ?_;refine tkS 16 (.bool true) ac ?_;simp only [sX];refine tkU 17 ac ?_;refine tkU 18 ac ?_;refine tkU 19 ac ?_;simp only [sX];refine tkU 20 ac ?_;refine tkS 21 (.bool true) ac ?_;refine tkS 22 (.bool true) ac ?_;simp only [sX];refine tkU 23 ac ?_;refine tkU 24 ac ?_;refine tkU 25 ac ?_;simp only [sX];refine tkU 26 ac ?_;refine tkU 27 ac ?_;refine tkU 28 ac ?_;simp only [sX];refine tkU 29 ac ?_;refine tkU 30 ac ?_;refine tkU 31 ac ?_;simp only [sX];refine tkU 32 ac ?_;refine tkU 33 ac ?_;refine tkU 34 ac ?_;simp only [sX];refine onE 35 fun K hK=>?_;refine Eq.mpr (if_neg (fun h=>Bool.noConfusion (show false=true from h))) ?_;refine gK hK ac.out ?_
       try simp only [sX]
       refine tkU 36 ac ?_;refine tkU 37 ac ?_;refine tkS 38 (.bool true) ac ?_;simp only [sX];refine dnE ?_ _;go_wp2;go_meet;exact ⟨by rw [HR.out],Qaa (Qac ae ac)⟩
      | true=>
       refine tkS 8 (.bool false) ac ?_;refine tkS 9 (.bool false) ac ?_;refine tkS 10 (.bool false) ac ?_;simp only [sX];refine tkS 11 (.pointer (some ⟨wr.heap.size,2,none⟩)) ac ?_;refine tkL 12 (.agg (Qau c.g c.p)) ac (fun W hW=>?_) ?_
       ·obtain ⟨x0,x1,x2,x3,x4,x5,x6,x7,x8,x9,ak,ag,ai,aj,af⟩:=Qaq al hW
        exact mAo
       simp only [sX];refine onE 13 fun K hK=>?_;go_simp;refine (QfM (g:=c.g) (p:=c.p) (OK.out c an) (SM.out c an) (QaD (HA.2 c an) (Qac ae ac))).mono ?_;rintro e w2 ⟨rfl,ay⟩;have aa:Hid (Bw W0 w2):=Qac ac ay;clear ay;dsimp only;refine gK hK aa.out ?_
       try simp only [sX]
       cases ha:agB c.g with
       | false=>
        have HR:Hid ((!(cRi c && ahP (Qc8 L k) c))=true):=Qaa (by simp [cRi,ha]);refine tkS 14 (.bool true) aa ?_;refine tkS 15 (.bool true) aa ?_;refine tkS 16 (.bool true) aa ?_;simp only [sX];refine tkU 17 aa ?_;refine tkU 18 aa ?_;refine tkU 19 aa ?_;simp only [sX];refine tkU 20 aa ?_;exact mAq
       | true=>
        refine tkS 14 (.bool false) aa ?_;refine tkS 15 (.bool false) aa ?_;refine tkS 16 (.bool false) aa ?_;simp only [sX];refine tkS 17 (.pointer (some ⟨wr.heap.size,2,none⟩)) aa ?_;refine tkS 18 (.pointer (some ⟨wr.heap.size,3,none⟩)) aa ?_;refine tkL 19 (.int .u64 c.g.s) aa (fun W hW=>?_) ?_
        ·obtain ⟨x0,x1,x2,x3,x4,x5,x6,x7,x8,x9,ak,ag,ai,aj,af⟩:=Qaq al hW
         exact mAo
        simp only [sX];by_cases hz:c.g.s=0
        ·have HR:Hid ((!(cRi c && ahP (Qc8 L k) c))=true):=Qaa (by simp [cRi,hz])
         have bz:(c.g.s == 0)=true:=by simp [hz]
         clear hz;refine tkS 20 (.bool true) aa ?_;exact mAq
        ·have bz:(c.g.s == 0)=false:=ZZf.2 hz
         have aA:Hid (cRi c=true):=Qaa (by simp [cRi,hw,hs,ha,hz]);clear hz;refine tkS 20 (.bool false) aa ?_;refine tkS 21 (.bool false) aa ?_;refine tkS 22 (.bool false) aa ?_;simp only [sX]
         cases k with
         | zero=>
          have HR:Hid ((!(cRi c && ahP (Qc8 L 0) c))=false):=Qaa (by rw [aA.out];rfl);refine tkS 23 (.int .i64 0) aa ?_;refine tkS 24 (.bool false) aa ?_;refine tkS 25 (.bool false) aa ?_;simp only [sX];refine tkU 26 aa ?_;refine tkU 27 aa ?_;refine tkU 28 aa ?_;simp only [sX];refine tkU 29 aa ?_;refine tkU 30 aa ?_;refine tkU 31 aa ?_;simp only [sX];refine tkU 32 aa ?_;refine tkU 33 aa ?_;refine tkU 34 aa ?_;simp only [sX];refine onE 35 fun K hK=>?_;refine Eq.mpr (if_neg (fun h=>Bool.noConfusion (show false=true from h))) ?_;refine gK hK aa.out ?_
          try simp only [sX]
          refine tkU 36 aa ?_;refine tkS 37 (.bool false) aa ?_;refine tkS 38 (.bool false) aa ?_;simp only [sX];refine dnE ?_ _;go_wp2;go_meet;exact ⟨by rw [HR.out],Qaa (Qac ae aa)⟩
         | succ k=>
          obtain ⟨b0,ax⟩:∃ c,L[k]?=some c:=⟨L[k]'(oA HN.out),ZZe _⟩;obtain ⟨ah,ap⟩:∃ b,cAh b0 c=b:=⟨_,rfl⟩;have aI:=Qaa ap;have HR:Hid ((!(cRi c && ahP (Qc8 L (k+1)) c))=!ah):=Qaa (by rw [aA.out,Qni ax,<- ap];rfl);clear ap;refine tkS 23 (.int .i64 ((k+1:Nat):Int)) aa ?_;refine tkS 24 (.bool true) aa ?_;refine tkS 25 (.bool true) aa ?_;simp only [sX];refine tkS 26 (.slice (some ⟨b,aD,none⟩) N ca) aa ?_;refine tkS 27 (.int .i64 ((k+1:Nat):Int)) aa ?_;refine tkL 28 (.int .i64 (k:Int)) aa (fun W hW=>?_) ?_
          ·have aK:IntKind.i64.wrap (k:Int)=(k:Int):=by rw [IntKind.wrap_i64];omega
           exact mAo
          simp only [sX];refine tkL 29 (.pointer (some ⟨b,aD+k*15,none⟩)) aa (fun W hW=>?_) ?_
          ·have aP:¬ N<=k:=by omega
           exact mAo
          refine tkL 30 (.agg (Qao b0)) aa (fun W hW=>?_) ?_
          ·obtain ⟨y0,y1,y2,y3,y4,y5,y6,y7,y8,y9,aM,aO,aQ,aR,aN⟩:=Qaq (aJ.out k b0 ax) (Qac ae hW)
           exact mAo
          refine tkS 31 (.pointer (some ⟨wr.heap.size,0,none⟩)) aa ?_;simp only [sX];refine tkL 32 (.int .i64 c.n) aa (fun W hW=>?_) ?_
          ·obtain ⟨x0,x1,x2,x3,x4,x5,x6,x7,x8,x9,ak,ag,ai,aj,af⟩:=Qaq al hW
           exact mAo
          refine tkS 33 (.pointer (some ⟨wr.heap.size,1,none⟩)) aa ?_;refine tkL 34 (.string c.s) aa (fun W hW=>?_) ?_
          ·obtain ⟨x0,x1,x2,x3,x4,x5,x6,x7,x8,x9,ak,ag,ai,aj,af⟩:=Qaq al hW
           exact mAo
          simp only [sX];refine onE 35 fun K hK=>?_;go_simp;refine (QcJ b0 c.n c.s _).mono ?_;rintro e w3 ⟨rfl,aC⟩;rw [show (decide (b0.n<c.n) || ((b0.n == c.n) && QaJ b0.s c.s))=ah from aI.out];have am:Hid (Bw W0 w3):=Qac aa aC;clear aC;dsimp only;refine gK hK am.out ?_
          try simp only [sX]
          refine tkS 36 (.bool (!ah)) am ?_;refine tkS 37 (.bool (!ah)) am ?_;refine tkS 38 (.bool (!ah)) am ?_;simp only [sX];refine dnE ?_ _;go_wp2;go_meet;exact ⟨by rw [HR.out],Qaa (Qac ae am)⟩
    case rest=>
     obtain ⟨rfl,aB⟩:=hcut
     cases hri:(cRi c && ahP (Qc8 L k) c) with
     | false=>
      have au:Hid (false=csR L):=by rw [<- av.out,HS.out,hri];exact Qaa rfl
      go_wp2;go_ret;exact ⟨QhN au,aB⟩
     | true=>
      have aH:Hid (cRs (Qc8 L (k+1)) (L.drop (k+1))=csR L):=by
       have:=av.out;exact mD3
      have aK:IntKind.i64.wrap ((k:Int)+1)=((k+1:Nat):Int):=by rw [show (k:Int)+1=((k+1:Nat):Int) by omega];exact ZZi _ ⟨by omega,by omega⟩
      go_wp2;go_roundw
      case rel=>exact ⟨k+1,by omega,by first | rfl | go_num,aH,aB⟩
      case measure=>simp [zI];omega
   ·obtain rfl:N=k:=by omega
    have au:Hid (true=csR L):=by
     rw [<- av.out,List.drop_eq_nil_of_le (oA HN.out)]
     cases Qc8 L N <;> exact Qaa rfl
    go_wp2;go_ret;exact ⟨QhN au,aq⟩
 ·have d1:decide ((60:Int)<(N:Int))=true:=ZZh oB
  have HF:Hid (false=csR L):=by rw [HE.out,decide_eq_false h1];exact Qaa rfl
  go_enter func41,ntmps41;go_wp2;go_ret;exact ⟨QhN HF,ZZb _ _⟩
end Go.Proofs.YtioohanfodmddaaGreatDoor
