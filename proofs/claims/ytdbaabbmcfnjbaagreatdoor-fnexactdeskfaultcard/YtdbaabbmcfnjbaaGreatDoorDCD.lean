/-
 Parts.
-/
import Derived.Test.YtdbaabbmcfnjbaaGreatDoorDCA
set_option maxHeartbeats 16000000
set_option linter.all false
namespace Go.Proofs.YtdbaabbmcfnjbaaGreatDoor
open Go.ChangeShapes Go.WideShapes Go.ChangeAt Go.RowKit Go.PlainAid Go.Lib Tryz
set_option maxRecDepth 10000
def ahP:Option Ce->Ce->Bool
 | none,_=>true
 | some b,c=>cAh b c
variable {L:List Ce}
variable {k:Nat}
theorem Qk1 {b:Ce} (hb:L[k]?=some b):QdJ L (k+1)=some b:=by unfold QdJ;rw [if_neg (by omega)];simpa using hb
theorem QuC {c:Ce} (hc:L[k]?=some c):cRs (QdJ L k) (L.drop k)=((cRi c && ahP (QdJ L k) c) && cRs (QdJ L (k+1)) (L.drop (k+1))):=by
 cases k with
 | zero=>rw [Qqu hc,show ahP (QdJ L 0) c=true from rfl,Bool.and_true]
 | succ k=>
  have h1:=(ZZd.1 hc).1;have hb:L[k]?=some (L[k]'(by omega)):=ZZe _;rw [QrG hb hc,Qk1 hb]
  rfl
theorem QgO {a b:Bool} (h:a=b):Ending.returned (.bool a)=.returned (.bool b):=by rw [h]
theorem QqM (n lo hi:Int) (w:World):Calls prog 18 #[.int .i64 n,.int .i64 lo,.int .i64 hi] w fun e w'=>e=.returned (.bool (decide (lo<=n) && decide (n<=hi)))/\w'=w:=by
 by_cases h1:lo<=n <;> by_cases h2:n<=hi <;> (go_enter func18,ntmps18;go_wp2;go_ret;exact ⟨by simp [h1,h2],rfl⟩)
theorem QdT (n:Int) (w:World):Calls prog 109 #[.int .i64 n] w fun e w'=>e=.returned (.bool (Qjm n))/\w'=w:=by
 go_enter func109,ntmps109;go_wp2_with (go_at_call 18;refine (QqM _ _ _ _).mono ?_;rintro e w1 ⟨rfl,aa⟩;obtain rfl:=aa);go_ret;exact ⟨rfl,rfl⟩
theorem QcK (c:Ce) (n:Int) (s:ByteArray) (w:World) :
  Calls prog 111 #[.agg (Qas c),.int .i64 n,.string s] w fun e w'=>e=.returned (.bool (decide (c.n<n) || ((c.n == n) && Qaz c.s s)))/\Below w.heap.size w w':=by
 have aa:Hid (Below w.heap.size w (w.alloc (.cells (Qas c) 92))):=(ZZb _ _).alloc (ZZa _) _;obtain ⟨B,hB⟩:∃ B,Qaz c.s s=B:=⟨_,rfl⟩;have HL:=Qaa hB;by_cases h1:c.n<n
 ·have HE:Hid (true=(decide (c.n<n) || ((c.n == n) && Qaz c.s s))):=(by simp [h1]:true=(decide (c.n<n) || ((c.n == n) && Qaz c.s s)))
  generalize (decide (c.n<n) || ((c.n == n) && Qaz c.s s))=Z at HE ⊢;go_enter func111,ntmps111;go_wp2;go_ret;exact ⟨QgO HE,aa⟩
 ·by_cases h2:c.n=n
  ·have HE:Hid (B=(decide (c.n<n) || ((c.n == n) && Qaz c.s s))):=(by simp [h2,hB]:B=(decide (c.n<n) || ((c.n == n) && Qaz c.s s)))
   generalize (decide (c.n<n) || ((c.n == n) && Qaz c.s s))=Z at HE ⊢;have b2:(c.n == n)=true:=by simp [h2]
   have ab:Op.bytesLess c.s.toList s.toList=B:=hB;clear h2 hB HL;go_enter func111,ntmps111
   cases B <;> (go_wp2;go_ret;exact ⟨QgO HE,aa⟩)
  ·have HE:Hid (false=(decide (c.n<n) || ((c.n == n) && Qaz c.s s))):=(by simp [h1,h2]:false=(decide (c.n<n) || ((c.n == n) && Qaz c.s s)))
   generalize (decide (c.n<n) || ((c.n == n) && Qaz c.s s))=Z at HE ⊢;have b2:(c.n == n)=false:=ZZf.2 h2;clear h2;go_enter func111,ntmps111;go_wp2;go_ret;exact ⟨QgO HE,aa⟩
theorem QgA {w:World} {ao:Option Addr} {N ca:Nat} (hN:L.length=N) (lN:N<=1048576) (ok:∀ c∈L,AgOk c.g) (sm:∀ c∈L,AgSm c.g) (ss:∀ c∈L,c.s.size<=maxLen) (hA:Qcl w ao L) :
  Calls prog 166 #[.slice ao N ca] w fun e w'=>e=.returned (.bool (csR L))/\Below w.heap.size w w':=by
 have HE:Hid (csR L=(decide (N<=60) && cRs none L)):=by unfold csR;rw [hN];exact Qaa rfl
 have HN:=Qaa hN;have OK:=Qaa ok;have SM:=Qaa sm;have SS:=Qaa ss;have HA:=Qaa hA;clear hN ok sm ss hA;by_cases h1:N<=60
 ·have d1:decide ((60:Int)<(N:Int))=false:=ZZg (by omega)
  have HF:Hid (cRs (QdJ L 0) (L.drop 0)=csR L):=by rw [HE.out,decide_eq_true h1];exact Qaa rfl
  go_enter func166,ntmps166;go_wp2
  go_loopw [3] (fun i wr=>∃ k:Nat,k<=N/\i=.int .i64 k/\Hid (cRs (QdJ L k) (L.drop k)=csR L)/\Hid (Below w.heap.size w wr)) (fun i wr=>N - (Go.RowKit.intOf i).toNat)
  case atStart=>exact ⟨0,ZZj _,rfl,HF,ZZb _ _⟩
  case round=>
   obtain ⟨k,hk,rfl,au,aq⟩:=hrel;by_cases aQ:k<N
   ·have aJ:(k:Int)<(N:Int):=by omega
    obtain ⟨b,aA,e,ad⟩:=HA.out.1 (by have:=HN.out;omega);subst e;obtain ⟨c,hc⟩:∃ c,L[k]?=some c:=⟨L[k]'(by have:=HN.out;omega),ZZe _⟩;have ay:=ZZn hc;have an:=Qaa ay;have aI:=Qaa hc;obtain ⟨x0,x1,x2,x3,x4,x5,x6,x7,x8,x9,ak,ag,aj,ai,af⟩:=QaP (ad k c hc) aq;have aH:=Qaa ad;clear ad hc ay;go_upto_region 7 with fail;clear x0 x1 x2 x3 x4 x5 x6 x7 x8 x9 ak ag aj ai af;have ar:Below wr.heap.size wr (wr.alloc (.cells (Qas c) 92)):=(ZZb _ _).alloc (ZZa _) _;have K0:=QuT wr 92 c;generalize hW0:wr.alloc (.cells (Qas c) 92)=W0 at ar K0 ⊢;have ae:=Qaa (Qac aq ar);have al:=Qaa K0;clear hW0 ar K0;have HS:=Qaa (QuC aI)
    go_cut [56] (fun v w'=>v=.bool (!(cRi c && ahP (QdJ L k) c))/\Hid (Below w.heap.size w w'))
    case first=>
     have ab:(fun W=>Below W0.heap.size W0 W) W0.drew:=(ZZb _ _).drew;refine Qao (fun W=>Below W0.heap.size W0 W) 99 (by kernel_rfl) ?_;refine tkS 0 (.pointer (some ⟨wr.heap.size,0,none⟩)) ab ?_;refine tkL 1 (.int .i64 c.n) ab (fun W hW=>?_) ?_
     ·obtain ⟨x0,x1,x2,x3,x4,x5,x6,x7,x8,x9,ak,ag,aj,ai,af⟩:=QaP al hW
      clear hW;go_simp
     simp only [sX];refine onE 2 fun K hK=>?_;go_simp;refine (QdT _ _).mono ?_;rintro e wz ⟨rfl,aK⟩;obtain rfl:=aK.symm;dsimp only;refine gK hK ab ?_
     try simp only [sX]
     cases hw:Qjm c.n with
     | false=>
      have HR:Hid ((!(cRi c && ahP (QdJ L k) c))=true):=(by simp [cRi,hw]:(!(cRi c && ahP (QdJ L k) c))=true);refine tkS 3 (.bool true) ab ?_;refine tkS 4 (.bool true) ab ?_;refine tkU 5 ab ?_;simp only [sX];refine tkU 6 ab ?_;simp only [sX];refine onE 7 fun K hK=>?_;refine Eq.mpr (if_neg (fun h=>Bool.noConfusion (show false=true from h))) ?_;refine gK hK ab ?_
      try simp only [sX]
      refine tkU 8 ab ?_;refine tkS 9 (.bool true) ab ?_;refine tkS 10 (.bool true) ab ?_;simp only [sX];refine tkU 11 ab ?_;refine tkU 12 ab ?_;simp only [sX];refine onE 13 fun K hK=>?_;refine Eq.mpr (if_neg (fun h=>Bool.noConfusion (show false=true from h))) ?_;refine gK hK ab ?_
      try simp only [sX]
      refine tkU 14 ab ?_;refine tkS 15 (.bool true) ab ?_;refine tkS 16 (.bool true) ab ?_;simp only [sX];refine tkU 17 ab ?_;refine tkU 18 ab ?_;refine tkU 19 ab ?_;simp only [sX];refine tkU 20 ab ?_;refine tkS 21 (.bool true) ab ?_;refine tkS 22 (.bool true) ab ?_;simp only [sX];refine tkU 23 ab ?_;refine tkU 24 ab ?_;refine tkU 25 ab ?_;simp only [sX];refine tkU 26 ab ?_;refine tkU 27 ab ?_;refine tkU 28 ab ?_;simp only [sX];refine tkU 29 ab ?_;refine tkU 30 ab ?_;refine tkU 31 ab ?_;simp only [sX];refine tkU 32 ab ?_;refine tkU 33 ab ?_;refine tkU 34 ab ?_;simp only [sX];refine onE 35 fun K hK=>?_;refine Eq.mpr (if_neg (fun h=>Bool.noConfusion (show false=true from h))) ?_;refine gK hK ab ?_
      try simp only [sX]
      refine tkU 36 ab ?_;refine tkU 37 ab ?_;refine tkS 38 (.bool true) ab ?_;simp only [sX];refine dnE ?_ _;go_wp2;go_meet;exact ⟨by rw [HR.out],Qaa (Qac ae ab)⟩
     | true=>
      refine tkS 3 (.bool false) ab ?_;refine tkS 4 (.bool false) ab ?_;refine tkS 5 (.pointer (some ⟨wr.heap.size,1,none⟩)) ab ?_;simp only [sX];refine tkL 6 (.string c.s) ab (fun W hW=>?_) ?_
      ·obtain ⟨x0,x1,x2,x3,x4,x5,x6,x7,x8,x9,ak,ag,aj,ai,af⟩:=QaP al hW
       clear hW;go_simp
      simp only [sX];refine onE 7 fun K hK=>?_;go_simp;refine (Qgf c.s (SS.out c an)).mono ?_;rintro e w1 ⟨rfl,az⟩;have ac:Hid (Below W0.heap.size W0 w1):=(ab:Below W0.heap.size W0 W0.drew).trans (az.mono (ZZa _));clear az;dsimp only;refine gK hK ac.out ?_
      try simp only [sX]
      cases hs:Qby c.s with
      | false=>
       have HR:Hid ((!(cRi c && ahP (QdJ L k) c))=true):=(by simp [cRi,hs]:(!(cRi c && ahP (QdJ L k) c))=true);refine tkS 8 (.bool true) ac ?_;refine tkS 9 (.bool true) ac ?_;refine tkS 10 (.bool true) ac ?_;simp only [sX];refine tkU 11 ac ?_;refine tkU 12 ac ?_;simp only [sX];refine onE 13 fun K hK=>?_;refine Eq.mpr (if_neg (fun h=>Bool.noConfusion (show false=true from h))) ?_;refine gK hK ac.out ?_
       try simp only [sX]
       refine tkU 14 ac ?_;refine tkS 15 (.bool true) ac ?_;refine tkS 16 (.bool true) ac ?_;simp only [sX];refine tkU 17 ac ?_;refine tkU 18 ac ?_;refine tkU 19 ac ?_;simp only [sX];refine tkU 20 ac ?_;refine tkS 21 (.bool true) ac ?_;refine tkS 22 (.bool true) ac ?_;simp only [sX];refine tkU 23 ac ?_;refine tkU 24 ac ?_;refine tkU 25 ac ?_;simp only [sX];refine tkU 26 ac ?_;refine tkU 27 ac ?_;refine tkU 28 ac ?_;simp only [sX];refine tkU 29 ac ?_;refine tkU 30 ac ?_;refine tkU 31 ac ?_;simp only [sX];refine tkU 32 ac ?_;refine tkU 33 ac ?_;refine tkU 34 ac ?_;simp only [sX];refine onE 35 fun K hK=>?_;refine Eq.mpr (if_neg (fun h=>Bool.noConfusion (show false=true from h))) ?_;refine gK hK ac.out ?_
       try simp only [sX]
       refine tkU 36 ac ?_;refine tkU 37 ac ?_;refine tkS 38 (.bool true) ac ?_;simp only [sX];refine dnE ?_ _;go_wp2;go_meet;exact ⟨by rw [HR.out],Qaa (Qac ae ac)⟩
      | true=>
       refine tkS 8 (.bool false) ac ?_;refine tkS 9 (.bool false) ac ?_;refine tkS 10 (.bool false) ac ?_;simp only [sX];refine tkS 11 (.pointer (some ⟨wr.heap.size,2,none⟩)) ac ?_;refine tkL 12 (.agg (Qan c.g c.p)) ac (fun W hW=>?_) ?_
       ·obtain ⟨x0,x1,x2,x3,x4,x5,x6,x7,x8,x9,ak,ag,aj,ai,af⟩:=QaP al hW
        clear hW;go_simp
       simp only [sX];refine onE 13 fun K hK=>?_;go_simp;refine (Qi6 (g:=c.g) (p:=c.p) (OK.out c an) (SM.out c an) (Qbj (HA.out.2 c an) (Qac ae ac))).mono ?_;rintro e w2 ⟨rfl,aC⟩;have aa:Hid (Below W0.heap.size W0 w2):=Qac ac aC;clear aC;dsimp only;refine gK hK aa.out ?_
       try simp only [sX]
       cases ha:agB c.g with
       | false=>
        have HR:Hid ((!(cRi c && ahP (QdJ L k) c))=true):=(by simp [cRi,ha]:(!(cRi c && ahP (QdJ L k) c))=true);refine tkS 14 (.bool true) aa ?_;refine tkS 15 (.bool true) aa ?_;refine tkS 16 (.bool true) aa ?_;simp only [sX];refine tkU 17 aa ?_;refine tkU 18 aa ?_;refine tkU 19 aa ?_;simp only [sX];refine tkU 20 aa ?_;refine tkS 21 (.bool true) aa ?_;refine tkS 22 (.bool true) aa ?_;simp only [sX];refine tkU 23 aa ?_;refine tkU 24 aa ?_;refine tkU 25 aa ?_;simp only [sX];refine tkU 26 aa ?_;refine tkU 27 aa ?_;refine tkU 28 aa ?_;simp only [sX];refine tkU 29 aa ?_;refine tkU 30 aa ?_;refine tkU 31 aa ?_;simp only [sX];refine tkU 32 aa ?_;refine tkU 33 aa ?_;refine tkU 34 aa ?_;simp only [sX];refine onE 35 fun K hK=>?_;refine Eq.mpr (if_neg (fun h=>Bool.noConfusion (show false=true from h))) ?_;refine gK hK aa.out ?_
        try simp only [sX]
        refine tkU 36 aa ?_;refine tkU 37 aa ?_;refine tkS 38 (.bool true) aa ?_;simp only [sX];refine dnE ?_ _;go_wp2;go_meet;exact ⟨by rw [HR.out],Qaa (Qac ae aa)⟩
       | true=>
        refine tkS 14 (.bool false) aa ?_;refine tkS 15 (.bool false) aa ?_;refine tkS 16 (.bool false) aa ?_;simp only [sX];refine tkS 17 (.pointer (some ⟨wr.heap.size,2,none⟩)) aa ?_;refine tkS 18 (.pointer (some ⟨wr.heap.size,3,none⟩)) aa ?_;refine tkL 19 (.int .u64 c.g.s) aa (fun W hW=>?_) ?_
        ·obtain ⟨x0,x1,x2,x3,x4,x5,x6,x7,x8,x9,ak,ag,aj,ai,af⟩:=QaP al hW
         clear hW;go_simp
        simp only [sX];by_cases hz:c.g.s=0
        ·have HR:Hid ((!(cRi c && ahP (QdJ L k) c))=true):=(by simp [cRi,hz]:(!(cRi c && ahP (QdJ L k) c))=true)
         have bz:(c.g.s == 0)=true:=by simp [hz]
         clear hz;refine tkS 20 (.bool true) aa ?_;refine tkS 21 (.bool true) aa ?_;refine tkS 22 (.bool true) aa ?_;simp only [sX];refine tkU 23 aa ?_;refine tkU 24 aa ?_;refine tkU 25 aa ?_;simp only [sX];refine tkU 26 aa ?_;refine tkU 27 aa ?_;refine tkU 28 aa ?_;simp only [sX];refine tkU 29 aa ?_;refine tkU 30 aa ?_;refine tkU 31 aa ?_;simp only [sX];refine tkU 32 aa ?_;refine tkU 33 aa ?_;refine tkU 34 aa ?_;simp only [sX];refine onE 35 fun K hK=>?_;refine Eq.mpr (if_neg (fun h=>Bool.noConfusion (show false=true from h))) ?_;refine gK hK aa.out ?_
         try simp only [sX]
         refine tkU 36 aa ?_;refine tkU 37 aa ?_;refine tkS 38 (.bool true) aa ?_;simp only [sX];refine dnE ?_ _;go_wp2;go_meet;exact ⟨by rw [HR.out],Qaa (Qac ae aa)⟩
        ·have bz:(c.g.s == 0)=false:=ZZf.2 hz
         have aB:Hid (cRi c=true):=(by simp [cRi,hw,hs,ha,hz]:cRi c=true);clear hz;refine tkS 20 (.bool false) aa ?_;refine tkS 21 (.bool false) aa ?_;refine tkS 22 (.bool false) aa ?_;simp only [sX]
         cases k with
         | zero=>
          have HR:Hid ((!(cRi c && ahP (QdJ L 0) c))=false):=(by rw [aB.out];rfl:(!(cRi c && ahP (QdJ L 0) c))=false);refine tkS 23 (.int .i64 0) aa ?_;refine tkS 24 (.bool false) aa ?_;refine tkS 25 (.bool false) aa ?_;simp only [sX];refine tkU 26 aa ?_;refine tkU 27 aa ?_;refine tkU 28 aa ?_;simp only [sX];refine tkU 29 aa ?_;refine tkU 30 aa ?_;refine tkU 31 aa ?_;simp only [sX];refine tkU 32 aa ?_;refine tkU 33 aa ?_;refine tkU 34 aa ?_;simp only [sX];refine onE 35 fun K hK=>?_;refine Eq.mpr (if_neg (fun h=>Bool.noConfusion (show false=true from h))) ?_;refine gK hK aa.out ?_
          try simp only [sX]
          refine tkU 36 aa ?_;refine tkS 37 (.bool false) aa ?_;refine tkS 38 (.bool false) aa ?_;simp only [sX];refine dnE ?_ _;go_wp2;go_meet;exact ⟨by rw [HR.out],Qaa (Qac ae aa)⟩
         | succ k=>
          obtain ⟨b0,aD⟩:∃ c,L[k]?=some c:=⟨L[k]'(by have:=HN.out;omega),ZZe _⟩;obtain ⟨ah,av⟩:∃ b,cAh b0 c=b:=⟨_,rfl⟩;have aG:=Qaa av;have HR:Hid ((!(cRi c && ahP (QdJ L (k+1)) c))=!ah):=(by rw [aB.out,Qk1 aD,<- av];rfl:(!(cRi c && ahP (QdJ L (k+1)) c))=!ah);clear av;refine tkS 23 (.int .i64 ((k+1:Nat):Int)) aa ?_;refine tkS 24 (.bool true) aa ?_;refine tkS 25 (.bool true) aa ?_;simp only [sX];refine tkS 26 (.slice (some ⟨b,aA,none⟩) N ca) aa ?_;refine tkS 27 (.int .i64 ((k+1:Nat):Int)) aa ?_;refine tkL 28 (.int .i64 (k:Int)) aa (fun W hW=>?_) ?_
          ·have aE:IntKind.i64.wrap (k:Int)=(k:Int):=by rw [IntKind.wrap_i64];omega
           clear hW;go_simp
          simp only [sX];refine tkL 29 (.pointer (some ⟨b,aA+k*15,none⟩)) aa (fun W hW=>?_) ?_
          ·have aL:¬ N<=k:=by omega
           clear hW;go_simp
          refine tkL 30 (.agg (Qas b0)) aa (fun W hW=>?_) ?_
          ·obtain ⟨y0,y1,y2,y3,y4,y5,y6,y7,y8,y9,aR,aO,aP,aN,aM⟩:=QaP (aH.out k b0 aD) (Qac ae hW)
           clear hW;go_simp
          refine tkS 31 (.pointer (some ⟨wr.heap.size,0,none⟩)) aa ?_;simp only [sX];refine tkL 32 (.int .i64 c.n) aa (fun W hW=>?_) ?_
          ·obtain ⟨x0,x1,x2,x3,x4,x5,x6,x7,x8,x9,ak,ag,aj,ai,af⟩:=QaP al hW
           clear hW;go_simp
          refine tkS 33 (.pointer (some ⟨wr.heap.size,1,none⟩)) aa ?_;refine tkL 34 (.string c.s) aa (fun W hW=>?_) ?_
          ·obtain ⟨x0,x1,x2,x3,x4,x5,x6,x7,x8,x9,ak,ag,aj,ai,af⟩:=QaP al hW
           clear hW;go_simp
          simp only [sX];refine onE 35 fun K hK=>?_;go_simp;refine (QcK b0 c.n c.s _).mono ?_;rintro e w3 ⟨rfl,aw⟩;rw [show (decide (b0.n<c.n) || ((b0.n == c.n) && Qaz b0.s c.s))=ah from aG.out];have am:Hid (Below W0.heap.size W0 w3):=Qac aa aw;clear aw;dsimp only;refine gK hK am.out ?_
          try simp only [sX]
          refine tkS 36 (.bool (!ah)) am ?_;refine tkS 37 (.bool (!ah)) am ?_;refine tkS 38 (.bool (!ah)) am ?_;simp only [sX];refine dnE ?_ _;go_wp2;go_meet;exact ⟨by rw [HR.out],Qaa (Qac ae am)⟩
    case rest=>
     obtain ⟨rfl,ax⟩:=hcut
     cases hri:(cRi c && ahP (QdJ L k) c) with
     | false=>
      have ap:Hid (false=csR L):=by rw [<- au.out,HS.out,hri];exact Qaa rfl
      go_wp2;go_ret;exact ⟨QgO ap,ax⟩
     | true=>
      have aF:Hid (cRs (QdJ L (k+1)) (L.drop (k+1))=csR L):=by
       have:=au.out;rw [HS.out,hri,Bool.true_and] at this;exact this
      have aE:IntKind.i64.wrap ((k:Int)+1)=((k+1:Nat):Int):=by rw [show (k:Int)+1=((k+1:Nat):Int) by omega];exact ZZi _ ⟨by omega,by omega⟩
      go_wp2;go_roundw
      case rel=>exact ⟨k+1,by omega,by first | rfl | go_num,aF,ax⟩
      case measure=>simp [zI];omega
   ·obtain rfl:N=k:=by omega
    have ap:Hid (true=csR L):=by
     rw [<- au.out,List.drop_eq_nil_of_le (by have:=HN.out;omega)]
     cases QdJ L N <;> exact Qaa rfl
    go_wp2;go_ret;exact ⟨QgO ap,aq⟩
 ·have d1:decide ((60:Int)<(N:Int))=true:=ZZh (by omega)
  have HF:Hid (false=csR L):=by rw [HE.out,decide_eq_false h1];exact Qaa rfl
  go_enter func166,ntmps166;go_wp2;go_ret;exact ⟨QgO HF,ZZb _ _⟩
end Go.Proofs.YtdbaabbmcfnjbaaGreatDoor
