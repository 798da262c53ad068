/-
 Parts.
-/
import Derived.Test.YtlejlgldgafljaaGreatDoorVCA
set_option maxHeartbeats 8000000
set_option linter.all false
namespace Go.Proofs.YtlejlgldgafljaaGreatDoor
open Go.ChangeShapes Go.WideShapes Go.ChangeAt Go.RowKit Go.PlainAid Go.Lib Tryz
set_option maxRecDepth 10000
theorem QjN {a b:Bool} (h:a=b):Ending.returned (.bool a)=.returned (.bool b):=by rw [h]
theorem Qc7 {w:World} {ao bo:Option Addr} {N M ca cb:Nat} {L K:List Ce} (hN:L.length=N) (hM:K.length=M) (lN:N<=1048576) (lM:M<=1048576) (sm:∀ c∈L,AgSm c.g) (sm':∀ c∈K,AgSm c.g) (hA:QbV w ao L) (hB:QbV w bo K) :
  Calls prog 15 #[.slice ao N ca,.slice bo M cb] w fun e w'=>e=.returned (.bool (csB L K))/\Bw w w':=by
 have HE:Hid (csB L K=(decide (N<=400) && decide (M<=400) && Qb5 L K)):=by unfold csB;rw [hN,hM];exact Qaa rfl
 have HN:=Qaa hN;have HM:=Qaa hM;have SM:=Qaa sm;have aB:=Qaa sm';have HA:=Qaa hA;have HB:=Qaa hB;clear hN hM sm sm' hA hB;by_cases h1:N<=400
 ·have d1:decide ((400:Int)<(N:Int))=false:=ZZg (by omega)
  by_cases h2:M<=400
  ·have d2:decide ((400:Int)<(M:Int))=false:=ZZg (by omega)
   by_cases aA:N=M
   ·subst aA
    have HF:Hid (Qb5 L K=csB L K):=by rw [HE.out,decide_eq_true h1];exact Qaa rfl
    go_enter func15,ntmps15;go_wp2
    go_loopw [5] (fun i wr=>∃ k:Nat,k<=N/\i=.int .i64 k/\Hid (Qb5 (L.drop k) (K.drop k)=Qb5 L K)/\Hid (Bw w wr)) (fun i wr=>N - (Go.RowKit.intOf i).toNat)
    case atStart=>exact ⟨0,ZZj _,rfl,Qaa rfl,ZZb _ _⟩
    case round=>
     obtain ⟨k,hk,rfl,av,af⟩:=hrel;by_cases aE:k<N
     ·have aD:(k:Int)<(N:Int):=by omega
      obtain ⟨b,ad,e,ae⟩:=HA.1 (by have:=HN.out;omega);subst e;obtain ⟨b',ab,e,ac⟩:=HB.1 (by have:=HM.out;omega);subst e;obtain ⟨c,hc⟩:∃ c,L[k]?=some c:=⟨L[k]'(by have:=HN.out;omega),ZZe _⟩;obtain ⟨d,hd⟩:∃ d,K[k]?=some d:=⟨K[k]'(by have:=HM.out;omega),ZZe _⟩;have HS:=Qaa (QkS hc hd);have hm:=ZZn hc;have az:=ZZn hd;have hC:∀ W,Bw wr W->Qb6 W b (ad+k*15) c/\Qb6 W b' (ab+k*15) d:=fun W hW=>⟨Qas (ae k c hc) (Qac af hW),Qas (ac k _ hd) (Qac af hW)⟩;have HC:=Qaa hC;have au:=Qaa (And.intro hm az);clear ae ac hc hd hm az hC;go_upto_region 6 with fail
      go_cut [64] (fun v w'=>v=.bool (!QeZ c d)/\Hid (Bw w w'))
      case first=>
       have aa:(fun W=>Bw wr W) wr.drew:=(ZZb _ _).drew;refine Qal (fun W=>Bw wr W) 38 (by kernel_rfl) ?_;refine tkS 0 (.slice (some ⟨b,ad,none⟩) N ca) aa ?_;refine tkS 1 (.int .i64 (k:Int)) aa ?_;refine tkS 2 (.pointer (some ⟨b,ad+k*15,none⟩)) aa ?_;simp only [sX];refine tkS 3 (.pointer (some ⟨b,ad+k*15,none⟩)) aa ?_;refine tkL 4 (.int .i64 c.n) aa (fun W hW=>?_) ?_
       ·obtain ⟨⟨x0,x1,x2,x3,x4,x5,x6,x7,x8,x9,ai,an,ak,al,aj⟩,⟨y0,y1,y2,y3,y4,y5,y6,y7,y8,y9,ap,ag,ah,aq,am⟩⟩:=HC.out W hW
        clear hW;go_simp
       refine tkS 5 (.slice (some ⟨b',ab,none⟩) N cb) aa ?_;simp only [sX];refine tkS 6 (.int .i64 (k:Int)) aa ?_;refine tkS 7 (.pointer (some ⟨b',ab+k*15,none⟩)) aa ?_;refine tkS 8 (.pointer (some ⟨b',ab+k*15,none⟩)) aa ?_;simp only [sX];refine tkL 9 (.int .i64 d.n) aa (fun W hW=>?_) ?_
       ·obtain ⟨⟨x0,x1,x2,x3,x4,x5,x6,x7,x8,x9,ai,an,ak,al,aj⟩,⟨y0,y1,y2,y3,y4,y5,y6,y7,y8,y9,ap,ag,ah,aq,am⟩⟩:=HC.out W hW
        clear hW;go_simp
       simp only [sX];by_cases hn:c.n=d.n
       ·have b1:(c.n != d.n)=false:=by simp [hn]
        refine tkS 10 (.bool false) aa ?_;refine tkS 11 (.bool false) aa ?_;refine tkS 12 (.slice (some ⟨b,ad,none⟩) N ca) aa ?_;simp only [sX];refine tkS 13 (.int .i64 (k:Int)) aa ?_;refine tkS 14 (.pointer (some ⟨b,ad+k*15,none⟩)) aa ?_;refine tkS 15 (.pointer (some ⟨b,ad+k*15+1,none⟩)) aa ?_;simp only [sX];refine tkL 16 (.string c.s) aa (fun W hW=>?_) ?_
        ·obtain ⟨⟨x0,x1,x2,x3,x4,x5,x6,x7,x8,x9,ai,an,ak,al,aj⟩,⟨y0,y1,y2,y3,y4,y5,y6,y7,y8,y9,ap,ag,ah,aq,am⟩⟩:=HC.out W hW
         clear hW;go_simp
        refine tkS 17 (.slice (some ⟨b',ab,none⟩) N cb) aa ?_;refine tkS 18 (.int .i64 (k:Int)) aa ?_;simp only [sX];refine tkS 19 (.pointer (some ⟨b',ab+k*15,none⟩)) aa ?_;refine tkS 20 (.pointer (some ⟨b',ab+k*15+1,none⟩)) aa ?_;refine tkL 21 (.string d.s) aa (fun W hW=>?_) ?_
        ·obtain ⟨⟨x0,x1,x2,x3,x4,x5,x6,x7,x8,x9,ai,an,ak,al,aj⟩,⟨y0,y1,y2,y3,y4,y5,y6,y7,y8,y9,ap,ag,ah,aq,am⟩⟩:=HC.out W hW
         clear hW;go_simp
        simp only [sX]
        cases hs:(c.s.toList == d.s.toList) with
        | true=>
         have b2:(c.s.toList != d.s.toList)=false:=by simp [bne,hs]
         have HR:Hid ((!QeZ c d)=(!QaK c.g d.g)):=by unfold QeZ;rw [hs,show (c.n == d.n)=true by simp [hn]];exact Qaa rfl
         refine tkS 22 (.bool false) aa ?_;refine tkS 23 (.bool false) aa ?_;refine tkS 24 (.bool false) aa ?_;simp only [sX];refine tkS 25 (.slice (some ⟨b,ad,none⟩) N ca) aa ?_;refine tkS 26 (.int .i64 (k:Int)) aa ?_;refine tkS 27 (.pointer (some ⟨b,ad+k*15,none⟩)) aa ?_;simp only [sX];refine tkS 28 (.pointer (some ⟨b,ad+k*15+2,none⟩)) aa ?_;refine tkL 29 (.agg (QaC c.g c.p)) aa (fun W hW=>?_) ?_
         ·obtain ⟨⟨x0,x1,x2,x3,x4,x5,x6,x7,x8,x9,ai,an,ak,al,aj⟩,⟨y0,y1,y2,y3,y4,y5,y6,y7,y8,y9,ap,ag,ah,aq,am⟩⟩:=HC.out W hW
          clear hW;go_simp
         refine tkS 30 (.slice (some ⟨b',ab,none⟩) N cb) aa ?_;simp only [sX];refine tkS 31 (.int .i64 (k:Int)) aa ?_;refine tkS 32 (.pointer (some ⟨b',ab+k*15,none⟩)) aa ?_;refine tkS 33 (.pointer (some ⟨b',ab+k*15+2,none⟩)) aa ?_;simp only [sX];refine tkL 34 (.agg (QaC d.g d.p)) aa (fun W hW=>?_) ?_
         ·obtain ⟨⟨x0,x1,x2,x3,x4,x5,x6,x7,x8,x9,ai,an,ak,al,aj⟩,⟨y0,y1,y2,y3,y4,y5,y6,y7,y8,y9,ap,ag,ah,aq,am⟩⟩:=HC.out W hW
          clear hW;go_simp
         simp only [sX];refine onE 35 fun K hK=>?_;rw [if_pos (by rfl)];go_simp;refine (Qlj (g:=c.g) (p:=c.p) (g':=d.g) (p':=d.p) (SM.out c au.1) (aB.out d au.2) (QaI (HA.2 c au.1) (Qac af aa)) (QaI (HB.2 d au.2) (Qac af aa))).mono ?_;rintro e w1 ⟨rfl,ay⟩;have ar:Hid (Bw wr w1):=(aa:Bw wr _).trans (ay.mono (ZZa _));clear ay
         try dsimp only
         refine gK hK ar.out ?_
         try simp only [sX]
         refine tkS 36 (.bool (!QaK c.g d.g)) ar ?_;refine tkS 37 (.bool (!QaK c.g d.g)) ar ?_;simp only [sX];refine dnE ?_ _;go_wp2;go_meet;exact ⟨by rw [HR.out],Qaa (Qac af ar)⟩
        | false=>
         have b2:(c.s.toList != d.s.toList)=true:=by simp [bne,hs]
         have HR:Hid ((!QeZ c d)=true):=by unfold QeZ;rw [hs];simp;exact Qaa trivial
         refine tkS 22 (.bool true) aa ?_;refine tkS 23 (.bool true) aa ?_;refine tkS 24 (.bool true) aa ?_;simp only [sX];refine tkU 25 aa ?_;refine tkU 26 aa ?_;refine tkU 27 aa ?_;simp only [sX];refine tkU 28 aa ?_;refine tkU 29 aa ?_;refine tkU 30 aa ?_;simp only [sX];refine tkU 31 aa ?_;refine tkU 32 aa ?_;refine tkU 33 aa ?_;simp only [sX];refine tkU 34 aa ?_;simp only [sX];refine onE 35 fun K hK=>?_;refine Eq.mpr (if_neg (fun h=>Bool.noConfusion (show false=true from h))) ?_;refine gK hK aa ?_
         try simp only [sX]
         refine tkU 36 aa ?_;refine tkS 37 (.bool true) aa ?_;simp only [sX];refine dnE ?_ _;go_wp2;go_meet;exact ⟨by rw [HR.out],Qaa (Qac af aa)⟩
       ·have b1:(c.n != d.n)=true:=by simp [hn]
        have HR:Hid ((!QeZ c d)=true):=by unfold QeZ;rw [show (c.n == d.n)=false by simp [hn]];simp;exact Qaa trivial
        refine tkS 10 (.bool true) aa ?_;refine tkS 11 (.bool true) aa ?_;refine tkU 12 aa ?_;simp only [sX];refine tkU 13 aa ?_;refine tkU 14 aa ?_;refine tkU 15 aa ?_;simp only [sX];refine tkU 16 aa ?_;refine tkU 17 aa ?_;refine tkU 18 aa ?_;simp only [sX];refine tkU 19 aa ?_;refine tkU 20 aa ?_;refine tkU 21 aa ?_;simp only [sX];refine tkU 22 aa ?_;refine tkS 23 (.bool true) aa ?_;refine tkS 24 (.bool true) aa ?_;simp only [sX];refine tkU 25 aa ?_;refine tkU 26 aa ?_;refine tkU 27 aa ?_;simp only [sX];refine tkU 28 aa ?_;refine tkU 29 aa ?_;refine tkU 30 aa ?_;simp only [sX];refine tkU 31 aa ?_;refine tkU 32 aa ?_;refine tkU 33 aa ?_;simp only [sX];refine tkU 34 aa ?_;simp only [sX];refine onE 35 fun K hK=>?_;refine Eq.mpr (if_neg (fun h=>Bool.noConfusion (show false=true from h))) ?_;refine gK hK aa ?_
        try simp only [sX]
        refine tkU 36 aa ?_;refine tkS 37 (.bool true) aa ?_;simp only [sX];refine dnE ?_ _;go_wp2;go_meet;exact ⟨by rw [HR.out],Qaa (Qac af aa)⟩
      case rest=>
       obtain ⟨rfl,ax⟩:=hcut
       cases hq:QeZ c d with
       | false=>
        have aw:Hid (false=csB L K):=by rw [<- HF.out,<- av.out,HS.out,hq];exact Qaa rfl
        go_wp2;go_ret;exact ⟨QjN aw,ax⟩
       | true=>
        have aC:Hid (Qb5 (L.drop (k+1)) (K.drop (k+1))=Qb5 L K):=by
         have:=av.out;rw [HS.out,hq,Bool.true_and] at this;exact this
        go_wp2;go_roundw
        case rel=>exact ⟨k+1,by omega,by go_num,aC,ax⟩
        case measure=>simp [zI];omega
     ·obtain rfl:N=k:=by omega
      have aw:Hid (true=csB L K):=by
       rw [<- HF.out,<- av.out,List.drop_eq_nil_of_le (by have:=HN.out;omega),List.drop_eq_nil_of_le (by have:=HM.out;omega)];exact Qaa rfl
      go_wp2;go_ret;exact ⟨QjN aw,af⟩
   ·have HF:Hid (false=csB L K):=by rw [HE.out,Qh9 (by have:=HN.out;have:=HM.out;omega)];simp;exact Qaa trivial
    have hb:((N:Int) != (M:Int))=true:=by simp;omega
    go_enter func15,ntmps15;go_wp2;go_ret;exact ⟨QjN HF,ZZb _ _⟩
  ·have d2:decide ((400:Int)<(M:Int))=true:=ZZh (by omega)
   have HF:Hid (false=csB L K):=by rw [HE.out,decide_eq_false h2];simp;exact Qaa trivial
   go_enter func15,ntmps15;go_wp2;go_ret;exact ⟨QjN HF,ZZb _ _⟩
 ·have d1:decide ((400:Int)<(N:Int))=true:=ZZh (by omega)
  have HF:Hid (false=csB L K):=by rw [HE.out,decide_eq_false h1];simp;exact Qaa trivial
  go_enter func15,ntmps15;go_wp2;go_ret;exact ⟨QjN HF,ZZb _ _⟩
end Go.Proofs.YtlejlgldgafljaaGreatDoor
