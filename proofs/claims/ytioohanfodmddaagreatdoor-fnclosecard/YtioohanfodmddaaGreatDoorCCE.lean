/-
 Parts.
-/
import Derived.Test.YtioohanfodmddaaGreatDoorCCA
set_option maxHeartbeats 8000000
set_option linter.all false
namespace Go.Proofs.YtioohanfodmddaaGreatDoor
open Go.ChangeShapes Go.WideShapes Go.ChangeAt Go.RowKit Go.PlainAid Go.Lib Tryz
set_option maxRecDepth 10000
theorem mAp {p:Prop} (h:p:=by
 obtain ⟨⟨x0,x1,x2,x3,x4,x5,x6,x7,x8,x9,an,ak,al,am,ah⟩,⟨y0,y1,y2,y3,y4,y5,y6,y7,y8,y9,ag,aj,ap,aq,ai⟩⟩:=HC.out W hW
 clear hW;go_simp):p:=h
theorem mAw {p:Prop} (h:p:=by
 refine tkS 23 (.bool true) aa ?_;refine tkS 24 (.bool true) aa ?_;simp only [sX];refine tkU 25 aa ?_;refine tkU 26 aa ?_;refine tkU 27 aa ?_;simp only [sX];refine tkU 28 aa ?_;refine tkU 29 aa ?_;refine tkU 30 aa ?_;simp only [sX];refine tkU 31 aa ?_;refine tkU 32 aa ?_;refine tkU 33 aa ?_;simp only [sX];refine tkU 34 aa ?_;simp only [sX];refine onE 35 fun K hK=>?_;refine Eq.mpr (if_neg (fun h=>Bool.noConfusion (show false=true from h))) ?_;refine gK hK aa ?_
 try simp only [sX]
 refine tkU 36 aa ?_;refine tkS 37 (.bool true) aa ?_;simp only [sX];refine dnE ?_ _;go_wp2;go_meet;exact ⟨by rw [HR.out],Qaa (Qac ae aa)⟩):p:=h
theorem mDh {p:Prop} (h:p:=by go_enter func7,ntmps7;go_wp2;go_ret;exact ⟨Qkl HF,ZZb _ _⟩):p:=h
theorem Qkl {a b:Bool} (h:a=b):Ending.returned (.bool a)=.returned (.bool b):=by rw [h]
theorem QeF {w:World} {ao bo:Option Addr} {N M ca cb:Nat} {L K:List Ce} (hN:L.length=N) (hM:K.length=M) (lN:N<=1048576) (lM:M<=1048576) (sm:∀ c∈L,AgSm c.g) (sm':∀ c∈K,AgSm c.g) (hA:QbG w ao L) (hB:QbG w bo K) :
  Calls prog 7 #[.slice ao N ca,.slice bo M cb] w fun e w'=>e=.returned (.bool (csB L K))/\Bw w w':=by
 have HE:Hid (csB L K=(decide (N<=400) && decide (M<=400) && QbV L K)):=by unfold csB;rw [hN,hM];exact Qaa rfl
 have HN:=Qaa hN;have HM:=Qaa hM;have SM:=Qaa sm;have aB:=Qaa sm';have HA:=Qaa hA;have HB:=Qaa hB;clear hN hM sm sm' hA hB;by_cases h1:N<=400
 ·have d1:decide ((400:Int)<(N:Int))=false:=ZZg oB
  by_cases h2:M<=400
  ·have d2:decide ((400:Int)<(M:Int))=false:=ZZg oB
   by_cases aA:N=M
   ·subst aA
    have HF:Hid (QbV L K=csB L K):=by rw [HE.out,decide_eq_true h1];exact Qaa rfl
    go_enter func7,ntmps7;go_wp2
    go_loopw [5] (fun i wr=>∃ k:Nat,k<=N/\i=.int .i64 k/\Hid (QbV (L.drop k) (K.drop k)=QbV L K)/\Hid (Bw w wr)) (fun i wr=>N - (Go.RowKit.intOf i).toNat)
    case atStart=>exact ⟨0,ZZj _,rfl,Qaa rfl,ZZb _ _⟩
    case round=>
     obtain ⟨k,hk,rfl,aw,ae⟩:=hrel;by_cases aE:k<N
     ·have aC:(k:Int)<(N:Int):=by omega
      obtain ⟨b,ad,e,af⟩:=HA.1 (oA HN.out);subst e;obtain ⟨b',ab,e,ac⟩:=HB.1 (oA HM.out);subst e;obtain ⟨c,hc⟩:∃ c,L[k]?=some c:=⟨L[k]'(oA HN.out),ZZe _⟩;obtain ⟨d,hd⟩:∃ d,K[k]?=some d:=⟨K[k]'(oA HM.out),ZZe _⟩;have HS:=Qaa (Ql3 hc hd);have hm:=ZZn hc;have ax:=ZZn hd;have hC:∀ W,Bw wr W->QbO W b (ad+k*15) c/\QbO W b' (ab+k*15) d:=fun W hW=>⟨Qaq (af k c hc) (Qac ae hW),Qaq (ac k _ hd) (Qac ae hW)⟩;have HC:=Qaa hC;have au:=Qaa (And.intro hm ax);clear af ac hc hd hm ax hC;go_upto_region 6 with fail
      go_cut [64] (fun v w'=>v=.bool (!QeT c d)/\Hid (Bw w w'))
      case first=>
       have aa:(fun W=>Bw wr W) wr.drew:=(ZZb _ _).drew;refine Qal (fun W=>Bw wr W) 38 oG ?_;refine tkS 0 (.slice (some ⟨b,ad,none⟩) N ca) aa ?_;refine tkS 1 (.int .i64 (k:Int)) aa ?_;refine tkS 2 (.pointer (some ⟨b,ad+k*15,none⟩)) aa ?_;simp only [sX];refine tkS 3 (.pointer (some ⟨b,ad+k*15,none⟩)) aa ?_;refine tkL 4 (.int .i64 c.n) aa (fun W hW=>?_) ?_
       ·exact mAp
       refine tkS 5 (.slice (some ⟨b',ab,none⟩) N cb) aa ?_;simp only [sX];refine tkS 6 (.int .i64 (k:Int)) aa ?_;refine tkS 7 (.pointer (some ⟨b',ab+k*15,none⟩)) aa ?_;refine tkS 8 (.pointer (some ⟨b',ab+k*15,none⟩)) aa ?_;simp only [sX];refine tkL 9 (.int .i64 d.n) aa (fun W hW=>?_) ?_
       ·exact mAp
       simp only [sX];by_cases hn:c.n=d.n
       ·have b1:(c.n != d.n)=false:=by simp [hn]
        refine tkS 10 (.bool false) aa ?_;refine tkS 11 (.bool false) aa ?_;refine tkS 12 (.slice (some ⟨b,ad,none⟩) N ca) aa ?_;simp only [sX];refine tkS 13 (.int .i64 (k:Int)) aa ?_;refine tkS 14 (.pointer (some ⟨b,ad+k*15,none⟩)) aa ?_;refine tkS 15 (.pointer (some ⟨b,ad+k*15+1,none⟩)) aa ?_;simp only [sX];refine tkL 16 (.string c.s) aa (fun W hW=>?_) ?_
        ·exact mAp
        refine tkS 17 (.slice (some ⟨b',ab,none⟩) N cb) aa ?_;refine tkS 18 (.int .i64 (k:Int)) aa ?_;simp only [sX];refine tkS 19 (.pointer (some ⟨b',ab+k*15,none⟩)) aa ?_;refine tkS 20 (.pointer (some ⟨b',ab+k*15+1,none⟩)) aa ?_;refine tkL 21 (.string d.s) aa (fun W hW=>?_) ?_
        ·exact mAp
        simp only [sX]
        cases hs:(c.s.toList == d.s.toList) with
        | true=>
         have b2:(c.s.toList != d.s.toList)=false:=by simp [bne,hs]
         have HR:Hid ((!QeT c d)=(!QaI c.g d.g)):=by unfold QeT;rw [hs,show (c.n == d.n)=true by simp [hn]];exact Qaa rfl
         refine tkS 22 (.bool false) aa ?_;refine tkS 23 (.bool false) aa ?_;refine tkS 24 (.bool false) aa ?_;simp only [sX];refine tkS 25 (.slice (some ⟨b,ad,none⟩) N ca) aa ?_;refine tkS 26 (.int .i64 (k:Int)) aa ?_;refine tkS 27 (.pointer (some ⟨b,ad+k*15,none⟩)) aa ?_;simp only [sX];refine tkS 28 (.pointer (some ⟨b,ad+k*15+2,none⟩)) aa ?_;refine tkL 29 (.agg (Qau c.g c.p)) aa (fun W hW=>?_) ?_
         ·exact mAp
         refine tkS 30 (.slice (some ⟨b',ab,none⟩) N cb) aa ?_;simp only [sX];refine tkS 31 (.int .i64 (k:Int)) aa ?_;refine tkS 32 (.pointer (some ⟨b',ab+k*15,none⟩)) aa ?_;refine tkS 33 (.pointer (some ⟨b',ab+k*15+2,none⟩)) aa ?_;simp only [sX];refine tkL 34 (.agg (Qau d.g d.p)) aa (fun W hW=>?_) ?_
         ·exact mAp
         simp only [sX];refine onE 35 fun K hK=>?_;rw [if_pos oR];go_simp;refine (Qlx (g:=c.g) (p:=c.p) (g':=d.g) (p':=d.p) (SM.out c au.1) (aB.out d au.2) (QaD (HA.2 c au.1) (Qac ae aa)) (QaD (HB.2 d au.2) (Qac ae aa))).mono ?_;rintro e w1 ⟨rfl,ay⟩;have ar:Hid (Bw wr w1):=(aa:Bw wr _).trans (ay.mono (ZZa _));clear ay
         try dsimp only
         refine gK hK ar.out ?_
         try simp only [sX]
         refine tkS 36 (.bool (!QaI c.g d.g)) ar ?_;refine tkS 37 (.bool (!QaI c.g d.g)) ar ?_;simp only [sX];refine dnE ?_ _;go_wp2;go_meet;exact ⟨by rw [HR.out],Qaa (Qac ae ar)⟩
        | false=>
         have b2:(c.s.toList != d.s.toList)=true:=by simp [bne,hs]
         have HR:Hid ((!QeT c d)=true):=by unfold QeT;rw [hs];simp;exact Qaa trivial
         refine tkS 22 (.bool true) aa ?_;exact mAw
       ·have b1:(c.n != d.n)=true:=by simp [hn]
        have HR:Hid ((!QeT c d)=true):=by unfold QeT;rw [show (c.n == d.n)=false by simp [hn]];simp;exact Qaa trivial
        refine tkS 10 (.bool true) aa ?_;refine tkS 11 (.bool true) aa ?_;refine tkU 12 aa ?_;simp only [sX];refine tkU 13 aa ?_;refine tkU 14 aa ?_;refine tkU 15 aa ?_;simp only [sX];refine tkU 16 aa ?_;refine tkU 17 aa ?_;refine tkU 18 aa ?_;simp only [sX];refine tkU 19 aa ?_;refine tkU 20 aa ?_;refine tkU 21 aa ?_;simp only [sX];refine tkU 22 aa ?_;exact mAw
      case rest=>
       obtain ⟨rfl,az⟩:=hcut
       cases hq:QeT c d with
       | false=>
        have av:Hid (false=csB L K):=by rw [<- HF.out,<- aw.out,HS.out,hq];exact Qaa rfl
        go_wp2;go_ret;exact ⟨Qkl av,az⟩
       | true=>
        have aD:Hid (QbV (L.drop (k+1)) (K.drop (k+1))=QbV L K):=by
         have:=aw.out;rw [HS.out,hq,Bool.true_and] at this;exact this
        go_wp2;go_roundw
        case rel=>exact ⟨k+1,by omega,by go_num,aD,az⟩
        case measure=>simp [zI];omega
     ·obtain rfl:N=k:=by omega
      have av:Hid (true=csB L K):=by
       rw [<- HF.out,<- aw.out,List.drop_eq_nil_of_le (oA HN.out),List.drop_eq_nil_of_le (oA HM.out)];exact Qaa rfl
      go_wp2;go_ret;exact ⟨Qkl av,ae⟩
   ·have HF:Hid (false=csB L K):=by rw [HE.out,Qic (by have:=HN.out;have:=HM.out;omega)];simp;exact Qaa trivial
    have hb:((N:Int) != (M:Int))=true:=by simp;omega
    exact mDh
  ·have d2:decide ((400:Int)<(M:Int))=true:=ZZh oB
   have HF:Hid (false=csB L K):=by rw [HE.out,decide_eq_false h2];simp;exact Qaa trivial
   exact mDh
 ·have d1:decide ((400:Int)<(N:Int))=true:=ZZh oB
  have HF:Hid (false=csB L K):=by rw [HE.out,decide_eq_false h1];simp;exact Qaa trivial
  exact mDh
end Go.Proofs.YtioohanfodmddaaGreatDoor
