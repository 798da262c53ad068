/-
 Parts.
-/
import Derived.Test.YtandnmpllheniaaGreatDoorCCB
import Derived.Test.YtandnmpllheniaaGreatDoorCSE
set_option linter.all false
set_option maxHeartbeats 16000000
namespace Go.Proofs.YtandnmpllheniaaGreatDoor
open Go.ChangeShapes Go.WideShapes Go.ChangeAt Go.RowKit Go.PlainAid Go.Lib
set_option maxRecDepth 10000
theorem QfY {a b:Bool} (h:a=b):Ending.returned (.bool a)=.returned (.bool b):=by rw [h]
theorem Qe8 (n:Int) (w:World):Calls Tryz.prog 40 #[.int .i64 n] w fun e w'=>e=.returned (.bool (Qfq n))/\w'=w:=by
 by_cases h1:0<=n <;> by_cases h2:n<=1000000000 <;> (go_enter Tryz.func40,Tryz.ntmps40;go_wp2;go_ret;exact ⟨by simp [Qfq,h1,h2],rfl⟩)
theorem Qcv {w:World} (c:Ce) (ok:AgOk c.g) (sm:AgSm c.g) (hs:c.s.size<=maxLen) (hm:MX w) (hA:AgAt w c.g c.p) :
  Calls Tryz.prog 64 #[.agg (Qap c)] w fun e w'=>e=.returned (.bool (cRi c))/\Below w.heap.size w w':=by
 have ai:Below w.heap.size w (w.alloc (.cells (Qap c) 51)):=(ZZb _ _).alloc (ZZa _) _;have K0:=Qaa (QfF w 51 c);have HA:=Qaa hA;have OK:=Qaa ok;have SM:=Qaa sm;have ak:=Qaa (hm.past ai);have ad:=Qaa ai;clear hA ok sm hm ai;go_enter Tryz.func64,Tryz.ntmps64;go_wp2_with fail;generalize w.alloc (.cells (Qap c) 51)=W0 at K0 ak ad ⊢;refine (Qe8 _ _).mono ?_;rintro e wz ⟨rfl,am⟩;obtain rfl:=am.symm;obtain ⟨x0,x1,x2,x3,x4,x5,x6,x7,x8,x9,ag,ac,af,ae,ah⟩:=K0.out
 cases h1:Qfq c.n with
 | false=>
  have HE:Hid (false=cRi c):=(by simp [cRi,h1]:false=cRi c);go_wp2;go_ret;exact ⟨QfY HE,ad⟩
 | true=>
  go_wp2_with fail;clear x0 x1 x2 x3 x4 x5 x6 x7 x8 x9 ag ac af ae ah;refine (QdK c.s ak hs).mono ?_;rintro e w1 ⟨rfl,aa⟩;obtain ⟨x0,x1,x2,x3,x4,x5,x6,x7,x8,x9,ag,ac,af,ae,ah⟩:=Qai K0 aa;have ab:=Qaa (Qac ad aa);have an:=Qaa aa;clear aa
  cases h2:Qbv c.s with
  | false=>
   have HE:Hid (false=cRi c):=(by simp [cRi,h2]:false=cRi c);go_wp2;go_ret;exact ⟨QfY HE,ab⟩
  | true=>
   by_cases h3:c.g.s=0
   ·have HE:Hid (false=cRi c):=(by simp [cRi,h3]:false=cRi c)
    have d3:decide (0<c.g.s)=false:=ZZg (by omega);clear h3;go_wp2;go_ret;exact ⟨QfY HE,ab⟩
   ·have d3:decide (0<c.g.s)=true:=decide_eq_true (by have:=OK.out.s;unfold U64 at this;omega)
    have HE:Hid (agB c.g=cRi c):=(by simp [cRi,h1,h2,h3]:agB c.g=cRi c);clear h3;go_wp2_with fail;clear x0 x1 x2 x3 x4 x5 x6 x7 x8 x9 ag ac af ae ah;refine (QcK (g:=c.g) (p:=c.p) OK SM (Qao HA ab)).mono ?_;rintro e w2 ⟨rfl,aj⟩;obtain ⟨B,hB⟩:∃ B,agB c.g=B:=⟨_,rfl⟩;rw [QlW,hB];have HF:Hid (B=cRi c):=by rw [<- hB];exact HE
    have al:=Qaa (Qac ab aj);clear aj hB HE
    cases B <;> (go_wp2;go_ret;exact ⟨QfY HF,al⟩)
theorem Qep {w:World} (c d:Ce) :
  Calls Tryz.prog 65 #[.agg (Qap c),.agg (Qap d)] w fun e w'=>e=.returned (.int .i64 (QnC c.n c.s d.n d.s))/\Below w.heap.size w w':=by
 have af:Hid (Below w.heap.size w ((w.alloc (.cells (Qap c) 51)).alloc (.cells (Qap d) 51))):=((Below.refl _ _).alloc (Nat.le_refl _) _).alloc (by simp) _;have HC:=Qaa (QnO w 51 c d);go_enter Tryz.func65,Tryz.ntmps65;go_wp2_with fail;generalize (w.alloc (.cells (Qap c) 51)).alloc (.cells (Qap d) 51)=W0 at HC af ⊢;have aa:(fun W=>Below W0.heap.size W0 W) W0.drew:=(ZZb _ _).drew;refine Qaj (fun W=>Below W0.heap.size W0 W) 5 (by kernel_rfl) ?_;refine tkL 0 (.agg (Qap c)) aa (fun W hW=>?_) ?_
 ·obtain ⟨⟨x0,x1,x2,x3,x4,x5,x6,x7,x8,x9,aq,ai,am,aj,ar⟩,⟨y0,y1,y2,y3,y4,y5,y6,y7,y8,y9,ap,an,al,ak,ao⟩⟩:=HC.out W hW
  clear hW;go_simp
 refine tkL 2 (.agg (Qap d)) aa (fun W hW=>?_) ?_
 ·obtain ⟨⟨x0,x1,x2,x3,x4,x5,x6,x7,x8,x9,aq,ai,am,aj,ar⟩,⟨y0,y1,y2,y3,y4,y5,y6,y7,y8,y9,ap,an,al,ak,ao⟩⟩:=HC.out W hW
  clear hW;go_simp
 simp only [sX];refine onE 1 fun K hK=>?_;go_simp;refine (QfA c _).mono ?_;rintro e w1 ⟨rfl,ae⟩;have ad:Hid (Below W0.heap.size W0 w1):=(aa:Below W0.heap.size W0 W0.drew).trans (ae.mono (ZZa _));clear ae;dsimp only;refine gK hK ad.out ?_
 try simp only [sX]
 refine onE 3 fun K hK=>?_;go_simp;refine (QfA d _).mono ?_;rintro e w2 ⟨rfl,ag⟩;have ac:Hid (Below W0.heap.size W0 w2):=Qac ad ag;clear ag;dsimp only;refine gK hK ac.out ?_
 try simp only [sX]
 refine onE 4 fun K hK=>?_;go_simp;refine (Qiw c.n c.s d.n d.s _).mono ?_;rintro e w3 ⟨rfl,ab⟩;have ah:Hid (Below W0.heap.size W0 w3):=Qac ac ab;clear ab;dsimp only;refine gK hK ah.out ?_
 try simp only [sX]
 refine onE 5 fun K hK=>?_;go_simp;refine hK.out _ _ (fun h=>absurd rfl h) ?_
 try simp only [sX]
 refine dnE ?_ _;go_wp2;go_ret;exact ⟨rfl,Qac af ah⟩
theorem QcT {w:World} {ao:Option Addr} {N ca:Nat} {L:List Ce} (hN:L.length=N) (lN:N<=1048576) (ok:∀ c∈L,AgOk c.g) (sm:∀ c∈L,AgSm c.g) (ss:∀ c∈L,c.s.size<=maxLen) (hm:MX w) (hA:Qb7 w ao L) :
  Calls Tryz.prog 24 #[.slice ao N ca] w fun e w'=>e=.returned (.bool (csR L))/\Below w.heap.size w w':=by
 have HE:Hid (csR L=(decide (N<=60) && cRs none L)):=by unfold csR;rw [hN];exact Qaa rfl
 have HN:=Qaa hN;have OK:=Qaa ok;have SM:=Qaa sm;have SS:=Qaa ss;have HA:=Qaa hA;have an:=Qaa hm;clear hN ok sm ss hA hm;by_cases h1:N<=60
 ·have d1:decide ((60:Int)<(N:Int))=false:=ZZg (by omega)
  have HF:Hid (cRs (QiD L 0) (L.drop 0)=csR L):=by rw [HE.out,decide_eq_true h1];exact Qaa rfl
  go_enter Tryz.func24,Tryz.ntmps24;go_wp2
  go_loopw [10] (fun i wr=>∃ k:Nat,k<=N/\i=.int .i64 k/\Hid (cRs (QiD L k) (L.drop k)=csR L)/\Hid (Below w.heap.size w wr)) (fun i wr=>N - (Go.RowKit.intOf i).toNat)
  case atStart=>exact ⟨0,ZZj _,rfl,HF,ZZb _ _⟩
  case round=>
   obtain ⟨k,hk,rfl,ar,ax⟩:=hrel;by_cases aN:k<N
   ·have aE:(k:Int)<(N:Int):=by omega
    obtain ⟨b,aw,e,ag⟩:=HA.out.1 (by have:=HN.out;omega);subst e;obtain ⟨c,hc⟩:∃ c,L[k]?=some c:=⟨L[k]'(by have:=HN.out;omega),ZZe _⟩;have aD:=ZZn hc;have ac:=Qaa aD;have aB:=Qaa hc;obtain ⟨x0,x1,x2,x3,x4,x5,x6,x7,x8,x9,al,aj,ak,ah,ai⟩:=Qai (ag k c hc) ax;have aC:=Qaa ag;clear ag hc aD;go_upto_region 6 with fail;clear x0 x1 x2 x3 x4 x5 x6 x7 x8 x9 al aj ak ah ai;have ay:Below wr.heap.size wr (wr.alloc (.cells (Qap c) 51)):=(ZZb _ _).alloc (ZZa _) _;have K0:=QfF wr 51 c;generalize hW0:wr.alloc (.cells (Qap c) 51)=W0 at ay K0 ⊢;have ad:=Qaa (Qac ax ay);have am:=Qaa K0;clear hW0 ay K0
    cases k with
    | zero=>
     have HS:=Qaa (Qk1 aB)
     go_cut [31] (fun v w'=>v=.bool (!cRi c)/\Hid (Below w.heap.size w w'))
     case first=>
      cases hri:cRi c with
      | false=>
       have ab:(fun W=>Below W0.heap.size W0 W) W0.drew:=(ZZb _ _).drew;refine Qaj (fun W=>Below W0.heap.size W0 W) 99 (by kernel_rfl) ?_;refine tkL 0 (.agg (Qap c)) ab (fun W hW=>?_) ?_
       ·obtain ⟨x0,x1,x2,x3,x4,x5,x6,x7,x8,x9,al,aj,ak,ah,ai⟩:=Qai am hW
        clear hW;go_simp
       simp only [sX];refine onE 1 fun K hK=>?_;go_simp;refine (Qcv c (OK.out c ac) (SM.out c ac) (SS.out c ac) (an.out.past (Qac ad ab)) (Qao (HA.out.2 c ac) (Qac ad ab))).mono ?_;rintro e w1 ⟨rfl,ae⟩;rw [hri];have aa:Hid (Below W0.heap.size W0 w1):=(ab:Below W0.heap.size W0 W0.drew).trans (ae.mono (ZZa _));clear ae;dsimp only;refine gK hK aa.out ?_
       try simp only [sX]
       refine tkS 2 (.bool true) aa ?_;refine tkS 3 (.bool true) aa ?_;refine tkU 4 aa ?_;simp only [sX];refine tkU 5 aa ?_;refine tkU 6 aa ?_;refine tkU 7 aa ?_;simp only [sX];refine tkU 8 aa ?_;refine tkU 9 aa ?_;refine tkU 10 aa ?_;simp only [sX];refine tkU 11 aa ?_;refine tkU 12 aa ?_;simp only [sX];refine onE 13 fun K hK=>?_;refine Eq.mpr (if_neg (fun h=>Bool.noConfusion (show false=true from h))) ?_;refine gK hK aa.out ?_
       try simp only [sX]
       refine tkU 14 aa ?_;refine tkU 15 aa ?_;refine tkS 16 (.bool true) aa ?_;simp only [sX];refine dnE ?_ _;go_wp2;go_meet;exact ⟨by rw [hri];rfl,Qaa (Qac ad aa)⟩
      | true=>
       have ab:(fun W=>Below W0.heap.size W0 W) W0.drew:=(ZZb _ _).drew;refine Qaj (fun W=>Below W0.heap.size W0 W) 99 (by kernel_rfl) ?_;refine tkL 0 (.agg (Qap c)) ab (fun W hW=>?_) ?_
       ·obtain ⟨x0,x1,x2,x3,x4,x5,x6,x7,x8,x9,al,aj,ak,ah,ai⟩:=Qai am hW
        clear hW;go_simp
       simp only [sX];refine onE 1 fun K hK=>?_;go_simp;refine (Qcv c (OK.out c ac) (SM.out c ac) (SS.out c ac) (an.out.past (Qac ad ab)) (Qao (HA.out.2 c ac) (Qac ad ab))).mono ?_;rintro e w1 ⟨rfl,ae⟩;rw [hri];have aa:Hid (Below W0.heap.size W0 w1):=(ab:Below W0.heap.size W0 W0.drew).trans (ae.mono (ZZa _));clear ae;dsimp only;refine gK hK aa.out ?_
       try simp only [sX]
       refine tkS 2 (.bool false) aa ?_;refine tkS 3 (.bool false) aa ?_;refine tkS 4 (.int .i64 0) aa ?_;simp only [sX];refine tkS 5 (.bool false) aa ?_;refine tkS 6 (.bool false) aa ?_;refine tkU 7 aa ?_;simp only [sX];refine tkU 8 aa ?_;refine tkU 9 aa ?_;refine tkU 10 aa ?_;simp only [sX];refine tkU 11 aa ?_;refine tkU 12 aa ?_;simp only [sX];refine onE 13 fun K hK=>?_;refine Eq.mpr (if_neg (fun h=>Bool.noConfusion (show false=true from h))) ?_;refine gK hK aa.out ?_
       try simp only [sX]
       refine tkU 14 aa ?_;refine tkS 15 (.bool false) aa ?_;refine tkS 16 (.bool false) aa ?_;simp only [sX];refine dnE ?_ _;go_wp2;go_meet;exact ⟨by rw [hri];rfl,Qaa (Qac ad aa)⟩
     case rest=>
      obtain ⟨rfl,au⟩:=hcut
      cases hri:cRi c with
      | false=>
       have ap:Hid (false=csR L):=by rw [<- ar.out,HS.out,hri];exact Qaa rfl
       go_wp2;go_ret;exact ⟨QfY ap,au⟩
      | true=>
       have az:Hid (cRs (QiD L (0+1)) (L.drop (0+1))=csR L):=by
        have:=ar.out;rw [HS.out,hri,Bool.true_and] at this;exact this
       go_wp2;go_roundw
       case rel=>exact ⟨0+1,by omega,by go_num,az,au⟩
       case measure=>simp [zI];omega
    | succ k=>
     obtain ⟨b0,aA⟩:∃ c,L[k]?=some c:=⟨L[k]'(by have:=HN.out;omega),ZZe _⟩;have HS:=Qaa (QkN aA aB);have av:=Qaa (QmI b0 c)
     go_cut [31] (fun v w'=>v=.bool (!(cRi c && cAh b0 c))/\Hid (Below w.heap.size w w'))
     case first=>
      cases hri:cRi c with
      | false=>
       have ab:(fun W=>Below W0.heap.size W0 W) W0.drew:=(ZZb _ _).drew;refine Qaj (fun W=>Below W0.heap.size W0 W) 99 (by kernel_rfl) ?_;refine tkL 0 (.agg (Qap c)) ab (fun W hW=>?_) ?_
       ·obtain ⟨x0,x1,x2,x3,x4,x5,x6,x7,x8,x9,al,aj,ak,ah,ai⟩:=Qai am hW
        clear hW;go_simp
       simp only [sX];refine onE 1 fun K hK=>?_;go_simp;refine (Qcv c (OK.out c ac) (SM.out c ac) (SS.out c ac) (an.out.past (Qac ad ab)) (Qao (HA.out.2 c ac) (Qac ad ab))).mono ?_;rintro e w1 ⟨rfl,ae⟩;rw [hri];have aa:Hid (Below W0.heap.size W0 w1):=(ab:Below W0.heap.size W0 W0.drew).trans (ae.mono (ZZa _));clear ae;dsimp only;refine gK hK aa.out ?_
       try simp only [sX]
       refine tkS 2 (.bool true) aa ?_;refine tkS 3 (.bool true) aa ?_;refine tkU 4 aa ?_;simp only [sX];refine tkU 5 aa ?_;refine tkU 6 aa ?_;refine tkU 7 aa ?_;simp only [sX];refine tkU 8 aa ?_;refine tkU 9 aa ?_;refine tkU 10 aa ?_;simp only [sX];refine tkU 11 aa ?_;refine tkU 12 aa ?_;simp only [sX];refine onE 13 fun K hK=>?_;refine Eq.mpr (if_neg (fun h=>Bool.noConfusion (show false=true from h))) ?_;refine gK hK aa.out ?_
       try simp only [sX]
       refine tkU 14 aa ?_;refine tkU 15 aa ?_;refine tkS 16 (.bool true) aa ?_;simp only [sX];refine dnE ?_ _;go_wp2;go_meet;exact ⟨by rw [hri];rfl,Qaa (Qac ad aa)⟩
      | true=>
       cases hah:cAh b0 c with
       | false=>
        have aH:decide (0<=QnC b0.n b0.s c.n c.s)=true:=by rw [av.out,hah];rfl
        have HH:=Qaa hah;clear av hah;have ab:(fun W=>Below W0.heap.size W0 W) W0.drew:=(ZZb _ _).drew;refine Qaj (fun W=>Below W0.heap.size W0 W) 99 (by kernel_rfl) ?_;refine tkL 0 (.agg (Qap c)) ab (fun W hW=>?_) ?_
        ·obtain ⟨x0,x1,x2,x3,x4,x5,x6,x7,x8,x9,al,aj,ak,ah,ai⟩:=Qai am hW
         clear hW;go_simp
        simp only [sX];refine onE 1 fun K hK=>?_;go_simp;refine (Qcv c (OK.out c ac) (SM.out c ac) (SS.out c ac) (an.out.past (Qac ad ab)) (Qao (HA.out.2 c ac) (Qac ad ab))).mono ?_;rintro e w1 ⟨rfl,ae⟩;rw [hri];have aa:Hid (Below W0.heap.size W0 w1):=(ab:Below W0.heap.size W0 W0.drew).trans (ae.mono (ZZa _));clear ae;dsimp only;refine gK hK aa.out ?_
        try simp only [sX]
        refine tkS 2 (.bool false) aa ?_;refine tkS 3 (.bool false) aa ?_;refine tkS 4 (.int .i64 ((k+1:Nat):Int)) aa ?_;simp only [sX];refine tkS 5 (.bool true) aa ?_;refine tkS 6 (.bool true) aa ?_;refine tkS 7 (.slice (some ⟨b,aw,none⟩) N ca) aa ?_;simp only [sX];refine tkS 8 (.int .i64 ((k+1:Nat):Int)) aa ?_;refine tkL 9 (.int .i64 (k:Int)) aa (fun W hW=>?_) ?_
        ·have aK:IntKind.i64.wrap (k:Int)=(k:Int):=by rw [IntKind.wrap_i64];omega
         clear hW;go_simp
        refine tkL 10 (.pointer (some ⟨b,aw+k*15,none⟩)) aa (fun W hW=>?_) ?_
        ·have aF:¬ N<=k:=by omega
         clear hW;go_simp
        simp only [sX];refine tkL 11 (.agg (Qap b0)) aa (fun W hW=>?_) ?_
        ·obtain ⟨y0,y1,y2,y3,y4,y5,y6,y7,y8,y9,aG,aL,aJ,aI,aM⟩:=Qai (aC.out k b0 aA) (Qac ad hW)
         clear hW;go_simp
        refine tkL 12 (.agg (Qap c)) aa (fun W hW=>?_) ?_
        ·obtain ⟨x0,x1,x2,x3,x4,x5,x6,x7,x8,x9,al,aj,ak,ah,ai⟩:=Qai am hW
         clear hW;go_simp
        simp only [sX];refine onE 13 fun K hK=>?_;go_simp;refine (Qep b0 c).mono ?_;rintro e w2 ⟨rfl,aq⟩;have af:Hid (Below W0.heap.size W0 w2):=Qac aa aq;clear aq;dsimp only;refine gK hK af.out ?_
        try simp only [sX]
        refine tkS 14 (.bool true) af ?_;refine tkS 15 (.bool true) af ?_;refine tkS 16 (.bool true) af ?_;simp only [sX];refine dnE ?_ _;go_wp2;go_meet;exact ⟨by rw [hri,HH.out];rfl,Qaa (Qac ad af)⟩
       | true=>
        have aH:decide (0<=QnC b0.n b0.s c.n c.s)=false:=by rw [av.out,hah];rfl
        have HH:=Qaa hah;clear av hah;have ab:(fun W=>Below W0.heap.size W0 W) W0.drew:=(ZZb _ _).drew;refine Qaj (fun W=>Below W0.heap.size W0 W) 99 (by kernel_rfl) ?_;refine tkL 0 (.agg (Qap c)) ab (fun W hW=>?_) ?_
        ·obtain ⟨x0,x1,x2,x3,x4,x5,x6,x7,x8,x9,al,aj,ak,ah,ai⟩:=Qai am hW
         clear hW;go_simp
        simp only [sX];refine onE 1 fun K hK=>?_;go_simp;refine (Qcv c (OK.out c ac) (SM.out c ac) (SS.out c ac) (an.out.past (Qac ad ab)) (Qao (HA.out.2 c ac) (Qac ad ab))).mono ?_;rintro e w1 ⟨rfl,ae⟩;rw [hri];have aa:Hid (Below W0.heap.size W0 w1):=(ab:Below W0.heap.size W0 W0.drew).trans (ae.mono (ZZa _));clear ae;dsimp only;refine gK hK aa.out ?_
        try simp only [sX]
        refine tkS 2 (.bool false) aa ?_;refine tkS 3 (.bool false) aa ?_;refine tkS 4 (.int .i64 ((k+1:Nat):Int)) aa ?_;simp only [sX];refine tkS 5 (.bool true) aa ?_;refine tkS 6 (.bool true) aa ?_;refine tkS 7 (.slice (some ⟨b,aw,none⟩) N ca) aa ?_;simp only [sX];refine tkS 8 (.int .i64 ((k+1:Nat):Int)) aa ?_;refine tkL 9 (.int .i64 (k:Int)) aa (fun W hW=>?_) ?_
        ·have aK:IntKind.i64.wrap (k:Int)=(k:Int):=by rw [IntKind.wrap_i64];omega
         clear hW;go_simp
        refine tkL 10 (.pointer (some ⟨b,aw+k*15,none⟩)) aa (fun W hW=>?_) ?_
        ·have aF:¬ N<=k:=by omega
         clear hW;go_simp
        simp only [sX];refine tkL 11 (.agg (Qap b0)) aa (fun W hW=>?_) ?_
        ·obtain ⟨y0,y1,y2,y3,y4,y5,y6,y7,y8,y9,aG,aL,aJ,aI,aM⟩:=Qai (aC.out k b0 aA) (Qac ad hW)
         clear hW;go_simp
        refine tkL 12 (.agg (Qap c)) aa (fun W hW=>?_) ?_
        ·obtain ⟨x0,x1,x2,x3,x4,x5,x6,x7,x8,x9,al,aj,ak,ah,ai⟩:=Qai am hW
         clear hW;go_simp
        simp only [sX];refine onE 13 fun K hK=>?_;go_simp;refine (Qep b0 c).mono ?_;rintro e w2 ⟨rfl,aq⟩;have af:Hid (Below W0.heap.size W0 w2):=Qac aa aq;clear aq;dsimp only;refine gK hK af.out ?_
        try simp only [sX]
        refine tkS 14 (.bool false) af ?_;refine tkS 15 (.bool false) af ?_;refine tkS 16 (.bool false) af ?_;simp only [sX];refine dnE ?_ _;go_wp2;go_meet;exact ⟨by rw [hri,HH.out];rfl,Qaa (Qac ad af)⟩
     case rest=>
      obtain ⟨rfl,au⟩:=hcut
      cases hri:(cRi c && cAh b0 c) with
      | false=>
       have ap:Hid (false=csR L):=by rw [<- ar.out,HS.out,hri];exact Qaa rfl
       go_wp2;go_ret;exact ⟨QfY ap,au⟩
      | true=>
       have az:Hid (cRs (QiD L (k+1+1)) (L.drop (k+1+1))=csR L):=by
        have:=ar.out;rw [HS.out,hri,Bool.true_and] at this;exact this
       go_wp2;go_roundw
       case rel=>exact ⟨k+1+1,by omega,by go_num,az,au⟩
       case measure=>simp [zI];omega
   ·obtain rfl:N=k:=by omega
    have ap:Hid (true=csR L):=by
     rw [<- ar.out,List.drop_eq_nil_of_le (by have:=HN.out;omega)]
     cases QiD L N <;> exact Qaa rfl
    go_wp2;go_ret;exact ⟨QfY ap,ax⟩
 ·have d1:decide ((60:Int)<(N:Int))=true:=ZZh (by omega)
  have HF:Hid (false=csR L):=by rw [HE.out,decide_eq_false h1];exact Qaa rfl
  go_enter Tryz.func24,Tryz.ntmps24;go_wp2;go_ret;exact ⟨QfY HF,ZZb _ _⟩
theorem Qg0 {a b:Bool} (h:a=b):Ending.returned (.bool a)=.returned (.bool b):=by rw [h]
theorem QpW (n lo hi:Int) (w:World):Calls Tryz.prog 90 #[.int .i64 n,.int .i64 lo,.int .i64 hi] w fun e w'=>e=.returned (.bool (decide (lo<=n) && decide (n<=hi)))/\w'=w:=by
 by_cases h1:lo<=n <;> by_cases h2:n<=hi <;> (go_enter Tryz.func90,Tryz.ntmps90;go_wp2;go_ret;exact ⟨by simp [h1,h2],rfl⟩)
theorem QaW (n:Int) (w:World):Calls Tryz.prog 47 #[.int .i64 n] w fun e w'=>e=.returned (.bool (Qfq n))/\w'=w:=by
 go_enter Tryz.func47,Tryz.ntmps47;go_wp2_with (go_at_call 90;refine (QpW _ _ _ _).mono ?_;rintro e w1 ⟨rfl,aa⟩;obtain rfl:=aa);go_ret;exact ⟨rfl,rfl⟩
theorem Qcq (c:Ce) (n:Int) (s:ByteArray) (w:World) :
  Calls Tryz.prog 60 #[.agg (Qap c),.int .i64 n,.string s] w fun e w'=>e=.returned (.bool (decide (c.n<n) || ((c.n == n) && Qa4 c.s s)))/\Below w.heap.size w w':=by
 have aa:Hid (Below w.heap.size w (w.alloc (.cells (Qap c) 51))):=(ZZb _ _).alloc (ZZa _) _;obtain ⟨B,hB⟩:∃ B,Qa4 c.s s=B:=⟨_,rfl⟩;have HL:=Qaa hB;by_cases h1:c.n<n
 ·have HE:Hid (true=(decide (c.n<n) || ((c.n == n) && Qa4 c.s s))):=(by simp [h1]:true=(decide (c.n<n) || ((c.n == n) && Qa4 c.s s)))
  generalize (decide (c.n<n) || ((c.n == n) && Qa4 c.s s))=Z at HE ⊢;go_enter Tryz.func60,Tryz.ntmps60;go_wp2;go_ret;exact ⟨Qg0 HE,aa⟩
 ·by_cases h2:c.n=n
  ·have HE:Hid (B=(decide (c.n<n) || ((c.n == n) && Qa4 c.s s))):=(by simp [h2,hB]:B=(decide (c.n<n) || ((c.n == n) && Qa4 c.s s)))
   generalize (decide (c.n<n) || ((c.n == n) && Qa4 c.s s))=Z at HE ⊢;have b2:(c.n == n)=true:=by simp [h2]
   have ab:Op.bytesLess c.s.toList s.toList=B:=hB;clear h2 hB HL;go_enter Tryz.func60,Tryz.ntmps60
   cases B <;> (go_wp2;go_ret;exact ⟨Qg0 HE,aa⟩)
  ·have HE:Hid (false=(decide (c.n<n) || ((c.n == n) && Qa4 c.s s))):=(by simp [h1,h2]:false=(decide (c.n<n) || ((c.n == n) && Qa4 c.s s)))
   generalize (decide (c.n<n) || ((c.n == n) && Qa4 c.s s))=Z at HE ⊢;have b2:(c.n == n)=false:=ZZf.2 h2;clear h2;go_enter Tryz.func60,Tryz.ntmps60;go_wp2;go_ret;exact ⟨Qg0 HE,aa⟩
theorem QbH {w:World} {ao:Option Addr} {N ca:Nat} {L:List Ce} (hN:L.length=N) (lN:N<=1048576) (ok:∀ c∈L,AgOk c.g) (sm:∀ c∈L,AgSm c.g) (ss:∀ c∈L,c.s.size<=maxLen) (hA:Qb7 w ao L) :
  Calls Tryz.prog 19 #[.slice ao N ca] w fun e w'=>e=.returned (.bool (csR L))/\Below w.heap.size w w':=by
 have HE:Hid (csR L=(decide (N<=60) && cRs none L)):=by unfold csR;rw [hN];exact Qaa rfl
 have HN:=Qaa hN;have OK:=Qaa ok;have SM:=Qaa sm;have SS:=Qaa ss;have HA:=Qaa hA;clear hN ok sm ss hA;by_cases h1:N<=60
 ·have d1:decide ((60:Int)<(N:Int))=false:=ZZg (by omega)
  have HF:Hid (cRs (QiD L 0) (L.drop 0)=csR L):=by rw [HE.out,decide_eq_true h1];exact Qaa rfl
  go_enter Tryz.func19,Tryz.ntmps19;go_wp2
  go_loopw [3] (fun i wr=>∃ k:Nat,k<=N/\i=.int .i64 k/\Hid (cRs (QiD L k) (L.drop k)=csR L)/\Hid (Below w.heap.size w wr)) (fun i wr=>N - (Go.RowKit.intOf i).toNat)
  case atStart=>exact ⟨0,ZZj _,rfl,HF,ZZb _ _⟩
  case round=>
   obtain ⟨k,hk,rfl,av,ay⟩:=hrel;by_cases aO:k<N
   ·have aG:(k:Int)<(N:Int):=by omega
    obtain ⟨b,ax,e,aq⟩:=HA.out.1 (by have:=HN.out;omega);subst e;obtain ⟨c,hc⟩:∃ c,L[k]?=some c:=⟨L[k]'(by have:=HN.out;omega),ZZe _⟩;have aE:=ZZn hc;have aj:=Qaa aE;have aC:=Qaa hc;obtain ⟨x0,x1,x2,x3,x4,x5,x6,x7,x8,x9,ah,af,ag,ad,ae⟩:=Qai (aq k c hc) ay;have aD:=Qaa aq;clear aq hc aE;go_upto_region 7 with fail;clear x0 x1 x2 x3 x4 x5 x6 x7 x8 x9 ah af ag ad ae;have az:Below wr.heap.size wr (wr.alloc (.cells (Qap c) 51)):=(ZZb _ _).alloc (ZZa _) _;have K0:=QfF wr 51 c;generalize hW0:wr.alloc (.cells (Qap c) 51)=W0 at az K0 ⊢;have am:=Qaa (Qac ay az);have ai:=Qaa K0;clear hW0 az K0
    cases k with
    | zero=>
     have HS:=Qaa (Qk1 aC)
     go_cut [56] (fun v w'=>v=.bool (!cRi c)/\Hid (Below w.heap.size w w'))
     case first=>
      cases hw:Qfq c.n with
      | false=>
       have HR:Hid ((!cRi c)=true):=(by simp [cRi,hw]:(!cRi c)=true);have ab:(fun W=>Below W0.heap.size W0 W) W0.drew:=(ZZb _ _).drew;refine Qaj (fun W=>Below W0.heap.size W0 W) 99 (by kernel_rfl) ?_;refine tkS 0 (.pointer (some ⟨wr.heap.size,0,none⟩)) ab ?_;refine tkL 1 (.int .i64 c.n) ab (fun W hW=>?_) ?_
       ·obtain ⟨x0,x1,x2,x3,x4,x5,x6,x7,x8,x9,ah,af,ag,ad,ae⟩:=Qai ai hW
        clear hW;go_simp
       simp only [sX];refine onE 2 fun K hK=>?_;go_simp;refine (QaW _ _).mono ?_;rintro e wz ⟨rfl,al⟩;obtain rfl:=al.symm;rw [hw];dsimp only;refine gK hK ab ?_
       try simp only [sX]
       refine tkS 3 (.bool true) ab ?_;refine tkS 4 (.bool true) ab ?_;refine tkU 5 ab ?_;simp only [sX];refine tkU 6 ab ?_;simp only [sX];refine onE 7 fun K hK=>?_;refine Eq.mpr (if_neg (fun h=>Bool.noConfusion (show false=true from h))) ?_;refine gK hK ab ?_
       try simp only [sX]
       refine tkU 8 ab ?_;refine tkS 9 (.bool true) ab ?_;refine tkS 10 (.bool true) ab ?_;simp only [sX];refine tkU 11 ab ?_;refine tkU 12 ab ?_;simp only [sX];refine onE 13 fun K hK=>?_;refine Eq.mpr (if_neg (fun h=>Bool.noConfusion (show false=true from h))) ?_;refine gK hK ab ?_
       try simp only [sX]
       refine tkU 14 ab ?_;refine tkS 15 (.bool true) ab ?_;refine tkS 16 (.bool true) ab ?_;simp only [sX];refine tkU 17 ab ?_;refine tkU 18 ab ?_;refine tkU 19 ab ?_;simp only [sX];refine tkU 20 ab ?_;refine tkS 21 (.bool true) ab ?_;refine tkS 22 (.bool true) ab ?_;simp only [sX];refine tkU 23 ab ?_;refine tkU 24 ab ?_;refine tkU 25 ab ?_;simp only [sX];refine tkU 26 ab ?_;refine tkU 27 ab ?_;refine tkU 28 ab ?_;simp only [sX];refine tkU 29 ab ?_;refine tkU 30 ab ?_;refine tkU 31 ab ?_;simp only [sX];refine tkU 32 ab ?_;refine tkU 33 ab ?_;refine tkU 34 ab ?_;simp only [sX];refine onE 35 fun K hK=>?_;refine Eq.mpr (if_neg (fun h=>Bool.noConfusion (show false=true from h))) ?_;refine gK hK ab ?_
       try simp only [sX]
       refine tkU 36 ab ?_;refine tkU 37 ab ?_;refine tkS 38 (.bool true) ab ?_;simp only [sX];refine dnE ?_ _;go_wp2;go_meet;exact ⟨by rw [HR.out],Qaa (Qac am ab)⟩
      | true=>
       cases hs:Qbv c.s with
       | false=>
        have HR:Hid ((!cRi c)=true):=(by simp [cRi,hs]:(!cRi c)=true);have ab:(fun W=>Below W0.heap.size W0 W) W0.drew:=(ZZb _ _).drew;refine Qaj (fun W=>Below W0.heap.size W0 W) 99 (by kernel_rfl) ?_;refine tkS 0 (.pointer (some ⟨wr.heap.size,0,none⟩)) ab ?_;refine tkL 1 (.int .i64 c.n) ab (fun W hW=>?_) ?_
        ·obtain ⟨x0,x1,x2,x3,x4,x5,x6,x7,x8,x9,ah,af,ag,ad,ae⟩:=Qai ai hW
         clear hW;go_simp
        simp only [sX];refine onE 2 fun K hK=>?_;go_simp;refine (QaW _ _).mono ?_;rintro e wz ⟨rfl,al⟩;obtain rfl:=al.symm;rw [hw];dsimp only;refine gK hK ab ?_
        try simp only [sX]
        refine tkS 3 (.bool false) ab ?_;refine tkS 4 (.bool false) ab ?_;refine tkS 5 (.pointer (some ⟨wr.heap.size,1,none⟩)) ab ?_;simp only [sX];refine tkL 6 (.string c.s) ab (fun W hW=>?_) ?_
        ·obtain ⟨x0,x1,x2,x3,x4,x5,x6,x7,x8,x9,ah,af,ag,ad,ae⟩:=Qai ai hW
         clear hW;go_simp
        simp only [sX];refine onE 7 fun K hK=>?_;go_simp;refine (QaG c.s (SS.out c aj)).mono ?_;rintro e w1 ⟨rfl,ak⟩;rw [hs];have ac:Hid (Below W0.heap.size W0 w1):=(ab:Below W0.heap.size W0 W0.drew).trans (ak.mono (ZZa _));clear ak;dsimp only;refine gK hK ac.out ?_
        try simp only [sX]
        refine tkS 8 (.bool true) ac ?_;refine tkS 9 (.bool true) ac ?_;refine tkS 10 (.bool true) ac ?_;simp only [sX];refine tkU 11 ac ?_;refine tkU 12 ac ?_;simp only [sX];refine onE 13 fun K hK=>?_;refine Eq.mpr (if_neg (fun h=>Bool.noConfusion (show false=true from h))) ?_;refine gK hK ac.out ?_
        try simp only [sX]
        refine tkU 14 ac ?_;refine tkS 15 (.bool true) ac ?_;refine tkS 16 (.bool true) ac ?_;simp only [sX];refine tkU 17 ac ?_;refine tkU 18 ac ?_;refine tkU 19 ac ?_;simp only [sX];refine tkU 20 ac ?_;refine tkS 21 (.bool true) ac ?_;refine tkS 22 (.bool true) ac ?_;simp only [sX];refine tkU 23 ac ?_;refine tkU 24 ac ?_;refine tkU 25 ac ?_;simp only [sX];refine tkU 26 ac ?_;refine tkU 27 ac ?_;refine tkU 28 ac ?_;simp only [sX];refine tkU 29 ac ?_;refine tkU 30 ac ?_;refine tkU 31 ac ?_;simp only [sX];refine tkU 32 ac ?_;refine tkU 33 ac ?_;refine tkU 34 ac ?_;simp only [sX];refine onE 35 fun K hK=>?_;refine Eq.mpr (if_neg (fun h=>Bool.noConfusion (show false=true from h))) ?_;refine gK hK ac.out ?_
        try simp only [sX]
        refine tkU 36 ac ?_;refine tkU 37 ac ?_;refine tkS 38 (.bool true) ac ?_;simp only [sX];refine dnE ?_ _;go_wp2;go_meet;exact ⟨by rw [HR.out],Qaa (Qac am ac)⟩
       | true=>
        cases ha:agB c.g with
        | false=>
         have HR:Hid ((!cRi c)=true):=(by simp [cRi,ha]:(!cRi c)=true);have ab:(fun W=>Below W0.heap.size W0 W) W0.drew:=(ZZb _ _).drew;refine Qaj (fun W=>Below W0.heap.size W0 W) 99 (by kernel_rfl) ?_;refine tkS 0 (.pointer (some ⟨wr.heap.size,0,none⟩)) ab ?_;refine tkL 1 (.int .i64 c.n) ab (fun W hW=>?_) ?_
         ·obtain ⟨x0,x1,x2,x3,x4,x5,x6,x7,x8,x9,ah,af,ag,ad,ae⟩:=Qai ai hW
          clear hW;go_simp
         simp only [sX];refine onE 2 fun K hK=>?_;go_simp;refine (QaW _ _).mono ?_;rintro e wz ⟨rfl,al⟩;obtain rfl:=al.symm;rw [hw];dsimp only;refine gK hK ab ?_
         try simp only [sX]
         refine tkS 3 (.bool false) ab ?_;refine tkS 4 (.bool false) ab ?_;refine tkS 5 (.pointer (some ⟨wr.heap.size,1,none⟩)) ab ?_;simp only [sX];refine tkL 6 (.string c.s) ab (fun W hW=>?_) ?_
         ·obtain ⟨x0,x1,x2,x3,x4,x5,x6,x7,x8,x9,ah,af,ag,ad,ae⟩:=Qai ai hW
          clear hW;go_simp
         simp only [sX];refine onE 7 fun K hK=>?_;go_simp;refine (QaG c.s (SS.out c aj)).mono ?_;rintro e w1 ⟨rfl,ak⟩;rw [hs];have ac:Hid (Below W0.heap.size W0 w1):=(ab:Below W0.heap.size W0 W0.drew).trans (ak.mono (ZZa _));clear ak;dsimp only;refine gK hK ac.out ?_
         try simp only [sX]
         refine tkS 8 (.bool false) ac ?_;refine tkS 9 (.bool false) ac ?_;refine tkS 10 (.bool false) ac ?_;simp only [sX];refine tkS 11 (.pointer (some ⟨wr.heap.size,2,none⟩)) ac ?_;refine tkL 12 (.agg (Qak c.g c.p)) ac (fun W hW=>?_) ?_
         ·obtain ⟨x0,x1,x2,x3,x4,x5,x6,x7,x8,x9,ah,af,ag,ad,ae⟩:=Qai ai hW
          clear hW;go_simp
         simp only [sX];refine onE 13 fun K hK=>?_;go_simp;refine (Qbw (g:=c.g) (p:=c.p) (OK.out c aj) (SM.out c aj) (Qao (HA.out.2 c aj) (Qac am ac))).mono ?_;rintro e w2 ⟨rfl,an⟩;rw [ha];have aa:Hid (Below W0.heap.size W0 w2):=Qac ac an;clear an;dsimp only;refine gK hK aa.out ?_
         try simp only [sX]
         refine tkS 14 (.bool true) aa ?_;refine tkS 15 (.bool true) aa ?_;refine tkS 16 (.bool true) aa ?_;simp only [sX];refine tkU 17 aa ?_;refine tkU 18 aa ?_;refine tkU 19 aa ?_;simp only [sX];refine tkU 20 aa ?_;refine tkS 21 (.bool true) aa ?_;refine tkS 22 (.bool true) aa ?_;simp only [sX];refine tkU 23 aa ?_;refine tkU 24 aa ?_;refine tkU 25 aa ?_;simp only [sX];refine tkU 26 aa ?_;refine tkU 27 aa ?_;refine tkU 28 aa ?_;simp only [sX];refine tkU 29 aa ?_;refine tkU 30 aa ?_;refine tkU 31 aa ?_;simp only [sX];refine tkU 32 aa ?_;refine tkU 33 aa ?_;refine tkU 34 aa ?_;simp only [sX];refine onE 35 fun K hK=>?_;refine Eq.mpr (if_neg (fun h=>Bool.noConfusion (show false=true from h))) ?_;refine gK hK aa.out ?_
         try simp only [sX]
         refine tkU 36 aa ?_;refine tkU 37 aa ?_;refine tkS 38 (.bool true) aa ?_;simp only [sX];refine dnE ?_ _;go_wp2;go_meet;exact ⟨by rw [HR.out],Qaa (Qac am aa)⟩
        | true=>
         by_cases hz:c.g.s=0
         ·have HR:Hid ((!cRi c)=true):=(by simp [cRi,hz]:(!cRi c)=true)
          have bz:(c.g.s == 0)=true:=by simp [hz]
          clear hz;have ab:(fun W=>Below W0.heap.size W0 W) W0.drew:=(ZZb _ _).drew;refine Qaj (fun W=>Below W0.heap.size W0 W) 99 (by kernel_rfl) ?_;refine tkS 0 (.pointer (some ⟨wr.heap.size,0,none⟩)) ab ?_;refine tkL 1 (.int .i64 c.n) ab (fun W hW=>?_) ?_
          ·obtain ⟨x0,x1,x2,x3,x4,x5,x6,x7,x8,x9,ah,af,ag,ad,ae⟩:=Qai ai hW
           clear hW;go_simp
          simp only [sX];refine onE 2 fun K hK=>?_;go_simp;refine (QaW _ _).mono ?_;rintro e wz ⟨rfl,al⟩;obtain rfl:=al.symm;rw [hw];dsimp only;refine gK hK ab ?_
          try simp only [sX]
          refine tkS 3 (.bool false) ab ?_;refine tkS 4 (.bool false) ab ?_;refine tkS 5 (.pointer (some ⟨wr.heap.size,1,none⟩)) ab ?_;simp only [sX];refine tkL 6 (.string c.s) ab (fun W hW=>?_) ?_
          ·obtain ⟨x0,x1,x2,x3,x4,x5,x6,x7,x8,x9,ah,af,ag,ad,ae⟩:=Qai ai hW
           clear hW;go_simp
          simp only [sX];refine onE 7 fun K hK=>?_;go_simp;refine (QaG c.s (SS.out c aj)).mono ?_;rintro e w1 ⟨rfl,ak⟩;rw [hs];have ac:Hid (Below W0.heap.size W0 w1):=(ab:Below W0.heap.size W0 W0.drew).trans (ak.mono (ZZa _));clear ak;dsimp only;refine gK hK ac.out ?_
          try simp only [sX]
          refine tkS 8 (.bool false) ac ?_;refine tkS 9 (.bool false) ac ?_;refine tkS 10 (.bool false) ac ?_;simp only [sX];refine tkS 11 (.pointer (some ⟨wr.heap.size,2,none⟩)) ac ?_;refine tkL 12 (.agg (Qak c.g c.p)) ac (fun W hW=>?_) ?_
          ·obtain ⟨x0,x1,x2,x3,x4,x5,x6,x7,x8,x9,ah,af,ag,ad,ae⟩:=Qai ai hW
           clear hW;go_simp
          simp only [sX];refine onE 13 fun K hK=>?_;go_simp;refine (Qbw (g:=c.g) (p:=c.p) (OK.out c aj) (SM.out c aj) (Qao (HA.out.2 c aj) (Qac am ac))).mono ?_;rintro e w2 ⟨rfl,an⟩;rw [ha];have aa:Hid (Below W0.heap.size W0 w2):=Qac ac an;clear an;dsimp only;refine gK hK aa.out ?_
          try simp only [sX]
          refine tkS 14 (.bool false) aa ?_;refine tkS 15 (.bool false) aa ?_;refine tkS 16 (.bool false) aa ?_;simp only [sX];refine tkS 17 (.pointer (some ⟨wr.heap.size,2,none⟩)) aa ?_;refine tkS 18 (.pointer (some ⟨wr.heap.size,3,none⟩)) aa ?_;refine tkL 19 (.int .u64 c.g.s) aa (fun W hW=>?_) ?_
          ·obtain ⟨x0,x1,x2,x3,x4,x5,x6,x7,x8,x9,ah,af,ag,ad,ae⟩:=Qai ai hW
           clear hW;go_simp
          simp only [sX];refine tkS 20 (.bool true) aa ?_;refine tkS 21 (.bool true) aa ?_;refine tkS 22 (.bool true) aa ?_;simp only [sX];refine tkU 23 aa ?_;refine tkU 24 aa ?_;refine tkU 25 aa ?_;simp only [sX];refine tkU 26 aa ?_;refine tkU 27 aa ?_;refine tkU 28 aa ?_;simp only [sX];refine tkU 29 aa ?_;refine tkU 30 aa ?_;refine tkU 31 aa ?_;simp only [sX];refine tkU 32 aa ?_;refine tkU 33 aa ?_;refine tkU 34 aa ?_;simp only [sX];refine onE 35 fun K hK=>?_;refine Eq.mpr (if_neg (fun h=>Bool.noConfusion (show false=true from h))) ?_;refine gK hK aa.out ?_
          try simp only [sX]
          refine tkU 36 aa ?_;refine tkU 37 aa ?_;refine tkS 38 (.bool true) aa ?_;simp only [sX];refine dnE ?_ _;go_wp2;go_meet;exact ⟨by rw [HR.out],Qaa (Qac am aa)⟩
         ·have HR:Hid ((!cRi c)=false):=(by simp [cRi,hw,hs,ha,hz]:(!cRi c)=false)
          have bz:(c.g.s == 0)=false:=ZZf.2 hz;clear hz;have ab:(fun W=>Below W0.heap.size W0 W) W0.drew:=(ZZb _ _).drew;refine Qaj (fun W=>Below W0.heap.size W0 W) 99 (by kernel_rfl) ?_;refine tkS 0 (.pointer (some ⟨wr.heap.size,0,none⟩)) ab ?_;refine tkL 1 (.int .i64 c.n) ab (fun W hW=>?_) ?_
          ·obtain ⟨x0,x1,x2,x3,x4,x5,x6,x7,x8,x9,ah,af,ag,ad,ae⟩:=Qai ai hW
           clear hW;go_simp
          simp only [sX];refine onE 2 fun K hK=>?_;go_simp;refine (QaW _ _).mono ?_;rintro e wz ⟨rfl,al⟩;obtain rfl:=al.symm;rw [hw];dsimp only;refine gK hK ab ?_
          try simp only [sX]
          refine tkS 3 (.bool false) ab ?_;refine tkS 4 (.bool false) ab ?_;refine tkS 5 (.pointer (some ⟨wr.heap.size,1,none⟩)) ab ?_;simp only [sX];refine tkL 6 (.string c.s) ab (fun W hW=>?_) ?_
          ·obtain ⟨x0,x1,x2,x3,x4,x5,x6,x7,x8,x9,ah,af,ag,ad,ae⟩:=Qai ai hW
           clear hW;go_simp
          simp only [sX];refine onE 7 fun K hK=>?_;go_simp;refine (QaG c.s (SS.out c aj)).mono ?_;rintro e w1 ⟨rfl,ak⟩;rw [hs];have ac:Hid (Below W0.heap.size W0 w1):=(ab:Below W0.heap.size W0 W0.drew).trans (ak.mono (ZZa _));clear ak;dsimp only;refine gK hK ac.out ?_
          try simp only [sX]
          refine tkS 8 (.bool false) ac ?_;refine tkS 9 (.bool false) ac ?_;refine tkS 10 (.bool false) ac ?_;simp only [sX];refine tkS 11 (.pointer (some ⟨wr.heap.size,2,none⟩)) ac ?_;refine tkL 12 (.agg (Qak c.g c.p)) ac (fun W hW=>?_) ?_
          ·obtain ⟨x0,x1,x2,x3,x4,x5,x6,x7,x8,x9,ah,af,ag,ad,ae⟩:=Qai ai hW
           clear hW;go_simp
          simp only [sX];refine onE 13 fun K hK=>?_;go_simp;refine (Qbw (g:=c.g) (p:=c.p) (OK.out c aj) (SM.out c aj) (Qao (HA.out.2 c aj) (Qac am ac))).mono ?_;rintro e w2 ⟨rfl,an⟩;rw [ha];have aa:Hid (Below W0.heap.size W0 w2):=Qac ac an;clear an;dsimp only;refine gK hK aa.out ?_
          try simp only [sX]
          refine tkS 14 (.bool false) aa ?_;refine tkS 15 (.bool false) aa ?_;refine tkS 16 (.bool false) aa ?_;simp only [sX];refine tkS 17 (.pointer (some ⟨wr.heap.size,2,none⟩)) aa ?_;refine tkS 18 (.pointer (some ⟨wr.heap.size,3,none⟩)) aa ?_;refine tkL 19 (.int .u64 c.g.s) aa (fun W hW=>?_) ?_
          ·obtain ⟨x0,x1,x2,x3,x4,x5,x6,x7,x8,x9,ah,af,ag,ad,ae⟩:=Qai ai hW
           clear hW;go_simp
          simp only [sX];refine tkS 20 (.bool false) aa ?_;refine tkS 21 (.bool false) aa ?_;refine tkS 22 (.bool false) aa ?_;simp only [sX];refine tkS 23 (.int .i64 0) aa ?_;refine tkS 24 (.bool false) aa ?_;refine tkS 25 (.bool false) aa ?_;simp only [sX];refine tkU 26 aa ?_;refine tkU 27 aa ?_;refine tkU 28 aa ?_;simp only [sX];refine tkU 29 aa ?_;refine tkU 30 aa ?_;refine tkU 31 aa ?_;simp only [sX];refine tkU 32 aa ?_;refine tkU 33 aa ?_;refine tkU 34 aa ?_;simp only [sX];refine onE 35 fun K hK=>?_;refine Eq.mpr (if_neg (fun h=>Bool.noConfusion (show false=true from h))) ?_;refine gK hK aa.out ?_
          try simp only [sX]
          refine tkU 36 aa ?_;refine tkS 37 (.bool false) aa ?_;refine tkS 38 (.bool false) aa ?_;simp only [sX];refine dnE ?_ _;go_wp2;go_meet;exact ⟨by rw [HR.out],Qaa (Qac am aa)⟩
     case rest=>
      obtain ⟨rfl,aw⟩:=hcut
      cases hri:cRi c with
      | false=>
       have ar:Hid (false=csR L):=by rw [<- av.out,HS.out,hri];exact Qaa rfl
       go_wp2;go_ret;exact ⟨Qg0 ar,aw⟩
      | true=>
       have aA:Hid (cRs (QiD L (0+1)) (L.drop (0+1))=csR L):=by
        have:=av.out;rw [HS.out,hri,Bool.true_and] at this;exact this
       go_wp2;go_roundw
       case rel=>exact ⟨0+1,by omega,by go_num,aA,aw⟩
       case measure=>simp [zI];omega
    | succ k=>
     obtain ⟨b0,aB⟩:∃ c,L[k]?=some c:=⟨L[k]'(by have:=HN.out;omega),ZZe _⟩;have HS:=Qaa (QkN aB aC)
     go_cut [56] (fun v w'=>v=.bool (!(cRi c && cAh b0 c))/\Hid (Below w.heap.size w w'))
     case first=>
      cases hw:Qfq c.n with
      | false=>
       have HR:Hid ((!(cRi c && cAh b0 c))=true):=(by simp [cRi,hw]:(!(cRi c && cAh b0 c))=true);have ab:(fun W=>Below W0.heap.size W0 W) W0.drew:=(ZZb _ _).drew;refine Qaj (fun W=>Below W0.heap.size W0 W) 99 (by kernel_rfl) ?_;refine tkS 0 (.pointer (some ⟨wr.heap.size,0,none⟩)) ab ?_;refine tkL 1 (.int .i64 c.n) ab (fun W hW=>?_) ?_
       ·obtain ⟨x0,x1,x2,x3,x4,x5,x6,x7,x8,x9,ah,af,ag,ad,ae⟩:=Qai ai hW
        clear hW;go_simp
       simp only [sX];refine onE 2 fun K hK=>?_;go_simp;refine (QaW _ _).mono ?_;rintro e wz ⟨rfl,al⟩;obtain rfl:=al.symm;rw [hw];dsimp only;refine gK hK ab ?_
       try simp only [sX]
       refine tkS 3 (.bool true) ab ?_;refine tkS 4 (.bool true) ab ?_;refine tkU 5 ab ?_;simp only [sX];refine tkU 6 ab ?_;simp only [sX];refine onE 7 fun K hK=>?_;refine Eq.mpr (if_neg (fun h=>Bool.noConfusion (show false=true from h))) ?_;refine gK hK ab ?_
       try simp only [sX]
       refine tkU 8 ab ?_;refine tkS 9 (.bool true) ab ?_;refine tkS 10 (.bool true) ab ?_;simp only [sX];refine tkU 11 ab ?_;refine tkU 12 ab ?_;simp only [sX];refine onE 13 fun K hK=>?_;refine Eq.mpr (if_neg (fun h=>Bool.noConfusion (show false=true from h))) ?_;refine gK hK ab ?_
       try simp only [sX]
       refine tkU 14 ab ?_;refine tkS 15 (.bool true) ab ?_;refine tkS 16 (.bool true) ab ?_;simp only [sX];refine tkU 17 ab ?_;refine tkU 18 ab ?_;refine tkU 19 ab ?_;simp only [sX];refine tkU 20 ab ?_;refine tkS 21 (.bool true) ab ?_;refine tkS 22 (.bool true) ab ?_;simp only [sX];refine tkU 23 ab ?_;refine tkU 24 ab ?_;refine tkU 25 ab ?_;simp only [sX];refine tkU 26 ab ?_;refine tkU 27 ab ?_;refine tkU 28 ab ?_;simp only [sX];refine tkU 29 ab ?_;refine tkU 30 ab ?_;refine tkU 31 ab ?_;simp only [sX];refine tkU 32 ab ?_;refine tkU 33 ab ?_;refine tkU 34 ab ?_;simp only [sX];refine onE 35 fun K hK=>?_;refine Eq.mpr (if_neg (fun h=>Bool.noConfusion (show false=true from h))) ?_;refine gK hK ab ?_
       try simp only [sX]
       refine tkU 36 ab ?_;refine tkU 37 ab ?_;refine tkS 38 (.bool true) ab ?_;simp only [sX];refine dnE ?_ _;go_wp2;go_meet;exact ⟨by rw [HR.out],Qaa (Qac am ab)⟩
      | true=>
       cases hs:Qbv c.s with
       | false=>
        have HR:Hid ((!(cRi c && cAh b0 c))=true):=(by simp [cRi,hs]:(!(cRi c && cAh b0 c))=true);have ab:(fun W=>Below W0.heap.size W0 W) W0.drew:=(ZZb _ _).drew;refine Qaj (fun W=>Below W0.heap.size W0 W) 99 (by kernel_rfl) ?_;refine tkS 0 (.pointer (some ⟨wr.heap.size,0,none⟩)) ab ?_;refine tkL 1 (.int .i64 c.n) ab (fun W hW=>?_) ?_
        ·obtain ⟨x0,x1,x2,x3,x4,x5,x6,x7,x8,x9,ah,af,ag,ad,ae⟩:=Qai ai hW
         clear hW;go_simp
        simp only [sX];refine onE 2 fun K hK=>?_;go_simp;refine (QaW _ _).mono ?_;rintro e wz ⟨rfl,al⟩;obtain rfl:=al.symm;rw [hw];dsimp only;refine gK hK ab ?_
        try simp only [sX]
        refine tkS 3 (.bool false) ab ?_;refine tkS 4 (.bool false) ab ?_;refine tkS 5 (.pointer (some ⟨wr.heap.size,1,none⟩)) ab ?_;simp only [sX];refine tkL 6 (.string c.s) ab (fun W hW=>?_) ?_
        ·obtain ⟨x0,x1,x2,x3,x4,x5,x6,x7,x8,x9,ah,af,ag,ad,ae⟩:=Qai ai hW
         clear hW;go_simp
        simp only [sX];refine onE 7 fun K hK=>?_;go_simp;refine (QaG c.s (SS.out c aj)).mono ?_;rintro e w1 ⟨rfl,ak⟩;rw [hs];have ac:Hid (Below W0.heap.size W0 w1):=(ab:Below W0.heap.size W0 W0.drew).trans (ak.mono (ZZa _));clear ak;dsimp only;refine gK hK ac.out ?_
        try simp only [sX]
        refine tkS 8 (.bool true) ac ?_;refine tkS 9 (.bool true) ac ?_;refine tkS 10 (.bool true) ac ?_;simp only [sX];refine tkU 11 ac ?_;refine tkU 12 ac ?_;simp only [sX];refine onE 13 fun K hK=>?_;refine Eq.mpr (if_neg (fun h=>Bool.noConfusion (show false=true from h))) ?_;refine gK hK ac.out ?_
        try simp only [sX]
        refine tkU 14 ac ?_;refine tkS 15 (.bool true) ac ?_;refine tkS 16 (.bool true) ac ?_;simp only [sX];refine tkU 17 ac ?_;refine tkU 18 ac ?_;refine tkU 19 ac ?_;simp only [sX];refine tkU 20 ac ?_;refine tkS 21 (.bool true) ac ?_;refine tkS 22 (.bool true) ac ?_;simp only [sX];refine tkU 23 ac ?_;refine tkU 24 ac ?_;refine tkU 25 ac ?_;simp only [sX];refine tkU 26 ac ?_;refine tkU 27 ac ?_;refine tkU 28 ac ?_;simp only [sX];refine tkU 29 ac ?_;refine tkU 30 ac ?_;refine tkU 31 ac ?_;simp only [sX];refine tkU 32 ac ?_;refine tkU 33 ac ?_;refine tkU 34 ac ?_;simp only [sX];refine onE 35 fun K hK=>?_;refine Eq.mpr (if_neg (fun h=>Bool.noConfusion (show false=true from h))) ?_;refine gK hK ac.out ?_
        try simp only [sX]
        refine tkU 36 ac ?_;refine tkU 37 ac ?_;refine tkS 38 (.bool true) ac ?_;simp only [sX];refine dnE ?_ _;go_wp2;go_meet;exact ⟨by rw [HR.out],Qaa (Qac am ac)⟩
       | true=>
        cases ha:agB c.g with
        | false=>
         have HR:Hid ((!(cRi c && cAh b0 c))=true):=(by simp [cRi,ha]:(!(cRi c && cAh b0 c))=true);have ab:(fun W=>Below W0.heap.size W0 W) W0.drew:=(ZZb _ _).drew;refine Qaj (fun W=>Below W0.heap.size W0 W) 99 (by kernel_rfl) ?_;refine tkS 0 (.pointer (some ⟨wr.heap.size,0,none⟩)) ab ?_;refine tkL 1 (.int .i64 c.n) ab (fun W hW=>?_) ?_
         ·obtain ⟨x0,x1,x2,x3,x4,x5,x6,x7,x8,x9,ah,af,ag,ad,ae⟩:=Qai ai hW
          clear hW;go_simp
         simp only [sX];refine onE 2 fun K hK=>?_;go_simp;refine (QaW _ _).mono ?_;rintro e wz ⟨rfl,al⟩;obtain rfl:=al.symm;rw [hw];dsimp only;refine gK hK ab ?_
         try simp only [sX]
         refine tkS 3 (.bool false) ab ?_;refine tkS 4 (.bool false) ab ?_;refine tkS 5 (.pointer (some ⟨wr.heap.size,1,none⟩)) ab ?_;simp only [sX];refine tkL 6 (.string c.s) ab (fun W hW=>?_) ?_
         ·obtain ⟨x0,x1,x2,x3,x4,x5,x6,x7,x8,x9,ah,af,ag,ad,ae⟩:=Qai ai hW
          clear hW;go_simp
         simp only [sX];refine onE 7 fun K hK=>?_;go_simp;refine (QaG c.s (SS.out c aj)).mono ?_;rintro e w1 ⟨rfl,ak⟩;rw [hs];have ac:Hid (Below W0.heap.size W0 w1):=(ab:Below W0.heap.size W0 W0.drew).trans (ak.mono (ZZa _));clear ak;dsimp only;refine gK hK ac.out ?_
         try simp only [sX]
         refine tkS 8 (.bool false) ac ?_;refine tkS 9 (.bool false) ac ?_;refine tkS 10 (.bool false) ac ?_;simp only [sX];refine tkS 11 (.pointer (some ⟨wr.heap.size,2,none⟩)) ac ?_;refine tkL 12 (.agg (Qak c.g c.p)) ac (fun W hW=>?_) ?_
         ·obtain ⟨x0,x1,x2,x3,x4,x5,x6,x7,x8,x9,ah,af,ag,ad,ae⟩:=Qai ai hW
          clear hW;go_simp
         simp only [sX];refine onE 13 fun K hK=>?_;go_simp;refine (Qbw (g:=c.g) (p:=c.p) (OK.out c aj) (SM.out c aj) (Qao (HA.out.2 c aj) (Qac am ac))).mono ?_;rintro e w2 ⟨rfl,an⟩;rw [ha];have aa:Hid (Below W0.heap.size W0 w2):=Qac ac an;clear an;dsimp only;refine gK hK aa.out ?_
         try simp only [sX]
         refine tkS 14 (.bool true) aa ?_;refine tkS 15 (.bool true) aa ?_;refine tkS 16 (.bool true) aa ?_;simp only [sX];refine tkU 17 aa ?_;refine tkU 18 aa ?_;refine tkU 19 aa ?_;simp only [sX];refine tkU 20 aa ?_;refine tkS 21 (.bool true) aa ?_;refine tkS 22 (.bool true) aa ?_;simp only [sX];refine tkU 23 aa ?_;refine tkU 24 aa ?_;refine tkU 25 aa ?_;simp only [sX];refine tkU 26 aa ?_;refine tkU 27 aa ?_;refine tkU 28 aa ?_;simp only [sX];refine tkU 29 aa ?_;refine tkU 30 aa ?_;refine tkU 31 aa ?_;simp only [sX];refine tkU 32 aa ?_;refine tkU 33 aa ?_;refine tkU 34 aa ?_;simp only [sX];refine onE 35 fun K hK=>?_;refine Eq.mpr (if_neg (fun h=>Bool.noConfusion (show false=true from h))) ?_;refine gK hK aa.out ?_
         try simp only [sX]
         refine tkU 36 aa ?_;refine tkU 37 aa ?_;refine tkS 38 (.bool true) aa ?_;simp only [sX];refine dnE ?_ _;go_wp2;go_meet;exact ⟨by rw [HR.out],Qaa (Qac am aa)⟩
        | true=>
         by_cases hz:c.g.s=0
         ·have HR:Hid ((!(cRi c && cAh b0 c))=true):=(by simp [cRi,hz]:(!(cRi c && cAh b0 c))=true)
          have bz:(c.g.s == 0)=true:=by simp [hz]
          clear hz;have ab:(fun W=>Below W0.heap.size W0 W) W0.drew:=(ZZb _ _).drew;refine Qaj (fun W=>Below W0.heap.size W0 W) 99 (by kernel_rfl) ?_;refine tkS 0 (.pointer (some ⟨wr.heap.size,0,none⟩)) ab ?_;refine tkL 1 (.int .i64 c.n) ab (fun W hW=>?_) ?_
          ·obtain ⟨x0,x1,x2,x3,x4,x5,x6,x7,x8,x9,ah,af,ag,ad,ae⟩:=Qai ai hW
           clear hW;go_simp
          simp only [sX];refine onE 2 fun K hK=>?_;go_simp;refine (QaW _ _).mono ?_;rintro e wz ⟨rfl,al⟩;obtain rfl:=al.symm;rw [hw];dsimp only;refine gK hK ab ?_
          try simp only [sX]
          refine tkS 3 (.bool false) ab ?_;refine tkS 4 (.bool false) ab ?_;refine tkS 5 (.pointer (some ⟨wr.heap.size,1,none⟩)) ab ?_;simp only [sX];refine tkL 6 (.string c.s) ab (fun W hW=>?_) ?_
          ·obtain ⟨x0,x1,x2,x3,x4,x5,x6,x7,x8,x9,ah,af,ag,ad,ae⟩:=Qai ai hW
           clear hW;go_simp
          simp only [sX];refine onE 7 fun K hK=>?_;go_simp;refine (QaG c.s (SS.out c aj)).mono ?_;rintro e w1 ⟨rfl,ak⟩;rw [hs];have ac:Hid (Below W0.heap.size W0 w1):=(ab:Below W0.heap.size W0 W0.drew).trans (ak.mono (ZZa _));clear ak;dsimp only;refine gK hK ac.out ?_
          try simp only [sX]
          refine tkS 8 (.bool false) ac ?_;refine tkS 9 (.bool false) ac ?_;refine tkS 10 (.bool false) ac ?_;simp only [sX];refine tkS 11 (.pointer (some ⟨wr.heap.size,2,none⟩)) ac ?_;refine tkL 12 (.agg (Qak c.g c.p)) ac (fun W hW=>?_) ?_
          ·obtain ⟨x0,x1,x2,x3,x4,x5,x6,x7,x8,x9,ah,af,ag,ad,ae⟩:=Qai ai hW
           clear hW;go_simp
          simp only [sX];refine onE 13 fun K hK=>?_;go_simp;refine (Qbw (g:=c.g) (p:=c.p) (OK.out c aj) (SM.out c aj) (Qao (HA.out.2 c aj) (Qac am ac))).mono ?_;rintro e w2 ⟨rfl,an⟩;rw [ha];have aa:Hid (Below W0.heap.size W0 w2):=Qac ac an;clear an;dsimp only;refine gK hK aa.out ?_
          try simp only [sX]
          refine tkS 14 (.bool false) aa ?_;refine tkS 15 (.bool false) aa ?_;refine tkS 16 (.bool false) aa ?_;simp only [sX];refine tkS 17 (.pointer (some ⟨wr.heap.size,2,none⟩)) aa ?_;refine tkS 18 (.pointer (some ⟨wr.heap.size,3,none⟩)) aa ?_;refine tkL 19 (.int .u64 c.g.s) aa (fun W hW=>?_) ?_
          ·obtain ⟨x0,x1,x2,x3,x4,x5,x6,x7,x8,x9,ah,af,ag,ad,ae⟩:=Qai ai hW
           clear hW;go_simp
          simp only [sX];refine tkS 20 (.bool true) aa ?_;refine tkS 21 (.bool true) aa ?_;refine tkS 22 (.bool true) aa ?_;simp only [sX];refine tkU 23 aa ?_;refine tkU 24 aa ?_;refine tkU 25 aa ?_;simp only [sX];refine tkU 26 aa ?_;refine tkU 27 aa ?_;refine tkU 28 aa ?_;simp only [sX];refine tkU 29 aa ?_;refine tkU 30 aa ?_;refine tkU 31 aa ?_;simp only [sX];refine tkU 32 aa ?_;refine tkU 33 aa ?_;refine tkU 34 aa ?_;simp only [sX];refine onE 35 fun K hK=>?_;refine Eq.mpr (if_neg (fun h=>Bool.noConfusion (show false=true from h))) ?_;refine gK hK aa.out ?_
          try simp only [sX]
          refine tkU 36 aa ?_;refine tkU 37 aa ?_;refine tkS 38 (.bool true) aa ?_;simp only [sX];refine dnE ?_ _;go_wp2;go_meet;exact ⟨by rw [HR.out],Qaa (Qac am aa)⟩
         ·have bz:(c.g.s == 0)=false:=ZZf.2 hz
          have aF:Hid (cRi c=true):=(by simp [cRi,hw,hs,ha,hz]:cRi c=true);clear hz
          cases hah:(decide (b0.n<c.n) || ((b0.n == c.n) && Qa4 b0.s c.s)) with
          | false=>
           have HR:Hid ((!(cRi c && cAh b0 c))=true):=(by rw [aF.out,show cAh b0 c=false from hah];rfl:(!(cRi c && cAh b0 c))=true);have ab:(fun W=>Below W0.heap.size W0 W) W0.drew:=(ZZb _ _).drew;refine Qaj (fun W=>Below W0.heap.size W0 W) 99 (by kernel_rfl) ?_;refine tkS 0 (.pointer (some ⟨wr.heap.size,0,none⟩)) ab ?_;refine tkL 1 (.int .i64 c.n) ab (fun W hW=>?_) ?_
           ·obtain ⟨x0,x1,x2,x3,x4,x5,x6,x7,x8,x9,ah,af,ag,ad,ae⟩:=Qai ai hW
            clear hW;go_simp
           simp only [sX];refine onE 2 fun K hK=>?_;go_simp;refine (QaW _ _).mono ?_;rintro e wz ⟨rfl,al⟩;obtain rfl:=al.symm;rw [hw];dsimp only;refine gK hK ab ?_
           try simp only [sX]
           refine tkS 3 (.bool false) ab ?_;refine tkS 4 (.bool false) ab ?_;refine tkS 5 (.pointer (some ⟨wr.heap.size,1,none⟩)) ab ?_;simp only [sX];refine tkL 6 (.string c.s) ab (fun W hW=>?_) ?_
           ·obtain ⟨x0,x1,x2,x3,x4,x5,x6,x7,x8,x9,ah,af,ag,ad,ae⟩:=Qai ai hW
            clear hW;go_simp
           simp only [sX];refine onE 7 fun K hK=>?_;go_simp;refine (QaG c.s (SS.out c aj)).mono ?_;rintro e w1 ⟨rfl,ak⟩;rw [hs];have ac:Hid (Below W0.heap.size W0 w1):=(ab:Below W0.heap.size W0 W0.drew).trans (ak.mono (ZZa _));clear ak;dsimp only;refine gK hK ac.out ?_
           try simp only [sX]
           refine tkS 8 (.bool false) ac ?_;refine tkS 9 (.bool false) ac ?_;refine tkS 10 (.bool false) ac ?_;simp only [sX];refine tkS 11 (.pointer (some ⟨wr.heap.size,2,none⟩)) ac ?_;refine tkL 12 (.agg (Qak c.g c.p)) ac (fun W hW=>?_) ?_
           ·obtain ⟨x0,x1,x2,x3,x4,x5,x6,x7,x8,x9,ah,af,ag,ad,ae⟩:=Qai ai hW
            clear hW;go_simp
           simp only [sX];refine onE 13 fun K hK=>?_;go_simp;refine (Qbw (g:=c.g) (p:=c.p) (OK.out c aj) (SM.out c aj) (Qao (HA.out.2 c aj) (Qac am ac))).mono ?_;rintro e w2 ⟨rfl,an⟩;rw [ha];have aa:Hid (Below W0.heap.size W0 w2):=Qac ac an;clear an;dsimp only;refine gK hK aa.out ?_
           try simp only [sX]
           refine tkS 14 (.bool false) aa ?_;refine tkS 15 (.bool false) aa ?_;refine tkS 16 (.bool false) aa ?_;simp only [sX];refine tkS 17 (.pointer (some ⟨wr.heap.size,2,none⟩)) aa ?_;refine tkS 18 (.pointer (some ⟨wr.heap.size,3,none⟩)) aa ?_;refine tkL 19 (.int .u64 c.g.s) aa (fun W hW=>?_) ?_
           ·obtain ⟨x0,x1,x2,x3,x4,x5,x6,x7,x8,x9,ah,af,ag,ad,ae⟩:=Qai ai hW
            clear hW;go_simp
           simp only [sX];refine tkS 20 (.bool false) aa ?_;refine tkS 21 (.bool false) aa ?_;refine tkS 22 (.bool false) aa ?_;simp only [sX];refine tkS 23 (.int .i64 ((k+1:Nat):Int)) aa ?_;refine tkS 24 (.bool true) aa ?_;refine tkS 25 (.bool true) aa ?_;simp only [sX];refine tkS 26 (.slice (some ⟨b,ax,none⟩) N ca) aa ?_;refine tkS 27 (.int .i64 ((k+1:Nat):Int)) aa ?_;refine tkL 28 (.int .i64 (k:Int)) aa (fun W hW=>?_) ?_
           ·have aL:IntKind.i64.wrap (k:Int)=(k:Int):=by rw [IntKind.wrap_i64];omega
            clear hW;go_simp
           simp only [sX];refine tkL 29 (.pointer (some ⟨b,ax+k*15,none⟩)) aa (fun W hW=>?_) ?_
           ·have aH:¬ N<=k:=by omega
            clear hW;go_simp
           refine tkL 30 (.agg (Qap b0)) aa (fun W hW=>?_) ?_
           ·obtain ⟨y0,y1,y2,y3,y4,y5,y6,y7,y8,y9,aI,aM,aK,aJ,aN⟩:=Qai (aD.out k b0 aB) (Qac am hW)
            clear hW;go_simp
           refine tkS 31 (.pointer (some ⟨wr.heap.size,0,none⟩)) aa ?_;simp only [sX];refine tkL 32 (.int .i64 c.n) aa (fun W hW=>?_) ?_
           ·obtain ⟨x0,x1,x2,x3,x4,x5,x6,x7,x8,x9,ah,af,ag,ad,ae⟩:=Qai ai hW
            clear hW;go_simp
           refine tkS 33 (.pointer (some ⟨wr.heap.size,1,none⟩)) aa ?_;refine tkL 34 (.string c.s) aa (fun W hW=>?_) ?_
           ·obtain ⟨x0,x1,x2,x3,x4,x5,x6,x7,x8,x9,ah,af,ag,ad,ae⟩:=Qai ai hW
            clear hW;go_simp
           simp only [sX];refine onE 35 fun K hK=>?_;go_simp;refine (Qcq b0 c.n c.s _).mono ?_;rintro e w3 ⟨rfl,au⟩;rw [hah];have ap:Hid (Below W0.heap.size W0 w3):=Qac aa au;clear au;dsimp only;refine gK hK ap.out ?_
           try simp only [sX]
           refine tkS 36 (.bool true) ap ?_;refine tkS 37 (.bool true) ap ?_;refine tkS 38 (.bool true) ap ?_;simp only [sX];refine dnE ?_ _;go_wp2;go_meet;exact ⟨by rw [HR.out],Qaa (Qac am ap)⟩
          | true=>
           have HR:Hid ((!(cRi c && cAh b0 c))=false):=(by rw [aF.out,show cAh b0 c=true from hah];rfl:(!(cRi c && cAh b0 c))=false);have ab:(fun W=>Below W0.heap.size W0 W) W0.drew:=(ZZb _ _).drew;refine Qaj (fun W=>Below W0.heap.size W0 W) 99 (by kernel_rfl) ?_;refine tkS 0 (.pointer (some ⟨wr.heap.size,0,none⟩)) ab ?_;refine tkL 1 (.int .i64 c.n) ab (fun W hW=>?_) ?_
           ·obtain ⟨x0,x1,x2,x3,x4,x5,x6,x7,x8,x9,ah,af,ag,ad,ae⟩:=Qai ai hW
            clear hW;go_simp
           simp only [sX];refine onE 2 fun K hK=>?_;go_simp;refine (QaW _ _).mono ?_;rintro e wz ⟨rfl,al⟩;obtain rfl:=al.symm;rw [hw];dsimp only;refine gK hK ab ?_
           try simp only [sX]
           refine tkS 3 (.bool false) ab ?_;refine tkS 4 (.bool false) ab ?_;refine tkS 5 (.pointer (some ⟨wr.heap.size,1,none⟩)) ab ?_;simp only [sX];refine tkL 6 (.string c.s) ab (fun W hW=>?_) ?_
           ·obtain ⟨x0,x1,x2,x3,x4,x5,x6,x7,x8,x9,ah,af,ag,ad,ae⟩:=Qai ai hW
            clear hW;go_simp
           simp only [sX];refine onE 7 fun K hK=>?_;go_simp;refine (QaG c.s (SS.out c aj)).mono ?_;rintro e w1 ⟨rfl,ak⟩;rw [hs];have ac:Hid (Below W0.heap.size W0 w1):=(ab:Below W0.heap.size W0 W0.drew).trans (ak.mono (ZZa _));clear ak;dsimp only;refine gK hK ac.out ?_
           try simp only [sX]
           refine tkS 8 (.bool false) ac ?_;refine tkS 9 (.bool false) ac ?_;refine tkS 10 (.bool false) ac ?_;simp only [sX];refine tkS 11 (.pointer (some ⟨wr.heap.size,2,none⟩)) ac ?_;refine tkL 12 (.agg (Qak c.g c.p)) ac (fun W hW=>?_) ?_
           ·obtain ⟨x0,x1,x2,x3,x4,x5,x6,x7,x8,x9,ah,af,ag,ad,ae⟩:=Qai ai hW
            clear hW;go_simp
           simp only [sX];refine onE 13 fun K hK=>?_;go_simp;refine (Qbw (g:=c.g) (p:=c.p) (OK.out c aj) (SM.out c aj) (Qao (HA.out.2 c aj) (Qac am ac))).mono ?_;rintro e w2 ⟨rfl,an⟩;rw [ha];have aa:Hid (Below W0.heap.size W0 w2):=Qac ac an;clear an;dsimp only;refine gK hK aa.out ?_
           try simp only [sX]
           refine tkS 14 (.bool false) aa ?_;refine tkS 15 (.bool false) aa ?_;refine tkS 16 (.bool false) aa ?_;simp only [sX];refine tkS 17 (.pointer (some ⟨wr.heap.size,2,none⟩)) aa ?_;refine tkS 18 (.pointer (some ⟨wr.heap.size,3,none⟩)) aa ?_;refine tkL 19 (.int .u64 c.g.s) aa (fun W hW=>?_) ?_
           ·obtain ⟨x0,x1,x2,x3,x4,x5,x6,x7,x8,x9,ah,af,ag,ad,ae⟩:=Qai ai hW
            clear hW;go_simp
           simp only [sX];refine tkS 20 (.bool false) aa ?_;refine tkS 21 (.bool false) aa ?_;refine tkS 22 (.bool false) aa ?_;simp only [sX];refine tkS 23 (.int .i64 ((k+1:Nat):Int)) aa ?_;refine tkS 24 (.bool true) aa ?_;refine tkS 25 (.bool true) aa ?_;simp only [sX];refine tkS 26 (.slice (some ⟨b,ax,none⟩) N ca) aa ?_;refine tkS 27 (.int .i64 ((k+1:Nat):Int)) aa ?_;refine tkL 28 (.int .i64 (k:Int)) aa (fun W hW=>?_) ?_
           ·have aL:IntKind.i64.wrap (k:Int)=(k:Int):=by rw [IntKind.wrap_i64];omega
            clear hW;go_simp
           simp only [sX];refine tkL 29 (.pointer (some ⟨b,ax+k*15,none⟩)) aa (fun W hW=>?_) ?_
           ·have aH:¬ N<=k:=by omega
            clear hW;go_simp
           refine tkL 30 (.agg (Qap b0)) aa (fun W hW=>?_) ?_
           ·obtain ⟨y0,y1,y2,y3,y4,y5,y6,y7,y8,y9,aI,aM,aK,aJ,aN⟩:=Qai (aD.out k b0 aB) (Qac am hW)
            clear hW;go_simp
           refine tkS 31 (.pointer (some ⟨wr.heap.size,0,none⟩)) aa ?_;simp only [sX];refine tkL 32 (.int .i64 c.n) aa (fun W hW=>?_) ?_
           ·obtain ⟨x0,x1,x2,x3,x4,x5,x6,x7,x8,x9,ah,af,ag,ad,ae⟩:=Qai ai hW
            clear hW;go_simp
           refine tkS 33 (.pointer (some ⟨wr.heap.size,1,none⟩)) aa ?_;refine tkL 34 (.string c.s) aa (fun W hW=>?_) ?_
           ·obtain ⟨x0,x1,x2,x3,x4,x5,x6,x7,x8,x9,ah,af,ag,ad,ae⟩:=Qai ai hW
            clear hW;go_simp
           simp only [sX];refine onE 35 fun K hK=>?_;go_simp;refine (Qcq b0 c.n c.s _).mono ?_;rintro e w3 ⟨rfl,au⟩;rw [hah];have ap:Hid (Below W0.heap.size W0 w3):=Qac aa au;clear au;dsimp only;refine gK hK ap.out ?_
           try simp only [sX]
           refine tkS 36 (.bool false) ap ?_;refine tkS 37 (.bool false) ap ?_;refine tkS 38 (.bool false) ap ?_;simp only [sX];refine dnE ?_ _;go_wp2;go_meet;exact ⟨by rw [HR.out],Qaa (Qac am ap)⟩
     case rest=>
      obtain ⟨rfl,aw⟩:=hcut
      cases hri:(cRi c && cAh b0 c) with
      | false=>
       have ar:Hid (false=csR L):=by rw [<- av.out,HS.out,hri];exact Qaa rfl
       go_wp2;go_ret;exact ⟨Qg0 ar,aw⟩
      | true=>
       have aA:Hid (cRs (QiD L (k+1+1)) (L.drop (k+1+1))=csR L):=by
        have:=av.out;rw [HS.out,hri,Bool.true_and] at this;exact this
       go_wp2;go_roundw
       case rel=>exact ⟨k+1+1,by omega,by go_num,aA,aw⟩
       case measure=>simp [zI];omega
   ·obtain rfl:N=k:=by omega
    have ar:Hid (true=csR L):=by
     rw [<- av.out,List.drop_eq_nil_of_le (by have:=HN.out;omega)]
     cases QiD L N <;> exact Qaa rfl
    go_wp2;go_ret;exact ⟨Qg0 ar,ay⟩
 ·have d1:decide ((60:Int)<(N:Int))=true:=ZZh (by omega)
  have HF:Hid (false=csR L):=by rw [HE.out,decide_eq_false h1];exact Qaa rfl
  go_enter Tryz.func19,Tryz.ntmps19;go_wp2;go_ret;exact ⟨Qg0 HF,ZZb _ _⟩
end Go.Proofs.YtandnmpllheniaaGreatDoor
