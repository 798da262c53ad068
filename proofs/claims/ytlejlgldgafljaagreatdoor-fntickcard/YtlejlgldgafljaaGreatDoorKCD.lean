/-
 Parts.
-/
import Derived.Test.YtlejlgldgafljaaGreatDoorKCB
import Derived.Test.YtlejlgldgafljaaGreatDoorKSD
set_option maxHeartbeats 16000000
set_option linter.all false
namespace Go.Proofs.YtlejlgldgafljaaGreatDoor
open Go.ChangeShapes Go.WideShapes Go.ChangeAt Go.RowKit Go.PlainAid Go.Lib Tryz
set_option maxRecDepth 10000
theorem Qf0 {a b:Bool} (h:a=b):Ending.returned (.bool a)=.returned (.bool b):=by rw [h]
theorem QqW (n lo hi:Int) (w:World):Calls prog 33 #[.int .i64 n,.int .i64 lo,.int .i64 hi] w fun e w'=>e=.returned (.bool (decide (lo<=n) && decide (n<=hi)))/\w'=w:=by
 by_cases h1:lo<=n <;> by_cases h2:n<=hi <;> (go_enter func33,ntmps33;go_wp2;go_ret;exact ⟨by simp [h1,h2],rfl⟩)
theorem QaN (n:Int) (w:World):Calls prog 34 #[.int .i64 n] w fun e w'=>e=.returned (.bool (Qig n))/\w'=w:=by
 go_enter func34,ntmps34;go_wp2_with (go_at_call 33;refine (QqW _ _ _ _).mono ?_;rintro e w1 ⟨rfl,aa⟩;obtain rfl:=aa);go_ret;exact ⟨rfl,rfl⟩
theorem Qb5 (c:Ce) (n:Int) (s:ByteArray) (w:World) :
  Calls prog 100 #[.agg (Qap c),.int .i64 n,.string s] w fun e w'=>e=.returned (.bool (decide (c.n<n) || ((c.n == n) && QaJ c.s s)))/\Below w.heap.size w w':=by
 have aa:Hid (Below w.heap.size w (w.alloc (.cells (Qap c) 75))):=(ZZb _ _).alloc (ZZa _) _;obtain ⟨B,hB⟩:∃ B,QaJ c.s s=B:=⟨_,rfl⟩;have HL:=Qaa hB;by_cases h1:c.n<n
 ·have HE:Hid (true=(decide (c.n<n) || ((c.n == n) && QaJ c.s s))):=(by simp [h1]:true=(decide (c.n<n) || ((c.n == n) && QaJ c.s s)))
  generalize (decide (c.n<n) || ((c.n == n) && QaJ c.s s))=Z at HE ⊢;go_enter func100,ntmps100;go_wp2;go_ret;exact ⟨Qf0 HE,aa⟩
 ·by_cases h2:c.n=n
  ·have HE:Hid (B=(decide (c.n<n) || ((c.n == n) && QaJ c.s s))):=(by simp [h2,hB]:B=(decide (c.n<n) || ((c.n == n) && QaJ c.s s)))
   generalize (decide (c.n<n) || ((c.n == n) && QaJ c.s s))=Z at HE ⊢;have b2:(c.n == n)=true:=by simp [h2]
   have ab:Op.bytesLess c.s.toList s.toList=B:=hB;clear h2 hB HL;go_enter func100,ntmps100
   cases B <;> (go_wp2;go_ret;exact ⟨Qf0 HE,aa⟩)
  ·have HE:Hid (false=(decide (c.n<n) || ((c.n == n) && QaJ c.s s))):=(by simp [h1,h2]:false=(decide (c.n<n) || ((c.n == n) && QaJ c.s s)))
   generalize (decide (c.n<n) || ((c.n == n) && QaJ c.s s))=Z at HE ⊢;have b2:(c.n == n)=false:=ZZf.2 h2;clear h2;go_enter func100,ntmps100;go_wp2;go_ret;exact ⟨Qf0 HE,aa⟩
theorem QgZ {w:World} {ao:Option Addr} {N ca:Nat} {L:List Ce} (hN:L.length=N) (lN:N<=1048576) (ok:∀ c∈L,AgOk c.g) (sm:∀ c∈L,AgSm c.g) (ss:∀ c∈L,c.s.size<=maxLen) (hA:QbC w ao L) :
  Calls prog 66 #[.slice ao N ca] w fun e w'=>e=.returned (.bool (csR L))/\Below w.heap.size w w':=by
 have HE:Hid (csR L=(decide (N<=60) && cRs none L)):=by unfold csR;rw [hN];exact Qaa rfl
 have HN:=Qaa hN;have OK:=Qaa ok;have SM:=Qaa sm;have SS:=Qaa ss;have HA:=Qaa hA;clear hN ok sm ss hA;by_cases h1:N<=60
 ·have d1:decide ((60:Int)<(N:Int))=false:=ZZg (by omega)
  have HF:Hid (cRs (QiL L 0) (L.drop 0)=csR L):=by rw [HE.out,decide_eq_true h1];exact Qaa rfl
  go_enter func66,ntmps66;go_wp2
  go_loopw [3] (fun i wr=>∃ k:Nat,k<=N/\i=.int .i64 k/\Hid (cRs (QiL L k) (L.drop k)=csR L)/\Hid (Below w.heap.size w wr)) (fun i wr=>N - (Go.RowKit.intOf i).toNat)
  case atStart=>exact ⟨0,ZZj _,rfl,HF,ZZb _ _⟩
  case round=>
   obtain ⟨k,hk,rfl,aw,aA⟩:=hrel;by_cases aO:k<N
   ·have aK:(k:Int)<(N:Int):=by omega
    obtain ⟨b,ax,e,ap⟩:=HA.out.1 (by have:=HN.out;omega);subst e;obtain ⟨c,hc⟩:∃ c,L[k]?=some c:=⟨L[k]'(by have:=HN.out;omega),ZZe _⟩;have aE:=ZZn hc;have aj:=Qaa aE;have aD:=Qaa hc;obtain ⟨x0,x1,x2,x3,x4,x5,x6,x7,x8,x9,af,ah,ad,ag,ae⟩:=Qag (ap k c hc) aA;have aC:=Qaa ap;clear ap hc aE;go_upto_region 7 with fail;clear x0 x1 x2 x3 x4 x5 x6 x7 x8 x9 af ah ad ag ae;have aB:Below wr.heap.size wr (wr.alloc (.cells (Qap c) 75)):=(ZZb _ _).alloc (ZZa _) _;have K0:=QgN wr 75 c;generalize hW0:wr.alloc (.cells (Qap c) 75)=W0 at aB K0 ⊢;have an:=Qaa (Qac aA aB);have ai:=Qaa K0;clear hW0 aB K0
    cases k with
    | zero=>
     have HS:=Qaa (QlI aD)
     go_cut [56] (fun v w'=>v=.bool (!cRi c)/\Hid (Below w.heap.size w w'))
     case first=>
      cases hw:Qig c.n with
      | false=>
       have HR:Hid ((!cRi c)=true):=(by simp [cRi,hw]:(!cRi c)=true);have ab:(fun W=>Below W0.heap.size W0 W) W0.drew:=(ZZb _ _).drew;refine Qal (fun W=>Below W0.heap.size W0 W) 99 (by kernel_rfl) ?_;refine tkS 0 (.pointer (some ⟨wr.heap.size,0,none⟩)) ab ?_;refine tkL 1 (.int .i64 c.n) ab (fun W hW=>?_) ?_
       ·obtain ⟨x0,x1,x2,x3,x4,x5,x6,x7,x8,x9,af,ah,ad,ag,ae⟩:=Qag ai hW
        clear hW;go_simp
       simp only [sX];refine onE 2 fun K hK=>?_;go_simp;refine (QaN _ _).mono ?_;rintro e wz ⟨rfl,al⟩;obtain rfl:=al.symm;rw [hw];dsimp only;refine gK hK ab ?_
       try simp only [sX]
       refine tkS 3 (.bool true) ab ?_;refine tkS 4 (.bool true) ab ?_;refine tkU 5 ab ?_;simp only [sX];refine tkU 6 ab ?_;simp only [sX];refine onE 7 fun K hK=>?_;refine Eq.mpr (if_neg (fun h=>Bool.noConfusion (show false=true from h))) ?_;refine gK hK ab ?_
       try simp only [sX]
       refine tkU 8 ab ?_;refine tkS 9 (.bool true) ab ?_;refine tkS 10 (.bool true) ab ?_;simp only [sX];refine tkU 11 ab ?_;refine tkU 12 ab ?_;simp only [sX];refine onE 13 fun K hK=>?_;refine Eq.mpr (if_neg (fun h=>Bool.noConfusion (show false=true from h))) ?_;refine gK hK ab ?_
       try simp only [sX]
       refine tkU 14 ab ?_;refine tkS 15 (.bool true) ab ?_;refine tkS 16 (.bool true) ab ?_;simp only [sX];refine tkU 17 ab ?_;refine tkU 18 ab ?_;refine tkU 19 ab ?_;simp only [sX];refine tkU 20 ab ?_;refine tkS 21 (.bool true) ab ?_;refine tkS 22 (.bool true) ab ?_;simp only [sX];refine tkU 23 ab ?_;refine tkU 24 ab ?_;refine tkU 25 ab ?_;simp only [sX];refine tkU 26 ab ?_;refine tkU 27 ab ?_;refine tkU 28 ab ?_;simp only [sX];refine tkU 29 ab ?_;refine tkU 30 ab ?_;refine tkU 31 ab ?_;simp only [sX];refine tkU 32 ab ?_;refine tkU 33 ab ?_;refine tkU 34 ab ?_;simp only [sX];refine onE 35 fun K hK=>?_;refine Eq.mpr (if_neg (fun h=>Bool.noConfusion (show false=true from h))) ?_;refine gK hK ab ?_
       try simp only [sX]
       refine tkU 36 ab ?_;refine tkU 37 ab ?_;refine tkS 38 (.bool true) ab ?_;simp only [sX];refine dnE ?_ _;go_wp2;go_meet;exact ⟨by rw [HR.out],Qaa (Qac an ab)⟩
      | true=>
       cases hs:Qbn c.s with
       | false=>
        have HR:Hid ((!cRi c)=true):=(by simp [cRi,hs]:(!cRi c)=true);have ab:(fun W=>Below W0.heap.size W0 W) W0.drew:=(ZZb _ _).drew;refine Qal (fun W=>Below W0.heap.size W0 W) 99 (by kernel_rfl) ?_;refine tkS 0 (.pointer (some ⟨wr.heap.size,0,none⟩)) ab ?_;refine tkL 1 (.int .i64 c.n) ab (fun W hW=>?_) ?_
        ·obtain ⟨x0,x1,x2,x3,x4,x5,x6,x7,x8,x9,af,ah,ad,ag,ae⟩:=Qag ai hW
         clear hW;go_simp
        simp only [sX];refine onE 2 fun K hK=>?_;go_simp;refine (QaN _ _).mono ?_;rintro e wz ⟨rfl,al⟩;obtain rfl:=al.symm;rw [hw];dsimp only;refine gK hK ab ?_
        try simp only [sX]
        refine tkS 3 (.bool false) ab ?_;refine tkS 4 (.bool false) ab ?_;refine tkS 5 (.pointer (some ⟨wr.heap.size,1,none⟩)) ab ?_;simp only [sX];refine tkL 6 (.string c.s) ab (fun W hW=>?_) ?_
        ·obtain ⟨x0,x1,x2,x3,x4,x5,x6,x7,x8,x9,af,ah,ad,ag,ae⟩:=Qag ai hW
         clear hW;go_simp
        simp only [sX];refine onE 7 fun K hK=>?_;go_simp;refine (QaF c.s (SS.out c aj)).mono ?_;rintro e w1 ⟨rfl,ak⟩;rw [hs];have ac:Hid (Below W0.heap.size W0 w1):=(ab:Below W0.heap.size W0 W0.drew).trans (ak.mono (ZZa _));clear ak;dsimp only;refine gK hK ac.out ?_
        try simp only [sX]
        refine tkS 8 (.bool true) ac ?_;refine tkS 9 (.bool true) ac ?_;refine tkS 10 (.bool true) ac ?_;simp only [sX];refine tkU 11 ac ?_;refine tkU 12 ac ?_;simp only [sX];refine onE 13 fun K hK=>?_;refine Eq.mpr (if_neg (fun h=>Bool.noConfusion (show false=true from h))) ?_;refine gK hK ac.out ?_
        try simp only [sX]
        refine tkU 14 ac ?_;refine tkS 15 (.bool true) ac ?_;refine tkS 16 (.bool true) ac ?_;simp only [sX];refine tkU 17 ac ?_;refine tkU 18 ac ?_;refine tkU 19 ac ?_;simp only [sX];refine tkU 20 ac ?_;refine tkS 21 (.bool true) ac ?_;refine tkS 22 (.bool true) ac ?_;simp only [sX];refine tkU 23 ac ?_;refine tkU 24 ac ?_;refine tkU 25 ac ?_;simp only [sX];refine tkU 26 ac ?_;refine tkU 27 ac ?_;refine tkU 28 ac ?_;simp only [sX];refine tkU 29 ac ?_;refine tkU 30 ac ?_;refine tkU 31 ac ?_;simp only [sX];refine tkU 32 ac ?_;refine tkU 33 ac ?_;refine tkU 34 ac ?_;simp only [sX];refine onE 35 fun K hK=>?_;refine Eq.mpr (if_neg (fun h=>Bool.noConfusion (show false=true from h))) ?_;refine gK hK ac.out ?_
        try simp only [sX]
        refine tkU 36 ac ?_;refine tkU 37 ac ?_;refine tkS 38 (.bool true) ac ?_;simp only [sX];refine dnE ?_ _;go_wp2;go_meet;exact ⟨by rw [HR.out],Qaa (Qac an ac)⟩
       | true=>
        cases ha:agB c.g with
        | false=>
         have HR:Hid ((!cRi c)=true):=(by simp [cRi,ha]:(!cRi c)=true);have ab:(fun W=>Below W0.heap.size W0 W) W0.drew:=(ZZb _ _).drew;refine Qal (fun W=>Below W0.heap.size W0 W) 99 (by kernel_rfl) ?_;refine tkS 0 (.pointer (some ⟨wr.heap.size,0,none⟩)) ab ?_;refine tkL 1 (.int .i64 c.n) ab (fun W hW=>?_) ?_
         ·obtain ⟨x0,x1,x2,x3,x4,x5,x6,x7,x8,x9,af,ah,ad,ag,ae⟩:=Qag ai hW
          clear hW;go_simp
         simp only [sX];refine onE 2 fun K hK=>?_;go_simp;refine (QaN _ _).mono ?_;rintro e wz ⟨rfl,al⟩;obtain rfl:=al.symm;rw [hw];dsimp only;refine gK hK ab ?_
         try simp only [sX]
         refine tkS 3 (.bool false) ab ?_;refine tkS 4 (.bool false) ab ?_;refine tkS 5 (.pointer (some ⟨wr.heap.size,1,none⟩)) ab ?_;simp only [sX];refine tkL 6 (.string c.s) ab (fun W hW=>?_) ?_
         ·obtain ⟨x0,x1,x2,x3,x4,x5,x6,x7,x8,x9,af,ah,ad,ag,ae⟩:=Qag ai hW
          clear hW;go_simp
         simp only [sX];refine onE 7 fun K hK=>?_;go_simp;refine (QaF c.s (SS.out c aj)).mono ?_;rintro e w1 ⟨rfl,ak⟩;rw [hs];have ac:Hid (Below W0.heap.size W0 w1):=(ab:Below W0.heap.size W0 W0.drew).trans (ak.mono (ZZa _));clear ak;dsimp only;refine gK hK ac.out ?_
         try simp only [sX]
         refine tkS 8 (.bool false) ac ?_;refine tkS 9 (.bool false) ac ?_;refine tkS 10 (.bool false) ac ?_;simp only [sX];refine tkS 11 (.pointer (some ⟨wr.heap.size,2,none⟩)) ac ?_;refine tkL 12 (.agg (Qav c.g c.p)) ac (fun W hW=>?_) ?_
         ·obtain ⟨x0,x1,x2,x3,x4,x5,x6,x7,x8,x9,af,ah,ad,ag,ae⟩:=Qag ai hW
          clear hW;go_simp
         simp only [sX];refine onE 13 fun K hK=>?_;go_simp;refine (Qbc (g:=c.g) (p:=c.p) (OK.out c aj) (SM.out c aj) (Qaz (HA.out.2 c aj) (Qac an ac))).mono ?_;rintro e w2 ⟨rfl,am⟩;rw [ha];have aa:Hid (Below W0.heap.size W0 w2):=Qac ac am;clear am;dsimp only;refine gK hK aa.out ?_
         try simp only [sX]
         refine tkS 14 (.bool true) aa ?_;refine tkS 15 (.bool true) aa ?_;refine tkS 16 (.bool true) aa ?_;simp only [sX];refine tkU 17 aa ?_;refine tkU 18 aa ?_;refine tkU 19 aa ?_;simp only [sX];refine tkU 20 aa ?_;refine tkS 21 (.bool true) aa ?_;refine tkS 22 (.bool true) aa ?_;simp only [sX];refine tkU 23 aa ?_;refine tkU 24 aa ?_;refine tkU 25 aa ?_;simp only [sX];refine tkU 26 aa ?_;refine tkU 27 aa ?_;refine tkU 28 aa ?_;simp only [sX];refine tkU 29 aa ?_;refine tkU 30 aa ?_;refine tkU 31 aa ?_;simp only [sX];refine tkU 32 aa ?_;refine tkU 33 aa ?_;refine tkU 34 aa ?_;simp only [sX];refine onE 35 fun K hK=>?_;refine Eq.mpr (if_neg (fun h=>Bool.noConfusion (show false=true from h))) ?_;refine gK hK aa.out ?_
         try simp only [sX]
         refine tkU 36 aa ?_;refine tkU 37 aa ?_;refine tkS 38 (.bool true) aa ?_;simp only [sX];refine dnE ?_ _;go_wp2;go_meet;exact ⟨by rw [HR.out],Qaa (Qac an aa)⟩
        | true=>
         by_cases hz:c.g.s=0
         ·have HR:Hid ((!cRi c)=true):=(by simp [cRi,hz]:(!cRi c)=true)
          have bz:(c.g.s == 0)=true:=by simp [hz]
          clear hz;have ab:(fun W=>Below W0.heap.size W0 W) W0.drew:=(ZZb _ _).drew;refine Qal (fun W=>Below W0.heap.size W0 W) 99 (by kernel_rfl) ?_;refine tkS 0 (.pointer (some ⟨wr.heap.size,0,none⟩)) ab ?_;refine tkL 1 (.int .i64 c.n) ab (fun W hW=>?_) ?_
          ·obtain ⟨x0,x1,x2,x3,x4,x5,x6,x7,x8,x9,af,ah,ad,ag,ae⟩:=Qag ai hW
           clear hW;go_simp
          simp only [sX];refine onE 2 fun K hK=>?_;go_simp;refine (QaN _ _).mono ?_;rintro e wz ⟨rfl,al⟩;obtain rfl:=al.symm;rw [hw];dsimp only;refine gK hK ab ?_
          try simp only [sX]
          refine tkS 3 (.bool false) ab ?_;refine tkS 4 (.bool false) ab ?_;refine tkS 5 (.pointer (some ⟨wr.heap.size,1,none⟩)) ab ?_;simp only [sX];refine tkL 6 (.string c.s) ab (fun W hW=>?_) ?_
          ·obtain ⟨x0,x1,x2,x3,x4,x5,x6,x7,x8,x9,af,ah,ad,ag,ae⟩:=Qag ai hW
           clear hW;go_simp
          simp only [sX];refine onE 7 fun K hK=>?_;go_simp;refine (QaF c.s (SS.out c aj)).mono ?_;rintro e w1 ⟨rfl,ak⟩;rw [hs];have ac:Hid (Below W0.heap.size W0 w1):=(ab:Below W0.heap.size W0 W0.drew).trans (ak.mono (ZZa _));clear ak;dsimp only;refine gK hK ac.out ?_
          try simp only [sX]
          refine tkS 8 (.bool false) ac ?_;refine tkS 9 (.bool false) ac ?_;refine tkS 10 (.bool false) ac ?_;simp only [sX];refine tkS 11 (.pointer (some ⟨wr.heap.size,2,none⟩)) ac ?_;refine tkL 12 (.agg (Qav c.g c.p)) ac (fun W hW=>?_) ?_
          ·obtain ⟨x0,x1,x2,x3,x4,x5,x6,x7,x8,x9,af,ah,ad,ag,ae⟩:=Qag ai hW
           clear hW;go_simp
          simp only [sX];refine onE 13 fun K hK=>?_;go_simp;refine (Qbc (g:=c.g) (p:=c.p) (OK.out c aj) (SM.out c aj) (Qaz (HA.out.2 c aj) (Qac an ac))).mono ?_;rintro e w2 ⟨rfl,am⟩;rw [ha];have aa:Hid (Below W0.heap.size W0 w2):=Qac ac am;clear am;dsimp only;refine gK hK aa.out ?_
          try simp only [sX]
          refine tkS 14 (.bool false) aa ?_;refine tkS 15 (.bool false) aa ?_;refine tkS 16 (.bool false) aa ?_;simp only [sX];refine tkS 17 (.pointer (some ⟨wr.heap.size,2,none⟩)) aa ?_;refine tkS 18 (.pointer (some ⟨wr.heap.size,3,none⟩)) aa ?_;refine tkL 19 (.int .u64 c.g.s) aa (fun W hW=>?_) ?_
          ·obtain ⟨x0,x1,x2,x3,x4,x5,x6,x7,x8,x9,af,ah,ad,ag,ae⟩:=Qag ai hW
           clear hW;go_simp
          simp only [sX];refine tkS 20 (.bool true) aa ?_;refine tkS 21 (.bool true) aa ?_;refine tkS 22 (.bool true) aa ?_;simp only [sX];refine tkU 23 aa ?_;refine tkU 24 aa ?_;refine tkU 25 aa ?_;simp only [sX];refine tkU 26 aa ?_;refine tkU 27 aa ?_;refine tkU 28 aa ?_;simp only [sX];refine tkU 29 aa ?_;refine tkU 30 aa ?_;refine tkU 31 aa ?_;simp only [sX];refine tkU 32 aa ?_;refine tkU 33 aa ?_;refine tkU 34 aa ?_;simp only [sX];refine onE 35 fun K hK=>?_;refine Eq.mpr (if_neg (fun h=>Bool.noConfusion (show false=true from h))) ?_;refine gK hK aa.out ?_
          try simp only [sX]
          refine tkU 36 aa ?_;refine tkU 37 aa ?_;refine tkS 38 (.bool true) aa ?_;simp only [sX];refine dnE ?_ _;go_wp2;go_meet;exact ⟨by rw [HR.out],Qaa (Qac an aa)⟩
         ·have HR:Hid ((!cRi c)=false):=(by simp [cRi,hw,hs,ha,hz]:(!cRi c)=false)
          have bz:(c.g.s == 0)=false:=ZZf.2 hz;clear hz;have ab:(fun W=>Below W0.heap.size W0 W) W0.drew:=(ZZb _ _).drew;refine Qal (fun W=>Below W0.heap.size W0 W) 99 (by kernel_rfl) ?_;refine tkS 0 (.pointer (some ⟨wr.heap.size,0,none⟩)) ab ?_;refine tkL 1 (.int .i64 c.n) ab (fun W hW=>?_) ?_
          ·obtain ⟨x0,x1,x2,x3,x4,x5,x6,x7,x8,x9,af,ah,ad,ag,ae⟩:=Qag ai hW
           clear hW;go_simp
          simp only [sX];refine onE 2 fun K hK=>?_;go_simp;refine (QaN _ _).mono ?_;rintro e wz ⟨rfl,al⟩;obtain rfl:=al.symm;rw [hw];dsimp only;refine gK hK ab ?_
          try simp only [sX]
          refine tkS 3 (.bool false) ab ?_;refine tkS 4 (.bool false) ab ?_;refine tkS 5 (.pointer (some ⟨wr.heap.size,1,none⟩)) ab ?_;simp only [sX];refine tkL 6 (.string c.s) ab (fun W hW=>?_) ?_
          ·obtain ⟨x0,x1,x2,x3,x4,x5,x6,x7,x8,x9,af,ah,ad,ag,ae⟩:=Qag ai hW
           clear hW;go_simp
          simp only [sX];refine onE 7 fun K hK=>?_;go_simp;refine (QaF c.s (SS.out c aj)).mono ?_;rintro e w1 ⟨rfl,ak⟩;rw [hs];have ac:Hid (Below W0.heap.size W0 w1):=(ab:Below W0.heap.size W0 W0.drew).trans (ak.mono (ZZa _));clear ak;dsimp only;refine gK hK ac.out ?_
          try simp only [sX]
          refine tkS 8 (.bool false) ac ?_;refine tkS 9 (.bool false) ac ?_;refine tkS 10 (.bool false) ac ?_;simp only [sX];refine tkS 11 (.pointer (some ⟨wr.heap.size,2,none⟩)) ac ?_;refine tkL 12 (.agg (Qav c.g c.p)) ac (fun W hW=>?_) ?_
          ·obtain ⟨x0,x1,x2,x3,x4,x5,x6,x7,x8,x9,af,ah,ad,ag,ae⟩:=Qag ai hW
           clear hW;go_simp
          simp only [sX];refine onE 13 fun K hK=>?_;go_simp;refine (Qbc (g:=c.g) (p:=c.p) (OK.out c aj) (SM.out c aj) (Qaz (HA.out.2 c aj) (Qac an ac))).mono ?_;rintro e w2 ⟨rfl,am⟩;rw [ha];have aa:Hid (Below W0.heap.size W0 w2):=Qac ac am;clear am;dsimp only;refine gK hK aa.out ?_
          try simp only [sX]
          refine tkS 14 (.bool false) aa ?_;refine tkS 15 (.bool false) aa ?_;refine tkS 16 (.bool false) aa ?_;simp only [sX];refine tkS 17 (.pointer (some ⟨wr.heap.size,2,none⟩)) aa ?_;refine tkS 18 (.pointer (some ⟨wr.heap.size,3,none⟩)) aa ?_;refine tkL 19 (.int .u64 c.g.s) aa (fun W hW=>?_) ?_
          ·obtain ⟨x0,x1,x2,x3,x4,x5,x6,x7,x8,x9,af,ah,ad,ag,ae⟩:=Qag ai hW
           clear hW;go_simp
          simp only [sX];refine tkS 20 (.bool false) aa ?_;refine tkS 21 (.bool false) aa ?_;refine tkS 22 (.bool false) aa ?_;simp only [sX];refine tkS 23 (.int .i64 0) aa ?_;refine tkS 24 (.bool false) aa ?_;refine tkS 25 (.bool false) aa ?_;simp only [sX];refine tkU 26 aa ?_;refine tkU 27 aa ?_;refine tkU 28 aa ?_;simp only [sX];refine tkU 29 aa ?_;refine tkU 30 aa ?_;refine tkU 31 aa ?_;simp only [sX];refine tkU 32 aa ?_;refine tkU 33 aa ?_;refine tkU 34 aa ?_;simp only [sX];refine onE 35 fun K hK=>?_;refine Eq.mpr (if_neg (fun h=>Bool.noConfusion (show false=true from h))) ?_;refine gK hK aa.out ?_
          try simp only [sX]
          refine tkU 36 aa ?_;refine tkS 37 (.bool false) aa ?_;refine tkS 38 (.bool false) aa ?_;simp only [sX];refine dnE ?_ _;go_wp2;go_meet;exact ⟨by rw [HR.out],Qaa (Qac an aa)⟩
     case rest=>
      obtain ⟨rfl,ar⟩:=hcut
      cases hri:cRi c with
      | false=>
       have av:Hid (false=csR L):=by rw [<- aw.out,HS.out,hri];exact Qaa rfl
       go_wp2;go_ret;exact ⟨Qf0 av,ar⟩
      | true=>
       have ay:Hid (cRs (QiL L (0+1)) (L.drop (0+1))=csR L):=by
        have:=aw.out;rw [HS.out,hri,Bool.true_and] at this;exact this
       go_wp2;go_roundw
       case rel=>exact ⟨0+1,by omega,by go_num,ay,ar⟩
       case measure=>simp [zI];omega
    | succ k=>
     obtain ⟨b0,az⟩:∃ c,L[k]?=some c:=⟨L[k]'(by have:=HN.out;omega),ZZe _⟩;have HS:=Qaa (Qme az aD)
     go_cut [56] (fun v w'=>v=.bool (!(cRi c && cAh b0 c))/\Hid (Below w.heap.size w w'))
     case first=>
      cases hw:Qig c.n with
      | false=>
       have HR:Hid ((!(cRi c && cAh b0 c))=true):=(by simp [cRi,hw]:(!(cRi c && cAh b0 c))=true);have ab:(fun W=>Below W0.heap.size W0 W) W0.drew:=(ZZb _ _).drew;refine Qal (fun W=>Below W0.heap.size W0 W) 99 (by kernel_rfl) ?_;refine tkS 0 (.pointer (some ⟨wr.heap.size,0,none⟩)) ab ?_;refine tkL 1 (.int .i64 c.n) ab (fun W hW=>?_) ?_
       ·obtain ⟨x0,x1,x2,x3,x4,x5,x6,x7,x8,x9,af,ah,ad,ag,ae⟩:=Qag ai hW
        clear hW;go_simp
       simp only [sX];refine onE 2 fun K hK=>?_;go_simp;refine (QaN _ _).mono ?_;rintro e wz ⟨rfl,al⟩;obtain rfl:=al.symm;rw [hw];dsimp only;refine gK hK ab ?_
       try simp only [sX]
       refine tkS 3 (.bool true) ab ?_;refine tkS 4 (.bool true) ab ?_;refine tkU 5 ab ?_;simp only [sX];refine tkU 6 ab ?_;simp only [sX];refine onE 7 fun K hK=>?_;refine Eq.mpr (if_neg (fun h=>Bool.noConfusion (show false=true from h))) ?_;refine gK hK ab ?_
       try simp only [sX]
       refine tkU 8 ab ?_;refine tkS 9 (.bool true) ab ?_;refine tkS 10 (.bool true) ab ?_;simp only [sX];refine tkU 11 ab ?_;refine tkU 12 ab ?_;simp only [sX];refine onE 13 fun K hK=>?_;refine Eq.mpr (if_neg (fun h=>Bool.noConfusion (show false=true from h))) ?_;refine gK hK ab ?_
       try simp only [sX]
       refine tkU 14 ab ?_;refine tkS 15 (.bool true) ab ?_;refine tkS 16 (.bool true) ab ?_;simp only [sX];refine tkU 17 ab ?_;refine tkU 18 ab ?_;refine tkU 19 ab ?_;simp only [sX];refine tkU 20 ab ?_;refine tkS 21 (.bool true) ab ?_;refine tkS 22 (.bool true) ab ?_;simp only [sX];refine tkU 23 ab ?_;refine tkU 24 ab ?_;refine tkU 25 ab ?_;simp only [sX];refine tkU 26 ab ?_;refine tkU 27 ab ?_;refine tkU 28 ab ?_;simp only [sX];refine tkU 29 ab ?_;refine tkU 30 ab ?_;refine tkU 31 ab ?_;simp only [sX];refine tkU 32 ab ?_;refine tkU 33 ab ?_;refine tkU 34 ab ?_;simp only [sX];refine onE 35 fun K hK=>?_;refine Eq.mpr (if_neg (fun h=>Bool.noConfusion (show false=true from h))) ?_;refine gK hK ab ?_
       try simp only [sX]
       refine tkU 36 ab ?_;refine tkU 37 ab ?_;refine tkS 38 (.bool true) ab ?_;simp only [sX];refine dnE ?_ _;go_wp2;go_meet;exact ⟨by rw [HR.out],Qaa (Qac an ab)⟩
      | true=>
       cases hs:Qbn c.s with
       | false=>
        have HR:Hid ((!(cRi c && cAh b0 c))=true):=(by simp [cRi,hs]:(!(cRi c && cAh b0 c))=true);have ab:(fun W=>Below W0.heap.size W0 W) W0.drew:=(ZZb _ _).drew;refine Qal (fun W=>Below W0.heap.size W0 W) 99 (by kernel_rfl) ?_;refine tkS 0 (.pointer (some ⟨wr.heap.size,0,none⟩)) ab ?_;refine tkL 1 (.int .i64 c.n) ab (fun W hW=>?_) ?_
        ·obtain ⟨x0,x1,x2,x3,x4,x5,x6,x7,x8,x9,af,ah,ad,ag,ae⟩:=Qag ai hW
         clear hW;go_simp
        simp only [sX];refine onE 2 fun K hK=>?_;go_simp;refine (QaN _ _).mono ?_;rintro e wz ⟨rfl,al⟩;obtain rfl:=al.symm;rw [hw];dsimp only;refine gK hK ab ?_
        try simp only [sX]
        refine tkS 3 (.bool false) ab ?_;refine tkS 4 (.bool false) ab ?_;refine tkS 5 (.pointer (some ⟨wr.heap.size,1,none⟩)) ab ?_;simp only [sX];refine tkL 6 (.string c.s) ab (fun W hW=>?_) ?_
        ·obtain ⟨x0,x1,x2,x3,x4,x5,x6,x7,x8,x9,af,ah,ad,ag,ae⟩:=Qag ai hW
         clear hW;go_simp
        simp only [sX];refine onE 7 fun K hK=>?_;go_simp;refine (QaF c.s (SS.out c aj)).mono ?_;rintro e w1 ⟨rfl,ak⟩;rw [hs];have ac:Hid (Below W0.heap.size W0 w1):=(ab:Below W0.heap.size W0 W0.drew).trans (ak.mono (ZZa _));clear ak;dsimp only;refine gK hK ac.out ?_
        try simp only [sX]
        refine tkS 8 (.bool true) ac ?_;refine tkS 9 (.bool true) ac ?_;refine tkS 10 (.bool true) ac ?_;simp only [sX];refine tkU 11 ac ?_;refine tkU 12 ac ?_;simp only [sX];refine onE 13 fun K hK=>?_;refine Eq.mpr (if_neg (fun h=>Bool.noConfusion (show false=true from h))) ?_;refine gK hK ac.out ?_
        try simp only [sX]
        refine tkU 14 ac ?_;refine tkS 15 (.bool true) ac ?_;refine tkS 16 (.bool true) ac ?_;simp only [sX];refine tkU 17 ac ?_;refine tkU 18 ac ?_;refine tkU 19 ac ?_;simp only [sX];refine tkU 20 ac ?_;refine tkS 21 (.bool true) ac ?_;refine tkS 22 (.bool true) ac ?_;simp only [sX];refine tkU 23 ac ?_;refine tkU 24 ac ?_;refine tkU 25 ac ?_;simp only [sX];refine tkU 26 ac ?_;refine tkU 27 ac ?_;refine tkU 28 ac ?_;simp only [sX];refine tkU 29 ac ?_;refine tkU 30 ac ?_;refine tkU 31 ac ?_;simp only [sX];refine tkU 32 ac ?_;refine tkU 33 ac ?_;refine tkU 34 ac ?_;simp only [sX];refine onE 35 fun K hK=>?_;refine Eq.mpr (if_neg (fun h=>Bool.noConfusion (show false=true from h))) ?_;refine gK hK ac.out ?_
        try simp only [sX]
        refine tkU 36 ac ?_;refine tkU 37 ac ?_;refine tkS 38 (.bool true) ac ?_;simp only [sX];refine dnE ?_ _;go_wp2;go_meet;exact ⟨by rw [HR.out],Qaa (Qac an ac)⟩
       | true=>
        cases ha:agB c.g with
        | false=>
         have HR:Hid ((!(cRi c && cAh b0 c))=true):=(by simp [cRi,ha]:(!(cRi c && cAh b0 c))=true);have ab:(fun W=>Below W0.heap.size W0 W) W0.drew:=(ZZb _ _).drew;refine Qal (fun W=>Below W0.heap.size W0 W) 99 (by kernel_rfl) ?_;refine tkS 0 (.pointer (some ⟨wr.heap.size,0,none⟩)) ab ?_;refine tkL 1 (.int .i64 c.n) ab (fun W hW=>?_) ?_
         ·obtain ⟨x0,x1,x2,x3,x4,x5,x6,x7,x8,x9,af,ah,ad,ag,ae⟩:=Qag ai hW
          clear hW;go_simp
         simp only [sX];refine onE 2 fun K hK=>?_;go_simp;refine (QaN _ _).mono ?_;rintro e wz ⟨rfl,al⟩;obtain rfl:=al.symm;rw [hw];dsimp only;refine gK hK ab ?_
         try simp only [sX]
         refine tkS 3 (.bool false) ab ?_;refine tkS 4 (.bool false) ab ?_;refine tkS 5 (.pointer (some ⟨wr.heap.size,1,none⟩)) ab ?_;simp only [sX];refine tkL 6 (.string c.s) ab (fun W hW=>?_) ?_
         ·obtain ⟨x0,x1,x2,x3,x4,x5,x6,x7,x8,x9,af,ah,ad,ag,ae⟩:=Qag ai hW
          clear hW;go_simp
         simp only [sX];refine onE 7 fun K hK=>?_;go_simp;refine (QaF c.s (SS.out c aj)).mono ?_;rintro e w1 ⟨rfl,ak⟩;rw [hs];have ac:Hid (Below W0.heap.size W0 w1):=(ab:Below W0.heap.size W0 W0.drew).trans (ak.mono (ZZa _));clear ak;dsimp only;refine gK hK ac.out ?_
         try simp only [sX]
         refine tkS 8 (.bool false) ac ?_;refine tkS 9 (.bool false) ac ?_;refine tkS 10 (.bool false) ac ?_;simp only [sX];refine tkS 11 (.pointer (some ⟨wr.heap.size,2,none⟩)) ac ?_;refine tkL 12 (.agg (Qav c.g c.p)) ac (fun W hW=>?_) ?_
         ·obtain ⟨x0,x1,x2,x3,x4,x5,x6,x7,x8,x9,af,ah,ad,ag,ae⟩:=Qag ai hW
          clear hW;go_simp
         simp only [sX];refine onE 13 fun K hK=>?_;go_simp;refine (Qbc (g:=c.g) (p:=c.p) (OK.out c aj) (SM.out c aj) (Qaz (HA.out.2 c aj) (Qac an ac))).mono ?_;rintro e w2 ⟨rfl,am⟩;rw [ha];have aa:Hid (Below W0.heap.size W0 w2):=Qac ac am;clear am;dsimp only;refine gK hK aa.out ?_
         try simp only [sX]
         refine tkS 14 (.bool true) aa ?_;refine tkS 15 (.bool true) aa ?_;refine tkS 16 (.bool true) aa ?_;simp only [sX];refine tkU 17 aa ?_;refine tkU 18 aa ?_;refine tkU 19 aa ?_;simp only [sX];refine tkU 20 aa ?_;refine tkS 21 (.bool true) aa ?_;refine tkS 22 (.bool true) aa ?_;simp only [sX];refine tkU 23 aa ?_;refine tkU 24 aa ?_;refine tkU 25 aa ?_;simp only [sX];refine tkU 26 aa ?_;refine tkU 27 aa ?_;refine tkU 28 aa ?_;simp only [sX];refine tkU 29 aa ?_;refine tkU 30 aa ?_;refine tkU 31 aa ?_;simp only [sX];refine tkU 32 aa ?_;refine tkU 33 aa ?_;refine tkU 34 aa ?_;simp only [sX];refine onE 35 fun K hK=>?_;refine Eq.mpr (if_neg (fun h=>Bool.noConfusion (show false=true from h))) ?_;refine gK hK aa.out ?_
         try simp only [sX]
         refine tkU 36 aa ?_;refine tkU 37 aa ?_;refine tkS 38 (.bool true) aa ?_;simp only [sX];refine dnE ?_ _;go_wp2;go_meet;exact ⟨by rw [HR.out],Qaa (Qac an aa)⟩
        | true=>
         by_cases hz:c.g.s=0
         ·have HR:Hid ((!(cRi c && cAh b0 c))=true):=(by simp [cRi,hz]:(!(cRi c && cAh b0 c))=true)
          have bz:(c.g.s == 0)=true:=by simp [hz]
          clear hz;have ab:(fun W=>Below W0.heap.size W0 W) W0.drew:=(ZZb _ _).drew;refine Qal (fun W=>Below W0.heap.size W0 W) 99 (by kernel_rfl) ?_;refine tkS 0 (.pointer (some ⟨wr.heap.size,0,none⟩)) ab ?_;refine tkL 1 (.int .i64 c.n) ab (fun W hW=>?_) ?_
          ·obtain ⟨x0,x1,x2,x3,x4,x5,x6,x7,x8,x9,af,ah,ad,ag,ae⟩:=Qag ai hW
           clear hW;go_simp
          simp only [sX];refine onE 2 fun K hK=>?_;go_simp;refine (QaN _ _).mono ?_;rintro e wz ⟨rfl,al⟩;obtain rfl:=al.symm;rw [hw];dsimp only;refine gK hK ab ?_
          try simp only [sX]
          refine tkS 3 (.bool false) ab ?_;refine tkS 4 (.bool false) ab ?_;refine tkS 5 (.pointer (some ⟨wr.heap.size,1,none⟩)) ab ?_;simp only [sX];refine tkL 6 (.string c.s) ab (fun W hW=>?_) ?_
          ·obtain ⟨x0,x1,x2,x3,x4,x5,x6,x7,x8,x9,af,ah,ad,ag,ae⟩:=Qag ai hW
           clear hW;go_simp
          simp only [sX];refine onE 7 fun K hK=>?_;go_simp;refine (QaF c.s (SS.out c aj)).mono ?_;rintro e w1 ⟨rfl,ak⟩;rw [hs];have ac:Hid (Below W0.heap.size W0 w1):=(ab:Below W0.heap.size W0 W0.drew).trans (ak.mono (ZZa _));clear ak;dsimp only;refine gK hK ac.out ?_
          try simp only [sX]
          refine tkS 8 (.bool false) ac ?_;refine tkS 9 (.bool false) ac ?_;refine tkS 10 (.bool false) ac ?_;simp only [sX];refine tkS 11 (.pointer (some ⟨wr.heap.size,2,none⟩)) ac ?_;refine tkL 12 (.agg (Qav c.g c.p)) ac (fun W hW=>?_) ?_
          ·obtain ⟨x0,x1,x2,x3,x4,x5,x6,x7,x8,x9,af,ah,ad,ag,ae⟩:=Qag ai hW
           clear hW;go_simp
          simp only [sX];refine onE 13 fun K hK=>?_;go_simp;refine (Qbc (g:=c.g) (p:=c.p) (OK.out c aj) (SM.out c aj) (Qaz (HA.out.2 c aj) (Qac an ac))).mono ?_;rintro e w2 ⟨rfl,am⟩;rw [ha];have aa:Hid (Below W0.heap.size W0 w2):=Qac ac am;clear am;dsimp only;refine gK hK aa.out ?_
          try simp only [sX]
          refine tkS 14 (.bool false) aa ?_;refine tkS 15 (.bool false) aa ?_;refine tkS 16 (.bool false) aa ?_;simp only [sX];refine tkS 17 (.pointer (some ⟨wr.heap.size,2,none⟩)) aa ?_;refine tkS 18 (.pointer (some ⟨wr.heap.size,3,none⟩)) aa ?_;refine tkL 19 (.int .u64 c.g.s) aa (fun W hW=>?_) ?_
          ·obtain ⟨x0,x1,x2,x3,x4,x5,x6,x7,x8,x9,af,ah,ad,ag,ae⟩:=Qag ai hW
           clear hW;go_simp
          simp only [sX];refine tkS 20 (.bool true) aa ?_;refine tkS 21 (.bool true) aa ?_;refine tkS 22 (.bool true) aa ?_;simp only [sX];refine tkU 23 aa ?_;refine tkU 24 aa ?_;refine tkU 25 aa ?_;simp only [sX];refine tkU 26 aa ?_;refine tkU 27 aa ?_;refine tkU 28 aa ?_;simp only [sX];refine tkU 29 aa ?_;refine tkU 30 aa ?_;refine tkU 31 aa ?_;simp only [sX];refine tkU 32 aa ?_;refine tkU 33 aa ?_;refine tkU 34 aa ?_;simp only [sX];refine onE 35 fun K hK=>?_;refine Eq.mpr (if_neg (fun h=>Bool.noConfusion (show false=true from h))) ?_;refine gK hK aa.out ?_
          try simp only [sX]
          refine tkU 36 aa ?_;refine tkU 37 aa ?_;refine tkS 38 (.bool true) aa ?_;simp only [sX];refine dnE ?_ _;go_wp2;go_meet;exact ⟨by rw [HR.out],Qaa (Qac an aa)⟩
         ·have bz:(c.g.s == 0)=false:=ZZf.2 hz
          have aF:Hid (cRi c=true):=(by simp [cRi,hw,hs,ha,hz]:cRi c=true);clear hz
          cases hah:(decide (b0.n<c.n) || ((b0.n == c.n) && QaJ b0.s c.s)) with
          | false=>
           have HR:Hid ((!(cRi c && cAh b0 c))=true):=(by rw [aF.out,show cAh b0 c=false from hah];rfl:(!(cRi c && cAh b0 c))=true);have ab:(fun W=>Below W0.heap.size W0 W) W0.drew:=(ZZb _ _).drew;refine Qal (fun W=>Below W0.heap.size W0 W) 99 (by kernel_rfl) ?_;refine tkS 0 (.pointer (some ⟨wr.heap.size,0,none⟩)) ab ?_;refine tkL 1 (.int .i64 c.n) ab (fun W hW=>?_) ?_
           ·obtain ⟨x0,x1,x2,x3,x4,x5,x6,x7,x8,x9,af,ah,ad,ag,ae⟩:=Qag ai hW
            clear hW;go_simp
           simp only [sX];refine onE 2 fun K hK=>?_;go_simp;refine (QaN _ _).mono ?_;rintro e wz ⟨rfl,al⟩;obtain rfl:=al.symm;rw [hw];dsimp only;refine gK hK ab ?_
           try simp only [sX]
           refine tkS 3 (.bool false) ab ?_;refine tkS 4 (.bool false) ab ?_;refine tkS 5 (.pointer (some ⟨wr.heap.size,1,none⟩)) ab ?_;simp only [sX];refine tkL 6 (.string c.s) ab (fun W hW=>?_) ?_
           ·obtain ⟨x0,x1,x2,x3,x4,x5,x6,x7,x8,x9,af,ah,ad,ag,ae⟩:=Qag ai hW
            clear hW;go_simp
           simp only [sX];refine onE 7 fun K hK=>?_;go_simp;refine (QaF c.s (SS.out c aj)).mono ?_;rintro e w1 ⟨rfl,ak⟩;rw [hs];have ac:Hid (Below W0.heap.size W0 w1):=(ab:Below W0.heap.size W0 W0.drew).trans (ak.mono (ZZa _));clear ak;dsimp only;refine gK hK ac.out ?_
           try simp only [sX]
           refine tkS 8 (.bool false) ac ?_;refine tkS 9 (.bool false) ac ?_;refine tkS 10 (.bool false) ac ?_;simp only [sX];refine tkS 11 (.pointer (some ⟨wr.heap.size,2,none⟩)) ac ?_;refine tkL 12 (.agg (Qav c.g c.p)) ac (fun W hW=>?_) ?_
           ·obtain ⟨x0,x1,x2,x3,x4,x5,x6,x7,x8,x9,af,ah,ad,ag,ae⟩:=Qag ai hW
            clear hW;go_simp
           simp only [sX];refine onE 13 fun K hK=>?_;go_simp;refine (Qbc (g:=c.g) (p:=c.p) (OK.out c aj) (SM.out c aj) (Qaz (HA.out.2 c aj) (Qac an ac))).mono ?_;rintro e w2 ⟨rfl,am⟩;rw [ha];have aa:Hid (Below W0.heap.size W0 w2):=Qac ac am;clear am;dsimp only;refine gK hK aa.out ?_
           try simp only [sX]
           refine tkS 14 (.bool false) aa ?_;refine tkS 15 (.bool false) aa ?_;refine tkS 16 (.bool false) aa ?_;simp only [sX];refine tkS 17 (.pointer (some ⟨wr.heap.size,2,none⟩)) aa ?_;refine tkS 18 (.pointer (some ⟨wr.heap.size,3,none⟩)) aa ?_;refine tkL 19 (.int .u64 c.g.s) aa (fun W hW=>?_) ?_
           ·obtain ⟨x0,x1,x2,x3,x4,x5,x6,x7,x8,x9,af,ah,ad,ag,ae⟩:=Qag ai hW
            clear hW;go_simp
           simp only [sX];refine tkS 20 (.bool false) aa ?_;refine tkS 21 (.bool false) aa ?_;refine tkS 22 (.bool false) aa ?_;simp only [sX];refine tkS 23 (.int .i64 ((k+1:Nat):Int)) aa ?_;refine tkS 24 (.bool true) aa ?_;refine tkS 25 (.bool true) aa ?_;simp only [sX];refine tkS 26 (.slice (some ⟨b,ax,none⟩) N ca) aa ?_;refine tkS 27 (.int .i64 ((k+1:Nat):Int)) aa ?_;refine tkL 28 (.int .i64 (k:Int)) aa (fun W hW=>?_) ?_
           ·have aI:IntKind.i64.wrap (k:Int)=(k:Int):=by rw [IntKind.wrap_i64];omega
            clear hW;go_simp
           simp only [sX];refine tkL 29 (.pointer (some ⟨b,ax+k*15,none⟩)) aa (fun W hW=>?_) ?_
           ·have aN:¬ N<=k:=by omega
            clear hW;go_simp
           refine tkL 30 (.agg (Qap b0)) aa (fun W hW=>?_) ?_
           ·obtain ⟨y0,y1,y2,y3,y4,y5,y6,y7,y8,y9,aH,aL,aJ,aG,aM⟩:=Qag (aC.out k b0 az) (Qac an hW)
            clear hW;go_simp
           refine tkS 31 (.pointer (some ⟨wr.heap.size,0,none⟩)) aa ?_;simp only [sX];refine tkL 32 (.int .i64 c.n) aa (fun W hW=>?_) ?_
           ·obtain ⟨x0,x1,x2,x3,x4,x5,x6,x7,x8,x9,af,ah,ad,ag,ae⟩:=Qag ai hW
            clear hW;go_simp
           refine tkS 33 (.pointer (some ⟨wr.heap.size,1,none⟩)) aa ?_;refine tkL 34 (.string c.s) aa (fun W hW=>?_) ?_
           ·obtain ⟨x0,x1,x2,x3,x4,x5,x6,x7,x8,x9,af,ah,ad,ag,ae⟩:=Qag ai hW
            clear hW;go_simp
           simp only [sX];refine onE 35 fun K hK=>?_;go_simp;refine (Qb5 b0 c.n c.s _).mono ?_;rintro e w3 ⟨rfl,au⟩;rw [hah];have aq:Hid (Below W0.heap.size W0 w3):=Qac aa au;clear au;dsimp only;refine gK hK aq.out ?_
           try simp only [sX]
           refine tkS 36 (.bool true) aq ?_;refine tkS 37 (.bool true) aq ?_;refine tkS 38 (.bool true) aq ?_;simp only [sX];refine dnE ?_ _;go_wp2;go_meet;exact ⟨by rw [HR.out],Qaa (Qac an aq)⟩
          | true=>
           have HR:Hid ((!(cRi c && cAh b0 c))=false):=(by rw [aF.out,show cAh b0 c=true from hah];rfl:(!(cRi c && cAh b0 c))=false);have ab:(fun W=>Below W0.heap.size W0 W) W0.drew:=(ZZb _ _).drew;refine Qal (fun W=>Below W0.heap.size W0 W) 99 (by kernel_rfl) ?_;refine tkS 0 (.pointer (some ⟨wr.heap.size,0,none⟩)) ab ?_;refine tkL 1 (.int .i64 c.n) ab (fun W hW=>?_) ?_
           ·obtain ⟨x0,x1,x2,x3,x4,x5,x6,x7,x8,x9,af,ah,ad,ag,ae⟩:=Qag ai hW
            clear hW;go_simp
           simp only [sX];refine onE 2 fun K hK=>?_;go_simp;refine (QaN _ _).mono ?_;rintro e wz ⟨rfl,al⟩;obtain rfl:=al.symm;rw [hw];dsimp only;refine gK hK ab ?_
           try simp only [sX]
           refine tkS 3 (.bool false) ab ?_;refine tkS 4 (.bool false) ab ?_;refine tkS 5 (.pointer (some ⟨wr.heap.size,1,none⟩)) ab ?_;simp only [sX];refine tkL 6 (.string c.s) ab (fun W hW=>?_) ?_
           ·obtain ⟨x0,x1,x2,x3,x4,x5,x6,x7,x8,x9,af,ah,ad,ag,ae⟩:=Qag ai hW
            clear hW;go_simp
           simp only [sX];refine onE 7 fun K hK=>?_;go_simp;refine (QaF c.s (SS.out c aj)).mono ?_;rintro e w1 ⟨rfl,ak⟩;rw [hs];have ac:Hid (Below W0.heap.size W0 w1):=(ab:Below W0.heap.size W0 W0.drew).trans (ak.mono (ZZa _));clear ak;dsimp only;refine gK hK ac.out ?_
           try simp only [sX]
           refine tkS 8 (.bool false) ac ?_;refine tkS 9 (.bool false) ac ?_;refine tkS 10 (.bool false) ac ?_;simp only [sX];refine tkS 11 (.pointer (some ⟨wr.heap.size,2,none⟩)) ac ?_;refine tkL 12 (.agg (Qav c.g c.p)) ac (fun W hW=>?_) ?_
           ·obtain ⟨x0,x1,x2,x3,x4,x5,x6,x7,x8,x9,af,ah,ad,ag,ae⟩:=Qag ai hW
            clear hW;go_simp
           simp only [sX];refine onE 13 fun K hK=>?_;go_simp;refine (Qbc (g:=c.g) (p:=c.p) (OK.out c aj) (SM.out c aj) (Qaz (HA.out.2 c aj) (Qac an ac))).mono ?_;rintro e w2 ⟨rfl,am⟩;rw [ha];have aa:Hid (Below W0.heap.size W0 w2):=Qac ac am;clear am;dsimp only;refine gK hK aa.out ?_
           try simp only [sX]
           refine tkS 14 (.bool false) aa ?_;refine tkS 15 (.bool false) aa ?_;refine tkS 16 (.bool false) aa ?_;simp only [sX];refine tkS 17 (.pointer (some ⟨wr.heap.size,2,none⟩)) aa ?_;refine tkS 18 (.pointer (some ⟨wr.heap.size,3,none⟩)) aa ?_;refine tkL 19 (.int .u64 c.g.s) aa (fun W hW=>?_) ?_
           ·obtain ⟨x0,x1,x2,x3,x4,x5,x6,x7,x8,x9,af,ah,ad,ag,ae⟩:=Qag ai hW
            clear hW;go_simp
           simp only [sX];refine tkS 20 (.bool false) aa ?_;refine tkS 21 (.bool false) aa ?_;refine tkS 22 (.bool false) aa ?_;simp only [sX];refine tkS 23 (.int .i64 ((k+1:Nat):Int)) aa ?_;refine tkS 24 (.bool true) aa ?_;refine tkS 25 (.bool true) aa ?_;simp only [sX];refine tkS 26 (.slice (some ⟨b,ax,none⟩) N ca) aa ?_;refine tkS 27 (.int .i64 ((k+1:Nat):Int)) aa ?_;refine tkL 28 (.int .i64 (k:Int)) aa (fun W hW=>?_) ?_
           ·have aI:IntKind.i64.wrap (k:Int)=(k:Int):=by rw [IntKind.wrap_i64];omega
            clear hW;go_simp
           simp only [sX];refine tkL 29 (.pointer (some ⟨b,ax+k*15,none⟩)) aa (fun W hW=>?_) ?_
           ·have aN:¬ N<=k:=by omega
            clear hW;go_simp
           refine tkL 30 (.agg (Qap b0)) aa (fun W hW=>?_) ?_
           ·obtain ⟨y0,y1,y2,y3,y4,y5,y6,y7,y8,y9,aH,aL,aJ,aG,aM⟩:=Qag (aC.out k b0 az) (Qac an hW)
            clear hW;go_simp
           refine tkS 31 (.pointer (some ⟨wr.heap.size,0,none⟩)) aa ?_;simp only [sX];refine tkL 32 (.int .i64 c.n) aa (fun W hW=>?_) ?_
           ·obtain ⟨x0,x1,x2,x3,x4,x5,x6,x7,x8,x9,af,ah,ad,ag,ae⟩:=Qag ai hW
            clear hW;go_simp
           refine tkS 33 (.pointer (some ⟨wr.heap.size,1,none⟩)) aa ?_;refine tkL 34 (.string c.s) aa (fun W hW=>?_) ?_
           ·obtain ⟨x0,x1,x2,x3,x4,x5,x6,x7,x8,x9,af,ah,ad,ag,ae⟩:=Qag ai hW
            clear hW;go_simp
           simp only [sX];refine onE 35 fun K hK=>?_;go_simp;refine (Qb5 b0 c.n c.s _).mono ?_;rintro e w3 ⟨rfl,au⟩;rw [hah];have aq:Hid (Below W0.heap.size W0 w3):=Qac aa au;clear au;dsimp only;refine gK hK aq.out ?_
           try simp only [sX]
           refine tkS 36 (.bool false) aq ?_;refine tkS 37 (.bool false) aq ?_;refine tkS 38 (.bool false) aq ?_;simp only [sX];refine dnE ?_ _;go_wp2;go_meet;exact ⟨by rw [HR.out],Qaa (Qac an aq)⟩
     case rest=>
      obtain ⟨rfl,ar⟩:=hcut
      cases hri:(cRi c && cAh b0 c) with
      | false=>
       have av:Hid (false=csR L):=by rw [<- aw.out,HS.out,hri];exact Qaa rfl
       go_wp2;go_ret;exact ⟨Qf0 av,ar⟩
      | true=>
       have ay:Hid (cRs (QiL L (k+1+1)) (L.drop (k+1+1))=csR L):=by
        have:=aw.out;rw [HS.out,hri,Bool.true_and] at this;exact this
       go_wp2;go_roundw
       case rel=>exact ⟨k+1+1,by omega,by go_num,ay,ar⟩
       case measure=>simp [zI];omega
   ·obtain rfl:N=k:=by omega
    have av:Hid (true=csR L):=by
     rw [<- aw.out,List.drop_eq_nil_of_le (by have:=HN.out;omega)]
     cases QiL L N <;> exact Qaa rfl
    go_wp2;go_ret;exact ⟨Qf0 av,aA⟩
 ·have d1:decide ((60:Int)<(N:Int))=true:=ZZh (by omega)
  have HF:Hid (false=csR L):=by rw [HE.out,decide_eq_false h1];exact Qaa rfl
  go_enter func66,ntmps66;go_wp2;go_ret;exact ⟨Qf0 HF,ZZb _ _⟩
end Go.Proofs.YtlejlgldgafljaaGreatDoor
