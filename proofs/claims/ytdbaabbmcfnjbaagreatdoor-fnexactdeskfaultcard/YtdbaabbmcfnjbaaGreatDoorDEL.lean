/-
 Parts.
-/
import Derived.Test.YtdbaabbmcfnjbaaGreatDoorDEJ
set_option maxHeartbeats 4000000
set_option linter.all false
namespace Go.Proofs.YtdbaabbmcfnjbaaGreatDoor
open Go.ChangeShapes Go.WideShapes Go.ChangeAt Go.RowKit Go.PlainAid Go.Lib Tryz
set_option maxRecDepth 10000
variable {w:World}
theorem Qai {r:Nat} {cs:Array Value} {T:TypeId} (h:w.heap[r]?=some (.cells cs T (0,0))) (j:Nat) {v:Value} (e:cs[j]?=some v):w.cell? ⟨r,j,none⟩=some v:=by rw [cell_of_row _ _ j _ _ (0,0) h];exact e
theorem Qa2 (a b:ByteArray):(a ++ b).size=a.size+b.size:=ByteArray.size_append
variable {a gs h l n t x y z:Int}
variable {s:ByteArray}
variable {N P:List Bn}
variable {E R:List Int}
variable {p:Pl}
theorem Qtz (hT:CeT w ⟨n,s,⟨1,gs,h,l,a,t,z,P,N,x,y,E,R⟩,p⟩) :
  Calls prog 30 #[.agg (Qas ⟨n,s,⟨1,gs,h,l,a,t,z,P,N,x,y,E,R⟩,p⟩)] w fun e w'=>TxA 12000 e/\Below w.heap.size w w':=by
 have al:∀ (X:World) o,Below X.heap.size X (X.alloc o):=fun X o=>(ZZb _ _).alloc (ZZa _) _;have k0:=ZZk w (.cells (Qas ⟨n,s,⟨1,gs,h,l,a,t,z,P,N,x,y,E,R⟩,p⟩) 92);have k1:=ZZk (w.alloc (.cells (Qas ⟨n,s,⟨1,gs,h,l,a,t,z,P,N,x,y,E,R⟩,p⟩) 92)) (.cells (Qan ⟨1,gs,h,l,a,t,z,P,N,x,y,E,R⟩ p) 90);simp only [World.size_alloc] at k1;have ah:=Qaa (Qac (al w (.cells (Qas ⟨n,s,⟨1,gs,h,l,a,t,z,P,N,x,y,E,R⟩,p⟩) 92)) (al _ (.cells (Qan ⟨1,gs,h,l,a,t,z,P,N,x,y,E,R⟩ p) 90)));have KC:=Qaa (Qae k0 (al _ (.cells (Qan ⟨1,gs,h,l,a,t,z,P,N,x,y,E,R⟩ p) 90)));have KA:=Qaa k1;have HT:=Qaa (hT.past ah);clear al k0 k1 hT;go_enter func30,ntmps30;go_upto_region 2 with fail;generalize (w.alloc (.cells (Qas ⟨n,s,⟨1,gs,h,l,a,t,z,P,N,x,y,E,R⟩,p⟩) 92)).alloc (.cells (Qan ⟨1,gs,h,l,a,t,z,P,N,x,y,E,R⟩ p) 90)=W1 at ah KC KA HT ⊢;generalize w.heap.size+1=ba at KA ⊢;have HS:Hid (s.size<=100):=HT.out.s;have HU:=Qaa (QfT HT.out.u.1)
 go_cut [4] (fun v w'=>∃ t1:ByteArray,v=.string t1/\Hid (t1.size<=200)/\Hid (Below W1.heap.size W1 w'))
 case first=>
  have ap:w.heap.size<W1.heap.size:=(ZZc.1 KC).1;have ar:ba<W1.heap.size:=(ZZc.1 KA).1;have ac:Hid (Below W1.heap.size W1 W1.drew):=(ZZb _ _).drew;refine Qao (fun W=>Below W1.heap.size W1 W) 16 (by kernel_rfl) ?_;generalize W1.drew=X0 at ac ⊢;refine tkL 0 (.pointer (some (⟨w.heap.size,1,none⟩:Addr))) ac (fun W hW=>?_) ?_
  ·clear ac
   clear hW;go_simp
  refine tkL 1 (.string s) ac (fun W hW=>?_) ?_
  ·have qr:=Qae KC hW
   have q1:=Qai qr 1 rfl;clear qr;clear hW;go_simp
  refine tkL 2 (.string (s ++ (⟨#[32]⟩:ByteArray))) ac (fun W hW=>?_) ?_
  ·have ao:Op.stringOp .add (s) ((⟨#[32]⟩:ByteArray))=pure (.string (s ++ (⟨#[32]⟩:ByteArray))):=Qaf (by (try simp only [Qa2]);have e1:(⟨#[32]⟩:ByteArray).size=1:=rfl;have e2:(⟨#[99]⟩:ByteArray).size=1:=rfl;have:=HS.out;omega)
   clear hW;go_simp
  simp only [sX];refine tkL 4 (.pointer (some (⟨ba,0,none⟩:Addr))) ac (fun W hW=>?_) ?_
  ·clear ac
   clear hW;go_simp
  refine tkL 5 (.int .i64 1) ac (fun W hW=>?_) ?_
  ·have qr:=Qae KA hW
   have q0:=Qai qr 0 rfl;have q1:=Qai qr 1 rfl;clear qr;clear hW;go_simp
  refine tkL 10 (.pointer (some (⟨ba,1,none⟩:Addr))) ac (fun W hW=>?_) ?_
  ·clear ac
   clear hW;go_simp
  simp only [sX];refine tkL 11 (.int .u64 gs) ac (fun W hW=>?_) ?_
  ·have qr:=Qae KA hW
   have q0:=Qai qr 0 rfl;have q1:=Qai qr 1 rfl;clear qr;clear hW;go_simp
  simp only [sX];refine QjV (i:=3) (j:=12) (by kernel_rfl) rfl rfl (fun K hK=>?_) (fun K hK=>?_)
  ·go_simp
   have af:Below W1.heap.size W1 (X0.alloc (.cells #[.string ⟨#[]⟩,.string ⟨#[99]⟩,.string ⟨#[103]⟩,.string ⟨#[104]⟩,.string ⟨#[115]⟩] 9)):=ac.out.alloc ac.out.size _;have aa:=Qaa af;have G1:=Qaa (ZZk X0 (.cells #[.string ⟨#[]⟩,.string ⟨#[99]⟩,.string ⟨#[103]⟩,.string ⟨#[104]⟩,.string ⟨#[115]⟩] 9));have ag:Hid (W1.heap.size<=X0.heap.size):=ac.out.size;clear af
   try dsimp only
   refine gK hK aa.out ?_
   try simp only [sX]
   generalize X0.alloc (.cells #[.string ⟨#[]⟩,.string ⟨#[99]⟩,.string ⟨#[103]⟩,.string ⟨#[104]⟩,.string ⟨#[115]⟩] 9)=Y1 at aa G1 ⊢;generalize X0.heap.size=g1 at G1 ag ⊢;refine tkL 6 (.pointer (some (⟨g1,1,none⟩:Addr))) aa (fun W hW=>?_) ?_
   ·clear aa
    clear hW;go_simp
   simp only [sX];refine QjV (i:=7) (j:=12) (by kernel_rfl) rfl rfl (fun K hK=>?_) (fun K hK=>?_)
   ·have gq:=Qai G1 1 rfl
    go_simp;clear gq
    try dsimp only
    refine gK hK aa.out ?_
    try simp only [sX]
    refine tkL 8 (.string (s ++ (⟨#[32]⟩:ByteArray) ++ (⟨#[99]⟩:ByteArray))) aa (fun W hW=>?_) ?_
    ·have ak:Op.stringOp .add (s ++ (⟨#[32]⟩:ByteArray)) ((⟨#[99]⟩:ByteArray))=pure (.string (s ++ (⟨#[32]⟩:ByteArray) ++ (⟨#[99]⟩:ByteArray))):=Qaf (by (try simp only [Qa2]);have e1:(⟨#[32]⟩:ByteArray).size=1:=rfl;have e2:(⟨#[99]⟩:ByteArray).size=1:=rfl;have:=HS.out;omega)
     clear hW;go_simp
    refine tkL 9 (.string (s ++ (⟨#[32]⟩:ByteArray) ++ (⟨#[99]⟩:ByteArray) ++ (⟨#[32]⟩:ByteArray))) aa (fun W hW=>?_) ?_
    ·have ai:Op.stringOp .add (s ++ (⟨#[32]⟩:ByteArray) ++ (⟨#[99]⟩:ByteArray)) ((⟨#[32]⟩:ByteArray))=pure (.string (s ++ (⟨#[32]⟩:ByteArray) ++ (⟨#[99]⟩:ByteArray) ++ (⟨#[32]⟩:ByteArray))):=Qaf (by (try simp only [Qa2]);have e1:(⟨#[32]⟩:ByteArray).size=1:=rfl;have e2:(⟨#[99]⟩:ByteArray).size=1:=rfl;have:=HS.out;omega)
     clear hW;go_simp
    simp only [sX];refine onE 12 fun K hK=>?_;go_simp;refine (HU.out _).mono ?_;rintro e Z2 ⟨⟨u0,rfl,ae⟩,hb⟩;have ad:=Qaa ae;have ab:Hid (Below W1.heap.size W1 Z2):=Qac aa hb;clear hb ae
    try dsimp only
    refine gK hK ab.out ?_
    try simp only [sX]
    refine tkL 13 (.string (s ++ (⟨#[32]⟩:ByteArray) ++ (⟨#[99]⟩:ByteArray) ++ (⟨#[32]⟩:ByteArray) ++ u0)) ab (fun W hW=>?_) ?_
    ·have aj:Op.stringOp .add (s ++ (⟨#[32]⟩:ByteArray) ++ (⟨#[99]⟩:ByteArray) ++ (⟨#[32]⟩:ByteArray)) (u0)=pure (.string (s ++ (⟨#[32]⟩:ByteArray) ++ (⟨#[99]⟩:ByteArray) ++ (⟨#[32]⟩:ByteArray) ++ u0)):=Qaf (by (try simp only [Qa2]);have e1:(⟨#[32]⟩:ByteArray).size=1:=rfl;have e2:(⟨#[99]⟩:ByteArray).size=1:=rfl;have:=HS.out;have:=ad.out;omega)
     clear hW;go_simp
    refine tkL 14 (.string (s ++ (⟨#[32]⟩:ByteArray) ++ (⟨#[99]⟩:ByteArray) ++ (⟨#[32]⟩:ByteArray) ++ u0 ++ (⟨#[32]⟩:ByteArray))) ab (fun W hW=>?_) ?_
    ·have am:Op.stringOp .add (s ++ (⟨#[32]⟩:ByteArray) ++ (⟨#[99]⟩:ByteArray) ++ (⟨#[32]⟩:ByteArray) ++ u0) ((⟨#[32]⟩:ByteArray))=pure (.string (s ++ (⟨#[32]⟩:ByteArray) ++ (⟨#[99]⟩:ByteArray) ++ (⟨#[32]⟩:ByteArray) ++ u0 ++ (⟨#[32]⟩:ByteArray))):=Qaf (by (try simp only [Qa2]);have e1:(⟨#[32]⟩:ByteArray).size=1:=rfl;have e2:(⟨#[99]⟩:ByteArray).size=1:=rfl;have:=HS.out;have:=ad.out;omega)
     clear hW;go_simp
    simp only [sX];refine onE 15 fun K hK=>?_;go_simp
    try dsimp only
    refine gK hK ab.out ?_;refine dnE ?_ _;go_wp2;go_meet;exact ⟨_,rfl,Qaa (by simp only [Qa2];have e1:(⟨#[32]⟩:ByteArray).size=1:=rfl;have e2:(⟨#[99]⟩:ByteArray).size=1:=rfl;have:=HS.out;have:=ad.out;omega),ab⟩
   ·go_simp
    refine (HU.out _).mono ?_;rintro e Z2 ⟨⟨u0,rfl,ae⟩,hb⟩;have ad:=Qaa ae;have ab:Hid (Below W1.heap.size W1 Z2):=Qac aa hb;have an:=Qaa (Qae G1 hb);clear hb ae
    try dsimp only
    refine gK hK ab.out ?_
    try simp only [sX]
    refine onE 7 fun K hK=>?_;have gq:=Qai an 1 rfl;go_simp;clear gq
    try dsimp only
    refine gK hK ab.out ?_
    try simp only [sX]
    refine tkL 8 (.string (s ++ (⟨#[32]⟩:ByteArray) ++ (⟨#[99]⟩:ByteArray))) ab (fun W hW=>?_) ?_
    ·have ak:Op.stringOp .add (s ++ (⟨#[32]⟩:ByteArray)) ((⟨#[99]⟩:ByteArray))=pure (.string (s ++ (⟨#[32]⟩:ByteArray) ++ (⟨#[99]⟩:ByteArray))):=Qaf (by (try simp only [Qa2]);have e1:(⟨#[32]⟩:ByteArray).size=1:=rfl;have e2:(⟨#[99]⟩:ByteArray).size=1:=rfl;have:=HS.out;omega)
     clear hW;go_simp
    refine tkL 9 (.string (s ++ (⟨#[32]⟩:ByteArray) ++ (⟨#[99]⟩:ByteArray) ++ (⟨#[32]⟩:ByteArray))) ab (fun W hW=>?_) ?_
    ·have ai:Op.stringOp .add (s ++ (⟨#[32]⟩:ByteArray) ++ (⟨#[99]⟩:ByteArray)) ((⟨#[32]⟩:ByteArray))=pure (.string (s ++ (⟨#[32]⟩:ByteArray) ++ (⟨#[99]⟩:ByteArray) ++ (⟨#[32]⟩:ByteArray))):=Qaf (by (try simp only [Qa2]);have e1:(⟨#[32]⟩:ByteArray).size=1:=rfl;have e2:(⟨#[99]⟩:ByteArray).size=1:=rfl;have:=HS.out;omega)
     clear hW;go_simp
    refine tkL 13 (.string (s ++ (⟨#[32]⟩:ByteArray) ++ (⟨#[99]⟩:ByteArray) ++ (⟨#[32]⟩:ByteArray) ++ u0)) ab (fun W hW=>?_) ?_
    ·have aj:Op.stringOp .add (s ++ (⟨#[32]⟩:ByteArray) ++ (⟨#[99]⟩:ByteArray) ++ (⟨#[32]⟩:ByteArray)) (u0)=pure (.string (s ++ (⟨#[32]⟩:ByteArray) ++ (⟨#[99]⟩:ByteArray) ++ (⟨#[32]⟩:ByteArray) ++ u0)):=Qaf (by (try simp only [Qa2]);have e1:(⟨#[32]⟩:ByteArray).size=1:=rfl;have e2:(⟨#[99]⟩:ByteArray).size=1:=rfl;have:=HS.out;have:=ad.out;omega)
     clear hW;go_simp
    simp only [sX];refine tkL 14 (.string (s ++ (⟨#[32]⟩:ByteArray) ++ (⟨#[99]⟩:ByteArray) ++ (⟨#[32]⟩:ByteArray) ++ u0 ++ (⟨#[32]⟩:ByteArray))) ab (fun W hW=>?_) ?_
    ·have am:Op.stringOp .add (s ++ (⟨#[32]⟩:ByteArray) ++ (⟨#[99]⟩:ByteArray) ++ (⟨#[32]⟩:ByteArray) ++ u0) ((⟨#[32]⟩:ByteArray))=pure (.string (s ++ (⟨#[32]⟩:ByteArray) ++ (⟨#[99]⟩:ByteArray) ++ (⟨#[32]⟩:ByteArray) ++ u0 ++ (⟨#[32]⟩:ByteArray))):=Qaf (by (try simp only [Qa2]);have e1:(⟨#[32]⟩:ByteArray).size=1:=rfl;have e2:(⟨#[99]⟩:ByteArray).size=1:=rfl;have:=HS.out;have:=ad.out;omega)
     clear hW;go_simp
    simp only [sX];refine onE 15 fun K hK=>?_;go_simp
    try dsimp only
    refine gK hK ab.out ?_;refine dnE ?_ _;go_wp2;go_meet;exact ⟨_,rfl,Qaa (by simp only [Qa2];have e1:(⟨#[32]⟩:ByteArray).size=1:=rfl;have e2:(⟨#[99]⟩:ByteArray).size=1:=rfl;have:=HS.out;have:=ad.out;omega),ab⟩
  ·go_simp
   refine (HU.out _).mono ?_;rintro e Z2 ⟨⟨u0,rfl,ae⟩,hb⟩;have ad:=Qaa ae;have ab:Hid (Below W1.heap.size W1 Z2):=Qac ac hb;clear hb ae
   try dsimp only
   refine gK hK ab.out ?_
   try simp only [sX]
   refine onE 3 fun K hK=>?_;go_simp;have af:Below W1.heap.size W1 (Z2.alloc (.cells #[.string ⟨#[]⟩,.string ⟨#[99]⟩,.string ⟨#[103]⟩,.string ⟨#[104]⟩,.string ⟨#[115]⟩] 9)):=ab.out.alloc ab.out.size _;have aa:=Qaa af;have G1:=Qaa (ZZk Z2 (.cells #[.string ⟨#[]⟩,.string ⟨#[99]⟩,.string ⟨#[103]⟩,.string ⟨#[104]⟩,.string ⟨#[115]⟩] 9));have ag:Hid (W1.heap.size<=Z2.heap.size):=ab.out.size;clear af
   try dsimp only
   refine gK hK aa.out ?_
   try simp only [sX]
   generalize Z2.alloc (.cells #[.string ⟨#[]⟩,.string ⟨#[99]⟩,.string ⟨#[103]⟩,.string ⟨#[104]⟩,.string ⟨#[115]⟩] 9)=Y1 at aa G1 ⊢;generalize Z2.heap.size=g1 at G1 ag ⊢;refine tkL 6 (.pointer (some (⟨g1,1,none⟩:Addr))) aa (fun W hW=>?_) ?_
   ·clear aa
    clear hW;go_simp
   simp only [sX];refine onE 7 fun K hK=>?_;have gq:=Qai G1 1 rfl;go_simp;clear gq
   try dsimp only
   refine gK hK aa.out ?_
   try simp only [sX]
   refine tkL 8 (.string (s ++ (⟨#[32]⟩:ByteArray) ++ (⟨#[99]⟩:ByteArray))) aa (fun W hW=>?_) ?_
   ·have ak:Op.stringOp .add (s ++ (⟨#[32]⟩:ByteArray)) ((⟨#[99]⟩:ByteArray))=pure (.string (s ++ (⟨#[32]⟩:ByteArray) ++ (⟨#[99]⟩:ByteArray))):=Qaf (by (try simp only [Qa2]);have e1:(⟨#[32]⟩:ByteArray).size=1:=rfl;have e2:(⟨#[99]⟩:ByteArray).size=1:=rfl;have:=HS.out;omega)
    clear hW;go_simp
   refine tkL 9 (.string (s ++ (⟨#[32]⟩:ByteArray) ++ (⟨#[99]⟩:ByteArray) ++ (⟨#[32]⟩:ByteArray))) aa (fun W hW=>?_) ?_
   ·have ai:Op.stringOp .add (s ++ (⟨#[32]⟩:ByteArray) ++ (⟨#[99]⟩:ByteArray)) ((⟨#[32]⟩:ByteArray))=pure (.string (s ++ (⟨#[32]⟩:ByteArray) ++ (⟨#[99]⟩:ByteArray) ++ (⟨#[32]⟩:ByteArray))):=Qaf (by (try simp only [Qa2]);have e1:(⟨#[32]⟩:ByteArray).size=1:=rfl;have e2:(⟨#[99]⟩:ByteArray).size=1:=rfl;have:=HS.out;omega)
    clear hW;go_simp
   refine tkL 13 (.string (s ++ (⟨#[32]⟩:ByteArray) ++ (⟨#[99]⟩:ByteArray) ++ (⟨#[32]⟩:ByteArray) ++ u0)) aa (fun W hW=>?_) ?_
   ·have aj:Op.stringOp .add (s ++ (⟨#[32]⟩:ByteArray) ++ (⟨#[99]⟩:ByteArray) ++ (⟨#[32]⟩:ByteArray)) (u0)=pure (.string (s ++ (⟨#[32]⟩:ByteArray) ++ (⟨#[99]⟩:ByteArray) ++ (⟨#[32]⟩:ByteArray) ++ u0)):=Qaf (by (try simp only [Qa2]);have e1:(⟨#[32]⟩:ByteArray).size=1:=rfl;have e2:(⟨#[99]⟩:ByteArray).size=1:=rfl;have:=HS.out;have:=ad.out;omega)
    clear hW;go_simp
   simp only [sX];refine tkL 14 (.string (s ++ (⟨#[32]⟩:ByteArray) ++ (⟨#[99]⟩:ByteArray) ++ (⟨#[32]⟩:ByteArray) ++ u0 ++ (⟨#[32]⟩:ByteArray))) aa (fun W hW=>?_) ?_
   ·have am:Op.stringOp .add (s ++ (⟨#[32]⟩:ByteArray) ++ (⟨#[99]⟩:ByteArray) ++ (⟨#[32]⟩:ByteArray) ++ u0) ((⟨#[32]⟩:ByteArray))=pure (.string (s ++ (⟨#[32]⟩:ByteArray) ++ (⟨#[99]⟩:ByteArray) ++ (⟨#[32]⟩:ByteArray) ++ u0 ++ (⟨#[32]⟩:ByteArray))):=Qaf (by (try simp only [Qa2]);have e1:(⟨#[32]⟩:ByteArray).size=1:=rfl;have e2:(⟨#[99]⟩:ByteArray).size=1:=rfl;have:=HS.out;have:=ad.out;omega)
    clear hW;go_simp
   simp only [sX];refine onE 15 fun K hK=>?_;go_simp
   try dsimp only
   refine gK hK aa.out ?_;refine dnE ?_ _;go_wp2;go_meet;exact ⟨_,rfl,Qaa (by simp only [Qa2];have e1:(⟨#[32]⟩:ByteArray).size=1:=rfl;have e2:(⟨#[99]⟩:ByteArray).size=1:=rfl;have:=HS.out;have:=ad.out;omega),aa⟩
 case rest=>
  clear HS HU;obtain ⟨t1,rfl,HS,HB⟩:=hcut;have HR:=Qaa (Qae KA HB);have HQ:=Qaa (HT.out.past HB);have HW:Hid (Below w.heap.size w wc):=Qac ah HB;generalize wc=W2 at HR HQ HW ⊢;clear HB;have q0:=Qai HR 0 rfl;have q2:=Qai HR 2 rfl;have q3:=Qai HR 3 rfl;go_wp2_with fail;refine (Qkp ⟨HQ.out.h.1.1,HQ.out.h.1.2⟩ HQ.out.h.2.1 _).mono ?_;rintro e w3 ⟨⟨u1,rfl,aq⟩,hb⟩;have hb:=Qaa hb;have ao:Op.stringOp .add (t1) (u1)=pure (.string (t1 ++ u1)):=Qaf (by (try simp only [Qa2]);have:=HS.out;omega);clear q0 q2 q3;go_wp2;go_ret;exact ⟨⟨_,rfl,by simp only [Qa2];have e1:(⟨#[32]⟩:ByteArray).size=1:=rfl;have e2:(⟨#[99]⟩:ByteArray).size=1:=rfl;have:=HS.out;omega⟩,Qac HW hb⟩
theorem Qud (hT:CeT w ⟨n,s,⟨2,gs,h,l,a,t,z,P,N,x,y,E,R⟩,p⟩) :
  Calls prog 30 #[.agg (Qas ⟨n,s,⟨2,gs,h,l,a,t,z,P,N,x,y,E,R⟩,p⟩)] w fun e w'=>TxA 12000 e/\Below w.heap.size w w':=by
 have al:∀ (X:World) o,Below X.heap.size X (X.alloc o):=fun X o=>(ZZb _ _).alloc (ZZa _) _;have k0:=ZZk w (.cells (Qas ⟨n,s,⟨2,gs,h,l,a,t,z,P,N,x,y,E,R⟩,p⟩) 92);have k1:=ZZk (w.alloc (.cells (Qas ⟨n,s,⟨2,gs,h,l,a,t,z,P,N,x,y,E,R⟩,p⟩) 92)) (.cells (Qan ⟨2,gs,h,l,a,t,z,P,N,x,y,E,R⟩ p) 90);simp only [World.size_alloc] at k1;have am:=Qaa (Qac (al w (.cells (Qas ⟨n,s,⟨2,gs,h,l,a,t,z,P,N,x,y,E,R⟩,p⟩) 92)) (al _ (.cells (Qan ⟨2,gs,h,l,a,t,z,P,N,x,y,E,R⟩ p) 90)));have KC:=Qaa (Qae k0 (al _ (.cells (Qan ⟨2,gs,h,l,a,t,z,P,N,x,y,E,R⟩ p) 90)));have KA:=Qaa k1;have HT:=Qaa (hT.past am);clear al k0 k1 hT;go_enter func30,ntmps30;go_upto_region 2 with fail;generalize (w.alloc (.cells (Qas ⟨n,s,⟨2,gs,h,l,a,t,z,P,N,x,y,E,R⟩,p⟩) 92)).alloc (.cells (Qan ⟨2,gs,h,l,a,t,z,P,N,x,y,E,R⟩ p) 90)=W1 at am KC KA HT ⊢;generalize w.heap.size+1=ba at KA ⊢;have HS:Hid (s.size<=100):=HT.out.s;have HU:=Qaa (QfT HT.out.u.1)
 go_cut [4] (fun v w'=>∃ t1:ByteArray,v=.string t1/\Hid (t1.size<=200)/\Hid (Below W1.heap.size W1 w'))
 case first=>
  have av:w.heap.size<W1.heap.size:=(ZZc.1 KC).1;have ar:ba<W1.heap.size:=(ZZc.1 KA).1;have ac:Hid (Below W1.heap.size W1 W1.drew):=(ZZb _ _).drew;refine Qao (fun W=>Below W1.heap.size W1 W) 16 (by kernel_rfl) ?_;generalize W1.drew=X0 at ac ⊢;refine tkL 0 (.pointer (some (⟨w.heap.size,1,none⟩:Addr))) ac (fun W hW=>?_) ?_
  ·clear ac
   clear hW;go_simp
  refine tkL 1 (.string s) ac (fun W hW=>?_) ?_
  ·have qr:=Qae KC hW
   have q1:=Qai qr 1 rfl;clear qr;clear hW;go_simp
  refine tkL 2 (.string (s ++ (⟨#[32]⟩:ByteArray))) ac (fun W hW=>?_) ?_
  ·have au:Op.stringOp .add (s) ((⟨#[32]⟩:ByteArray))=pure (.string (s ++ (⟨#[32]⟩:ByteArray))):=Qaf (by (try simp only [Qa2]);have e1:(⟨#[32]⟩:ByteArray).size=1:=rfl;have e2:(⟨#[103]⟩:ByteArray).size=1:=rfl;have:=HS.out;omega)
   clear hW;go_simp
  simp only [sX];refine tkL 4 (.pointer (some (⟨ba,0,none⟩:Addr))) ac (fun W hW=>?_) ?_
  ·clear ac
   clear hW;go_simp
  refine tkL 5 (.int .i64 2) ac (fun W hW=>?_) ?_
  ·have qr:=Qae KA hW
   have q0:=Qai qr 0 rfl;have q1:=Qai qr 1 rfl;clear qr;clear hW;go_simp
  refine tkL 10 (.pointer (some (⟨ba,1,none⟩:Addr))) ac (fun W hW=>?_) ?_
  ·clear ac
   clear hW;go_simp
  simp only [sX];refine tkL 11 (.int .u64 gs) ac (fun W hW=>?_) ?_
  ·have qr:=Qae KA hW
   have q0:=Qai qr 0 rfl;have q1:=Qai qr 1 rfl;clear qr;clear hW;go_simp
  simp only [sX];refine QjV (i:=3) (j:=12) (by kernel_rfl) rfl rfl (fun K hK=>?_) (fun K hK=>?_)
  ·go_simp
   have ag:Below W1.heap.size W1 (X0.alloc (.cells #[.string ⟨#[]⟩,.string ⟨#[99]⟩,.string ⟨#[103]⟩,.string ⟨#[104]⟩,.string ⟨#[115]⟩] 9)):=ac.out.alloc ac.out.size _;have aa:=Qaa ag;have G1:=Qaa (ZZk X0 (.cells #[.string ⟨#[]⟩,.string ⟨#[99]⟩,.string ⟨#[103]⟩,.string ⟨#[104]⟩,.string ⟨#[115]⟩] 9));have ak:Hid (W1.heap.size<=X0.heap.size):=ac.out.size;clear ag
   try dsimp only
   refine gK hK aa.out ?_
   try simp only [sX]
   generalize X0.alloc (.cells #[.string ⟨#[]⟩,.string ⟨#[99]⟩,.string ⟨#[103]⟩,.string ⟨#[104]⟩,.string ⟨#[115]⟩] 9)=Y1 at aa G1 ⊢;generalize X0.heap.size=g1 at G1 ak ⊢;refine tkL 6 (.pointer (some (⟨g1,2,none⟩:Addr))) aa (fun W hW=>?_) ?_
   ·clear aa
    clear hW;go_simp
   simp only [sX];refine QjV (i:=7) (j:=12) (by kernel_rfl) rfl rfl (fun K hK=>?_) (fun K hK=>?_)
   ·have gq:=Qai G1 2 rfl
    go_simp;clear gq
    try dsimp only
    refine gK hK aa.out ?_
    try simp only [sX]
    refine tkL 8 (.string (s ++ (⟨#[32]⟩:ByteArray) ++ (⟨#[103]⟩:ByteArray))) aa (fun W hW=>?_) ?_
    ·have aj:Op.stringOp .add (s ++ (⟨#[32]⟩:ByteArray)) ((⟨#[103]⟩:ByteArray))=pure (.string (s ++ (⟨#[32]⟩:ByteArray) ++ (⟨#[103]⟩:ByteArray))):=Qaf (by (try simp only [Qa2]);have e1:(⟨#[32]⟩:ByteArray).size=1:=rfl;have e2:(⟨#[103]⟩:ByteArray).size=1:=rfl;have:=HS.out;omega)
     clear hW;go_simp
    refine tkL 9 (.string (s ++ (⟨#[32]⟩:ByteArray) ++ (⟨#[103]⟩:ByteArray) ++ (⟨#[32]⟩:ByteArray))) aa (fun W hW=>?_) ?_
    ·have ah:Op.stringOp .add (s ++ (⟨#[32]⟩:ByteArray) ++ (⟨#[103]⟩:ByteArray)) ((⟨#[32]⟩:ByteArray))=pure (.string (s ++ (⟨#[32]⟩:ByteArray) ++ (⟨#[103]⟩:ByteArray) ++ (⟨#[32]⟩:ByteArray))):=Qaf (by (try simp only [Qa2]);have e1:(⟨#[32]⟩:ByteArray).size=1:=rfl;have e2:(⟨#[103]⟩:ByteArray).size=1:=rfl;have:=HS.out;omega)
     clear hW;go_simp
    simp only [sX];refine onE 12 fun K hK=>?_;go_simp;refine (HU.out _).mono ?_;rintro e Z2 ⟨⟨u0,rfl,ae⟩,hb⟩;have ad:=Qaa ae;have ab:Hid (Below W1.heap.size W1 Z2):=Qac aa hb;clear hb ae
    try dsimp only
    refine gK hK ab.out ?_
    try simp only [sX]
    refine tkL 13 (.string (s ++ (⟨#[32]⟩:ByteArray) ++ (⟨#[103]⟩:ByteArray) ++ (⟨#[32]⟩:ByteArray) ++ u0)) ab (fun W hW=>?_) ?_
    ·have an:Op.stringOp .add (s ++ (⟨#[32]⟩:ByteArray) ++ (⟨#[103]⟩:ByteArray) ++ (⟨#[32]⟩:ByteArray)) (u0)=pure (.string (s ++ (⟨#[32]⟩:ByteArray) ++ (⟨#[103]⟩:ByteArray) ++ (⟨#[32]⟩:ByteArray) ++ u0)):=Qaf (by (try simp only [Qa2]);have e1:(⟨#[32]⟩:ByteArray).size=1:=rfl;have e2:(⟨#[103]⟩:ByteArray).size=1:=rfl;have:=HS.out;have:=ad.out;omega)
     clear hW;go_simp
    refine tkL 14 (.string (s ++ (⟨#[32]⟩:ByteArray) ++ (⟨#[103]⟩:ByteArray) ++ (⟨#[32]⟩:ByteArray) ++ u0 ++ (⟨#[32]⟩:ByteArray))) ab (fun W hW=>?_) ?_
    ·have ao:Op.stringOp .add (s ++ (⟨#[32]⟩:ByteArray) ++ (⟨#[103]⟩:ByteArray) ++ (⟨#[32]⟩:ByteArray) ++ u0) ((⟨#[32]⟩:ByteArray))=pure (.string (s ++ (⟨#[32]⟩:ByteArray) ++ (⟨#[103]⟩:ByteArray) ++ (⟨#[32]⟩:ByteArray) ++ u0 ++ (⟨#[32]⟩:ByteArray))):=Qaf (by (try simp only [Qa2]);have e1:(⟨#[32]⟩:ByteArray).size=1:=rfl;have e2:(⟨#[103]⟩:ByteArray).size=1:=rfl;have:=HS.out;have:=ad.out;omega)
     clear hW;go_simp
    simp only [sX];refine onE 15 fun K hK=>?_;go_simp
    try dsimp only
    refine gK hK ab.out ?_;refine dnE ?_ _;go_wp2;go_meet;exact ⟨_,rfl,Qaa (by simp only [Qa2];have e1:(⟨#[32]⟩:ByteArray).size=1:=rfl;have e2:(⟨#[103]⟩:ByteArray).size=1:=rfl;have:=HS.out;have:=ad.out;omega),ab⟩
   ·go_simp
    refine (HU.out _).mono ?_;rintro e Z2 ⟨⟨u0,rfl,ae⟩,hb⟩;have ad:=Qaa ae;have ab:Hid (Below W1.heap.size W1 Z2):=Qac aa hb;have ap:=Qaa (Qae G1 hb);clear hb ae
    try dsimp only
    refine gK hK ab.out ?_
    try simp only [sX]
    refine onE 7 fun K hK=>?_;have gq:=Qai ap 2 rfl;go_simp;clear gq
    try dsimp only
    refine gK hK ab.out ?_
    try simp only [sX]
    refine tkL 8 (.string (s ++ (⟨#[32]⟩:ByteArray) ++ (⟨#[103]⟩:ByteArray))) ab (fun W hW=>?_) ?_
    ·have aj:Op.stringOp .add (s ++ (⟨#[32]⟩:ByteArray)) ((⟨#[103]⟩:ByteArray))=pure (.string (s ++ (⟨#[32]⟩:ByteArray) ++ (⟨#[103]⟩:ByteArray))):=Qaf (by (try simp only [Qa2]);have e1:(⟨#[32]⟩:ByteArray).size=1:=rfl;have e2:(⟨#[103]⟩:ByteArray).size=1:=rfl;have:=HS.out;omega)
     clear hW;go_simp
    refine tkL 9 (.string (s ++ (⟨#[32]⟩:ByteArray) ++ (⟨#[103]⟩:ByteArray) ++ (⟨#[32]⟩:ByteArray))) ab (fun W hW=>?_) ?_
    ·have ah:Op.stringOp .add (s ++ (⟨#[32]⟩:ByteArray) ++ (⟨#[103]⟩:ByteArray)) ((⟨#[32]⟩:ByteArray))=pure (.string (s ++ (⟨#[32]⟩:ByteArray) ++ (⟨#[103]⟩:ByteArray) ++ (⟨#[32]⟩:ByteArray))):=Qaf (by (try simp only [Qa2]);have e1:(⟨#[32]⟩:ByteArray).size=1:=rfl;have e2:(⟨#[103]⟩:ByteArray).size=1:=rfl;have:=HS.out;omega)
     clear hW;go_simp
    refine tkL 13 (.string (s ++ (⟨#[32]⟩:ByteArray) ++ (⟨#[103]⟩:ByteArray) ++ (⟨#[32]⟩:ByteArray) ++ u0)) ab (fun W hW=>?_) ?_
    ·have an:Op.stringOp .add (s ++ (⟨#[32]⟩:ByteArray) ++ (⟨#[103]⟩:ByteArray) ++ (⟨#[32]⟩:ByteArray)) (u0)=pure (.string (s ++ (⟨#[32]⟩:ByteArray) ++ (⟨#[103]⟩:ByteArray) ++ (⟨#[32]⟩:ByteArray) ++ u0)):=Qaf (by (try simp only [Qa2]);have e1:(⟨#[32]⟩:ByteArray).size=1:=rfl;have e2:(⟨#[103]⟩:ByteArray).size=1:=rfl;have:=HS.out;have:=ad.out;omega)
     clear hW;go_simp
    simp only [sX];refine tkL 14 (.string (s ++ (⟨#[32]⟩:ByteArray) ++ (⟨#[103]⟩:ByteArray) ++ (⟨#[32]⟩:ByteArray) ++ u0 ++ (⟨#[32]⟩:ByteArray))) ab (fun W hW=>?_) ?_
    ·have ao:Op.stringOp .add (s ++ (⟨#[32]⟩:ByteArray) ++ (⟨#[103]⟩:ByteArray) ++ (⟨#[32]⟩:ByteArray) ++ u0) ((⟨#[32]⟩:ByteArray))=pure (.string (s ++ (⟨#[32]⟩:ByteArray) ++ (⟨#[103]⟩:ByteArray) ++ (⟨#[32]⟩:ByteArray) ++ u0 ++ (⟨#[32]⟩:ByteArray))):=Qaf (by (try simp only [Qa2]);have e1:(⟨#[32]⟩:ByteArray).size=1:=rfl;have e2:(⟨#[103]⟩:ByteArray).size=1:=rfl;have:=HS.out;have:=ad.out;omega)
     clear hW;go_simp
    simp only [sX];refine onE 15 fun K hK=>?_;go_simp
    try dsimp only
    refine gK hK ab.out ?_;refine dnE ?_ _;go_wp2;go_meet;exact ⟨_,rfl,Qaa (by simp only [Qa2];have e1:(⟨#[32]⟩:ByteArray).size=1:=rfl;have e2:(⟨#[103]⟩:ByteArray).size=1:=rfl;have:=HS.out;have:=ad.out;omega),ab⟩
  ·go_simp
   refine (HU.out _).mono ?_;rintro e Z2 ⟨⟨u0,rfl,ae⟩,hb⟩;have ad:=Qaa ae;have ab:Hid (Below W1.heap.size W1 Z2):=Qac ac hb;clear hb ae
   try dsimp only
   refine gK hK ab.out ?_
   try simp only [sX]
   refine onE 3 fun K hK=>?_;go_simp;have ag:Below W1.heap.size W1 (Z2.alloc (.cells #[.string ⟨#[]⟩,.string ⟨#[99]⟩,.string ⟨#[103]⟩,.string ⟨#[104]⟩,.string ⟨#[115]⟩] 9)):=ab.out.alloc ab.out.size _;have aa:=Qaa ag;have G1:=Qaa (ZZk Z2 (.cells #[.string ⟨#[]⟩,.string ⟨#[99]⟩,.string ⟨#[103]⟩,.string ⟨#[104]⟩,.string ⟨#[115]⟩] 9));have ak:Hid (W1.heap.size<=Z2.heap.size):=ab.out.size;clear ag
   try dsimp only
   refine gK hK aa.out ?_
   try simp only [sX]
   generalize Z2.alloc (.cells #[.string ⟨#[]⟩,.string ⟨#[99]⟩,.string ⟨#[103]⟩,.string ⟨#[104]⟩,.string ⟨#[115]⟩] 9)=Y1 at aa G1 ⊢;generalize Z2.heap.size=g1 at G1 ak ⊢;refine tkL 6 (.pointer (some (⟨g1,2,none⟩:Addr))) aa (fun W hW=>?_) ?_
   ·clear aa
    clear hW;go_simp
   simp only [sX];refine onE 7 fun K hK=>?_;have gq:=Qai G1 2 rfl;go_simp;clear gq
   try dsimp only
   refine gK hK aa.out ?_
   try simp only [sX]
   refine tkL 8 (.string (s ++ (⟨#[32]⟩:ByteArray) ++ (⟨#[103]⟩:ByteArray))) aa (fun W hW=>?_) ?_
   ·have aj:Op.stringOp .add (s ++ (⟨#[32]⟩:ByteArray)) ((⟨#[103]⟩:ByteArray))=pure (.string (s ++ (⟨#[32]⟩:ByteArray) ++ (⟨#[103]⟩:ByteArray))):=Qaf (by (try simp only [Qa2]);have e1:(⟨#[32]⟩:ByteArray).size=1:=rfl;have e2:(⟨#[103]⟩:ByteArray).size=1:=rfl;have:=HS.out;omega)
    clear hW;go_simp
   refine tkL 9 (.string (s ++ (⟨#[32]⟩:ByteArray) ++ (⟨#[103]⟩:ByteArray) ++ (⟨#[32]⟩:ByteArray))) aa (fun W hW=>?_) ?_
   ·have ah:Op.stringOp .add (s ++ (⟨#[32]⟩:ByteArray) ++ (⟨#[103]⟩:ByteArray)) ((⟨#[32]⟩:ByteArray))=pure (.string (s ++ (⟨#[32]⟩:ByteArray) ++ (⟨#[103]⟩:ByteArray) ++ (⟨#[32]⟩:ByteArray))):=Qaf (by (try simp only [Qa2]);have e1:(⟨#[32]⟩:ByteArray).size=1:=rfl;have e2:(⟨#[103]⟩:ByteArray).size=1:=rfl;have:=HS.out;omega)
    clear hW;go_simp
   refine tkL 13 (.string (s ++ (⟨#[32]⟩:ByteArray) ++ (⟨#[103]⟩:ByteArray) ++ (⟨#[32]⟩:ByteArray) ++ u0)) aa (fun W hW=>?_) ?_
   ·have an:Op.stringOp .add (s ++ (⟨#[32]⟩:ByteArray) ++ (⟨#[103]⟩:ByteArray) ++ (⟨#[32]⟩:ByteArray)) (u0)=pure (.string (s ++ (⟨#[32]⟩:ByteArray) ++ (⟨#[103]⟩:ByteArray) ++ (⟨#[32]⟩:ByteArray) ++ u0)):=Qaf (by (try simp only [Qa2]);have e1:(⟨#[32]⟩:ByteArray).size=1:=rfl;have e2:(⟨#[103]⟩:ByteArray).size=1:=rfl;have:=HS.out;have:=ad.out;omega)
    clear hW;go_simp
   simp only [sX];refine tkL 14 (.string (s ++ (⟨#[32]⟩:ByteArray) ++ (⟨#[103]⟩:ByteArray) ++ (⟨#[32]⟩:ByteArray) ++ u0 ++ (⟨#[32]⟩:ByteArray))) aa (fun W hW=>?_) ?_
   ·have ao:Op.stringOp .add (s ++ (⟨#[32]⟩:ByteArray) ++ (⟨#[103]⟩:ByteArray) ++ (⟨#[32]⟩:ByteArray) ++ u0) ((⟨#[32]⟩:ByteArray))=pure (.string (s ++ (⟨#[32]⟩:ByteArray) ++ (⟨#[103]⟩:ByteArray) ++ (⟨#[32]⟩:ByteArray) ++ u0 ++ (⟨#[32]⟩:ByteArray))):=Qaf (by (try simp only [Qa2]);have e1:(⟨#[32]⟩:ByteArray).size=1:=rfl;have e2:(⟨#[103]⟩:ByteArray).size=1:=rfl;have:=HS.out;have:=ad.out;omega)
    clear hW;go_simp
   simp only [sX];refine onE 15 fun K hK=>?_;go_simp
   try dsimp only
   refine gK hK aa.out ?_;refine dnE ?_ _;go_wp2;go_meet;exact ⟨_,rfl,Qaa (by simp only [Qa2];have e1:(⟨#[32]⟩:ByteArray).size=1:=rfl;have e2:(⟨#[103]⟩:ByteArray).size=1:=rfl;have:=HS.out;have:=ad.out;omega),aa⟩
 case rest=>
  clear HS HU;obtain ⟨t1,rfl,HS,HB⟩:=hcut;have HR:=Qaa (Qae KA HB);have HQ:=Qaa (HT.out.past HB);have HW:Hid (Below w.heap.size w wc):=Qac am HB;generalize wc=W2 at HR HQ HW ⊢;clear HB;have q0:=Qai HR 0 rfl;have q4:=Qai HR 4 rfl;have q5:=Qai HR 5 rfl;have ar:ba<W2.heap.size:=(ZZc.1 HR).1;go_upto_region 7 with fail;have C1:=Qaa (Qr2 a);have C2:=Qaa (QuF HQ.out.t.1 HQ.out.t.2)
  go_region_held3 (QqP W2.heap.size W2)
   (refine held ?_ (by simp) <;> first | exact (Below.refl _ _).drew | exact ai)
   (first
    | (go_at_call 34;refine (C1.out _).mono ?_;rintro e w3 ⟨⟨u1,rfl,aw⟩,af⟩;obtain ⟨ai,aq⟩:=Qc8 af ‹QqP _ _ _›; clear af;have au:Op.stringOp .add (t1) (u1)=pure (.string (t1 ++ u1)):=Qaf (by (try simp only [Qa2]);have e1:(⟨#[32]⟩:ByteArray).size=1:=rfl;have e2:(⟨#[103]⟩:ByteArray).size=1:=rfl;have:=HS.out;omega);have aj:Op.stringOp .add (t1 ++ u1) ((⟨#[32]⟩:ByteArray))=pure (.string (t1 ++ u1 ++ (⟨#[32]⟩:ByteArray))):=Qaf (by (try simp only [Qa2]);have e1:(⟨#[32]⟩:ByteArray).size=1:=rfl;have e2:(⟨#[103]⟩:ByteArray).size=1:=rfl;have:=HS.out;omega))
    | (go_at_call 28;refine (C2.out _).mono ?_;rintro e w4 ⟨⟨u2,rfl,ax⟩,af⟩;obtain ⟨ai,aq⟩:=Qc8 af ‹QqP _ _ _›; clear af;have ah:Op.stringOp .add (t1 ++ u1 ++ (⟨#[32]⟩:ByteArray)) (u2)=pure (.string (t1 ++ u1 ++ (⟨#[32]⟩:ByteArray) ++ u2)):=Qaf (by (try simp only [Qa2]);have e1:(⟨#[32]⟩:ByteArray).size=1:=rfl;have e2:(⟨#[103]⟩:ByteArray).size=1:=rfl;have:=HS.out;omega)))
  clear q0 q4 q5;go_wp2;go_ret;exact ⟨⟨_,rfl,by simp only [Qa2];have e1:(⟨#[32]⟩:ByteArray).size=1:=rfl;have e2:(⟨#[103]⟩:ByteArray).size=1:=rfl;have:=HS.out;omega⟩,Qac HW ai⟩
theorem Qtk (hT:CeT w ⟨n,s,⟨3,gs,h,l,a,t,z,P,N,x,y,E,R⟩,p⟩) :
  Calls prog 30 #[.agg (Qas ⟨n,s,⟨3,gs,h,l,a,t,z,P,N,x,y,E,R⟩,p⟩)] w fun e w'=>TxA 12000 e/\Below w.heap.size w w':=by
 have al:∀ (X:World) o,Below X.heap.size X (X.alloc o):=fun X o=>(ZZb _ _).alloc (ZZa _) _;have k0:=ZZk w (.cells (Qas ⟨n,s,⟨3,gs,h,l,a,t,z,P,N,x,y,E,R⟩,p⟩) 92);have k1:=ZZk (w.alloc (.cells (Qas ⟨n,s,⟨3,gs,h,l,a,t,z,P,N,x,y,E,R⟩,p⟩) 92)) (.cells (Qan ⟨3,gs,h,l,a,t,z,P,N,x,y,E,R⟩ p) 90);simp only [World.size_alloc] at k1;have ai:=Qaa (Qac (al w (.cells (Qas ⟨n,s,⟨3,gs,h,l,a,t,z,P,N,x,y,E,R⟩,p⟩) 92)) (al _ (.cells (Qan ⟨3,gs,h,l,a,t,z,P,N,x,y,E,R⟩ p) 90)));have KC:=Qaa (Qae k0 (al _ (.cells (Qan ⟨3,gs,h,l,a,t,z,P,N,x,y,E,R⟩ p) 90)));have KA:=Qaa k1;have HT:=Qaa (hT.past ai);clear al k0 k1 hT;go_enter func30,ntmps30;go_upto_region 2 with fail;generalize (w.alloc (.cells (Qas ⟨n,s,⟨3,gs,h,l,a,t,z,P,N,x,y,E,R⟩,p⟩) 92)).alloc (.cells (Qan ⟨3,gs,h,l,a,t,z,P,N,x,y,E,R⟩ p) 90)=W1 at ai KC KA HT ⊢;generalize w.heap.size+1=ba at KA ⊢;have HS:Hid (s.size<=100):=HT.out.s;have HU:=Qaa (QfT HT.out.u.1)
 go_cut [4] (fun v w'=>∃ t1:ByteArray,v=.string t1/\Hid (t1.size<=200)/\Hid (Below W1.heap.size W1 w'))
 case first=>
  have au:w.heap.size<W1.heap.size:=(ZZc.1 KC).1;have ap:ba<W1.heap.size:=(ZZc.1 KA).1;have aa:Hid (Below W1.heap.size W1 W1.drew):=(ZZb _ _).drew;refine Qao (fun W=>Below W1.heap.size W1 W) 16 (by kernel_rfl) ?_;generalize W1.drew=X0 at aa ⊢;refine tkL 0 (.pointer (some (⟨w.heap.size,1,none⟩:Addr))) aa (fun W hW=>?_) ?_
  ·clear aa
   clear hW;go_simp
  refine tkL 1 (.string s) aa (fun W hW=>?_) ?_
  ·have qr:=Qae KC hW
   have q1:=Qai qr 1 rfl;clear qr;clear hW;go_simp
  refine tkL 2 (.string (s ++ (⟨#[32]⟩:ByteArray))) aa (fun W hW=>?_) ?_
  ·have az:Op.stringOp .add (s) ((⟨#[32]⟩:ByteArray))=pure (.string (s ++ (⟨#[32]⟩:ByteArray))):=Qaf (by (try simp only [Qa2]);have e1:(⟨#[32]⟩:ByteArray).size=1:=rfl;have e2:(⟨#[104]⟩:ByteArray).size=1:=rfl;have:=HS.out;omega)
   clear hW;go_simp
  simp only [sX];refine tkL 4 (.pointer (some (⟨ba,0,none⟩:Addr))) aa (fun W hW=>?_) ?_
  ·clear aa
   clear hW;go_simp
  refine tkL 5 (.int .i64 3) aa (fun W hW=>?_) ?_
  ·have qr:=Qae KA hW
   have q0:=Qai qr 0 rfl;have q1:=Qai qr 1 rfl;clear qr;clear hW;go_simp
  refine tkL 10 (.pointer (some (⟨ba,1,none⟩:Addr))) aa (fun W hW=>?_) ?_
  ·clear aa
   clear hW;go_simp
  simp only [sX];refine tkL 11 (.int .u64 gs) aa (fun W hW=>?_) ?_
  ·have qr:=Qae KA hW
   have q0:=Qai qr 0 rfl;have q1:=Qai qr 1 rfl;clear qr;clear hW;go_simp
  simp only [sX];refine QjV (i:=3) (j:=12) (by kernel_rfl) rfl rfl (fun K hK=>?_) (fun K hK=>?_)
  ·go_simp
   have ag:Below W1.heap.size W1 (X0.alloc (.cells #[.string ⟨#[]⟩,.string ⟨#[99]⟩,.string ⟨#[103]⟩,.string ⟨#[104]⟩,.string ⟨#[115]⟩] 9)):=aa.out.alloc aa.out.size _;have ab:=Qaa ag;have G1:=Qaa (ZZk X0 (.cells #[.string ⟨#[]⟩,.string ⟨#[99]⟩,.string ⟨#[103]⟩,.string ⟨#[104]⟩,.string ⟨#[115]⟩] 9));have ah:Hid (W1.heap.size<=X0.heap.size):=aa.out.size;clear ag
   try dsimp only
   refine gK hK ab.out ?_
   try simp only [sX]
   generalize X0.alloc (.cells #[.string ⟨#[]⟩,.string ⟨#[99]⟩,.string ⟨#[103]⟩,.string ⟨#[104]⟩,.string ⟨#[115]⟩] 9)=Y1 at ab G1 ⊢;generalize X0.heap.size=g1 at G1 ah ⊢;refine tkL 6 (.pointer (some (⟨g1,3,none⟩:Addr))) ab (fun W hW=>?_) ?_
   ·clear ab
    clear hW;go_simp
   simp only [sX];refine QjV (i:=7) (j:=12) (by kernel_rfl) rfl rfl (fun K hK=>?_) (fun K hK=>?_)
   ·have gq:=Qai G1 3 rfl
    go_simp;clear gq
    try dsimp only
    refine gK hK ab.out ?_
    try simp only [sX]
    refine tkL 8 (.string (s ++ (⟨#[32]⟩:ByteArray) ++ (⟨#[104]⟩:ByteArray))) ab (fun W hW=>?_) ?_
    ·have an:Op.stringOp .add (s ++ (⟨#[32]⟩:ByteArray)) ((⟨#[104]⟩:ByteArray))=pure (.string (s ++ (⟨#[32]⟩:ByteArray) ++ (⟨#[104]⟩:ByteArray))):=Qaf (by (try simp only [Qa2]);have e1:(⟨#[32]⟩:ByteArray).size=1:=rfl;have e2:(⟨#[104]⟩:ByteArray).size=1:=rfl;have:=HS.out;omega)
     clear hW;go_simp
    refine tkL 9 (.string (s ++ (⟨#[32]⟩:ByteArray) ++ (⟨#[104]⟩:ByteArray) ++ (⟨#[32]⟩:ByteArray))) ab (fun W hW=>?_) ?_
    ·have aj:Op.stringOp .add (s ++ (⟨#[32]⟩:ByteArray) ++ (⟨#[104]⟩:ByteArray)) ((⟨#[32]⟩:ByteArray))=pure (.string (s ++ (⟨#[32]⟩:ByteArray) ++ (⟨#[104]⟩:ByteArray) ++ (⟨#[32]⟩:ByteArray))):=Qaf (by (try simp only [Qa2]);have e1:(⟨#[32]⟩:ByteArray).size=1:=rfl;have e2:(⟨#[104]⟩:ByteArray).size=1:=rfl;have:=HS.out;omega)
     clear hW;go_simp
    simp only [sX];refine onE 12 fun K hK=>?_;go_simp;refine (HU.out _).mono ?_;rintro e Z2 ⟨⟨u0,rfl,af⟩,hb⟩;have ae:=Qaa af;have ac:Hid (Below W1.heap.size W1 Z2):=Qac ab hb;clear hb af
    try dsimp only
    refine gK hK ac.out ?_
    try simp only [sX]
    refine tkL 13 (.string (s ++ (⟨#[32]⟩:ByteArray) ++ (⟨#[104]⟩:ByteArray) ++ (⟨#[32]⟩:ByteArray) ++ u0)) ac (fun W hW=>?_) ?_
    ·have ak:Op.stringOp .add (s ++ (⟨#[32]⟩:ByteArray) ++ (⟨#[104]⟩:ByteArray) ++ (⟨#[32]⟩:ByteArray)) (u0)=pure (.string (s ++ (⟨#[32]⟩:ByteArray) ++ (⟨#[104]⟩:ByteArray) ++ (⟨#[32]⟩:ByteArray) ++ u0)):=Qaf (by (try simp only [Qa2]);have e1:(⟨#[32]⟩:ByteArray).size=1:=rfl;have e2:(⟨#[104]⟩:ByteArray).size=1:=rfl;have:=HS.out;have:=ae.out;omega)
     clear hW;go_simp
    refine tkL 14 (.string (s ++ (⟨#[32]⟩:ByteArray) ++ (⟨#[104]⟩:ByteArray) ++ (⟨#[32]⟩:ByteArray) ++ u0 ++ (⟨#[32]⟩:ByteArray))) ac (fun W hW=>?_) ?_
    ·have ao:Op.stringOp .add (s ++ (⟨#[32]⟩:ByteArray) ++ (⟨#[104]⟩:ByteArray) ++ (⟨#[32]⟩:ByteArray) ++ u0) ((⟨#[32]⟩:ByteArray))=pure (.string (s ++ (⟨#[32]⟩:ByteArray) ++ (⟨#[104]⟩:ByteArray) ++ (⟨#[32]⟩:ByteArray) ++ u0 ++ (⟨#[32]⟩:ByteArray))):=Qaf (by (try simp only [Qa2]);have e1:(⟨#[32]⟩:ByteArray).size=1:=rfl;have e2:(⟨#[104]⟩:ByteArray).size=1:=rfl;have:=HS.out;have:=ae.out;omega)
     clear hW;go_simp
    simp only [sX];refine onE 15 fun K hK=>?_;go_simp
    try dsimp only
    refine gK hK ac.out ?_;refine dnE ?_ _;go_wp2;go_meet;exact ⟨_,rfl,Qaa (by simp only [Qa2];have e1:(⟨#[32]⟩:ByteArray).size=1:=rfl;have e2:(⟨#[104]⟩:ByteArray).size=1:=rfl;have:=HS.out;have:=ae.out;omega),ac⟩
   ·go_simp
    refine (HU.out _).mono ?_;rintro e Z2 ⟨⟨u0,rfl,af⟩,hb⟩;have ae:=Qaa af;have ac:Hid (Below W1.heap.size W1 Z2):=Qac ab hb;have ar:=Qaa (Qae G1 hb);clear hb af
    try dsimp only
    refine gK hK ac.out ?_
    try simp only [sX]
    refine onE 7 fun K hK=>?_;have gq:=Qai ar 3 rfl;go_simp;clear gq
    try dsimp only
    refine gK hK ac.out ?_
    try simp only [sX]
    refine tkL 8 (.string (s ++ (⟨#[32]⟩:ByteArray) ++ (⟨#[104]⟩:ByteArray))) ac (fun W hW=>?_) ?_
    ·have an:Op.stringOp .add (s ++ (⟨#[32]⟩:ByteArray)) ((⟨#[104]⟩:ByteArray))=pure (.string (s ++ (⟨#[32]⟩:ByteArray) ++ (⟨#[104]⟩:ByteArray))):=Qaf (by (try simp only [Qa2]);have e1:(⟨#[32]⟩:ByteArray).size=1:=rfl;have e2:(⟨#[104]⟩:ByteArray).size=1:=rfl;have:=HS.out;omega)
     clear hW;go_simp
    refine tkL 9 (.string (s ++ (⟨#[32]⟩:ByteArray) ++ (⟨#[104]⟩:ByteArray) ++ (⟨#[32]⟩:ByteArray))) ac (fun W hW=>?_) ?_
    ·have aj:Op.stringOp .add (s ++ (⟨#[32]⟩:ByteArray) ++ (⟨#[104]⟩:ByteArray)) ((⟨#[32]⟩:ByteArray))=pure (.string (s ++ (⟨#[32]⟩:ByteArray) ++ (⟨#[104]⟩:ByteArray) ++ (⟨#[32]⟩:ByteArray))):=Qaf (by (try simp only [Qa2]);have e1:(⟨#[32]⟩:ByteArray).size=1:=rfl;have e2:(⟨#[104]⟩:ByteArray).size=1:=rfl;have:=HS.out;omega)
     clear hW;go_simp
    refine tkL 13 (.string (s ++ (⟨#[32]⟩:ByteArray) ++ (⟨#[104]⟩:ByteArray) ++ (⟨#[32]⟩:ByteArray) ++ u0)) ac (fun W hW=>?_) ?_
    ·have ak:Op.stringOp .add (s ++ (⟨#[32]⟩:ByteArray) ++ (⟨#[104]⟩:ByteArray) ++ (⟨#[32]⟩:ByteArray)) (u0)=pure (.string (s ++ (⟨#[32]⟩:ByteArray) ++ (⟨#[104]⟩:ByteArray) ++ (⟨#[32]⟩:ByteArray) ++ u0)):=Qaf (by (try simp only [Qa2]);have e1:(⟨#[32]⟩:ByteArray).size=1:=rfl;have e2:(⟨#[104]⟩:ByteArray).size=1:=rfl;have:=HS.out;have:=ae.out;omega)
     clear hW;go_simp
    simp only [sX];refine tkL 14 (.string (s ++ (⟨#[32]⟩:ByteArray) ++ (⟨#[104]⟩:ByteArray) ++ (⟨#[32]⟩:ByteArray) ++ u0 ++ (⟨#[32]⟩:ByteArray))) ac (fun W hW=>?_) ?_
    ·have ao:Op.stringOp .add (s ++ (⟨#[32]⟩:ByteArray) ++ (⟨#[104]⟩:ByteArray) ++ (⟨#[32]⟩:ByteArray) ++ u0) ((⟨#[32]⟩:ByteArray))=pure (.string (s ++ (⟨#[32]⟩:ByteArray) ++ (⟨#[104]⟩:ByteArray) ++ (⟨#[32]⟩:ByteArray) ++ u0 ++ (⟨#[32]⟩:ByteArray))):=Qaf (by (try simp only [Qa2]);have e1:(⟨#[32]⟩:ByteArray).size=1:=rfl;have e2:(⟨#[104]⟩:ByteArray).size=1:=rfl;have:=HS.out;have:=ae.out;omega)
     clear hW;go_simp
    simp only [sX];refine onE 15 fun K hK=>?_;go_simp
    try dsimp only
    refine gK hK ac.out ?_;refine dnE ?_ _;go_wp2;go_meet;exact ⟨_,rfl,Qaa (by simp only [Qa2];have e1:(⟨#[32]⟩:ByteArray).size=1:=rfl;have e2:(⟨#[104]⟩:ByteArray).size=1:=rfl;have:=HS.out;have:=ae.out;omega),ac⟩
  ·go_simp
   refine (HU.out _).mono ?_;rintro e Z2 ⟨⟨u0,rfl,af⟩,hb⟩;have ae:=Qaa af;have ac:Hid (Below W1.heap.size W1 Z2):=Qac aa hb;clear hb af
   try dsimp only
   refine gK hK ac.out ?_
   try simp only [sX]
   refine onE 3 fun K hK=>?_;go_simp;have ag:Below W1.heap.size W1 (Z2.alloc (.cells #[.string ⟨#[]⟩,.string ⟨#[99]⟩,.string ⟨#[103]⟩,.string ⟨#[104]⟩,.string ⟨#[115]⟩] 9)):=ac.out.alloc ac.out.size _;have ab:=Qaa ag;have G1:=Qaa (ZZk Z2 (.cells #[.string ⟨#[]⟩,.string ⟨#[99]⟩,.string ⟨#[103]⟩,.string ⟨#[104]⟩,.string ⟨#[115]⟩] 9));have ah:Hid (W1.heap.size<=Z2.heap.size):=ac.out.size;clear ag
   try dsimp only
   refine gK hK ab.out ?_
   try simp only [sX]
   generalize Z2.alloc (.cells #[.string ⟨#[]⟩,.string ⟨#[99]⟩,.string ⟨#[103]⟩,.string ⟨#[104]⟩,.string ⟨#[115]⟩] 9)=Y1 at ab G1 ⊢;generalize Z2.heap.size=g1 at G1 ah ⊢;refine tkL 6 (.pointer (some (⟨g1,3,none⟩:Addr))) ab (fun W hW=>?_) ?_
   ·clear ab
    clear hW;go_simp
   simp only [sX];refine onE 7 fun K hK=>?_;have gq:=Qai G1 3 rfl;go_simp;clear gq
   try dsimp only
   refine gK hK ab.out ?_
   try simp only [sX]
   refine tkL 8 (.string (s ++ (⟨#[32]⟩:ByteArray) ++ (⟨#[104]⟩:ByteArray))) ab (fun W hW=>?_) ?_
   ·have an:Op.stringOp .add (s ++ (⟨#[32]⟩:ByteArray)) ((⟨#[104]⟩:ByteArray))=pure (.string (s ++ (⟨#[32]⟩:ByteArray) ++ (⟨#[104]⟩:ByteArray))):=Qaf (by (try simp only [Qa2]);have e1:(⟨#[32]⟩:ByteArray).size=1:=rfl;have e2:(⟨#[104]⟩:ByteArray).size=1:=rfl;have:=HS.out;omega)
    clear hW;go_simp
   refine tkL 9 (.string (s ++ (⟨#[32]⟩:ByteArray) ++ (⟨#[104]⟩:ByteArray) ++ (⟨#[32]⟩:ByteArray))) ab (fun W hW=>?_) ?_
   ·have aj:Op.stringOp .add (s ++ (⟨#[32]⟩:ByteArray) ++ (⟨#[104]⟩:ByteArray)) ((⟨#[32]⟩:ByteArray))=pure (.string (s ++ (⟨#[32]⟩:ByteArray) ++ (⟨#[104]⟩:ByteArray) ++ (⟨#[32]⟩:ByteArray))):=Qaf (by (try simp only [Qa2]);have e1:(⟨#[32]⟩:ByteArray).size=1:=rfl;have e2:(⟨#[104]⟩:ByteArray).size=1:=rfl;have:=HS.out;omega)
    clear hW;go_simp
   refine tkL 13 (.string (s ++ (⟨#[32]⟩:ByteArray) ++ (⟨#[104]⟩:ByteArray) ++ (⟨#[32]⟩:ByteArray) ++ u0)) ab (fun W hW=>?_) ?_
   ·have ak:Op.stringOp .add (s ++ (⟨#[32]⟩:ByteArray) ++ (⟨#[104]⟩:ByteArray) ++ (⟨#[32]⟩:ByteArray)) (u0)=pure (.string (s ++ (⟨#[32]⟩:ByteArray) ++ (⟨#[104]⟩:ByteArray) ++ (⟨#[32]⟩:ByteArray) ++ u0)):=Qaf (by (try simp only [Qa2]);have e1:(⟨#[32]⟩:ByteArray).size=1:=rfl;have e2:(⟨#[104]⟩:ByteArray).size=1:=rfl;have:=HS.out;have:=ae.out;omega)
    clear hW;go_simp
   simp only [sX];refine tkL 14 (.string (s ++ (⟨#[32]⟩:ByteArray) ++ (⟨#[104]⟩:ByteArray) ++ (⟨#[32]⟩:ByteArray) ++ u0 ++ (⟨#[32]⟩:ByteArray))) ab (fun W hW=>?_) ?_
   ·have ao:Op.stringOp .add (s ++ (⟨#[32]⟩:ByteArray) ++ (⟨#[104]⟩:ByteArray) ++ (⟨#[32]⟩:ByteArray) ++ u0) ((⟨#[32]⟩:ByteArray))=pure (.string (s ++ (⟨#[32]⟩:ByteArray) ++ (⟨#[104]⟩:ByteArray) ++ (⟨#[32]⟩:ByteArray) ++ u0 ++ (⟨#[32]⟩:ByteArray))):=Qaf (by (try simp only [Qa2]);have e1:(⟨#[32]⟩:ByteArray).size=1:=rfl;have e2:(⟨#[104]⟩:ByteArray).size=1:=rfl;have:=HS.out;have:=ae.out;omega)
    clear hW;go_simp
   simp only [sX];refine onE 15 fun K hK=>?_;go_simp
   try dsimp only
   refine gK hK ab.out ?_;refine dnE ?_ _;go_wp2;go_meet;exact ⟨_,rfl,Qaa (by simp only [Qa2];have e1:(⟨#[32]⟩:ByteArray).size=1:=rfl;have e2:(⟨#[104]⟩:ByteArray).size=1:=rfl;have:=HS.out;have:=ae.out;omega),ab⟩
 case rest=>
  clear HS HU;obtain ⟨t1,rfl,HS,HB⟩:=hcut;have HR:=Qaa (Qae KA HB);have HQ:=Qaa (HT.out.past HB);have HW:Hid (Below w.heap.size w wc):=Qac ai HB;generalize wc=W2 at HR HQ HW ⊢;clear HB;have q0:=Qai HR 0 rfl;have q6:=Qai HR 6 rfl;have q7:=Qai HR 7 rfl;have q8:=Qai HR 8 rfl;have q9:=Qai HR 9 rfl;have am:=Qai HR 10 rfl;have ap:ba<W2.heap.size:=(ZZc.1 HR).1;go_upto_region 9 with fail;have C1:=Qaa (QfT HQ.out.u.2);have C2:=Qaa (fun X (hb:Below W2.heap.size W2 X)=>QjF (pc:=p.pc) (rfl:P.length=P.length) HQ.out.P.1 (Qak HQ.out.A.P hb) HQ.out.P.2);have C3:=Qaa (fun X (hb:Below W2.heap.size W2 X)=>QjF (pc:=p.nc) (rfl:N.length=N.length) HQ.out.N.1 (Qak HQ.out.A.N hb) HQ.out.N.2);have C4:=Qaa (Qkp HQ.out.h.2.2.1 HQ.out.h.2.2.2);clear q0 q6 q7 q8 q9 am ap;have aa:Hid (Below W2.heap.size W2 W2.drew):=(ZZb _ _).drew;refine Qao (fun W=>Below W2.heap.size W2 W) 25 (by kernel_rfl) ?_;generalize W2.drew=X0 at aa ⊢;refine tkL 0 (.string t1) aa (fun W hW=>?_) ?_
  ·clear aa
   clear hW;go_simp
  refine tkL 1 (.pointer (some (⟨ba,6,none⟩:Addr))) aa (fun W hW=>?_) ?_
  ·clear aa
   clear hW;go_simp
  refine tkL 2 (.pointer (some (⟨ba,6,none⟩:Addr))) aa (fun W hW=>?_) ?_
  ·clear aa
   clear hW;go_simp
  simp only [sX];refine tkL 3 (.int .u64 z) aa (fun W hW=>?_) ?_
  ·have qr:=Qae HR hW
   have q6:=Qai qr 6 rfl;clear qr;clear hW;go_simp
  refine tkL 7 (.pointer (some (⟨ba,6,none⟩:Addr))) aa (fun W hW=>?_) ?_
  ·clear aa
   clear hW;go_simp
  refine tkL 8 (.pointer (some (⟨ba,7,none⟩:Addr))) aa (fun W hW=>?_) ?_
  ·clear aa
   clear hW;go_simp
  simp only [sX];refine tkL 9 (.slice p.pa P.length p.pc) aa (fun W hW=>?_) ?_
  ·have qr:=Qae HR hW
   have q7:=Qai qr 7 rfl;clear qr;clear hW;go_simp
  refine tkL 13 (.pointer (some (⟨ba,6,none⟩:Addr))) aa (fun W hW=>?_) ?_
  ·clear aa
   clear hW;go_simp
  refine tkL 14 (.pointer (some (⟨ba,8,none⟩:Addr))) aa (fun W hW=>?_) ?_
  ·clear aa
   clear hW;go_simp
  simp only [sX];refine tkL 15 (.slice p.na N.length p.nc) aa (fun W hW=>?_) ?_
  ·have qr:=Qae HR hW
   have q8:=Qai qr 8 rfl;clear qr;clear hW;go_simp
  refine tkL 19 (.pointer (some (⟨ba,6,none⟩:Addr))) aa (fun W hW=>?_) ?_
  ·clear aa
   clear hW;go_simp
  refine tkL 20 (.pointer (some (⟨ba,9,none⟩:Addr))) aa (fun W hW=>?_) ?_
  ·clear aa
   clear hW;go_simp
  simp only [sX];refine tkL 21 (.agg #[.int .i64 x,.int .u64 y]) aa (fun W hW=>?_) ?_
  ·have qr:=Qae HR hW
   have q9:=Qai qr 9 rfl;have am:=Qai qr 10 rfl;clear qr;clear hW;go_simp
  simp only [sX];refine onE 4 fun K hK=>?_;go_simp;refine (C1.out _).mono ?_;rintro e Z1 ⟨⟨u1,rfl,hu⟩,hb⟩;have V1:=Qaa hu;have S1:Hid (Below W2.heap.size W2 Z1):=Qac aa hb;clear hb hu
  try dsimp only
  refine gK hK S1.out ?_
  try simp only [sX]
  refine tkL 5 (.string (t1 ++ u1)) S1 (fun W hW=>?_) ?_
  ·have ad:Op.stringOp .add (t1) (u1)=pure (.string (t1 ++ u1)):=Qaf (by (try simp only [Qa2]);have e1:(⟨#[32]⟩:ByteArray).size=1:=rfl;have e2:(⟨#[104]⟩:ByteArray).size=1:=rfl;have:=V1.out;have:=HS.out;omega)
   clear hW;go_simp
  refine tkL 6 (.string (t1 ++ u1 ++ (⟨#[32]⟩:ByteArray))) S1 (fun W hW=>?_) ?_
  ·have ad:Op.stringOp .add (t1 ++ u1) ((⟨#[32]⟩:ByteArray))=pure (.string (t1 ++ u1 ++ (⟨#[32]⟩:ByteArray))):=Qaf (by (try simp only [Qa2]);have e1:(⟨#[32]⟩:ByteArray).size=1:=rfl;have e2:(⟨#[104]⟩:ByteArray).size=1:=rfl;have:=V1.out;have:=HS.out;omega)
   clear hW;go_simp
  simp only [sX];refine onE 10 fun K hK=>?_;go_simp;refine (C2.out _ S1).mono ?_;rintro e Z2 ⟨⟨u2,rfl,hu⟩,hb⟩;have V2:=Qaa hu;have S2:Hid (Below W2.heap.size W2 Z2):=Qac S1 hb;clear hb hu
  try dsimp only
  refine gK hK S2.out ?_
  try simp only [sX]
  refine tkL 11 (.string (t1 ++ u1 ++ (⟨#[32]⟩:ByteArray) ++ u2)) S2 (fun W hW=>?_) ?_
  ·have ad:Op.stringOp .add (t1 ++ u1 ++ (⟨#[32]⟩:ByteArray)) (u2)=pure (.string (t1 ++ u1 ++ (⟨#[32]⟩:ByteArray) ++ u2)):=Qaf (by (try simp only [Qa2]);have e1:(⟨#[32]⟩:ByteArray).size=1:=rfl;have e2:(⟨#[104]⟩:ByteArray).size=1:=rfl;have:=V1.out;have:=V2.out;have:=HS.out;omega)
   clear hW;go_simp
  refine tkL 12 (.string (t1 ++ u1 ++ (⟨#[32]⟩:ByteArray) ++ u2 ++ (⟨#[32]⟩:ByteArray))) S2 (fun W hW=>?_) ?_
  ·have ad:Op.stringOp .add (t1 ++ u1 ++ (⟨#[32]⟩:ByteArray) ++ u2) ((⟨#[32]⟩:ByteArray))=pure (.string (t1 ++ u1 ++ (⟨#[32]⟩:ByteArray) ++ u2 ++ (⟨#[32]⟩:ByteArray))):=Qaf (by (try simp only [Qa2]);have e1:(⟨#[32]⟩:ByteArray).size=1:=rfl;have e2:(⟨#[104]⟩:ByteArray).size=1:=rfl;have:=V1.out;have:=V2.out;have:=HS.out;omega)
   clear hW;go_simp
  simp only [sX];refine onE 16 fun K hK=>?_;go_simp;refine (C3.out _ S2).mono ?_;rintro e Z3 ⟨⟨u3,rfl,hu⟩,hb⟩;have V3:=Qaa hu;have S3:Hid (Below W2.heap.size W2 Z3):=Qac S2 hb;clear hb hu
  try dsimp only
  refine gK hK S3.out ?_
  try simp only [sX]
  refine tkL 17 (.string (t1 ++ u1 ++ (⟨#[32]⟩:ByteArray) ++ u2 ++ (⟨#[32]⟩:ByteArray) ++ u3)) S3 (fun W hW=>?_) ?_
  ·have ad:Op.stringOp .add (t1 ++ u1 ++ (⟨#[32]⟩:ByteArray) ++ u2 ++ (⟨#[32]⟩:ByteArray)) (u3)=pure (.string (t1 ++ u1 ++ (⟨#[32]⟩:ByteArray) ++ u2 ++ (⟨#[32]⟩:ByteArray) ++ u3)):=Qaf (by (try simp only [Qa2]);have e1:(⟨#[32]⟩:ByteArray).size=1:=rfl;have e2:(⟨#[104]⟩:ByteArray).size=1:=rfl;have:=V1.out;have:=V2.out;have:=V3.out;have:=HS.out;omega)
   clear hW;go_simp
  refine tkL 18 (.string (t1 ++ u1 ++ (⟨#[32]⟩:ByteArray) ++ u2 ++ (⟨#[32]⟩:ByteArray) ++ u3 ++ (⟨#[32]⟩:ByteArray))) S3 (fun W hW=>?_) ?_
  ·have ad:Op.stringOp .add (t1 ++ u1 ++ (⟨#[32]⟩:ByteArray) ++ u2 ++ (⟨#[32]⟩:ByteArray) ++ u3) ((⟨#[32]⟩:ByteArray))=pure (.string (t1 ++ u1 ++ (⟨#[32]⟩:ByteArray) ++ u2 ++ (⟨#[32]⟩:ByteArray) ++ u3 ++ (⟨#[32]⟩:ByteArray))):=Qaf (by (try simp only [Qa2]);have e1:(⟨#[32]⟩:ByteArray).size=1:=rfl;have e2:(⟨#[104]⟩:ByteArray).size=1:=rfl;have:=V1.out;have:=V2.out;have:=V3.out;have:=HS.out;omega)
   clear hW;go_simp
  simp only [sX];refine onE 22 fun K hK=>?_;go_simp;refine (C4.out _).mono ?_;rintro e Z4 ⟨⟨u4,rfl,hu⟩,hb⟩;have V4:=Qaa hu;have S4:Hid (Below W2.heap.size W2 Z4):=Qac S3 hb;clear hb hu
  try dsimp only
  refine gK hK S4.out ?_
  try simp only [sX]
  refine tkL 23 (.string (t1 ++ u1 ++ (⟨#[32]⟩:ByteArray) ++ u2 ++ (⟨#[32]⟩:ByteArray) ++ u3 ++ (⟨#[32]⟩:ByteArray) ++ u4)) S4 (fun W hW=>?_) ?_
  ·have ad:Op.stringOp .add (t1 ++ u1 ++ (⟨#[32]⟩:ByteArray) ++ u2 ++ (⟨#[32]⟩:ByteArray) ++ u3 ++ (⟨#[32]⟩:ByteArray)) (u4)=pure (.string (t1 ++ u1 ++ (⟨#[32]⟩:ByteArray) ++ u2 ++ (⟨#[32]⟩:ByteArray) ++ u3 ++ (⟨#[32]⟩:ByteArray) ++ u4)):=Qaf (by (try simp only [Qa2]);have e1:(⟨#[32]⟩:ByteArray).size=1:=rfl;have e2:(⟨#[104]⟩:ByteArray).size=1:=rfl;have:=V1.out;have:=V2.out;have:=V3.out;have:=V4.out;have:=HS.out;omega)
   clear hW;go_simp
  simp only [sX];refine onE 24 fun K hK=>?_;go_simp
  try dsimp only
  refine gK hK S4.out ?_
  try simp only [sX]
  refine dnE ?_ _;have aq:=S4.out;have av:=V1.out;have ay:=V2.out;have ax:=V3.out;have aw:=V4.out;have qk:=HR.out;clear qk;go_wp2;go_ret;exact ⟨⟨_,rfl,by simp only [Qa2];have e1:(⟨#[32]⟩:ByteArray).size=1:=rfl;have e2:(⟨#[104]⟩:ByteArray).size=1:=rfl;have:=HS.out;omega⟩,Qac HW aq⟩
theorem Qua (hT:CeT w ⟨n,s,⟨4,gs,h,l,a,t,z,P,N,x,y,E,R⟩,p⟩) :
  Calls prog 30 #[.agg (Qas ⟨n,s,⟨4,gs,h,l,a,t,z,P,N,x,y,E,R⟩,p⟩)] w fun e w'=>TxA 12000 e/\Below w.heap.size w w':=by
 have al:∀ (X:World) o,Below X.heap.size X (X.alloc o):=fun X o=>(ZZb _ _).alloc (ZZa _) _;have k0:=ZZk w (.cells (Qas ⟨n,s,⟨4,gs,h,l,a,t,z,P,N,x,y,E,R⟩,p⟩) 92);have k1:=ZZk (w.alloc (.cells (Qas ⟨n,s,⟨4,gs,h,l,a,t,z,P,N,x,y,E,R⟩,p⟩) 92)) (.cells (Qan ⟨4,gs,h,l,a,t,z,P,N,x,y,E,R⟩ p) 90);simp only [World.size_alloc] at k1;have ah:=Qaa (Qac (al w (.cells (Qas ⟨n,s,⟨4,gs,h,l,a,t,z,P,N,x,y,E,R⟩,p⟩) 92)) (al _ (.cells (Qan ⟨4,gs,h,l,a,t,z,P,N,x,y,E,R⟩ p) 90)));have KC:=Qaa (Qae k0 (al _ (.cells (Qan ⟨4,gs,h,l,a,t,z,P,N,x,y,E,R⟩ p) 90)));have KA:=Qaa k1;have HT:=Qaa (hT.past ah);clear al k0 k1 hT;go_enter func30,ntmps30;go_upto_region 2 with fail;generalize (w.alloc (.cells (Qas ⟨n,s,⟨4,gs,h,l,a,t,z,P,N,x,y,E,R⟩,p⟩) 92)).alloc (.cells (Qan ⟨4,gs,h,l,a,t,z,P,N,x,y,E,R⟩ p) 90)=W1 at ah KC KA HT ⊢;generalize w.heap.size+1=ba at KA ⊢;have HS:Hid (s.size<=100):=HT.out.s;have HU:=Qaa (QfT HT.out.u.1)
 go_cut [4] (fun v w'=>∃ t1:ByteArray,v=.string t1/\Hid (t1.size<=200)/\Hid (Below W1.heap.size W1 w'))
 case first=>
  have ar:w.heap.size<W1.heap.size:=(ZZc.1 KC).1;have av:ba<W1.heap.size:=(ZZc.1 KA).1;have ac:Hid (Below W1.heap.size W1 W1.drew):=(ZZb _ _).drew;refine Qao (fun W=>Below W1.heap.size W1 W) 16 (by kernel_rfl) ?_;generalize W1.drew=X0 at ac ⊢;refine tkL 0 (.pointer (some (⟨w.heap.size,1,none⟩:Addr))) ac (fun W hW=>?_) ?_
  ·clear ac
   clear hW;go_simp
  refine tkL 1 (.string s) ac (fun W hW=>?_) ?_
  ·have qr:=Qae KC hW
   have q1:=Qai qr 1 rfl;clear qr;clear hW;go_simp
  refine tkL 2 (.string (s ++ (⟨#[32]⟩:ByteArray))) ac (fun W hW=>?_) ?_
  ·have aq:Op.stringOp .add (s) ((⟨#[32]⟩:ByteArray))=pure (.string (s ++ (⟨#[32]⟩:ByteArray))):=Qaf (by (try simp only [Qa2]);have e1:(⟨#[32]⟩:ByteArray).size=1:=rfl;have e2:(⟨#[115]⟩:ByteArray).size=1:=rfl;have:=HS.out;omega)
   clear hW;go_simp
  simp only [sX];refine tkL 4 (.pointer (some (⟨ba,0,none⟩:Addr))) ac (fun W hW=>?_) ?_
  ·clear ac
   clear hW;go_simp
  refine tkL 5 (.int .i64 4) ac (fun W hW=>?_) ?_
  ·have qr:=Qae KA hW
   have q0:=Qai qr 0 rfl;have q1:=Qai qr 1 rfl;clear qr;clear hW;go_simp
  refine tkL 10 (.pointer (some (⟨ba,1,none⟩:Addr))) ac (fun W hW=>?_) ?_
  ·clear ac
   clear hW;go_simp
  simp only [sX];refine tkL 11 (.int .u64 gs) ac (fun W hW=>?_) ?_
  ·have qr:=Qae KA hW
   have q0:=Qai qr 0 rfl;have q1:=Qai qr 1 rfl;clear qr;clear hW;go_simp
  simp only [sX];refine QjV (i:=3) (j:=12) (by kernel_rfl) rfl rfl (fun K hK=>?_) (fun K hK=>?_)
  ·go_simp
   have af:Below W1.heap.size W1 (X0.alloc (.cells #[.string ⟨#[]⟩,.string ⟨#[99]⟩,.string ⟨#[103]⟩,.string ⟨#[104]⟩,.string ⟨#[115]⟩] 9)):=ac.out.alloc ac.out.size _;have aa:=Qaa af;have G1:=Qaa (ZZk X0 (.cells #[.string ⟨#[]⟩,.string ⟨#[99]⟩,.string ⟨#[103]⟩,.string ⟨#[104]⟩,.string ⟨#[115]⟩] 9));have ag:Hid (W1.heap.size<=X0.heap.size):=ac.out.size;clear af
   try dsimp only
   refine gK hK aa.out ?_
   try simp only [sX]
   generalize X0.alloc (.cells #[.string ⟨#[]⟩,.string ⟨#[99]⟩,.string ⟨#[103]⟩,.string ⟨#[104]⟩,.string ⟨#[115]⟩] 9)=Y1 at aa G1 ⊢;generalize X0.heap.size=g1 at G1 ag ⊢;refine tkL 6 (.pointer (some (⟨g1,4,none⟩:Addr))) aa (fun W hW=>?_) ?_
   ·clear aa
    clear hW;go_simp
   simp only [sX];refine QjV (i:=7) (j:=12) (by kernel_rfl) rfl rfl (fun K hK=>?_) (fun K hK=>?_)
   ·have gq:=Qai G1 4 rfl
    go_simp;clear gq
    try dsimp only
    refine gK hK aa.out ?_
    try simp only [sX]
    refine tkL 8 (.string (s ++ (⟨#[32]⟩:ByteArray) ++ (⟨#[115]⟩:ByteArray))) aa (fun W hW=>?_) ?_
    ·have ak:Op.stringOp .add (s ++ (⟨#[32]⟩:ByteArray)) ((⟨#[115]⟩:ByteArray))=pure (.string (s ++ (⟨#[32]⟩:ByteArray) ++ (⟨#[115]⟩:ByteArray))):=Qaf (by (try simp only [Qa2]);have e1:(⟨#[32]⟩:ByteArray).size=1:=rfl;have e2:(⟨#[115]⟩:ByteArray).size=1:=rfl;have:=HS.out;omega)
     clear hW;go_simp
    refine tkL 9 (.string (s ++ (⟨#[32]⟩:ByteArray) ++ (⟨#[115]⟩:ByteArray) ++ (⟨#[32]⟩:ByteArray))) aa (fun W hW=>?_) ?_
    ·have ai:Op.stringOp .add (s ++ (⟨#[32]⟩:ByteArray) ++ (⟨#[115]⟩:ByteArray)) ((⟨#[32]⟩:ByteArray))=pure (.string (s ++ (⟨#[32]⟩:ByteArray) ++ (⟨#[115]⟩:ByteArray) ++ (⟨#[32]⟩:ByteArray))):=Qaf (by (try simp only [Qa2]);have e1:(⟨#[32]⟩:ByteArray).size=1:=rfl;have e2:(⟨#[115]⟩:ByteArray).size=1:=rfl;have:=HS.out;omega)
     clear hW;go_simp
    simp only [sX];refine onE 12 fun K hK=>?_;go_simp;refine (HU.out _).mono ?_;rintro e Z2 ⟨⟨u0,rfl,ae⟩,hb⟩;have ad:=Qaa ae;have ab:Hid (Below W1.heap.size W1 Z2):=Qac aa hb;clear hb ae
    try dsimp only
    refine gK hK ab.out ?_
    try simp only [sX]
    refine tkL 13 (.string (s ++ (⟨#[32]⟩:ByteArray) ++ (⟨#[115]⟩:ByteArray) ++ (⟨#[32]⟩:ByteArray) ++ u0)) ab (fun W hW=>?_) ?_
    ·have aj:Op.stringOp .add (s ++ (⟨#[32]⟩:ByteArray) ++ (⟨#[115]⟩:ByteArray) ++ (⟨#[32]⟩:ByteArray)) (u0)=pure (.string (s ++ (⟨#[32]⟩:ByteArray) ++ (⟨#[115]⟩:ByteArray) ++ (⟨#[32]⟩:ByteArray) ++ u0)):=Qaf (by (try simp only [Qa2]);have e1:(⟨#[32]⟩:ByteArray).size=1:=rfl;have e2:(⟨#[115]⟩:ByteArray).size=1:=rfl;have:=HS.out;have:=ad.out;omega)
     clear hW;go_simp
    refine tkL 14 (.string (s ++ (⟨#[32]⟩:ByteArray) ++ (⟨#[115]⟩:ByteArray) ++ (⟨#[32]⟩:ByteArray) ++ u0 ++ (⟨#[32]⟩:ByteArray))) ab (fun W hW=>?_) ?_
    ·have am:Op.stringOp .add (s ++ (⟨#[32]⟩:ByteArray) ++ (⟨#[115]⟩:ByteArray) ++ (⟨#[32]⟩:ByteArray) ++ u0) ((⟨#[32]⟩:ByteArray))=pure (.string (s ++ (⟨#[32]⟩:ByteArray) ++ (⟨#[115]⟩:ByteArray) ++ (⟨#[32]⟩:ByteArray) ++ u0 ++ (⟨#[32]⟩:ByteArray))):=Qaf (by (try simp only [Qa2]);have e1:(⟨#[32]⟩:ByteArray).size=1:=rfl;have e2:(⟨#[115]⟩:ByteArray).size=1:=rfl;have:=HS.out;have:=ad.out;omega)
     clear hW;go_simp
    simp only [sX];refine onE 15 fun K hK=>?_;go_simp
    try dsimp only
    refine gK hK ab.out ?_;refine dnE ?_ _;go_wp2;go_meet;exact ⟨_,rfl,Qaa (by simp only [Qa2];have e1:(⟨#[32]⟩:ByteArray).size=1:=rfl;have e2:(⟨#[115]⟩:ByteArray).size=1:=rfl;have:=HS.out;have:=ad.out;omega),ab⟩
   ·go_simp
    refine (HU.out _).mono ?_;rintro e Z2 ⟨⟨u0,rfl,ae⟩,hb⟩;have ad:=Qaa ae;have ab:Hid (Below W1.heap.size W1 Z2):=Qac aa hb;have ao:=Qaa (Qae G1 hb);clear hb ae
    try dsimp only
    refine gK hK ab.out ?_
    try simp only [sX]
    refine onE 7 fun K hK=>?_;have gq:=Qai ao 4 rfl;go_simp;clear gq
    try dsimp only
    refine gK hK ab.out ?_
    try simp only [sX]
    refine tkL 8 (.string (s ++ (⟨#[32]⟩:ByteArray) ++ (⟨#[115]⟩:ByteArray))) ab (fun W hW=>?_) ?_
    ·have ak:Op.stringOp .add (s ++ (⟨#[32]⟩:ByteArray)) ((⟨#[115]⟩:ByteArray))=pure (.string (s ++ (⟨#[32]⟩:ByteArray) ++ (⟨#[115]⟩:ByteArray))):=Qaf (by (try simp only [Qa2]);have e1:(⟨#[32]⟩:ByteArray).size=1:=rfl;have e2:(⟨#[115]⟩:ByteArray).size=1:=rfl;have:=HS.out;omega)
     clear hW;go_simp
    refine tkL 9 (.string (s ++ (⟨#[32]⟩:ByteArray) ++ (⟨#[115]⟩:ByteArray) ++ (⟨#[32]⟩:ByteArray))) ab (fun W hW=>?_) ?_
    ·have ai:Op.stringOp .add (s ++ (⟨#[32]⟩:ByteArray) ++ (⟨#[115]⟩:ByteArray)) ((⟨#[32]⟩:ByteArray))=pure (.string (s ++ (⟨#[32]⟩:ByteArray) ++ (⟨#[115]⟩:ByteArray) ++ (⟨#[32]⟩:ByteArray))):=Qaf (by (try simp only [Qa2]);have e1:(⟨#[32]⟩:ByteArray).size=1:=rfl;have e2:(⟨#[115]⟩:ByteArray).size=1:=rfl;have:=HS.out;omega)
     clear hW;go_simp
    refine tkL 13 (.string (s ++ (⟨#[32]⟩:ByteArray) ++ (⟨#[115]⟩:ByteArray) ++ (⟨#[32]⟩:ByteArray) ++ u0)) ab (fun W hW=>?_) ?_
    ·have aj:Op.stringOp .add (s ++ (⟨#[32]⟩:ByteArray) ++ (⟨#[115]⟩:ByteArray) ++ (⟨#[32]⟩:ByteArray)) (u0)=pure (.string (s ++ (⟨#[32]⟩:ByteArray) ++ (⟨#[115]⟩:ByteArray) ++ (⟨#[32]⟩:ByteArray) ++ u0)):=Qaf (by (try simp only [Qa2]);have e1:(⟨#[32]⟩:ByteArray).size=1:=rfl;have e2:(⟨#[115]⟩:ByteArray).size=1:=rfl;have:=HS.out;have:=ad.out;omega)
     clear hW;go_simp
    simp only [sX];refine tkL 14 (.string (s ++ (⟨#[32]⟩:ByteArray) ++ (⟨#[115]⟩:ByteArray) ++ (⟨#[32]⟩:ByteArray) ++ u0 ++ (⟨#[32]⟩:ByteArray))) ab (fun W hW=>?_) ?_
    ·have am:Op.stringOp .add (s ++ (⟨#[32]⟩:ByteArray) ++ (⟨#[115]⟩:ByteArray) ++ (⟨#[32]⟩:ByteArray) ++ u0) ((⟨#[32]⟩:ByteArray))=pure (.string (s ++ (⟨#[32]⟩:ByteArray) ++ (⟨#[115]⟩:ByteArray) ++ (⟨#[32]⟩:ByteArray) ++ u0 ++ (⟨#[32]⟩:ByteArray))):=Qaf (by (try simp only [Qa2]);have e1:(⟨#[32]⟩:ByteArray).size=1:=rfl;have e2:(⟨#[115]⟩:ByteArray).size=1:=rfl;have:=HS.out;have:=ad.out;omega)
     clear hW;go_simp
    simp only [sX];refine onE 15 fun K hK=>?_;go_simp
    try dsimp only
    refine gK hK ab.out ?_;refine dnE ?_ _;go_wp2;go_meet;exact ⟨_,rfl,Qaa (by simp only [Qa2];have e1:(⟨#[32]⟩:ByteArray).size=1:=rfl;have e2:(⟨#[115]⟩:ByteArray).size=1:=rfl;have:=HS.out;have:=ad.out;omega),ab⟩
  ·go_simp
   refine (HU.out _).mono ?_;rintro e Z2 ⟨⟨u0,rfl,ae⟩,hb⟩;have ad:=Qaa ae;have ab:Hid (Below W1.heap.size W1 Z2):=Qac ac hb;clear hb ae
   try dsimp only
   refine gK hK ab.out ?_
   try simp only [sX]
   refine onE 3 fun K hK=>?_;go_simp;have af:Below W1.heap.size W1 (Z2.alloc (.cells #[.string ⟨#[]⟩,.string ⟨#[99]⟩,.string ⟨#[103]⟩,.string ⟨#[104]⟩,.string ⟨#[115]⟩] 9)):=ab.out.alloc ab.out.size _;have aa:=Qaa af;have G1:=Qaa (ZZk Z2 (.cells #[.string ⟨#[]⟩,.string ⟨#[99]⟩,.string ⟨#[103]⟩,.string ⟨#[104]⟩,.string ⟨#[115]⟩] 9));have ag:Hid (W1.heap.size<=Z2.heap.size):=ab.out.size;clear af
   try dsimp only
   refine gK hK aa.out ?_
   try simp only [sX]
   generalize Z2.alloc (.cells #[.string ⟨#[]⟩,.string ⟨#[99]⟩,.string ⟨#[103]⟩,.string ⟨#[104]⟩,.string ⟨#[115]⟩] 9)=Y1 at aa G1 ⊢;generalize Z2.heap.size=g1 at G1 ag ⊢;refine tkL 6 (.pointer (some (⟨g1,4,none⟩:Addr))) aa (fun W hW=>?_) ?_
   ·clear aa
    clear hW;go_simp
   simp only [sX];refine onE 7 fun K hK=>?_;have gq:=Qai G1 4 rfl;go_simp;clear gq
   try dsimp only
   refine gK hK aa.out ?_
   try simp only [sX]
   refine tkL 8 (.string (s ++ (⟨#[32]⟩:ByteArray) ++ (⟨#[115]⟩:ByteArray))) aa (fun W hW=>?_) ?_
   ·have ak:Op.stringOp .add (s ++ (⟨#[32]⟩:ByteArray)) ((⟨#[115]⟩:ByteArray))=pure (.string (s ++ (⟨#[32]⟩:ByteArray) ++ (⟨#[115]⟩:ByteArray))):=Qaf (by (try simp only [Qa2]);have e1:(⟨#[32]⟩:ByteArray).size=1:=rfl;have e2:(⟨#[115]⟩:ByteArray).size=1:=rfl;have:=HS.out;omega)
    clear hW;go_simp
   refine tkL 9 (.string (s ++ (⟨#[32]⟩:ByteArray) ++ (⟨#[115]⟩:ByteArray) ++ (⟨#[32]⟩:ByteArray))) aa (fun W hW=>?_) ?_
   ·have ai:Op.stringOp .add (s ++ (⟨#[32]⟩:ByteArray) ++ (⟨#[115]⟩:ByteArray)) ((⟨#[32]⟩:ByteArray))=pure (.string (s ++ (⟨#[32]⟩:ByteArray) ++ (⟨#[115]⟩:ByteArray) ++ (⟨#[32]⟩:ByteArray))):=Qaf (by (try simp only [Qa2]);have e1:(⟨#[32]⟩:ByteArray).size=1:=rfl;have e2:(⟨#[115]⟩:ByteArray).size=1:=rfl;have:=HS.out;omega)
    clear hW;go_simp
   refine tkL 13 (.string (s ++ (⟨#[32]⟩:ByteArray) ++ (⟨#[115]⟩:ByteArray) ++ (⟨#[32]⟩:ByteArray) ++ u0)) aa (fun W hW=>?_) ?_
   ·have aj:Op.stringOp .add (s ++ (⟨#[32]⟩:ByteArray) ++ (⟨#[115]⟩:ByteArray) ++ (⟨#[32]⟩:ByteArray)) (u0)=pure (.string (s ++ (⟨#[32]⟩:ByteArray) ++ (⟨#[115]⟩:ByteArray) ++ (⟨#[32]⟩:ByteArray) ++ u0)):=Qaf (by (try simp only [Qa2]);have e1:(⟨#[32]⟩:ByteArray).size=1:=rfl;have e2:(⟨#[115]⟩:ByteArray).size=1:=rfl;have:=HS.out;have:=ad.out;omega)
    clear hW;go_simp
   simp only [sX];refine tkL 14 (.string (s ++ (⟨#[32]⟩:ByteArray) ++ (⟨#[115]⟩:ByteArray) ++ (⟨#[32]⟩:ByteArray) ++ u0 ++ (⟨#[32]⟩:ByteArray))) aa (fun W hW=>?_) ?_
   ·have am:Op.stringOp .add (s ++ (⟨#[32]⟩:ByteArray) ++ (⟨#[115]⟩:ByteArray) ++ (⟨#[32]⟩:ByteArray) ++ u0) ((⟨#[32]⟩:ByteArray))=pure (.string (s ++ (⟨#[32]⟩:ByteArray) ++ (⟨#[115]⟩:ByteArray) ++ (⟨#[32]⟩:ByteArray) ++ u0 ++ (⟨#[32]⟩:ByteArray))):=Qaf (by (try simp only [Qa2]);have e1:(⟨#[32]⟩:ByteArray).size=1:=rfl;have e2:(⟨#[115]⟩:ByteArray).size=1:=rfl;have:=HS.out;have:=ad.out;omega)
    clear hW;go_simp
   simp only [sX];refine onE 15 fun K hK=>?_;go_simp
   try dsimp only
   refine gK hK aa.out ?_;refine dnE ?_ _;go_wp2;go_meet;exact ⟨_,rfl,Qaa (by simp only [Qa2];have e1:(⟨#[32]⟩:ByteArray).size=1:=rfl;have e2:(⟨#[115]⟩:ByteArray).size=1:=rfl;have:=HS.out;have:=ad.out;omega),aa⟩
 case rest=>
  clear HS HU;obtain ⟨t1,rfl,HS,HB⟩:=hcut;have HR:=Qaa (Qae KA HB);have HQ:=Qaa (HT.out.past HB);have HW:Hid (Below w.heap.size w wc):=Qac ah HB;generalize wc=W2 at HR HQ HW ⊢;clear HB;have q0:=Qai HR 0 rfl;have ap:=Qai HR 11 rfl;have an:=Qai HR 12 rfl;go_wp2_with fail;refine (QrS rfl rfl HQ.out.E.1 HQ.out.R.1 HQ.out.A.E HQ.out.A.R HQ.out.E.2 HQ.out.R.2).mono ?_;rintro e w3 ⟨⟨u1,rfl,au⟩,hb⟩;have hb:=Qaa hb;have aq:Op.stringOp .add (t1) (u1)=pure (.string (t1 ++ u1)):=Qaf (by (try simp only [Qa2]);have:=HS.out;omega);clear q0 ap an;go_wp2;go_ret;exact ⟨⟨_,rfl,by simp only [Qa2];have e1:(⟨#[32]⟩:ByteArray).size=1:=rfl;have e2:(⟨#[115]⟩:ByteArray).size=1:=rfl;have:=HS.out;omega⟩,Qac HW hb⟩
theorem Qs0 {c:Ce} (hT:CeT w c):Calls prog 30 #[.agg (Qas c)] w fun e w'=>TxA 12000 e/\Below w.heap.size w w':=by
 obtain ⟨n,s,⟨k,gs,h,l,a,t,z,P,N,x,y,E,R⟩,p⟩:=c;have h1:1<=k:=hT.k.1;have h2:k<=4:=hT.k.2;rcases (show k=1∨k=2∨k=3∨k=4 by omega) with rfl | rfl | rfl | rfl
 ·exact Qtz hT
 ·exact Qud hT
 ·exact Qtk hT
 ·exact Qua hT
end Go.Proofs.YtdbaabbmcfnjbaaGreatDoor
