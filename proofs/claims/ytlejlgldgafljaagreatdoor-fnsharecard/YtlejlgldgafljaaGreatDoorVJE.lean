/-
 Parts.
-/
import Derived.ChangeOld
import Derived.ChangeSlices
import Derived.Deep.SlicePairs
import Derived.Lib.SmallJoins
import Derived.Test.YtlejlgldgafljaaGreatDoorVJD
set_option maxHeartbeats 8000000
set_option linter.all false
namespace Go.Proofs.YtlejlgldgafljaaGreatDoor
open Go.ChangeShapes Go.WideShapes Go.ChangeAt Go.RowKit Go.PlainAid Go.Lib Tryz
structure AgOk (g:Ag):Prop where
 k:I64 g.k
 s:U64 g.s
 h:I64 g.h
 l:U64 g.l
 a:I64 g.a
 t:I64 g.t
 z:U64 g.z
 x:I64 g.x
 y:U64 g.y
 P:∀ b∈g.P,Qci b
 N:∀ b∈g.N,Qci b
 E:∀ b∈g.E,U64 b
 R:∀ b∈g.R,I64 b
set_option maxRecDepth 10000
def noS (g:Ag):Bool:=Qbb g.z g.x g.y g.P g.N 0 0 0 [] []
def noH (g:Ag):Bool:=decide (g.E.length=0) && decide (g.R.length=0)
def Qhl (g:Ag):Bool:=(g.h == 0 && g.l == 0)
def Qc6 (g:Ag):Bool:=Qn4 g.a && (decide (-1<=g.t) && decide (g.t<=1000000000)) && (decide (0<=g.t) || (g.a == 0))
def agB (g:Ag):Bool:=(decide (1<=g.k) && decide (g.k<=4)) && skB g.P g.N && hlB g.E g.R && ((g.k == 1) || Qhl g) && ((g.k == 3) || noS g) && ((g.k == 4) || noH g) && (if g.k=2 then Qc6 g else (g.a == 0) && (g.t == 0))
def agC (g:Ag):Ag:=⟨1,g.s,g.h,g.l,0,0,0,[],[],0,0,[],[]⟩
def agG (g:Ag):Ag:=⟨2,g.s,0,0,g.a,g.t,0,[],[],0,0,[],[]⟩
def agH (g:Ag):Ag:=⟨3,g.s,0,0,0,0,g.z,g.P,g.N,g.x,g.y,[],[]⟩
def agS (g:Ag):Ag:=⟨4,g.s,0,0,0,0,0,[],[],0,0,g.E,g.R⟩
def agI (g:Ag):Bool:=if g.k=1 then QaK g (agC g) else if g.k=2 then Qny g.a g.t && QaK g (agG g) else if g.k=3 then skB g.P g.N && QaK g (agH g) else if g.k=4 then hlB g.E g.R && QaK g (agS g) else false
theorem Qcb (g:Ag):noS g=true↔g.z=0/\g.x=0/\g.y=0/\g.P=[]/\g.N=[]:=by
 simp [noS,Qbb,and_assoc]
theorem Qfu (g:Ag):noH g=true↔g.E=[]/\g.R=[]:=by simp [noH]
theorem Qff:skB [] []=true:=by decide
theorem Qfm:hlB [] []=true:=by decide
theorem QnB (z h l:Int) (P N:List Bn):Qbb z h l P N z h l P N=true:=by simp [Qbb]
theorem QdL (E R:List Int):Qbu E R E R=true:=by simp [Qbu]
theorem Qq5 (g:Ag):Qny g.a g.t=Qc6 g:=by
 unfold Qny Qc6 Qn4;by_cases h1:g.t=-1
 ·rw [if_pos h1,h1]
  by_cases h2:g.a=0
  ·rw [h2];decide
  ·have:(g.a == 0)=false:=beq_eq_false_iff_ne.2 h2
   rw [this];simp [h2]
 ·rw [if_neg h1]
  by_cases h2:0<=g.t
  ·have e1:decide (-1<=g.t)=true:=decide_eq_true (by omega)
   have e2:decide (0<=g.t)=true:=decide_eq_true h2;rw [e1,e2];simp [Bool.and_comm,Bool.and_left_comm,Bool.and_assoc]
  ·have e1:decide (-1<=g.t)=false:=decide_eq_false (by omega)
   have e2:decide (0<=g.t)=false:=decide_eq_false h2;rw [e1,e2];simp
theorem ag_one (g:Ag):agI g=agB g:=by
 rw [Bool.eq_iff_iff];unfold agI agB;by_cases h1:g.k=1
 ·rw [if_pos h1]
  simp only [QaK,agC,Qhl,h1,yB,Bool.or_eq_true,beq_iff_eq,decide_eq_true_eq,Qfu,Qcb];constructor
  ·rintro ⟨⟨⟨⟨⟨_,_⟩,ha⟩,ht⟩,hs⟩,hh⟩
   have ac:noS g=true:=hs;have:=(Qcb g).1 ac;have aa:g.E=[]/\g.R=[]:=by simpa [Qbu] using hh
   refine ⟨⟨⟨⟨⟨⟨by omega,?_⟩,?_⟩,.inl trivial⟩,.inr this⟩,.inr aa⟩,?_⟩
   ·rw [this.2.2.2.1,this.2.2.2.2];exact Qff
   ·rw [aa.1,aa.2];exact Qfm
   ·simp [ha,ht]
  ·rintro ⟨⟨⟨⟨⟨⟨_,_⟩,_⟩,_⟩,hs⟩,hh⟩,af⟩
   have ab:g.a=0/\g.t=0:=by simpa using af
   have ac:g.z=0/\g.x=0/\g.y=0/\g.P=[]/\g.N=[]:=by rcases hs with h | h;exact absurd h (by omega);exact h
   have aa:g.E=[]/\g.R=[]:=by rcases hh with h | h;exact absurd h (by omega);exact h
   refine ⟨⟨⟨⟨⟨⟨trivial,trivial⟩,⟨trivial,trivial⟩⟩,ab.1⟩,ab.2⟩,(Qcb g).2 ac⟩,?_⟩;rw [aa.1,aa.2];exact QdL [] []
 rw [if_neg h1];by_cases h2:g.k=2
 ·rw [if_pos h2,Qq5]
  simp only [QaK,agG,Qhl,h2,yB,Bool.or_eq_true,beq_iff_eq,decide_eq_true_eq,Qfu,Qcb];constructor
  ·rintro ⟨aj,⟨⟨⟨⟨⟨_,_⟩,ad⟩,_⟩,_⟩,hs⟩,hh⟩
   have ac:noS g=true:=hs;have:=(Qcb g).1 ac;have aa:g.E=[]/\g.R=[]:=by simpa [Qbu] using hh
   refine ⟨⟨⟨⟨⟨⟨by omega,?_⟩,?_⟩,.inr ad⟩,.inr this⟩,.inr aa⟩,?_⟩
   ·rw [this.2.2.2.1,this.2.2.2.2];exact Qff
   ·rw [aa.1,aa.2];exact Qfm
   ·simpa using aj
  ·rintro ⟨⟨⟨⟨⟨⟨_,_⟩,_⟩,ad⟩,hs⟩,hh⟩,aj⟩
   have ah:Qc6 g=true:=by simpa using aj
   have ae:g.h=0/\g.l=0:=by rcases ad with h | h;exact absurd h (by omega);exact h
   have ac:g.z=0/\g.x=0/\g.y=0/\g.P=[]/\g.N=[]:=by rcases hs with h | h;exact absurd h (by omega);exact h
   have aa:g.E=[]/\g.R=[]:=by rcases hh with h | h;exact absurd h (by omega);exact h
   refine ⟨ah,⟨⟨⟨⟨⟨trivial,trivial⟩,ae⟩,trivial⟩,trivial⟩,(Qcb g).2 ac⟩,?_⟩;rw [aa.1,aa.2];exact QdL [] []
 rw [if_neg h2];by_cases h3:g.k=3
 ·rw [if_pos h3]
  simp only [QaK,agH,Qhl,h3,yB,Bool.or_eq_true,beq_iff_eq,decide_eq_true_eq,Qfu,Qcb];constructor
  ·rintro ⟨ai,⟨⟨⟨⟨⟨_,_⟩,ad⟩,ha⟩,ht⟩,_⟩,hh⟩
   have aa:g.E=[]/\g.R=[]:=by simpa [Qbu] using hh
   refine ⟨⟨⟨⟨⟨⟨by omega,ai⟩,?_⟩,.inr ad⟩,.inl trivial⟩,.inr aa⟩,?_⟩
   ·rw [aa.1,aa.2];exact Qfm
   ·simp [ha,ht]
  ·rintro ⟨⟨⟨⟨⟨⟨_,ai⟩,_⟩,ad⟩,_⟩,hh⟩,af⟩
   have ab:g.a=0/\g.t=0:=by simpa using af
   have ae:g.h=0/\g.l=0:=by rcases ad with h | h;exact absurd h (by omega);exact h
   have aa:g.E=[]/\g.R=[]:=by rcases hh with h | h;exact absurd h (by omega);exact h
   refine ⟨ai,⟨⟨⟨⟨⟨trivial,trivial⟩,ae⟩,ab.1⟩,ab.2⟩,QnB _ _ _ _ _⟩,?_⟩;rw [aa.1,aa.2];exact QdL [] []
 rw [if_neg h3];by_cases h4:g.k=4
 ·rw [if_pos h4]
  simp only [QaK,agS,Qhl,h4,yB,Bool.or_eq_true,beq_iff_eq,decide_eq_true_eq,Qfu,Qcb];constructor
  ·rintro ⟨ag,⟨⟨⟨⟨⟨_,_⟩,ad⟩,ha⟩,ht⟩,hs⟩,_⟩
   have ac:noS g=true:=hs;have:=(Qcb g).1 ac;refine ⟨⟨⟨⟨⟨⟨by omega,?_⟩,ag⟩,.inr ad⟩,.inr this⟩,.inl trivial⟩,?_⟩
   ·rw [this.2.2.2.1,this.2.2.2.2];exact Qff
   ·simp [ha,ht]
  ·rintro ⟨⟨⟨⟨⟨⟨_,_⟩,ag⟩,ad⟩,hs⟩,_⟩,af⟩
   have ab:g.a=0/\g.t=0:=by simpa using af
   have ae:g.h=0/\g.l=0:=by rcases ad with h | h;exact absurd h (by omega);exact h
   have ac:g.z=0/\g.x=0/\g.y=0/\g.P=[]/\g.N=[]:=by rcases hs with h | h;exact absurd h (by omega);exact h
   exact ⟨ag,⟨⟨⟨⟨⟨trivial,trivial⟩,ae⟩,ab.1⟩,ab.2⟩,(Qcb g).2 ac⟩,QdL _ _⟩
 rw [if_neg h4];simp only [yB,decide_eq_true_eq];constructor
 ·intro h;exact absurd h (by simp)
 ·rintro ⟨⟨⟨⟨⟨⟨⟨ha,hb⟩,_⟩,_⟩,_⟩,_⟩,_⟩,_⟩
  exfalso;omega
variable {w:World}
variable {g:Ag}
variable {p:Pl}
theorem QrN (ok:AgOk g) (sm:AgSm g) (hA:AgAt w g p) :
  Calls prog 301 #[.agg #[.int .u64 g.z,.slice p.pa g.P.length p.pc,.slice p.na g.N.length p.nc,.int .i64 g.x,.int .u64 g.y]] w fun e w'=>e=.returned (.bool (skB g.P g.N))/\Bw w w':=by
 have aa:Hid (∀ o,Bw w (w.alloc o)):=fun o=>(Below.refl _ _).alloc (Nat.le_refl _) o;have HA:=Qaa hA;have OK:=Qaa ok;have SM:=Qaa sm;clear ok sm hA;go_enter func301,ntmps301;go_wp2_with fail;refine (Qgu rfl rfl SM.P SM.N (Qaj HA.P (aa.out _)) (Qaj HA.N (aa.out _)) OK.P OK.N).mono ?_;rintro e w1 ⟨rfl,ab⟩;have ac:=Qaa (Qac (aa.out _) ab);clear ab;go_wp2;go_ret;exact ⟨rfl,ac⟩
theorem Qrk (sm:AgSm g) (hA:AgAt w g p) :
  Calls prog 307 #[.agg #[.slice p.ea g.E.length p.ec,.slice p.ra g.R.length p.rc]] w fun e w'=>e=.returned (.bool (hlB g.E g.R))/\Bw w w':=by
 have aa:Hid (∀ o,Bw w (w.alloc o)):=fun o=>(Below.refl _ _).alloc (Nat.le_refl _) o;have HA:=Qaa hA;have SM:=Qaa sm;clear sm hA;go_enter func307,ntmps307;go_wp2_with fail;refine (Qjt rfl rfl SM.E SM.R (Qak HA.E (aa.out _)) (Qak HA.R (aa.out _))).mono ?_;rintro e w1 ⟨rfl,ab⟩;have ac:=Qaa (Qac (aa.out _) ab);clear ab;go_wp2;go_ret;exact ⟨rfl,ac⟩
theorem QcE (w:World) (ao:Option Addr):QaS w ao []:=fun h=>absurd h (Nat.lt_irrefl 0)
theorem QdH (kd:IntKind) (w:World) (ao:Option Addr):QaG kd w ao []:=fun h=>absurd h (Nat.lt_irrefl 0)
theorem QjZ (ok:AgOk g) (sm:AgSm g) (hA:AgAt w g p) :
  Calls prog 188 #[.agg (QaC g p)] w fun e w'=>e=.returned (.bool (agI g))/\Bw w w':=by
 have HA:=Qaa hA;have OK:=Qaa ok;have SM:=Qaa sm;have al:Hid (∀ o,Bw w (w.alloc o)):=fun o=>(Below.refl _ _).alloc (Nat.le_refl _) o;clear ok sm hA;by_cases h1:g.k=1
 ·have aj:Hid (agI g=(true && QaK g (agC g))):=by unfold agI;rw [if_pos h1];exact (Bool.true_and _).symm
  have HP:=Qaa (Qov (g:=g) (p:=p) (h:=h1));clear h1;go_enter func188,ntmps188;go_wp2_with fail;refine (HP.out _).mono ?_;rintro e w1 ⟨rfl,ac⟩;have ai:=Qaa (Qac (al.out _) ac);have K1:=QaV (Qg9 w 73 g p) ac;clear ac;go_wp2_with fail;refine (Qsa _ _ _).mono ?_;rintro e w2 ⟨rfl,af⟩;have ad:=Qaa (Qac ai af);have K2:=QaV K1 af;clear af K1;have HE:Hid (QaK g (agC g)=agI g):=by have:=aj.out;rw [Bool.true_and] at this;exact this.symm
  have ae:Hid (∀ W,Bw w2 W->Qdy W w.heap.size g p):=fun W hW=>QaV K2 hW
  have HX:Hid (∀ W,Bw w2 W->AgAt W (agC g) ⟨none,0,none,0,none,0,none,0⟩):=fun W hW=>by
   have h:=QaI HA (Qac ad hW);exact ⟨QcE _ _,QcE _ _,QdH _ _ _,QdH _ _ _⟩
  have SX:Hid (AgSm (agC g)):=⟨by simp [agC],by simp [agC],by simp [agC],by simp [agC]⟩;clear K2;go_wp2_with fail
  go_region_held3 (fun W=>Qgo w2.heap.size w2 W/\Qdy W w.heap.size g p)
   (first | exact ab | exact ⟨held (Below.refl _ _).drew (by simp),ae.out _ (Below.refl _ _).drew⟩)
   (first
    | (go_at_call 207;have hS:=(‹Qgo _ _ _/\_›).1;refine (QnL g p _).mono ?_;rintro e w3 ⟨rfl,ah⟩;have aa:=(QbT ah hS).1;have ab:Qgo w2.heap.size w2 w3/\_:=⟨held aa (Nat.le_refl _),ae.out _ aa⟩;clear ah aa)
    | (go_at_call 206;have hS:=(‹Qgo _ _ _/\_›).1;refine (Qc5 (g:=g) (p:=p) (g':=agC g) (p':=⟨none,0,none,0,none,0,none,0⟩) SM SX (QaI HA (Qac ad hS.1)) (HX.out _ hS.1)).mono ?_;rintro e w4 ⟨rfl,ag⟩;have aa:=(QbT ag hS).1;have ab:Qgo w2.heap.size w2 w4/\_:=⟨held aa (Nat.le_refl _),ae.out _ aa⟩;clear ag aa))
  have ak:=Qaa (Qac ad ab.1.1);clear ab;go_wp2;go_ret;exact ⟨Qat HE,ak⟩
 by_cases h2:g.k=2
 ·have aj:Hid (agI g=(Qny g.a g.t && QaK g (agG g))):=by unfold agI;rw [if_neg h1];rw [if_pos h2];rfl
  have HP:=Qaa (Qp1 (g:=g) (p:=p) (h:=h2));clear h1 h2;go_enter func188,ntmps188;go_wp2_with fail;refine (HP.out _).mono ?_;rintro e w1 ⟨rfl,ac⟩;have ai:=Qaa (Qac (al.out _) ac);have K1:=QaV (Qg9 w 73 g p) ac;clear ac;go_wp2_with fail;refine (QrM _ _ _).mono ?_;rintro e w2 ⟨rfl,af⟩;have ad:=Qaa (Qac ai af);have K2:=QaV K1 af;clear af K1
  cases hv:Qny g.a g.t with
  | false=>
   have HE:Hid (false=agI g):=by have:=aj.out;rw [hv,Bool.false_and] at this;exact this.symm
   go_wp2;go_ret;exact ⟨Qat HE,ad⟩
  | true=>
   have HE:Hid (QaK g (agG g)=agI g):=by have:=aj.out;rw [hv,Bool.true_and] at this;exact this.symm
   have ae:Hid (∀ W,Bw w2 W->Qdy W w.heap.size g p):=fun W hW=>QaV K2 hW
   have HX:Hid (∀ W,Bw w2 W->AgAt W (agG g) ⟨none,0,none,0,none,0,none,0⟩):=fun W hW=>by
    have h:=QaI HA (Qac ad hW);exact ⟨QcE _ _,QcE _ _,QdH _ _ _,QdH _ _ _⟩
   have SX:Hid (AgSm (agG g)):=⟨by simp [agG],by simp [agG],by simp [agG],by simp [agG]⟩;clear K2;go_wp2_with fail
   go_region_held3 (fun W=>Qgo w2.heap.size w2 W/\Qdy W w.heap.size g p)
    (first | exact ab | exact ⟨held (Below.refl _ _).drew (by simp),ae.out _ (Below.refl _ _).drew⟩)
    (first
     | (go_at_call 207;have hS:=(‹Qgo _ _ _/\_›).1;refine (Qnt g p _).mono ?_;rintro e w3 ⟨rfl,ah⟩;have aa:=(QbT ah hS).1;have ab:Qgo w2.heap.size w2 w3/\_:=⟨held aa (Nat.le_refl _),ae.out _ aa⟩;clear ah aa)
     | (go_at_call 206;have hS:=(‹Qgo _ _ _/\_›).1;refine (Qc5 (g:=g) (p:=p) (g':=agG g) (p':=⟨none,0,none,0,none,0,none,0⟩) SM SX (QaI HA (Qac ad hS.1)) (HX.out _ hS.1)).mono ?_;rintro e w4 ⟨rfl,ag⟩;have aa:=(QbT ag hS).1;have ab:Qgo w2.heap.size w2 w4/\_:=⟨held aa (Nat.le_refl _),ae.out _ aa⟩;clear ag aa))
   have ak:=Qaa (Qac ad ab.1.1);clear ab;go_wp2;go_ret;exact ⟨Qat HE,ak⟩
 by_cases h3:g.k=3
 ·have aj:Hid (agI g=(skB g.P g.N && QaK g (agH g))):=by unfold agI;rw [if_neg h1];rw [if_neg h2];rw [if_pos h3];rfl
  have HP:=Qaa (Qo9 (g:=g) (p:=p) (h:=h3));clear h1 h2 h3;go_enter func188,ntmps188;go_wp2_with fail;refine (HP.out _).mono ?_;rintro e w1 ⟨rfl,ac⟩;have ai:=Qaa (Qac (al.out _) ac);have K1:=QaV (Qg9 w 73 g p) ac;clear ac;go_wp2_with fail;refine (QrN OK SM (QaI HA ai)).mono ?_;rintro e w2 ⟨rfl,af⟩;have ad:=Qaa (Qac ai af);have K2:=QaV K1 af;clear af K1
  cases hv:skB g.P g.N with
  | false=>
   have HE:Hid (false=agI g):=by have:=aj.out;rw [hv,Bool.false_and] at this;exact this.symm
   go_wp2;go_ret;exact ⟨Qat HE,ad⟩
  | true=>
   have HE:Hid (QaK g (agH g)=agI g):=by have:=aj.out;rw [hv,Bool.true_and] at this;exact this.symm
   have ae:Hid (∀ W,Bw w2 W->Qdy W w.heap.size g p):=fun W hW=>QaV K2 hW
   have HX:Hid (∀ W,Bw w2 W->AgAt W (agH g) ⟨p.pa,p.pc,p.na,p.nc,none,0,none,0⟩):=fun W hW=>by
    have h:=QaI HA (Qac ad hW);exact ⟨h.P,h.N,QdH _ _ _,QdH _ _ _⟩
   have SX:Hid (AgSm (agH g)):=⟨SM.P,SM.N,by simp [agH],by simp [agH]⟩;clear K2;go_wp2_with fail
   go_region_held3 (fun W=>Qgo w2.heap.size w2 W/\Qdy W w.heap.size g p)
    (first | exact ab | exact ⟨held (Below.refl _ _).drew (by simp),ae.out _ (Below.refl _ _).drew⟩)
    (first
     | (go_at_call 207;have hS:=(‹Qgo _ _ _/\_›).1;refine (QnK g p _).mono ?_;rintro e w3 ⟨rfl,ah⟩;have aa:=(QbT ah hS).1;have ab:Qgo w2.heap.size w2 w3/\_:=⟨held aa (Nat.le_refl _),ae.out _ aa⟩;clear ah aa)
     | (go_at_call 206;have hS:=(‹Qgo _ _ _/\_›).1;refine (Qc5 (g:=g) (p:=p) (g':=agH g) (p':=⟨p.pa,p.pc,p.na,p.nc,none,0,none,0⟩) SM SX (QaI HA (Qac ad hS.1)) (HX.out _ hS.1)).mono ?_;rintro e w4 ⟨rfl,ag⟩;have aa:=(QbT ag hS).1;have ab:Qgo w2.heap.size w2 w4/\_:=⟨held aa (Nat.le_refl _),ae.out _ aa⟩;clear ag aa))
   have ak:=Qaa (Qac ad ab.1.1);clear ab;go_wp2;go_ret;exact ⟨Qat HE,ak⟩
 by_cases h4:g.k=4
 ·have aj:Hid (agI g=(hlB g.E g.R && QaK g (agS g))):=by unfold agI;rw [if_neg h1];rw [if_neg h2];rw [if_neg h3];rw [if_pos h4];rfl
  have HP:=Qaa (Qpn (g:=g) (p:=p) (h:=h4));clear h1 h2 h3 h4;go_enter func188,ntmps188;go_wp2_with fail;refine (HP.out _).mono ?_;rintro e w1 ⟨rfl,ac⟩;have ai:=Qaa (Qac (al.out _) ac);have K1:=QaV (Qg9 w 73 g p) ac;clear ac;go_wp2_with fail;refine (Qrk SM (QaI HA ai)).mono ?_;rintro e w2 ⟨rfl,af⟩;have ad:=Qaa (Qac ai af);have K2:=QaV K1 af;clear af K1
  cases hv:hlB g.E g.R with
  | false=>
   have HE:Hid (false=agI g):=by have:=aj.out;rw [hv,Bool.false_and] at this;exact this.symm
   go_wp2;go_ret;exact ⟨Qat HE,ad⟩
  | true=>
   have HE:Hid (QaK g (agS g)=agI g):=by have:=aj.out;rw [hv,Bool.true_and] at this;exact this.symm
   have ae:Hid (∀ W,Bw w2 W->Qdy W w.heap.size g p):=fun W hW=>QaV K2 hW
   have HX:Hid (∀ W,Bw w2 W->AgAt W (agS g) ⟨none,0,none,0,p.ea,p.ec,p.ra,p.rc⟩):=fun W hW=>by
    have h:=QaI HA (Qac ad hW);exact ⟨QcE _ _,QcE _ _,h.E,h.R⟩
   have SX:Hid (AgSm (agS g)):=⟨by simp [agS],by simp [agS],SM.E,SM.R⟩;clear K2;go_wp2_with fail
   go_region_held3 (fun W=>Qgo w2.heap.size w2 W/\Qdy W w.heap.size g p)
    (first | exact ab | exact ⟨held (Below.refl _ _).drew (by simp),ae.out _ (Below.refl _ _).drew⟩)
    (first
     | (go_at_call 207;have hS:=(‹Qgo _ _ _/\_›).1;refine (QnJ g p _).mono ?_;rintro e w3 ⟨rfl,ah⟩;have aa:=(QbT ah hS).1;have ab:Qgo w2.heap.size w2 w3/\_:=⟨held aa (Nat.le_refl _),ae.out _ aa⟩;clear ah aa)
     | (go_at_call 206;have hS:=(‹Qgo _ _ _/\_›).1;refine (Qc5 (g:=g) (p:=p) (g':=agS g) (p':=⟨none,0,none,0,p.ea,p.ec,p.ra,p.rc⟩) SM SX (QaI HA (Qac ad hS.1)) (HX.out _ hS.1)).mono ?_;rintro e w4 ⟨rfl,ag⟩;have aa:=(QbT ag hS).1;have ab:Qgo w2.heap.size w2 w4/\_:=⟨held aa (Nat.le_refl _),ae.out _ aa⟩;clear ag aa))
   have ak:=Qaa (Qac ad ab.1.1);clear ab;go_wp2;go_ret;exact ⟨Qat HE,ak⟩
 have HE:Hid (false=agI g):=by unfold agI;rw [if_neg h1,if_neg h2,if_neg h3,if_neg h4];rfl
 have HP:=Qaa (Qqv (g:=g) (p:=p) (h1:=h1) (h2:=h2) (h3:=h3) (h4:=h4));clear h1 h2 h3 h4;go_enter func188,ntmps188;go_wp2_with fail;refine (HP.out _).mono ?_;rintro e w1 ⟨rfl,ac⟩;have ai:=Qaa (Qac (al.out _) ac);clear ac;go_wp2;go_ret;exact ⟨Qat HE,ai⟩
theorem Qfw (sm:AgSm g) (hA:AgAt w g p) :
  Calls prog 122 #[.agg #[.int .u64 g.z,.slice p.pa g.P.length p.pc,.slice p.na g.N.length p.nc,.int .i64 g.x,.int .u64 g.y]] w fun e w'=>e=.returned (.bool (noS g))/\Bw w w':=by
 have aa:Hid (∀ o,Bw w (w.alloc o)):=fun o=>(Below.refl _ _).alloc (Nat.le_refl _) o;have HA:=Qaa hA;have SM:=Qaa sm;clear sm hA;go_enter func122,ntmps122;go_wp2_with fail;refine (Qd7 (P':=[]) (N':=[]) rfl rfl rfl rfl SM.P SM.N (by simp) (by simp) (Qaj HA.P (aa.out _)) (Qaj HA.N (aa.out _)) (QcE _ _) (QcE _ _)).mono ?_;rintro e w1 ⟨rfl,ab⟩;have ac:=Qaa (Qac (aa.out _) ab);clear ab;go_wp2;go_ret;exact ⟨rfl,ac⟩
theorem Qk8 (sm:AgSm g) :
  Calls prog 123 #[.agg #[.slice p.ea g.E.length p.ec,.slice p.ra g.R.length p.rc]] w fun e w'=>e=.returned (.bool (noH g))/\Bw w w':=by
 obtain ⟨_,_,gE,gR⟩:=sm;have HN:Hid (noH g=(decide (g.E.length=0) && decide (g.R.length=0))):=(rfl:noH g=(decide (g.E.length=0) && decide (g.R.length=0)));generalize g.E.length=n at gE HN ⊢;generalize g.R.length=m at gR HN ⊢;by_cases h1:n=0
 ·subst h1
  by_cases h2:m=0
  ·subst h2
   go_enter func123,ntmps123;go_wp2;go_ret;exact ⟨by rw [HN.out];rfl,(Below.refl _ _).alloc (Nat.le_refl _) _⟩
  ·have b2:((m:Int) == 0)=false:=beq_eq_false_iff_ne.2 (by omega)
   go_enter func123,ntmps123;go_wp2;go_ret;exact ⟨by rw [HN.out];simp [h2],(Below.refl _ _).alloc (Nat.le_refl _) _⟩
 ·have b1:((n:Int) == 0)=false:=beq_eq_false_iff_ne.2 (by omega)
  go_enter func123,ntmps123;go_wp2;go_ret;exact ⟨by rw [HN.out];simp [h1],(Below.refl _ _).alloc (Nat.le_refl _) _⟩
theorem QfF (ok:AgOk g) (sm:AgSm g) (hA:AgAt w g p) :
  Calls prog 86 #[.agg (QaC g p)] w fun e w'=>e=.returned (.bool (agB g))/\Bw w w':=by
 have HA:=Qaa hA;have OK:=Qaa ok;have SM:=Qaa sm;have aA:Hid (∀ o,Bw w (w.alloc o)):=fun o=>(Below.refl _ _).alloc (Nat.le_refl _) o;clear ok sm hA;by_cases av:1<=g.k/\g.k<=4
 rotate_left
 ·have hb:(decide (1<=g.k) && decide (g.k<=4))=false:=by rw [Bool.eq_false_iff];intro hh;simp at hh;exact av hh
  have HE:Hid (false=agB g):=(by unfold agB;rw [hb];simp only [Bool.false_and]:false=agB g);clear av;go_enter func86,ntmps86;go_wp2_with fail;refine (Qf4 _ _ _ _).mono ?_;rintro e w1 ⟨rfl,hw⟩;subst hw;rw [hb];go_wp2;go_ret;exact ⟨Qat HE,aA.out _⟩
 have hb:(decide (1<=g.k) && decide (g.k<=4))=true:=by simp [av.1,av.2]
 have aD:g.k=1∨g.k=2∨g.k=3∨g.k=4:=by omega
 have aE:=Qaa aD;have az:Hid (agB g=(skB g.P g.N && hlB g.E g.R && ((g.k == 1) || Qhl g) && ((g.k == 3) || noS g) && ((g.k == 4) || noH g) && (if g.k=2 then Qc6 g else (g.a == 0) && (g.t == 0)))):=(by unfold agB;rw [hb,Bool.true_and]:_=_)
 clear av aD;go_enter func86,ntmps86;go_wp2_with fail;refine (Qf4 _ _ _ _).mono ?_;rintro e w1 ⟨rfl,hw⟩;subst hw;rw [hb];go_wp2_with fail;refine (Qgz rfl rfl SM.P SM.N (Qaj HA.P (aA.out _)) (Qaj HA.N (aA.out _)) OK.P OK.N).mono ?_;rintro e w2 ⟨rfl,aC⟩;have ax:=Qaa (Qac (aA.out _) aC);have K2:=QaV (Qg9 w 73 g p) aC;clear aC;by_cases ap:skB g.P g.N=true
 rotate_left
 ·replace ap:skB g.P g.N=false:=by simpa using ap
  rw [ap];have HE:Hid (false=agB g):=by have:=az.out;rw [ap] at this;simp only [Bool.false_and] at this;exact this.symm
  go_wp2;go_ret;exact ⟨Qat HE,ax⟩
 rw [ap];go_wp2_with fail;refine (Qkx rfl rfl SM.E SM.R (Qak HA.E ax) (Qak HA.R ax) OK.R).mono ?_;rintro e w3 ⟨rfl,aB⟩;have ak:=Qaa (Qac ax aB);have K3:=QaV K2 aB;clear aB K2;by_cases ar:hlB g.E g.R=true
 rotate_left
 ·replace ar:hlB g.E g.R=false:=by simpa using ar
  rw [ar];have HE:Hid (false=agB g):=by have:=az.out;rw [ap,ar] at this;simp only [Bool.false_and,Bool.and_false] at this;exact this.symm
  go_wp2;go_ret;exact ⟨Qat HE,ak⟩
 rw [ar];have ae:Hid (agB g=(((g.k == 1) || Qhl g) && ((g.k == 3) || noS g) && ((g.k == 4) || noH g) && (if g.k=2 then Qc6 g else (g.a == 0) && (g.t == 0)))):=by have:=az.out;rw [ap,ar] at this;simp only [Bool.true_and] at this;exact this
 clear az ap ar hb;rcases aE.out with hk | hk | hk | hk
 ·have b1:(g.k == 1)=true:=by simp [hk]
  have b2:(g.k == 2)=false:=beq_eq_false_iff_ne.2 (by omega);have b3:(g.k == 3)=false:=beq_eq_false_iff_ne.2 (by omega);have b4:(g.k == 4)=false:=beq_eq_false_iff_ne.2 (by omega);have n1:(g.k != 1)=false:=by show (!(g.k == 1))=_;rw [b1];rfl
  have n2:(g.k != 2)=true:=by show (!(g.k == 2))=_;rw [b2];rfl
  have n3:(g.k != 3)=true:=by show (!(g.k == 3))=_;rw [b3];rfl
  have n4:(g.k != 4)=true:=by show (!(g.k == 4))=_;rw [b4];rfl
  have z2:¬ g.k=2:=by omega
  have z3:¬ g.k=3:=by omega
  have z4:¬ g.k=4:=by omega
  have ah:(if g.k=2 then Qc6 g else (g.a == 0) && (g.t == 0))=((g.a == 0) && (g.t == 0)):=if_neg (by omega)
  have aq:=Qaa ah;clear hk ah;go_wp2_with fail;refine (Qfw SM (QaI HA ak)).mono ?_;rintro e w4 ⟨rfl,aj⟩;have am:=Qaa (Qac ak aj);have K4:=QaV K3 aj;clear aj;by_cases aa:noS g=true
  rotate_left
  ·replace aa:noS g=false:=by simpa using aa
   rw [aa];have HE:Hid (false=agB g):=by have:=ae.out;simp only [b1,b3,b4,aa,Bool.true_or,Bool.false_or,Bool.or_true,Bool.or_false,Bool.true_and,Bool.and_true,Bool.false_and,Bool.and_false] at this;exact this.symm
   go_wp2;go_ret;exact ⟨Qat HE,am⟩
  rw [aa];have au:=Qaa aa;clear aa;go_wp2_with fail;refine (Qk8 (p:=p) SM).mono ?_;rintro e w5 ⟨rfl,al⟩;have ag:=Qaa (Qac am al);have K5:=QaV K4 al;clear al;by_cases ab:noH g=true
  rotate_left
  ·replace ab:noH g=false:=by simpa using ab
   rw [ab];have HE:Hid (false=agB g):=by have:=ae.out;simp only [b1,b3,b4,au.out,ab,Bool.true_or,Bool.false_or,Bool.or_true,Bool.or_false,Bool.true_and,Bool.and_true,Bool.false_and,Bool.and_false] at this;exact this.symm
   go_wp2;go_ret;exact ⟨Qat HE,ag⟩
  rw [ab];have aw:=Qaa ab;clear ab;have ad:=ae.out;rw [aq.out] at ad;simp only [b1,b3,b4,au.out,aw.out,Bool.true_or,Bool.false_or,Bool.or_true,Bool.or_false,Bool.true_and,Bool.and_true] at ad;have af:=Qaa ad;clear ad ae;by_cases qa:g.a=0
  ·have ba:(g.a == 0)=true:=by simp [qa]
   by_cases qt:g.t=0
   ·have bt:(g.t == 0)=true:=by simp [qt]
    have HE:Hid (true=agB g):=by have:=af.out;rw [ba,bt] at this;exact this.symm
    clear qa qt;go_wp2;go_ret;exact ⟨Qat HE,ag⟩
   ·have bt:(g.t == 0)=false:=beq_eq_false_iff_ne.2 qt
    have HE:Hid (false=agB g):=by have:=af.out;rw [ba,bt] at this;exact this.symm
    clear qa qt;go_wp2;go_ret;exact ⟨Qat HE,ag⟩
  ·have ba:(g.a == 0)=false:=beq_eq_false_iff_ne.2 qa
   have HE:Hid (false=agB g):=by have:=af.out;rw [ba,Bool.false_and] at this;exact this.symm
   clear qa;go_wp2;go_ret;exact ⟨Qat HE,ag⟩
 ·have b2:(g.k == 2)=true:=by simp [hk]
  have b1:(g.k == 1)=false:=beq_eq_false_iff_ne.2 (by omega);have b3:(g.k == 3)=false:=beq_eq_false_iff_ne.2 (by omega);have b4:(g.k == 4)=false:=beq_eq_false_iff_ne.2 (by omega);have n1:(g.k != 1)=true:=by show (!(g.k == 1))=_;rw [b1];rfl
  have n2:(g.k != 2)=false:=by show (!(g.k == 2))=_;rw [b2];rfl
  have n3:(g.k != 3)=true:=by show (!(g.k == 3))=_;rw [b3];rfl
  have n4:(g.k != 4)=true:=by show (!(g.k == 4))=_;rw [b4];rfl
  have z1:¬ g.k=1:=by omega
  have z3:¬ g.k=3:=by omega
  have z4:¬ g.k=4:=by omega
  have ax:=Qaa hk;have ah:(if g.k=2 then Qc6 g else (g.a == 0) && (g.t == 0))=Qc6 g:=if_pos hk
  have aq:=Qaa ah;clear hk ah;have ao:Hid (Qhl g=(g.h == 0 && g.l == 0)):=(rfl:Qhl g=(g.h == 0 && g.l == 0));have hq:=Qdx g.h g.l 0 0;by_cases ac:(g.h == 0 && g.l == 0)=true
  rotate_left
  ·replace ac:(g.h == 0 && g.l == 0)=false:=by simpa using ac
   rw [ac] at hq;have ai:Qhl g=false:=ao.trans ac;have HE:Hid (false=agB g):=by have:=ae.out;simp only [b1,b3,b4,ai,Bool.true_or,Bool.false_or,Bool.or_true,Bool.or_false,Bool.true_and,Bool.and_true,Bool.false_and,Bool.and_false] at this;exact this.symm
   go_wp2;go_ret;exact ⟨Qat HE,ak⟩
  rw [ac] at hq;have an:=Qaa (ao.trans ac);clear ac;go_wp2_with fail;refine (Qfw SM (QaI HA ak)).mono ?_;rintro e w4 ⟨rfl,aj⟩;have am:=Qaa (Qac ak aj);have K4:=QaV K3 aj;clear aj;by_cases aa:noS g=true
  rotate_left
  ·replace aa:noS g=false:=by simpa using aa
   rw [aa];have HE:Hid (false=agB g):=by have:=ae.out;simp only [b1,b3,b4,an.out,aa,Bool.true_or,Bool.false_or,Bool.or_true,Bool.or_false,Bool.true_and,Bool.and_true,Bool.false_and,Bool.and_false] at this;exact this.symm
   go_wp2;go_ret;exact ⟨Qat HE,am⟩
  rw [aa];have au:=Qaa aa;clear aa;go_wp2_with fail;refine (Qk8 (p:=p) SM).mono ?_;rintro e w5 ⟨rfl,al⟩;have ag:=Qaa (Qac am al);have K5:=QaV K4 al;clear al;by_cases ab:noH g=true
  rotate_left
  ·replace ab:noH g=false:=by simpa using ab
   rw [ab];have HE:Hid (false=agB g):=by have:=ae.out;simp only [b1,b3,b4,an.out,au.out,ab,Bool.true_or,Bool.false_or,Bool.or_true,Bool.or_false,Bool.true_and,Bool.and_true,Bool.false_and,Bool.and_false] at this;exact this.symm
   go_wp2;go_ret;exact ⟨Qat HE,ag⟩
  rw [ab];have aw:=Qaa ab;clear ab;have ad:=ae.out;rw [aq.out] at ad;simp only [b1,b3,b4,an.out,au.out,aw.out,Bool.true_or,Bool.false_or,Bool.or_true,Bool.or_false,Bool.true_and,Bool.and_true] at ad;have af:=Qaa ad;clear ad ae;have ay:Hid (Qc6 g=(Qn4 g.a && (decide (-1<=g.t) && decide (g.t<=1000000000)) && (decide (0<=g.t) || (g.a == 0)))):=(rfl:_=_);go_wp2_with fail;refine (Qlb _ _).mono ?_;rintro e w6 ⟨rfl,hw⟩;subst hw;by_cases hv:Qn4 g.a=true
  rotate_left
  ·replace hv:Qn4 g.a=false:=by simpa using hv
   rw [hv];have HE:Hid (false=agB g):=by have:=af.out;rw [ay.out,hv] at this;simp only [Bool.false_and] at this;exact this.symm
   go_wp2;go_ret;exact ⟨Qat HE,ag⟩
  rw [hv];go_wp2_with fail;refine (Qf4 _ _ _ _).mono ?_;rintro e w7 ⟨rfl,hw⟩;subst hw;by_cases hi:(decide (-1<=g.t) && decide (g.t<=1000000000))=true
  rotate_left
  ·replace hi:(decide (-1<=g.t) && decide (g.t<=1000000000))=false:=by simpa using hi
   rw [hi];have HE:Hid (false=agB g):=by have:=af.out;rw [ay.out,hv,hi] at this;simp only [Bool.false_and,Bool.and_false] at this;exact this.symm
   go_wp2;go_ret;exact ⟨Qat HE,ag⟩
  rw [hi];by_cases q0:0<=g.t
  ·have d0:decide (0<=g.t)=true:=decide_eq_true q0
   have HE:Hid (true=agB g):=by have:=af.out;rw [ay.out,hv,hi,d0] at this;simp only [Bool.true_or,Bool.and_true] at this;exact this.symm
   clear hi hv;go_wp2;go_ret;exact ⟨Qat HE,ag⟩
  ·have d0:decide (0<=g.t)=false:=decide_eq_false q0
   by_cases qa:g.a=0
   ·have ba:(g.a == 0)=true:=by simp [qa]
    have HE:Hid (true=agB g):=by have:=af.out;rw [ay.out,hv,hi,d0,ba] at this;simp only [Bool.false_or,Bool.and_true] at this;exact this.symm
    clear hi hv qa;go_wp2;go_ret;exact ⟨Qat HE,ag⟩
   ·have ba:(g.a == 0)=false:=beq_eq_false_iff_ne.2 qa
    have HE:Hid (false=agB g):=by have:=af.out;rw [ay.out,hv,hi,d0,ba] at this;simp only [Bool.false_or,Bool.and_false] at this;exact this.symm
    clear hi hv qa;go_wp2;go_ret;exact ⟨Qat HE,ag⟩
 ·have b3:(g.k == 3)=true:=by simp [hk]
  have b1:(g.k == 1)=false:=beq_eq_false_iff_ne.2 (by omega);have b2:(g.k == 2)=false:=beq_eq_false_iff_ne.2 (by omega);have b4:(g.k == 4)=false:=beq_eq_false_iff_ne.2 (by omega);have n1:(g.k != 1)=true:=by show (!(g.k == 1))=_;rw [b1];rfl
  have n2:(g.k != 2)=true:=by show (!(g.k == 2))=_;rw [b2];rfl
  have n3:(g.k != 3)=false:=by show (!(g.k == 3))=_;rw [b3];rfl
  have n4:(g.k != 4)=true:=by show (!(g.k == 4))=_;rw [b4];rfl
  have z1:¬ g.k=1:=by omega
  have z2:¬ g.k=2:=by omega
  have z4:¬ g.k=4:=by omega
  have ah:(if g.k=2 then Qc6 g else (g.a == 0) && (g.t == 0))=((g.a == 0) && (g.t == 0)):=if_neg (by omega)
  have aq:=Qaa ah;clear hk ah;have ao:Hid (Qhl g=(g.h == 0 && g.l == 0)):=(rfl:Qhl g=(g.h == 0 && g.l == 0));have hq:=Qdx g.h g.l 0 0;by_cases ac:(g.h == 0 && g.l == 0)=true
  rotate_left
  ·replace ac:(g.h == 0 && g.l == 0)=false:=by simpa using ac
   rw [ac] at hq;have ai:Qhl g=false:=ao.trans ac;have HE:Hid (false=agB g):=by have:=ae.out;simp only [b1,b3,b4,ai,Bool.true_or,Bool.false_or,Bool.or_true,Bool.or_false,Bool.true_and,Bool.and_true,Bool.false_and,Bool.and_false] at this;exact this.symm
   go_wp2;go_ret;exact ⟨Qat HE,ak⟩
  rw [ac] at hq;have an:=Qaa (ao.trans ac);clear ac;go_wp2_with fail;refine (Qk8 (p:=p) SM).mono ?_;rintro e w5 ⟨rfl,al⟩;have ag:=Qaa (Qac ak al);have K5:=QaV K3 al;clear al;by_cases ab:noH g=true
  rotate_left
  ·replace ab:noH g=false:=by simpa using ab
   rw [ab];have HE:Hid (false=agB g):=by have:=ae.out;simp only [b1,b3,b4,an.out,ab,Bool.true_or,Bool.false_or,Bool.or_true,Bool.or_false,Bool.true_and,Bool.and_true,Bool.false_and,Bool.and_false] at this;exact this.symm
   go_wp2;go_ret;exact ⟨Qat HE,ag⟩
  rw [ab];have aw:=Qaa ab;clear ab;have ad:=ae.out;rw [aq.out] at ad;simp only [b1,b3,b4,an.out,aw.out,Bool.true_or,Bool.false_or,Bool.or_true,Bool.or_false,Bool.true_and,Bool.and_true] at ad;have af:=Qaa ad;clear ad ae;by_cases qa:g.a=0
  ·have ba:(g.a == 0)=true:=by simp [qa]
   by_cases qt:g.t=0
   ·have bt:(g.t == 0)=true:=by simp [qt]
    have HE:Hid (true=agB g):=by have:=af.out;rw [ba,bt] at this;exact this.symm
    clear qa qt;go_wp2;go_ret;exact ⟨Qat HE,ag⟩
   ·have bt:(g.t == 0)=false:=beq_eq_false_iff_ne.2 qt
    have HE:Hid (false=agB g):=by have:=af.out;rw [ba,bt] at this;exact this.symm
    clear qa qt;go_wp2;go_ret;exact ⟨Qat HE,ag⟩
  ·have ba:(g.a == 0)=false:=beq_eq_false_iff_ne.2 qa
   have HE:Hid (false=agB g):=by have:=af.out;rw [ba,Bool.false_and] at this;exact this.symm
   clear qa;go_wp2;go_ret;exact ⟨Qat HE,ag⟩
 ·have b4:(g.k == 4)=true:=by simp [hk]
  have b1:(g.k == 1)=false:=beq_eq_false_iff_ne.2 (by omega);have b2:(g.k == 2)=false:=beq_eq_false_iff_ne.2 (by omega);have b3:(g.k == 3)=false:=beq_eq_false_iff_ne.2 (by omega);have n1:(g.k != 1)=true:=by show (!(g.k == 1))=_;rw [b1];rfl
  have n2:(g.k != 2)=true:=by show (!(g.k == 2))=_;rw [b2];rfl
  have n3:(g.k != 3)=true:=by show (!(g.k == 3))=_;rw [b3];rfl
  have n4:(g.k != 4)=false:=by show (!(g.k == 4))=_;rw [b4];rfl
  have z1:¬ g.k=1:=by omega
  have z2:¬ g.k=2:=by omega
  have z3:¬ g.k=3:=by omega
  have ah:(if g.k=2 then Qc6 g else (g.a == 0) && (g.t == 0))=((g.a == 0) && (g.t == 0)):=if_neg (by omega)
  have aq:=Qaa ah;clear hk ah;have ao:Hid (Qhl g=(g.h == 0 && g.l == 0)):=(rfl:Qhl g=(g.h == 0 && g.l == 0));have hq:=Qdx g.h g.l 0 0;by_cases ac:(g.h == 0 && g.l == 0)=true
  rotate_left
  ·replace ac:(g.h == 0 && g.l == 0)=false:=by simpa using ac
   rw [ac] at hq;have ai:Qhl g=false:=ao.trans ac;have HE:Hid (false=agB g):=by have:=ae.out;simp only [b1,b3,b4,ai,Bool.true_or,Bool.false_or,Bool.or_true,Bool.or_false,Bool.true_and,Bool.and_true,Bool.false_and,Bool.and_false] at this;exact this.symm
   go_wp2;go_ret;exact ⟨Qat HE,ak⟩
  rw [ac] at hq;have an:=Qaa (ao.trans ac);clear ac;go_wp2_with fail;refine (Qfw SM (QaI HA ak)).mono ?_;rintro e w4 ⟨rfl,aj⟩;have am:=Qaa (Qac ak aj);have K4:=QaV K3 aj;clear aj;by_cases aa:noS g=true
  rotate_left
  ·replace aa:noS g=false:=by simpa using aa
   rw [aa];have HE:Hid (false=agB g):=by have:=ae.out;simp only [b1,b3,b4,an.out,aa,Bool.true_or,Bool.false_or,Bool.or_true,Bool.or_false,Bool.true_and,Bool.and_true,Bool.false_and,Bool.and_false] at this;exact this.symm
   go_wp2;go_ret;exact ⟨Qat HE,am⟩
  rw [aa];have au:=Qaa aa;clear aa;have ad:=ae.out;rw [aq.out] at ad;simp only [b1,b3,b4,an.out,au.out,Bool.true_or,Bool.false_or,Bool.or_true,Bool.or_false,Bool.true_and,Bool.and_true] at ad;have af:=Qaa ad;clear ad ae;by_cases qa:g.a=0
  ·have ba:(g.a == 0)=true:=by simp [qa]
   by_cases qt:g.t=0
   ·have bt:(g.t == 0)=true:=by simp [qt]
    have HE:Hid (true=agB g):=by have:=af.out;rw [ba,bt] at this;exact this.symm
    clear qa qt;go_wp2;go_ret;exact ⟨Qat HE,am⟩
   ·have bt:(g.t == 0)=false:=beq_eq_false_iff_ne.2 qt
    have HE:Hid (false=agB g):=by have:=af.out;rw [ba,bt] at this;exact this.symm
    clear qa qt;go_wp2;go_ret;exact ⟨Qat HE,am⟩
  ·have ba:(g.a == 0)=false:=beq_eq_false_iff_ne.2 qa
   have HE:Hid (false=agB g):=by have:=af.out;rw [ba,Bool.false_and] at this;exact this.symm
   clear qa;go_wp2;go_ret;exact ⟨Qat HE,am⟩
end Go.Proofs.YtlejlgldgafljaaGreatDoor
