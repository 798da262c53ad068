/-
 Parts.
-/
import Derived.ChangeOld
import Derived.ChangeSlices
import Derived.Deep.SlicePairs
import Derived.Lib.SmallJoins
import Derived.Test.YtandnmpllheniaaGreatDoorCJD
set_option linter.all false
set_option maxHeartbeats 8000000
namespace Go.Proofs.YtandnmpllheniaaGreatDoor
open Go.ChangeShapes Go.WideShapes Go.ChangeAt Go.RowKit Go.PlainAid
structure AgOk (g:Ag):Prop where
 k:I64 g.k
 s:U64 g.s
 h:I64 g.h
 l:U64 g.l
 a:I64 g.a
 t:I64 g.t
 z:U64 g.z
 x:I64 g.x
 y:U64 g.y
 P:∀ b∈g.P,Qa8 b
 N:∀ b∈g.N,Qa8 b
 E:∀ b∈g.E,U64 b
 R:∀ b∈g.R,I64 b
set_option maxRecDepth 10000
open Go.Lib
def noS (g:Ag):Bool:=Qbc g.z g.x g.y g.P g.N 0 0 0 [] []
def noH (g:Ag):Bool:=decide (g.E.length=0) && decide (g.R.length=0)
def Qhm (g:Ag):Bool:=(g.h == 0 && g.l == 0)
def QcR (g:Ag):Bool:=Qmd g.a && (decide (-1<=g.t) && decide (g.t<=1000000000)) && (decide (0<=g.t) || (g.a == 0))
def agB (g:Ag):Bool:=(decide (1<=g.k) && decide (g.k<=4)) && skB g.P g.N && hlB g.E g.R && ((g.k == 1) || Qhm g) && ((g.k == 3) || noS g) && ((g.k == 4) || noH g) && (if g.k=2 then QcR g else (g.a == 0) && (g.t == 0))
def agC (g:Ag):Ag:=⟨1,g.s,g.h,g.l,0,0,0,[],[],0,0,[],[]⟩
def agG (g:Ag):Ag:=⟨2,g.s,0,0,g.a,g.t,0,[],[],0,0,[],[]⟩
def agH (g:Ag):Ag:=⟨3,g.s,0,0,0,0,g.z,g.P,g.N,g.x,g.y,[],[]⟩
def agS (g:Ag):Ag:=⟨4,g.s,0,0,0,0,0,[],[],0,0,g.E,g.R⟩
def agI (g:Ag):Bool:=if g.k=1 then QaF g (agC g) else if g.k=2 then Qme g.a g.t && QaF g (agG g) else if g.k=3 then skB g.P g.N && QaF g (agH g) else if g.k=4 then hlB g.E g.R && QaF g (agS g) else false
theorem Qcf (g:Ag):noS g=true↔g.z=0/\g.x=0/\g.y=0/\g.P=[]/\g.N=[]:=by
 simp [noS,Qbc,and_assoc]
theorem QfB (g:Ag):noH g=true↔g.E=[]/\g.R=[]:=by simp [noH]
theorem QfD:skB [] []=true:=by decide
theorem QfC:hlB [] []=true:=by decide
theorem Qmq (z h l:Int) (P N:List Bn):Qbc z h l P N z h l P N=true:=by simp [Qbc]
theorem Qd6 (E R:List Int):Qbs E R E R=true:=by simp [Qbs]
theorem Qpz (g:Ag):Qme g.a g.t=QcR g:=by
 unfold Qme QcR Qmd;by_cases h1:g.t=-1
 ·rw [if_pos h1,h1]
  by_cases h2:g.a=0
  ·rw [h2];decide
  ·have:(g.a == 0)=false:=ZZf.2 h2
   rw [this];simp [h2]
 ·rw [if_neg h1]
  by_cases h2:0<=g.t
  ·have e1:decide (-1<=g.t)=true:=ZZh (by omega)
   have e2:decide (0<=g.t)=true:=ZZh h2;rw [e1,e2];simp [Bool.and_comm,Bool.and_left_comm,Bool.and_assoc]
  ·have e1:decide (-1<=g.t)=false:=ZZg (by omega)
   have e2:decide (0<=g.t)=false:=ZZg h2;rw [e1,e2];simp
theorem QlW (g:Ag):agI g=agB g:=by
 rw [Bool.eq_iff_iff];unfold agI agB;by_cases h1:g.k=1
 ·rw [if_pos h1]
  simp only [QaF,agC,Qhm,h1,Bool.and_eq_true,Bool.or_eq_true,beq_iff_eq,decide_eq_true_eq,QfB,Qcf];constructor
  ·rintro ⟨⟨⟨⟨⟨_,_⟩,ha⟩,ht⟩,hs⟩,hh⟩
   have ac:noS g=true:=hs;have:=(Qcf g).1 ac;have aa:g.E=[]/\g.R=[]:=by simpa [Qbs] using hh
   refine ⟨⟨⟨⟨⟨⟨by omega,?_⟩,?_⟩,.inl trivial⟩,.inr this⟩,.inr aa⟩,?_⟩
   ·rw [this.2.2.2.1,this.2.2.2.2];exact QfD
   ·rw [aa.1,aa.2];exact QfC
   ·simp [ha,ht]
  ·rintro ⟨⟨⟨⟨⟨⟨_,_⟩,_⟩,_⟩,hs⟩,hh⟩,af⟩
   have ab:g.a=0/\g.t=0:=by simpa using af
   have ac:g.z=0/\g.x=0/\g.y=0/\g.P=[]/\g.N=[]:=by rcases hs with h | h;exact absurd h (by omega);exact h
   have aa:g.E=[]/\g.R=[]:=by rcases hh with h | h;exact absurd h (by omega);exact h
   refine ⟨⟨⟨⟨⟨⟨trivial,trivial⟩,⟨trivial,trivial⟩⟩,ab.1⟩,ab.2⟩,(Qcf g).2 ac⟩,?_⟩;rw [aa.1,aa.2];exact Qd6 [] []
 rw [if_neg h1];by_cases h2:g.k=2
 ·rw [if_pos h2,Qpz]
  simp only [QaF,agG,Qhm,h2,Bool.and_eq_true,Bool.or_eq_true,beq_iff_eq,decide_eq_true_eq,QfB,Qcf];constructor
  ·rintro ⟨ag,⟨⟨⟨⟨⟨_,_⟩,ae⟩,_⟩,_⟩,hs⟩,hh⟩
   have ac:noS g=true:=hs;have:=(Qcf g).1 ac;have aa:g.E=[]/\g.R=[]:=by simpa [Qbs] using hh
   refine ⟨⟨⟨⟨⟨⟨by omega,?_⟩,?_⟩,.inr ae⟩,.inr this⟩,.inr aa⟩,?_⟩
   ·rw [this.2.2.2.1,this.2.2.2.2];exact QfD
   ·rw [aa.1,aa.2];exact QfC
   ·simpa using ag
  ·rintro ⟨⟨⟨⟨⟨⟨_,_⟩,_⟩,ae⟩,hs⟩,hh⟩,ag⟩
   have aj:QcR g=true:=by simpa using ag
   have ad:g.h=0/\g.l=0:=by rcases ae with h | h;exact absurd h (by omega);exact h
   have ac:g.z=0/\g.x=0/\g.y=0/\g.P=[]/\g.N=[]:=by rcases hs with h | h;exact absurd h (by omega);exact h
   have aa:g.E=[]/\g.R=[]:=by rcases hh with h | h;exact absurd h (by omega);exact h
   refine ⟨aj,⟨⟨⟨⟨⟨trivial,trivial⟩,ad⟩,trivial⟩,trivial⟩,(Qcf g).2 ac⟩,?_⟩;rw [aa.1,aa.2];exact Qd6 [] []
 rw [if_neg h2];by_cases h3:g.k=3
 ·rw [if_pos h3]
  simp only [QaF,agH,Qhm,h3,Bool.and_eq_true,Bool.or_eq_true,beq_iff_eq,decide_eq_true_eq,QfB,Qcf];constructor
  ·rintro ⟨ah,⟨⟨⟨⟨⟨_,_⟩,ae⟩,ha⟩,ht⟩,_⟩,hh⟩
   have aa:g.E=[]/\g.R=[]:=by simpa [Qbs] using hh
   refine ⟨⟨⟨⟨⟨⟨by omega,ah⟩,?_⟩,.inr ae⟩,.inl trivial⟩,.inr aa⟩,?_⟩
   ·rw [aa.1,aa.2];exact QfC
   ·simp [ha,ht]
  ·rintro ⟨⟨⟨⟨⟨⟨_,ah⟩,_⟩,ae⟩,_⟩,hh⟩,af⟩
   have ab:g.a=0/\g.t=0:=by simpa using af
   have ad:g.h=0/\g.l=0:=by rcases ae with h | h;exact absurd h (by omega);exact h
   have aa:g.E=[]/\g.R=[]:=by rcases hh with h | h;exact absurd h (by omega);exact h
   refine ⟨ah,⟨⟨⟨⟨⟨trivial,trivial⟩,ad⟩,ab.1⟩,ab.2⟩,Qmq _ _ _ _ _⟩,?_⟩;rw [aa.1,aa.2];exact Qd6 [] []
 rw [if_neg h3];by_cases h4:g.k=4
 ·rw [if_pos h4]
  simp only [QaF,agS,Qhm,h4,Bool.and_eq_true,Bool.or_eq_true,beq_iff_eq,decide_eq_true_eq,QfB,Qcf];constructor
  ·rintro ⟨ai,⟨⟨⟨⟨⟨_,_⟩,ae⟩,ha⟩,ht⟩,hs⟩,_⟩
   have ac:noS g=true:=hs;have:=(Qcf g).1 ac;refine ⟨⟨⟨⟨⟨⟨by omega,?_⟩,ai⟩,.inr ae⟩,.inr this⟩,.inl trivial⟩,?_⟩
   ·rw [this.2.2.2.1,this.2.2.2.2];exact QfD
   ·simp [ha,ht]
  ·rintro ⟨⟨⟨⟨⟨⟨_,_⟩,ai⟩,ae⟩,hs⟩,_⟩,af⟩
   have ab:g.a=0/\g.t=0:=by simpa using af
   have ad:g.h=0/\g.l=0:=by rcases ae with h | h;exact absurd h (by omega);exact h
   have ac:g.z=0/\g.x=0/\g.y=0/\g.P=[]/\g.N=[]:=by rcases hs with h | h;exact absurd h (by omega);exact h
   exact ⟨ai,⟨⟨⟨⟨⟨trivial,trivial⟩,ad⟩,ab.1⟩,ab.2⟩,(Qcf g).2 ac⟩,Qd6 _ _⟩
 rw [if_neg h4];simp only [Bool.and_eq_true,decide_eq_true_eq];constructor
 ·intro h;exact absurd h (by simp)
 ·rintro ⟨⟨⟨⟨⟨⟨⟨ha,hb⟩,_⟩,_⟩,_⟩,_⟩,_⟩,_⟩
  exfalso;omega
theorem QoV {w:World} {g:Ag} {p:Pl} (ok:AgOk g) (sm:AgSm g) (hA:AgAt w g p) :
  Calls Tryz.prog 287 #[.agg #[.int .u64 g.z,.slice p.pa g.P.length p.pc,.slice p.na g.N.length p.nc,.int .i64 g.x,.int .u64 g.y]] w fun e w'=>e=.returned (.bool (skB g.P g.N))/\Below w.heap.size w w':=by
 have aa:Hid (∀ o,Below w.heap.size w (w.alloc o)):=fun o=>(ZZb _ _).alloc (ZZa _) o;have HA:=Qaa hA;have OK:=Qaa ok;have SM:=Qaa sm;clear ok sm hA;go_enter Tryz.func287,Tryz.ntmps287;go_wp2_with fail;refine (Qa0 rfl rfl SM.out.P SM.out.N (Qae HA.out.P (aa.out _)) (Qae HA.out.N (aa.out _)) OK.out.P OK.out.N).mono ?_;rintro e w1 ⟨rfl,ab⟩;have ac:=Qaa (Qac (aa.out _) ab);clear ab;go_wp2;go_ret;exact ⟨rfl,ac⟩
theorem Qo2 {w:World} {g:Ag} {p:Pl} (sm:AgSm g) (hA:AgAt w g p) :
  Calls Tryz.prog 308 #[.agg #[.slice p.ea g.E.length p.ec,.slice p.ra g.R.length p.rc]] w fun e w'=>e=.returned (.bool (hlB g.E g.R))/\Below w.heap.size w w':=by
 have aa:Hid (∀ o,Below w.heap.size w (w.alloc o)):=fun o=>(ZZb _ _).alloc (ZZa _) o;have HA:=Qaa hA;have SM:=Qaa sm;clear sm hA;go_enter Tryz.func308,Tryz.ntmps308;go_wp2_with fail;refine (QcI rfl rfl SM.out.E SM.out.R (Qaf HA.out.E (aa.out _)) (Qaf HA.out.R (aa.out _))).mono ?_;rintro e w1 ⟨rfl,ab⟩;have ac:=Qaa (Qac (aa.out _) ab);clear ab;go_wp2;go_ret;exact ⟨rfl,ac⟩
theorem QcH (w:World) (ao:Option Addr):QaA w ao []:=fun h=>absurd h (Nat.lt_irrefl 0)
theorem Qd0 (kd:IntKind) (w:World) (ao:Option Addr):Qaq kd w ao []:=fun h=>absurd h (Nat.lt_irrefl 0)
theorem QcK {w:World} {g:Ag} {p:Pl} (ok:AgOk g) (sm:AgSm g) (hA:AgAt w g p) :
  Calls Tryz.prog 84 #[.agg (Qak g p)] w fun e w'=>e=.returned (.bool (agI g))/\Below w.heap.size w w':=by
 have HA:=Qaa hA;have OK:=Qaa ok;have SM:=Qaa sm;have al:Hid (∀ o,Below w.heap.size w (w.alloc o)):=fun o=>(ZZb _ _).alloc (ZZa _) o;clear ok sm hA;by_cases h1:g.k=1
 ·have aj:Hid (agI g=(true && QaF g (agC g))):=by unfold agI;rw [if_pos h1];exact (Bool.true_and _).symm
  have HP:=Qaa (Qe6 (g:=g) (p:=p) (h:=h1));clear h1;go_enter Tryz.func84,Tryz.ntmps84;go_wp2_with fail;refine (HP.out _).mono ?_;rintro e w1 ⟨rfl,ad⟩;have ai:=Qaa (Qac (al.out _) ad);have K1:=QaD (Qev w 49 g p) ad;clear ad;go_wp2_with fail;refine (Qpu _ _ _).mono ?_;rintro e w2 ⟨rfl,af⟩;have ac:=Qaa (Qac ai af);have K2:=QaD K1 af;clear af K1;have HE:Hid (QaF g (agC g)=agI g):=by have:=aj.out;rw [Bool.true_and] at this;exact this.symm
  have ae:Hid (∀ W,Below w2.heap.size w2 W->Qb9 W w.heap.size g p):=fun W hW=>QaD K2 hW
  have HX:Hid (∀ W,Below w2.heap.size w2 W->AgAt W (agC g) ⟨none,0,none,0,none,0,none,0⟩):=fun W hW=>by
   have h:=Qao HA (Qac ac hW);exact ⟨QcH _ _,QcH _ _,Qd0 _ _ _,Qd0 _ _ _⟩
  have SX:Hid (AgSm (agC g)):=⟨by simp [agC],by simp [agC],by simp [agC],by simp [agC]⟩;clear K2;go_wp2_with fail
  go_region_held3 (fun W=>Qes w2.heap.size w2 W/\Qb9 W w.heap.size g p)
   (first | exact ab | exact ⟨held (Below.refl _ _).drew (by simp),ae.out _ (Below.refl _ _).drew⟩)
   (first
    | (go_at_call 85;have hS:=(‹Qes _ _ _/\_›).1;refine (Qfu g p _).mono ?_;rintro e w3 ⟨rfl,ag⟩;have aa:=(Qbn ag hS).1;have ab:Qes w2.heap.size w2 w3/\_:=⟨held aa (ZZa _),ae.out _ aa⟩;clear ag aa)
    | (go_at_call 102;have hS:=(‹Qes _ _ _/\_›).1;refine (Qcx (g:=g) (p:=p) (g':=agC g) (p':=⟨none,0,none,0,none,0,none,0⟩) SM SX (Qao HA (Qac ac hS.1)) (HX.out _ hS.1)).mono ?_;rintro e w4 ⟨rfl,ah⟩;have aa:=(Qbn ah hS).1;have ab:Qes w2.heap.size w2 w4/\_:=⟨held aa (ZZa _),ae.out _ aa⟩;clear ah aa))
  have ak:=Qaa (Qac ac ab.1.1);clear ab;go_wp2;go_ret;exact ⟨Qat HE,ak⟩
 by_cases h2:g.k=2
 ·have aj:Hid (agI g=(Qme g.a g.t && QaF g (agG g))):=by unfold agI;rw [if_neg h1];rw [if_pos h2];rfl
  have HP:=Qaa (QeT (g:=g) (p:=p) (h:=h2));clear h1 h2;go_enter Tryz.func84,Tryz.ntmps84;go_wp2_with fail;refine (HP.out _).mono ?_;rintro e w1 ⟨rfl,ad⟩;have ai:=Qaa (Qac (al.out _) ad);have K1:=QaD (Qev w 49 g p) ad;clear ad;go_wp2_with fail;refine (QpD _ _ _).mono ?_;rintro e w2 ⟨rfl,af⟩;have ac:=Qaa (Qac ai af);have K2:=QaD K1 af;clear af K1
  cases hv:Qme g.a g.t with
  | false=>
   have HE:Hid (false=agI g):=by have:=aj.out;rw [hv,Bool.false_and] at this;exact this.symm
   go_wp2;go_ret;exact ⟨Qat HE,ac⟩
  | true=>
   have HE:Hid (QaF g (agG g)=agI g):=by have:=aj.out;rw [hv,Bool.true_and] at this;exact this.symm
   have ae:Hid (∀ W,Below w2.heap.size w2 W->Qb9 W w.heap.size g p):=fun W hW=>QaD K2 hW
   have HX:Hid (∀ W,Below w2.heap.size w2 W->AgAt W (agG g) ⟨none,0,none,0,none,0,none,0⟩):=fun W hW=>by
    have h:=Qao HA (Qac ac hW);exact ⟨QcH _ _,QcH _ _,Qd0 _ _ _,Qd0 _ _ _⟩
   have SX:Hid (AgSm (agG g)):=⟨by simp [agG],by simp [agG],by simp [agG],by simp [agG]⟩;clear K2;go_wp2_with fail
   go_region_held3 (fun W=>Qes w2.heap.size w2 W/\Qb9 W w.heap.size g p)
    (first | exact ab | exact ⟨held (Below.refl _ _).drew (by simp),ae.out _ (Below.refl _ _).drew⟩)
    (first
     | (go_at_call 85;have hS:=(‹Qes _ _ _/\_›).1;refine (QfJ g p _).mono ?_;rintro e w3 ⟨rfl,ag⟩;have aa:=(Qbn ag hS).1;have ab:Qes w2.heap.size w2 w3/\_:=⟨held aa (ZZa _),ae.out _ aa⟩;clear ag aa)
     | (go_at_call 102;have hS:=(‹Qes _ _ _/\_›).1;refine (Qcx (g:=g) (p:=p) (g':=agG g) (p':=⟨none,0,none,0,none,0,none,0⟩) SM SX (Qao HA (Qac ac hS.1)) (HX.out _ hS.1)).mono ?_;rintro e w4 ⟨rfl,ah⟩;have aa:=(Qbn ah hS).1;have ab:Qes w2.heap.size w2 w4/\_:=⟨held aa (ZZa _),ae.out _ aa⟩;clear ah aa))
   have ak:=Qaa (Qac ac ab.1.1);clear ab;go_wp2;go_ret;exact ⟨Qat HE,ak⟩
 by_cases h3:g.k=3
 ·have aj:Hid (agI g=(skB g.P g.N && QaF g (agH g))):=by unfold agI;rw [if_neg h1];rw [if_neg h2];rw [if_pos h3];rfl
  have HP:=Qaa (Qfk (g:=g) (p:=p) (h:=h3));clear h1 h2 h3;go_enter Tryz.func84,Tryz.ntmps84;go_wp2_with fail;refine (HP.out _).mono ?_;rintro e w1 ⟨rfl,ad⟩;have ai:=Qaa (Qac (al.out _) ad);have K1:=QaD (Qev w 49 g p) ad;clear ad;go_wp2_with fail;refine (QoV OK SM (Qao HA ai)).mono ?_;rintro e w2 ⟨rfl,af⟩;have ac:=Qaa (Qac ai af);have K2:=QaD K1 af;clear af K1
  cases hv:skB g.P g.N with
  | false=>
   have HE:Hid (false=agI g):=by have:=aj.out;rw [hv,Bool.false_and] at this;exact this.symm
   go_wp2;go_ret;exact ⟨Qat HE,ac⟩
  | true=>
   have HE:Hid (QaF g (agH g)=agI g):=by have:=aj.out;rw [hv,Bool.true_and] at this;exact this.symm
   have ae:Hid (∀ W,Below w2.heap.size w2 W->Qb9 W w.heap.size g p):=fun W hW=>QaD K2 hW
   have HX:Hid (∀ W,Below w2.heap.size w2 W->AgAt W (agH g) ⟨p.pa,p.pc,p.na,p.nc,none,0,none,0⟩):=fun W hW=>by
    have h:=Qao HA (Qac ac hW);exact ⟨h.P,h.N,Qd0 _ _ _,Qd0 _ _ _⟩
   have SX:Hid (AgSm (agH g)):=⟨SM.out.P,SM.out.N,by simp [agH],by simp [agH]⟩;clear K2;go_wp2_with fail
   go_region_held3 (fun W=>Qes w2.heap.size w2 W/\Qb9 W w.heap.size g p)
    (first | exact ab | exact ⟨held (Below.refl _ _).drew (by simp),ae.out _ (Below.refl _ _).drew⟩)
    (first
     | (go_at_call 85;have hS:=(‹Qes _ _ _/\_›).1;refine (Qfv g p _).mono ?_;rintro e w3 ⟨rfl,ag⟩;have aa:=(Qbn ag hS).1;have ab:Qes w2.heap.size w2 w3/\_:=⟨held aa (ZZa _),ae.out _ aa⟩;clear ag aa)
     | (go_at_call 102;have hS:=(‹Qes _ _ _/\_›).1;refine (Qcx (g:=g) (p:=p) (g':=agH g) (p':=⟨p.pa,p.pc,p.na,p.nc,none,0,none,0⟩) SM SX (Qao HA (Qac ac hS.1)) (HX.out _ hS.1)).mono ?_;rintro e w4 ⟨rfl,ah⟩;have aa:=(Qbn ah hS).1;have ab:Qes w2.heap.size w2 w4/\_:=⟨held aa (ZZa _),ae.out _ aa⟩;clear ah aa))
   have ak:=Qaa (Qac ac ab.1.1);clear ab;go_wp2;go_ret;exact ⟨Qat HE,ak⟩
 by_cases h4:g.k=4
 ·have aj:Hid (agI g=(hlB g.E g.R && QaF g (agS g))):=by unfold agI;rw [if_neg h1];rw [if_neg h2];rw [if_neg h3];rw [if_pos h4];rfl
  have HP:=Qaa (QeX (g:=g) (p:=p) (h:=h4));clear h1 h2 h3 h4;go_enter Tryz.func84,Tryz.ntmps84;go_wp2_with fail;refine (HP.out _).mono ?_;rintro e w1 ⟨rfl,ad⟩;have ai:=Qaa (Qac (al.out _) ad);have K1:=QaD (Qev w 49 g p) ad;clear ad;go_wp2_with fail;refine (Qo2 SM (Qao HA ai)).mono ?_;rintro e w2 ⟨rfl,af⟩;have ac:=Qaa (Qac ai af);have K2:=QaD K1 af;clear af K1
  cases hv:hlB g.E g.R with
  | false=>
   have HE:Hid (false=agI g):=by have:=aj.out;rw [hv,Bool.false_and] at this;exact this.symm
   go_wp2;go_ret;exact ⟨Qat HE,ac⟩
  | true=>
   have HE:Hid (QaF g (agS g)=agI g):=by have:=aj.out;rw [hv,Bool.true_and] at this;exact this.symm
   have ae:Hid (∀ W,Below w2.heap.size w2 W->Qb9 W w.heap.size g p):=fun W hW=>QaD K2 hW
   have HX:Hid (∀ W,Below w2.heap.size w2 W->AgAt W (agS g) ⟨none,0,none,0,p.ea,p.ec,p.ra,p.rc⟩):=fun W hW=>by
    have h:=Qao HA (Qac ac hW);exact ⟨QcH _ _,QcH _ _,h.E,h.R⟩
   have SX:Hid (AgSm (agS g)):=⟨by simp [agS],by simp [agS],SM.out.E,SM.out.R⟩;clear K2;go_wp2_with fail
   go_region_held3 (fun W=>Qes w2.heap.size w2 W/\Qb9 W w.heap.size g p)
    (first | exact ab | exact ⟨held (Below.refl _ _).drew (by simp),ae.out _ (Below.refl _ _).drew⟩)
    (first
     | (go_at_call 85;have hS:=(‹Qes _ _ _/\_›).1;refine (QfT g p _).mono ?_;rintro e w3 ⟨rfl,ag⟩;have aa:=(Qbn ag hS).1;have ab:Qes w2.heap.size w2 w3/\_:=⟨held aa (ZZa _),ae.out _ aa⟩;clear ag aa)
     | (go_at_call 102;have hS:=(‹Qes _ _ _/\_›).1;refine (Qcx (g:=g) (p:=p) (g':=agS g) (p':=⟨none,0,none,0,p.ea,p.ec,p.ra,p.rc⟩) SM SX (Qao HA (Qac ac hS.1)) (HX.out _ hS.1)).mono ?_;rintro e w4 ⟨rfl,ah⟩;have aa:=(Qbn ah hS).1;have ab:Qes w2.heap.size w2 w4/\_:=⟨held aa (ZZa _),ae.out _ aa⟩;clear ah aa))
   have ak:=Qaa (Qac ac ab.1.1);clear ab;go_wp2;go_ret;exact ⟨Qat HE,ak⟩
 have HE:Hid (false=agI g):=by unfold agI;rw [if_neg h1,if_neg h2,if_neg h3,if_neg h4];rfl
 have HP:=Qaa (Qm6 (g:=g) (p:=p) (h1:=h1) (h2:=h2) (h3:=h3) (h4:=h4));clear h1 h2 h3 h4;go_enter Tryz.func84,Tryz.ntmps84;go_wp2_with fail;refine (HP.out _).mono ?_;rintro e w1 ⟨rfl,ad⟩;have ai:=Qaa (Qac (al.out _) ad);clear ad;go_wp2;go_ret;exact ⟨Qat HE,ai⟩
end Go.Proofs.YtandnmpllheniaaGreatDoor
