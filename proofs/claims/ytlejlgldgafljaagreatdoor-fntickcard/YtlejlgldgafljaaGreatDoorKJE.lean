/-
 Parts.
-/
import Derived.ChangeOld
import Derived.ChangeSlices
import Derived.Deep.SlicePairs
import Derived.Lib.SmallJoins
import Derived.Test.YtlejlgldgafljaaGreatDoorKJD
set_option maxHeartbeats 8000000
set_option linter.all false
namespace Go.Proofs.YtlejlgldgafljaaGreatDoor
open Go.ChangeShapes Go.WideShapes Go.ChangeAt Go.RowKit Go.PlainAid Go.Lib Tryz
structure AgOk (g:Ag):Prop where
 k:I64 g.k
 s:U64 g.s
 h:I64 g.h
 l:U64 g.l
 a:I64 g.a
 t:I64 g.t
 z:U64 g.z
 x:I64 g.x
 y:U64 g.y
 P:∀ b∈g.P,Qb4 b
 N:∀ b∈g.N,Qb4 b
 E:∀ b∈g.E,U64 b
 R:∀ b∈g.R,I64 b
set_option maxRecDepth 10000
def noS (g:Ag):Bool:=Qa4 g.z g.x g.y g.P g.N 0 0 0 [] []
def noH (g:Ag):Bool:=decide (g.E.length=0) && decide (g.R.length=0)
def QgT (g:Ag):Bool:=(g.h == 0 && g.l == 0)
def Qc2 (g:Ag):Bool:=Qmv g.a && (decide (-1<=g.t) && decide (g.t<=1000000000)) && (decide (0<=g.t) || (g.a == 0))
def agB (g:Ag):Bool:=(decide (1<=g.k) && decide (g.k<=4)) && skB g.P g.N && hlB g.E g.R && ((g.k == 1) || QgT g) && ((g.k == 3) || noS g) && ((g.k == 4) || noH g) && (if g.k=2 then Qc2 g else (g.a == 0) && (g.t == 0))
def agC (g:Ag):Ag:=⟨1,g.s,g.h,g.l,0,0,0,[],[],0,0,[],[]⟩
def agG (g:Ag):Ag:=⟨2,g.s,0,0,g.a,g.t,0,[],[],0,0,[],[]⟩
def agH (g:Ag):Ag:=⟨3,g.s,0,0,0,0,g.z,g.P,g.N,g.x,g.y,[],[]⟩
def agS (g:Ag):Ag:=⟨4,g.s,0,0,0,0,0,[],[],0,0,g.E,g.R⟩
def agI (g:Ag):Bool:=if g.k=1 then QaH g (agC g) else if g.k=2 then QmB g.a g.t && QaH g (agG g) else if g.k=3 then skB g.P g.N && QaH g (agH g) else if g.k=4 then hlB g.E g.R && QaH g (agS g) else false
theorem QbX (g:Ag):noS g=true↔g.z=0/\g.x=0/\g.y=0/\g.P=[]/\g.N=[]:=by
 simp [noS,Qa4,and_assoc]
theorem Qe3 (g:Ag):noH g=true↔g.E=[]/\g.R=[]:=by simp [noH]
theorem QeY:skB [] []=true:=by decide
theorem Qfc:hlB [] []=true:=by decide
theorem QmG (z h l:Int) (P N:List Bn):Qa4 z h l P N z h l P N=true:=by simp [Qa4]
theorem Qdt (E R:List Int):Qbq E R E R=true:=by simp [Qbq]
theorem QqT (g:Ag):QmB g.a g.t=Qc2 g:=by
 unfold QmB Qc2 Qmv;by_cases h1:g.t=-1
 ·rw [if_pos h1,h1]
  by_cases h2:g.a=0
  ·rw [h2];decide
  ·have:(g.a == 0)=false:=beq_eq_false_iff_ne.2 h2
   rw [this];simp [h2]
 ·rw [if_neg h1]
  by_cases h2:0<=g.t
  ·have e1:decide (-1<=g.t)=true:=decide_eq_true (by omega)
   have e2:decide (0<=g.t)=true:=decide_eq_true h2;rw [e1,e2];simp [Bool.and_comm,Bool.and_left_comm,Bool.and_assoc]
  ·have e1:decide (-1<=g.t)=false:=decide_eq_false (by omega)
   have e2:decide (0<=g.t)=false:=decide_eq_false h2;rw [e1,e2];simp
theorem ag_one (g:Ag):agI g=agB g:=by
 rw [Bool.eq_iff_iff];unfold agI agB;by_cases h1:g.k=1
 ·rw [if_pos h1]
  simp only [QaH,agC,QgT,h1,Bool.and_eq_true,Bool.or_eq_true,beq_iff_eq,decide_eq_true_eq,Qe3,QbX];constructor
  ·rintro ⟨⟨⟨⟨⟨_,_⟩,ha⟩,ht⟩,hs⟩,hh⟩
   have ad:noS g=true:=hs;have:=(QbX g).1 ad;have aa:g.E=[]/\g.R=[]:=by simpa [Qbq] using hh
   refine ⟨⟨⟨⟨⟨⟨by omega,?_⟩,?_⟩,.inl trivial⟩,.inr this⟩,.inr aa⟩,?_⟩
   ·rw [this.2.2.2.1,this.2.2.2.2];exact QeY
   ·rw [aa.1,aa.2];exact Qfc
   ·simp [ha,ht]
  ·rintro ⟨⟨⟨⟨⟨⟨_,_⟩,_⟩,_⟩,hs⟩,hh⟩,af⟩
   have ab:g.a=0/\g.t=0:=by simpa using af
   have ad:g.z=0/\g.x=0/\g.y=0/\g.P=[]/\g.N=[]:=by rcases hs with h | h;exact absurd h (by omega);exact h
   have aa:g.E=[]/\g.R=[]:=by rcases hh with h | h;exact absurd h (by omega);exact h
   refine ⟨⟨⟨⟨⟨⟨trivial,trivial⟩,⟨trivial,trivial⟩⟩,ab.1⟩,ab.2⟩,(QbX g).2 ad⟩,?_⟩;rw [aa.1,aa.2];exact Qdt [] []
 rw [if_neg h1];by_cases h2:g.k=2
 ·rw [if_pos h2,QqT]
  simp only [QaH,agG,QgT,h2,Bool.and_eq_true,Bool.or_eq_true,beq_iff_eq,decide_eq_true_eq,Qe3,QbX];constructor
  ·rintro ⟨aj,⟨⟨⟨⟨⟨_,_⟩,ae⟩,_⟩,_⟩,hs⟩,hh⟩
   have ad:noS g=true:=hs;have:=(QbX g).1 ad;have aa:g.E=[]/\g.R=[]:=by simpa [Qbq] using hh
   refine ⟨⟨⟨⟨⟨⟨by omega,?_⟩,?_⟩,.inr ae⟩,.inr this⟩,.inr aa⟩,?_⟩
   ·rw [this.2.2.2.1,this.2.2.2.2];exact QeY
   ·rw [aa.1,aa.2];exact Qfc
   ·simpa using aj
  ·rintro ⟨⟨⟨⟨⟨⟨_,_⟩,_⟩,ae⟩,hs⟩,hh⟩,aj⟩
   have ag:Qc2 g=true:=by simpa using aj
   have ac:g.h=0/\g.l=0:=by rcases ae with h | h;exact absurd h (by omega);exact h
   have ad:g.z=0/\g.x=0/\g.y=0/\g.P=[]/\g.N=[]:=by rcases hs with h | h;exact absurd h (by omega);exact h
   have aa:g.E=[]/\g.R=[]:=by rcases hh with h | h;exact absurd h (by omega);exact h
   refine ⟨ag,⟨⟨⟨⟨⟨trivial,trivial⟩,ac⟩,trivial⟩,trivial⟩,(QbX g).2 ad⟩,?_⟩;rw [aa.1,aa.2];exact Qdt [] []
 rw [if_neg h2];by_cases h3:g.k=3
 ·rw [if_pos h3]
  simp only [QaH,agH,QgT,h3,Bool.and_eq_true,Bool.or_eq_true,beq_iff_eq,decide_eq_true_eq,Qe3,QbX];constructor
  ·rintro ⟨ah,⟨⟨⟨⟨⟨_,_⟩,ae⟩,ha⟩,ht⟩,_⟩,hh⟩
   have aa:g.E=[]/\g.R=[]:=by simpa [Qbq] using hh
   refine ⟨⟨⟨⟨⟨⟨by omega,ah⟩,?_⟩,.inr ae⟩,.inl trivial⟩,.inr aa⟩,?_⟩
   ·rw [aa.1,aa.2];exact Qfc
   ·simp [ha,ht]
  ·rintro ⟨⟨⟨⟨⟨⟨_,ah⟩,_⟩,ae⟩,_⟩,hh⟩,af⟩
   have ab:g.a=0/\g.t=0:=by simpa using af
   have ac:g.h=0/\g.l=0:=by rcases ae with h | h;exact absurd h (by omega);exact h
   have aa:g.E=[]/\g.R=[]:=by rcases hh with h | h;exact absurd h (by omega);exact h
   refine ⟨ah,⟨⟨⟨⟨⟨trivial,trivial⟩,ac⟩,ab.1⟩,ab.2⟩,QmG _ _ _ _ _⟩,?_⟩;rw [aa.1,aa.2];exact Qdt [] []
 rw [if_neg h3];by_cases h4:g.k=4
 ·rw [if_pos h4]
  simp only [QaH,agS,QgT,h4,Bool.and_eq_true,Bool.or_eq_true,beq_iff_eq,decide_eq_true_eq,Qe3,QbX];constructor
  ·rintro ⟨ai,⟨⟨⟨⟨⟨_,_⟩,ae⟩,ha⟩,ht⟩,hs⟩,_⟩
   have ad:noS g=true:=hs;have:=(QbX g).1 ad;refine ⟨⟨⟨⟨⟨⟨by omega,?_⟩,ai⟩,.inr ae⟩,.inr this⟩,.inl trivial⟩,?_⟩
   ·rw [this.2.2.2.1,this.2.2.2.2];exact QeY
   ·simp [ha,ht]
  ·rintro ⟨⟨⟨⟨⟨⟨_,_⟩,ai⟩,ae⟩,hs⟩,_⟩,af⟩
   have ab:g.a=0/\g.t=0:=by simpa using af
   have ac:g.h=0/\g.l=0:=by rcases ae with h | h;exact absurd h (by omega);exact h
   have ad:g.z=0/\g.x=0/\g.y=0/\g.P=[]/\g.N=[]:=by rcases hs with h | h;exact absurd h (by omega);exact h
   exact ⟨ai,⟨⟨⟨⟨⟨trivial,trivial⟩,ac⟩,ab.1⟩,ab.2⟩,(QbX g).2 ad⟩,Qdt _ _⟩
 rw [if_neg h4];simp only [Bool.and_eq_true,decide_eq_true_eq];constructor
 ·intro h;exact absurd h (by simp)
 ·rintro ⟨⟨⟨⟨⟨⟨⟨ha,hb⟩,_⟩,_⟩,_⟩,_⟩,_⟩,_⟩
  exfalso;omega
variable {w:World}
variable {g:Ag}
variable {p:Pl}
theorem Qqi (ok:AgOk g) (sm:AgSm g) (hA:AgAt w g p) :
  Calls prog 301 #[.agg #[.int .u64 g.z,.slice p.pa g.P.length p.pc,.slice p.na g.N.length p.nc,.int .i64 g.x,.int .u64 g.y]] w fun e w'=>e=.returned (.bool (skB g.P g.N))/\Below w.heap.size w w':=by
 have aa:Hid (∀ o,Below w.heap.size w (w.alloc o)):=fun o=>(Below.refl _ _).alloc (Nat.le_refl _) o;have HA:=Qaa hA;have OK:=Qaa ok;have SM:=Qaa sm;clear ok sm hA;go_enter func301,ntmps301;go_wp2_with fail;refine (Qgr rfl rfl SM.out.P SM.out.N (Qai HA.out.P (aa.out _)) (Qai HA.out.N (aa.out _)) OK.out.P OK.out.N).mono ?_;rintro e w1 ⟨rfl,ab⟩;have ac:=Qaa (Qac (aa.out _) ab);clear ab;go_wp2;go_ret;exact ⟨rfl,ac⟩
theorem QqS (sm:AgSm g) (hA:AgAt w g p) :
  Calls prog 307 #[.agg #[.slice p.ea g.E.length p.ec,.slice p.ra g.R.length p.rc]] w fun e w'=>e=.returned (.bool (hlB g.E g.R))/\Below w.heap.size w w':=by
 have aa:Hid (∀ o,Below w.heap.size w (w.alloc o)):=fun o=>(Below.refl _ _).alloc (Nat.le_refl _) o;have HA:=Qaa hA;have SM:=Qaa sm;clear sm hA;go_enter func307,ntmps307;go_wp2_with fail;refine (Qjb rfl rfl SM.out.E SM.out.R (Qak HA.out.E (aa.out _)) (Qak HA.out.R (aa.out _))).mono ?_;rintro e w1 ⟨rfl,ab⟩;have ac:=Qaa (Qac (aa.out _) ab);clear ab;go_wp2;go_ret;exact ⟨rfl,ac⟩
theorem Qcr (w:World) (ao:Option Addr):QaO w ao []:=fun h=>absurd h (Nat.lt_irrefl 0)
theorem QdL (kd:IntKind) (w:World) (ao:Option Addr):QaC kd w ao []:=fun h=>absurd h (Nat.lt_irrefl 0)
theorem QjI (ok:AgOk g) (sm:AgSm g) (hA:AgAt w g p) :
  Calls prog 188 #[.agg (Qav g p)] w fun e w'=>e=.returned (.bool (agI g))/\Below w.heap.size w w':=by
 have HA:=Qaa hA;have OK:=Qaa ok;have SM:=Qaa sm;have al:Hid (∀ o,Below w.heap.size w (w.alloc o)):=fun o=>(Below.refl _ _).alloc (Nat.le_refl _) o;clear ok sm hA;by_cases h1:g.k=1
 ·have aj:Hid (agI g=(true && QaH g (agC g))):=by unfold agI;rw [if_pos h1];exact (Bool.true_and _).symm
  have HP:=Qaa (Qnh (g:=g) (p:=p) (h:=h1));clear h1;go_enter func188,ntmps188;go_wp2_with fail;refine (HP.out _).mono ?_;rintro e w1 ⟨rfl,ad⟩;have ag:=Qaa (Qac (al.out _) ad);have K1:=QaQ (Qf3 w 73 g p) ad;clear ad;go_wp2_with fail;refine (Qrs _ _ _).mono ?_;rintro e w2 ⟨rfl,af⟩;have ac:=Qaa (Qac ag af);have K2:=QaQ K1 af;clear af K1;have HE:Hid (QaH g (agC g)=agI g):=by have:=aj.out;rw [Bool.true_and] at this;exact this.symm
  have ae:Hid (∀ W,Below w2.heap.size w2 W->Qdn W w.heap.size g p):=fun W hW=>QaQ K2 hW
  have HX:Hid (∀ W,Below w2.heap.size w2 W->AgAt W (agC g) ⟨none,0,none,0,none,0,none,0⟩):=fun W hW=>by
   have h:=Qaz HA (Qac ac hW);exact ⟨Qcr _ _,Qcr _ _,QdL _ _ _,QdL _ _ _⟩
  have SX:Hid (AgSm (agC g)):=⟨by simp [agC],by simp [agC],by simp [agC],by simp [agC]⟩;clear K2;go_wp2_with fail
  go_region_held3 (fun W=>Qgm w2.heap.size w2 W/\Qdn W w.heap.size g p)
   (first | exact ab | exact ⟨held (Below.refl _ _).drew (by simp),ae.out _ (Below.refl _ _).drew⟩)
   (first
    | (go_at_call 207;have hS:=(‹Qgm _ _ _/\_›).1;refine (QmA g p _).mono ?_;rintro e w3 ⟨rfl,ai⟩;have aa:=(QbI ai hS).1;have ab:Qgm w2.heap.size w2 w3/\_:=⟨held aa (Nat.le_refl _),ae.out _ aa⟩;clear ai aa)
    | (go_at_call 206;have hS:=(‹Qgm _ _ _/\_›).1;refine (QcM (g:=g) (p:=p) (g':=agC g) (p':=⟨none,0,none,0,none,0,none,0⟩) SM SX (Qaz HA (Qac ac hS.1)) (HX.out _ hS.1)).mono ?_;rintro e w4 ⟨rfl,ah⟩;have aa:=(QbI ah hS).1;have ab:Qgm w2.heap.size w2 w4/\_:=⟨held aa (Nat.le_refl _),ae.out _ aa⟩;clear ah aa))
  have ak:=Qaa (Qac ac ab.1.1);clear ab;go_wp2;go_ret;exact ⟨Qar HE,ak⟩
 by_cases h2:g.k=2
 ·have aj:Hid (agI g=(QmB g.a g.t && QaH g (agG g))):=by unfold agI;rw [if_neg h1];rw [if_pos h2];rfl
  have HP:=Qaa (Qpo (g:=g) (p:=p) (h:=h2));clear h1 h2;go_enter func188,ntmps188;go_wp2_with fail;refine (HP.out _).mono ?_;rintro e w1 ⟨rfl,ad⟩;have ag:=Qaa (Qac (al.out _) ad);have K1:=QaQ (Qf3 w 73 g p) ad;clear ad;go_wp2_with fail;refine (Qqj _ _ _).mono ?_;rintro e w2 ⟨rfl,af⟩;have ac:=Qaa (Qac ag af);have K2:=QaQ K1 af;clear af K1
  cases hv:QmB g.a g.t with
  | false=>
   have HE:Hid (false=agI g):=by have:=aj.out;rw [hv,Bool.false_and] at this;exact this.symm
   go_wp2;go_ret;exact ⟨Qar HE,ac⟩
  | true=>
   have HE:Hid (QaH g (agG g)=agI g):=by have:=aj.out;rw [hv,Bool.true_and] at this;exact this.symm
   have ae:Hid (∀ W,Below w2.heap.size w2 W->Qdn W w.heap.size g p):=fun W hW=>QaQ K2 hW
   have HX:Hid (∀ W,Below w2.heap.size w2 W->AgAt W (agG g) ⟨none,0,none,0,none,0,none,0⟩):=fun W hW=>by
    have h:=Qaz HA (Qac ac hW);exact ⟨Qcr _ _,Qcr _ _,QdL _ _ _,QdL _ _ _⟩
   have SX:Hid (AgSm (agG g)):=⟨by simp [agG],by simp [agG],by simp [agG],by simp [agG]⟩;clear K2;go_wp2_with fail
   go_region_held3 (fun W=>Qgm w2.heap.size w2 W/\Qdn W w.heap.size g p)
    (first | exact ab | exact ⟨held (Below.refl _ _).drew (by simp),ae.out _ (Below.refl _ _).drew⟩)
    (first
     | (go_at_call 207;have hS:=(‹Qgm _ _ _/\_›).1;refine (QmK g p _).mono ?_;rintro e w3 ⟨rfl,ai⟩;have aa:=(QbI ai hS).1;have ab:Qgm w2.heap.size w2 w3/\_:=⟨held aa (Nat.le_refl _),ae.out _ aa⟩;clear ai aa)
     | (go_at_call 206;have hS:=(‹Qgm _ _ _/\_›).1;refine (QcM (g:=g) (p:=p) (g':=agG g) (p':=⟨none,0,none,0,none,0,none,0⟩) SM SX (Qaz HA (Qac ac hS.1)) (HX.out _ hS.1)).mono ?_;rintro e w4 ⟨rfl,ah⟩;have aa:=(QbI ah hS).1;have ab:Qgm w2.heap.size w2 w4/\_:=⟨held aa (Nat.le_refl _),ae.out _ aa⟩;clear ah aa))
   have ak:=Qaa (Qac ac ab.1.1);clear ab;go_wp2;go_ret;exact ⟨Qar HE,ak⟩
 by_cases h3:g.k=3
 ·have aj:Hid (agI g=(skB g.P g.N && QaH g (agH g))):=by unfold agI;rw [if_neg h1];rw [if_neg h2];rw [if_pos h3];rfl
  have HP:=Qaa (QnR (g:=g) (p:=p) (h:=h3));clear h1 h2 h3;go_enter func188,ntmps188;go_wp2_with fail;refine (HP.out _).mono ?_;rintro e w1 ⟨rfl,ad⟩;have ag:=Qaa (Qac (al.out _) ad);have K1:=QaQ (Qf3 w 73 g p) ad;clear ad;go_wp2_with fail;refine (Qqi OK SM (Qaz HA ag)).mono ?_;rintro e w2 ⟨rfl,af⟩;have ac:=Qaa (Qac ag af);have K2:=QaQ K1 af;clear af K1
  cases hv:skB g.P g.N with
  | false=>
   have HE:Hid (false=agI g):=by have:=aj.out;rw [hv,Bool.false_and] at this;exact this.symm
   go_wp2;go_ret;exact ⟨Qar HE,ac⟩
  | true=>
   have HE:Hid (QaH g (agH g)=agI g):=by have:=aj.out;rw [hv,Bool.true_and] at this;exact this.symm
   have ae:Hid (∀ W,Below w2.heap.size w2 W->Qdn W w.heap.size g p):=fun W hW=>QaQ K2 hW
   have HX:Hid (∀ W,Below w2.heap.size w2 W->AgAt W (agH g) ⟨p.pa,p.pc,p.na,p.nc,none,0,none,0⟩):=fun W hW=>by
    have h:=Qaz HA (Qac ac hW);exact ⟨h.P,h.N,QdL _ _ _,QdL _ _ _⟩
   have SX:Hid (AgSm (agH g)):=⟨SM.out.P,SM.out.N,by simp [agH],by simp [agH]⟩;clear K2;go_wp2_with fail
   go_region_held3 (fun W=>Qgm w2.heap.size w2 W/\Qdn W w.heap.size g p)
    (first | exact ab | exact ⟨held (Below.refl _ _).drew (by simp),ae.out _ (Below.refl _ _).drew⟩)
    (first
     | (go_at_call 207;have hS:=(‹Qgm _ _ _/\_›).1;refine (QmS g p _).mono ?_;rintro e w3 ⟨rfl,ai⟩;have aa:=(QbI ai hS).1;have ab:Qgm w2.heap.size w2 w3/\_:=⟨held aa (Nat.le_refl _),ae.out _ aa⟩;clear ai aa)
     | (go_at_call 206;have hS:=(‹Qgm _ _ _/\_›).1;refine (QcM (g:=g) (p:=p) (g':=agH g) (p':=⟨p.pa,p.pc,p.na,p.nc,none,0,none,0⟩) SM SX (Qaz HA (Qac ac hS.1)) (HX.out _ hS.1)).mono ?_;rintro e w4 ⟨rfl,ah⟩;have aa:=(QbI ah hS).1;have ab:Qgm w2.heap.size w2 w4/\_:=⟨held aa (Nat.le_refl _),ae.out _ aa⟩;clear ah aa))
   have ak:=Qaa (Qac ac ab.1.1);clear ab;go_wp2;go_ret;exact ⟨Qar HE,ak⟩
 by_cases h4:g.k=4
 ·have aj:Hid (agI g=(hlB g.E g.R && QaH g (agS g))):=by unfold agI;rw [if_neg h1];rw [if_neg h2];rw [if_neg h3];rw [if_pos h4];rfl
  have HP:=Qaa (Qpu (g:=g) (p:=p) (h:=h4));clear h1 h2 h3 h4;go_enter func188,ntmps188;go_wp2_with fail;refine (HP.out _).mono ?_;rintro e w1 ⟨rfl,ad⟩;have ag:=Qaa (Qac (al.out _) ad);have K1:=QaQ (Qf3 w 73 g p) ad;clear ad;go_wp2_with fail;refine (QqS SM (Qaz HA ag)).mono ?_;rintro e w2 ⟨rfl,af⟩;have ac:=Qaa (Qac ag af);have K2:=QaQ K1 af;clear af K1
  cases hv:hlB g.E g.R with
  | false=>
   have HE:Hid (false=agI g):=by have:=aj.out;rw [hv,Bool.false_and] at this;exact this.symm
   go_wp2;go_ret;exact ⟨Qar HE,ac⟩
  | true=>
   have HE:Hid (QaH g (agS g)=agI g):=by have:=aj.out;rw [hv,Bool.true_and] at this;exact this.symm
   have ae:Hid (∀ W,Below w2.heap.size w2 W->Qdn W w.heap.size g p):=fun W hW=>QaQ K2 hW
   have HX:Hid (∀ W,Below w2.heap.size w2 W->AgAt W (agS g) ⟨none,0,none,0,p.ea,p.ec,p.ra,p.rc⟩):=fun W hW=>by
    have h:=Qaz HA (Qac ac hW);exact ⟨Qcr _ _,Qcr _ _,h.E,h.R⟩
   have SX:Hid (AgSm (agS g)):=⟨by simp [agS],by simp [agS],SM.out.E,SM.out.R⟩;clear K2;go_wp2_with fail
   go_region_held3 (fun W=>Qgm w2.heap.size w2 W/\Qdn W w.heap.size g p)
    (first | exact ab | exact ⟨held (Below.refl _ _).drew (by simp),ae.out _ (Below.refl _ _).drew⟩)
    (first
     | (go_at_call 207;have hS:=(‹Qgm _ _ _/\_›).1;refine (QmW g p _).mono ?_;rintro e w3 ⟨rfl,ai⟩;have aa:=(QbI ai hS).1;have ab:Qgm w2.heap.size w2 w3/\_:=⟨held aa (Nat.le_refl _),ae.out _ aa⟩;clear ai aa)
     | (go_at_call 206;have hS:=(‹Qgm _ _ _/\_›).1;refine (QcM (g:=g) (p:=p) (g':=agS g) (p':=⟨none,0,none,0,p.ea,p.ec,p.ra,p.rc⟩) SM SX (Qaz HA (Qac ac hS.1)) (HX.out _ hS.1)).mono ?_;rintro e w4 ⟨rfl,ah⟩;have aa:=(QbI ah hS).1;have ab:Qgm w2.heap.size w2 w4/\_:=⟨held aa (Nat.le_refl _),ae.out _ aa⟩;clear ah aa))
   have ak:=Qaa (Qac ac ab.1.1);clear ab;go_wp2;go_ret;exact ⟨Qar HE,ak⟩
 have HE:Hid (false=agI g):=by unfold agI;rw [if_neg h1,if_neg h2,if_neg h3,if_neg h4];rfl
 have HP:=Qaa (QpQ (g:=g) (p:=p) (h1:=h1) (h2:=h2) (h3:=h3) (h4:=h4));clear h1 h2 h3 h4;go_enter func188,ntmps188;go_wp2_with fail;refine (HP.out _).mono ?_;rintro e w1 ⟨rfl,ad⟩;have ag:=Qaa (Qac (al.out _) ad);clear ad;go_wp2;go_ret;exact ⟨Qar HE,ag⟩
theorem Qe1 (sm:AgSm g) (hA:AgAt w g p) :
  Calls prog 122 #[.agg #[.int .u64 g.z,.slice p.pa g.P.length p.pc,.slice p.na g.N.length p.nc,.int .i64 g.x,.int .u64 g.y]] w fun e w'=>e=.returned (.bool (noS g))/\Below w.heap.size w w':=by
 have aa:Hid (∀ o,Below w.heap.size w (w.alloc o)):=fun o=>(Below.refl _ _).alloc (Nat.le_refl _) o;have HA:=Qaa hA;have SM:=Qaa sm;clear sm hA;go_enter func122,ntmps122;go_wp2_with fail;refine (QdX (P':=[]) (N':=[]) rfl rfl rfl rfl SM.out.P SM.out.N (by simp) (by simp) (Qai HA.out.P (aa.out _)) (Qai HA.out.N (aa.out _)) (Qcr _ _) (Qcr _ _)).mono ?_;rintro e w1 ⟨rfl,ab⟩;have ac:=Qaa (Qac (aa.out _) ab);clear ab;go_wp2;go_ret;exact ⟨rfl,ac⟩
theorem QkS (sm:AgSm g) :
  Calls prog 123 #[.agg #[.slice p.ea g.E.length p.ec,.slice p.ra g.R.length p.rc]] w fun e w'=>e=.returned (.bool (noH g))/\Below w.heap.size w w':=by
 obtain ⟨_,_,gE,gR⟩:=sm;have HN:Hid (noH g=(decide (g.E.length=0) && decide (g.R.length=0))):=(rfl:noH g=(decide (g.E.length=0) && decide (g.R.length=0)));generalize g.E.length=n at gE HN ⊢;generalize g.R.length=m at gR HN ⊢;by_cases h1:n=0
 ·subst h1
  by_cases h2:m=0
  ·subst h2
   go_enter func123,ntmps123;go_wp2;go_ret;exact ⟨by rw [HN.out];rfl,(Below.refl _ _).alloc (Nat.le_refl _) _⟩
  ·have b2:((m:Int) == 0)=false:=beq_eq_false_iff_ne.2 (by omega)
   go_enter func123,ntmps123;go_wp2;go_ret;exact ⟨by rw [HN.out];simp [h2],(Below.refl _ _).alloc (Nat.le_refl _) _⟩
 ·have b1:((n:Int) == 0)=false:=beq_eq_false_iff_ne.2 (by omega)
  go_enter func123,ntmps123;go_wp2;go_ret;exact ⟨by rw [HN.out];simp [h1],(Below.refl _ _).alloc (Nat.le_refl _) _⟩
theorem Qbc (ok:AgOk g) (sm:AgSm g) (hA:AgAt w g p) :
  Calls prog 86 #[.agg (Qav g p)] w fun e w'=>e=.returned (.bool (agB g))/\Below w.heap.size w w':=by
 have HA:=Qaa hA;have OK:=Qaa ok;have SM:=Qaa sm;have aA:Hid (∀ o,Below w.heap.size w (w.alloc o)):=fun o=>(Below.refl _ _).alloc (Nat.le_refl _) o;clear ok sm hA;by_cases av:1<=g.k/\g.k<=4
 rotate_left
 ·have hb:(decide (1<=g.k) && decide (g.k<=4))=false:=by rw [Bool.eq_false_iff];intro hh;simp at hh;exact av hh
  have HE:Hid (false=agB g):=(by unfold agB;rw [hb];simp only [Bool.false_and]:false=agB g);clear av;go_enter func86,ntmps86;go_wp2_with fail;refine (QfH _ _ _ _).mono ?_;rintro e w1 ⟨rfl,hw⟩;subst hw;rw [hb];go_wp2;go_ret;exact ⟨Qar HE,aA.out _⟩
 have hb:(decide (1<=g.k) && decide (g.k<=4))=true:=by simp [av.1,av.2]
 have aD:g.k=1∨g.k=2∨g.k=3∨g.k=4:=by omega
 have aE:=Qaa aD;have az:Hid (agB g=(skB g.P g.N && hlB g.E g.R && ((g.k == 1) || QgT g) && ((g.k == 3) || noS g) && ((g.k == 4) || noH g) && (if g.k=2 then Qc2 g else (g.a == 0) && (g.t == 0)))):=(by unfold agB;rw [hb,Bool.true_and]:_=_)
 clear av aD;go_enter func86,ntmps86;go_wp2_with fail;refine (QfH _ _ _ _).mono ?_;rintro e w1 ⟨rfl,hw⟩;subst hw;rw [hb];go_wp2_with fail;refine (Qf1 rfl rfl SM.out.P SM.out.N (Qai HA.out.P (aA.out _)) (Qai HA.out.N (aA.out _)) OK.out.P OK.out.N).mono ?_;rintro e w2 ⟨rfl,aC⟩;have ax:=Qaa (Qac (aA.out _) aC);have K2:=QaQ (Qf3 w 73 g p) aC;clear aC;by_cases ao:skB g.P g.N=true
 rotate_left
 ·replace ao:skB g.P g.N=false:=by simpa using ao
  rw [ao];have HE:Hid (false=agB g):=by have:=az.out;rw [ao] at this;simp only [Bool.false_and] at this;exact this.symm
  go_wp2;go_ret;exact ⟨Qar HE,ax⟩
 rw [ao];go_wp2_with fail;refine (QjZ rfl rfl SM.out.E SM.out.R (Qak HA.out.E ax) (Qak HA.out.R ax) OK.out.R).mono ?_;rintro e w3 ⟨rfl,aB⟩;have ai:=Qaa (Qac ax aB);have K3:=QaQ K2 aB;clear aB K2;by_cases aq:hlB g.E g.R=true
 rotate_left
 ·replace aq:hlB g.E g.R=false:=by simpa using aq
  rw [aq];have HE:Hid (false=agB g):=by have:=az.out;rw [ao,aq] at this;simp only [Bool.false_and,Bool.and_false] at this;exact this.symm
  go_wp2;go_ret;exact ⟨Qar HE,ai⟩
 rw [aq];have ae:Hid (agB g=(((g.k == 1) || QgT g) && ((g.k == 3) || noS g) && ((g.k == 4) || noH g) && (if g.k=2 then Qc2 g else (g.a == 0) && (g.t == 0)))):=by have:=az.out;rw [ao,aq] at this;simp only [Bool.true_and] at this;exact this
 clear az ao aq hb;rcases aE.out with hk | hk | hk | hk
 ·have b1:(g.k == 1)=true:=by simp [hk]
  have b2:(g.k == 2)=false:=beq_eq_false_iff_ne.2 (by omega);have b3:(g.k == 3)=false:=beq_eq_false_iff_ne.2 (by omega);have b4:(g.k == 4)=false:=beq_eq_false_iff_ne.2 (by omega);have n1:(g.k != 1)=false:=by show (!(g.k == 1))=_;rw [b1];rfl
  have n2:(g.k != 2)=true:=by show (!(g.k == 2))=_;rw [b2];rfl
  have n3:(g.k != 3)=true:=by show (!(g.k == 3))=_;rw [b3];rfl
  have n4:(g.k != 4)=true:=by show (!(g.k == 4))=_;rw [b4];rfl
  have z2:¬ g.k=2:=by omega
  have z3:¬ g.k=3:=by omega
  have z4:¬ g.k=4:=by omega
  have ak:(if g.k=2 then Qc2 g else (g.a == 0) && (g.t == 0))=((g.a == 0) && (g.t == 0)):=if_neg (by omega)
  have ar:=Qaa ak;clear hk ak;go_wp2_with fail;refine (Qe1 SM (Qaz HA ai)).mono ?_;rintro e w4 ⟨rfl,aj⟩;have am:=Qaa (Qac ai aj);have K4:=QaQ K3 aj;clear aj;by_cases ac:noS g=true
  rotate_left
  ·replace ac:noS g=false:=by simpa using ac
   rw [ac];have HE:Hid (false=agB g):=by have:=ae.out;simp only [b1,b3,b4,ac,Bool.true_or,Bool.false_or,Bool.or_true,Bool.or_false,Bool.true_and,Bool.and_true,Bool.false_and,Bool.and_false] at this;exact this.symm
   go_wp2;go_ret;exact ⟨Qar HE,am⟩
  rw [ac];have au:=Qaa ac;clear ac;go_wp2_with fail;refine (QkS (p:=p) SM).mono ?_;rintro e w5 ⟨rfl,ah⟩;have ag:=Qaa (Qac am ah);have K5:=QaQ K4 ah;clear ah;by_cases ab:noH g=true
  rotate_left
  ·replace ab:noH g=false:=by simpa using ab
   rw [ab];have HE:Hid (false=agB g):=by have:=ae.out;simp only [b1,b3,b4,au.out,ab,Bool.true_or,Bool.false_or,Bool.or_true,Bool.or_false,Bool.true_and,Bool.and_true,Bool.false_and,Bool.and_false] at this;exact this.symm
   go_wp2;go_ret;exact ⟨Qar HE,ag⟩
  rw [ab];have aw:=Qaa ab;clear ab;have ad:=ae.out;rw [ar.out] at ad;simp only [b1,b3,b4,au.out,aw.out,Bool.true_or,Bool.false_or,Bool.or_true,Bool.or_false,Bool.true_and,Bool.and_true] at ad;have af:=Qaa ad;clear ad ae;by_cases qa:g.a=0
  ·have ba:(g.a == 0)=true:=by simp [qa]
   by_cases qt:g.t=0
   ·have bt:(g.t == 0)=true:=by simp [qt]
    have HE:Hid (true=agB g):=by have:=af.out;rw [ba,bt] at this;exact this.symm
    clear qa qt;go_wp2;go_ret;exact ⟨Qar HE,ag⟩
   ·have bt:(g.t == 0)=false:=beq_eq_false_iff_ne.2 qt
    have HE:Hid (false=agB g):=by have:=af.out;rw [ba,bt] at this;exact this.symm
    clear qa qt;go_wp2;go_ret;exact ⟨Qar HE,ag⟩
  ·have ba:(g.a == 0)=false:=beq_eq_false_iff_ne.2 qa
   have HE:Hid (false=agB g):=by have:=af.out;rw [ba,Bool.false_and] at this;exact this.symm
   clear qa;go_wp2;go_ret;exact ⟨Qar HE,ag⟩
 ·have b2:(g.k == 2)=true:=by simp [hk]
  have b1:(g.k == 1)=false:=beq_eq_false_iff_ne.2 (by omega);have b3:(g.k == 3)=false:=beq_eq_false_iff_ne.2 (by omega);have b4:(g.k == 4)=false:=beq_eq_false_iff_ne.2 (by omega);have n1:(g.k != 1)=true:=by show (!(g.k == 1))=_;rw [b1];rfl
  have n2:(g.k != 2)=false:=by show (!(g.k == 2))=_;rw [b2];rfl
  have n3:(g.k != 3)=true:=by show (!(g.k == 3))=_;rw [b3];rfl
  have n4:(g.k != 4)=true:=by show (!(g.k == 4))=_;rw [b4];rfl
  have z1:¬ g.k=1:=by omega
  have z3:¬ g.k=3:=by omega
  have z4:¬ g.k=4:=by omega
  have ax:=Qaa hk;have ak:(if g.k=2 then Qc2 g else (g.a == 0) && (g.t == 0))=Qc2 g:=if_pos hk
  have ar:=Qaa ak;clear hk ak;have ap:Hid (QgT g=(g.h == 0 && g.l == 0)):=(rfl:QgT g=(g.h == 0 && g.l == 0));have hq:=Qdh g.h g.l 0 0;by_cases aa:(g.h == 0 && g.l == 0)=true
  rotate_left
  ·replace aa:(g.h == 0 && g.l == 0)=false:=by simpa using aa
   rw [aa] at hq;have al:QgT g=false:=ap.out.trans aa;have HE:Hid (false=agB g):=by have:=ae.out;simp only [b1,b3,b4,al,Bool.true_or,Bool.false_or,Bool.or_true,Bool.or_false,Bool.true_and,Bool.and_true,Bool.false_and,Bool.and_false] at this;exact this.symm
   go_wp2;go_ret;exact ⟨Qar HE,ai⟩
  rw [aa] at hq;have an:=Qaa (ap.out.trans aa);clear aa;go_wp2_with fail;refine (Qe1 SM (Qaz HA ai)).mono ?_;rintro e w4 ⟨rfl,aj⟩;have am:=Qaa (Qac ai aj);have K4:=QaQ K3 aj;clear aj;by_cases ac:noS g=true
  rotate_left
  ·replace ac:noS g=false:=by simpa using ac
   rw [ac];have HE:Hid (false=agB g):=by have:=ae.out;simp only [b1,b3,b4,an.out,ac,Bool.true_or,Bool.false_or,Bool.or_true,Bool.or_false,Bool.true_and,Bool.and_true,Bool.false_and,Bool.and_false] at this;exact this.symm
   go_wp2;go_ret;exact ⟨Qar HE,am⟩
  rw [ac];have au:=Qaa ac;clear ac;go_wp2_with fail;refine (QkS (p:=p) SM).mono ?_;rintro e w5 ⟨rfl,ah⟩;have ag:=Qaa (Qac am ah);have K5:=QaQ K4 ah;clear ah;by_cases ab:noH g=true
  rotate_left
  ·replace ab:noH g=false:=by simpa using ab
   rw [ab];have HE:Hid (false=agB g):=by have:=ae.out;simp only [b1,b3,b4,an.out,au.out,ab,Bool.true_or,Bool.false_or,Bool.or_true,Bool.or_false,Bool.true_and,Bool.and_true,Bool.false_and,Bool.and_false] at this;exact this.symm
   go_wp2;go_ret;exact ⟨Qar HE,ag⟩
  rw [ab];have aw:=Qaa ab;clear ab;have ad:=ae.out;rw [ar.out] at ad;simp only [b1,b3,b4,an.out,au.out,aw.out,Bool.true_or,Bool.false_or,Bool.or_true,Bool.or_false,Bool.true_and,Bool.and_true] at ad;have af:=Qaa ad;clear ad ae;have ay:Hid (Qc2 g=(Qmv g.a && (decide (-1<=g.t) && decide (g.t<=1000000000)) && (decide (0<=g.t) || (g.a == 0)))):=(rfl:_=_);go_wp2_with fail;refine (Qkn _ _).mono ?_;rintro e w6 ⟨rfl,hw⟩;subst hw;by_cases hv:Qmv g.a=true
  rotate_left
  ·replace hv:Qmv g.a=false:=by simpa using hv
   rw [hv];have HE:Hid (false=agB g):=by have:=af.out;rw [ay.out,hv] at this;simp only [Bool.false_and] at this;exact this.symm
   go_wp2;go_ret;exact ⟨Qar HE,ag⟩
  rw [hv];go_wp2_with fail;refine (QfH _ _ _ _).mono ?_;rintro e w7 ⟨rfl,hw⟩;subst hw;by_cases hi:(decide (-1<=g.t) && decide (g.t<=1000000000))=true
  rotate_left
  ·replace hi:(decide (-1<=g.t) && decide (g.t<=1000000000))=false:=by simpa using hi
   rw [hi];have HE:Hid (false=agB g):=by have:=af.out;rw [ay.out,hv,hi] at this;simp only [Bool.false_and,Bool.and_false] at this;exact this.symm
   go_wp2;go_ret;exact ⟨Qar HE,ag⟩
  rw [hi];by_cases q0:0<=g.t
  ·have d0:decide (0<=g.t)=true:=decide_eq_true q0
   have HE:Hid (true=agB g):=by have:=af.out;rw [ay.out,hv,hi,d0] at this;simp only [Bool.true_or,Bool.and_true] at this;exact this.symm
   clear hi hv;go_wp2;go_ret;exact ⟨Qar HE,ag⟩
  ·have d0:decide (0<=g.t)=false:=decide_eq_false q0
   by_cases qa:g.a=0
   ·have ba:(g.a == 0)=true:=by simp [qa]
    have HE:Hid (true=agB g):=by have:=af.out;rw [ay.out,hv,hi,d0,ba] at this;simp only [Bool.false_or,Bool.and_true] at this;exact this.symm
    clear hi hv qa;go_wp2;go_ret;exact ⟨Qar HE,ag⟩
   ·have ba:(g.a == 0)=false:=beq_eq_false_iff_ne.2 qa
    have HE:Hid (false=agB g):=by have:=af.out;rw [ay.out,hv,hi,d0,ba] at this;simp only [Bool.false_or,Bool.and_false] at this;exact this.symm
    clear hi hv qa;go_wp2;go_ret;exact ⟨Qar HE,ag⟩
 ·have b3:(g.k == 3)=true:=by simp [hk]
  have b1:(g.k == 1)=false:=beq_eq_false_iff_ne.2 (by omega);have b2:(g.k == 2)=false:=beq_eq_false_iff_ne.2 (by omega);have b4:(g.k == 4)=false:=beq_eq_false_iff_ne.2 (by omega);have n1:(g.k != 1)=true:=by show (!(g.k == 1))=_;rw [b1];rfl
  have n2:(g.k != 2)=true:=by show (!(g.k == 2))=_;rw [b2];rfl
  have n3:(g.k != 3)=false:=by show (!(g.k == 3))=_;rw [b3];rfl
  have n4:(g.k != 4)=true:=by show (!(g.k == 4))=_;rw [b4];rfl
  have z1:¬ g.k=1:=by omega
  have z2:¬ g.k=2:=by omega
  have z4:¬ g.k=4:=by omega
  have ak:(if g.k=2 then Qc2 g else (g.a == 0) && (g.t == 0))=((g.a == 0) && (g.t == 0)):=if_neg (by omega)
  have ar:=Qaa ak;clear hk ak;have ap:Hid (QgT g=(g.h == 0 && g.l == 0)):=(rfl:QgT g=(g.h == 0 && g.l == 0));have hq:=Qdh g.h g.l 0 0;by_cases aa:(g.h == 0 && g.l == 0)=true
  rotate_left
  ·replace aa:(g.h == 0 && g.l == 0)=false:=by simpa using aa
   rw [aa] at hq;have al:QgT g=false:=ap.out.trans aa;have HE:Hid (false=agB g):=by have:=ae.out;simp only [b1,b3,b4,al,Bool.true_or,Bool.false_or,Bool.or_true,Bool.or_false,Bool.true_and,Bool.and_true,Bool.false_and,Bool.and_false] at this;exact this.symm
   go_wp2;go_ret;exact ⟨Qar HE,ai⟩
  rw [aa] at hq;have an:=Qaa (ap.out.trans aa);clear aa;go_wp2_with fail;refine (QkS (p:=p) SM).mono ?_;rintro e w5 ⟨rfl,ah⟩;have ag:=Qaa (Qac ai ah);have K5:=QaQ K3 ah;clear ah;by_cases ab:noH g=true
  rotate_left
  ·replace ab:noH g=false:=by simpa using ab
   rw [ab];have HE:Hid (false=agB g):=by have:=ae.out;simp only [b1,b3,b4,an.out,ab,Bool.true_or,Bool.false_or,Bool.or_true,Bool.or_false,Bool.true_and,Bool.and_true,Bool.false_and,Bool.and_false] at this;exact this.symm
   go_wp2;go_ret;exact ⟨Qar HE,ag⟩
  rw [ab];have aw:=Qaa ab;clear ab;have ad:=ae.out;rw [ar.out] at ad;simp only [b1,b3,b4,an.out,aw.out,Bool.true_or,Bool.false_or,Bool.or_true,Bool.or_false,Bool.true_and,Bool.and_true] at ad;have af:=Qaa ad;clear ad ae;by_cases qa:g.a=0
  ·have ba:(g.a == 0)=true:=by simp [qa]
   by_cases qt:g.t=0
   ·have bt:(g.t == 0)=true:=by simp [qt]
    have HE:Hid (true=agB g):=by have:=af.out;rw [ba,bt] at this;exact this.symm
    clear qa qt;go_wp2;go_ret;exact ⟨Qar HE,ag⟩
   ·have bt:(g.t == 0)=false:=beq_eq_false_iff_ne.2 qt
    have HE:Hid (false=agB g):=by have:=af.out;rw [ba,bt] at this;exact this.symm
    clear qa qt;go_wp2;go_ret;exact ⟨Qar HE,ag⟩
  ·have ba:(g.a == 0)=false:=beq_eq_false_iff_ne.2 qa
   have HE:Hid (false=agB g):=by have:=af.out;rw [ba,Bool.false_and] at this;exact this.symm
   clear qa;go_wp2;go_ret;exact ⟨Qar HE,ag⟩
 ·have b4:(g.k == 4)=true:=by simp [hk]
  have b1:(g.k == 1)=false:=beq_eq_false_iff_ne.2 (by omega);have b2:(g.k == 2)=false:=beq_eq_false_iff_ne.2 (by omega);have b3:(g.k == 3)=false:=beq_eq_false_iff_ne.2 (by omega);have n1:(g.k != 1)=true:=by show (!(g.k == 1))=_;rw [b1];rfl
  have n2:(g.k != 2)=true:=by show (!(g.k == 2))=_;rw [b2];rfl
  have n3:(g.k != 3)=true:=by show (!(g.k == 3))=_;rw [b3];rfl
  have n4:(g.k != 4)=false:=by show (!(g.k == 4))=_;rw [b4];rfl
  have z1:¬ g.k=1:=by omega
  have z2:¬ g.k=2:=by omega
  have z3:¬ g.k=3:=by omega
  have ak:(if g.k=2 then Qc2 g else (g.a == 0) && (g.t == 0))=((g.a == 0) && (g.t == 0)):=if_neg (by omega)
  have ar:=Qaa ak;clear hk ak;have ap:Hid (QgT g=(g.h == 0 && g.l == 0)):=(rfl:QgT g=(g.h == 0 && g.l == 0));have hq:=Qdh g.h g.l 0 0;by_cases aa:(g.h == 0 && g.l == 0)=true
  rotate_left
  ·replace aa:(g.h == 0 && g.l == 0)=false:=by simpa using aa
   rw [aa] at hq;have al:QgT g=false:=ap.out.trans aa;have HE:Hid (false=agB g):=by have:=ae.out;simp only [b1,b3,b4,al,Bool.true_or,Bool.false_or,Bool.or_true,Bool.or_false,Bool.true_and,Bool.and_true,Bool.false_and,Bool.and_false] at this;exact this.symm
   go_wp2;go_ret;exact ⟨Qar HE,ai⟩
  rw [aa] at hq;have an:=Qaa (ap.out.trans aa);clear aa;go_wp2_with fail;refine (Qe1 SM (Qaz HA ai)).mono ?_;rintro e w4 ⟨rfl,aj⟩;have am:=Qaa (Qac ai aj);have K4:=QaQ K3 aj;clear aj;by_cases ac:noS g=true
  rotate_left
  ·replace ac:noS g=false:=by simpa using ac
   rw [ac];have HE:Hid (false=agB g):=by have:=ae.out;simp only [b1,b3,b4,an.out,ac,Bool.true_or,Bool.false_or,Bool.or_true,Bool.or_false,Bool.true_and,Bool.and_true,Bool.false_and,Bool.and_false] at this;exact this.symm
   go_wp2;go_ret;exact ⟨Qar HE,am⟩
  rw [ac];have au:=Qaa ac;clear ac;have ad:=ae.out;rw [ar.out] at ad;simp only [b1,b3,b4,an.out,au.out,Bool.true_or,Bool.false_or,Bool.or_true,Bool.or_false,Bool.true_and,Bool.and_true] at ad;have af:=Qaa ad;clear ad ae;by_cases qa:g.a=0
  ·have ba:(g.a == 0)=true:=by simp [qa]
   by_cases qt:g.t=0
   ·have bt:(g.t == 0)=true:=by simp [qt]
    have HE:Hid (true=agB g):=by have:=af.out;rw [ba,bt] at this;exact this.symm
    clear qa qt;go_wp2;go_ret;exact ⟨Qar HE,am⟩
   ·have bt:(g.t == 0)=false:=beq_eq_false_iff_ne.2 qt
    have HE:Hid (false=agB g):=by have:=af.out;rw [ba,bt] at this;exact this.symm
    clear qa qt;go_wp2;go_ret;exact ⟨Qar HE,am⟩
  ·have ba:(g.a == 0)=false:=beq_eq_false_iff_ne.2 qa
   have HE:Hid (false=agB g):=by have:=af.out;rw [ba,Bool.false_and] at this;exact this.symm
   clear qa;go_wp2;go_ret;exact ⟨Qar HE,am⟩
end Go.Proofs.YtlejlgldgafljaaGreatDoor
