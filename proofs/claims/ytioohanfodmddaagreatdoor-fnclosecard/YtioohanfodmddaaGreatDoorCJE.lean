/-
 Parts.
-/
import Derived.ChangeOld
import Derived.ChangeSlices
import Derived.Deep.SlicePairs
import Derived.Lib.SmallJoins
import Derived.Test.YtioohanfodmddaaGreatDoorCJD
set_option maxHeartbeats 8000000
set_option linter.all false
namespace Go.Proofs.YtioohanfodmddaaGreatDoor
open Go.ChangeShapes Go.WideShapes Go.ChangeAt Go.RowKit Go.PlainAid Go.Lib Tryz
theorem mAs {p:Prop} (h:p:=by
 replace aa:(g.h == 0 && g.l == 0)=false:=by simpa using aa
 rw [aa] at hq;have ak:Qhu g=false:=ap.trans aa;have HE:Hid (false=agB g):=by have:=ae.out;simp only [b1,b3,b4,ak,Bool.true_or,Bool.false_or,Bool.or_true,Bool.or_false,Bool.true_and,Bool.and_true,Bool.false_and,Bool.and_false] at this;exact this.symm
 go_wp2;go_ret;exact ⟨Qas HE,aj⟩):p:=h
theorem mAt {p:Prop} (h:p:=by
 have af:=Qaa ad;clear ad ae;by_cases qa:g.a=0
 ·have ba:(g.a == 0)=true:=by simp [qa]
  by_cases qt:g.t=0
  ·have bt:(g.t == 0)=true:=by simp [qt]
   have HE:Hid (true=agB g):=by have:=af.out;rw [ba,bt] at this;exact this.symm
   clear qa qt;go_wp2;go_ret;exact ⟨Qas HE,ag⟩
  ·have bt:(g.t == 0)=false:=beq_eq_false_iff_ne.2 qt
   have HE:Hid (false=agB g):=by have:=af.out;rw [ba,bt] at this;exact this.symm
   clear qa qt;go_wp2;go_ret;exact ⟨Qas HE,ag⟩
 ·have ba:(g.a == 0)=false:=beq_eq_false_iff_ne.2 qa
  have HE:Hid (false=agB g):=by have:=af.out;rw [ba,Bool.false_and] at this;exact this.symm
  clear qa;go_wp2;go_ret;exact ⟨Qas HE,ag⟩):p:=h
theorem mBg {p:Prop} (h:p:=by go_wp2;go_ret;exact ⟨Qas HE,ag⟩):p:=h
theorem mBp {p:Prop} (h:p:=by
 replace ab:noS g=false:=by simpa using ab
 rw [ab];have HE:Hid (false=agB g):=by have:=ae.out;simp only [b1,b3,b4,an.out,ab,Bool.true_or,Bool.false_or,Bool.or_true,Bool.or_false,Bool.true_and,Bool.and_true,Bool.false_and,Bool.and_false] at this;exact this.symm
 go_wp2;go_ret;exact ⟨Qas HE,am⟩):p:=h
theorem mBx {p:Prop} (h:p:=by
 have HE:Hid (false=agI g):=by have:=aj.out;rw [hv,Bool.false_and] at this;exact this.symm
 go_wp2;go_ret;exact ⟨Qas HE,ad⟩):p:=h
theorem mB6 {p:Prop} (h:p:=by have ak:=Qaa (Qac ad ab.1.1);clear ab;go_wp2;go_ret;exact ⟨Qas HE,ak⟩):p:=h
theorem mCc {p:Prop} (h:p:=by rintro e w1 ⟨rfl,ab⟩;have ac:=Qaa (Qac (aa.out _) ab);clear ab;go_wp2;go_ret;exact ⟨rfl,ac⟩):p:=h
structure AgOk (g:Ag):Prop where
 k:I64 g.k
 s:U64 g.s
 h:I64 g.h
 l:U64 g.l
 a:I64 g.a
 t:I64 g.t
 z:U64 g.z
 x:I64 g.x
 y:U64 g.y
 P:∀ b∈g.P,Qb4 b
 N:∀ b∈g.N,Qb4 b
 E:∀ b∈g.E,U64 b
 R:∀ b∈g.R,I64 b
set_option maxRecDepth 10000
def noS (g:Ag):Bool:=Qa8 g.z g.x g.y g.P g.N 0 0 0 [] []
def noH (g:Ag):Bool:=decide (g.E.length=0) && decide (g.R.length=0)
def Qhu (g:Ag):Bool:=(g.h == 0 && g.l == 0)
def QcZ (g:Ag):Bool:=QnY g.a && (decide (-1<=g.t) && decide (g.t<=1000000000)) && (decide (0<=g.t) || (g.a == 0))
def agB (g:Ag):Bool:=(decide (1<=g.k) && decide (g.k<=4)) && skB g.P g.N && hlB g.E g.R && ((g.k == 1) || Qhu g) && ((g.k == 3) || noS g) && ((g.k == 4) || noH g) && (if g.k=2 then QcZ g else (g.a == 0) && (g.t == 0))
def agC (g:Ag):Ag:=⟨1,g.s,g.h,g.l,0,0,0,[],[],0,0,[],[]⟩
def agG (g:Ag):Ag:=⟨2,g.s,0,0,g.a,g.t,0,[],[],0,0,[],[]⟩
def agH (g:Ag):Ag:=⟨3,g.s,0,0,0,0,g.z,g.P,g.N,g.x,g.y,[],[]⟩
def agS (g:Ag):Ag:=⟨4,g.s,0,0,0,0,0,[],[],0,0,g.E,g.R⟩
def agI (g:Ag):Bool:=if g.k=1 then QaI g (agC g) else if g.k=2 then QnW g.a g.t && QaI g (agG g) else if g.k=3 then skB g.P g.N && QaI g (agH g) else if g.k=4 then hlB g.E g.R && QaI g (agS g) else false
theorem Qb0 (g:Ag):noS g=true↔g.z=0/\g.x=0/\g.y=0/\g.P=[]/\g.N=[]:=by
 simp [noS,Qa8,and_assoc]
theorem Qfp (g:Ag):noH g=true↔g.E=[]/\g.R=[]:=by simp [noH]
theorem QfD:skB [] []=true:=oF
theorem Qfy:hlB [] []=true:=oF
theorem Qov (z h l:Int) (P N:List Bn):Qa8 z h l P N z h l P N=true:=by simp [Qa8]
theorem QdF (E R:List Int):Qbm E R E R=true:=by simp [Qbm]
theorem Qs0 (g:Ag):QnW g.a g.t=QcZ g:=by
 unfold QnW QcZ QnY;by_cases h1:g.t=-1
 ·rw [if_pos h1,h1]
  by_cases h2:g.a=0
  ·rw [h2];decide
  ·have:(g.a == 0)=false:=beq_eq_false_iff_ne.2 h2
   rw [this];simp [h2]
 ·rw [if_neg h1]
  by_cases h2:0<=g.t
  ·have e1:decide (-1<=g.t)=true:=decide_eq_true oB
   have e2:decide (0<=g.t)=true:=decide_eq_true h2;rw [e1,e2];simp [Bool.and_comm,Bool.and_left_comm,Bool.and_assoc]
  ·have e1:decide (-1<=g.t)=false:=decide_eq_false oB
   have e2:decide (0<=g.t)=false:=decide_eq_false h2;rw [e1,e2];simp
theorem ag_one (g:Ag):agI g=agB g:=by
 rw [Bool.eq_iff_iff];unfold agI agB;by_cases h1:g.k=1
 ·rw [if_pos h1]
  simp only [QaI,agC,Qhu,h1,yB,Bool.or_eq_true,beq_iff_eq,decide_eq_true_eq,Qfp,Qb0];constructor
  ·rintro ⟨⟨⟨⟨⟨_,_⟩,ha⟩,ht⟩,hs⟩,hh⟩
   have ae:noS g=true:=hs;have:=(Qb0 g).1 ae;have aa:g.E=[]/\g.R=[]:=by simpa [Qbm] using hh
   refine ⟨⟨⟨⟨⟨⟨by omega,?_⟩,?_⟩,.inl trivial⟩,.inr this⟩,.inr aa⟩,?_⟩
   ·rw [this.2.2.2.1,this.2.2.2.2];exact QfD
   ·rw [aa.1,aa.2];exact Qfy
   ·simp [ha,ht]
  ·rintro ⟨⟨⟨⟨⟨⟨_,_⟩,_⟩,_⟩,hs⟩,hh⟩,af⟩
   have ab:g.a=0/\g.t=0:=by simpa using af
   have ae:g.z=0/\g.x=0/\g.y=0/\g.P=[]/\g.N=[]:=by rcases hs with h | h;exact absurd h oB;exact h
   have aa:g.E=[]/\g.R=[]:=by rcases hh with h | h;exact absurd h oB;exact h
   refine ⟨⟨⟨⟨⟨⟨trivial,trivial⟩,⟨trivial,trivial⟩⟩,ab.1⟩,ab.2⟩,(Qb0 g).2 ae⟩,?_⟩;rw [aa.1,aa.2];exact QdF [] []
 rw [if_neg h1];by_cases h2:g.k=2
 ·rw [if_pos h2,Qs0]
  simp only [QaI,agG,Qhu,h2,yB,Bool.or_eq_true,beq_iff_eq,decide_eq_true_eq,Qfp,Qb0];constructor
  ·rintro ⟨ag,⟨⟨⟨⟨⟨_,_⟩,ad⟩,_⟩,_⟩,hs⟩,hh⟩
   have ae:noS g=true:=hs;have:=(Qb0 g).1 ae;have aa:g.E=[]/\g.R=[]:=by simpa [Qbm] using hh
   refine ⟨⟨⟨⟨⟨⟨by omega,?_⟩,?_⟩,.inr ad⟩,.inr this⟩,.inr aa⟩,?_⟩
   ·rw [this.2.2.2.1,this.2.2.2.2];exact QfD
   ·rw [aa.1,aa.2];exact Qfy
   ·simpa using ag
  ·rintro ⟨⟨⟨⟨⟨⟨_,_⟩,_⟩,ad⟩,hs⟩,hh⟩,ag⟩
   have ah:QcZ g=true:=by simpa using ag
   have ac:g.h=0/\g.l=0:=by rcases ad with h | h;exact absurd h oB;exact h
   have ae:g.z=0/\g.x=0/\g.y=0/\g.P=[]/\g.N=[]:=by rcases hs with h | h;exact absurd h oB;exact h
   have aa:g.E=[]/\g.R=[]:=by rcases hh with h | h;exact absurd h oB;exact h
   refine ⟨ah,⟨⟨⟨⟨⟨trivial,trivial⟩,ac⟩,trivial⟩,trivial⟩,(Qb0 g).2 ae⟩,?_⟩;rw [aa.1,aa.2];exact QdF [] []
 rw [if_neg h2];by_cases h3:g.k=3
 ·rw [if_pos h3]
  simp only [QaI,agH,Qhu,h3,yB,Bool.or_eq_true,beq_iff_eq,decide_eq_true_eq,Qfp,Qb0];constructor
  ·rintro ⟨ai,⟨⟨⟨⟨⟨_,_⟩,ad⟩,ha⟩,ht⟩,_⟩,hh⟩
   have aa:g.E=[]/\g.R=[]:=by simpa [Qbm] using hh
   refine ⟨⟨⟨⟨⟨⟨by omega,ai⟩,?_⟩,.inr ad⟩,.inl trivial⟩,.inr aa⟩,?_⟩
   ·rw [aa.1,aa.2];exact Qfy
   ·simp [ha,ht]
  ·rintro ⟨⟨⟨⟨⟨⟨_,ai⟩,_⟩,ad⟩,_⟩,hh⟩,af⟩
   have ab:g.a=0/\g.t=0:=by simpa using af
   have ac:g.h=0/\g.l=0:=by rcases ad with h | h;exact absurd h oB;exact h
   have aa:g.E=[]/\g.R=[]:=by rcases hh with h | h;exact absurd h oB;exact h
   refine ⟨ai,⟨⟨⟨⟨⟨trivial,trivial⟩,ac⟩,ab.1⟩,ab.2⟩,Qov _ _ _ _ _⟩,?_⟩;rw [aa.1,aa.2];exact QdF [] []
 rw [if_neg h3];by_cases h4:g.k=4
 ·rw [if_pos h4]
  simp only [QaI,agS,Qhu,h4,yB,Bool.or_eq_true,beq_iff_eq,decide_eq_true_eq,Qfp,Qb0];constructor
  ·rintro ⟨aj,⟨⟨⟨⟨⟨_,_⟩,ad⟩,ha⟩,ht⟩,hs⟩,_⟩
   have ae:noS g=true:=hs;have:=(Qb0 g).1 ae;refine ⟨⟨⟨⟨⟨⟨by omega,?_⟩,aj⟩,.inr ad⟩,.inr this⟩,.inl trivial⟩,?_⟩
   ·rw [this.2.2.2.1,this.2.2.2.2];exact QfD
   ·simp [ha,ht]
  ·rintro ⟨⟨⟨⟨⟨⟨_,_⟩,aj⟩,ad⟩,hs⟩,_⟩,af⟩
   have ab:g.a=0/\g.t=0:=by simpa using af
   have ac:g.h=0/\g.l=0:=by rcases ad with h | h;exact absurd h oB;exact h
   have ae:g.z=0/\g.x=0/\g.y=0/\g.P=[]/\g.N=[]:=by rcases hs with h | h;exact absurd h oB;exact h
   exact ⟨aj,⟨⟨⟨⟨⟨trivial,trivial⟩,ac⟩,ab.1⟩,ab.2⟩,(Qb0 g).2 ae⟩,QdF _ _⟩
 rw [if_neg h4];simp only [yB,decide_eq_true_eq];constructor
 ·intro h;exact absurd h oE
 ·rintro ⟨⟨⟨⟨⟨⟨⟨ha,hb⟩,_⟩,_⟩,_⟩,_⟩,_⟩,_⟩
  exfalso;omega
variable {w:World}
variable {g:Ag}
variable {p:Pl}
theorem QsF (ok:AgOk g) (sm:AgSm g) (hA:AgAt w g p) :
  Calls prog 369 #[.agg #[.int .u64 g.z,.slice p.pa g.P.length p.pc,.slice p.na g.N.length p.nc,.int .i64 g.x,.int .u64 g.y]] w fun e w'=>e=.returned (.bool (skB g.P g.N))/\Bw w w':=by
 have aa:Hid (∀ o,Bw w (w.alloc o)):=fun o=>(Below.refl _ _).alloc (Nat.le_refl _) o;have HA:=Qaa hA;have OK:=Qaa ok;have SM:=Qaa sm;clear ok sm hA;go_enter func369,ntmps369;go_wp2_with fail;refine (Qgz rfl rfl SM.P SM.N (Qai HA.P (aa.out _)) (Qai HA.N (aa.out _)) OK.P OK.N).mono ?_;exact mCc
theorem QsJ (sm:AgSm g) (hA:AgAt w g p) :
  Calls prog 389 #[.agg #[.slice p.ea g.E.length p.ec,.slice p.ra g.R.length p.rc]] w fun e w'=>e=.returned (.bool (hlB g.E g.R))/\Bw w w':=by
 have aa:Hid (∀ o,Bw w (w.alloc o)):=fun o=>(Below.refl _ _).alloc (Nat.le_refl _) o;have HA:=Qaa hA;have SM:=Qaa sm;clear sm hA;go_enter func389,ntmps389;go_wp2_with fail;refine (QkT rfl rfl SM.E SM.R (Qak HA.E (aa.out _)) (Qak HA.R (aa.out _))).mono ?_;exact mCc
theorem Qcx (w:World) (ao:Option Addr):QaR w ao []:=fun h=>absurd h (Nat.lt_irrefl 0)
theorem QdP (kd:IntKind) (w:World) (ao:Option Addr):QaE kd w ao []:=fun h=>absurd h (Nat.lt_irrefl 0)
theorem QkM (ok:AgOk g) (sm:AgSm g) (hA:AgAt w g p) :
  Calls prog 189 #[.agg (Qau g p)] w fun e w'=>e=.returned (.bool (agI g))/\Bw w w':=by
 have HA:=Qaa hA;have OK:=Qaa ok;have SM:=Qaa sm;have al:Hid (∀ o,Bw w (w.alloc o)):=fun o=>(Below.refl _ _).alloc (Nat.le_refl _) o;clear ok sm hA;by_cases h1:g.k=1
 ·have aj:Hid (agI g=(true && QaI g (agC g))):=by unfold agI;rw [if_pos h1];exact (Bool.true_and _).symm
  have HP:=Qaa (QoV (g:=g) (p:=p) (h:=h1));clear h1;go_enter func189,ntmps189;go_wp2_with fail;refine (HP.out _).mono ?_;rintro e w1 ⟨rfl,ac⟩;have ag:=Qaa (Qac (al.out _) ac);have K1:=QaV (QgK w 44 g p) ac;clear ac;go_wp2_with fail;refine (QrQ _ _ _).mono ?_;rintro e w2 ⟨rfl,af⟩;have ad:=Qaa (Qac ag af);have K2:=QaV K1 af;clear af K1;have HE:Hid (QaI g (agC g)=agI g):=by have:=aj.out;rw [Bool.true_and] at this;exact this.symm
  have ae:Hid (∀ W,Bw w2 W->Qdk W w.heap.size g p):=fun W hW=>QaV K2 hW
  have HX:Hid (∀ W,Bw w2 W->AgAt W (agC g) ⟨none,0,none,0,none,0,none,0⟩):=fun W hW=>by
   have h:=QaD HA (Qac ad hW);exact ⟨Qcx _ _,Qcx _ _,QdP _ _ _,QdP _ _ _⟩
  have SX:Hid (AgSm (agC g)):=⟨by simp [agC],by simp [agC],by simp [agC],by simp [agC]⟩;clear K2;go_wp2_with fail
  go_region_held3 (fun W=>Qgw w2.heap.size w2 W/\Qdk W w.heap.size g p)
   (first | exact ab | exact ⟨held (Below.refl _ _).drew oE,ae.out _ (Below.refl _ _).drew⟩)
   (first
    | (go_at_call 190;have hS:=(‹Qgw _ _ _/\_›).1;refine (Qoa g p _).mono ?_;rintro e w3 ⟨rfl,ai⟩;have aa:=(QbL ai hS).1;have ab:Qgw w2.heap.size w2 w3/\_:=⟨held aa (Nat.le_refl _),ae.out _ aa⟩;clear ai aa)
    | (go_at_call 238;have hS:=(‹Qgw _ _ _/\_›).1;refine (Qc4 (g:=g) (p:=p) (g':=agC g) (p':=⟨none,0,none,0,none,0,none,0⟩) SM SX (QaD HA (Qac ad hS.1)) (HX.out _ hS.1)).mono ?_;rintro e w4 ⟨rfl,ah⟩;have aa:=(QbL ah hS).1;have ab:Qgw w2.heap.size w2 w4/\_:=⟨held aa (Nat.le_refl _),ae.out _ aa⟩;clear ah aa))
  exact mB6
 by_cases h2:g.k=2
 ·have aj:Hid (agI g=(QnW g.a g.t && QaI g (agG g))):=by unfold agI;rw [if_neg h1];rw [if_pos h2];rfl
  have HP:=Qaa (QqR (g:=g) (p:=p) (h:=h2));clear h1 h2;go_enter func189,ntmps189;go_wp2_with fail;refine (HP.out _).mono ?_;rintro e w1 ⟨rfl,ac⟩;have ag:=Qaa (Qac (al.out _) ac);have K1:=QaV (QgK w 44 g p) ac;clear ac;go_wp2_with fail;refine (QrT _ _ _).mono ?_;rintro e w2 ⟨rfl,af⟩;have ad:=Qaa (Qac ag af);have K2:=QaV K1 af;clear af K1
  cases hv:QnW g.a g.t with
  | false=>
   exact mBx
  | true=>
   have HE:Hid (QaI g (agG g)=agI g):=by have:=aj.out;rw [hv,Bool.true_and] at this;exact this.symm
   have ae:Hid (∀ W,Bw w2 W->Qdk W w.heap.size g p):=fun W hW=>QaV K2 hW
   have HX:Hid (∀ W,Bw w2 W->AgAt W (agG g) ⟨none,0,none,0,none,0,none,0⟩):=fun W hW=>by
    have h:=QaD HA (Qac ad hW);exact ⟨Qcx _ _,Qcx _ _,QdP _ _ _,QdP _ _ _⟩
   have SX:Hid (AgSm (agG g)):=⟨by simp [agG],by simp [agG],by simp [agG],by simp [agG]⟩;clear K2;go_wp2_with fail
   go_region_held3 (fun W=>Qgw w2.heap.size w2 W/\Qdk W w.heap.size g p)
    (first | exact ab | exact ⟨held (Below.refl _ _).drew oE,ae.out _ (Below.refl _ _).drew⟩)
    (first
     | (go_at_call 190;have hS:=(‹Qgw _ _ _/\_›).1;refine (QnP g p _).mono ?_;rintro e w3 ⟨rfl,ai⟩;have aa:=(QbL ai hS).1;have ab:Qgw w2.heap.size w2 w3/\_:=⟨held aa (Nat.le_refl _),ae.out _ aa⟩;clear ai aa)
     | (go_at_call 238;have hS:=(‹Qgw _ _ _/\_›).1;refine (Qc4 (g:=g) (p:=p) (g':=agG g) (p':=⟨none,0,none,0,none,0,none,0⟩) SM SX (QaD HA (Qac ad hS.1)) (HX.out _ hS.1)).mono ?_;rintro e w4 ⟨rfl,ah⟩;have aa:=(QbL ah hS).1;have ab:Qgw w2.heap.size w2 w4/\_:=⟨held aa (Nat.le_refl _),ae.out _ aa⟩;clear ah aa))
   exact mB6
 by_cases h3:g.k=3
 ·have aj:Hid (agI g=(skB g.P g.N && QaI g (agH g))):=by unfold agI;rw [if_neg h1];rw [if_neg h2];rw [if_pos h3];rfl
  have HP:=Qaa (QpH (g:=g) (p:=p) (h:=h3));clear h1 h2 h3;go_enter func189,ntmps189;go_wp2_with fail;refine (HP.out _).mono ?_;rintro e w1 ⟨rfl,ac⟩;have ag:=Qaa (Qac (al.out _) ac);have K1:=QaV (QgK w 44 g p) ac;clear ac;go_wp2_with fail;refine (QsF OK SM (QaD HA ag)).mono ?_;rintro e w2 ⟨rfl,af⟩;have ad:=Qaa (Qac ag af);have K2:=QaV K1 af;clear af K1
  cases hv:skB g.P g.N with
  | false=>
   exact mBx
  | true=>
   have HE:Hid (QaI g (agH g)=agI g):=by have:=aj.out;rw [hv,Bool.true_and] at this;exact this.symm
   have ae:Hid (∀ W,Bw w2 W->Qdk W w.heap.size g p):=fun W hW=>QaV K2 hW
   have HX:Hid (∀ W,Bw w2 W->AgAt W (agH g) ⟨p.pa,p.pc,p.na,p.nc,none,0,none,0⟩):=fun W hW=>by
    have h:=QaD HA (Qac ad hW);exact ⟨h.P,h.N,QdP _ _ _,QdP _ _ _⟩
   have SX:Hid (AgSm (agH g)):=⟨SM.P,SM.N,by simp [agH],by simp [agH]⟩;clear K2;go_wp2_with fail
   go_region_held3 (fun W=>Qgw w2.heap.size w2 W/\Qdk W w.heap.size g p)
    (first | exact ab | exact ⟨held (Below.refl _ _).drew oE,ae.out _ (Below.refl _ _).drew⟩)
    (first
     | (go_at_call 190;have hS:=(‹Qgw _ _ _/\_›).1;refine (Qon g p _).mono ?_;rintro e w3 ⟨rfl,ai⟩;have aa:=(QbL ai hS).1;have ab:Qgw w2.heap.size w2 w3/\_:=⟨held aa (Nat.le_refl _),ae.out _ aa⟩;clear ai aa)
     | (go_at_call 238;have hS:=(‹Qgw _ _ _/\_›).1;refine (Qc4 (g:=g) (p:=p) (g':=agH g) (p':=⟨p.pa,p.pc,p.na,p.nc,none,0,none,0⟩) SM SX (QaD HA (Qac ad hS.1)) (HX.out _ hS.1)).mono ?_;rintro e w4 ⟨rfl,ah⟩;have aa:=(QbL ah hS).1;have ab:Qgw w2.heap.size w2 w4/\_:=⟨held aa (Nat.le_refl _),ae.out _ aa⟩;clear ah aa))
   exact mB6
 by_cases h4:g.k=4
 ·have aj:Hid (agI g=(hlB g.E g.R && QaI g (agS g))):=by unfold agI;rw [if_neg h1];rw [if_neg h2];rw [if_neg h3];rw [if_pos h4];rfl
  have HP:=Qaa (QqU (g:=g) (p:=p) (h:=h4));clear h1 h2 h3 h4;go_enter func189,ntmps189;go_wp2_with fail;refine (HP.out _).mono ?_;rintro e w1 ⟨rfl,ac⟩;have ag:=Qaa (Qac (al.out _) ac);have K1:=QaV (QgK w 44 g p) ac;clear ac;go_wp2_with fail;refine (QsJ SM (QaD HA ag)).mono ?_;rintro e w2 ⟨rfl,af⟩;have ad:=Qaa (Qac ag af);have K2:=QaV K1 af;clear af K1
  cases hv:hlB g.E g.R with
  | false=>
   exact mBx
  | true=>
   have HE:Hid (QaI g (agS g)=agI g):=by have:=aj.out;rw [hv,Bool.true_and] at this;exact this.symm
   have ae:Hid (∀ W,Bw w2 W->Qdk W w.heap.size g p):=fun W hW=>QaV K2 hW
   have HX:Hid (∀ W,Bw w2 W->AgAt W (agS g) ⟨none,0,none,0,p.ea,p.ec,p.ra,p.rc⟩):=fun W hW=>by
    have h:=QaD HA (Qac ad hW);exact ⟨Qcx _ _,Qcx _ _,h.E,h.R⟩
   have SX:Hid (AgSm (agS g)):=⟨by simp [agS],by simp [agS],SM.E,SM.R⟩;clear K2;go_wp2_with fail
   go_region_held3 (fun W=>Qgw w2.heap.size w2 W/\Qdk W w.heap.size g p)
    (first | exact ab | exact ⟨held (Below.refl _ _).drew oE,ae.out _ (Below.refl _ _).drew⟩)
    (first
     | (go_at_call 190;have hS:=(‹Qgw _ _ _/\_›).1;refine (Qn7 g p _).mono ?_;rintro e w3 ⟨rfl,ai⟩;have aa:=(QbL ai hS).1;have ab:Qgw w2.heap.size w2 w3/\_:=⟨held aa (Nat.le_refl _),ae.out _ aa⟩;clear ai aa)
     | (go_at_call 238;have hS:=(‹Qgw _ _ _/\_›).1;refine (Qc4 (g:=g) (p:=p) (g':=agS g) (p':=⟨none,0,none,0,p.ea,p.ec,p.ra,p.rc⟩) SM SX (QaD HA (Qac ad hS.1)) (HX.out _ hS.1)).mono ?_;rintro e w4 ⟨rfl,ah⟩;have aa:=(QbL ah hS).1;have ab:Qgw w2.heap.size w2 w4/\_:=⟨held aa (Nat.le_refl _),ae.out _ aa⟩;clear ah aa))
   exact mB6
 have HE:Hid (false=agI g):=by unfold agI;rw [if_neg h1,if_neg h2,if_neg h3,if_neg h4];rfl
 have HP:=Qaa (Qq8 (g:=g) (p:=p) (h1:=h1) (h2:=h2) (h3:=h3) (h4:=h4));clear h1 h2 h3 h4;go_enter func189,ntmps189;go_wp2_with fail;refine (HP.out _).mono ?_;rintro e w1 ⟨rfl,ac⟩;have ag:=Qaa (Qac (al.out _) ac);clear ac;exact mBg
theorem QfA (sm:AgSm g) (hA:AgAt w g p) :
  Calls prog 129 #[.agg #[.int .u64 g.z,.slice p.pa g.P.length p.pc,.slice p.na g.N.length p.nc,.int .i64 g.x,.int .u64 g.y]] w fun e w'=>e=.returned (.bool (noS g))/\Bw w w':=by
 have aa:Hid (∀ o,Bw w (w.alloc o)):=fun o=>(Below.refl _ _).alloc (Nat.le_refl _) o;have HA:=Qaa hA;have SM:=Qaa sm;clear sm hA;go_enter func129,ntmps129;go_wp2_with fail;refine (Qea (P':=[]) (N':=[]) rfl rfl rfl rfl SM.P SM.N oE oE (Qai HA.P (aa.out _)) (Qai HA.N (aa.out _)) (Qcx _ _) (Qcx _ _)).mono ?_;exact mCc
theorem QlF (sm:AgSm g) :
  Calls prog 130 #[.agg #[.slice p.ea g.E.length p.ec,.slice p.ra g.R.length p.rc]] w fun e w'=>e=.returned (.bool (noH g))/\Bw w w':=by
 obtain ⟨_,_,gE,gR⟩:=sm;have HN:Hid (noH g=(decide (g.E.length=0) && decide (g.R.length=0))):=Qaa (rfl);generalize g.E.length=n at gE HN ⊢;generalize g.R.length=m at gR HN ⊢;by_cases h1:n=0
 ·subst h1
  by_cases h2:m=0
  ·subst h2
   go_enter func130,ntmps130;go_wp2;go_ret;exact ⟨by rw [HN.out];rfl,(Below.refl _ _).alloc (Nat.le_refl _) _⟩
  ·have b2:((m:Int) == 0)=false:=beq_eq_false_iff_ne.2 oB
   go_enter func130,ntmps130;go_wp2;go_ret;exact ⟨by rw [HN.out];simp [h2],(Below.refl _ _).alloc (Nat.le_refl _) _⟩
 ·have b1:((n:Int) == 0)=false:=beq_eq_false_iff_ne.2 oB
  go_enter func130,ntmps130;go_wp2;go_ret;exact ⟨by rw [HN.out];simp [h1],(Below.refl _ _).alloc (Nat.le_refl _) _⟩
theorem QfM (ok:AgOk g) (sm:AgSm g) (hA:AgAt w g p) :
  Calls prog 78 #[.agg (Qau g p)] w fun e w'=>e=.returned (.bool (agB g))/\Bw w w':=by
 have HA:=Qaa hA;have OK:=Qaa ok;have SM:=Qaa sm;have az:Hid (∀ o,Bw w (w.alloc o)):=fun o=>(Below.refl _ _).alloc (Nat.le_refl _) o;clear ok sm hA;by_cases av:1<=g.k/\g.k<=4
 rotate_left
 ·have hb:(decide (1<=g.k) && decide (g.k<=4))=false:=by rw [Bool.eq_false_iff];intro hh;simp at hh;exact av hh
  have HE:Hid (false=agB g):=Qaa (by unfold agB;rw [hb];simp only [Bool.false_and]);clear av;go_enter func78,ntmps78;go_wp2_with fail;refine (Qgo _ _ _ _).mono ?_;rintro e w1 ⟨rfl,hw⟩;subst hw;rw [hb];go_wp2;go_ret;exact ⟨Qas HE,az.out _⟩
 have hb:(decide (1<=g.k) && decide (g.k<=4))=true:=by simp [av.1,av.2]
 have aD:g.k=1∨g.k=2∨g.k=3∨g.k=4:=oB
 have aE:=Qaa aD;have aA:Hid (agB g=(skB g.P g.N && hlB g.E g.R && ((g.k == 1) || Qhu g) && ((g.k == 3) || noS g) && ((g.k == 4) || noH g) && (if g.k=2 then QcZ g else (g.a == 0) && (g.t == 0)))):=(by unfold agB;rw [hb,Bool.true_and]:_=_)
 clear av aD;go_enter func78,ntmps78;go_wp2_with fail;refine (Qgo _ _ _ _).mono ?_;rintro e w1 ⟨rfl,hw⟩;subst hw;rw [hb];go_wp2_with fail;refine (Qhg rfl rfl SM.P SM.N (Qai HA.P (az.out _)) (Qai HA.N (az.out _)) OK.P OK.N).mono ?_;rintro e w2 ⟨rfl,aB⟩;have ax:=Qaa (Qac (az.out _) aB);have K2:=QaV (QgK w 44 g p) aB;clear aB;by_cases ao:skB g.P g.N=true
 rotate_left
 ·replace ao:skB g.P g.N=false:=by simpa using ao
  rw [ao];have HE:Hid (false=agB g):=by have:=aA.out;rw [ao] at this;simp only [Bool.false_and] at this;exact this.symm
  go_wp2;go_ret;exact ⟨Qas HE,ax⟩
 rw [ao];go_wp2_with fail;refine (QjZ rfl rfl SM.E SM.R (Qak HA.E ax) (Qak HA.R ax) OK.R).mono ?_;rintro e w3 ⟨rfl,aC⟩;have aj:=Qaa (Qac ax aC);have K3:=QaV K2 aC;clear aC K2;by_cases au:hlB g.E g.R=true
 rotate_left
 ·replace au:hlB g.E g.R=false:=by simpa using au
  rw [au];have HE:Hid (false=agB g):=by have:=aA.out;rw [ao,au] at this;simp only [Bool.false_and,Bool.and_false] at this;exact this.symm
  go_wp2;go_ret;exact ⟨Qas HE,aj⟩
 rw [au];have ae:Hid (agB g=(((g.k == 1) || Qhu g) && ((g.k == 3) || noS g) && ((g.k == 4) || noH g) && (if g.k=2 then QcZ g else (g.a == 0) && (g.t == 0)))):=by have:=aA.out;rw [ao,au] at this;simp only [Bool.true_and] at this;exact this
 clear aA ao au hb;rcases aE.out with hk | hk | hk | hk
 ·have b1:(g.k == 1)=true:=by simp [hk]
  have b2:(g.k == 2)=false:=beq_eq_false_iff_ne.2 oB;have b3:(g.k == 3)=false:=beq_eq_false_iff_ne.2 oB;have b4:(g.k == 4)=false:=beq_eq_false_iff_ne.2 oB;have n1:(g.k != 1)=false:=by show (!(g.k == 1))=_;rw [b1];rfl
  have n2:(g.k != 2)=true:=by show (!(g.k == 2))=_;rw [b2];rfl
  have n3:(g.k != 3)=true:=by show (!(g.k == 3))=_;rw [b3];rfl
  have n4:(g.k != 4)=true:=by show (!(g.k == 4))=_;rw [b4];rfl
  have z2:¬ g.k=2:=oB
  have z3:¬ g.k=3:=oB
  have z4:¬ g.k=4:=oB
  have ah:(if g.k=2 then QcZ g else (g.a == 0) && (g.t == 0))=((g.a == 0) && (g.t == 0)):=if_neg oB
  have ar:=Qaa ah;clear hk ah;go_wp2_with fail;refine (QfA SM (QaD HA aj)).mono ?_;rintro e w4 ⟨rfl,ai⟩;have am:=Qaa (Qac aj ai);have K4:=QaV K3 ai;clear ai;by_cases ab:noS g=true
  rotate_left
  ·replace ab:noS g=false:=by simpa using ab
   rw [ab];have HE:Hid (false=agB g):=by have:=ae.out;simp only [b1,b3,b4,ab,Bool.true_or,Bool.false_or,Bool.or_true,Bool.or_false,Bool.true_and,Bool.and_true,Bool.false_and,Bool.and_false] at this;exact this.symm
   exact mCb
  rw [ab];have aq:=Qaa ab;clear ab;go_wp2_with fail;refine (QlF (p:=p) SM).mono ?_;rintro e w5 ⟨rfl,al⟩;have ag:=Qaa (Qac am al);have K5:=QaV K4 al;clear al;by_cases ac:noH g=true
  rotate_left
  ·replace ac:noH g=false:=by simpa using ac
   rw [ac];have HE:Hid (false=agB g):=by have:=ae.out;simp only [b1,b3,b4,aq.out,ac,Bool.true_or,Bool.false_or,Bool.or_true,Bool.or_false,Bool.true_and,Bool.and_true,Bool.false_and,Bool.and_false] at this;exact this.symm
   exact mBg
  rw [ac];have aw:=Qaa ac;clear ac;have ad:=ae.out;rw [ar.out] at ad;simp only [b1,b3,b4,aq.out,aw.out,Bool.true_or,Bool.false_or,Bool.or_true,Bool.or_false,Bool.true_and,Bool.and_true] at ad;exact mAt
 ·have b2:(g.k == 2)=true:=by simp [hk]
  have b1:(g.k == 1)=false:=beq_eq_false_iff_ne.2 oB;have b3:(g.k == 3)=false:=beq_eq_false_iff_ne.2 oB;have b4:(g.k == 4)=false:=beq_eq_false_iff_ne.2 oB;have n1:(g.k != 1)=true:=by show (!(g.k == 1))=_;rw [b1];rfl
  have n2:(g.k != 2)=false:=by show (!(g.k == 2))=_;rw [b2];rfl
  have n3:(g.k != 3)=true:=by show (!(g.k == 3))=_;rw [b3];rfl
  have n4:(g.k != 4)=true:=by show (!(g.k == 4))=_;rw [b4];rfl
  have z1:¬ g.k=1:=oB
  have z3:¬ g.k=3:=oB
  have z4:¬ g.k=4:=oB
  have ax:=Qaa hk;have ah:(if g.k=2 then QcZ g else (g.a == 0) && (g.t == 0))=QcZ g:=if_pos hk
  have ar:=Qaa ah;clear hk ah;have ap:Hid (Qhu g=(g.h == 0 && g.l == 0)):=Qaa (rfl);have hq:=Qdh g.h g.l 0 0;by_cases aa:(g.h == 0 && g.l == 0)=true
  rotate_left
  ·exact mAs
  rw [aa] at hq;have an:=Qaa (ap.trans aa);clear aa;go_wp2_with fail;refine (QfA SM (QaD HA aj)).mono ?_;rintro e w4 ⟨rfl,ai⟩;have am:=Qaa (Qac aj ai);have K4:=QaV K3 ai;clear ai;by_cases ab:noS g=true
  rotate_left
  ·exact mBp
  rw [ab];have aq:=Qaa ab;clear ab;go_wp2_with fail;refine (QlF (p:=p) SM).mono ?_;rintro e w5 ⟨rfl,al⟩;have ag:=Qaa (Qac am al);have K5:=QaV K4 al;clear al;by_cases ac:noH g=true
  rotate_left
  ·replace ac:noH g=false:=by simpa using ac
   rw [ac];have HE:Hid (false=agB g):=by have:=ae.out;simp only [b1,b3,b4,an.out,aq.out,ac,Bool.true_or,Bool.false_or,Bool.or_true,Bool.or_false,Bool.true_and,Bool.and_true,Bool.false_and,Bool.and_false] at this;exact this.symm
   exact mBg
  rw [ac];have aw:=Qaa ac;clear ac;have ad:=ae.out;rw [ar.out] at ad;simp only [b1,b3,b4,an.out,aq.out,aw.out,Bool.true_or,Bool.false_or,Bool.or_true,Bool.or_false,Bool.true_and,Bool.and_true] at ad;have af:=Qaa ad;clear ad ae;have ay:Hid (QcZ g=(QnY g.a && (decide (-1<=g.t) && decide (g.t<=1000000000)) && (decide (0<=g.t) || (g.a == 0)))):=(rfl:_=_);go_wp2_with fail;refine (Qll _ _).mono ?_;rintro e w6 ⟨rfl,hw⟩;subst hw;by_cases hv:QnY g.a=true
  rotate_left
  ·replace hv:QnY g.a=false:=by simpa using hv
   rw [hv];have HE:Hid (false=agB g):=by have:=af.out;rw [ay.out,hv] at this;simp only [Bool.false_and] at this;exact this.symm
   exact mBg
  rw [hv];go_wp2_with fail;refine (Qgo _ _ _ _).mono ?_;rintro e w7 ⟨rfl,hw⟩;subst hw;by_cases hi:(decide (-1<=g.t) && decide (g.t<=1000000000))=true
  rotate_left
  ·replace hi:(decide (-1<=g.t) && decide (g.t<=1000000000))=false:=by simpa using hi
   rw [hi];have HE:Hid (false=agB g):=by have:=af.out;rw [ay.out,hv,hi] at this;simp only [Bool.false_and,Bool.and_false] at this;exact this.symm
   exact mBg
  rw [hi];by_cases q0:0<=g.t
  ·have d0:decide (0<=g.t)=true:=decide_eq_true q0
   have HE:Hid (true=agB g):=by have:=af.out;rw [ay.out,hv,hi,d0] at this;simp only [Bool.true_or,Bool.and_true] at this;exact this.symm
   clear hi hv;exact mBg
  ·have d0:decide (0<=g.t)=false:=decide_eq_false q0
   by_cases qa:g.a=0
   ·have ba:(g.a == 0)=true:=by simp [qa]
    have HE:Hid (true=agB g):=by have:=af.out;rw [ay.out,hv,hi,d0,ba] at this;simp only [Bool.false_or,Bool.and_true] at this;exact this.symm
    clear hi hv qa;exact mBg
   ·have ba:(g.a == 0)=false:=beq_eq_false_iff_ne.2 qa
    have HE:Hid (false=agB g):=by have:=af.out;rw [ay.out,hv,hi,d0,ba] at this;simp only [Bool.false_or,Bool.and_false] at this;exact this.symm
    clear hi hv qa;exact mBg
 ·have b3:(g.k == 3)=true:=by simp [hk]
  have b1:(g.k == 1)=false:=beq_eq_false_iff_ne.2 oB;have b2:(g.k == 2)=false:=beq_eq_false_iff_ne.2 oB;have b4:(g.k == 4)=false:=beq_eq_false_iff_ne.2 oB;have n1:(g.k != 1)=true:=by show (!(g.k == 1))=_;rw [b1];rfl
  have n2:(g.k != 2)=true:=by show (!(g.k == 2))=_;rw [b2];rfl
  have n3:(g.k != 3)=false:=by show (!(g.k == 3))=_;rw [b3];rfl
  have n4:(g.k != 4)=true:=by show (!(g.k == 4))=_;rw [b4];rfl
  have z1:¬ g.k=1:=oB
  have z2:¬ g.k=2:=oB
  have z4:¬ g.k=4:=oB
  have ah:(if g.k=2 then QcZ g else (g.a == 0) && (g.t == 0))=((g.a == 0) && (g.t == 0)):=if_neg oB
  have ar:=Qaa ah;clear hk ah;have ap:Hid (Qhu g=(g.h == 0 && g.l == 0)):=Qaa (rfl);have hq:=Qdh g.h g.l 0 0;by_cases aa:(g.h == 0 && g.l == 0)=true
  rotate_left
  ·exact mAs
  rw [aa] at hq;have an:=Qaa (ap.trans aa);clear aa;go_wp2_with fail;refine (QlF (p:=p) SM).mono ?_;rintro e w5 ⟨rfl,al⟩;have ag:=Qaa (Qac aj al);have K5:=QaV K3 al;clear al;by_cases ac:noH g=true
  rotate_left
  ·replace ac:noH g=false:=by simpa using ac
   rw [ac];have HE:Hid (false=agB g):=by have:=ae.out;simp only [b1,b3,b4,an.out,ac,Bool.true_or,Bool.false_or,Bool.or_true,Bool.or_false,Bool.true_and,Bool.and_true,Bool.false_and,Bool.and_false] at this;exact this.symm
   exact mBg
  rw [ac];have aw:=Qaa ac;clear ac;have ad:=ae.out;rw [ar.out] at ad;simp only [b1,b3,b4,an.out,aw.out,Bool.true_or,Bool.false_or,Bool.or_true,Bool.or_false,Bool.true_and,Bool.and_true] at ad;exact mAt
 ·have b4:(g.k == 4)=true:=by simp [hk]
  have b1:(g.k == 1)=false:=beq_eq_false_iff_ne.2 oB;have b2:(g.k == 2)=false:=beq_eq_false_iff_ne.2 oB;have b3:(g.k == 3)=false:=beq_eq_false_iff_ne.2 oB;have n1:(g.k != 1)=true:=by show (!(g.k == 1))=_;rw [b1];rfl
  have n2:(g.k != 2)=true:=by show (!(g.k == 2))=_;rw [b2];rfl
  have n3:(g.k != 3)=true:=by show (!(g.k == 3))=_;rw [b3];rfl
  have n4:(g.k != 4)=false:=by show (!(g.k == 4))=_;rw [b4];rfl
  have z1:¬ g.k=1:=oB
  have z2:¬ g.k=2:=oB
  have z3:¬ g.k=3:=oB
  have ah:(if g.k=2 then QcZ g else (g.a == 0) && (g.t == 0))=((g.a == 0) && (g.t == 0)):=if_neg oB
  have ar:=Qaa ah;clear hk ah;have ap:Hid (Qhu g=(g.h == 0 && g.l == 0)):=Qaa (rfl);have hq:=Qdh g.h g.l 0 0;by_cases aa:(g.h == 0 && g.l == 0)=true
  rotate_left
  ·exact mAs
  rw [aa] at hq;have an:=Qaa (ap.trans aa);clear aa;go_wp2_with fail;refine (QfA SM (QaD HA aj)).mono ?_;rintro e w4 ⟨rfl,ai⟩;have am:=Qaa (Qac aj ai);have K4:=QaV K3 ai;clear ai;by_cases ab:noS g=true
  rotate_left
  ·exact mBp
  rw [ab];have aq:=Qaa ab;clear ab;have ad:=ae.out;rw [ar.out] at ad;simp only [b1,b3,b4,an.out,aq.out,Bool.true_or,Bool.false_or,Bool.or_true,Bool.or_false,Bool.true_and,Bool.and_true] at ad;have af:=Qaa ad;clear ad ae;by_cases qa:g.a=0
  ·have ba:(g.a == 0)=true:=by simp [qa]
   by_cases qt:g.t=0
   ·have bt:(g.t == 0)=true:=by simp [qt]
    have HE:Hid (true=agB g):=by have:=af.out;rw [ba,bt] at this;exact this.symm
    clear qa qt;exact mCb
   ·have bt:(g.t == 0)=false:=beq_eq_false_iff_ne.2 qt
    have HE:Hid (false=agB g):=by have:=af.out;rw [ba,bt] at this;exact this.symm
    clear qa qt;exact mCb
  ·have ba:(g.a == 0)=false:=beq_eq_false_iff_ne.2 qa
   have HE:Hid (false=agB g):=by have:=af.out;rw [ba,Bool.false_and] at this;exact this.symm
   clear qa;exact mCb
end Go.Proofs.YtioohanfodmddaaGreatDoor
