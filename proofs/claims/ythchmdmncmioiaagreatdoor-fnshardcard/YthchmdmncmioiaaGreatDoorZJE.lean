/-
 An argument that is a sketch, opened.
-/
import Derived.ChangeOld
import Derived.ChangeSlices
import Derived.Deep.SlicePairs
import Derived.Lib.SmallJoins
import Derived.Test.YthchmdmncmioiaaGreatDoorZJD
namespace Go.Proofs.YthchmdmncmioiaaGreatDoor
set_option maxHeartbeats 8000000
set_option linter.unusedVariables false
set_option linter.unusedSimpArgs false
open Go.ChangeShapes Go.WideShapes Go.ChangeAt Go.RowKit Go.PlainAid
structure AgOk (g:Ag):Prop where
 k:I64 g.k
 s:U64 g.s
 h:I64 g.h
 l:U64 g.l
 a:I64 g.a
 t:I64 g.t
 z:U64 g.z
 x:I64 g.x
 y:U64 g.y
 P:∀ b∈g.P,Qbk b
 N:∀ b∈g.N,Qbk b
 E:∀ b∈g.E,U64 b
 R:∀ b∈g.R,I64 b
set_option maxRecDepth 10000
open Go.Lib
def noS (g:Ag):Bool:=Qa5 g.z g.x g.y g.P g.N 0 0 0 [] []
def noH (g:Ag):Bool:=decide (g.E.length=0) && decide (g.R.length=0)
def QgC (g:Ag):Bool:=(g.h == 0 && g.l == 0)
def QcB (g:Ag):Bool:=QlF g.a && (decide (-1<=g.t) && decide (g.t<=1000000000)) && (decide (0<=g.t) || (g.a == 0))
def agB (g:Ag):Bool:=(decide (1<=g.k) && decide (g.k<=4)) && skB g.P g.N && hlB g.E g.R && ((g.k == 1) || QgC g) && ((g.k == 3) || noS g) && ((g.k == 4) || noH g) && (if g.k=2 then QcB g else (g.a == 0) && (g.t == 0))
def agC (g:Ag):Ag:=⟨1,g.s,g.h,g.l,0,0,0,[],[],0,0,[],[]⟩
def agG (g:Ag):Ag:=⟨2,g.s,0,0,g.a,g.t,0,[],[],0,0,[],[]⟩
def agH (g:Ag):Ag:=⟨3,g.s,0,0,0,0,g.z,g.P,g.N,g.x,g.y,[],[]⟩
def agS (g:Ag):Ag:=⟨4,g.s,0,0,0,0,0,[],[],0,0,g.E,g.R⟩
def agI (g:Ag):Bool:=if g.k=1 then QaG g (agC g) else if g.k=2 then QlB g.a g.t && QaG g (agG g) else if g.k=3 then skB g.P g.N && QaG g (agH g) else if g.k=4 then hlB g.E g.R && QaG g (agS g) else false
theorem QbX (g:Ag):noS g=true↔g.z=0/\g.x=0/\g.y=0/\g.P=[]/\g.N=[]:=by
 simp [noS,Qa5,and_assoc]
theorem QeN (g:Ag):noH g=true↔g.E=[]/\g.R=[]:=by simp [noH]
theorem Qfb:skB [] []=true:=by decide
theorem Qfg:hlB [] []=true:=by decide
theorem QlX (z h l:Int) (P N:List Bn):Qa5 z h l P N z h l P N=true:=by simp [Qa5]
theorem QdG (E R:List Int):Qbg E R E R=true:=by simp [Qbg]
theorem QoN (g:Ag):QlB g.a g.t=QcB g:=by
 unfold QlB QcB QlF;by_cases h1:g.t=-1
 ·rw [if_pos h1,h1]
  by_cases h2:g.a=0
  ·rw [h2];decide
  ·have:(g.a == 0)=false:=ZZf.2 h2
   rw [this];simp [h2]
 ·rw [if_neg h1]
  by_cases h2:0<=g.t
  ·have e1:decide (-1<=g.t)=true:=ZZh (by omega)
   have e2:decide (0<=g.t)=true:=ZZh h2;rw [e1,e2];simp [Bool.and_comm,Bool.and_left_comm,Bool.and_assoc]
  ·have e1:decide (-1<=g.t)=false:=ZZg (by omega)
   have e2:decide (0<=g.t)=false:=ZZg h2;rw [e1,e2];simp
theorem Qkk (g:Ag):agI g=agB g:=by
 rw [Bool.eq_iff_iff];unfold agI agB;by_cases h1:g.k=1
 ·rw [if_pos h1]
  simp only [QaG,agC,QgC,h1,Bool.and_eq_true,Bool.or_eq_true,beq_iff_eq,decide_eq_true_eq,QeN,QbX];constructor
  ·rintro ⟨⟨⟨⟨⟨_,_⟩,ha⟩,ht⟩,hs⟩,hh⟩
   have hs':noS g=true:=hs;have:=(QbX g).1 hs';have hh':g.E=[]/\g.R=[]:=by simpa [Qbg] using hh
   refine ⟨⟨⟨⟨⟨⟨by omega,?_⟩,?_⟩,.inl trivial⟩,.inr this⟩,.inr hh'⟩,?_⟩
   ·rw [this.2.2.2.1,this.2.2.2.2];exact Qfb
   ·rw [hh'.1,hh'.2];exact Qfg
   ·simp [ha,ht]
  ·rintro ⟨⟨⟨⟨⟨⟨_,_⟩,_⟩,_⟩,hs⟩,hh⟩,hat⟩
   have hat':g.a=0/\g.t=0:=by simpa using hat
   have hs':g.z=0/\g.x=0/\g.y=0/\g.P=[]/\g.N=[]:=by rcases hs with h | h;exact absurd h (by omega);exact h
   have hh':g.E=[]/\g.R=[]:=by rcases hh with h | h;exact absurd h (by omega);exact h
   refine ⟨⟨⟨⟨⟨⟨trivial,trivial⟩,⟨trivial,trivial⟩⟩,hat'.1⟩,hat'.2⟩,(QbX g).2 hs'⟩,?_⟩;rw [hh'.1,hh'.2];exact QdG [] []
 rw [if_neg h1];by_cases h2:g.k=2
 ·rw [if_pos h2,QoN]
  simp only [QaG,agG,QgC,h2,Bool.and_eq_true,Bool.or_eq_true,beq_iff_eq,decide_eq_true_eq,QeN,QbX];constructor
  ·rintro ⟨htl,⟨⟨⟨⟨⟨_,_⟩,hsm⟩,_⟩,_⟩,hs⟩,hh⟩
   have hs':noS g=true:=hs;have:=(QbX g).1 hs';have hh':g.E=[]/\g.R=[]:=by simpa [Qbg] using hh
   refine ⟨⟨⟨⟨⟨⟨by omega,?_⟩,?_⟩,.inr hsm⟩,.inr this⟩,.inr hh'⟩,?_⟩
   ·rw [this.2.2.2.1,this.2.2.2.2];exact Qfb
   ·rw [hh'.1,hh'.2];exact Qfg
   ·simpa using htl
  ·rintro ⟨⟨⟨⟨⟨⟨_,_⟩,_⟩,hsm⟩,hs⟩,hh⟩,htl⟩
   have htl':QcB g=true:=by simpa using htl
   have hsm':g.h=0/\g.l=0:=by rcases hsm with h | h;exact absurd h (by omega);exact h
   have hs':g.z=0/\g.x=0/\g.y=0/\g.P=[]/\g.N=[]:=by rcases hs with h | h;exact absurd h (by omega);exact h
   have hh':g.E=[]/\g.R=[]:=by rcases hh with h | h;exact absurd h (by omega);exact h
   refine ⟨htl',⟨⟨⟨⟨⟨trivial,trivial⟩,hsm'⟩,trivial⟩,trivial⟩,(QbX g).2 hs'⟩,?_⟩;rw [hh'.1,hh'.2];exact QdG [] []
 rw [if_neg h2];by_cases h3:g.k=3
 ·rw [if_pos h3]
  simp only [QaG,agH,QgC,h3,Bool.and_eq_true,Bool.or_eq_true,beq_iff_eq,decide_eq_true_eq,QeN,QbX];constructor
  ·rintro ⟨hsk,⟨⟨⟨⟨⟨_,_⟩,hsm⟩,ha⟩,ht⟩,_⟩,hh⟩
   have hh':g.E=[]/\g.R=[]:=by simpa [Qbg] using hh
   refine ⟨⟨⟨⟨⟨⟨by omega,hsk⟩,?_⟩,.inr hsm⟩,.inl trivial⟩,.inr hh'⟩,?_⟩
   ·rw [hh'.1,hh'.2];exact Qfg
   ·simp [ha,ht]
  ·rintro ⟨⟨⟨⟨⟨⟨_,hsk⟩,_⟩,hsm⟩,_⟩,hh⟩,hat⟩
   have hat':g.a=0/\g.t=0:=by simpa using hat
   have hsm':g.h=0/\g.l=0:=by rcases hsm with h | h;exact absurd h (by omega);exact h
   have hh':g.E=[]/\g.R=[]:=by rcases hh with h | h;exact absurd h (by omega);exact h
   refine ⟨hsk,⟨⟨⟨⟨⟨trivial,trivial⟩,hsm'⟩,hat'.1⟩,hat'.2⟩,QlX _ _ _ _ _⟩,?_⟩;rw [hh'.1,hh'.2];exact QdG [] []
 rw [if_neg h3];by_cases h4:g.k=4
 ·rw [if_pos h4]
  simp only [QaG,agS,QgC,h4,Bool.and_eq_true,Bool.or_eq_true,beq_iff_eq,decide_eq_true_eq,QeN,QbX];constructor
  ·rintro ⟨hhl,⟨⟨⟨⟨⟨_,_⟩,hsm⟩,ha⟩,ht⟩,hs⟩,_⟩
   have hs':noS g=true:=hs;have:=(QbX g).1 hs';refine ⟨⟨⟨⟨⟨⟨by omega,?_⟩,hhl⟩,.inr hsm⟩,.inr this⟩,.inl trivial⟩,?_⟩
   ·rw [this.2.2.2.1,this.2.2.2.2];exact Qfb
   ·simp [ha,ht]
  ·rintro ⟨⟨⟨⟨⟨⟨_,_⟩,hhl⟩,hsm⟩,hs⟩,_⟩,hat⟩
   have hat':g.a=0/\g.t=0:=by simpa using hat
   have hsm':g.h=0/\g.l=0:=by rcases hsm with h | h;exact absurd h (by omega);exact h
   have hs':g.z=0/\g.x=0/\g.y=0/\g.P=[]/\g.N=[]:=by rcases hs with h | h;exact absurd h (by omega);exact h
   exact ⟨hhl,⟨⟨⟨⟨⟨trivial,trivial⟩,hsm'⟩,hat'.1⟩,hat'.2⟩,(QbX g).2 hs'⟩,QdG _ _⟩
 rw [if_neg h4];simp only [Bool.and_eq_true,decide_eq_true_eq];constructor
 ·intro h;exact absurd h (by simp)
 ·rintro ⟨⟨⟨⟨⟨⟨⟨ha,hb⟩,_⟩,_⟩,_⟩,_⟩,_⟩,_⟩
  exfalso;omega
theorem QnY {w:World} {g:Ag} {p:Pl} (ok:AgOk g) (sm:AgSm g) (hA:AgAt w g p) :
  Calls Tryz.prog 287 #[.agg #[.int .u64 g.z,.slice p.pa g.P.length p.pc,.slice p.na g.N.length p.nc,.int .i64 g.x,.int .u64 g.y]] w fun e w'=>e=.returned (.bool (skB g.P g.N))/\Below w.heap.size w w':=by
 have HB0:Hid (∀ o,Below w.heap.size w (w.alloc o)):=fun o=>(ZZb _ _).alloc (ZZa _) o;have HA:=Qaa hA;have OK:=Qaa ok;have SM:=Qaa sm;clear ok sm hA;go_enter Tryz.func287,Tryz.ntmps287;go_wp2_with fail;refine (QaY rfl rfl SM.out.P SM.out.N (Qae HA.out.P (HB0.out _)) (Qae HA.out.N (HB0.out _)) OK.out.P OK.out.N).mono ?_;rintro e w1 ⟨rfl,hb1⟩;have HT1:=Qaa (Qad (HB0.out _) hb1);clear hb1;go_wp2;go_ret;exact ⟨rfl,HT1.out⟩
theorem Qo1 {w:World} {g:Ag} {p:Pl} (sm:AgSm g) (hA:AgAt w g p) :
  Calls Tryz.prog 308 #[.agg #[.slice p.ea g.E.length p.ec,.slice p.ra g.R.length p.rc]] w fun e w'=>e=.returned (.bool (hlB g.E g.R))/\Below w.heap.size w w':=by
 have HB0:Hid (∀ o,Below w.heap.size w (w.alloc o)):=fun o=>(ZZb _ _).alloc (ZZa _) o;have HA:=Qaa hA;have SM:=Qaa sm;clear sm hA;go_enter Tryz.func308,Tryz.ntmps308;go_wp2_with fail;refine (Qcl rfl rfl SM.out.E SM.out.R (Qag HA.out.E (HB0.out _)) (Qag HA.out.R (HB0.out _))).mono ?_;rintro e w1 ⟨rfl,hb1⟩;have HT1:=Qaa (Qad (HB0.out _) hb1);clear hb1;go_wp2;go_ret;exact ⟨rfl,HT1.out⟩
theorem Qcp (w:World) (ao:Option Addr):Qay w ao []:=fun h=>absurd h (Nat.lt_irrefl 0)
theorem Qdy (kd:IntKind) (w:World) (ao:Option Addr):Qas kd w ao []:=fun h=>absurd h (Nat.lt_irrefl 0)
theorem Qcr {w:World} {g:Ag} {p:Pl} (ok:AgOk g) (sm:AgSm g) (hA:AgAt w g p) :
  Calls Tryz.prog 84 #[.agg (Qal g p)] w fun e w'=>e=.returned (.bool (agI g))/\Below w.heap.size w w':=by
 have HA:=Qaa hA;have OK:=Qaa ok;have SM:=Qaa sm;have HB0:Hid (∀ o,Below w.heap.size w (w.alloc o)):=fun o=>(ZZb _ _).alloc (ZZa _) o;clear ok sm hA;by_cases h1:g.k=1
 ·have HE0:Hid (agI g=(true && QaG g (agC g))):=by unfold agI;rw [if_pos h1];exact (Bool.true_and _).symm
  have HP:=Qaa (Qez (g:=g) (p:=p) (h:=h1));clear h1;go_enter Tryz.func84,Tryz.ntmps84;go_wp2_with fail;refine (HP.out _).mono ?_;rintro e w1 ⟨rfl,hb1⟩;have HT1:=Qaa (Qad (HB0.out _) hb1);have K1:=QaB (QdZ w 49 g p) hb1;clear hb1;go_wp2_with fail;refine (Qn4 _ _ _).mono ?_;rintro e w2 ⟨rfl,hb2⟩;have HT2:=Qaa (Qad HT1.out hb2);have K2:=QaB K1 hb2;clear hb2 K1;have HE:Hid (QaG g (agC g)=agI g):=by have:=HE0.out;rw [Bool.true_and] at this;exact this.symm
  have HK2:Hid (∀ W,Below w2.heap.size w2 W->Qb8 W w.heap.size g p):=fun W hW=>QaB K2 hW
  have HX:Hid (∀ W,Below w2.heap.size w2 W->AgAt W (agC g) ⟨none,0,none,0,none,0,none,0⟩):=fun W hW=>by
   have h:=Qan HA.out (Qad HT2.out hW);exact ⟨Qcp _ _,Qcp _ _,Qdy _ _ _,Qdy _ _ _⟩
  have SX:Hid (AgSm (agC g)):=⟨by simp [agC],by simp [agC],by simp [agC],by simp [agC]⟩;clear K2;go_wp2_with fail
  go_region_held3 (fun W=>Qd0 w2.heap.size w2 W/\Qb8 W w.heap.size g p)
   (first | exact hS3 | exact ⟨held (Below.refl _ _).drew (by simp),HK2.out _ (Below.refl _ _).drew⟩)
   (first
    | (go_at_call 85;have hS:=(‹Qd0 _ _ _/\_›).1;refine (QeZ g p _).mono ?_;rintro e w3 ⟨rfl,hb3⟩;have hS1:=(Qbc hb3 hS).1;have hS3:Qd0 w2.heap.size w2 w3/\_:=⟨held hS1 (ZZa _),HK2.out _ hS1⟩;clear hb3 hS1)
    | (go_at_call 102;have hS:=(‹Qd0 _ _ _/\_›).1;refine (QcT (g:=g) (p:=p) (g':=agC g) (p':=⟨none,0,none,0,none,0,none,0⟩) SM.out SX.out (Qan HA.out (Qad HT2.out hS.1)) (HX.out _ hS.1)).mono ?_;rintro e w4 ⟨rfl,hb4⟩;have hS1:=(Qbc hb4 hS).1;have hS3:Qd0 w2.heap.size w2 w4/\_:=⟨held hS1 (ZZa _),HK2.out _ hS1⟩;clear hb4 hS1))
  have HT4:=Qaa (Qad HT2.out hS3.1.1);clear hS3;go_wp2;go_ret;exact ⟨Qap HE.out,HT4.out⟩
 by_cases h2:g.k=2
 ·have HE0:Hid (agI g=(QlB g.a g.t && QaG g (agG g))):=by unfold agI;rw [if_neg h1];rw [if_pos h2];rfl
  have HP:=Qaa (Qex (g:=g) (p:=p) (h:=h2));clear h1 h2;go_enter Tryz.func84,Tryz.ntmps84;go_wp2_with fail;refine (HP.out _).mono ?_;rintro e w1 ⟨rfl,hb1⟩;have HT1:=Qaa (Qad (HB0.out _) hb1);have K1:=QaB (QdZ w 49 g p) hb1;clear hb1;go_wp2_with fail;refine (Qn8 _ _ _).mono ?_;rintro e w2 ⟨rfl,hb2⟩;have HT2:=Qaa (Qad HT1.out hb2);have K2:=QaB K1 hb2;clear hb2 K1
  cases hv:QlB g.a g.t with
  | false=>
   have HE:Hid (false=agI g):=by have:=HE0.out;rw [hv,Bool.false_and] at this;exact this.symm
   go_wp2;go_ret;exact ⟨Qap HE.out,HT2.out⟩
  | true=>
   have HE:Hid (QaG g (agG g)=agI g):=by have:=HE0.out;rw [hv,Bool.true_and] at this;exact this.symm
   have HK2:Hid (∀ W,Below w2.heap.size w2 W->Qb8 W w.heap.size g p):=fun W hW=>QaB K2 hW
   have HX:Hid (∀ W,Below w2.heap.size w2 W->AgAt W (agG g) ⟨none,0,none,0,none,0,none,0⟩):=fun W hW=>by
    have h:=Qan HA.out (Qad HT2.out hW);exact ⟨Qcp _ _,Qcp _ _,Qdy _ _ _,Qdy _ _ _⟩
   have SX:Hid (AgSm (agG g)):=⟨by simp [agG],by simp [agG],by simp [agG],by simp [agG]⟩;clear K2;go_wp2_with fail
   go_region_held3 (fun W=>Qd0 w2.heap.size w2 W/\Qb8 W w.heap.size g p)
    (first | exact hS3 | exact ⟨held (Below.refl _ _).drew (by simp),HK2.out _ (Below.refl _ _).drew⟩)
    (first
     | (go_at_call 85;have hS:=(‹Qd0 _ _ _/\_›).1;refine (Qe8 g p _).mono ?_;rintro e w3 ⟨rfl,hb3⟩;have hS1:=(Qbc hb3 hS).1;have hS3:Qd0 w2.heap.size w2 w3/\_:=⟨held hS1 (ZZa _),HK2.out _ hS1⟩;clear hb3 hS1)
     | (go_at_call 102;have hS:=(‹Qd0 _ _ _/\_›).1;refine (QcT (g:=g) (p:=p) (g':=agG g) (p':=⟨none,0,none,0,none,0,none,0⟩) SM.out SX.out (Qan HA.out (Qad HT2.out hS.1)) (HX.out _ hS.1)).mono ?_;rintro e w4 ⟨rfl,hb4⟩;have hS1:=(Qbc hb4 hS).1;have hS3:Qd0 w2.heap.size w2 w4/\_:=⟨held hS1 (ZZa _),HK2.out _ hS1⟩;clear hb4 hS1))
   have HT4:=Qaa (Qad HT2.out hS3.1.1);clear hS3;go_wp2;go_ret;exact ⟨Qap HE.out,HT4.out⟩
 by_cases h3:g.k=3
 ·have HE0:Hid (agI g=(skB g.P g.N && QaG g (agH g))):=by unfold agI;rw [if_neg h1];rw [if_neg h2];rw [if_pos h3];rfl
  have HP:=Qaa (Qeo (g:=g) (p:=p) (h:=h3));clear h1 h2 h3;go_enter Tryz.func84,Tryz.ntmps84;go_wp2_with fail;refine (HP.out _).mono ?_;rintro e w1 ⟨rfl,hb1⟩;have HT1:=Qaa (Qad (HB0.out _) hb1);have K1:=QaB (QdZ w 49 g p) hb1;clear hb1;go_wp2_with fail;refine (QnY OK.out SM.out (Qan HA.out HT1.out)).mono ?_;rintro e w2 ⟨rfl,hb2⟩;have HT2:=Qaa (Qad HT1.out hb2);have K2:=QaB K1 hb2;clear hb2 K1
  cases hv:skB g.P g.N with
  | false=>
   have HE:Hid (false=agI g):=by have:=HE0.out;rw [hv,Bool.false_and] at this;exact this.symm
   go_wp2;go_ret;exact ⟨Qap HE.out,HT2.out⟩
  | true=>
   have HE:Hid (QaG g (agH g)=agI g):=by have:=HE0.out;rw [hv,Bool.true_and] at this;exact this.symm
   have HK2:Hid (∀ W,Below w2.heap.size w2 W->Qb8 W w.heap.size g p):=fun W hW=>QaB K2 hW
   have HX:Hid (∀ W,Below w2.heap.size w2 W->AgAt W (agH g) ⟨p.pa,p.pc,p.na,p.nc,none,0,none,0⟩):=fun W hW=>by
    have h:=Qan HA.out (Qad HT2.out hW);exact ⟨h.P,h.N,Qdy _ _ _,Qdy _ _ _⟩
   have SX:Hid (AgSm (agH g)):=⟨SM.out.P,SM.out.N,by simp [agH],by simp [agH]⟩;clear K2;go_wp2_with fail
   go_region_held3 (fun W=>Qd0 w2.heap.size w2 W/\Qb8 W w.heap.size g p)
    (first | exact hS3 | exact ⟨held (Below.refl _ _).drew (by simp),HK2.out _ (Below.refl _ _).drew⟩)
    (first
     | (go_at_call 85;have hS:=(‹Qd0 _ _ _/\_›).1;refine (QeS g p _).mono ?_;rintro e w3 ⟨rfl,hb3⟩;have hS1:=(Qbc hb3 hS).1;have hS3:Qd0 w2.heap.size w2 w3/\_:=⟨held hS1 (ZZa _),HK2.out _ hS1⟩;clear hb3 hS1)
     | (go_at_call 102;have hS:=(‹Qd0 _ _ _/\_›).1;refine (QcT (g:=g) (p:=p) (g':=agH g) (p':=⟨p.pa,p.pc,p.na,p.nc,none,0,none,0⟩) SM.out SX.out (Qan HA.out (Qad HT2.out hS.1)) (HX.out _ hS.1)).mono ?_;rintro e w4 ⟨rfl,hb4⟩;have hS1:=(Qbc hb4 hS).1;have hS3:Qd0 w2.heap.size w2 w4/\_:=⟨held hS1 (ZZa _),HK2.out _ hS1⟩;clear hb4 hS1))
   have HT4:=Qaa (Qad HT2.out hS3.1.1);clear hS3;go_wp2;go_ret;exact ⟨Qap HE.out,HT4.out⟩
 by_cases h4:g.k=4
 ·have HE0:Hid (agI g=(hlB g.E g.R && QaG g (agS g))):=by unfold agI;rw [if_neg h1];rw [if_neg h2];rw [if_neg h3];rw [if_pos h4];rfl
  have HP:=Qaa (QeK (g:=g) (p:=p) (h:=h4));clear h1 h2 h3 h4;go_enter Tryz.func84,Tryz.ntmps84;go_wp2_with fail;refine (HP.out _).mono ?_;rintro e w1 ⟨rfl,hb1⟩;have HT1:=Qaa (Qad (HB0.out _) hb1);have K1:=QaB (QdZ w 49 g p) hb1;clear hb1;go_wp2_with fail;refine (Qo1 SM.out (Qan HA.out HT1.out)).mono ?_;rintro e w2 ⟨rfl,hb2⟩;have HT2:=Qaa (Qad HT1.out hb2);have K2:=QaB K1 hb2;clear hb2 K1
  cases hv:hlB g.E g.R with
  | false=>
   have HE:Hid (false=agI g):=by have:=HE0.out;rw [hv,Bool.false_and] at this;exact this.symm
   go_wp2;go_ret;exact ⟨Qap HE.out,HT2.out⟩
  | true=>
   have HE:Hid (QaG g (agS g)=agI g):=by have:=HE0.out;rw [hv,Bool.true_and] at this;exact this.symm
   have HK2:Hid (∀ W,Below w2.heap.size w2 W->Qb8 W w.heap.size g p):=fun W hW=>QaB K2 hW
   have HX:Hid (∀ W,Below w2.heap.size w2 W->AgAt W (agS g) ⟨none,0,none,0,p.ea,p.ec,p.ra,p.rc⟩):=fun W hW=>by
    have h:=Qan HA.out (Qad HT2.out hW);exact ⟨Qcp _ _,Qcp _ _,h.E,h.R⟩
   have SX:Hid (AgSm (agS g)):=⟨by simp [agS],by simp [agS],SM.out.E,SM.out.R⟩;clear K2;go_wp2_with fail
   go_region_held3 (fun W=>Qd0 w2.heap.size w2 W/\Qb8 W w.heap.size g p)
    (first | exact hS3 | exact ⟨held (Below.refl _ _).drew (by simp),HK2.out _ (Below.refl _ _).drew⟩)
    (first
     | (go_at_call 85;have hS:=(‹Qd0 _ _ _/\_›).1;refine (Qff g p _).mono ?_;rintro e w3 ⟨rfl,hb3⟩;have hS1:=(Qbc hb3 hS).1;have hS3:Qd0 w2.heap.size w2 w3/\_:=⟨held hS1 (ZZa _),HK2.out _ hS1⟩;clear hb3 hS1)
     | (go_at_call 102;have hS:=(‹Qd0 _ _ _/\_›).1;refine (QcT (g:=g) (p:=p) (g':=agS g) (p':=⟨none,0,none,0,p.ea,p.ec,p.ra,p.rc⟩) SM.out SX.out (Qan HA.out (Qad HT2.out hS.1)) (HX.out _ hS.1)).mono ?_;rintro e w4 ⟨rfl,hb4⟩;have hS1:=(Qbc hb4 hS).1;have hS3:Qd0 w2.heap.size w2 w4/\_:=⟨held hS1 (ZZa _),HK2.out _ hS1⟩;clear hb4 hS1))
   have HT4:=Qaa (Qad HT2.out hS3.1.1);clear hS3;go_wp2;go_ret;exact ⟨Qap HE.out,HT4.out⟩
 have HE:Hid (false=agI g):=by unfold agI;rw [if_neg h1,if_neg h2,if_neg h3,if_neg h4];rfl
 have HP:=Qaa (Qmv (g:=g) (p:=p) (h1:=h1) (h2:=h2) (h3:=h3) (h4:=h4));clear h1 h2 h3 h4;go_enter Tryz.func84,Tryz.ntmps84;go_wp2_with fail;refine (HP.out _).mono ?_;rintro e w1 ⟨rfl,hb1⟩;have HT1:=Qaa (Qad (HB0.out _) hb1);clear hb1;go_wp2;go_ret;exact ⟨Qap HE.out,HT1.out⟩
end Go.Proofs.YthchmdmncmioiaaGreatDoor
