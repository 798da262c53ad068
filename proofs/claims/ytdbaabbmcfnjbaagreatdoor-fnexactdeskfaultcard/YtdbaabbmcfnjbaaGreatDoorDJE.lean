/-
 Parts.
-/
import Derived.ChangeOld
import Derived.ChangeSlices
import Derived.Deep.SlicePairs
import Derived.Lib.SmallJoins
import Derived.Test.YtdbaabbmcfnjbaaGreatDoorDJD
set_option maxHeartbeats 8000000
set_option linter.all false
namespace Go.Proofs.YtdbaabbmcfnjbaaGreatDoor
open Go.ChangeShapes Go.WideShapes Go.ChangeAt Go.RowKit Go.PlainAid Go.Lib Tryz
structure AgOk (g:Ag):Prop where
 k:I64 g.k
 s:U64 g.s
 h:I64 g.h
 l:U64 g.l
 a:I64 g.a
 t:I64 g.t
 z:U64 g.z
 x:I64 g.x
 y:U64 g.y
 P:∀ b∈g.P,Qbw b
 N:∀ b∈g.N,Qbw b
 E:∀ b∈g.E,U64 b
 R:∀ b∈g.R,I64 b
set_option maxRecDepth 10000
def noS (g:Ag):Bool:=QcN g.z g.x g.y g.P g.N 0 0 0 [] []
def noH (g:Ag):Bool:=decide (g.E.length=0) && decide (g.R.length=0)
def Qij (g:Ag):Bool:=(g.h == 0 && g.l == 0)
def Qc9 (g:Ag):Bool:=QpS g.a && (decide (-1<=g.t) && decide (g.t<=1000000000)) && (decide (0<=g.t) || (g.a == 0))
def agB (g:Ag):Bool:=(decide (1<=g.k) && decide (g.k<=4)) && skB g.P g.N && hlB g.E g.R && ((g.k == 1) || Qij g) && ((g.k == 3) || noS g) && ((g.k == 4) || noH g) && (if g.k=2 then Qc9 g else (g.a == 0) && (g.t == 0))
def agC (g:Ag):Ag:=⟨1,g.s,g.h,g.l,0,0,0,[],[],0,0,[],[]⟩
def agG (g:Ag):Ag:=⟨2,g.s,0,0,g.a,g.t,0,[],[],0,0,[],[]⟩
def agH (g:Ag):Ag:=⟨3,g.s,0,0,0,0,g.z,g.P,g.N,g.x,g.y,[],[]⟩
def agS (g:Ag):Ag:=⟨4,g.s,0,0,0,0,0,[],[],0,0,g.E,g.R⟩
def agI (g:Ag):Bool:=if g.k=1 then QoK g (agC g) else if g.k=2 then gauB g.a g.t && QoK g (agG g) else if g.k=3 then skB g.P g.N && QoK g (agH g) else if g.k=4 then hlB g.E g.R && QoK g (agS g) else false
theorem Qpx (g:Ag):noS g=true↔g.z=0/\g.x=0/\g.y=0/\g.P=[]/\g.N=[]:=by
 simp [noS,QcN,and_assoc]
theorem Qm9 (g:Ag):noH g=true↔g.E=[]/\g.R=[]:=by simp [noH]
theorem Qj4:skB [] []=true:=by decide
theorem Qkw:hlB [] []=true:=by decide
theorem QkV (w:World) (ao:Option Addr):QaJ w ao []:=fun h=>absurd h (Nat.lt_irrefl 0)
variable {w:World}
variable {g:Ag}
variable {p:Pl}
theorem QeE (sm:AgSm g) (hA:AgAt w g p) :
  Calls prog 295 #[.agg #[.int .u64 g.z,.slice p.pa g.P.length p.pc,.slice p.na g.N.length p.nc,.int .i64 g.x,.int .u64 g.y]] w fun e w'=>e=.returned (.bool (noS g))/\Below w.heap.size w w':=by
 have aa:Hid (∀ o,Below w.heap.size w (w.alloc o)):=fun o=>(Below.refl _ _).alloc (Nat.le_refl _) o;have HA:=Qaa hA;have SM:=Qaa sm;clear sm hA;go_enter func295,ntmps295;go_wp2_with fail;refine (Qgz (P':=[]) (N':=[]) rfl rfl rfl rfl SM.out.P SM.out.N (by simp) (by simp) (Qak HA.out.P (aa.out _)) (Qak HA.out.N (aa.out _)) (QkV _ _) (QkV _ _)).mono ?_;rintro e w1 ⟨rfl,ab⟩;have ac:=Qaa (Qac (aa.out _) ab);clear ab;go_wp2;go_ret;exact ⟨rfl,ac⟩
theorem QkK (sm:AgSm g) :
  Calls prog 296 #[.agg #[.slice p.ea g.E.length p.ec,.slice p.ra g.R.length p.rc]] w fun e w'=>e=.returned (.bool (noH g))/\Below w.heap.size w w':=by
 obtain ⟨_,_,gE,gR⟩:=sm;have HN:Hid (noH g=(decide (g.E.length=0) && decide (g.R.length=0))):=(rfl:noH g=(decide (g.E.length=0) && decide (g.R.length=0)));generalize g.E.length=n at gE HN ⊢;generalize g.R.length=m at gR HN ⊢;by_cases h1:n=0
 ·subst h1
  by_cases h2:m=0
  ·subst h2
   go_enter func296,ntmps296;go_wp2;go_ret;exact ⟨by rw [HN.out];rfl,(Below.refl _ _).alloc (Nat.le_refl _) _⟩
  ·have b2:((m:Int) == 0)=false:=beq_eq_false_iff_ne.2 (by omega)
   go_enter func296,ntmps296;go_wp2;go_ret;exact ⟨by rw [HN.out];simp [h2],(Below.refl _ _).alloc (Nat.le_refl _) _⟩
 ·have b1:((n:Int) == 0)=false:=beq_eq_false_iff_ne.2 (by omega)
  go_enter func296,ntmps296;go_wp2;go_ret;exact ⟨by rw [HN.out];simp [h1],(Below.refl _ _).alloc (Nat.le_refl _) _⟩
theorem Qi6 (ok:AgOk g) (sm:AgSm g) (hA:AgAt w g p) :
  Calls prog 232 #[.agg (Qan g p)] w fun e w'=>e=.returned (.bool (agB g))/\Below w.heap.size w w':=by
 have HA:=Qaa hA;have OK:=Qaa ok;have SM:=Qaa sm;have az:Hid (∀ o,Below w.heap.size w (w.alloc o)):=fun o=>(Below.refl _ _).alloc (Nat.le_refl _) o;clear ok sm hA;by_cases ax:1<=g.k/\g.k<=4
 rotate_left
 ·have hb:(decide (1<=g.k) && decide (g.k<=4))=false:=by rw [Bool.eq_false_iff];intro hh;simp at hh;exact ax hh
  have HE:Hid (false=agB g):=(by unfold agB;rw [hb];simp only [Bool.false_and]:false=agB g);clear ax;go_enter func232,ntmps232;go_wp2_with fail;refine (QfB _ _ _ _).mono ?_;rintro e w1 ⟨rfl,hw⟩;subst hw;rw [hb];go_wp2;go_ret;exact ⟨QaS HE,az.out _⟩
 have hb:(decide (1<=g.k) && decide (g.k<=4))=true:=by simp [ax.1,ax.2]
 have aD:g.k=1∨g.k=2∨g.k=3∨g.k=4:=by omega
 have aE:=Qaa aD;have aA:Hid (agB g=(skB g.P g.N && hlB g.E g.R && ((g.k == 1) || Qij g) && ((g.k == 3) || noS g) && ((g.k == 4) || noH g) && (if g.k=2 then Qc9 g else (g.a == 0) && (g.t == 0)))):=(by unfold agB;rw [hb,Bool.true_and]:_=_)
 clear ax aD;go_enter func232,ntmps232;go_wp2_with fail;refine (QfB _ _ _ _).mono ?_;rintro e w1 ⟨rfl,hw⟩;subst hw;rw [hb];go_wp2_with fail;refine (Qdb rfl rfl SM.out.P SM.out.N (Qak HA.out.P (az.out _)) (Qak HA.out.N (az.out _)) OK.out.P OK.out.N).mono ?_;rintro e w2 ⟨rfl,aC⟩;have av:=Qaa (Qac (az.out _) aC);have K2:=Qbh (Qkc w 90 g p) aC;clear aC;by_cases ap:skB g.P g.N=true
 rotate_left
 ·replace ap:skB g.P g.N=false:=by simpa using ap
  rw [ap];have HE:Hid (false=agB g):=by have:=aA.out;rw [ap] at this;simp only [Bool.false_and] at this;exact this.symm
  go_wp2;go_ret;exact ⟨QaS HE,av⟩
 rw [ap];go_wp2_with fail;refine (Qcr rfl rfl SM.out.E SM.out.R (Qah HA.out.E av) (Qah HA.out.R av) OK.out.R).mono ?_;rintro e w3 ⟨rfl,aB⟩;have ah:=Qaa (Qac av aB);have K3:=Qbh K2 aB;clear aB K2;by_cases ar:hlB g.E g.R=true
 rotate_left
 ·replace ar:hlB g.E g.R=false:=by simpa using ar
  rw [ar];have HE:Hid (false=agB g):=by have:=aA.out;rw [ap,ar] at this;simp only [Bool.false_and,Bool.and_false] at this;exact this.symm
  go_wp2;go_ret;exact ⟨QaS HE,ah⟩
 rw [ar];have af:Hid (agB g=(((g.k == 1) || Qij g) && ((g.k == 3) || noS g) && ((g.k == 4) || noH g) && (if g.k=2 then Qc9 g else (g.a == 0) && (g.t == 0)))):=by have:=aA.out;rw [ap,ar] at this;simp only [Bool.true_and] at this;exact this
 clear aA ap ar hb;rcases aE.out with hk | hk | hk | hk
 ·have b1:(g.k == 1)=true:=by simp [hk]
  have b2:(g.k == 2)=false:=beq_eq_false_iff_ne.2 (by omega);have b3:(g.k == 3)=false:=beq_eq_false_iff_ne.2 (by omega);have b4:(g.k == 4)=false:=beq_eq_false_iff_ne.2 (by omega);have n1:(g.k != 1)=false:=by show (!(g.k == 1))=_;rw [b1];rfl
  have n2:(g.k != 2)=true:=by show (!(g.k == 2))=_;rw [b2];rfl
  have n3:(g.k != 3)=true:=by show (!(g.k == 3))=_;rw [b3];rfl
  have n4:(g.k != 4)=true:=by show (!(g.k == 4))=_;rw [b4];rfl
  have z2:¬ g.k=2:=by omega
  have z3:¬ g.k=3:=by omega
  have z4:¬ g.k=4:=by omega
  have ai:(if g.k=2 then Qc9 g else (g.a == 0) && (g.t == 0))=((g.a == 0) && (g.t == 0)):=if_neg (by omega)
  have au:=Qaa ai;clear hk ai;go_wp2_with fail;refine (QeE SM (Qbj HA ah)).mono ?_;rintro e w4 ⟨rfl,aj⟩;have am:=Qaa (Qac ah aj);have K4:=Qbh K3 aj;clear aj;by_cases ac:noS g=true
  rotate_left
  ·replace ac:noS g=false:=by simpa using ac
   rw [ac];have HE:Hid (false=agB g):=by have:=af.out;simp only [b1,b3,b4,ac,Bool.true_or,Bool.false_or,Bool.or_true,Bool.or_false,Bool.true_and,Bool.and_true,Bool.false_and,Bool.and_false] at this;exact this.symm
   go_wp2;go_ret;exact ⟨QaS HE,am⟩
  rw [ac];have aq:=Qaa ac;clear ac;go_wp2_with fail;refine (QkK (p:=p) SM).mono ?_;rintro e w5 ⟨rfl,al⟩;have ag:=Qaa (Qac am al);have K5:=Qbh K4 al;clear al;by_cases aa:noH g=true
  rotate_left
  ·replace aa:noH g=false:=by simpa using aa
   rw [aa];have HE:Hid (false=agB g):=by have:=af.out;simp only [b1,b3,b4,aq.out,aa,Bool.true_or,Bool.false_or,Bool.or_true,Bool.or_false,Bool.true_and,Bool.and_true,Bool.false_and,Bool.and_false] at this;exact this.symm
   go_wp2;go_ret;exact ⟨QaS HE,ag⟩
  rw [aa];have aw:=Qaa aa;clear aa;have ad:=af.out;rw [au.out] at ad;simp only [b1,b3,b4,aq.out,aw.out,Bool.true_or,Bool.false_or,Bool.or_true,Bool.or_false,Bool.true_and,Bool.and_true] at ad;have ae:=Qaa ad;clear ad af;by_cases qa:g.a=0
  ·have ba:(g.a == 0)=true:=by simp [qa]
   by_cases qt:g.t=0
   ·have bt:(g.t == 0)=true:=by simp [qt]
    have HE:Hid (true=agB g):=by have:=ae.out;rw [ba,bt] at this;exact this.symm
    clear qa qt;go_wp2;go_ret;exact ⟨QaS HE,ag⟩
   ·have bt:(g.t == 0)=false:=beq_eq_false_iff_ne.2 qt
    have HE:Hid (false=agB g):=by have:=ae.out;rw [ba,bt] at this;exact this.symm
    clear qa qt;go_wp2;go_ret;exact ⟨QaS HE,ag⟩
  ·have ba:(g.a == 0)=false:=beq_eq_false_iff_ne.2 qa
   have HE:Hid (false=agB g):=by have:=ae.out;rw [ba,Bool.false_and] at this;exact this.symm
   clear qa;go_wp2;go_ret;exact ⟨QaS HE,ag⟩
 ·have b2:(g.k == 2)=true:=by simp [hk]
  have b1:(g.k == 1)=false:=beq_eq_false_iff_ne.2 (by omega);have b3:(g.k == 3)=false:=beq_eq_false_iff_ne.2 (by omega);have b4:(g.k == 4)=false:=beq_eq_false_iff_ne.2 (by omega);have n1:(g.k != 1)=true:=by show (!(g.k == 1))=_;rw [b1];rfl
  have n2:(g.k != 2)=false:=by show (!(g.k == 2))=_;rw [b2];rfl
  have n3:(g.k != 3)=true:=by show (!(g.k == 3))=_;rw [b3];rfl
  have n4:(g.k != 4)=true:=by show (!(g.k == 4))=_;rw [b4];rfl
  have z1:¬ g.k=1:=by omega
  have z3:¬ g.k=3:=by omega
  have z4:¬ g.k=4:=by omega
  have av:=Qaa hk;have ai:(if g.k=2 then Qc9 g else (g.a == 0) && (g.t == 0))=Qc9 g:=if_pos hk
  have au:=Qaa ai;clear hk ai;have ao:Hid (Qij g=(g.h == 0 && g.l == 0)):=(rfl:Qij g=(g.h == 0 && g.l == 0));have hq:=Qf0 g.h g.l 0 0;by_cases ab:(g.h == 0 && g.l == 0)=true
  rotate_left
  ·replace ab:(g.h == 0 && g.l == 0)=false:=by simpa using ab
   rw [ab] at hq;have ak:Qij g=false:=ao.out.trans ab;have HE:Hid (false=agB g):=by have:=af.out;simp only [b1,b3,b4,ak,Bool.true_or,Bool.false_or,Bool.or_true,Bool.or_false,Bool.true_and,Bool.and_true,Bool.false_and,Bool.and_false] at this;exact this.symm
   go_wp2;go_ret;exact ⟨QaS HE,ah⟩
  rw [ab] at hq;have an:=Qaa (ao.out.trans ab);clear ab;go_wp2_with fail;refine (QeE SM (Qbj HA ah)).mono ?_;rintro e w4 ⟨rfl,aj⟩;have am:=Qaa (Qac ah aj);have K4:=Qbh K3 aj;clear aj;by_cases ac:noS g=true
  rotate_left
  ·replace ac:noS g=false:=by simpa using ac
   rw [ac];have HE:Hid (false=agB g):=by have:=af.out;simp only [b1,b3,b4,an.out,ac,Bool.true_or,Bool.false_or,Bool.or_true,Bool.or_false,Bool.true_and,Bool.and_true,Bool.false_and,Bool.and_false] at this;exact this.symm
   go_wp2;go_ret;exact ⟨QaS HE,am⟩
  rw [ac];have aq:=Qaa ac;clear ac;go_wp2_with fail;refine (QkK (p:=p) SM).mono ?_;rintro e w5 ⟨rfl,al⟩;have ag:=Qaa (Qac am al);have K5:=Qbh K4 al;clear al;by_cases aa:noH g=true
  rotate_left
  ·replace aa:noH g=false:=by simpa using aa
   rw [aa];have HE:Hid (false=agB g):=by have:=af.out;simp only [b1,b3,b4,an.out,aq.out,aa,Bool.true_or,Bool.false_or,Bool.or_true,Bool.or_false,Bool.true_and,Bool.and_true,Bool.false_and,Bool.and_false] at this;exact this.symm
   go_wp2;go_ret;exact ⟨QaS HE,ag⟩
  rw [aa];have aw:=Qaa aa;clear aa;have ad:=af.out;rw [au.out] at ad;simp only [b1,b3,b4,an.out,aq.out,aw.out,Bool.true_or,Bool.false_or,Bool.or_true,Bool.or_false,Bool.true_and,Bool.and_true] at ad;have ae:=Qaa ad;clear ad af;have ay:Hid (Qc9 g=(QpS g.a && (decide (-1<=g.t) && decide (g.t<=1000000000)) && (decide (0<=g.t) || (g.a == 0)))):=(rfl:_=_);go_wp2_with fail;refine (QkQ _ _).mono ?_;rintro e w6 ⟨rfl,hw⟩;subst hw;by_cases hv:QpS g.a=true
  rotate_left
  ·replace hv:QpS g.a=false:=by simpa using hv
   rw [hv];have HE:Hid (false=agB g):=by have:=ae.out;rw [ay.out,hv] at this;simp only [Bool.false_and] at this;exact this.symm
   go_wp2;go_ret;exact ⟨QaS HE,ag⟩
  rw [hv];go_wp2_with fail;refine (QfB _ _ _ _).mono ?_;rintro e w7 ⟨rfl,hw⟩;subst hw;by_cases hi:(decide (-1<=g.t) && decide (g.t<=1000000000))=true
  rotate_left
  ·replace hi:(decide (-1<=g.t) && decide (g.t<=1000000000))=false:=by simpa using hi
   rw [hi];have HE:Hid (false=agB g):=by have:=ae.out;rw [ay.out,hv,hi] at this;simp only [Bool.false_and,Bool.and_false] at this;exact this.symm
   go_wp2;go_ret;exact ⟨QaS HE,ag⟩
  rw [hi];by_cases q0:0<=g.t
  ·have d0:decide (0<=g.t)=true:=decide_eq_true q0
   have HE:Hid (true=agB g):=by have:=ae.out;rw [ay.out,hv,hi,d0] at this;simp only [Bool.true_or,Bool.and_true] at this;exact this.symm
   clear hi hv;go_wp2;go_ret;exact ⟨QaS HE,ag⟩
  ·have d0:decide (0<=g.t)=false:=decide_eq_false q0
   by_cases qa:g.a=0
   ·have ba:(g.a == 0)=true:=by simp [qa]
    have HE:Hid (true=agB g):=by have:=ae.out;rw [ay.out,hv,hi,d0,ba] at this;simp only [Bool.false_or,Bool.and_true] at this;exact this.symm
    clear hi hv qa;go_wp2;go_ret;exact ⟨QaS HE,ag⟩
   ·have ba:(g.a == 0)=false:=beq_eq_false_iff_ne.2 qa
    have HE:Hid (false=agB g):=by have:=ae.out;rw [ay.out,hv,hi,d0,ba] at this;simp only [Bool.false_or,Bool.and_false] at this;exact this.symm
    clear hi hv qa;go_wp2;go_ret;exact ⟨QaS HE,ag⟩
 ·have b3:(g.k == 3)=true:=by simp [hk]
  have b1:(g.k == 1)=false:=beq_eq_false_iff_ne.2 (by omega);have b2:(g.k == 2)=false:=beq_eq_false_iff_ne.2 (by omega);have b4:(g.k == 4)=false:=beq_eq_false_iff_ne.2 (by omega);have n1:(g.k != 1)=true:=by show (!(g.k == 1))=_;rw [b1];rfl
  have n2:(g.k != 2)=true:=by show (!(g.k == 2))=_;rw [b2];rfl
  have n3:(g.k != 3)=false:=by show (!(g.k == 3))=_;rw [b3];rfl
  have n4:(g.k != 4)=true:=by show (!(g.k == 4))=_;rw [b4];rfl
  have z1:¬ g.k=1:=by omega
  have z2:¬ g.k=2:=by omega
  have z4:¬ g.k=4:=by omega
  have ai:(if g.k=2 then Qc9 g else (g.a == 0) && (g.t == 0))=((g.a == 0) && (g.t == 0)):=if_neg (by omega)
  have au:=Qaa ai;clear hk ai;have ao:Hid (Qij g=(g.h == 0 && g.l == 0)):=(rfl:Qij g=(g.h == 0 && g.l == 0));have hq:=Qf0 g.h g.l 0 0;by_cases ab:(g.h == 0 && g.l == 0)=true
  rotate_left
  ·replace ab:(g.h == 0 && g.l == 0)=false:=by simpa using ab
   rw [ab] at hq;have ak:Qij g=false:=ao.out.trans ab;have HE:Hid (false=agB g):=by have:=af.out;simp only [b1,b3,b4,ak,Bool.true_or,Bool.false_or,Bool.or_true,Bool.or_false,Bool.true_and,Bool.and_true,Bool.false_and,Bool.and_false] at this;exact this.symm
   go_wp2;go_ret;exact ⟨QaS HE,ah⟩
  rw [ab] at hq;have an:=Qaa (ao.out.trans ab);clear ab;go_wp2_with fail;refine (QkK (p:=p) SM).mono ?_;rintro e w5 ⟨rfl,al⟩;have ag:=Qaa (Qac ah al);have K5:=Qbh K3 al;clear al;by_cases aa:noH g=true
  rotate_left
  ·replace aa:noH g=false:=by simpa using aa
   rw [aa];have HE:Hid (false=agB g):=by have:=af.out;simp only [b1,b3,b4,an.out,aa,Bool.true_or,Bool.false_or,Bool.or_true,Bool.or_false,Bool.true_and,Bool.and_true,Bool.false_and,Bool.and_false] at this;exact this.symm
   go_wp2;go_ret;exact ⟨QaS HE,ag⟩
  rw [aa];have aw:=Qaa aa;clear aa;have ad:=af.out;rw [au.out] at ad;simp only [b1,b3,b4,an.out,aw.out,Bool.true_or,Bool.false_or,Bool.or_true,Bool.or_false,Bool.true_and,Bool.and_true] at ad;have ae:=Qaa ad;clear ad af;by_cases qa:g.a=0
  ·have ba:(g.a == 0)=true:=by simp [qa]
   by_cases qt:g.t=0
   ·have bt:(g.t == 0)=true:=by simp [qt]
    have HE:Hid (true=agB g):=by have:=ae.out;rw [ba,bt] at this;exact this.symm
    clear qa qt;go_wp2;go_ret;exact ⟨QaS HE,ag⟩
   ·have bt:(g.t == 0)=false:=beq_eq_false_iff_ne.2 qt
    have HE:Hid (false=agB g):=by have:=ae.out;rw [ba,bt] at this;exact this.symm
    clear qa qt;go_wp2;go_ret;exact ⟨QaS HE,ag⟩
  ·have ba:(g.a == 0)=false:=beq_eq_false_iff_ne.2 qa
   have HE:Hid (false=agB g):=by have:=ae.out;rw [ba,Bool.false_and] at this;exact this.symm
   clear qa;go_wp2;go_ret;exact ⟨QaS HE,ag⟩
 ·have b4:(g.k == 4)=true:=by simp [hk]
  have b1:(g.k == 1)=false:=beq_eq_false_iff_ne.2 (by omega);have b2:(g.k == 2)=false:=beq_eq_false_iff_ne.2 (by omega);have b3:(g.k == 3)=false:=beq_eq_false_iff_ne.2 (by omega);have n1:(g.k != 1)=true:=by show (!(g.k == 1))=_;rw [b1];rfl
  have n2:(g.k != 2)=true:=by show (!(g.k == 2))=_;rw [b2];rfl
  have n3:(g.k != 3)=true:=by show (!(g.k == 3))=_;rw [b3];rfl
  have n4:(g.k != 4)=false:=by show (!(g.k == 4))=_;rw [b4];rfl
  have z1:¬ g.k=1:=by omega
  have z2:¬ g.k=2:=by omega
  have z3:¬ g.k=3:=by omega
  have ai:(if g.k=2 then Qc9 g else (g.a == 0) && (g.t == 0))=((g.a == 0) && (g.t == 0)):=if_neg (by omega)
  have au:=Qaa ai;clear hk ai;have ao:Hid (Qij g=(g.h == 0 && g.l == 0)):=(rfl:Qij g=(g.h == 0 && g.l == 0));have hq:=Qf0 g.h g.l 0 0;by_cases ab:(g.h == 0 && g.l == 0)=true
  rotate_left
  ·replace ab:(g.h == 0 && g.l == 0)=false:=by simpa using ab
   rw [ab] at hq;have ak:Qij g=false:=ao.out.trans ab;have HE:Hid (false=agB g):=by have:=af.out;simp only [b1,b3,b4,ak,Bool.true_or,Bool.false_or,Bool.or_true,Bool.or_false,Bool.true_and,Bool.and_true,Bool.false_and,Bool.and_false] at this;exact this.symm
   go_wp2;go_ret;exact ⟨QaS HE,ah⟩
  rw [ab] at hq;have an:=Qaa (ao.out.trans ab);clear ab;go_wp2_with fail;refine (QeE SM (Qbj HA ah)).mono ?_;rintro e w4 ⟨rfl,aj⟩;have am:=Qaa (Qac ah aj);have K4:=Qbh K3 aj;clear aj;by_cases ac:noS g=true
  rotate_left
  ·replace ac:noS g=false:=by simpa using ac
   rw [ac];have HE:Hid (false=agB g):=by have:=af.out;simp only [b1,b3,b4,an.out,ac,Bool.true_or,Bool.false_or,Bool.or_true,Bool.or_false,Bool.true_and,Bool.and_true,Bool.false_and,Bool.and_false] at this;exact this.symm
   go_wp2;go_ret;exact ⟨QaS HE,am⟩
  rw [ac];have aq:=Qaa ac;clear ac;have ad:=af.out;rw [au.out] at ad;simp only [b1,b3,b4,an.out,aq.out,Bool.true_or,Bool.false_or,Bool.or_true,Bool.or_false,Bool.true_and,Bool.and_true] at ad;have ae:=Qaa ad;clear ad af;by_cases qa:g.a=0
  ·have ba:(g.a == 0)=true:=by simp [qa]
   by_cases qt:g.t=0
   ·have bt:(g.t == 0)=true:=by simp [qt]
    have HE:Hid (true=agB g):=by have:=ae.out;rw [ba,bt] at this;exact this.symm
    clear qa qt;go_wp2;go_ret;exact ⟨QaS HE,am⟩
   ·have bt:(g.t == 0)=false:=beq_eq_false_iff_ne.2 qt
    have HE:Hid (false=agB g):=by have:=ae.out;rw [ba,bt] at this;exact this.symm
    clear qa qt;go_wp2;go_ret;exact ⟨QaS HE,am⟩
  ·have ba:(g.a == 0)=false:=beq_eq_false_iff_ne.2 qa
   have HE:Hid (false=agB g):=by have:=ae.out;rw [ba,Bool.false_and] at this;exact this.symm
   clear qa;go_wp2;go_ret;exact ⟨QaS HE,am⟩
end Go.Proofs.YtdbaabbmcfnjbaaGreatDoor
