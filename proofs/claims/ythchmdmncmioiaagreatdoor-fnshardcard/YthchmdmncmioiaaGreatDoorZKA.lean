/-
 AggRight of the model.
-/
import Derived.Test.YthchmdmncmioiaaGreatDoorZJY
import Derived.Deep.DeepCutAuto
set_option maxHeartbeats 8000000
namespace Go.Proofs.YthchmdmncmioiaaGreatDoor
set_option linter.unusedVariables false
set_option linter.unusedSimpArgs false
open Go.ChangeShapes Go.WideShapes Go.ChangeAt Go.RowKit Go.PlainAid Go.Lib
set_option maxRecDepth 10000
theorem QeW {w:World} {g:Ag} {p:Pl} (sm:AgSm g) (hA:AgAt w g p) :
  Calls Tryz.prog 106 #[.agg #[.int .u64 g.z,.slice p.pa g.P.length p.pc,.slice p.na g.N.length p.nc,.int .i64 g.x,.int .u64 g.y]] w fun e w'=>e=.returned (.bool (noS g))/\Below w.heap.size w w':=by
 have HB0:Hid (∀ o,Below w.heap.size w (w.alloc o)):=fun o=>(ZZb _ _).alloc (ZZa _) o;have HA:=Qaa hA;have SM:=Qaa sm;clear sm hA;go_enter Tryz.func106,Tryz.ntmps106;go_wp2_with fail;refine (QdR (P':=[]) (N':=[]) rfl rfl rfl rfl SM.out.P SM.out.N (by simp) (by simp) (Qae HA.out.P (HB0.out _)) (Qae HA.out.N (HB0.out _)) (Qcp _ _) (Qcp _ _)).mono ?_;rintro e w1 ⟨rfl,hb1⟩;have HT1:=Qaa (Qad (HB0.out _) hb1);clear hb1;go_wp2;go_ret;exact ⟨rfl,HT1.out⟩
theorem QjW {w:World} {g:Ag} {p:Pl} (sm:AgSm g) :
  Calls Tryz.prog 107 #[.agg #[.slice p.ea g.E.length p.ec,.slice p.ra g.R.length p.rc]] w fun e w'=>e=.returned (.bool (noH g))/\Below w.heap.size w w':=by
 obtain ⟨_,_,gE,gR⟩:=sm;have HN:Hid (noH g=(decide (g.E.length=0) && decide (g.R.length=0))):=(rfl:noH g=(decide (g.E.length=0) && decide (g.R.length=0)));generalize g.E.length=n at gE HN ⊢;generalize g.R.length=m at gR HN ⊢;by_cases h1:n=0
 ·subst h1
  by_cases h2:m=0
  ·subst h2
   go_enter Tryz.func107,Tryz.ntmps107;go_wp2;go_ret;exact ⟨by rw [HN.out];rfl,(Below.refl _ _).alloc (Nat.le_refl _) _⟩
  ·have b2:((m:Int) == 0)=false:=ZZf.2 (by omega)
   go_enter Tryz.func107,Tryz.ntmps107;go_wp2;go_ret;exact ⟨by rw [HN.out];simp [h2],(Below.refl _ _).alloc (Nat.le_refl _) _⟩
 ·have b1:((n:Int) == 0)=false:=ZZf.2 (by omega)
  go_enter Tryz.func107,Tryz.ntmps107;go_wp2;go_ret;exact ⟨by rw [HN.out];simp [h1],(Below.refl _ _).alloc (Nat.le_refl _) _⟩
theorem Qbj {w:World} {g:Ag} {p:Pl} (ok:AgOk g) (sm:AgSm g) (hA:AgAt w g p) :
  Calls Tryz.prog 59 #[.agg (Qal g p)] w fun e w'=>e=.returned (.bool (agB g))/\Below w.heap.size w w':=by
 have HA:=Qaa hA;have OK:=Qaa ok;have SM:=Qaa sm;have HB0:Hid (∀ o,Below w.heap.size w (w.alloc o)):=fun o=>(ZZb _ _).alloc (ZZa _) o;clear ok sm hA;by_cases h14:1<=g.k/\g.k<=4
 rotate_left
 ·have hb:(decide (1<=g.k) && decide (g.k<=4))=false:=by rw [Bool.eq_false_iff];intro hh;simp at hh;exact h14 hh
  have HE:Hid (false=agB g):=(by unfold agB;rw [hb];simp only [Bool.false_and]:false=agB g);clear h14;go_enter Tryz.func59,Tryz.ntmps59;go_wp2_with fail;refine (QfI _ _ _ _).mono ?_;rintro e w1 ⟨rfl,hw⟩;subst hw;rw [hb];go_wp2;go_ret;exact ⟨Qap HE.out,HB0.out _⟩
 have hb:(decide (1<=g.k) && decide (g.k<=4))=true:=by simp [h14.1,h14.2]
 have hk4:g.k=1∨g.k=2∨g.k=3∨g.k=4:=by omega
 have HK4:=Qaa hk4;have HE0:Hid (agB g=(skB g.P g.N && hlB g.E g.R && ((g.k == 1) || QgC g) && ((g.k == 3) || noS g) && ((g.k == 4) || noH g) && (if g.k=2 then QcB g else (g.a == 0) && (g.t == 0)))):=(by unfold agB;rw [hb,Bool.true_and]:_=_)
 clear h14 hk4;go_enter Tryz.func59,Tryz.ntmps59;go_wp2_with fail;refine (QfI _ _ _ _).mono ?_;rintro e w1 ⟨rfl,hw⟩;subst hw;rw [hb];go_wp2_with fail;refine (Qgc rfl rfl SM.out.P SM.out.N (Qae HA.out.P (HB0.out _)) (Qae HA.out.N (HB0.out _)) OK.out.P OK.out.N).mono ?_;rintro e w2 ⟨rfl,hb2⟩;have HT2:=Qaa (Qad (HB0.out _) hb2);have K2:=QaB (QdZ w 49 g p) hb2;clear hb2;by_cases hsk:skB g.P g.N=true
 rotate_left
 ·replace hsk:skB g.P g.N=false:=by simpa using hsk
  rw [hsk];have HE:Hid (false=agB g):=by have:=HE0.out;rw [hsk] at this;simp only [Bool.false_and] at this;exact this.symm
  go_wp2;go_ret;exact ⟨Qap HE.out,HT2.out⟩
 rw [hsk];go_wp2_with fail;refine (QiB rfl rfl SM.out.E SM.out.R (Qag HA.out.E HT2.out) (Qag HA.out.R HT2.out) OK.out.R).mono ?_;rintro e w3 ⟨rfl,hb3⟩;have HT3:=Qaa (Qad HT2.out hb3);have K3:=QaB K2 hb3;clear hb3 K2;by_cases hhl:hlB g.E g.R=true
 rotate_left
 ·replace hhl:hlB g.E g.R=false:=by simpa using hhl
  rw [hhl];have HE:Hid (false=agB g):=by have:=HE0.out;rw [hsk,hhl] at this;simp only [Bool.false_and,Bool.and_false] at this;exact this.symm
  go_wp2;go_ret;exact ⟨Qap HE.out,HT3.out⟩
 rw [hhl];have HE1:Hid (agB g=(((g.k == 1) || QgC g) && ((g.k == 3) || noS g) && ((g.k == 4) || noH g) && (if g.k=2 then QcB g else (g.a == 0) && (g.t == 0)))):=by have:=HE0.out;rw [hsk,hhl] at this;simp only [Bool.true_and] at this;exact this
 clear HE0 hsk hhl hb;rcases HK4.out with hk | hk | hk | hk
 ·have b1:(g.k == 1)=true:=by simp [hk]
  have b2:(g.k == 2)=false:=ZZf.2 (by omega);have b3:(g.k == 3)=false:=ZZf.2 (by omega);have b4:(g.k == 4)=false:=ZZf.2 (by omega);have n1:(g.k != 1)=false:=by show (!(g.k == 1))=_;rw [b1];rfl
  have n2:(g.k != 2)=true:=by show (!(g.k == 2))=_;rw [b2];rfl
  have n3:(g.k != 3)=true:=by show (!(g.k == 3))=_;rw [b3];rfl
  have n4:(g.k != 4)=true:=by show (!(g.k == 4))=_;rw [b4];rfl
  have z2:¬ g.k=2:=by omega
  have z3:¬ g.k=3:=by omega
  have z4:¬ g.k=4:=by omega
  have hif:(if g.k=2 then QcB g else (g.a == 0) && (g.t == 0))=((g.a == 0) && (g.t == 0)):=if_neg (by omega)
  have HIF:=Qaa hif;clear hk hif;go_wp2_with fail;refine (QeW SM.out (Qan HA.out HT3.out)).mono ?_;rintro e w4 ⟨rfl,hb4⟩;have HT4:=Qaa (Qad HT3.out hb4);have K4:=QaB K3 hb4;clear hb4;by_cases hns:noS g=true
  rotate_left
  ·replace hns:noS g=false:=by simpa using hns
   rw [hns];have HE:Hid (false=agB g):=by have:=HE1.out;simp only [b1,b3,b4,hns,Bool.true_or,Bool.false_or,Bool.or_true,Bool.or_false,Bool.true_and,Bool.and_true,Bool.false_and,Bool.and_false] at this;exact this.symm
   go_wp2;go_ret;exact ⟨Qap HE.out,HT4.out⟩
  rw [hns];have HNS:=Qaa hns;clear hns;go_wp2_with fail;refine (QjW (p:=p) SM.out).mono ?_;rintro e w5 ⟨rfl,hb5⟩;have HT5:=Qaa (Qad HT4.out hb5);have K5:=QaB K4 hb5;clear hb5;by_cases hnh:noH g=true
  rotate_left
  ·replace hnh:noH g=false:=by simpa using hnh
   rw [hnh];have HE:Hid (false=agB g):=by have:=HE1.out;simp only [b1,b3,b4,HNS.out,hnh,Bool.true_or,Bool.false_or,Bool.or_true,Bool.or_false,Bool.true_and,Bool.and_true,Bool.false_and,Bool.and_false] at this;exact this.symm
   go_wp2;go_ret;exact ⟨Qap HE.out,HT5.out⟩
  rw [hnh];have HNH:=Qaa hnh;clear hnh;have HE2:=HE1.out;rw [HIF.out] at HE2;simp only [b1,b3,b4,HNS.out,HNH.out,Bool.true_or,Bool.false_or,Bool.or_true,Bool.or_false,Bool.true_and,Bool.and_true] at HE2;have HE3:=Qaa HE2;clear HE2 HE1;by_cases qa:g.a=0
  ·have ba:(g.a == 0)=true:=by simp [qa]
   by_cases qt:g.t=0
   ·have bt:(g.t == 0)=true:=by simp [qt]
    have HE:Hid (true=agB g):=by have:=HE3.out;rw [ba,bt] at this;exact this.symm
    clear qa qt;go_wp2;go_ret;exact ⟨Qap HE.out,HT5.out⟩
   ·have bt:(g.t == 0)=false:=ZZf.2 qt
    have HE:Hid (false=agB g):=by have:=HE3.out;rw [ba,bt] at this;exact this.symm
    clear qa qt;go_wp2;go_ret;exact ⟨Qap HE.out,HT5.out⟩
  ·have ba:(g.a == 0)=false:=ZZf.2 qa
   have HE:Hid (false=agB g):=by have:=HE3.out;rw [ba,Bool.false_and] at this;exact this.symm
   clear qa;go_wp2;go_ret;exact ⟨Qap HE.out,HT5.out⟩
 ·have b2:(g.k == 2)=true:=by simp [hk]
  have b1:(g.k == 1)=false:=ZZf.2 (by omega);have b3:(g.k == 3)=false:=ZZf.2 (by omega);have b4:(g.k == 4)=false:=ZZf.2 (by omega);have n1:(g.k != 1)=true:=by show (!(g.k == 1))=_;rw [b1];rfl
  have n2:(g.k != 2)=false:=by show (!(g.k == 2))=_;rw [b2];rfl
  have n3:(g.k != 3)=true:=by show (!(g.k == 3))=_;rw [b3];rfl
  have n4:(g.k != 4)=true:=by show (!(g.k == 4))=_;rw [b4];rfl
  have z1:¬ g.k=1:=by omega
  have z3:¬ g.k=3:=by omega
  have z4:¬ g.k=4:=by omega
  have HT2:=Qaa hk;have hif:(if g.k=2 then QcB g else (g.a == 0) && (g.t == 0))=QcB g:=if_pos hk
  have HIF:=Qaa hif;clear hk hif;have HSZ:Hid (QgC g=(g.h == 0 && g.l == 0)):=(rfl:QgC g=(g.h == 0 && g.l == 0));have hq:=Qdn g.h g.l 0 0;by_cases hsz:(g.h == 0 && g.l == 0)=true
  rotate_left
  ·replace hsz:(g.h == 0 && g.l == 0)=false:=by simpa using hsz
   rw [hsz] at hq;have hsz2:QgC g=false:=HSZ.out.trans hsz;have HE:Hid (false=agB g):=by have:=HE1.out;simp only [b1,b3,b4,hsz2,Bool.true_or,Bool.false_or,Bool.or_true,Bool.or_false,Bool.true_and,Bool.and_true,Bool.false_and,Bool.and_false] at this;exact this.symm
   go_wp2;go_ret;exact ⟨Qap HE.out,HT3.out⟩
  rw [hsz] at hq;have HS2:=Qaa (HSZ.out.trans hsz);clear hsz;go_wp2_with fail;refine (QeW SM.out (Qan HA.out HT3.out)).mono ?_;rintro e w4 ⟨rfl,hb4⟩;have HT4:=Qaa (Qad HT3.out hb4);have K4:=QaB K3 hb4;clear hb4;by_cases hns:noS g=true
  rotate_left
  ·replace hns:noS g=false:=by simpa using hns
   rw [hns];have HE:Hid (false=agB g):=by have:=HE1.out;simp only [b1,b3,b4,HS2.out,hns,Bool.true_or,Bool.false_or,Bool.or_true,Bool.or_false,Bool.true_and,Bool.and_true,Bool.false_and,Bool.and_false] at this;exact this.symm
   go_wp2;go_ret;exact ⟨Qap HE.out,HT4.out⟩
  rw [hns];have HNS:=Qaa hns;clear hns;go_wp2_with fail;refine (QjW (p:=p) SM.out).mono ?_;rintro e w5 ⟨rfl,hb5⟩;have HT5:=Qaa (Qad HT4.out hb5);have K5:=QaB K4 hb5;clear hb5;by_cases hnh:noH g=true
  rotate_left
  ·replace hnh:noH g=false:=by simpa using hnh
   rw [hnh];have HE:Hid (false=agB g):=by have:=HE1.out;simp only [b1,b3,b4,HS2.out,HNS.out,hnh,Bool.true_or,Bool.false_or,Bool.or_true,Bool.or_false,Bool.true_and,Bool.and_true,Bool.false_and,Bool.and_false] at this;exact this.symm
   go_wp2;go_ret;exact ⟨Qap HE.out,HT5.out⟩
  rw [hnh];have HNH:=Qaa hnh;clear hnh;have HE2:=HE1.out;rw [HIF.out] at HE2;simp only [b1,b3,b4,HS2.out,HNS.out,HNH.out,Bool.true_or,Bool.false_or,Bool.or_true,Bool.or_false,Bool.true_and,Bool.and_true] at HE2;have HE3:=Qaa HE2;clear HE2 HE1;have HTL:Hid (QcB g=(QlF g.a && (decide (-1<=g.t) && decide (g.t<=1000000000)) && (decide (0<=g.t) || (g.a == 0)))):=(rfl:_=_);go_wp2_with fail;refine (Qjt _ _).mono ?_;rintro e w6 ⟨rfl,hw⟩;subst hw;by_cases hv:QlF g.a=true
  rotate_left
  ·replace hv:QlF g.a=false:=by simpa using hv
   rw [hv];have HE:Hid (false=agB g):=by have:=HE3.out;rw [HTL.out,hv] at this;simp only [Bool.false_and] at this;exact this.symm
   go_wp2;go_ret;exact ⟨Qap HE.out,HT5.out⟩
  rw [hv];go_wp2_with fail;refine (QfI _ _ _ _).mono ?_;rintro e w7 ⟨rfl,hw⟩;subst hw;by_cases hi:(decide (-1<=g.t) && decide (g.t<=1000000000))=true
  rotate_left
  ·replace hi:(decide (-1<=g.t) && decide (g.t<=1000000000))=false:=by simpa using hi
   rw [hi];have HE:Hid (false=agB g):=by have:=HE3.out;rw [HTL.out,hv,hi] at this;simp only [Bool.false_and,Bool.and_false] at this;exact this.symm
   go_wp2;go_ret;exact ⟨Qap HE.out,HT5.out⟩
  rw [hi];by_cases q0:0<=g.t
  ·have d0:decide (0<=g.t)=true:=ZZh q0
   have HE:Hid (true=agB g):=by have:=HE3.out;rw [HTL.out,hv,hi,d0] at this;simp only [Bool.true_or,Bool.and_true] at this;exact this.symm
   clear hi hv;go_wp2;go_ret;exact ⟨Qap HE.out,HT5.out⟩
  ·have d0:decide (0<=g.t)=false:=ZZg q0
   by_cases qa:g.a=0
   ·have ba:(g.a == 0)=true:=by simp [qa]
    have HE:Hid (true=agB g):=by have:=HE3.out;rw [HTL.out,hv,hi,d0,ba] at this;simp only [Bool.false_or,Bool.and_true] at this;exact this.symm
    clear hi hv qa;go_wp2;go_ret;exact ⟨Qap HE.out,HT5.out⟩
   ·have ba:(g.a == 0)=false:=ZZf.2 qa
    have HE:Hid (false=agB g):=by have:=HE3.out;rw [HTL.out,hv,hi,d0,ba] at this;simp only [Bool.false_or,Bool.and_false] at this;exact this.symm
    clear hi hv qa;go_wp2;go_ret;exact ⟨Qap HE.out,HT5.out⟩
 ·have b3:(g.k == 3)=true:=by simp [hk]
  have b1:(g.k == 1)=false:=ZZf.2 (by omega);have b2:(g.k == 2)=false:=ZZf.2 (by omega);have b4:(g.k == 4)=false:=ZZf.2 (by omega);have n1:(g.k != 1)=true:=by show (!(g.k == 1))=_;rw [b1];rfl
  have n2:(g.k != 2)=true:=by show (!(g.k == 2))=_;rw [b2];rfl
  have n3:(g.k != 3)=false:=by show (!(g.k == 3))=_;rw [b3];rfl
  have n4:(g.k != 4)=true:=by show (!(g.k == 4))=_;rw [b4];rfl
  have z1:¬ g.k=1:=by omega
  have z2:¬ g.k=2:=by omega
  have z4:¬ g.k=4:=by omega
  have hif:(if g.k=2 then QcB g else (g.a == 0) && (g.t == 0))=((g.a == 0) && (g.t == 0)):=if_neg (by omega)
  have HIF:=Qaa hif;clear hk hif;have HSZ:Hid (QgC g=(g.h == 0 && g.l == 0)):=(rfl:QgC g=(g.h == 0 && g.l == 0));have hq:=Qdn g.h g.l 0 0;by_cases hsz:(g.h == 0 && g.l == 0)=true
  rotate_left
  ·replace hsz:(g.h == 0 && g.l == 0)=false:=by simpa using hsz
   rw [hsz] at hq;have hsz2:QgC g=false:=HSZ.out.trans hsz;have HE:Hid (false=agB g):=by have:=HE1.out;simp only [b1,b3,b4,hsz2,Bool.true_or,Bool.false_or,Bool.or_true,Bool.or_false,Bool.true_and,Bool.and_true,Bool.false_and,Bool.and_false] at this;exact this.symm
   go_wp2;go_ret;exact ⟨Qap HE.out,HT3.out⟩
  rw [hsz] at hq;have HS2:=Qaa (HSZ.out.trans hsz);clear hsz;go_wp2_with fail;refine (QjW (p:=p) SM.out).mono ?_;rintro e w5 ⟨rfl,hb5⟩;have HT5:=Qaa (Qad HT3.out hb5);have K5:=QaB K3 hb5;clear hb5;by_cases hnh:noH g=true
  rotate_left
  ·replace hnh:noH g=false:=by simpa using hnh
   rw [hnh];have HE:Hid (false=agB g):=by have:=HE1.out;simp only [b1,b3,b4,HS2.out,hnh,Bool.true_or,Bool.false_or,Bool.or_true,Bool.or_false,Bool.true_and,Bool.and_true,Bool.false_and,Bool.and_false] at this;exact this.symm
   go_wp2;go_ret;exact ⟨Qap HE.out,HT5.out⟩
  rw [hnh];have HNH:=Qaa hnh;clear hnh;have HE2:=HE1.out;rw [HIF.out] at HE2;simp only [b1,b3,b4,HS2.out,HNH.out,Bool.true_or,Bool.false_or,Bool.or_true,Bool.or_false,Bool.true_and,Bool.and_true] at HE2;have HE3:=Qaa HE2;clear HE2 HE1;by_cases qa:g.a=0
  ·have ba:(g.a == 0)=true:=by simp [qa]
   by_cases qt:g.t=0
   ·have bt:(g.t == 0)=true:=by simp [qt]
    have HE:Hid (true=agB g):=by have:=HE3.out;rw [ba,bt] at this;exact this.symm
    clear qa qt;go_wp2;go_ret;exact ⟨Qap HE.out,HT5.out⟩
   ·have bt:(g.t == 0)=false:=ZZf.2 qt
    have HE:Hid (false=agB g):=by have:=HE3.out;rw [ba,bt] at this;exact this.symm
    clear qa qt;go_wp2;go_ret;exact ⟨Qap HE.out,HT5.out⟩
  ·have ba:(g.a == 0)=false:=ZZf.2 qa
   have HE:Hid (false=agB g):=by have:=HE3.out;rw [ba,Bool.false_and] at this;exact this.symm
   clear qa;go_wp2;go_ret;exact ⟨Qap HE.out,HT5.out⟩
 ·have b4:(g.k == 4)=true:=by simp [hk]
  have b1:(g.k == 1)=false:=ZZf.2 (by omega);have b2:(g.k == 2)=false:=ZZf.2 (by omega);have b3:(g.k == 3)=false:=ZZf.2 (by omega);have n1:(g.k != 1)=true:=by show (!(g.k == 1))=_;rw [b1];rfl
  have n2:(g.k != 2)=true:=by show (!(g.k == 2))=_;rw [b2];rfl
  have n3:(g.k != 3)=true:=by show (!(g.k == 3))=_;rw [b3];rfl
  have n4:(g.k != 4)=false:=by show (!(g.k == 4))=_;rw [b4];rfl
  have z1:¬ g.k=1:=by omega
  have z2:¬ g.k=2:=by omega
  have z3:¬ g.k=3:=by omega
  have hif:(if g.k=2 then QcB g else (g.a == 0) && (g.t == 0))=((g.a == 0) && (g.t == 0)):=if_neg (by omega)
  have HIF:=Qaa hif;clear hk hif;have HSZ:Hid (QgC g=(g.h == 0 && g.l == 0)):=(rfl:QgC g=(g.h == 0 && g.l == 0));have hq:=Qdn g.h g.l 0 0;by_cases hsz:(g.h == 0 && g.l == 0)=true
  rotate_left
  ·replace hsz:(g.h == 0 && g.l == 0)=false:=by simpa using hsz
   rw [hsz] at hq;have hsz2:QgC g=false:=HSZ.out.trans hsz;have HE:Hid (false=agB g):=by have:=HE1.out;simp only [b1,b3,b4,hsz2,Bool.true_or,Bool.false_or,Bool.or_true,Bool.or_false,Bool.true_and,Bool.and_true,Bool.false_and,Bool.and_false] at this;exact this.symm
   go_wp2;go_ret;exact ⟨Qap HE.out,HT3.out⟩
  rw [hsz] at hq;have HS2:=Qaa (HSZ.out.trans hsz);clear hsz;go_wp2_with fail;refine (QeW SM.out (Qan HA.out HT3.out)).mono ?_;rintro e w4 ⟨rfl,hb4⟩;have HT4:=Qaa (Qad HT3.out hb4);have K4:=QaB K3 hb4;clear hb4;by_cases hns:noS g=true
  rotate_left
  ·replace hns:noS g=false:=by simpa using hns
   rw [hns];have HE:Hid (false=agB g):=by have:=HE1.out;simp only [b1,b3,b4,HS2.out,hns,Bool.true_or,Bool.false_or,Bool.or_true,Bool.or_false,Bool.true_and,Bool.and_true,Bool.false_and,Bool.and_false] at this;exact this.symm
   go_wp2;go_ret;exact ⟨Qap HE.out,HT4.out⟩
  rw [hns];have HNS:=Qaa hns;clear hns;have HE2:=HE1.out;rw [HIF.out] at HE2;simp only [b1,b3,b4,HS2.out,HNS.out,Bool.true_or,Bool.false_or,Bool.or_true,Bool.or_false,Bool.true_and,Bool.and_true] at HE2;have HE3:=Qaa HE2;clear HE2 HE1;by_cases qa:g.a=0
  ·have ba:(g.a == 0)=true:=by simp [qa]
   by_cases qt:g.t=0
   ·have bt:(g.t == 0)=true:=by simp [qt]
    have HE:Hid (true=agB g):=by have:=HE3.out;rw [ba,bt] at this;exact this.symm
    clear qa qt;go_wp2;go_ret;exact ⟨Qap HE.out,HT4.out⟩
   ·have bt:(g.t == 0)=false:=ZZf.2 qt
    have HE:Hid (false=agB g):=by have:=HE3.out;rw [ba,bt] at this;exact this.symm
    clear qa qt;go_wp2;go_ret;exact ⟨Qap HE.out,HT4.out⟩
  ·have ba:(g.a == 0)=false:=ZZf.2 qa
   have HE:Hid (false=agB g):=by have:=HE3.out;rw [ba,Bool.false_and] at this;exact this.symm
   clear qa;go_wp2;go_ret;exact ⟨Qap HE.out,HT4.out⟩
theorem QnA (o:Ag) (p:Pl) (a' t':Int) (w:World):Calls Tryz.prog 135 #[.agg (Qal o p),.int .i64 a',.int .i64 t'] w fun e w'=>e=.returned (.agg (Qal { o with a:=gA o.a o.t a' t',t:=gT o.a o.t a' t' } p))/\Below w.heap.size w w':=by
 have HB:Hid (∀ o o',Below w.heap.size w ((w.alloc o).alloc o')):=fun o o'=>((Below.refl _ _).alloc (Nat.le_refl _) o).alloc (by simp) o';obtain ⟨k,s,h,l,a,t,z,P,N,x,y,E,R⟩:=o
 show Calls Tryz.prog 135 #[.agg (Qal ⟨k,s,h,l,a,t,z,P,N,x,y,E,R⟩ p),.int .i64 a',.int .i64 t'] w fun e w'=>e=.returned (.agg (Qal ⟨k,s,h,l,gA a t a' t',gT a t a' t',z,P,N,x,y,E,R⟩ p))/\Below w.heap.size w w'
 by_cases h1:t<t'
 ·have d1:decide (t<t')=true:=ZZh h1
  have HE:Hid (gA a t a' t'=a'/\gT a t a' t'=t'):=Qfa (by simp [QdL,h1]);rw [HE.out.1,HE.out.2];clear HE;go_enter Tryz.func135,Tryz.ntmps135;go_wp2;refine bodyPost_ret (v:=.agg (Qal ⟨k,s,h,l,a',t',z,P,N,x,y,E,R⟩ p)) (by simp [results,Tryz.results135,go_sem]) rfl ⟨rfl,?_⟩
  repeat (refine Below.setCell ?_ (by simp) _)
  exact HB.out _ _
 ·have d1:decide (t<t')=false:=ZZg h1
  by_cases h2:t'=t
  ·subst h2
   by_cases h3:a<a'
   ·have d3:decide (a<a')=true:=ZZh h3
    have HE:Hid (gA a t' a' t'=a'/\gT a t' a' t'=t'):=Qfa (by simp [QdL,h3]);rw [HE.out.1,HE.out.2];clear HE;go_enter Tryz.func135,Tryz.ntmps135;go_wp2;refine bodyPost_ret (v:=.agg (Qal ⟨k,s,h,l,a',t',z,P,N,x,y,E,R⟩ p)) (by simp [results,Tryz.results135,go_sem]) rfl ⟨rfl,?_⟩
    repeat (refine Below.setCell ?_ (by simp) _)
    exact HB.out _ _
   ·have d3:decide (a<a')=false:=ZZg h3
    have HE:Hid (gA a t' a' t'=a/\gT a t' a' t'=t'):=Qfi (by simp [QdL,h3]);rw [HE.out.1,HE.out.2];clear HE;go_enter Tryz.func135,Tryz.ntmps135;go_wp2;refine bodyPost_ret (v:=.agg (Qal ⟨k,s,h,l,a,t',z,P,N,x,y,E,R⟩ p)) (by simp [results,Tryz.results135,go_sem]) rfl ⟨rfl,?_⟩
    repeat (refine Below.setCell ?_ (by simp) _)
    exact HB.out _ _
  ·have e2:(t' == t)=false:=ZZf.2 h2
   have HE:Hid (gA a t a' t'=a/\gT a t a' t'=t):=Qfi (by simp [QdL,h1,h2]);rw [HE.out.1,HE.out.2];clear HE;go_enter Tryz.func135,Tryz.ntmps135;go_wp2;refine bodyPost_ret (v:=.agg (Qal ⟨k,s,h,l,a,t,z,P,N,x,y,E,R⟩ p)) (by simp [results,Tryz.results135,go_sem]) rfl ⟨rfl,?_⟩
   repeat (refine Below.setCell ?_ (by simp) _)
   exact HB.out _ _
end Go.Proofs.YthchmdmncmioiaaGreatDoor
