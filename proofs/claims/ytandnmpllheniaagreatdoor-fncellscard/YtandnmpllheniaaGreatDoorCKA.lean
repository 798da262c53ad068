/-
 Parts.
-/
import Derived.Test.YtandnmpllheniaaGreatDoorCJY
import Derived.Deep.DeepCutAuto
set_option linter.all false
set_option maxHeartbeats 16000000
namespace Go.Proofs.YtandnmpllheniaaGreatDoor
open Go.ChangeShapes Go.WideShapes Go.ChangeAt Go.RowKit Go.PlainAid Go.Lib
set_option maxRecDepth 10000
theorem QfQ {w:World} {g:Ag} {p:Pl} (sm:AgSm g) (hA:AgAt w g p) :
  Calls Tryz.prog 106 #[.agg #[.int .u64 g.z,.slice p.pa g.P.length p.pc,.slice p.na g.N.length p.nc,.int .i64 g.x,.int .u64 g.y]] w fun e w'=>e=.returned (.bool (noS g))/\Below w.heap.size w w':=by
 have aa:Hid (∀ o,Below w.heap.size w (w.alloc o)):=fun o=>(ZZb _ _).alloc (ZZa _) o;have HA:=Qaa hA;have SM:=Qaa sm;clear sm hA;go_enter Tryz.func106,Tryz.ntmps106;go_wp2_with fail;refine (Qek (P':=[]) (N':=[]) rfl rfl rfl rfl SM.out.P SM.out.N (by simp) (by simp) (Qae HA.out.P (aa.out _)) (Qae HA.out.N (aa.out _)) (QcH _ _) (QcH _ _)).mono ?_;rintro e w1 ⟨rfl,ab⟩;have ac:=Qaa (Qac (aa.out _) ab);clear ab;go_wp2;go_ret;exact ⟨rfl,ac⟩
theorem QkB {w:World} {g:Ag} {p:Pl} (sm:AgSm g) :
  Calls Tryz.prog 107 #[.agg #[.slice p.ea g.E.length p.ec,.slice p.ra g.R.length p.rc]] w fun e w'=>e=.returned (.bool (noH g))/\Below w.heap.size w w':=by
 obtain ⟨_,_,gE,gR⟩:=sm;have HN:Hid (noH g=(decide (g.E.length=0) && decide (g.R.length=0))):=(rfl:noH g=(decide (g.E.length=0) && decide (g.R.length=0)));generalize g.E.length=n at gE HN ⊢;generalize g.R.length=m at gR HN ⊢;by_cases h1:n=0
 ·subst h1
  by_cases h2:m=0
  ·subst h2
   go_enter Tryz.func107,Tryz.ntmps107;go_wp2;go_ret;exact ⟨by rw [HN.out];rfl,(Below.refl _ _).alloc (Nat.le_refl _) _⟩
  ·have b2:((m:Int) == 0)=false:=ZZf.2 (by omega)
   go_enter Tryz.func107,Tryz.ntmps107;go_wp2;go_ret;exact ⟨by rw [HN.out];simp [h2],(Below.refl _ _).alloc (Nat.le_refl _) _⟩
 ·have b1:((n:Int) == 0)=false:=ZZf.2 (by omega)
  go_enter Tryz.func107,Tryz.ntmps107;go_wp2;go_ret;exact ⟨by rw [HN.out];simp [h1],(Below.refl _ _).alloc (Nat.le_refl _) _⟩
theorem Qbw {w:World} {g:Ag} {p:Pl} (ok:AgOk g) (sm:AgSm g) (hA:AgAt w g p) :
  Calls Tryz.prog 59 #[.agg (Qak g p)] w fun e w'=>e=.returned (.bool (agB g))/\Below w.heap.size w w':=by
 have HA:=Qaa hA;have OK:=Qaa ok;have SM:=Qaa sm;have az:Hid (∀ o,Below w.heap.size w (w.alloc o)):=fun o=>(ZZb _ _).alloc (ZZa _) o;clear ok sm hA;by_cases ay:1<=g.k/\g.k<=4
 rotate_left
 ·have hb:(decide (1<=g.k) && decide (g.k<=4))=false:=by rw [Bool.eq_false_iff];intro hh;simp at hh;exact ay hh
  have HE:Hid (false=agB g):=(by unfold agB;rw [hb];simp only [Bool.false_and]:false=agB g);clear ay;go_enter Tryz.func59,Tryz.ntmps59;go_wp2_with fail;refine (Qgd _ _ _ _).mono ?_;rintro e w1 ⟨rfl,hw⟩;subst hw;rw [hb];go_wp2;go_ret;exact ⟨Qat HE,az.out _⟩
 have hb:(decide (1<=g.k) && decide (g.k<=4))=true:=by simp [ay.1,ay.2]
 have aD:g.k=1∨g.k=2∨g.k=3∨g.k=4:=by omega
 have aE:=Qaa aD;have aA:Hid (agB g=(skB g.P g.N && hlB g.E g.R && ((g.k == 1) || Qhm g) && ((g.k == 3) || noS g) && ((g.k == 4) || noH g) && (if g.k=2 then QcR g else (g.a == 0) && (g.t == 0)))):=(by unfold agB;rw [hb,Bool.true_and]:_=_)
 clear ay aD;go_enter Tryz.func59,Tryz.ntmps59;go_wp2_with fail;refine (Qgd _ _ _ _).mono ?_;rintro e w1 ⟨rfl,hw⟩;subst hw;rw [hb];go_wp2_with fail;refine (QgV rfl rfl SM.out.P SM.out.N (Qae HA.out.P (az.out _)) (Qae HA.out.N (az.out _)) OK.out.P OK.out.N).mono ?_;rintro e w2 ⟨rfl,aC⟩;have av:=Qaa (Qac (az.out _) aC);have K2:=QaD (Qev w 49 g p) aC;clear aC;by_cases ap:skB g.P g.N=true
 rotate_left
 ·replace ap:skB g.P g.N=false:=by simpa using ap
  rw [ap];have HE:Hid (false=agB g):=by have:=aA.out;rw [ap] at this;simp only [Bool.false_and] at this;exact this.symm
  go_wp2;go_ret;exact ⟨Qat HE,av⟩
 rw [ap];go_wp2_with fail;refine (QjM rfl rfl SM.out.E SM.out.R (Qaf HA.out.E av) (Qaf HA.out.R av) OK.out.R).mono ?_;rintro e w3 ⟨rfl,aB⟩;have al:=Qaa (Qac av aB);have K3:=QaD K2 aB;clear aB K2;by_cases ar:hlB g.E g.R=true
 rotate_left
 ·replace ar:hlB g.E g.R=false:=by simpa using ar
  rw [ar];have HE:Hid (false=agB g):=by have:=aA.out;rw [ap,ar] at this;simp only [Bool.false_and,Bool.and_false] at this;exact this.symm
  go_wp2;go_ret;exact ⟨Qat HE,al⟩
 rw [ar];have af:Hid (agB g=(((g.k == 1) || Qhm g) && ((g.k == 3) || noS g) && ((g.k == 4) || noH g) && (if g.k=2 then QcR g else (g.a == 0) && (g.t == 0)))):=by have:=aA.out;rw [ap,ar] at this;simp only [Bool.true_and] at this;exact this
 clear aA ap ar hb;rcases aE.out with hk | hk | hk | hk
 ·have b1:(g.k == 1)=true:=by simp [hk]
  have b2:(g.k == 2)=false:=ZZf.2 (by omega);have b3:(g.k == 3)=false:=ZZf.2 (by omega);have b4:(g.k == 4)=false:=ZZf.2 (by omega);have n1:(g.k != 1)=false:=by show (!(g.k == 1))=_;rw [b1];rfl
  have n2:(g.k != 2)=true:=by show (!(g.k == 2))=_;rw [b2];rfl
  have n3:(g.k != 3)=true:=by show (!(g.k == 3))=_;rw [b3];rfl
  have n4:(g.k != 4)=true:=by show (!(g.k == 4))=_;rw [b4];rfl
  have z2:¬ g.k=2:=by omega
  have z3:¬ g.k=3:=by omega
  have z4:¬ g.k=4:=by omega
  have aj:(if g.k=2 then QcR g else (g.a == 0) && (g.t == 0))=((g.a == 0) && (g.t == 0)):=if_neg (by omega)
  have aq:=Qaa aj;clear hk aj;go_wp2_with fail;refine (QfQ SM (Qao HA al)).mono ?_;rintro e w4 ⟨rfl,ai⟩;have am:=Qaa (Qac al ai);have K4:=QaD K3 ai;clear ai;by_cases ab:noS g=true
  rotate_left
  ·replace ab:noS g=false:=by simpa using ab
   rw [ab];have HE:Hid (false=agB g):=by have:=af.out;simp only [b1,b3,b4,ab,Bool.true_or,Bool.false_or,Bool.or_true,Bool.or_false,Bool.true_and,Bool.and_true,Bool.false_and,Bool.and_false] at this;exact this.symm
   go_wp2;go_ret;exact ⟨Qat HE,am⟩
  rw [ab];have au:=Qaa ab;clear ab;go_wp2_with fail;refine (QkB (p:=p) SM).mono ?_;rintro e w5 ⟨rfl,ah⟩;have ag:=Qaa (Qac am ah);have K5:=QaD K4 ah;clear ah;by_cases aa:noH g=true
  rotate_left
  ·replace aa:noH g=false:=by simpa using aa
   rw [aa];have HE:Hid (false=agB g):=by have:=af.out;simp only [b1,b3,b4,au.out,aa,Bool.true_or,Bool.false_or,Bool.or_true,Bool.or_false,Bool.true_and,Bool.and_true,Bool.false_and,Bool.and_false] at this;exact this.symm
   go_wp2;go_ret;exact ⟨Qat HE,ag⟩
  rw [aa];have aw:=Qaa aa;clear aa;have ad:=af.out;rw [aq.out] at ad;simp only [b1,b3,b4,au.out,aw.out,Bool.true_or,Bool.false_or,Bool.or_true,Bool.or_false,Bool.true_and,Bool.and_true] at ad;have ae:=Qaa ad;clear ad af;by_cases qa:g.a=0
  ·have ba:(g.a == 0)=true:=by simp [qa]
   by_cases qt:g.t=0
   ·have bt:(g.t == 0)=true:=by simp [qt]
    have HE:Hid (true=agB g):=by have:=ae.out;rw [ba,bt] at this;exact this.symm
    clear qa qt;go_wp2;go_ret;exact ⟨Qat HE,ag⟩
   ·have bt:(g.t == 0)=false:=ZZf.2 qt
    have HE:Hid (false=agB g):=by have:=ae.out;rw [ba,bt] at this;exact this.symm
    clear qa qt;go_wp2;go_ret;exact ⟨Qat HE,ag⟩
  ·have ba:(g.a == 0)=false:=ZZf.2 qa
   have HE:Hid (false=agB g):=by have:=ae.out;rw [ba,Bool.false_and] at this;exact this.symm
   clear qa;go_wp2;go_ret;exact ⟨Qat HE,ag⟩
 ·have b2:(g.k == 2)=true:=by simp [hk]
  have b1:(g.k == 1)=false:=ZZf.2 (by omega);have b3:(g.k == 3)=false:=ZZf.2 (by omega);have b4:(g.k == 4)=false:=ZZf.2 (by omega);have n1:(g.k != 1)=true:=by show (!(g.k == 1))=_;rw [b1];rfl
  have n2:(g.k != 2)=false:=by show (!(g.k == 2))=_;rw [b2];rfl
  have n3:(g.k != 3)=true:=by show (!(g.k == 3))=_;rw [b3];rfl
  have n4:(g.k != 4)=true:=by show (!(g.k == 4))=_;rw [b4];rfl
  have z1:¬ g.k=1:=by omega
  have z3:¬ g.k=3:=by omega
  have z4:¬ g.k=4:=by omega
  have av:=Qaa hk;have aj:(if g.k=2 then QcR g else (g.a == 0) && (g.t == 0))=QcR g:=if_pos hk
  have aq:=Qaa aj;clear hk aj;have ao:Hid (Qhm g=(g.h == 0 && g.l == 0)):=(rfl:Qhm g=(g.h == 0 && g.l == 0));have hq:=QdC g.h g.l 0 0;by_cases ac:(g.h == 0 && g.l == 0)=true
  rotate_left
  ·replace ac:(g.h == 0 && g.l == 0)=false:=by simpa using ac
   rw [ac] at hq;have ak:Qhm g=false:=ao.out.trans ac;have HE:Hid (false=agB g):=by have:=af.out;simp only [b1,b3,b4,ak,Bool.true_or,Bool.false_or,Bool.or_true,Bool.or_false,Bool.true_and,Bool.and_true,Bool.false_and,Bool.and_false] at this;exact this.symm
   go_wp2;go_ret;exact ⟨Qat HE,al⟩
  rw [ac] at hq;have an:=Qaa (ao.out.trans ac);clear ac;go_wp2_with fail;refine (QfQ SM (Qao HA al)).mono ?_;rintro e w4 ⟨rfl,ai⟩;have am:=Qaa (Qac al ai);have K4:=QaD K3 ai;clear ai;by_cases ab:noS g=true
  rotate_left
  ·replace ab:noS g=false:=by simpa using ab
   rw [ab];have HE:Hid (false=agB g):=by have:=af.out;simp only [b1,b3,b4,an.out,ab,Bool.true_or,Bool.false_or,Bool.or_true,Bool.or_false,Bool.true_and,Bool.and_true,Bool.false_and,Bool.and_false] at this;exact this.symm
   go_wp2;go_ret;exact ⟨Qat HE,am⟩
  rw [ab];have au:=Qaa ab;clear ab;go_wp2_with fail;refine (QkB (p:=p) SM).mono ?_;rintro e w5 ⟨rfl,ah⟩;have ag:=Qaa (Qac am ah);have K5:=QaD K4 ah;clear ah;by_cases aa:noH g=true
  rotate_left
  ·replace aa:noH g=false:=by simpa using aa
   rw [aa];have HE:Hid (false=agB g):=by have:=af.out;simp only [b1,b3,b4,an.out,au.out,aa,Bool.true_or,Bool.false_or,Bool.or_true,Bool.or_false,Bool.true_and,Bool.and_true,Bool.false_and,Bool.and_false] at this;exact this.symm
   go_wp2;go_ret;exact ⟨Qat HE,ag⟩
  rw [aa];have aw:=Qaa aa;clear aa;have ad:=af.out;rw [aq.out] at ad;simp only [b1,b3,b4,an.out,au.out,aw.out,Bool.true_or,Bool.false_or,Bool.or_true,Bool.or_false,Bool.true_and,Bool.and_true] at ad;have ae:=Qaa ad;clear ad af;have ax:Hid (QcR g=(Qmd g.a && (decide (-1<=g.t) && decide (g.t<=1000000000)) && (decide (0<=g.t) || (g.a == 0)))):=(rfl:_=_);go_wp2_with fail;refine (Qj6 _ _).mono ?_;rintro e w6 ⟨rfl,hw⟩;subst hw;by_cases hv:Qmd g.a=true
  rotate_left
  ·replace hv:Qmd g.a=false:=by simpa using hv
   rw [hv];have HE:Hid (false=agB g):=by have:=ae.out;rw [ax.out,hv] at this;simp only [Bool.false_and] at this;exact this.symm
   go_wp2;go_ret;exact ⟨Qat HE,ag⟩
  rw [hv];go_wp2_with fail;refine (Qgd _ _ _ _).mono ?_;rintro e w7 ⟨rfl,hw⟩;subst hw;by_cases hi:(decide (-1<=g.t) && decide (g.t<=1000000000))=true
  rotate_left
  ·replace hi:(decide (-1<=g.t) && decide (g.t<=1000000000))=false:=by simpa using hi
   rw [hi];have HE:Hid (false=agB g):=by have:=ae.out;rw [ax.out,hv,hi] at this;simp only [Bool.false_and,Bool.and_false] at this;exact this.symm
   go_wp2;go_ret;exact ⟨Qat HE,ag⟩
  rw [hi];by_cases q0:0<=g.t
  ·have d0:decide (0<=g.t)=true:=ZZh q0
   have HE:Hid (true=agB g):=by have:=ae.out;rw [ax.out,hv,hi,d0] at this;simp only [Bool.true_or,Bool.and_true] at this;exact this.symm
   clear hi hv;go_wp2;go_ret;exact ⟨Qat HE,ag⟩
  ·have d0:decide (0<=g.t)=false:=ZZg q0
   by_cases qa:g.a=0
   ·have ba:(g.a == 0)=true:=by simp [qa]
    have HE:Hid (true=agB g):=by have:=ae.out;rw [ax.out,hv,hi,d0,ba] at this;simp only [Bool.false_or,Bool.and_true] at this;exact this.symm
    clear hi hv qa;go_wp2;go_ret;exact ⟨Qat HE,ag⟩
   ·have ba:(g.a == 0)=false:=ZZf.2 qa
    have HE:Hid (false=agB g):=by have:=ae.out;rw [ax.out,hv,hi,d0,ba] at this;simp only [Bool.false_or,Bool.and_false] at this;exact this.symm
    clear hi hv qa;go_wp2;go_ret;exact ⟨Qat HE,ag⟩
 ·have b3:(g.k == 3)=true:=by simp [hk]
  have b1:(g.k == 1)=false:=ZZf.2 (by omega);have b2:(g.k == 2)=false:=ZZf.2 (by omega);have b4:(g.k == 4)=false:=ZZf.2 (by omega);have n1:(g.k != 1)=true:=by show (!(g.k == 1))=_;rw [b1];rfl
  have n2:(g.k != 2)=true:=by show (!(g.k == 2))=_;rw [b2];rfl
  have n3:(g.k != 3)=false:=by show (!(g.k == 3))=_;rw [b3];rfl
  have n4:(g.k != 4)=true:=by show (!(g.k == 4))=_;rw [b4];rfl
  have z1:¬ g.k=1:=by omega
  have z2:¬ g.k=2:=by omega
  have z4:¬ g.k=4:=by omega
  have aj:(if g.k=2 then QcR g else (g.a == 0) && (g.t == 0))=((g.a == 0) && (g.t == 0)):=if_neg (by omega)
  have aq:=Qaa aj;clear hk aj;have ao:Hid (Qhm g=(g.h == 0 && g.l == 0)):=(rfl:Qhm g=(g.h == 0 && g.l == 0));have hq:=QdC g.h g.l 0 0;by_cases ac:(g.h == 0 && g.l == 0)=true
  rotate_left
  ·replace ac:(g.h == 0 && g.l == 0)=false:=by simpa using ac
   rw [ac] at hq;have ak:Qhm g=false:=ao.out.trans ac;have HE:Hid (false=agB g):=by have:=af.out;simp only [b1,b3,b4,ak,Bool.true_or,Bool.false_or,Bool.or_true,Bool.or_false,Bool.true_and,Bool.and_true,Bool.false_and,Bool.and_false] at this;exact this.symm
   go_wp2;go_ret;exact ⟨Qat HE,al⟩
  rw [ac] at hq;have an:=Qaa (ao.out.trans ac);clear ac;go_wp2_with fail;refine (QkB (p:=p) SM).mono ?_;rintro e w5 ⟨rfl,ah⟩;have ag:=Qaa (Qac al ah);have K5:=QaD K3 ah;clear ah;by_cases aa:noH g=true
  rotate_left
  ·replace aa:noH g=false:=by simpa using aa
   rw [aa];have HE:Hid (false=agB g):=by have:=af.out;simp only [b1,b3,b4,an.out,aa,Bool.true_or,Bool.false_or,Bool.or_true,Bool.or_false,Bool.true_and,Bool.and_true,Bool.false_and,Bool.and_false] at this;exact this.symm
   go_wp2;go_ret;exact ⟨Qat HE,ag⟩
  rw [aa];have aw:=Qaa aa;clear aa;have ad:=af.out;rw [aq.out] at ad;simp only [b1,b3,b4,an.out,aw.out,Bool.true_or,Bool.false_or,Bool.or_true,Bool.or_false,Bool.true_and,Bool.and_true] at ad;have ae:=Qaa ad;clear ad af;by_cases qa:g.a=0
  ·have ba:(g.a == 0)=true:=by simp [qa]
   by_cases qt:g.t=0
   ·have bt:(g.t == 0)=true:=by simp [qt]
    have HE:Hid (true=agB g):=by have:=ae.out;rw [ba,bt] at this;exact this.symm
    clear qa qt;go_wp2;go_ret;exact ⟨Qat HE,ag⟩
   ·have bt:(g.t == 0)=false:=ZZf.2 qt
    have HE:Hid (false=agB g):=by have:=ae.out;rw [ba,bt] at this;exact this.symm
    clear qa qt;go_wp2;go_ret;exact ⟨Qat HE,ag⟩
  ·have ba:(g.a == 0)=false:=ZZf.2 qa
   have HE:Hid (false=agB g):=by have:=ae.out;rw [ba,Bool.false_and] at this;exact this.symm
   clear qa;go_wp2;go_ret;exact ⟨Qat HE,ag⟩
 ·have b4:(g.k == 4)=true:=by simp [hk]
  have b1:(g.k == 1)=false:=ZZf.2 (by omega);have b2:(g.k == 2)=false:=ZZf.2 (by omega);have b3:(g.k == 3)=false:=ZZf.2 (by omega);have n1:(g.k != 1)=true:=by show (!(g.k == 1))=_;rw [b1];rfl
  have n2:(g.k != 2)=true:=by show (!(g.k == 2))=_;rw [b2];rfl
  have n3:(g.k != 3)=true:=by show (!(g.k == 3))=_;rw [b3];rfl
  have n4:(g.k != 4)=false:=by show (!(g.k == 4))=_;rw [b4];rfl
  have z1:¬ g.k=1:=by omega
  have z2:¬ g.k=2:=by omega
  have z3:¬ g.k=3:=by omega
  have aj:(if g.k=2 then QcR g else (g.a == 0) && (g.t == 0))=((g.a == 0) && (g.t == 0)):=if_neg (by omega)
  have aq:=Qaa aj;clear hk aj;have ao:Hid (Qhm g=(g.h == 0 && g.l == 0)):=(rfl:Qhm g=(g.h == 0 && g.l == 0));have hq:=QdC g.h g.l 0 0;by_cases ac:(g.h == 0 && g.l == 0)=true
  rotate_left
  ·replace ac:(g.h == 0 && g.l == 0)=false:=by simpa using ac
   rw [ac] at hq;have ak:Qhm g=false:=ao.out.trans ac;have HE:Hid (false=agB g):=by have:=af.out;simp only [b1,b3,b4,ak,Bool.true_or,Bool.false_or,Bool.or_true,Bool.or_false,Bool.true_and,Bool.and_true,Bool.false_and,Bool.and_false] at this;exact this.symm
   go_wp2;go_ret;exact ⟨Qat HE,al⟩
  rw [ac] at hq;have an:=Qaa (ao.out.trans ac);clear ac;go_wp2_with fail;refine (QfQ SM (Qao HA al)).mono ?_;rintro e w4 ⟨rfl,ai⟩;have am:=Qaa (Qac al ai);have K4:=QaD K3 ai;clear ai;by_cases ab:noS g=true
  rotate_left
  ·replace ab:noS g=false:=by simpa using ab
   rw [ab];have HE:Hid (false=agB g):=by have:=af.out;simp only [b1,b3,b4,an.out,ab,Bool.true_or,Bool.false_or,Bool.or_true,Bool.or_false,Bool.true_and,Bool.and_true,Bool.false_and,Bool.and_false] at this;exact this.symm
   go_wp2;go_ret;exact ⟨Qat HE,am⟩
  rw [ab];have au:=Qaa ab;clear ab;have ad:=af.out;rw [aq.out] at ad;simp only [b1,b3,b4,an.out,au.out,Bool.true_or,Bool.false_or,Bool.or_true,Bool.or_false,Bool.true_and,Bool.and_true] at ad;have ae:=Qaa ad;clear ad af;by_cases qa:g.a=0
  ·have ba:(g.a == 0)=true:=by simp [qa]
   by_cases qt:g.t=0
   ·have bt:(g.t == 0)=true:=by simp [qt]
    have HE:Hid (true=agB g):=by have:=ae.out;rw [ba,bt] at this;exact this.symm
    clear qa qt;go_wp2;go_ret;exact ⟨Qat HE,am⟩
   ·have bt:(g.t == 0)=false:=ZZf.2 qt
    have HE:Hid (false=agB g):=by have:=ae.out;rw [ba,bt] at this;exact this.symm
    clear qa qt;go_wp2;go_ret;exact ⟨Qat HE,am⟩
  ·have ba:(g.a == 0)=false:=ZZf.2 qa
   have HE:Hid (false=agB g):=by have:=ae.out;rw [ba,Bool.false_and] at this;exact this.symm
   clear qa;go_wp2;go_ret;exact ⟨Qat HE,am⟩
theorem QqS {w:World} {r:Nat} {T:TypeId} {u0 u1 u2 u3 u4 u5 u6 u7 u8 u9 u10 u11 u12 v0 v1 v2 v3 v4 v5 v6 v7 v8 v9 v10 v11 v12:Value} (h:w.heap[r]?=some (.cells #[u0,u1,u2,u3,u4,u5,u6,u7,u8,u9,u10,u11,u12] T (0,0))) :
  (((((((((((((w.setCell ⟨r,0,none⟩ v0).setCell ⟨r,1,none⟩ v1).setCell ⟨r,2,none⟩ v2).setCell ⟨r,3,none⟩ v3).setCell ⟨r,4,none⟩ v4).setCell ⟨r,5,none⟩ v5).setCell ⟨r,6,none⟩ v6).setCell ⟨r,7,none⟩ v7).setCell ⟨r,8,none⟩ v8).setCell ⟨r,9,none⟩ v9).setCell ⟨r,10,none⟩ v10).setCell ⟨r,11,none⟩ v11).setCell ⟨r,12,none⟩ v12).heap[r]?=some (.cells #[v0,v1,v2,v3,v4,v5,v6,v7,v8,v9,v10,v11,v12] T (0,0)):=by
 have h0:(w.setCell ⟨r,0,none⟩ v0).heap[r]?=some (.cells #[v0,u1,u2,u3,u4,u5,u6,u7,u8,u9,u10,u11,u12] T (0,0)):=ZZl _ r 0 _ _ v0 h;have h1:((w.setCell ⟨r,0,none⟩ v0).setCell ⟨r,1,none⟩ v1).heap[r]?=some (.cells #[v0,v1,u2,u3,u4,u5,u6,u7,u8,u9,u10,u11,u12] T (0,0)):=ZZl _ r 1 _ _ v1 h0;have h2:(((w.setCell ⟨r,0,none⟩ v0).setCell ⟨r,1,none⟩ v1).setCell ⟨r,2,none⟩ v2).heap[r]?=some (.cells #[v0,v1,v2,u3,u4,u5,u6,u7,u8,u9,u10,u11,u12] T (0,0)):=ZZl _ r 2 _ _ v2 h1;have h3:((((w.setCell ⟨r,0,none⟩ v0).setCell ⟨r,1,none⟩ v1).setCell ⟨r,2,none⟩ v2).setCell ⟨r,3,none⟩ v3).heap[r]?=some (.cells #[v0,v1,v2,v3,u4,u5,u6,u7,u8,u9,u10,u11,u12] T (0,0)):=ZZl _ r 3 _ _ v3 h2;have h4:(((((w.setCell ⟨r,0,none⟩ v0).setCell ⟨r,1,none⟩ v1).setCell ⟨r,2,none⟩ v2).setCell ⟨r,3,none⟩ v3).setCell ⟨r,4,none⟩ v4).heap[r]?=some (.cells #[v0,v1,v2,v3,v4,u5,u6,u7,u8,u9,u10,u11,u12] T (0,0)):=ZZl _ r 4 _ _ v4 h3;have h5:((((((w.setCell ⟨r,0,none⟩ v0).setCell ⟨r,1,none⟩ v1).setCell ⟨r,2,none⟩ v2).setCell ⟨r,3,none⟩ v3).setCell ⟨r,4,none⟩ v4).setCell ⟨r,5,none⟩ v5).heap[r]?=some (.cells #[v0,v1,v2,v3,v4,v5,u6,u7,u8,u9,u10,u11,u12] T (0,0)):=ZZl _ r 5 _ _ v5 h4;have h6:(((((((w.setCell ⟨r,0,none⟩ v0).setCell ⟨r,1,none⟩ v1).setCell ⟨r,2,none⟩ v2).setCell ⟨r,3,none⟩ v3).setCell ⟨r,4,none⟩ v4).setCell ⟨r,5,none⟩ v5).setCell ⟨r,6,none⟩ v6).heap[r]?=some (.cells #[v0,v1,v2,v3,v4,v5,v6,u7,u8,u9,u10,u11,u12] T (0,0)):=ZZl _ r 6 _ _ v6 h5;have h7:((((((((w.setCell ⟨r,0,none⟩ v0).setCell ⟨r,1,none⟩ v1).setCell ⟨r,2,none⟩ v2).setCell ⟨r,3,none⟩ v3).setCell ⟨r,4,none⟩ v4).setCell ⟨r,5,none⟩ v5).setCell ⟨r,6,none⟩ v6).setCell ⟨r,7,none⟩ v7).heap[r]?=some (.cells #[v0,v1,v2,v3,v4,v5,v6,v7,u8,u9,u10,u11,u12] T (0,0)):=ZZl _ r 7 _ _ v7 h6;have h8:(((((((((w.setCell ⟨r,0,none⟩ v0).setCell ⟨r,1,none⟩ v1).setCell ⟨r,2,none⟩ v2).setCell ⟨r,3,none⟩ v3).setCell ⟨r,4,none⟩ v4).setCell ⟨r,5,none⟩ v5).setCell ⟨r,6,none⟩ v6).setCell ⟨r,7,none⟩ v7).setCell ⟨r,8,none⟩ v8).heap[r]?=some (.cells #[v0,v1,v2,v3,v4,v5,v6,v7,v8,u9,u10,u11,u12] T (0,0)):=ZZl _ r 8 _ _ v8 h7;have h9:((((((((((w.setCell ⟨r,0,none⟩ v0).setCell ⟨r,1,none⟩ v1).setCell ⟨r,2,none⟩ v2).setCell ⟨r,3,none⟩ v3).setCell ⟨r,4,none⟩ v4).setCell ⟨r,5,none⟩ v5).setCell ⟨r,6,none⟩ v6).setCell ⟨r,7,none⟩ v7).setCell ⟨r,8,none⟩ v8).setCell ⟨r,9,none⟩ v9).heap[r]?=some (.cells #[v0,v1,v2,v3,v4,v5,v6,v7,v8,v9,u10,u11,u12] T (0,0)):=ZZl _ r 9 _ _ v9 h8;have aa:(((((((((((w.setCell ⟨r,0,none⟩ v0).setCell ⟨r,1,none⟩ v1).setCell ⟨r,2,none⟩ v2).setCell ⟨r,3,none⟩ v3).setCell ⟨r,4,none⟩ v4).setCell ⟨r,5,none⟩ v5).setCell ⟨r,6,none⟩ v6).setCell ⟨r,7,none⟩ v7).setCell ⟨r,8,none⟩ v8).setCell ⟨r,9,none⟩ v9).setCell ⟨r,10,none⟩ v10).heap[r]?=some (.cells #[v0,v1,v2,v3,v4,v5,v6,v7,v8,v9,v10,u11,u12] T (0,0)):=ZZl _ r 10 _ _ v10 h9;have ab:((((((((((((w.setCell ⟨r,0,none⟩ v0).setCell ⟨r,1,none⟩ v1).setCell ⟨r,2,none⟩ v2).setCell ⟨r,3,none⟩ v3).setCell ⟨r,4,none⟩ v4).setCell ⟨r,5,none⟩ v5).setCell ⟨r,6,none⟩ v6).setCell ⟨r,7,none⟩ v7).setCell ⟨r,8,none⟩ v8).setCell ⟨r,9,none⟩ v9).setCell ⟨r,10,none⟩ v10).setCell ⟨r,11,none⟩ v11).heap[r]?=some (.cells #[v0,v1,v2,v3,v4,v5,v6,v7,v8,v9,v10,v11,u12] T (0,0)):=ZZl _ r 11 _ _ v11 aa;have ac:(((((((((((((w.setCell ⟨r,0,none⟩ v0).setCell ⟨r,1,none⟩ v1).setCell ⟨r,2,none⟩ v2).setCell ⟨r,3,none⟩ v3).setCell ⟨r,4,none⟩ v4).setCell ⟨r,5,none⟩ v5).setCell ⟨r,6,none⟩ v6).setCell ⟨r,7,none⟩ v7).setCell ⟨r,8,none⟩ v8).setCell ⟨r,9,none⟩ v9).setCell ⟨r,10,none⟩ v10).setCell ⟨r,11,none⟩ v11).setCell ⟨r,12,none⟩ v12).heap[r]?=some (.cells #[v0,v1,v2,v3,v4,v5,v6,v7,v8,v9,v10,v11,v12] T (0,0)):=ZZl _ r 12 _ _ v12 ab;exact ac
theorem QiX (o:Ag) (p:Pl) (a' t':Int) (w:World):Calls Tryz.prog 135 #[.agg (Qak o p),.int .i64 a',.int .i64 t'] w fun e w'=>e=.returned (.agg (Qak { o with a:=gA o.a o.t a' t',t:=gT o.a o.t a' t' } p))/\Below w.heap.size w w':=by
 have HB:Hid (∀ o o',Below w.heap.size w ((w.alloc o).alloc o')):=fun o o'=>((Below.refl _ _).alloc (Nat.le_refl _) o).alloc (by simp) o';obtain ⟨k,s,h,l,a,t,z,P,N,x,y,E,R⟩:=o
 show Calls Tryz.prog 135 #[.agg (Qak ⟨k,s,h,l,a,t,z,P,N,x,y,E,R⟩ p),.int .i64 a',.int .i64 t'] w fun e w'=>e=.returned (.agg (Qak ⟨k,s,h,l,gA a t a' t',gT a t a' t',z,P,N,x,y,E,R⟩ p))/\Below w.heap.size w w'
 by_cases h1:t<t'
 ·have d1:decide (t<t')=true:=ZZh h1
  have HE:Hid (gA a t a' t'=a'/\gT a t a' t'=t'):=Qfx (by simp [Qdt,h1]);rw [HE.out.1,HE.out.2];clear HE;go_enter Tryz.func135,Tryz.ntmps135;go_wp2;refine bodyPost_ret (v:=.agg (Qak ⟨k,s,h,l,a',t',z,P,N,x,y,E,R⟩ p)) (by simp [results,Tryz.results135,go_sem]) rfl ⟨rfl,?_⟩
  repeat (refine Below.setCell ?_ (by simp) _)
  exact HB.out _ _
 ·have d1:decide (t<t')=false:=ZZg h1
  by_cases h2:t'=t
  ·subst h2
   by_cases h3:a<a'
   ·have d3:decide (a<a')=true:=ZZh h3
    have HE:Hid (gA a t' a' t'=a'/\gT a t' a' t'=t'):=Qfx (by simp [Qdt,h3]);rw [HE.out.1,HE.out.2];clear HE;go_enter Tryz.func135,Tryz.ntmps135;go_wp2;refine bodyPost_ret (v:=.agg (Qak ⟨k,s,h,l,a',t',z,P,N,x,y,E,R⟩ p)) (by simp [results,Tryz.results135,go_sem]) rfl ⟨rfl,?_⟩
    repeat (refine Below.setCell ?_ (by simp) _)
    exact HB.out _ _
   ·have d3:decide (a<a')=false:=ZZg h3
    have HE:Hid (gA a t' a' t'=a/\gT a t' a' t'=t'):=Qf2 (by simp [Qdt,h3]);rw [HE.out.1,HE.out.2];clear HE;go_enter Tryz.func135,Tryz.ntmps135;go_wp2;refine bodyPost_ret (v:=.agg (Qak ⟨k,s,h,l,a,t',z,P,N,x,y,E,R⟩ p)) (by simp [results,Tryz.results135,go_sem]) rfl ⟨rfl,?_⟩
    repeat (refine Below.setCell ?_ (by simp) _)
    exact HB.out _ _
  ·have e2:(t' == t)=false:=ZZf.2 h2
   have HE:Hid (gA a t a' t'=a/\gT a t a' t'=t):=Qf2 (by simp [Qdt,h1,h2]);rw [HE.out.1,HE.out.2];clear HE;go_enter Tryz.func135,Tryz.ntmps135;go_wp2;refine bodyPost_ret (v:=.agg (Qak ⟨k,s,h,l,a,t,z,P,N,x,y,E,R⟩ p)) (by simp [results,Tryz.results135,go_sem]) rfl ⟨rfl,?_⟩
   repeat (refine Below.setCell ?_ (by simp) _)
   exact HB.out _ _
theorem QpE {w:World} {g g':Ag} {p p':Pl} (hg:agB g=true/\agB g'=true/\g.k=g'.k) (ok:AgOk g) (ok':AgOk g') (hA:AgAt w g p) (hA':AgAt w g' p') (ce:p.ea=none->p.ec=0) :
  Calls Tryz.prog 101 #[.agg (Qak g p),.agg (Qak g' p')] w fun e w'=>AgRes w (AgMrg g g') e w':=by
 have HA:=Qaa hA;have aK:=Qaa hA';have OK:=Qaa ok;have ao:=Qaa ok';have HG:=Qaa hg;have NO:=Qaa (QaQ hg.1);have aT:=Qaa (QaQ hg.2.1);have CE:=Qaa ce;have LS:Hid ((g.P.length<=30/\g.N.length<=30)/\(g'.P.length<=30/\g'.N.length<=30)):=⟨⟨(QbV NO.out.sk).1.2,(QbV NO.out.sk).2.2⟩,⟨(QbV aT.out.sk).1.2,(QbV aT.out.sk).2.2⟩⟩;have bd:Hid (∀ o1 o2 o3,Below w.heap.size w (((w.alloc o1).alloc o2).alloc o3)):=fun o1 o2 o3=>(((Below.refl _ _).alloc (Nat.le_refl _) _).alloc (by simp) _).alloc (by simp;omega) _;clear ok ok' hA hA' hg ce;go_enter Tryz.func101,Tryz.ntmps101;go_wp2_with fail;generalize hW0:((w.alloc (Obj.cells (Qak g p) 49)).alloc (Obj.cells (Qak g' p') 49)).alloc (Obj.cells #[.int .i64 0,.int .u64 0,.int .i64 0,.int .u64 0,.int .i64 0,.int .i64 0,.int .u64 0,.slice none 0 0,.slice none 0 0,.int .i64 0,.int .u64 0,.slice none 0 0,.slice none 0 0] 49)=W0;have T0:Below w.heap.size w W0:=by rw [<- hW0];exact bd.out _ _ _
 have hC:∀ W,Below W0.heap.size W0 W->Qb9 W w.heap.size g p/\Qb9 W (w.heap.size+1) g' p'/\W.heap[w.heap.size+1+1]?=some (.cells Qe1 49 (0,0)):=fun W hW=>Qi2 w g g' p p' W (by have h:=hW;rw [<- hW0] at h;exact h);have aE:W0.heap.size=w.heap.size+3:=by rw [<- hW0];simp
 have HC:=Qaa hC;have ax:=Qaa T0;have bi:=Qaa aE;clear hW0 hC T0 aE
 go_cut [5] (fun v w'=>∃ b:Nat,v=.pointer (some ⟨b,0,none⟩)/\Hid (w'.heap[b]?=some (.cells (Qak ⟨g.k,Qar g.s g'.s,QaO g.h g.l g'.h g'.l,QaS g.l g'.l,g.a,g.t,0,[],[],0,0,[],[]⟩ pl0) 49 (0,0)))/\W0.heap.size<=b/\Hid (Below W0.heap.size W0 w'))
 case first=>
  have aa:(fun W=>Below W0.heap.size W0 W) W0.drew:=(ZZb _ _).drew;refine Qaj (fun W=>Below W0.heap.size W0 W) 18 (by kernel_rfl) ?_;refine tkL 0 (.pointer (some ⟨w.heap.size,0,none⟩)) aa (fun W hW=>?_) ?_
  ·obtain ⟨⟨x0,x1,x2,x3,x4,x5,x6,x7,x8,x9,ah,ac,af⟩,⟨y0,y1,y2,y3,y4,y5,y6,y7,y8,y9,ab,ag,ae⟩,_⟩:=HC.out W hW
   clear hW;go_simp
  refine tkL 1 (.int .i64 g.k) aa (fun W hW=>?_) ?_
  ·obtain ⟨⟨x0,x1,x2,x3,x4,x5,x6,x7,x8,x9,ah,ac,af⟩,⟨y0,y1,y2,y3,y4,y5,y6,y7,y8,y9,ab,ag,ae⟩,_⟩:=HC.out W hW
   clear hW;go_simp
  refine tkL 2 (.pointer (some ⟨w.heap.size,1,none⟩)) aa (fun W hW=>?_) ?_
  ·obtain ⟨⟨x0,x1,x2,x3,x4,x5,x6,x7,x8,x9,ah,ac,af⟩,⟨y0,y1,y2,y3,y4,y5,y6,y7,y8,y9,ab,ag,ae⟩,_⟩:=HC.out W hW
   clear hW;go_simp
  simp only [sX];refine tkL 3 (.int .u64 g.s) aa (fun W hW=>?_) ?_
  ·obtain ⟨⟨x0,x1,x2,x3,x4,x5,x6,x7,x8,x9,ah,ac,af⟩,⟨y0,y1,y2,y3,y4,y5,y6,y7,y8,y9,ab,ag,ae⟩,_⟩:=HC.out W hW
   clear hW;go_simp
  refine tkL 4 (.pointer (some ⟨w.heap.size+1,1,none⟩)) aa (fun W hW=>?_) ?_
  ·obtain ⟨⟨x0,x1,x2,x3,x4,x5,x6,x7,x8,x9,ah,ac,af⟩,⟨y0,y1,y2,y3,y4,y5,y6,y7,y8,y9,ab,ag,ae⟩,_⟩:=HC.out W hW
   clear hW;go_simp
  refine tkL 5 (.int .u64 g'.s) aa (fun W hW=>?_) ?_
  ·obtain ⟨⟨x0,x1,x2,x3,x4,x5,x6,x7,x8,x9,ah,ac,af⟩,⟨y0,y1,y2,y3,y4,y5,y6,y7,y8,y9,ab,ag,ae⟩,_⟩:=HC.out W hW
   clear hW;go_simp
  simp only [sX];refine tkL 7 (.pointer (some ⟨w.heap.size,2,none⟩)) aa (fun W hW=>?_) ?_
  ·obtain ⟨⟨x0,x1,x2,x3,x4,x5,x6,x7,x8,x9,ah,ac,af⟩,⟨y0,y1,y2,y3,y4,y5,y6,y7,y8,y9,ab,ag,ae⟩,_⟩:=HC.out W hW
   clear hW;go_simp
  refine tkL 8 (.agg #[.int .i64 g.h,.int .u64 g.l]) aa (fun W hW=>?_) ?_
  ·obtain ⟨⟨x0,x1,x2,x3,x4,x5,x6,x7,x8,x9,ah,ac,af⟩,⟨y0,y1,y2,y3,y4,y5,y6,y7,y8,y9,ab,ag,ae⟩,_⟩:=HC.out W hW
   clear hW;go_simp
  refine tkL 9 (.pointer (some ⟨w.heap.size+1,2,none⟩)) aa (fun W hW=>?_) ?_
  ·obtain ⟨⟨x0,x1,x2,x3,x4,x5,x6,x7,x8,x9,ah,ac,af⟩,⟨y0,y1,y2,y3,y4,y5,y6,y7,y8,y9,ab,ag,ae⟩,_⟩:=HC.out W hW
   clear hW;go_simp
  simp only [sX];refine tkL 10 (.agg #[.int .i64 g'.h,.int .u64 g'.l]) aa (fun W hW=>?_) ?_
  ·obtain ⟨⟨x0,x1,x2,x3,x4,x5,x6,x7,x8,x9,ah,ac,af⟩,⟨y0,y1,y2,y3,y4,y5,y6,y7,y8,y9,ab,ag,ae⟩,_⟩:=HC.out W hW
   clear hW;go_simp
  refine tkL 12 (.pointer (some ⟨w.heap.size,4,none⟩)) aa (fun W hW=>?_) ?_
  ·obtain ⟨⟨x0,x1,x2,x3,x4,x5,x6,x7,x8,x9,ah,ac,af⟩,⟨y0,y1,y2,y3,y4,y5,y6,y7,y8,y9,ab,ag,ae⟩,_⟩:=HC.out W hW
   clear hW;go_simp
  refine tkL 13 (.int .i64 g.a) aa (fun W hW=>?_) ?_
  ·obtain ⟨⟨x0,x1,x2,x3,x4,x5,x6,x7,x8,x9,ah,ac,af⟩,⟨y0,y1,y2,y3,y4,y5,y6,y7,y8,y9,ab,ag,ae⟩,_⟩:=HC.out W hW
   clear hW;go_simp
  simp only [sX];refine tkL 14 (.pointer (some ⟨w.heap.size,5,none⟩)) aa (fun W hW=>?_) ?_
  ·obtain ⟨⟨x0,x1,x2,x3,x4,x5,x6,x7,x8,x9,ah,ac,af⟩,⟨y0,y1,y2,y3,y4,y5,y6,y7,y8,y9,ab,ag,ae⟩,_⟩:=HC.out W hW
   clear hW;go_simp
  refine tkL 15 (.int .i64 g.t) aa (fun W hW=>?_) ?_
  ·obtain ⟨⟨x0,x1,x2,x3,x4,x5,x6,x7,x8,x9,ah,ac,af⟩,⟨y0,y1,y2,y3,y4,y5,y6,y7,y8,y9,ab,ag,ae⟩,_⟩:=HC.out W hW
   clear hW;go_simp
  simp only [sX];refine Qpr (i:=6) (j:=17) (by kernel_rfl) rfl rfl (fun K hK=>?_) (fun K hK=>?_)
  ·go_simp
   refine (Qbj _ _ OK.out.s ao.out.s _).mono ?_;rintro e wz ⟨rfl,aS⟩;obtain rfl:=aS.symm
   try dsimp only
   refine gK hK aa ?_
   try simp only [sX]
   refine Qpr (i:=11) (j:=17) (by kernel_rfl) rfl rfl (fun K hK=>?_) (fun K hK=>?_)
   ·go_simp
    refine (QbN _ _ _ _ _ OK.out.l ao.out.l).mono ?_;rintro e w1 ⟨rfl,az⟩;have ak:Hid (Below W0.heap.size W0 w1):=(aa:Below W0.heap.size W0 _).trans (az.mono (aa:Below W0.heap.size W0 _).size)
    try dsimp only
    refine gK hK ak.out ?_
    try simp only [sX]
    refine tkS 16 (.agg (Qak ⟨g.k,Qar g.s g'.s,QaO g.h g.l g'.h g'.l,QaS g.l g'.l,g.a,g.t,0,[],[],0,0,[],[]⟩ pl0)) ak ?_;simp only [sX];refine onE 17 fun K hK=>?_;go_simp;have ad:Hid (Below W0.heap.size W0 (w1.alloc (.cells #[.int .i64 0,.int .u64 0,.int .i64 0,.int .u64 0,.int .i64 0,.int .i64 0,.int .u64 0,.slice none 0 0,.slice none 0 0,.int .i64 0,.int .u64 0,.slice none 0 0,.slice none 0 0] 49))):=Below.alloc (ak.out:Below W0.heap.size W0 w1) (ak.out:Below W0.heap.size W0 w1).size _;have aH:Hid ((w1.alloc (.cells #[.int .i64 0,.int .u64 0,.int .i64 0,.int .u64 0,.int .i64 0,.int .i64 0,.int .u64 0,.slice none 0 0,.slice none 0 0,.int .i64 0,.int .u64 0,.slice none 0 0,.slice none 0 0] 49)).heap[w1.heap.size]?=some (.cells #[.int .i64 0,.int .u64 0,.int .i64 0,.int .u64 0,.int .i64 0,.int .i64 0,.int .u64 0,.slice none 0 0,.slice none 0 0,.int .i64 0,.int .u64 0,.slice none 0 0,.slice none 0 0] 49 (0,0))):=(ZZk w1 (.cells #[.int .i64 0,.int .u64 0,.int .i64 0,.int .u64 0,.int .i64 0,.int .i64 0,.int .u64 0,.slice none 0 0,.slice none 0 0,.int .i64 0,.int .u64 0,.slice none 0 0,.slice none 0 0] 49):_)
    try dsimp only
    refine gK hK ad.out ?_
    try simp only [sX]
    have R5:=aH.out;obtain ⟨q0,q1,q2,q3,q4,q5,q6,q7,q8,q9,ap,aq,au⟩:=Qbt R5;obtain ⟨f0,f1,f2,f3,f4,f5,f6,f7,f8,f9,aw,av,ar⟩:=QcN R5;refine onE 18 fun K hK=>?_;go_simp;refine hK.out _ _ (fun h=>absurd rfl h) ?_
    try simp only [sX]
    refine dnE ?_ _;clear q0 f0 q1 f1 q2 f2 q3 f3 q4 f4 q5 f5 q6 f6 q7 f7 q8 f8 q9 f9 ap aw aq av au ar;go_wp2;go_meet;exact ⟨w1.heap.size,rfl,Qaa (ZZk w1 _),ak.out.size,Qaa (Below.alloc ak ak.out.size _)⟩
   ·go_simp
    have ad:Hid (Below W0.heap.size W0 (W0.drew.alloc (.cells #[.int .i64 0,.int .u64 0,.int .i64 0,.int .u64 0,.int .i64 0,.int .i64 0,.int .u64 0,.slice none 0 0,.slice none 0 0,.int .i64 0,.int .u64 0,.slice none 0 0,.slice none 0 0] 49))):=Below.alloc (aa:Below W0.heap.size W0 W0.drew) (aa:Below W0.heap.size W0 W0.drew).size _;have aH:Hid ((W0.drew.alloc (.cells #[.int .i64 0,.int .u64 0,.int .i64 0,.int .u64 0,.int .i64 0,.int .i64 0,.int .u64 0,.slice none 0 0,.slice none 0 0,.int .i64 0,.int .u64 0,.slice none 0 0,.slice none 0 0] 49)).heap[W0.heap.size]?=some (.cells #[.int .i64 0,.int .u64 0,.int .i64 0,.int .u64 0,.int .i64 0,.int .i64 0,.int .u64 0,.slice none 0 0,.slice none 0 0,.int .i64 0,.int .u64 0,.slice none 0 0,.slice none 0 0] 49 (0,0))):=(ZZk W0.drew (.cells #[.int .i64 0,.int .u64 0,.int .i64 0,.int .u64 0,.int .i64 0,.int .i64 0,.int .u64 0,.slice none 0 0,.slice none 0 0,.int .i64 0,.int .u64 0,.slice none 0 0,.slice none 0 0] 49):_)
    try dsimp only
    refine gK hK ad.out ?_
    try simp only [sX]
    refine onE 11 fun K hK=>?_;go_simp;refine (QbN _ _ _ _ _ OK.out.l ao.out.l).mono ?_;rintro e w1 ⟨rfl,az⟩;have ak:Hid (Below W0.heap.size W0 w1):=(ad.out:Below W0.heap.size W0 _).trans (az.mono (ad.out:Below W0.heap.size W0 _).size);have aO:Hid (w1.heap[W0.heap.size]?=some (.cells #[.int .i64 0,.int .u64 0,.int .i64 0,.int .u64 0,.int .i64 0,.int .i64 0,.int .u64 0,.slice none 0 0,.slice none 0 0,.int .i64 0,.int .u64 0,.slice none 0 0,.slice none 0 0] 49 (0,0))):=(az.block _ (by show W0.heap.size<(W0.drew.alloc (.cells #[.int .i64 0,.int .u64 0,.int .i64 0,.int .u64 0,.int .i64 0,.int .i64 0,.int .u64 0,.slice none 0 0,.slice none 0 0,.int .i64 0,.int .u64 0,.slice none 0 0,.slice none 0 0] 49)).heap.size;simp)).trans aH
    try dsimp only
    refine gK hK ak.out ?_
    try simp only [sX]
    refine tkS 16 (.agg (Qak ⟨g.k,Qar g.s g'.s,QaO g.h g.l g'.h g'.l,QaS g.l g'.l,g.a,g.t,0,[],[],0,0,[],[]⟩ pl0)) ak ?_;simp only [sX];have R5:=aO.out;obtain ⟨q0,q1,q2,q3,q4,q5,q6,q7,q8,q9,ap,aq,au⟩:=Qbt R5;obtain ⟨f0,f1,f2,f3,f4,f5,f6,f7,f8,f9,aw,av,ar⟩:=QcN R5;refine onE 18 fun K hK=>?_;go_simp;refine hK.out _ _ (fun h=>absurd rfl h) ?_
    try simp only [sX]
    refine dnE ?_ _;clear q0 f0 q1 f1 q2 f2 q3 f3 q4 f4 q5 f5 q6 f6 q7 f7 q8 f8 q9 f9 ap aw aq av au ar;have al:(((((((((((((w1.setCell ⟨W0.heap.size,0,none⟩ (.int .i64 g.k)).setCell ⟨W0.heap.size,1,none⟩ (.int .u64 (Qar g.s g'.s))).setCell ⟨W0.heap.size,2,none⟩ (.int .i64 (QaO g.h g.l g'.h g'.l))).setCell ⟨W0.heap.size,3,none⟩ (.int .u64 (QaS g.l g'.l))).setCell ⟨W0.heap.size,4,none⟩ (.int .i64 g.a)).setCell ⟨W0.heap.size,5,none⟩ (.int .i64 g.t)).setCell ⟨W0.heap.size,6,none⟩ (.int .u64 0)).setCell ⟨W0.heap.size,7,none⟩ (.slice none 0 0)).setCell ⟨W0.heap.size,8,none⟩ (.slice none 0 0)).setCell ⟨W0.heap.size,9,none⟩ (.int .i64 0)).setCell ⟨W0.heap.size,10,none⟩ (.int .u64 0)).setCell ⟨W0.heap.size,11,none⟩ (.slice none 0 0)).setCell ⟨W0.heap.size,12,none⟩ (.slice none 0 0)).heap[W0.heap.size]?=some (.cells (Qak ⟨g.k,Qar g.s g'.s,QaO g.h g.l g'.h g'.l,QaS g.l g'.l,g.a,g.t,0,[],[],0,0,[],[]⟩ pl0) 49 (0,0)):=QqS R5
    have am:Below W0.heap.size W0 (((((((((((((w1.setCell ⟨W0.heap.size,0,none⟩ (.int .i64 g.k)).setCell ⟨W0.heap.size,1,none⟩ (.int .u64 (Qar g.s g'.s))).setCell ⟨W0.heap.size,2,none⟩ (.int .i64 (QaO g.h g.l g'.h g'.l))).setCell ⟨W0.heap.size,3,none⟩ (.int .u64 (QaS g.l g'.l))).setCell ⟨W0.heap.size,4,none⟩ (.int .i64 g.a)).setCell ⟨W0.heap.size,5,none⟩ (.int .i64 g.t)).setCell ⟨W0.heap.size,6,none⟩ (.int .u64 0)).setCell ⟨W0.heap.size,7,none⟩ (.slice none 0 0)).setCell ⟨W0.heap.size,8,none⟩ (.slice none 0 0)).setCell ⟨W0.heap.size,9,none⟩ (.int .i64 0)).setCell ⟨W0.heap.size,10,none⟩ (.int .u64 0)).setCell ⟨W0.heap.size,11,none⟩ (.slice none 0 0)).setCell ⟨W0.heap.size,12,none⟩ (.slice none 0 0)):=by
     repeat (refine Below.setCell ?_ (by exact ZZa _) _)
     exact ak.out
    have aC:=Qaa al;have aB:=Qaa am;clear al am R5;go_wp2;go_meet;exact ⟨W0.heap.size,rfl,aC,ZZa _,aB⟩
  ·go_simp
   have ad:Hid (Below W0.heap.size W0 (W0.drew.alloc (.cells #[.int .i64 0,.int .u64 0,.int .i64 0,.int .u64 0,.int .i64 0,.int .i64 0,.int .u64 0,.slice none 0 0,.slice none 0 0,.int .i64 0,.int .u64 0,.slice none 0 0,.slice none 0 0] 49))):=Below.alloc (aa:Below W0.heap.size W0 W0.drew) (aa:Below W0.heap.size W0 W0.drew).size _;have aH:Hid ((W0.drew.alloc (.cells #[.int .i64 0,.int .u64 0,.int .i64 0,.int .u64 0,.int .i64 0,.int .i64 0,.int .u64 0,.slice none 0 0,.slice none 0 0,.int .i64 0,.int .u64 0,.slice none 0 0,.slice none 0 0] 49)).heap[W0.heap.size]?=some (.cells #[.int .i64 0,.int .u64 0,.int .i64 0,.int .u64 0,.int .i64 0,.int .i64 0,.int .u64 0,.slice none 0 0,.slice none 0 0,.int .i64 0,.int .u64 0,.slice none 0 0,.slice none 0 0] 49 (0,0))):=(ZZk W0.drew (.cells #[.int .i64 0,.int .u64 0,.int .i64 0,.int .u64 0,.int .i64 0,.int .i64 0,.int .u64 0,.slice none 0 0,.slice none 0 0,.int .i64 0,.int .u64 0,.slice none 0 0,.slice none 0 0] 49):_)
   try dsimp only
   refine gK hK ad.out ?_
   try simp only [sX]
   refine onE 6 fun K hK=>?_;go_simp;refine (Qbj _ _ OK.out.s ao.out.s _).mono ?_;rintro e wz ⟨rfl,aS⟩;obtain rfl:=aS.symm
   try dsimp only
   refine gK hK ad.out ?_
   try simp only [sX]
   refine onE 11 fun K hK=>?_;go_simp;refine (QbN _ _ _ _ _ OK.out.l ao.out.l).mono ?_;rintro e w1 ⟨rfl,az⟩;have ak:Hid (Below W0.heap.size W0 w1):=(ad.out:Below W0.heap.size W0 _).trans (az.mono (ad.out:Below W0.heap.size W0 _).size);have aO:Hid (w1.heap[W0.heap.size]?=some (.cells #[.int .i64 0,.int .u64 0,.int .i64 0,.int .u64 0,.int .i64 0,.int .i64 0,.int .u64 0,.slice none 0 0,.slice none 0 0,.int .i64 0,.int .u64 0,.slice none 0 0,.slice none 0 0] 49 (0,0))):=(az.block _ (by show W0.heap.size<(W0.drew.alloc (.cells #[.int .i64 0,.int .u64 0,.int .i64 0,.int .u64 0,.int .i64 0,.int .i64 0,.int .u64 0,.slice none 0 0,.slice none 0 0,.int .i64 0,.int .u64 0,.slice none 0 0,.slice none 0 0] 49)).heap.size;simp)).trans aH
   try dsimp only
   refine gK hK ak.out ?_
   try simp only [sX]
   refine tkS 16 (.agg (Qak ⟨g.k,Qar g.s g'.s,QaO g.h g.l g'.h g'.l,QaS g.l g'.l,g.a,g.t,0,[],[],0,0,[],[]⟩ pl0)) ak ?_;simp only [sX];have R5:=aO.out;obtain ⟨q0,q1,q2,q3,q4,q5,q6,q7,q8,q9,ap,aq,au⟩:=Qbt R5;obtain ⟨f0,f1,f2,f3,f4,f5,f6,f7,f8,f9,aw,av,ar⟩:=QcN R5;refine onE 18 fun K hK=>?_;go_simp;refine hK.out _ _ (fun h=>absurd rfl h) ?_
   try simp only [sX]
   refine dnE ?_ _;clear q0 f0 q1 f1 q2 f2 q3 f3 q4 f4 q5 f5 q6 f6 q7 f7 q8 f8 q9 f9 ap aw aq av au ar;have al:(((((((((((((w1.setCell ⟨W0.heap.size,0,none⟩ (.int .i64 g.k)).setCell ⟨W0.heap.size,1,none⟩ (.int .u64 (Qar g.s g'.s))).setCell ⟨W0.heap.size,2,none⟩ (.int .i64 (QaO g.h g.l g'.h g'.l))).setCell ⟨W0.heap.size,3,none⟩ (.int .u64 (QaS g.l g'.l))).setCell ⟨W0.heap.size,4,none⟩ (.int .i64 g.a)).setCell ⟨W0.heap.size,5,none⟩ (.int .i64 g.t)).setCell ⟨W0.heap.size,6,none⟩ (.int .u64 0)).setCell ⟨W0.heap.size,7,none⟩ (.slice none 0 0)).setCell ⟨W0.heap.size,8,none⟩ (.slice none 0 0)).setCell ⟨W0.heap.size,9,none⟩ (.int .i64 0)).setCell ⟨W0.heap.size,10,none⟩ (.int .u64 0)).setCell ⟨W0.heap.size,11,none⟩ (.slice none 0 0)).setCell ⟨W0.heap.size,12,none⟩ (.slice none 0 0)).heap[W0.heap.size]?=some (.cells (Qak ⟨g.k,Qar g.s g'.s,QaO g.h g.l g'.h g'.l,QaS g.l g'.l,g.a,g.t,0,[],[],0,0,[],[]⟩ pl0) 49 (0,0)):=QqS R5
   have am:Below W0.heap.size W0 (((((((((((((w1.setCell ⟨W0.heap.size,0,none⟩ (.int .i64 g.k)).setCell ⟨W0.heap.size,1,none⟩ (.int .u64 (Qar g.s g'.s))).setCell ⟨W0.heap.size,2,none⟩ (.int .i64 (QaO g.h g.l g'.h g'.l))).setCell ⟨W0.heap.size,3,none⟩ (.int .u64 (QaS g.l g'.l))).setCell ⟨W0.heap.size,4,none⟩ (.int .i64 g.a)).setCell ⟨W0.heap.size,5,none⟩ (.int .i64 g.t)).setCell ⟨W0.heap.size,6,none⟩ (.int .u64 0)).setCell ⟨W0.heap.size,7,none⟩ (.slice none 0 0)).setCell ⟨W0.heap.size,8,none⟩ (.slice none 0 0)).setCell ⟨W0.heap.size,9,none⟩ (.int .i64 0)).setCell ⟨W0.heap.size,10,none⟩ (.int .u64 0)).setCell ⟨W0.heap.size,11,none⟩ (.slice none 0 0)).setCell ⟨W0.heap.size,12,none⟩ (.slice none 0 0)):=by
    repeat (refine Below.setCell ?_ (by exact ZZa _) _)
    exact ak.out
   have aC:=Qaa al;have aB:=Qaa am;clear al am R5;go_wp2;go_meet;exact ⟨W0.heap.size,rfl,aC,ZZa _,aB⟩
 case rest=>
  obtain ⟨b,rfl,aD,ay,aG⟩:=hcut;obtain ⟨⟨x0,x1,x2,x3,x4,x5,x6,x7,x8,x9,ah,ac,af⟩,⟨y0,y1,y2,y3,y4,y5,y6,y7,y8,y9,ab,ag,ae⟩,_⟩:=HC.out wc aG;clear x1 x2 x3 x4 x5 x6 x7 x8 x9 ah ac af y0 y1 y2 y3 y4 y5 y6 y7 y8 y9 ab ag ae;go_upto_if 25 with fail;clear x0
  go_cut [5] (fun v w'=>v=.pointer (some ⟨b,0,none⟩)/\Hid (w'.heap[b]?=some (.cells (Qak ⟨g.k,Qar g.s g'.s,QaO g.h g.l g'.h g'.l,QaS g.l g'.l,if g.k=2 then gA g.a g.t g'.a g'.t else 0,if g.k=2 then gT g.a g.t g'.a g'.t else 0,0,[],[],0,0,[],[]⟩ pl0) 49 (0,0)))/\Hid (Below W0.heap.size W0 w'))
  case first=>
   by_cases hk:g.k=2
   ·have ek:(g.k == 2)=true:=by simp [hk]
    have aW:=Qaa hk;obtain ⟨⟨x0,x1,x2,x3,x4,x5,x6,x7,x8,x9,ah,ac,af⟩,⟨y0,y1,y2,y3,y4,y5,y6,y7,y8,y9,ab,ag,ae⟩,_⟩:=HC.out wc aG;obtain ⟨q0,q1,q2,q3,q4,q5,q6,q7,q8,q9,ap,aq,au⟩:=Qbt aD;obtain ⟨f0,f1,f2,f3,f4,f5,f6,f7,f8,f9,aw,av,ar⟩:=QcN aD;clear x0 x1 x2 x3 x4 x5 x6 x7 x8 x9 ah ac af hk;go_wp2_with fail;clear q0 f0 q1 f1 q2 f2 q3 f3 q4 f4 q5 f5 q6 f6 q7 f7 q8 f8 q9 f9 ap aw aq av au ar y0 y1 y2 y3 y4 y5 y6 y7 y8 y9 ab ag ae;refine (QiX ⟨g.k,Qar g.s g'.s,QaO g.h g.l g'.h g'.l,QaS g.l g'.l,g.a,g.t,0,[],[],0,0,[],[]⟩ pl0 g'.a g'.t wc).mono ?_;rintro e u3 ⟨rfl,aR⟩;have R3:=(aR.block b (ZZc.1 aD).1).trans aD;have B3:=Qac aG aR
    have HY:Hid ((((((((((((((u3.setCell ⟨b,0,none⟩ (.int .i64 g.k)).setCell ⟨b,1,none⟩ (.int .u64 (Qar g.s g'.s))).setCell ⟨b,2,none⟩ (.int .i64 (QaO g.h g.l g'.h g'.l))).setCell ⟨b,3,none⟩ (.int .u64 (QaS g.l g'.l))).setCell ⟨b,4,none⟩ (.int .i64 (gA g.a g.t g'.a g'.t))).setCell ⟨b,5,none⟩ (.int .i64 (gT g.a g.t g'.a g'.t))).setCell ⟨b,6,none⟩ (.int .u64 0)).setCell ⟨b,7,none⟩ (.slice none 0 0)).setCell ⟨b,8,none⟩ (.slice none 0 0)).setCell ⟨b,9,none⟩ (.int .i64 0)).setCell ⟨b,10,none⟩ (.int .u64 0)).setCell ⟨b,11,none⟩ (.slice none 0 0)).setCell ⟨b,12,none⟩ (.slice none 0 0)).heap[b]?=some (.cells (Qak ⟨g.k,Qar g.s g'.s,QaO g.h g.l g'.h g'.l,QaS g.l g'.l,if g.k=2 then gA g.a g.t g'.a g'.t else 0,if g.k=2 then gT g.a g.t g'.a g'.t else 0,0,[],[],0,0,[],[]⟩ pl0) 49 (0,0))):=by
     rw [if_pos aW.out,if_pos aW.out];exact QqS R3
    have an:Hid (Below W0.heap.size W0 (((((((((((((u3.setCell ⟨b,0,none⟩ (.int .i64 g.k)).setCell ⟨b,1,none⟩ (.int .u64 (Qar g.s g'.s))).setCell ⟨b,2,none⟩ (.int .i64 (QaO g.h g.l g'.h g'.l))).setCell ⟨b,3,none⟩ (.int .u64 (QaS g.l g'.l))).setCell ⟨b,4,none⟩ (.int .i64 (gA g.a g.t g'.a g'.t))).setCell ⟨b,5,none⟩ (.int .i64 (gT g.a g.t g'.a g'.t))).setCell ⟨b,6,none⟩ (.int .u64 0)).setCell ⟨b,7,none⟩ (.slice none 0 0)).setCell ⟨b,8,none⟩ (.slice none 0 0)).setCell ⟨b,9,none⟩ (.int .i64 0)).setCell ⟨b,10,none⟩ (.int .u64 0)).setCell ⟨b,11,none⟩ (.slice none 0 0)).setCell ⟨b,12,none⟩ (.slice none 0 0))):=by
     repeat (refine Below.setCell ?_ (by exact ay) _)
     exact B3
    obtain ⟨q0,q1,q2,q3,q4,q5,q6,q7,q8,q9,ap,aq,au⟩:=Qbt R3;obtain ⟨f0,f1,f2,f3,f4,f5,f6,f7,f8,f9,aw,av,ar⟩:=QcN R3;clear R3 B3 aR;go_wp2;go_meet;exact ⟨rfl,HY,an⟩
   ·have ek:(g.k == 2)=false:=ZZf.2 hk
    have HY:Hid (wc.heap[b]?=some (.cells (Qak ⟨g.k,Qar g.s g'.s,QaO g.h g.l g'.h g'.l,QaS g.l g'.l,if g.k=2 then gA g.a g.t g'.a g'.t else 0,if g.k=2 then gT g.a g.t g'.a g'.t else 0,0,[],[],0,0,[],[]⟩ pl0) 49 (0,0))):=by
     obtain ⟨a1,a2⟩:=NO.out.ng hk;rw [if_neg hk,if_neg hk];have:=aD.out;rw [a1,a2] at this;exact this
    go_wp2;go_meet;exact ⟨rfl,HY,aG⟩
  case rest=>
   obtain ⟨rfl,HY,an⟩:=hcut;clear aD aG;go_upto_region 4 with fail
   go_cut [5] (fun v w'=>∃ (pa:Option Addr) (pc:Nat) (na:Option Addr) (nc:Nat),v=.pointer (some ⟨b,0,none⟩)/\Hid (w'.heap[b]?=some (.cells (Qak ⟨g.k,Qar g.s g'.s,QaO g.h g.l g'.h g'.l,QaS g.l g'.l,if g.k=2 then gA g.a g.t g'.a g'.t else 0,if g.k=2 then gT g.a g.t g'.a g'.t else 0,Qar g.z g'.z,Qan (mrg g.P g'.P),Qan (mrg g.N g'.N),QaO g.x g.y g'.x g'.y,QaS g.y g'.y,[],[]⟩ ⟨pa,pc,na,nc,none,0,none,0⟩) 49 (0,0)))/\Hid (OwnB w' W0.heap.size (.slice pa (Qan (mrg g.P g'.P)).length pc) (Qan (mrg g.P g'.P)).length (Qan (mrg g.P g'.P))/\OwnB w' W0.heap.size (.slice na (Qan (mrg g.N g'.N)).length nc) (Qan (mrg g.N g'.N)).length (Qan (mrg g.N g'.N))/\QdP (.slice pa (Qan (mrg g.P g'.P)).length pc) (.slice na (Qan (mrg g.N g'.N)).length nc))/\Hid (Below W0.heap.size W0 w'))
   case first=>
    obtain ⟨⟨x0,x1,x2,x3,x4,x5,x6,x7,x8,x9,ah,ac,af⟩,⟨y0,y1,y2,y3,y4,y5,y6,y7,y8,y9,ab,ag,ae⟩,_⟩:=HC.out wc an;go_wp2_with fail;clear x0 x1 x2 x3 x4 x5 x6 x7 x8 x9 ah ac af y0 y1 y2 y3 y4 y5 y6 y7 y8 y9 ab ag ae;refine (Qjr OK.out.z OK.out.y ao.out.z ao.out.y rfl rfl rfl rfl LS.out.1.1 LS.out.1.2 LS.out.2.1 LS.out.2.2 (Qae HA.out.P (Qac ax an)) (Qae HA.out.N (Qac ax an)) (Qae aK.out.P (Qac ax an)) (Qae aK.out.N (Qac ax an)) OK.out.P OK.out.N ao.out.P ao.out.N).mono ?_;rintro e u4 ⟨v4,rfl,aP,bg⟩;obtain ⟨vp,vn,pn,nn,rfl,oP,oN,aY⟩:=bg;obtain ⟨pa,pc,rfl⟩:=oP.any;obtain ⟨na,nc,rfl⟩:=oN.any;obtain rfl:=oP.1;obtain rfl:=oN.1;have ai:=(ZZc.1 HY).1;have aA:=an.out.size;have R4:=(aP.block b ai).trans HY;have be:=Qaa (Qac an aP)
    have bc:Hid ((((((u4.setCell ⟨b,6,none⟩ (.int .u64 (Qar g.z g'.z))).setCell ⟨b,7,none⟩ (.slice pa (Qan (mrg g.P g'.P)).length pc)).setCell ⟨b,8,none⟩ (.slice na (Qan (mrg g.N g'.N)).length nc)).setCell ⟨b,9,none⟩ (.int .i64 (QaO g.x g.y g'.x g'.y))).setCell ⟨b,10,none⟩ (.int .u64 (QaS g.y g'.y))).heap[b]?=some (.cells (Qak ⟨g.k,Qar g.s g'.s,QaO g.h g.l g'.h g'.l,QaS g.l g'.l,if g.k=2 then gA g.a g.t g'.a g'.t else 0,if g.k=2 then gT g.a g.t g'.a g'.t else 0,Qar g.z g'.z,Qan (mrg g.P g'.P),Qan (mrg g.N g'.N),QaO g.x g.y g'.x g'.y,QaS g.y g'.y,[],[]⟩ ⟨pa,pc,na,nc,none,0,none,0⟩) 49 (0,0))):=by
     have k0:(u4.setCell ⟨b,6,none⟩ (.int .u64 (Qar g.z g'.z))).heap[b]?=some (.cells #[.int .i64 g.k,.int .u64 (Qar g.s g'.s),.int .i64 (QaO g.h g.l g'.h g'.l),.int .u64 (QaS g.l g'.l),.int .i64 (if g.k=2 then gA g.a g.t g'.a g'.t else 0),.int .i64 (if g.k=2 then gT g.a g.t g'.a g'.t else 0),.int .u64 (Qar g.z g'.z),.slice none 0 0,.slice none 0 0,.int .i64 0,.int .u64 0,.slice none 0 0,.slice none 0 0] 49 (0,0)):=ZZl _ b 6 _ _ (.int .u64 (Qar g.z g'.z)) R4;have k1:((u4.setCell ⟨b,6,none⟩ (.int .u64 (Qar g.z g'.z))).setCell ⟨b,7,none⟩ (.slice pa (Qan (mrg g.P g'.P)).length pc)).heap[b]?=some (.cells #[.int .i64 g.k,.int .u64 (Qar g.s g'.s),.int .i64 (QaO g.h g.l g'.h g'.l),.int .u64 (QaS g.l g'.l),.int .i64 (if g.k=2 then gA g.a g.t g'.a g'.t else 0),.int .i64 (if g.k=2 then gT g.a g.t g'.a g'.t else 0),.int .u64 (Qar g.z g'.z),.slice pa (Qan (mrg g.P g'.P)).length pc,.slice none 0 0,.int .i64 0,.int .u64 0,.slice none 0 0,.slice none 0 0] 49 (0,0)):=ZZl _ b 7 _ _ (.slice pa (Qan (mrg g.P g'.P)).length pc) k0;have k2:(((u4.setCell ⟨b,6,none⟩ (.int .u64 (Qar g.z g'.z))).setCell ⟨b,7,none⟩ (.slice pa (Qan (mrg g.P g'.P)).length pc)).setCell ⟨b,8,none⟩ (.slice na (Qan (mrg g.N g'.N)).length nc)).heap[b]?=some (.cells #[.int .i64 g.k,.int .u64 (Qar g.s g'.s),.int .i64 (QaO g.h g.l g'.h g'.l),.int .u64 (QaS g.l g'.l),.int .i64 (if g.k=2 then gA g.a g.t g'.a g'.t else 0),.int .i64 (if g.k=2 then gT g.a g.t g'.a g'.t else 0),.int .u64 (Qar g.z g'.z),.slice pa (Qan (mrg g.P g'.P)).length pc,.slice na (Qan (mrg g.N g'.N)).length nc,.int .i64 0,.int .u64 0,.slice none 0 0,.slice none 0 0] 49 (0,0)):=ZZl _ b 8 _ _ (.slice na (Qan (mrg g.N g'.N)).length nc) k1;have k3:((((u4.setCell ⟨b,6,none⟩ (.int .u64 (Qar g.z g'.z))).setCell ⟨b,7,none⟩ (.slice pa (Qan (mrg g.P g'.P)).length pc)).setCell ⟨b,8,none⟩ (.slice na (Qan (mrg g.N g'.N)).length nc)).setCell ⟨b,9,none⟩ (.int .i64 (QaO g.x g.y g'.x g'.y))).heap[b]?=some (.cells #[.int .i64 g.k,.int .u64 (Qar g.s g'.s),.int .i64 (QaO g.h g.l g'.h g'.l),.int .u64 (QaS g.l g'.l),.int .i64 (if g.k=2 then gA g.a g.t g'.a g'.t else 0),.int .i64 (if g.k=2 then gT g.a g.t g'.a g'.t else 0),.int .u64 (Qar g.z g'.z),.slice pa (Qan (mrg g.P g'.P)).length pc,.slice na (Qan (mrg g.N g'.N)).length nc,.int .i64 (QaO g.x g.y g'.x g'.y),.int .u64 0,.slice none 0 0,.slice none 0 0] 49 (0,0)):=ZZl _ b 9 _ _ (.int .i64 (QaO g.x g.y g'.x g'.y)) k2;have k4:(((((u4.setCell ⟨b,6,none⟩ (.int .u64 (Qar g.z g'.z))).setCell ⟨b,7,none⟩ (.slice pa (Qan (mrg g.P g'.P)).length pc)).setCell ⟨b,8,none⟩ (.slice na (Qan (mrg g.N g'.N)).length nc)).setCell ⟨b,9,none⟩ (.int .i64 (QaO g.x g.y g'.x g'.y))).setCell ⟨b,10,none⟩ (.int .u64 (QaS g.y g'.y))).heap[b]?=some (.cells #[.int .i64 g.k,.int .u64 (Qar g.s g'.s),.int .i64 (QaO g.h g.l g'.h g'.l),.int .u64 (QaS g.l g'.l),.int .i64 (if g.k=2 then gA g.a g.t g'.a g'.t else 0),.int .i64 (if g.k=2 then gT g.a g.t g'.a g'.t else 0),.int .u64 (Qar g.z g'.z),.slice pa (Qan (mrg g.P g'.P)).length pc,.slice na (Qan (mrg g.N g'.N)).length nc,.int .i64 (QaO g.x g.y g'.x g'.y),.int .u64 (QaS g.y g'.y),.slice none 0 0,.slice none 0 0] 49 (0,0)):=ZZl _ b 10 _ _ (.int .u64 (QaS g.y g'.y)) k3;exact k4
    have bh:Hid (Below W0.heap.size W0 (((((u4.setCell ⟨b,6,none⟩ (.int .u64 (Qar g.z g'.z))).setCell ⟨b,7,none⟩ (.slice pa (Qan (mrg g.P g'.P)).length pc)).setCell ⟨b,8,none⟩ (.slice na (Qan (mrg g.N g'.N)).length nc)).setCell ⟨b,9,none⟩ (.int .i64 (QaO g.x g.y g'.x g'.y))).setCell ⟨b,10,none⟩ (.int .u64 (QaS g.y g'.y)))):=((((be.out.setCell (by exact ay) _).setCell (by exact ay) _).setCell (by exact ay) _).setCell (by exact ay) _).setCell (by exact ay) _;have HO:Hid (OwnB (((((u4.setCell ⟨b,6,none⟩ (.int .u64 (Qar g.z g'.z))).setCell ⟨b,7,none⟩ (.slice pa (Qan (mrg g.P g'.P)).length pc)).setCell ⟨b,8,none⟩ (.slice na (Qan (mrg g.N g'.N)).length nc)).setCell ⟨b,9,none⟩ (.int .i64 (QaO g.x g.y g'.x g'.y))).setCell ⟨b,10,none⟩ (.int .u64 (QaS g.y g'.y))) W0.heap.size (.slice pa (Qan (mrg g.P g'.P)).length pc) (Qan (mrg g.P g'.P)).length (Qan (mrg g.P g'.P))/\OwnB (((((u4.setCell ⟨b,6,none⟩ (.int .u64 (Qar g.z g'.z))).setCell ⟨b,7,none⟩ (.slice pa (Qan (mrg g.P g'.P)).length pc)).setCell ⟨b,8,none⟩ (.slice na (Qan (mrg g.N g'.N)).length nc)).setCell ⟨b,9,none⟩ (.int .i64 (QaO g.x g.y g'.x g'.y))).setCell ⟨b,10,none⟩ (.int .u64 (QaS g.y g'.y))) W0.heap.size (.slice na (Qan (mrg g.N g'.N)).length nc) (Qan (mrg g.N g'.N)).length (Qan (mrg g.N g'.N))/\QdP (.slice pa (Qan (mrg g.P g'.P)).length pc) (.slice na (Qan (mrg g.N g'.N)).length nc)):=⟨(((((oP.below ai _).below ai _).below ai _).below ai _).below ai _).le aA,(((((oN.below ai _).below ai _).below ai _).below ai _).below ai _).le aA,aY⟩;obtain ⟨q0,q1,q2,q3,q4,q5,q6,q7,q8,q9,ap,aq,au⟩:=Qbt R4;obtain ⟨f0,f1,f2,f3,f4,f5,f6,f7,f8,f9,aw,av,ar⟩:=QcN R4;clear R4 aP oP oN aY ai aA;go_wp2;go_meet;exact ⟨pa,pc,na,nc,rfl,bc,HO,bh⟩
   case rest=>
    obtain ⟨pa,pc,na,nc,rfl,aN,aL,aj⟩:=hcut;clear HY an;go_upto_region 5 with fail
    go_cut [5] (fun v w'=>∃ (ea:Option Addr) (ec:Nat) (ra:Option Addr) (rc:Nat) (E R:List Int),v=.pointer (some ⟨b,0,none⟩)/\Hid (Mg g.E g.R g'.E g'.R E R)/\Hid (w'.heap[b]?=some (.cells (Qak (QjQ g g' E R) ⟨pa,pc,na,nc,ea,ec,ra,rc⟩) 49 (0,0)))/\Hid (AgO w' W0.heap.size ((QjQ g g' E R)) ⟨pa,pc,na,nc,ea,ec,ra,rc⟩)/\Hid (Below W0.heap.size W0 w'))
    case first=>
     obtain ⟨⟨x0,x1,x2,x3,x4,x5,x6,x7,x8,x9,ah,ac,af⟩,⟨y0,y1,y2,y3,y4,y5,y6,y7,y8,y9,ab,ag,ae⟩,_⟩:=HC.out wc aj;go_wp2_with fail;clear x0 x1 x2 x3 x4 x5 x6 x7 x8 x9 ah ac af y0 y1 y2 y3 y4 y5 y6 y7 y8 y9 ab ag ae;refine (Qmn NO.out.hl aT.out.hl rfl rfl rfl rfl CE (Qaf HA.out.E (Qac ax aj)) (Qaf HA.out.R (Qac ax aj)) (Qaf aK.out.E (Qac ax aj)) (Qaf aK.out.R (Qac ax aj)) OK.out.E ao.out.E).mono ?_;rintro e u6 ⟨v6,E,R,rfl,hM,⟨ve,vr,rfl,oE,oR⟩,aF⟩;obtain ⟨ea,ec,rfl⟩:=Qam oE;obtain ⟨ra,rc,rfl⟩:=Qam oR;have ai:=(ZZc.1 aN).1;have aA:=aj.out.size;have R6:=(aF.block b ai).trans aN;have bf:=Qaa (Qac aj aF)
     have aJ:Hid (((u6.setCell ⟨b,11,none⟩ (.slice ea E.length ec)).setCell ⟨b,12,none⟩ (.slice ra R.length rc)).heap[b]?=some (.cells (Qak ((QjQ g g' E R)) ⟨pa,pc,na,nc,ea,ec,ra,rc⟩) 49 (0,0))):=by
      have k0:(u6.setCell ⟨b,11,none⟩ (.slice ea E.length ec)).heap[b]?=some (.cells #[.int .i64 g.k,.int .u64 (Qar g.s g'.s),.int .i64 (QaO g.h g.l g'.h g'.l),.int .u64 (QaS g.l g'.l),.int .i64 (if g.k=2 then gA g.a g.t g'.a g'.t else 0),.int .i64 (if g.k=2 then gT g.a g.t g'.a g'.t else 0),.int .u64 (Qar g.z g'.z),.slice pa (Qan (mrg g.P g'.P)).length pc,.slice na (Qan (mrg g.N g'.N)).length nc,.int .i64 (QaO g.x g.y g'.x g'.y),.int .u64 (QaS g.y g'.y),.slice ea E.length ec,.slice none 0 0] 49 (0,0)):=ZZl _ b 11 _ _ (.slice ea E.length ec) R6;have k1:((u6.setCell ⟨b,11,none⟩ (.slice ea E.length ec)).setCell ⟨b,12,none⟩ (.slice ra R.length rc)).heap[b]?=some (.cells #[.int .i64 g.k,.int .u64 (Qar g.s g'.s),.int .i64 (QaO g.h g.l g'.h g'.l),.int .u64 (QaS g.l g'.l),.int .i64 (if g.k=2 then gA g.a g.t g'.a g'.t else 0),.int .i64 (if g.k=2 then gT g.a g.t g'.a g'.t else 0),.int .u64 (Qar g.z g'.z),.slice pa (Qan (mrg g.P g'.P)).length pc,.slice na (Qan (mrg g.N g'.N)).length nc,.int .i64 (QaO g.x g.y g'.x g'.y),.int .u64 (QaS g.y g'.y),.slice ea E.length ec,.slice ra R.length rc] 49 (0,0)):=ZZl _ b 12 _ _ (.slice ra R.length rc) k0;exact k1
     have aI:Hid (Below W0.heap.size W0 ((u6.setCell ⟨b,11,none⟩ (.slice ea E.length ec)).setCell ⟨b,12,none⟩ (.slice ra R.length rc))):=(bf.out.setCell (by exact ay) _).setCell (by exact ay) _;have aX:OwnN .u64 26 u6 wc.heap.size (.slice ea E.length ec) E.length E:=⟨rfl,oE⟩;have aV:OwnN .i64 2 u6 wc.heap.size (.slice ra R.length rc) R.length R:=⟨rfl,oR⟩;have aM:=R6;have n1:=aL.out.1.past aF;have n2:=aL.out.2.1.past aF;have e1:(Value.slice pa (Qan (mrg g.P g'.P)).length pc).ownBlock≠some b:=n1.ne R6 (by decide);have e2:(Value.slice na (Qan (mrg g.N g'.N)).length nc).ownBlock≠some b:=n2.ne R6 (by decide);have aU:Hid (AgO ((u6.setCell ⟨b,11,none⟩ (.slice ea E.length ec)).setCell ⟨b,12,none⟩ (.slice ra R.length rc)) W0.heap.size ((QjQ g g' E R)) ⟨pa,pc,na,nc,ea,ec,ra,rc⟩):=⟨(n1.set e1 _).set e1 _,(n2.set e2 _).set e2 _,aL.out.2.2,((aX.below ai _).below ai _).le aA,((aV.below ai _).below ai _).le aA⟩;have aQ:=Qaa hM;obtain ⟨q0,q1,q2,q3,q4,q5,q6,q7,q8,q9,ap,aq,au⟩:=Qbt R6;obtain ⟨f0,f1,f2,f3,f4,f5,f6,f7,f8,f9,aw,av,ar⟩:=QcN R6;clear aM n1 n2 e1 e2 aX aV R6 aF oE oR hM ai aA;go_wp2;go_meet;exact ⟨ea,ec,ra,rc,E,R,rfl,aQ,aJ,aU,aI⟩
    case rest=>
     obtain ⟨ea,ec,ra,rc,E,R,rfl,aQ,aJ,aU,aI⟩:=hcut;clear aN aL aj;have RR:=(HC.out _ aI).2.2;obtain ⟨a0,a1,a2,a3,a4,a5,a6,a7,a8,a9,bq,bn,bl⟩:=Qbt aJ;obtain ⟨b0,b1,b2,b3,b4,b5,b6,b7,b8,b9,bk,bp,bs⟩:=QcN aJ;obtain ⟨c0,c1,c2,c3,c4,c5,c6,c7,c8,c9,ba,aZ,bj⟩:=Qbt RR;obtain ⟨d0,d1,d2,d3,d4,d5,d6,d7,d8,d9,bm,br,bo⟩:=QcN RR;clear RR;go_wp2;have bb:=bi.out;refine bodyPost_ret (v:=.agg (Qak ((QjQ g g' E R)) ⟨pa,pc,na,nc,ea,ec,ra,rc⟩)) (by simp [results,Tryz.results101,go_sem,c0,c1,c2,c3,c4,c5,c6,c7,c8,c9,ba,aZ,bj]) rfl (AgRes.mk (o:=(QjQ g g' E R)) (p:=⟨pa,pc,na,nc,ea,ec,ra,rc⟩) ?_ ?_ ?_)
     ·unfold AgMrg;rw [if_pos HG.out];exact ⟨E,R,aQ,rfl⟩
     ·refine AgO.le (B:=W0.heap.size) ?_ (by omega)
      repeat (refine AgO.below ?_ (by omega) _)
      exact aU.out
     ·repeat (refine Below.setCell ?_ (by simp <;> omega) _)
      exact Qac ax aI
end Go.Proofs.YtandnmpllheniaaGreatDoor
