/-
 A sample that is put into an Agg: an Agg of that one sample, brought together with it. The mathematics.
-/
import Derived.Test.YthchmdmncmioiaaGreatDoorZJY
import Derived.Test.YthchmdmncmioiaaGreatDoorZTA
import Derived.Test.YthchmdmncmioiaaGreatDoorZSF
set_option maxHeartbeats 8000000
namespace Go.Proofs.YthchmdmncmioiaaGreatDoor
set_option linter.unusedVariables false
set_option linter.unusedSimpArgs false
open Go.ChangeShapes Go.WideShapes Go.ChangeAt Go.RowKit Go.PlainAid Go.Lib
set_option maxRecDepth 10000
theorem QlA {s:ByteArray} (h:QbB s=true):s.size<=40:=by
 unfold QbB at h;simp only [Bool.and_eq_true,decide_eq_true_eq] at h;omega
def Qhg (x:Sx):Ag:=
 if x.k=1 then ⟨1,1,thH x.v x.wt,thL x.v x.wt,0,0,0,[],[],0,0,[],[]⟩
 else if x.k=2 then ⟨2,1,0,0,x.v,x.ti,0,[],[],0,0,[],[]⟩
 else if x.k=3 then ⟨3,1,0,0,0,0,(Qox x.v x.wt).z,(Qox x.v x.wt).P,(Qox x.v x.wt).N,thH x.v x.wt,thL x.v x.wt,[],[]⟩
 else ⟨4,1,0,0,0,0,0,[],[],0,0,[Qc5 x.wd],[]⟩
theorem Qbi {x:Sx} (h:x.B=true):(1<=x.k/\x.k<=4)/\(-999999999999999999<=x.v/\x.v<=999999999999999999)/\x.wt≠0/\(0<=x.ti/\x.ti<=1000000000)/\x.wd.size<=40:=by
 unfold Sx.B Qbm at h;simp only [Bool.and_eq_true] at h;obtain ⟨⟨⟨⟨h1,_⟩,h2⟩,h3⟩,h4⟩:=h;unfold QgJ at h1;simp only [Bool.and_eq_true,decide_eq_true_eq] at h1
 have a2:(-999999999999999999<=x.v/\x.v<=999999999999999999)/\x.wd.size<=40:=by
  unfold Qck at h2
  split at h2
  ·simp only [Bool.and_eq_true,decide_eq_true_eq] at h2
   exact ⟨by omega,QlA h2.2⟩
  ·unfold QoH at h2
   simp only [Bool.and_eq_true,decide_eq_true_eq] at h2;exact ⟨h2.1,by omega⟩
 have a3:x.wt≠0:=by
  unfold Qbq at h3;simp only [Bool.and_eq_true,Bool.or_eq_true,decide_eq_true_eq] at h3;omega
 have a4:0<=x.ti/\x.ti<=1000000000:=by
  unfold Qfv at h4
  split at h4
  ·simpa using h4
  ·simp only [decide_eq_true_eq] at h4;omega
 exact ⟨h1,a2.1,a3,a4,a2.2⟩
theorem QgO {x:Sx} (h:x.B=true):(Qhg x).k=x.k:=by
 have p:=(Qbi h).1;unfold Qhg
 split
 ·show (1:Int)=x.k;omega
 split
 ·show (2:Int)=x.k;omega
 split
 ·show (3:Int)=x.k;omega
 ·show (4:Int)=x.k;omega
theorem Qb4 {x:Sx} (ok:x.Ok) (h:x.B=true):agB (Qhg x)=true:=by
 obtain ⟨p1,p2,p3,p4,p5⟩:=Qbi h;unfold Qhg
 split
 ·simp [agB,Qfb,Qfg,noS,Qa5,noH]
 split
 ·have:QcB ⟨2,1,0,0,x.v,x.ti,0,[],[],0,0,[],[]⟩=true:=by
   unfold QcB QlF;simp only [Bool.and_eq_true,Bool.or_eq_true,decide_eq_true_eq];omega
  simp [agB,Qfb,Qfg,noS,Qa5,noH,QgC,this]
 split
 ·have g:=(Qli p2 ok.wt p3).sk
  simp [agB,g,Qfg,noS,Qa5,noH,QgC]
 ·have:hlB [Qc5 x.wd] []=true:=(Can.hash _).right
  simp [agB,Qfb,this,noS,Qa5,noH,QgC]
def AgPut (g:Ag) (x:Sx) (o:Ag):Prop:=if agB g=true/\x.B=true/\g.k=x.k then AgMrg g (Qhg x) o else o=g
theorem AgPut.one {g o o':Ag} {x:Sx} (h:AgPut g x o) (k:AgPut g x o'):o=o':=by
 unfold AgPut at h k
 split at h
 ·rw [if_pos (by assumption)] at k
  exact h.one k
 ·rw [if_neg (by assumption)] at k
  exact h.trans k.symm
theorem QmA {g:Ag} {x:Sx} (h:¬ (agB g=true/\x.B=true/\g.k=x.k)):AgPut g x g:=by unfold AgPut;rw [if_neg h]
section
variable {g:Ag} {x:Sx} (ok:x.Ok) (hg:agB g=true) (hx:x.B=true) (e:g.k=x.k)
include ok hg hx e
theorem putC (k:g.k=1):AgPut g x ⟨1,QaA g.s 1,Qbp g.h g.l (thH x.v x.wt) (thL x.v x.wt),Qbu g.l (thL x.v x.wt),0,0,0,[],[],0,0,[],[]⟩:=by
 unfold AgPut;rw [if_pos ⟨hg,hx,e⟩];have:=mrgC hg (Qb4 ok hx) (e.trans (QgO hx).symm) k;have e1:Qhg x=⟨1,1,thH x.v x.wt,thL x.v x.wt,0,0,0,[],[],0,0,[],[]⟩:=by unfold Qhg;rw [if_pos (by omega)]
 rw [e1] at this ⊢;exact this
theorem putG (k:g.k=2):AgPut g x ⟨2,QaA g.s 1,0,0,gA g.a g.t x.v x.ti,gT g.a g.t x.v x.ti,0,[],[],0,0,[],[]⟩:=by
 unfold AgPut;rw [if_pos ⟨hg,hx,e⟩];have:=mrgG hg (Qb4 ok hx) (e.trans (QgO hx).symm) k;have e1:Qhg x=⟨2,1,0,0,x.v,x.ti,0,[],[],0,0,[],[]⟩:=by unfold Qhg;rw [if_neg (by omega),if_pos (by omega)]
 rw [e1] at this ⊢;exact this
theorem putHs (k:g.k=3) (go:AgOk g):AgPut g x ⟨3,QaA g.s 1,0,0,0,0,Qec g.z x.v x.wt,Qcz g.P x.v x.wt,Qcy g.N x.v x.wt,Qbp g.x g.y (thH x.v x.wt) (thL x.v x.wt),Qbu g.y (thL x.v x.wt),[],[]⟩:=by
 unfold AgPut;rw [if_pos ⟨hg,hx,e⟩];obtain ⟨p1,p2,p3,p4,p5⟩:=Qbi hx;have hm:=mrgH hg (Qb4 ok hx) (e.trans (QgO hx).symm) k;have e1:Qhg x=⟨3,1,0,0,0,0,(Qox x.v x.wt).z,(Qox x.v x.wt).P,(Qox x.v x.wt).N,thH x.v x.wt,thL x.v x.wt,[],[]⟩:=by unfold Qhg;rw [if_neg (by omega),if_neg (by omega),if_pos (by omega)]
 rw [e1] at hm ⊢;have q:PutIs ⟨g.z,g.P,g.N,g.x,g.y⟩ ⟨Qec g.z x.v x.wt,Qcz g.P x.v x.wt,Qcy g.N x.v x.wt,Qbp g.x g.y (thH x.v x.wt) (thL x.v x.wt),Qbu g.y (thL x.v x.wt)⟩ x.v x.wt:=⟨fun _=>rfl,fun h=>absurd ⟨(Qa9 hg).sk,p2,p3⟩ h⟩;have:=q.M ⟨go.z,go.y,go.P,go.N⟩ ⟨(Qa9 hg).sk,p2,p3⟩;unfold T5.M at this;simp only [T5.mk.injEq] at this;obtain ⟨q1,q2,q3,q4,q5⟩:=this;rw [q1,q2,q3];exact hm
theorem putS (k:g.k=4) {E R:List Int} (m:QnR g.E g.R (Qc5 x.wd) E R):AgPut g x ⟨4,QaA g.s 1,0,0,0,0,0,[],[],0,0,E,R⟩:=by
 unfold AgPut;rw [if_pos ⟨hg,hx,e⟩];have e1:Qhg x=⟨4,1,0,0,0,0,0,[],[],0,0,[Qc5 x.wd],[]⟩:=by unfold Qhg;rw [if_neg (by omega),if_neg (by omega),if_neg (by omega)]
 have hh:hlB [Qc5 x.wd] []=true:=(Can.hash _).right
 have mm:QfR g.E g.R (Qhg x).E (Qhg x).R E R:=by
  rw [e1];unfold QnR at m;rw [if_pos (Qa9 hg).hl] at m;unfold QfR;rw [if_pos ⟨(Qa9 hg).hl,hh⟩];exact m
 have:=mrgS hg (Qb4 ok hx) (e.trans (QgO hx).symm) k mm;rw [e1] at this ⊢;exact this
end
theorem QhB (w:World) (cs:Array Value) (T:TypeId) (x:Sx):Hid (Below w.heap.size w ((w.alloc (.cells cs T)).alloc (.cells (Qax x) 28)))/\Hid (∀ W,Below ((w.alloc (.cells cs T)).alloc (.cells (Qax x) 28)).heap.size ((w.alloc (.cells cs T)).alloc (.cells (Qax x) 28)) W->W.heap[w.heap.size]?=some (.cells cs T (0,0))/\W.heap[w.heap.size+1]?=some (.cells (Qax x) 28 (0,0))):=by
 have a1:∀ (W:World) o,Below W.heap.size W (W.alloc o):=fun W o=>(ZZb _ _).alloc (ZZa _) _;have k0:=ZZk w (.cells cs T);have k1:=ZZk (w.alloc (.cells cs T)) (.cells (Qax x) 28);simp only [World.size_alloc] at k1;exact ⟨Qaa (Qad (a1 _ _) (a1 _ _)),Qaa (fun W hW=>⟨(hW.block _ (by simp;omega)).trans (((a1 _ _).block _ (by simp)).trans k0),(hW.block _ (by simp)).trans k1⟩)⟩
theorem Qe9 (w:World) (o o':Obj):((w.alloc o).alloc o').heap.size=w.heap.size+1+1:=by simp
theorem c_cput (h l:Int) (x:Sx) (w:World) (ul:U64 l) (ox:x.Ok):Calls Tryz.prog 277 #[.agg #[.int .i64 h,.int .u64 l],.agg (Qax x)] w fun e w'=>e=.returned (.iface 170 (.agg #[.int .i64 (Qbp h l (thH x.v x.wt) (thL x.v x.wt)),.int .u64 (Qbu l (thL x.v x.wt))]))/\Below w.heap.size w w':=by
 have UL:=Qaa ul;have OX:=Qaa ox;clear ul ox;obtain ⟨HT0,HC⟩:=QhB w #[.int .i64 h,.int .u64 l] 170 x;have hsz:=Qe9 w (.cells #[.int .i64 h,.int .u64 l] 170) (.cells (Qax x) 28);go_enter Tryz.func277,Tryz.ntmps277;go_wp2_with fail;generalize (w.alloc (.cells #[.int .i64 h,.int .u64 l] 170)).alloc (.cells (Qax x) 28)=W0 at HT0 HC hsz ⊢;have HS0:(fun W=>Below W0.heap.size W0 W) W0.drew:=(ZZb _ _).drew;refine Qaj (fun W=>Below W0.heap.size W0 W) 10 (by kernel_rfl) ?_;refine tkS (i:=0) (v:=.pointer (some ⟨w.heap.size,0,none⟩)) rfl rfl HS0 ?_;refine tkL (i:=1) (v:=.agg #[.int .i64 h,.int .u64 l]) rfl rfl HS0 (fun W hW=>?_) ?_
 ·have hWW:=HC.out W hW
  have x0:=Qac hWW.1 0 rfl;have x1:=Qac hWW.1 1 rfl;obtain ⟨y0,y1,y2,y3,y4,y5,y6⟩:=cA7 hWW.2;clear hWW;clear hW;go_simp
 refine tkS (i:=2) (v:=.pointer (some ⟨w.heap.size+1,2,none⟩)) rfl rfl HS0 ?_;simp only [sA,sB,sC];refine tkL (i:=3) (v:=.int .i64 x.v) rfl rfl HS0 (fun W hW=>?_) ?_
 ·have hWW:=HC.out W hW
  have x0:=Qac hWW.1 0 rfl;have x1:=Qac hWW.1 1 rfl;obtain ⟨y0,y1,y2,y3,y4,y5,y6⟩:=cA7 hWW.2;clear hWW;clear hW;go_simp
 refine tkS (i:=4) (v:=.pointer (some ⟨w.heap.size+1,4,none⟩)) rfl rfl HS0 ?_;refine tkL (i:=5) (v:=.int .u64 x.wt) rfl rfl HS0 (fun W hW=>?_) ?_
 ·have hWW:=HC.out W hW
  have x0:=Qac hWW.1 0 rfl;have x1:=Qac hWW.1 1 rfl;obtain ⟨y0,y1,y2,y3,y4,y5,y6⟩:=cA7 hWW.2;clear hWW;clear hW;go_simp
 simp only [sA,sB,sC];refine onE (i:=6) rfl (fun K hK=>?_);go_simp;refine (Qb1 x.v x.wt OX.out.v OX.out.wt _).mono ?_;rintro e w1 ⟨rfl,hb1⟩;have HB1:Hid (Below W0.heap.size W0 w1):=(HS0:Below W0.heap.size W0 W0.drew).trans (hb1.mono (ZZa _));clear hb1;dsimp only;refine hK.out _ _ (fun _=>HB1.out) ?_;clear hK K
 try simp only [Act.put,sA,sB,sC]
 refine onE (i:=7) rfl (fun K hK=>?_);go_simp;refine (QbJ h l (thH x.v x.wt) (thL x.v x.wt) _ UL.out (show U64 (thL x.v x.wt) from Qd4 _)).mono ?_;rintro e w2 ⟨rfl,hb2⟩;have HB2:Hid (Below W0.heap.size W0 w2):=Qad HB1.out hb2;clear hb2;dsimp only;refine hK.out _ _ (fun _=>HB2.out) ?_;clear hK K
 try simp only [Act.put,sA,sB,sC]
 refine tkS (i:=8) (v:=.agg #[.int .i64 (Qbp h l (thH x.v x.wt) (thL x.v x.wt)),.int .u64 (Qbu l (thL x.v x.wt))]) rfl rfl HB2.out ?_;refine tkS (i:=9) (v:=.iface 170 (.agg #[.int .i64 (Qbp h l (thH x.v x.wt) (thL x.v x.wt)),.int .u64 (Qbu l (thL x.v x.wt))])) rfl rfl HB2.out ?_;simp only [sA,sB,sC];refine onE (i:=10) rfl (fun K hK=>?_);go_simp;refine hK.out _ _ (fun h=>absurd rfl h) ?_;clear hK K
 try simp only [Act.put,sA,sB,sC]
 refine Qar (by kernel_rfl) ?_ _;go_wp2;go_ret;exact ⟨rfl,Qad HT0.out HB2.out⟩
theorem c_gput (a t:Int) (x:Sx) (w:World):Calls Tryz.prog 283 #[.agg #[.int .i64 a,.int .i64 t],.agg (Qax x)] w fun e w'=>e=.returned (.iface 172 (.agg #[.int .i64 (gA a t x.v x.ti),.int .i64 (gT a t x.v x.ti)]))/\Below w.heap.size w w':=by
 obtain ⟨HT0,HC⟩:=QhB w #[.int .i64 a,.int .i64 t] 172 x;have hsz:=Qe9 w (.cells #[.int .i64 a,.int .i64 t] 172) (.cells (Qax x) 28);go_enter Tryz.func283,Tryz.ntmps283;go_wp2_with fail;generalize (w.alloc (.cells #[.int .i64 a,.int .i64 t] 172)).alloc (.cells (Qax x) 28)=W0 at HT0 HC hsz ⊢;refine (QkH a t x.v x.ti _).mono ?_;rintro e w1 ⟨rfl,hb1⟩;have HT1:=Qaa (Qad HT0.out hb1);clear hb1;go_wp2;go_ret;exact ⟨rfl,HT1.out⟩
theorem putP_S {P:List Bn} {v wt:Int} (h:Qc9 P):QoJ P v wt=Qcz P v wt:=by
 unfold QoJ Qcz;split
 ·exact Qh5 h (Qhx _)
 ·rfl
theorem putN_S {P:List Bn} {v wt:Int} (h:Qc9 P):Qof P v wt=Qcy P v wt:=by
 unfold Qof Qcy;split
 ·exact Qh5 h (Qhx _)
 ·rfl
theorem c_hput {w:World} {g:Ag} {p:Pl} (x:Sx) (ox:x.Ok) (hx:x.B=true) (ok:AgOk g) (sm:AgSm g) (hA:AgAt w g p) (sk:skB g.P g.N=true):Calls Tryz.prog 286 #[.agg #[.int .u64 g.z,.slice p.pa g.P.length p.pc,.slice p.na g.N.length p.nc,.int .i64 g.x,.int .u64 g.y],.agg (Qax x)] w fun e w'=>∃ v,e=.returned (.iface 174 v)/\Qef w' w.heap.size v (Qec g.z x.v x.wt) (Qcz g.P x.v x.wt) (Qcy g.N x.v x.wt) (Qbp g.x g.y (thH x.v x.wt) (thL x.v x.wt)) (Qbu g.y (thL x.v x.wt))/\Below w.heap.size w w':=by
 have OX:=Qaa ox;have HX:=Qaa (Qbi hx);have OK:=Qaa ok;have SM:=Qaa sm;have HA:=Qaa hA;have SK:=Qaa sk;clear ox hx ok sm hA sk;obtain ⟨HT0,HC⟩:=QhB w #[.int .u64 g.z,.slice p.pa g.P.length p.pc,.slice p.na g.N.length p.nc,.int .i64 g.x,.int .u64 g.y] 174 x;have hsz:=Qe9 w (.cells #[.int .u64 g.z,.slice p.pa g.P.length p.pc,.slice p.na g.N.length p.nc,.int .i64 g.x,.int .u64 g.y] 174) (.cells (Qax x) 28);go_enter Tryz.func286,Tryz.ntmps286;go_wp2_with fail;generalize (w.alloc (.cells #[.int .u64 g.z,.slice p.pa g.P.length p.pc,.slice p.na g.N.length p.nc,.int .i64 g.x,.int .u64 g.y] 174)).alloc (.cells (Qax x) 28)=W0 at HT0 HC hsz ⊢;refine (Qhq OK.out.z OK.out.y OX.out.v OX.out.wt rfl rfl SM.out.P SM.out.N (Qae HA.out.P HT0.out) (Qae HA.out.N HT0.out) OK.out.P OK.out.N).mono ?_;rintro e w1 ⟨v1,rfl,hb1,hq1⟩
 have ho:Qef w1 W0.heap.size v1 (Qec g.z x.v x.wt) (Qcz g.P x.v x.wt) (Qcy g.N x.v x.wt) (Qbp g.x g.y (thH x.v x.wt) (thL x.v x.wt)) (Qbu g.y (thL x.v x.wt)):=by
  rcases hq1 with ⟨ok,ho⟩ | ⟨no,_⟩
  ·rw [putP_S (QcI ok.1).1.1,putN_S (QcI ok.1).2.1] at ho
   exact ho
  ·exact absurd ⟨SK.out,HX.out.2.1,HX.out.2.2.1⟩ no
 obtain ⟨vp,vn,pn,nn,rfl,o1,o2,hap⟩:=ho;have HO:=Qaa (And.intro (o1.le (show w.heap.size<=W0.heap.size by omega)) (And.intro (o2.le (show w.heap.size<=W0.heap.size by omega)) hap));have HT1:=Qaa (Qad HT0.out hb1);clear hq1 o1 o2 hap hb1;go_wp2;go_ret;exact ⟨_,rfl,⟨vp,vn,pn,nn,rfl,HO.out.1,HO.out.2.1,HO.out.2.2⟩,HT1.out⟩
theorem Qkj (s:ByteArray):U64 (Qc5 s):=by have:=hx_in s s.size;unfold Qc5 U64;omega
structure PlG (g:Ag) (p:Pl):Prop where
 cP:p.pa=none->p.pc=0
 cN:p.na=none->p.nc=0
 cE:p.ea=none->p.ec=0
 cR:p.ra=none->p.rc=0
 fE:Qlz p.ea
 fR:Qlz p.ra
 lE:g.E.length<=p.ec
 mE:p.ec<=maxLen
theorem c_sput {w:World} {g:Ag} {p:Pl} (x:Sx) (ox:x.Ok) (hx:x.B=true) (ok:AgOk g) (sm:AgSm g) (pl:PlG g p) (hA:AgAt w g p):Calls Tryz.prog 307 #[.agg #[.slice p.ea g.E.length p.ec,.slice p.ra g.R.length p.rc],.agg (Qax x)] w fun e w'=>∃ v E R,e=.returned (.iface 176 v)/\QnR g.E g.R (Qc5 x.wd) E R/\Qh9 w' w.heap.size v E R/\Below w.heap.size w w':=by
 have OX:=Qaa ox;have HX:=Qaa (Qbi hx);have OK:=Qaa ok;have SM:=Qaa sm;have PL:=Qaa pl;have HA:=Qaa hA;clear ox hx ok sm pl hA;obtain ⟨HT0,HC⟩:=QhB w #[.slice p.ea g.E.length p.ec,.slice p.ra g.R.length p.rc] 176 x;have hsz:=Qe9 w (.cells #[.slice p.ea g.E.length p.ec,.slice p.ra g.R.length p.rc] 176) (.cells (Qax x) 28);go_enter Tryz.func307,Tryz.ntmps307;go_wp2_with fail;generalize (w.alloc (.cells #[.slice p.ea g.E.length p.ec,.slice p.ra g.R.length p.rc] 176)).alloc (.cells (Qax x) 28)=W0 at HT0 HC hsz ⊢;have HS0:(fun W=>Below W0.heap.size W0 W) W0.drew:=(ZZb _ _).drew;refine Qaj (fun W=>Below W0.heap.size W0 W) 8 (by kernel_rfl) ?_;refine tkS (i:=0) (v:=.pointer (some ⟨w.heap.size,0,none⟩)) rfl rfl HS0 ?_;refine tkL (i:=1) (v:=.agg #[.slice p.ea g.E.length p.ec,.slice p.ra g.R.length p.rc]) rfl rfl HS0 (fun W hW=>?_) ?_
 ·have hWW:=HC.out W hW
  have x0:=Qac hWW.1 0 rfl;have x1:=Qac hWW.1 1 rfl;obtain ⟨y0,y1,y2,y3,y4,y5,y6⟩:=cA7 hWW.2;clear hWW;clear hW;go_simp
 refine tkS (i:=2) (v:=.pointer (some ⟨w.heap.size+1,3,none⟩)) rfl rfl HS0 ?_;simp only [sA,sB,sC];refine tkL (i:=3) (v:=.string x.wd) rfl rfl HS0 (fun W hW=>?_) ?_
 ·have hWW:=HC.out W hW
  have x0:=Qac hWW.1 0 rfl;have x1:=Qac hWW.1 1 rfl;obtain ⟨y0,y1,y2,y3,y4,y5,y6⟩:=cA7 hWW.2;clear hWW;clear hW;go_simp
 simp only [sA,sB,sC];refine onE (i:=4) rfl (fun K hK=>?_);go_simp;refine (QoP x.wd OX.out.wd _).mono ?_;rintro e wz ⟨rfl,hwz⟩;obtain rfl:=hwz.symm;rw [Qk7 (show x.wd.size<=20000 by have:=HX.out.2.2.2.2;omega)];dsimp only;refine hK.out _ _ (fun _=>HS0) ?_;clear hK K
 try simp only [Act.put,sA,sB,sC]
 refine onE (i:=5) rfl (fun K hK=>?_);go_simp;refine (Qlu (Qc5 x.wd) rfl rfl SM.out.E SM.out.R PL.out.fE PL.out.fR (Qag HA.out.E (Qad HT0.out HS0)) (Qag HA.out.R (Qad HT0.out HS0)) OK.out.E (Qkj _)).mono ?_;rintro e w2 ⟨v1,E,R,rfl,hM,⟨vp,vn,rfl,o1,o2⟩,hb2⟩;have HM:=Qaa hM;have HO:=Qaa (And.intro (QaI o1 (show w.heap.size<=W0.heap.size by omega)) (QaI o2 (show w.heap.size<=W0.heap.size by omega)));have HB2:Hid (Below W0.heap.size W0 w2):=(HS0:Below W0.heap.size W0 W0.drew).trans (hb2.mono (ZZa _));clear hM o1 o2 hb2;dsimp only;refine hK.out _ _ (fun _=>HB2.out) ?_;clear hK K
 try simp only [Act.put,sA,sB,sC]
 refine tkS (i:=6) (v:=.agg #[vp,vn]) rfl rfl HB2.out ?_;refine tkS (i:=7) (v:=.iface 176 (.agg #[vp,vn])) rfl rfl HB2.out ?_;simp only [sA,sB,sC];refine onE (i:=8) rfl (fun K hK=>?_);go_simp;refine hK.out _ _ (fun h=>absurd rfl h) ?_;clear hK K
 try simp only [Act.put,sA,sB,sC]
 refine Qar (by kernel_rfl) ?_ _;go_wp2;go_ret
 first | exact ⟨_,E,R,rfl,HM.out,⟨vp,vn,rfl,HO.out.1,HO.out.2⟩,Qad HT0.out HB2.out⟩ | exact ⟨_,rfl,E,R,HM.out,⟨vp,vn,rfl,HO.out.1,HO.out.2⟩,Qad HT0.out HB2.out⟩ | exact ⟨_,rfl,⟨E,R,HM.out,⟨vp,vn,rfl,HO.out.1,HO.out.2⟩⟩,Qad HT0.out HB2.out⟩
abbrev z13:Array Value:=#[.int .i64 0,.int .u64 0,.int .i64 0,.int .u64 0,.int .i64 0,.int .i64 0,.int .u64 0,.slice none 0 0,.slice none 0 0,.int .i64 0,.int .u64 0,.slice none 0 0,.slice none 0 0]
theorem Qpk (w:World) (g:Ag) (p:Pl):Hid (Below w.heap.size w ((w.alloc (.cells (Qal g p) 49)).alloc (.cells z13 49)))/\Hid (∀ W,Below ((w.alloc (.cells (Qal g p) 49)).alloc (.cells z13 49)).heap.size ((w.alloc (.cells (Qal g p) 49)).alloc (.cells z13 49)) W->W.heap[w.heap.size]?=some (.cells (Qal g p) 49 (0,0))/\W.heap[w.heap.size+1]?=some (.cells z13 49 (0,0))):=by
 have a1:∀ (W:World) o,Below W.heap.size W (W.alloc o):=fun W o=>(ZZb _ _).alloc (ZZa _) _;have k0:=ZZk w (.cells (Qal g p) 49);have k1:=ZZk (w.alloc (.cells (Qal g p) 49)) (.cells z13 49);simp only [World.size_alloc] at k1;exact ⟨Qaa (Qad (a1 _ _) (a1 _ _)),Qaa (fun W hW=>⟨(hW.block _ (by simp;omega)).trans (((a1 _ _).block _ (by simp)).trans k0),(hW.block _ (by simp)).trans k1⟩)⟩
theorem Qep {w:World} {g:Ag} {p:Pl} (sm:AgSm g) (pl:PlG g p) (hA:AgAt w g p) :
  Calls Tryz.prog 82 #[.agg (Qal g p)] w fun e w'=>AgRes w (fun o=>o=g) e w':=by
 have SM:=Qaa sm;have PL:=Qaa pl;have HA:=Qaa hA;clear sm pl hA;obtain ⟨HT0,HC⟩:=Qpk w g p;have hsz:=Qe9 w (.cells (Qal g p) 49) (.cells z13 49);go_enter Tryz.func82,Tryz.ntmps82;go_wp2_with fail;generalize (w.alloc (.cells (Qal g p) 49)).alloc (.cells z13 49)=W0 at HT0 HC hsz ⊢;have HD0:Hid (Below W0.heap.size W0 W0.drew):=(ZZb _ _).drew;have HS0:(fun W=>W.cell? ⟨w.heap.size,11,none⟩=some (.slice p.ea g.E.length p.ec)/\W.cell? ⟨w.heap.size,12,none⟩=some (.slice p.ra g.R.length p.rc)) W0.drew:=⟨QcD (HC.out _ HD0.out).1 11 rfl,QcD (HC.out _ HD0.out).1 12 rfl⟩;refine Qaj (fun W=>W.cell? ⟨w.heap.size,11,none⟩=some (.slice p.ea g.E.length p.ec)/\W.cell? ⟨w.heap.size,12,none⟩=some (.slice p.ra g.R.length p.rc)) 9 (by kernel_rfl) ?_;refine tkS (i:=0) (v:=.pointer (some ⟨w.heap.size,6,none⟩)) rfl rfl HS0 ?_;refine tkS (i:=3) (v:=.pointer (some ⟨w.heap.size,11,none⟩)) rfl rfl HS0 ?_;refine tkL (i:=4) (v:=.agg #[.slice p.ea g.E.length p.ec,.slice p.ra g.R.length p.rc]) rfl rfl HS0 (fun W hW=>?_) ?_
 ·have x11:=hW.1
  have x12:=hW.2;clear hW;go_simp
 simp only [sA,sB,sC];have HR0:=Qaa (HC.out _ HD0.out).1;obtain ⟨q0,q1,q2,q3,q4,q5,q6,q7,q8,q9,q10,q11,q12⟩:=Qby HR0.out;refine onE (i:=1) rfl (fun K hK=>?_);go_simp;refine hK.out _ _ (fun _=>HS0) ?_;clear hK K
 try simp only [Act.put,sA,sB,sC]
 clear q0 q1 q2 q3 q4 q5 q6 q7 q8 q9 q10 q11 q12;refine onE (i:=2) rfl (fun K hK=>?_);go_simp;refine (Qfn rfl rfl SM.out.P SM.out.N (Qae HA.out.P (Qad HT0.out HD0.out)) (Qae HA.out.N (Qad HT0.out HD0.out))).mono ?_;rintro e w1 ⟨v1,rfl,⟨vp,vn,pn,nn,rfl,o1,o2,hap⟩,hb1⟩;obtain ⟨pa,pc,rfl⟩:=o1.any;obtain ⟨na,nc,rfl⟩:=o2.any;obtain rfl:=o1.1;obtain rfl:=o2.1;have HB1:Hid (Below W0.heap.size W0 w1):=Qad HD0.out hb1;have HO1:=Qaa (And.intro (o1.le (show W0.heap.size<=W0.drew.heap.size from ZZa _)) (And.intro (o2.le (show W0.heap.size<=W0.drew.heap.size from ZZa _)) hap));have HS1:(fun W=>W.cell? ⟨w.heap.size,11,none⟩=some (.slice p.ea g.E.length p.ec)/\W.cell? ⟨w.heap.size,12,none⟩=some (.slice p.ra g.R.length p.rc)) w1:=⟨QcD (HC.out _ HB1.out).1 11 rfl,QcD (HC.out _ HB1.out).1 12 rfl⟩;clear o1 o2 hap hb1;dsimp only;refine hK.out _ _ (fun _=>HS1) ?_;clear hK K
 try simp only [Act.put,sA,sB,sC]
 refine tkS (i:=6) (v:=.pointer (some ⟨w.heap.size,6,none⟩)) rfl rfl HS1 ?_;simp only [sA,sB,sC];refine onE (i:=5) rfl (fun K hK=>?_);go_simp;refine (Qi1 rfl rfl SM.out.E SM.out.R PL.out.fE PL.out.fR (Qag HA.out.E (Qad HT0.out HB1.out)) (Qag HA.out.R (Qad HT0.out HB1.out))).mono ?_;rintro e w2 ⟨v2,rfl,⟨ve,vr,rfl,o3,o4⟩,hb2⟩;obtain ⟨ea,ec,rfl⟩:=Qam o3;obtain ⟨ra,rc,rfl⟩:=Qam o4;have HB2:Hid (Below W0.heap.size W0 w2):=Qad HB1.out hb2;have HO2:=Qaa (And.intro (QaI o3 HB1.out.size) (QaI o4 HB1.out.size));have HO1:=Qaa (And.intro (HO1.out.1.past hb2) (And.intro (HO1.out.2.1.past hb2) HO1.out.2.2));have HS2:(fun W=>W.cell? ⟨w.heap.size,11,none⟩=some (.slice p.ea g.E.length p.ec)/\W.cell? ⟨w.heap.size,12,none⟩=some (.slice p.ra g.R.length p.rc)) w2:=⟨QcD (HC.out _ HB2.out).1 11 rfl,QcD (HC.out _ HB2.out).1 12 rfl⟩;clear o3 o4 hb2;dsimp only;refine hK.out _ _ (fun _=>HS2) ?_;clear hK K
 try simp only [Act.put,sA,sB,sC]
 have HR2:=Qaa (HC.out _ HB2.out);obtain ⟨q0,q1,q2,q3,q4,q5,q6,q7,q8,q9,q10,q11,q12⟩:=Qby HR2.out.1;obtain ⟨f0,f1,f2,f3,f4,f5,f6,f7,f8,f9,f10,f11,f12⟩:=Qdr HR2.out.1;obtain ⟨z0,z1,z2,z3,z4,z5,z6,z7,z8,z9,z10,z11,z12⟩:=Qby HR2.out.2;obtain ⟨k0,k1,k2,k3,k4,k5,k6,k7,k8,k9,k10,k11,k12⟩:=Qdr HR2.out.2;refine onE (i:=7) rfl (fun K hK=>?_);go_simp;refine hK.out _ _ (fun _=>(by constructor <;> go_simp)) ?_;clear hK K
 try simp only [Act.put,sA,sB,sC]
 refine QcF (i:=8) (d:=10) (v:=.pointer (some ⟨w.heap.size,11,none⟩)) rfl rfl (by kernel_rfl) (by kernel_rfl) (by kernel_rfl) (by decide) (by kernel_rfl) (fun _ _ _ h=>h) (Or.inl ⟨by rfl,fun W hW=>?_⟩) (by constructor <;> go_simp) ?_
 ·clear hW
  go_simp
 simp only [sA,sB,sC];refine onE (i:=9) rfl (fun K hK=>?_);go_simp;refine hK.out _ _ (fun h=>absurd rfl h) ?_;clear hK K
 try simp only [Act.put,sA,sB,sC]
 refine Qar (by kernel_rfl) ?_ _;go_wp2;refine bodyPost_ret (v:=.agg (Qal g ⟨pa,pc,na,nc,ea,ec,ra,rc⟩)) (by simp [results,Tryz.results82,go_sem,q0,q1,q2,q3,q4,q5,q6,q7,q8,q9,q10,q11,q12,z0,z1,z2,z3,z4,z5,z6,z7,z8,z9,z10,z11,z12]) rfl (AgRes.mk (o:=g) (p:=⟨pa,pc,na,nc,ea,ec,ra,rc⟩) rfl ?_ ?_)
 ·refine AgO.le (B:=W0.heap.size) ?_ (by omega)
  repeat (refine AgO.below ?_ (by omega) _)
  exact ⟨HO1.out.1,HO1.out.2.1,HO1.out.2.2,⟨rfl,HO2.out.1⟩,⟨rfl,HO2.out.2⟩⟩
 ·repeat (refine Below.setCell ?_ (by simp <;> omega) _)
  exact Qad HT0.out HB2.out
theorem Qoz {w w1:World} {g:Ag} {p:Pl} {pa na:Option Addr} {pc nc B:Nat} (ha:w1.heap[w.heap.size]?=some (.cells (Qal g p) 49 (0,0))) (hz:w1.heap[w.heap.size+1]?=some (.cells z13 49 (0,0))) (hb:Below w.heap.size w w1) (hs:B<=w1.heap.size) (o1:OwnB w1 B (.slice pa g.P.length pc) g.P.length g.P) (o2:OwnB w1 B (.slice na g.N.length nc) g.N.length g.N) (hB:w.heap.size<B) :
  Hid (Below w.heap.size w (((((w1.setCell ⟨w.heap.size,6,none⟩ (.int .u64 g.z)).setCell ⟨w.heap.size,7,none⟩ (.slice pa g.P.length pc)).setCell ⟨w.heap.size,8,none⟩ (.slice na g.N.length nc)).setCell ⟨w.heap.size,9,none⟩ (.int .i64 g.x)).setCell ⟨w.heap.size,10,none⟩ (.int .u64 g.y)))/\Hid ((((((w1.setCell ⟨w.heap.size,6,none⟩ (.int .u64 g.z)).setCell ⟨w.heap.size,7,none⟩ (.slice pa g.P.length pc)).setCell ⟨w.heap.size,8,none⟩ (.slice na g.N.length nc)).setCell ⟨w.heap.size,9,none⟩ (.int .i64 g.x)).setCell ⟨w.heap.size,10,none⟩ (.int .u64 g.y)).heap[w.heap.size]?=some (.cells (Qal g ⟨pa,pc,na,nc,p.ea,p.ec,p.ra,p.rc⟩) 49 (0,0)))/\Hid ((((((w1.setCell ⟨w.heap.size,6,none⟩ (.int .u64 g.z)).setCell ⟨w.heap.size,7,none⟩ (.slice pa g.P.length pc)).setCell ⟨w.heap.size,8,none⟩ (.slice na g.N.length nc)).setCell ⟨w.heap.size,9,none⟩ (.int .i64 g.x)).setCell ⟨w.heap.size,10,none⟩ (.int .u64 g.y)).heap[w.heap.size+1]?=some (.cells z13 49 (0,0)))/\Hid (B<=(((((w1.setCell ⟨w.heap.size,6,none⟩ (.int .u64 g.z)).setCell ⟨w.heap.size,7,none⟩ (.slice pa g.P.length pc)).setCell ⟨w.heap.size,8,none⟩ (.slice na g.N.length nc)).setCell ⟨w.heap.size,9,none⟩ (.int .i64 g.x)).setCell ⟨w.heap.size,10,none⟩ (.int .u64 g.y)).heap.size)/\Hid (OwnB (((((w1.setCell ⟨w.heap.size,6,none⟩ (.int .u64 g.z)).setCell ⟨w.heap.size,7,none⟩ (.slice pa g.P.length pc)).setCell ⟨w.heap.size,8,none⟩ (.slice na g.N.length nc)).setCell ⟨w.heap.size,9,none⟩ (.int .i64 g.x)).setCell ⟨w.heap.size,10,none⟩ (.int .u64 g.y)) B (.slice pa g.P.length pc) g.P.length g.P/\OwnB (((((w1.setCell ⟨w.heap.size,6,none⟩ (.int .u64 g.z)).setCell ⟨w.heap.size,7,none⟩ (.slice pa g.P.length pc)).setCell ⟨w.heap.size,8,none⟩ (.slice na g.N.length nc)).setCell ⟨w.heap.size,9,none⟩ (.int .i64 g.x)).setCell ⟨w.heap.size,10,none⟩ (.int .u64 g.y)) B (.slice na g.N.length nc) g.N.length g.N):=by
 have h0:(w1.setCell ⟨w.heap.size,6,none⟩ (.int .u64 g.z)).heap[w.heap.size]?=some (.cells #[.int .i64 g.k,.int .u64 g.s,.int .i64 g.h,.int .u64 g.l,.int .i64 g.a,.int .i64 g.t,.int .u64 g.z,.slice p.pa g.P.length p.pc,.slice p.na g.N.length p.nc,.int .i64 g.x,.int .u64 g.y,.slice p.ea g.E.length p.ec,.slice p.ra g.R.length p.rc] 49 (0,0)):=ZZl _ w.heap.size 6 _ _ _ ha;have h1:((w1.setCell ⟨w.heap.size,6,none⟩ (.int .u64 g.z)).setCell ⟨w.heap.size,7,none⟩ (.slice pa g.P.length pc)).heap[w.heap.size]?=some (.cells #[.int .i64 g.k,.int .u64 g.s,.int .i64 g.h,.int .u64 g.l,.int .i64 g.a,.int .i64 g.t,.int .u64 g.z,.slice pa g.P.length pc,.slice p.na g.N.length p.nc,.int .i64 g.x,.int .u64 g.y,.slice p.ea g.E.length p.ec,.slice p.ra g.R.length p.rc] 49 (0,0)):=ZZl _ w.heap.size 7 _ _ _ h0;have h2:(((w1.setCell ⟨w.heap.size,6,none⟩ (.int .u64 g.z)).setCell ⟨w.heap.size,7,none⟩ (.slice pa g.P.length pc)).setCell ⟨w.heap.size,8,none⟩ (.slice na g.N.length nc)).heap[w.heap.size]?=some (.cells #[.int .i64 g.k,.int .u64 g.s,.int .i64 g.h,.int .u64 g.l,.int .i64 g.a,.int .i64 g.t,.int .u64 g.z,.slice pa g.P.length pc,.slice na g.N.length nc,.int .i64 g.x,.int .u64 g.y,.slice p.ea g.E.length p.ec,.slice p.ra g.R.length p.rc] 49 (0,0)):=ZZl _ w.heap.size 8 _ _ _ h1;have h3:((((w1.setCell ⟨w.heap.size,6,none⟩ (.int .u64 g.z)).setCell ⟨w.heap.size,7,none⟩ (.slice pa g.P.length pc)).setCell ⟨w.heap.size,8,none⟩ (.slice na g.N.length nc)).setCell ⟨w.heap.size,9,none⟩ (.int .i64 g.x)).heap[w.heap.size]?=some (.cells #[.int .i64 g.k,.int .u64 g.s,.int .i64 g.h,.int .u64 g.l,.int .i64 g.a,.int .i64 g.t,.int .u64 g.z,.slice pa g.P.length pc,.slice na g.N.length nc,.int .i64 g.x,.int .u64 g.y,.slice p.ea g.E.length p.ec,.slice p.ra g.R.length p.rc] 49 (0,0)):=ZZl _ w.heap.size 9 _ _ _ h2;have h4:(((((w1.setCell ⟨w.heap.size,6,none⟩ (.int .u64 g.z)).setCell ⟨w.heap.size,7,none⟩ (.slice pa g.P.length pc)).setCell ⟨w.heap.size,8,none⟩ (.slice na g.N.length nc)).setCell ⟨w.heap.size,9,none⟩ (.int .i64 g.x)).setCell ⟨w.heap.size,10,none⟩ (.int .u64 g.y)).heap[w.heap.size]?=some (.cells #[.int .i64 g.k,.int .u64 g.s,.int .i64 g.h,.int .u64 g.l,.int .i64 g.a,.int .i64 g.t,.int .u64 g.z,.slice pa g.P.length pc,.slice na g.N.length nc,.int .i64 g.x,.int .u64 g.y,.slice p.ea g.E.length p.ec,.slice p.ra g.R.length p.rc] 49 (0,0)):=ZZl _ w.heap.size 10 _ _ _ h3;refine ⟨Qaa ?_,Qaa h4,Qaa ?_,Qaa ?_,Qaa ⟨?_,?_⟩⟩
 ·repeat (refine Below.setCell ?_ (by simp) _)
  exact hb
 ·repeat (rw [heap_setCell_other _ _ _ _ (by simp)])
  exact hz
 ·simpa [World.setCell] using hs
 ·repeat (refine OwnB.below ?_ hB _)
  exact o1
 ·repeat (refine OwnB.below ?_ hB _)
  exact o2
theorem Qij {w:World} {g:Ag} {p:Pl} (sm:AgSm g) (pl:PlG g p) (hA:AgAt w g p) :
  Calls Tryz.prog 131 #[.agg (Qal g p)] w fun e w'=>AgRes w (fun o=>o=g) e w':=by
 have SM:=Qaa sm;have PL:=Qaa pl;have HA:=Qaa hA;clear sm pl hA;obtain ⟨HT0,HC⟩:=Qpk w g p;have hsz:=Qe9 w (.cells (Qal g p) 49) (.cells z13 49);go_enter Tryz.func131,Tryz.ntmps131;go_wp2_with fail;generalize (w.alloc (.cells (Qal g p) 49)).alloc (.cells z13 49)=W0 at HT0 HC hsz ⊢;refine (Qge rfl rfl SM.out.P SM.out.N (Qae HA.out.P HT0.out) (Qae HA.out.N HT0.out) PL.out.cP PL.out.cN).mono ?_;rintro e w1 ⟨v1,rfl,⟨vp,vn,pn,nn,rfl,o1,o2,hap⟩,hb1⟩;obtain ⟨pa,pc,rfl⟩:=o1.any;obtain ⟨na,nc,rfl⟩:=o2.any;obtain rfl:=o1.1;obtain rfl:=o2.1;have HB1:=Qaa hb1;have HR1:=Qaa (HC.out _ hb1);have HO1:=Qaa (And.intro o1 (And.intro o2 hap));have hz1:=hb1.size;clear o1 o2 hap hb1;obtain ⟨q0,q1,q2,q3,q4,q5,q6,q7,q8,q9,q10,q11,q12⟩:=Qby HR1.out.1;obtain ⟨f0,f1,f2,f3,f4,f5,f6,f7,f8,f9,f10,f11,f12⟩:=Qdr HR1.out.1;obtain ⟨z0,z1,z2,z3,z4,z5,z6,z7,z8,z9,z10,z11,z12⟩:=Qby HR1.out.2;obtain ⟨k0,k1,k2,k3,k4,k5,k6,k7,k8,k9,k10,k11,k12⟩:=Qdr HR1.out.2;go_wp2_with fail;clear q0 q1 q2 q3 q4 q5 q6 q7 q8 q9 q10 q11 q12 f0 f1 f2 f3 f4 f5 f6 f7 f8 f9 f10 f11 f12 z0 z1 z2 z3 z4 z5 z6 z7 z8 z9 z10 z11 z12 k0 k1 k2 k3 k4 k5 k6 k7 k8 k9 k10 k11 k12;obtain ⟨HB2,HRa,HRz,HZ2,HOs⟩:=Qoz (pa:=pa) (pc:=pc) (na:=na) (nc:=nc) HR1.out.1 HR1.out.2 (Qad HT0.out HB1.out) (by omega) HO1.out.1 HO1.out.2.1 (show w.heap.size<W0.heap.size by omega);generalize ((((w1.setCell ⟨w.heap.size,6,none⟩ (.int .u64 g.z)).setCell ⟨w.heap.size,7,none⟩ (.slice pa g.P.length pc)).setCell ⟨w.heap.size,8,none⟩ (.slice na g.N.length nc)).setCell ⟨w.heap.size,9,none⟩ (.int .i64 g.x)).setCell ⟨w.heap.size,10,none⟩ (.int .u64 g.y)=W2 at HB2 HRa HRz HZ2 HOs ⊢;refine (Qna rfl rfl SM.out.E SM.out.R PL.out.cE PL.out.cR (Qag HA.out.E HB2.out) (Qag HA.out.R HB2.out)).mono ?_;rintro e w3 ⟨v3,rfl,⟨ve,vr,rfl,o3,o4⟩,hb3⟩;obtain ⟨ea,ec,rfl⟩:=Qam o3;obtain ⟨ra,rc,rfl⟩:=Qam o4;have HO2:=Qaa (And.intro (QaI (B':=W0.heap.size) o3 (by have:=HZ2.out;omega)) (QaI (B':=W0.heap.size) o4 (by have:=HZ2.out;omega)));have HO3:=Qaa (And.intro (HOs.out.1.past hb3) (And.intro (HOs.out.2.past hb3) HO1.out.2.2));have HT3:=Qaa (Qad HB2.out hb3);have R3:=(hb3.block _ (ZZc.1 HRa.out).1).trans HRa.out;have R4:=(hb3.block _ (ZZc.1 HRz.out).1).trans HRz.out;clear o3 o4 hb3;obtain ⟨q0,q1,q2,q3,q4,q5,q6,q7,q8,q9,q10,q11,q12⟩:=Qby R3;obtain ⟨f0,f1,f2,f3,f4,f5,f6,f7,f8,f9,f10,f11,f12⟩:=Qdr R3;obtain ⟨z0,z1,z2,z3,z4,z5,z6,z7,z8,z9,z10,z11,z12⟩:=Qby R4;obtain ⟨k0,k1,k2,k3,k4,k5,k6,k7,k8,k9,k10,k11,k12⟩:=Qdr R4;clear R3 R4;go_wp2;refine bodyPost_ret (v:=.agg (Qal g ⟨pa,pc,na,nc,ea,ec,ra,rc⟩)) (by simp [results,Tryz.results131,go_sem,q0,q1,q2,q3,q4,q5,q6,q7,q8,q9,q10,q11,q12,z0,z1,z2,z3,z4,z5,z6,z7,z8,z9,z10,z11,z12]) rfl (AgRes.mk (o:=g) (p:=⟨pa,pc,na,nc,ea,ec,ra,rc⟩) rfl ?_ ?_)
 ·refine AgO.le (B:=W0.heap.size) ?_ (by omega)
  repeat (refine AgO.below ?_ (by omega) _)
  exact ⟨HO3.out.1,HO3.out.2.1,HO3.out.2.2,⟨rfl,HO2.out.1⟩,⟨rfl,HO2.out.2⟩⟩
 ·repeat (refine Below.setCell ?_ (by simp <;> omega) _)
  exact HT3.out
structure AgR2 (g g':Ag):Prop where
 r:agB g=true
 r':agB g'=true
 k:g.k=g'.k
theorem AgMrg.get {g g' o:Ag} (h:AgMrg g g' o) (q:AgR2 g g'):∃ E R,Mg g.E g.R g'.E g'.R E R/\o=QoD g g' E R:=by
 unfold AgMrg at h;rw [if_pos ⟨q.r,q.r',q.k⟩] at h;exact h
theorem agB_of {g:Ag} (n:AgNo g) (h2:g.k=2->QcB g=true):agB g=true:=by
 have c1:=n.k1;have c4:=n.k4;have a0:(decide (1<=g.k) && decide (g.k<=4))=true:=by rw [decide_eq_true c1,decide_eq_true c4];rfl
 have a1:((g.k == 1) || QgC g)=true:=by
  by_cases e:g.k=1
  ·rw [e];rfl
  ·obtain ⟨q1,q2⟩:=n.nc e
   unfold QgC;rw [q1,q2];simp
 have a3:((g.k == 3) || noS g)=true:=by
  by_cases e:g.k=3
  ·rw [e];rfl
  ·rw [(QbX g).2 (n.nh e)];simp
 have a4:((g.k == 4) || noH g)=true:=by
  by_cases e:g.k=4
  ·rw [e];rfl
  ·rw [(QeN g).2 (n.ns e)];simp
 have a2:(if g.k=2 then QcB g else (g.a == 0) && (g.t == 0))=true:=by
  by_cases e:g.k=2
  ·rw [if_pos e];exact h2 e
  ·rw [if_neg e]
   obtain ⟨q1,q2⟩:=n.ng e;rw [q1,q2];rfl
 unfold agB;rw [a0,n.sk,n.hl,a1,a3,a4,a2]
 rfl
theorem QfE {g:Ag} (h:agB g=true) (e:g.k=2):QcB g=true:=by
 unfold agB at h;simp only [Bool.and_eq_true] at h;have:=h.2;rw [if_pos e] at this;exact this
theorem Qqc {E R:List Int} (h:hlB E R=true):∀ b∈R,I64 b:=fun b hb=>by
 unfold hlB at h
 split at h
 ·rename_i h0
  rw [List.eq_nil_of_length_eq_zero h0] at hb
  cases hb
 ·simp only [Bool.and_eq_true,QgB,List.all_eq_true,inR,decide_eq_true_eq] at h
  have:=h.2.2 b hb;unfold I64;omega
theorem QiI {g g' o:Ag} (q:AgR2 g g') (ok:AgOk g) (ok':AgOk g') (h:AgMrg g g' o):agB o=true/\AgOk o/\o.k=g.k:=by
 obtain ⟨E,R,m,rfl⟩:=h.get q;have n:=Qa9 q.r;have n':=Qa9 q.r';have ek:=q.k;have mm:QfR g.E g.R g'.E g'.R E R:=by unfold QfR;rw [if_pos ⟨n.hl,n'.hl⟩];exact m
 have hl:=Qiw n.hl n'.hl mm;refine ⟨agB_of ⟨n.k1,n.k4,sk_mrg n.sk n'.sk ok.P ok.N ok'.P ok'.N,hl,fun e=>?_,fun e=>?_,fun e=>?_,fun e=>?_⟩ (fun e=>?_),?_,rfl⟩
 ·obtain ⟨a1,a2⟩:=n.nc e
  obtain ⟨b1,b2⟩:=n'.nc (by rw [<- ek];exact e)
  show Qbp g.h g.l g'.h g'.l=0/\Qbu g.l g'.l=0
  rw [a1,a2,b1,b2];exact ⟨QdH,QdK⟩
 ·show (if g.k=2 then gA g.a g.t g'.a g'.t else 0)=0/\(if g.k=2 then gT g.a g.t g'.a g'.t else 0)=0
  have e':¬ g.k=2:=e;rw [if_neg e',if_neg e'];exact ⟨rfl,rfl⟩
 ·obtain ⟨a1,a2,a3,a4,a5⟩:=n.nh e
  obtain ⟨b1,b2,b3,b4,b5⟩:=n'.nh (by rw [<- ek];exact e)
  show QaA g.z g'.z=0/\Qbp g.x g.y g'.x g'.y=0/\Qbu g.y g'.y=0/\QaJ (mrg g.P g'.P)=[]/\QaJ (mrg g.N g'.N)=[]
  rw [a1,a2,a3,a4,a5,b1,b2,b3,b4,b5];exact ⟨QfJ,QdH,QdK,Qew,Qew⟩
 ·obtain ⟨a1,a2⟩:=n.ns e
  obtain ⟨b1,b2⟩:=n'.ns (by rw [<- ek];exact e);rw [a1,a2,b1,b2] at m;exact m.one Qlg
 ·have e':g.k=2:=e
  have t1:=QfE q.r e';have t2:=QfE q.r' (by rw [<- ek];exact e')
  show QcB (QoD g g' E R)=true
  unfold QcB at t1 t2 ⊢
  show (QlF (if g.k=2 then gA g.a g.t g'.a g'.t else 0) && (decide (-1<=(if g.k=2 then gT g.a g.t g'.a g'.t else 0)) && decide ((if g.k=2 then gT g.a g.t g'.a g'.t else 0)<=1000000000)) && (decide (0<=(if g.k=2 then gT g.a g.t g'.a g'.t else 0)) || ((if g.k=2 then gA g.a g.t g'.a g'.t else 0) == 0)))=true
  rw [if_pos e',if_pos e'];by_cases hL:QdL g.a g.t g'.a g'.t=true
  ·rw [(Qfa hL).1,(Qfa hL).2];exact t2
  ·rw [(Qfi hL).1,(Qfi hL).2];exact t1
 ·have s1:=skB_and.1 n.sk
  have s2:=skB_and.1 n'.sk;refine ⟨ok.k,Qf8 ok.s ok'.s,Qgo _,Qd4 _,?_,?_,Qf8 ok.z ok'.z,Qgo _,Qd4 _,(QfB s1.1 s2.1 ok.P ok'.P).2,(QfB s1.2 s2.2 ok.N ok'.N).2,Qqr ok.E ok'.E mm,fun b hb=>?_⟩
  ·show I64 (if g.k=2 then gA g.a g.t g'.a g'.t else 0)
   split
   ·unfold gA;split
    ·exact ok'.a
    ·exact ok.a
   ·unfold I64;omega
  ·show I64 (if g.k=2 then gT g.a g.t g'.a g'.t else 0)
   split
   ·unfold gT;split
    ·exact ok'.t
    ·exact ok.t
   ·unfold I64;omega
  ·exact Qqc hl b hb
theorem Qp1 {x:Sx} (ox:x.Ok) (hx:x.B=true):AgOk (Qhg x):=by
 obtain ⟨p1,p2,p3,p4,p5⟩:=Qbi hx;have z:I64 0:=by unfold I64;omega
 have zu:U64 0:=by unfold U64;omega
 have u1:U64 1:=by unfold U64;omega
 have nB:∀ b∈([]:List Bn),Qbk b:=fun b hb=>by cases hb
 have nU:∀ b∈([]:List Int),U64 b:=fun b hb=>by cases hb
 have nI:∀ b∈([]:List Int),I64 b:=fun b hb=>by cases hb
 unfold Qhg
 split
 ·exact ⟨by show I64 1;unfold I64;omega,u1,Qgo _,Qd4 _,z,z,zu,z,zu,nB,nB,nU,nI⟩
 split
 ·exact ⟨by show I64 2;unfold I64;omega,u1,z,zu,ox.v,ox.ti,zu,z,zu,nB,nB,nU,nI⟩
 split
 ·have g:=Qli p2 ox.wt p3
  exact ⟨by show I64 3;unfold I64;omega,u1,z,zu,z,z,g.hz,Qgo _,Qd4 _,g.kP,g.kN,nU,nI⟩
 ·refine ⟨by show I64 4;unfold I64;omega,u1,z,zu,z,z,zu,z,zu,nB,nB,fun b hb=>?_,nI⟩
  obtain rfl:=List.mem_singleton.1 hb;have:=hx_in x.wd x.wd.size;unfold Qc5 U64;omega
theorem Qi6 {g o:Ag} {x:Sx} (ox:x.Ok) (ok:AgOk g) (h:AgPut g x o):AgOk o/\(agB g=true->agB o=true)/\o.k=g.k:=by
 unfold AgPut at h
 split at h
 ·rename_i q
  obtain ⟨r,o',k⟩:=QiI ⟨q.1,Qb4 ox q.2.1,q.2.2.trans (QgO q.2.1).symm⟩ ok (Qp1 ox q.2.1) h;exact ⟨o',fun _=>r,k⟩
 ·subst h;exact ⟨ok,id,rfl⟩
end Go.Proofs.YthchmdmncmioiaaGreatDoor
