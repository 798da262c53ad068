/-
 Parts.
-/
import Derived.Test.YtandnmpllheniaaGreatDoorCJY
import Derived.Test.YtandnmpllheniaaGreatDoorCTA
import Derived.Test.YtandnmpllheniaaGreatDoorCSF
set_option linter.all false
set_option maxHeartbeats 8000000
namespace Go.Proofs.YtandnmpllheniaaGreatDoor
open Go.ChangeShapes Go.WideShapes Go.ChangeAt Go.RowKit Go.PlainAid Go.Lib
set_option maxRecDepth 10000
theorem QmD {s:ByteArray} (h:QbS s=true):s.size<=40:=by
 unfold QbS at h;simp only [Bool.and_eq_true,decide_eq_true_eq] at h;omega
def QhV (x:Sx):Ag:=
 if x.k=1 then ⟨1,1,thH x.v x.wt,thL x.v x.wt,0,0,0,[],[],0,0,[],[]⟩
 else if x.k=2 then ⟨2,1,0,0,x.v,x.ti,0,[],[],0,0,[],[]⟩
 else if x.k=3 then ⟨3,1,0,0,0,0,(QoF x.v x.wt).z,(QoF x.v x.wt).P,(QoF x.v x.wt).N,thH x.v x.wt,thL x.v x.wt,[],[]⟩
 else ⟨4,1,0,0,0,0,0,[],[],0,0,[Qdw x.wd],[]⟩
theorem Qbo {x:Sx} (h:x.B=true):(1<=x.k/\x.k<=4)/\(-999999999999999999<=x.v/\x.v<=999999999999999999)/\x.wt≠0/\(0<=x.ti/\x.ti<=1000000000)/\x.wd.size<=40:=by
 unfold Sx.B QbA at h;simp only [Bool.and_eq_true] at h;obtain ⟨⟨⟨⟨h1,_⟩,h2⟩,h3⟩,h4⟩:=h;unfold Qhp at h1;simp only [Bool.and_eq_true,decide_eq_true_eq] at h1
 have a2:(-999999999999999999<=x.v/\x.v<=999999999999999999)/\x.wd.size<=40:=by
  unfold QcE at h2
  split at h2
  ·simp only [Bool.and_eq_true,decide_eq_true_eq] at h2
   exact ⟨by omega,QmD h2.2⟩
  ·unfold QoL at h2
   simp only [Bool.and_eq_true,decide_eq_true_eq] at h2;exact ⟨h2.1,by omega⟩
 have a3:x.wt≠0:=by
  unfold QbC at h3;simp only [Bool.and_eq_true,Bool.or_eq_true,decide_eq_true_eq] at h3;omega
 have a4:0<=x.ti/\x.ti<=1000000000:=by
  unfold Qf9 at h4
  split at h4
  ·simpa using h4
  ·simp only [decide_eq_true_eq] at h4;omega
 exact ⟨h1,a2.1,a3,a4,a2.2⟩
theorem QgU {x:Sx} (h:x.B=true):(QhV x).k=x.k:=by
 have p:=(Qbo h).1;unfold QhV
 split
 ·show (1:Int)=x.k;omega
 split
 ·show (2:Int)=x.k;omega
 split
 ·show (3:Int)=x.k;omega
 ·show (4:Int)=x.k;omega
theorem Qb4 {x:Sx} (ok:x.Ok) (h:x.B=true):agB (QhV x)=true:=by
 obtain ⟨p1,p2,p3,p4,p5⟩:=Qbo h;unfold QhV
 split
 ·simp [agB,QfD,QfC,noS,Qbc,noH]
 split
 ·have:QcR ⟨2,1,0,0,x.v,x.ti,0,[],[],0,0,[],[]⟩=true:=by
   unfold QcR Qmd;simp only [Bool.and_eq_true,Bool.or_eq_true,decide_eq_true_eq];omega
  simp [agB,QfD,QfC,noS,Qbc,noH,Qhm,this]
 split
 ·have g:=(Qld p2 ok.wt p3).sk
  simp [agB,g,QfC,noS,Qbc,noH,Qhm]
 ·have:hlB [Qdw x.wd] []=true:=(Can.hash _).right
  simp [agB,QfD,this,noS,Qbc,noH,Qhm]
def AgPut (g:Ag) (x:Sx) (o:Ag):Prop:=if agB g=true/\x.B=true/\g.k=x.k then AgMrg g (QhV x) o else o=g
theorem AgPut.one {g o o':Ag} {x:Sx} (h:AgPut g x o) (k:AgPut g x o'):o=o':=by
 unfold AgPut at h k
 split at h
 ·rw [if_pos (by assumption)] at k
  exact h.one k
 ·rw [if_neg (by assumption)] at k
  exact h.trans k.symm
theorem QmQ {g:Ag} {x:Sx} (h:¬ (agB g=true/\x.B=true/\g.k=x.k)):AgPut g x g:=by unfold AgPut;rw [if_neg h]
section
variable {g:Ag} {x:Sx} (ok:x.Ok) (hg:agB g=true) (hx:x.B=true) (e:g.k=x.k)
include ok hg hx e
theorem putC (k:g.k=1):AgPut g x ⟨1,Qar g.s 1,QaO g.h g.l (thH x.v x.wt) (thL x.v x.wt),QaS g.l (thL x.v x.wt),0,0,0,[],[],0,0,[],[]⟩:=by
 unfold AgPut;rw [if_pos ⟨hg,hx,e⟩];have:=mrgC hg (Qb4 ok hx) (e.trans (QgU hx).symm) k;have e1:QhV x=⟨1,1,thH x.v x.wt,thL x.v x.wt,0,0,0,[],[],0,0,[],[]⟩:=by unfold QhV;rw [if_pos (by omega)]
 rw [e1] at this ⊢;exact this
theorem putG (k:g.k=2):AgPut g x ⟨2,Qar g.s 1,0,0,gA g.a g.t x.v x.ti,gT g.a g.t x.v x.ti,0,[],[],0,0,[],[]⟩:=by
 unfold AgPut;rw [if_pos ⟨hg,hx,e⟩];have:=mrgG hg (Qb4 ok hx) (e.trans (QgU hx).symm) k;have e1:QhV x=⟨2,1,0,0,x.v,x.ti,0,[],[],0,0,[],[]⟩:=by unfold QhV;rw [if_neg (by omega),if_pos (by omega)]
 rw [e1] at this ⊢;exact this
theorem putHs (k:g.k=3) (go:AgOk g):AgPut g x ⟨3,Qar g.s 1,0,0,0,0,QeF g.z x.v x.wt,QcW g.P x.v x.wt,QcP g.N x.v x.wt,QaO g.x g.y (thH x.v x.wt) (thL x.v x.wt),QaS g.y (thL x.v x.wt),[],[]⟩:=by
 unfold AgPut;rw [if_pos ⟨hg,hx,e⟩];obtain ⟨p1,p2,p3,p4,p5⟩:=Qbo hx;have hm:=mrgH hg (Qb4 ok hx) (e.trans (QgU hx).symm) k;have e1:QhV x=⟨3,1,0,0,0,0,(QoF x.v x.wt).z,(QoF x.v x.wt).P,(QoF x.v x.wt).N,thH x.v x.wt,thL x.v x.wt,[],[]⟩:=by unfold QhV;rw [if_neg (by omega),if_neg (by omega),if_pos (by omega)]
 rw [e1] at hm ⊢;have q:PutIs ⟨g.z,g.P,g.N,g.x,g.y⟩ ⟨QeF g.z x.v x.wt,QcW g.P x.v x.wt,QcP g.N x.v x.wt,QaO g.x g.y (thH x.v x.wt) (thL x.v x.wt),QaS g.y (thL x.v x.wt)⟩ x.v x.wt:=⟨fun _=>rfl,fun h=>absurd ⟨(QaQ hg).sk,p2,p3⟩ h⟩;have:=q.M ⟨go.z,go.y,go.P,go.N⟩ ⟨(QaQ hg).sk,p2,p3⟩;unfold T5.M at this;simp only [T5.mk.injEq] at this;obtain ⟨q1,q2,q3,q4,q5⟩:=this;rw [q1,q2,q3];exact hm
theorem putS (k:g.k=4) {E R:List Int} (m:QoA g.E g.R (Qdw x.wd) E R):AgPut g x ⟨4,Qar g.s 1,0,0,0,0,0,[],[],0,0,E,R⟩:=by
 unfold AgPut;rw [if_pos ⟨hg,hx,e⟩];have e1:QhV x=⟨4,1,0,0,0,0,0,[],[],0,0,[Qdw x.wd],[]⟩:=by unfold QhV;rw [if_neg (by omega),if_neg (by omega),if_neg (by omega)]
 have hh:hlB [Qdw x.wd] []=true:=(Can.hash _).right
 have mm:QeP g.E g.R (QhV x).E (QhV x).R E R:=by
  rw [e1];unfold QoA at m;rw [if_pos (QaQ hg).hl] at m;unfold QeP;rw [if_pos ⟨(QaQ hg).hl,hh⟩];exact m
 have:=mrgS hg (Qb4 ok hx) (e.trans (QgU hx).symm) k mm;rw [e1] at this ⊢;exact this
end
theorem Qir (w:World) (cs:Array Value) (T:TypeId) (x:Sx):Hid (Below w.heap.size w ((w.alloc (.cells cs T)).alloc (.cells (Qaz x) 28)))/\Hid (∀ W,Below ((w.alloc (.cells cs T)).alloc (.cells (Qaz x) 28)).heap.size ((w.alloc (.cells cs T)).alloc (.cells (Qaz x) 28)) W->W.heap[w.heap.size]?=some (.cells cs T (0,0))/\W.heap[w.heap.size+1]?=some (.cells (Qaz x) 28 (0,0))):=by
 have a1:∀ (W:World) o,Below W.heap.size W (W.alloc o):=fun W o=>(ZZb _ _).alloc (ZZa _) _;have k0:=ZZk w (.cells cs T);have k1:=ZZk (w.alloc (.cells cs T)) (.cells (Qaz x) 28);simp only [World.size_alloc] at k1;exact ⟨Qaa (Qac (a1 _ _) (a1 _ _)),Qaa (fun W hW=>⟨(hW.block _ (by simp;omega)).trans (((a1 _ _).block _ (by simp)).trans k0),(hW.block _ (by simp)).trans k1⟩)⟩
theorem Qft (w:World) (o o':Obj):((w.alloc o).alloc o').heap.size=w.heap.size+1+1:=by simp
theorem c_cput (h l:Int) (x:Sx) (w:World) (ul:U64 l) (ox:x.Ok):Calls Tryz.prog 277 #[.agg #[.int .i64 h,.int .u64 l],.agg (Qaz x)] w fun e w'=>e=.returned (.iface 170 (.agg #[.int .i64 (QaO h l (thH x.v x.wt) (thL x.v x.wt)),.int .u64 (QaS l (thL x.v x.wt))]))/\Below w.heap.size w w':=by
 have UL:=Qaa ul;have OX:=Qaa ox;clear ul ox;obtain ⟨ae,HC⟩:=Qir w #[.int .i64 h,.int .u64 l] 170 x;have ah:=Qft w (.cells #[.int .i64 h,.int .u64 l] 170) (.cells (Qaz x) 28);go_enter Tryz.func277,Tryz.ntmps277;go_wp2_with fail;generalize (w.alloc (.cells #[.int .i64 h,.int .u64 l] 170)).alloc (.cells (Qaz x) 28)=W0 at ae HC ah ⊢;have ab:(fun W=>Below W0.heap.size W0 W) W0.drew:=(ZZb _ _).drew;refine Qaj (fun W=>Below W0.heap.size W0 W) 10 (by kernel_rfl) ?_;refine tkS 0 (.pointer (some ⟨w.heap.size,0,none⟩)) ab ?_;refine tkL 1 (.agg #[.int .i64 h,.int .u64 l]) ab (fun W hW=>?_) ?_
 ·have aa:=HC.out W hW
  have x0:=Qad aa.1 0 rfl;have x1:=Qad aa.1 1 rfl;obtain ⟨y0,y1,y2,y3,y4,y5,y6⟩:=cA7 aa.2;clear aa;clear hW;go_simp
 refine tkS 2 (.pointer (some ⟨w.heap.size+1,2,none⟩)) ab ?_;simp only [sX];refine tkL 3 (.int .i64 x.v) ab (fun W hW=>?_) ?_
 ·have aa:=HC.out W hW
  have x0:=Qad aa.1 0 rfl;have x1:=Qad aa.1 1 rfl;obtain ⟨y0,y1,y2,y3,y4,y5,y6⟩:=cA7 aa.2;clear aa;clear hW;go_simp
 refine tkS 4 (.pointer (some ⟨w.heap.size+1,4,none⟩)) ab ?_;refine tkL 5 (.int .u64 x.wt) ab (fun W hW=>?_) ?_
 ·have aa:=HC.out W hW
  have x0:=Qad aa.1 0 rfl;have x1:=Qad aa.1 1 rfl;obtain ⟨y0,y1,y2,y3,y4,y5,y6⟩:=cA7 aa.2;clear aa;clear hW;go_simp
 simp only [sX];refine onE 6 fun K hK=>?_;go_simp;refine (Qcm x.v x.wt OX.out.v OX.out.wt _).mono ?_;rintro e w1 ⟨rfl,af⟩;have ag:Hid (Below W0.heap.size W0 w1):=(ab:Below W0.heap.size W0 W0.drew).trans (af.mono (ZZa _));clear af;dsimp only;refine gK hK ag.out ?_
 try simp only [sX]
 refine onE 7 fun K hK=>?_;go_simp;refine (Qb1 h l (thH x.v x.wt) (thL x.v x.wt) _ UL (show U64 (thL x.v x.wt) from QeJ _)).mono ?_;rintro e w2 ⟨rfl,ad⟩;have ac:Hid (Below W0.heap.size W0 w2):=Qac ag ad;clear ad;dsimp only;refine gK hK ac.out ?_
 try simp only [sX]
 refine tkS 8 (.agg #[.int .i64 (QaO h l (thH x.v x.wt) (thL x.v x.wt)),.int .u64 (QaS l (thL x.v x.wt))]) ac ?_;refine tkS 9 (.iface 170 (.agg #[.int .i64 (QaO h l (thH x.v x.wt) (thL x.v x.wt)),.int .u64 (QaS l (thL x.v x.wt))])) ac ?_;simp only [sX];refine onE 10 fun K hK=>?_;go_simp;refine hK.out _ _ (fun h=>absurd rfl h) ?_
 try simp only [sX]
 refine dnE ?_ _;go_wp2;go_ret;exact ⟨rfl,Qac ae ac⟩
theorem c_gput (a t:Int) (x:Sx) (w:World):Calls Tryz.prog 283 #[.agg #[.int .i64 a,.int .i64 t],.agg (Qaz x)] w fun e w'=>e=.returned (.iface 172 (.agg #[.int .i64 (gA a t x.v x.ti),.int .i64 (gT a t x.v x.ti)]))/\Below w.heap.size w w':=by
 obtain ⟨aa,HC⟩:=Qir w #[.int .i64 a,.int .i64 t] 172 x;have ad:=Qft w (.cells #[.int .i64 a,.int .i64 t] 172) (.cells (Qaz x) 28);go_enter Tryz.func283,Tryz.ntmps283;go_wp2_with fail;generalize (w.alloc (.cells #[.int .i64 a,.int .i64 t] 172)).alloc (.cells (Qaz x) 28)=W0 at aa HC ad ⊢;refine (QlL a t x.v x.ti _).mono ?_;rintro e w1 ⟨rfl,ab⟩;have ac:=Qaa (Qac aa ab);clear ab;go_wp2;go_ret;exact ⟨rfl,ac⟩
theorem putP_S {P:List Bn} {v wt:Int} (h:Qc6 P):QoI P v wt=QcW P v wt:=by
 unfold QoI QcW;split
 ·exact Qh3 h (Qh6 _)
 ·rfl
theorem putN_S {P:List Bn} {v wt:Int} (h:Qc6 P):QoS P v wt=QcP P v wt:=by
 unfold QoS QcP;split
 ·exact Qh3 h (Qh6 _)
 ·rfl
theorem c_hput {w:World} {g:Ag} {p:Pl} (x:Sx) (ox:x.Ok) (hx:x.B=true) (ok:AgOk g) (sm:AgSm g) (hA:AgAt w g p) (sk:skB g.P g.N=true):Calls Tryz.prog 286 #[.agg #[.int .u64 g.z,.slice p.pa g.P.length p.pc,.slice p.na g.N.length p.nc,.int .i64 g.x,.int .u64 g.y],.agg (Qaz x)] w fun e w'=>∃ v,e=.returned (.iface 174 v)/\QeH w' w.heap.size v (QeF g.z x.v x.wt) (QcW g.P x.v x.wt) (QcP g.N x.v x.wt) (QaO g.x g.y (thH x.v x.wt) (thL x.v x.wt)) (QaS g.y (thL x.v x.wt))/\Below w.heap.size w w':=by
 have OX:=Qaa ox;have HX:=Qaa (Qbo hx);have OK:=Qaa ok;have SM:=Qaa sm;have HA:=Qaa hA;have SK:=Qaa sk;clear ox hx ok sm hA sk;obtain ⟨aa,HC⟩:=Qir w #[.int .u64 g.z,.slice p.pa g.P.length p.pc,.slice p.na g.N.length p.nc,.int .i64 g.x,.int .u64 g.y] 174 x;have ae:=Qft w (.cells #[.int .u64 g.z,.slice p.pa g.P.length p.pc,.slice p.na g.N.length p.nc,.int .i64 g.x,.int .u64 g.y] 174) (.cells (Qaz x) 28);go_enter Tryz.func286,Tryz.ntmps286;go_wp2_with fail;generalize (w.alloc (.cells #[.int .u64 g.z,.slice p.pa g.P.length p.pc,.slice p.na g.N.length p.nc,.int .i64 g.x,.int .u64 g.y] 174)).alloc (.cells (Qaz x) 28)=W0 at aa HC ae ⊢;refine (QiQ OK.out.z OK.out.y OX.out.v OX.out.wt rfl rfl SM.out.P SM.out.N (Qae HA.out.P aa) (Qae HA.out.N aa) OK.out.P OK.out.N).mono ?_;rintro e w1 ⟨v1,rfl,ad,ab⟩
 have ho:QeH w1 W0.heap.size v1 (QeF g.z x.v x.wt) (QcW g.P x.v x.wt) (QcP g.N x.v x.wt) (QaO g.x g.y (thH x.v x.wt) (thL x.v x.wt)) (QaS g.y (thL x.v x.wt)):=by
  rcases ab with ⟨ok,ho⟩ | ⟨no,_⟩
  ·rw [putP_S (QbV ok.1).1.1,putN_S (QbV ok.1).2.1] at ho
   exact ho
  ·exact absurd ⟨SK,HX.out.2.1,HX.out.2.2.1⟩ no
 obtain ⟨vp,vn,pn,nn,rfl,o1,o2,ac⟩:=ho;have HO:=Qaa (And.intro (o1.le (show w.heap.size<=W0.heap.size by omega)) (And.intro (o2.le (show w.heap.size<=W0.heap.size by omega)) ac));have af:=Qaa (Qac aa ad);clear ab o1 o2 ac ad;go_wp2;go_ret;exact ⟨_,rfl,⟨vp,vn,pn,nn,rfl,HO.out.1,HO.out.2.1,HO.out.2.2⟩,af⟩
theorem Qk0 (s:ByteArray):U64 (Qdw s):=by have:=hx_in s s.size;unfold Qdw U64;omega
structure PlG (g:Ag) (p:Pl):Prop where
 cP:p.pa=none->p.pc=0
 cN:p.na=none->p.nc=0
 cE:p.ea=none->p.ec=0
 cR:p.ra=none->p.rc=0
 fE:Qmw p.ea
 fR:Qmw p.ra
 lE:g.E.length<=p.ec
 mE:p.ec<=maxLen
theorem c_sput {w:World} {g:Ag} {p:Pl} (x:Sx) (ox:x.Ok) (hx:x.B=true) (ok:AgOk g) (sm:AgSm g) (pl:PlG g p) (hA:AgAt w g p):Calls Tryz.prog 307 #[.agg #[.slice p.ea g.E.length p.ec,.slice p.ra g.R.length p.rc],.agg (Qaz x)] w fun e w'=>∃ v E R,e=.returned (.iface 176 v)/\QoA g.E g.R (Qdw x.wd) E R/\Qhr w' w.heap.size v E R/\Below w.heap.size w w':=by
 have OX:=Qaa ox;have HX:=Qaa (Qbo hx);have OK:=Qaa ok;have SM:=Qaa sm;have PL:=Qaa pl;have HA:=Qaa hA;clear ox hx ok sm pl hA;obtain ⟨ad,HC⟩:=Qir w #[.slice p.ea g.E.length p.ec,.slice p.ra g.R.length p.rc] 176 x;have af:=Qft w (.cells #[.slice p.ea g.E.length p.ec,.slice p.ra g.R.length p.rc] 176) (.cells (Qaz x) 28);go_enter Tryz.func307,Tryz.ntmps307;go_wp2_with fail;generalize (w.alloc (.cells #[.slice p.ea g.E.length p.ec,.slice p.ra g.R.length p.rc] 176)).alloc (.cells (Qaz x) 28)=W0 at ad HC af ⊢;have ab:(fun W=>Below W0.heap.size W0 W) W0.drew:=(ZZb _ _).drew;refine Qaj (fun W=>Below W0.heap.size W0 W) 8 (by kernel_rfl) ?_;refine tkS 0 (.pointer (some ⟨w.heap.size,0,none⟩)) ab ?_;refine tkL 1 (.agg #[.slice p.ea g.E.length p.ec,.slice p.ra g.R.length p.rc]) ab (fun W hW=>?_) ?_
 ·have aa:=HC.out W hW
  have x0:=Qad aa.1 0 rfl;have x1:=Qad aa.1 1 rfl;obtain ⟨y0,y1,y2,y3,y4,y5,y6⟩:=cA7 aa.2;clear aa;clear hW;go_simp
 refine tkS 2 (.pointer (some ⟨w.heap.size+1,3,none⟩)) ab ?_;simp only [sX];refine tkL 3 (.string x.wd) ab (fun W hW=>?_) ?_
 ·have aa:=HC.out W hW
  have x0:=Qad aa.1 0 rfl;have x1:=Qad aa.1 1 rfl;obtain ⟨y0,y1,y2,y3,y4,y5,y6⟩:=cA7 aa.2;clear aa;clear hW;go_simp
 simp only [sX];refine onE 4 fun K hK=>?_;go_simp;refine (QpX x.wd OX.out.wd _).mono ?_;rintro e wz ⟨rfl,ag⟩;obtain rfl:=ag.symm;rw [Qlv (show x.wd.size<=20000 by have:=HX.out.2.2.2.2;omega)];dsimp only;refine gK hK ab ?_
 try simp only [sX]
 refine onE 5 fun K hK=>?_;go_simp;refine (Ql3 (Qdw x.wd) rfl rfl SM.out.E SM.out.R PL.out.fE PL.out.fR (Qaf HA.out.E (Qac ad ab)) (Qaf HA.out.R (Qac ad ab)) OK.out.E (Qk0 _)).mono ?_;rintro e w2 ⟨v1,E,R,rfl,hM,⟨vp,vn,rfl,o1,o2⟩,ae⟩;have HM:=Qaa hM;have HO:=Qaa (And.intro (QaE o1 (show w.heap.size<=W0.heap.size by omega)) (QaE o2 (show w.heap.size<=W0.heap.size by omega)));have ac:Hid (Below W0.heap.size W0 w2):=(ab:Below W0.heap.size W0 W0.drew).trans (ae.mono (ZZa _));clear hM o1 o2 ae;dsimp only;refine gK hK ac.out ?_
 try simp only [sX]
 refine tkS 6 (.agg #[vp,vn]) ac ?_;refine tkS 7 (.iface 176 (.agg #[vp,vn])) ac ?_;simp only [sX];refine onE 8 fun K hK=>?_;go_simp;refine hK.out _ _ (fun h=>absurd rfl h) ?_
 try simp only [sX]
 refine dnE ?_ _;go_wp2;go_ret
 first | exact ⟨_,E,R,rfl,HM,⟨vp,vn,rfl,HO.out.1,HO.out.2⟩,Qac ad ac⟩ | exact ⟨_,rfl,E,R,HM,⟨vp,vn,rfl,HO.out.1,HO.out.2⟩,Qac ad ac⟩ | exact ⟨_,rfl,⟨E,R,HM,⟨vp,vn,rfl,HO.out.1,HO.out.2⟩⟩,Qac ad ac⟩
abbrev z13:Array Value:=#[.int .i64 0,.int .u64 0,.int .i64 0,.int .u64 0,.int .i64 0,.int .i64 0,.int .u64 0,.slice none 0 0,.slice none 0 0,.int .i64 0,.int .u64 0,.slice none 0 0,.slice none 0 0]
theorem Qqb (w:World) (g:Ag) (p:Pl):Hid (Below w.heap.size w ((w.alloc (.cells (Qak g p) 49)).alloc (.cells z13 49)))/\Hid (∀ W,Below ((w.alloc (.cells (Qak g p) 49)).alloc (.cells z13 49)).heap.size ((w.alloc (.cells (Qak g p) 49)).alloc (.cells z13 49)) W->W.heap[w.heap.size]?=some (.cells (Qak g p) 49 (0,0))/\W.heap[w.heap.size+1]?=some (.cells z13 49 (0,0))):=by
 have a1:∀ (W:World) o,Below W.heap.size W (W.alloc o):=fun W o=>(ZZb _ _).alloc (ZZa _) _;have k0:=ZZk w (.cells (Qak g p) 49);have k1:=ZZk (w.alloc (.cells (Qak g p) 49)) (.cells z13 49);simp only [World.size_alloc] at k1;exact ⟨Qaa (Qac (a1 _ _) (a1 _ _)),Qaa (fun W hW=>⟨(hW.block _ (by simp;omega)).trans (((a1 _ _).block _ (by simp)).trans k0),(hW.block _ (by simp)).trans k1⟩)⟩
theorem QeR {w:World} {g:Ag} {p:Pl} (sm:AgSm g) (pl:PlG g p) (hA:AgAt w g p) :
  Calls Tryz.prog 82 #[.agg (Qak g p)] w fun e w'=>AgRes w (fun o=>o=g) e w':=by
 have SM:=Qaa sm;have PL:=Qaa pl;have HA:=Qaa hA;clear sm pl hA;obtain ⟨ac,HC⟩:=Qqb w g p;have aw:=Qft w (.cells (Qak g p) 49) (.cells z13 49);go_enter Tryz.func82,Tryz.ntmps82;go_wp2_with fail;generalize (w.alloc (.cells (Qak g p) 49)).alloc (.cells z13 49)=W0 at ac HC aw ⊢;have ad:Hid (Below W0.heap.size W0 W0.drew):=(ZZb _ _).drew;have ae:(fun W=>W.cell? ⟨w.heap.size,11,none⟩=some (.slice p.ea g.E.length p.ec)/\W.cell? ⟨w.heap.size,12,none⟩=some (.slice p.ra g.R.length p.rc)) W0.drew:=⟨QcX (HC.out _ ad).1 11 rfl,QcX (HC.out _ ad).1 12 rfl⟩;refine Qaj (fun W=>W.cell? ⟨w.heap.size,11,none⟩=some (.slice p.ea g.E.length p.ec)/\W.cell? ⟨w.heap.size,12,none⟩=some (.slice p.ra g.R.length p.rc)) 9 (by kernel_rfl) ?_;refine tkS 0 (.pointer (some ⟨w.heap.size,6,none⟩)) ae ?_;refine tkS 3 (.pointer (some ⟨w.heap.size,11,none⟩)) ae ?_;refine tkL 4 (.agg #[.slice p.ea g.E.length p.ec,.slice p.ra g.R.length p.rc]) ae (fun W hW=>?_) ?_
 ·have aA:=hW.1
  have aC:=hW.2;clear hW;go_simp
 simp only [sX];have ap:=Qaa (HC.out _ ad).1;obtain ⟨q0,q1,q2,q3,q4,q5,q6,q7,q8,q9,ak,ai,aj⟩:=Qbt ap;refine onE 1 fun K hK=>?_;go_simp;refine gK hK ae ?_
 try simp only [sX]
 clear q0 q1 q2 q3 q4 q5 q6 q7 q8 q9 ak ai aj;refine onE 2 fun K hK=>?_;go_simp;refine (Qf4 rfl rfl SM.out.P SM.out.N (Qae HA.out.P (Qac ac ad)) (Qae HA.out.N (Qac ac ad))).mono ?_;rintro e w1 ⟨v1,rfl,⟨vp,vn,pn,nn,rfl,o1,o2,al⟩,an⟩;obtain ⟨pa,pc,rfl⟩:=o1.any;obtain ⟨na,nc,rfl⟩:=o2.any;obtain rfl:=o1.1;obtain rfl:=o2.1;have aa:Hid (Below W0.heap.size W0 w1):=Qac ad an;have ab:=Qaa (And.intro (o1.le (show W0.heap.size<=W0.drew.heap.size from ZZa _)) (And.intro (o2.le (show W0.heap.size<=W0.drew.heap.size from ZZa _)) al));have ao:(fun W=>W.cell? ⟨w.heap.size,11,none⟩=some (.slice p.ea g.E.length p.ec)/\W.cell? ⟨w.heap.size,12,none⟩=some (.slice p.ra g.R.length p.rc)) w1:=⟨QcX (HC.out _ aa).1 11 rfl,QcX (HC.out _ aa).1 12 rfl⟩;clear o1 o2 al an;dsimp only;refine gK hK ao ?_
 try simp only [sX]
 refine tkS 6 (.pointer (some ⟨w.heap.size,6,none⟩)) ao ?_;simp only [sX];refine onE 5 fun K hK=>?_;go_simp;refine (QjE rfl rfl SM.out.E SM.out.R PL.out.fE PL.out.fR (Qaf HA.out.E (Qac ac aa)) (Qaf HA.out.R (Qac ac aa))).mono ?_;rintro e w2 ⟨v2,rfl,⟨ve,vr,rfl,o3,o4⟩,ah⟩;obtain ⟨ea,ec,rfl⟩:=Qam o3;obtain ⟨ra,rc,rfl⟩:=Qam o4;have ag:Hid (Below W0.heap.size W0 w2):=Qac aa ah;have am:=Qaa (And.intro (QaE o3 aa.out.size) (QaE o4 aa.out.size));have ab:=Qaa (And.intro (ab.out.1.past ah) (And.intro (ab.out.2.1.past ah) ab.out.2.2));have au:(fun W=>W.cell? ⟨w.heap.size,11,none⟩=some (.slice p.ea g.E.length p.ec)/\W.cell? ⟨w.heap.size,12,none⟩=some (.slice p.ra g.R.length p.rc)) w2:=⟨QcX (HC.out _ ag).1 11 rfl,QcX (HC.out _ ag).1 12 rfl⟩;clear o3 o4 ah;dsimp only;refine gK hK au ?_
 try simp only [sX]
 have af:=Qaa (HC.out _ ag);obtain ⟨q0,q1,q2,q3,q4,q5,q6,q7,q8,q9,ak,ai,aj⟩:=Qbt af.out.1;obtain ⟨f0,f1,f2,f3,f4,f5,f6,f7,f8,f9,aD,aB,az⟩:=QcN af.out.1;obtain ⟨z0,z1,z2,z3,z4,z5,z6,z7,z8,z9,aq,av,ar⟩:=Qbt af.out.2;obtain ⟨k0,k1,k2,k3,k4,k5,k6,k7,k8,k9,aE,ay,ax⟩:=QcN af.out.2;refine onE 7 fun K hK=>?_;go_simp;refine hK.out _ _ (fun _=>(by constructor <;> go_simp)) ?_
 try simp only [sX]
 refine QcY (i:=8) (d:=10) (v:=.pointer (some ⟨w.heap.size,11,none⟩)) rfl rfl (by kernel_rfl) (by kernel_rfl) (by kernel_rfl) (by decide) (by kernel_rfl) (fun _ _ _ h=>h) (Or.inl ⟨by rfl,fun W hW=>?_⟩) (by constructor <;> go_simp) ?_
 ·clear hW
  go_simp
 simp only [sX];refine onE 9 fun K hK=>?_;go_simp;refine hK.out _ _ (fun h=>absurd rfl h) ?_
 try simp only [sX]
 refine dnE ?_ _;go_wp2;refine bodyPost_ret (v:=.agg (Qak g ⟨pa,pc,na,nc,ea,ec,ra,rc⟩)) (by simp [results,Tryz.results82,go_sem,q0,q1,q2,q3,q4,q5,q6,q7,q8,q9,ak,ai,aj,z0,z1,z2,z3,z4,z5,z6,z7,z8,z9,aq,av,ar]) rfl (AgRes.mk (o:=g) (p:=⟨pa,pc,na,nc,ea,ec,ra,rc⟩) rfl ?_ ?_)
 ·refine AgO.le (B:=W0.heap.size) ?_ (by omega)
  repeat (refine AgO.below ?_ (by omega) _)
  exact ⟨ab.out.1,ab.out.2.1,ab.out.2.2,⟨rfl,am.out.1⟩,⟨rfl,am.out.2⟩⟩
 ·repeat (refine Below.setCell ?_ (by simp <;> omega) _)
  exact Qac ac ag
theorem Qo1 {w w1:World} {g:Ag} {p:Pl} {pa na:Option Addr} {pc nc B:Nat} (ha:w1.heap[w.heap.size]?=some (.cells (Qak g p) 49 (0,0))) (hz:w1.heap[w.heap.size+1]?=some (.cells z13 49 (0,0))) (hb:Below w.heap.size w w1) (hs:B<=w1.heap.size) (o1:OwnB w1 B (.slice pa g.P.length pc) g.P.length g.P) (o2:OwnB w1 B (.slice na g.N.length nc) g.N.length g.N) (hB:w.heap.size<B) :
  Hid (Below w.heap.size w (((((w1.setCell ⟨w.heap.size,6,none⟩ (.int .u64 g.z)).setCell ⟨w.heap.size,7,none⟩ (.slice pa g.P.length pc)).setCell ⟨w.heap.size,8,none⟩ (.slice na g.N.length nc)).setCell ⟨w.heap.size,9,none⟩ (.int .i64 g.x)).setCell ⟨w.heap.size,10,none⟩ (.int .u64 g.y)))/\Hid ((((((w1.setCell ⟨w.heap.size,6,none⟩ (.int .u64 g.z)).setCell ⟨w.heap.size,7,none⟩ (.slice pa g.P.length pc)).setCell ⟨w.heap.size,8,none⟩ (.slice na g.N.length nc)).setCell ⟨w.heap.size,9,none⟩ (.int .i64 g.x)).setCell ⟨w.heap.size,10,none⟩ (.int .u64 g.y)).heap[w.heap.size]?=some (.cells (Qak g ⟨pa,pc,na,nc,p.ea,p.ec,p.ra,p.rc⟩) 49 (0,0)))/\Hid ((((((w1.setCell ⟨w.heap.size,6,none⟩ (.int .u64 g.z)).setCell ⟨w.heap.size,7,none⟩ (.slice pa g.P.length pc)).setCell ⟨w.heap.size,8,none⟩ (.slice na g.N.length nc)).setCell ⟨w.heap.size,9,none⟩ (.int .i64 g.x)).setCell ⟨w.heap.size,10,none⟩ (.int .u64 g.y)).heap[w.heap.size+1]?=some (.cells z13 49 (0,0)))/\Hid (B<=(((((w1.setCell ⟨w.heap.size,6,none⟩ (.int .u64 g.z)).setCell ⟨w.heap.size,7,none⟩ (.slice pa g.P.length pc)).setCell ⟨w.heap.size,8,none⟩ (.slice na g.N.length nc)).setCell ⟨w.heap.size,9,none⟩ (.int .i64 g.x)).setCell ⟨w.heap.size,10,none⟩ (.int .u64 g.y)).heap.size)/\Hid (OwnB (((((w1.setCell ⟨w.heap.size,6,none⟩ (.int .u64 g.z)).setCell ⟨w.heap.size,7,none⟩ (.slice pa g.P.length pc)).setCell ⟨w.heap.size,8,none⟩ (.slice na g.N.length nc)).setCell ⟨w.heap.size,9,none⟩ (.int .i64 g.x)).setCell ⟨w.heap.size,10,none⟩ (.int .u64 g.y)) B (.slice pa g.P.length pc) g.P.length g.P/\OwnB (((((w1.setCell ⟨w.heap.size,6,none⟩ (.int .u64 g.z)).setCell ⟨w.heap.size,7,none⟩ (.slice pa g.P.length pc)).setCell ⟨w.heap.size,8,none⟩ (.slice na g.N.length nc)).setCell ⟨w.heap.size,9,none⟩ (.int .i64 g.x)).setCell ⟨w.heap.size,10,none⟩ (.int .u64 g.y)) B (.slice na g.N.length nc) g.N.length g.N):=by
 have h0:(w1.setCell ⟨w.heap.size,6,none⟩ (.int .u64 g.z)).heap[w.heap.size]?=some (.cells #[.int .i64 g.k,.int .u64 g.s,.int .i64 g.h,.int .u64 g.l,.int .i64 g.a,.int .i64 g.t,.int .u64 g.z,.slice p.pa g.P.length p.pc,.slice p.na g.N.length p.nc,.int .i64 g.x,.int .u64 g.y,.slice p.ea g.E.length p.ec,.slice p.ra g.R.length p.rc] 49 (0,0)):=ZZl _ w.heap.size 6 _ _ _ ha;have h1:((w1.setCell ⟨w.heap.size,6,none⟩ (.int .u64 g.z)).setCell ⟨w.heap.size,7,none⟩ (.slice pa g.P.length pc)).heap[w.heap.size]?=some (.cells #[.int .i64 g.k,.int .u64 g.s,.int .i64 g.h,.int .u64 g.l,.int .i64 g.a,.int .i64 g.t,.int .u64 g.z,.slice pa g.P.length pc,.slice p.na g.N.length p.nc,.int .i64 g.x,.int .u64 g.y,.slice p.ea g.E.length p.ec,.slice p.ra g.R.length p.rc] 49 (0,0)):=ZZl _ w.heap.size 7 _ _ _ h0;have h2:(((w1.setCell ⟨w.heap.size,6,none⟩ (.int .u64 g.z)).setCell ⟨w.heap.size,7,none⟩ (.slice pa g.P.length pc)).setCell ⟨w.heap.size,8,none⟩ (.slice na g.N.length nc)).heap[w.heap.size]?=some (.cells #[.int .i64 g.k,.int .u64 g.s,.int .i64 g.h,.int .u64 g.l,.int .i64 g.a,.int .i64 g.t,.int .u64 g.z,.slice pa g.P.length pc,.slice na g.N.length nc,.int .i64 g.x,.int .u64 g.y,.slice p.ea g.E.length p.ec,.slice p.ra g.R.length p.rc] 49 (0,0)):=ZZl _ w.heap.size 8 _ _ _ h1;have h3:((((w1.setCell ⟨w.heap.size,6,none⟩ (.int .u64 g.z)).setCell ⟨w.heap.size,7,none⟩ (.slice pa g.P.length pc)).setCell ⟨w.heap.size,8,none⟩ (.slice na g.N.length nc)).setCell ⟨w.heap.size,9,none⟩ (.int .i64 g.x)).heap[w.heap.size]?=some (.cells #[.int .i64 g.k,.int .u64 g.s,.int .i64 g.h,.int .u64 g.l,.int .i64 g.a,.int .i64 g.t,.int .u64 g.z,.slice pa g.P.length pc,.slice na g.N.length nc,.int .i64 g.x,.int .u64 g.y,.slice p.ea g.E.length p.ec,.slice p.ra g.R.length p.rc] 49 (0,0)):=ZZl _ w.heap.size 9 _ _ _ h2;have h4:(((((w1.setCell ⟨w.heap.size,6,none⟩ (.int .u64 g.z)).setCell ⟨w.heap.size,7,none⟩ (.slice pa g.P.length pc)).setCell ⟨w.heap.size,8,none⟩ (.slice na g.N.length nc)).setCell ⟨w.heap.size,9,none⟩ (.int .i64 g.x)).setCell ⟨w.heap.size,10,none⟩ (.int .u64 g.y)).heap[w.heap.size]?=some (.cells #[.int .i64 g.k,.int .u64 g.s,.int .i64 g.h,.int .u64 g.l,.int .i64 g.a,.int .i64 g.t,.int .u64 g.z,.slice pa g.P.length pc,.slice na g.N.length nc,.int .i64 g.x,.int .u64 g.y,.slice p.ea g.E.length p.ec,.slice p.ra g.R.length p.rc] 49 (0,0)):=ZZl _ w.heap.size 10 _ _ _ h3;refine ⟨Qaa ?_,Qaa h4,Qaa ?_,Qaa ?_,Qaa ⟨?_,?_⟩⟩
 ·repeat (refine Below.setCell ?_ (by simp) _)
  exact hb
 ·repeat (rw [heap_setCell_other _ _ _ _ (by simp)])
  exact hz
 ·simpa [World.setCell] using hs
 ·repeat (refine OwnB.below ?_ hB _)
  exact o1
 ·repeat (refine OwnB.below ?_ hB _)
  exact o2
theorem Qjw {w:World} {g:Ag} {p:Pl} (sm:AgSm g) (pl:PlG g p) (hA:AgAt w g p) :
  Calls Tryz.prog 131 #[.agg (Qak g p)] w fun e w'=>AgRes w (fun o=>o=g) e w':=by
 have SM:=Qaa sm;have PL:=Qaa pl;have HA:=Qaa hA;clear sm pl hA;obtain ⟨ad,HC⟩:=Qqb w g p;have aC:=Qft w (.cells (Qak g p) 49) (.cells z13 49);go_enter Tryz.func131,Tryz.ntmps131;go_wp2_with fail;generalize (w.alloc (.cells (Qak g p) 49)).alloc (.cells z13 49)=W0 at ad HC aC ⊢;refine (Qgw rfl rfl SM.out.P SM.out.N (Qae HA.out.P ad) (Qae HA.out.N ad) PL.out.cP PL.out.cN).mono ?_;rintro e w1 ⟨v1,rfl,⟨vp,vn,pn,nn,rfl,o1,o2,aw⟩,ae⟩;obtain ⟨pa,pc,rfl⟩:=o1.any;obtain ⟨na,nc,rfl⟩:=o2.any;obtain rfl:=o1.1;obtain rfl:=o2.1;have aB:=Qaa ae;have aa:=Qaa (HC.out _ ae);have ao:=Qaa (And.intro o1 (And.intro o2 aw));have aE:=ae.size;clear o1 o2 aw ae;obtain ⟨q0,q1,q2,q3,q4,q5,q6,q7,q8,q9,aq,ag,aj⟩:=Qbt aa.out.1;obtain ⟨f0,f1,f2,f3,f4,f5,f6,f7,f8,f9,az,ay,av⟩:=QcN aa.out.1;obtain ⟨z0,z1,z2,z3,z4,z5,z6,z7,z8,z9,ah,an,ak⟩:=Qbt aa.out.2;obtain ⟨k0,k1,k2,k3,k4,k5,k6,k7,k8,k9,aA,au,ar⟩:=QcN aa.out.2;go_wp2_with fail;clear q0 q1 q2 q3 q4 q5 q6 q7 q8 q9 aq ag aj f0 f1 f2 f3 f4 f5 f6 f7 f8 f9 az ay av z0 z1 z2 z3 z4 z5 z6 z7 z8 z9 ah an ak k0 k1 k2 k3 k4 k5 k6 k7 k8 k9 aA au ar;obtain ⟨ac,ai,ap,af,am⟩:=Qo1 (pa:=pa) (pc:=pc) (na:=na) (nc:=nc) aa.out.1 aa.out.2 (Qac ad aB) (by omega) ao.out.1 ao.out.2.1 (show w.heap.size<W0.heap.size by omega);generalize ((((w1.setCell ⟨w.heap.size,6,none⟩ (.int .u64 g.z)).setCell ⟨w.heap.size,7,none⟩ (.slice pa g.P.length pc)).setCell ⟨w.heap.size,8,none⟩ (.slice na g.N.length nc)).setCell ⟨w.heap.size,9,none⟩ (.int .i64 g.x)).setCell ⟨w.heap.size,10,none⟩ (.int .u64 g.y)=W2 at ac ai ap af am ⊢;refine (Qn7 rfl rfl SM.out.E SM.out.R PL.out.cE PL.out.cR (Qaf HA.out.E ac) (Qaf HA.out.R ac)).mono ?_;rintro e w3 ⟨v3,rfl,⟨ve,vr,rfl,o3,o4⟩,ab⟩;obtain ⟨ea,ec,rfl⟩:=Qam o3;obtain ⟨ra,rc,rfl⟩:=Qam o4;have ax:=Qaa (And.intro (QaE (B':=W0.heap.size) o3 (by have:=af.out;omega)) (QaE (B':=W0.heap.size) o4 (by have:=af.out;omega)));have al:=Qaa (And.intro (am.out.1.past ab) (And.intro (am.out.2.past ab) ao.out.2.2));have aD:=Qaa (Qac ac ab);have R3:=(ab.block _ (ZZc.1 ai).1).trans ai;have R4:=(ab.block _ (ZZc.1 ap).1).trans ap;clear o3 o4 ab;obtain ⟨q0,q1,q2,q3,q4,q5,q6,q7,q8,q9,aq,ag,aj⟩:=Qbt R3;obtain ⟨f0,f1,f2,f3,f4,f5,f6,f7,f8,f9,az,ay,av⟩:=QcN R3;obtain ⟨z0,z1,z2,z3,z4,z5,z6,z7,z8,z9,ah,an,ak⟩:=Qbt R4;obtain ⟨k0,k1,k2,k3,k4,k5,k6,k7,k8,k9,aA,au,ar⟩:=QcN R4;clear R3 R4;go_wp2;refine bodyPost_ret (v:=.agg (Qak g ⟨pa,pc,na,nc,ea,ec,ra,rc⟩)) (by simp [results,Tryz.results131,go_sem,q0,q1,q2,q3,q4,q5,q6,q7,q8,q9,aq,ag,aj,z0,z1,z2,z3,z4,z5,z6,z7,z8,z9,ah,an,ak]) rfl (AgRes.mk (o:=g) (p:=⟨pa,pc,na,nc,ea,ec,ra,rc⟩) rfl ?_ ?_)
 ·refine AgO.le (B:=W0.heap.size) ?_ (by omega)
  repeat (refine AgO.below ?_ (by omega) _)
  exact ⟨al.out.1,al.out.2.1,al.out.2.2,⟨rfl,ax.out.1⟩,⟨rfl,ax.out.2⟩⟩
 ·repeat (refine Below.setCell ?_ (by simp <;> omega) _)
  exact aD.out
theorem QrB (a t a' t':Int):gA a t a' t'=gA a' t' a t/\gT a t a' t'=gT a' t' a t:=by
 unfold gA gT Qdt;simp only [Bool.or_eq_true,Bool.and_eq_true,decide_eq_true_eq,beq_iff_eq];constructor <;> (split <;> split <;> omega)
theorem Qop (a t b u c v:Int):gA (gA a t b u) (gT a t b u) c v=gA (gA a t c v) (gT a t c v) b u/\gT (gA a t b u) (gT a t b u) c v=gT (gA a t c v) (gT a t c v) b u:=by
 unfold gA gT Qdt;simp only [Bool.or_eq_true,Bool.and_eq_true,decide_eq_true_eq,beq_iff_eq];by_cases h1:t<u∨u=t/\a<b
 ·by_cases h2:t<v∨v=t/\a<c
  ·simp only [h1,h2,if_true]
   constructor <;> (split <;> split <;> omega)
  ·simp only [h1,h2,if_true,if_false]
   constructor <;> (split <;> omega)
 ·by_cases h2:t<v∨v=t/\a<c
  ·simp only [h1,h2,if_true,if_false]
   constructor <;> (split <;> omega)
  ·simp only [h1,h2,if_false]
   exact ⟨trivial,trivial⟩
theorem Qq7 {E R F S A B C D:List Int} (h1:hlB E R=true) (h2:hlB F S=true) (p:Mg E R F S A B) (q:Mg F S E R C D):A=C/\B=D:=by
 have p':QeP E R F S A B:=by unfold QeP;rw [if_pos ⟨h1,h2⟩];exact p
 have q':QeP F S E R C D:=by unfold QeP;rw [if_pos ⟨h2,h1⟩];exact q
 exact QpK p' q'
theorem Qq0 {E R F S H T A1 B1 A2 B2 C1 D1 C2 D2:List Int} (h1:hlB E R=true) (h2:hlB F S=true) (h3:hlB H T=true) (p1:Mg E R F S A1 B1) (p2:Mg A1 B1 H T A2 B2) (q1:Mg E R H T C1 D1) (q2:Mg C1 D1 F S C2 D2):A2=C2/\B2=D2:=by
 have c1:=Can.self h1;have c2:=Can.self h2;have c3:=Can.self h3;have a:=Qhc (Qhc c1 c2 p1) c3 p2;have b:=Qhc (Qhc c1 c3 q1) c2 q2;refine a.one b ?_ (fun x=>?_) ?_
 ·constructor
  ·rintro ((h | h) | h)
   ·exact .inl (.inl h)
   ·exact .inr h
   ·exact .inl (.inr h)
  ·rintro ((h | h) | h)
   ·exact .inl (.inl h)
   ·exact .inr h
   ·exact .inl (.inr h)
 ·simp only [QbI]
  constructor
  ·rintro ((h | h) | h)
   ·exact .inl (.inl h)
   ·exact .inr h
   ·exact .inl (.inr h)
  ·rintro ((h | h) | h)
   ·exact .inl (.inl h)
   ·exact .inr h
   ·exact .inl (.inr h)
 ·rw [QlK c1.okB c2.okB c3.okB,Qj4 c2.okB c3.okB,<- QlK c1.okB c3.okB c2.okB]
structure AgR2 (g g':Ag):Prop where
 r:agB g=true
 r':agB g'=true
 k:g.k=g'.k
theorem AgMrg.get {g g' o:Ag} (h:AgMrg g g' o) (q:AgR2 g g'):∃ E R,Mg g.E g.R g'.E g'.R E R/\o=QjQ g g' E R:=by
 unfold AgMrg at h;rw [if_pos ⟨q.r,q.r',q.k⟩] at h;exact h
theorem agB_of {g:Ag} (n:AgNo g) (h2:g.k=2->QcR g=true):agB g=true:=by
 have c1:=n.k1;have c4:=n.k4;have a0:(decide (1<=g.k) && decide (g.k<=4))=true:=by rw [decide_eq_true c1,decide_eq_true c4];rfl
 have a1:((g.k == 1) || Qhm g)=true:=by
  by_cases e:g.k=1
  ·rw [e];rfl
  ·obtain ⟨q1,q2⟩:=n.nc e
   unfold Qhm;rw [q1,q2];simp
 have a3:((g.k == 3) || noS g)=true:=by
  by_cases e:g.k=3
  ·rw [e];rfl
  ·rw [(Qcf g).2 (n.nh e)];simp
 have a4:((g.k == 4) || noH g)=true:=by
  by_cases e:g.k=4
  ·rw [e];rfl
  ·rw [(QfB g).2 (n.ns e)];simp
 have a2:(if g.k=2 then QcR g else (g.a == 0) && (g.t == 0))=true:=by
  by_cases e:g.k=2
  ·rw [if_pos e];exact h2 e
  ·rw [if_neg e]
   obtain ⟨q1,q2⟩:=n.ng e;rw [q1,q2];rfl
 unfold agB;rw [a0,n.sk,n.hl,a1,a3,a4,a2]
 rfl
theorem Qgh {g:Ag} (h:agB g=true) (e:g.k=2):QcR g=true:=by
 unfold agB at h;simp only [Bool.and_eq_true] at h;have:=h.2;rw [if_pos e] at this;exact this
theorem QqJ {E R:List Int} (h:hlB E R=true):∀ b∈R,I64 b:=fun b hb=>by
 unfold hlB at h
 split at h
 ·rename_i h0
  rw [List.eq_nil_of_length_eq_zero h0] at hb
  cases hb
 ·simp only [Bool.and_eq_true,Qhj,List.all_eq_true,inR,decide_eq_true_eq] at h
  have:=h.2.2 b hb;unfold I64;omega
theorem Qc4 {g g' o:Ag} (q:AgR2 g g') (ok:AgOk g) (ok':AgOk g') (h:AgMrg g g' o):agB o=true/\AgOk o/\o.k=g.k:=by
 obtain ⟨E,R,m,rfl⟩:=h.get q;have n:=QaQ q.r;have n':=QaQ q.r';have ek:=q.k;have mm:QeP g.E g.R g'.E g'.R E R:=by unfold QeP;rw [if_pos ⟨n.hl,n'.hl⟩];exact m
 have hl:=Qjc n.hl n'.hl mm;refine ⟨agB_of ⟨n.k1,n.k4,sk_mrg n.sk n'.sk ok.P ok.N ok'.P ok'.N,hl,fun e=>?_,fun e=>?_,fun e=>?_,fun e=>?_⟩ (fun e=>?_),?_,rfl⟩
 ·obtain ⟨a1,a2⟩:=n.nc e
  obtain ⟨b1,b2⟩:=n'.nc (by rw [<- ek];exact e)
  show QaO g.h g.l g'.h g'.l=0/\QaS g.l g'.l=0
  rw [a1,a2,b1,b2];exact ⟨QdY,Qd3⟩
 ·show (if g.k=2 then gA g.a g.t g'.a g'.t else 0)=0/\(if g.k=2 then gT g.a g.t g'.a g'.t else 0)=0
  have e':¬ g.k=2:=e;rw [if_neg e',if_neg e'];exact ⟨rfl,rfl⟩
 ·obtain ⟨a1,a2,a3,a4,a5⟩:=n.nh e
  obtain ⟨b1,b2,b3,b4,b5⟩:=n'.nh (by rw [<- ek];exact e)
  show Qar g.z g'.z=0/\QaO g.x g.y g'.x g'.y=0/\QaS g.y g'.y=0/\Qan (mrg g.P g'.P)=[]/\Qan (mrg g.N g'.N)=[]
  rw [a1,a2,a3,a4,a5,b1,b2,b3,b4,b5];exact ⟨Qgn,QdY,Qd3,QeU,QeU⟩
 ·obtain ⟨a1,a2⟩:=n.ns e
  obtain ⟨b1,b2⟩:=n'.ns (by rw [<- ek];exact e);rw [a1,a2,b1,b2] at m;exact m.one QlU
 ·have e':g.k=2:=e
  have t1:=Qgh q.r e';have t2:=Qgh q.r' (by rw [<- ek];exact e')
  show QcR (QjQ g g' E R)=true
  unfold QcR at t1 t2 ⊢
  show (Qmd (if g.k=2 then gA g.a g.t g'.a g'.t else 0) && (decide (-1<=(if g.k=2 then gT g.a g.t g'.a g'.t else 0)) && decide ((if g.k=2 then gT g.a g.t g'.a g'.t else 0)<=1000000000)) && (decide (0<=(if g.k=2 then gT g.a g.t g'.a g'.t else 0)) || ((if g.k=2 then gA g.a g.t g'.a g'.t else 0) == 0)))=true
  rw [if_pos e',if_pos e'];by_cases hL:Qdt g.a g.t g'.a g'.t=true
  ·rw [(Qfx hL).1,(Qfx hL).2];exact t2
  ·rw [(Qf2 hL).1,(Qf2 hL).2];exact t1
 ·have s1:=skB_and.1 n.sk
  have s2:=skB_and.1 n'.sk;refine ⟨ok.k,QgC ok.s ok'.s,QgN _,QeJ _,?_,?_,QgC ok.z ok'.z,QgN _,QeJ _,(Qgu s1.1 s2.1 ok.P ok'.P).2,(Qgu s1.2 s2.2 ok.N ok'.N).2,Qrj ok.E ok'.E mm,fun b hb=>?_⟩
  ·show I64 (if g.k=2 then gA g.a g.t g'.a g'.t else 0)
   split
   ·unfold gA;split
    ·exact ok'.a
    ·exact ok.a
   ·unfold I64;omega
  ·show I64 (if g.k=2 then gT g.a g.t g'.a g'.t else 0)
   split
   ·unfold gT;split
    ·exact ok'.t
    ·exact ok.t
   ·unfold I64;omega
  ·exact QqJ hl b hb
theorem Qnp {g g' o o':Ag} (q:AgR2 g g') (h:AgMrg g g' o) (h':AgMrg g' g o'):o=o':=by
 obtain ⟨E,R,m,rfl⟩:=h.get q;obtain ⟨E',R',m',rfl⟩:=h'.get ⟨q.r',q.r,q.k.symm⟩;obtain ⟨rfl,rfl⟩:=Qq7 (QaQ q.r).hl (QaQ q.r').hl m m';unfold QjQ;have c1:=Qgr g.h g.l g'.h g'.l;have c2:=Qgr g.x g.y g'.x g'.y;have c3:=QrB g.a g.t g'.a g'.t;rw [q.k,QdE g.s,c1.1,c1.2,c2.1,c2.2,c3.1,c3.2,QdE g.z,Qe5 g.P,Qe5 g.N]
theorem Qoh {g a b u p v q:Ag} (ra:AgR2 g a) (rb:AgR2 g b) (og:AgOk g) (oa:AgOk a) (ob:AgOk b) (h1:AgMrg g a u) (h2:AgMrg u b p) (h3:AgMrg g b v) (h4:AgMrg v a q):p=q:=by
 obtain ⟨ru,ou,ku⟩:=Qc4 ra og oa h1;obtain ⟨rv,ov,kv⟩:=Qc4 rb og ob h3;obtain ⟨E1,R1,m1,rfl⟩:=h1.get ra;obtain ⟨E3,R3,m3,rfl⟩:=h3.get rb;obtain ⟨E2,R2,m2,rfl⟩:=h2.get ⟨ru,rb.r',ku.trans rb.k⟩;obtain ⟨E4,R4,m4,rfl⟩:=h4.get ⟨rv,ra.r',kv.trans ra.k⟩;obtain ⟨rfl,rfl⟩:=Qq0 (QaQ ra.r).hl (QaQ ra.r').hl (QaQ rb.r').hl m1 m2 m3 m4;have n:=QaQ ra.r;have na:=QaQ ra.r';have nb:=QaQ rb.r';have sw:∀ {x y z:Int},U64 x->U64 y->U64 z->Qar (Qar x y) z=Qar (Qar x z) y:=fun {x y z} hx hy hz=>by rw [Qee hx hy hz,Qee hx hz hy,QdE y z]
 have t5:=T5.swap (a:=⟨g.z,g.P,g.N,g.x,g.y⟩) (b:=⟨a.z,a.P,a.N,a.x,a.y⟩) (c:=⟨b.z,b.P,b.N,b.x,b.y⟩) ⟨⟨og.z,og.y,og.P,og.N⟩,n.sk⟩ ⟨⟨oa.z,oa.y,oa.P,oa.N⟩,na.sk⟩ ⟨⟨ob.z,ob.y,ob.P,ob.N⟩,nb.sk⟩;have s5:=T5.swap (a:=⟨g.z,g.P,g.N,g.h,g.l⟩) (b:=⟨a.z,a.P,a.N,a.h,a.l⟩) (c:=⟨b.z,b.P,b.N,b.h,b.l⟩) ⟨⟨og.z,og.l,og.P,og.N⟩,n.sk⟩ ⟨⟨oa.z,oa.l,oa.P,oa.N⟩,na.sk⟩ ⟨⟨ob.z,ob.l,ob.P,ob.N⟩,nb.sk⟩;unfold T5.M at t5 s5;simp only [T5.mk.injEq] at t5 s5;obtain ⟨t1,t2,t3,t4,t6⟩:=t5;obtain ⟨_,_,_,s4,s6⟩:=s5;simp only [QjQ,Ag.mk.injEq];refine ⟨by first | rfl | trivial,sw og.s oa.s ob.s,s4,s6,?_,?_,t1,t2,t3,t4,t6,by first | rfl | trivial,by first | rfl | trivial⟩
 ·by_cases e:g.k=2
  ·simp only [if_pos e];exact (Qop _ _ _ _ _ _).1
  ·simp only [if_neg e]
 ·by_cases e:g.k=2
  ·simp only [if_pos e];exact (Qop _ _ _ _ _ _).2
  ·simp only [if_neg e]
theorem Qn8 {x:Sx} (ox:x.Ok) (hx:x.B=true):AgOk (QhV x):=by
 obtain ⟨p1,p2,p3,p4,p5⟩:=Qbo hx;have z:I64 0:=by unfold I64;omega
 have zu:U64 0:=by unfold U64;omega
 have u1:U64 1:=by unfold U64;omega
 have nB:∀ b∈([]:List Bn),Qa8 b:=fun b hb=>by cases hb
 have nU:∀ b∈([]:List Int),U64 b:=fun b hb=>by cases hb
 have nI:∀ b∈([]:List Int),I64 b:=fun b hb=>by cases hb
 unfold QhV
 split
 ·exact ⟨by show I64 1;unfold I64;omega,u1,QgN _,QeJ _,z,z,zu,z,zu,nB,nB,nU,nI⟩
 split
 ·exact ⟨by show I64 2;unfold I64;omega,u1,z,zu,ox.v,ox.ti,zu,z,zu,nB,nB,nU,nI⟩
 split
 ·have g:=Qld p2 ox.wt p3
  exact ⟨by show I64 3;unfold I64;omega,u1,z,zu,z,z,g.hz,QgN _,QeJ _,g.kP,g.kN,nU,nI⟩
 ·refine ⟨by show I64 4;unfold I64;omega,u1,z,zu,z,z,zu,z,zu,nB,nB,fun b hb=>?_,nI⟩
  obtain rfl:=List.mem_singleton.1 hb;have:=hx_in x.wd x.wd.size;unfold Qdw U64;omega
theorem Qhg {g o:Ag} {x:Sx} (ox:x.Ok) (ok:AgOk g) (h:AgPut g x o):AgOk o/\(agB g=true->agB o=true)/\o.k=g.k:=by
 unfold AgPut at h
 split at h
 ·rename_i q
  obtain ⟨r,o',k⟩:=Qc4 ⟨q.1,Qb4 ox q.2.1,q.2.2.trans (QgU q.2.1).symm⟩ ok (Qn8 ox q.2.1) h;exact ⟨o',fun _=>r,k⟩
 ·subst h;exact ⟨ok,id,rfl⟩
theorem QpI {b o c d m e:Ag} {x:Sx} (ox:x.Ok) (r:AgR2 b o) (ob:AgOk b) (oo:AgOk o) (h1:AgPut b x c) (h2:AgMrg c o d) (h3:AgMrg b o m) (h4:AgPut m x e):d=e:=by
 have sm:=Qc4 r ob oo h3;by_cases hx:agB b=true/\x.B=true/\b.k=x.k
 ·unfold AgPut at h1
  rw [if_pos hx] at h1;unfold AgPut at h4;rw [if_pos ⟨sm.1,hx.2.1,sm.2.2.trans hx.2.2⟩] at h4;exact Qoh ⟨hx.1,Qb4 ox hx.2.1,hx.2.2.trans (QgU hx.2.1).symm⟩ r ob (Qn8 ox hx.2.1) oo h1 h2 h3 h4
 ·have e1:c=b:=by unfold AgPut at h1;rw [if_neg hx] at h1;exact h1
  subst e1
  have e2:e=m:=by
   unfold AgPut at h4;rw [if_neg (fun q=>hx ⟨r.r,q.2.1,sm.2.2.symm.trans q.2.2⟩)] at h4;exact h4
  subst e2;exact h2.one h3
end Go.Proofs.YtandnmpllheniaaGreatDoor
