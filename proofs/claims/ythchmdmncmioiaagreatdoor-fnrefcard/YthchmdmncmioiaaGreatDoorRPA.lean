/-
 A sample that is put into an Agg: an Agg of that one sample, brought together with it. The mathematics.
-/
import Derived.Test.YthchmdmncmioiaaGreatDoorRJY
import Derived.Test.YthchmdmncmioiaaGreatDoorRTA
import Derived.Test.YthchmdmncmioiaaGreatDoorRSF
namespace Go.Proofs.YthchmdmncmioiaaGreatDoor
set_option linter.unusedVariables false
set_option linter.unusedSimpArgs false
open Go.ChangeShapes Go.WideShapes Go.ChangeAt Go.RowKit Go.PlainAid Go.Lib
set_option maxRecDepth 10000
theorem tag_size40 {s:ByteArray} (h:tagB s=true):s.size≤40:=by
 unfold tagB at h;simp only [Bool.and_eq_true,decide_eq_true_eq] at h;omega
def oneA (x:Sx):Ag:=
 if x.k=1 then ⟨1,1,thH x.v x.wt,thL x.v x.wt,0,0,0,[],[],0,0,[],[]⟩
 else if x.k=2 then ⟨2,1,0,0,x.v,x.ti,0,[],[],0,0,[],[]⟩
 else if x.k=3 then ⟨3,1,0,0,0,0,(one5 x.v x.wt).z,(one5 x.v x.wt).P,(one5 x.v x.wt).N,thH x.v x.wt,thL x.v x.wt,[],[]⟩
 else ⟨4,1,0,0,0,0,0,[],[],0,0,[hashT x.wd],[]⟩
theorem smp_parts {x:Sx} (h:x.B=true):(1≤x.k∧x.k≤4)∧(-999999999999999999≤x.v∧x.v≤999999999999999999)∧x.wt≠0∧(0≤x.ti∧x.ti≤1000000000)∧x.wd.size≤40:=by
 unfold Sx.B smpB at h;simp only [Bool.and_eq_true] at h;obtain ⟨⟨⟨⟨h1,_⟩,h2⟩,h3⟩,h4⟩:=h;unfold kindB at h1;simp only [Bool.and_eq_true,decide_eq_true_eq] at h1
 have a2:(-999999999999999999≤x.v∧x.v≤999999999999999999)∧x.wd.size≤40:=by
  unfold whatB at h2
  split at h2
  ·simp only [Bool.and_eq_true,decide_eq_true_eq] at h2
   exact ⟨by omega,tag_size40 h2.2⟩
  ·unfold valB at h2
   simp only [Bool.and_eq_true,decide_eq_true_eq] at h2;exact ⟨h2.1,by omega⟩
 have a3:x.wt≠0:=by
  unfold weightB at h3;simp only [Bool.and_eq_true,Bool.or_eq_true,decide_eq_true_eq] at h3;omega
 have a4:0≤x.ti∧x.ti≤1000000000:=by
  unfold timeB at h4
  split at h4
  ·simpa using h4
  ·simp only [decide_eq_true_eq] at h4;omega
 exact ⟨h1,a2.1,a3,a4,a2.2⟩
theorem oneA_k {x:Sx} (h:x.B=true):(oneA x).k=x.k:=by
 have p:=(smp_parts h).1;unfold oneA
 split
 ·show (1:Int)=x.k;omega
 split
 ·show (2:Int)=x.k;omega
 split
 ·show (3:Int)=x.k;omega
 ·show (4:Int)=x.k;omega
theorem oneA_right {x:Sx} (ok:x.Ok) (h:x.B=true):agB (oneA x)=true:=by
 obtain ⟨p1,p2,p3,p4,p5⟩:=smp_parts h;unfold oneA
 split
 ·simp [agB,skB_nil,hlB_nil,noS,sameS,noH]
 split
 ·have:tail2 ⟨2,1,0,0,x.v,x.ti,0,[],[],0,0,[],[]⟩=true:=by
   unfold tail2 valA;simp only [Bool.and_eq_true,Bool.or_eq_true,decide_eq_true_eq];omega
  simp [agB,skB_nil,hlB_nil,noS,sameS,noH,sumZ,this]
 split
 ·have g:=(one_good p2 ok.wt p3).sk
  simp [agB,g,hlB_nil,noS,sameS,noH,sumZ]
 ·have:hlB [hashT x.wd] []=true:=(Can.hash _).right
  simp [agB,skB_nil,this,noS,sameS,noH,sumZ]
def AgPut (g:Ag) (x:Sx) (o:Ag):Prop:=if agB g=true∧x.B=true∧g.k=x.k then AgMrg g (oneA x) o else o=g
theorem AgPut.one {g o o':Ag} {x:Sx} (h:AgPut g x o) (k:AgPut g x o'):o=o':=by
 unfold AgPut at h k
 split at h
 ·rw [if_pos (by assumption)] at k
  exact h.one k
 ·rw [if_neg (by assumption)] at k
  exact h.trans k.symm
theorem put_no {g:Ag} {x:Sx} (h:¬ (agB g=true∧x.B=true∧g.k=x.k)):AgPut g x g:=by unfold AgPut;rw [if_neg h]
section
variable {g:Ag} {x:Sx} (ok:x.Ok) (hg:agB g=true) (hx:x.B=true) (e:g.k=x.k)
include ok hg hx e
theorem putC (k:g.k=1):AgPut g x ⟨1,wAdd g.s 1,addH g.h g.l (thH x.v x.wt) (thL x.v x.wt),addL g.l (thL x.v x.wt),0,0,0,[],[],0,0,[],[]⟩:=by
 unfold AgPut;rw [if_pos ⟨hg,hx,e⟩];have:=mrgC hg (oneA_right ok hx) (e.trans (oneA_k hx).symm) k;have e1:oneA x=⟨1,1,thH x.v x.wt,thL x.v x.wt,0,0,0,[],[],0,0,[],[]⟩:=by unfold oneA;rw [if_pos (by omega)]
 rw [e1] at this ⊢;exact this
theorem putG (k:g.k=2):AgPut g x ⟨2,wAdd g.s 1,0,0,gA g.a g.t x.v x.ti,gT g.a g.t x.v x.ti,0,[],[],0,0,[],[]⟩:=by
 unfold AgPut;rw [if_pos ⟨hg,hx,e⟩];have:=mrgG hg (oneA_right ok hx) (e.trans (oneA_k hx).symm) k;have e1:oneA x=⟨2,1,0,0,x.v,x.ti,0,[],[],0,0,[],[]⟩:=by unfold oneA;rw [if_neg (by omega),if_pos (by omega)]
 rw [e1] at this ⊢;exact this
theorem putHs (k:g.k=3) (go:AgOk g):AgPut g x ⟨3,wAdd g.s 1,0,0,0,0,putZ g.z x.v x.wt,putPS g.P x.v x.wt,putNS g.N x.v x.wt,addH g.x g.y (thH x.v x.wt) (thL x.v x.wt),addL g.y (thL x.v x.wt),[],[]⟩:=by
 unfold AgPut;rw [if_pos ⟨hg,hx,e⟩];obtain ⟨p1,p2,p3,p4,p5⟩:=smp_parts hx;have hm:=mrgH hg (oneA_right ok hx) (e.trans (oneA_k hx).symm) k;have e1:oneA x=⟨3,1,0,0,0,0,(one5 x.v x.wt).z,(one5 x.v x.wt).P,(one5 x.v x.wt).N,thH x.v x.wt,thL x.v x.wt,[],[]⟩:=by unfold oneA;rw [if_neg (by omega),if_neg (by omega),if_pos (by omega)]
 rw [e1] at hm ⊢;have q:PutIs ⟨g.z,g.P,g.N,g.x,g.y⟩ ⟨putZ g.z x.v x.wt,putPS g.P x.v x.wt,putNS g.N x.v x.wt,addH g.x g.y (thH x.v x.wt) (thL x.v x.wt),addL g.y (thL x.v x.wt)⟩ x.v x.wt:=⟨fun _=>rfl,fun h=>absurd ⟨(agB_no hg).sk,p2,p3⟩ h⟩;have:=q.M ⟨go.z,go.y,go.P,go.N⟩ ⟨(agB_no hg).sk,p2,p3⟩;unfold T5.M at this;simp only [T5.mk.injEq] at this;obtain ⟨q1,q2,q3,q4,q5⟩:=this;rw [q1,q2,q3];exact hm
theorem putS (k:g.k=4) {E R:List Int} (m:PutH g.E g.R (hashT x.wd) E R):AgPut g x ⟨4,wAdd g.s 1,0,0,0,0,0,[],[],0,0,E,R⟩:=by
 unfold AgPut;rw [if_pos ⟨hg,hx,e⟩];have e1:oneA x=⟨4,1,0,0,0,0,0,[],[],0,0,[hashT x.wd],[]⟩:=by unfold oneA;rw [if_neg (by omega),if_neg (by omega),if_neg (by omega)]
 have hh:hlB [hashT x.wd] []=true:=(Can.hash _).right
 have mm:MrgH g.E g.R (oneA x).E (oneA x).R E R:=by
  rw [e1];unfold PutH at m;rw [if_pos (agB_no hg).hl] at m;unfold MrgH;rw [if_pos ⟨(agB_no hg).hl,hh⟩];exact m
 have:=mrgS hg (oneA_right ok hx) (e.trans (oneA_k hx).symm) k mm;rw [e1] at this ⊢;exact this
end
theorem box_two (w:World) (cs:Array Value) (T:TypeId) (x:Sx):Hid (Below w.heap.size w ((w.alloc (.cells cs T)).alloc (.cells (sxArr x) 28)))∧Hid (∀ W,Below ((w.alloc (.cells cs T)).alloc (.cells (sxArr x) 28)).heap.size ((w.alloc (.cells cs T)).alloc (.cells (sxArr x) 28)) W→W.heap[w.heap.size]?=some (.cells cs T (0,0))∧W.heap[w.heap.size+1]?=some (.cells (sxArr x) 28 (0,0))):=by
 have a1:∀ (W:World) o,Below W.heap.size W (W.alloc o):=fun W o=>(Below.refl _ _).alloc (Nat.le_refl _) _;have k0:=heap_alloc_new w (.cells cs T);have k1:=heap_alloc_new (w.alloc (.cells cs T)) (.cells (sxArr x) 28);simp only [World.size_alloc] at k1;exact ⟨hide (chain (a1 _ _) (a1 _ _)),hide (fun W hW=>⟨(hW.block _ (by simp;omega)).trans (((a1 _ _).block _ (by simp)).trans k0),(hW.block _ (by simp)).trans k1⟩)⟩
theorem box_szs (w:World) (o o':Obj):((w.alloc o).alloc o').heap.size=w.heap.size+1+1:=by simp
set_option maxHeartbeats 2000000 in
theorem c_cput (h l:Int) (x:Sx) (w:World) (ul:U64 l) (ox:x.Ok):Calls Tryz.prog 277 #[.agg #[.int .i64 h,.int .u64 l],.agg (sxArr x)] w fun e w'=>e=.returned (.iface 170 (.agg #[.int .i64 (addH h l (thH x.v x.wt) (thL x.v x.wt)),.int .u64 (addL l (thL x.v x.wt))]))∧Below w.heap.size w w':=by
 have UL:=hide ul;have OX:=hide ox;clear ul ox;obtain ⟨HT0,HC⟩:=box_two w #[.int .i64 h,.int .u64 l] 170 x;have hsz:=box_szs w (.cells #[.int .i64 h,.int .u64 l] 170) (.cells (sxArr x) 28);go_enter Tryz.func277,Tryz.ntmps277;go_wp2_with fail;generalize (w.alloc (.cells #[.int .i64 h,.int .u64 l] 170)).alloc (.cells (sxArr x) 28)=W0 at HT0 HC hsz ⊢;have HS0:(fun W=>Below W0.heap.size W0 W) W0.drew:=(Below.refl _ _).drew;refine regionK (fun W=>Below W0.heap.size W0 W) 10 (by kernel_rfl) ?_;refine tkS (i:=0) (v:=.pointer (some ⟨w.heap.size,0,none⟩)) rfl rfl HS0 ?_;refine tkL (i:=1) (v:=.agg #[.int .i64 h,.int .u64 l]) rfl rfl HS0 (fun W hW=>?_) ?_
 ·have hWW:=HC.out W hW
  have x0:=cellK hWW.1 0 rfl;have x1:=cellK hWW.1 1 rfl;have y0:=cellK hWW.2 0 rfl;have y1:=cellK hWW.2 1 rfl;have y2:=cellK hWW.2 2 rfl;have y3:=cellK hWW.2 3 rfl;have y4:=cellK hWW.2 4 rfl;have y5:=cellK hWW.2 5 rfl;have y6:=cellK hWW.2 6 rfl;clear hWW;clear hW;go_simp
 refine tkS (i:=2) (v:=.pointer (some ⟨w.heap.size+1,2,none⟩)) rfl rfl HS0 ?_;simp only [sA,sB,sC];refine tkL (i:=3) (v:=.int .i64 x.v) rfl rfl HS0 (fun W hW=>?_) ?_
 ·have hWW:=HC.out W hW
  have x0:=cellK hWW.1 0 rfl;have x1:=cellK hWW.1 1 rfl;have y0:=cellK hWW.2 0 rfl;have y1:=cellK hWW.2 1 rfl;have y2:=cellK hWW.2 2 rfl;have y3:=cellK hWW.2 3 rfl;have y4:=cellK hWW.2 4 rfl;have y5:=cellK hWW.2 5 rfl;have y6:=cellK hWW.2 6 rfl;clear hWW;clear hW;go_simp
 refine tkS (i:=4) (v:=.pointer (some ⟨w.heap.size+1,4,none⟩)) rfl rfl HS0 ?_;refine tkL (i:=5) (v:=.int .u64 x.wt) rfl rfl HS0 (fun W hW=>?_) ?_
 ·have hWW:=HC.out W hW
  have x0:=cellK hWW.1 0 rfl;have x1:=cellK hWW.1 1 rfl;have y0:=cellK hWW.2 0 rfl;have y1:=cellK hWW.2 1 rfl;have y2:=cellK hWW.2 2 rfl;have y3:=cellK hWW.2 3 rfl;have y4:=cellK hWW.2 4 rfl;have y5:=cellK hWW.2 5 rfl;have y6:=cellK hWW.2 6 rfl;clear hWW;clear hW;go_simp
 simp only [sA,sB,sC];refine onE (i:=6) rfl (fun K hK=>?_);go_simp;refine (c_i_WideTimes x.v x.wt OX.out.v OX.out.wt _).mono ?_;rintro e w1 ⟨rfl,hb1⟩;have HB1:Hid (Below W0.heap.size W0 w1):=(HS0:Below W0.heap.size W0 W0.drew).trans (hb1.mono (Nat.le_refl _));clear hb1;dsimp only;refine hK.out _ _ (fun _=>HB1.out) ?_;clear hK K
 try simp only [Act.put,sA,sB,sC]
 refine onE (i:=7) rfl (fun K hK=>?_);go_simp;refine (c_i_WideAdd h l (thH x.v x.wt) (thL x.v x.wt) _ UL.out (show U64 (thL x.v x.wt) from uw_in _)).mono ?_;rintro e w2 ⟨rfl,hb2⟩;have HB2:Hid (Below W0.heap.size W0 w2):=chain HB1.out hb2;clear hb2;dsimp only;refine hK.out _ _ (fun _=>HB2.out) ?_;clear hK K
 try simp only [Act.put,sA,sB,sC]
 refine tkS (i:=8) (v:=.agg #[.int .i64 (addH h l (thH x.v x.wt) (thL x.v x.wt)),.int .u64 (addL l (thL x.v x.wt))]) rfl rfl HB2.out ?_;refine tkS (i:=9) (v:=.iface 170 (.agg #[.int .i64 (addH h l (thH x.v x.wt) (thL x.v x.wt)),.int .u64 (addL l (thL x.v x.wt))])) rfl rfl HB2.out ?_;simp only [sA,sB,sC];refine onE (i:=10) rfl (fun K hK=>?_);go_simp;refine hK.out _ _ (fun h=>absurd rfl h) ?_;clear hK K
 try simp only [Act.put,sA,sB,sC]
 refine doneK (by kernel_rfl) ?_ _;go_wp2;go_ret;exact ⟨rfl,chain HT0.out HB2.out⟩
set_option maxHeartbeats 2000000 in
theorem c_gput (a t:Int) (x:Sx) (w:World):Calls Tryz.prog 283 #[.agg #[.int .i64 a,.int .i64 t],.agg (sxArr x)] w fun e w'=>e=.returned (.iface 172 (.agg #[.int .i64 (gA a t x.v x.ti),.int .i64 (gT a t x.v x.ti)]))∧Below w.heap.size w w':=by
 obtain ⟨HT0,HC⟩:=box_two w #[.int .i64 a,.int .i64 t] 172 x;have hsz:=box_szs w (.cells #[.int .i64 a,.int .i64 t] 172) (.cells (sxArr x) 28);go_enter Tryz.func283,Tryz.ntmps283;go_wp2_with fail;generalize (w.alloc (.cells #[.int .i64 a,.int .i64 t] 172)).alloc (.cells (sxArr x) 28)=W0 at HT0 HC hsz ⊢;refine (c_gmerge a t x.v x.ti _).mono ?_;rintro e w1 ⟨rfl,hb1⟩;have HT1:=hide (chain HT0.out hb1);clear hb1;go_wp2;go_ret;exact ⟨rfl,HT1.out⟩
theorem putP_S {P:List Bn} {v wt:Int} (h:Rise P):putP P v wt=putPS P v wt:=by
 unfold putP putPS;split
 ·exact gat_mrg h (rise_one _)
 ·rfl
theorem putN_S {P:List Bn} {v wt:Int} (h:Rise P):putN P v wt=putNS P v wt:=by
 unfold putN putNS;split
 ·exact gat_mrg h (rise_one _)
 ·rfl
set_option maxHeartbeats 2000000 in
theorem c_hput {w:World} {g:Ag} {p:Pl} (x:Sx) (ox:x.Ok) (hx:x.B=true) (ok:AgOk g) (sm:AgSm g) (hA:AgAt w g p) (sk:skB g.P g.N=true):Calls Tryz.prog 286 #[.agg #[.int .u64 g.z,.slice p.pa g.P.length p.pc,.slice p.na g.N.length p.nc,.int .i64 g.x,.int .u64 g.y],.agg (sxArr x)] w fun e w'=>∃ v,e=.returned (.iface 174 v)∧SkOut w' w.heap.size v (putZ g.z x.v x.wt) (putPS g.P x.v x.wt) (putNS g.N x.v x.wt) (addH g.x g.y (thH x.v x.wt) (thL x.v x.wt)) (addL g.y (thL x.v x.wt))∧Below w.heap.size w w':=by
 have OX:=hide ox;have HX:=hide (smp_parts hx);have OK:=hide ok;have SM:=hide sm;have HA:=hide hA;have SK:=hide sk;clear ox hx ok sm hA sk;obtain ⟨HT0,HC⟩:=box_two w #[.int .u64 g.z,.slice p.pa g.P.length p.pc,.slice p.na g.N.length p.nc,.int .i64 g.x,.int .u64 g.y] 174 x;have hsz:=box_szs w (.cells #[.int .u64 g.z,.slice p.pa g.P.length p.pc,.slice p.na g.N.length p.nc,.int .i64 g.x,.int .u64 g.y] 174) (.cells (sxArr x) 28);go_enter Tryz.func286,Tryz.ntmps286;go_wp2_with fail;generalize (w.alloc (.cells #[.int .u64 g.z,.slice p.pa g.P.length p.pc,.slice p.na g.N.length p.nc,.int .i64 g.x,.int .u64 g.y] 174)).alloc (.cells (sxArr x) 28)=W0 at HT0 HC hsz ⊢;refine (c_i_SketchPut OK.out.z OK.out.y OX.out.v OX.out.wt rfl rfl SM.out.P SM.out.N (bins_past HA.out.P HT0.out) (bins_past HA.out.N HT0.out) OK.out.P OK.out.N).mono ?_;rintro e w1 ⟨v1,rfl,hb1,hq1⟩
 have ho:SkOut w1 W0.heap.size v1 (putZ g.z x.v x.wt) (putPS g.P x.v x.wt) (putNS g.N x.v x.wt) (addH g.x g.y (thH x.v x.wt) (thL x.v x.wt)) (addL g.y (thL x.v x.wt)):=by
  rcases hq1 with ⟨ok,ho⟩ | ⟨no,_⟩
  ·rw [putP_S (sk_rise ok.1).1.1,putN_S (sk_rise ok.1).2.1] at ho
   exact ho
  ·exact absurd ⟨SK.out,HX.out.2.1,HX.out.2.2.1⟩ no
 obtain ⟨vp,vn,pn,nn,rfl,o1,o2,hap⟩:=ho;have HO:=hide (And.intro (o1.le (show w.heap.size≤W0.heap.size by omega)) (And.intro (o2.le (show w.heap.size≤W0.heap.size by omega)) hap));have HT1:=hide (chain HT0.out hb1);clear hq1 o1 o2 hap hb1;go_wp2;go_ret;exact ⟨_,rfl,⟨vp,vn,pn,nn,rfl,HO.out.1,HO.out.2.1,HO.out.2.2⟩,HT1.out⟩
theorem hashT_in (s:ByteArray):U64 (hashT s):=by have:=hx_in s s.size;unfold hashT U64;omega
structure PlG (g:Ag) (p:Pl):Prop where
 cP:p.pa=none→p.pc=0
 cN:p.na=none→p.nc=0
 cE:p.ea=none→p.ec=0
 cR:p.ra=none→p.rc=0
 fE:Flat p.ea
 fR:Flat p.ra
 lE:g.E.length≤p.ec
 mE:p.ec≤maxLen
set_option maxHeartbeats 2000000 in
theorem c_sput {w:World} {g:Ag} {p:Pl} (x:Sx) (ox:x.Ok) (hx:x.B=true) (ok:AgOk g) (sm:AgSm g) (pl:PlG g p) (hA:AgAt w g p):Calls Tryz.prog 307 #[.agg #[.slice p.ea g.E.length p.ec,.slice p.ra g.R.length p.rc],.agg (sxArr x)] w fun e w'=>∃ v E R,e=.returned (.iface 176 v)∧PutH g.E g.R (hashT x.wd) E R∧HlOut w' w.heap.size v E R∧Below w.heap.size w w':=by
 have OX:=hide ox;have HX:=hide (smp_parts hx);have OK:=hide ok;have SM:=hide sm;have PL:=hide pl;have HA:=hide hA;clear ox hx ok sm pl hA;obtain ⟨HT0,HC⟩:=box_two w #[.slice p.ea g.E.length p.ec,.slice p.ra g.R.length p.rc] 176 x;have hsz:=box_szs w (.cells #[.slice p.ea g.E.length p.ec,.slice p.ra g.R.length p.rc] 176) (.cells (sxArr x) 28);go_enter Tryz.func307,Tryz.ntmps307;go_wp2_with fail;generalize (w.alloc (.cells #[.slice p.ea g.E.length p.ec,.slice p.ra g.R.length p.rc] 176)).alloc (.cells (sxArr x) 28)=W0 at HT0 HC hsz ⊢;have HS0:(fun W=>Below W0.heap.size W0 W) W0.drew:=(Below.refl _ _).drew;refine regionK (fun W=>Below W0.heap.size W0 W) 8 (by kernel_rfl) ?_;refine tkS (i:=0) (v:=.pointer (some ⟨w.heap.size,0,none⟩)) rfl rfl HS0 ?_;refine tkL (i:=1) (v:=.agg #[.slice p.ea g.E.length p.ec,.slice p.ra g.R.length p.rc]) rfl rfl HS0 (fun W hW=>?_) ?_
 ·have hWW:=HC.out W hW
  have x0:=cellK hWW.1 0 rfl;have x1:=cellK hWW.1 1 rfl;have y0:=cellK hWW.2 0 rfl;have y1:=cellK hWW.2 1 rfl;have y2:=cellK hWW.2 2 rfl;have y3:=cellK hWW.2 3 rfl;have y4:=cellK hWW.2 4 rfl;have y5:=cellK hWW.2 5 rfl;have y6:=cellK hWW.2 6 rfl;clear hWW;clear hW;go_simp
 refine tkS (i:=2) (v:=.pointer (some ⟨w.heap.size+1,3,none⟩)) rfl rfl HS0 ?_;simp only [sA,sB,sC];refine tkL (i:=3) (v:=.string x.wd) rfl rfl HS0 (fun W hW=>?_) ?_
 ·have hWW:=HC.out W hW
  have x0:=cellK hWW.1 0 rfl;have x1:=cellK hWW.1 1 rfl;have y0:=cellK hWW.2 0 rfl;have y1:=cellK hWW.2 1 rfl;have y2:=cellK hWW.2 2 rfl;have y3:=cellK hWW.2 3 rfl;have y4:=cellK hWW.2 4 rfl;have y5:=cellK hWW.2 5 rfl;have y6:=cellK hWW.2 6 rfl;clear hWW;clear hW;go_simp
 simp only [sA,sB,sC];refine onE (i:=4) rfl (fun K hK=>?_);go_simp;refine (c_i_Hash x.wd OX.out.wd _).mono ?_;rintro e wz ⟨rfl,hwz⟩;obtain rfl:=hwz.symm;rw [hashF_le (show x.wd.size≤20000 by have:=HX.out.2.2.2.2;omega)];dsimp only;refine hK.out _ _ (fun _=>HS0) ?_;clear hK K
 try simp only [Act.put,sA,sB,sC]
 refine onE (i:=5) rfl (fun K hK=>?_);go_simp;refine (c_i_HllPut (hashT x.wd) rfl rfl SM.out.E SM.out.R PL.out.fE PL.out.fR (nums_past HA.out.E (chain HT0.out HS0)) (nums_past HA.out.R (chain HT0.out HS0)) OK.out.E (hashT_in _)).mono ?_;rintro e w2 ⟨v1,E,R,rfl,hM,⟨vp,vn,rfl,o1,o2⟩,hb2⟩;have HM:=hide hM;have HO:=hide (And.intro (own_le o1 (show w.heap.size≤W0.heap.size by omega)) (own_le o2 (show w.heap.size≤W0.heap.size by omega)));have HB2:Hid (Below W0.heap.size W0 w2):=(HS0:Below W0.heap.size W0 W0.drew).trans (hb2.mono (Nat.le_refl _));clear hM o1 o2 hb2;dsimp only;refine hK.out _ _ (fun _=>HB2.out) ?_;clear hK K
 try simp only [Act.put,sA,sB,sC]
 refine tkS (i:=6) (v:=.agg #[vp,vn]) rfl rfl HB2.out ?_;refine tkS (i:=7) (v:=.iface 176 (.agg #[vp,vn])) rfl rfl HB2.out ?_;simp only [sA,sB,sC];refine onE (i:=8) rfl (fun K hK=>?_);go_simp;refine hK.out _ _ (fun h=>absurd rfl h) ?_;clear hK K
 try simp only [Act.put,sA,sB,sC]
 refine doneK (by kernel_rfl) ?_ _;go_wp2;go_ret
 first | exact ⟨_,E,R,rfl,HM.out,⟨vp,vn,rfl,HO.out.1,HO.out.2⟩,chain HT0.out HB2.out⟩ | exact ⟨_,rfl,E,R,HM.out,⟨vp,vn,rfl,HO.out.1,HO.out.2⟩,chain HT0.out HB2.out⟩ | exact ⟨_,rfl,⟨E,R,HM.out,⟨vp,vn,rfl,HO.out.1,HO.out.2⟩⟩,chain HT0.out HB2.out⟩
abbrev z13:Array Value:=#[.int .i64 0,.int .u64 0,.int .i64 0,.int .u64 0,.int .i64 0,.int .i64 0,.int .u64 0,.slice none 0 0,.slice none 0 0,.int .i64 0,.int .u64 0,.slice none 0 0,.slice none 0 0]
theorem box_ag (w:World) (g:Ag) (p:Pl):Hid (Below w.heap.size w ((w.alloc (.cells (agArr g p) 49)).alloc (.cells z13 49)))∧Hid (∀ W,Below ((w.alloc (.cells (agArr g p) 49)).alloc (.cells z13 49)).heap.size ((w.alloc (.cells (agArr g p) 49)).alloc (.cells z13 49)) W→W.heap[w.heap.size]?=some (.cells (agArr g p) 49 (0,0))∧W.heap[w.heap.size+1]?=some (.cells z13 49 (0,0))):=by
 have a1:∀ (W:World) o,Below W.heap.size W (W.alloc o):=fun W o=>(Below.refl _ _).alloc (Nat.le_refl _) _;have k0:=heap_alloc_new w (.cells (agArr g p) 49);have k1:=heap_alloc_new (w.alloc (.cells (agArr g p) 49)) (.cells z13 49);simp only [World.size_alloc] at k1;exact ⟨hide (chain (a1 _ _) (a1 _ _)),hide (fun W hW=>⟨(hW.block _ (by simp;omega)).trans (((a1 _ _).block _ (by simp)).trans k0),(hW.block _ (by simp)).trans k1⟩)⟩
set_option maxHeartbeats 8000000 in
theorem c_copyAgg {w:World} {g:Ag} {p:Pl} (sm:AgSm g) (pl:PlG g p) (hA:AgAt w g p) :
  Calls Tryz.prog 82 #[.agg (agArr g p)] w fun e w'=>AgRes w (fun o=>o=g) e w':=by
 have SM:=hide sm;have PL:=hide pl;have HA:=hide hA;clear sm pl hA;obtain ⟨HT0,HC⟩:=box_ag w g p;have hsz:=box_szs w (.cells (agArr g p) 49) (.cells z13 49);go_enter Tryz.func82,Tryz.ntmps82;go_wp2_with fail;generalize (w.alloc (.cells (agArr g p) 49)).alloc (.cells z13 49)=W0 at HT0 HC hsz ⊢;have HD0:Hid (Below W0.heap.size W0 W0.drew):=(Below.refl _ _).drew;have HS0:(fun W=>W.cell? ⟨w.heap.size,11,none⟩=some (.slice p.ea g.E.length p.ec)∧W.cell? ⟨w.heap.size,12,none⟩=some (.slice p.ra g.R.length p.rc)) W0.drew:=⟨cellK (HC.out _ HD0.out).1 11 rfl,cellK (HC.out _ HD0.out).1 12 rfl⟩;refine regionK (fun W=>W.cell? ⟨w.heap.size,11,none⟩=some (.slice p.ea g.E.length p.ec)∧W.cell? ⟨w.heap.size,12,none⟩=some (.slice p.ra g.R.length p.rc)) 9 (by kernel_rfl) ?_;refine tkS (i:=0) (v:=.pointer (some ⟨w.heap.size,6,none⟩)) rfl rfl HS0 ?_;refine tkS (i:=3) (v:=.pointer (some ⟨w.heap.size,11,none⟩)) rfl rfl HS0 ?_;refine tkL (i:=4) (v:=.agg #[.slice p.ea g.E.length p.ec,.slice p.ra g.R.length p.rc]) rfl rfl HS0 (fun W hW=>?_) ?_
 ·have x11:=hW.1
  have x12:=hW.2;clear hW;go_simp
 simp only [sA,sB,sC];have HR0:=hide (HC.out _ HD0.out).1;have q0:=cellK HR0.out 0 rfl;have q1:=cellK HR0.out 1 rfl;have q2:=cellK HR0.out 2 rfl;have q3:=cellK HR0.out 3 rfl;have q4:=cellK HR0.out 4 rfl;have q5:=cellK HR0.out 5 rfl;have q6:=cellK HR0.out 6 rfl;have q7:=cellK HR0.out 7 rfl;have q8:=cellK HR0.out 8 rfl;have q9:=cellK HR0.out 9 rfl;have q10:=cellK HR0.out 10 rfl;have q11:=cellK HR0.out 11 rfl;have q12:=cellK HR0.out 12 rfl;refine onE (i:=1) rfl (fun K hK=>?_);go_simp;refine hK.out _ _ (fun _=>HS0) ?_;clear hK K
 try simp only [Act.put,sA,sB,sC]
 clear q0 q1 q2 q3 q4 q5 q6 q7 q8 q9 q10 q11 q12;refine onE (i:=2) rfl (fun K hK=>?_);go_simp;refine (c_copySketch rfl rfl SM.out.P SM.out.N (bins_past HA.out.P (chain HT0.out HD0.out)) (bins_past HA.out.N (chain HT0.out HD0.out))).mono ?_;rintro e w1 ⟨v1,rfl,⟨vp,vn,pn,nn,rfl,o1,o2,hap⟩,hb1⟩;obtain ⟨pa,pc,rfl⟩:=o1.any;obtain ⟨na,nc,rfl⟩:=o2.any;obtain rfl:=o1.1;obtain rfl:=o2.1;have HB1:Hid (Below W0.heap.size W0 w1):=chain HD0.out hb1;have HO1:=hide (And.intro (o1.le (show W0.heap.size≤W0.drew.heap.size from Nat.le_refl _)) (And.intro (o2.le (show W0.heap.size≤W0.drew.heap.size from Nat.le_refl _)) hap));have HS1:(fun W=>W.cell? ⟨w.heap.size,11,none⟩=some (.slice p.ea g.E.length p.ec)∧W.cell? ⟨w.heap.size,12,none⟩=some (.slice p.ra g.R.length p.rc)) w1:=⟨cellK (HC.out _ HB1.out).1 11 rfl,cellK (HC.out _ HB1.out).1 12 rfl⟩;clear o1 o2 hap hb1;dsimp only;refine hK.out _ _ (fun _=>HS1) ?_;clear hK K
 try simp only [Act.put,sA,sB,sC]
 refine tkS (i:=6) (v:=.pointer (some ⟨w.heap.size,6,none⟩)) rfl rfl HS1 ?_;simp only [sA,sB,sC];refine onE (i:=5) rfl (fun K hK=>?_);go_simp;refine (c_copyHll rfl rfl SM.out.E SM.out.R PL.out.fE PL.out.fR (nums_past HA.out.E (chain HT0.out HB1.out)) (nums_past HA.out.R (chain HT0.out HB1.out))).mono ?_;rintro e w2 ⟨v2,rfl,⟨ve,vr,rfl,o3,o4⟩,hb2⟩;obtain ⟨ea,ec,rfl⟩:=own_any o3;obtain ⟨ra,rc,rfl⟩:=own_any o4;have HB2:Hid (Below W0.heap.size W0 w2):=chain HB1.out hb2;have HO2:=hide (And.intro (own_le o3 HB1.out.size) (own_le o4 HB1.out.size));have HO1:=hide (And.intro (HO1.out.1.past hb2) (And.intro (HO1.out.2.1.past hb2) HO1.out.2.2));have HS2:(fun W=>W.cell? ⟨w.heap.size,11,none⟩=some (.slice p.ea g.E.length p.ec)∧W.cell? ⟨w.heap.size,12,none⟩=some (.slice p.ra g.R.length p.rc)) w2:=⟨cellK (HC.out _ HB2.out).1 11 rfl,cellK (HC.out _ HB2.out).1 12 rfl⟩;clear o3 o4 hb2;dsimp only;refine hK.out _ _ (fun _=>HS2) ?_;clear hK K
 try simp only [Act.put,sA,sB,sC]
 have HR2:=hide (HC.out _ HB2.out);have q0:=cellK HR2.out.1 0 rfl;have q1:=cellK HR2.out.1 1 rfl;have q2:=cellK HR2.out.1 2 rfl;have q3:=cellK HR2.out.1 3 rfl;have q4:=cellK HR2.out.1 4 rfl;have q5:=cellK HR2.out.1 5 rfl;have q6:=cellK HR2.out.1 6 rfl;have q7:=cellK HR2.out.1 7 rfl;have q8:=cellK HR2.out.1 8 rfl;have q9:=cellK HR2.out.1 9 rfl;have q10:=cellK HR2.out.1 10 rfl;have q11:=cellK HR2.out.1 11 rfl;have q12:=cellK HR2.out.1 12 rfl;have f0:=fzR 0 HR2.out.1;have f1:=fzR 1 HR2.out.1;have f2:=fzR 2 HR2.out.1;have f3:=fzR 3 HR2.out.1;have f4:=fzR 4 HR2.out.1;have f5:=fzR 5 HR2.out.1;have f6:=fzR 6 HR2.out.1;have f7:=fzR 7 HR2.out.1;have f8:=fzR 8 HR2.out.1;have f9:=fzR 9 HR2.out.1;have f10:=fzR 10 HR2.out.1;have f11:=fzR 11 HR2.out.1;have f12:=fzR 12 HR2.out.1;have z0:=cellK HR2.out.2 0 rfl;have z1:=cellK HR2.out.2 1 rfl;have z2:=cellK HR2.out.2 2 rfl;have z3:=cellK HR2.out.2 3 rfl;have z4:=cellK HR2.out.2 4 rfl;have z5:=cellK HR2.out.2 5 rfl;have z6:=cellK HR2.out.2 6 rfl;have z7:=cellK HR2.out.2 7 rfl;have z8:=cellK HR2.out.2 8 rfl;have z9:=cellK HR2.out.2 9 rfl;have z10:=cellK HR2.out.2 10 rfl;have z11:=cellK HR2.out.2 11 rfl;have z12:=cellK HR2.out.2 12 rfl;have k0:=fzR 0 HR2.out.2;have k1:=fzR 1 HR2.out.2;have k2:=fzR 2 HR2.out.2;have k3:=fzR 3 HR2.out.2;have k4:=fzR 4 HR2.out.2;have k5:=fzR 5 HR2.out.2;have k6:=fzR 6 HR2.out.2;have k7:=fzR 7 HR2.out.2;have k8:=fzR 8 HR2.out.2;have k9:=fzR 9 HR2.out.2;have k10:=fzR 10 HR2.out.2;have k11:=fzR 11 HR2.out.2;have k12:=fzR 12 HR2.out.2;refine onE (i:=7) rfl (fun K hK=>?_);go_simp;refine hK.out _ _ (fun _=>(by constructor <;> go_simp)) ?_;clear hK K
 try simp only [Act.put,sA,sB,sC]
 refine takeK (i:=8) (d:=10) (v:=.pointer (some ⟨w.heap.size,11,none⟩)) rfl rfl (by kernel_rfl) (by kernel_rfl) (by kernel_rfl) (by decide) (by kernel_rfl) (fun _ _ _ h=>h) (Or.inl ⟨by rfl,fun W hW=>?_⟩) (by constructor <;> go_simp) ?_
 ·clear hW
  go_simp
 simp only [sA,sB,sC];refine onE (i:=9) rfl (fun K hK=>?_);go_simp;refine hK.out _ _ (fun h=>absurd rfl h) ?_;clear hK K
 try simp only [Act.put,sA,sB,sC]
 refine doneK (by kernel_rfl) ?_ _;go_wp2;refine bodyPost_ret (v:=.agg (agArr g ⟨pa,pc,na,nc,ea,ec,ra,rc⟩)) (by simp [results,Tryz.results82,go_sem,q0,q1,q2,q3,q4,q5,q6,q7,q8,q9,q10,q11,q12,z0,z1,z2,z3,z4,z5,z6,z7,z8,z9,z10,z11,z12]) rfl (AgRes.mk (o:=g) (p:=⟨pa,pc,na,nc,ea,ec,ra,rc⟩) rfl ?_ ?_)
 ·refine AgO.le (B:=W0.heap.size) ?_ (by omega)
  repeat (refine AgO.below ?_ (by omega) _)
  exact ⟨HO1.out.1,HO1.out.2.1,HO1.out.2.2,⟨rfl,HO2.out.1⟩,⟨rfl,HO2.out.2⟩⟩
 ·repeat (refine Below.setCell ?_ (by simp <;> omega) _)
  exact chain HT0.out HB2.out
theorem copy_mid {w w1:World} {g:Ag} {p:Pl} {pa na:Option Addr} {pc nc B:Nat} (ha:w1.heap[w.heap.size]?=some (.cells (agArr g p) 49 (0,0))) (hz:w1.heap[w.heap.size+1]?=some (.cells z13 49 (0,0))) (hb:Below w.heap.size w w1) (hs:B≤w1.heap.size) (o1:OwnB w1 B (.slice pa g.P.length pc) g.P.length g.P) (o2:OwnB w1 B (.slice na g.N.length nc) g.N.length g.N) (hB:w.heap.size<B) :
  Hid (Below w.heap.size w (((((w1.setCell ⟨w.heap.size,6,none⟩ (.int .u64 g.z)).setCell ⟨w.heap.size,7,none⟩ (.slice pa g.P.length pc)).setCell ⟨w.heap.size,8,none⟩ (.slice na g.N.length nc)).setCell ⟨w.heap.size,9,none⟩ (.int .i64 g.x)).setCell ⟨w.heap.size,10,none⟩ (.int .u64 g.y)))∧Hid ((((((w1.setCell ⟨w.heap.size,6,none⟩ (.int .u64 g.z)).setCell ⟨w.heap.size,7,none⟩ (.slice pa g.P.length pc)).setCell ⟨w.heap.size,8,none⟩ (.slice na g.N.length nc)).setCell ⟨w.heap.size,9,none⟩ (.int .i64 g.x)).setCell ⟨w.heap.size,10,none⟩ (.int .u64 g.y)).heap[w.heap.size]?=some (.cells (agArr g ⟨pa,pc,na,nc,p.ea,p.ec,p.ra,p.rc⟩) 49 (0,0)))∧Hid ((((((w1.setCell ⟨w.heap.size,6,none⟩ (.int .u64 g.z)).setCell ⟨w.heap.size,7,none⟩ (.slice pa g.P.length pc)).setCell ⟨w.heap.size,8,none⟩ (.slice na g.N.length nc)).setCell ⟨w.heap.size,9,none⟩ (.int .i64 g.x)).setCell ⟨w.heap.size,10,none⟩ (.int .u64 g.y)).heap[w.heap.size+1]?=some (.cells z13 49 (0,0)))∧Hid (B≤(((((w1.setCell ⟨w.heap.size,6,none⟩ (.int .u64 g.z)).setCell ⟨w.heap.size,7,none⟩ (.slice pa g.P.length pc)).setCell ⟨w.heap.size,8,none⟩ (.slice na g.N.length nc)).setCell ⟨w.heap.size,9,none⟩ (.int .i64 g.x)).setCell ⟨w.heap.size,10,none⟩ (.int .u64 g.y)).heap.size)∧Hid (OwnB (((((w1.setCell ⟨w.heap.size,6,none⟩ (.int .u64 g.z)).setCell ⟨w.heap.size,7,none⟩ (.slice pa g.P.length pc)).setCell ⟨w.heap.size,8,none⟩ (.slice na g.N.length nc)).setCell ⟨w.heap.size,9,none⟩ (.int .i64 g.x)).setCell ⟨w.heap.size,10,none⟩ (.int .u64 g.y)) B (.slice pa g.P.length pc) g.P.length g.P∧OwnB (((((w1.setCell ⟨w.heap.size,6,none⟩ (.int .u64 g.z)).setCell ⟨w.heap.size,7,none⟩ (.slice pa g.P.length pc)).setCell ⟨w.heap.size,8,none⟩ (.slice na g.N.length nc)).setCell ⟨w.heap.size,9,none⟩ (.int .i64 g.x)).setCell ⟨w.heap.size,10,none⟩ (.int .u64 g.y)) B (.slice na g.N.length nc) g.N.length g.N):=by
 have h0:(w1.setCell ⟨w.heap.size,6,none⟩ (.int .u64 g.z)).heap[w.heap.size]?=some (.cells #[.int .i64 g.k,.int .u64 g.s,.int .i64 g.h,.int .u64 g.l,.int .i64 g.a,.int .i64 g.t,.int .u64 g.z,.slice p.pa g.P.length p.pc,.slice p.na g.N.length p.nc,.int .i64 g.x,.int .u64 g.y,.slice p.ea g.E.length p.ec,.slice p.ra g.R.length p.rc] 49 (0,0)):=heap_setCell_same _ w.heap.size 6 _ _ _ ha;have h1:((w1.setCell ⟨w.heap.size,6,none⟩ (.int .u64 g.z)).setCell ⟨w.heap.size,7,none⟩ (.slice pa g.P.length pc)).heap[w.heap.size]?=some (.cells #[.int .i64 g.k,.int .u64 g.s,.int .i64 g.h,.int .u64 g.l,.int .i64 g.a,.int .i64 g.t,.int .u64 g.z,.slice pa g.P.length pc,.slice p.na g.N.length p.nc,.int .i64 g.x,.int .u64 g.y,.slice p.ea g.E.length p.ec,.slice p.ra g.R.length p.rc] 49 (0,0)):=heap_setCell_same _ w.heap.size 7 _ _ _ h0;have h2:(((w1.setCell ⟨w.heap.size,6,none⟩ (.int .u64 g.z)).setCell ⟨w.heap.size,7,none⟩ (.slice pa g.P.length pc)).setCell ⟨w.heap.size,8,none⟩ (.slice na g.N.length nc)).heap[w.heap.size]?=some (.cells #[.int .i64 g.k,.int .u64 g.s,.int .i64 g.h,.int .u64 g.l,.int .i64 g.a,.int .i64 g.t,.int .u64 g.z,.slice pa g.P.length pc,.slice na g.N.length nc,.int .i64 g.x,.int .u64 g.y,.slice p.ea g.E.length p.ec,.slice p.ra g.R.length p.rc] 49 (0,0)):=heap_setCell_same _ w.heap.size 8 _ _ _ h1;have h3:((((w1.setCell ⟨w.heap.size,6,none⟩ (.int .u64 g.z)).setCell ⟨w.heap.size,7,none⟩ (.slice pa g.P.length pc)).setCell ⟨w.heap.size,8,none⟩ (.slice na g.N.length nc)).setCell ⟨w.heap.size,9,none⟩ (.int .i64 g.x)).heap[w.heap.size]?=some (.cells #[.int .i64 g.k,.int .u64 g.s,.int .i64 g.h,.int .u64 g.l,.int .i64 g.a,.int .i64 g.t,.int .u64 g.z,.slice pa g.P.length pc,.slice na g.N.length nc,.int .i64 g.x,.int .u64 g.y,.slice p.ea g.E.length p.ec,.slice p.ra g.R.length p.rc] 49 (0,0)):=heap_setCell_same _ w.heap.size 9 _ _ _ h2;have h4:(((((w1.setCell ⟨w.heap.size,6,none⟩ (.int .u64 g.z)).setCell ⟨w.heap.size,7,none⟩ (.slice pa g.P.length pc)).setCell ⟨w.heap.size,8,none⟩ (.slice na g.N.length nc)).setCell ⟨w.heap.size,9,none⟩ (.int .i64 g.x)).setCell ⟨w.heap.size,10,none⟩ (.int .u64 g.y)).heap[w.heap.size]?=some (.cells #[.int .i64 g.k,.int .u64 g.s,.int .i64 g.h,.int .u64 g.l,.int .i64 g.a,.int .i64 g.t,.int .u64 g.z,.slice pa g.P.length pc,.slice na g.N.length nc,.int .i64 g.x,.int .u64 g.y,.slice p.ea g.E.length p.ec,.slice p.ra g.R.length p.rc] 49 (0,0)):=heap_setCell_same _ w.heap.size 10 _ _ _ h3;refine ⟨hide ?_,hide h4,hide ?_,hide ?_,hide ⟨?_,?_⟩⟩
 ·repeat (refine Below.setCell ?_ (by simp) _)
  exact hb
 ·repeat (rw [heap_setCell_other _ _ _ _ (by simp)])
  exact hz
 ·simpa [World.setCell] using hs
 ·repeat (refine OwnB.below ?_ hB _)
  exact o1
 ·repeat (refine OwnB.below ?_ hB _)
  exact o2
set_option maxHeartbeats 8000000 in
theorem c_l07Copy {w:World} {g:Ag} {p:Pl} (sm:AgSm g) (pl:PlG g p) (hA:AgAt w g p) :
  Calls Tryz.prog 131 #[.agg (agArr g p)] w fun e w'=>AgRes w (fun o=>o=g) e w':=by
 have SM:=hide sm;have PL:=hide pl;have HA:=hide hA;clear sm pl hA;obtain ⟨HT0,HC⟩:=box_ag w g p;have hsz:=box_szs w (.cells (agArr g p) 49) (.cells z13 49);go_enter Tryz.func131,Tryz.ntmps131;go_wp2_with fail;generalize (w.alloc (.cells (agArr g p) 49)).alloc (.cells z13 49)=W0 at HT0 HC hsz ⊢;refine (c_s_l03Copy rfl rfl SM.out.P SM.out.N (bins_past HA.out.P HT0.out) (bins_past HA.out.N HT0.out) PL.out.cP PL.out.cN).mono ?_;rintro e w1 ⟨v1,rfl,⟨vp,vn,pn,nn,rfl,o1,o2,hap⟩,hb1⟩;obtain ⟨pa,pc,rfl⟩:=o1.any;obtain ⟨na,nc,rfl⟩:=o2.any;obtain rfl:=o1.1;obtain rfl:=o2.1;have HB1:=hide hb1;have HR1:=hide (HC.out _ hb1);have HO1:=hide (And.intro o1 (And.intro o2 hap));have hz1:=hb1.size;clear o1 o2 hap hb1;have q0:=cellK HR1.out.1 0 rfl;have q1:=cellK HR1.out.1 1 rfl;have q2:=cellK HR1.out.1 2 rfl;have q3:=cellK HR1.out.1 3 rfl;have q4:=cellK HR1.out.1 4 rfl;have q5:=cellK HR1.out.1 5 rfl;have q6:=cellK HR1.out.1 6 rfl;have q7:=cellK HR1.out.1 7 rfl;have q8:=cellK HR1.out.1 8 rfl;have q9:=cellK HR1.out.1 9 rfl;have q10:=cellK HR1.out.1 10 rfl;have q11:=cellK HR1.out.1 11 rfl;have q12:=cellK HR1.out.1 12 rfl;have f0:=fzR 0 HR1.out.1;have f1:=fzR 1 HR1.out.1;have f2:=fzR 2 HR1.out.1;have f3:=fzR 3 HR1.out.1;have f4:=fzR 4 HR1.out.1;have f5:=fzR 5 HR1.out.1;have f6:=fzR 6 HR1.out.1;have f7:=fzR 7 HR1.out.1;have f8:=fzR 8 HR1.out.1;have f9:=fzR 9 HR1.out.1;have f10:=fzR 10 HR1.out.1;have f11:=fzR 11 HR1.out.1;have f12:=fzR 12 HR1.out.1;have z0:=cellK HR1.out.2 0 rfl;have z1:=cellK HR1.out.2 1 rfl;have z2:=cellK HR1.out.2 2 rfl;have z3:=cellK HR1.out.2 3 rfl;have z4:=cellK HR1.out.2 4 rfl;have z5:=cellK HR1.out.2 5 rfl;have z6:=cellK HR1.out.2 6 rfl;have z7:=cellK HR1.out.2 7 rfl;have z8:=cellK HR1.out.2 8 rfl;have z9:=cellK HR1.out.2 9 rfl;have z10:=cellK HR1.out.2 10 rfl;have z11:=cellK HR1.out.2 11 rfl;have z12:=cellK HR1.out.2 12 rfl;have k0:=fzR 0 HR1.out.2;have k1:=fzR 1 HR1.out.2;have k2:=fzR 2 HR1.out.2;have k3:=fzR 3 HR1.out.2;have k4:=fzR 4 HR1.out.2;have k5:=fzR 5 HR1.out.2;have k6:=fzR 6 HR1.out.2;have k7:=fzR 7 HR1.out.2;have k8:=fzR 8 HR1.out.2;have k9:=fzR 9 HR1.out.2;have k10:=fzR 10 HR1.out.2;have k11:=fzR 11 HR1.out.2;have k12:=fzR 12 HR1.out.2;go_wp2_with fail;clear q0 q1 q2 q3 q4 q5 q6 q7 q8 q9 q10 q11 q12 f0 f1 f2 f3 f4 f5 f6 f7 f8 f9 f10 f11 f12 z0 z1 z2 z3 z4 z5 z6 z7 z8 z9 z10 z11 z12 k0 k1 k2 k3 k4 k5 k6 k7 k8 k9 k10 k11 k12;obtain ⟨HB2,HRa,HRz,HZ2,HOs⟩:=copy_mid (pa:=pa) (pc:=pc) (na:=na) (nc:=nc) HR1.out.1 HR1.out.2 (chain HT0.out HB1.out) (by omega) HO1.out.1 HO1.out.2.1 (show w.heap.size<W0.heap.size by omega);generalize ((((w1.setCell ⟨w.heap.size,6,none⟩ (.int .u64 g.z)).setCell ⟨w.heap.size,7,none⟩ (.slice pa g.P.length pc)).setCell ⟨w.heap.size,8,none⟩ (.slice na g.N.length nc)).setCell ⟨w.heap.size,9,none⟩ (.int .i64 g.x)).setCell ⟨w.heap.size,10,none⟩ (.int .u64 g.y)=W2 at HB2 HRa HRz HZ2 HOs ⊢;refine (c_s_CopyH rfl rfl SM.out.E SM.out.R PL.out.cE PL.out.cR (nums_past HA.out.E HB2.out) (nums_past HA.out.R HB2.out)).mono ?_;rintro e w3 ⟨v3,rfl,⟨ve,vr,rfl,o3,o4⟩,hb3⟩;obtain ⟨ea,ec,rfl⟩:=own_any o3;obtain ⟨ra,rc,rfl⟩:=own_any o4;have HO2:=hide (And.intro (own_le (B':=W0.heap.size) o3 (by have:=HZ2.out;omega)) (own_le (B':=W0.heap.size) o4 (by have:=HZ2.out;omega)));have HO3:=hide (And.intro (HOs.out.1.past hb3) (And.intro (HOs.out.2.past hb3) HO1.out.2.2));have HT3:=hide (chain HB2.out hb3);have R3:=(hb3.block _ (Array.getElem?_eq_some_iff.1 HRa.out).1).trans HRa.out;have R4:=(hb3.block _ (Array.getElem?_eq_some_iff.1 HRz.out).1).trans HRz.out;clear o3 o4 hb3;have q0:=cellK R3 0 rfl;have q1:=cellK R3 1 rfl;have q2:=cellK R3 2 rfl;have q3:=cellK R3 3 rfl;have q4:=cellK R3 4 rfl;have q5:=cellK R3 5 rfl;have q6:=cellK R3 6 rfl;have q7:=cellK R3 7 rfl;have q8:=cellK R3 8 rfl;have q9:=cellK R3 9 rfl;have q10:=cellK R3 10 rfl;have q11:=cellK R3 11 rfl;have q12:=cellK R3 12 rfl;have f0:=fzR 0 R3;have f1:=fzR 1 R3;have f2:=fzR 2 R3;have f3:=fzR 3 R3;have f4:=fzR 4 R3;have f5:=fzR 5 R3;have f6:=fzR 6 R3;have f7:=fzR 7 R3;have f8:=fzR 8 R3;have f9:=fzR 9 R3;have f10:=fzR 10 R3;have f11:=fzR 11 R3;have f12:=fzR 12 R3;have z0:=cellK R4 0 rfl;have z1:=cellK R4 1 rfl;have z2:=cellK R4 2 rfl;have z3:=cellK R4 3 rfl;have z4:=cellK R4 4 rfl;have z5:=cellK R4 5 rfl;have z6:=cellK R4 6 rfl;have z7:=cellK R4 7 rfl;have z8:=cellK R4 8 rfl;have z9:=cellK R4 9 rfl;have z10:=cellK R4 10 rfl;have z11:=cellK R4 11 rfl;have z12:=cellK R4 12 rfl;have k0:=fzR 0 R4;have k1:=fzR 1 R4;have k2:=fzR 2 R4;have k3:=fzR 3 R4;have k4:=fzR 4 R4;have k5:=fzR 5 R4;have k6:=fzR 6 R4;have k7:=fzR 7 R4;have k8:=fzR 8 R4;have k9:=fzR 9 R4;have k10:=fzR 10 R4;have k11:=fzR 11 R4;have k12:=fzR 12 R4;clear R3 R4;go_wp2;refine bodyPost_ret (v:=.agg (agArr g ⟨pa,pc,na,nc,ea,ec,ra,rc⟩)) (by simp [results,Tryz.results131,go_sem,q0,q1,q2,q3,q4,q5,q6,q7,q8,q9,q10,q11,q12,z0,z1,z2,z3,z4,z5,z6,z7,z8,z9,z10,z11,z12]) rfl (AgRes.mk (o:=g) (p:=⟨pa,pc,na,nc,ea,ec,ra,rc⟩) rfl ?_ ?_)
 ·refine AgO.le (B:=W0.heap.size) ?_ (by omega)
  repeat (refine AgO.below ?_ (by omega) _)
  exact ⟨HO3.out.1,HO3.out.2.1,HO3.out.2.2,⟨rfl,HO2.out.1⟩,⟨rfl,HO2.out.2⟩⟩
 ·repeat (refine Below.setCell ?_ (by simp <;> omega) _)
  exact HT3.out
theorem gA_comm (a t a' t':Int):gA a t a' t'=gA a' t' a t∧gT a t a' t'=gT a' t' a t:=by
 unfold gA gT gLate;simp only [Bool.or_eq_true,Bool.and_eq_true,decide_eq_true_eq,beq_iff_eq];constructor <;> (split <;> split <;> omega)
theorem gA_swap (a t b u c v:Int):gA (gA a t b u) (gT a t b u) c v=gA (gA a t c v) (gT a t c v) b u∧gT (gA a t b u) (gT a t b u) c v=gT (gA a t c v) (gT a t c v) b u:=by
 unfold gA gT gLate;simp only [Bool.or_eq_true,Bool.and_eq_true,decide_eq_true_eq,beq_iff_eq];by_cases h1:t<u∨u=t∧a<b
 ·by_cases h2:t<v∨v=t∧a<c
  ·simp only [h1,h2,if_true]
   constructor <;> (split <;> split <;> omega)
  ·simp only [h1,h2,if_true,if_false]
   constructor <;> (split <;> omega)
 ·by_cases h2:t<v∨v=t∧a<c
  ·simp only [h1,h2,if_true,if_false]
   constructor <;> (split <;> omega)
  ·simp only [h1,h2,if_false]
   exact ⟨trivial,trivial⟩
theorem mg_comm {E R F S A B C D:List Int} (h1:hlB E R=true) (h2:hlB F S=true) (p:Mg E R F S A B) (q:Mg F S E R C D):A=C∧B=D:=by
 have p':MrgH E R F S A B:=by unfold MrgH;rw [if_pos ⟨h1,h2⟩];exact p
 have q':MrgH F S E R C D:=by unfold MrgH;rw [if_pos ⟨h2,h1⟩];exact q
 exact mrg_same p' q'
theorem mg_swap {E R F S H T A1 B1 A2 B2 C1 D1 C2 D2:List Int} (h1:hlB E R=true) (h2:hlB F S=true) (h3:hlB H T=true) (p1:Mg E R F S A1 B1) (p2:Mg A1 B1 H T A2 B2) (q1:Mg E R H T C1 D1) (q2:Mg C1 D1 F S C2 D2):A2=C2∧B2=D2:=by
 have c1:=Can.self h1;have c2:=Can.self h2;have c3:=Can.self h3;have a:=mg_can (mg_can c1 c2 p1) c3 p2;have b:=mg_can (mg_can c1 c3 q1) c2 q2;refine a.one b ?_ (fun x=>?_) ?_
 ·constructor
  ·rintro ((h | h) | h)
   ·exact .inl (.inl h)
   ·exact .inr h
   ·exact .inl (.inr h)
  ·rintro ((h | h) | h)
   ·exact .inl (.inl h)
   ·exact .inr h
   ·exact .inl (.inr h)
 ·simp only [mem_uniU]
  constructor
  ·rintro ((h | h) | h)
   ·exact .inl (.inl h)
   ·exact .inr h
   ·exact .inl (.inr h)
  ·rintro ((h | h) | h)
   ·exact .inl (.inl h)
   ·exact .inr h
   ·exact .inl (.inr h)
 ·rw [mx_assoc c1.okB c2.okB c3.okB,mx_comm c2.okB c3.okB,← mx_assoc c1.okB c3.okB c2.okB]
structure AgR2 (g g':Ag):Prop where
 r:agB g=true
 r':agB g'=true
 k:g.k=g'.k
theorem AgMrg.get {g g' o:Ag} (h:AgMrg g g' o) (q:AgR2 g g'):∃ E R,Mg g.E g.R g'.E g'.R E R∧o=agMg g g' E R:=by
 unfold AgMrg at h;rw [if_pos ⟨q.r,q.r',q.k⟩] at h;exact h
theorem agB_of {g:Ag} (n:AgNo g) (h2:g.k=2→tail2 g=true):agB g=true:=by
 have c1:=n.k1;have c4:=n.k4;have a0:(decide (1≤g.k) && decide (g.k≤4))=true:=by rw [decide_eq_true c1,decide_eq_true c4];rfl
 have a1:((g.k == 1) || sumZ g)=true:=by
  by_cases e:g.k=1
  ·rw [e];rfl
  ·obtain ⟨q1,q2⟩:=n.nc e
   unfold sumZ;rw [q1,q2];simp
 have a3:((g.k == 3) || noS g)=true:=by
  by_cases e:g.k=3
  ·rw [e];rfl
  ·rw [(noS_iff g).2 (n.nh e)];simp
 have a4:((g.k == 4) || noH g)=true:=by
  by_cases e:g.k=4
  ·rw [e];rfl
  ·rw [(noH_iff g).2 (n.ns e)];simp
 have a2:(if g.k=2 then tail2 g else (g.a == 0) && (g.t == 0))=true:=by
  by_cases e:g.k=2
  ·rw [if_pos e];exact h2 e
  ·rw [if_neg e]
   obtain ⟨q1,q2⟩:=n.ng e;rw [q1,q2];rfl
 unfold agB;rw [a0,n.sk,n.hl,a1,a3,a4,a2]
 rfl
theorem agB_tail {g:Ag} (h:agB g=true) (e:g.k=2):tail2 g=true:=by
 unfold agB at h;simp only [Bool.and_eq_true] at h;have:=h.2;rw [if_pos e] at this;exact this
theorem reg_i64 {E R:List Int} (h:hlB E R=true):∀ b∈R,I64 b:=fun b hb=>by
 unfold hlB at h
 split at h
 ·rename_i h0
  rw [List.eq_nil_of_length_eq_zero h0] at hb
  cases hb
 ·simp only [Bool.and_eq_true,regB,List.all_eq_true,inR,decide_eq_true_eq] at h
  have:=h.2.2 b hb;unfold I64;omega
theorem mrg_stays {g g' o:Ag} (q:AgR2 g g') (ok:AgOk g) (ok':AgOk g') (h:AgMrg g g' o):agB o=true∧AgOk o∧o.k=g.k:=by
 obtain ⟨E,R,m,rfl⟩:=h.get q;have n:=agB_no q.r;have n':=agB_no q.r';have ek:=q.k;have mm:MrgH g.E g.R g'.E g'.R E R:=by unfold MrgH;rw [if_pos ⟨n.hl,n'.hl⟩];exact m
 have hl:=mrg_right n.hl n'.hl mm;refine ⟨agB_of ⟨n.k1,n.k4,sk_mrg n.sk n'.sk ok.P ok.N ok'.P ok'.N,hl,fun e=>?_,fun e=>?_,fun e=>?_,fun e=>?_⟩ (fun e=>?_),?_,rfl⟩
 ·obtain ⟨a1,a2⟩:=n.nc e
  obtain ⟨b1,b2⟩:=n'.nc (by rw [← ek];exact e)
  show addH g.h g.l g'.h g'.l=0∧addL g.l g'.l=0
  rw [a1,a2,b1,b2];exact ⟨addH_nil,addL_nil⟩
 ·show (if g.k=2 then gA g.a g.t g'.a g'.t else 0)=0∧(if g.k=2 then gT g.a g.t g'.a g'.t else 0)=0
  have e':¬ g.k=2:=e;rw [if_neg e',if_neg e'];exact ⟨rfl,rfl⟩
 ·obtain ⟨a1,a2,a3,a4,a5⟩:=n.nh e
  obtain ⟨b1,b2,b3,b4,b5⟩:=n'.nh (by rw [← ek];exact e)
  show wAdd g.z g'.z=0∧addH g.x g.y g'.x g'.y=0∧addL g.y g'.y=0∧keepL (mrg g.P g'.P)=[]∧keepL (mrg g.N g'.N)=[]
  rw [a1,a2,a3,a4,a5,b1,b2,b3,b4,b5];exact ⟨wAdd_nil,addH_nil,addL_nil,keep_nil,keep_nil⟩
 ·obtain ⟨a1,a2⟩:=n.ns e
  obtain ⟨b1,b2⟩:=n'.ns (by rw [← ek];exact e);rw [a1,a2,b1,b2] at m;exact m.one mg_nil
 ·have e':g.k=2:=e
  have t1:=agB_tail q.r e';have t2:=agB_tail q.r' (by rw [← ek];exact e')
  show tail2 (agMg g g' E R)=true
  unfold tail2 at t1 t2 ⊢
  show (valA (if g.k=2 then gA g.a g.t g'.a g'.t else 0) && (decide (-1≤(if g.k=2 then gT g.a g.t g'.a g'.t else 0)) && decide ((if g.k=2 then gT g.a g.t g'.a g'.t else 0)≤1000000000)) && (decide (0≤(if g.k=2 then gT g.a g.t g'.a g'.t else 0)) || ((if g.k=2 then gA g.a g.t g'.a g'.t else 0) == 0)))=true
  rw [if_pos e',if_pos e'];by_cases hL:gLate g.a g.t g'.a g'.t=true
  ·rw [(gA_late hL).1,(gA_late hL).2];exact t2
  ·rw [(gA_not hL).1,(gA_not hL).2];exact t1
 ·have s1:=skB_and.1 n.sk
  have s2:=skB_and.1 n'.sk;refine ⟨ok.k,wAdd_ok ok.s ok'.s,w64_in _,uw_in _,?_,?_,wAdd_ok ok.z ok'.z,w64_in _,uw_in _,(bins_mrg s1.1 s2.1 ok.P ok'.P).2,(bins_mrg s1.2 s2.2 ok.N ok'.N).2,mrg_u64 ok.E ok'.E mm,fun b hb=>?_⟩
  ·show I64 (if g.k=2 then gA g.a g.t g'.a g'.t else 0)
   split
   ·unfold gA;split
    ·exact ok'.a
    ·exact ok.a
   ·unfold I64;omega
  ·show I64 (if g.k=2 then gT g.a g.t g'.a g'.t else 0)
   split
   ·unfold gT;split
    ·exact ok'.t
    ·exact ok.t
   ·unfold I64;omega
  ·exact reg_i64 hl b hb
theorem mrg_commA {g g' o o':Ag} (q:AgR2 g g') (h:AgMrg g g' o) (h':AgMrg g' g o'):o=o':=by
 obtain ⟨E,R,m,rfl⟩:=h.get q;obtain ⟨E',R',m',rfl⟩:=h'.get ⟨q.r',q.r,q.k.symm⟩;obtain ⟨rfl,rfl⟩:=mg_comm (agB_no q.r).hl (agB_no q.r').hl m m';unfold agMg;have c1:=sum_comm g.h g.l g'.h g'.l;have c2:=sum_comm g.x g.y g'.x g'.y;have c3:=gA_comm g.a g.t g'.a g'.t;rw [q.k,wAdd_comm g.s,c1.1,c1.2,c2.1,c2.2,c3.1,c3.2,wAdd_comm g.z,keep_comm g.P,keep_comm g.N]
theorem mrg_swapA {g a b u p v q:Ag} (ra:AgR2 g a) (rb:AgR2 g b) (og:AgOk g) (oa:AgOk a) (ob:AgOk b) (h1:AgMrg g a u) (h2:AgMrg u b p) (h3:AgMrg g b v) (h4:AgMrg v a q):p=q:=by
 obtain ⟨ru,ou,ku⟩:=mrg_stays ra og oa h1;obtain ⟨rv,ov,kv⟩:=mrg_stays rb og ob h3;obtain ⟨E1,R1,m1,rfl⟩:=h1.get ra;obtain ⟨E3,R3,m3,rfl⟩:=h3.get rb;obtain ⟨E2,R2,m2,rfl⟩:=h2.get ⟨ru,rb.r',ku.trans rb.k⟩;obtain ⟨E4,R4,m4,rfl⟩:=h4.get ⟨rv,ra.r',kv.trans ra.k⟩;obtain ⟨rfl,rfl⟩:=mg_swap (agB_no ra.r).hl (agB_no ra.r').hl (agB_no rb.r').hl m1 m2 m3 m4;have n:=agB_no ra.r;have na:=agB_no ra.r';have nb:=agB_no rb.r';have sw:∀ {x y z:Int},U64 x→U64 y→U64 z→wAdd (wAdd x y) z=wAdd (wAdd x z) y:=fun {x y z} hx hy hz=>by rw [wAdd_assoc hx hy hz,wAdd_assoc hx hz hy,wAdd_comm y z]
 have t5:=T5.swap (a:=⟨g.z,g.P,g.N,g.x,g.y⟩) (b:=⟨a.z,a.P,a.N,a.x,a.y⟩) (c:=⟨b.z,b.P,b.N,b.x,b.y⟩) ⟨⟨og.z,og.y,og.P,og.N⟩,n.sk⟩ ⟨⟨oa.z,oa.y,oa.P,oa.N⟩,na.sk⟩ ⟨⟨ob.z,ob.y,ob.P,ob.N⟩,nb.sk⟩;have s5:=T5.swap (a:=⟨g.z,g.P,g.N,g.h,g.l⟩) (b:=⟨a.z,a.P,a.N,a.h,a.l⟩) (c:=⟨b.z,b.P,b.N,b.h,b.l⟩) ⟨⟨og.z,og.l,og.P,og.N⟩,n.sk⟩ ⟨⟨oa.z,oa.l,oa.P,oa.N⟩,na.sk⟩ ⟨⟨ob.z,ob.l,ob.P,ob.N⟩,nb.sk⟩;unfold T5.M at t5 s5;simp only [T5.mk.injEq] at t5 s5;obtain ⟨t1,t2,t3,t4,t6⟩:=t5;obtain ⟨_,_,_,s4,s6⟩:=s5;simp only [agMg,Ag.mk.injEq];refine ⟨by first | rfl | trivial,sw og.s oa.s ob.s,s4,s6,?_,?_,t1,t2,t3,t4,t6,by first | rfl | trivial,by first | rfl | trivial⟩
 ·by_cases e:g.k=2
  ·simp only [if_pos e];exact (gA_swap _ _ _ _ _ _).1
  ·simp only [if_neg e]
 ·by_cases e:g.k=2
  ·simp only [if_pos e];exact (gA_swap _ _ _ _ _ _).2
  ·simp only [if_neg e]
theorem oneA_ok {x:Sx} (ox:x.Ok) (hx:x.B=true):AgOk (oneA x):=by
 obtain ⟨p1,p2,p3,p4,p5⟩:=smp_parts hx;have z:I64 0:=by unfold I64;omega
 have zu:U64 0:=by unfold U64;omega
 have u1:U64 1:=by unfold U64;omega
 have nB:∀ b∈([]:List Bn),BnOk b:=fun b hb=>by cases hb
 have nU:∀ b∈([]:List Int),U64 b:=fun b hb=>by cases hb
 have nI:∀ b∈([]:List Int),I64 b:=fun b hb=>by cases hb
 unfold oneA
 split
 ·exact ⟨by show I64 1;unfold I64;omega,u1,w64_in _,uw_in _,z,z,zu,z,zu,nB,nB,nU,nI⟩
 split
 ·exact ⟨by show I64 2;unfold I64;omega,u1,z,zu,ox.v,ox.ti,zu,z,zu,nB,nB,nU,nI⟩
 split
 ·have g:=one_good p2 ox.wt p3
  exact ⟨by show I64 3;unfold I64;omega,u1,z,zu,z,z,g.hz,w64_in _,uw_in _,g.kP,g.kN,nU,nI⟩
 ·refine ⟨by show I64 4;unfold I64;omega,u1,z,zu,z,z,zu,z,zu,nB,nB,fun b hb=>?_,nI⟩
  obtain rfl:=List.mem_singleton.1 hb;have:=hx_in x.wd x.wd.size;unfold hashT U64;omega
theorem put_stays {g o:Ag} {x:Sx} (ox:x.Ok) (ok:AgOk g) (h:AgPut g x o):AgOk o∧(agB g=true→agB o=true)∧o.k=g.k:=by
 unfold AgPut at h
 split at h
 ·rename_i q
  obtain ⟨r,o',k⟩:=mrg_stays ⟨q.1,oneA_right ox q.2.1,q.2.2.trans (oneA_k q.2.1).symm⟩ ok (oneA_ok ox q.2.1) h;exact ⟨o',fun _=>r,k⟩
 ·subst h;exact ⟨ok,id,rfl⟩
theorem put_mrgA {b o c d m e:Ag} {x:Sx} (ox:x.Ok) (r:AgR2 b o) (ob:AgOk b) (oo:AgOk o) (h1:AgPut b x c) (h2:AgMrg c o d) (h3:AgMrg b o m) (h4:AgPut m x e):d=e:=by
 have sm:=mrg_stays r ob oo h3;by_cases hx:agB b=true∧x.B=true∧b.k=x.k
 ·unfold AgPut at h1
  rw [if_pos hx] at h1;unfold AgPut at h4;rw [if_pos ⟨sm.1,hx.2.1,sm.2.2.trans hx.2.2⟩] at h4;exact mrg_swapA ⟨hx.1,oneA_right ox hx.2.1,hx.2.2.trans (oneA_k hx.2.1).symm⟩ r ob (oneA_ok ox hx.2.1) oo h1 h2 h3 h4
 ·have e1:c=b:=by unfold AgPut at h1;rw [if_neg hx] at h1;exact h1
  subst e1
  have e2:e=m:=by
   unfold AgPut at h4;rw [if_neg (fun q=>hx ⟨r.r,q.2.1,sm.2.2.symm.trans q.2.2⟩)] at h4;exact h4
  subst e2;exact h2.one h3
end Go.Proofs.YthchmdmncmioiaaGreatDoor
