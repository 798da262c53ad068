/-
 A sample that is put into an Agg: an Agg of that one sample, brought together with it. The mathematics.
-/
import Derived.Test.YthpilcoklapooaaGreatDoorAJZ
import Derived.Test.YthpilcoklapooaaGreatDoorATA
import Derived.Test.YthpilcoklapooaaGreatDoorASF
namespace Go.Proofs.YthpilcoklapooaaGreatDoor
set_option linter.unusedVariables false
set_option linter.unusedSimpArgs false
open Go.ChangeShapes Go.WideShapes Go.ChangeAt Go.RowKit Go.PlainAid Go.Lib
set_option maxRecDepth 10000
theorem tag_size40 {s:ByteArray} (h:tagB s=true):s.size≤40:=by
 unfold tagB at h
 simp only [Bool.and_eq_true,decide_eq_true_eq] at h
 omega
/-- The Agg of one sample. -/
def oneA (x:Sx):Ag:=
 if x.k=1 then ⟨1,1,thH x.v x.wt,thL x.v x.wt,0,0,0,[],[],0,0,[],[]⟩
 else if x.k=2 then ⟨2,1,0,0,x.v,x.ti,0,[],[],0,0,[],[]⟩
 else if x.k=3 then ⟨3,1,0,0,0,0,(one5 x.v x.wt).z,(one5 x.v x.wt).P,(one5 x.v x.wt).N,thH x.v x.wt,thL x.v x.wt,[],[]⟩
 else ⟨4,1,0,0,0,0,0,[],[],0,0,[hashT x.wd],[]⟩
theorem smp_parts {x:Sx} (h:x.B=true):(1≤x.k∧x.k≤4)∧(-999999999999999999≤x.v∧x.v≤999999999999999999)∧x.wt≠0∧(0≤x.ti∧x.ti≤1000000000)∧x.wd.size≤40:=by
 unfold Sx.B smpB at h
 simp only [Bool.and_eq_true] at h
 obtain ⟨⟨⟨⟨h1,_⟩,h2⟩,h3⟩,h4⟩:=h
 unfold kindB at h1
 simp only [Bool.and_eq_true,decide_eq_true_eq] at h1
 have a2:(-999999999999999999≤x.v∧x.v≤999999999999999999)∧x.wd.size≤40:=by
  unfold whatB at h2
  split at h2
  ·simp only [Bool.and_eq_true,decide_eq_true_eq] at h2
   exact ⟨by omega,tag_size40 h2.2⟩
  ·unfold valB at h2
   simp only [Bool.and_eq_true,decide_eq_true_eq] at h2
   exact ⟨h2.1,by omega⟩
 have a3:x.wt≠0:=by
  unfold weightB at h3
  simp only [Bool.and_eq_true,Bool.or_eq_true,decide_eq_true_eq] at h3
  omega
 have a4:0≤x.ti∧x.ti≤1000000000:=by
  unfold timeB at h4
  split at h4
  ·simpa using h4
  ·simp only [decide_eq_true_eq] at h4;omega
 exact ⟨h1,a2.1,a3,a4,a2.2⟩
theorem oneA_k {x:Sx} (h:x.B=true):(oneA x).k=x.k:=by
 have p:=(smp_parts h).1
 unfold oneA
 split
 ·show (1:Int)=x.k;omega
 split
 ·show (2:Int)=x.k;omega
 split
 ·show (3:Int)=x.k;omega
 ·show (4:Int)=x.k;omega
theorem oneA_right {x:Sx} (ok:x.Ok) (h:x.B=true):agB (oneA x)=true:=by
 obtain ⟨p1,p2,p3,p4,p5⟩:=smp_parts h
 unfold oneA
 split
 ·simp [agB,skB_nil,hlB_nil,noS,sameS,noH]
 split
 ·have:tail2 ⟨2,1,0,0,x.v,x.ti,0,[],[],0,0,[],[]⟩=true:=by
   unfold tail2 valA
   simp only [Bool.and_eq_true,Bool.or_eq_true,decide_eq_true_eq]
   omega
  simp [agB,skB_nil,hlB_nil,noS,sameS,noH,sumZ,this]
 split
 ·have g:=(one_good p2 ok.wt p3).sk
  simp [agB,g,hlB_nil,noS,sameS,noH,sumZ]
 ·have:hlB [hashT x.wd] []=true:=(Can.hash _).right
  simp [agB,skB_nil,this,noS,sameS,noH,sumZ]
/-- What comes of an Agg and a sample. -/
def AgPut (g:Ag) (x:Sx) (o:Ag):Prop:=if agB g=true∧x.B=true∧g.k=x.k then AgMrg g (oneA x) o else o=g
theorem AgPut.one {g o o':Ag} {x:Sx} (h:AgPut g x o) (k:AgPut g x o'):o=o':=by
 unfold AgPut at h k
 split at h
 ·rw [if_pos (by assumption)] at k
  exact h.one k
 ·rw [if_neg (by assumption)] at k
  exact h.trans k.symm
theorem put_no {g:Ag} {x:Sx} (h:¬ (agB g=true∧x.B=true∧g.k=x.k)):AgPut g x g:=by unfold AgPut;rw [if_neg h]
section
variable {g:Ag} {x:Sx} (ok:x.Ok) (hg:agB g=true) (hx:x.B=true) (e:g.k=x.k)
include ok hg hx e
theorem putC (k:g.k=1):AgPut g x ⟨1,wAdd g.s 1,addH g.h g.l (thH x.v x.wt) (thL x.v x.wt),addL g.l (thL x.v x.wt),0,0,0,[],[],0,0,[],[]⟩:=by
 unfold AgPut
 rw [if_pos ⟨hg,hx,e⟩]
 have:=mrgC hg (oneA_right ok hx) (e.trans (oneA_k hx).symm) k
 have e1:oneA x=⟨1,1,thH x.v x.wt,thL x.v x.wt,0,0,0,[],[],0,0,[],[]⟩:=by unfold oneA;rw [if_pos (by omega)]
 rw [e1] at this ⊢
 exact this
theorem putG (k:g.k=2):AgPut g x ⟨2,wAdd g.s 1,0,0,gA g.a g.t x.v x.ti,gT g.a g.t x.v x.ti,0,[],[],0,0,[],[]⟩:=by
 unfold AgPut
 rw [if_pos ⟨hg,hx,e⟩]
 have:=mrgG hg (oneA_right ok hx) (e.trans (oneA_k hx).symm) k
 have e1:oneA x=⟨2,1,0,0,x.v,x.ti,0,[],[],0,0,[],[]⟩:=by unfold oneA;rw [if_neg (by omega),if_pos (by omega)]
 rw [e1] at this ⊢
 exact this
theorem putHs (k:g.k=3) (go:AgOk g):AgPut g x ⟨3,wAdd g.s 1,0,0,0,0,putZ g.z x.v x.wt,putPS g.P x.v x.wt,putNS g.N x.v x.wt,addH g.x g.y (thH x.v x.wt) (thL x.v x.wt),addL g.y (thL x.v x.wt),[],[]⟩:=by
 unfold AgPut
 rw [if_pos ⟨hg,hx,e⟩]
 obtain ⟨p1,p2,p3,p4,p5⟩:=smp_parts hx
 have hm:=mrgH hg (oneA_right ok hx) (e.trans (oneA_k hx).symm) k
 have e1:oneA x=⟨3,1,0,0,0,0,(one5 x.v x.wt).z,(one5 x.v x.wt).P,(one5 x.v x.wt).N,thH x.v x.wt,thL x.v x.wt,[],[]⟩:=by unfold oneA;rw [if_neg (by omega),if_neg (by omega),if_pos (by omega)]
 rw [e1] at hm ⊢
 have q:PutIs ⟨g.z,g.P,g.N,g.x,g.y⟩ ⟨putZ g.z x.v x.wt,putPS g.P x.v x.wt,putNS g.N x.v x.wt,addH g.x g.y (thH x.v x.wt) (thL x.v x.wt),addL g.y (thL x.v x.wt)⟩ x.v x.wt:=⟨fun _=>rfl,fun h=>absurd ⟨(agB_no hg).sk,p2,p3⟩ h⟩
 have:=q.M ⟨go.z,go.y,go.P,go.N⟩ ⟨(agB_no hg).sk,p2,p3⟩
 unfold T5.M at this
 simp only [T5.mk.injEq] at this
 obtain ⟨q1,q2,q3,q4,q5⟩:=this
 rw [q1,q2,q3]
 exact hm
theorem putS (k:g.k=4) {E R:List Int} (m:PutH g.E g.R (hashT x.wd) E R):AgPut g x ⟨4,wAdd g.s 1,0,0,0,0,0,[],[],0,0,E,R⟩:=by
 unfold AgPut
 rw [if_pos ⟨hg,hx,e⟩]
 have e1:oneA x=⟨4,1,0,0,0,0,0,[],[],0,0,[hashT x.wd],[]⟩:=by unfold oneA;rw [if_neg (by omega),if_neg (by omega),if_neg (by omega)]
 have hh:hlB [hashT x.wd] []=true:=(Can.hash _).right
 have mm:MrgH g.E g.R (oneA x).E (oneA x).R E R:=by
  rw [e1]
  unfold PutH at m
  rw [if_pos (agB_no hg).hl] at m
  unfold MrgH
  rw [if_pos ⟨(agB_no hg).hl,hh⟩]
  exact m
 have:=mrgS hg (oneA_right ok hx) (e.trans (oneA_k hx).symm) k mm
 rw [e1] at this ⊢
 exact this
end
/-
 A sample put into the parts of an Agg; an Agg copied: the program.
-/
/-- Two boxes: a part's and a sample's. -/
theorem box_two (w:World) (cs:Array Value) (T:TypeId) (x:Sx):Hid (Below w.heap.size w ((w.alloc (.cells cs T)).alloc (.cells (sxArr x) 36)))∧Hid (∀ W,Below ((w.alloc (.cells cs T)).alloc (.cells (sxArr x) 36)).heap.size ((w.alloc (.cells cs T)).alloc (.cells (sxArr x) 36)) W→W.heap[w.heap.size]?=some (.cells cs T (0,0))∧W.heap[w.heap.size+1]?=some (.cells (sxArr x) 36 (0,0))):=by
 have a1:∀ (W:World) o,Below W.heap.size W (W.alloc o):=fun W o=>(Below.refl _ _).alloc (Nat.le_refl _) _
 have k0:=heap_alloc_new w (.cells cs T)
 have k1:=heap_alloc_new (w.alloc (.cells cs T)) (.cells (sxArr x) 36)
 simp only [World.size_alloc] at k1
 exact ⟨hide (chain (a1 _ _) (a1 _ _)),hide (fun W hW=>⟨(hW.block _ (by simp;omega)).trans (((a1 _ _).block _ (by simp)).trans k0),(hW.block _ (by simp)).trans k1⟩)⟩
theorem box_szs (w:World) (o o':Obj):((w.alloc o).alloc o').heap.size=w.heap.size+1+1:=by simp
set_option maxHeartbeats 2000000 in
theorem c_cput (h l:Int) (x:Sx) (w:World) (ul:U64 l) (ox:x.Ok):Calls Tryz.prog 293 #[.agg #[.int .i64 h,.int .u64 l],.agg (sxArr x)] w fun e w'=>e=.returned (.iface 171 (.agg #[.int .i64 (addH h l (thH x.v x.wt) (thL x.v x.wt)),.int .u64 (addL l (thL x.v x.wt))]))∧Below w.heap.size w w':=by
 have UL:=hide ul
 have OX:=hide ox
 clear ul ox
 obtain ⟨HT0,HC⟩:=box_two w #[.int .i64 h,.int .u64 l] 171 x
 have hsz:=box_szs w (.cells #[.int .i64 h,.int .u64 l] 171) (.cells (sxArr x) 36)
 go_enter Tryz.func293,Tryz.ntmps293
 go_wp2_with fail
 generalize (w.alloc (.cells #[.int .i64 h,.int .u64 l] 171)).alloc (.cells (sxArr x) 36)=W0 at HT0 HC hsz ⊢
 have HS0:(fun W=>Below W0.heap.size W0 W) W0.drew:=(Below.refl _ _).drew
 refine regionK (fun W=>Below W0.heap.size W0 W) 10 (by kernel_rfl) ?_
 refine tkL (i:=0) (d:=5) (v:=.pointer (some ⟨w.heap.size,0,none⟩)) rfl rfl HS0 (fun W hW=>by clear hW;go_simp) ?_
 refine tkL (i:=1) (d:=6) (v:=.agg #[.int .i64 h,.int .u64 l]) rfl rfl HS0 (fun W hW=>?_) ?_
 ·have hWW:=HC.out W hW
  have x0:=cellK hWW.1 0 rfl
  have x1:=cellK hWW.1 1 rfl
  have y0:=cellK hWW.2 0 rfl
  have y1:=cellK hWW.2 1 rfl
  have y2:=cellK hWW.2 2 rfl
  have y3:=cellK hWW.2 3 rfl
  have y4:=cellK hWW.2 4 rfl
  have y5:=cellK hWW.2 5 rfl
  have y6:=cellK hWW.2 6 rfl
  clear hWW
  clear hW
  go_simp
 refine tkL (i:=2) (d:=7) (v:=.pointer (some ⟨w.heap.size+1,2,none⟩)) rfl rfl HS0 (fun W hW=>by clear hW;go_simp) ?_
 simp only [sA,sB,sC]
 refine tkL (i:=3) (d:=8) (v:=.int .i64 x.v) rfl rfl HS0 (fun W hW=>?_) ?_
 ·have hWW:=HC.out W hW
  have x0:=cellK hWW.1 0 rfl
  have x1:=cellK hWW.1 1 rfl
  have y0:=cellK hWW.2 0 rfl
  have y1:=cellK hWW.2 1 rfl
  have y2:=cellK hWW.2 2 rfl
  have y3:=cellK hWW.2 3 rfl
  have y4:=cellK hWW.2 4 rfl
  have y5:=cellK hWW.2 5 rfl
  have y6:=cellK hWW.2 6 rfl
  clear hWW
  clear hW
  go_simp
 refine tkL (i:=4) (d:=9) (v:=.pointer (some ⟨w.heap.size+1,4,none⟩)) rfl rfl HS0 (fun W hW=>by clear hW;go_simp) ?_
 refine tkL (i:=5) (d:=10) (v:=.int .u64 x.wt) rfl rfl HS0 (fun W hW=>?_) ?_
 ·have hWW:=HC.out W hW
  have x0:=cellK hWW.1 0 rfl
  have x1:=cellK hWW.1 1 rfl
  have y0:=cellK hWW.2 0 rfl
  have y1:=cellK hWW.2 1 rfl
  have y2:=cellK hWW.2 2 rfl
  have y3:=cellK hWW.2 3 rfl
  have y4:=cellK hWW.2 4 rfl
  have y5:=cellK hWW.2 5 rfl
  have y6:=cellK hWW.2 6 rfl
  clear hWW
  clear hW
  go_simp
 simp only [sA,sB,sC]
 refine onE (i:=6) rfl (fun K hK=>?_)
 go_simp
 refine (c_i_WideTimes x.v x.wt OX.out.v OX.out.wt _).mono ?_
 rintro e w1 ⟨rfl,hb1⟩
 have HB1:Hid (Below W0.heap.size W0 w1):=(HS0:Below W0.heap.size W0 W0.drew).trans (hb1.mono (Nat.le_refl _))
 clear hb1
 dsimp only
 refine hK.out _ _ (fun _=>HB1.out) ?_
 clear hK K
 try simp only [Act.put,sA,sB,sC]
 refine onE (i:=7) rfl (fun K hK=>?_)
 go_simp
 refine (c_i_WideAdd h l (thH x.v x.wt) (thL x.v x.wt) _ UL.out (show U64 (thL x.v x.wt) from uw_in _)).mono ?_
 rintro e w2 ⟨rfl,hb2⟩
 have HB2:Hid (Below W0.heap.size W0 w2):=chain HB1.out hb2
 clear hb2
 dsimp only
 refine hK.out _ _ (fun _=>HB2.out) ?_
 clear hK K
 try simp only [Act.put,sA,sB,sC]
 refine tkL (i:=8) (d:=13) (v:=.agg #[.int .i64 (addH h l (thH x.v x.wt) (thL x.v x.wt)),.int .u64 (addL l (thL x.v x.wt))]) rfl rfl HB2.out (fun W hW=>by clear hW;go_simp) ?_
 refine tkL (i:=9) (d:=14) (v:=.iface 171 (.agg #[.int .i64 (addH h l (thH x.v x.wt) (thL x.v x.wt)),.int .u64 (addL l (thL x.v x.wt))])) rfl rfl HB2.out (fun W hW=>by clear hW;go_simp) ?_
 simp only [sA,sB,sC]
 refine onE (i:=10) rfl (fun K hK=>?_)
 go_simp
 refine hK.out _ _ (fun h=>absurd rfl h) ?_
 clear hK K
 try simp only [Act.put,sA,sB,sC]
 refine doneK (by kernel_rfl) ?_ _
 go_wp2
 go_ret
 exact ⟨rfl,chain HT0.out HB2.out⟩
set_option maxHeartbeats 2000000 in
theorem c_gput (a t:Int) (x:Sx) (w:World):Calls Tryz.prog 299 #[.agg #[.int .i64 a,.int .i64 t],.agg (sxArr x)] w fun e w'=>e=.returned (.iface 173 (.agg #[.int .i64 (gA a t x.v x.ti),.int .i64 (gT a t x.v x.ti)]))∧Below w.heap.size w w':=by
 obtain ⟨HT0,HC⟩:=box_two w #[.int .i64 a,.int .i64 t] 173 x
 have hsz:=box_szs w (.cells #[.int .i64 a,.int .i64 t] 173) (.cells (sxArr x) 36)
 go_enter Tryz.func299,Tryz.ntmps299
 go_wp2_with fail
 generalize (w.alloc (.cells #[.int .i64 a,.int .i64 t] 173)).alloc (.cells (sxArr x) 36)=W0 at HT0 HC hsz ⊢
 refine (c_gmerge a t x.v x.ti _).mono ?_
 rintro e w1 ⟨rfl,hb1⟩
 have HT1:=hide (chain HT0.out hb1)
 clear hb1
 go_wp2
 go_ret
 exact ⟨rfl,HT1.out⟩
theorem putP_S {P:List Bn} {v wt:Int} (h:Rise P):putP P v wt=putPS P v wt:=by
 unfold putP putPS;split
 ·exact gat_mrg h (rise_one _)
 ·rfl
theorem putN_S {P:List Bn} {v wt:Int} (h:Rise P):putN P v wt=putNS P v wt:=by
 unfold putN putNS;split
 ·exact gat_mrg h (rise_one _)
 ·rfl
set_option maxHeartbeats 2000000 in
theorem c_hput {w:World} {g:Ag} {p:Pl} (x:Sx) (ox:x.Ok) (hx:x.B=true) (ok:AgOk g) (sm:AgSm g) (hA:AgAt w g p) (sk:skB g.P g.N=true):Calls Tryz.prog 302 #[.agg #[.int .u64 g.z,.slice p.pa g.P.length p.pc,.slice p.na g.N.length p.nc,.int .i64 g.x,.int .u64 g.y],.agg (sxArr x)] w fun e w'=>∃ v,e=.returned (.iface 175 v)∧SkOut w' w.heap.size v (putZ g.z x.v x.wt) (putPS g.P x.v x.wt) (putNS g.N x.v x.wt) (addH g.x g.y (thH x.v x.wt) (thL x.v x.wt)) (addL g.y (thL x.v x.wt))∧Below w.heap.size w w':=by
 have OX:=hide ox
 have HX:=hide (smp_parts hx)
 have OK:=hide ok
 have SM:=hide sm
 have HA:=hide hA
 have SK:=hide sk
 clear ox hx ok sm hA sk
 obtain ⟨HT0,HC⟩:=box_two w #[.int .u64 g.z,.slice p.pa g.P.length p.pc,.slice p.na g.N.length p.nc,.int .i64 g.x,.int .u64 g.y] 175 x
 have hsz:=box_szs w (.cells #[.int .u64 g.z,.slice p.pa g.P.length p.pc,.slice p.na g.N.length p.nc,.int .i64 g.x,.int .u64 g.y] 175) (.cells (sxArr x) 36)
 go_enter Tryz.func302,Tryz.ntmps302
 go_wp2_with fail
 generalize (w.alloc (.cells #[.int .u64 g.z,.slice p.pa g.P.length p.pc,.slice p.na g.N.length p.nc,.int .i64 g.x,.int .u64 g.y] 175)).alloc (.cells (sxArr x) 36)=W0 at HT0 HC hsz ⊢
 refine (c_i_SketchPut OK.out.z OK.out.y OX.out.v OX.out.wt rfl rfl SM.out.P SM.out.N (bins_past HA.out.P HT0.out) (bins_past HA.out.N HT0.out) OK.out.P OK.out.N).mono ?_
 rintro e w1 ⟨v1,rfl,hb1,hq1⟩
 have ho:SkOut w1 W0.heap.size v1 (putZ g.z x.v x.wt) (putPS g.P x.v x.wt) (putNS g.N x.v x.wt) (addH g.x g.y (thH x.v x.wt) (thL x.v x.wt)) (addL g.y (thL x.v x.wt)):=by
  rcases hq1 with ⟨ok,ho⟩ | ⟨no,_⟩
  ·rw [putP_S (sk_rise ok.1).1.1,putN_S (sk_rise ok.1).2.1] at ho
   exact ho
  ·exact absurd ⟨SK.out,HX.out.2.1,HX.out.2.2.1⟩ no
 obtain ⟨vp,vn,pn,nn,rfl,o1,o2,hap⟩:=ho
 have HO:=hide (And.intro (o1.le (show w.heap.size≤W0.heap.size by omega)) (And.intro (o2.le (show w.heap.size≤W0.heap.size by omega)) hap))
 have HT1:=hide (chain HT0.out hb1)
 clear hq1 o1 o2 hap hb1
 go_wp2
 go_ret
 exact ⟨_,rfl,⟨vp,vn,pn,nn,rfl,HO.out.1,HO.out.2.1,HO.out.2.2⟩,HT1.out⟩
theorem hashT_in (s:ByteArray):U64 (hashT s):=by have:=hx_in s s.size;unfold hashT U64;omega
/-- What both ask of the places. -/
structure PlG (g:Ag) (p:Pl):Prop where
 cP:p.pa=none→p.pc=0
 cN:p.na=none→p.nc=0
 cE:p.ea=none→p.ec=0
 cR:p.ra=none→p.rc=0
 fE:Flat p.ea
 fR:Flat p.ra
 lE:g.E.length≤p.ec
 mE:p.ec≤maxLen
set_option maxHeartbeats 2000000 in
theorem c_sput {w:World} {g:Ag} {p:Pl} (x:Sx) (ox:x.Ok) (hx:x.B=true) (ok:AgOk g) (sm:AgSm g) (pl:PlG g p) (hA:AgAt w g p):Calls Tryz.prog 323 #[.agg #[.slice p.ea g.E.length p.ec,.slice p.ra g.R.length p.rc],.agg (sxArr x)] w fun e w'=>∃ v E R,e=.returned (.iface 177 v)∧PutH g.E g.R (hashT x.wd) E R∧HlOut w' w.heap.size v E R∧Below w.heap.size w w':=by
 have OX:=hide ox
 have HX:=hide (smp_parts hx)
 have OK:=hide ok
 have SM:=hide sm
 have PL:=hide pl
 have HA:=hide hA
 clear ox hx ok sm pl hA
 obtain ⟨HT0,HC⟩:=box_two w #[.slice p.ea g.E.length p.ec,.slice p.ra g.R.length p.rc] 177 x
 have hsz:=box_szs w (.cells #[.slice p.ea g.E.length p.ec,.slice p.ra g.R.length p.rc] 177) (.cells (sxArr x) 36)
 go_enter Tryz.func323,Tryz.ntmps323
 go_wp2_with fail
 generalize (w.alloc (.cells #[.slice p.ea g.E.length p.ec,.slice p.ra g.R.length p.rc] 177)).alloc (.cells (sxArr x) 36)=W0 at HT0 HC hsz ⊢
 have HS0:(fun W=>Below W0.heap.size W0 W) W0.drew:=(Below.refl _ _).drew
 refine regionK (fun W=>Below W0.heap.size W0 W) 8 (by kernel_rfl) ?_
 refine tkL (i:=0) (d:=5) (v:=.pointer (some ⟨w.heap.size,0,none⟩)) rfl rfl HS0 (fun W hW=>by clear hW;go_simp) ?_
 refine tkL (i:=1) (d:=6) (v:=.agg #[.slice p.ea g.E.length p.ec,.slice p.ra g.R.length p.rc]) rfl rfl HS0 (fun W hW=>?_) ?_
 ·have hWW:=HC.out W hW
  have x0:=cellK hWW.1 0 rfl
  have x1:=cellK hWW.1 1 rfl
  have y0:=cellK hWW.2 0 rfl
  have y1:=cellK hWW.2 1 rfl
  have y2:=cellK hWW.2 2 rfl
  have y3:=cellK hWW.2 3 rfl
  have y4:=cellK hWW.2 4 rfl
  have y5:=cellK hWW.2 5 rfl
  have y6:=cellK hWW.2 6 rfl
  clear hWW
  clear hW
  go_simp
 refine tkL (i:=2) (d:=7) (v:=.pointer (some ⟨w.heap.size+1,3,none⟩)) rfl rfl HS0 (fun W hW=>by clear hW;go_simp) ?_
 simp only [sA,sB,sC]
 refine tkL (i:=3) (d:=8) (v:=.string x.wd) rfl rfl HS0 (fun W hW=>?_) ?_
 ·have hWW:=HC.out W hW
  have x0:=cellK hWW.1 0 rfl
  have x1:=cellK hWW.1 1 rfl
  have y0:=cellK hWW.2 0 rfl
  have y1:=cellK hWW.2 1 rfl
  have y2:=cellK hWW.2 2 rfl
  have y3:=cellK hWW.2 3 rfl
  have y4:=cellK hWW.2 4 rfl
  have y5:=cellK hWW.2 5 rfl
  have y6:=cellK hWW.2 6 rfl
  clear hWW
  clear hW
  go_simp
 simp only [sA,sB,sC]
 refine onE (i:=4) rfl (fun K hK=>?_)
 go_simp
 refine (c_i_Hash x.wd OX.out.wd _).mono ?_
 rintro e wz ⟨rfl,hwz⟩
 obtain rfl:=hwz.symm
 rw [hashF_le (show x.wd.size≤20000 by have:=HX.out.2.2.2.2;omega)]
 dsimp only
 refine hK.out _ _ (fun _=>HS0) ?_
 clear hK K
 try simp only [Act.put,sA,sB,sC]
 refine onE (i:=5) rfl (fun K hK=>?_)
 go_simp
 refine (c_i_HllPut (hashT x.wd) rfl rfl SM.out.E SM.out.R PL.out.fE PL.out.fR (nums_past HA.out.E (chain HT0.out HS0)) (nums_past HA.out.R (chain HT0.out HS0)) OK.out.E (hashT_in _)).mono ?_
 rintro e w2 ⟨v1,E,R,rfl,hM,⟨vp,vn,rfl,o1,o2⟩,hb2⟩
 have HM:=hide hM
 have HO:=hide (And.intro (own_le o1 (show w.heap.size≤W0.heap.size by omega)) (own_le o2 (show w.heap.size≤W0.heap.size by omega)))
 have HB2:Hid (Below W0.heap.size W0 w2):=(HS0:Below W0.heap.size W0 W0.drew).trans (hb2.mono (Nat.le_refl _))
 clear hM o1 o2 hb2
 dsimp only
 refine hK.out _ _ (fun _=>HB2.out) ?_
 clear hK K
 try simp only [Act.put,sA,sB,sC]
 refine tkL (i:=6) (d:=11) (v:=.agg #[vp,vn]) rfl rfl HB2.out (fun W hW=>by clear hW;go_simp) ?_
 refine tkL (i:=7) (d:=12) (v:=.iface 177 (.agg #[vp,vn])) rfl rfl HB2.out (fun W hW=>by clear hW;go_simp) ?_
 simp only [sA,sB,sC]
 refine onE (i:=8) rfl (fun K hK=>?_)
 go_simp
 refine hK.out _ _ (fun h=>absurd rfl h) ?_
 clear hK K
 try simp only [Act.put,sA,sB,sC]
 refine doneK (by kernel_rfl) ?_ _
 go_wp2
 go_ret
 first | exact ⟨_,E,R,rfl,HM.out,⟨vp,vn,rfl,HO.out.1,HO.out.2⟩,chain HT0.out HB2.out⟩ | exact ⟨_,rfl,E,R,HM.out,⟨vp,vn,rfl,HO.out.1,HO.out.2⟩,chain HT0.out HB2.out⟩ | exact ⟨_,rfl,⟨E,R,HM.out,⟨vp,vn,rfl,HO.out.1,HO.out.2⟩⟩,chain HT0.out HB2.out⟩
end Go.Proofs.YthpilcoklapooaaGreatDoor
