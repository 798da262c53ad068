/-
 Two Aggs brought together: what they come to; the parts of the program.
-/
import Derived.Test.YthchmdmncmioiaaGreatDoorRJE
import Derived.Test.YthchmdmncmioiaaGreatDoorRJO
import Derived.Test.YthchmdmncmioiaaGreatDoorRJV
import Derived.Test.YthchmdmncmioiaaGreatDoorRJX
namespace Go.Proofs.YthchmdmncmioiaaGreatDoor
set_option linter.unusedVariables false
set_option linter.unusedSimpArgs false
open Go.ChangeShapes Go.WideShapes Go.ChangeAt Go.RowKit Go.PlainAid Go.Lib
set_option maxRecDepth 10000
def gLate (a t a' t':Int):Bool:=decide (t<t') || ((t' == t) && decide (a<a'))
def gA (a t a' t':Int):Int:=if gLate a t a' t'=true then a' else a
def gT (a t a' t':Int):Int:=if gLate a t a' t'=true then t' else t
structure AgO (w:World) (B:Nat) (o:Ag) (p:Pl):Prop where
 P:OwnB w B (.slice p.pa o.P.length p.pc) o.P.length o.P
 N:OwnB w B (.slice p.na o.N.length p.nc) o.N.length o.N
 ap:Apart (.slice p.pa o.P.length p.pc) (.slice p.na o.N.length p.nc)
 E:OwnN .u64 26 w B (.slice p.ea o.E.length p.ec) o.E.length o.E
 R:OwnN .i64 2 w B (.slice p.ra o.R.length p.rc) o.R.length o.R
def AgOut (w:World) (B:Nat) (v:Value) (o:Ag):Prop:=∃ p,v=.agg (agArr o p)∧AgO w B o p
def agZero:Ag:=⟨0,0,0,0,0,0,0,[],[],0,0,[],[]⟩
def agMg (g g':Ag) (E R:List Int):Ag:=⟨g.k,wAdd g.s g'.s,addH g.h g.l g'.h g'.l,addL g.l g'.l,if g.k=2 then gA g.a g.t g'.a g'.t else 0,if g.k=2 then gT g.a g.t g'.a g'.t else 0,wAdd g.z g'.z,keepL (mrg g.P g'.P),keepL (mrg g.N g'.N),addH g.x g.y g'.x g'.y,addL g.y g'.y,E,R⟩
def AgMrg (g g' o:Ag):Prop:=if agB g=true∧agB g'=true∧g.k=g'.k then ∃ E R,Mg g.E g.R g'.E g'.R E R∧o=agMg g g' E R else o=agZero
theorem AgMrg.one {g g' o o':Ag} (h:AgMrg g g' o) (k:AgMrg g g' o'):o=o':=by
 unfold AgMrg at h k
 split at h
 ·rw [if_pos (by assumption)] at k
  obtain ⟨E,R,m,rfl⟩:=h;obtain ⟨E',R',m',rfl⟩:=k;obtain ⟨rfl,rfl⟩:=m.one m'
  rfl
 ·rw [if_neg (by assumption)] at k
  exact h.trans k.symm
structure AgNo (g:Ag):Prop where
 k1:1≤g.k
 k4:g.k≤4
 sk:skB g.P g.N=true
 hl:hlB g.E g.R=true
 nc:g.k≠1→g.h=0∧g.l=0
 ng:g.k≠2→g.a=0∧g.t=0
 nh:g.k≠3→g.z=0∧g.x=0∧g.y=0∧g.P=[]∧g.N=[]
 ns:g.k≠4→g.E=[]∧g.R=[]
theorem agB_no {g:Ag} (h:agB g=true):AgNo g:=by
 unfold agB at h;simp only [Bool.and_eq_true,Bool.or_eq_true,decide_eq_true_eq,beq_iff_eq,noS_iff,noH_iff] at h;obtain ⟨⟨⟨⟨⟨⟨⟨h1,h2⟩,h3⟩,h4⟩,h5⟩,h6⟩,h7⟩,h8⟩:=h;refine ⟨h1,h2,h3,h4,fun n=>?_,fun n=>?_,fun n=>?_,fun n=>?_⟩
 ·rcases h5 with h | h
  ·exact absurd h n
  ·simpa [sumZ] using h
 ·rw [if_neg n] at h8;simpa using h8
 ·exact h6.elim (fun e=>absurd e n) id
 ·exact h7.elim (fun e=>absurd e n) id
theorem mg_nil:Mg [] [] [] [] [] []:=.inl ⟨rfl,rfl,by simp [allU,uniU],rfl,rfl⟩
theorem keep_nil:keepL (mrg [] [])=[]:=by simp [mrg,keepL]
theorem wAdd_nil:wAdd 0 0=0:=by decide
theorem addH_nil:addH 0 0 0 0=0:=by decide +kernel
theorem addL_nil:addL 0 0=0:=by decide
theorem mrgC {g g':Ag} (h:agB g=true) (h':agB g'=true) (e:g.k=g'.k) (k:g.k=1):AgMrg g g' ⟨1,wAdd g.s g'.s,addH g.h g.l g'.h g'.l,addL g.l g'.l,0,0,0,[],[],0,0,[],[]⟩:=by
 have n:=agB_no h;have n':=agB_no h';unfold AgMrg;rw [if_pos ⟨h,h',e⟩];obtain ⟨a1,a2,a3,a4,a5⟩:=n.nh (by omega);obtain ⟨b1,b2,b3,b4,b5⟩:=n'.nh (by omega);obtain ⟨c1,c2⟩:=n.ns (by omega);obtain ⟨d1,d2⟩:=n'.ns (by omega);refine ⟨[],[],by rw [c1,c2,d1,d2];exact mg_nil,?_⟩;unfold agMg;rw [if_neg (by omega),if_neg (by omega),a1,a2,a3,a4,a5,b1,b2,b3,b4,b5,k,keep_nil,wAdd_nil,addH_nil,addL_nil]
theorem mrgG {g g':Ag} (h:agB g=true) (h':agB g'=true) (e:g.k=g'.k) (k:g.k=2):AgMrg g g' ⟨2,wAdd g.s g'.s,0,0,gA g.a g.t g'.a g'.t,gT g.a g.t g'.a g'.t,0,[],[],0,0,[],[]⟩:=by
 have n:=agB_no h;have n':=agB_no h';unfold AgMrg;rw [if_pos ⟨h,h',e⟩];obtain ⟨a1,a2,a3,a4,a5⟩:=n.nh (by omega);obtain ⟨b1,b2,b3,b4,b5⟩:=n'.nh (by omega);obtain ⟨c1,c2⟩:=n.ns (by omega);obtain ⟨d1,d2⟩:=n'.ns (by omega);obtain ⟨e1,e2⟩:=n.nc (by omega);obtain ⟨f1,f2⟩:=n'.nc (by omega);refine ⟨[],[],by rw [c1,c2,d1,d2];exact mg_nil,?_⟩;unfold agMg;rw [if_pos k,if_pos k,a1,a2,a3,a4,a5,b1,b2,b3,b4,b5,e1,e2,f1,f2,k,keep_nil,wAdd_nil,addH_nil,addL_nil]
theorem mrgH {g g':Ag} (h:agB g=true) (h':agB g'=true) (e:g.k=g'.k) (k:g.k=3):AgMrg g g' ⟨3,wAdd g.s g'.s,0,0,0,0,wAdd g.z g'.z,keepL (mrg g.P g'.P),keepL (mrg g.N g'.N),addH g.x g.y g'.x g'.y,addL g.y g'.y,[],[]⟩:=by
 have n:=agB_no h;have n':=agB_no h';unfold AgMrg;rw [if_pos ⟨h,h',e⟩];obtain ⟨c1,c2⟩:=n.ns (by omega);obtain ⟨d1,d2⟩:=n'.ns (by omega);obtain ⟨e1,e2⟩:=n.nc (by omega);obtain ⟨f1,f2⟩:=n'.nc (by omega);refine ⟨[],[],by rw [c1,c2,d1,d2];exact mg_nil,?_⟩;unfold agMg;rw [if_neg (by omega),if_neg (by omega),e1,e2,f1,f2,k,addH_nil,addL_nil]
theorem mrgS {g g':Ag} {E R:List Int} (h:agB g=true) (h':agB g'=true) (e:g.k=g'.k) (k:g.k=4) (m:MrgH g.E g.R g'.E g'.R E R):AgMrg g g' ⟨4,wAdd g.s g'.s,0,0,0,0,0,[],[],0,0,E,R⟩:=by
 have n:=agB_no h;have n':=agB_no h';unfold AgMrg;rw [if_pos ⟨h,h',e⟩];obtain ⟨a1,a2,a3,a4,a5⟩:=n.nh (by omega);obtain ⟨b1,b2,b3,b4,b5⟩:=n'.nh (by omega);obtain ⟨e1,e2⟩:=n.nc (by omega);obtain ⟨f1,f2⟩:=n'.nc (by omega);unfold MrgH at m;rw [if_pos ⟨n.hl,n'.hl⟩] at m;refine ⟨E,R,m,?_⟩;unfold agMg;rw [if_neg (by omega),if_neg (by omega),a1,a2,a3,a4,a5,b1,b2,b3,b4,b5,e1,e2,f1,f2,k,keep_nil,wAdd_nil,addH_nil,addL_nil]
theorem fdC (a b:Value) (w:World):(Instr.field 170 (.agg #[a,b]) 0).run Tryz.prog w=.ok (.agg #[a,b]) w:=by kernel_rfl
theorem fdH (a b c d e:Value) (w:World):(Instr.field 174 (.agg #[a,b,c,d,e]) 0).run Tryz.prog w=.ok (.agg #[a,b,c,d,e]) w:=by kernel_rfl
theorem fdS (a b:Value) (w:World):(Instr.field 176 (.agg #[a,b]) 0).run Tryz.prog w=.ok (.agg #[a,b]) w:=by kernel_rfl
theorem tfC (v:Value) (w:World):(Instr.typeAssert (.iface 170 v) 129 170 false).run Tryz.prog w=.ok v w:=by kernel_rfl
theorem tfG (v:Value) (w:World):(Instr.typeAssert (.iface 172 v) 129 172 false).run Tryz.prog w=.ok v w:=by kernel_rfl
theorem tfH (v:Value) (w:World):(Instr.typeAssert (.iface 174 v) 129 174 false).run Tryz.prog w=.ok v w:=by kernel_rfl
theorem tfS (v:Value) (w:World):(Instr.typeAssert (.iface 176 v) 129 176 false).run Tryz.prog w=.ok v w:=by kernel_rfl
theorem cellK {w:World} {r:Nat} {cs:Array Value} {T:TypeId} (h:w.heap[r]?=some (.cells cs T (0,0))) (j:Nat) {v:Value} (e:cs[j]?=some v):w.cell? ⟨r,j,none⟩=some v:=by rw [cell_of_row _ _ j _ _ (0,0) h];exact e
set_option maxHeartbeats 2000000 in
theorem c_cmerge (h l h' l':Int) (w:World) (ul:U64 l) (ul':U64 l'):Calls Tryz.prog 276 #[.agg #[.int .i64 h,.int .u64 l],.iface 170 (.agg #[.int .i64 h',.int .u64 l'])] w fun e w'=>e=.returned (.iface 170 (.agg #[.int .i64 (addH h l h' l'),.int .u64 (addL l l')]))∧Below w.heap.size w w':=by
 have t1:=tfC (.agg #[.int .i64 h',.int .u64 l']);have t2:=fdC (.int .i64 h') (.int .u64 l');have UL:=hide ul;have UL':=hide ul';clear ul ul';have HB:Hid (∀ o,Below w.heap.size w (w.alloc o)):=fun o=>(Below.refl _ _).alloc (Nat.le_refl _) o;have HN:=hide (heap_alloc_new w (.cells #[.int .i64 h,.int .u64 l] 170));go_enter Tryz.func276,Tryz.ntmps276;go_wp2_with fail;generalize hW0:w.alloc (Obj.cells #[.int .i64 h,.int .u64 l] 170)=W0 at HN;have T0:Below w.heap.size w W0.drew:=by rw [← hW0];exact (HB.out _).drew
 have hs0:w.heap.size<W0.heap.size:=by rw [← hW0];simp
 have HT0:=hide T0;clear hW0 T0;have R0:W0.drew.heap[w.heap.size]?=some (.cells #[.int .i64 h,.int .u64 l] 170 (0,0)):=HN.out;refine regionK (fun W=>W.heap[w.heap.size]?=some (.cells #[.int .i64 h,.int .u64 l] 170 (0,0))) 9 (by kernel_rfl) ?_;refine tkS (i:=0) (v:=.pointer (some ⟨w.heap.size,0,none⟩)) rfl rfl R0 ?_;refine tkL (i:=1) (v:=.agg #[.int .i64 h,.int .u64 l]) rfl rfl R0 (fun W hW=>?_) ?_
 ·have x0:=cellK hW 0 rfl
  have x1:=cellK hW 1 rfl;clear hW;go_simp
 refine tkS (i:=2) (v:=.iface 170 (.agg #[.int .i64 h',.int .u64 l'])) rfl rfl R0 ?_;simp only [sA,sB,sC];refine tkS (i:=3) (v:=.agg #[.int .i64 h',.int .u64 l']) rfl rfl R0 ?_;refine tkS (i:=4) (v:=.agg #[.int .i64 h',.int .u64 l']) rfl rfl R0 ?_;simp only [sA,sB,sC];refine onE (i:=5) rfl (fun K hK=>?_);go_simp;refine (c_i_WideAdd _ _ _ _ _ UL.out UL'.out).mono ?_;rintro e w1 ⟨rfl,hb1⟩;have R1:=(hb1.block _ (by show w.heap.size<W0.heap.size;exact hs0)).trans R0;have HT1:=hide (chain HT0.out hb1);clear hb1;dsimp only;refine hK.out _ _ (fun _=>R1) ?_;clear hK K
 try simp only [Act.put,sA,sB,sC]
 refine tkS (i:=6) (v:=.agg #[.int .i64 (addH h l h' l'),.int .u64 (addL l l')]) rfl rfl R1 ?_;refine tkS (i:=7) (v:=.iface 170 (.agg #[.int .i64 (addH h l h' l'),.int .u64 (addL l l')])) rfl rfl R1 ?_;simp only [sA,sB,sC];refine onE (i:=8) rfl (fun K hK=>?_);go_simp;refine hK.out _ _ (fun _=>R1) ?_;clear hK K
 try simp only [Act.put,sA,sB,sC]
 refine doneK (by kernel_rfl) ?_ _;go_wp2;go_ret;exact ⟨rfl,HT1.out⟩
set_option maxHeartbeats 2000000 in
theorem c_hmerge {w:World} {g g':Ag} {p p':Pl} (ok:AgOk g) (ok':AgOk g') (sm:AgSm g) (sm':AgSm g') (hA:AgAt w g p) (hA':AgAt w g' p') (sk:skB g.P g.N=true) (sk':skB g'.P g'.N=true):Calls Tryz.prog 285 #[.agg #[.int .u64 g.z,.slice p.pa g.P.length p.pc,.slice p.na g.N.length p.nc,.int .i64 g.x,.int .u64 g.y],.iface 174 (.agg #[.int .u64 g'.z,.slice p'.pa g'.P.length p'.pc,.slice p'.na g'.N.length p'.nc,.int .i64 g'.x,.int .u64 g'.y])] w fun e w'=>∃ v,e=.returned (.iface 174 v)∧SkOut w' w.heap.size v (wAdd g.z g'.z) (keepL (mrg g.P g'.P)) (keepL (mrg g.N g'.N)) (addH g.x g.y g'.x g'.y) (addL g.y g'.y)∧Below w.heap.size w w':=by
 have t1:=tfH (.agg #[.int .u64 g'.z,.slice p'.pa g'.P.length p'.pc,.slice p'.na g'.N.length p'.nc,.int .i64 g'.x,.int .u64 g'.y]);have t2:=fdH (.int .u64 g'.z) (.slice p'.pa g'.P.length p'.pc) (.slice p'.na g'.N.length p'.nc) (.int .i64 g'.x) (.int .u64 g'.y);have OK:=hide ok;have OK':=hide ok';have SM:=hide sm;have SM':=hide sm';have HA:=hide hA;have HA':=hide hA';have SK:=hide sk;have SK':=hide sk';clear ok ok' sm sm' hA hA' sk sk';have HB:Hid (∀ o,Below w.heap.size w (w.alloc o)):=fun o=>(Below.refl _ _).alloc (Nat.le_refl _) o;have HN:=hide (heap_alloc_new w (.cells #[.int .u64 g.z,.slice p.pa g.P.length p.pc,.slice p.na g.N.length p.nc,.int .i64 g.x,.int .u64 g.y] 174));go_enter Tryz.func285,Tryz.ntmps285;go_wp2_with fail;generalize hW0:w.alloc (Obj.cells #[.int .u64 g.z,.slice p.pa g.P.length p.pc,.slice p.na g.N.length p.nc,.int .i64 g.x,.int .u64 g.y] 174)=W0 at HN;have T0:Below w.heap.size w W0.drew:=by rw [← hW0];exact (HB.out _).drew
 have hs0:w.heap.size<W0.heap.size:=by rw [← hW0];simp
 have HT0:=hide T0;clear hW0 T0;have R0:W0.drew.heap[w.heap.size]?=some (.cells #[.int .u64 g.z,.slice p.pa g.P.length p.pc,.slice p.na g.N.length p.nc,.int .i64 g.x,.int .u64 g.y] 174 (0,0)):=HN.out;refine regionK (fun W=>W.heap[w.heap.size]?=some (.cells #[.int .u64 g.z,.slice p.pa g.P.length p.pc,.slice p.na g.N.length p.nc,.int .i64 g.x,.int .u64 g.y] 174 (0,0))) 9 (by kernel_rfl) ?_;refine tkS (i:=0) (v:=.pointer (some ⟨w.heap.size,0,none⟩)) rfl rfl R0 ?_;refine tkL (i:=1) (v:=.agg #[.int .u64 g.z,.slice p.pa g.P.length p.pc,.slice p.na g.N.length p.nc,.int .i64 g.x,.int .u64 g.y]) rfl rfl R0 (fun W hW=>?_) ?_
 ·have x0:=cellK hW 0 rfl
  have x1:=cellK hW 1 rfl;have x2:=cellK hW 2 rfl;have x3:=cellK hW 3 rfl;have x4:=cellK hW 4 rfl;clear hW;go_simp
 refine tkS (i:=2) (v:=.iface 174 (.agg #[.int .u64 g'.z,.slice p'.pa g'.P.length p'.pc,.slice p'.na g'.N.length p'.nc,.int .i64 g'.x,.int .u64 g'.y])) rfl rfl R0 ?_;simp only [sA,sB,sC];refine tkS (i:=3) (v:=.agg #[.int .u64 g'.z,.slice p'.pa g'.P.length p'.pc,.slice p'.na g'.N.length p'.nc,.int .i64 g'.x,.int .u64 g'.y]) rfl rfl R0 ?_;refine tkS (i:=4) (v:=.agg #[.int .u64 g'.z,.slice p'.pa g'.P.length p'.pc,.slice p'.na g'.N.length p'.nc,.int .i64 g'.x,.int .u64 g'.y]) rfl rfl R0 ?_;simp only [sA,sB,sC];refine onE (i:=5) rfl (fun K hK=>?_);go_simp;refine (c_i_SketchMerge OK.out.z OK.out.y OK'.out.z OK'.out.y rfl rfl rfl rfl SM.out.P SM.out.N SM'.out.P SM'.out.N (bins_past HA.out.P HT0.out) (bins_past HA.out.N HT0.out) (bins_past HA'.out.P HT0.out) (bins_past HA'.out.N HT0.out) OK.out.P OK.out.N OK'.out.P OK'.out.N).mono ?_;rintro e w1 ⟨v1,rfl,hb1,hq1⟩
 have ho:SkOut w1 W0.heap.size v1 (wAdd g.z g'.z) (keepL (mrg g.P g'.P)) (keepL (mrg g.N g'.N)) (addH g.x g.y g'.x g'.y) (addL g.y g'.y):=by
  rcases hq1 with ⟨ok,ho⟩ | ⟨no,_⟩
  ·rw [gat_mrg (sk_rise ok.1).1.1 (sk_rise ok.2).1.1,gat_mrg (sk_rise ok.1).2.1 (sk_rise ok.2).2.1] at ho
   exact ho
  ·exact absurd ⟨SK.out,SK'.out⟩ no
 obtain ⟨vp,vn,pn,nn,rfl,o1,o2,hap⟩:=ho;have HO:=hide (And.intro (o1.le (Nat.le_of_lt hs0)) (And.intro (o2.le (Nat.le_of_lt hs0)) hap));clear hq1 o1 o2 hap;have R1:=(hb1.block _ (by show w.heap.size<W0.heap.size;exact hs0)).trans R0;have HT1:=hide (chain HT0.out hb1);clear hb1;dsimp only;refine hK.out _ _ (fun _=>R1) ?_;clear hK K
 try simp only [Act.put,sA,sB,sC]
 refine tkS (i:=6) (v:=.agg #[.int .u64 (wAdd g.z g'.z),vp,vn,.int .i64 (addH g.x g.y g'.x g'.y),.int .u64 (addL g.y g'.y)]) rfl rfl R1 ?_;refine tkS (i:=7) (v:=.iface 174 (.agg #[.int .u64 (wAdd g.z g'.z),vp,vn,.int .i64 (addH g.x g.y g'.x g'.y),.int .u64 (addL g.y g'.y)])) rfl rfl R1 ?_;simp only [sA,sB,sC];refine onE (i:=8) rfl (fun K hK=>?_);go_simp;refine hK.out _ _ (fun _=>R1) ?_;clear hK K
 try simp only [Act.put,sA,sB,sC]
 refine doneK (by kernel_rfl) ?_ _;go_wp2;go_ret;exact ⟨_,rfl,⟨vp,vn,pn,nn,rfl,HO.out.1,HO.out.2.1,HO.out.2.2⟩,HT1.out⟩
set_option maxHeartbeats 2000000 in
theorem c_smerge {w:World} {g g':Ag} {p p':Pl} (ok:AgOk g) (ok':AgOk g') (sm:AgSm g) (sm':AgSm g') (hA:AgAt w g p) (hA':AgAt w g' p'):Calls Tryz.prog 306 #[.agg #[.slice p.ea g.E.length p.ec,.slice p.ra g.R.length p.rc],.iface 176 (.agg #[.slice p'.ea g'.E.length p'.ec,.slice p'.ra g'.R.length p'.rc])] w fun e w'=>∃ v E R,e=.returned (.iface 176 v)∧MrgH g.E g.R g'.E g'.R E R∧HlOut w' w.heap.size v E R∧Below w.heap.size w w':=by
 have t1:=tfS (.agg #[.slice p'.ea g'.E.length p'.ec,.slice p'.ra g'.R.length p'.rc]);have t2:=fdS (.slice p'.ea g'.E.length p'.ec) (.slice p'.ra g'.R.length p'.rc);have OK:=hide ok;have OK':=hide ok';have SM:=hide sm;have SM':=hide sm';have HA:=hide hA;have HA':=hide hA';clear ok ok' sm sm' hA hA';have HB:Hid (∀ o,Below w.heap.size w (w.alloc o)):=fun o=>(Below.refl _ _).alloc (Nat.le_refl _) o;have HN:=hide (heap_alloc_new w (.cells #[.slice p.ea g.E.length p.ec,.slice p.ra g.R.length p.rc] 176));go_enter Tryz.func306,Tryz.ntmps306;go_wp2_with fail;generalize hW0:w.alloc (Obj.cells #[.slice p.ea g.E.length p.ec,.slice p.ra g.R.length p.rc] 176)=W0 at HN;have T0:Below w.heap.size w W0.drew:=by rw [← hW0];exact (HB.out _).drew
 have hs0:w.heap.size<W0.heap.size:=by rw [← hW0];simp
 have HT0:=hide T0;clear hW0 T0;have R0:W0.drew.heap[w.heap.size]?=some (.cells #[.slice p.ea g.E.length p.ec,.slice p.ra g.R.length p.rc] 176 (0,0)):=HN.out;refine regionK (fun W=>W.heap[w.heap.size]?=some (.cells #[.slice p.ea g.E.length p.ec,.slice p.ra g.R.length p.rc] 176 (0,0))) 9 (by kernel_rfl) ?_;refine tkS (i:=0) (v:=.pointer (some ⟨w.heap.size,0,none⟩)) rfl rfl R0 ?_;refine tkL (i:=1) (v:=.agg #[.slice p.ea g.E.length p.ec,.slice p.ra g.R.length p.rc]) rfl rfl R0 (fun W hW=>?_) ?_
 ·have x0:=cellK hW 0 rfl
  have x1:=cellK hW 1 rfl;clear hW;go_simp
 refine tkS (i:=2) (v:=.iface 176 (.agg #[.slice p'.ea g'.E.length p'.ec,.slice p'.ra g'.R.length p'.rc])) rfl rfl R0 ?_;simp only [sA,sB,sC];refine tkS (i:=3) (v:=.agg #[.slice p'.ea g'.E.length p'.ec,.slice p'.ra g'.R.length p'.rc]) rfl rfl R0 ?_;refine tkS (i:=4) (v:=.agg #[.slice p'.ea g'.E.length p'.ec,.slice p'.ra g'.R.length p'.rc]) rfl rfl R0 ?_;simp only [sA,sB,sC];refine onE (i:=5) rfl (fun K hK=>?_);go_simp;refine (c_i_HllMerge rfl rfl rfl rfl SM.out.E SM.out.R SM'.out.E SM'.out.R (nums_past HA.out.E HT0.out) (nums_past HA.out.R HT0.out) (nums_past HA'.out.E HT0.out) (nums_past HA'.out.R HT0.out) OK.out.E OK'.out.E).mono ?_;rintro e w1 ⟨v1,E,R,rfl,hM,⟨vp,vn,rfl,o1,o2⟩,hb1⟩;have HM:=hide hM;have HO:=hide (And.intro (own_le o1 (Nat.le_of_lt hs0)) (own_le o2 (Nat.le_of_lt hs0)));clear hM o1 o2;have R1:=(hb1.block _ (by show w.heap.size<W0.heap.size;exact hs0)).trans R0;have HT1:=hide (chain HT0.out hb1);clear hb1;dsimp only;refine hK.out _ _ (fun _=>R1) ?_;clear hK K
 try simp only [Act.put,sA,sB,sC]
 refine tkS (i:=6) (v:=.agg #[vp,vn]) rfl rfl R1 ?_;refine tkS (i:=7) (v:=.iface 176 (.agg #[vp,vn])) rfl rfl R1 ?_;simp only [sA,sB,sC];refine onE (i:=8) rfl (fun K hK=>?_);go_simp;refine hK.out _ _ (fun _=>R1) ?_;clear hK K
 try simp only [Act.put,sA,sB,sC]
 refine doneK (by kernel_rfl) ?_ _;go_wp2;go_ret;exact ⟨_,E,R,rfl,HM.out,⟨vp,vn,rfl,HO.out.1,HO.out.2⟩,HT1.out⟩
theorem gA_late {a t a' t':Int} (h:gLate a t a' t'=true):gA a t a' t'=a'∧gT a t a' t'=t':=⟨if_pos h,if_pos h⟩
theorem gA_not {a t a' t':Int} (h:¬ gLate a t a' t'=true):gA a t a' t'=a∧gT a t a' t'=t:=⟨if_neg h,if_neg h⟩
theorem ret_g {T:TypeId} {a t a' t':Int} (h:a'=a∧t'=t):Ending.returned (.iface T (.agg #[.int .i64 a,.int .i64 t]))=.returned (.iface T (.agg #[.int .i64 a',.int .i64 t'])):=by rw [h.1,h.2]
set_option maxHeartbeats 4000000 in
theorem c_gmerge (a t a' t':Int) (w:World):Calls Tryz.prog 282 #[.agg #[.int .i64 a,.int .i64 t],.iface 172 (.agg #[.int .i64 a',.int .i64 t'])] w fun e w'=>e=.returned (.iface 172 (.agg #[.int .i64 (gA a t a' t'),.int .i64 (gT a t a' t')]))∧Below w.heap.size w w':=by
 have t1:=tfG (.agg #[.int .i64 a',.int .i64 t']);have HB:Hid (∀ o o',Below w.heap.size w ((w.alloc o).alloc o')):=fun o o'=>((Below.refl _ _).alloc (Nat.le_refl _) o).alloc (by simp) o';by_cases h1:t<t'
 ·have HE:Hid (gA a t a' t'=a'∧gT a t a' t'=t'):=gA_late (by simp [gLate,h1])
  have d1:decide (t<t')=true:=decide_eq_true h1;go_enter Tryz.func282,Tryz.ntmps282;go_wp2;go_ret;exact ⟨ret_g HE.out,HB.out _ _⟩
 ·have d1:decide (t<t')=false:=decide_eq_false h1
  by_cases h2:t'=t
  ·subst h2
   by_cases h3:a<a'
   ·have HE:Hid (gA a t' a' t'=a'∧gT a t' a' t'=t'):=gA_late (by simp [gLate,h3])
    have d3:decide (a<a')=true:=decide_eq_true h3;go_enter Tryz.func282,Tryz.ntmps282;go_wp2;go_ret;exact ⟨ret_g HE.out,HB.out _ _⟩
   ·have HE:Hid (gA a t' a' t'=a∧gT a t' a' t'=t'):=gA_not (by simp [gLate,h3])
    have d3:decide (a<a')=false:=decide_eq_false h3;go_enter Tryz.func282,Tryz.ntmps282;go_wp2;go_ret;exact ⟨ret_g HE.out,HB.out _ _⟩
  ·have HE:Hid (gA a t a' t'=a∧gT a t a' t'=t):=gA_not (by simp [gLate,h1,h2])
   have d2:(t' == t)=false:=beq_eq_false_iff_ne.2 h2;go_enter Tryz.func282,Tryz.ntmps282;go_wp2;go_ret;exact ⟨ret_g HE.out,HB.out _ _⟩
abbrev pl0:Pl:=⟨none,0,none,0,none,0,none,0⟩
abbrev zeroAg:Array Value:=agArr agZero pl0
theorem OwnB.below {w:World} {B n r j:Nat} {v:Value} {L:List Bn} (h:OwnB w B v n L) (hr:r<B) (u:Value):OwnB (w.setCell ⟨r,j,none⟩ u) B v n L:=h.set (fun e=>by have:=(h.lt r e).1;omega) u
theorem OwnN.below {kd:IntKind} {T:TypeId} {w:World} {B n r j:Nat} {v:Value} {L:List Int} (h:OwnN kd T w B v n L) (hr:r<B) (u:Value):OwnN kd T (w.setCell ⟨r,j,none⟩ u) B v n L:=⟨h.1,ownsRow_setCell_below h.2 (by simpa using hr) u⟩
theorem AgO.below {w:World} {B r j:Nat} {o:Ag} {p:Pl} (h:AgO w B o p) (hr:r<B) (u:Value):AgO (w.setCell ⟨r,j,none⟩ u) B o p:=⟨h.P.below hr u,h.N.below hr u,h.ap,h.E.below hr u,h.R.below hr u⟩
theorem AgO.le {w:World} {B B':Nat} {o:Ag} {p:Pl} (h:AgO w B o p) (hb:B'≤B):AgO w B' o p:=⟨h.P.le hb,h.N.le hb,h.ap,h.E.le hb,h.R.le hb⟩
theorem AgO.past {w w':World} {B:Nat} {o:Ag} {p:Pl} (h:AgO w B o p) (hb:Below w.heap.size w w'):AgO w' B o p:=⟨h.P.past hb,h.N.past hb,h.ap,h.E.past hb,h.R.past hb⟩
theorem AgO.nil (w:World) (B:Nat) {o:Ag} (hP:o.P=[]) (hN:o.N=[]) (hE:o.E=[]) (hR:o.R=[]):AgO w B o pl0:=by
 obtain ⟨k,s,h,l,a,t,z,P,N,x,y,E,R⟩:=o;simp only at hP hN hE hR;subst hP hN hE hR;exact ⟨⟨rfl,.inl ⟨rfl,rfl⟩⟩,⟨rfl,.inl ⟨rfl,rfl⟩⟩,(fun k e=>by cases e),⟨rfl,World.ownsRow_nil _ _ _ _⟩,⟨rfl,World.ownsRow_nil _ _ _ _⟩⟩
theorem AgO.at {w:World} {B:Nat} {o:Ag} {p:Pl} (h:AgO w B o p):AgAt w o p:=⟨h.P.at,h.N.at,h.E.at,h.R.at⟩
theorem agc_three (w:World) (g g':Ag) (p p':Pl) (W:World) (hb:Below (((w.alloc (.cells (agArr g p) 49)).alloc (.cells (agArr g' p') 49)).alloc (.cells zeroAg 49)).heap.size (((w.alloc (.cells (agArr g p) 49)).alloc (.cells (agArr g' p') 49)).alloc (.cells zeroAg 49)) W) :
  AgCell W w.heap.size g p∧AgCell W (w.heap.size+1) g' p'∧W.heap[w.heap.size+1+1]?=some (.cells zeroAg 49 (0,0)):=by
 have a1:∀ (W:World) o,Below W.heap.size W (W.alloc o):=fun W o=>(Below.refl _ _).alloc (Nat.le_refl _) _;have k0:=agc_new w 49 g p;have k1:=agc_new (w.alloc (.cells (agArr g p) 49)) 49 g' p';have h2:=heap_alloc_new ((w.alloc (.cells (agArr g p) 49)).alloc (.cells (agArr g' p') 49)) (.cells zeroAg 49);simp only [World.size_alloc] at k1 h2;exact ⟨agc_past (agc_past (agc_past k0 (a1 _ _)) (a1 _ _)) hb,agc_past (agc_past k1 (a1 _ _)) hb,(hb.block _ (by simp)).trans h2⟩
def AgRes (w:World) (Q:Ag→Prop) (e:Ending) (w':World):Prop:=∃ v o,e=.returned v∧Q o∧AgOut w' w.heap.size v o∧Below w.heap.size w w'
theorem AgRes.mk {w w':World} {Q:Ag→Prop} {o:Ag} {p:Pl} (q:Q o) (h:AgO w' w.heap.size o p) (b:Below w.heap.size w w'):AgRes w Q (.returned (.agg (agArr o p))) w':=⟨_,o,rfl,q,⟨p,rfl,h⟩,b⟩
theorem naC (a b:Value) (w:World):(nilAhead 441 170 (.agg #[a,b]) "loop.example/g00309/impl.merge").run Tryz.prog w=.ok (some false) w:=by kernel_rfl
theorem naG (a b:Value) (w:World):(nilAhead 441 172 (.agg #[a,b]) "loop.example/g00309/impl.merge").run Tryz.prog w=.ok (some false) w:=by kernel_rfl
theorem naH (a b c d e:Value) (w:World):(nilAhead 441 174 (.agg #[a,b,c,d,e]) "loop.example/g00309/impl.merge").run Tryz.prog w=.ok (some false) w:=by kernel_rfl
theorem naS (a b:Value) (w:World):(nilAhead 441 176 (.agg #[a,b]) "loop.example/g00309/impl.merge").run Tryz.prog w=.ok (some false) w:=by kernel_rfl
theorem mrg_no {g g':Ag} (h:¬ (agB g=true∧agB g'=true∧g.k=g'.k)):AgMrg g g' agZero:=by unfold AgMrg;rw [if_neg h]
set_option maxHeartbeats 16000000 in
theorem c_i_AggMerge {w:World} {g g':Ag} {p p':Pl} (ok:AgOk g) (ok':AgOk g') (sm:AgSm g) (sm':AgSm g') (hA:AgAt w g p) (hA':AgAt w g' p') :
  Calls Tryz.prog 54 #[.agg (agArr g p),.agg (agArr g' p')] w fun e w'=>AgRes w (AgMrg g g') e w':=by
 have HA:=hide hA;have HA':=hide hA';have OK:=hide ok;have OK':=hide ok';have SM:=hide sm;have SM':=hide sm';have HBa:Hid (∀ o1 o2 o3,Below w.heap.size w (((w.alloc o1).alloc o2).alloc o3)):=fun o1 o2 o3=>(((Below.refl _ _).alloc (Nat.le_refl _) _).alloc (by simp) _).alloc (by simp;omega) _;clear ok ok' sm sm' hA hA';go_enter Tryz.func54,Tryz.ntmps54;go_wp2_with fail;refine (c_i_AggRight (g:=g) (p:=p) OK.out SM.out (ag_past HA.out (HBa.out _ _ _))).mono ?_;rintro e w1 ⟨rfl,hb1⟩;rw [ag_one];obtain ⟨K1,K2,hres⟩:=agc_three w g g' p p' w1 hb1;have hz1:=hb1.size;have hT1:Below w.heap.size w w1:=(HBa.out _ _ _).trans (hb1.mono (by simp;omega));simp only [World.size_alloc] at hz1;have HT1:=hide hT1;have HRs:=hide hres;have HK1:=hide K1;have HK2:=hide K2;clear hb1 hT1 hres K1 K2
 cases hq:agB g with
 | false=>
  have HQ:Hid (AgMrg g g' agZero):=mrg_no (fun h=>by rw [hq] at h;cases h.1);clear hq;have q0:=cellK HRs.out 0 rfl;have q1:=cellK HRs.out 1 rfl;have q2:=cellK HRs.out 2 rfl;have q3:=cellK HRs.out 3 rfl;have q4:=cellK HRs.out 4 rfl;have q5:=cellK HRs.out 5 rfl;have q6:=cellK HRs.out 6 rfl;have q7:=cellK HRs.out 7 rfl;have q8:=cellK HRs.out 8 rfl;have q9:=cellK HRs.out 9 rfl;have q10:=cellK HRs.out 10 rfl;have q11:=cellK HRs.out 11 rfl;have q12:=cellK HRs.out 12 rfl;have f0:=fzR 0 HRs.out;have f1:=fzR 1 HRs.out;have f2:=fzR 2 HRs.out;have f3:=fzR 3 HRs.out;have f4:=fzR 4 HRs.out;have f5:=fzR 5 HRs.out;have f6:=fzR 6 HRs.out;have f7:=fzR 7 HRs.out;have f8:=fzR 8 HRs.out;have f9:=fzR 9 HRs.out;have f10:=fzR 10 HRs.out;have f11:=fzR 11 HRs.out;have f12:=fzR 12 HRs.out;go_wp2;refine bodyPost_ret (v:=.agg zeroAg) (by simp [results,Tryz.results54,go_sem,agZero,q0,q1,q2,q3,q4,q5,q6,q7,q8,q9,q10,q11,q12]) rfl (AgRes.mk (o:=agZero) (p:=pl0) HQ.out (AgO.nil _ _ rfl rfl rfl rfl) ?_)
  repeat (refine Below.setCell ?_ (by simp <;> omega) _)
  exact HT1.out
 | true=>
  obtain ⟨y0,y1,y2,y3,y4,y5,y6,y7,y8,y9,y10,y11,y12⟩:=HK2.out;go_wp2_with fail;clear y0 y1 y2 y3 y4 y5 y6 y7 y8 y9 y10 y11 y12;refine (c_i_AggRight (g:=g') (p:=p') OK'.out SM'.out (ag_past HA'.out HT1.out)).mono ?_;rintro e w2 ⟨rfl,hb2⟩;rw [ag_one];have HT2:=hide (chain HT1.out hb2);have hz2:=hb2.size;have hC:∀ W,Below w2.heap.size w2 W→AgCell W w.heap.size g p∧AgCell W (w.heap.size+1) g' p'∧W.heap[w.heap.size+1+1]?=some (.cells zeroAg 49 (0,0)):=fun W hW=>⟨agc_past HK1.out (chain hb2 hW),agc_past HK2.out (chain hb2 hW),((chain hb2 hW).block _ (by omega)).trans HRs.out⟩;have HC:=hide hC;clear hb2 hC HK1 HK2 HRs
  cases hq':agB g' with
  | false=>
   have HQ:Hid (AgMrg g g' agZero):=mrg_no (fun h=>by rw [hq'] at h;cases h.2.1);have HR2:=hide (HC.out _ (Below.refl _ _)).2.2;clear hq hq';have q0:=cellK HR2.out 0 rfl;have q1:=cellK HR2.out 1 rfl;have q2:=cellK HR2.out 2 rfl;have q3:=cellK HR2.out 3 rfl;have q4:=cellK HR2.out 4 rfl;have q5:=cellK HR2.out 5 rfl;have q6:=cellK HR2.out 6 rfl;have q7:=cellK HR2.out 7 rfl;have q8:=cellK HR2.out 8 rfl;have q9:=cellK HR2.out 9 rfl;have q10:=cellK HR2.out 10 rfl;have q11:=cellK HR2.out 11 rfl;have q12:=cellK HR2.out 12 rfl;have f0:=fzR 0 HR2.out;have f1:=fzR 1 HR2.out;have f2:=fzR 2 HR2.out;have f3:=fzR 3 HR2.out;have f4:=fzR 4 HR2.out;have f5:=fzR 5 HR2.out;have f6:=fzR 6 HR2.out;have f7:=fzR 7 HR2.out;have f8:=fzR 8 HR2.out;have f9:=fzR 9 HR2.out;have f10:=fzR 10 HR2.out;have f11:=fzR 11 HR2.out;have f12:=fzR 12 HR2.out;go_wp2;refine bodyPost_ret (v:=.agg zeroAg) (by simp [results,Tryz.results54,go_sem,agZero,q0,q1,q2,q3,q4,q5,q6,q7,q8,q9,q10,q11,q12]) rfl (AgRes.mk (o:=agZero) (p:=pl0) HQ.out (AgO.nil _ _ rfl rfl rfl rfl) ?_)
   repeat (refine Below.setCell ?_ (by simp <;> omega) _)
   exact HT2.out
  | true=>
   by_cases hk:g.k=g'.k
   ·have HG:Hid (agB g=true∧agB g'=true∧g.k=g'.k):=⟨hq,hq',hk⟩
    have NO:=hide (agB_no hq);have NO':=hide (agB_no hq');have HR2:=hide (HC.out _ (Below.refl _ _)).2.2;have hb:(g.k != g'.k)=false:=by simp [hk]
    obtain ⟨⟨x0,x1,x2,x3,x4,x5,x6,x7,x8,x9,x10,x11,x12⟩,⟨y0,y1,y2,y3,y4,y5,y6,y7,y8,y9,y10,y11,y12⟩,_⟩:=HC.out _ (Below.refl _ _);clear hq hq' hk;go_wp2_with fail;clear x0 x1 x2 x3 x4 x5 x6 x7 x8 x9 x10 x11 x12 y0 y1 y2 y3 y4 y5 y6 y7 y8 y9 y10 y11 y12 hb;have hkk:g.k=1∨g.k=2∨g.k=3∨g.k=4:=by have:=NO.out.k1;have:=NO.out.k4;omega
    rcases hkk with h | h | h | h
    ·have HK1:=hide h
     have HK2:=hide (HG.out.2.2.symm.trans h);clear h;have HS0:(fun W=>Below w2.heap.size w2 W) w2.drew:=(Below.refl _ _).drew;refine regionK (fun W=>Below w2.heap.size w2 W) 14 (by kernel_rfl) ?_;refine tkL (i:=0) (v:=.pointer (some ⟨w.heap.size,1,none⟩)) rfl rfl HS0 (fun W hW=>?_) ?_
     ·obtain ⟨⟨x0,x1,x2,x3,x4,x5,x6,x7,x8,x9,x10,x11,x12⟩,⟨y0,y1,y2,y3,y4,y5,y6,y7,y8,y9,y10,y11,y12⟩,_⟩:=HC.out W hW
      clear hW;go_simp
     refine tkL (i:=1) (v:=.int .u64 g.s) rfl rfl HS0 (fun W hW=>?_) ?_
     ·obtain ⟨⟨x0,x1,x2,x3,x4,x5,x6,x7,x8,x9,x10,x11,x12⟩,⟨y0,y1,y2,y3,y4,y5,y6,y7,y8,y9,y10,y11,y12⟩,_⟩:=HC.out W hW
      clear hW;go_simp
     refine tkL (i:=2) (v:=.pointer (some ⟨w.heap.size+1,1,none⟩)) rfl rfl HS0 (fun W hW=>?_) ?_
     ·obtain ⟨⟨x0,x1,x2,x3,x4,x5,x6,x7,x8,x9,x10,x11,x12⟩,⟨y0,y1,y2,y3,y4,y5,y6,y7,y8,y9,y10,y11,y12⟩,_⟩:=HC.out W hW
      clear hW;go_simp
     simp only [sA,sB,sC];refine tkL (i:=3) (v:=.int .u64 g'.s) rfl rfl HS0 (fun W hW=>?_) ?_
     ·obtain ⟨⟨x0,x1,x2,x3,x4,x5,x6,x7,x8,x9,x10,x11,x12⟩,⟨y0,y1,y2,y3,y4,y5,y6,y7,y8,y9,y10,y11,y12⟩,_⟩:=HC.out W hW
      clear hW;go_simp
     refine tkL (i:=5) (v:=.agg (agArr g p)) rfl rfl HS0 (fun W hW=>?_) ?_
     ·obtain ⟨⟨x0,x1,x2,x3,x4,x5,x6,x7,x8,x9,x10,x11,x12⟩,⟨y0,y1,y2,y3,y4,y5,y6,y7,y8,y9,y10,y11,y12⟩,_⟩:=HC.out W hW
      clear hW;go_simp
     refine tkL (i:=7) (v:=.agg (agArr g' p')) rfl rfl HS0 (fun W hW=>?_) ?_
     ·obtain ⟨⟨x0,x1,x2,x3,x4,x5,x6,x7,x8,x9,x10,x11,x12⟩,⟨y0,y1,y2,y3,y4,y5,y6,y7,y8,y9,y10,y11,y12⟩,_⟩:=HC.out W hW
      clear hW;go_simp
     simp only [sA,sB,sC];refine onE (i:=4) rfl (fun K hK=>?_);go_simp;refine (c_i_WeightAdd _ _ OK.out.s OK'.out.s _).mono ?_;rintro e wz ⟨rfl,hwz⟩;obtain rfl:=hwz.symm;dsimp only;refine hK.out _ _ (fun _=>HS0) ?_;clear hK K
     try simp only [Act.put,sA,sB,sC]
     refine onE (i:=6) rfl (fun K hK=>?_);go_simp;refine (c_partOfC (g:=g) (p:=p) _ HK1.out).mono ?_;rintro e w3 ⟨rfl,hb3⟩;have HB3:Hid (Below w2.heap.size w2 w3):=(HS0:Below w2.heap.size w2 w2.drew).trans (hb3.mono (Nat.le_refl _));clear hb3;dsimp only;refine hK.out _ _ (fun _=>HB3.out) ?_;clear hK K
     try simp only [Act.put,sA,sB,sC]
     have na1:=naC (.int .i64 g.h) (.int .u64 g.l);refine tkS (i:=9) (v:=.func (.method "loop.example/g00309/impl.merge") #[.iface 170 (.agg #[.int .i64 g.h,.int .u64 g.l])] #[]) rfl rfl HB3.out ?_;refine tkS (i:=10) (v:=.func (.method "loop.example/g00309/impl.merge") #[.iface 170 (.agg #[.int .i64 g.h,.int .u64 g.l])] #[]) rfl rfl HB3.out ?_;refine tkS (i:=11) (v:=.iface 170 (.agg #[.int .i64 g.h,.int .u64 g.l])) rfl rfl HB3.out ?_;simp only [sA,sB,sC];refine onE (i:=8) rfl (fun K hK=>?_);go_simp;refine (c_partOfC (g:=g') (p:=p') _ HK2.out).mono ?_;rintro e w4 ⟨rfl,hb4⟩;have HB4:Hid (Below w2.heap.size w2 w4):=chain HB3.out hb4;have HA4:=hide (ag_past HA.out (chain HT2.out HB4.out));have HA4':=hide (ag_past HA'.out (chain HT2.out HB4.out));clear hb4;dsimp only;refine hK.out _ _ (fun _=>HB4.out) ?_;clear hK K
     try simp only [Act.put,sA,sB,sC]
     refine onE (i:=12) rfl (fun K hK=>?_);go_simp;refine (c_cmerge g.h g.l g'.h g'.l _ OK.out.l OK'.out.l).mono ?_;rintro e w5 ⟨rfl,hb5⟩;have HB5:Hid (Below w2.heap.size w2 w5):=chain HB4.out hb5;clear hb5;dsimp only;refine hK.out _ _ (fun _=>HB5.out) ?_;clear hK K
     try simp only [Act.put,sA,sB,sC]
     refine onE (i:=13) rfl (fun K hK=>?_);go_simp;refine (c_aggWithC ⟨0,wAdd g.s g'.s,addH g.h g.l g'.h g'.l,addL g.l g'.l,0,0,0,[],[],0,0,[],[]⟩ pl0 _).mono ?_;rintro e w6 ⟨rfl,hb6⟩;have HB6:Hid (Below w2.heap.size w2 w6):=chain HB5.out hb6;have HB56:=hide hb6;clear hb6;dsimp only;refine hK.out _ _ (fun _=>HB6.out) ?_;clear hK K
     try simp only [Act.put,sA,sB,sC]
     have HR6:=hide (HC.out _ HB6.out).2.2;have q0:=cellK HR6.out 0 rfl;have q1:=cellK HR6.out 1 rfl;have q2:=cellK HR6.out 2 rfl;have q3:=cellK HR6.out 3 rfl;have q4:=cellK HR6.out 4 rfl;have q5:=cellK HR6.out 5 rfl;have q6:=cellK HR6.out 6 rfl;have q7:=cellK HR6.out 7 rfl;have q8:=cellK HR6.out 8 rfl;have q9:=cellK HR6.out 9 rfl;have q10:=cellK HR6.out 10 rfl;have q11:=cellK HR6.out 11 rfl;have q12:=cellK HR6.out 12 rfl;have f0:=fzR 0 HR6.out;have f1:=fzR 1 HR6.out;have f2:=fzR 2 HR6.out;have f3:=fzR 3 HR6.out;have f4:=fzR 4 HR6.out;have f5:=fzR 5 HR6.out;have f6:=fzR 6 HR6.out;have f7:=fzR 7 HR6.out;have f8:=fzR 8 HR6.out;have f9:=fzR 9 HR6.out;have f10:=fzR 10 HR6.out;have f11:=fzR 11 HR6.out;have f12:=fzR 12 HR6.out;refine onE (i:=14) rfl (fun K hK=>?_);go_simp;refine hK.out _ _ (fun h=>absurd rfl h) ?_;clear hK K
     try simp only [Act.put,sA,sB,sC]
     refine doneK (by kernel_rfl) ?_ _;go_wp2;refine bodyPost_ret (v:=.agg (agArr ⟨1,wAdd g.s g'.s,addH g.h g.l g'.h g'.l,addL g.l g'.l,0,0,0,[],[],0,0,[],[]⟩ pl0)) (by simp [results,Tryz.results54,go_sem,q0,q1,q2,q3,q4,q5,q6,q7,q8,q9,q10,q11,q12]) rfl (AgRes.mk (o:=⟨1,wAdd g.s g'.s,addH g.h g.l g'.h g'.l,addL g.l g'.l,0,0,0,[],[],0,0,[],[]⟩) (p:=pl0) ?_ ?_ ?_)
     ·exact mrgC HG.out.1 HG.out.2.1 HG.out.2.2 HK1.out
     ·exact AgO.nil _ _ rfl rfl rfl rfl
     ·repeat (refine Below.setCell ?_ (by simp <;> omega) _)
      exact chain HT2.out HB6.out
    ·have HK1:=hide h
     have HK2:=hide (HG.out.2.2.symm.trans h);clear h;have HS0:(fun W=>Below w2.heap.size w2 W) w2.drew:=(Below.refl _ _).drew;refine regionK (fun W=>Below w2.heap.size w2 W) 14 (by kernel_rfl) ?_;refine tkL (i:=0) (v:=.pointer (some ⟨w.heap.size,1,none⟩)) rfl rfl HS0 (fun W hW=>?_) ?_
     ·obtain ⟨⟨x0,x1,x2,x3,x4,x5,x6,x7,x8,x9,x10,x11,x12⟩,⟨y0,y1,y2,y3,y4,y5,y6,y7,y8,y9,y10,y11,y12⟩,_⟩:=HC.out W hW
      clear hW;go_simp
     refine tkL (i:=1) (v:=.int .u64 g.s) rfl rfl HS0 (fun W hW=>?_) ?_
     ·obtain ⟨⟨x0,x1,x2,x3,x4,x5,x6,x7,x8,x9,x10,x11,x12⟩,⟨y0,y1,y2,y3,y4,y5,y6,y7,y8,y9,y10,y11,y12⟩,_⟩:=HC.out W hW
      clear hW;go_simp
     refine tkL (i:=2) (v:=.pointer (some ⟨w.heap.size+1,1,none⟩)) rfl rfl HS0 (fun W hW=>?_) ?_
     ·obtain ⟨⟨x0,x1,x2,x3,x4,x5,x6,x7,x8,x9,x10,x11,x12⟩,⟨y0,y1,y2,y3,y4,y5,y6,y7,y8,y9,y10,y11,y12⟩,_⟩:=HC.out W hW
      clear hW;go_simp
     simp only [sA,sB,sC];refine tkL (i:=3) (v:=.int .u64 g'.s) rfl rfl HS0 (fun W hW=>?_) ?_
     ·obtain ⟨⟨x0,x1,x2,x3,x4,x5,x6,x7,x8,x9,x10,x11,x12⟩,⟨y0,y1,y2,y3,y4,y5,y6,y7,y8,y9,y10,y11,y12⟩,_⟩:=HC.out W hW
      clear hW;go_simp
     refine tkL (i:=5) (v:=.agg (agArr g p)) rfl rfl HS0 (fun W hW=>?_) ?_
     ·obtain ⟨⟨x0,x1,x2,x3,x4,x5,x6,x7,x8,x9,x10,x11,x12⟩,⟨y0,y1,y2,y3,y4,y5,y6,y7,y8,y9,y10,y11,y12⟩,_⟩:=HC.out W hW
      clear hW;go_simp
     refine tkL (i:=7) (v:=.agg (agArr g' p')) rfl rfl HS0 (fun W hW=>?_) ?_
     ·obtain ⟨⟨x0,x1,x2,x3,x4,x5,x6,x7,x8,x9,x10,x11,x12⟩,⟨y0,y1,y2,y3,y4,y5,y6,y7,y8,y9,y10,y11,y12⟩,_⟩:=HC.out W hW
      clear hW;go_simp
     simp only [sA,sB,sC];refine onE (i:=4) rfl (fun K hK=>?_);go_simp;refine (c_i_WeightAdd _ _ OK.out.s OK'.out.s _).mono ?_;rintro e wz ⟨rfl,hwz⟩;obtain rfl:=hwz.symm;dsimp only;refine hK.out _ _ (fun _=>HS0) ?_;clear hK K
     try simp only [Act.put,sA,sB,sC]
     refine onE (i:=6) rfl (fun K hK=>?_);go_simp;refine (c_partOfG (g:=g) (p:=p) _ HK1.out).mono ?_;rintro e w3 ⟨rfl,hb3⟩;have HB3:Hid (Below w2.heap.size w2 w3):=(HS0:Below w2.heap.size w2 w2.drew).trans (hb3.mono (Nat.le_refl _));clear hb3;dsimp only;refine hK.out _ _ (fun _=>HB3.out) ?_;clear hK K
     try simp only [Act.put,sA,sB,sC]
     have na1:=naG (.int .i64 g.a) (.int .i64 g.t);refine tkS (i:=9) (v:=.func (.method "loop.example/g00309/impl.merge") #[.iface 172 (.agg #[.int .i64 g.a,.int .i64 g.t])] #[]) rfl rfl HB3.out ?_;refine tkS (i:=10) (v:=.func (.method "loop.example/g00309/impl.merge") #[.iface 172 (.agg #[.int .i64 g.a,.int .i64 g.t])] #[]) rfl rfl HB3.out ?_;refine tkS (i:=11) (v:=.iface 172 (.agg #[.int .i64 g.a,.int .i64 g.t])) rfl rfl HB3.out ?_;simp only [sA,sB,sC];refine onE (i:=8) rfl (fun K hK=>?_);go_simp;refine (c_partOfG (g:=g') (p:=p') _ HK2.out).mono ?_;rintro e w4 ⟨rfl,hb4⟩;have HB4:Hid (Below w2.heap.size w2 w4):=chain HB3.out hb4;have HA4:=hide (ag_past HA.out (chain HT2.out HB4.out));have HA4':=hide (ag_past HA'.out (chain HT2.out HB4.out));clear hb4;dsimp only;refine hK.out _ _ (fun _=>HB4.out) ?_;clear hK K
     try simp only [Act.put,sA,sB,sC]
     refine onE (i:=12) rfl (fun K hK=>?_);go_simp;refine (c_gmerge g.a g.t g'.a g'.t _).mono ?_;rintro e w5 ⟨rfl,hb5⟩;have HB5:Hid (Below w2.heap.size w2 w5):=chain HB4.out hb5;clear hb5;dsimp only;refine hK.out _ _ (fun _=>HB5.out) ?_;clear hK K
     try simp only [Act.put,sA,sB,sC]
     refine onE (i:=13) rfl (fun K hK=>?_);go_simp;refine (c_aggWithG ⟨0,wAdd g.s g'.s,0,0,gA g.a g.t g'.a g'.t,gT g.a g.t g'.a g'.t,0,[],[],0,0,[],[]⟩ pl0 _).mono ?_;rintro e w6 ⟨rfl,hb6⟩;have HB6:Hid (Below w2.heap.size w2 w6):=chain HB5.out hb6;have HB56:=hide hb6;clear hb6;dsimp only;refine hK.out _ _ (fun _=>HB6.out) ?_;clear hK K
     try simp only [Act.put,sA,sB,sC]
     have HR6:=hide (HC.out _ HB6.out).2.2;have q0:=cellK HR6.out 0 rfl;have q1:=cellK HR6.out 1 rfl;have q2:=cellK HR6.out 2 rfl;have q3:=cellK HR6.out 3 rfl;have q4:=cellK HR6.out 4 rfl;have q5:=cellK HR6.out 5 rfl;have q6:=cellK HR6.out 6 rfl;have q7:=cellK HR6.out 7 rfl;have q8:=cellK HR6.out 8 rfl;have q9:=cellK HR6.out 9 rfl;have q10:=cellK HR6.out 10 rfl;have q11:=cellK HR6.out 11 rfl;have q12:=cellK HR6.out 12 rfl;have f0:=fzR 0 HR6.out;have f1:=fzR 1 HR6.out;have f2:=fzR 2 HR6.out;have f3:=fzR 3 HR6.out;have f4:=fzR 4 HR6.out;have f5:=fzR 5 HR6.out;have f6:=fzR 6 HR6.out;have f7:=fzR 7 HR6.out;have f8:=fzR 8 HR6.out;have f9:=fzR 9 HR6.out;have f10:=fzR 10 HR6.out;have f11:=fzR 11 HR6.out;have f12:=fzR 12 HR6.out;refine onE (i:=14) rfl (fun K hK=>?_);go_simp;refine hK.out _ _ (fun h=>absurd rfl h) ?_;clear hK K
     try simp only [Act.put,sA,sB,sC]
     refine doneK (by kernel_rfl) ?_ _;go_wp2;refine bodyPost_ret (v:=.agg (agArr ⟨2,wAdd g.s g'.s,0,0,gA g.a g.t g'.a g'.t,gT g.a g.t g'.a g'.t,0,[],[],0,0,[],[]⟩ pl0)) (by simp [results,Tryz.results54,go_sem,q0,q1,q2,q3,q4,q5,q6,q7,q8,q9,q10,q11,q12]) rfl (AgRes.mk (o:=⟨2,wAdd g.s g'.s,0,0,gA g.a g.t g'.a g'.t,gT g.a g.t g'.a g'.t,0,[],[],0,0,[],[]⟩) (p:=pl0) ?_ ?_ ?_)
     ·exact mrgG HG.out.1 HG.out.2.1 HG.out.2.2 HK1.out
     ·exact AgO.nil _ _ rfl rfl rfl rfl
     ·repeat (refine Below.setCell ?_ (by simp <;> omega) _)
      exact chain HT2.out HB6.out
    ·have HK1:=hide h
     have HK2:=hide (HG.out.2.2.symm.trans h);clear h;have HS0:(fun W=>Below w2.heap.size w2 W) w2.drew:=(Below.refl _ _).drew;refine regionK (fun W=>Below w2.heap.size w2 W) 14 (by kernel_rfl) ?_;refine tkL (i:=0) (v:=.pointer (some ⟨w.heap.size,1,none⟩)) rfl rfl HS0 (fun W hW=>?_) ?_
     ·obtain ⟨⟨x0,x1,x2,x3,x4,x5,x6,x7,x8,x9,x10,x11,x12⟩,⟨y0,y1,y2,y3,y4,y5,y6,y7,y8,y9,y10,y11,y12⟩,_⟩:=HC.out W hW
      clear hW;go_simp
     refine tkL (i:=1) (v:=.int .u64 g.s) rfl rfl HS0 (fun W hW=>?_) ?_
     ·obtain ⟨⟨x0,x1,x2,x3,x4,x5,x6,x7,x8,x9,x10,x11,x12⟩,⟨y0,y1,y2,y3,y4,y5,y6,y7,y8,y9,y10,y11,y12⟩,_⟩:=HC.out W hW
      clear hW;go_simp
     refine tkL (i:=2) (v:=.pointer (some ⟨w.heap.size+1,1,none⟩)) rfl rfl HS0 (fun W hW=>?_) ?_
     ·obtain ⟨⟨x0,x1,x2,x3,x4,x5,x6,x7,x8,x9,x10,x11,x12⟩,⟨y0,y1,y2,y3,y4,y5,y6,y7,y8,y9,y10,y11,y12⟩,_⟩:=HC.out W hW
      clear hW;go_simp
     simp only [sA,sB,sC];refine tkL (i:=3) (v:=.int .u64 g'.s) rfl rfl HS0 (fun W hW=>?_) ?_
     ·obtain ⟨⟨x0,x1,x2,x3,x4,x5,x6,x7,x8,x9,x10,x11,x12⟩,⟨y0,y1,y2,y3,y4,y5,y6,y7,y8,y9,y10,y11,y12⟩,_⟩:=HC.out W hW
      clear hW;go_simp
     refine tkL (i:=5) (v:=.agg (agArr g p)) rfl rfl HS0 (fun W hW=>?_) ?_
     ·obtain ⟨⟨x0,x1,x2,x3,x4,x5,x6,x7,x8,x9,x10,x11,x12⟩,⟨y0,y1,y2,y3,y4,y5,y6,y7,y8,y9,y10,y11,y12⟩,_⟩:=HC.out W hW
      clear hW;go_simp
     refine tkL (i:=7) (v:=.agg (agArr g' p')) rfl rfl HS0 (fun W hW=>?_) ?_
     ·obtain ⟨⟨x0,x1,x2,x3,x4,x5,x6,x7,x8,x9,x10,x11,x12⟩,⟨y0,y1,y2,y3,y4,y5,y6,y7,y8,y9,y10,y11,y12⟩,_⟩:=HC.out W hW
      clear hW;go_simp
     simp only [sA,sB,sC];refine onE (i:=4) rfl (fun K hK=>?_);go_simp;refine (c_i_WeightAdd _ _ OK.out.s OK'.out.s _).mono ?_;rintro e wz ⟨rfl,hwz⟩;obtain rfl:=hwz.symm;dsimp only;refine hK.out _ _ (fun _=>HS0) ?_;clear hK K
     try simp only [Act.put,sA,sB,sC]
     refine onE (i:=6) rfl (fun K hK=>?_);go_simp;refine (c_partOfH (g:=g) (p:=p) _ HK1.out).mono ?_;rintro e w3 ⟨rfl,hb3⟩;have HB3:Hid (Below w2.heap.size w2 w3):=(HS0:Below w2.heap.size w2 w2.drew).trans (hb3.mono (Nat.le_refl _));clear hb3;dsimp only;refine hK.out _ _ (fun _=>HB3.out) ?_;clear hK K
     try simp only [Act.put,sA,sB,sC]
     have na1:=naH (.int .u64 g.z) (.slice p.pa g.P.length p.pc) (.slice p.na g.N.length p.nc) (.int .i64 g.x) (.int .u64 g.y);refine tkS (i:=9) (v:=.func (.method "loop.example/g00309/impl.merge") #[.iface 174 (.agg #[.int .u64 g.z,.slice p.pa g.P.length p.pc,.slice p.na g.N.length p.nc,.int .i64 g.x,.int .u64 g.y])] #[]) rfl rfl HB3.out ?_;refine tkS (i:=10) (v:=.func (.method "loop.example/g00309/impl.merge") #[.iface 174 (.agg #[.int .u64 g.z,.slice p.pa g.P.length p.pc,.slice p.na g.N.length p.nc,.int .i64 g.x,.int .u64 g.y])] #[]) rfl rfl HB3.out ?_;refine tkS (i:=11) (v:=.iface 174 (.agg #[.int .u64 g.z,.slice p.pa g.P.length p.pc,.slice p.na g.N.length p.nc,.int .i64 g.x,.int .u64 g.y])) rfl rfl HB3.out ?_;simp only [sA,sB,sC];refine onE (i:=8) rfl (fun K hK=>?_);go_simp;refine (c_partOfH (g:=g') (p:=p') _ HK2.out).mono ?_;rintro e w4 ⟨rfl,hb4⟩;have HB4:Hid (Below w2.heap.size w2 w4):=chain HB3.out hb4;have HA4:=hide (ag_past HA.out (chain HT2.out HB4.out));have HA4':=hide (ag_past HA'.out (chain HT2.out HB4.out));clear hb4;dsimp only;refine hK.out _ _ (fun _=>HB4.out) ?_;clear hK K
     try simp only [Act.put,sA,sB,sC]
     refine onE (i:=12) rfl (fun K hK=>?_);go_simp;refine (c_hmerge OK.out OK'.out SM.out SM'.out HA4.out HA4'.out NO.out.sk NO'.out.sk).mono ?_;rintro e w5 ⟨v5,rfl,ho5,hb5⟩;obtain ⟨vp,vn,pn,nn,rfl,o1,o2,hap⟩:=ho5;obtain ⟨pa,pc,rfl⟩:=o1.any;obtain ⟨na,nc,rfl⟩:=o2.any;obtain rfl:=o1.1;obtain rfl:=o2.1;have HO1:=hide o1;have HO2:=hide o2;have HAP:=hide hap;have HB5:Hid (Below w2.heap.size w2 w5):=chain HB4.out hb5;have hz4:=HB4.out.size;clear hb5 o1 o2 hap;dsimp only;refine hK.out _ _ (fun _=>HB5.out) ?_;clear hK K
     try simp only [Act.put,sA,sB,sC]
     refine onE (i:=13) rfl (fun K hK=>?_);go_simp;refine (c_aggWithH ⟨0,wAdd g.s g'.s,0,0,0,0,wAdd g.z g'.z,keepL (mrg g.P g'.P),keepL (mrg g.N g'.N),addH g.x g.y g'.x g'.y,addL g.y g'.y,[],[]⟩ ⟨pa,pc,na,nc,none,0,none,0⟩ _).mono ?_;rintro e w6 ⟨rfl,hb6⟩;have HB6:Hid (Below w2.heap.size w2 w6):=chain HB5.out hb6;have HB56:=hide hb6;clear hb6;dsimp only;refine hK.out _ _ (fun _=>HB6.out) ?_;clear hK K
     try simp only [Act.put,sA,sB,sC]
     have HR6:=hide (HC.out _ HB6.out).2.2;have q0:=cellK HR6.out 0 rfl;have q1:=cellK HR6.out 1 rfl;have q2:=cellK HR6.out 2 rfl;have q3:=cellK HR6.out 3 rfl;have q4:=cellK HR6.out 4 rfl;have q5:=cellK HR6.out 5 rfl;have q6:=cellK HR6.out 6 rfl;have q7:=cellK HR6.out 7 rfl;have q8:=cellK HR6.out 8 rfl;have q9:=cellK HR6.out 9 rfl;have q10:=cellK HR6.out 10 rfl;have q11:=cellK HR6.out 11 rfl;have q12:=cellK HR6.out 12 rfl;have f0:=fzR 0 HR6.out;have f1:=fzR 1 HR6.out;have f2:=fzR 2 HR6.out;have f3:=fzR 3 HR6.out;have f4:=fzR 4 HR6.out;have f5:=fzR 5 HR6.out;have f6:=fzR 6 HR6.out;have f7:=fzR 7 HR6.out;have f8:=fzR 8 HR6.out;have f9:=fzR 9 HR6.out;have f10:=fzR 10 HR6.out;have f11:=fzR 11 HR6.out;have f12:=fzR 12 HR6.out;refine onE (i:=14) rfl (fun K hK=>?_);go_simp;refine hK.out _ _ (fun h=>absurd rfl h) ?_;clear hK K
     try simp only [Act.put,sA,sB,sC]
     refine doneK (by kernel_rfl) ?_ _;go_wp2;refine bodyPost_ret (v:=.agg (agArr ⟨3,wAdd g.s g'.s,0,0,0,0,wAdd g.z g'.z,keepL (mrg g.P g'.P),keepL (mrg g.N g'.N),addH g.x g.y g'.x g'.y,addL g.y g'.y,[],[]⟩ ⟨pa,pc,na,nc,none,0,none,0⟩)) (by simp [results,Tryz.results54,go_sem,q0,q1,q2,q3,q4,q5,q6,q7,q8,q9,q10,q11,q12]) rfl (AgRes.mk (o:=⟨3,wAdd g.s g'.s,0,0,0,0,wAdd g.z g'.z,keepL (mrg g.P g'.P),keepL (mrg g.N g'.N),addH g.x g.y g'.x g'.y,addL g.y g'.y,[],[]⟩) (p:=⟨pa,pc,na,nc,none,0,none,0⟩) ?_ ?_ ?_)
     ·exact mrgH HG.out.1 HG.out.2.1 HG.out.2.2 HK1.out
     ·refine AgO.le (B:=w4.heap.size) ?_ (by omega)
      repeat (refine AgO.below ?_ (by omega) _)
      exact ⟨HO1.out.past HB56.out,HO2.out.past HB56.out,HAP.out,⟨rfl,World.ownsRow_nil _ _ _ _⟩,⟨rfl,World.ownsRow_nil _ _ _ _⟩⟩
     ·repeat (refine Below.setCell ?_ (by simp <;> omega) _)
      exact chain HT2.out HB6.out
    ·have HK1:=hide h
     have HK2:=hide (HG.out.2.2.symm.trans h);clear h;have HS0:(fun W=>Below w2.heap.size w2 W) w2.drew:=(Below.refl _ _).drew;refine regionK (fun W=>Below w2.heap.size w2 W) 14 (by kernel_rfl) ?_;refine tkL (i:=0) (v:=.pointer (some ⟨w.heap.size,1,none⟩)) rfl rfl HS0 (fun W hW=>?_) ?_
     ·obtain ⟨⟨x0,x1,x2,x3,x4,x5,x6,x7,x8,x9,x10,x11,x12⟩,⟨y0,y1,y2,y3,y4,y5,y6,y7,y8,y9,y10,y11,y12⟩,_⟩:=HC.out W hW
      clear hW;go_simp
     refine tkL (i:=1) (v:=.int .u64 g.s) rfl rfl HS0 (fun W hW=>?_) ?_
     ·obtain ⟨⟨x0,x1,x2,x3,x4,x5,x6,x7,x8,x9,x10,x11,x12⟩,⟨y0,y1,y2,y3,y4,y5,y6,y7,y8,y9,y10,y11,y12⟩,_⟩:=HC.out W hW
      clear hW;go_simp
     refine tkL (i:=2) (v:=.pointer (some ⟨w.heap.size+1,1,none⟩)) rfl rfl HS0 (fun W hW=>?_) ?_
     ·obtain ⟨⟨x0,x1,x2,x3,x4,x5,x6,x7,x8,x9,x10,x11,x12⟩,⟨y0,y1,y2,y3,y4,y5,y6,y7,y8,y9,y10,y11,y12⟩,_⟩:=HC.out W hW
      clear hW;go_simp
     simp only [sA,sB,sC];refine tkL (i:=3) (v:=.int .u64 g'.s) rfl rfl HS0 (fun W hW=>?_) ?_
     ·obtain ⟨⟨x0,x1,x2,x3,x4,x5,x6,x7,x8,x9,x10,x11,x12⟩,⟨y0,y1,y2,y3,y4,y5,y6,y7,y8,y9,y10,y11,y12⟩,_⟩:=HC.out W hW
      clear hW;go_simp
     refine tkL (i:=5) (v:=.agg (agArr g p)) rfl rfl HS0 (fun W hW=>?_) ?_
     ·obtain ⟨⟨x0,x1,x2,x3,x4,x5,x6,x7,x8,x9,x10,x11,x12⟩,⟨y0,y1,y2,y3,y4,y5,y6,y7,y8,y9,y10,y11,y12⟩,_⟩:=HC.out W hW
      clear hW;go_simp
     refine tkL (i:=7) (v:=.agg (agArr g' p')) rfl rfl HS0 (fun W hW=>?_) ?_
     ·obtain ⟨⟨x0,x1,x2,x3,x4,x5,x6,x7,x8,x9,x10,x11,x12⟩,⟨y0,y1,y2,y3,y4,y5,y6,y7,y8,y9,y10,y11,y12⟩,_⟩:=HC.out W hW
      clear hW;go_simp
     simp only [sA,sB,sC];refine onE (i:=4) rfl (fun K hK=>?_);go_simp;refine (c_i_WeightAdd _ _ OK.out.s OK'.out.s _).mono ?_;rintro e wz ⟨rfl,hwz⟩;obtain rfl:=hwz.symm;dsimp only;refine hK.out _ _ (fun _=>HS0) ?_;clear hK K
     try simp only [Act.put,sA,sB,sC]
     refine onE (i:=6) rfl (fun K hK=>?_);go_simp;refine (c_partOfS (g:=g) (p:=p) _ HK1.out).mono ?_;rintro e w3 ⟨rfl,hb3⟩;have HB3:Hid (Below w2.heap.size w2 w3):=(HS0:Below w2.heap.size w2 w2.drew).trans (hb3.mono (Nat.le_refl _));clear hb3;dsimp only;refine hK.out _ _ (fun _=>HB3.out) ?_;clear hK K
     try simp only [Act.put,sA,sB,sC]
     have na1:=naS (.slice p.ea g.E.length p.ec) (.slice p.ra g.R.length p.rc);refine tkS (i:=9) (v:=.func (.method "loop.example/g00309/impl.merge") #[.iface 176 (.agg #[.slice p.ea g.E.length p.ec,.slice p.ra g.R.length p.rc])] #[]) rfl rfl HB3.out ?_;refine tkS (i:=10) (v:=.func (.method "loop.example/g00309/impl.merge") #[.iface 176 (.agg #[.slice p.ea g.E.length p.ec,.slice p.ra g.R.length p.rc])] #[]) rfl rfl HB3.out ?_;refine tkS (i:=11) (v:=.iface 176 (.agg #[.slice p.ea g.E.length p.ec,.slice p.ra g.R.length p.rc])) rfl rfl HB3.out ?_;simp only [sA,sB,sC];refine onE (i:=8) rfl (fun K hK=>?_);go_simp;refine (c_partOfS (g:=g') (p:=p') _ HK2.out).mono ?_;rintro e w4 ⟨rfl,hb4⟩;have HB4:Hid (Below w2.heap.size w2 w4):=chain HB3.out hb4;have HA4:=hide (ag_past HA.out (chain HT2.out HB4.out));have HA4':=hide (ag_past HA'.out (chain HT2.out HB4.out));clear hb4;dsimp only;refine hK.out _ _ (fun _=>HB4.out) ?_;clear hK K
     try simp only [Act.put,sA,sB,sC]
     refine onE (i:=12) rfl (fun K hK=>?_);go_simp;refine (c_smerge OK.out OK'.out SM.out SM'.out HA4.out HA4'.out).mono ?_;rintro e w5 ⟨v5,E,R,rfl,hM,ho5,hb5⟩;obtain ⟨vp,vn,rfl,o1,o2⟩:=ho5;obtain ⟨pa,pc,rfl⟩:=own_any o1;obtain ⟨na,nc,rfl⟩:=own_any o2;have HO1:=hide o1;have HO2:=hide o2;have HM:=hide hM;have HB5:Hid (Below w2.heap.size w2 w5):=chain HB4.out hb5;have hz4:=HB4.out.size;clear hb5 o1 o2 hM;dsimp only;refine hK.out _ _ (fun _=>HB5.out) ?_;clear hK K
     try simp only [Act.put,sA,sB,sC]
     refine onE (i:=13) rfl (fun K hK=>?_);go_simp;refine (c_aggWithS ⟨0,wAdd g.s g'.s,0,0,0,0,0,[],[],0,0,E,R⟩ ⟨none,0,none,0,pa,pc,na,nc⟩ _).mono ?_;rintro e w6 ⟨rfl,hb6⟩;have HB6:Hid (Below w2.heap.size w2 w6):=chain HB5.out hb6;have HB56:=hide hb6;clear hb6;dsimp only;refine hK.out _ _ (fun _=>HB6.out) ?_;clear hK K
     try simp only [Act.put,sA,sB,sC]
     have HR6:=hide (HC.out _ HB6.out).2.2;have q0:=cellK HR6.out 0 rfl;have q1:=cellK HR6.out 1 rfl;have q2:=cellK HR6.out 2 rfl;have q3:=cellK HR6.out 3 rfl;have q4:=cellK HR6.out 4 rfl;have q5:=cellK HR6.out 5 rfl;have q6:=cellK HR6.out 6 rfl;have q7:=cellK HR6.out 7 rfl;have q8:=cellK HR6.out 8 rfl;have q9:=cellK HR6.out 9 rfl;have q10:=cellK HR6.out 10 rfl;have q11:=cellK HR6.out 11 rfl;have q12:=cellK HR6.out 12 rfl;have f0:=fzR 0 HR6.out;have f1:=fzR 1 HR6.out;have f2:=fzR 2 HR6.out;have f3:=fzR 3 HR6.out;have f4:=fzR 4 HR6.out;have f5:=fzR 5 HR6.out;have f6:=fzR 6 HR6.out;have f7:=fzR 7 HR6.out;have f8:=fzR 8 HR6.out;have f9:=fzR 9 HR6.out;have f10:=fzR 10 HR6.out;have f11:=fzR 11 HR6.out;have f12:=fzR 12 HR6.out;refine onE (i:=14) rfl (fun K hK=>?_);go_simp;refine hK.out _ _ (fun h=>absurd rfl h) ?_;clear hK K
     try simp only [Act.put,sA,sB,sC]
     refine doneK (by kernel_rfl) ?_ _;go_wp2;refine bodyPost_ret (v:=.agg (agArr ⟨4,wAdd g.s g'.s,0,0,0,0,0,[],[],0,0,E,R⟩ ⟨none,0,none,0,pa,pc,na,nc⟩)) (by simp [results,Tryz.results54,go_sem,q0,q1,q2,q3,q4,q5,q6,q7,q8,q9,q10,q11,q12]) rfl (AgRes.mk (o:=⟨4,wAdd g.s g'.s,0,0,0,0,0,[],[],0,0,E,R⟩) (p:=⟨none,0,none,0,pa,pc,na,nc⟩) ?_ ?_ ?_)
     ·exact mrgS HG.out.1 HG.out.2.1 HG.out.2.2 HK1.out HM.out
     ·refine AgO.le (B:=w4.heap.size) ?_ (by omega)
      repeat (refine AgO.below ?_ (by omega) _)
      exact ⟨⟨rfl,.inl ⟨rfl,rfl⟩⟩,⟨rfl,.inl ⟨rfl,rfl⟩⟩,(fun k e=>by cases e),⟨rfl,own_past HO1.out HB56.out⟩,⟨rfl,own_past HO2.out HB56.out⟩⟩
     ·repeat (refine Below.setCell ?_ (by simp <;> omega) _)
      exact chain HT2.out HB6.out
   ·have HQ:Hid (AgMrg g g' agZero):=mrg_no (fun h=>hk h.2.2)
    have HR2:=hide (HC.out _ (Below.refl _ _)).2.2;have hb:(g.k != g'.k)=true:=by simp [hk]
    obtain ⟨⟨x0,_⟩,⟨y0,_⟩,_⟩:=HC.out _ (Below.refl _ _);clear hq hq' hk;have q0:=cellK HR2.out 0 rfl;have q1:=cellK HR2.out 1 rfl;have q2:=cellK HR2.out 2 rfl;have q3:=cellK HR2.out 3 rfl;have q4:=cellK HR2.out 4 rfl;have q5:=cellK HR2.out 5 rfl;have q6:=cellK HR2.out 6 rfl;have q7:=cellK HR2.out 7 rfl;have q8:=cellK HR2.out 8 rfl;have q9:=cellK HR2.out 9 rfl;have q10:=cellK HR2.out 10 rfl;have q11:=cellK HR2.out 11 rfl;have q12:=cellK HR2.out 12 rfl;have f0:=fzR 0 HR2.out;have f1:=fzR 1 HR2.out;have f2:=fzR 2 HR2.out;have f3:=fzR 3 HR2.out;have f4:=fzR 4 HR2.out;have f5:=fzR 5 HR2.out;have f6:=fzR 6 HR2.out;have f7:=fzR 7 HR2.out;have f8:=fzR 8 HR2.out;have f9:=fzR 9 HR2.out;have f10:=fzR 10 HR2.out;have f11:=fzR 11 HR2.out;have f12:=fzR 12 HR2.out;go_wp2;refine bodyPost_ret (v:=.agg zeroAg) (by simp [results,Tryz.results54,go_sem,agZero,q0,q1,q2,q3,q4,q5,q6,q7,q8,q9,q10,q11,q12]) rfl (AgRes.mk (o:=agZero) (p:=pl0) HQ.out (AgO.nil _ _ rfl rfl rfl rfl) ?_)
    repeat (refine Below.setCell ?_ (by simp <;> omega) _)
    exact HT2.out
end Go.Proofs.YthchmdmncmioiaaGreatDoor
