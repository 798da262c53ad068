/-
 Two Aggs brought together: what they come to; the parts of the program.
-/
import Derived.Test.YthpilcoklapooaaGreatDoorAJE
import Derived.Test.YthpilcoklapooaaGreatDoorAJO
import Derived.Test.YthpilcoklapooaaGreatDoorAJP
import Derived.Test.YthpilcoklapooaaGreatDoorAJW
import Derived.Test.YthpilcoklapooaaGreatDoorAJQ
import Derived.Test.YthpilcoklapooaaGreatDoorAJA
import Derived.Test.YthpilcoklapooaaGreatDoorAJX
import Derived.Deep.RegionHeld3
namespace Go.Proofs.YthpilcoklapooaaGreatDoor
set_option linter.unusedVariables false
set_option linter.unusedSimpArgs false
open Go.ChangeShapes Go.WideShapes Go.ChangeAt Go.RowKit Go.PlainAid Go.Lib
set_option maxRecDepth 10000
/-- Does the second of two gauges count? -/
def gLate (a t a' t':Int):Bool:=decide (t<t') || ((t' == t) && decide (a<a'))
def gA (a t a' t':Int):Int:=if gLate a t a' t'=true then a' else a
def gT (a t a' t':Int):Int:=if gLate a t a' t'=true then t' else t
/-- An Agg that owns its lists. -/
structure AgO (w:World) (B:Nat) (o:Ag) (p:Pl):Prop where
 P:OwnB w B (.slice p.pa o.P.length p.pc) o.P.length o.P
 N:OwnB w B (.slice p.na o.N.length p.nc) o.N.length o.N
 ap:Apart (.slice p.pa o.P.length p.pc) (.slice p.na o.N.length p.nc)
 E:OwnN .u64 23 w B (.slice p.ea o.E.length p.ec) o.E.length o.E
 R:OwnN .i64 2 w B (.slice p.ra o.R.length p.rc) o.R.length o.R
def AgOut (w:World) (B:Nat) (v:Value) (o:Ag):Prop:=∃ p,v=.agg (agArr o p)∧AgO w B o p
def agZero:Ag:=⟨0,0,0,0,0,0,0,[],[],0,0,[],[]⟩
/-- Two right ones of one kind, field by field. -/
def agMg (g g':Ag) (E R:List Int):Ag:=⟨g.k,wAdd g.s g'.s,addH g.h g.l g'.h g'.l,addL g.l g'.l,if g.k=2 then gA g.a g.t g'.a g'.t else 0,if g.k=2 then gT g.a g.t g'.a g'.t else 0,wAdd g.z g'.z,keepL (mrg g.P g'.P),keepL (mrg g.N g'.N),addH g.x g.y g'.x g'.y,addL g.y g'.y,E,R⟩
/-- What two Aggs come to. -/
def AgMrg (g g' o:Ag):Prop:=if agB g=true∧agB g'=true∧g.k=g'.k then ∃ E R,Mg g.E g.R g'.E g'.R E R∧o=agMg g g' E R else o=agZero
theorem AgMrg.one {g g' o o':Ag} (h:AgMrg g g' o) (k:AgMrg g g' o'):o=o':=by
 unfold AgMrg at h k
 split at h
 ·rw [if_pos (by assumption)] at k
  obtain ⟨E,R,m,rfl⟩:=h
  obtain ⟨E',R',m',rfl⟩:=k
  obtain ⟨rfl,rfl⟩:=m.one m'
  rfl
 ·rw [if_neg (by assumption)] at k
  exact h.trans k.symm
/-- What is nought in a right one. -/
structure AgNo (g:Ag):Prop where
 k1:1≤g.k
 k4:g.k≤4
 sk:skB g.P g.N=true
 hl:hlB g.E g.R=true
 nc:g.k≠1→g.h=0∧g.l=0
 ng:g.k≠2→g.a=0∧g.t=0
 nh:g.k≠3→g.z=0∧g.x=0∧g.y=0∧g.P=[]∧g.N=[]
 ns:g.k≠4→g.E=[]∧g.R=[]
theorem agB_no {g:Ag} (h:agB g=true):AgNo g:=by
 unfold agB at h
 simp only [Bool.and_eq_true,Bool.or_eq_true,decide_eq_true_eq,beq_iff_eq,noS_iff,noH_iff] at h
 obtain ⟨⟨⟨⟨⟨⟨⟨h1,h2⟩,h3⟩,h4⟩,h5⟩,h6⟩,h7⟩,h8⟩:=h
 refine ⟨h1,h2,h3,h4,fun n=>?_,fun n=>?_,fun n=>?_,fun n=>?_⟩
 ·rcases h5 with h | h
  ·exact absurd h n
  ·simpa [sumZ] using h
 ·rw [if_neg n] at h8;simpa using h8
 ·exact h6.elim (fun e=>absurd e n) id
 ·exact h7.elim (fun e=>absurd e n) id
theorem mg_nil:Mg [] [] [] [] [] []:=.inl ⟨rfl,rfl,by simp [allU,uniU],rfl,rfl⟩
theorem keep_nil:keepL (mrg [] [])=[]:=by simp [mrg,keepL]
theorem wAdd_nil:wAdd 0 0=0:=by decide
theorem addH_nil:addH 0 0 0 0=0:=by decide +kernel
theorem addL_nil:addL 0 0=0:=by decide
/-- The program's answer, kind by kind. -/
theorem mrgC {g g':Ag} (h:agB g=true) (h':agB g'=true) (e:g.k=g'.k) (k:g.k=1):AgMrg g g' ⟨1,wAdd g.s g'.s,addH g.h g.l g'.h g'.l,addL g.l g'.l,0,0,0,[],[],0,0,[],[]⟩:=by
 have n:=agB_no h
 have n':=agB_no h'
 unfold AgMrg
 rw [if_pos ⟨h,h',e⟩]
 obtain ⟨a1,a2,a3,a4,a5⟩:=n.nh (by omega)
 obtain ⟨b1,b2,b3,b4,b5⟩:=n'.nh (by omega)
 obtain ⟨c1,c2⟩:=n.ns (by omega)
 obtain ⟨d1,d2⟩:=n'.ns (by omega)
 refine ⟨[],[],by rw [c1,c2,d1,d2];exact mg_nil,?_⟩
 unfold agMg
 rw [if_neg (by omega),if_neg (by omega),a1,a2,a3,a4,a5,b1,b2,b3,b4,b5,k,keep_nil,wAdd_nil,addH_nil,addL_nil]
theorem mrgG {g g':Ag} (h:agB g=true) (h':agB g'=true) (e:g.k=g'.k) (k:g.k=2):AgMrg g g' ⟨2,wAdd g.s g'.s,0,0,gA g.a g.t g'.a g'.t,gT g.a g.t g'.a g'.t,0,[],[],0,0,[],[]⟩:=by
 have n:=agB_no h
 have n':=agB_no h'
 unfold AgMrg
 rw [if_pos ⟨h,h',e⟩]
 obtain ⟨a1,a2,a3,a4,a5⟩:=n.nh (by omega)
 obtain ⟨b1,b2,b3,b4,b5⟩:=n'.nh (by omega)
 obtain ⟨c1,c2⟩:=n.ns (by omega)
 obtain ⟨d1,d2⟩:=n'.ns (by omega)
 obtain ⟨e1,e2⟩:=n.nc (by omega)
 obtain ⟨f1,f2⟩:=n'.nc (by omega)
 refine ⟨[],[],by rw [c1,c2,d1,d2];exact mg_nil,?_⟩
 unfold agMg
 rw [if_pos k,if_pos k,a1,a2,a3,a4,a5,b1,b2,b3,b4,b5,e1,e2,f1,f2,k,keep_nil,wAdd_nil,addH_nil,addL_nil]
theorem mrgH {g g':Ag} (h:agB g=true) (h':agB g'=true) (e:g.k=g'.k) (k:g.k=3):AgMrg g g' ⟨3,wAdd g.s g'.s,0,0,0,0,wAdd g.z g'.z,keepL (mrg g.P g'.P),keepL (mrg g.N g'.N),addH g.x g.y g'.x g'.y,addL g.y g'.y,[],[]⟩:=by
 have n:=agB_no h
 have n':=agB_no h'
 unfold AgMrg
 rw [if_pos ⟨h,h',e⟩]
 obtain ⟨c1,c2⟩:=n.ns (by omega)
 obtain ⟨d1,d2⟩:=n'.ns (by omega)
 obtain ⟨e1,e2⟩:=n.nc (by omega)
 obtain ⟨f1,f2⟩:=n'.nc (by omega)
 refine ⟨[],[],by rw [c1,c2,d1,d2];exact mg_nil,?_⟩
 unfold agMg
 rw [if_neg (by omega),if_neg (by omega),e1,e2,f1,f2,k,addH_nil,addL_nil]
theorem mrgS {g g':Ag} {E R:List Int} (h:agB g=true) (h':agB g'=true) (e:g.k=g'.k) (k:g.k=4) (m:MrgH g.E g.R g'.E g'.R E R):AgMrg g g' ⟨4,wAdd g.s g'.s,0,0,0,0,0,[],[],0,0,E,R⟩:=by
 have n:=agB_no h
 have n':=agB_no h'
 unfold AgMrg
 rw [if_pos ⟨h,h',e⟩]
 obtain ⟨a1,a2,a3,a4,a5⟩:=n.nh (by omega)
 obtain ⟨b1,b2,b3,b4,b5⟩:=n'.nh (by omega)
 obtain ⟨e1,e2⟩:=n.nc (by omega)
 obtain ⟨f1,f2⟩:=n'.nc (by omega)
 unfold MrgH at m
 rw [if_pos ⟨n.hl,n'.hl⟩] at m
 refine ⟨E,R,m,?_⟩
 unfold agMg
 rw [if_neg (by omega),if_neg (by omega),a1,a2,a3,a4,a5,b1,b2,b3,b4,b5,e1,e2,f1,f2,k,keep_nil,wAdd_nil,addH_nil,addL_nil]
theorem fdC (a b:Value) (w:World):(Instr.field 171 (.agg #[a,b]) 0).run Tryz.prog w=.ok (.agg #[a,b]) w:=by kernel_rfl
theorem fdH (a b c d e:Value) (w:World):(Instr.field 175 (.agg #[a,b,c,d,e]) 0).run Tryz.prog w=.ok (.agg #[a,b,c,d,e]) w:=by kernel_rfl
theorem fdS (a b:Value) (w:World):(Instr.field 177 (.agg #[a,b]) 0).run Tryz.prog w=.ok (.agg #[a,b]) w:=by kernel_rfl
theorem tfC (v:Value) (w:World):(Instr.typeAssert (.iface 171 v) 103 171 false).run Tryz.prog w=.ok v w:=by kernel_rfl
theorem tfG (v:Value) (w:World):(Instr.typeAssert (.iface 173 v) 103 173 false).run Tryz.prog w=.ok v w:=by kernel_rfl
theorem tfH (v:Value) (w:World):(Instr.typeAssert (.iface 175 v) 103 175 false).run Tryz.prog w=.ok v w:=by kernel_rfl
theorem tfS (v:Value) (w:World):(Instr.typeAssert (.iface 177 v) 103 177 false).run Tryz.prog w=.ok v w:=by kernel_rfl
/-- The cells of a block. -/
theorem cellK {w:World} {r:Nat} {cs:Array Value} {T:TypeId} (h:w.heap[r]?=some (.cells cs T (0,0))) (j:Nat) {v:Value} (e:cs[j]?=some v):w.cell? ⟨r,j,none⟩=some v:=by rw [cell_of_row _ _ j _ _ (0,0) h];exact e
set_option maxHeartbeats 2000000 in
theorem c_cmerge (h l h' l':Int) (w:World) (ul:U64 l) (ul':U64 l'):Calls Tryz.prog 292 #[.agg #[.int .i64 h,.int .u64 l],.iface 171 (.agg #[.int .i64 h',.int .u64 l'])] w fun e w'=>e=.returned (.iface 171 (.agg #[.int .i64 (addH h l h' l'),.int .u64 (addL l l')]))∧Below w.heap.size w w':=by
 have t1:=tfC (.agg #[.int .i64 h',.int .u64 l'])
 have t2:=fdC (.int .i64 h') (.int .u64 l')
 have UL:=hide ul
 have UL':=hide ul'
 clear ul ul'
 have HB:Hid (∀ o,Below w.heap.size w (w.alloc o)):=fun o=>(Below.refl _ _).alloc (Nat.le_refl _) o
 have HN:=hide (heap_alloc_new w (.cells #[.int .i64 h,.int .u64 l] 171))
 go_enter Tryz.func292,Tryz.ntmps292
 go_wp2_with fail
 generalize hW0:w.alloc (Obj.cells #[.int .i64 h,.int .u64 l] 171)=W0 at HN
 have T0:Below w.heap.size w W0.drew:=by rw [← hW0];exact (HB.out _).drew
 have hs0:w.heap.size<W0.heap.size:=by rw [← hW0];simp
 have HT0:=hide T0
 clear hW0 T0
 have R0:W0.drew.heap[w.heap.size]?=some (.cells #[.int .i64 h,.int .u64 l] 171 (0,0)):=HN.out
 refine regionK (fun W=>W.heap[w.heap.size]?=some (.cells #[.int .i64 h,.int .u64 l] 171 (0,0))) 9 (by kernel_rfl) ?_
 refine tkL (i:=0) (d:=5) (v:=.pointer (some ⟨w.heap.size,0,none⟩)) rfl rfl R0 (fun W hW=>by clear hW;go_simp) ?_
 refine tkL (i:=1) (d:=6) (v:=.agg #[.int .i64 h,.int .u64 l]) rfl rfl R0 (fun W hW=>?_) ?_
 ·have x0:=cellK hW 0 rfl
  have x1:=cellK hW 1 rfl
  clear hW
  go_simp
 refine tkL (i:=2) (d:=7) (v:=.iface 171 (.agg #[.int .i64 h',.int .u64 l'])) rfl rfl R0 (fun W hW=>by clear hW;go_simp) ?_
 simp only [sA,sB,sC]
 refine tkL (i:=3) (d:=8) (v:=.agg #[.int .i64 h',.int .u64 l']) rfl rfl R0 (fun W hW=>by clear hW;go_simp) ?_
 refine tkL (i:=4) (d:=9) (v:=.agg #[.int .i64 h',.int .u64 l']) rfl rfl R0 (fun W hW=>by clear hW;go_simp) ?_
 simp only [sA,sB,sC]
 refine onE (i:=5) rfl (fun K hK=>?_)
 go_simp
 refine (c_i_WideAdd _ _ _ _ _ UL.out UL'.out).mono ?_
 rintro e w1 ⟨rfl,hb1⟩
 have R1:=(hb1.block _ (by show w.heap.size<W0.heap.size;exact hs0)).trans R0
 have HT1:=hide (chain HT0.out hb1)
 clear hb1
 dsimp only
 refine hK.out _ _ (fun _=>R1) ?_
 clear hK K
 try simp only [Act.put,sA,sB,sC]
 refine tkL (i:=6) (d:=11) (v:=.agg #[.int .i64 (addH h l h' l'),.int .u64 (addL l l')]) rfl rfl R1 (fun W hW=>by clear hW;go_simp) ?_
 refine tkL (i:=7) (d:=12) (v:=.iface 171 (.agg #[.int .i64 (addH h l h' l'),.int .u64 (addL l l')])) rfl rfl R1 (fun W hW=>by clear hW;go_simp) ?_
 simp only [sA,sB,sC]
 refine onE (i:=8) rfl (fun K hK=>?_)
 go_simp
 refine hK.out _ _ (fun _=>R1) ?_
 clear hK K
 try simp only [Act.put,sA,sB,sC]
 refine doneK (by kernel_rfl) ?_ _
 go_wp2
 go_ret
 exact ⟨rfl,HT1.out⟩
set_option maxHeartbeats 2000000 in
theorem c_hmerge {w:World} {g g':Ag} {p p':Pl} (ok:AgOk g) (ok':AgOk g') (sm:AgSm g) (sm':AgSm g') (hA:AgAt w g p) (hA':AgAt w g' p') (sk:skB g.P g.N=true) (sk':skB g'.P g'.N=true):Calls Tryz.prog 301 #[.agg #[.int .u64 g.z,.slice p.pa g.P.length p.pc,.slice p.na g.N.length p.nc,.int .i64 g.x,.int .u64 g.y],.iface 175 (.agg #[.int .u64 g'.z,.slice p'.pa g'.P.length p'.pc,.slice p'.na g'.N.length p'.nc,.int .i64 g'.x,.int .u64 g'.y])] w fun e w'=>∃ v,e=.returned (.iface 175 v)∧SkOut w' w.heap.size v (wAdd g.z g'.z) (keepL (mrg g.P g'.P)) (keepL (mrg g.N g'.N)) (addH g.x g.y g'.x g'.y) (addL g.y g'.y)∧Below w.heap.size w w':=by
 have t1:=tfH (.agg #[.int .u64 g'.z,.slice p'.pa g'.P.length p'.pc,.slice p'.na g'.N.length p'.nc,.int .i64 g'.x,.int .u64 g'.y])
 have t2:=fdH (.int .u64 g'.z) (.slice p'.pa g'.P.length p'.pc) (.slice p'.na g'.N.length p'.nc) (.int .i64 g'.x) (.int .u64 g'.y)
 have OK:=hide ok
 have OK':=hide ok'
 have SM:=hide sm
 have SM':=hide sm'
 have HA:=hide hA
 have HA':=hide hA'
 have SK:=hide sk
 have SK':=hide sk'
 clear ok ok' sm sm' hA hA' sk sk'
 have HB:Hid (∀ o,Below w.heap.size w (w.alloc o)):=fun o=>(Below.refl _ _).alloc (Nat.le_refl _) o
 have HN:=hide (heap_alloc_new w (.cells #[.int .u64 g.z,.slice p.pa g.P.length p.pc,.slice p.na g.N.length p.nc,.int .i64 g.x,.int .u64 g.y] 175))
 go_enter Tryz.func301,Tryz.ntmps301
 go_wp2_with fail
 generalize hW0:w.alloc (Obj.cells #[.int .u64 g.z,.slice p.pa g.P.length p.pc,.slice p.na g.N.length p.nc,.int .i64 g.x,.int .u64 g.y] 175)=W0 at HN
 have T0:Below w.heap.size w W0.drew:=by rw [← hW0];exact (HB.out _).drew
 have hs0:w.heap.size<W0.heap.size:=by rw [← hW0];simp
 have HT0:=hide T0
 clear hW0 T0
 have R0:W0.drew.heap[w.heap.size]?=some (.cells #[.int .u64 g.z,.slice p.pa g.P.length p.pc,.slice p.na g.N.length p.nc,.int .i64 g.x,.int .u64 g.y] 175 (0,0)):=HN.out
 refine regionK (fun W=>W.heap[w.heap.size]?=some (.cells #[.int .u64 g.z,.slice p.pa g.P.length p.pc,.slice p.na g.N.length p.nc,.int .i64 g.x,.int .u64 g.y] 175 (0,0))) 9 (by kernel_rfl) ?_
 refine tkL (i:=0) (d:=5) (v:=.pointer (some ⟨w.heap.size,0,none⟩)) rfl rfl R0 (fun W hW=>by clear hW;go_simp) ?_
 refine tkL (i:=1) (d:=6) (v:=.agg #[.int .u64 g.z,.slice p.pa g.P.length p.pc,.slice p.na g.N.length p.nc,.int .i64 g.x,.int .u64 g.y]) rfl rfl R0 (fun W hW=>?_) ?_
 ·have x0:=cellK hW 0 rfl
  have x1:=cellK hW 1 rfl
  have x2:=cellK hW 2 rfl
  have x3:=cellK hW 3 rfl
  have x4:=cellK hW 4 rfl
  clear hW
  go_simp
 refine tkL (i:=2) (d:=7) (v:=.iface 175 (.agg #[.int .u64 g'.z,.slice p'.pa g'.P.length p'.pc,.slice p'.na g'.N.length p'.nc,.int .i64 g'.x,.int .u64 g'.y])) rfl rfl R0 (fun W hW=>by clear hW;go_simp) ?_
 simp only [sA,sB,sC]
 refine tkL (i:=3) (d:=8) (v:=.agg #[.int .u64 g'.z,.slice p'.pa g'.P.length p'.pc,.slice p'.na g'.N.length p'.nc,.int .i64 g'.x,.int .u64 g'.y]) rfl rfl R0 (fun W hW=>by clear hW;go_simp) ?_
 refine tkL (i:=4) (d:=9) (v:=.agg #[.int .u64 g'.z,.slice p'.pa g'.P.length p'.pc,.slice p'.na g'.N.length p'.nc,.int .i64 g'.x,.int .u64 g'.y]) rfl rfl R0 (fun W hW=>by clear hW;go_simp) ?_
 simp only [sA,sB,sC]
 refine onE (i:=5) rfl (fun K hK=>?_)
 go_simp
 refine (c_i_SketchMerge OK.out.z OK.out.y OK'.out.z OK'.out.y rfl rfl rfl rfl SM.out.P SM.out.N SM'.out.P SM'.out.N (bins_past HA.out.P HT0.out) (bins_past HA.out.N HT0.out) (bins_past HA'.out.P HT0.out) (bins_past HA'.out.N HT0.out) OK.out.P OK.out.N OK'.out.P OK'.out.N).mono ?_
 rintro e w1 ⟨v1,rfl,hb1,hq1⟩
 have ho:SkOut w1 W0.heap.size v1 (wAdd g.z g'.z) (keepL (mrg g.P g'.P)) (keepL (mrg g.N g'.N)) (addH g.x g.y g'.x g'.y) (addL g.y g'.y):=by
  rcases hq1 with ⟨ok,ho⟩ | ⟨no,_⟩
  ·rw [gat_mrg (sk_rise ok.1).1.1 (sk_rise ok.2).1.1,gat_mrg (sk_rise ok.1).2.1 (sk_rise ok.2).2.1] at ho
   exact ho
  ·exact absurd ⟨SK.out,SK'.out⟩ no
 obtain ⟨vp,vn,pn,nn,rfl,o1,o2,hap⟩:=ho
 have HO:=hide (And.intro (o1.le (Nat.le_of_lt hs0)) (And.intro (o2.le (Nat.le_of_lt hs0)) hap))
 clear hq1 o1 o2 hap
 have R1:=(hb1.block _ (by show w.heap.size<W0.heap.size;exact hs0)).trans R0
 have HT1:=hide (chain HT0.out hb1)
 clear hb1
 dsimp only
 refine hK.out _ _ (fun _=>R1) ?_
 clear hK K
 try simp only [Act.put,sA,sB,sC]
 refine tkL (i:=6) (d:=11) (v:=.agg #[.int .u64 (wAdd g.z g'.z),vp,vn,.int .i64 (addH g.x g.y g'.x g'.y),.int .u64 (addL g.y g'.y)]) rfl rfl R1 (fun W hW=>by clear hW;go_simp) ?_
 refine tkL (i:=7) (d:=12) (v:=.iface 175 (.agg #[.int .u64 (wAdd g.z g'.z),vp,vn,.int .i64 (addH g.x g.y g'.x g'.y),.int .u64 (addL g.y g'.y)])) rfl rfl R1 (fun W hW=>by clear hW;go_simp) ?_
 simp only [sA,sB,sC]
 refine onE (i:=8) rfl (fun K hK=>?_)
 go_simp
 refine hK.out _ _ (fun _=>R1) ?_
 clear hK K
 try simp only [Act.put,sA,sB,sC]
 refine doneK (by kernel_rfl) ?_ _
 go_wp2
 go_ret
 exact ⟨_,rfl,⟨vp,vn,pn,nn,rfl,HO.out.1,HO.out.2.1,HO.out.2.2⟩,HT1.out⟩
set_option maxHeartbeats 2000000 in
theorem c_smerge {w:World} {g g':Ag} {p p':Pl} (ok:AgOk g) (ok':AgOk g') (sm:AgSm g) (sm':AgSm g') (hA:AgAt w g p) (hA':AgAt w g' p'):Calls Tryz.prog 322 #[.agg #[.slice p.ea g.E.length p.ec,.slice p.ra g.R.length p.rc],.iface 177 (.agg #[.slice p'.ea g'.E.length p'.ec,.slice p'.ra g'.R.length p'.rc])] w fun e w'=>∃ v E R,e=.returned (.iface 177 v)∧MrgH g.E g.R g'.E g'.R E R∧HlOut w' w.heap.size v E R∧Below w.heap.size w w':=by
 have t1:=tfS (.agg #[.slice p'.ea g'.E.length p'.ec,.slice p'.ra g'.R.length p'.rc])
 have t2:=fdS (.slice p'.ea g'.E.length p'.ec) (.slice p'.ra g'.R.length p'.rc)
 have OK:=hide ok
 have OK':=hide ok'
 have SM:=hide sm
 have SM':=hide sm'
 have HA:=hide hA
 have HA':=hide hA'
 clear ok ok' sm sm' hA hA'
 have HB:Hid (∀ o,Below w.heap.size w (w.alloc o)):=fun o=>(Below.refl _ _).alloc (Nat.le_refl _) o
 have HN:=hide (heap_alloc_new w (.cells #[.slice p.ea g.E.length p.ec,.slice p.ra g.R.length p.rc] 177))
 go_enter Tryz.func322,Tryz.ntmps322
 go_wp2_with fail
 generalize hW0:w.alloc (Obj.cells #[.slice p.ea g.E.length p.ec,.slice p.ra g.R.length p.rc] 177)=W0 at HN
 have T0:Below w.heap.size w W0.drew:=by rw [← hW0];exact (HB.out _).drew
 have hs0:w.heap.size<W0.heap.size:=by rw [← hW0];simp
 have HT0:=hide T0
 clear hW0 T0
 have R0:W0.drew.heap[w.heap.size]?=some (.cells #[.slice p.ea g.E.length p.ec,.slice p.ra g.R.length p.rc] 177 (0,0)):=HN.out
 refine regionK (fun W=>W.heap[w.heap.size]?=some (.cells #[.slice p.ea g.E.length p.ec,.slice p.ra g.R.length p.rc] 177 (0,0))) 9 (by kernel_rfl) ?_
 refine tkL (i:=0) (d:=5) (v:=.pointer (some ⟨w.heap.size,0,none⟩)) rfl rfl R0 (fun W hW=>by clear hW;go_simp) ?_
 refine tkL (i:=1) (d:=6) (v:=.agg #[.slice p.ea g.E.length p.ec,.slice p.ra g.R.length p.rc]) rfl rfl R0 (fun W hW=>?_) ?_
 ·have x0:=cellK hW 0 rfl
  have x1:=cellK hW 1 rfl
  clear hW
  go_simp
 refine tkL (i:=2) (d:=7) (v:=.iface 177 (.agg #[.slice p'.ea g'.E.length p'.ec,.slice p'.ra g'.R.length p'.rc])) rfl rfl R0 (fun W hW=>by clear hW;go_simp) ?_
 simp only [sA,sB,sC]
 refine tkL (i:=3) (d:=8) (v:=.agg #[.slice p'.ea g'.E.length p'.ec,.slice p'.ra g'.R.length p'.rc]) rfl rfl R0 (fun W hW=>by clear hW;go_simp) ?_
 refine tkL (i:=4) (d:=9) (v:=.agg #[.slice p'.ea g'.E.length p'.ec,.slice p'.ra g'.R.length p'.rc]) rfl rfl R0 (fun W hW=>by clear hW;go_simp) ?_
 simp only [sA,sB,sC]
 refine onE (i:=5) rfl (fun K hK=>?_)
 go_simp
 refine (c_i_HllMerge rfl rfl rfl rfl SM.out.E SM.out.R SM'.out.E SM'.out.R (nums_past HA.out.E HT0.out) (nums_past HA.out.R HT0.out) (nums_past HA'.out.E HT0.out) (nums_past HA'.out.R HT0.out) OK.out.E OK'.out.E).mono ?_
 rintro e w1 ⟨v1,E,R,rfl,hM,⟨vp,vn,rfl,o1,o2⟩,hb1⟩
 have HM:=hide hM
 have HO:=hide (And.intro (own_le o1 (Nat.le_of_lt hs0)) (own_le o2 (Nat.le_of_lt hs0)))
 clear hM o1 o2
 have R1:=(hb1.block _ (by show w.heap.size<W0.heap.size;exact hs0)).trans R0
 have HT1:=hide (chain HT0.out hb1)
 clear hb1
 dsimp only
 refine hK.out _ _ (fun _=>R1) ?_
 clear hK K
 try simp only [Act.put,sA,sB,sC]
 refine tkL (i:=6) (d:=11) (v:=.agg #[vp,vn]) rfl rfl R1 (fun W hW=>by clear hW;go_simp) ?_
 refine tkL (i:=7) (d:=12) (v:=.iface 177 (.agg #[vp,vn])) rfl rfl R1 (fun W hW=>by clear hW;go_simp) ?_
 simp only [sA,sB,sC]
 refine onE (i:=8) rfl (fun K hK=>?_)
 go_simp
 refine hK.out _ _ (fun _=>R1) ?_
 clear hK K
 try simp only [Act.put,sA,sB,sC]
 refine doneK (by kernel_rfl) ?_ _
 go_wp2
 go_ret
 exact ⟨_,E,R,rfl,HM.out,⟨vp,vn,rfl,HO.out.1,HO.out.2⟩,HT1.out⟩
theorem gA_late {a t a' t':Int} (h:gLate a t a' t'=true):gA a t a' t'=a'∧gT a t a' t'=t':=⟨if_pos h,if_pos h⟩
theorem gA_not {a t a' t':Int} (h:¬ gLate a t a' t'=true):gA a t a' t'=a∧gT a t a' t'=t:=⟨if_neg h,if_neg h⟩
theorem ret_g {T:TypeId} {a t a' t':Int} (h:a'=a∧t'=t):Ending.returned (.iface T (.agg #[.int .i64 a,.int .i64 t]))=.returned (.iface T (.agg #[.int .i64 a',.int .i64 t'])):=by rw [h.1,h.2]
set_option maxHeartbeats 4000000 in
theorem c_gmerge (a t a' t':Int) (w:World):Calls Tryz.prog 298 #[.agg #[.int .i64 a,.int .i64 t],.iface 173 (.agg #[.int .i64 a',.int .i64 t'])] w fun e w'=>e=.returned (.iface 173 (.agg #[.int .i64 (gA a t a' t'),.int .i64 (gT a t a' t')]))∧Below w.heap.size w w':=by
 have t1:=tfG (.agg #[.int .i64 a',.int .i64 t'])
 have HB:Hid (∀ o o',Below w.heap.size w ((w.alloc o).alloc o')):=fun o o'=>((Below.refl _ _).alloc (Nat.le_refl _) o).alloc (by simp) o'
 by_cases h1:t<t'
 ·have HE:Hid (gA a t a' t'=a'∧gT a t a' t'=t'):=gA_late (by simp [gLate,h1])
  have d1:decide (t<t')=true:=decide_eq_true h1
  go_enter Tryz.func298,Tryz.ntmps298
  go_wp2
  go_ret
  exact ⟨ret_g HE.out,HB.out _ _⟩
 ·have d1:decide (t<t')=false:=decide_eq_false h1
  by_cases h2:t'=t
  ·subst h2
   by_cases h3:a<a'
   ·have HE:Hid (gA a t' a' t'=a'∧gT a t' a' t'=t'):=gA_late (by simp [gLate,h3])
    have d3:decide (a<a')=true:=decide_eq_true h3
    go_enter Tryz.func298,Tryz.ntmps298
    go_wp2
    go_ret
    exact ⟨ret_g HE.out,HB.out _ _⟩
   ·have HE:Hid (gA a t' a' t'=a∧gT a t' a' t'=t'):=gA_not (by simp [gLate,h3])
    have d3:decide (a<a')=false:=decide_eq_false h3
    go_enter Tryz.func298,Tryz.ntmps298
    go_wp2
    go_ret
    exact ⟨ret_g HE.out,HB.out _ _⟩
  ·have HE:Hid (gA a t a' t'=a∧gT a t a' t'=t):=gA_not (by simp [gLate,h1,h2])
   have d2:(t' == t)=false:=beq_eq_false_iff_ne.2 h2
   go_enter Tryz.func298,Tryz.ntmps298
   go_wp2
   go_ret
   exact ⟨ret_g HE.out,HB.out _ _⟩
end Go.Proofs.YthpilcoklapooaaGreatDoor
