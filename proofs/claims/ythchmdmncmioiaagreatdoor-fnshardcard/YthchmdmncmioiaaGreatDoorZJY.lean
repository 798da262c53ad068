/-
 Two Aggs brought together: what they come to; the parts of the program.
-/
import Derived.Test.YthchmdmncmioiaaGreatDoorZJE
import Derived.Test.YthchmdmncmioiaaGreatDoorZJO
import Derived.Test.YthchmdmncmioiaaGreatDoorZJV
import Derived.Test.YthchmdmncmioiaaGreatDoorZJX
set_option maxHeartbeats 16000000
namespace Go.Proofs.YthchmdmncmioiaaGreatDoor
set_option linter.unusedVariables false
set_option linter.unusedSimpArgs false
open Go.ChangeShapes Go.WideShapes Go.ChangeAt Go.RowKit Go.PlainAid Go.Lib
set_option maxRecDepth 10000
def QdL (a t a' t':Int):Bool:=decide (t<t') || ((t' == t) && decide (a<a'))
def gA (a t a' t':Int):Int:=if QdL a t a' t'=true then a' else a
def gT (a t a' t':Int):Int:=if QdL a t a' t'=true then t' else t
structure AgO (w:World) (B:Nat) (o:Ag) (p:Pl):Prop where
 P:OwnB w B (.slice p.pa o.P.length p.pc) o.P.length o.P
 N:OwnB w B (.slice p.na o.N.length p.nc) o.N.length o.N
 ap:QdX (.slice p.pa o.P.length p.pc) (.slice p.na o.N.length p.nc)
 E:OwnN .u64 26 w B (.slice p.ea o.E.length p.ec) o.E.length o.E
 R:OwnN .i64 2 w B (.slice p.ra o.R.length p.rc) o.R.length o.R
def AgOut (w:World) (B:Nat) (v:Value) (o:Ag):Prop:=∃ p,v=.agg (Qal o p)/\AgO w B o p
def QbA:Ag:=⟨0,0,0,0,0,0,0,[],[],0,0,[],[]⟩
def QoD (g g':Ag) (E R:List Int):Ag:=⟨g.k,QaA g.s g'.s,Qbp g.h g.l g'.h g'.l,Qbu g.l g'.l,if g.k=2 then gA g.a g.t g'.a g'.t else 0,if g.k=2 then gT g.a g.t g'.a g'.t else 0,QaA g.z g'.z,QaJ (mrg g.P g'.P),QaJ (mrg g.N g'.N),Qbp g.x g.y g'.x g'.y,Qbu g.y g'.y,E,R⟩
def AgMrg (g g' o:Ag):Prop:=if agB g=true/\agB g'=true/\g.k=g'.k then ∃ E R,Mg g.E g.R g'.E g'.R E R/\o=QoD g g' E R else o=QbA
theorem AgMrg.one {g g' o o':Ag} (h:AgMrg g g' o) (k:AgMrg g g' o'):o=o':=by
 unfold AgMrg at h k
 split at h
 ·rw [if_pos (by assumption)] at k
  obtain ⟨E,R,m,rfl⟩:=h;obtain ⟨E',R',m',rfl⟩:=k;obtain ⟨rfl,rfl⟩:=m.one m'
  rfl
 ·rw [if_neg (by assumption)] at k
  exact h.trans k.symm
structure AgNo (g:Ag):Prop where
 k1:1<=g.k
 k4:g.k<=4
 sk:skB g.P g.N=true
 hl:hlB g.E g.R=true
 nc:g.k≠1->g.h=0/\g.l=0
 ng:g.k≠2->g.a=0/\g.t=0
 nh:g.k≠3->g.z=0/\g.x=0/\g.y=0/\g.P=[]/\g.N=[]
 ns:g.k≠4->g.E=[]/\g.R=[]
theorem Qa9 {g:Ag} (h:agB g=true):AgNo g:=by
 unfold agB at h;simp only [Bool.and_eq_true,Bool.or_eq_true,decide_eq_true_eq,beq_iff_eq,QbX,QeN] at h;obtain ⟨⟨⟨⟨⟨⟨⟨h1,h2⟩,h3⟩,h4⟩,h5⟩,h6⟩,h7⟩,h8⟩:=h;refine ⟨h1,h2,h3,h4,fun n=>?_,fun n=>?_,fun n=>?_,fun n=>?_⟩
 ·rcases h5 with h | h
  ·exact absurd h n
  ·simpa [QgC] using h
 ·rw [if_neg n] at h8;simpa using h8
 ·exact h6.elim (fun e=>absurd e n) id
 ·exact h7.elim (fun e=>absurd e n) id
theorem Qlg:Mg [] [] [] [] [] []:=.inl ⟨rfl,rfl,by simp [Qif,Qda],rfl,rfl⟩
theorem Qew:QaJ (mrg [] [])=[]:=by simp [mrg,QaJ]
theorem QfJ:QaA 0 0=0:=by decide
theorem QdH:Qbp 0 0 0 0=0:=by decide +kernel
theorem QdK:Qbu 0 0=0:=by decide
theorem mrgC {g g':Ag} (h:agB g=true) (h':agB g'=true) (e:g.k=g'.k) (k:g.k=1):AgMrg g g' ⟨1,QaA g.s g'.s,Qbp g.h g.l g'.h g'.l,Qbu g.l g'.l,0,0,0,[],[],0,0,[],[]⟩:=by
 have n:=Qa9 h;have n':=Qa9 h';unfold AgMrg;rw [if_pos ⟨h,h',e⟩];obtain ⟨a1,a2,a3,a4,a5⟩:=n.nh (by omega);obtain ⟨b1,b2,b3,b4,b5⟩:=n'.nh (by omega);obtain ⟨c1,c2⟩:=n.ns (by omega);obtain ⟨d1,d2⟩:=n'.ns (by omega);refine ⟨[],[],by rw [c1,c2,d1,d2];exact Qlg,?_⟩;unfold QoD;rw [if_neg (by omega),if_neg (by omega),a1,a2,a3,a4,a5,b1,b2,b3,b4,b5,k,Qew,QfJ,QdH,QdK]
theorem mrgG {g g':Ag} (h:agB g=true) (h':agB g'=true) (e:g.k=g'.k) (k:g.k=2):AgMrg g g' ⟨2,QaA g.s g'.s,0,0,gA g.a g.t g'.a g'.t,gT g.a g.t g'.a g'.t,0,[],[],0,0,[],[]⟩:=by
 have n:=Qa9 h;have n':=Qa9 h';unfold AgMrg;rw [if_pos ⟨h,h',e⟩];obtain ⟨a1,a2,a3,a4,a5⟩:=n.nh (by omega);obtain ⟨b1,b2,b3,b4,b5⟩:=n'.nh (by omega);obtain ⟨c1,c2⟩:=n.ns (by omega);obtain ⟨d1,d2⟩:=n'.ns (by omega);obtain ⟨e1,e2⟩:=n.nc (by omega);obtain ⟨f1,f2⟩:=n'.nc (by omega);refine ⟨[],[],by rw [c1,c2,d1,d2];exact Qlg,?_⟩;unfold QoD;rw [if_pos k,if_pos k,a1,a2,a3,a4,a5,b1,b2,b3,b4,b5,e1,e2,f1,f2,k,Qew,QfJ,QdH,QdK]
theorem mrgH {g g':Ag} (h:agB g=true) (h':agB g'=true) (e:g.k=g'.k) (k:g.k=3):AgMrg g g' ⟨3,QaA g.s g'.s,0,0,0,0,QaA g.z g'.z,QaJ (mrg g.P g'.P),QaJ (mrg g.N g'.N),Qbp g.x g.y g'.x g'.y,Qbu g.y g'.y,[],[]⟩:=by
 have n:=Qa9 h;have n':=Qa9 h';unfold AgMrg;rw [if_pos ⟨h,h',e⟩];obtain ⟨c1,c2⟩:=n.ns (by omega);obtain ⟨d1,d2⟩:=n'.ns (by omega);obtain ⟨e1,e2⟩:=n.nc (by omega);obtain ⟨f1,f2⟩:=n'.nc (by omega);refine ⟨[],[],by rw [c1,c2,d1,d2];exact Qlg,?_⟩;unfold QoD;rw [if_neg (by omega),if_neg (by omega),e1,e2,f1,f2,k,QdH,QdK]
theorem mrgS {g g':Ag} {E R:List Int} (h:agB g=true) (h':agB g'=true) (e:g.k=g'.k) (k:g.k=4) (m:QfR g.E g.R g'.E g'.R E R):AgMrg g g' ⟨4,QaA g.s g'.s,0,0,0,0,0,[],[],0,0,E,R⟩:=by
 have n:=Qa9 h;have n':=Qa9 h';unfold AgMrg;rw [if_pos ⟨h,h',e⟩];obtain ⟨a1,a2,a3,a4,a5⟩:=n.nh (by omega);obtain ⟨b1,b2,b3,b4,b5⟩:=n'.nh (by omega);obtain ⟨e1,e2⟩:=n.nc (by omega);obtain ⟨f1,f2⟩:=n'.nc (by omega);unfold QfR at m;rw [if_pos ⟨n.hl,n'.hl⟩] at m;refine ⟨E,R,m,?_⟩;unfold QoD;rw [if_neg (by omega),if_neg (by omega),a1,a2,a3,a4,a5,b1,b2,b3,b4,b5,e1,e2,f1,f2,k,Qew,QfJ,QdH,QdK]
theorem fdC (a b:Value) (w:World):(Instr.field 170 (.agg #[a,b]) 0).run Tryz.prog w=.ok (.agg #[a,b]) w:=by kernel_rfl
theorem fdH (a b c d e:Value) (w:World):(Instr.field 174 (.agg #[a,b,c,d,e]) 0).run Tryz.prog w=.ok (.agg #[a,b,c,d,e]) w:=by kernel_rfl
theorem fdS (a b:Value) (w:World):(Instr.field 176 (.agg #[a,b]) 0).run Tryz.prog w=.ok (.agg #[a,b]) w:=by kernel_rfl
theorem tfC (v:Value) (w:World):(Instr.typeAssert (.iface 170 v) 129 170 false).run Tryz.prog w=.ok v w:=by kernel_rfl
theorem tfG (v:Value) (w:World):(Instr.typeAssert (.iface 172 v) 129 172 false).run Tryz.prog w=.ok v w:=by kernel_rfl
theorem tfH (v:Value) (w:World):(Instr.typeAssert (.iface 174 v) 129 174 false).run Tryz.prog w=.ok v w:=by kernel_rfl
theorem tfS (v:Value) (w:World):(Instr.typeAssert (.iface 176 v) 129 176 false).run Tryz.prog w=.ok v w:=by kernel_rfl
theorem QcD {w:World} {r:Nat} {cs:Array Value} {T:TypeId} (h:w.heap[r]?=some (.cells cs T (0,0))) (j:Nat) {v:Value} (e:cs[j]?=some v):w.cell? ⟨r,j,none⟩=some v:=by rw [cell_of_row _ _ j _ _ (0,0) h];exact e
theorem Qo4 (h l h' l':Int) (w:World) (ul:U64 l) (ul':U64 l'):Calls Tryz.prog 276 #[.agg #[.int .i64 h,.int .u64 l],.iface 170 (.agg #[.int .i64 h',.int .u64 l'])] w fun e w'=>e=.returned (.iface 170 (.agg #[.int .i64 (Qbp h l h' l'),.int .u64 (Qbu l l')]))/\Below w.heap.size w w':=by
 have t1:=tfC (.agg #[.int .i64 h',.int .u64 l']);have t2:=fdC (.int .i64 h') (.int .u64 l');have UL:=Qaa ul;have UL':=Qaa ul';clear ul ul';have HB:Hid (∀ o,Below w.heap.size w (w.alloc o)):=fun o=>(ZZb _ _).alloc (ZZa _) o;have HN:=Qaa (ZZk w (.cells #[.int .i64 h,.int .u64 l] 170));go_enter Tryz.func276,Tryz.ntmps276;go_wp2_with fail;generalize hW0:w.alloc (Obj.cells #[.int .i64 h,.int .u64 l] 170)=W0 at HN;have T0:Below w.heap.size w W0.drew:=by rw [<- hW0];exact (HB.out _).drew
 have hs0:w.heap.size<W0.heap.size:=by rw [<- hW0];simp
 have HT0:=Qaa T0;clear hW0 T0;have R0:W0.drew.heap[w.heap.size]?=some (.cells #[.int .i64 h,.int .u64 l] 170 (0,0)):=HN.out;refine Qaj (fun W=>W.heap[w.heap.size]?=some (.cells #[.int .i64 h,.int .u64 l] 170 (0,0))) 9 (by kernel_rfl) ?_;refine tkS (i:=0) (v:=.pointer (some ⟨w.heap.size,0,none⟩)) rfl rfl R0 ?_;refine tkL (i:=1) (v:=.agg #[.int .i64 h,.int .u64 l]) rfl rfl R0 (fun W hW=>?_) ?_
 ·have x0:=QcD hW 0 rfl
  have x1:=QcD hW 1 rfl;clear hW;go_simp
 refine tkS (i:=2) (v:=.iface 170 (.agg #[.int .i64 h',.int .u64 l'])) rfl rfl R0 ?_;simp only [sA,sB,sC];refine tkS (i:=3) (v:=.agg #[.int .i64 h',.int .u64 l']) rfl rfl R0 ?_;refine tkS (i:=4) (v:=.agg #[.int .i64 h',.int .u64 l']) rfl rfl R0 ?_;simp only [sA,sB,sC];refine onE (i:=5) rfl (fun K hK=>?_);go_simp;refine (QbJ _ _ _ _ _ UL.out UL'.out).mono ?_;rintro e w1 ⟨rfl,hb1⟩;have R1:=(hb1.block _ (by show w.heap.size<W0.heap.size;exact hs0)).trans R0;have HT1:=Qaa (Qad HT0.out hb1);clear hb1;dsimp only;refine hK.out _ _ (fun _=>R1) ?_;clear hK K
 try simp only [Act.put,sA,sB,sC]
 refine tkS (i:=6) (v:=.agg #[.int .i64 (Qbp h l h' l'),.int .u64 (Qbu l l')]) rfl rfl R1 ?_;refine tkS (i:=7) (v:=.iface 170 (.agg #[.int .i64 (Qbp h l h' l'),.int .u64 (Qbu l l')])) rfl rfl R1 ?_;simp only [sA,sB,sC];refine onE (i:=8) rfl (fun K hK=>?_);go_simp;refine hK.out _ _ (fun _=>R1) ?_;clear hK K
 try simp only [Act.put,sA,sB,sC]
 refine Qar (by kernel_rfl) ?_ _;go_wp2;go_ret;exact ⟨rfl,HT1.out⟩
theorem QoK {w:World} {g g':Ag} {p p':Pl} (ok:AgOk g) (ok':AgOk g') (sm:AgSm g) (sm':AgSm g') (hA:AgAt w g p) (hA':AgAt w g' p') (sk:skB g.P g.N=true) (sk':skB g'.P g'.N=true):Calls Tryz.prog 285 #[.agg #[.int .u64 g.z,.slice p.pa g.P.length p.pc,.slice p.na g.N.length p.nc,.int .i64 g.x,.int .u64 g.y],.iface 174 (.agg #[.int .u64 g'.z,.slice p'.pa g'.P.length p'.pc,.slice p'.na g'.N.length p'.nc,.int .i64 g'.x,.int .u64 g'.y])] w fun e w'=>∃ v,e=.returned (.iface 174 v)/\Qef w' w.heap.size v (QaA g.z g'.z) (QaJ (mrg g.P g'.P)) (QaJ (mrg g.N g'.N)) (Qbp g.x g.y g'.x g'.y) (Qbu g.y g'.y)/\Below w.heap.size w w':=by
 have t1:=tfH (.agg #[.int .u64 g'.z,.slice p'.pa g'.P.length p'.pc,.slice p'.na g'.N.length p'.nc,.int .i64 g'.x,.int .u64 g'.y]);have t2:=fdH (.int .u64 g'.z) (.slice p'.pa g'.P.length p'.pc) (.slice p'.na g'.N.length p'.nc) (.int .i64 g'.x) (.int .u64 g'.y);have OK:=Qaa ok;have OK':=Qaa ok';have SM:=Qaa sm;have SM':=Qaa sm';have HA:=Qaa hA;have HA':=Qaa hA';have SK:=Qaa sk;have SK':=Qaa sk';clear ok ok' sm sm' hA hA' sk sk';have HB:Hid (∀ o,Below w.heap.size w (w.alloc o)):=fun o=>(ZZb _ _).alloc (ZZa _) o;have HN:=Qaa (ZZk w (.cells #[.int .u64 g.z,.slice p.pa g.P.length p.pc,.slice p.na g.N.length p.nc,.int .i64 g.x,.int .u64 g.y] 174));go_enter Tryz.func285,Tryz.ntmps285;go_wp2_with fail;generalize hW0:w.alloc (Obj.cells #[.int .u64 g.z,.slice p.pa g.P.length p.pc,.slice p.na g.N.length p.nc,.int .i64 g.x,.int .u64 g.y] 174)=W0 at HN;have T0:Below w.heap.size w W0.drew:=by rw [<- hW0];exact (HB.out _).drew
 have hs0:w.heap.size<W0.heap.size:=by rw [<- hW0];simp
 have HT0:=Qaa T0;clear hW0 T0;have R0:W0.drew.heap[w.heap.size]?=some (.cells #[.int .u64 g.z,.slice p.pa g.P.length p.pc,.slice p.na g.N.length p.nc,.int .i64 g.x,.int .u64 g.y] 174 (0,0)):=HN.out;refine Qaj (fun W=>W.heap[w.heap.size]?=some (.cells #[.int .u64 g.z,.slice p.pa g.P.length p.pc,.slice p.na g.N.length p.nc,.int .i64 g.x,.int .u64 g.y] 174 (0,0))) 9 (by kernel_rfl) ?_;refine tkS (i:=0) (v:=.pointer (some ⟨w.heap.size,0,none⟩)) rfl rfl R0 ?_;refine tkL (i:=1) (v:=.agg #[.int .u64 g.z,.slice p.pa g.P.length p.pc,.slice p.na g.N.length p.nc,.int .i64 g.x,.int .u64 g.y]) rfl rfl R0 (fun W hW=>?_) ?_
 ·have x0:=QcD hW 0 rfl
  have x1:=Qac hW 1 rfl;have x2:=Qac hW 2 rfl;have x3:=Qac hW 3 rfl;have x4:=Qac hW 4 rfl;clear hW;go_simp
 refine tkS (i:=2) (v:=.iface 174 (.agg #[.int .u64 g'.z,.slice p'.pa g'.P.length p'.pc,.slice p'.na g'.N.length p'.nc,.int .i64 g'.x,.int .u64 g'.y])) rfl rfl R0 ?_;simp only [sA,sB,sC];refine tkS (i:=3) (v:=.agg #[.int .u64 g'.z,.slice p'.pa g'.P.length p'.pc,.slice p'.na g'.N.length p'.nc,.int .i64 g'.x,.int .u64 g'.y]) rfl rfl R0 ?_;refine tkS (i:=4) (v:=.agg #[.int .u64 g'.z,.slice p'.pa g'.P.length p'.pc,.slice p'.na g'.N.length p'.nc,.int .i64 g'.x,.int .u64 g'.y]) rfl rfl R0 ?_;simp only [sA,sB,sC];refine onE (i:=5) rfl (fun K hK=>?_);go_simp;refine (QfT OK.out.z OK.out.y OK'.out.z OK'.out.y rfl rfl rfl rfl SM.out.P SM.out.N SM'.out.P SM'.out.N (Qae HA.out.P HT0.out) (Qae HA.out.N HT0.out) (Qae HA'.out.P HT0.out) (Qae HA'.out.N HT0.out) OK.out.P OK.out.N OK'.out.P OK'.out.N).mono ?_;rintro e w1 ⟨v1,rfl,hb1,hq1⟩
 have ho:Qef w1 W0.heap.size v1 (QaA g.z g'.z) (QaJ (mrg g.P g'.P)) (QaJ (mrg g.N g'.N)) (Qbp g.x g.y g'.x g'.y) (Qbu g.y g'.y):=by
  rcases hq1 with ⟨ok,ho⟩ | ⟨no,_⟩
  ·rw [Qh5 (QcI ok.1).1.1 (QcI ok.2).1.1,Qh5 (QcI ok.1).2.1 (QcI ok.2).2.1] at ho
   exact ho
  ·exact absurd ⟨SK.out,SK'.out⟩ no
 obtain ⟨vp,vn,pn,nn,rfl,o1,o2,hap⟩:=ho;have HO:=Qaa (And.intro (o1.le (Nat.le_of_lt hs0)) (And.intro (o2.le (Nat.le_of_lt hs0)) hap));clear hq1 o1 o2 hap;have R1:=(hb1.block _ (by show w.heap.size<W0.heap.size;exact hs0)).trans R0;have HT1:=Qaa (Qad HT0.out hb1);clear hb1;dsimp only;refine hK.out _ _ (fun _=>R1) ?_;clear hK K
 try simp only [Act.put,sA,sB,sC]
 refine tkS (i:=6) (v:=.agg #[.int .u64 (QaA g.z g'.z),vp,vn,.int .i64 (Qbp g.x g.y g'.x g'.y),.int .u64 (Qbu g.y g'.y)]) rfl rfl R1 ?_;refine tkS (i:=7) (v:=.iface 174 (.agg #[.int .u64 (QaA g.z g'.z),vp,vn,.int .i64 (Qbp g.x g.y g'.x g'.y),.int .u64 (Qbu g.y g'.y)])) rfl rfl R1 ?_;simp only [sA,sB,sC];refine onE (i:=8) rfl (fun K hK=>?_);go_simp;refine hK.out _ _ (fun _=>R1) ?_;clear hK K
 try simp only [Act.put,sA,sB,sC]
 refine Qar (by kernel_rfl) ?_ _;go_wp2;go_ret;exact ⟨_,rfl,⟨vp,vn,pn,nn,rfl,HO.out.1,HO.out.2.1,HO.out.2.2⟩,HT1.out⟩
theorem Qn1 {w:World} {g g':Ag} {p p':Pl} (ok:AgOk g) (ok':AgOk g') (sm:AgSm g) (sm':AgSm g') (hA:AgAt w g p) (hA':AgAt w g' p'):Calls Tryz.prog 306 #[.agg #[.slice p.ea g.E.length p.ec,.slice p.ra g.R.length p.rc],.iface 176 (.agg #[.slice p'.ea g'.E.length p'.ec,.slice p'.ra g'.R.length p'.rc])] w fun e w'=>∃ v E R,e=.returned (.iface 176 v)/\QfR g.E g.R g'.E g'.R E R/\Qh9 w' w.heap.size v E R/\Below w.heap.size w w':=by
 have t1:=tfS (.agg #[.slice p'.ea g'.E.length p'.ec,.slice p'.ra g'.R.length p'.rc]);have t2:=fdS (.slice p'.ea g'.E.length p'.ec) (.slice p'.ra g'.R.length p'.rc);have OK:=Qaa ok;have OK':=Qaa ok';have SM:=Qaa sm;have SM':=Qaa sm';have HA:=Qaa hA;have HA':=Qaa hA';clear ok ok' sm sm' hA hA';have HB:Hid (∀ o,Below w.heap.size w (w.alloc o)):=fun o=>(ZZb _ _).alloc (ZZa _) o;have HN:=Qaa (ZZk w (.cells #[.slice p.ea g.E.length p.ec,.slice p.ra g.R.length p.rc] 176));go_enter Tryz.func306,Tryz.ntmps306;go_wp2_with fail;generalize hW0:w.alloc (Obj.cells #[.slice p.ea g.E.length p.ec,.slice p.ra g.R.length p.rc] 176)=W0 at HN;have T0:Below w.heap.size w W0.drew:=by rw [<- hW0];exact (HB.out _).drew
 have hs0:w.heap.size<W0.heap.size:=by rw [<- hW0];simp
 have HT0:=Qaa T0;clear hW0 T0;have R0:W0.drew.heap[w.heap.size]?=some (.cells #[.slice p.ea g.E.length p.ec,.slice p.ra g.R.length p.rc] 176 (0,0)):=HN.out;refine Qaj (fun W=>W.heap[w.heap.size]?=some (.cells #[.slice p.ea g.E.length p.ec,.slice p.ra g.R.length p.rc] 176 (0,0))) 9 (by kernel_rfl) ?_;refine tkS (i:=0) (v:=.pointer (some ⟨w.heap.size,0,none⟩)) rfl rfl R0 ?_;refine tkL (i:=1) (v:=.agg #[.slice p.ea g.E.length p.ec,.slice p.ra g.R.length p.rc]) rfl rfl R0 (fun W hW=>?_) ?_
 ·have x0:=QcD hW 0 rfl
  have x1:=QcD hW 1 rfl;clear hW;go_simp
 refine tkS (i:=2) (v:=.iface 176 (.agg #[.slice p'.ea g'.E.length p'.ec,.slice p'.ra g'.R.length p'.rc])) rfl rfl R0 ?_;simp only [sA,sB,sC];refine tkS (i:=3) (v:=.agg #[.slice p'.ea g'.E.length p'.ec,.slice p'.ra g'.R.length p'.rc]) rfl rfl R0 ?_;refine tkS (i:=4) (v:=.agg #[.slice p'.ea g'.E.length p'.ec,.slice p'.ra g'.R.length p'.rc]) rfl rfl R0 ?_;simp only [sA,sB,sC];refine onE (i:=5) rfl (fun K hK=>?_);go_simp;refine (QiH rfl rfl rfl rfl SM.out.E SM.out.R SM'.out.E SM'.out.R (Qag HA.out.E HT0.out) (Qag HA.out.R HT0.out) (Qag HA'.out.E HT0.out) (Qag HA'.out.R HT0.out) OK.out.E OK'.out.E).mono ?_;rintro e w1 ⟨v1,E,R,rfl,hM,⟨vp,vn,rfl,o1,o2⟩,hb1⟩;have HM:=Qaa hM;have HO:=Qaa (And.intro (QaI o1 (Nat.le_of_lt hs0)) (QaI o2 (Nat.le_of_lt hs0)));clear hM o1 o2;have R1:=(hb1.block _ (by show w.heap.size<W0.heap.size;exact hs0)).trans R0;have HT1:=Qaa (Qad HT0.out hb1);clear hb1;dsimp only;refine hK.out _ _ (fun _=>R1) ?_;clear hK K
 try simp only [Act.put,sA,sB,sC]
 refine tkS (i:=6) (v:=.agg #[vp,vn]) rfl rfl R1 ?_;refine tkS (i:=7) (v:=.iface 176 (.agg #[vp,vn])) rfl rfl R1 ?_;simp only [sA,sB,sC];refine onE (i:=8) rfl (fun K hK=>?_);go_simp;refine hK.out _ _ (fun _=>R1) ?_;clear hK K
 try simp only [Act.put,sA,sB,sC]
 refine Qar (by kernel_rfl) ?_ _;go_wp2;go_ret;exact ⟨_,E,R,rfl,HM.out,⟨vp,vn,rfl,HO.out.1,HO.out.2⟩,HT1.out⟩
theorem Qfa {a t a' t':Int} (h:QdL a t a' t'=true):gA a t a' t'=a'/\gT a t a' t'=t':=⟨if_pos h,if_pos h⟩
theorem Qfi {a t a' t':Int} (h:¬ QdL a t a' t'=true):gA a t a' t'=a/\gT a t a' t'=t:=⟨if_neg h,if_neg h⟩
theorem Qom {T:TypeId} {a t a' t':Int} (h:a'=a/\t'=t):Ending.returned (.iface T (.agg #[.int .i64 a,.int .i64 t]))=.returned (.iface T (.agg #[.int .i64 a',.int .i64 t'])):=by rw [h.1,h.2]
theorem QkH (a t a' t':Int) (w:World):Calls Tryz.prog 282 #[.agg #[.int .i64 a,.int .i64 t],.iface 172 (.agg #[.int .i64 a',.int .i64 t'])] w fun e w'=>e=.returned (.iface 172 (.agg #[.int .i64 (gA a t a' t'),.int .i64 (gT a t a' t')]))/\Below w.heap.size w w':=by
 have t1:=tfG (.agg #[.int .i64 a',.int .i64 t']);have HB:Hid (∀ o o',Below w.heap.size w ((w.alloc o).alloc o')):=fun o o'=>((Below.refl _ _).alloc (Nat.le_refl _) o).alloc (by simp) o';by_cases h1:t<t'
 ·have HE:Hid (gA a t a' t'=a'/\gT a t a' t'=t'):=Qfa (by simp [QdL,h1])
  have d1:decide (t<t')=true:=ZZh h1;go_enter Tryz.func282,Tryz.ntmps282;go_wp2;go_ret;exact ⟨Qom HE.out,HB.out _ _⟩
 ·have d1:decide (t<t')=false:=ZZg h1
  by_cases h2:t'=t
  ·subst h2
   by_cases h3:a<a'
   ·have HE:Hid (gA a t' a' t'=a'/\gT a t' a' t'=t'):=Qfa (by simp [QdL,h3])
    have d3:decide (a<a')=true:=ZZh h3;go_enter Tryz.func282,Tryz.ntmps282;go_wp2;go_ret;exact ⟨Qom HE.out,HB.out _ _⟩
   ·have HE:Hid (gA a t' a' t'=a/\gT a t' a' t'=t'):=Qfi (by simp [QdL,h3])
    have d3:decide (a<a')=false:=ZZg h3;go_enter Tryz.func282,Tryz.ntmps282;go_wp2;go_ret;exact ⟨Qom HE.out,HB.out _ _⟩
  ·have HE:Hid (gA a t a' t'=a/\gT a t a' t'=t):=Qfi (by simp [QdL,h1,h2])
   have d2:(t' == t)=false:=ZZf.2 h2;go_enter Tryz.func282,Tryz.ntmps282;go_wp2;go_ret;exact ⟨Qom HE.out,HB.out _ _⟩
abbrev pl0:Pl:=⟨none,0,none,0,none,0,none,0⟩
abbrev Qfl:Array Value:=Qal QbA pl0
theorem OwnB.below {w:World} {B n r j:Nat} {v:Value} {L:List Bn} (h:OwnB w B v n L) (hr:r<B) (u:Value):OwnB (w.setCell ⟨r,j,none⟩ u) B v n L:=h.set (fun e=>by have:=(h.lt r e).1;omega) u
theorem OwnN.below {kd:IntKind} {T:TypeId} {w:World} {B n r j:Nat} {v:Value} {L:List Int} (h:OwnN kd T w B v n L) (hr:r<B) (u:Value):OwnN kd T (w.setCell ⟨r,j,none⟩ u) B v n L:=⟨h.1,ownsRow_setCell_below h.2 (by simpa using hr) u⟩
theorem AgO.below {w:World} {B r j:Nat} {o:Ag} {p:Pl} (h:AgO w B o p) (hr:r<B) (u:Value):AgO (w.setCell ⟨r,j,none⟩ u) B o p:=⟨h.P.below hr u,h.N.below hr u,h.ap,h.E.below hr u,h.R.below hr u⟩
theorem AgO.le {w:World} {B B':Nat} {o:Ag} {p:Pl} (h:AgO w B o p) (hb:B'<=B):AgO w B' o p:=⟨h.P.le hb,h.N.le hb,h.ap,h.E.le hb,h.R.le hb⟩
theorem AgO.past {w w':World} {B:Nat} {o:Ag} {p:Pl} (h:AgO w B o p) (hb:Below w.heap.size w w'):AgO w' B o p:=⟨h.P.past hb,h.N.past hb,h.ap,h.E.past hb,h.R.past hb⟩
theorem AgO.nil (w:World) (B:Nat) {o:Ag} (hP:o.P=[]) (hN:o.N=[]) (hE:o.E=[]) (hR:o.R=[]):AgO w B o pl0:=by
 obtain ⟨k,s,h,l,a,t,z,P,N,x,y,E,R⟩:=o;simp only at hP hN hE hR;subst hP hN hE hR;exact ⟨⟨rfl,.inl ⟨rfl,rfl⟩⟩,⟨rfl,.inl ⟨rfl,rfl⟩⟩,(fun k e=>by cases e),⟨rfl,World.ownsRow_nil _ _ _ _⟩,⟨rfl,World.ownsRow_nil _ _ _ _⟩⟩
theorem AgO.at {w:World} {B:Nat} {o:Ag} {p:Pl} (h:AgO w B o p):AgAt w o p:=⟨h.P.at,h.N.at,h.E.at,h.R.at⟩
theorem QmT (w:World) (g g':Ag) (p p':Pl) (W:World) (hb:Below (((w.alloc (.cells (Qal g p) 49)).alloc (.cells (Qal g' p') 49)).alloc (.cells Qfl 49)).heap.size (((w.alloc (.cells (Qal g p) 49)).alloc (.cells (Qal g' p') 49)).alloc (.cells Qfl 49)) W) :
  Qb8 W w.heap.size g p/\Qb8 W (w.heap.size+1) g' p'/\W.heap[w.heap.size+1+1]?=some (.cells Qfl 49 (0,0)):=by
 have a1:∀ (W:World) o,Below W.heap.size W (W.alloc o):=fun W o=>(ZZb _ _).alloc (ZZa _) _;have k0:=QdZ w 49 g p;have k1:=QdZ (w.alloc (.cells (Qal g p) 49)) 49 g' p';have h2:=ZZk ((w.alloc (.cells (Qal g p) 49)).alloc (.cells (Qal g' p') 49)) (.cells Qfl 49);simp only [World.size_alloc] at k1 h2;exact ⟨QaB (QaB (QaB k0 (a1 _ _)) (a1 _ _)) hb,QaB (QaB k1 (a1 _ _)) hb,(hb.block _ (by simp)).trans h2⟩
def AgRes (w:World) (Q:Ag->Prop) (e:Ending) (w':World):Prop:=∃ v o,e=.returned v/\Q o/\AgOut w' w.heap.size v o/\Below w.heap.size w w'
theorem AgRes.mk {w w':World} {Q:Ag->Prop} {o:Ag} {p:Pl} (q:Q o) (h:AgO w' w.heap.size o p) (b:Below w.heap.size w w'):AgRes w Q (.returned (.agg (Qal o p))) w':=⟨_,o,rfl,q,⟨p,rfl,h⟩,b⟩
theorem naC (a b:Value) (w:World):(nilAhead 441 170 (.agg #[a,b]) "loop.example/g00309/impl.merge").run Tryz.prog w=.ok (some false) w:=by kernel_rfl
theorem naG (a b:Value) (w:World):(nilAhead 441 172 (.agg #[a,b]) "loop.example/g00309/impl.merge").run Tryz.prog w=.ok (some false) w:=by kernel_rfl
theorem naH (a b c d e:Value) (w:World):(nilAhead 441 174 (.agg #[a,b,c,d,e]) "loop.example/g00309/impl.merge").run Tryz.prog w=.ok (some false) w:=by kernel_rfl
theorem naS (a b:Value) (w:World):(nilAhead 441 176 (.agg #[a,b]) "loop.example/g00309/impl.merge").run Tryz.prog w=.ok (some false) w:=by kernel_rfl
theorem QmO {g g':Ag} (h:¬ (agB g=true/\agB g'=true/\g.k=g'.k)):AgMrg g g' QbA:=by unfold AgMrg;rw [if_neg h]
theorem Qi9 {w:World} {g g':Ag} {p p':Pl} (ok:AgOk g) (ok':AgOk g') (sm:AgSm g) (sm':AgSm g') (hA:AgAt w g p) (hA':AgAt w g' p') :
  Calls Tryz.prog 54 #[.agg (Qal g p),.agg (Qal g' p')] w fun e w'=>AgRes w (AgMrg g g') e w':=by
 have HA:=Qaa hA;have HA':=Qaa hA';have OK:=Qaa ok;have OK':=Qaa ok';have SM:=Qaa sm;have SM':=Qaa sm';have HBa:Hid (∀ o1 o2 o3,Below w.heap.size w (((w.alloc o1).alloc o2).alloc o3)):=fun o1 o2 o3=>(((Below.refl _ _).alloc (Nat.le_refl _) _).alloc (by simp) _).alloc (by simp;omega) _;clear ok ok' sm sm' hA hA';go_enter Tryz.func54,Tryz.ntmps54;go_wp2_with fail;refine (Qcr (g:=g) (p:=p) OK.out SM.out (Qan HA.out (HBa.out _ _ _))).mono ?_;rintro e w1 ⟨rfl,hb1⟩;rw [Qkk];obtain ⟨K1,K2,hres⟩:=QmT w g g' p p' w1 hb1;have hz1:=hb1.size;have hT1:Below w.heap.size w w1:=(HBa.out _ _ _).trans (hb1.mono (by simp;omega));simp only [World.size_alloc] at hz1;have HT1:=Qaa hT1;have HRs:=Qaa hres;have HK1:=Qaa K1;have HK2:=Qaa K2;clear hb1 hT1 hres K1 K2
 cases hq:agB g with
 | false=>
  have HQ:Hid (AgMrg g g' QbA):=QmO (fun h=>by rw [hq] at h;cases h.1);clear hq;obtain ⟨q0,q1,q2,q3,q4,q5,q6,q7,q8,q9,q10,q11,q12⟩:=Qby HRs.out;obtain ⟨f0,f1,f2,f3,f4,f5,f6,f7,f8,f9,f10,f11,f12⟩:=Qdr HRs.out;go_wp2;refine bodyPost_ret (v:=.agg Qfl) (by simp [results,Tryz.results54,go_sem,QbA,q0,q1,q2,q3,q4,q5,q6,q7,q8,q9,q10,q11,q12]) rfl (AgRes.mk (o:=QbA) (p:=pl0) HQ.out (AgO.nil _ _ rfl rfl rfl rfl) ?_)
  repeat (refine Below.setCell ?_ (by simp <;> omega) _)
  exact HT1.out
 | true=>
  obtain ⟨y0,y1,y2,y3,y4,y5,y6,y7,y8,y9,y10,y11,y12⟩:=HK2.out;go_wp2_with fail;clear y0 y1 y2 y3 y4 y5 y6 y7 y8 y9 y10 y11 y12;refine (Qcr (g:=g') (p:=p') OK'.out SM'.out (Qan HA'.out HT1.out)).mono ?_;rintro e w2 ⟨rfl,hb2⟩;rw [Qkk];have HT2:=Qaa (Qad HT1.out hb2);have hz2:=hb2.size;have hC:∀ W,Below w2.heap.size w2 W->Qb8 W w.heap.size g p/\Qb8 W (w.heap.size+1) g' p'/\W.heap[w.heap.size+1+1]?=some (.cells Qfl 49 (0,0)):=fun W hW=>⟨QaB HK1.out (Qad hb2 hW),QaB HK2.out (Qad hb2 hW),((Qad hb2 hW).block _ (by omega)).trans HRs.out⟩;have HC:=Qaa hC;clear hb2 hC HK1 HK2 HRs
  cases hq':agB g' with
  | false=>
   have HQ:Hid (AgMrg g g' QbA):=QmO (fun h=>by rw [hq'] at h;cases h.2.1);have HR2:=Qaa (HC.out _ (ZZb _ _)).2.2;clear hq hq';obtain ⟨q0,q1,q2,q3,q4,q5,q6,q7,q8,q9,q10,q11,q12⟩:=Qby HR2.out;obtain ⟨f0,f1,f2,f3,f4,f5,f6,f7,f8,f9,f10,f11,f12⟩:=Qdr HR2.out;go_wp2;refine bodyPost_ret (v:=.agg Qfl) (by simp [results,Tryz.results54,go_sem,QbA,q0,q1,q2,q3,q4,q5,q6,q7,q8,q9,q10,q11,q12]) rfl (AgRes.mk (o:=QbA) (p:=pl0) HQ.out (AgO.nil _ _ rfl rfl rfl rfl) ?_)
   repeat (refine Below.setCell ?_ (by simp <;> omega) _)
   exact HT2.out
  | true=>
   by_cases hk:g.k=g'.k
   ·have HG:Hid (agB g=true/\agB g'=true/\g.k=g'.k):=⟨hq,hq',hk⟩
    have NO:=Qaa (Qa9 hq);have NO':=Qaa (Qa9 hq');have HR2:=Qaa (HC.out _ (ZZb _ _)).2.2;have hb:(g.k != g'.k)=false:=by simp [hk]
    obtain ⟨⟨x0,x1,x2,x3,x4,x5,x6,x7,x8,x9,x10,x11,x12⟩,⟨y0,y1,y2,y3,y4,y5,y6,y7,y8,y9,y10,y11,y12⟩,_⟩:=HC.out _ (ZZb _ _);clear hq hq' hk;go_wp2_with fail;clear x0 x1 x2 x3 x4 x5 x6 x7 x8 x9 x10 x11 x12 y0 y1 y2 y3 y4 y5 y6 y7 y8 y9 y10 y11 y12 hb;have hkk:g.k=1∨g.k=2∨g.k=3∨g.k=4:=by have:=NO.out.k1;have:=NO.out.k4;omega
    rcases hkk with h | h | h | h
    ·have HK1:=Qaa h
     have HK2:=Qaa (HG.out.2.2.symm.trans h);clear h;have HS0:(fun W=>Below w2.heap.size w2 W) w2.drew:=(ZZb _ _).drew;refine Qaj (fun W=>Below w2.heap.size w2 W) 14 (by kernel_rfl) ?_;refine tkL (i:=0) (v:=.pointer (some ⟨w.heap.size,1,none⟩)) rfl rfl HS0 (fun W hW=>?_) ?_
     ·obtain ⟨⟨x0,x1,x2,x3,x4,x5,x6,x7,x8,x9,x10,x11,x12⟩,⟨y0,y1,y2,y3,y4,y5,y6,y7,y8,y9,y10,y11,y12⟩,_⟩:=HC.out W hW
      clear hW;go_simp
     refine tkL (i:=1) (v:=.int .u64 g.s) rfl rfl HS0 (fun W hW=>?_) ?_
     ·obtain ⟨⟨x0,x1,x2,x3,x4,x5,x6,x7,x8,x9,x10,x11,x12⟩,⟨y0,y1,y2,y3,y4,y5,y6,y7,y8,y9,y10,y11,y12⟩,_⟩:=HC.out W hW
      clear hW;go_simp
     refine tkL (i:=2) (v:=.pointer (some ⟨w.heap.size+1,1,none⟩)) rfl rfl HS0 (fun W hW=>?_) ?_
     ·obtain ⟨⟨x0,x1,x2,x3,x4,x5,x6,x7,x8,x9,x10,x11,x12⟩,⟨y0,y1,y2,y3,y4,y5,y6,y7,y8,y9,y10,y11,y12⟩,_⟩:=HC.out W hW
      clear hW;go_simp
     simp only [sA,sB,sC];refine tkL (i:=3) (v:=.int .u64 g'.s) rfl rfl HS0 (fun W hW=>?_) ?_
     ·obtain ⟨⟨x0,x1,x2,x3,x4,x5,x6,x7,x8,x9,x10,x11,x12⟩,⟨y0,y1,y2,y3,y4,y5,y6,y7,y8,y9,y10,y11,y12⟩,_⟩:=HC.out W hW
      clear hW;go_simp
     refine tkL (i:=5) (v:=.agg (Qal g p)) rfl rfl HS0 (fun W hW=>?_) ?_
     ·obtain ⟨⟨x0,x1,x2,x3,x4,x5,x6,x7,x8,x9,x10,x11,x12⟩,⟨y0,y1,y2,y3,y4,y5,y6,y7,y8,y9,y10,y11,y12⟩,_⟩:=HC.out W hW
      clear hW;go_simp
     refine tkL (i:=7) (v:=.agg (Qal g' p')) rfl rfl HS0 (fun W hW=>?_) ?_
     ·obtain ⟨⟨x0,x1,x2,x3,x4,x5,x6,x7,x8,x9,x10,x11,x12⟩,⟨y0,y1,y2,y3,y4,y5,y6,y7,y8,y9,y10,y11,y12⟩,_⟩:=HC.out W hW
      clear hW;go_simp
     simp only [sA,sB,sC];refine onE (i:=4) rfl (fun K hK=>?_);go_simp;refine (QaH _ _ OK.out.s OK'.out.s _).mono ?_;rintro e wz ⟨rfl,hwz⟩;obtain rfl:=hwz.symm;dsimp only;refine hK.out _ _ (fun _=>HS0) ?_;clear hK K
     try simp only [Act.put,sA,sB,sC]
     refine onE (i:=6) rfl (fun K hK=>?_);go_simp;refine (Qez (g:=g) (p:=p) _ HK1.out).mono ?_;rintro e w3 ⟨rfl,hb3⟩;have HB3:Hid (Below w2.heap.size w2 w3):=(HS0:Below w2.heap.size w2 w2.drew).trans (hb3.mono (ZZa _));clear hb3;dsimp only;refine hK.out _ _ (fun _=>HB3.out) ?_;clear hK K
     try simp only [Act.put,sA,sB,sC]
     have na1:=naC (.int .i64 g.h) (.int .u64 g.l);refine tkS (i:=9) (v:=.func (.method "loop.example/g00309/impl.merge") #[.iface 170 (.agg #[.int .i64 g.h,.int .u64 g.l])] #[]) rfl rfl HB3.out ?_;refine tkS (i:=10) (v:=.func (.method "loop.example/g00309/impl.merge") #[.iface 170 (.agg #[.int .i64 g.h,.int .u64 g.l])] #[]) rfl rfl HB3.out ?_;refine tkS (i:=11) (v:=.iface 170 (.agg #[.int .i64 g.h,.int .u64 g.l])) rfl rfl HB3.out ?_;simp only [sA,sB,sC];refine onE (i:=8) rfl (fun K hK=>?_);go_simp;refine (Qez (g:=g') (p:=p') _ HK2.out).mono ?_;rintro e w4 ⟨rfl,hb4⟩;have HB4:Hid (Below w2.heap.size w2 w4):=Qad HB3.out hb4;have HA4:=Qaa (Qan HA.out (Qad HT2.out HB4.out));have HA4':=Qaa (Qan HA'.out (Qad HT2.out HB4.out));clear hb4;dsimp only;refine hK.out _ _ (fun _=>HB4.out) ?_;clear hK K
     try simp only [Act.put,sA,sB,sC]
     refine onE (i:=12) rfl (fun K hK=>?_);go_simp;refine (Qo4 g.h g.l g'.h g'.l _ OK.out.l OK'.out.l).mono ?_;rintro e w5 ⟨rfl,hb5⟩;have HB5:Hid (Below w2.heap.size w2 w5):=Qad HB4.out hb5;clear hb5;dsimp only;refine hK.out _ _ (fun _=>HB5.out) ?_;clear hK K
     try simp only [Act.put,sA,sB,sC]
     refine onE (i:=13) rfl (fun K hK=>?_);go_simp;refine (QeZ ⟨0,QaA g.s g'.s,Qbp g.h g.l g'.h g'.l,Qbu g.l g'.l,0,0,0,[],[],0,0,[],[]⟩ pl0 _).mono ?_;rintro e w6 ⟨rfl,hb6⟩;have HB6:Hid (Below w2.heap.size w2 w6):=Qad HB5.out hb6;have HB56:=Qaa hb6;clear hb6;dsimp only;refine hK.out _ _ (fun _=>HB6.out) ?_;clear hK K
     try simp only [Act.put,sA,sB,sC]
     have HR6:=Qaa (HC.out _ HB6.out).2.2;obtain ⟨q0,q1,q2,q3,q4,q5,q6,q7,q8,q9,q10,q11,q12⟩:=Qby HR6.out;obtain ⟨f0,f1,f2,f3,f4,f5,f6,f7,f8,f9,f10,f11,f12⟩:=Qdr HR6.out;refine onE (i:=14) rfl (fun K hK=>?_);go_simp;refine hK.out _ _ (fun h=>absurd rfl h) ?_;clear hK K
     try simp only [Act.put,sA,sB,sC]
     refine Qar (by kernel_rfl) ?_ _;go_wp2;refine bodyPost_ret (v:=.agg (Qal ⟨1,QaA g.s g'.s,Qbp g.h g.l g'.h g'.l,Qbu g.l g'.l,0,0,0,[],[],0,0,[],[]⟩ pl0)) (by simp [results,Tryz.results54,go_sem,q0,q1,q2,q3,q4,q5,q6,q7,q8,q9,q10,q11,q12]) rfl (AgRes.mk (o:=⟨1,QaA g.s g'.s,Qbp g.h g.l g'.h g'.l,Qbu g.l g'.l,0,0,0,[],[],0,0,[],[]⟩) (p:=pl0) ?_ ?_ ?_)
     ·exact mrgC HG.out.1 HG.out.2.1 HG.out.2.2 HK1.out
     ·exact AgO.nil _ _ rfl rfl rfl rfl
     ·repeat (refine Below.setCell ?_ (by simp <;> omega) _)
      exact Qad HT2.out HB6.out
    ·have HK1:=Qaa h
     have HK2:=Qaa (HG.out.2.2.symm.trans h);clear h;have HS0:(fun W=>Below w2.heap.size w2 W) w2.drew:=(ZZb _ _).drew;refine Qaj (fun W=>Below w2.heap.size w2 W) 14 (by kernel_rfl) ?_;refine tkL (i:=0) (v:=.pointer (some ⟨w.heap.size,1,none⟩)) rfl rfl HS0 (fun W hW=>?_) ?_
     ·obtain ⟨⟨x0,x1,x2,x3,x4,x5,x6,x7,x8,x9,x10,x11,x12⟩,⟨y0,y1,y2,y3,y4,y5,y6,y7,y8,y9,y10,y11,y12⟩,_⟩:=HC.out W hW
      clear hW;go_simp
     refine tkL (i:=1) (v:=.int .u64 g.s) rfl rfl HS0 (fun W hW=>?_) ?_
     ·obtain ⟨⟨x0,x1,x2,x3,x4,x5,x6,x7,x8,x9,x10,x11,x12⟩,⟨y0,y1,y2,y3,y4,y5,y6,y7,y8,y9,y10,y11,y12⟩,_⟩:=HC.out W hW
      clear hW;go_simp
     refine tkL (i:=2) (v:=.pointer (some ⟨w.heap.size+1,1,none⟩)) rfl rfl HS0 (fun W hW=>?_) ?_
     ·obtain ⟨⟨x0,x1,x2,x3,x4,x5,x6,x7,x8,x9,x10,x11,x12⟩,⟨y0,y1,y2,y3,y4,y5,y6,y7,y8,y9,y10,y11,y12⟩,_⟩:=HC.out W hW
      clear hW;go_simp
     simp only [sA,sB,sC];refine tkL (i:=3) (v:=.int .u64 g'.s) rfl rfl HS0 (fun W hW=>?_) ?_
     ·obtain ⟨⟨x0,x1,x2,x3,x4,x5,x6,x7,x8,x9,x10,x11,x12⟩,⟨y0,y1,y2,y3,y4,y5,y6,y7,y8,y9,y10,y11,y12⟩,_⟩:=HC.out W hW
      clear hW;go_simp
     refine tkL (i:=5) (v:=.agg (Qal g p)) rfl rfl HS0 (fun W hW=>?_) ?_
     ·obtain ⟨⟨x0,x1,x2,x3,x4,x5,x6,x7,x8,x9,x10,x11,x12⟩,⟨y0,y1,y2,y3,y4,y5,y6,y7,y8,y9,y10,y11,y12⟩,_⟩:=HC.out W hW
      clear hW;go_simp
     refine tkL (i:=7) (v:=.agg (Qal g' p')) rfl rfl HS0 (fun W hW=>?_) ?_
     ·obtain ⟨⟨x0,x1,x2,x3,x4,x5,x6,x7,x8,x9,x10,x11,x12⟩,⟨y0,y1,y2,y3,y4,y5,y6,y7,y8,y9,y10,y11,y12⟩,_⟩:=HC.out W hW
      clear hW;go_simp
     simp only [sA,sB,sC];refine onE (i:=4) rfl (fun K hK=>?_);go_simp;refine (QaH _ _ OK.out.s OK'.out.s _).mono ?_;rintro e wz ⟨rfl,hwz⟩;obtain rfl:=hwz.symm;dsimp only;refine hK.out _ _ (fun _=>HS0) ?_;clear hK K
     try simp only [Act.put,sA,sB,sC]
     refine onE (i:=6) rfl (fun K hK=>?_);go_simp;refine (Qex (g:=g) (p:=p) _ HK1.out).mono ?_;rintro e w3 ⟨rfl,hb3⟩;have HB3:Hid (Below w2.heap.size w2 w3):=(HS0:Below w2.heap.size w2 w2.drew).trans (hb3.mono (ZZa _));clear hb3;dsimp only;refine hK.out _ _ (fun _=>HB3.out) ?_;clear hK K
     try simp only [Act.put,sA,sB,sC]
     have na1:=naG (.int .i64 g.a) (.int .i64 g.t);refine tkS (i:=9) (v:=.func (.method "loop.example/g00309/impl.merge") #[.iface 172 (.agg #[.int .i64 g.a,.int .i64 g.t])] #[]) rfl rfl HB3.out ?_;refine tkS (i:=10) (v:=.func (.method "loop.example/g00309/impl.merge") #[.iface 172 (.agg #[.int .i64 g.a,.int .i64 g.t])] #[]) rfl rfl HB3.out ?_;refine tkS (i:=11) (v:=.iface 172 (.agg #[.int .i64 g.a,.int .i64 g.t])) rfl rfl HB3.out ?_;simp only [sA,sB,sC];refine onE (i:=8) rfl (fun K hK=>?_);go_simp;refine (Qex (g:=g') (p:=p') _ HK2.out).mono ?_;rintro e w4 ⟨rfl,hb4⟩;have HB4:Hid (Below w2.heap.size w2 w4):=Qad HB3.out hb4;have HA4:=Qaa (Qan HA.out (Qad HT2.out HB4.out));have HA4':=Qaa (Qan HA'.out (Qad HT2.out HB4.out));clear hb4;dsimp only;refine hK.out _ _ (fun _=>HB4.out) ?_;clear hK K
     try simp only [Act.put,sA,sB,sC]
     refine onE (i:=12) rfl (fun K hK=>?_);go_simp;refine (QkH g.a g.t g'.a g'.t _).mono ?_;rintro e w5 ⟨rfl,hb5⟩;have HB5:Hid (Below w2.heap.size w2 w5):=Qad HB4.out hb5;clear hb5;dsimp only;refine hK.out _ _ (fun _=>HB5.out) ?_;clear hK K
     try simp only [Act.put,sA,sB,sC]
     refine onE (i:=13) rfl (fun K hK=>?_);go_simp;refine (Qe8 ⟨0,QaA g.s g'.s,0,0,gA g.a g.t g'.a g'.t,gT g.a g.t g'.a g'.t,0,[],[],0,0,[],[]⟩ pl0 _).mono ?_;rintro e w6 ⟨rfl,hb6⟩;have HB6:Hid (Below w2.heap.size w2 w6):=Qad HB5.out hb6;have HB56:=Qaa hb6;clear hb6;dsimp only;refine hK.out _ _ (fun _=>HB6.out) ?_;clear hK K
     try simp only [Act.put,sA,sB,sC]
     have HR6:=Qaa (HC.out _ HB6.out).2.2;obtain ⟨q0,q1,q2,q3,q4,q5,q6,q7,q8,q9,q10,q11,q12⟩:=Qby HR6.out;obtain ⟨f0,f1,f2,f3,f4,f5,f6,f7,f8,f9,f10,f11,f12⟩:=Qdr HR6.out;refine onE (i:=14) rfl (fun K hK=>?_);go_simp;refine hK.out _ _ (fun h=>absurd rfl h) ?_;clear hK K
     try simp only [Act.put,sA,sB,sC]
     refine Qar (by kernel_rfl) ?_ _;go_wp2;refine bodyPost_ret (v:=.agg (Qal ⟨2,QaA g.s g'.s,0,0,gA g.a g.t g'.a g'.t,gT g.a g.t g'.a g'.t,0,[],[],0,0,[],[]⟩ pl0)) (by simp [results,Tryz.results54,go_sem,q0,q1,q2,q3,q4,q5,q6,q7,q8,q9,q10,q11,q12]) rfl (AgRes.mk (o:=⟨2,QaA g.s g'.s,0,0,gA g.a g.t g'.a g'.t,gT g.a g.t g'.a g'.t,0,[],[],0,0,[],[]⟩) (p:=pl0) ?_ ?_ ?_)
     ·exact mrgG HG.out.1 HG.out.2.1 HG.out.2.2 HK1.out
     ·exact AgO.nil _ _ rfl rfl rfl rfl
     ·repeat (refine Below.setCell ?_ (by simp <;> omega) _)
      exact Qad HT2.out HB6.out
    ·have HK1:=Qaa h
     have HK2:=Qaa (HG.out.2.2.symm.trans h);clear h;have HS0:(fun W=>Below w2.heap.size w2 W) w2.drew:=(ZZb _ _).drew;refine Qaj (fun W=>Below w2.heap.size w2 W) 14 (by kernel_rfl) ?_;refine tkL (i:=0) (v:=.pointer (some ⟨w.heap.size,1,none⟩)) rfl rfl HS0 (fun W hW=>?_) ?_
     ·obtain ⟨⟨x0,x1,x2,x3,x4,x5,x6,x7,x8,x9,x10,x11,x12⟩,⟨y0,y1,y2,y3,y4,y5,y6,y7,y8,y9,y10,y11,y12⟩,_⟩:=HC.out W hW
      clear hW;go_simp
     refine tkL (i:=1) (v:=.int .u64 g.s) rfl rfl HS0 (fun W hW=>?_) ?_
     ·obtain ⟨⟨x0,x1,x2,x3,x4,x5,x6,x7,x8,x9,x10,x11,x12⟩,⟨y0,y1,y2,y3,y4,y5,y6,y7,y8,y9,y10,y11,y12⟩,_⟩:=HC.out W hW
      clear hW;go_simp
     refine tkL (i:=2) (v:=.pointer (some ⟨w.heap.size+1,1,none⟩)) rfl rfl HS0 (fun W hW=>?_) ?_
     ·obtain ⟨⟨x0,x1,x2,x3,x4,x5,x6,x7,x8,x9,x10,x11,x12⟩,⟨y0,y1,y2,y3,y4,y5,y6,y7,y8,y9,y10,y11,y12⟩,_⟩:=HC.out W hW
      clear hW;go_simp
     simp only [sA,sB,sC];refine tkL (i:=3) (v:=.int .u64 g'.s) rfl rfl HS0 (fun W hW=>?_) ?_
     ·obtain ⟨⟨x0,x1,x2,x3,x4,x5,x6,x7,x8,x9,x10,x11,x12⟩,⟨y0,y1,y2,y3,y4,y5,y6,y7,y8,y9,y10,y11,y12⟩,_⟩:=HC.out W hW
      clear hW;go_simp
     refine tkL (i:=5) (v:=.agg (Qal g p)) rfl rfl HS0 (fun W hW=>?_) ?_
     ·obtain ⟨⟨x0,x1,x2,x3,x4,x5,x6,x7,x8,x9,x10,x11,x12⟩,⟨y0,y1,y2,y3,y4,y5,y6,y7,y8,y9,y10,y11,y12⟩,_⟩:=HC.out W hW
      clear hW;go_simp
     refine tkL (i:=7) (v:=.agg (Qal g' p')) rfl rfl HS0 (fun W hW=>?_) ?_
     ·obtain ⟨⟨x0,x1,x2,x3,x4,x5,x6,x7,x8,x9,x10,x11,x12⟩,⟨y0,y1,y2,y3,y4,y5,y6,y7,y8,y9,y10,y11,y12⟩,_⟩:=HC.out W hW
      clear hW;go_simp
     simp only [sA,sB,sC];refine onE (i:=4) rfl (fun K hK=>?_);go_simp;refine (QaH _ _ OK.out.s OK'.out.s _).mono ?_;rintro e wz ⟨rfl,hwz⟩;obtain rfl:=hwz.symm;dsimp only;refine hK.out _ _ (fun _=>HS0) ?_;clear hK K
     try simp only [Act.put,sA,sB,sC]
     refine onE (i:=6) rfl (fun K hK=>?_);go_simp;refine (Qeo (g:=g) (p:=p) _ HK1.out).mono ?_;rintro e w3 ⟨rfl,hb3⟩;have HB3:Hid (Below w2.heap.size w2 w3):=(HS0:Below w2.heap.size w2 w2.drew).trans (hb3.mono (ZZa _));clear hb3;dsimp only;refine hK.out _ _ (fun _=>HB3.out) ?_;clear hK K
     try simp only [Act.put,sA,sB,sC]
     have na1:=naH (.int .u64 g.z) (.slice p.pa g.P.length p.pc) (.slice p.na g.N.length p.nc) (.int .i64 g.x) (.int .u64 g.y);refine tkS (i:=9) (v:=.func (.method "loop.example/g00309/impl.merge") #[.iface 174 (.agg #[.int .u64 g.z,.slice p.pa g.P.length p.pc,.slice p.na g.N.length p.nc,.int .i64 g.x,.int .u64 g.y])] #[]) rfl rfl HB3.out ?_;refine tkS (i:=10) (v:=.func (.method "loop.example/g00309/impl.merge") #[.iface 174 (.agg #[.int .u64 g.z,.slice p.pa g.P.length p.pc,.slice p.na g.N.length p.nc,.int .i64 g.x,.int .u64 g.y])] #[]) rfl rfl HB3.out ?_;refine tkS (i:=11) (v:=.iface 174 (.agg #[.int .u64 g.z,.slice p.pa g.P.length p.pc,.slice p.na g.N.length p.nc,.int .i64 g.x,.int .u64 g.y])) rfl rfl HB3.out ?_;simp only [sA,sB,sC];refine onE (i:=8) rfl (fun K hK=>?_);go_simp;refine (Qeo (g:=g') (p:=p') _ HK2.out).mono ?_;rintro e w4 ⟨rfl,hb4⟩;have HB4:Hid (Below w2.heap.size w2 w4):=Qad HB3.out hb4;have HA4:=Qaa (Qan HA.out (Qad HT2.out HB4.out));have HA4':=Qaa (Qan HA'.out (Qad HT2.out HB4.out));clear hb4;dsimp only;refine hK.out _ _ (fun _=>HB4.out) ?_;clear hK K
     try simp only [Act.put,sA,sB,sC]
     refine onE (i:=12) rfl (fun K hK=>?_);go_simp;refine (QoK OK.out OK'.out SM.out SM'.out HA4.out HA4'.out NO.out.sk NO'.out.sk).mono ?_;rintro e w5 ⟨v5,rfl,ho5,hb5⟩;obtain ⟨vp,vn,pn,nn,rfl,o1,o2,hap⟩:=ho5;obtain ⟨pa,pc,rfl⟩:=o1.any;obtain ⟨na,nc,rfl⟩:=o2.any;obtain rfl:=o1.1;obtain rfl:=o2.1;have HO1:=Qaa o1;have HO2:=Qaa o2;have HAP:=Qaa hap;have HB5:Hid (Below w2.heap.size w2 w5):=Qad HB4.out hb5;have hz4:=HB4.out.size;clear hb5 o1 o2 hap;dsimp only;refine hK.out _ _ (fun _=>HB5.out) ?_;clear hK K
     try simp only [Act.put,sA,sB,sC]
     refine onE (i:=13) rfl (fun K hK=>?_);go_simp;refine (QeS ⟨0,QaA g.s g'.s,0,0,0,0,QaA g.z g'.z,QaJ (mrg g.P g'.P),QaJ (mrg g.N g'.N),Qbp g.x g.y g'.x g'.y,Qbu g.y g'.y,[],[]⟩ ⟨pa,pc,na,nc,none,0,none,0⟩ _).mono ?_;rintro e w6 ⟨rfl,hb6⟩;have HB6:Hid (Below w2.heap.size w2 w6):=Qad HB5.out hb6;have HB56:=Qaa hb6;clear hb6;dsimp only;refine hK.out _ _ (fun _=>HB6.out) ?_;clear hK K
     try simp only [Act.put,sA,sB,sC]
     have HR6:=Qaa (HC.out _ HB6.out).2.2;obtain ⟨q0,q1,q2,q3,q4,q5,q6,q7,q8,q9,q10,q11,q12⟩:=Qby HR6.out;obtain ⟨f0,f1,f2,f3,f4,f5,f6,f7,f8,f9,f10,f11,f12⟩:=Qdr HR6.out;refine onE (i:=14) rfl (fun K hK=>?_);go_simp;refine hK.out _ _ (fun h=>absurd rfl h) ?_;clear hK K
     try simp only [Act.put,sA,sB,sC]
     refine Qar (by kernel_rfl) ?_ _;go_wp2;refine bodyPost_ret (v:=.agg (Qal ⟨3,QaA g.s g'.s,0,0,0,0,QaA g.z g'.z,QaJ (mrg g.P g'.P),QaJ (mrg g.N g'.N),Qbp g.x g.y g'.x g'.y,Qbu g.y g'.y,[],[]⟩ ⟨pa,pc,na,nc,none,0,none,0⟩)) (by simp [results,Tryz.results54,go_sem,q0,q1,q2,q3,q4,q5,q6,q7,q8,q9,q10,q11,q12]) rfl (AgRes.mk (o:=⟨3,QaA g.s g'.s,0,0,0,0,QaA g.z g'.z,QaJ (mrg g.P g'.P),QaJ (mrg g.N g'.N),Qbp g.x g.y g'.x g'.y,Qbu g.y g'.y,[],[]⟩) (p:=⟨pa,pc,na,nc,none,0,none,0⟩) ?_ ?_ ?_)
     ·exact mrgH HG.out.1 HG.out.2.1 HG.out.2.2 HK1.out
     ·refine AgO.le (B:=w4.heap.size) ?_ (by omega)
      repeat (refine AgO.below ?_ (by omega) _)
      exact ⟨HO1.out.past HB56.out,HO2.out.past HB56.out,HAP.out,⟨rfl,World.ownsRow_nil _ _ _ _⟩,⟨rfl,World.ownsRow_nil _ _ _ _⟩⟩
     ·repeat (refine Below.setCell ?_ (by simp <;> omega) _)
      exact Qad HT2.out HB6.out
    ·have HK1:=Qaa h
     have HK2:=Qaa (HG.out.2.2.symm.trans h);clear h;have HS0:(fun W=>Below w2.heap.size w2 W) w2.drew:=(ZZb _ _).drew;refine Qaj (fun W=>Below w2.heap.size w2 W) 14 (by kernel_rfl) ?_;refine tkL (i:=0) (v:=.pointer (some ⟨w.heap.size,1,none⟩)) rfl rfl HS0 (fun W hW=>?_) ?_
     ·obtain ⟨⟨x0,x1,x2,x3,x4,x5,x6,x7,x8,x9,x10,x11,x12⟩,⟨y0,y1,y2,y3,y4,y5,y6,y7,y8,y9,y10,y11,y12⟩,_⟩:=HC.out W hW
      clear hW;go_simp
     refine tkL (i:=1) (v:=.int .u64 g.s) rfl rfl HS0 (fun W hW=>?_) ?_
     ·obtain ⟨⟨x0,x1,x2,x3,x4,x5,x6,x7,x8,x9,x10,x11,x12⟩,⟨y0,y1,y2,y3,y4,y5,y6,y7,y8,y9,y10,y11,y12⟩,_⟩:=HC.out W hW
      clear hW;go_simp
     refine tkL (i:=2) (v:=.pointer (some ⟨w.heap.size+1,1,none⟩)) rfl rfl HS0 (fun W hW=>?_) ?_
     ·obtain ⟨⟨x0,x1,x2,x3,x4,x5,x6,x7,x8,x9,x10,x11,x12⟩,⟨y0,y1,y2,y3,y4,y5,y6,y7,y8,y9,y10,y11,y12⟩,_⟩:=HC.out W hW
      clear hW;go_simp
     simp only [sA,sB,sC];refine tkL (i:=3) (v:=.int .u64 g'.s) rfl rfl HS0 (fun W hW=>?_) ?_
     ·obtain ⟨⟨x0,x1,x2,x3,x4,x5,x6,x7,x8,x9,x10,x11,x12⟩,⟨y0,y1,y2,y3,y4,y5,y6,y7,y8,y9,y10,y11,y12⟩,_⟩:=HC.out W hW
      clear hW;go_simp
     refine tkL (i:=5) (v:=.agg (Qal g p)) rfl rfl HS0 (fun W hW=>?_) ?_
     ·obtain ⟨⟨x0,x1,x2,x3,x4,x5,x6,x7,x8,x9,x10,x11,x12⟩,⟨y0,y1,y2,y3,y4,y5,y6,y7,y8,y9,y10,y11,y12⟩,_⟩:=HC.out W hW
      clear hW;go_simp
     refine tkL (i:=7) (v:=.agg (Qal g' p')) rfl rfl HS0 (fun W hW=>?_) ?_
     ·obtain ⟨⟨x0,x1,x2,x3,x4,x5,x6,x7,x8,x9,x10,x11,x12⟩,⟨y0,y1,y2,y3,y4,y5,y6,y7,y8,y9,y10,y11,y12⟩,_⟩:=HC.out W hW
      clear hW;go_simp
     simp only [sA,sB,sC];refine onE (i:=4) rfl (fun K hK=>?_);go_simp;refine (QaH _ _ OK.out.s OK'.out.s _).mono ?_;rintro e wz ⟨rfl,hwz⟩;obtain rfl:=hwz.symm;dsimp only;refine hK.out _ _ (fun _=>HS0) ?_;clear hK K
     try simp only [Act.put,sA,sB,sC]
     refine onE (i:=6) rfl (fun K hK=>?_);go_simp;refine (QeK (g:=g) (p:=p) _ HK1.out).mono ?_;rintro e w3 ⟨rfl,hb3⟩;have HB3:Hid (Below w2.heap.size w2 w3):=(HS0:Below w2.heap.size w2 w2.drew).trans (hb3.mono (ZZa _));clear hb3;dsimp only;refine hK.out _ _ (fun _=>HB3.out) ?_;clear hK K
     try simp only [Act.put,sA,sB,sC]
     have na1:=naS (.slice p.ea g.E.length p.ec) (.slice p.ra g.R.length p.rc);refine tkS (i:=9) (v:=.func (.method "loop.example/g00309/impl.merge") #[.iface 176 (.agg #[.slice p.ea g.E.length p.ec,.slice p.ra g.R.length p.rc])] #[]) rfl rfl HB3.out ?_;refine tkS (i:=10) (v:=.func (.method "loop.example/g00309/impl.merge") #[.iface 176 (.agg #[.slice p.ea g.E.length p.ec,.slice p.ra g.R.length p.rc])] #[]) rfl rfl HB3.out ?_;refine tkS (i:=11) (v:=.iface 176 (.agg #[.slice p.ea g.E.length p.ec,.slice p.ra g.R.length p.rc])) rfl rfl HB3.out ?_;simp only [sA,sB,sC];refine onE (i:=8) rfl (fun K hK=>?_);go_simp;refine (QeK (g:=g') (p:=p') _ HK2.out).mono ?_;rintro e w4 ⟨rfl,hb4⟩;have HB4:Hid (Below w2.heap.size w2 w4):=Qad HB3.out hb4;have HA4:=Qaa (Qan HA.out (Qad HT2.out HB4.out));have HA4':=Qaa (Qan HA'.out (Qad HT2.out HB4.out));clear hb4;dsimp only;refine hK.out _ _ (fun _=>HB4.out) ?_;clear hK K
     try simp only [Act.put,sA,sB,sC]
     refine onE (i:=12) rfl (fun K hK=>?_);go_simp;refine (Qn1 OK.out OK'.out SM.out SM'.out HA4.out HA4'.out).mono ?_;rintro e w5 ⟨v5,E,R,rfl,hM,ho5,hb5⟩;obtain ⟨vp,vn,rfl,o1,o2⟩:=ho5;obtain ⟨pa,pc,rfl⟩:=Qam o1;obtain ⟨na,nc,rfl⟩:=Qam o2;have HO1:=Qaa o1;have HO2:=Qaa o2;have HM:=Qaa hM;have HB5:Hid (Below w2.heap.size w2 w5):=Qad HB4.out hb5;have hz4:=HB4.out.size;clear hb5 o1 o2 hM;dsimp only;refine hK.out _ _ (fun _=>HB5.out) ?_;clear hK K
     try simp only [Act.put,sA,sB,sC]
     refine onE (i:=13) rfl (fun K hK=>?_);go_simp;refine (Qff ⟨0,QaA g.s g'.s,0,0,0,0,0,[],[],0,0,E,R⟩ ⟨none,0,none,0,pa,pc,na,nc⟩ _).mono ?_;rintro e w6 ⟨rfl,hb6⟩;have HB6:Hid (Below w2.heap.size w2 w6):=Qad HB5.out hb6;have HB56:=Qaa hb6;clear hb6;dsimp only;refine hK.out _ _ (fun _=>HB6.out) ?_;clear hK K
     try simp only [Act.put,sA,sB,sC]
     have HR6:=Qaa (HC.out _ HB6.out).2.2;obtain ⟨q0,q1,q2,q3,q4,q5,q6,q7,q8,q9,q10,q11,q12⟩:=Qby HR6.out;obtain ⟨f0,f1,f2,f3,f4,f5,f6,f7,f8,f9,f10,f11,f12⟩:=Qdr HR6.out;refine onE (i:=14) rfl (fun K hK=>?_);go_simp;refine hK.out _ _ (fun h=>absurd rfl h) ?_;clear hK K
     try simp only [Act.put,sA,sB,sC]
     refine Qar (by kernel_rfl) ?_ _;go_wp2;refine bodyPost_ret (v:=.agg (Qal ⟨4,QaA g.s g'.s,0,0,0,0,0,[],[],0,0,E,R⟩ ⟨none,0,none,0,pa,pc,na,nc⟩)) (by simp [results,Tryz.results54,go_sem,q0,q1,q2,q3,q4,q5,q6,q7,q8,q9,q10,q11,q12]) rfl (AgRes.mk (o:=⟨4,QaA g.s g'.s,0,0,0,0,0,[],[],0,0,E,R⟩) (p:=⟨none,0,none,0,pa,pc,na,nc⟩) ?_ ?_ ?_)
     ·exact mrgS HG.out.1 HG.out.2.1 HG.out.2.2 HK1.out HM.out
     ·refine AgO.le (B:=w4.heap.size) ?_ (by omega)
      repeat (refine AgO.below ?_ (by omega) _)
      exact ⟨⟨rfl,.inl ⟨rfl,rfl⟩⟩,⟨rfl,.inl ⟨rfl,rfl⟩⟩,(fun k e=>by cases e),⟨rfl,QaP HO1.out HB56.out⟩,⟨rfl,QaP HO2.out HB56.out⟩⟩
     ·repeat (refine Below.setCell ?_ (by simp <;> omega) _)
      exact Qad HT2.out HB6.out
   ·have HQ:Hid (AgMrg g g' QbA):=QmO (fun h=>hk h.2.2)
    have HR2:=Qaa (HC.out _ (ZZb _ _)).2.2;have hb:(g.k != g'.k)=true:=by simp [hk]
    obtain ⟨⟨x0,_⟩,⟨y0,_⟩,_⟩:=HC.out _ (ZZb _ _);clear hq hq' hk;obtain ⟨q0,q1,q2,q3,q4,q5,q6,q7,q8,q9,q10,q11,q12⟩:=Qby HR2.out;obtain ⟨f0,f1,f2,f3,f4,f5,f6,f7,f8,f9,f10,f11,f12⟩:=Qdr HR2.out;go_wp2;refine bodyPost_ret (v:=.agg Qfl) (by simp [results,Tryz.results54,go_sem,QbA,q0,q1,q2,q3,q4,q5,q6,q7,q8,q9,q10,q11,q12]) rfl (AgRes.mk (o:=QbA) (p:=pl0) HQ.out (AgO.nil _ _ rfl rfl rfl rfl) ?_)
    repeat (refine Below.setCell ?_ (by simp <;> omega) _)
    exact HT2.out
end Go.Proofs.YthchmdmncmioiaaGreatDoor
