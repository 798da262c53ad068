/-
 Parts.
-/
import Derived.Test.YtandnmpllheniaaGreatDoorCJE
import Derived.Test.YtandnmpllheniaaGreatDoorCJO
import Derived.Test.YtandnmpllheniaaGreatDoorCJV
import Derived.Test.YtandnmpllheniaaGreatDoorCJX
set_option linter.all false
set_option maxHeartbeats 16000000
namespace Go.Proofs.YtandnmpllheniaaGreatDoor
open Go.ChangeShapes Go.WideShapes Go.ChangeAt Go.RowKit Go.PlainAid Go.Lib
set_option maxRecDepth 10000
def Qdt (a t a' t':Int):Bool:=decide (t<t') || ((t' == t) && decide (a<a'))
def gA (a t a' t':Int):Int:=if Qdt a t a' t'=true then a' else a
def gT (a t a' t':Int):Int:=if Qdt a t a' t'=true then t' else t
structure AgO (w:World) (B:Nat) (o:Ag) (p:Pl):Prop where
 P:OwnB w B (.slice p.pa o.P.length p.pc) o.P.length o.P
 N:OwnB w B (.slice p.na o.N.length p.nc) o.N.length o.N
 ap:QdP (.slice p.pa o.P.length p.pc) (.slice p.na o.N.length p.nc)
 E:OwnN .u64 26 w B (.slice p.ea o.E.length p.ec) o.E.length o.E
 R:OwnN .i64 2 w B (.slice p.ra o.R.length p.rc) o.R.length o.R
def AgOut (w:World) (B:Nat) (v:Value) (o:Ag):Prop:=∃ p,v=.agg (Qak o p)/\AgO w B o p
def QbQ:Ag:=⟨0,0,0,0,0,0,0,[],[],0,0,[],[]⟩
def QjQ (g g':Ag) (E R:List Int):Ag:=⟨g.k,Qar g.s g'.s,QaO g.h g.l g'.h g'.l,QaS g.l g'.l,if g.k=2 then gA g.a g.t g'.a g'.t else 0,if g.k=2 then gT g.a g.t g'.a g'.t else 0,Qar g.z g'.z,Qan (mrg g.P g'.P),Qan (mrg g.N g'.N),QaO g.x g.y g'.x g'.y,QaS g.y g'.y,E,R⟩
def AgMrg (g g' o:Ag):Prop:=if agB g=true/\agB g'=true/\g.k=g'.k then ∃ E R,Mg g.E g.R g'.E g'.R E R/\o=QjQ g g' E R else o=QbQ
theorem AgMrg.one {g g' o o':Ag} (h:AgMrg g g' o) (k:AgMrg g g' o'):o=o':=by
 unfold AgMrg at h k
 split at h
 ·rw [if_pos (by assumption)] at k
  obtain ⟨E,R,m,rfl⟩:=h;obtain ⟨E',R',m',rfl⟩:=k;obtain ⟨rfl,rfl⟩:=m.one m'
  rfl
 ·rw [if_neg (by assumption)] at k
  exact h.trans k.symm
structure AgNo (g:Ag):Prop where
 k1:1<=g.k
 k4:g.k<=4
 sk:skB g.P g.N=true
 hl:hlB g.E g.R=true
 nc:g.k≠1->g.h=0/\g.l=0
 ng:g.k≠2->g.a=0/\g.t=0
 nh:g.k≠3->g.z=0/\g.x=0/\g.y=0/\g.P=[]/\g.N=[]
 ns:g.k≠4->g.E=[]/\g.R=[]
theorem QaQ {g:Ag} (h:agB g=true):AgNo g:=by
 unfold agB at h;simp only [Bool.and_eq_true,Bool.or_eq_true,decide_eq_true_eq,beq_iff_eq,Qcf,QfB] at h;obtain ⟨⟨⟨⟨⟨⟨⟨h1,h2⟩,h3⟩,h4⟩,h5⟩,h6⟩,h7⟩,h8⟩:=h;refine ⟨h1,h2,h3,h4,fun n=>?_,fun n=>?_,fun n=>?_,fun n=>?_⟩
 ·rcases h5 with h | h
  ·exact absurd h n
  ·simpa [Qhm] using h
 ·rw [if_neg n] at h8;simpa using h8
 ·exact h6.elim (fun e=>absurd e n) id
 ·exact h7.elim (fun e=>absurd e n) id
theorem QlU:Mg [] [] [] [] [] []:=.inl ⟨rfl,rfl,by simp [QiR,Qce],rfl,rfl⟩
theorem QeU:Qan (mrg [] [])=[]:=by simp [mrg,Qan]
theorem Qgn:Qar 0 0=0:=by decide
theorem QdY:QaO 0 0 0 0=0:=by decide +kernel
theorem Qd3:QaS 0 0=0:=by decide
theorem mrgC {g g':Ag} (h:agB g=true) (h':agB g'=true) (e:g.k=g'.k) (k:g.k=1):AgMrg g g' ⟨1,Qar g.s g'.s,QaO g.h g.l g'.h g'.l,QaS g.l g'.l,0,0,0,[],[],0,0,[],[]⟩:=by
 have n:=QaQ h;have n':=QaQ h';unfold AgMrg;rw [if_pos ⟨h,h',e⟩];obtain ⟨a1,a2,a3,a4,a5⟩:=n.nh (by omega);obtain ⟨b1,b2,b3,b4,b5⟩:=n'.nh (by omega);obtain ⟨c1,c2⟩:=n.ns (by omega);obtain ⟨d1,d2⟩:=n'.ns (by omega);refine ⟨[],[],by rw [c1,c2,d1,d2];exact QlU,?_⟩;unfold QjQ;rw [if_neg (by omega),if_neg (by omega),a1,a2,a3,a4,a5,b1,b2,b3,b4,b5,k,QeU,Qgn,QdY,Qd3]
theorem mrgG {g g':Ag} (h:agB g=true) (h':agB g'=true) (e:g.k=g'.k) (k:g.k=2):AgMrg g g' ⟨2,Qar g.s g'.s,0,0,gA g.a g.t g'.a g'.t,gT g.a g.t g'.a g'.t,0,[],[],0,0,[],[]⟩:=by
 have n:=QaQ h;have n':=QaQ h';unfold AgMrg;rw [if_pos ⟨h,h',e⟩];obtain ⟨a1,a2,a3,a4,a5⟩:=n.nh (by omega);obtain ⟨b1,b2,b3,b4,b5⟩:=n'.nh (by omega);obtain ⟨c1,c2⟩:=n.ns (by omega);obtain ⟨d1,d2⟩:=n'.ns (by omega);obtain ⟨e1,e2⟩:=n.nc (by omega);obtain ⟨f1,f2⟩:=n'.nc (by omega);refine ⟨[],[],by rw [c1,c2,d1,d2];exact QlU,?_⟩;unfold QjQ;rw [if_pos k,if_pos k,a1,a2,a3,a4,a5,b1,b2,b3,b4,b5,e1,e2,f1,f2,k,QeU,Qgn,QdY,Qd3]
theorem mrgH {g g':Ag} (h:agB g=true) (h':agB g'=true) (e:g.k=g'.k) (k:g.k=3):AgMrg g g' ⟨3,Qar g.s g'.s,0,0,0,0,Qar g.z g'.z,Qan (mrg g.P g'.P),Qan (mrg g.N g'.N),QaO g.x g.y g'.x g'.y,QaS g.y g'.y,[],[]⟩:=by
 have n:=QaQ h;have n':=QaQ h';unfold AgMrg;rw [if_pos ⟨h,h',e⟩];obtain ⟨c1,c2⟩:=n.ns (by omega);obtain ⟨d1,d2⟩:=n'.ns (by omega);obtain ⟨e1,e2⟩:=n.nc (by omega);obtain ⟨f1,f2⟩:=n'.nc (by omega);refine ⟨[],[],by rw [c1,c2,d1,d2];exact QlU,?_⟩;unfold QjQ;rw [if_neg (by omega),if_neg (by omega),e1,e2,f1,f2,k,QdY,Qd3]
theorem mrgS {g g':Ag} {E R:List Int} (h:agB g=true) (h':agB g'=true) (e:g.k=g'.k) (k:g.k=4) (m:QeP g.E g.R g'.E g'.R E R):AgMrg g g' ⟨4,Qar g.s g'.s,0,0,0,0,0,[],[],0,0,E,R⟩:=by
 have n:=QaQ h;have n':=QaQ h';unfold AgMrg;rw [if_pos ⟨h,h',e⟩];obtain ⟨a1,a2,a3,a4,a5⟩:=n.nh (by omega);obtain ⟨b1,b2,b3,b4,b5⟩:=n'.nh (by omega);obtain ⟨e1,e2⟩:=n.nc (by omega);obtain ⟨f1,f2⟩:=n'.nc (by omega);unfold QeP at m;rw [if_pos ⟨n.hl,n'.hl⟩] at m;refine ⟨E,R,m,?_⟩;unfold QjQ;rw [if_neg (by omega),if_neg (by omega),a1,a2,a3,a4,a5,b1,b2,b3,b4,b5,e1,e2,f1,f2,k,QeU,Qgn,QdY,Qd3]
theorem fdC (a b:Value) (w:World):(Instr.field 170 (.agg #[a,b]) 0).run Tryz.prog w=.ok (.agg #[a,b]) w:=by kernel_rfl
theorem fdH (a b c d e:Value) (w:World):(Instr.field 174 (.agg #[a,b,c,d,e]) 0).run Tryz.prog w=.ok (.agg #[a,b,c,d,e]) w:=by kernel_rfl
theorem fdS (a b:Value) (w:World):(Instr.field 176 (.agg #[a,b]) 0).run Tryz.prog w=.ok (.agg #[a,b]) w:=by kernel_rfl
theorem tfC (v:Value) (w:World):(Instr.typeAssert (.iface 170 v) 129 170 false).run Tryz.prog w=.ok v w:=by kernel_rfl
theorem tfG (v:Value) (w:World):(Instr.typeAssert (.iface 172 v) 129 172 false).run Tryz.prog w=.ok v w:=by kernel_rfl
theorem tfH (v:Value) (w:World):(Instr.typeAssert (.iface 174 v) 129 174 false).run Tryz.prog w=.ok v w:=by kernel_rfl
theorem tfS (v:Value) (w:World):(Instr.typeAssert (.iface 176 v) 129 176 false).run Tryz.prog w=.ok v w:=by kernel_rfl
theorem QcX {w:World} {r:Nat} {cs:Array Value} {T:TypeId} (h:w.heap[r]?=some (.cells cs T (0,0))) (j:Nat) {v:Value} (e:cs[j]?=some v):w.cell? ⟨r,j,none⟩=some v:=by rw [cell_of_row _ _ j _ _ (0,0) h];exact e
theorem Qpl (h l h' l':Int) (w:World) (ul:U64 l) (ul':U64 l'):Calls Tryz.prog 276 #[.agg #[.int .i64 h,.int .u64 l],.iface 170 (.agg #[.int .i64 h',.int .u64 l'])] w fun e w'=>e=.returned (.iface 170 (.agg #[.int .i64 (QaO h l h' l'),.int .u64 (QaS l l')]))/\Below w.heap.size w w':=by
 have t1:=tfC (.agg #[.int .i64 h',.int .u64 l']);have t2:=fdC (.int .i64 h') (.int .u64 l');have UL:=Qaa ul;have ad:=Qaa ul';clear ul ul';have HB:Hid (∀ o,Below w.heap.size w (w.alloc o)):=fun o=>(ZZb _ _).alloc (ZZa _) o;have HN:=Qaa (ZZk w (.cells #[.int .i64 h,.int .u64 l] 170));go_enter Tryz.func276,Tryz.ntmps276;go_wp2_with fail;generalize hW0:w.alloc (Obj.cells #[.int .i64 h,.int .u64 l] 170)=W0 at HN;have T0:Below w.heap.size w W0.drew:=by rw [<- hW0];exact (HB.out _).drew
 have ae:w.heap.size<W0.heap.size:=by rw [<- hW0];simp
 have ac:=Qaa T0;clear hW0 T0;have R0:W0.drew.heap[w.heap.size]?=some (.cells #[.int .i64 h,.int .u64 l] 170 (0,0)):=HN.out;refine Qaj (fun W=>W.heap[w.heap.size]?=some (.cells #[.int .i64 h,.int .u64 l] 170 (0,0))) 9 (by kernel_rfl) ?_;refine tkS 0 (.pointer (some ⟨w.heap.size,0,none⟩)) R0 ?_;refine tkL 1 (.agg #[.int .i64 h,.int .u64 l]) R0 (fun W hW=>?_) ?_
 ·have x0:=QcX hW 0 rfl
  have x1:=QcX hW 1 rfl;clear hW;go_simp
 refine tkS 2 (.iface 170 (.agg #[.int .i64 h',.int .u64 l'])) R0 ?_;simp only [sX];refine tkS 3 (.agg #[.int .i64 h',.int .u64 l']) R0 ?_;refine tkS 4 (.agg #[.int .i64 h',.int .u64 l']) R0 ?_;simp only [sX];refine onE 5 fun K hK=>?_;go_simp;refine (Qb1 _ _ _ _ _ UL ad).mono ?_;rintro e w1 ⟨rfl,aa⟩;have R1:=(aa.block _ (by show w.heap.size<W0.heap.size;exact ae)).trans R0;have ab:=Qaa (Qac ac aa);clear aa;dsimp only;refine gK hK R1 ?_
 try simp only [sX]
 refine tkS 6 (.agg #[.int .i64 (QaO h l h' l'),.int .u64 (QaS l l')]) R1 ?_;refine tkS 7 (.iface 170 (.agg #[.int .i64 (QaO h l h' l'),.int .u64 (QaS l l')])) R1 ?_;simp only [sX];refine onE 8 fun K hK=>?_;go_simp;refine gK hK R1 ?_
 try simp only [sX]
 refine dnE ?_ _;go_wp2;go_ret;exact ⟨rfl,ab⟩
theorem Qo4 {w:World} {g g':Ag} {p p':Pl} (ok:AgOk g) (ok':AgOk g') (sm:AgSm g) (sm':AgSm g') (hA:AgAt w g p) (hA':AgAt w g' p') (sk:skB g.P g.N=true) (sk':skB g'.P g'.N=true):Calls Tryz.prog 285 #[.agg #[.int .u64 g.z,.slice p.pa g.P.length p.pc,.slice p.na g.N.length p.nc,.int .i64 g.x,.int .u64 g.y],.iface 174 (.agg #[.int .u64 g'.z,.slice p'.pa g'.P.length p'.pc,.slice p'.na g'.N.length p'.nc,.int .i64 g'.x,.int .u64 g'.y])] w fun e w'=>∃ v,e=.returned (.iface 174 v)/\QeH w' w.heap.size v (Qar g.z g'.z) (Qan (mrg g.P g'.P)) (Qan (mrg g.N g'.N)) (QaO g.x g.y g'.x g'.y) (QaS g.y g'.y)/\Below w.heap.size w w':=by
 have t1:=tfH (.agg #[.int .u64 g'.z,.slice p'.pa g'.P.length p'.pc,.slice p'.na g'.N.length p'.nc,.int .i64 g'.x,.int .u64 g'.y]);have t2:=fdH (.int .u64 g'.z) (.slice p'.pa g'.P.length p'.pc) (.slice p'.na g'.N.length p'.nc) (.int .i64 g'.x) (.int .u64 g'.y);have OK:=Qaa ok;have ab:=Qaa ok';have SM:=Qaa sm;have ae:=Qaa sm';have HA:=Qaa hA;have af:=Qaa hA';have SK:=Qaa sk;have aj:=Qaa sk';clear ok ok' sm sm' hA hA' sk sk';have HB:Hid (∀ o,Below w.heap.size w (w.alloc o)):=fun o=>(ZZb _ _).alloc (ZZa _) o;have HN:=Qaa (ZZk w (.cells #[.int .u64 g.z,.slice p.pa g.P.length p.pc,.slice p.na g.N.length p.nc,.int .i64 g.x,.int .u64 g.y] 174));go_enter Tryz.func285,Tryz.ntmps285;go_wp2_with fail;generalize hW0:w.alloc (Obj.cells #[.int .u64 g.z,.slice p.pa g.P.length p.pc,.slice p.na g.N.length p.nc,.int .i64 g.x,.int .u64 g.y] 174)=W0 at HN;have T0:Below w.heap.size w W0.drew:=by rw [<- hW0];exact (HB.out _).drew
 have ac:w.heap.size<W0.heap.size:=by rw [<- hW0];simp
 have aa:=Qaa T0;clear hW0 T0;have R0:W0.drew.heap[w.heap.size]?=some (.cells #[.int .u64 g.z,.slice p.pa g.P.length p.pc,.slice p.na g.N.length p.nc,.int .i64 g.x,.int .u64 g.y] 174 (0,0)):=HN.out;refine Qaj (fun W=>W.heap[w.heap.size]?=some (.cells #[.int .u64 g.z,.slice p.pa g.P.length p.pc,.slice p.na g.N.length p.nc,.int .i64 g.x,.int .u64 g.y] 174 (0,0))) 9 (by kernel_rfl) ?_;refine tkS 0 (.pointer (some ⟨w.heap.size,0,none⟩)) R0 ?_;refine tkL 1 (.agg #[.int .u64 g.z,.slice p.pa g.P.length p.pc,.slice p.na g.N.length p.nc,.int .i64 g.x,.int .u64 g.y]) R0 (fun W hW=>?_) ?_
 ·have x0:=QcX hW 0 rfl
  have x1:=Qad hW 1 rfl;have x2:=Qad hW 2 rfl;have x3:=Qad hW 3 rfl;have x4:=Qad hW 4 rfl;clear hW;go_simp
 refine tkS 2 (.iface 174 (.agg #[.int .u64 g'.z,.slice p'.pa g'.P.length p'.pc,.slice p'.na g'.N.length p'.nc,.int .i64 g'.x,.int .u64 g'.y])) R0 ?_;simp only [sX];refine tkS 3 (.agg #[.int .u64 g'.z,.slice p'.pa g'.P.length p'.pc,.slice p'.na g'.N.length p'.nc,.int .i64 g'.x,.int .u64 g'.y]) R0 ?_;refine tkS 4 (.agg #[.int .u64 g'.z,.slice p'.pa g'.P.length p'.pc,.slice p'.na g'.N.length p'.nc,.int .i64 g'.x,.int .u64 g'.y]) R0 ?_;simp only [sX];refine onE 5 fun K hK=>?_;go_simp;refine (Qg6 OK.out.z OK.out.y ab.out.z ab.out.y rfl rfl rfl rfl SM.out.P SM.out.N ae.out.P ae.out.N (Qae HA.out.P aa) (Qae HA.out.N aa) (Qae af.out.P aa) (Qae af.out.N aa) OK.out.P OK.out.N ab.out.P ab.out.N).mono ?_;rintro e w1 ⟨v1,rfl,ad,ag⟩
 have ho:QeH w1 W0.heap.size v1 (Qar g.z g'.z) (Qan (mrg g.P g'.P)) (Qan (mrg g.N g'.N)) (QaO g.x g.y g'.x g'.y) (QaS g.y g'.y):=by
  rcases ag with ⟨ok,ho⟩ | ⟨no,_⟩
  ·rw [Qh3 (QbV ok.1).1.1 (QbV ok.2).1.1,Qh3 (QbV ok.1).2.1 (QbV ok.2).2.1] at ho
   exact ho
  ·exact absurd ⟨SK,aj⟩ no
 obtain ⟨vp,vn,pn,nn,rfl,o1,o2,ah⟩:=ho;have HO:=Qaa (And.intro (o1.le (Nat.le_of_lt ac)) (And.intro (o2.le (Nat.le_of_lt ac)) ah));clear ag o1 o2 ah;have R1:=(ad.block _ (by show w.heap.size<W0.heap.size;exact ac)).trans R0;have ai:=Qaa (Qac aa ad);clear ad;dsimp only;refine gK hK R1 ?_
 try simp only [sX]
 refine tkS 6 (.agg #[.int .u64 (Qar g.z g'.z),vp,vn,.int .i64 (QaO g.x g.y g'.x g'.y),.int .u64 (QaS g.y g'.y)]) R1 ?_;refine tkS 7 (.iface 174 (.agg #[.int .u64 (Qar g.z g'.z),vp,vn,.int .i64 (QaO g.x g.y g'.x g'.y),.int .u64 (QaS g.y g'.y)])) R1 ?_;simp only [sX];refine onE 8 fun K hK=>?_;go_simp;refine gK hK R1 ?_
 try simp only [sX]
 refine dnE ?_ _;go_wp2;go_ret;exact ⟨_,rfl,⟨vp,vn,pn,nn,rfl,HO.out.1,HO.out.2.1,HO.out.2.2⟩,ai⟩
theorem Qpb {w:World} {g g':Ag} {p p':Pl} (ok:AgOk g) (ok':AgOk g') (sm:AgSm g) (sm':AgSm g') (hA:AgAt w g p) (hA':AgAt w g' p'):Calls Tryz.prog 306 #[.agg #[.slice p.ea g.E.length p.ec,.slice p.ra g.R.length p.rc],.iface 176 (.agg #[.slice p'.ea g'.E.length p'.ec,.slice p'.ra g'.R.length p'.rc])] w fun e w'=>∃ v E R,e=.returned (.iface 176 v)/\QeP g.E g.R g'.E g'.R E R/\Qhr w' w.heap.size v E R/\Below w.heap.size w w':=by
 have t1:=tfS (.agg #[.slice p'.ea g'.E.length p'.ec,.slice p'.ra g'.R.length p'.rc]);have t2:=fdS (.slice p'.ea g'.E.length p'.ec) (.slice p'.ra g'.R.length p'.rc);have OK:=Qaa ok;have af:=Qaa ok';have SM:=Qaa sm;have ad:=Qaa sm';have HA:=Qaa hA;have ae:=Qaa hA';clear ok ok' sm sm' hA hA';have HB:Hid (∀ o,Below w.heap.size w (w.alloc o)):=fun o=>(ZZb _ _).alloc (ZZa _) o;have HN:=Qaa (ZZk w (.cells #[.slice p.ea g.E.length p.ec,.slice p.ra g.R.length p.rc] 176));go_enter Tryz.func306,Tryz.ntmps306;go_wp2_with fail;generalize hW0:w.alloc (Obj.cells #[.slice p.ea g.E.length p.ec,.slice p.ra g.R.length p.rc] 176)=W0 at HN;have T0:Below w.heap.size w W0.drew:=by rw [<- hW0];exact (HB.out _).drew
 have ab:w.heap.size<W0.heap.size:=by rw [<- hW0];simp
 have aa:=Qaa T0;clear hW0 T0;have R0:W0.drew.heap[w.heap.size]?=some (.cells #[.slice p.ea g.E.length p.ec,.slice p.ra g.R.length p.rc] 176 (0,0)):=HN.out;refine Qaj (fun W=>W.heap[w.heap.size]?=some (.cells #[.slice p.ea g.E.length p.ec,.slice p.ra g.R.length p.rc] 176 (0,0))) 9 (by kernel_rfl) ?_;refine tkS 0 (.pointer (some ⟨w.heap.size,0,none⟩)) R0 ?_;refine tkL 1 (.agg #[.slice p.ea g.E.length p.ec,.slice p.ra g.R.length p.rc]) R0 (fun W hW=>?_) ?_
 ·have x0:=QcX hW 0 rfl
  have x1:=QcX hW 1 rfl;clear hW;go_simp
 refine tkS 2 (.iface 176 (.agg #[.slice p'.ea g'.E.length p'.ec,.slice p'.ra g'.R.length p'.rc])) R0 ?_;simp only [sX];refine tkS 3 (.agg #[.slice p'.ea g'.E.length p'.ec,.slice p'.ra g'.R.length p'.rc]) R0 ?_;refine tkS 4 (.agg #[.slice p'.ea g'.E.length p'.ec,.slice p'.ra g'.R.length p'.rc]) R0 ?_;simp only [sX];refine onE 5 fun K hK=>?_;go_simp;refine (Qjm rfl rfl rfl rfl SM.out.E SM.out.R ad.out.E ad.out.R (Qaf HA.out.E aa) (Qaf HA.out.R aa) (Qaf ae.out.E aa) (Qaf ae.out.R aa) OK.out.E af.out.E).mono ?_;rintro e w1 ⟨v1,E,R,rfl,hM,⟨vp,vn,rfl,o1,o2⟩,ac⟩;have HM:=Qaa hM;have HO:=Qaa (And.intro (QaE o1 (Nat.le_of_lt ab)) (QaE o2 (Nat.le_of_lt ab)));clear hM o1 o2;have R1:=(ac.block _ (by show w.heap.size<W0.heap.size;exact ab)).trans R0;have ag:=Qaa (Qac aa ac);clear ac;dsimp only;refine gK hK R1 ?_
 try simp only [sX]
 refine tkS 6 (.agg #[vp,vn]) R1 ?_;refine tkS 7 (.iface 176 (.agg #[vp,vn])) R1 ?_;simp only [sX];refine onE 8 fun K hK=>?_;go_simp;refine gK hK R1 ?_
 try simp only [sX]
 refine dnE ?_ _;go_wp2;go_ret;exact ⟨_,E,R,rfl,HM,⟨vp,vn,rfl,HO.out.1,HO.out.2⟩,ag⟩
theorem Qfx {a t a' t':Int} (h:Qdt a t a' t'=true):gA a t a' t'=a'/\gT a t a' t'=t':=⟨if_pos h,if_pos h⟩
theorem Qf2 {a t a' t':Int} (h:¬ Qdt a t a' t'=true):gA a t a' t'=a/\gT a t a' t'=t:=⟨if_neg h,if_neg h⟩
theorem QoK {T:TypeId} {a t a' t':Int} (h:a'=a/\t'=t):Ending.returned (.iface T (.agg #[.int .i64 a,.int .i64 t]))=.returned (.iface T (.agg #[.int .i64 a',.int .i64 t'])):=by rw [h.1,h.2]
theorem QlL (a t a' t':Int) (w:World):Calls Tryz.prog 282 #[.agg #[.int .i64 a,.int .i64 t],.iface 172 (.agg #[.int .i64 a',.int .i64 t'])] w fun e w'=>e=.returned (.iface 172 (.agg #[.int .i64 (gA a t a' t'),.int .i64 (gT a t a' t')]))/\Below w.heap.size w w':=by
 have t1:=tfG (.agg #[.int .i64 a',.int .i64 t']);have HB:Hid (∀ o o',Below w.heap.size w ((w.alloc o).alloc o')):=fun o o'=>((Below.refl _ _).alloc (Nat.le_refl _) o).alloc (by simp) o';by_cases h1:t<t'
 ·have HE:Hid (gA a t a' t'=a'/\gT a t a' t'=t'):=Qfx (by simp [Qdt,h1])
  have d1:decide (t<t')=true:=ZZh h1;go_enter Tryz.func282,Tryz.ntmps282;go_wp2;go_ret;exact ⟨QoK HE,HB.out _ _⟩
 ·have d1:decide (t<t')=false:=ZZg h1
  by_cases h2:t'=t
  ·subst h2
   by_cases h3:a<a'
   ·have HE:Hid (gA a t' a' t'=a'/\gT a t' a' t'=t'):=Qfx (by simp [Qdt,h3])
    have d3:decide (a<a')=true:=ZZh h3;go_enter Tryz.func282,Tryz.ntmps282;go_wp2;go_ret;exact ⟨QoK HE,HB.out _ _⟩
   ·have HE:Hid (gA a t' a' t'=a/\gT a t' a' t'=t'):=Qf2 (by simp [Qdt,h3])
    have d3:decide (a<a')=false:=ZZg h3;go_enter Tryz.func282,Tryz.ntmps282;go_wp2;go_ret;exact ⟨QoK HE,HB.out _ _⟩
  ·have HE:Hid (gA a t a' t'=a/\gT a t a' t'=t):=Qf2 (by simp [Qdt,h1,h2])
   have d2:(t' == t)=false:=ZZf.2 h2;go_enter Tryz.func282,Tryz.ntmps282;go_wp2;go_ret;exact ⟨QoK HE,HB.out _ _⟩
abbrev pl0:Pl:=⟨none,0,none,0,none,0,none,0⟩
abbrev Qe1:Array Value:=Qak QbQ pl0
theorem OwnB.below {w:World} {B n r j:Nat} {v:Value} {L:List Bn} (h:OwnB w B v n L) (hr:r<B) (u:Value):OwnB (w.setCell ⟨r,j,none⟩ u) B v n L:=h.set (fun e=>by have:=(h.lt r e).1;omega) u
theorem OwnN.below {kd:IntKind} {T:TypeId} {w:World} {B n r j:Nat} {v:Value} {L:List Int} (h:OwnN kd T w B v n L) (hr:r<B) (u:Value):OwnN kd T (w.setCell ⟨r,j,none⟩ u) B v n L:=⟨h.1,ownsRow_setCell_below h.2 (by simpa using hr) u⟩
theorem AgO.below {w:World} {B r j:Nat} {o:Ag} {p:Pl} (h:AgO w B o p) (hr:r<B) (u:Value):AgO (w.setCell ⟨r,j,none⟩ u) B o p:=⟨h.P.below hr u,h.N.below hr u,h.ap,h.E.below hr u,h.R.below hr u⟩
theorem AgO.le {w:World} {B B':Nat} {o:Ag} {p:Pl} (h:AgO w B o p) (hb:B'<=B):AgO w B' o p:=⟨h.P.le hb,h.N.le hb,h.ap,h.E.le hb,h.R.le hb⟩
theorem AgO.past {w w':World} {B:Nat} {o:Ag} {p:Pl} (h:AgO w B o p) (hb:Below w.heap.size w w'):AgO w' B o p:=⟨h.P.past hb,h.N.past hb,h.ap,h.E.past hb,h.R.past hb⟩
theorem AgO.nil (w:World) (B:Nat) {o:Ag} (hP:o.P=[]) (hN:o.N=[]) (hE:o.E=[]) (hR:o.R=[]):AgO w B o pl0:=by
 obtain ⟨k,s,h,l,a,t,z,P,N,x,y,E,R⟩:=o;simp only at hP hN hE hR;subst hP hN hE hR;exact ⟨⟨rfl,.inl ⟨rfl,rfl⟩⟩,⟨rfl,.inl ⟨rfl,rfl⟩⟩,(fun k e=>by cases e),⟨rfl,World.ownsRow_nil _ _ _ _⟩,⟨rfl,World.ownsRow_nil _ _ _ _⟩⟩
theorem AgO.at {w:World} {B:Nat} {o:Ag} {p:Pl} (h:AgO w B o p):AgAt w o p:=⟨h.P.at,h.N.at,h.E.at,h.R.at⟩
theorem Qi2 (w:World) (g g':Ag) (p p':Pl) (W:World) (hb:Below (((w.alloc (.cells (Qak g p) 49)).alloc (.cells (Qak g' p') 49)).alloc (.cells Qe1 49)).heap.size (((w.alloc (.cells (Qak g p) 49)).alloc (.cells (Qak g' p') 49)).alloc (.cells Qe1 49)) W) :
  Qb9 W w.heap.size g p/\Qb9 W (w.heap.size+1) g' p'/\W.heap[w.heap.size+1+1]?=some (.cells Qe1 49 (0,0)):=by
 have a1:∀ (W:World) o,Below W.heap.size W (W.alloc o):=fun W o=>(ZZb _ _).alloc (ZZa _) _;have k0:=Qev w 49 g p;have k1:=Qev (w.alloc (.cells (Qak g p) 49)) 49 g' p';have h2:=ZZk ((w.alloc (.cells (Qak g p) 49)).alloc (.cells (Qak g' p') 49)) (.cells Qe1 49);simp only [World.size_alloc] at k1 h2;exact ⟨QaD (QaD (QaD k0 (a1 _ _)) (a1 _ _)) hb,QaD (QaD k1 (a1 _ _)) hb,(hb.block _ (by simp)).trans h2⟩
def AgRes (w:World) (Q:Ag->Prop) (e:Ending) (w':World):Prop:=∃ v o,e=.returned v/\Q o/\AgOut w' w.heap.size v o/\Below w.heap.size w w'
theorem AgRes.mk {w w':World} {Q:Ag->Prop} {o:Ag} {p:Pl} (q:Q o) (h:AgO w' w.heap.size o p) (b:Below w.heap.size w w'):AgRes w Q (.returned (.agg (Qak o p))) w':=⟨_,o,rfl,q,⟨p,rfl,h⟩,b⟩
theorem naC (a b:Value) (w:World):(nilAhead 441 170 (.agg #[a,b]) "loop.example/g00309/impl.merge").run Tryz.prog w=.ok (some false) w:=by kernel_rfl
theorem naG (a b:Value) (w:World):(nilAhead 441 172 (.agg #[a,b]) "loop.example/g00309/impl.merge").run Tryz.prog w=.ok (some false) w:=by kernel_rfl
theorem naH (a b c d e:Value) (w:World):(nilAhead 441 174 (.agg #[a,b,c,d,e]) "loop.example/g00309/impl.merge").run Tryz.prog w=.ok (some false) w:=by kernel_rfl
theorem naS (a b:Value) (w:World):(nilAhead 441 176 (.agg #[a,b]) "loop.example/g00309/impl.merge").run Tryz.prog w=.ok (some false) w:=by kernel_rfl
theorem Qm3 {g g':Ag} (h:¬ (agB g=true/\agB g'=true/\g.k=g'.k)):AgMrg g g' QbQ:=by unfold AgMrg;rw [if_neg h]
theorem Qi9 {w:World} {g g':Ag} {p p':Pl} (ok:AgOk g) (ok':AgOk g') (sm:AgSm g) (sm':AgSm g') (hA:AgAt w g p) (hA':AgAt w g' p') :
  Calls Tryz.prog 54 #[.agg (Qak g p),.agg (Qak g' p')] w fun e w'=>AgRes w (AgMrg g g') e w':=by
 have HA:=Qaa hA;have aI:=Qaa hA';have OK:=Qaa ok;have aA:=Qaa ok';have SM:=Qaa sm;have aN:=Qaa sm';have aS:Hid (∀ o1 o2 o3,Below w.heap.size w (((w.alloc o1).alloc o2).alloc o3)):=fun o1 o2 o3=>(((Below.refl _ _).alloc (Nat.le_refl _) _).alloc (by simp) _).alloc (by simp;omega) _;clear ok ok' sm sm' hA hA';go_enter Tryz.func54,Tryz.ntmps54;go_wp2_with fail;refine (QcK (g:=g) (p:=p) OK SM (Qao HA (aS.out _ _ _))).mono ?_;rintro e w1 ⟨rfl,aL⟩;rw [QlW];obtain ⟨K1,K2,aH⟩:=Qi2 w g g' p p' w1 aL;have aW:=aL.size;have aT:Below w.heap.size w w1:=(aS.out _ _ _).trans (aL.mono (by simp;omega));simp only [World.size_alloc] at aW;have aR:=Qaa aT;have aK:=Qaa aH;have an:=Qaa K1;have au:=Qaa K2;clear aL aT aH K1 K2
 cases hq:agB g with
 | false=>
  have HQ:Hid (AgMrg g g' QbQ):=Qm3 (fun h=>by rw [hq] at h;cases h.1);clear hq;obtain ⟨q0,q1,q2,q3,q4,q5,q6,q7,q8,q9,aq,ao,ap⟩:=Qbt aK;obtain ⟨f0,f1,f2,f3,f4,f5,f6,f7,f8,f9,aG,aE,aD⟩:=QcN aK;go_wp2;refine bodyPost_ret (v:=.agg Qe1) (by simp [results,Tryz.results54,go_sem,QbQ,q0,q1,q2,q3,q4,q5,q6,q7,q8,q9,aq,ao,ap]) rfl (AgRes.mk (o:=QbQ) (p:=pl0) HQ (AgO.nil _ _ rfl rfl rfl rfl) ?_)
  repeat (refine Below.setCell ?_ (by simp <;> omega) _)
  exact aR.out
 | true=>
  obtain ⟨y0,y1,y2,y3,y4,y5,y6,y7,y8,y9,ab,ad,ac⟩:=au.out;go_wp2_with fail;clear y0 y1 y2 y3 y4 y5 y6 y7 y8 y9 ab ad ac;refine (QcK (g:=g') (p:=p') aA aN (Qao aI aR)).mono ?_;rintro e w2 ⟨rfl,aF⟩;rw [QlW];have am:=Qaa (Qac aR aF);have a0:=aF.size;have hC:∀ W,Below w2.heap.size w2 W->Qb9 W w.heap.size g p/\Qb9 W (w.heap.size+1) g' p'/\W.heap[w.heap.size+1+1]?=some (.cells Qe1 49 (0,0)):=fun W hW=>⟨QaD an (Qac aF hW),QaD au (Qac aF hW),((Qac aF hW).block _ (by omega)).trans aK⟩;have HC:=Qaa hC;clear aF hC an au aK
  cases hq':agB g' with
  | false=>
   have HQ:Hid (AgMrg g g' QbQ):=Qm3 (fun h=>by rw [hq'] at h;cases h.2.1);have aC:=Qaa (HC.out _ (ZZb _ _)).2.2;clear hq hq';obtain ⟨q0,q1,q2,q3,q4,q5,q6,q7,q8,q9,aq,ao,ap⟩:=Qbt aC;obtain ⟨f0,f1,f2,f3,f4,f5,f6,f7,f8,f9,aG,aE,aD⟩:=QcN aC;go_wp2;refine bodyPost_ret (v:=.agg Qe1) (by simp [results,Tryz.results54,go_sem,QbQ,q0,q1,q2,q3,q4,q5,q6,q7,q8,q9,aq,ao,ap]) rfl (AgRes.mk (o:=QbQ) (p:=pl0) HQ (AgO.nil _ _ rfl rfl rfl rfl) ?_)
   repeat (refine Below.setCell ?_ (by simp <;> omega) _)
   exact am.out
  | true=>
   by_cases hk:g.k=g'.k
   ·have HG:Hid (agB g=true/\agB g'=true/\g.k=g'.k):=⟨hq,hq',hk⟩
    have NO:=Qaa (QaQ hq);have aZ:=Qaa (QaQ hq');have aC:=Qaa (HC.out _ (ZZb _ _)).2.2;have hb:(g.k != g'.k)=false:=by simp [hk]
    obtain ⟨⟨x0,x1,x2,x3,x4,x5,x6,x7,x8,x9,ag,ae,af⟩,⟨y0,y1,y2,y3,y4,y5,y6,y7,y8,y9,ab,ad,ac⟩,_⟩:=HC.out _ (ZZb _ _);clear hq hq' hk;go_wp2_with fail;clear x0 x1 x2 x3 x4 x5 x6 x7 x8 x9 ag ae af y0 y1 y2 y3 y4 y5 y6 y7 y8 y9 ab ad ac hb;have aY:g.k=1∨g.k=2∨g.k=3∨g.k=4:=by have:=NO.out.k1;have:=NO.out.k4;omega
    rcases aY with h | h | h | h
    ·have an:=Qaa h
     have au:=Qaa (HG.out.2.2.symm.trans h);clear h;have aa:(fun W=>Below w2.heap.size w2 W) w2.drew:=(ZZb _ _).drew;refine Qaj (fun W=>Below w2.heap.size w2 W) 14 (by kernel_rfl) ?_;refine tkL 0 (.pointer (some ⟨w.heap.size,1,none⟩)) aa (fun W hW=>?_) ?_
     ·obtain ⟨⟨x0,x1,x2,x3,x4,x5,x6,x7,x8,x9,ag,ae,af⟩,⟨y0,y1,y2,y3,y4,y5,y6,y7,y8,y9,ab,ad,ac⟩,_⟩:=HC.out W hW
      clear hW;go_simp
     refine tkL 1 (.int .u64 g.s) aa (fun W hW=>?_) ?_
     ·obtain ⟨⟨x0,x1,x2,x3,x4,x5,x6,x7,x8,x9,ag,ae,af⟩,⟨y0,y1,y2,y3,y4,y5,y6,y7,y8,y9,ab,ad,ac⟩,_⟩:=HC.out W hW
      clear hW;go_simp
     refine tkL 2 (.pointer (some ⟨w.heap.size+1,1,none⟩)) aa (fun W hW=>?_) ?_
     ·obtain ⟨⟨x0,x1,x2,x3,x4,x5,x6,x7,x8,x9,ag,ae,af⟩,⟨y0,y1,y2,y3,y4,y5,y6,y7,y8,y9,ab,ad,ac⟩,_⟩:=HC.out W hW
      clear hW;go_simp
     simp only [sX];refine tkL 3 (.int .u64 g'.s) aa (fun W hW=>?_) ?_
     ·obtain ⟨⟨x0,x1,x2,x3,x4,x5,x6,x7,x8,x9,ag,ae,af⟩,⟨y0,y1,y2,y3,y4,y5,y6,y7,y8,y9,ab,ad,ac⟩,_⟩:=HC.out W hW
      clear hW;go_simp
     refine tkL 5 (.agg (Qak g p)) aa (fun W hW=>?_) ?_
     ·obtain ⟨⟨x0,x1,x2,x3,x4,x5,x6,x7,x8,x9,ag,ae,af⟩,⟨y0,y1,y2,y3,y4,y5,y6,y7,y8,y9,ab,ad,ac⟩,_⟩:=HC.out W hW
      clear hW;go_simp
     refine tkL 7 (.agg (Qak g' p')) aa (fun W hW=>?_) ?_
     ·obtain ⟨⟨x0,x1,x2,x3,x4,x5,x6,x7,x8,x9,ag,ae,af⟩,⟨y0,y1,y2,y3,y4,y5,y6,y7,y8,y9,ab,ad,ac⟩,_⟩:=HC.out W hW
      clear hW;go_simp
     simp only [sX];refine onE 4 fun K hK=>?_;go_simp;refine (QaJ _ _ OK.out.s aA.out.s _).mono ?_;rintro e wz ⟨rfl,aB⟩;obtain rfl:=aB.symm;dsimp only;refine gK hK aa ?_
     try simp only [sX]
     refine onE 6 fun K hK=>?_;go_simp;refine (Qe6 (g:=g) (p:=p) _ an).mono ?_;rintro e w3 ⟨rfl,ay⟩;have ah:Hid (Below w2.heap.size w2 w3):=(aa:Below w2.heap.size w2 w2.drew).trans (ay.mono (ZZa _));clear ay;dsimp only;refine gK hK ah.out ?_
     try simp only [sX]
     have aM:=naC (.int .i64 g.h) (.int .u64 g.l);refine tkS 9 (.func (.method "loop.example/g00309/impl.merge") #[.iface 170 (.agg #[.int .i64 g.h,.int .u64 g.l])] #[]) ah ?_;refine tkS 10 (.func (.method "loop.example/g00309/impl.merge") #[.iface 170 (.agg #[.int .i64 g.h,.int .u64 g.l])] #[]) ah ?_;refine tkS 11 (.iface 170 (.agg #[.int .i64 g.h,.int .u64 g.l])) ah ?_;simp only [sX];refine onE 8 fun K hK=>?_;go_simp;refine (Qe6 (g:=g') (p:=p') _ au).mono ?_;rintro e w4 ⟨rfl,aw⟩;have ai:Hid (Below w2.heap.size w2 w4):=Qac ah aw;have aJ:=Qaa (Qao HA (Qac am ai));have ar:=Qaa (Qao aI (Qac am ai));clear aw;dsimp only;refine gK hK ai.out ?_
     try simp only [sX]
     refine onE 12 fun K hK=>?_;go_simp;refine (Qpl g.h g.l g'.h g'.l _ OK.out.l aA.out.l).mono ?_;rintro e w5 ⟨rfl,av⟩;have ax:Hid (Below w2.heap.size w2 w5):=Qac ai av;clear av;dsimp only;refine gK hK ax.out ?_
     try simp only [sX]
     refine onE 13 fun K hK=>?_;go_simp;refine (Qfu ⟨0,Qar g.s g'.s,QaO g.h g.l g'.h g'.l,QaS g.l g'.l,0,0,0,[],[],0,0,[],[]⟩ pl0 _).mono ?_;rintro e w6 ⟨rfl,aj⟩;have ak:Hid (Below w2.heap.size w2 w6):=Qac ax aj;have al:=Qaa aj;clear aj;dsimp only;refine gK hK ak.out ?_
     try simp only [sX]
     have az:=Qaa (HC.out _ ak).2.2;obtain ⟨q0,q1,q2,q3,q4,q5,q6,q7,q8,q9,aq,ao,ap⟩:=Qbt az;obtain ⟨f0,f1,f2,f3,f4,f5,f6,f7,f8,f9,aG,aE,aD⟩:=QcN az;refine onE 14 fun K hK=>?_;go_simp;refine hK.out _ _ (fun h=>absurd rfl h) ?_
     try simp only [sX]
     refine dnE ?_ _;go_wp2;refine bodyPost_ret (v:=.agg (Qak ⟨1,Qar g.s g'.s,QaO g.h g.l g'.h g'.l,QaS g.l g'.l,0,0,0,[],[],0,0,[],[]⟩ pl0)) (by simp [results,Tryz.results54,go_sem,q0,q1,q2,q3,q4,q5,q6,q7,q8,q9,aq,ao,ap]) rfl (AgRes.mk (o:=⟨1,Qar g.s g'.s,QaO g.h g.l g'.h g'.l,QaS g.l g'.l,0,0,0,[],[],0,0,[],[]⟩) (p:=pl0) ?_ ?_ ?_)
     ·exact mrgC HG.out.1 HG.out.2.1 HG.out.2.2 an
     ·exact AgO.nil _ _ rfl rfl rfl rfl
     ·repeat (refine Below.setCell ?_ (by simp <;> omega) _)
      exact Qac am ak
    ·have an:=Qaa h
     have au:=Qaa (HG.out.2.2.symm.trans h);clear h;have aa:(fun W=>Below w2.heap.size w2 W) w2.drew:=(ZZb _ _).drew;refine Qaj (fun W=>Below w2.heap.size w2 W) 14 (by kernel_rfl) ?_;refine tkL 0 (.pointer (some ⟨w.heap.size,1,none⟩)) aa (fun W hW=>?_) ?_
     ·obtain ⟨⟨x0,x1,x2,x3,x4,x5,x6,x7,x8,x9,ag,ae,af⟩,⟨y0,y1,y2,y3,y4,y5,y6,y7,y8,y9,ab,ad,ac⟩,_⟩:=HC.out W hW
      clear hW;go_simp
     refine tkL 1 (.int .u64 g.s) aa (fun W hW=>?_) ?_
     ·obtain ⟨⟨x0,x1,x2,x3,x4,x5,x6,x7,x8,x9,ag,ae,af⟩,⟨y0,y1,y2,y3,y4,y5,y6,y7,y8,y9,ab,ad,ac⟩,_⟩:=HC.out W hW
      clear hW;go_simp
     refine tkL 2 (.pointer (some ⟨w.heap.size+1,1,none⟩)) aa (fun W hW=>?_) ?_
     ·obtain ⟨⟨x0,x1,x2,x3,x4,x5,x6,x7,x8,x9,ag,ae,af⟩,⟨y0,y1,y2,y3,y4,y5,y6,y7,y8,y9,ab,ad,ac⟩,_⟩:=HC.out W hW
      clear hW;go_simp
     simp only [sX];refine tkL 3 (.int .u64 g'.s) aa (fun W hW=>?_) ?_
     ·obtain ⟨⟨x0,x1,x2,x3,x4,x5,x6,x7,x8,x9,ag,ae,af⟩,⟨y0,y1,y2,y3,y4,y5,y6,y7,y8,y9,ab,ad,ac⟩,_⟩:=HC.out W hW
      clear hW;go_simp
     refine tkL 5 (.agg (Qak g p)) aa (fun W hW=>?_) ?_
     ·obtain ⟨⟨x0,x1,x2,x3,x4,x5,x6,x7,x8,x9,ag,ae,af⟩,⟨y0,y1,y2,y3,y4,y5,y6,y7,y8,y9,ab,ad,ac⟩,_⟩:=HC.out W hW
      clear hW;go_simp
     refine tkL 7 (.agg (Qak g' p')) aa (fun W hW=>?_) ?_
     ·obtain ⟨⟨x0,x1,x2,x3,x4,x5,x6,x7,x8,x9,ag,ae,af⟩,⟨y0,y1,y2,y3,y4,y5,y6,y7,y8,y9,ab,ad,ac⟩,_⟩:=HC.out W hW
      clear hW;go_simp
     simp only [sX];refine onE 4 fun K hK=>?_;go_simp;refine (QaJ _ _ OK.out.s aA.out.s _).mono ?_;rintro e wz ⟨rfl,aB⟩;obtain rfl:=aB.symm;dsimp only;refine gK hK aa ?_
     try simp only [sX]
     refine onE 6 fun K hK=>?_;go_simp;refine (QeT (g:=g) (p:=p) _ an).mono ?_;rintro e w3 ⟨rfl,ay⟩;have ah:Hid (Below w2.heap.size w2 w3):=(aa:Below w2.heap.size w2 w2.drew).trans (ay.mono (ZZa _));clear ay;dsimp only;refine gK hK ah.out ?_
     try simp only [sX]
     have aM:=naG (.int .i64 g.a) (.int .i64 g.t);refine tkS 9 (.func (.method "loop.example/g00309/impl.merge") #[.iface 172 (.agg #[.int .i64 g.a,.int .i64 g.t])] #[]) ah ?_;refine tkS 10 (.func (.method "loop.example/g00309/impl.merge") #[.iface 172 (.agg #[.int .i64 g.a,.int .i64 g.t])] #[]) ah ?_;refine tkS 11 (.iface 172 (.agg #[.int .i64 g.a,.int .i64 g.t])) ah ?_;simp only [sX];refine onE 8 fun K hK=>?_;go_simp;refine (QeT (g:=g') (p:=p') _ au).mono ?_;rintro e w4 ⟨rfl,aw⟩;have ai:Hid (Below w2.heap.size w2 w4):=Qac ah aw;have aJ:=Qaa (Qao HA (Qac am ai));have ar:=Qaa (Qao aI (Qac am ai));clear aw;dsimp only;refine gK hK ai.out ?_
     try simp only [sX]
     refine onE 12 fun K hK=>?_;go_simp;refine (QlL g.a g.t g'.a g'.t _).mono ?_;rintro e w5 ⟨rfl,av⟩;have ax:Hid (Below w2.heap.size w2 w5):=Qac ai av;clear av;dsimp only;refine gK hK ax.out ?_
     try simp only [sX]
     refine onE 13 fun K hK=>?_;go_simp;refine (QfJ ⟨0,Qar g.s g'.s,0,0,gA g.a g.t g'.a g'.t,gT g.a g.t g'.a g'.t,0,[],[],0,0,[],[]⟩ pl0 _).mono ?_;rintro e w6 ⟨rfl,aj⟩;have ak:Hid (Below w2.heap.size w2 w6):=Qac ax aj;have al:=Qaa aj;clear aj;dsimp only;refine gK hK ak.out ?_
     try simp only [sX]
     have az:=Qaa (HC.out _ ak).2.2;obtain ⟨q0,q1,q2,q3,q4,q5,q6,q7,q8,q9,aq,ao,ap⟩:=Qbt az;obtain ⟨f0,f1,f2,f3,f4,f5,f6,f7,f8,f9,aG,aE,aD⟩:=QcN az;refine onE 14 fun K hK=>?_;go_simp;refine hK.out _ _ (fun h=>absurd rfl h) ?_
     try simp only [sX]
     refine dnE ?_ _;go_wp2;refine bodyPost_ret (v:=.agg (Qak ⟨2,Qar g.s g'.s,0,0,gA g.a g.t g'.a g'.t,gT g.a g.t g'.a g'.t,0,[],[],0,0,[],[]⟩ pl0)) (by simp [results,Tryz.results54,go_sem,q0,q1,q2,q3,q4,q5,q6,q7,q8,q9,aq,ao,ap]) rfl (AgRes.mk (o:=⟨2,Qar g.s g'.s,0,0,gA g.a g.t g'.a g'.t,gT g.a g.t g'.a g'.t,0,[],[],0,0,[],[]⟩) (p:=pl0) ?_ ?_ ?_)
     ·exact mrgG HG.out.1 HG.out.2.1 HG.out.2.2 an
     ·exact AgO.nil _ _ rfl rfl rfl rfl
     ·repeat (refine Below.setCell ?_ (by simp <;> omega) _)
      exact Qac am ak
    ·have an:=Qaa h
     have au:=Qaa (HG.out.2.2.symm.trans h);clear h;have aa:(fun W=>Below w2.heap.size w2 W) w2.drew:=(ZZb _ _).drew;refine Qaj (fun W=>Below w2.heap.size w2 W) 14 (by kernel_rfl) ?_;refine tkL 0 (.pointer (some ⟨w.heap.size,1,none⟩)) aa (fun W hW=>?_) ?_
     ·obtain ⟨⟨x0,x1,x2,x3,x4,x5,x6,x7,x8,x9,ag,ae,af⟩,⟨y0,y1,y2,y3,y4,y5,y6,y7,y8,y9,ab,ad,ac⟩,_⟩:=HC.out W hW
      clear hW;go_simp
     refine tkL 1 (.int .u64 g.s) aa (fun W hW=>?_) ?_
     ·obtain ⟨⟨x0,x1,x2,x3,x4,x5,x6,x7,x8,x9,ag,ae,af⟩,⟨y0,y1,y2,y3,y4,y5,y6,y7,y8,y9,ab,ad,ac⟩,_⟩:=HC.out W hW
      clear hW;go_simp
     refine tkL 2 (.pointer (some ⟨w.heap.size+1,1,none⟩)) aa (fun W hW=>?_) ?_
     ·obtain ⟨⟨x0,x1,x2,x3,x4,x5,x6,x7,x8,x9,ag,ae,af⟩,⟨y0,y1,y2,y3,y4,y5,y6,y7,y8,y9,ab,ad,ac⟩,_⟩:=HC.out W hW
      clear hW;go_simp
     simp only [sX];refine tkL 3 (.int .u64 g'.s) aa (fun W hW=>?_) ?_
     ·obtain ⟨⟨x0,x1,x2,x3,x4,x5,x6,x7,x8,x9,ag,ae,af⟩,⟨y0,y1,y2,y3,y4,y5,y6,y7,y8,y9,ab,ad,ac⟩,_⟩:=HC.out W hW
      clear hW;go_simp
     refine tkL 5 (.agg (Qak g p)) aa (fun W hW=>?_) ?_
     ·obtain ⟨⟨x0,x1,x2,x3,x4,x5,x6,x7,x8,x9,ag,ae,af⟩,⟨y0,y1,y2,y3,y4,y5,y6,y7,y8,y9,ab,ad,ac⟩,_⟩:=HC.out W hW
      clear hW;go_simp
     refine tkL 7 (.agg (Qak g' p')) aa (fun W hW=>?_) ?_
     ·obtain ⟨⟨x0,x1,x2,x3,x4,x5,x6,x7,x8,x9,ag,ae,af⟩,⟨y0,y1,y2,y3,y4,y5,y6,y7,y8,y9,ab,ad,ac⟩,_⟩:=HC.out W hW
      clear hW;go_simp
     simp only [sX];refine onE 4 fun K hK=>?_;go_simp;refine (QaJ _ _ OK.out.s aA.out.s _).mono ?_;rintro e wz ⟨rfl,aB⟩;obtain rfl:=aB.symm;dsimp only;refine gK hK aa ?_
     try simp only [sX]
     refine onE 6 fun K hK=>?_;go_simp;refine (Qfk (g:=g) (p:=p) _ an).mono ?_;rintro e w3 ⟨rfl,ay⟩;have ah:Hid (Below w2.heap.size w2 w3):=(aa:Below w2.heap.size w2 w2.drew).trans (ay.mono (ZZa _));clear ay;dsimp only;refine gK hK ah.out ?_
     try simp only [sX]
     have aM:=naH (.int .u64 g.z) (.slice p.pa g.P.length p.pc) (.slice p.na g.N.length p.nc) (.int .i64 g.x) (.int .u64 g.y);refine tkS 9 (.func (.method "loop.example/g00309/impl.merge") #[.iface 174 (.agg #[.int .u64 g.z,.slice p.pa g.P.length p.pc,.slice p.na g.N.length p.nc,.int .i64 g.x,.int .u64 g.y])] #[]) ah ?_;refine tkS 10 (.func (.method "loop.example/g00309/impl.merge") #[.iface 174 (.agg #[.int .u64 g.z,.slice p.pa g.P.length p.pc,.slice p.na g.N.length p.nc,.int .i64 g.x,.int .u64 g.y])] #[]) ah ?_;refine tkS 11 (.iface 174 (.agg #[.int .u64 g.z,.slice p.pa g.P.length p.pc,.slice p.na g.N.length p.nc,.int .i64 g.x,.int .u64 g.y])) ah ?_;simp only [sX];refine onE 8 fun K hK=>?_;go_simp;refine (Qfk (g:=g') (p:=p') _ au).mono ?_;rintro e w4 ⟨rfl,aw⟩;have ai:Hid (Below w2.heap.size w2 w4):=Qac ah aw;have aJ:=Qaa (Qao HA (Qac am ai));have ar:=Qaa (Qao aI (Qac am ai));clear aw;dsimp only;refine gK hK ai.out ?_
     try simp only [sX]
     refine onE 12 fun K hK=>?_;go_simp;refine (Qo4 OK aA SM aN aJ ar NO.out.sk aZ.out.sk).mono ?_;rintro e w5 ⟨v5,rfl,aQ,av⟩;obtain ⟨vp,vn,pn,nn,rfl,o1,o2,aU⟩:=aQ;obtain ⟨pa,pc,rfl⟩:=o1.any;obtain ⟨na,nc,rfl⟩:=o2.any;obtain rfl:=o1.1;obtain rfl:=o2.1;have aP:=Qaa o1;have aO:=Qaa o2;have aX:=Qaa aU;have ax:Hid (Below w2.heap.size w2 w5):=Qac ai av;have aV:=ai.out.size;clear av o1 o2 aU;dsimp only;refine gK hK ax.out ?_
     try simp only [sX]
     refine onE 13 fun K hK=>?_;go_simp;refine (Qfv ⟨0,Qar g.s g'.s,0,0,0,0,Qar g.z g'.z,Qan (mrg g.P g'.P),Qan (mrg g.N g'.N),QaO g.x g.y g'.x g'.y,QaS g.y g'.y,[],[]⟩ ⟨pa,pc,na,nc,none,0,none,0⟩ _).mono ?_;rintro e w6 ⟨rfl,aj⟩;have ak:Hid (Below w2.heap.size w2 w6):=Qac ax aj;have al:=Qaa aj;clear aj;dsimp only;refine gK hK ak.out ?_
     try simp only [sX]
     have az:=Qaa (HC.out _ ak).2.2;obtain ⟨q0,q1,q2,q3,q4,q5,q6,q7,q8,q9,aq,ao,ap⟩:=Qbt az;obtain ⟨f0,f1,f2,f3,f4,f5,f6,f7,f8,f9,aG,aE,aD⟩:=QcN az;refine onE 14 fun K hK=>?_;go_simp;refine hK.out _ _ (fun h=>absurd rfl h) ?_
     try simp only [sX]
     refine dnE ?_ _;go_wp2;refine bodyPost_ret (v:=.agg (Qak ⟨3,Qar g.s g'.s,0,0,0,0,Qar g.z g'.z,Qan (mrg g.P g'.P),Qan (mrg g.N g'.N),QaO g.x g.y g'.x g'.y,QaS g.y g'.y,[],[]⟩ ⟨pa,pc,na,nc,none,0,none,0⟩)) (by simp [results,Tryz.results54,go_sem,q0,q1,q2,q3,q4,q5,q6,q7,q8,q9,aq,ao,ap]) rfl (AgRes.mk (o:=⟨3,Qar g.s g'.s,0,0,0,0,Qar g.z g'.z,Qan (mrg g.P g'.P),Qan (mrg g.N g'.N),QaO g.x g.y g'.x g'.y,QaS g.y g'.y,[],[]⟩) (p:=⟨pa,pc,na,nc,none,0,none,0⟩) ?_ ?_ ?_)
     ·exact mrgH HG.out.1 HG.out.2.1 HG.out.2.2 an
     ·refine AgO.le (B:=w4.heap.size) ?_ (by omega)
      repeat (refine AgO.below ?_ (by omega) _)
      exact ⟨aP.out.past al,aO.out.past al,aX,⟨rfl,World.ownsRow_nil _ _ _ _⟩,⟨rfl,World.ownsRow_nil _ _ _ _⟩⟩
     ·repeat (refine Below.setCell ?_ (by simp <;> omega) _)
      exact Qac am ak
    ·have an:=Qaa h
     have au:=Qaa (HG.out.2.2.symm.trans h);clear h;have aa:(fun W=>Below w2.heap.size w2 W) w2.drew:=(ZZb _ _).drew;refine Qaj (fun W=>Below w2.heap.size w2 W) 14 (by kernel_rfl) ?_;refine tkL 0 (.pointer (some ⟨w.heap.size,1,none⟩)) aa (fun W hW=>?_) ?_
     ·obtain ⟨⟨x0,x1,x2,x3,x4,x5,x6,x7,x8,x9,ag,ae,af⟩,⟨y0,y1,y2,y3,y4,y5,y6,y7,y8,y9,ab,ad,ac⟩,_⟩:=HC.out W hW
      clear hW;go_simp
     refine tkL 1 (.int .u64 g.s) aa (fun W hW=>?_) ?_
     ·obtain ⟨⟨x0,x1,x2,x3,x4,x5,x6,x7,x8,x9,ag,ae,af⟩,⟨y0,y1,y2,y3,y4,y5,y6,y7,y8,y9,ab,ad,ac⟩,_⟩:=HC.out W hW
      clear hW;go_simp
     refine tkL 2 (.pointer (some ⟨w.heap.size+1,1,none⟩)) aa (fun W hW=>?_) ?_
     ·obtain ⟨⟨x0,x1,x2,x3,x4,x5,x6,x7,x8,x9,ag,ae,af⟩,⟨y0,y1,y2,y3,y4,y5,y6,y7,y8,y9,ab,ad,ac⟩,_⟩:=HC.out W hW
      clear hW;go_simp
     simp only [sX];refine tkL 3 (.int .u64 g'.s) aa (fun W hW=>?_) ?_
     ·obtain ⟨⟨x0,x1,x2,x3,x4,x5,x6,x7,x8,x9,ag,ae,af⟩,⟨y0,y1,y2,y3,y4,y5,y6,y7,y8,y9,ab,ad,ac⟩,_⟩:=HC.out W hW
      clear hW;go_simp
     refine tkL 5 (.agg (Qak g p)) aa (fun W hW=>?_) ?_
     ·obtain ⟨⟨x0,x1,x2,x3,x4,x5,x6,x7,x8,x9,ag,ae,af⟩,⟨y0,y1,y2,y3,y4,y5,y6,y7,y8,y9,ab,ad,ac⟩,_⟩:=HC.out W hW
      clear hW;go_simp
     refine tkL 7 (.agg (Qak g' p')) aa (fun W hW=>?_) ?_
     ·obtain ⟨⟨x0,x1,x2,x3,x4,x5,x6,x7,x8,x9,ag,ae,af⟩,⟨y0,y1,y2,y3,y4,y5,y6,y7,y8,y9,ab,ad,ac⟩,_⟩:=HC.out W hW
      clear hW;go_simp
     simp only [sX];refine onE 4 fun K hK=>?_;go_simp;refine (QaJ _ _ OK.out.s aA.out.s _).mono ?_;rintro e wz ⟨rfl,aB⟩;obtain rfl:=aB.symm;dsimp only;refine gK hK aa ?_
     try simp only [sX]
     refine onE 6 fun K hK=>?_;go_simp;refine (QeX (g:=g) (p:=p) _ an).mono ?_;rintro e w3 ⟨rfl,ay⟩;have ah:Hid (Below w2.heap.size w2 w3):=(aa:Below w2.heap.size w2 w2.drew).trans (ay.mono (ZZa _));clear ay;dsimp only;refine gK hK ah.out ?_
     try simp only [sX]
     have aM:=naS (.slice p.ea g.E.length p.ec) (.slice p.ra g.R.length p.rc);refine tkS 9 (.func (.method "loop.example/g00309/impl.merge") #[.iface 176 (.agg #[.slice p.ea g.E.length p.ec,.slice p.ra g.R.length p.rc])] #[]) ah ?_;refine tkS 10 (.func (.method "loop.example/g00309/impl.merge") #[.iface 176 (.agg #[.slice p.ea g.E.length p.ec,.slice p.ra g.R.length p.rc])] #[]) ah ?_;refine tkS 11 (.iface 176 (.agg #[.slice p.ea g.E.length p.ec,.slice p.ra g.R.length p.rc])) ah ?_;simp only [sX];refine onE 8 fun K hK=>?_;go_simp;refine (QeX (g:=g') (p:=p') _ au).mono ?_;rintro e w4 ⟨rfl,aw⟩;have ai:Hid (Below w2.heap.size w2 w4):=Qac ah aw;have aJ:=Qaa (Qao HA (Qac am ai));have ar:=Qaa (Qao aI (Qac am ai));clear aw;dsimp only;refine gK hK ai.out ?_
     try simp only [sX]
     refine onE 12 fun K hK=>?_;go_simp;refine (Qpb OK aA SM aN aJ ar).mono ?_;rintro e w5 ⟨v5,E,R,rfl,hM,aQ,av⟩;obtain ⟨vp,vn,rfl,o1,o2⟩:=aQ;obtain ⟨pa,pc,rfl⟩:=Qam o1;obtain ⟨na,nc,rfl⟩:=Qam o2;have aP:=Qaa o1;have aO:=Qaa o2;have HM:=Qaa hM;have ax:Hid (Below w2.heap.size w2 w5):=Qac ai av;have aV:=ai.out.size;clear av o1 o2 hM;dsimp only;refine gK hK ax.out ?_
     try simp only [sX]
     refine onE 13 fun K hK=>?_;go_simp;refine (QfT ⟨0,Qar g.s g'.s,0,0,0,0,0,[],[],0,0,E,R⟩ ⟨none,0,none,0,pa,pc,na,nc⟩ _).mono ?_;rintro e w6 ⟨rfl,aj⟩;have ak:Hid (Below w2.heap.size w2 w6):=Qac ax aj;have al:=Qaa aj;clear aj;dsimp only;refine gK hK ak.out ?_
     try simp only [sX]
     have az:=Qaa (HC.out _ ak).2.2;obtain ⟨q0,q1,q2,q3,q4,q5,q6,q7,q8,q9,aq,ao,ap⟩:=Qbt az;obtain ⟨f0,f1,f2,f3,f4,f5,f6,f7,f8,f9,aG,aE,aD⟩:=QcN az;refine onE 14 fun K hK=>?_;go_simp;refine hK.out _ _ (fun h=>absurd rfl h) ?_
     try simp only [sX]
     refine dnE ?_ _;go_wp2;refine bodyPost_ret (v:=.agg (Qak ⟨4,Qar g.s g'.s,0,0,0,0,0,[],[],0,0,E,R⟩ ⟨none,0,none,0,pa,pc,na,nc⟩)) (by simp [results,Tryz.results54,go_sem,q0,q1,q2,q3,q4,q5,q6,q7,q8,q9,aq,ao,ap]) rfl (AgRes.mk (o:=⟨4,Qar g.s g'.s,0,0,0,0,0,[],[],0,0,E,R⟩) (p:=⟨none,0,none,0,pa,pc,na,nc⟩) ?_ ?_ ?_)
     ·exact mrgS HG.out.1 HG.out.2.1 HG.out.2.2 an HM
     ·refine AgO.le (B:=w4.heap.size) ?_ (by omega)
      repeat (refine AgO.below ?_ (by omega) _)
      exact ⟨⟨rfl,.inl ⟨rfl,rfl⟩⟩,⟨rfl,.inl ⟨rfl,rfl⟩⟩,(fun k e=>by cases e),⟨rfl,QaU aP al⟩,⟨rfl,QaU aO al⟩⟩
     ·repeat (refine Below.setCell ?_ (by simp <;> omega) _)
      exact Qac am ak
   ·have HQ:Hid (AgMrg g g' QbQ):=Qm3 (fun h=>hk h.2.2)
    have aC:=Qaa (HC.out _ (ZZb _ _)).2.2;have hb:(g.k != g'.k)=true:=by simp [hk]
    obtain ⟨⟨x0,_⟩,⟨y0,_⟩,_⟩:=HC.out _ (ZZb _ _);clear hq hq' hk;obtain ⟨q0,q1,q2,q3,q4,q5,q6,q7,q8,q9,aq,ao,ap⟩:=Qbt aC;obtain ⟨f0,f1,f2,f3,f4,f5,f6,f7,f8,f9,aG,aE,aD⟩:=QcN aC;go_wp2;refine bodyPost_ret (v:=.agg Qe1) (by simp [results,Tryz.results54,go_sem,QbQ,q0,q1,q2,q3,q4,q5,q6,q7,q8,q9,aq,ao,ap]) rfl (AgRes.mk (o:=QbQ) (p:=pl0) HQ (AgO.nil _ _ rfl rfl rfl rfl) ?_)
    repeat (refine Below.setCell ?_ (by simp <;> omega) _)
    exact am.out
end Go.Proofs.YtandnmpllheniaaGreatDoor
