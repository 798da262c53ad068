/-
 Two Aggs brought together: what they come to; the parts of the program.
-/
import Derived.Test.YtiiclgcpagdekaaGreatDoorFJE
import Derived.Test.YtiiclgcpagdekaaGreatDoorFJO
import Derived.Test.YtiiclgcpagdekaaGreatDoorFJV
import Derived.Test.YtiiclgcpagdekaaGreatDoorFJX
namespace Go.Proofs.YtiiclgcpagdekaaGreatDoor
set_option linter.unusedVariables false
set_option linter.unusedSimpArgs false
open Go.ChangeShapes Go.WideShapes Go.ChangeAt Go.RowKit Go.PlainAid Go.Lib
set_option maxRecDepth 10000
def gLate (a t a' t':Int):Bool:=decide (t<t') || ((t' == t) && decide (a<a'))
def gA (a t a' t':Int):Int:=if gLate a t a' t'=true then a' else a
def gT (a t a' t':Int):Int:=if gLate a t a' t'=true then t' else t
structure AgO (w:World) (B:Nat) (o:Ag) (p:Pl):Prop where
 P:OwnB w B (.slice p.pa o.P.length p.pc) o.P.length o.P
 N:OwnB w B (.slice p.na o.N.length p.nc) o.N.length o.N
 ap:Apart (.slice p.pa o.P.length p.pc) (.slice p.na o.N.length p.nc)
 E:OwnN .u64 25 w B (.slice p.ea o.E.length p.ec) o.E.length o.E
 R:OwnN .i64 2 w B (.slice p.ra o.R.length p.rc) o.R.length o.R
def AgOut (w:World) (B:Nat) (v:Value) (o:Ag):Prop:=∃ p,v=.agg (agArr o p)∧AgO w B o p
def agZero:Ag:=⟨0,0,0,0,0,0,0,[],[],0,0,[],[]⟩
def agMg (g g':Ag) (E R:List Int):Ag:=⟨g.k,wAdd g.s g'.s,addH g.h g.l g'.h g'.l,addL g.l g'.l,if g.k=2 then gA g.a g.t g'.a g'.t else 0,if g.k=2 then gT g.a g.t g'.a g'.t else 0,wAdd g.z g'.z,keepL (mrg g.P g'.P),keepL (mrg g.N g'.N),addH g.x g.y g'.x g'.y,addL g.y g'.y,E,R⟩
def AgMrg (g g' o:Ag):Prop:=if agB g=true∧agB g'=true∧g.k=g'.k then ∃ E R,Mg g.E g.R g'.E g'.R E R∧o=agMg g g' E R else o=agZero
theorem AgMrg.one {g g' o o':Ag} (h:AgMrg g g' o) (k:AgMrg g g' o'):o=o':=by
 unfold AgMrg at h k
 split at h
 ·rw [if_pos (by assumption)] at k
  obtain ⟨E,R,m,rfl⟩:=h
  obtain ⟨E',R',m',rfl⟩:=k
  obtain ⟨rfl,rfl⟩:=m.one m'
  rfl
 ·rw [if_neg (by assumption)] at k
  exact h.trans k.symm
structure AgNo (g:Ag):Prop where
 k1:1≤g.k
 k4:g.k≤4
 sk:skB g.P g.N=true
 hl:hlB g.E g.R=true
 nc:g.k≠1→g.h=0∧g.l=0
 ng:g.k≠2→g.a=0∧g.t=0
 nh:g.k≠3→g.z=0∧g.x=0∧g.y=0∧g.P=[]∧g.N=[]
 ns:g.k≠4→g.E=[]∧g.R=[]
theorem agB_no {g:Ag} (h:agB g=true):AgNo g:=by
 unfold agB at h
 simp only [Bool.and_eq_true,Bool.or_eq_true,decide_eq_true_eq,beq_iff_eq,noS_iff,noH_iff] at h
 obtain ⟨⟨⟨⟨⟨⟨⟨h1,h2⟩,h3⟩,h4⟩,h5⟩,h6⟩,h7⟩,h8⟩:=h
 refine ⟨h1,h2,h3,h4,fun n=>?_,fun n=>?_,fun n=>?_,fun n=>?_⟩
 ·rcases h5 with h | h
  ·exact absurd h n
  ·simpa [sumZ] using h
 ·rw [if_neg n] at h8;simpa using h8
 ·exact h6.elim (fun e=>absurd e n) id
 ·exact h7.elim (fun e=>absurd e n) id
theorem mg_nil:Mg [] [] [] [] [] []:=.inl ⟨rfl,rfl,by simp [allU,uniU],rfl,rfl⟩
theorem keep_nil:keepL (mrg [] [])=[]:=by simp [mrg,keepL]
theorem wAdd_nil:wAdd 0 0=0:=by decide
theorem addH_nil:addH 0 0 0 0=0:=by decide +kernel
theorem addL_nil:addL 0 0=0:=by decide
theorem mrgC {g g':Ag} (h:agB g=true) (h':agB g'=true) (e:g.k=g'.k) (k:g.k=1):AgMrg g g' ⟨1,wAdd g.s g'.s,addH g.h g.l g'.h g'.l,addL g.l g'.l,0,0,0,[],[],0,0,[],[]⟩:=by
 have n:=agB_no h
 have n':=agB_no h'
 unfold AgMrg
 rw [if_pos ⟨h,h',e⟩]
 obtain ⟨a1,a2,a3,a4,a5⟩:=n.nh (by omega)
 obtain ⟨b1,b2,b3,b4,b5⟩:=n'.nh (by omega)
 obtain ⟨c1,c2⟩:=n.ns (by omega)
 obtain ⟨d1,d2⟩:=n'.ns (by omega)
 refine ⟨[],[],by rw [c1,c2,d1,d2];exact mg_nil,?_⟩
 unfold agMg
 rw [if_neg (by omega),if_neg (by omega),a1,a2,a3,a4,a5,b1,b2,b3,b4,b5,k,keep_nil,wAdd_nil,addH_nil,addL_nil]
theorem mrgG {g g':Ag} (h:agB g=true) (h':agB g'=true) (e:g.k=g'.k) (k:g.k=2):AgMrg g g' ⟨2,wAdd g.s g'.s,0,0,gA g.a g.t g'.a g'.t,gT g.a g.t g'.a g'.t,0,[],[],0,0,[],[]⟩:=by
 have n:=agB_no h
 have n':=agB_no h'
 unfold AgMrg
 rw [if_pos ⟨h,h',e⟩]
 obtain ⟨a1,a2,a3,a4,a5⟩:=n.nh (by omega)
 obtain ⟨b1,b2,b3,b4,b5⟩:=n'.nh (by omega)
 obtain ⟨c1,c2⟩:=n.ns (by omega)
 obtain ⟨d1,d2⟩:=n'.ns (by omega)
 obtain ⟨e1,e2⟩:=n.nc (by omega)
 obtain ⟨f1,f2⟩:=n'.nc (by omega)
 refine ⟨[],[],by rw [c1,c2,d1,d2];exact mg_nil,?_⟩
 unfold agMg
 rw [if_pos k,if_pos k,a1,a2,a3,a4,a5,b1,b2,b3,b4,b5,e1,e2,f1,f2,k,keep_nil,wAdd_nil,addH_nil,addL_nil]
theorem mrgH {g g':Ag} (h:agB g=true) (h':agB g'=true) (e:g.k=g'.k) (k:g.k=3):AgMrg g g' ⟨3,wAdd g.s g'.s,0,0,0,0,wAdd g.z g'.z,keepL (mrg g.P g'.P),keepL (mrg g.N g'.N),addH g.x g.y g'.x g'.y,addL g.y g'.y,[],[]⟩:=by
 have n:=agB_no h
 have n':=agB_no h'
 unfold AgMrg
 rw [if_pos ⟨h,h',e⟩]
 obtain ⟨c1,c2⟩:=n.ns (by omega)
 obtain ⟨d1,d2⟩:=n'.ns (by omega)
 obtain ⟨e1,e2⟩:=n.nc (by omega)
 obtain ⟨f1,f2⟩:=n'.nc (by omega)
 refine ⟨[],[],by rw [c1,c2,d1,d2];exact mg_nil,?_⟩
 unfold agMg
 rw [if_neg (by omega),if_neg (by omega),e1,e2,f1,f2,k,addH_nil,addL_nil]
theorem mrgS {g g':Ag} {E R:List Int} (h:agB g=true) (h':agB g'=true) (e:g.k=g'.k) (k:g.k=4) (m:MrgH g.E g.R g'.E g'.R E R):AgMrg g g' ⟨4,wAdd g.s g'.s,0,0,0,0,0,[],[],0,0,E,R⟩:=by
 have n:=agB_no h
 have n':=agB_no h'
 unfold AgMrg
 rw [if_pos ⟨h,h',e⟩]
 obtain ⟨a1,a2,a3,a4,a5⟩:=n.nh (by omega)
 obtain ⟨b1,b2,b3,b4,b5⟩:=n'.nh (by omega)
 obtain ⟨e1,e2⟩:=n.nc (by omega)
 obtain ⟨f1,f2⟩:=n'.nc (by omega)
 unfold MrgH at m
 rw [if_pos ⟨n.hl,n'.hl⟩] at m
 refine ⟨E,R,m,?_⟩
 unfold agMg
 rw [if_neg (by omega),if_neg (by omega),a1,a2,a3,a4,a5,b1,b2,b3,b4,b5,e1,e2,f1,f2,k,keep_nil,wAdd_nil,addH_nil,addL_nil]
theorem tfG (v:Value) (w:World):(Instr.typeAssert (.iface 199 v) 158 199 false).run Tryz.prog w=.ok v w:=by kernel_rfl
theorem cellK {w:World} {r:Nat} {cs:Array Value} {T:TypeId} (h:w.heap[r]?=some (.cells cs T (0,0))) (j:Nat) {v:Value} (e:cs[j]?=some v):w.cell? ⟨r,j,none⟩=some v:=by rw [cell_of_row _ _ j _ _ (0,0) h];exact e
theorem gA_late {a t a' t':Int} (h:gLate a t a' t'=true):gA a t a' t'=a'∧gT a t a' t'=t':=⟨if_pos h,if_pos h⟩
theorem gA_not {a t a' t':Int} (h:¬ gLate a t a' t'=true):gA a t a' t'=a∧gT a t a' t'=t:=⟨if_neg h,if_neg h⟩
theorem ret_g {T:TypeId} {a t a' t':Int} (h:a'=a∧t'=t):Ending.returned (.iface T (.agg #[.int .i64 a,.int .i64 t]))=.returned (.iface T (.agg #[.int .i64 a',.int .i64 t'])):=by rw [h.1,h.2]
set_option maxHeartbeats 4000000 in
theorem c_gmerge (a t a' t':Int) (w:World):Calls Tryz.prog 297 #[.agg #[.int .i64 a,.int .i64 t],.iface 199 (.agg #[.int .i64 a',.int .i64 t'])] w fun e w'=>e=.returned (.iface 199 (.agg #[.int .i64 (gA a t a' t'),.int .i64 (gT a t a' t')]))∧Below w.heap.size w w':=by
 have t1:=tfG (.agg #[.int .i64 a',.int .i64 t'])
 have HB:Hid (∀ o o',Below w.heap.size w ((w.alloc o).alloc o')):=fun o o'=>((Below.refl _ _).alloc (Nat.le_refl _) o).alloc (by simp) o'
 by_cases h1:t<t'
 ·have HE:Hid (gA a t a' t'=a'∧gT a t a' t'=t'):=gA_late (by simp [gLate,h1])
  have d1:decide (t<t')=true:=decide_eq_true h1
  go_enter Tryz.func297,Tryz.ntmps297
  go_wp2
  go_ret
  exact ⟨ret_g HE.out,HB.out _ _⟩
 ·have d1:decide (t<t')=false:=decide_eq_false h1
  by_cases h2:t'=t
  ·subst h2
   by_cases h3:a<a'
   ·have HE:Hid (gA a t' a' t'=a'∧gT a t' a' t'=t'):=gA_late (by simp [gLate,h3])
    have d3:decide (a<a')=true:=decide_eq_true h3
    go_enter Tryz.func297,Tryz.ntmps297
    go_wp2
    go_ret
    exact ⟨ret_g HE.out,HB.out _ _⟩
   ·have HE:Hid (gA a t' a' t'=a∧gT a t' a' t'=t'):=gA_not (by simp [gLate,h3])
    have d3:decide (a<a')=false:=decide_eq_false h3
    go_enter Tryz.func297,Tryz.ntmps297
    go_wp2
    go_ret
    exact ⟨ret_g HE.out,HB.out _ _⟩
  ·have HE:Hid (gA a t a' t'=a∧gT a t a' t'=t):=gA_not (by simp [gLate,h1,h2])
   have d2:(t' == t)=false:=beq_eq_false_iff_ne.2 h2
   go_enter Tryz.func297,Tryz.ntmps297
   go_wp2
   go_ret
   exact ⟨ret_g HE.out,HB.out _ _⟩
abbrev pl0:Pl:=⟨none,0,none,0,none,0,none,0⟩
abbrev zeroAg:Array Value:=agArr agZero pl0
theorem OwnB.below {w:World} {B n r j:Nat} {v:Value} {L:List Bn} (h:OwnB w B v n L) (hr:r<B) (u:Value):OwnB (w.setCell ⟨r,j,none⟩ u) B v n L:=h.set (fun e=>by have:=(h.lt r e).1;omega) u
theorem OwnN.below {kd:IntKind} {T:TypeId} {w:World} {B n r j:Nat} {v:Value} {L:List Int} (h:OwnN kd T w B v n L) (hr:r<B) (u:Value):OwnN kd T (w.setCell ⟨r,j,none⟩ u) B v n L:=⟨h.1,ownsRow_setCell_below h.2 (by simpa using hr) u⟩
theorem AgO.below {w:World} {B r j:Nat} {o:Ag} {p:Pl} (h:AgO w B o p) (hr:r<B) (u:Value):AgO (w.setCell ⟨r,j,none⟩ u) B o p:=⟨h.P.below hr u,h.N.below hr u,h.ap,h.E.below hr u,h.R.below hr u⟩
theorem AgO.le {w:World} {B B':Nat} {o:Ag} {p:Pl} (h:AgO w B o p) (hb:B'≤B):AgO w B' o p:=⟨h.P.le hb,h.N.le hb,h.ap,h.E.le hb,h.R.le hb⟩
theorem AgO.past {w w':World} {B:Nat} {o:Ag} {p:Pl} (h:AgO w B o p) (hb:Below w.heap.size w w'):AgO w' B o p:=⟨h.P.past hb,h.N.past hb,h.ap,h.E.past hb,h.R.past hb⟩
theorem AgO.nil (w:World) (B:Nat) {o:Ag} (hP:o.P=[]) (hN:o.N=[]) (hE:o.E=[]) (hR:o.R=[]):AgO w B o pl0:=by
 obtain ⟨k,s,h,l,a,t,z,P,N,x,y,E,R⟩:=o
 simp only at hP hN hE hR
 subst hP hN hE hR
 exact ⟨⟨rfl,.inl ⟨rfl,rfl⟩⟩,⟨rfl,.inl ⟨rfl,rfl⟩⟩,(fun k e=>by cases e),⟨rfl,World.ownsRow_nil _ _ _ _⟩,⟨rfl,World.ownsRow_nil _ _ _ _⟩⟩
theorem AgO.at {w:World} {B:Nat} {o:Ag} {p:Pl} (h:AgO w B o p):AgAt w o p:=⟨h.P.at,h.N.at,h.E.at,h.R.at⟩
def AgRes (w:World) (Q:Ag→Prop) (e:Ending) (w':World):Prop:=∃ v o,e=.returned v∧Q o∧AgOut w' w.heap.size v o∧Below w.heap.size w w'
theorem AgRes.mk {w w':World} {Q:Ag→Prop} {o:Ag} {p:Pl} (q:Q o) (h:AgO w' w.heap.size o p) (b:Below w.heap.size w w'):AgRes w Q (.returned (.agg (agArr o p))) w':=⟨_,o,rfl,q,⟨p,rfl,h⟩,b⟩
end Go.Proofs.YtiiclgcpagdekaaGreatDoor
