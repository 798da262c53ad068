/-
 An Agg as it is drawn: its box, the result's box, the source.
-/
import Derived.Test.YthpilcoklapooaaGreatDoorAPE
import Derived.Test.YthpilcoklapooaaGreatDoorAQA
import Derived.Test.YthpilcoklapooaaGreatDoorAQB
import Derived.Test.YthpilcoklapooaaGreatDoorADC
import Derived.Test.YthpilcoklapooaaGreatDoorADA
import Derived.Test.YthpilcoklapooaaGreatDoorADB
import Derived.Test.YthpilcoklapooaaGreatDoorASF
import Derived.Test.YthpilcoklapooaaGreatDoorAJO
import Derived.Test.YthpilcoklapooaaGreatDoorAJP
import Derived.Test.YthpilcoklapooaaGreatDoorAJX
import Derived.Test.YthpilcoklapooaaGreatDoorAJC
namespace Go.Proofs.YthpilcoklapooaaGreatDoor
set_option linter.unusedVariables false
set_option linter.unusedSimpArgs false
open Go.ChangeShapes Go.WideShapes Go.ChangeAt Go.RowKit Go.PlainAid Go.Lib
set_option maxRecDepth 10000
def st13X (w:World) (r:Nat) (o:Ag) (q:Pl):World:=(((((((((((((w.setCell ⟨r,0,none⟩ (.int .i64 o.k)).setCell ⟨r,1,none⟩ (.int .u64 o.s)).setCell ⟨r,2,none⟩ (.int .i64 o.h)).setCell ⟨r,3,none⟩ (.int .u64 o.l)).setCell ⟨r,4,none⟩ (.int .i64 o.a)).setCell ⟨r,5,none⟩ (.int .i64 o.t)).setCell ⟨r,6,none⟩ (.int .u64 o.z)).setCell ⟨r,7,none⟩ (.slice q.pa o.P.length q.pc)).setCell ⟨r,8,none⟩ (.slice q.na o.N.length q.nc)).setCell ⟨r,9,none⟩ (.int .i64 o.x)).setCell ⟨r,10,none⟩ (.int .u64 o.y)).setCell ⟨r,11,none⟩ (.slice q.ea o.E.length q.ec)).setCell ⟨r,12,none⟩ (.slice q.ra o.R.length q.rc))
/-- Lists that are owned lie as both sides ask. -/
theorem AgO.plg {w:World} {B:Nat} {g:Ag} {p:Pl} (h:AgO w B g p):PlG g p:=by
 have fb:∀ {ao:Option Addr} {n c:Nat} {L:List Bn},OwnB w B (.slice ao n c) n L→ao=none→c=0:=fun {ao n c L} o e=>by
  rcases o.2 with ⟨q,_⟩ | ⟨b,off,c',cur,q,_⟩
  ·cases q;rfl
  ·cases q;cases e
 have fn:∀ {kd:IntKind} {T:TypeId} {ao:Option Addr} {n c:Nat} {L:List Int},OwnN kd T w B (.slice ao n c) n L→(ao=none→c=0)∧Flat ao∧n≤c∧c≤maxLen:=fun {kd T ao n c L} o=>by
  rcases o.2.2 with ⟨q,q0⟩ | ⟨b,c',cur,q,_,_,q1,q2,_⟩
  ·cases q;exact ⟨fun _=>rfl,.inl rfl,Nat.le_refl _,Nat.zero_le _⟩
  ·cases q;exact ⟨(fun e=>by cases e),.inr ⟨_,_,rfl⟩,q1,q2⟩
 exact ⟨fb h.P,fb h.N,(fn h.E).1,(fn h.R).1,(fn h.E).2.1,(fn h.R).2.1,(fn h.E).2.2.1,(fn h.E).2.2.2⟩
structure LD (W:World) (B:Nat) (ao:Option Addr) (ln cap s:Nat) (w wr:World) (b:Nat) (g:Ag) (p:Pl):Prop where
 row:wr.heap[b]?=some (.cells (agArr g p) 34 (0,0))
 res:wr.heap[w.heap.size]?=some (.cells z13 34 (0,0))
 own:AgO wr (w.heap.size+1) g p
 ne:∀ k,AgBlk g p k→k≠b
 src:Src W B ao ln cap s wr
 gr:w.grownBy wr (some s)
 lb:w.heap.size<b
 hs:s<w.heap.size
 ok:AgOk g
 sm:AgSm g
section
variable {W:World} {B ln cap s:Nat} {ao:Option Addr} {w wr:World} {b:Nat} {g:Ag} {p:Pl}
theorem LD.step (h:LD W B ao ln cap s w wr b g p) {w1:World} (hS:Src W B ao ln cap s w1) (hg:wr.grownBy w1 (some s)):LD W B ao ln cap s w w1 b g p:=by
 have l1:=h.lb
 have l2:=h.hs
 refine ⟨(hg.block b (Array.getElem?_eq_some_iff.1 h.row).1 (fun e=>by cases e;omega)).trans h.row,(hg.block _ (Array.getElem?_eq_some_iff.1 h.res).1 (fun e=>by cases e;omega)).trans h.res,?_,h.ne,hS,h.gr.trans hg,h.lb,h.hs,h.ok,h.sm⟩
 refine h.own.keptS (S:=fun k=>k=s) ⟨hg.os,hg.tape,hg.output,hg.size,fun k hk hn=>hg.block k hk (fun e=>hn (by cases e;rfl))⟩ (fun k e q=>?_)
 have:=(h.own.lt e).1
 omega
theorem LD.past (h:LD W B ao ln cap s w wr b g p) {w1:World} (hb:Below wr.heap.size wr w1):LD W B ao ln cap s w w1 b g p:=
 h.step (src_past h.src hb) ⟨hb.os,hb.tape,hb.output,hb.size,fun j hj _=>hb.block j hj⟩
/-- A change of another box. -/
theorem LD.far (h:LD W B ao ln cap s w wr b g p) {w1:World} {K:Nat} (hb:Below K wr w1) (hK:b<K) (hL:∀ k,AgBlk g p k→k<K):LD W B ao ln cap s w w1 b g p:=by
 have l1:=h.lb
 have l2:=h.hs
 refine ⟨(hb.block b hK).trans h.row,(hb.block _ (by omega)).trans h.res,?_,h.ne,src_farX h.src hb (by omega),grown_farX h.gr (hb.mono (by omega)),h.lb,h.hs,h.ok,h.sm⟩
 exact h.own.keptS (S:=fun k=>K≤k) ⟨hb.os,hb.tape,hb.output,hb.size,fun k hk hn=>hb.block k (by omega)⟩ (fun k e q=>by have:=hL k e;omega)
/-- A new Agg in its box. -/
theorem LD.new {w1:World} {g':Ag} {p':Pl} (h:LD W B ao ln cap s w wr b g p) (hb:Below wr.heap.size wr w1) (ho:AgO w1 wr.heap.size g' p') (ok:AgOk g') (sm:AgSm g'):LD W B ao ln cap s w (st13X w1 b g' p') b g' p':=by
 have l1:=h.lb
 have l2:=h.hs
 have lr:=(Array.getElem?_eq_some_iff.1 h.row).1
 have hk:Below b w1 (st13X w1 b g' p'):=by
  unfold st13X
  repeat (refine Below.setCell ?_ (by simp) _)
  exact Below.refl _ _
 have h1:=h.past hb
 refine ⟨?_,(hk.block _ l1).trans h1.res,?_,fun k e=>by have:=(ho.lt e).1;omega,src_farX h1.src hk (by omega),grown_farX h1.gr (hk.mono (by omega)),h.lb,h.hs,ok,sm⟩
 ·exact row13 h1.row
 ·refine AgO.le (B:=wr.heap.size) ?_ (by omega)
  unfold st13X
  repeat (refine AgO.below ?_ lr _)
  exact ho
end
end Go.Proofs.YthpilcoklapooaaGreatDoor
/-
 A drawn hash, and a drawn sketch of how many.
-/
namespace Go.Proofs.YthpilcoklapooaaGreatDoor
set_option linter.unusedVariables false
set_option linter.unusedSimpArgs false
open Go.ChangeShapes Go.WideShapes Go.ChangeAt Go.RowKit Go.PlainAid
set_option maxRecDepth 10000
/-- Hashes stay hashes, registers numbers of 64 bits, and few. -/
theorem put_i64 {E R A S:List Int} {x:Int} (k:∀ y∈R,I64 y) (p:PutH E R x A S):∀ y∈S,I64 y:=by
 by_cases hb:hlB E R=true
 ·have r:=put_right hb p
  unfold hlB at r
  split at r
  ·rename_i h0
   obtain rfl:=List.eq_nil_of_length_eq_zero h0
   intro y hy;simp at hy
  ·intro y hy
   simp only [Bool.and_eq_true] at r
   have:=List.all_eq_true.1 (by unfold regB at r;simp only [Bool.and_eq_true] at r;exact r.2.2) y hy
   simp [inR] at this
   unfold I64;omega
 ·unfold PutH at p
  rw [if_neg hb] at p
  rw [p.2];exact k
theorem put_lens {E R A S:List Int} {x:Int} {M:Nat} (hM:64≤M) (p:PutH E R x A S) (l1:E.length≤M) (l2:R.length≤M):A.length≤M∧S.length≤M:=by
 by_cases hb:hlB E R=true
 ·have:=hlB_len (put_right hb p);omega
 ·unfold PutH at p
  rw [if_neg hb] at p
  rw [p.1,p.2];exact ⟨l1,l2⟩
theorem OwnN.ne {kd:IntKind} {T U:TypeId} {w:World} {B n r:Nat} {v:Value} {L:List Int} {cs:Array Value} (h:OwnN kd T w B v n L) (hr:w.heap[r]?=some (.cells cs U (0,0))) (hT:T≠U):∀ k,v.ownBlock=some k→k≠r:=fun k hk e=>by
 subst e
 rcases h.2.2 with ⟨e,_⟩ | ⟨g,cap,cur,e,_,h2,_⟩
 ·rw [e] at hk;cases hk
 ·rw [e] at hk
  obtain rfl:g=k:=Option.some.inj hk
  rw [h2] at hr
  cases hr
  exact hT rfl
theorem OwnN.set {kd:IntKind} {T:TypeId} {w:World} {B n r j:Nat} {v:Value} {L:List Int} (h:OwnN kd T w B v n L) (hn:∀ k,v.ownBlock=some k→k≠r) (u:Value):OwnN kd T (w.setCell ⟨r,j,none⟩ u) B v n L:=by
 refine ⟨h.1,h.2.1,?_⟩
 rcases h.2.2 with h2 | ⟨g,cap,cur,e,h1,h2,h3⟩
 ·exact .inl h2
 ·refine .inr ⟨g,cap,cur,e,h1,?_,h3⟩
  rw [heap_setCell_other _ _ _ _ (by have:=hn g (by rw [e];rfl);simpa using this)];exact h2
theorem OwnN.apart {kd kd':IntKind} {T U:TypeId} {w:World} {B B' n m:Nat} {v v':Value} {L M:List Int} (h:OwnN kd T w B v n L) (h':OwnN kd' U w B' v' m M) (hT:T≠U):v'.ownBlock=none∨v'.ownBlock≠v.ownBlock:=by
 rcases h'.2.2 with ⟨e,_⟩ | ⟨g,cap,cur,e,_,h2,_⟩
 ·rw [e];exact .inl rfl
 ·refine .inr fun q=>?_
  have hg:v'.ownBlock=some g:=by rw [e];rfl
  exact h.ne h2 hT g (by rw [← q];exact hg) rfl
abbrev zeroHl:Array Value:=#[.slice none 0 0,.slice none 0 0]
theorem rowH2 {w:World} {r:Nat} {T:TypeId} {u0 u1 v0 v1:Value} (h:w.heap[r]?=some (.cells #[u0,u1] T (0,0))) :
  ((w.setCell ⟨r,0,none⟩ v0).setCell ⟨r,1,none⟩ v1).heap[r]?=some (.cells #[v0,v1] T (0,0)):=
 heap_setCell_same _ r 1 _ _ v1 (heap_setCell_same w r 0 _ _ v0 h)
theorem cellH2 {w:World} {r:Nat} {T:TypeId} {u0 u1:Value} (h:w.heap[r]?=some (.cells #[u0,u1] T (0,0))) :
  w.cell? ⟨r,0,none⟩=some u0∧w.cell? ⟨r,1,none⟩=some u1:=
 ⟨by rw [cell_of_row _ _ 0 _ _ (0,0) h];rfl,by rw [cell_of_row _ _ 1 _ _ (0,0) h];rfl⟩
/-- The state of the draw. -/
structure DH (W w:World) (B:Nat) (ao:Option Addr) (ln cap s:Nat) (wr:World) (p q:Value) (E R:List Int):Prop where
 src:Src W B ao ln cap s wr
 lt:s<w.heap.size
 gr:w.grownBy wr (some s)
 row:wr.heap[w.heap.size+1]?=some (.cells #[p,q] 32 (0,0))
 res:wr.heap[w.heap.size]?=some (.cells zeroHl 32 (0,0))
 oE:OwnN .u64 23 wr w.heap.size p E.length E
 oR:OwnN .i64 2 wr w.heap.size q R.length R
 u:∀ x∈E,U64 x
 k:∀ x∈R,I64 x
 lE:E.length≤200
 lR:R.length≤200
section
variable {W w:World} {B:Nat} {ao:Option Addr} {ln cap s:Nat} {wr:World} {p q:Value} {E R:List Int}
theorem grown_setP {w w1:World} {r:Option Nat} {a:Addr} {u:Value} (h:w.grownBy w1 r) (ha:w.heap.size≤a.block):w.grownBy (w1.setCell a u) r:=
 ⟨h.os,h.tape,h.output,by simpa using h.size,fun k hk hne=>by rw [Below.heap_setCell _ _ _ _ (by omega)];exact h.block k hk hne⟩
theorem src_setP {w1:World} (h:Src W B ao ln cap s w1) {a:Addr} {u:Value} (ha:s<a.block):Src W B ao ln cap s (w1.setCell a u):=by
 obtain ⟨x,m,y,hk,h1,h2⟩:=h.blk
 exact ⟨h.bel.setCell (Nat.le_of_lt (Nat.lt_of_le_of_lt h.hB ha)) u,h.hB,x,m,y,by rw [Below.heap_setCell _ _ _ _ (by omega)];exact hk,h1,h2⟩
theorem DH.step (d:DH W w B ao ln cap s wr p q E R) {w1:World} (hS:Src W B ao ln cap s w1) (hg:wr.grownBy w1 (some s)):DH W w B ao ln cap s w1 p q E R:=by
 have hz:=d.lt
 exact ⟨hS,d.lt,d.gr.trans hg,by rw [hg.block _ (Array.getElem?_eq_some_iff.1 d.row).1 (fun e=>by cases e;omega)];exact d.row,by rw [hg.block _ (Array.getElem?_eq_some_iff.1 d.res).1 (fun e=>by cases e;omega)];exact d.res,d.oE.kept hg (.inr fun e=>by have:=(d.oE.lt s e).1;omega),d.oR.kept hg (.inr fun e=>by have:=(d.oR.lt s e).1;omega),d.u,d.k,d.lE,d.lR⟩
theorem DH.drew (d:DH W w B ao ln cap s wr p q E R):DH W w B ao ln cap s wr.drew p q E R:=d.step (src_drews (k:=1) d.src) (grown_drews wr 1 _)
theorem DH.past (d:DH W w B ao ln cap s wr p q E R) {w1:World} (hb:Below wr.heap.size wr w1):DH W w B ao ln cap s w1 p q E R:=
 d.step (src_past d.src hb) ⟨hb.os,hb.tape,hb.output,hb.size,fun j hj _=>hb.block j hj⟩
theorem DH.far (d:DH W w B ao ln cap s wr p q E R):w.heap.size≤wr.heap.size:=d.gr.size
theorem DH.put (d:DH W w B ao ln cap s wr p q E R) {w1:World} (hb:Below wr.heap.size wr w1) {p' q':Value} {E' R':List Int} (o1:OwnN .u64 23 w1 wr.heap.size p' E'.length E') (o2:OwnN .i64 2 w1 wr.heap.size q' R'.length R') (u:∀ x∈E',U64 x) (k:∀ x∈R',I64 x) (lE:E'.length≤200) (lR:R'.length≤200) :
  DH W w B ao ln cap s ((w1.setCell ⟨w.heap.size+1,0,none⟩ p').setCell ⟨w.heap.size+1,1,none⟩ q') p' q' E' R':=by
 have d1:=d.past hb
 have hlt:=d.lt
 have q1:=o1.ne d1.row (by decide)
 have q2:=o2.ne d1.row (by decide)
 refine ⟨?_,d.lt,?_,rowH2 d1.row,?_,(((o1.le d.far).set q1 _).set q1 _),(((o2.le d.far).set q2 _).set q2 _),u,k,lE,lR⟩
 ·exact src_setP (src_setP d1.src (by exact Nat.lt_succ_of_lt hlt)) (by exact Nat.lt_succ_of_lt hlt)
 ·exact grown_setP (grown_setP d1.gr (by simp)) (by simp)
 ·rw [Below.heap_setCell _ _ _ _ (by simp),Below.heap_setCell _ _ _ _ (by simp)];exact d1.res
theorem DH.appE (d:DH W w B ao ln cap s wr p q E R) {w1:World} {v:Value} {xs:List Int} {n:Nat} (hn:n=(E ++ xs).length) (hO:w1.ownsRow w.heap.size 23 1 v n ((E ++ xs).map (Value.int .u64))) (hg:wr.grownBy w1 p.ownBlock) (hx:∀ x∈xs,U64 x) (h60:n≤200) :
  w1.heap[w.heap.size+1]?=some (.cells #[p,q] 32 (0,0))∧w1.heap[w.heap.size]?=some (.cells zeroHl 32 (0,0))∧DH W w B ao ln cap s (w1.setCell ⟨w.heap.size+1,0,none⟩ v) v q (E ++ xs) R:=by
 subst hn
 have hlt:=d.lt
 have hf:=d.far
 have b1:p.ownBlock≠some (w.heap.size+1):=fun e=>d.oE.ne d.row (by decide) _ e rfl
 have b2:p.ownBlock≠some w.heap.size:=fun e=>d.oE.ne d.res (by decide) _ e rfl
 have row1:w1.heap[w.heap.size+1]?=some (.cells #[p,q] 32 (0,0)):=by rw [hg.block _ (Array.getElem?_eq_some_iff.1 d.row).1 (fun e=>b1 e.symm)];exact d.row
 have res1:w1.heap[w.heap.size]?=some (.cells zeroHl 32 (0,0)):=by rw [hg.block _ (Array.getElem?_eq_some_iff.1 d.res).1 (fun e=>b2 e.symm)];exact d.res
 have bel:Below w.heap.size wr w1:=⟨hg.os,hg.tape,hg.output,hg.size,fun j hj=>hg.block j (by omega) (fun e=>by have:=(d.oE.lt j e.symm).1;omega)⟩
 have src1:Src W B ao ln cap s w1:=by
  obtain ⟨x,m,y,h0,h1,h2⟩:=d.src.blk
  exact ⟨d.src.bel.trans (bel.mono (Nat.le_trans d.src.hB (Nat.le_of_lt hlt))),d.src.hB,x,m,y,by rw [bel.block s hlt];exact h0,h1,h2⟩
 have gr1:w.grownBy w1 (some s):=⟨hg.os.trans d.gr.os,hg.tape.trans d.gr.tape,hg.output.trans d.gr.output,Nat.le_trans hf hg.size,fun j hj hne=>by rw [bel.block j hj];exact d.gr.block j hj hne⟩
 have o:OwnN .u64 23 w1 w.heap.size v (E ++ xs).length (E ++ xs):=⟨rfl,hO⟩
 have r1:OwnN .i64 2 w1 w.heap.size q R.length R:=d.oR.kept hg (d.oE.apart d.oR (by decide))
 refine ⟨row1,res1,src_setP src1 (by exact Nat.lt_succ_of_lt hlt),hlt,grown_setP gr1 (by exact Nat.le_succ _),heap_setCell_same w1 _ 0 _ _ _ row1,by rw [Below.heap_setCell _ _ _ _ (by simp)];exact res1,o.set (o.ne row1 (by decide)) _,r1.set (r1.ne row1 (by decide)) _,?_,d.k,h60,d.lR⟩
 intro y hy
 rcases List.mem_append.1 hy with hy | hy
 ·exact d.u y hy
 ·exact hx y hy
theorem DH.appR (d:DH W w B ao ln cap s wr p q E R) {w1:World} {v:Value} {xs:List Int} {n:Nat} (hn:n=(R ++ xs).length) (hO:w1.ownsRow w.heap.size 2 1 v n ((R ++ xs).map (Value.int .i64))) (hg:wr.grownBy w1 q.ownBlock) (hx:∀ x∈xs,I64 x) (h60:n≤200) :
  w1.heap[w.heap.size+1]?=some (.cells #[p,q] 32 (0,0))∧w1.heap[w.heap.size]?=some (.cells zeroHl 32 (0,0))∧DH W w B ao ln cap s (w1.setCell ⟨w.heap.size+1,1,none⟩ v) p v E (R ++ xs):=by
 subst hn
 have hlt:=d.lt
 have hf:=d.far
 have b1:q.ownBlock≠some (w.heap.size+1):=fun e=>d.oR.ne d.row (by decide) _ e rfl
 have b2:q.ownBlock≠some w.heap.size:=fun e=>d.oR.ne d.res (by decide) _ e rfl
 have row1:w1.heap[w.heap.size+1]?=some (.cells #[p,q] 32 (0,0)):=by rw [hg.block _ (Array.getElem?_eq_some_iff.1 d.row).1 (fun e=>b1 e.symm)];exact d.row
 have res1:w1.heap[w.heap.size]?=some (.cells zeroHl 32 (0,0)):=by rw [hg.block _ (Array.getElem?_eq_some_iff.1 d.res).1 (fun e=>b2 e.symm)];exact d.res
 have bel:Below w.heap.size wr w1:=⟨hg.os,hg.tape,hg.output,hg.size,fun j hj=>hg.block j (by omega) (fun e=>by have:=(d.oR.lt j e.symm).1;omega)⟩
 have src1:Src W B ao ln cap s w1:=by
  obtain ⟨x,m,y,h0,h1,h2⟩:=d.src.blk
  exact ⟨d.src.bel.trans (bel.mono (Nat.le_trans d.src.hB (Nat.le_of_lt hlt))),d.src.hB,x,m,y,by rw [bel.block s hlt];exact h0,h1,h2⟩
 have gr1:w.grownBy w1 (some s):=⟨hg.os.trans d.gr.os,hg.tape.trans d.gr.tape,hg.output.trans d.gr.output,Nat.le_trans hf hg.size,fun j hj hne=>by rw [bel.block j hj];exact d.gr.block j hj hne⟩
 have o:OwnN .i64 2 w1 w.heap.size v (R ++ xs).length (R ++ xs):=⟨rfl,hO⟩
 have r1:OwnN .u64 23 w1 w.heap.size p E.length E:=d.oE.kept hg (d.oR.apart d.oE (by decide))
 refine ⟨row1,res1,src_setP src1 (by exact Nat.lt_succ_of_lt hlt),hlt,grown_setP gr1 (by exact Nat.le_succ _),heap_setCell_same w1 _ 1 _ _ _ row1,by rw [Below.heap_setCell _ _ _ _ (by simp)];exact res1,r1.set (r1.ne row1 (by decide)) _,o.set (o.ne row1 (by decide)) _,d.u,?_,d.lE,h60⟩
 intro y hy
 rcases List.mem_append.1 hy with hy | hy
 ·exact d.k y hy
 ·exact hx y hy
/-- What a drawn sketch of how many is. -/
def DrawnHl (W:World) (B:Nat) (ao:Option Addr) (ln cap s:Nat) (w:World) (e:Ending) (w':World):Prop:=∃ v E R,e=.returned v∧HlOut w' w.heap.size v E R∧(∀ x∈E,U64 x)∧(∀ x∈R,I64 x)∧E.length≤200∧R.length≤200∧Src W B ao ln cap s w'∧w.grownBy w' (some s)
theorem DH.fin (d:DH W w B ao ln cap s wr p q E R):DrawnHl W B ao ln cap s w (.returned (.agg #[p,q])) ((wr.setCell ⟨w.heap.size,0,none⟩ p).setCell ⟨w.heap.size,1,none⟩ q):=by
 have hlt:=d.lt
 have q1:=d.oE.ne d.res (by decide)
 have q2:=d.oR.ne d.res (by decide)
 refine ⟨_,E,R,rfl,⟨p,q,rfl,((d.oE.set q1 _).set q1 _).2,((d.oR.set q2 _).set q2 _).2⟩,d.u,d.k,d.lE,d.lR,?_,?_⟩
 ·exact src_setP (src_setP d.src (by exact hlt)) (by exact hlt)
 ·exact grown_setP (grown_setP d.gr (by exact Nat.le_refl _)) (by exact Nat.le_refl _)
end
def isUH (v:Value):Bool:=match v with
 | .int .u64 y=>decide (0≤y) && decide (y≤18446744073709551615)
 | _=>false
theorem isUH_of {v:Value} (h:isUH v=true):∃ y,v=.int .u64 y∧U64 y:=by
 unfold isUH at h
 split at h
 ·rename_i y
  have:=Bool.and_eq_true_iff.1 h
  exact ⟨y,rfl,of_decide_eq_true this.1,of_decide_eq_true this.2⟩
 ·cases h
theorem lit_cellUH {w w2:World} {cs:Array Value} {t:TypeId} {s:Nat} (hg:(w.alloc (.cells cs t)).grownBy w2 (some s)) (hs:s<w.heap.size) (h:cs.toList.all isUH=true) {v:Int} (h0:0≤v) (h1:v<cs.size) :
  ∃ y,w2.cell? ⟨w.heap.size,v.toNat,none⟩=some (.int .u64 y)∧U64 y:=by
 have hi:v.toNat<cs.size:=by omega
 obtain ⟨y,e,hI⟩:=isUH_of (List.all_eq_true.1 h cs[v.toNat] (Array.mem_toList_iff.2 (Array.getElem_mem hi)))
 have hb:w2.heap[w.heap.size]?=some (.cells cs t (0,0)):=by
  rw [hg.block w.heap.size (by simp) (fun e=>by cases e;omega)];exact heap_alloc_new w _
 exact ⟨y,by rw [cell_of_row w2 w.heap.size v.toNat _ _ (0,0) hb,Array.getElem?_eq_getElem hi,e],hI⟩
theorem hashT_u64 (s:ByteArray):U64 (hashT s):=by have:=hx_in s s.size;unfold hashT U64;omega
theorem c_decTH (N:Nat) (hN:N≤1000) (w:World):Calls Tryz.prog 116 #[.int .i64 N] w fun e w'=>∃ u,e=.returned (.string u)∧u.size≤30∧Below w.heap.size w w':=by
 by_cases h0:N=0
 ·subst h0
  go_enter Tryz.func116,Tryz.ntmps116
  go_wp2
  go_ret
  exact ⟨_,rfl,by decide,Below.refl _ _⟩
 ·refine (c_l01Dec_pos N h0 (by omega) w).mono ?_
  rintro e w' ⟨rfl,hb⟩
  refine ⟨_,rfl,?_,hb⟩
  simp only [ByteArray.size,List.size_toArray,Lib.decDigits_length]
  have:=Lib.nDigits_le20 N (by omega)
  omega
set_option maxHeartbeats 2000000 in
theorem c_l04Hash {W w:World} {B ln cap s:Nat} {ao:Option Addr} (hc:CodeAt W B ao ln) (h:Src W B ao ln cap s w) :
  Calls Tryz.prog 159 #[.pointer (some ⟨s,0,none⟩)] w fun e w'=>∃ x,e=.returned (.int .u64 x)∧U64 x∧Src W B ao ln cap s w'∧w.grownBy w' (some s):=by
 have HC:=hide hc
 have HS:=hide h
 clear hc h
 go_enter Tryz.func159,Tryz.ntmps159
 go_wp2_with fail
 refine (c_one HC.out HS.out _ (by omega)).mono ?_
 rintro e w1 ⟨bb,rfl,hS1,hg1⟩
 have HS1:=hide hS1
 have HG1:=hide hg1
 clear hS1 hg1
 cases bb with
 | true=>
  go_wp2_with fail
  have HA:Hid (∀ o,Below w1.heap.size w1 (w1.alloc o)):=fun o=>(Below.refl _ _).alloc (Nat.le_refl _) o
  refine (c_n HC.out (src_past HS1.out (HA.out _)) _ (by omega)).mono ?_
  rintro e w2 ⟨c,rfl,c0,c1,_,hS2,hg2⟩
  have c1:=c1 (by omega)
  obtain ⟨y,hy,hI⟩:=lit_cellUH hg2 (src_lt HS1.out) (by decide) c0 c1
  have HS2:=hide hS2
  have HG2:=hide (HG1.out.trans ((World.grownBy_alloc _ _ _).trans hg2))
  have HI:=hide hI
  clear hS2 hg2 hI
  go_wp2
  go_ret
  exact ⟨y,rfl,HI.out,HS2.out,HG2.out⟩
 | false=>
  go_wp2_with fail
  refine (c_n HC.out HS1.out _ (by omega)).mono ?_
  rintro e w2 ⟨c,rfl,c0,c1,_,hS2,hg2⟩
  have c1:=c1 (by omega)
  obtain ⟨c,rfl⟩:=Int.eq_ofNat_of_zero_le c0
  have HS2:=hide hS2
  have HG2:=hide (HG1.out.trans hg2)
  clear hS2 hg2
  go_wp2_with fail
  refine (c_decTH c (by omega) _).mono ?_
  rintro e w3 ⟨u,rfl,hu,hb3⟩
  have HS3:=hide (src_past HS2.out hb3)
  have HG3:=hide (HG2.out.trans (⟨hb3.os,hb3.tape,hb3.output,hb3.size,fun j hj _=>hb3.block j hj⟩:w2.grownBy w3 (some s)))
  clear hb3
  have hsz:(({ data:=#[119] }:ByteArray) ++ u).size=1+u.size:=by rw [ByteArray.size_append];rfl
  go_wp2_with fail
  refine (c_s_l02Hash _ (by unfold maxLen;rw [hsz];omega) _).mono ?_
  rintro e w4 ⟨rfl,hw4⟩
  obtain rfl:=hw4.symm
  go_wp2
  go_ret
  exact ⟨_,rfl,hashT_u64 _,HS3.out,HG3.out⟩
theorem HlOut.two {w:World} {B:Nat} {v:Value} {E R:List Int} (h:HlOut w B v E R):∃ ea c ra d,v=.agg #[.slice ea E.length c,.slice ra R.length d]∧OwnN .u64 23 w B (.slice ea E.length c) E.length E∧OwnN .i64 2 w B (.slice ra R.length d) R.length R:=by
 obtain ⟨p,n,rfl,h1,h2⟩:=h
 obtain ⟨ea,c,rfl⟩:=own_any h1
 obtain ⟨ra,d,rfl⟩:=own_any h2
 exact ⟨ea,c,ra,d,rfl,⟨rfl,h1⟩,⟨rfl,h2⟩⟩
theorem OwnN.caps {kd:IntKind} {T:TypeId} {w:World} {B n c:Nat} {ao:Option Addr} {L:List Int} (h:OwnN kd T w B (.slice ao n c) n L):NumsAt kd w ao L∧Flat ao∧n≤c∧c≤maxLen∧(ao=none→c=0):=by
 obtain ⟨rfl,h2⟩:=h
 obtain ⟨a,b,_,d,e,f⟩:=nums_own h2
 exact ⟨a,b,d,e,f⟩
theorem own_len {kd:IntKind} {T:TypeId} {w:World} {B n k:Nat} {v:Value} {L:List Int} (h:OwnN kd T w B v k L) (hn:L.length=n):w.ownsRow B T 1 v n (L.map (Value.int kd)):=by
 have:=h.2;rw [h.1,hn] at this;exact this
theorem own_len' {kd:IntKind} {T:TypeId} {w:World} {B n k:Nat} {v:Value} {L:List Int} (h:OwnN kd T w B v k L) (hn:L.length=n):OwnN kd T w B v n L:=⟨hn.symm,own_len h hn⟩
set_option maxHeartbeats 4000000 in
theorem c_l04Hll {W w:World} {B ln cap s:Nat} {ao:Option Addr} (hc:CodeAt W B ao ln) (h:Src W B ao ln cap s w) :
  Calls Tryz.prog 117 #[.pointer (some ⟨s,0,none⟩)] w fun e w'=>DrawnHl W B ao ln cap s w e w':=by
 have HC:=hide hc
 have hS0:∀ o1 o2,Src W B ao ln cap s ((w.alloc o1).alloc o2):=fun o1 o2=>src_past (src_past h ((Below.refl _ _).alloc (Nat.le_refl _) _)) ((Below.refl _ _).alloc (Nat.le_refl _) _)
 have HS0:=hide hS0
 have hlt:=src_lt h
 clear hc hS0 h
 go_enter Tryz.func117,Tryz.ntmps117
 go_wp2_with fail
 refine (c_n HC.out (HS0.out _ _) _ (by omega)).mono ?_
 rintro e w1 ⟨k,rfl,k0,k1,k2,hS1,hg1⟩
 have k1:=k1 (by omega)
 clear k2
 have D0:DH W w B ao ln cap s w1 (.slice none 0 0) (.slice none 0 0) [] []:=by
  refine DH.step (p:=.slice none 0 0) (q:=.slice none 0 0) (E:=[]) (R:=[]) (wr:=(w.alloc (.cells zeroHl 32)).alloc (.cells zeroHl 32)) ⟨HS0.out _ _,hlt,(World.grownBy_alloc _ _ _).trans (World.grownBy_alloc _ _ _),by simpa using heap_alloc_new (w.alloc (.cells zeroHl 32)) (.cells zeroHl 32),?_,⟨rfl,World.ownsRow_nil _ _ _ _⟩,⟨rfl,World.ownsRow_nil _ _ _ _⟩,(fun x hx=>by simp at hx),(fun x hx=>by simp at hx),(by simp),(by simp)⟩ hS1 hg1
  rw [heap_alloc_old _ _ (by simp)];exact heap_alloc_new w _
 have HD0:=hide D0
 clear D0 hS1 hg1 HS0
 go_wp2_with fail
 refine (c_one HC.out HD0.out.src _ (by omega)).mono ?_
 rintro e w2 ⟨bb,rfl,hS2,hg2⟩
 have HD2:=hide (HD0.out.step hS2 hg2)
 clear HD0 hS2 hg2
 have REST:∀ (n:Nat) (W2:World),n≤100→Hid (DH W w B ao ln cap s W2 (.slice none 0 0) (.slice none 0 0) [] [])→True:=fun _ _ _ _=>trivial
 clear REST
 obtain ⟨k,rfl⟩:=Int.eq_ofNat_of_zero_le k0
 clear k0
 cases bb with
 | false=>
  go_wp2_with fail
  go_loopw [4] (fun kv wr=>∃ (j:Nat) (p q:Value) (E R:List Int),kv=.int .i64 j∧j≤100∧Hid (DH W w B ao ln cap s wr p q E R)∧Hid (E.length≤100∧R.length≤100)) (fun kv wr=>(RowKit.intOf kv).toNat)
  case atStart=>exact ⟨k,_,_,[],[],by first | rfl | (simp only [kw]),by omega,HD2,(⟨by simp,by simp⟩:([]:List Int).length≤100∧([]:List Int).length≤100)⟩
  case round=>
   clear HD2
   obtain ⟨j,p,q,E,R,rfl,hj,HD,HLs⟩:=hrel
   obtain ⟨ea,ec,hpe⟩:=HD.out.oE.any
   obtain ⟨ra,rd,hqe⟩:=HD.out.oR.any
   subst hpe
   subst hqe
   obtain ⟨n,hn⟩:∃ n,E.length=n:=⟨_,rfl⟩
   obtain ⟨m,hm⟩:∃ m,R.length=m:=⟨_,rfl⟩
   rw [hn,hm] at HD
   have HN:=hide hn
   have HM:=hide hm
   have hnl:n≤100:=by have:=HLs.out;omega
   have hml:m≤100:=by have:=HLs.out;omega
   clear hn hm
   rcases Nat.eq_zero_or_pos j with h0 | h0
   ·subst h0
    go_wp2_with fail
    refine (c_one HC.out HD.out.src _ (by omega)).mono ?_
    rintro e w4 ⟨bb,rfl,hS4,hg4⟩
    have HD4:=hide (HD.out.step hS4 hg4)
    clear HD hS4 hg4
    cases bb with
    | false=>
     obtain ⟨q0,q1⟩:=cellH2 HD4.out.row
     obtain ⟨r0,r1⟩:=cellH2 HD4.out.res
     have e0:=fzR 0 HD4.out.res
     have e1:=fzR 1 HD4.out.res
     go_wp2
     refine bodyPost_ret (v:=.agg #[.slice ea n ec,.slice ra m rd]) (by simp [results,Tryz.results117,go_sem,q0,q1,r0,r1]) rfl HD4.out.fin
    | true=>
     go_wp2_with fail
     refine (c_n HC.out HD4.out.src _ (by omega)).mono ?_
     rintro e w5 ⟨c,rfl,c0,c1,_,hS5,hg5⟩
     have c1:=c1 (by omega)
     have HD5:=hide (HD4.out.step hS5 hg5)
     clear HD4 hS5 hg5
     have hc3:c=0∨c=1∨c=2:=by omega
     clear c0 c1
     rcases hc3 with rfl | rfl | rfl
     ·obtain ⟨q0,q1⟩:=cellH2 HD5.out.row
      obtain ⟨i0,hi,hz0,hz1,hz2⟩:=info_parts infoUint64S
      have HA5:Hid (∀ o,DH W w B ao ln cap s (w5.alloc o) (.slice ea n ec) (.slice ra m rd) E R):=fun o=>HD5.out.past ((Below.refl _ _).alloc (Nat.le_refl _) o)
      go_wp2_with (at_builtin;refine wpList_append_nilH _ rfl (.tmp 52) (.tmp 53) 29 rfl w.heap.size 23 i0 (.int .u64 0) 1 8 Tryz.underlying29 hi hz0 hz1 hz2 rfl (by decide) _ _ _ rfl (own_len (HA5.out _).oE HN.out) (some ⟨w5.heap.size,0,none⟩) 2 2 [.int .u64 0,.int .u64 0] rfl rfl (fun e=>by cases e) (fun ad e=>by cases e;exact new_cells (cs:=#[.int .u64 0,.int .u64 0]) rfl) (one_map .u64 [0,0]) (by unfold maxLen;omega) (by omega) (HA5.out _).far ?_;intro v6 w6 hown hgrow hnil;obtain ⟨row6,res6,hd6⟩:=(HA5.out _).appE (xs:=[0,0]) (n:=n+2) (by simp [HN.out]) (by rw [List.map_append];exact hown) hgrow (by intro x hx;simp at hx;unfold U64;omega) (by omega);obtain ⟨ao6,c6,rfl⟩:=own_any hown;have HD6:=hide hd6;have HR6:=hide row6;clear hown hgrow hnil hd6 q0 q1;obtain ⟨q0,q1⟩:=cellH2 row6;obtain ⟨r0,r1⟩:=cellH2 res6;have fr:=frozen_of_row w6 (w.heap.size+1) 0 _ _ row6;have e0:=frozen_of_row w6 w.heap.size 0 _ _ res6;have e1:=frozen_of_row w6 w.heap.size 1 _ _ res6;clear row6 res6)
      refine bodyPost_ret (v:=.agg #[.slice ao6 (n+2) c6,.slice ra m rd]) (by simp [results,Tryz.results117,go_sem,q0,q1,r0,r1]) rfl HD6.out.fin
     ·obtain ⟨q0,q1⟩:=cellH2 HD5.out.row
      obtain ⟨i0,hi,hz0,hz1,hz2⟩:=info_parts infoInt64S
      have HA5:Hid (∀ o,DH W w B ao ln cap s (w5.alloc o) (.slice ea n ec) (.slice ra m rd) E R):=fun o=>HD5.out.past ((Below.refl _ _).alloc (Nat.le_refl _) o)
      go_wp2_with (at_builtin;refine wpList_append_nilH _ rfl (.tmp 59) (.tmp 60) 30 rfl w.heap.size 2 i0 (.int .i64 0) 1 8 Tryz.underlying30 hi hz0 hz1 hz2 rfl (by decide) _ _ _ rfl (own_len (HA5.out _).oR HM.out) (some ⟨w5.heap.size,0,none⟩) 1 1 [.int .i64 5] rfl rfl (fun e=>by cases e) (fun ad e=>by cases e;exact new_cells (cs:=#[.int .i64 5]) rfl) (one_map .i64 [5]) (by unfold maxLen;omega) (by omega) (HA5.out _).far ?_;intro v6 w6 hown hgrow hnil;obtain ⟨row6,res6,hd6⟩:=(HA5.out _).appR (xs:=[5]) (n:=m+1) (by simp [HM.out]) (by rw [List.map_append];exact hown) hgrow (by intro x hx;simp at hx;unfold I64;omega) (by omega);obtain ⟨ao6,c6,rfl⟩:=own_any hown;have HD6:=hide hd6;have HR6:=hide row6;clear hown hgrow hnil hd6 q0 q1;obtain ⟨q0,q1⟩:=cellH2 row6;obtain ⟨r0,r1⟩:=cellH2 res6;have fr:=frozen_of_row w6 (w.heap.size+1) 1 _ _ row6;have e0:=frozen_of_row w6 w.heap.size 0 _ _ res6;have e1:=frozen_of_row w6 w.heap.size 1 _ _ res6;clear row6 res6)
      refine bodyPost_ret (v:=.agg #[.slice ea n ec,.slice ao6 (m+1) c6]) (by simp [results,Tryz.results117,go_sem,q0,q1,r0,r1]) rfl HD6.out.fin
     ·go_wp2_with fail
      go_loopw [5] (fun iv wr=>∃ (j:Nat) (p:Value) (E':List Int),iv=.int .u64 (1+j)∧j≤41∧Hid (DH W w B ao ln cap s wr p (.slice ra m rd) E' R)∧Hid (E'.length=n+j∧(j=0∨E'.length≤41))) (fun iv wr=>100 - (RowKit.intOf iv).toNat)
      case atStart=>exact ⟨0,_,E,rfl,by omega,HD5,⟨HN.out,.inl rfl⟩⟩
      case round=>
       clear HD5
       obtain ⟨j,p,E',rfl,hj41,HD5,HJ⟩:=hrel
       obtain ⟨ea,ec,hpe⟩:=HD5.out.oE.any
       subst hpe
       obtain ⟨n',hn'⟩:∃ n',E'.length=n':=⟨_,rfl⟩
       rw [hn'] at HD5
       have HN':=hide hn'
       have hnl':n'≤141:=by have:=HJ.out;omega
       clear hn'
       have hrow:∀ W',(∃ p q E R,DH W w B ao ln cap s W' p q E R∧p=.slice ea n' ec∧q=.slice ra m rd)→W'.cell? ⟨w.heap.size+1,0,none⟩=some (.slice ea n' ec)∧W'.cell? ⟨w.heap.size+1,1,none⟩=some (.slice ra m rd):=fun W' h=>by
        obtain ⟨p,q,E,R,h,rfl,rfl⟩:=h
        exact cellH2 h.row
       have HROW:=hide hrow
       clear hrow
       go_wp2_with fail
       replace HD5:=hide HD5.out.drew
       refine regionK (fun W'=>W'.heap[w.heap.size+1]?=some (.cells #[.slice ea n' ec,.slice ra m rd] 32 (0,0))) 13 (by kernel_rfl) ?_
       refine tkL (i:=0) (d:=26) (v:=.pointer (some ⟨w.heap.size+1,0,none⟩)) rfl rfl HD5.out.row (fun W hW=>by clear hW;go_simp) ?_
       refine tkL (i:=1) (d:=27) (v:=.slice ea n' ec) rfl rfl HD5.out.row (fun W hW=>?_) ?_
       ·obtain ⟨x0,x1⟩:=cellH2 hW
        go_simp
       refine tkL (i:=2) (d:=28) (v:=.int .i64 (n':Int)) rfl rfl HD5.out.row (fun W hW=>by clear hW;go_simp) ?_
       simp only [sA,sB,sC]
       refine tkL (i:=3) (d:=29) (v:=.pointer (some ⟨s,0,none⟩)) rfl rfl HD5.out.row (fun W hW=>by clear hW;go_simp) ?_
       simp only [sA,sB,sC]
       refine onE (i:=4) rfl (fun K hK=>?_)
       go_simp
       refine (c_n HC.out HD5.out.src _ (by omega)).mono ?_
       rintro e w6 ⟨c,rfl,c0,c1,_,hS6,hg6⟩
       have c1:=c1 (by omega)
       have HD6:=hide (HD5.out.step hS6 hg6)
       dsimp only
       refine hK.out _ _ (fun _=>HD6.out.row) ?_
       clear hK K hS6 hg6 HD5
       try simp only [Act.put,sA,sB,sC]
       have wc:IntKind.i64.wrap (39+c)=39+c:=IntWalk.i64_in _ ⟨by omega,by omega⟩
       refine tkL (i:=5) (d:=31) (v:=.int .i64 (39+c)) rfl rfl HD6.out.row (fun W hW=>by clear hW;go_simp) ?_
       simp only [sA,sB,sC]
       by_cases hgo:(n':Int)<39+c
       ·have dgo:decide ((n':Int)<39+c)=true:=decide_eq_true hgo
        refine tkL (i:=6) (d:=32) (v:=.bool true) rfl rfl HD6.out.row (fun W hW=>by clear hW;go_simp) ?_
        refine tkL (i:=7) (d:=33) (v:=.bool true) rfl rfl HD6.out.row (fun W hW=>by clear hW;go_simp) ?_
        refine tkL (i:=8) (d:=34) (v:=.pointer (some ⟨w.heap.size+1,1,none⟩)) rfl rfl HD6.out.row (fun W hW=>by clear hW;go_simp) ?_
        simp only [sA,sB,sC]
        refine tkL (i:=9) (d:=35) (v:=.slice ra m rd) rfl rfl HD6.out.row (fun W hW=>?_) ?_
        ·obtain ⟨x0,x1⟩:=cellH2 hW
         go_simp
        refine tkL (i:=10) (d:=36) (v:=.int .i64 (m:Int)) rfl rfl HD6.out.row (fun W hW=>by clear hW;go_simp) ?_
        simp only [sA,sB,sC]
        by_cases hm0:m=0
        ·subst hm0
         refine tkL (i:=11) (d:=37) (v:=.bool true) rfl rfl HD6.out.row (fun W hW=>by clear hW;go_simp) ?_
         refine tkL (i:=12) (d:=38) (v:=.bool true) rfl rfl HD6.out.row (fun W hW=>by clear hW;go_simp) ?_
         simp only [sA,sB,sC]
         refine doneK (by kernel_rfl) ?_ _
         obtain ⟨q0,q1⟩:=cellH2 HD6.out.row
         obtain ⟨i0,hi,hz0,hz1,hz2⟩:=info_parts infoUint64S
         have HA6:Hid (∀ o,DH W w B ao ln cap s (w6.alloc o) (.slice ea n' ec) (.slice ra 0 rd) E' R):=fun o=>HD6.out.past ((Below.refl _ _).alloc (Nat.le_refl _) o)
         have v1:IntKind.u64.wrap ((1+(j:Int))*1099511627776)=(1+(j:Int))*1099511627776:=IntWalk.u64_in _ ⟨by omega,by omega⟩
         have v2:IntKind.u64.wrap (9223372036854775808+(1+(j:Int))*1099511627776)=9223372036854775808+(1+(j:Int))*1099511627776:=IntWalk.u64_in _ ⟨by omega,by omega⟩
         obtain ⟨xv,hxv⟩:∃ xv,9223372036854775808+(1+(j:Int))*1099511627776=xv:=⟨_,rfl⟩
         have hxu:U64 xv:=by unfold U64;omega
         rw [hxv] at v2
         have v3:IntKind.u64.wrap (1+(j:Int)+1)=1+((j+1:Nat):Int):=by rw [IntKind.wrap_u64];omega
         have hj41':j+1≤41:=by have:=HJ.out;have:=HN'.out;omega
         go_wp2_with (at_builtin;refine wpList_append_nilH _ rfl (.tmp 42) (.tmp 46) 29 rfl w.heap.size 23 i0 (.int .u64 0) 1 8 Tryz.underlying29 hi hz0 hz1 hz2 rfl (by decide) _ _ _ rfl (own_len (HA6.out _).oE HN'.out) (some ⟨w6.heap.size,0,none⟩) 1 1 [.int .u64 xv] rfl rfl (fun e=>by cases e) (fun ad e=>by cases e;exact new_cells (cs:=#[.int .u64 xv]) rfl) (one_map .u64 [xv]) (by unfold maxLen;omega) (by omega) (HA6.out _).far ?_;intro v7 w7 hown hgrow hnil;obtain ⟨row7,res7,hd7⟩:=(HA6.out _).appE (xs:=[xv]) (n:=n'+1) (by simp [HN'.out]) (by rw [List.map_append];exact hown) hgrow (by intro x hx;simp at hx;subst hx;exact hxu) (by omega);obtain ⟨ao7,c7,rfl⟩:=own_any hown;have HD7:=hide hd7;clear hown hgrow hnil hd7 q0 q1;obtain ⟨q0,q1⟩:=cellH2 row7;have fr:=frozen_of_row w7 (w.heap.size+1) 0 _ _ row7;clear row7 res7)
         go_roundw
         case rel=>exact ⟨j+1,_,E' ++ [xv],by first | rfl | (simp only [v3]) | go_num,hj41',HD7,⟨by rw [List.length_append];have:=HJ.out.1;simp;omega,.inr (by rw [List.length_append,HN'.out];simp;omega)⟩⟩
         case measure=>simp [RowKit.intOf];omega
        ·have dm0:((m:Int) == 0)=false:=beq_eq_false_iff_ne.2 (by omega)
         refine tkL (i:=11) (d:=37) (v:=.bool false) rfl rfl HD6.out.row (fun W hW=>by clear hW;go_simp) ?_
         refine tkL (i:=12) (d:=38) (v:=.bool false) rfl rfl HD6.out.row (fun W hW=>by clear hW;go_simp) ?_
         simp only [sA,sB,sC]
         refine doneK (by kernel_rfl) ?_ _
         obtain ⟨q0,q1⟩:=cellH2 HD6.out.row
         obtain ⟨r0,r1⟩:=cellH2 HD6.out.res
         have e0:=fzR 0 HD6.out.res
         have e1:=fzR 1 HD6.out.res
         go_wp2
         refine bodyPost_ret (v:=.agg #[.slice ea n' ec,.slice ra m rd]) (by simp [results,Tryz.results117,go_sem,q0,q1,r0,r1]) rfl HD6.out.fin
       ·have dgo:decide ((n':Int)<39+c)=false:=decide_eq_false hgo
        refine tkL (i:=6) (d:=32) (v:=.bool false) rfl rfl HD6.out.row (fun W hW=>by clear hW;go_simp) ?_
        refine tkL (i:=7) (d:=33) (v:=.bool false) rfl rfl HD6.out.row (fun W hW=>by clear hW;go_simp) ?_
        refine takeK (i:=8) (d:=34) (v:=undef) rfl rfl (by kernel_rfl) (by kernel_rfl) (by kernel_rfl) (by decide) (by kernel_rfl) (fun _ _ _ h=>h) (Or.inr ⟨by rfl,rfl⟩) HD6.out.row ?_
        simp only [sA,sB,sC]
        refine takeK (i:=9) (d:=35) (v:=undef) rfl rfl (by kernel_rfl) (by kernel_rfl) (by kernel_rfl) (by decide) (by kernel_rfl) (fun _ _ _ h=>h) (Or.inr ⟨by rfl,rfl⟩) HD6.out.row ?_
        refine takeK (i:=10) (d:=36) (v:=undef) rfl rfl (by kernel_rfl) (by kernel_rfl) (by kernel_rfl) (by decide) (by kernel_rfl) (fun _ _ _ h=>h) (Or.inr ⟨by rfl,rfl⟩) HD6.out.row ?_
        refine takeK (i:=11) (d:=37) (v:=undef) rfl rfl (by kernel_rfl) (by kernel_rfl) (by kernel_rfl) (by decide) (by kernel_rfl) (fun _ _ _ h=>h) (Or.inr ⟨by rfl,rfl⟩) HD6.out.row ?_
        simp only [sA,sB,sC]
        refine tkL (i:=12) (d:=38) (v:=.bool false) rfl rfl HD6.out.row (fun W hW=>by clear hW;go_simp) ?_
        simp only [sA,sB,sC]
        refine doneK (by kernel_rfl) ?_ _
        obtain ⟨q0,q1⟩:=cellH2 HD6.out.row
        obtain ⟨r0,r1⟩:=cellH2 HD6.out.res
        have e0:=fzR 0 HD6.out.res
        have e1:=fzR 1 HD6.out.res
        go_wp2
        refine bodyPost_ret (v:=.agg #[.slice ea n' ec,.slice ra m rd]) (by simp [results,Tryz.results117,go_sem,q0,q1,r0,r1]) rfl HD6.out.fin
   ·have hj0:(0:Int)<(j:Int):=by omega
    go_wp2_with fail
    replace HD:=hide HD.out.drew
    refine regionK (fun W'=>W'.heap[w.heap.size+1]?=some (.cells #[.slice ea n ec,.slice ra m rd] 32 (0,0))) 4 (by kernel_rfl) ?_
    refine tkL (i:=0) (d:=18) (v:=.agg #[.slice ea n ec,.slice ra m rd]) rfl rfl HD.out.row (fun W hW=>?_) ?_
    ·obtain ⟨x0,x1⟩:=cellH2 hW
     go_simp
    refine tkL (i:=1) (d:=19) (v:=.pointer (some ⟨s,0,none⟩)) rfl rfl HD.out.row (fun W hW=>by clear hW;go_simp) ?_
    simp only [sA,sB,sC]
    refine onE (i:=2) rfl (fun K hK=>?_)
    go_simp
    refine (c_l04Hash HC.out HD.out.src).mono ?_
    rintro e w4 ⟨x,rfl,hx,hS4,hg4⟩
    have HD4:=hide (HD.out.step hS4 hg4)
    have HX:=hide hx
    dsimp only
    refine hK.out _ _ (fun _=>HD4.out.row) ?_
    clear hK K hS4 hg4 HD hx
    try simp only [Act.put,sA,sB,sC]
    obtain ⟨a1,a2,a3,a4,a5⟩:=(own_len' HD4.out.oE HN.out).caps
    obtain ⟨b1,b2,b3,b4,b5⟩:=(own_len' HD4.out.oR HM.out).caps
    refine onE (i:=3) rfl (fun K hK=>?_)
    go_simp
    refine (c_s_HllPut x HN.out HM.out (by omega) (by omega) a3 a4 a2 a5 b5 a1 b1 HD4.out.k HD4.out.u HX.out).mono ?_
    rintro e w5 ⟨v5,E5,R5,rfl,hP5,ho5,hb5⟩
    obtain ⟨ea5,ec5,ra5,rd5,rfl,o1,o2⟩:=ho5.two
    have hl5:=put_lens (M:=100) (by omega) hP5 (by have:=HN.out;omega) (by have:=HM.out;omega)
    have HD5:=hide (HD4.out.put hb5 o1 o2 (put_u64 HD4.out.u HX.out hP5) (put_i64 HD4.out.k hP5) (by omega) (by omega))
    have HD5':=hide (HD4.out.past hb5)
    dsimp only
    refine hK.out _ _ (fun _=>HD5'.out.row) ?_
    clear hK K hb5 HD4 a1 a2 a3 a4 a5 b1 b2 b3 b4 b5 o1 o2 hP5 ho5
    try simp only [Act.put,sA,sB,sC]
    obtain ⟨q0,q1⟩:=cellH2 HD5'.out.row
    have f0:=fzR 0 HD5'.out.row
    have f1:=fzR 1 HD5'.out.row
    refine onE (i:=4) rfl (fun K hK=>?_)
    go_simp
    refine hK.out _ _ (fun h=>absurd rfl h) ?_
    clear hK K q0 q1 f0 f1 HD5'
    try simp only [Act.put,sA,sB,sC]
    refine doneK (by kernel_rfl) ?_ _
    generalize ((w5.setCell ⟨w.heap.size+1,0,none⟩ (.slice ea5 E5.length ec5)).setCell ⟨w.heap.size+1,1,none⟩ (.slice ra5 R5.length rd5))=w6 at HD5 ⊢
    have jw:IntKind.i64.wrap ((j:Int) - 1)=((j - 1:Nat):Int):=by rw [IntKind.wrap_i64];omega
    go_wp2
    go_roundw
    case rel=>exact ⟨j - 1,_,_,E5,R5,by first | rfl | (simp only [jw]) | go_num,by omega,HD5,hide hl5⟩
    case measure=>simp [RowKit.intOf];omega
 | true=>
  go_wp2_with fail
  refine (c_n HC.out HD2.out.src _ (by omega)).mono ?_
  rintro e w3 ⟨kk,rfl,q0,q1,_,hS3,hg3⟩
  have q1:=q1 (by omega)
  have HD3:=hide (HD2.out.step hS3 hg3)
  clear HD2 hS3 hg3
  obtain ⟨kk,rfl⟩:=Int.eq_ofNat_of_zero_le q0
  clear q0
  have kw:IntKind.i64.wrap (30+(kk:Int))=((30+kk:Nat):Int):=by rw [IntKind.wrap_i64];omega
  go_wp2_with fail
  go_loopw [4] (fun kv wr=>∃ (j:Nat) (p q:Value) (E R:List Int),kv=.int .i64 j∧j≤100∧Hid (DH W w B ao ln cap s wr p q E R)∧Hid (E.length≤100∧R.length≤100)) (fun kv wr=>(RowKit.intOf kv).toNat)
  case atStart=>exact ⟨30+kk,_,_,[],[],by first | rfl | (simp only [kw]),by omega,HD3,(⟨by simp,by simp⟩:([]:List Int).length≤100∧([]:List Int).length≤100)⟩
  case round=>
   clear HD3
   obtain ⟨j,p,q,E,R,rfl,hj,HD,HLs⟩:=hrel
   obtain ⟨ea,ec,hpe⟩:=HD.out.oE.any
   obtain ⟨ra,rd,hqe⟩:=HD.out.oR.any
   subst hpe
   subst hqe
   obtain ⟨n,hn⟩:∃ n,E.length=n:=⟨_,rfl⟩
   obtain ⟨m,hm⟩:∃ m,R.length=m:=⟨_,rfl⟩
   rw [hn,hm] at HD
   have HN:=hide hn
   have HM:=hide hm
   have hnl:n≤100:=by have:=HLs.out;omega
   have hml:m≤100:=by have:=HLs.out;omega
   clear hn hm
   rcases Nat.eq_zero_or_pos j with h0 | h0
   ·subst h0
    go_wp2_with fail
    refine (c_one HC.out HD.out.src _ (by omega)).mono ?_
    rintro e w4 ⟨bb,rfl,hS4,hg4⟩
    have HD4:=hide (HD.out.step hS4 hg4)
    clear HD hS4 hg4
    cases bb with
    | false=>
     obtain ⟨q0,q1⟩:=cellH2 HD4.out.row
     obtain ⟨r0,r1⟩:=cellH2 HD4.out.res
     have e0:=fzR 0 HD4.out.res
     have e1:=fzR 1 HD4.out.res
     go_wp2
     refine bodyPost_ret (v:=.agg #[.slice ea n ec,.slice ra m rd]) (by simp [results,Tryz.results117,go_sem,q0,q1,r0,r1]) rfl HD4.out.fin
    | true=>
     go_wp2_with fail
     refine (c_n HC.out HD4.out.src _ (by omega)).mono ?_
     rintro e w5 ⟨c,rfl,c0,c1,_,hS5,hg5⟩
     have c1:=c1 (by omega)
     have HD5:=hide (HD4.out.step hS5 hg5)
     clear HD4 hS5 hg5
     have hc3:c=0∨c=1∨c=2:=by omega
     clear c0 c1
     rcases hc3 with rfl | rfl | rfl
     ·obtain ⟨q0,q1⟩:=cellH2 HD5.out.row
      obtain ⟨i0,hi,hz0,hz1,hz2⟩:=info_parts infoUint64S
      have HA5:Hid (∀ o,DH W w B ao ln cap s (w5.alloc o) (.slice ea n ec) (.slice ra m rd) E R):=fun o=>HD5.out.past ((Below.refl _ _).alloc (Nat.le_refl _) o)
      go_wp2_with (at_builtin;refine wpList_append_nilH _ rfl (.tmp 52) (.tmp 53) 29 rfl w.heap.size 23 i0 (.int .u64 0) 1 8 Tryz.underlying29 hi hz0 hz1 hz2 rfl (by decide) _ _ _ rfl (own_len (HA5.out _).oE HN.out) (some ⟨w5.heap.size,0,none⟩) 2 2 [.int .u64 0,.int .u64 0] rfl rfl (fun e=>by cases e) (fun ad e=>by cases e;exact new_cells (cs:=#[.int .u64 0,.int .u64 0]) rfl) (one_map .u64 [0,0]) (by unfold maxLen;omega) (by omega) (HA5.out _).far ?_;intro v6 w6 hown hgrow hnil;obtain ⟨row6,res6,hd6⟩:=(HA5.out _).appE (xs:=[0,0]) (n:=n+2) (by simp [HN.out]) (by rw [List.map_append];exact hown) hgrow (by intro x hx;simp at hx;unfold U64;omega) (by omega);obtain ⟨ao6,c6,rfl⟩:=own_any hown;have HD6:=hide hd6;have HR6:=hide row6;clear hown hgrow hnil hd6 q0 q1;obtain ⟨q0,q1⟩:=cellH2 row6;obtain ⟨r0,r1⟩:=cellH2 res6;have fr:=frozen_of_row w6 (w.heap.size+1) 0 _ _ row6;have e0:=frozen_of_row w6 w.heap.size 0 _ _ res6;have e1:=frozen_of_row w6 w.heap.size 1 _ _ res6;clear row6 res6)
      refine bodyPost_ret (v:=.agg #[.slice ao6 (n+2) c6,.slice ra m rd]) (by simp [results,Tryz.results117,go_sem,q0,q1,r0,r1]) rfl HD6.out.fin
     ·obtain ⟨q0,q1⟩:=cellH2 HD5.out.row
      obtain ⟨i0,hi,hz0,hz1,hz2⟩:=info_parts infoInt64S
      have HA5:Hid (∀ o,DH W w B ao ln cap s (w5.alloc o) (.slice ea n ec) (.slice ra m rd) E R):=fun o=>HD5.out.past ((Below.refl _ _).alloc (Nat.le_refl _) o)
      go_wp2_with (at_builtin;refine wpList_append_nilH _ rfl (.tmp 59) (.tmp 60) 30 rfl w.heap.size 2 i0 (.int .i64 0) 1 8 Tryz.underlying30 hi hz0 hz1 hz2 rfl (by decide) _ _ _ rfl (own_len (HA5.out _).oR HM.out) (some ⟨w5.heap.size,0,none⟩) 1 1 [.int .i64 5] rfl rfl (fun e=>by cases e) (fun ad e=>by cases e;exact new_cells (cs:=#[.int .i64 5]) rfl) (one_map .i64 [5]) (by unfold maxLen;omega) (by omega) (HA5.out _).far ?_;intro v6 w6 hown hgrow hnil;obtain ⟨row6,res6,hd6⟩:=(HA5.out _).appR (xs:=[5]) (n:=m+1) (by simp [HM.out]) (by rw [List.map_append];exact hown) hgrow (by intro x hx;simp at hx;unfold I64;omega) (by omega);obtain ⟨ao6,c6,rfl⟩:=own_any hown;have HD6:=hide hd6;have HR6:=hide row6;clear hown hgrow hnil hd6 q0 q1;obtain ⟨q0,q1⟩:=cellH2 row6;obtain ⟨r0,r1⟩:=cellH2 res6;have fr:=frozen_of_row w6 (w.heap.size+1) 1 _ _ row6;have e0:=frozen_of_row w6 w.heap.size 0 _ _ res6;have e1:=frozen_of_row w6 w.heap.size 1 _ _ res6;clear row6 res6)
      refine bodyPost_ret (v:=.agg #[.slice ea n ec,.slice ao6 (m+1) c6]) (by simp [results,Tryz.results117,go_sem,q0,q1,r0,r1]) rfl HD6.out.fin
     ·go_wp2_with fail
      go_loopw [5] (fun iv wr=>∃ (j:Nat) (p:Value) (E':List Int),iv=.int .u64 (1+j)∧j≤41∧Hid (DH W w B ao ln cap s wr p (.slice ra m rd) E' R)∧Hid (E'.length=n+j∧(j=0∨E'.length≤41))) (fun iv wr=>100 - (RowKit.intOf iv).toNat)
      case atStart=>exact ⟨0,_,E,rfl,by omega,HD5,⟨HN.out,.inl rfl⟩⟩
      case round=>
       clear HD5
       obtain ⟨j,p,E',rfl,hj41,HD5,HJ⟩:=hrel
       obtain ⟨ea,ec,hpe⟩:=HD5.out.oE.any
       subst hpe
       obtain ⟨n',hn'⟩:∃ n',E'.length=n':=⟨_,rfl⟩
       rw [hn'] at HD5
       have HN':=hide hn'
       have hnl':n'≤141:=by have:=HJ.out;omega
       clear hn'
       have hrow:∀ W',(∃ p q E R,DH W w B ao ln cap s W' p q E R∧p=.slice ea n' ec∧q=.slice ra m rd)→W'.cell? ⟨w.heap.size+1,0,none⟩=some (.slice ea n' ec)∧W'.cell? ⟨w.heap.size+1,1,none⟩=some (.slice ra m rd):=fun W' h=>by
        obtain ⟨p,q,E,R,h,rfl,rfl⟩:=h
        exact cellH2 h.row
       have HROW:=hide hrow
       clear hrow
       go_wp2_with fail
       replace HD5:=hide HD5.out.drew
       refine regionK (fun W'=>W'.heap[w.heap.size+1]?=some (.cells #[.slice ea n' ec,.slice ra m rd] 32 (0,0))) 13 (by kernel_rfl) ?_
       refine tkL (i:=0) (d:=26) (v:=.pointer (some ⟨w.heap.size+1,0,none⟩)) rfl rfl HD5.out.row (fun W hW=>by clear hW;go_simp) ?_
       refine tkL (i:=1) (d:=27) (v:=.slice ea n' ec) rfl rfl HD5.out.row (fun W hW=>?_) ?_
       ·obtain ⟨x0,x1⟩:=cellH2 hW
        go_simp
       refine tkL (i:=2) (d:=28) (v:=.int .i64 (n':Int)) rfl rfl HD5.out.row (fun W hW=>by clear hW;go_simp) ?_
       simp only [sA,sB,sC]
       refine tkL (i:=3) (d:=29) (v:=.pointer (some ⟨s,0,none⟩)) rfl rfl HD5.out.row (fun W hW=>by clear hW;go_simp) ?_
       simp only [sA,sB,sC]
       refine onE (i:=4) rfl (fun K hK=>?_)
       go_simp
       refine (c_n HC.out HD5.out.src _ (by omega)).mono ?_
       rintro e w6 ⟨c,rfl,c0,c1,_,hS6,hg6⟩
       have c1:=c1 (by omega)
       have HD6:=hide (HD5.out.step hS6 hg6)
       dsimp only
       refine hK.out _ _ (fun _=>HD6.out.row) ?_
       clear hK K hS6 hg6 HD5
       try simp only [Act.put,sA,sB,sC]
       have wc:IntKind.i64.wrap (39+c)=39+c:=IntWalk.i64_in _ ⟨by omega,by omega⟩
       refine tkL (i:=5) (d:=31) (v:=.int .i64 (39+c)) rfl rfl HD6.out.row (fun W hW=>by clear hW;go_simp) ?_
       simp only [sA,sB,sC]
       by_cases hgo:(n':Int)<39+c
       ·have dgo:decide ((n':Int)<39+c)=true:=decide_eq_true hgo
        refine tkL (i:=6) (d:=32) (v:=.bool true) rfl rfl HD6.out.row (fun W hW=>by clear hW;go_simp) ?_
        refine tkL (i:=7) (d:=33) (v:=.bool true) rfl rfl HD6.out.row (fun W hW=>by clear hW;go_simp) ?_
        refine tkL (i:=8) (d:=34) (v:=.pointer (some ⟨w.heap.size+1,1,none⟩)) rfl rfl HD6.out.row (fun W hW=>by clear hW;go_simp) ?_
        simp only [sA,sB,sC]
        refine tkL (i:=9) (d:=35) (v:=.slice ra m rd) rfl rfl HD6.out.row (fun W hW=>?_) ?_
        ·obtain ⟨x0,x1⟩:=cellH2 hW
         go_simp
        refine tkL (i:=10) (d:=36) (v:=.int .i64 (m:Int)) rfl rfl HD6.out.row (fun W hW=>by clear hW;go_simp) ?_
        simp only [sA,sB,sC]
        by_cases hm0:m=0
        ·subst hm0
         refine tkL (i:=11) (d:=37) (v:=.bool true) rfl rfl HD6.out.row (fun W hW=>by clear hW;go_simp) ?_
         refine tkL (i:=12) (d:=38) (v:=.bool true) rfl rfl HD6.out.row (fun W hW=>by clear hW;go_simp) ?_
         simp only [sA,sB,sC]
         refine doneK (by kernel_rfl) ?_ _
         obtain ⟨q0,q1⟩:=cellH2 HD6.out.row
         obtain ⟨i0,hi,hz0,hz1,hz2⟩:=info_parts infoUint64S
         have HA6:Hid (∀ o,DH W w B ao ln cap s (w6.alloc o) (.slice ea n' ec) (.slice ra 0 rd) E' R):=fun o=>HD6.out.past ((Below.refl _ _).alloc (Nat.le_refl _) o)
         have v1:IntKind.u64.wrap ((1+(j:Int))*1099511627776)=(1+(j:Int))*1099511627776:=IntWalk.u64_in _ ⟨by omega,by omega⟩
         have v2:IntKind.u64.wrap (9223372036854775808+(1+(j:Int))*1099511627776)=9223372036854775808+(1+(j:Int))*1099511627776:=IntWalk.u64_in _ ⟨by omega,by omega⟩
         obtain ⟨xv,hxv⟩:∃ xv,9223372036854775808+(1+(j:Int))*1099511627776=xv:=⟨_,rfl⟩
         have hxu:U64 xv:=by unfold U64;omega
         rw [hxv] at v2
         have v3:IntKind.u64.wrap (1+(j:Int)+1)=1+((j+1:Nat):Int):=by rw [IntKind.wrap_u64];omega
         have hj41':j+1≤41:=by have:=HJ.out;have:=HN'.out;omega
         go_wp2_with (at_builtin;refine wpList_append_nilH _ rfl (.tmp 42) (.tmp 46) 29 rfl w.heap.size 23 i0 (.int .u64 0) 1 8 Tryz.underlying29 hi hz0 hz1 hz2 rfl (by decide) _ _ _ rfl (own_len (HA6.out _).oE HN'.out) (some ⟨w6.heap.size,0,none⟩) 1 1 [.int .u64 xv] rfl rfl (fun e=>by cases e) (fun ad e=>by cases e;exact new_cells (cs:=#[.int .u64 xv]) rfl) (one_map .u64 [xv]) (by unfold maxLen;omega) (by omega) (HA6.out _).far ?_;intro v7 w7 hown hgrow hnil;obtain ⟨row7,res7,hd7⟩:=(HA6.out _).appE (xs:=[xv]) (n:=n'+1) (by simp [HN'.out]) (by rw [List.map_append];exact hown) hgrow (by intro x hx;simp at hx;subst hx;exact hxu) (by omega);obtain ⟨ao7,c7,rfl⟩:=own_any hown;have HD7:=hide hd7;clear hown hgrow hnil hd7 q0 q1;obtain ⟨q0,q1⟩:=cellH2 row7;have fr:=frozen_of_row w7 (w.heap.size+1) 0 _ _ row7;clear row7 res7)
         go_roundw
         case rel=>exact ⟨j+1,_,E' ++ [xv],by first | rfl | (simp only [v3]) | go_num,hj41',HD7,⟨by rw [List.length_append];have:=HJ.out.1;simp;omega,.inr (by rw [List.length_append,HN'.out];simp;omega)⟩⟩
         case measure=>simp [RowKit.intOf];omega
        ·have dm0:((m:Int) == 0)=false:=beq_eq_false_iff_ne.2 (by omega)
         refine tkL (i:=11) (d:=37) (v:=.bool false) rfl rfl HD6.out.row (fun W hW=>by clear hW;go_simp) ?_
         refine tkL (i:=12) (d:=38) (v:=.bool false) rfl rfl HD6.out.row (fun W hW=>by clear hW;go_simp) ?_
         simp only [sA,sB,sC]
         refine doneK (by kernel_rfl) ?_ _
         obtain ⟨q0,q1⟩:=cellH2 HD6.out.row
         obtain ⟨r0,r1⟩:=cellH2 HD6.out.res
         have e0:=fzR 0 HD6.out.res
         have e1:=fzR 1 HD6.out.res
         go_wp2
         refine bodyPost_ret (v:=.agg #[.slice ea n' ec,.slice ra m rd]) (by simp [results,Tryz.results117,go_sem,q0,q1,r0,r1]) rfl HD6.out.fin
       ·have dgo:decide ((n':Int)<39+c)=false:=decide_eq_false hgo
        refine tkL (i:=6) (d:=32) (v:=.bool false) rfl rfl HD6.out.row (fun W hW=>by clear hW;go_simp) ?_
        refine tkL (i:=7) (d:=33) (v:=.bool false) rfl rfl HD6.out.row (fun W hW=>by clear hW;go_simp) ?_
        refine takeK (i:=8) (d:=34) (v:=undef) rfl rfl (by kernel_rfl) (by kernel_rfl) (by kernel_rfl) (by decide) (by kernel_rfl) (fun _ _ _ h=>h) (Or.inr ⟨by rfl,rfl⟩) HD6.out.row ?_
        simp only [sA,sB,sC]
        refine takeK (i:=9) (d:=35) (v:=undef) rfl rfl (by kernel_rfl) (by kernel_rfl) (by kernel_rfl) (by decide) (by kernel_rfl) (fun _ _ _ h=>h) (Or.inr ⟨by rfl,rfl⟩) HD6.out.row ?_
        refine takeK (i:=10) (d:=36) (v:=undef) rfl rfl (by kernel_rfl) (by kernel_rfl) (by kernel_rfl) (by decide) (by kernel_rfl) (fun _ _ _ h=>h) (Or.inr ⟨by rfl,rfl⟩) HD6.out.row ?_
        refine takeK (i:=11) (d:=37) (v:=undef) rfl rfl (by kernel_rfl) (by kernel_rfl) (by kernel_rfl) (by decide) (by kernel_rfl) (fun _ _ _ h=>h) (Or.inr ⟨by rfl,rfl⟩) HD6.out.row ?_
        simp only [sA,sB,sC]
        refine tkL (i:=12) (d:=38) (v:=.bool false) rfl rfl HD6.out.row (fun W hW=>by clear hW;go_simp) ?_
        simp only [sA,sB,sC]
        refine doneK (by kernel_rfl) ?_ _
        obtain ⟨q0,q1⟩:=cellH2 HD6.out.row
        obtain ⟨r0,r1⟩:=cellH2 HD6.out.res
        have e0:=fzR 0 HD6.out.res
        have e1:=fzR 1 HD6.out.res
        go_wp2
        refine bodyPost_ret (v:=.agg #[.slice ea n' ec,.slice ra m rd]) (by simp [results,Tryz.results117,go_sem,q0,q1,r0,r1]) rfl HD6.out.fin
   ·have hj0:(0:Int)<(j:Int):=by omega
    go_wp2_with fail
    replace HD:=hide HD.out.drew
    refine regionK (fun W'=>W'.heap[w.heap.size+1]?=some (.cells #[.slice ea n ec,.slice ra m rd] 32 (0,0))) 4 (by kernel_rfl) ?_
    refine tkL (i:=0) (d:=18) (v:=.agg #[.slice ea n ec,.slice ra m rd]) rfl rfl HD.out.row (fun W hW=>?_) ?_
    ·obtain ⟨x0,x1⟩:=cellH2 hW
     go_simp
    refine tkL (i:=1) (d:=19) (v:=.pointer (some ⟨s,0,none⟩)) rfl rfl HD.out.row (fun W hW=>by clear hW;go_simp) ?_
    simp only [sA,sB,sC]
    refine onE (i:=2) rfl (fun K hK=>?_)
    go_simp
    refine (c_l04Hash HC.out HD.out.src).mono ?_
    rintro e w4 ⟨x,rfl,hx,hS4,hg4⟩
    have HD4:=hide (HD.out.step hS4 hg4)
    have HX:=hide hx
    dsimp only
    refine hK.out _ _ (fun _=>HD4.out.row) ?_
    clear hK K hS4 hg4 HD hx
    try simp only [Act.put,sA,sB,sC]
    obtain ⟨a1,a2,a3,a4,a5⟩:=(own_len' HD4.out.oE HN.out).caps
    obtain ⟨b1,b2,b3,b4,b5⟩:=(own_len' HD4.out.oR HM.out).caps
    refine onE (i:=3) rfl (fun K hK=>?_)
    go_simp
    refine (c_s_HllPut x HN.out HM.out (by omega) (by omega) a3 a4 a2 a5 b5 a1 b1 HD4.out.k HD4.out.u HX.out).mono ?_
    rintro e w5 ⟨v5,E5,R5,rfl,hP5,ho5,hb5⟩
    obtain ⟨ea5,ec5,ra5,rd5,rfl,o1,o2⟩:=ho5.two
    have hl5:=put_lens (M:=100) (by omega) hP5 (by have:=HN.out;omega) (by have:=HM.out;omega)
    have HD5:=hide (HD4.out.put hb5 o1 o2 (put_u64 HD4.out.u HX.out hP5) (put_i64 HD4.out.k hP5) (by omega) (by omega))
    have HD5':=hide (HD4.out.past hb5)
    dsimp only
    refine hK.out _ _ (fun _=>HD5'.out.row) ?_
    clear hK K hb5 HD4 a1 a2 a3 a4 a5 b1 b2 b3 b4 b5 o1 o2 hP5 ho5
    try simp only [Act.put,sA,sB,sC]
    obtain ⟨q0,q1⟩:=cellH2 HD5'.out.row
    have f0:=fzR 0 HD5'.out.row
    have f1:=fzR 1 HD5'.out.row
    refine onE (i:=4) rfl (fun K hK=>?_)
    go_simp
    refine hK.out _ _ (fun h=>absurd rfl h) ?_
    clear hK K q0 q1 f0 f1 HD5'
    try simp only [Act.put,sA,sB,sC]
    refine doneK (by kernel_rfl) ?_ _
    generalize ((w5.setCell ⟨w.heap.size+1,0,none⟩ (.slice ea5 E5.length ec5)).setCell ⟨w.heap.size+1,1,none⟩ (.slice ra5 R5.length rd5))=w6 at HD5 ⊢
    have jw:IntKind.i64.wrap ((j:Int) - 1)=((j - 1:Nat):Int):=by rw [IntKind.wrap_i64];omega
    go_wp2
    go_roundw
    case rel=>exact ⟨j - 1,_,_,E5,R5,by first | rfl | (simp only [jw]) | go_num,by omega,HD5,hide hl5⟩
    case measure=>simp [RowKit.intOf];omega
end Go.Proofs.YthpilcoklapooaaGreatDoor
