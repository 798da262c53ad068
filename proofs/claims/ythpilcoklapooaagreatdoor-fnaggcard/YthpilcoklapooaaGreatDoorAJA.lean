/-
 Plain facts on numbers of 64 and of 128 bits, of no program: what the walks of the wide numbers lean on.
-/
import Derived.WalkKit
import Derived.ProofKit
import Derived.OpenShut
import Derived.Below
import Derived.WalkSpells
import Derived.Carry
import Derived.Deep.RegionHeld3
import Derived.PlainAid
import Derived.Outline
import Derived.WalkSmall
import Derived.OwnWalk
import Derived.BigQuiet
import Derived.Deep.QuietTactic
import Derived.Test.YthpilcoklapooaaGreatDoorRows
import Derived.Laws.Externs
namespace Go.Proofs.YthpilcoklapooaaGreatDoor
open Go.ChangeShapes Go.WideShapes Go.ChangeAt Go.RowKit
/-- The low half. -/
def uw (n:Int):Int:=n % 18446744073709551616
/-- The carry of two low halves. -/
def addC (b d:Int):Int:=(b+d) / 18446744073709551616
def addH (a b c d:Int):Int:=wrap64 (a+c+addC b d)
def addL (b d:Int):Int:=uw (b+d)
def ofH (n:Int):Int:=n / 9223372036854775808
/-- A low half. -/
def U64 (n:Int):Prop:=0≤n∧n≤18446744073709551615
def I64 (n:Int):Prop:=-9223372036854775808≤n∧n≤9223372036854775807
theorem uw_in (n:Int):U64 (uw n):=by unfold U64 uw;omega
theorem w64_in (n:Int):I64 (wrap64 n):=by unfold I64 wrap64;omega
theorem ret_wide {a b c d:Int} (h:a=c) (k:b=d):Ending.returned (.agg #[.int .i64 a,.int .u64 b])=.returned (.agg #[.int .i64 c,.int .u64 d]):=by rw [h,k]
end Go.Proofs.YthpilcoklapooaaGreatDoor
/-
 What a region whose order is open keeps of memory: all blocks below a bound read as in a world that is known. Of no program.
-/
namespace Go.Proofs.YthpilcoklapooaaGreatDoor
open Go.RowKit
theorem bcell {W w1:World} {K:Nat} (hb:Below K W w1):(∀ b o,b<K→w1.cell? ⟨b,o,none⟩=W.cell? ⟨b,o,none⟩)∧(∀ b o,b<K→w1.frozen? ⟨b,o,none⟩=W.frozen? ⟨b,o,none⟩):=
 ⟨fun b o h=>hb.cell (p:=⟨b,o,none⟩) h,fun b o h=>hb.frozen (p:=⟨b,o,none⟩) h⟩
/-- A cell that is there stays, whatever new block is laid. -/
theorem cell_on {w:World} {a:Addr} {v:Value} (h:w.cell? a=some v):∀ o,(w.alloc o).cell? a=some v:=fun o=>by rw [World.cell?_alloc_some w a o (by rw [h];rfl)];exact h
/-- .. behind a call. -/
theorem cell_past {W w1:World} {a:Addr} {v:Value} (hb:Below W.heap.size W w1) (h:W.cell? a=some v):w1.cell? a=some v:=by
 rw [hb.cell (World.block_lt_of_cell? W a h)];exact h
theorem frozen_past {W w1:World} {a:Addr} {v:Value} (hb:Below W.heap.size W w1) (h:W.cell? a=some v):w1.frozen? a=W.frozen? a:=hb.frozen (World.block_lt_of_cell? W a h)
/-- Two calls in a row. -/
theorem chain {P w1 w2:World} (hT:Below P.heap.size P w1) (hb:Below w1.heap.size w1 w2):Below P.heap.size P w2:=hT.trans (hb.mono hT.size)
/-- All that lay below K in W lies there still. -/
theorem held {K:Nat} {W w1:World} (h:Below K W w1) (hk:K≤W.heap.size):Below K W w1∧K≤w1.heap.size∧(∀ b o,b<K→w1.cell? ⟨b,o,none⟩=W.cell? ⟨b,o,none⟩)∧(∀ b o,b<K→w1.frozen? ⟨b,o,none⟩=W.frozen? ⟨b,o,none⟩):=
 ⟨h,Nat.le_trans hk h.size,(bcell h).1,(bcell h).2⟩
theorem held_call {K:Nat} {W w1 w2:World} (hb:Below w1.heap.size w1 w2) (h:Below K W w1∧K≤w1.heap.size∧(∀ b o,b<K→w1.cell? ⟨b,o,none⟩=W.cell? ⟨b,o,none⟩)∧(∀ b o,b<K→w1.frozen? ⟨b,o,none⟩=W.frozen? ⟨b,o,none⟩)) :
  Below K W w2∧K≤w2.heap.size:=⟨h.1.trans (hb.mono h.2.1),Nat.le_trans h.2.1 hb.size⟩
/-- What a region keeps: all blocks of W below K. -/
abbrev Kept (K:Nat) (W w1:World):Prop:=Below K W w1∧K≤w1.heap.size∧(∀ b o,b<K→w1.cell? ⟨b,o,none⟩=W.cell? ⟨b,o,none⟩)∧(∀ b o,b<K→w1.frozen? ⟨b,o,none⟩=W.frozen? ⟨b,o,none⟩)
end Go.Proofs.YthpilcoklapooaaGreatDoor
/-
 Rows of things of two cells, and what an owned row keeps: of no program.
-/
namespace Go.Proofs.YthpilcoklapooaaGreatDoor
set_option linter.unusedVariables false
set_option linter.unusedSimpArgs false
open Go.ChangeShapes Go.WideShapes Go.ChangeAt Go.RowKit Go.PlainAid Go.Lib
/-- Things of two cells each, one behind the other. -/
def fl {α:Type} (e:α→List Value) (xs:List α):List Value:=xs.flatMap e
theorem fl_app {α:Type} (e:α→List Value) (xs ys:List α):fl e (xs ++ ys)=fl e xs ++ fl e ys:=by simp [fl]
theorem fl_one {α:Type} (e:α→List Value) (x:α):fl e [x]=e x:=by simp [fl]
theorem fl_cons {α:Type} (e:α→List Value) (x:α) (xs:List α):fl e (x :: xs)=e x ++ fl e xs:=by simp [fl]
theorem fl_len {α:Type} {e:α→List Value} (he:∀ x,(e x).length=2):∀ xs:List α,(fl e xs).length=xs.length*2
 | []=>rfl
 | x :: xs=>by rw [fl_cons,List.length_append,he,fl_len he xs,List.length_cons];omega
theorem fl_at {α:Type} {e:α→List Value} (he:∀ x,(e x).length=2):∀ (xs:List α) (i:Nat) (x:α) (c:Nat),c<2→xs[i]?=some x→(fl e xs)[i*2+c]?=(e x)[c]?
 | [],i,x,c,hc,h=>by simp at h
 | y :: xs,0,x,c,hc,h=>by
  obtain rfl:y=x:=by simpa using h
  rw [fl_cons,List.getElem?_append_left (by rw [he];omega),Nat.zero_mul,Nat.zero_add]
 | y :: xs,i+1,x,c,hc,h=>by
  rw [fl_cons,List.getElem?_append_right (by rw [he];omega),he,show (i+1)*2+c - 2=i*2+c by omega]
  exact fl_at he xs i x c hc (by simpa using h)
theorem fl_set {α:Type} {e:α→List Value} (he:∀ x,(e x).length=2) {u v:Value}:∀ (xs:List α) (i:Nat) (y:α),i<xs.length→e y=[u,v]→((fl e xs).set (i*2) u).set (i*2+1) v=fl e (xs.set i y)
 | [],i,y,h,_=>by simp at h
 | x :: xs,0,y,h,hy=>by
  have hx:=he x
  match hq:e x,hx with
  | [a,b],_=>rw [fl_cons,hq,List.set_cons_zero,fl_cons,hy];rfl
 | x :: xs,i+1,y,h,hy=>by
  have h':i<xs.length:=by simpa using h
  rw [fl_cons,List.set_cons_succ,fl_cons,← fl_set he xs i y h' hy]
  rw [List.set_append_right _ _ (by rw [he];omega),he,List.set_append_right _ _ (by rw [he];omega),he,show (i+1)*2 - 2=i*2 by omega,show (i+1)*2+1 - 2=i*2+1 by omega]
/-- A new block's cells. -/
theorem new_cells {W:World} {cs:Array Value} {t:TypeId} {g:Nat} (hg:W.heap.size=g) (j:Nat) (u:Value) (hj:cs.toList[j]?=some u):(W.alloc (.cells cs t)).cell? ((⟨g,0,none⟩:Addr).add j)=some u:=by
 subst hg
 have hb:(W.alloc (.cells cs t)).heap[W.heap.size]?=some (.cells cs t (0,0)):=heap_alloc_new W _
 rw [Addr.add_lit,Nat.zero_add,cell_of_row _ W.heap.size j _ _ (0,0) hb]
 simpa using hj
theorem own_cap {w:World} {B g c n:Nat} {T:TypeId} {s:Nat} {xs:List Value} (h:w.ownsRow B T s (.slice (some ⟨g,0,none⟩) n c) n xs):n≤c:=by
 rcases h.2 with ⟨e,_⟩ | ⟨g',c',cur,e,_,_,h1,_⟩
 ·cases e
 ·cases e;exact h1
theorem own_form {w:World} {B n:Nat} {T:TypeId} {s:Nat} {v:Value} {xs:List Value} (h:w.ownsRow B T s v n xs) (hn:0<n):∃ g c,v=.slice (some ⟨g,0,none⟩) n c:=by
 rcases h.2 with ⟨_,e⟩ | ⟨g,c,_,e,_⟩
 ·omega
 ·exact ⟨g,c,e⟩
theorem own_capm {w:World} {B g c n:Nat} {T:TypeId} {s:Nat} {xs:List Value} (h:w.ownsRow B T s (.slice (some ⟨g,0,none⟩) n c) n xs):c≤9223372036854775807:=by
 rcases h.2 with ⟨e,_⟩ | ⟨g',c',cur,e,_,_,_,h1,_⟩
 ·cases e
 ·cases e;exact h1
theorem hide {p:Prop} (h:p):Hid p:=h
theorem drews_add (w:World) (a b:Nat):(w.drewN a).drewN b=w.drewN (a+b):=by simp [World.drewN,Nat.add_assoc]
/-- What was owned stays so, where all old blocks stay. -/
theorem own_past {w w':World} {B:Nat} {T:TypeId} {s:Nat} {v:Value} {n:Nat} {xs:List Value} (h:w.ownsRow B T s v n xs) (hb:Below w.heap.size w w'):w'.ownsRow B T s v n xs:=by
 refine ⟨h.1,?_⟩
 rcases h.2 with h | ⟨g,cap,cur,e,h1,h2,h3⟩
 ·exact .inl h
 ·exact .inr ⟨g,cap,cur,e,h1,by rw [hb.block g (Array.getElem?_eq_some_iff.1 h2).1];exact h2,h3⟩
/-- A value that owns a row is a slice of its length. -/
theorem own_any {w:World} {B n:Nat} {T:TypeId} {s:Nat} {v:Value} {xs:List Value} (h:w.ownsRow B T s v n xs):∃ ao c,v=.slice ao n c:=by
 rcases h.2 with ⟨e,e2⟩ | ⟨g,c,_,e,_⟩
 ·subst e2;exact ⟨_,_,e⟩
 ·exact ⟨_,_,e⟩
theorem bel_drews {B:Nat} {a w:World} (h:Below B a w) (n:Nat):Below B a (w.drewN n):=h.trans ⟨rfl,rfl,rfl,Nat.le_refl _,fun _ _=>rfl⟩
theorem grown_one (w:World) (g o:Nat) (u:Value):w.grownBy (w.setCell ⟨g,o,none⟩ u) (some g):=
 ⟨rfl,rfl,rfl,by simp [World.setCell],fun k hk hne=>Below.heap_setCell _ _ _ _ (fun e=>hne (by rw [e]))⟩
end Go.Proofs.YthpilcoklapooaaGreatDoor
/-
 Bins in memory, and what the exact laws do with sketches: their size, a copy, comparing them.
-/
namespace Go.Proofs.YthpilcoklapooaaGreatDoor
set_option linter.unusedVariables false
set_option linter.unusedSimpArgs false
open Go.ChangeShapes Go.WideShapes Go.ChangeAt Go.RowKit Go.PlainAid Go.Lib
set_option maxRecDepth 10000
/-- A bin: its place and its weight. -/
abbrev Bn:=Int×Int
def encB (x:Bn):List Value:=[.int .i64 x.1,.int .u64 x.2]
theorem encB2 (x:Bn):(encB x).length=2:=rfl
theorem encB_one (m:Bn):∀ u∈encB m,u.oneCell'=true:=fun u hu=>by simp [encB] at hu;rcases hu with rfl | rfl <;> rfl
theorem fl_oneB (R:List Bn):∀ u∈fl encB R,u.oneCell'=true:=fun u hu=>by
 obtain ⟨m,_,h⟩:=List.mem_flatMap.1 hu
 exact encB_one m u h
def BnOk (x:Bn):Prop:=I64 x.1∧U64 x.2
/-- A slice of bins that lies in memory. -/
def BinsAt (w:World) (ao:Option Addr) (L:List Bn):Prop:=
 0<L.length→∃ b off,ao=some ⟨b,off,none⟩∧∀ i x,L[i]?=some x→w.cell? ⟨b,off+i*2,none⟩=some (.int .i64 x.1)∧w.cell? ⟨b,off+i*2+1,none⟩=some (.int .u64 x.2)
theorem bins_past {w w':World} {ao:Option Addr} {L:List Bn} (h:BinsAt w ao L) (hb:Below w.heap.size w w'):BinsAt w' ao L:=fun h0=>by
 obtain ⟨b,off,e,hc⟩:=h h0
 exact ⟨b,off,e,fun i x hx=>⟨cell_past hb (hc i x hx).1,cell_past hb (hc i x hx).2⟩⟩
theorem bin_cells {w:World} {B g c n:Nat} {T:TypeId} {L:List Bn} {k:Nat} {x:Bn} (h:w.ownsRow B T 2 (.slice (some ⟨g,0,none⟩) n c) n (fl encB L)) (hn:n=L.length) (hk:L[k]?=some x) :
  w.cell? ⟨g,k*2,none⟩=some (.int .i64 x.1)∧w.cell? ⟨g,k*2+1,none⟩=some (.int .u64 x.2):=by
 have hkl:=(List.getElem?_eq_some_iff.1 hk).1
 have h0:=fl_at encB2 L k x 0 (by omega) hk
 have h1:=fl_at encB2 L k x 1 (by omega) hk
 rw [Nat.add_zero] at h0
 exact ⟨by rw [h.cellAt (k*2) (by omega),h0];rfl,by rw [h.cellAt (k*2+1) (by omega),h1];rfl⟩
theorem bins_owned {w:World} {B n:Nat} {T:TypeId} {v:Value} {ao:Option Addr} {c:Nat} {L:List Bn} (h:w.ownsRow B T 2 v n (fl encB L)) (hn:n=L.length) (e:v=.slice ao n c):BinsAt w ao L:=fun h0=>by
 obtain ⟨g,c',e'⟩:=own_form h (by omega)
 rw [e'] at e h
 cases e
 exact ⟨g,0,rfl,fun i x hx=>by have:=bin_cells h hn hx;rw [Nat.zero_add];exact this⟩
/-- A bin whose place in the row is known. -/
theorem own_bin {w:World} {B n:Nat} {T:TypeId} {v:Value} {R:List Bn} {k:Nat} {x:Bn} (h:w.ownsRow B T 2 v n (fl encB R)) (hn:n=R.length) (hk:R[k]?=some x) :
  ∃ g c,v=.slice (some ⟨g,0,none⟩) n c∧w.cell? ⟨g,k*2,none⟩=some (.int .i64 x.1)∧w.cell? ⟨g,k*2+1,none⟩=some (.int .u64 x.2)∧w.frozen? ⟨g,k*2,none⟩=false∧w.frozen? ⟨g,k*2+1,none⟩=false∧g<w.heap.size:=by
 have hkl:=(List.getElem?_eq_some_iff.1 hk).1
 obtain ⟨g,c,rfl⟩:=own_form h (by omega)
 obtain ⟨h0,h1⟩:=bin_cells h hn hk
 exact ⟨g,c,rfl,h0,h1,h.frozenAt _,h.frozenAt _,World.block_lt_of_cell? _ _ h0⟩
/-- Filled up to k, zeros behind. -/
def fillB (L:List Bn) (k:Nat):List Bn:=L.take k ++ List.replicate (L.length - k) (0,0)
theorem infoBin:(Tryz.prog.info? 188).map (fun i=>(i.zero,i.size,i.bytes))=some (some (.agg #[.int .i64 0,.int .u64 0]),2,16):=by kernel_rfl
/-
 Rows that a world owns: their bound, their place; the middle one of three new blocks. Of no program.
-/
theorem own_le {w:World} {B B' size n:Nat} {e:TypeId} {v:Value} {xs:List Value} (h:w.ownsRow B e size v n xs) (hb:B'≤B):w.ownsRow B' e size v n xs:=by
 refine ⟨h.1,?_⟩
 rcases h.2 with h | ⟨g,cap,cur,e,h1,h2⟩
 ·exact .inl h
 ·exact .inr ⟨g,cap,cur,e,Nat.le_trans hb h1,h2⟩
theorem own_lt {w:World} {B g c n:Nat} {T:TypeId} {s:Nat} {xs:List Value} (h:w.ownsRow B T s (.slice (some ⟨g,0,none⟩) n c) n xs):B≤g∧g<w.heap.size:=by
 rcases h.2 with ⟨e,_⟩ | ⟨g',c',cur,e,h1,h2,_⟩
 ·cases e
 ·cases e;exact ⟨h1,(Array.getElem?_eq_some_iff.1 h2).1⟩
theorem mid_row (w:World) (o1 o3:Obj) (cs:Array Value) (t:TypeId):(((w.alloc o1).alloc (.cells cs t)).alloc o3).heap[w.heap.size+1]?=some (.cells cs t (0,0)):=by
 have h:=heap_alloc_new (w.alloc o1) (.cells cs t)
 have hb:Below (w.heap.size+1+1) ((w.alloc o1).alloc (.cells cs t)) (((w.alloc o1).alloc (.cells cs t)).alloc o3):=(Below.refl _ _).alloc (by simp) _
 rw [hb.block (w.heap.size+1) (by omega)]
 simpa using h
end Go.Proofs.YthpilcoklapooaaGreatDoor
/-
 The law of a call of math/bits.Add64, which the model stands in for.
-/
namespace Go.Proofs.YthpilcoklapooaaGreatDoor
open Go.ChangeShapes Go.WideShapes Go.ChangeAt Go.RowKit
theorem c_Add64 (x y c:Int) (hx:0≤x) (hy:0≤y) (hc0:0≤c) (hc:c≤1) (w:World) :
  (callFunc 124 #[.int .u64 x,.int .u64 y,.int .u64 c]).run Tryz.prog w =
   .ok (.value (.tuple #[.int .u64 (uw (x+y+c)),.int .u64 (addC x (y+c))])) w:=by
 rw [run_callFunc_extern Tryz.func124 (by kernel_rfl) (by kernel_rfl) (by kernel_rfl) (e:=add64Entry) (by kernel_rfl),run_add64 x y c hx hy hc0 hc]
 simp only [Result.andThen]
 unfold uw addC;rw [← Int.add_assoc]
/-
 Contracts of the functions on wide numbers, of the program and of its model: what each returns; nothing that was there has turned.
-/
theorem c_s_WideAdd (a b c d:Int) (w:World) (hb:U64 b) (hd:U64 d) :
  Calls Tryz.prog 131 #[.agg #[.int .i64 a,.int .u64 b],.agg #[.int .i64 c,.int .u64 d]] w fun e w'=>e=.returned (.agg #[.int .i64 (addH a b c d),.int .u64 (addL b d)])∧Below w.heap.size w w':=by
 have Hb:Hid (U64 b):=hb
 have Hd:Hid (U64 d):=hd
 clear hb hd
 go_enter Tryz.func131,Tryz.ntmps131
 go_wp2
 ·refine bodyPost_ret (v:=.agg #[.int .i64 (wrap64 (IntKind.u64.wrap (IntKind.u64.wrap (IntKind.u64.wrap a+IntKind.u64.wrap c)+1))),.int .u64 (IntKind.u64.wrap (b+d))]) (by simp [results,Tryz.results131,go_sem]) rfl ⟨ret_wide ?_ ?_,(((Below.refl _ _).alloc (Nat.le_refl _) _).alloc (by simp) _).alloc (by simp;omega) _⟩
  ·have hlt:=‹IntKind.u64.wrap (b+d)<b›
   have hb:=Hb.out;have hd:=Hd.out
   simp only [IntKind.wrap_u64] at hlt ⊢
   unfold U64 at hb hd;unfold addH addC wrap64;omega
  ·rw [IntKind.wrap_u64];rfl
 ·refine bodyPost_ret (v:=.agg #[.int .i64 (wrap64 (IntKind.u64.wrap (IntKind.u64.wrap a+IntKind.u64.wrap c))),.int .u64 (IntKind.u64.wrap (b+d))]) (by simp [results,Tryz.results131,go_sem]) rfl ⟨ret_wide ?_ ?_,(((Below.refl _ _).alloc (Nat.le_refl _) _).alloc (by simp) _).alloc (by simp;omega) _⟩
  ·have hlt:=‹b≤IntKind.u64.wrap (b+d)›
   have hb:=Hb.out;have hd:=Hd.out
   simp only [IntKind.wrap_u64] at hlt ⊢
   unfold U64 at hb hd;unfold addH addC wrap64;omega
  ·rw [IntKind.wrap_u64];rfl
theorem c_i_WideAdd (a b c d:Int) (w:World) (hb:U64 b) (hd:U64 d) :
  Calls Tryz.prog 295 #[.agg #[.int .i64 a,.int .u64 b],.agg #[.int .i64 c,.int .u64 d]] w fun e w'=>e=.returned (.agg #[.int .i64 (addH a b c d),.int .u64 (addL b d)])∧Below w.heap.size w w':=by
 have a1:=uw_in a
 have a2:=uw_in c
 have ec:addC b d=addC b (d+0):=by simp
 have hc:0≤addC b d∧addC b d≤1:=by unfold U64 at hb hd;unfold addC;omega
 have k1:=fun w=>c_Add64 b d 0 hb.1 hd.1 (by omega) (by omega) w
 have k2:=fun w=>c_Add64 (uw a) (uw c) (addC b d) a1.1 a2.1 hc.1 hc.2 w
 have e1:IntKind.u64.wrap a=uw a:=IntKind.wrap_u64 a
 have e2:IntKind.u64.wrap c=uw c:=IntKind.wrap_u64 c
 have HF:Hid (wrap64 (uw (uw a+uw c+addC b d))=addH a b c d∧uw (b+d)=addL b d):=⟨by unfold addH wrap64 uw;omega,rfl⟩
 clear hb hd a1 a2 ec hc
 go_enter Tryz.func295,Tryz.ntmps295
 go_wp2
 exact bodyPost_ret (v:=.agg #[.int .i64 (wrap64 (uw (uw a+uw c+addC b d))),.int .u64 (uw (b+d))]) (by simp [results,Tryz.results295,go_sem]) rfl ⟨ret_wide HF.out.1 HF.out.2,(((Below.refl _ _).alloc (Nat.le_refl _) _).alloc (by simp) _).alloc (by simp;omega) _⟩
end Go.Proofs.YthpilcoklapooaaGreatDoor
/-
 A sketch copied and compared, as the exact laws do.
-/
namespace Go.Proofs.YthpilcoklapooaaGreatDoor
set_option linter.unusedVariables false
set_option linter.unusedSimpArgs false
open Go.ChangeShapes Go.WideShapes Go.ChangeAt Go.RowKit Go.PlainAid Go.Lib
set_option maxRecDepth 10000
/-- A sketch's five cells in a block of its own. -/
abbrev SkCell (w:World) (g:Nat) (z:Int) (p n:Value) (h l:Int):Prop:=w.cell? ⟨g,0,none⟩=some (.int .u64 z)∧w.cell? ⟨g,1,none⟩=some p∧w.cell? ⟨g,2,none⟩=some n∧w.cell? ⟨g,3,none⟩=some (.int .i64 h)∧w.cell? ⟨g,4,none⟩=some (.int .u64 l)
theorem sk_past {w w':World} {g:Nat} {z h l:Int} {p n:Value} (k:SkCell w g z p n h l) (hb:Below w.heap.size w w'):SkCell w' g z p n h l:=
 ⟨cell_past hb k.1,cell_past hb k.2.1,cell_past hb k.2.2.1,cell_past hb k.2.2.2.1,cell_past hb k.2.2.2.2⟩
theorem sk_new (w:World) (t:TypeId) (z h l:Int) (p n:Value):SkCell (w.alloc (.cells #[.int .u64 z,p,n,.int .i64 h,.int .u64 l] t)) w.heap.size z p n h l:=by
 have hb:=heap_alloc_new w (.cells #[.int .u64 z,p,n,.int .i64 h,.int .u64 l] t)
 exact ⟨by rw [cell_of_row _ w.heap.size 0 _ _ (0,0) hb];rfl,by rw [cell_of_row _ w.heap.size 1 _ _ (0,0) hb];rfl,by rw [cell_of_row _ w.heap.size 2 _ _ (0,0) hb];rfl,by rw [cell_of_row _ w.heap.size 3 _ _ (0,0) hb];rfl,by rw [cell_of_row _ w.heap.size 4 _ _ (0,0) hb];rfl⟩
end Go.Proofs.YthpilcoklapooaaGreatDoor
