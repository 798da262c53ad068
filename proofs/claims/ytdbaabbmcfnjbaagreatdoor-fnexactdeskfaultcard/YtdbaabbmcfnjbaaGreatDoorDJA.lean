/-
 Parts.
-/
import Derived.WalkKit
import Derived.ProofKit
import Derived.OpenShut
import Derived.Below
import Derived.WalkSpells
import Derived.Carry
import Derived.Deep.RegionHeld3
import Derived.PlainAid
import Derived.Outline
import Derived.WalkSmall
import Derived.OwnWalk
import Derived.BigQuiet
import Derived.Deep.QuietTactic
import Derived.Test.YtdbaabbmcfnjbaaGreatDoorProg
import Derived.KernelRfl
import Derived.Laws.Externs
set_option maxRecDepth 10000
set_option linter.all false
namespace Go.Proofs.YtdbaabbmcfnjbaaGreatDoor
open Go.ChangeShapes Go.WideShapes Go.ChangeAt Go.RowKit Go.Lib Go.PlainAid Tryz
def uw (n:Int):Int:=n % 18446744073709551616
def addC (b d:Int):Int:=(b+d) / 18446744073709551616
def Qbg (a b c d:Int):Int:=wrap64 (a+c+addC b d)
def Qbl (b d:Int):Int:=uw (b+d)
def ofH (n:Int):Int:=n / 9223372036854775808
def U64 (n:Int):Prop:=0<=n/\n<=18446744073709551615
def I64 (n:Int):Prop:=-9223372036854775808<=n/\n<=9223372036854775807
theorem Qi4 (n:Int):U64 (uw n):=by unfold U64 uw;omega
theorem Qir (n:Int):I64 (wrap64 n):=by unfold I64 wrap64;omega
theorem w64_id {n:Int} (h:I64 n):wrap64 n=n:=by unfold I64 at h;unfold wrap64;omega
theorem QhJ {a b c d:Int} (h:a=c) (k:b=d):Ending.returned (.agg #[.int .i64 a,.int .u64 b])=.returned (.agg #[.int .i64 c,.int .u64 d]):=by rw [h,k]
variable {W w w' w1 w2:World}
variable {B K c g n s:Nat}
theorem Qos (hb:Below K W w1):(∀ b o,b<K->w1.cell? ⟨b,o,none⟩=W.cell? ⟨b,o,none⟩)/\(∀ b o,b<K->w1.frozen? ⟨b,o,none⟩=W.frozen? ⟨b,o,none⟩):=
 ⟨fun b o h=>hb.cell (p:=⟨b,o,none⟩) h,fun b o h=>hb.frozen (p:=⟨b,o,none⟩) h⟩
variable {a:Addr}
variable {v:Value}
theorem Qf8 (h:w.cell? a=some v):∀ o,(w.alloc o).cell? a=some v:=fun o=>by rw [World.cell?_alloc_some w a o (by rw [h];rfl)];exact h
theorem Qab (hb:Below W.heap.size W w1) (h:W.cell? a=some v):w1.cell? a=some v:=by
 rw [hb.cell (World.block_lt_of_cell? W a h)];exact h
theorem QfN (hb:Below W.heap.size W w1) (h:W.cell? a=some v):w1.frozen? a=W.frozen? a:=hb.frozen (World.block_lt_of_cell? W a h)
theorem Qac {P:World} (hT:Below P.heap.size P w1) (hb:Below w1.heap.size w1 w2):Below P.heap.size P w2:=hT.trans (hb.mono hT.size)
theorem held (h:Below K W w1) (hk:K<=W.heap.size):Below K W w1/\K<=w1.heap.size/\(∀ b o,b<K->w1.cell? ⟨b,o,none⟩=W.cell? ⟨b,o,none⟩)/\(∀ b o,b<K->w1.frozen? ⟨b,o,none⟩=W.frozen? ⟨b,o,none⟩):=
 ⟨h,Nat.le_trans hk h.size,(Qos h).1,(Qos h).2⟩
theorem Qc8 (hb:Below w1.heap.size w1 w2) (h:Below K W w1/\K<=w1.heap.size/\(∀ b o,b<K->w1.cell? ⟨b,o,none⟩=W.cell? ⟨b,o,none⟩)/\(∀ b o,b<K->w1.frozen? ⟨b,o,none⟩=W.frozen? ⟨b,o,none⟩)) :
  Below K W w2/\K<=w2.heap.size:=⟨h.1.trans (hb.mono h.2.1),Nat.le_trans h.2.1 hb.size⟩
abbrev QqP (K:Nat) (W w1:World):Prop:=Below K W w1/\K<=w1.heap.size/\(∀ b o,b<K->w1.cell? ⟨b,o,none⟩=W.cell? ⟨b,o,none⟩)/\(∀ b o,b<K->w1.frozen? ⟨b,o,none⟩=W.frozen? ⟨b,o,none⟩)
def fl {α:Type} (e:α->List Value) (xs:List α):List Value:=xs.flatMap e
variable {α:Type}
theorem QdK (e:α->List Value) (xs ys:List α):fl e (xs ++ ys)=fl e xs ++ fl e ys:=by simp [fl]
theorem QlC (e:α->List Value) (x:α):fl e [x]=e x:=by simp [fl]
theorem QbS (e:α->List Value) (x:α) (xs:List α):fl e (x :: xs)=e x ++ fl e xs:=by simp [fl]
theorem QbH {α:Type} {e:α->List Value} (he:∀ x,(e x).length=2):∀ xs:List α,(fl e xs).length=xs.length*2
 | []=>rfl
 | x :: xs=>by rw [QbS,List.length_append,he,QbH he xs,List.length_cons];omega
theorem Qel {α:Type} {e:α->List Value} (he:∀ x,(e x).length=2):∀ (xs:List α) (i:Nat) (x:α) (c:Nat),c<2->xs[i]?=some x->(fl e xs)[i*2+c]?=(e x)[c]?
 | [],i,x,c,hc,h=>by simp at h
 | y :: xs,0,x,c,hc,h=>by
  obtain rfl:y=x:=by simpa using h
  rw [QbS,List.getElem?_append_left (by rw [he];omega),Nat.zero_mul,Nat.zero_add]
 | y :: xs,i+1,x,c,hc,h=>by
  rw [QbS,List.getElem?_append_right (by rw [he];omega),he,show (i+1)*2+c - 2=i*2+c by omega];exact Qel he xs i x c hc (by simpa using h)
theorem Qsk {α:Type} {e:α->List Value} (he:∀ x,(e x).length=2) {u v:Value}:∀ (xs:List α) (i:Nat) (y:α),i<xs.length->e y=[u,v]->((fl e xs).set (i*2) u).set (i*2+1) v=fl e (xs.set i y)
 | [],i,y,h,_=>by simp at h
 | x :: xs,0,y,h,hy=>by
  have hx:=he x
  match hq:e x,hx with
  | [a,b],_=>rw [QbS,hq,List.set_cons_zero,QbS,hy];rfl
 | x :: xs,i+1,y,h,hy=>by
  have h':i<xs.length:=by simpa using h
  rw [QbS,List.set_cons_succ,QbS,<- Qsk he xs i y h' hy];rw [List.set_append_right _ _ (by rw [he];omega),he,List.set_append_right _ _ (by rw [he];omega),he,show (i+1)*2 - 2=i*2 by omega,show (i+1)*2+1 - 2=i*2+1 by omega]
variable {T:TypeId}
variable {xs:List Value}
theorem Qp5 {n':Nat} {xs':List Value} (h:w.ownsRow B T 2 v n xs) (e:n=n') (e2:xs=xs'):w.ownsRow B T 2 v n' xs':=by subst e e2;exact h
theorem Qav {cs:Array Value} {t:TypeId} (hg:W.heap.size=g) (j:Nat) (u:Value) (hj:cs.toList[j]?=some u):(W.alloc (.cells cs t)).cell? ((⟨g,0,none⟩:Addr).add j)=some u:=by
 subst hg;have hb:(W.alloc (.cells cs t)).heap[W.heap.size]?=some (.cells cs t (0,0)):=heap_alloc_new W _;rw [Addr.add_lit,Nat.zero_add,cell_of_row _ W.heap.size j _ _ (0,0) hb]
 simpa using hj
theorem Qkb (h:w.ownsRow B T s (.slice (some ⟨g,0,none⟩) n c) n xs):n<=c:=by
 rcases h.2 with ⟨e,_⟩ | ⟨g',c',aa,e,_,_,h1,_⟩
 ·cases e
 ·cases e;exact h1
theorem Qhq (h:w.ownsRow B T s v n xs) (hn:0<n):∃ g c,v=.slice (some ⟨g,0,none⟩) n c:=by
 rcases h.2 with ⟨_,e⟩ | ⟨g,c,_,e,_⟩
 ·omega
 ·exact ⟨g,c,e⟩
theorem Qhl (h:w.ownsRow B T s (.slice (some ⟨g,0,none⟩) n c) n xs):c<=9223372036854775807:=by
 rcases h.2 with ⟨e,_⟩ | ⟨g',c',aa,e,_,_,_,h1,_⟩
 ·cases e
 ·cases e;exact h1
theorem Qaa {p:Prop} (h:p):Hid p:=h
theorem Qdi (w:World) (a b:Nat):(w.drewN a).drewN b=w.drewN (a+b):=by simp [World.drewN,Nat.add_assoc]
theorem Qat (h:w.ownsRow B T s v n xs) (hb:Below w.heap.size w w'):w'.ownsRow B T s v n xs:=by
 refine ⟨h.1,?_⟩;rcases h.2 with h | ⟨g,ab,aa,e,h1,h2,h3⟩
 ·exact .inl h
 ·exact .inr ⟨g,ab,aa,e,h1,by rw [hb.block g (Array.getElem?_eq_some_iff.1 h2).1];exact h2,h3⟩
theorem Qag (h:w.ownsRow B T s v n xs):∃ ao c,v=.slice ao n c:=by
 rcases h.2 with ⟨e,e2⟩ | ⟨g,c,_,e,_⟩
 ·subst e2;exact ⟨_,_,e⟩
 ·exact ⟨_,_,e⟩
theorem Qar {a:World} (h:Below B a w) (n:Nat):Below B a (w.drewN n):=h.trans ⟨rfl,rfl,rfl,Nat.le_refl _,fun _ _=>rfl⟩
theorem Qal (w:World) (g o:Nat) (u:Value):w.grownBy (w.setCell ⟨g,o,none⟩ u) (some g):=
 ⟨rfl,rfl,rfl,by simp [World.setCell],fun k hk hne=>Below.heap_setCell _ _ _ _ (fun e=>hne (by rw [e]))⟩
abbrev Bn:=Int×Int
def Qc2 (x:Bn):List Value:=[.int .i64 x.1,.int .u64 x.2]
theorem QeX (x:Bn):(Qc2 x).length=2:=rfl
theorem Qdv (m:Bn):∀ u∈Qc2 m,u.oneCell'=true:=fun u hu=>by simp [Qc2] at hu;rcases hu with rfl | rfl <;> rfl
theorem QhS (R:List Bn):∀ u∈fl Qc2 R,u.oneCell'=true:=fun u hu=>by
 obtain ⟨m,_,h⟩:=List.mem_flatMap.1 hu;exact Qdv m u h
def Qbw (x:Bn):Prop:=I64 x.1/\U64 x.2
def QaJ (w:World) (ao:Option Addr) (L:List Bn):Prop:=
 0<L.length->∃ b off,ao=some ⟨b,off,none⟩/\∀ i x,L[i]?=some x->w.cell? ⟨b,off+i*2,none⟩=some (.int .i64 x.1)/\w.cell? ⟨b,off+i*2+1,none⟩=some (.int .u64 x.2)
variable {L:List Bn}
theorem Qak {ao:Option Addr} (h:QaJ w ao L) (hb:Below w.heap.size w w'):QaJ w' ao L:=fun h0=>by
 obtain ⟨b,off,e,hc⟩:=h h0;exact ⟨b,off,e,fun i x hx=>⟨Qab hb (hc i x hx).1,Qab hb (hc i x hx).2⟩⟩
theorem Qi9 {k:Nat} {x:Bn} (h:w.ownsRow B T 2 (.slice (some ⟨g,0,none⟩) n c) n (fl Qc2 L)) (hn:n=L.length) (hk:L[k]?=some x) :
  w.cell? ⟨g,k*2,none⟩=some (.int .i64 x.1)/\w.cell? ⟨g,k*2+1,none⟩=some (.int .u64 x.2):=by
 have aa:=(List.getElem?_eq_some_iff.1 hk).1;have h0:=Qel QeX L k x 0 (by omega) hk;have h1:=Qel QeX L k x 1 (by omega) hk;rw [Nat.add_zero] at h0;exact ⟨by rw [h.cellAt (k*2) (by omega),h0];rfl,by rw [h.cellAt (k*2+1) (by omega),h1];rfl⟩
def fillB (L:List Bn) (k:Nat):List Bn:=L.take k ++ List.replicate (L.length - k) (0,0)
theorem QpD:(prog.info? 176).map (fun i=>(i.zero,i.size,i.bytes))=some (some (.agg #[.int .i64 0,.int .u64 0]),2,16):=by kernel_rfl
theorem Qa1 {B' size:Nat} {e:TypeId} (h:w.ownsRow B e size v n xs) (hb:B'<=B):w.ownsRow B' e size v n xs:=by
 refine ⟨h.1,?_⟩;rcases h.2 with h | ⟨g,ab,aa,e,h1,h2⟩
 ·exact .inl h
 ·exact .inr ⟨g,ab,aa,e,Nat.le_trans hb h1,h2⟩
theorem Qsi (h:w.ownsRow B T s (.slice (some ⟨g,0,none⟩) n c) n xs):B<=g/\g<w.heap.size:=by
 rcases h.2 with ⟨e,_⟩ | ⟨g',c',aa,e,h1,h2,_⟩
 ·cases e
 ·cases e;exact ⟨h1,(Array.getElem?_eq_some_iff.1 h2).1⟩
theorem Qoi (w:World) (o1 o3:Obj) (cs:Array Value) (t:TypeId):(((w.alloc o1).alloc (.cells cs t)).alloc o3).heap[w.heap.size+1]?=some (.cells cs t (0,0)):=by
 have h:=heap_alloc_new (w.alloc o1) (.cells cs t);have hb:Below (w.heap.size+1+1) ((w.alloc o1).alloc (.cells cs t)) (((w.alloc o1).alloc (.cells cs t)).alloc o3):=(Below.refl _ _).alloc (by simp) _;rw [hb.block (w.heap.size+1) (by omega)]
 simpa using h
theorem Qbs (a b c d:Int) (w:World) (hb:U64 b) (hd:U64 d) :
  Calls prog 120 #[.agg #[.int .i64 a,.int .u64 b],.agg #[.int .i64 c,.int .u64 d]] w fun e w'=>e=.returned (.agg #[.int .i64 (Qbg a b c d),.int .u64 (Qbl b d)])/\Below w.heap.size w w':=by
 have Hb:Hid (U64 b):=hb;have Hd:Hid (U64 d):=hd;clear hb hd;go_enter func120,ntmps120;go_wp2
 ·refine bodyPost_ret (v:=.agg #[.int .i64 (wrap64 (IntKind.u64.wrap (IntKind.u64.wrap (IntKind.u64.wrap a+IntKind.u64.wrap c)+1))),.int .u64 (IntKind.u64.wrap (b+d))]) (by simp [results,results120,go_sem]) rfl ⟨QhJ ?_ ?_,(((Below.refl _ _).alloc (Nat.le_refl _) _).alloc (by simp) _).alloc (by simp;omega) _⟩
  ·have aa:=‹IntKind.u64.wrap (b+d)<b›
   have hb:=Hb.out;have hd:=Hd.out;simp only [IntKind.wrap_u64] at aa ⊢;unfold U64 at hb hd;unfold Qbg addC wrap64;omega
  ·rw [IntKind.wrap_u64];rfl
 ·refine bodyPost_ret (v:=.agg #[.int .i64 (wrap64 (IntKind.u64.wrap (IntKind.u64.wrap a+IntKind.u64.wrap c))),.int .u64 (IntKind.u64.wrap (b+d))]) (by simp [results,results120,go_sem]) rfl ⟨QhJ ?_ ?_,(((Below.refl _ _).alloc (Nat.le_refl _) _).alloc (by simp) _).alloc (by simp;omega) _⟩
  ·have aa:=‹b<=IntKind.u64.wrap (b+d)›
   have hb:=Hb.out;have hd:=Hd.out;simp only [IntKind.wrap_u64] at aa ⊢;unfold U64 at hb hd;unfold Qbg addC wrap64;omega
  ·rw [IntKind.wrap_u64];rfl
abbrev Qcg (w:World) (g:Nat) (z:Int) (p n:Value) (h l:Int):Prop:=w.cell? ⟨g,0,none⟩=some (.int .u64 z)/\w.cell? ⟨g,1,none⟩=some p/\w.cell? ⟨g,2,none⟩=some n/\w.cell? ⟨g,3,none⟩=some (.int .i64 h)/\w.cell? ⟨g,4,none⟩=some (.int .u64 l)
theorem Qca {z h l:Int} {p n:Value} (k:Qcg w g z p n h l) (hb:Below w.heap.size w w'):Qcg w' g z p n h l:=
 ⟨Qab hb k.1,Qab hb k.2.1,Qab hb k.2.2.1,Qab hb k.2.2.2.1,Qab hb k.2.2.2.2⟩
theorem Qg1 (w:World) (t:TypeId) (z h l:Int) (p n:Value):Qcg (w.alloc (.cells #[.int .u64 z,p,n,.int .i64 h,.int .u64 l] t)) w.heap.size z p n h l:=by
 have hb:=heap_alloc_new w (.cells #[.int .u64 z,p,n,.int .i64 h,.int .u64 l] t);exact ⟨by rw [cell_of_row _ w.heap.size 0 _ _ (0,0) hb];rfl,by rw [cell_of_row _ w.heap.size 1 _ _ (0,0) hb];rfl,by rw [cell_of_row _ w.heap.size 2 _ _ (0,0) hb];rfl,by rw [cell_of_row _ w.heap.size 3 _ _ (0,0) hb];rfl,by rw [cell_of_row _ w.heap.size 4 _ _ (0,0) hb];rfl⟩
end Go.Proofs.YtdbaabbmcfnjbaaGreatDoor
