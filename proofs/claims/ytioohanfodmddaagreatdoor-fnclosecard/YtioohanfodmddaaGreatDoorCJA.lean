/-
 Parts.
-/
import Derived.WalkKit
import Derived.ProofKit
import Derived.OpenShut
import Derived.Below
import Derived.WalkSpells
import Derived.Carry
import Derived.Deep.RegionHeld3
import Derived.PlainAid
import Derived.Outline
import Derived.WalkSmall
import Derived.OwnWalk
import Derived.BigQuiet
import Derived.Deep.QuietTactic
import Derived.Test.YtioohanfodmddaaGreatDoorProg
import Derived.KernelRfl
import Derived.Laws.Externs
set_option maxRecDepth 10000
set_option linter.all false
namespace Go.Proofs.YtioohanfodmddaaGreatDoor
open Go.ChangeShapes Go.WideShapes Go.ChangeAt Go.RowKit Go.Lib Go.PlainAid Tryz
theorem mC4 {p:Prop} (h:p:=by
 refine ⟨h.1,?_⟩;rcases h.2 with h | ⟨g,aa,ab,e,h1,h2⟩
 ·exact .inl h
 ·exact .inr ⟨g,aa,ab,e,Nat.le_trans hb h1,h2⟩):p:=h
theorem mDd {p:Prop} (h:p:=by have hb:=Hb.out;have hd:=Hd.out;simp only [IntKind.wrap_u64] at aa ⊢;unfold U64 at hb hd;unfold QeV addC wrap64;omega):p:=h
theorem mD2 {p:Prop} (h:p:=by
 rw [Addr.add_lit,Nat.zero_add,cell_of_row _ W.heap.size j _ _ (0,0) hb]
 simpa using hj):p:=h
theorem oA {a p:Prop} (x:a) (h:a->p:=by intro _;omega):p:=h x
theorem oB {p:Prop} (h:p:=by omega):p:=h
theorem oC {p:Prop} (h:p:=by unfold maxLen;omega):p:=h
theorem oE {p:Prop} (h:p:=by simp):p:=h
theorem oF {p:Prop} (h:p:=by decide):p:=h
theorem oG {p:Prop} (h:p:=by kernel_rfl):p:=h
theorem oH {p:Prop} (h:p:=by simp;omega):p:=h
theorem oI {p:Prop} (h:p:=by simp;have:=B1.size;omega):p:=h
theorem oJ {p:Prop} (h:p:=by simp <;> omega):p:=h
theorem oK {p:Prop} (h:p:=by rw [yA,List.length_take];have:=HN.out;omega):p:=h
theorem oM {p:Prop} (h:p:=by first | exact QaY _ | exact fun u hu=>absurd hu List.not_mem_nil):p:=h
theorem oN {p:Prop} (h:p:=by simp;have:=HB.size;omega):p:=h
theorem oO {p:Prop} (h:p:=by unfold I64;omega):p:=h
theorem oP {p:Prop} (h:p:=by rw [ByteArray.toList_eq,ByteArray.toList_eq] at e;exact ByteArray.ext (Array.toList_inj.1 e)):p:=h
theorem oQ {p:Prop} (h:p:=by rw [Qam];exact Nat.le_refl _):p:=h
theorem oR {p:Prop} (h:p:=by rfl):p:=h
theorem oT {p:Prop} (h:p:=by rw [e];rfl):p:=h
theorem oU {p:Prop} (h:p:=by simpa using h):p:=h
theorem oV {p:Prop} (h:p:=by simp [hn]):p:=h
theorem oX {p:Prop} (h:p:=by unfold QaK;exact List.mem_flatMap.2 ⟨s,hs,hc⟩):p:=h
theorem oY {p:Prop} (h:p:=by rw [yA,List.length_drop];have:=HN.out;omega):p:=h
theorem oZ {p:Prop} (h:p:=by unfold MbR;rw [ac,if_pos (by decide)];exact ⟨rfl,rfl,rfl⟩):p:=h
theorem OA {p:Prop} (h:p:=by unfold QaF;rw [show decide (s.size<=40)=false from decide_eq_false (by omega)];simp):p:=h
theorem OB {p:Prop} (h:p:=by unfold QaF;rw [show decide (1<=s.size)=false from decide_eq_false (by omega)];rfl):p:=h
theorem OC {p:Prop} (h:p:=by first | rfl | exact QdA _ _ _):p:=h
theorem OD {p:Prop} (h:p:=by rw [<- HE.out,HZ.out,HS.out];apply ByteArray.ext;rw [ByteArray.data_append];simp):p:=h
theorem OE {p:Prop} (h:p:=by dsimp only;omega):p:=h
theorem OF {p:Prop} (h:p:=by unfold ClR;rw [if_neg (by rw [HP.out];simp),if_pos hc];exact ⟨rfl,rfl,rfl,rfl⟩):p:=h
theorem OG {p:Prop} (h:p:=by simpa using hx):p:=h
theorem OH {p:Prop} (h:p:=by rw [HF.out,HR.out,List.drop_eq_nil_of_le (by have:=HN.out;omega)];rfl):p:=h
theorem OI {p:Prop} (h:p:=by rw [Nat.add_zero,List.append_nil];exact hown):p:=h
theorem OJ {p:Prop} (h:p:=by rw [HF.out,HR.out,HD.out];simp;intro h;omega):p:=h
theorem OL {p:Prop} (h:p:=by show (({ data:=#[119] }:ByteArray) ++ u).size<=_;unfold maxLen;omega):p:=h
theorem OM {p:Prop} (h:p:=by rw [au.out,List.nil_append,List.length_append,am.out];exact ac):p:=h
theorem OO {p:Prop} (h:p:=by show (0:Nat)<=_;omega):p:=h
theorem OP {p:Prop} (h:p:=by rw [List.getElem?_take] at hx;split at hx;exact hx;cases hx):p:=h
theorem OQ {p:Prop} (h:p:=by rw [List.length_take] at h0;omega):p:=h
theorem OR {p:Prop} (h:p:=by have:=HZ.2;show (Qa7 (tl1 y) 44).length<=20001;omega):p:=h
theorem OT {p:Prop} (h:p:=by rw [<- HE.out,HZ.out,HS.out,ByteArray.append_assoc]):p:=h
theorem OU {p:Prop} (h:p:=by rw [<- Qam];show t.data.toList.length=0;rw [e];rfl):p:=h
theorem OV {p:Prop} (h:p:=by unfold ClR;rw [if_pos hp];exact ⟨rfl,rfl,rfl,rfl⟩):p:=h
theorem OY {p:Prop} (h:p:=by rw [HF.out,HR.out,HD.out];simp;intro _ h;omega):p:=h
theorem OZ {p:Prop} (h:p:=by show _<=w.heap.size+1+1;omega):p:=h
theorem xA {p:Prop} (h:p:=by rw [hl,Nat.zero_mul]):p:=h
theorem xB {p:Prop} (h:p:=by unfold QaK;exact List.mem_flatMap.2 ⟨t,q,hc⟩):p:=h
theorem xC {p:Prop} (h:p:=by simp at hl ⊢; omega):p:=h
theorem xD {p:Prop} (h:p:=by have:=HQ.n;have:=HI.n;omega):p:=h
theorem xE {p:Prop} (h:p:=by show _<=w.heap.size+1;omega):p:=h
theorem xF {p:Prop} (h:p:=by simpa using hb):p:=h
theorem xG {p:Prop} (h:p:=by rw [yA];have:=HN.out;omega):p:=h
theorem xH {p:Prop} (h:p:=by rw [he];omega):p:=h
theorem xI {p:Prop} (h:p:=by unfold Qb5;rw [HA.out,HK.out,hn,hlt];rfl):p:=h
theorem xJ {p:Prop} (h:p:=by simp [six]):p:=h
theorem xK {p:Prop} (h:p:=by rw [ae];exact List.mem_cons_of_mem _ hx):p:=h
theorem xL {p:Prop} (h:p:=by have:=(ZZd.1 hx).1;omega):p:=h
theorem xM {p:Prop} (h:p:=by have:=D.bl;have:=D.lb;have:=D.hs;omega):p:=h
theorem xN {p:Prop} (h:p:=by rw [HP.out];simp):p:=h
theorem xO {p:Prop} (h:p:=by rw [<- e];exact HA.out):p:=h
theorem xP {p:Prop} (h:p:=by rw [e]):p:=h
theorem xQ {p:Prop} (h:p:=by rw [QcD];omega):p:=h
theorem xR {p:Prop} (h:p:=by rw [LM.out];exact lN):p:=h
theorem xS {p:Prop} (h:p:=by rw [Qam];simp;omega):p:=h
theorem xT {p:Prop} (h:p:=by simp [skB,hr]):p:=h
theorem xU {p:Prop} (h:p:=by exact Nat.le_refl _):p:=h
theorem xV {p:Prop} (h:p:=by simp [isW,hw]):p:=h
theorem xW {p:Prop} (h:p:=by show a<=6878;omega):p:=h
theorem xX {p:Prop} (h:p:=by unfold rcO;rw [hp]):p:=h
theorem xY {p:Prop} (h:p:=by rw [<- ek];exact e):p:=h
theorem xZ {p:Prop} (h:p:=by show u≠0;exact q3):p:=h
theorem XA {p:Prop} (h:p:=by rw [hg];rfl):p:=h
theorem yA {α β:Type} {l:List α} (f:α->β):(l.map f).length=l.length:=List.length_map f
theorem yB (a b:Bool):((a && b)=true)=(a=true/\b=true):=Bool.and_eq_true a b
abbrev zAa:Array Value:=#[.int .i64 0,.string ⟨#[]⟩,.int .i64 0,.string ⟨#[]⟩,.int .u64 0,.bool false,.int .i64 0]
abbrev zAb:Array Value:=#[.string ⟨#[]⟩,.slice none 0 0,.slice none 0 0,.int .i64 0]
abbrev zAc:Array Value:=#[.string ⟨#[]⟩,.string ⟨#[]⟩,.string ⟨#[]⟩,.bool false,.string ⟨#[]⟩,.slice none 0 0,.bool false,.int .i64 0]
abbrev zAd:Array Value:=#[.slice none 0 0,.int .i64 0,.int .i64 0,.int .i64 0,.int .i64 0]
abbrev zAe:Array Value:=#[.string ByteArray.empty,.slice none 0 0]
abbrev zAf:Array Value:=#[.int .i64 0,.int .i64 0,.int .i64 0,.int .i64 0,.map none]
abbrev zAg:Array Value:=#[.int .i64 (-1),.int .i64 1000000000,.int .i64 1000000001]
abbrev zAh:Array Value:=#[.string ⟨#[]⟩,.bool false,.slice none 0 0,.bool false,.int .i64 0]
abbrev zAi:Array Value:=#[.int .u64 0,.string ByteArray.empty]
abbrev zAj:Array Value:=#[.string ⟨#[109]⟩,.string ⟨#[110,51]⟩,.string ⟨#[113]⟩]
abbrev zAk:Array Value:=#[.int .u64 0,.int .u64 1000000,.int .u64 1000001,.int .u64 777777]
abbrev zAl:Array Value:=#[.agg #[.int .i64 0,.int .u64 0],.bool false]
abbrev Bw (w w':World):Prop:=Below w.heap.size w w'
theorem bAA {w:World} {o:Obj}:Below w.heap.size w (w.alloc o):=(Below.refl _ _).alloc (Nat.le_refl _) _
def uw (n:Int):Int:=n % 18446744073709551616
def addC (b d:Int):Int:=(b+d) / 18446744073709551616
def QeV (a b c d:Int):Int:=wrap64 (a+c+addC b d)
def QfH (b d:Int):Int:=uw (b+d)
def ofH (n:Int):Int:=n / 9223372036854775808
def U64 (n:Int):Prop:=0<=n/\n<=18446744073709551615
def I64 (n:Int):Prop:=-9223372036854775808<=n/\n<=9223372036854775807
theorem QjN (n:Int):U64 (uw n):=by unfold U64 uw;omega
theorem Qhk (n:Int):I64 (wrap64 n):=by unfold I64 wrap64;omega
theorem w64_id {n:Int} (h:I64 n):wrap64 n=n:=by unfold I64 at h;unfold wrap64;omega
theorem QiR {a b c d:Int} (h:a=c) (k:b=d):Ending.returned (.agg #[.int .i64 a,.int .u64 b])=.returned (.agg #[.int .i64 c,.int .u64 d]):=by rw [h,k]
variable {W w w' w1 w2:World}
variable {B K c g n s:Nat}
theorem QhC (hb:Below K W w1):(∀ b o,b<K->w1.cell? ⟨b,o,none⟩=W.cell? ⟨b,o,none⟩)/\(∀ b o,b<K->w1.frozen? ⟨b,o,none⟩=W.frozen? ⟨b,o,none⟩):=
 ⟨fun b o h=>hb.cell (p:=⟨b,o,none⟩) h,fun b o h=>hb.frozen (p:=⟨b,o,none⟩) h⟩
variable {a:Addr}
variable {v:Value}
theorem QcF (h:w.cell? a=some v):∀ o,(w.alloc o).cell? a=some v:=fun o=>by rw [World.cell?_alloc_some w a o (by rw [h];rfl)];exact h
theorem Qab (hb:Bw W w1) (h:W.cell? a=some v):w1.cell? a=some v:=by
 rw [hb.cell (World.block_lt_of_cell? W a h)];exact h
theorem QbQ (hb:Bw W w1) (h:W.cell? a=some v):w1.frozen? a=W.frozen? a:=hb.frozen (World.block_lt_of_cell? W a h)
theorem Qac {P:World} (hT:Bw P w1) (hb:Bw w1 w2):Bw P w2:=hT.trans (hb.mono hT.size)
theorem held (h:Below K W w1) (hk:K<=W.heap.size):Below K W w1/\K<=w1.heap.size/\(∀ b o,b<K->w1.cell? ⟨b,o,none⟩=W.cell? ⟨b,o,none⟩)/\(∀ b o,b<K->w1.frozen? ⟨b,o,none⟩=W.frozen? ⟨b,o,none⟩):=
 ⟨h,Nat.le_trans hk h.size,(QhC h).1,(QhC h).2⟩
theorem QbL (hb:Bw w1 w2) (h:Below K W w1/\K<=w1.heap.size/\(∀ b o,b<K->w1.cell? ⟨b,o,none⟩=W.cell? ⟨b,o,none⟩)/\(∀ b o,b<K->w1.frozen? ⟨b,o,none⟩=W.frozen? ⟨b,o,none⟩)) :
  Below K W w2/\K<=w2.heap.size:=⟨h.1.trans (hb.mono h.2.1),Nat.le_trans h.2.1 hb.size⟩
abbrev Qgw (K:Nat) (W w1:World):Prop:=Below K W w1/\K<=w1.heap.size/\(∀ b o,b<K->w1.cell? ⟨b,o,none⟩=W.cell? ⟨b,o,none⟩)/\(∀ b o,b<K->w1.frozen? ⟨b,o,none⟩=W.frozen? ⟨b,o,none⟩)
def fl {α:Type} (e:α->List Value) (xs:List α):List Value:=xs.flatMap e
variable {α:Type}
theorem Qip (e:α->List Value) (xs ys:List α):fl e (xs ++ ys)=fl e xs ++ fl e ys:=by simp [fl]
theorem Qrq (e:α->List Value) (x:α):fl e [x]=e x:=by simp [fl]
theorem QcT (e:α->List Value) (x:α) (xs:List α):fl e (x :: xs)=e x ++ fl e xs:=by simp [fl]
theorem Qdn {α:Type} {e:α->List Value} (he:∀ x,(e x).length=2):∀ xs:List α,(fl e xs).length=xs.length*2
 | []=>rfl
 | x :: xs=>by rw [QcT,List.length_append,he,Qdn he xs,List.length_cons];omega
theorem Qd6 {α:Type} {e:α->List Value} (he:∀ x,(e x).length=2):∀ (xs:List α) (i:Nat) (x:α) (c:Nat),c<2->xs[i]?=some x->(fl e xs)[i*2+c]?=(e x)[c]?
 | [],i,x,c,hc,h=>by simp at h
 | y :: xs,0,x,c,hc,h=>by
  obtain rfl:y=x:=oU
  rw [QcT,List.getElem?_append_left xH,Nat.zero_mul,Nat.zero_add]
 | y :: xs,i+1,x,c,hc,h=>by
  rw [QcT,List.getElem?_append_right xH,he,show (i+1)*2+c - 2=i*2+c by omega];exact Qd6 he xs i x c hc oU
theorem Qp2 {α:Type} {e:α->List Value} (he:∀ x,(e x).length=2) {u v:Value}:∀ (xs:List α) (i:Nat) (y:α),i<xs.length->e y=[u,v]->((fl e xs).set (i*2) u).set (i*2+1) v=fl e (xs.set i y)
 | [],i,y,h,_=>by simp at h
 | x :: xs,0,y,h,hy=>by
  have hx:=he x
  match hq:e x,hx with
  | [a,b],_=>rw [QcT,hq,List.set_cons_zero,QcT,hy];rfl
 | x :: xs,i+1,y,h,hy=>by
  have h':i<xs.length:=oU
  rw [QcT,List.set_cons_succ,QcT,<- Qp2 he xs i y h' hy];rw [List.set_append_right _ _ xH,he,List.set_append_right _ _ xH,he,show (i+1)*2 - 2=i*2 by omega,show (i+1)*2+1 - 2=i*2+1 by omega]
variable {T:TypeId}
variable {xs:List Value}
theorem QmJ {n':Nat} {xs':List Value} (h:w.ownsRow B T 2 v n xs) (e:n=n') (e2:xs=xs'):w.ownsRow B T 2 v n' xs':=by subst e e2;exact h
theorem Qav {cs:Array Value} {t:TypeId} (hg:W.heap.size=g) (j:Nat) (u:Value) (hj:cs.toList[j]?=some u):(W.alloc (.cells cs t)).cell? ((⟨g,0,none⟩:Addr).add j)=some u:=by
 subst hg;have hb:(W.alloc (.cells cs t)).heap[W.heap.size]?=some (.cells cs t (0,0)):=heap_alloc_new W _;exact mD2
theorem QiS (h:w.ownsRow B T s (.slice (some ⟨g,0,none⟩) n c) n xs):n<=c:=by
 rcases h.2 with ⟨e,_⟩ | ⟨g',c',aa,e,_,_,h1,_⟩
 ·cases e
 ·cases e;exact h1
theorem Qb3 (h:w.ownsRow B T s v n xs) (hn:0<n):∃ g c,v=.slice (some ⟨g,0,none⟩) n c:=by
 rcases h.2 with ⟨_,e⟩ | ⟨g,c,_,e,_⟩
 ·omega
 ·exact ⟨g,c,e⟩
theorem Qi6 (h:w.ownsRow B T s (.slice (some ⟨g,0,none⟩) n c) n xs):c<=9223372036854775807:=by
 rcases h.2 with ⟨e,_⟩ | ⟨g',c',aa,e,_,_,_,h1,_⟩
 ·cases e
 ·cases e;exact h1
theorem Qaa {p:Prop} (h:p):Hid p:=h
theorem QdA (w:World) (a b:Nat):(w.drewN a).drewN b=w.drewN (a+b):=by simp [World.drewN,Nat.add_assoc]
theorem QaX (h:w.ownsRow B T s v n xs) (hb:Bw w w'):w'.ownsRow B T s v n xs:=by
 refine ⟨h.1,?_⟩;rcases h.2 with h | ⟨g,aa,ab,e,h1,h2,h3⟩
 ·exact .inl h
 ·exact .inr ⟨g,aa,ab,e,h1,by rw [hb.block g (Array.getElem?_eq_some_iff.1 h2).1];exact h2,h3⟩
theorem Qan (h:w.ownsRow B T s v n xs):∃ ao c,v=.slice ao n c:=by
 rcases h.2 with ⟨e,e2⟩ | ⟨g,c,_,e,_⟩
 ·subst e2;exact ⟨_,_,e⟩
 ·exact ⟨_,_,e⟩
theorem Qap {a:World} (h:Below B a w) (n:Nat):Below B a (w.drewN n):=h.trans ⟨rfl,rfl,rfl,Nat.le_refl _,fun _ _=>rfl⟩
theorem Qah (w:World) (g o:Nat) (u:Value):w.grownBy (w.setCell ⟨g,o,none⟩ u) (some g):=
 ⟨rfl,rfl,rfl,by simp [World.setCell],fun k hk hne=>Below.heap_setCell _ _ _ _ (fun e=>hne xP)⟩
abbrev Bn:=Int×Int
def QcQ (x:Bn):List Value:=[.int .i64 x.1,.int .u64 x.2]
theorem Qd4 (x:Bn):(QcQ x).length=2:=rfl
theorem Qd2 (m:Bn):∀ u∈QcQ m,u.oneCell'=true:=fun u hu=>by simp [QcQ] at hu;rcases hu with rfl | rfl <;> rfl
theorem Qg8 (R:List Bn):∀ u∈fl QcQ R,u.oneCell'=true:=fun u hu=>by
 obtain ⟨m,_,h⟩:=List.mem_flatMap.1 hu;exact Qd2 m u h
def Qb4 (x:Bn):Prop:=I64 x.1/\U64 x.2
def QaR (w:World) (ao:Option Addr) (L:List Bn):Prop:=
 0<L.length->∃ b off,ao=some ⟨b,off,none⟩/\∀ i x,L[i]?=some x->w.cell? ⟨b,off+i*2,none⟩=some (.int .i64 x.1)/\w.cell? ⟨b,off+i*2+1,none⟩=some (.int .u64 x.2)
variable {L:List Bn}
theorem Qai {ao:Option Addr} (h:QaR w ao L) (hb:Bw w w'):QaR w' ao L:=fun h0=>by
 obtain ⟨b,off,e,hc⟩:=h h0;exact ⟨b,off,e,fun i x hx=>⟨Qab hb (hc i x hx).1,Qab hb (hc i x hx).2⟩⟩
theorem Qlb {k:Nat} {x:Bn} (h:w.ownsRow B T 2 (.slice (some ⟨g,0,none⟩) n c) n (fl QcQ L)) (hn:n=L.length) (hk:L[k]?=some x) :
  w.cell? ⟨g,k*2,none⟩=some (.int .i64 x.1)/\w.cell? ⟨g,k*2+1,none⟩=some (.int .u64 x.2):=by
 have aa:=(List.getElem?_eq_some_iff.1 hk).1;have h0:=Qd6 Qd4 L k x 0 oB hk;have h1:=Qd6 Qd4 L k x 1 oB hk;rw [Nat.add_zero] at h0;exact ⟨by rw [h.cellAt (k*2) oB,h0];rfl,by rw [h.cellAt (k*2+1) oB,h1];rfl⟩
def fillB (L:List Bn) (k:Nat):List Bn:=L.take k ++ List.replicate (L.length - k) (0,0)
theorem Qle:(prog.info? 218).map (fun i=>(i.zero,i.size,i.bytes))=some (some (.agg #[.int .i64 0,.int .u64 0]),2,16):=oG
theorem Qbu {B' size:Nat} {e:TypeId} (h:w.ownsRow B e size v n xs) (hb:B'<=B):w.ownsRow B' e size v n xs:=by
 exact mC4
theorem QtW (h:w.ownsRow B T s (.slice (some ⟨g,0,none⟩) n c) n xs):B<=g/\g<w.heap.size:=by
 rcases h.2 with ⟨e,_⟩ | ⟨g',c',aa,e,h1,h2,_⟩
 ·cases e
 ·cases e;exact ⟨h1,(Array.getElem?_eq_some_iff.1 h2).1⟩
theorem Qt8 (w:World) (o1 o3:Obj) (cs:Array Value) (t:TypeId):(((w.alloc o1).alloc (.cells cs t)).alloc o3).heap[w.heap.size+1]?=some (.cells cs t (0,0)):=by
 have h:=heap_alloc_new (w.alloc o1) (.cells cs t);have hb:Below (w.heap.size+1+1) ((w.alloc o1).alloc (.cells cs t)) (((w.alloc o1).alloc (.cells cs t)).alloc o3):=(Below.refl _ _).alloc oE _;rw [hb.block (w.heap.size+1) oB]
 simpa using h
theorem Qeu (a b c d:Int) (w:World) (hb:U64 b) (hd:U64 d) :
  Calls prog 108 #[.agg #[.int .i64 a,.int .u64 b],.agg #[.int .i64 c,.int .u64 d]] w fun e w'=>e=.returned (.agg #[.int .i64 (QeV a b c d),.int .u64 (QfH b d)])/\Bw w w':=by
 have Hb:Hid (U64 b):=hb;have Hd:Hid (U64 d):=hd;clear hb hd;go_enter func108,ntmps108;go_wp2
 ·refine bodyPost_ret (v:=.agg #[.int .i64 (wrap64 (IntKind.u64.wrap (IntKind.u64.wrap (IntKind.u64.wrap a+IntKind.u64.wrap c)+1))),.int .u64 (IntKind.u64.wrap (b+d))]) (by simp [results,results108,go_sem]) rfl ⟨QiR ?_ ?_,(((Below.refl _ _).alloc (Nat.le_refl _) _).alloc oE _).alloc oH _⟩
  ·have aa:=‹IntKind.u64.wrap (b+d)<b›
   exact mDd
  ·rw [IntKind.wrap_u64];rfl
 ·refine bodyPost_ret (v:=.agg #[.int .i64 (wrap64 (IntKind.u64.wrap (IntKind.u64.wrap a+IntKind.u64.wrap c))),.int .u64 (IntKind.u64.wrap (b+d))]) (by simp [results,results108,go_sem]) rfl ⟨QiR ?_ ?_,(((Below.refl _ _).alloc (Nat.le_refl _) _).alloc oE _).alloc oH _⟩
  ·have aa:=‹b<=IntKind.u64.wrap (b+d)›
   exact mDd
  ·rw [IntKind.wrap_u64];rfl
abbrev Qe1 (w:World) (g:Nat) (z:Int) (p n:Value) (h l:Int):Prop:=w.cell? ⟨g,0,none⟩=some (.int .u64 z)/\w.cell? ⟨g,1,none⟩=some p/\w.cell? ⟨g,2,none⟩=some n/\w.cell? ⟨g,3,none⟩=some (.int .i64 h)/\w.cell? ⟨g,4,none⟩=some (.int .u64 l)
theorem QeA {z h l:Int} {p n:Value} (k:Qe1 w g z p n h l) (hb:Bw w w'):Qe1 w' g z p n h l:=
 ⟨Qab hb k.1,Qab hb k.2.1,Qab hb k.2.2.1,Qab hb k.2.2.2.1,Qab hb k.2.2.2.2⟩
theorem QtZ (w:World) (t:TypeId) (z h l:Int) (p n:Value):Qe1 (w.alloc (.cells #[.int .u64 z,p,n,.int .i64 h,.int .u64 l] t)) w.heap.size z p n h l:=by
 have hb:=heap_alloc_new w (.cells #[.int .u64 z,p,n,.int .i64 h,.int .u64 l] t);exact ⟨by rw [cell_of_row _ w.heap.size 0 _ _ (0,0) hb];rfl,by rw [cell_of_row _ w.heap.size 1 _ _ (0,0) hb];rfl,by rw [cell_of_row _ w.heap.size 2 _ _ (0,0) hb];rfl,by rw [cell_of_row _ w.heap.size 3 _ _ (0,0) hb];rfl,by rw [cell_of_row _ w.heap.size 4 _ _ (0,0) hb];rfl⟩
end Go.Proofs.YtioohanfodmddaaGreatDoor
