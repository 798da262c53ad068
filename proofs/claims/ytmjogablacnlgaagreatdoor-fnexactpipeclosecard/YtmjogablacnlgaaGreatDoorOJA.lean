/-
 Plain facts on numbers of 64 and of 128 bits, of no program: what the walks of the wide numbers lean on.
-/
import Derived.WalkKit
import Derived.ProofKit
import Derived.OpenShut
import Derived.Below
import Derived.WalkSpells
import Derived.Carry
import Derived.Deep.RegionHeld3
import Derived.PlainAid
import Derived.Outline
import Derived.WalkSmall
import Derived.OwnWalk
import Derived.BigQuiet
import Derived.Deep.QuietTactic
import Derived.Test.YtmjogablacnlgaaGreatDoorProg
import Derived.KernelRfl
import Derived.Laws.Externs
namespace Go.Proofs.YtmjogablacnlgaaGreatDoor
open Go.ChangeShapes Go.WideShapes Go.ChangeAt Go.RowKit
def uw (n:Int):Int:=n % 18446744073709551616
def addC (b d:Int):Int:=(b+d) / 18446744073709551616
def addH (a b c d:Int):Int:=wrap64 (a+c+addC b d)
def addL (b d:Int):Int:=uw (b+d)
def ofH (n:Int):Int:=n / 9223372036854775808
def U64 (n:Int):Prop:=0≤n∧n≤18446744073709551615
def I64 (n:Int):Prop:=-9223372036854775808≤n∧n≤9223372036854775807
end Go.Proofs.YtmjogablacnlgaaGreatDoor
namespace Go.Proofs.YtmjogablacnlgaaGreatDoor
open Go.RowKit
theorem bcell {W w1:World} {K:Nat} (hb:Below K W w1):(∀ b o,b<K→w1.cell? ⟨b,o,none⟩=W.cell? ⟨b,o,none⟩)∧(∀ b o,b<K→w1.frozen? ⟨b,o,none⟩=W.frozen? ⟨b,o,none⟩):=
 ⟨fun b o h=>hb.cell (p:=⟨b,o,none⟩) h,fun b o h=>hb.frozen (p:=⟨b,o,none⟩) h⟩
theorem cell_on {w:World} {a:Addr} {v:Value} (h:w.cell? a=some v):∀ o,(w.alloc o).cell? a=some v:=fun o=>by rw [World.cell?_alloc_some w a o (by rw [h];rfl)];exact h
theorem cell_past {W w1:World} {a:Addr} {v:Value} (hb:Below W.heap.size W w1) (h:W.cell? a=some v):w1.cell? a=some v:=by
 rw [hb.cell (World.block_lt_of_cell? W a h)];exact h
theorem frozen_past {W w1:World} {a:Addr} {v:Value} (hb:Below W.heap.size W w1) (h:W.cell? a=some v):w1.frozen? a=W.frozen? a:=hb.frozen (World.block_lt_of_cell? W a h)
theorem chain {P w1 w2:World} (hT:Below P.heap.size P w1) (hb:Below w1.heap.size w1 w2):Below P.heap.size P w2:=hT.trans (hb.mono hT.size)
theorem held {K:Nat} {W w1:World} (h:Below K W w1) (hk:K≤W.heap.size):Below K W w1∧K≤w1.heap.size∧(∀ b o,b<K→w1.cell? ⟨b,o,none⟩=W.cell? ⟨b,o,none⟩)∧(∀ b o,b<K→w1.frozen? ⟨b,o,none⟩=W.frozen? ⟨b,o,none⟩):=
 ⟨h,Nat.le_trans hk h.size,(bcell h).1,(bcell h).2⟩
theorem held_call {K:Nat} {W w1 w2:World} (hb:Below w1.heap.size w1 w2) (h:Below K W w1∧K≤w1.heap.size∧(∀ b o,b<K→w1.cell? ⟨b,o,none⟩=W.cell? ⟨b,o,none⟩)∧(∀ b o,b<K→w1.frozen? ⟨b,o,none⟩=W.frozen? ⟨b,o,none⟩)) :
  Below K W w2∧K≤w2.heap.size:=⟨h.1.trans (hb.mono h.2.1),Nat.le_trans h.2.1 hb.size⟩
abbrev Kept (K:Nat) (W w1:World):Prop:=Below K W w1∧K≤w1.heap.size∧(∀ b o,b<K→w1.cell? ⟨b,o,none⟩=W.cell? ⟨b,o,none⟩)∧(∀ b o,b<K→w1.frozen? ⟨b,o,none⟩=W.frozen? ⟨b,o,none⟩)
set_option linter.unusedVariables false
set_option linter.unusedSimpArgs false
open Go.ChangeAt Go.ChangeShapes Go.Lib Go.PlainAid Go.WideShapes
def fl {α:Type} (e:α→List Value) (xs:List α):List Value:=xs.flatMap e
theorem fl_app {α:Type} (e:α→List Value) (xs ys:List α):fl e (xs ++ ys)=fl e xs ++ fl e ys:=by simp [fl]
theorem fl_one {α:Type} (e:α→List Value) (x:α):fl e [x]=e x:=by simp [fl]
theorem fl_cons {α:Type} (e:α→List Value) (x:α) (xs:List α):fl e (x :: xs)=e x ++ fl e xs:=by simp [fl]
theorem fl_len {α:Type} {e:α→List Value} (he:∀ x,(e x).length=2):∀ xs:List α,(fl e xs).length=xs.length*2
 | []=>rfl
 | x :: xs=>by rw [fl_cons,List.length_append,he,fl_len he xs,List.length_cons];omega
theorem fl_at {α:Type} {e:α→List Value} (he:∀ x,(e x).length=2):∀ (xs:List α) (i:Nat) (x:α) (c:Nat),c<2→xs[i]?=some x→(fl e xs)[i*2+c]?=(e x)[c]?
 | [],i,x,c,hc,h=>by simp at h
 | y :: xs,0,x,c,hc,h=>by
  obtain rfl:y=x:=by simpa using h
  rw [fl_cons,List.getElem?_append_left (by rw [he];omega),Nat.zero_mul,Nat.zero_add]
 | y :: xs,i+1,x,c,hc,h=>by
  rw [fl_cons,List.getElem?_append_right (by rw [he];omega),he,show (i+1)*2+c - 2=i*2+c by omega];exact fl_at he xs i x c hc (by simpa using h)
theorem fl_set {α:Type} {e:α→List Value} (he:∀ x,(e x).length=2) {u v:Value}:∀ (xs:List α) (i:Nat) (y:α),i<xs.length→e y=[u,v]→((fl e xs).set (i*2) u).set (i*2+1) v=fl e (xs.set i y)
 | [],i,y,h,_=>by simp at h
 | x :: xs,0,y,h,hy=>by
  have hx:=he x
  match hq:e x,hx with
  | [a,b],_=>rw [fl_cons,hq,List.set_cons_zero,fl_cons,hy];rfl
 | x :: xs,i+1,y,h,hy=>by
  have h':i<xs.length:=by simpa using h
  rw [fl_cons,List.set_cons_succ,fl_cons,← fl_set he xs i y h' hy];rw [List.set_append_right _ _ (by rw [he];omega),he,List.set_append_right _ _ (by rw [he];omega),he,show (i+1)*2 - 2=i*2 by omega,show (i+1)*2+1 - 2=i*2+1 by omega]
theorem own_same {B:Nat} {w:World} {v:Value} {T:TypeId} {n n':Nat} {xs xs':List Value} (h:w.ownsRow B T 2 v n xs) (e:n=n') (e2:xs=xs'):w.ownsRow B T 2 v n' xs':=by subst e e2;exact h
theorem new_cells {W:World} {cs:Array Value} {t:TypeId} {g:Nat} (hg:W.heap.size=g) (j:Nat) (u:Value) (hj:cs.toList[j]?=some u):(W.alloc (.cells cs t)).cell? ((⟨g,0,none⟩:Addr).add j)=some u:=by
 subst hg;have hb:(W.alloc (.cells cs t)).heap[W.heap.size]?=some (.cells cs t (0,0)):=heap_alloc_new W _;rw [Addr.add_lit,Nat.zero_add,cell_of_row _ W.heap.size j _ _ (0,0) hb]
 simpa using hj
theorem own_cap {w:World} {B g c n:Nat} {T:TypeId} {s:Nat} {xs:List Value} (h:w.ownsRow B T s (.slice (some ⟨g,0,none⟩) n c) n xs):n≤c:=by
 rcases h.2 with ⟨e,_⟩ | ⟨g',c',cur,e,_,_,h1,_⟩
 ·cases e
 ·cases e;exact h1
theorem own_form {w:World} {B n:Nat} {T:TypeId} {s:Nat} {v:Value} {xs:List Value} (h:w.ownsRow B T s v n xs) (hn:0<n):∃ g c,v=.slice (some ⟨g,0,none⟩) n c:=by
 rcases h.2 with ⟨_,e⟩ | ⟨g,c,_,e,_⟩
 ·omega
 ·exact ⟨g,c,e⟩
theorem own_capm {w:World} {B g c n:Nat} {T:TypeId} {s:Nat} {xs:List Value} (h:w.ownsRow B T s (.slice (some ⟨g,0,none⟩) n c) n xs):c≤9223372036854775807:=by
 rcases h.2 with ⟨e,_⟩ | ⟨g',c',cur,e,_,_,_,h1,_⟩
 ·cases e
 ·cases e;exact h1
theorem hide {p:Prop} (h:p):Hid p:=h
theorem drews_add (w:World) (a b:Nat):(w.drewN a).drewN b=w.drewN (a+b):=by simp [World.drewN,Nat.add_assoc]
theorem own_past {w w':World} {B:Nat} {T:TypeId} {s:Nat} {v:Value} {n:Nat} {xs:List Value} (h:w.ownsRow B T s v n xs) (hb:Below w.heap.size w w'):w'.ownsRow B T s v n xs:=by
 refine ⟨h.1,?_⟩;rcases h.2 with h | ⟨g,cap,cur,e,h1,h2,h3⟩
 ·exact .inl h
 ·exact .inr ⟨g,cap,cur,e,h1,by rw [hb.block g (Array.getElem?_eq_some_iff.1 h2).1];exact h2,h3⟩
theorem own_any {w:World} {B n:Nat} {T:TypeId} {s:Nat} {v:Value} {xs:List Value} (h:w.ownsRow B T s v n xs):∃ ao c,v=.slice ao n c:=by
 rcases h.2 with ⟨e,e2⟩ | ⟨g,c,_,e,_⟩
 ·subst e2;exact ⟨_,_,e⟩
 ·exact ⟨_,_,e⟩
theorem bel_drews {B:Nat} {a w:World} (h:Below B a w) (n:Nat):Below B a (w.drewN n):=h.trans ⟨rfl,rfl,rfl,Nat.le_refl _,fun _ _=>rfl⟩
theorem grown_one (w:World) (g o:Nat) (u:Value):w.grownBy (w.setCell ⟨g,o,none⟩ u) (some g):=
 ⟨rfl,rfl,rfl,by simp [World.setCell],fun k hk hne=>Below.heap_setCell _ _ _ _ (fun e=>hne (by rw [e]))⟩
set_option maxRecDepth 10000
abbrev Bn:=Int×Int
def encB (x:Bn):List Value:=[.int .i64 x.1,.int .u64 x.2]
theorem encB2 (x:Bn):(encB x).length=2:=rfl
theorem encB_one (m:Bn):∀ u∈encB m,u.oneCell'=true:=fun u hu=>by simp [encB] at hu;rcases hu with rfl | rfl <;> rfl
theorem fl_oneB (R:List Bn):∀ u∈fl encB R,u.oneCell'=true:=fun u hu=>by
 obtain ⟨m,_,h⟩:=List.mem_flatMap.1 hu;exact encB_one m u h
def BnOk (x:Bn):Prop:=I64 x.1∧U64 x.2
def BinsAt (w:World) (ao:Option Addr) (L:List Bn):Prop:=
 0<L.length→∃ b off,ao=some ⟨b,off,none⟩∧∀ i x,L[i]?=some x→w.cell? ⟨b,off+i*2,none⟩=some (.int .i64 x.1)∧w.cell? ⟨b,off+i*2+1,none⟩=some (.int .u64 x.2)
theorem bins_past {w w':World} {ao:Option Addr} {L:List Bn} (h:BinsAt w ao L) (hb:Below w.heap.size w w'):BinsAt w' ao L:=fun h0=>by
 obtain ⟨b,off,e,hc⟩:=h h0;exact ⟨b,off,e,fun i x hx=>⟨cell_past hb (hc i x hx).1,cell_past hb (hc i x hx).2⟩⟩
theorem bin_cells {w:World} {B g c n:Nat} {T:TypeId} {L:List Bn} {k:Nat} {x:Bn} (h:w.ownsRow B T 2 (.slice (some ⟨g,0,none⟩) n c) n (fl encB L)) (hn:n=L.length) (hk:L[k]?=some x) :
  w.cell? ⟨g,k*2,none⟩=some (.int .i64 x.1)∧w.cell? ⟨g,k*2+1,none⟩=some (.int .u64 x.2):=by
 have hkl:=(List.getElem?_eq_some_iff.1 hk).1;have h0:=fl_at encB2 L k x 0 (by omega) hk;have h1:=fl_at encB2 L k x 1 (by omega) hk;rw [Nat.add_zero] at h0;exact ⟨by rw [h.cellAt (k*2) (by omega),h0];rfl,by rw [h.cellAt (k*2+1) (by omega),h1];rfl⟩
theorem made_bins (n:Nat):(madeCells (Value.agg #[.int .i64 0,.int .u64 0]).cells (n*2)).toList=fl encB (List.replicate n ((0,0):Bn)):=by
 refine List.ext_getElem? fun j=>?_;by_cases hj:j<n*2
 ·have h1:=fl_at encB2 (List.replicate n ((0,0):Bn)) (j / 2) (0,0) (j % 2) (by omega) (by rw [List.getElem?_replicate,if_pos (by omega)])
  rw [show j / 2*2+j % 2=j by omega] at h1;rw [h1];have:j % 2=0∨j % 2=1:=by omega
  rcases this with e | e <;> simp [madeCells,hj,Value.cells,encB,e]
 ·rw [List.getElem?_eq_none (by simp [size_madeCells];omega),List.getElem?_eq_none (by rw [fl_len encB2];simp;omega)]
def fillB (L:List Bn) (k:Nat):List Bn:=L.take k ++ List.replicate (L.length - k) (0,0)
theorem fillB_zero (L:List Bn):fillB L 0=List.replicate L.length (0,0):=by simp [fillB]
theorem fillB_all (L:List Bn):fillB L L.length=L:=by simp [fillB]
theorem fillB_len (L:List Bn) (k:Nat) (hk:k≤L.length):(fillB L k).length=L.length:=by simp [fillB];omega
theorem fillB_at (L:List Bn) (k:Nat) (hk:k<L.length):(fillB L k)[k]?=some (0,0):=by
 unfold fillB;have hl:(L.take k).length=k:=by simp;omega
 rw [List.getElem?_append_right (by omega),hl,Nat.sub_self,List.getElem?_replicate,if_pos (by omega)]
theorem fillB_set {L:List Bn} {x:Bn} {k:Nat} (h:L[k]?=some x):(fillB L k).set k x=fillB L (k+1):=by
 have hk:=(List.getElem?_eq_some_iff.1 h).1;have hl:(L.take k).length=k:=by simp;omega
 unfold fillB;rw [List.set_append_right _ _ (by omega),hl,Nat.sub_self,show L.length - k=(L.length - (k+1))+1 by omega,List.replicate_succ,List.set_cons_zero,List.take_add_one,h];simp
theorem infoBin:(Tryz.prog.info? 128).map (fun i=>(i.zero,i.size,i.bytes))=some (some (.agg #[.int .i64 0,.int .u64 0]),2,16):=by kernel_rfl
theorem c_szBinS_neg (ao:Option Addr) (n cap:Nat) (left:Int) (h0:0≤left) (h1:left≤1048576) (hl:n≤maxLen) (h:left - n<0) (w:World) :
  Calls Tryz.prog 222 #[.slice ao n cap,.int .i64 left] w fun e w'=>e=.returned (.int .i64 (-1))∧w'=w:=by
 unfold maxLen at hl;go_enter Tryz.func222,Tryz.ntmps222;go_wp2;go_ret;exact ⟨rfl,rfl⟩
theorem c_szBinS_pos (ao:Option Addr) (n cap:Nat) (left:Int) (h0:0≤left) (h1:left≤1048576) (hl:n≤maxLen) (h:¬ left - n<0) (w:World) :
  Calls Tryz.prog 222 #[.slice ao n cap,.int .i64 left] w fun e w'=>e=.returned (.int .i64 (left - n))∧w'=w:=by
 unfold maxLen at hl;go_enter Tryz.func222,Tryz.ntmps222;go_wp2;go_ret;exact ⟨rfl,rfl⟩
theorem c_toBin (a b:Int) (w:World) :
  Calls Tryz.prog 249 #[.agg #[.int .i64 a,.int .u64 b]] w fun e w'=>e=.returned (.agg #[.int .i64 a,.int .u64 b])∧Below w.heap.size w w':=by
 go_enter Tryz.func249,Tryz.ntmps249;go_wp2;exact bodyPost_ret (v:=.agg #[.int .i64 a,.int .u64 b]) (by simp [results,Tryz.results249,go_sem]) rfl ⟨rfl,(((Below.refl _ _).alloc (Nat.le_refl _) _).alloc (by simp) _).alloc (by simp;omega) _⟩
set_option maxHeartbeats 1000000 in
theorem c_toBinS {w:World} {ao:Option Addr} {L:List Bn} (cap N:Nat) (hN:L.length=N) (hl:N≤1048576) (hA:BinsAt w ao L) :
  Calls Tryz.prog 225 #[.slice ao N cap] w fun e w'=>e=.returned (.slice (some ⟨w.heap.size,0,none⟩) N N)∧w'.ownsRow w.heap.size 128 2 (.slice (some ⟨w.heap.size,0,none⟩) N N) N (fl encB L)∧Below w.heap.size w w':=by
 obtain ⟨i0,hi,hz0,hz1,hz2⟩:=info_parts infoBin;have HN:Hid (L.length=N):=hN;clear hN;go_enter Tryz.func225,Tryz.ntmps225;go_wp2_with (at_make;refine wpList_make_full _ rfl _ _ 59 rfl w.heap.size 128 i0 (.agg #[.int .i64 0,.int .u64 0]) 2 Tryz.underlying59 hi hz0 hz1 .i64 .i64 _ _ N rfl rfl rfl rfl (by rw [hz2];omega) (by unfold maxLen;omega) (Nat.le_refl _) ?_;intro w0 hown0 hgrow0);have hB0:Below w.heap.size w w0:=(Below.refl _ _).grown hgrow0 (Nat.le_refl _) (fun k e=>by cases e)
 have hown1:w0.ownsRow w.heap.size 128 2 (.slice (some ⟨w.heap.size,0,none⟩) N N) N (fl encB (fillB L 0)):=by
  rw [fillB_zero,HN.out,← made_bins];exact hown0
 clear hown0 hgrow0;go_wp2
 go_loopw [4] (fun i wr=>∃ k:Nat,k≤N∧i=.int .i64 k∧wr.ownsRow w.heap.size 128 2 (.slice (some ⟨w.heap.size,0,none⟩) N N) N (fl encB (fillB L k))∧Below w.heap.size w wr) (fun i wr=>N - (Go.RowKit.intOf i).toNat)
 case atStart=>exact ⟨0,Nat.zero_le _,rfl,hown1,hB0⟩
 case round=>
  clear hown1 hB0;obtain ⟨k,hk,rfl,hown,hbel⟩:=hrel;by_cases hkn:k<N
  ·obtain ⟨b,off,rfl,hcell⟩:=hA (by have:=HN.out;omega)
   obtain ⟨⟨a,u⟩,hku⟩:∃ u,L[k]?=some u:=⟨L[k]'(by have:=HN.out;omega),List.getElem?_eq_getElem _⟩;obtain ⟨hc0,hc1⟩:=hcell k _ hku;have hc0:=cell_past hbel hc0;have hc1:=cell_past hbel hc1;have HO:=hide hown;have HB:=hide hbel;have HK:=hide hku;have hlen:N=(fillB L k).length:=by have:=HN.out;rw [fillB_len _ _ (by omega)];omega
   obtain ⟨o0,o1⟩:=bin_cells hown hlen (fillB_at L k (by have:=HN.out;omega))
   have hp:∀ W,Below wr.heap.size wr W→W.ownsRow w.heap.size 128 2 (.slice (some ⟨w.heap.size,0,none⟩) N N) N (fl encB (fillB L k))∧W.cell? ⟨w.heap.size,k*2,none⟩=some (.int .i64 0)∧W.cell? ⟨w.heap.size,k*2+1,none⟩=some (.int .u64 0)∧W.frozen? ⟨w.heap.size,k*2,none⟩=false∧W.frozen? ⟨w.heap.size,k*2+1,none⟩=false:=fun W hW=>
    have ho:=own_past hown hW
    ⟨ho,cell_past hW o0,cell_past hW o1,ho.frozenAt _,ho.frozenAt _⟩
   have HP:=hide hp;clear hcell hku hown hbel hp o0 o1 hlen;go_wp2_with (go_at_call 249;refine (c_toBin _ _ _).mono ?_;rintro e w1 ⟨rfl,hb1⟩;obtain ⟨ho,p0,p1,f0,f1⟩:=HP.out _ hb1;have HQ:=hide ho;have HB1:=hide hb1;clear ho hb1);go_roundw
   case rel=>
    have e2:=HN.out;have hs:=(((HQ.out.stored (k*2) (.int .i64 a)).1).stored (k*2+1) (.int .u64 u)).1;rw [fl_set encB2 (fillB L k) k (a,u) (by rw [fillB_len _ _ (by omega)];omega) rfl,fillB_set HK.out] at hs;exact ⟨k+1,by omega,by go_num,hs,((chain HB.out HB1.out).setCell (by exact Nat.le_refl _) _).setCell (by exact Nat.le_refl _) _⟩
   case measure=>simp [Go.RowKit.intOf];omega
  ·have e:k=N:=by omega
   have HO:Hid (wr.ownsRow w.heap.size 128 2 (.slice (some ⟨w.heap.size,0,none⟩) N N) N (fl encB L)):=by
    have:=HN.out;rw [e,show fillB L N=L by rw [← this];exact fillB_all _] at hown;exact hown
   have HB:=hide hbel;clear hown hbel hA e;go_wp2;go_ret;exact ⟨rfl,HO.out,HB.out⟩
theorem c_eqBin (a b:Int) (w:World) :
  Calls Tryz.prog 194 #[.agg #[.int .i64 a,.int .u64 b],.agg #[.int .i64 a,.int .u64 b]] w fun e w'=>e=.returned (.bool true)∧Below w.heap.size w w':=by
 go_enter Tryz.func194,Tryz.ntmps194;go_wp2;go_ret;exact ⟨rfl,((Below.refl _ _).alloc (Nat.le_refl _) _).alloc (by simp) _⟩
set_option maxHeartbeats 1000000 in
theorem c_eqBinS {w:World} {ao bo:Option Addr} {L:List Bn} (c c' N:Nat) (hn:L.length=N) (hl:N≤1048576) (hA:BinsAt w ao L) (hB:BinsAt w bo L) :
  Calls Tryz.prog 162 #[.slice ao N c,.slice bo N c'] w fun e w'=>e=.returned (.bool true)∧Below w.heap.size w w':=by
 have HN:=hide hn;have HA:=hide hA;have HB':=hide hB;clear hn hA hB;go_enter Tryz.func162,Tryz.ntmps162;go_wp2
 go_loopw [5] (fun i wr=>Below w.heap.size w wr∧∃ k:Nat,k≤N∧i=.int .i64 k) (fun i wr=>N - (Go.RowKit.intOf i).toNat)
 case atStart=>exact ⟨Below.refl _ _,0,Nat.zero_le _,rfl⟩
 case round=>
  obtain ⟨hbel,k,hk,rfl⟩:=hrel;have HB:=hide hbel;by_cases hkn:k<N
  ·obtain ⟨⟨a,u⟩,hRk⟩:∃ a,L[k]?=some a:=⟨L[k]'(by have:=HN.out;omega),List.getElem?_eq_getElem _⟩
   obtain ⟨b,off,rfl,hcell⟩:=HA.out (by have:=HN.out;omega);obtain ⟨b',off',rfl,hcell'⟩:=HB'.out (by have:=HN.out;omega);have hc0:=cell_past hbel (hcell k _ hRk).1;have hc1:=cell_past hbel (hcell k _ hRk).2;have hd0:=cell_past hbel (hcell' k _ hRk).1;have hd1:=cell_past hbel (hcell' k _ hRk).2;have hg:=World.block_lt_of_cell? _ _ hc0;have hg':=World.block_lt_of_cell? _ _ hd0;clear hbel hRk hcell hcell';go_wp2_with fail
   go_region_held3 (Kept wr.heap.size wr)
    (refine held ?_ (by simp) <;> first | exact (Below.refl _ _).drew | exact hS1)
    (first | (go_at_call 194;refine (c_eqBin _ _ _).mono ?_;rintro e w1 ⟨rfl,hb1⟩;obtain ⟨hS1,hS2⟩:=held_call hb1 ‹Kept _ _ _›; clear hb1))
   go_wp2;go_roundw
   case rel=>exact ⟨HB.out.trans (hS1.mono HB.out.size),k+1,by omega,by go_num⟩
   case measure=>simp [Go.RowKit.intOf];omega
  ·clear hbel
   go_wp2;go_ret;exact ⟨rfl,HB.out⟩
theorem own_le {w:World} {B B' size n:Nat} {e:TypeId} {v:Value} {xs:List Value} (h:w.ownsRow B e size v n xs) (hb:B'≤B):w.ownsRow B' e size v n xs:=by
 refine ⟨h.1,?_⟩;rcases h.2 with h | ⟨g,cap,cur,e,h1,h2⟩
 ·exact .inl h
 ·exact .inr ⟨g,cap,cur,e,Nat.le_trans hb h1,h2⟩
theorem own_lt {w:World} {B g c n:Nat} {T:TypeId} {s:Nat} {xs:List Value} (h:w.ownsRow B T s (.slice (some ⟨g,0,none⟩) n c) n xs):B≤g∧g<w.heap.size:=by
 rcases h.2 with ⟨e,_⟩ | ⟨g',c',cur,e,h1,h2,_⟩
 ·cases e
 ·cases e;exact ⟨h1,(Array.getElem?_eq_some_iff.1 h2).1⟩
theorem mid_row (w:World) (o1 o3:Obj) (cs:Array Value) (t:TypeId):(((w.alloc o1).alloc (.cells cs t)).alloc o3).heap[w.heap.size+1]?=some (.cells cs t (0,0)):=by
 have h:=heap_alloc_new (w.alloc o1) (.cells cs t);have hb:Below (w.heap.size+1+1) ((w.alloc o1).alloc (.cells cs t)) (((w.alloc o1).alloc (.cells cs t)).alloc o3):=(Below.refl _ _).alloc (by simp) _;rw [hb.block (w.heap.size+1) (by omega)]
 simpa using h
end Go.Proofs.YtmjogablacnlgaaGreatDoor
namespace Go.Proofs.YtmjogablacnlgaaGreatDoor
open Go.ChangeShapes Go.WideShapes Go.ChangeAt Go.RowKit
theorem c_toWide (a b:Int) (w:World) :
  Calls Tryz.prog 201 #[.agg #[.int .i64 a,.int .u64 b]] w fun e w'=>e=.returned (.agg #[.int .i64 a,.int .u64 b])∧Below w.heap.size w w':=by
 go_enter Tryz.func201,Tryz.ntmps201;go_wp2;exact bodyPost_ret (v:=.agg #[.int .i64 a,.int .u64 b]) (by simp [results,Tryz.results201,go_sem]) rfl ⟨rfl,(((Below.refl _ _).alloc (Nat.le_refl _) _).alloc (by simp) _).alloc (by simp;omega) _⟩
theorem c_eqWide (a b:Int) (w:World) :
  Calls Tryz.prog 119 #[.agg #[.int .i64 a,.int .u64 b],.agg #[.int .i64 a,.int .u64 b]] w fun e w'=>e=.returned (.bool true)∧Below w.heap.size w w':=by
 go_enter Tryz.func119,Tryz.ntmps119;go_wp2;go_ret;exact ⟨rfl,((Below.refl _ _).alloc (Nat.le_refl _) _).alloc (by simp) _⟩
set_option linter.unusedVariables false
set_option linter.unusedSimpArgs false
set_option maxRecDepth 10000
open Go.Lib Go.PlainAid
abbrev SkCell (w:World) (g:Nat) (z:Int) (p n:Value) (h l:Int):Prop:=w.cell? ⟨g,0,none⟩=some (.int .u64 z)∧w.cell? ⟨g,1,none⟩=some p∧w.cell? ⟨g,2,none⟩=some n∧w.cell? ⟨g,3,none⟩=some (.int .i64 h)∧w.cell? ⟨g,4,none⟩=some (.int .u64 l)
theorem sk_past {w w':World} {g:Nat} {z h l:Int} {p n:Value} (k:SkCell w g z p n h l) (hb:Below w.heap.size w w'):SkCell w' g z p n h l:=
 ⟨cell_past hb k.1,cell_past hb k.2.1,cell_past hb k.2.2.1,cell_past hb k.2.2.2.1,cell_past hb k.2.2.2.2⟩
theorem sk_new (w:World) (t:TypeId) (z h l:Int) (p n:Value):SkCell (w.alloc (.cells #[.int .u64 z,p,n,.int .i64 h,.int .u64 l] t)) w.heap.size z p n h l:=by
 have hb:=heap_alloc_new w (.cells #[.int .u64 z,p,n,.int .i64 h,.int .u64 l] t);exact ⟨by rw [cell_of_row _ w.heap.size 0 _ _ (0,0) hb];rfl,by rw [cell_of_row _ w.heap.size 1 _ _ (0,0) hb];rfl,by rw [cell_of_row _ w.heap.size 2 _ _ (0,0) hb];rfl,by rw [cell_of_row _ w.heap.size 3 _ _ (0,0) hb];rfl,by rw [cell_of_row _ w.heap.size 4 _ _ (0,0) hb];rfl⟩
set_option maxHeartbeats 1000000 in
theorem c_toSketch {w:World} {z h l:Int} {pa na:Option Addr} {pn pc nn nc:Nat} {P N:List Bn} (hp:P.length=pn) (hn:N.length=nn) (lp:pn≤1048576) (ln:nn≤1048576) (hP:BinsAt w pa P) (hN:BinsAt w na N) :
  Calls Tryz.prog 202 #[.agg #[.int .u64 z,.slice pa pn pc,.slice na nn nc,.int .i64 h,.int .u64 l]] w fun e w'=>∃ gp gn,e=.returned (.agg #[.int .u64 z,.slice (some ⟨gp,0,none⟩) pn pn,.slice (some ⟨gn,0,none⟩) nn nn,.int .i64 h,.int .u64 l]) ∧
   w.heap.size≤gp∧gp<gn∧gn<w'.heap.size∧w'.ownsRow w.heap.size 128 2 (.slice (some ⟨gp,0,none⟩) pn pn) pn (fl encB P)∧w'.ownsRow w.heap.size 128 2 (.slice (some ⟨gn,0,none⟩) nn nn) nn (fl encB N)∧Below w.heap.size w w':=by
 have HP:=hide hP;have HN:=hide hN;clear hP hN;go_enter Tryz.func202,Tryz.ntmps202;go_wp2_with fail;refine (c_toBinS _ _ hp lp (bins_past HP.out (by repeat (first | exact Below.refl _ _ | refine Below.setCell ?_ (by simp) _ | refine Below.alloc ?_ (by simp <;> omega) _)))).mono ?_;rintro e w1 ⟨rfl,ho1,hb1⟩;obtain ⟨hc1,hf1⟩:=bcell hb1;have hz1:=hb1.size;have hT1:Below w.heap.size w w1:=Below.trans (by repeat (first | exact Below.refl _ _ | refine Below.setCell ?_ (by simp) _ | refine Below.alloc ?_ (by simp <;> omega) _)) (hb1.mono (by simp <;> omega));simp at hz1 hc1 hf1;have HO1:=hide ho1;have HB1:=hide hb1;have HT1:=hide hT1;clear ho1 hb1 hT1;go_wp2_with fail;refine (c_toBinS _ _ hn ln (bins_past HN.out (HT1.out.setCell (by simp <;> omega) _))).mono ?_;rintro e w2 ⟨rfl,ho2,hb2⟩;obtain ⟨hc2,hf2⟩:=bcell hb2;have hz2:=hb2.size;have hT2:Below w.heap.size w w2:=(HT1.out.setCell (by simp <;> omega) _).trans (hb2.mono (by simp <;> omega));simp at hz2 hc2 hf2;replace hc2:=fun b o (h:b<w.heap.size+1+1+1)=>hc2 b o (by omega);replace hf2:=fun b o (h:b<w.heap.size+1+1+1)=>hf2 b o (by omega);have HO2:=hide ho2;have HB2:=hide hb2;have HT2:=hide hT2;clear ho2 hb2 hT2;go_wp2_with fail;refine (c_toWide _ _ _).mono ?_;rintro e w3 ⟨rfl,hb3⟩;obtain ⟨hc3,hf3⟩:=bcell hb3;have hz3:=hb3.size;simp at hz3 hc3 hf3;replace hc3:=fun b o (h:b<w.heap.size+1+1+1)=>hc3 b o (by omega);replace hf3:=fun b o (h:b<w.heap.size+1+1+1)=>hf3 b o (by omega);have HB3:=hide hb3;clear hb3;go_wp2;have oP1:w1.ownsRow (w.heap.size+1+1+1) 128 2 (.slice (some ⟨w.heap.size+1+1+1,0,none⟩) pn pn) pn (fl encB P):=by simpa using HO1.out
 have oP3:=own_past (ownsRow_setCell_below (own_past (ownsRow_setCell_below oP1 (a:=⟨w.heap.size+1+1,1,none⟩) (by simp) _) HB2.out) (a:=⟨w.heap.size+1+1,2,none⟩) (by simp) _) HB3.out;have oN2:w2.ownsRow w1.heap.size 128 2 (.slice (some ⟨w1.heap.size,0,none⟩) nn nn) nn (fl encB N):=by simpa using HO2.out
 have oN3:=own_past (ownsRow_setCell_below oN2 (a:=⟨w.heap.size+1+1,2,none⟩) (by simp;omega) _) HB3.out
 have hT3:Below w.heap.size w w3:=by
  refine chain ?_ HB3.out;exact HT2.out.setCell (by simp <;> omega) _
 have hzn:=(own_lt oN3).2;have hzp:=(own_lt oP1).2
 have r:∀ j,j<5→∃ u,w3.cell? ⟨w.heap.size+1,j,none⟩=some u:=fun j hj=>by
  rw [hc3 _ _ (by omega),World.cell?_setCell_other _ _ _ _ (by simp),hc2 _ _ (by omega),World.cell?_setCell_other _ _ _ _ (by simp),hc1 _ _ (by omega)];rw [cell_of_row _ (w.heap.size+1) j _ _ (0,0) (mid_row w _ _ _ _)];exact ⟨_,Array.getElem?_eq_getElem (by simpa using hj)⟩
 obtain ⟨u0,r0⟩:=r 0 (by omega);obtain ⟨u1,r1⟩:=r 1 (by omega);obtain ⟨u2,r2⟩:=r 2 (by omega);obtain ⟨u3,r3⟩:=r 3 (by omega);obtain ⟨u4,r4⟩:=r 4 (by omega);refine bodyPost_ret (v:=.agg #[.int .u64 z,.slice (some ⟨w.heap.size+1+1+1,0,none⟩) pn pn,.slice (some ⟨w1.heap.size,0,none⟩) nn nn,.int .i64 h,.int .u64 l]) (by simp [results,Tryz.results202,go_sem,r0,r1,r2,r3,r4]) rfl ⟨_,_,rfl,by omega,by omega,by simp;omega,?_,?_,?_⟩
 ·refine own_le (B:=w.heap.size+1+1+1) ?_ (by omega)
  repeat (refine ownsRow_setCell_below ?_ (by simp) _)
  exact oP3
 ·refine own_le (B:=w1.heap.size) ?_ (by omega)
  repeat (refine ownsRow_setCell_below ?_ (by simp;omega) _)
  exact oN3
 ·repeat (refine Below.setCell ?_ (by simp <;> omega) _)
  exact hT3
set_option maxHeartbeats 1000000 in
theorem c_eqSketch {w:World} {z h l:Int} {pa na pb nb:Option Addr} {pn pc nn nc pd nd:Nat} {P N:List Bn} (hp:P.length=pn) (hn:N.length=nn) (lp:pn≤1048576) (ln:nn≤1048576) (hP:BinsAt w pa P) (hN:BinsAt w na N) (hP2:BinsAt w pb P) (hN2:BinsAt w nb N) :
  Calls Tryz.prog 120 #[.agg #[.int .u64 z,.slice pa pn pc,.slice na nn nc,.int .i64 h,.int .u64 l],.agg #[.int .u64 z,.slice pb pn pd,.slice nb nn nd,.int .i64 h,.int .u64 l]] w fun e w'=>e=.returned (.bool true)∧Below w.heap.size w w':=by
 have HP:=hide hP;have HN:=hide hN;have HP2:=hide hP2;have HN2:=hide hN2;clear hP hN hP2 hN2;have hW:∀ o1 o2,Below w.heap.size w ((w.alloc o1).alloc o2):=fun o1 o2=>((Below.refl _ _).alloc (Nat.le_refl _) _).alloc (by simp) _;have HW:=hide hW;clear hW;go_enter Tryz.func120,Tryz.ntmps120;go_wp2_with fail;refine (c_eqBinS _ _ _ hp lp (bins_past HP.out (HW.out _ _)) (bins_past HP2.out (HW.out _ _))).mono ?_;rintro e w1 ⟨rfl,hb1⟩;have hT1:=(HW.out _ _).trans (hb1.mono (by simp <;> omega));obtain ⟨hc1,_⟩:=bcell hb1;have hz1:=hb1.size;simp at hc1 hz1;have HT1:=hide hT1;clear hb1 hT1;go_wp2_with fail;refine (c_eqBinS _ _ _ hn ln (bins_past HN.out HT1.out) (bins_past HN2.out HT1.out)).mono ?_;rintro e w2 ⟨rfl,hb2⟩;have hT2:=chain HT1.out hb2;obtain ⟨hc2,_⟩:=bcell hb2;replace hc2:=fun b o (h:b<w.heap.size+1+1)=>hc2 b o (by omega);have HT2:=hide hT2;clear hb2 hT2;go_wp2_with (go_at_call 119;refine (c_eqWide _ _ _).mono ?_;rintro e w3 ⟨rfl,hb3⟩;have HB3:=hide hb3;clear hb3);go_ret;exact ⟨rfl,chain HT2.out HB3.out⟩
end Go.Proofs.YtmjogablacnlgaaGreatDoor
