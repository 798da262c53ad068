/-
 Parts.
-/
import Derived.WalkKit
import Derived.ProofKit
import Derived.OpenShut
import Derived.Below
import Derived.WalkSpells
import Derived.Carry
import Derived.Deep.RegionHeld3
import Derived.PlainAid
import Derived.Outline
import Derived.WalkSmall
import Derived.OwnWalk
import Derived.BigQuiet
import Derived.Deep.QuietTactic
import Derived.Test.YtandnmpllheniaaGreatDoorProg
import Derived.KernelRfl
import Derived.Laws.Externs
set_option maxRecDepth 10000
namespace Go.Proofs.YtandnmpllheniaaGreatDoor
open Go.ChangeShapes Go.WideShapes Go.ChangeAt Go.RowKit
def uw (n:Int):Int:=n % 18446744073709551616
def Qhl (b d:Int):Int:=(b+d) / 18446744073709551616
def QaO (a b c d:Int):Int:=wrap64 (a+c+Qhl b d)
def QaS (b d:Int):Int:=uw (b+d)
def ofH (n:Int):Int:=n / 9223372036854775808
def U64 (n:Int):Prop:=0<=n/\n<=18446744073709551615
def I64 (n:Int):Prop:=-9223372036854775808<=n/\n<=9223372036854775807
theorem QeJ (n:Int):U64 (uw n):=by unfold U64 uw;omega
theorem QgN (n:Int):I64 (wrap64 n):=by unfold I64 wrap64;omega
theorem Qd2 {a b c d:Int} (h:a=c) (k:b=d):Ending.returned (.agg #[.int .i64 a,.int .u64 b])=.returned (.agg #[.int .i64 c,.int .u64 d]):=by rw [h,k]
theorem fzR {w:World} {g:Nat} {cs:Array Value} {t:TypeId} (j:Nat) (hg:w.heap[g]?=some (.cells cs t (0,0))):w.frozen? ⟨g,j,none⟩=false:=frozen_of_row w g j cs t hg
theorem sA {α:Type} {l:List α} {i:Nat} {a:α}:l.toArray.setIfInBounds i a=(l.set i a).toArray:=List.setIfInBounds_toArray ..
theorem sB {α:Type} {x:α} {xs:List α} {a:α}:(x :: xs).set 0 a=a :: xs:=List.set_cons_zero ..
theorem sC {α:Type} {x:α} {xs:List α} {i:Nat} {a:α}:(x :: xs).set (i+1) a=x :: xs.set i a:=List.set_cons_succ ..
theorem sX:(∀ {α:Type} {l:List α} {i:Nat} {a:α},l.toArray.setIfInBounds i a=(l.set i a).toArray)/\(∀ {α:Type} {x:α} {xs:List α} {a:α},(x :: xs).set 0 a=a :: xs)/\(∀ {α:Type} {x:α} {xs:List α} {i:Nat} {a:α},(x :: xs).set (i+1) a=x :: xs.set i a)/\(∀ (t:Array Value) (f:List Deferred) (d:Nat) (v:Value),Act.put ⟨t,f⟩ (some d) v=⟨t.setIfInBounds d v,f⟩)/\(∀ (a:Act) (v:Value),Act.put a none v=a):=⟨sA,sB,sC,fun _ _ _ _=>rfl,fun _ _=>rfl⟩
end Go.Proofs.YtandnmpllheniaaGreatDoor
namespace Go.Proofs.YtandnmpllheniaaGreatDoor
open Go.RowKit
theorem QiC {W w1:World} {K:Nat} (hb:Below K W w1):(∀ b o,b<K->w1.cell? ⟨b,o,none⟩=W.cell? ⟨b,o,none⟩)/\(∀ b o,b<K->w1.frozen? ⟨b,o,none⟩=W.frozen? ⟨b,o,none⟩):=
 ⟨fun b o h=>hb.cell (p:=⟨b,o,none⟩) h,fun b o h=>hb.frozen (p:=⟨b,o,none⟩) h⟩
theorem QeN {w:World} {a:Addr} {v:Value} (h:w.cell? a=some v):∀ o,(w.alloc o).cell? a=some v:=fun o=>by rw [World.cell?_alloc_some w a o (by rw [h];rfl)];exact h
theorem Qab {W w1:World} {a:Addr} {v:Value} (hb:Below W.heap.size W w1) (h:W.cell? a=some v):w1.cell? a=some v:=by
 rw [hb.cell (World.block_lt_of_cell? W a h)];exact h
theorem Qb3 {W w1:World} {a:Addr} {v:Value} (hb:Below W.heap.size W w1) (h:W.cell? a=some v):w1.frozen? a=W.frozen? a:=hb.frozen (World.block_lt_of_cell? W a h)
theorem Qac {P w1 w2:World} (hT:Below P.heap.size P w1) (hb:Below w1.heap.size w1 w2):Below P.heap.size P w2:=hT.trans (hb.mono hT.size)
theorem held {K:Nat} {W w1:World} (h:Below K W w1) (hk:K<=W.heap.size):Below K W w1/\K<=w1.heap.size/\(∀ b o,b<K->w1.cell? ⟨b,o,none⟩=W.cell? ⟨b,o,none⟩)/\(∀ b o,b<K->w1.frozen? ⟨b,o,none⟩=W.frozen? ⟨b,o,none⟩):=
 ⟨h,Nat.le_trans hk h.size,(QiC h).1,(QiC h).2⟩
theorem Qbn {K:Nat} {W w1 w2:World} (hb:Below w1.heap.size w1 w2) (h:Below K W w1/\K<=w1.heap.size/\(∀ b o,b<K->w1.cell? ⟨b,o,none⟩=W.cell? ⟨b,o,none⟩)/\(∀ b o,b<K->w1.frozen? ⟨b,o,none⟩=W.frozen? ⟨b,o,none⟩)) :
  Below K W w2/\K<=w2.heap.size:=⟨h.1.trans (hb.mono h.2.1),Nat.le_trans h.2.1 hb.size⟩
abbrev Qes (K:Nat) (W w1:World):Prop:=Below K W w1/\K<=w1.heap.size/\(∀ b o,b<K->w1.cell? ⟨b,o,none⟩=W.cell? ⟨b,o,none⟩)/\(∀ b o,b<K->w1.frozen? ⟨b,o,none⟩=W.frozen? ⟨b,o,none⟩)
section
variable {P:Program} {ops:Array Oper} {Q:Exit->Act->World->Prop} {md:Region.Mode} {S:World->Prop} {k:Nat}
def QbE (P:Program) (md:Region.Mode) (ops:Array Oper) (Q:Exit->Act->World->Prop) (S:World->Prop) (k:Nat):Nat->Array Bool->Act->World->Prop
 | 0,listed,a,w=>Region.ready md ops listed=[]/\Q .normal a w
 | fuel+1,listed,a,w=>
  (Region.ready md ops listed=[]->Q .normal a w) /\
  ∀ i∈Region.ready md ops listed,wpOp P ops Q i (fun a' w'=>(i≠k->S w')/\QbE P md ops Q S k fuel (listed.setIfInBounds i true) a' w') a w
theorem QhU:∀ (fuel:Nat) (listed:Array Bool) (a:Act) (w:World),QbE P md ops Q S k fuel listed a w->wpAny P md ops Q fuel listed a w
 | 0,_,_,_,h=>h
 | fuel+1,_,_,_,h=>⟨h.1,fun i hi=>wpOp_mono (fun a' w' h'=>QhU fuel _ a' w' h'.2) (h.2 i hi)⟩
theorem QjN {i:Nat} {oi:Oper} {v:Value} (hi:ops[i]?=some oi) (hsel:∀ (j:Nat) (o:Oper) cs b,ops[j]?=some o->o.op≠.select cs b)
  (hik:i≠k) (hwait:∀ ok,ops[k]?=some ok->∃ e∈ok.after,Region.binds md e=true/\e.on=i)
  (hQ:∀ c a w,Q (.panic c) (a.put oi.dst v) w->Q (.panic c) a w) :
  ∀ (fuel:Nat) (listed:Array Bool) (a:Act) (w:World),
   (∀ j oj,ops[j]?=some oj->j≠i->listed.getD j true=false->(∀ e∈oj.after,Region.binds md e=true->e.on≠i)->oi.apart ops oj=true) ->
   i∈Region.ready md ops listed->YieldsIf P ops S oi v a->S w ->
   QbE P md ops Q S k fuel (listed.setIfInBounds i true) (a.put oi.dst v) w->QbE P md ops Q S k (fuel+1) listed a w:=by
 intro fuel
 induction fuel with
 | zero=>
  intro listed a w _ hr hy hS H;refine ⟨fun h=>(by rw [h] at hr;cases hr),fun j hj=>?_⟩;by_cases aa:j=i
  ·subst aa;exact hy.wpOp hi hS ⟨fun _=>hS,H⟩
  ·have:=ready_mono hj aa
   rw [H.1] at this
   cases this
 | succ fuel ih=>
  intro listed a w ab hr hy hS H;refine ⟨fun h=>(by rw [h] at hr;cases hr),fun j hj=>?_⟩;by_cases aa:j=i
  ·subst aa;exact hy.wpOp hi hS ⟨fun _=>hS,H⟩
  ·have h1:=H.2 j (ready_mono hj aa)
   obtain ⟨ad,oj,af,ah⟩:=mem_ready.1 hj
   have ae:∀ e∈oj.after,Region.binds md e=true->e.on≠i:=fun e he hb ag=>by
    have h1:=ah e he hb;have h0:=(mem_ready.1 hr).1;rw [ag] at h1;rcases Nat.lt_or_ge i listed.size with h' | h'
    ·simp [h'] at h0 h1;rw [h0] at h1;cases h1
    ·simp [Array.getElem?_eq_none h'] at h1
   have aj:j≠k:=fun e=>by
    subst e;obtain ⟨e,he,hb,ag⟩:=hwait oj af;exact ae e he hb ag
   have h2:=wpOp_putIf af (ab j oj af aa ad ae) (fun cs b=>hsel i oi cs b hi) (fun cs b=>hsel j oj cs b af) hQ hy h1
   have ac:∀ q oq,ops[q]?=some oq->q≠i->(listed.setIfInBounds j true).getD q true=false ->
     (∀ e∈oq.after,Region.binds md e=true->e.on≠i)->oi.apart ops oq=true:=fun q oq hq hqi hun hno=>by
    refine ab q oq hq hqi ?_ hno;by_cases ai:j=q
    ·subst ai;exact ad
    ·rw [getD_set_ne true ai] at hun;exact hun
   refine wpOp_mono (fun a' w' h3=>⟨h3.2.1,ih (listed.setIfInBounds j true) a' w' ac (ready_mono hr (Ne.symm aa)) h3.1 (h3.2.1 aj) ?_⟩) h2;rw [Array.setIfInBounds_comm _ _ aa];exact h3.2.2
def Qmy (md:Region.Mode) (ops:Array Oper) (k i:Nat):Bool:=match ops[k]? with
 | some o=>o.after.toList.any (fun e=>Region.binds md e && e.on == i)
 | none=>true
theorem Ql9 {md:Region.Mode} {ops:Array Oper} {k i:Nat} (h:Qmy md ops k i=true):∀ ok,ops[k]?=some ok->∃ e∈ok.after,Region.binds md e=true/\e.on=i:=fun ok hk=>by
 unfold Qmy at h;rw [hk] at h;obtain ⟨e,he,h2⟩:=List.any_eq_true.1 h;have:=Bool.and_eq_true_iff.1 h2;exact ⟨e,Array.mem_toList_iff.1 he,this.1,by simpa using this.2⟩
theorem QcY {i d:Nat} {oi:Oper} {v:Value} {fuel:Nat} {listed:Array Bool} {t:Array Value} {df:List Deferred} {w:World} (hi:ops[i]?=some oi) (hd:oi.dst=some d)
  (hs:Region.noSelect ops=true) (hf:Region.free md ops listed i=true) (hr:(Region.ready md ops listed).contains i=true) (hik:i≠k) (hw:Qmy md ops k i=true)
  (hQ:∀ c a w,Q (.panic c) (a.put oi.dst v) w->Q (.panic c) a w) (hy:YieldsIf P ops S oi v ⟨t,df⟩) (hS:S w)
  (h:QbE P md ops Q S k fuel (listed.setIfInBounds i true) ⟨t.setIfInBounds d v,df⟩ w):QbE P md ops Q S k (fuel+1) listed ⟨t,df⟩ w:=by
 refine QjN hi (Region.noSelect_spec hs) hik (Ql9 hw) hQ fuel listed ⟨t,df⟩ w (Region.free_spec hi hf) (by simpa using hr) hy hS ?_;rw [hd];exact h
theorem tkL (i:Nat) (v:Value) {d:Nat} {oi:Oper} {fuel:Nat} {listed:Array Bool} {t:Array Value} {df:List Deferred} {w:World} (hS:S w)
  (hy:∀ W,S W->(execOp (Act.eval ⟨t,df⟩) oi).run P W=.ok (.value v) W) (h:QbE P md ops Q S k fuel (listed.setIfInBounds i true) ⟨t.setIfInBounds d v,df⟩ w) (hi:ops[i]?=some oi:=by exact rfl) (hd:oi.dst=some d:=by exact rfl)
  (hs:Region.noSelect ops=true:=by kernel_rfl) (hf:Region.free md ops listed i=true:=by kernel_rfl) (hr:(Region.ready md ops listed).contains i=true:=by kernel_rfl) (hik:i≠k:=by decide) (hw:Qmy md ops k i=true:=by kernel_rfl)
  (hQ:∀ c a w,Q (.panic c) (a.put oi.dst v) w->Q (.panic c) a w:=by exact fun _ _ _ h=>h) (hwt:Region.wanted oi (yielded ops t)=true:=by rfl):QbE P md ops Q S k (fuel+1) listed ⟨t,df⟩ w:=
 QcY hi hd hs hf hr hik hw hQ (Or.inl ⟨hwt,hy⟩) hS h
theorem tkS (i:Nat) (v:Value) {d:Nat} {oi:Oper} {fuel:Nat} {listed:Array Bool} {t:Array Value} {df:List Deferred} {w:World} (hS:S w)
  (h:QbE P md ops Q S k fuel (listed.setIfInBounds i true) ⟨t.setIfInBounds d v,df⟩ w) (hi:ops[i]?=some oi:=by exact rfl) (hd:oi.dst=some d:=by exact rfl) (hy:∀ W,S W->(execOp (Act.eval ⟨t,df⟩) oi).run P W=.ok (.value v) W:=by intro W hW;clear hW;go_simp)
  (hs:Region.noSelect ops=true:=by kernel_rfl) (hf:Region.free md ops listed i=true:=by kernel_rfl) (hr:(Region.ready md ops listed).contains i=true:=by kernel_rfl) (hik:i≠k:=by decide) (hw:Qmy md ops k i=true:=by kernel_rfl)
  (hQ:∀ c a w,Q (.panic c) (a.put oi.dst v) w->Q (.panic c) a w:=by exact fun _ _ _ h=>h) (hwt:Region.wanted oi (yielded ops t)=true:=by rfl):QbE P md ops Q S k (fuel+1) listed ⟨t,df⟩ w:=
 QcY hi hd hs hf hr hik hw hQ (Or.inl ⟨hwt,hy⟩) hS h
theorem tkU (i:Nat) {d:Nat} {oi:Oper} {fuel:Nat} {listed:Array Bool} {t:Array Value} {df:List Deferred} {w:World} (hS:S w)
  (h:QbE P md ops Q S k fuel (listed.setIfInBounds i true) ⟨t.setIfInBounds d undef,df⟩ w) (hi:ops[i]?=some oi:=by exact rfl) (hd:oi.dst=some d:=by exact rfl)
  (hs:Region.noSelect ops=true:=by kernel_rfl) (hf:Region.free md ops listed i=true:=by kernel_rfl) (hr:(Region.ready md ops listed).contains i=true:=by kernel_rfl) (hik:i≠k:=by decide) (hw:Qmy md ops k i=true:=by kernel_rfl)
  (hQ:∀ c a w,Q (.panic c) (a.put oi.dst undef) w->Q (.panic c) a w:=by exact fun _ _ _ h=>h) (hwt:Region.wanted oi (yielded ops t)=false:=by rfl):QbE P md ops Q S k (fuel+1) listed ⟨t,df⟩ w:=
 QcY hi hd hs hf hr hik hw hQ (Or.inr ⟨hwt,rfl⟩) hS h
theorem oneK {i:Nat} {oi:Oper} {fuel:Nat} {listed:Array Bool} {a:Act} {w:World} (hr:Region.ready md ops listed=[i]) (hi:ops[i]?=some oi)
  (h:∀ K':Act->World->Prop,Shut (∀ a w,(i≠k->S w)->QbE P md ops Q S k fuel (listed.setIfInBounds i true) a w->K' a w)->if Region.wanted oi (yielded ops a.tmps)=true then Oper.wp P oi a w K' Q else K' (a.put oi.dst undef) w) :
  QbE P md ops Q S k (fuel+1) listed a w:=by
 refine ⟨fun h0=>(by rw [hr] at h0;cases h0),fun j hj=>?_⟩;rw [hr] at hj;obtain rfl:j=i:=by simpa using hj
 exact wpOp_step hi (fun K' hK=>h K' (fun a w hS hW=>hK a w ⟨hS,hW⟩))
theorem onE (i:Nat) {oi:Oper} {fuel:Nat} {listed:Array Bool} {a:Act} {w:World} 
  (h:∀ K':Act->World->Prop,Shut (∀ a w,(i≠k->S w)->QbE P md ops Q S k fuel (listed.setIfInBounds i true) a w->K' a w)->if Region.wanted oi (yielded ops a.tmps)=true then Oper.wp P oi a w K' Q else K' (a.put oi.dst undef) w)
  (hr:Region.ready md ops listed=[i]:=by kernel_rfl) (hi:ops[i]?=some oi:=by exact rfl):QbE P md ops Q S k (fuel+1) listed a w:=oneK hr hi h
theorem Qas {listed:Array Bool} {a:Act} {w:World} (hr:Region.ready md ops listed=[]) (h:Q .normal a w):∀ fuel,QbE P md ops Q S k fuel listed a w
 | 0=>⟨hr,h⟩
 | _+1=>⟨fun _=>h,by rw [hr];simp⟩
theorem dnE {listed:Array Bool} {a:Act} {w:World} (h:Q .normal a w) (fuel:Nat) (hr:Region.ready md ops listed=[]:=by kernel_rfl):QbE P md ops Q S k fuel listed a w:=Qas hr h fuel
theorem Qaj {id:Nat} {a:Act} {w:World} (S:World->Prop) (k:Nat) (hm:P.follows .mixedOrders=true) (h:QbE P .any ops Q S k ops.size (Array.replicate ops.size false) a w.drew):(Code.region id ops true).wp P Q a w:=
 wp_region_any hm (QhU _ _ _ _ h)
end
open Go.ChangeAt Go.ChangeShapes Go.Lib Go.PlainAid Go.WideShapes
def fl {α:Type} (e:α->List Value) (xs:List α):List Value:=xs.flatMap e
theorem Qm9 {α:Type} (e:α->List Value) (xs ys:List α):fl e (xs ++ ys)=fl e xs ++ fl e ys:=by simp [fl]
theorem Qp0 {α:Type} (e:α->List Value) (x:α):fl e [x]=e x:=by simp [fl]
theorem Qcs {α:Type} (e:α->List Value) (x:α) (xs:List α):fl e (x :: xs)=e x ++ fl e xs:=by simp [fl]
theorem QcO {α:Type} {e:α->List Value} (he:∀ x,(e x).length=2):∀ xs:List α,(fl e xs).length=xs.length*2
 | []=>rfl
 | x :: xs=>by rw [Qcs,List.length_append,he,QcO he xs,List.length_cons];omega
theorem Qi7 {α:Type} {e:α->List Value} (he:∀ x,(e x).length=2):∀ (xs:List α) (i:Nat) (x:α) (c:Nat),c<2->xs[i]?=some x->(fl e xs)[i*2+c]?=(e x)[c]?
 | [],i,x,c,hc,h=>by simp at h
 | y :: xs,0,x,c,hc,h=>by
  obtain rfl:y=x:=by simpa using h
  rw [Qcs,List.getElem?_append_left (by rw [he];omega),Nat.zero_mul,Nat.zero_add]
 | y :: xs,i+1,x,c,hc,h=>by
  rw [Qcs,List.getElem?_append_right (by rw [he];omega),he,show (i+1)*2+c - 2=i*2+c by omega];exact Qi7 he xs i x c hc (by simpa using h)
theorem Qlp {α:Type} {e:α->List Value} (he:∀ x,(e x).length=2) {u v:Value}:∀ (xs:List α) (i:Nat) (y:α),i<xs.length->e y=[u,v]->((fl e xs).set (i*2) u).set (i*2+1) v=fl e (xs.set i y)
 | [],i,y,h,_=>by simp at h
 | x :: xs,0,y,h,hy=>by
  have hx:=he x
  match hq:e x,hx with
  | [a,b],_=>rw [Qcs,hq,List.set_cons_zero,Qcs,hy];rfl
 | x :: xs,i+1,y,h,hy=>by
  have h':i<xs.length:=by simpa using h
  rw [Qcs,List.set_cons_succ,Qcs,<- Qlp he xs i y h' hy];rw [List.set_append_right _ _ (by rw [he];omega),he,List.set_append_right _ _ (by rw [he];omega),he,show (i+1)*2 - 2=i*2 by omega,show (i+1)*2+1 - 2=i*2+1 by omega]
theorem QaP {W:World} {cs:Array Value} {t:TypeId} {g:Nat} (hg:W.heap.size=g) (j:Nat) (u:Value) (hj:cs.toList[j]?=some u):(W.alloc (.cells cs t)).cell? ((⟨g,0,none⟩:Addr).add j)=some u:=by
 subst hg;have hb:(W.alloc (.cells cs t)).heap[W.heap.size]?=some (.cells cs t (0,0)):=heap_alloc_new W _;rw [Addr.add_lit,Nat.zero_add,cell_of_row _ W.heap.size j _ _ (0,0) hb]
 simpa using hj
theorem QjU {w:World} {B g c n:Nat} {T:TypeId} {s:Nat} {xs:List Value} (h:w.ownsRow B T s (.slice (some ⟨g,0,none⟩) n c) n xs):n<=c:=by
 rcases h.2 with ⟨e,_⟩ | ⟨g',c',aa,e,_,_,h1,_⟩
 ·cases e
 ·cases e;exact h1
theorem Qff {w:World} {B n:Nat} {T:TypeId} {s:Nat} {v:Value} {xs:List Value} (h:w.ownsRow B T s v n xs) (hn:0<n):∃ g c,v=.slice (some ⟨g,0,none⟩) n c:=by
 rcases h.2 with ⟨_,e⟩ | ⟨g,c,_,e,_⟩
 ·omega
 ·exact ⟨g,c,e⟩
theorem Qis {w:World} {B g c n:Nat} {T:TypeId} {s:Nat} {xs:List Value} (h:w.ownsRow B T s (.slice (some ⟨g,0,none⟩) n c) n xs):c<=9223372036854775807:=by
 rcases h.2 with ⟨e,_⟩ | ⟨g',c',aa,e,_,_,_,h1,_⟩
 ·cases e
 ·cases e;exact h1
theorem Qaa {p:Prop} (h:p):Hid p:=h
theorem Qg8 (w:World) (a b:Nat):(w.drewN a).drewN b=w.drewN (a+b):=by simp [World.drewN,Nat.add_assoc]
theorem QaU {w w':World} {B:Nat} {T:TypeId} {s:Nat} {v:Value} {n:Nat} {xs:List Value} (h:w.ownsRow B T s v n xs) (hb:Below w.heap.size w w'):w'.ownsRow B T s v n xs:=by
 refine ⟨h.1,?_⟩;rcases h.2 with h | ⟨g,ab,aa,e,h1,h2,h3⟩
 ·exact .inl h
 ·exact .inr ⟨g,ab,aa,e,h1,by rw [hb.block g (Array.getElem?_eq_some_iff.1 h2).1];exact h2,h3⟩
theorem Qam {w:World} {B n:Nat} {T:TypeId} {s:Nat} {v:Value} {xs:List Value} (h:w.ownsRow B T s v n xs):∃ ao c,v=.slice ao n c:=by
 rcases h.2 with ⟨e,e2⟩ | ⟨g,c,_,e,_⟩
 ·subst e2;exact ⟨_,_,e⟩
 ·exact ⟨_,_,e⟩
theorem Qah {B:Nat} {a w:World} (h:Below B a w) (n:Nat):Below B a (w.drewN n):=h.trans ⟨rfl,rfl,rfl,Nat.le_refl _,fun _ _=>rfl⟩
theorem Qau (w:World) (g o:Nat) (u:Value):w.grownBy (w.setCell ⟨g,o,none⟩ u) (some g):=
 ⟨rfl,rfl,rfl,by simp [World.setCell],fun k hk hne=>Below.heap_setCell _ _ _ _ (fun e=>hne (by rw [e]))⟩
abbrev Bn:=Int×Int
def QaL (x:Bn):List Value:=[.int .i64 x.1,.int .u64 x.2]
theorem Qbx (x:Bn):(QaL x).length=2:=rfl
theorem Qb5 (m:Bn):∀ u∈QaL m,u.oneCell'=true:=fun u hu=>by simp [QaL] at hu;rcases hu with rfl | rfl <;> rfl
theorem QfM (R:List Bn):∀ u∈fl QaL R,u.oneCell'=true:=fun u hu=>by
 obtain ⟨m,_,h⟩:=List.mem_flatMap.1 hu;exact Qb5 m u h
def Qa8 (x:Bn):Prop:=I64 x.1/\U64 x.2
def QaA (w:World) (ao:Option Addr) (L:List Bn):Prop:=
 0<L.length->∃ b off,ao=some ⟨b,off,none⟩/\∀ i x,L[i]?=some x->w.cell? ⟨b,off+i*2,none⟩=some (.int .i64 x.1)/\w.cell? ⟨b,off+i*2+1,none⟩=some (.int .u64 x.2)
theorem Qae {w w':World} {ao:Option Addr} {L:List Bn} (h:QaA w ao L) (hb:Below w.heap.size w w'):QaA w' ao L:=fun h0=>by
 obtain ⟨b,off,e,hc⟩:=h h0;exact ⟨b,off,e,fun i x hx=>⟨Qab hb (hc i x hx).1,Qab hb (hc i x hx).2⟩⟩
theorem QdF {w:World} {B g c n:Nat} {T:TypeId} {L:List Bn} {k:Nat} {x:Bn} (h:w.ownsRow B T 2 (.slice (some ⟨g,0,none⟩) n c) n (fl QaL L)) (hn:n=L.length) (hk:L[k]?=some x) :
  w.cell? ⟨g,k*2,none⟩=some (.int .i64 x.1)/\w.cell? ⟨g,k*2+1,none⟩=some (.int .u64 x.2):=by
 have aa:=(List.getElem?_eq_some_iff.1 hk).1;have h0:=Qi7 Qbx L k x 0 (by omega) hk;have h1:=Qi7 Qbx L k x 1 (by omega) hk;rw [Nat.add_zero] at h0;exact ⟨by rw [h.cellAt (k*2) (by omega),h0];rfl,by rw [h.cellAt (k*2+1) (by omega),h1];rfl⟩
theorem Qkb {w:World} {B n:Nat} {T:TypeId} {v:Value} {R:List Bn} {k:Nat} {x:Bn} (h:w.ownsRow B T 2 v n (fl QaL R)) (hn:n=R.length) (hk:R[k]?=some x) :
  ∃ g c,v=.slice (some ⟨g,0,none⟩) n c/\w.cell? ⟨g,k*2,none⟩=some (.int .i64 x.1)/\w.cell? ⟨g,k*2+1,none⟩=some (.int .u64 x.2)/\w.frozen? ⟨g,k*2,none⟩=false/\w.frozen? ⟨g,k*2+1,none⟩=false/\g<w.heap.size:=by
 have aa:=(List.getElem?_eq_some_iff.1 hk).1;obtain ⟨g,c,rfl⟩:=Qff h (by omega);obtain ⟨h0,h1⟩:=QdF h hn hk;exact ⟨g,c,rfl,h0,h1,h.frozenAt _,h.frozenAt _,World.block_lt_of_cell? _ _ h0⟩
def fillB (L:List Bn) (k:Nat):List Bn:=L.take k ++ List.replicate (L.length - k) (0,0)
theorem QgE:(Tryz.prog.info? 199).map (fun i=>(i.zero,i.size,i.bytes))=some (some (.agg #[.int .i64 0,.int .u64 0]),2,16):=by kernel_rfl
theorem QaE {w:World} {B B' size n:Nat} {e:TypeId} {v:Value} {xs:List Value} (h:w.ownsRow B e size v n xs) (hb:B'<=B):w.ownsRow B' e size v n xs:=by
 refine ⟨h.1,?_⟩;rcases h.2 with h | ⟨g,ab,aa,e,h1,h2⟩
 ·exact .inl h
 ·exact .inr ⟨g,ab,aa,e,Nat.le_trans hb h1,h2⟩
theorem Qlf {w:World} {B g c n:Nat} {T:TypeId} {s:Nat} {xs:List Value} (h:w.ownsRow B T s (.slice (some ⟨g,0,none⟩) n c) n xs):B<=g/\g<w.heap.size:=by
 rcases h.2 with ⟨e,_⟩ | ⟨g',c',aa,e,h1,h2,_⟩
 ·cases e
 ·cases e;exact ⟨h1,(Array.getElem?_eq_some_iff.1 h2).1⟩
theorem Qq8 (w:World) (o1 o3:Obj) (cs:Array Value) (t:TypeId):(((w.alloc o1).alloc (.cells cs t)).alloc o3).heap[w.heap.size+1]?=some (.cells cs t (0,0)):=by
 have h:=heap_alloc_new (w.alloc o1) (.cells cs t);have hb:Below (w.heap.size+1+1) ((w.alloc o1).alloc (.cells cs t)) (((w.alloc o1).alloc (.cells cs t)).alloc o3):=(Below.refl _ _).alloc (by simp) _;rw [hb.block (w.heap.size+1) (by omega)]
 simpa using h
end Go.Proofs.YtandnmpllheniaaGreatDoor
namespace Go.Proofs.YtandnmpllheniaaGreatDoor
open Go.ChangeShapes Go.WideShapes Go.ChangeAt Go.RowKit
theorem QkD (x y c:Int) (hx:0<=x) (hy:0<=y) (hc0:0<=c) (hc:c<=1) (w:World) :
  (callFunc 128 #[.int .u64 x,.int .u64 y,.int .u64 c]).run Tryz.prog w =
   .ok (.value (.tuple #[.int .u64 (uw (x+y+c)),.int .u64 (Qhl x (y+c))])) w:=by
 rw [run_callFunc_extern Tryz.func128 (by kernel_rfl) (by kernel_rfl) (by kernel_rfl) (e:=add64Entry) (by kernel_rfl),run_add64 x y c hx hy hc0 hc];simp only [Result.andThen];unfold uw Qhl;rw [<- Int.add_assoc]
theorem QbN (a b c d:Int) (w:World) (hb:U64 b) (hd:U64 d) :
  Calls Tryz.prog 133 #[.agg #[.int .i64 a,.int .u64 b],.agg #[.int .i64 c,.int .u64 d]] w fun e w'=>e=.returned (.agg #[.int .i64 (QaO a b c d),.int .u64 (QaS b d)])/\Below w.heap.size w w':=by
 have Hb:Hid (U64 b):=hb;have Hd:Hid (U64 d):=hd;clear hb hd;go_enter Tryz.func133,Tryz.ntmps133;go_wp2
 ·refine bodyPost_ret (v:=.agg #[.int .i64 (wrap64 (IntKind.u64.wrap (IntKind.u64.wrap (IntKind.u64.wrap a+IntKind.u64.wrap c)+1))),.int .u64 (IntKind.u64.wrap (b+d))]) (by simp [results,Tryz.results133,go_sem]) rfl ⟨Qd2 ?_ ?_,(((Below.refl _ _).alloc (Nat.le_refl _) _).alloc (by simp) _).alloc (by simp;omega) _⟩
  ·have aa:=‹IntKind.u64.wrap (b+d)<b›
   have hb:=Hb.out;have hd:=Hd.out;simp only [IntKind.wrap_u64] at aa ⊢;unfold U64 at hb hd;unfold QaO Qhl wrap64;omega
  ·rw [IntKind.wrap_u64];rfl
 ·refine bodyPost_ret (v:=.agg #[.int .i64 (wrap64 (IntKind.u64.wrap (IntKind.u64.wrap a+IntKind.u64.wrap c))),.int .u64 (IntKind.u64.wrap (b+d))]) (by simp [results,Tryz.results133,go_sem]) rfl ⟨Qd2 ?_ ?_,(((Below.refl _ _).alloc (Nat.le_refl _) _).alloc (by simp) _).alloc (by simp;omega) _⟩
  ·have aa:=‹b<=IntKind.u64.wrap (b+d)›
   have hb:=Hb.out;have hd:=Hd.out;simp only [IntKind.wrap_u64] at aa ⊢;unfold U64 at hb hd;unfold QaO Qhl wrap64;omega
  ·rw [IntKind.wrap_u64];rfl
theorem Qb1 (a b c d:Int) (w:World) (hb:U64 b) (hd:U64 d) :
  Calls Tryz.prog 279 #[.agg #[.int .i64 a,.int .u64 b],.agg #[.int .i64 c,.int .u64 d]] w fun e w'=>e=.returned (.agg #[.int .i64 (QaO a b c d),.int .u64 (QaS b d)])/\Below w.heap.size w w':=by
 have a1:=QeJ a;have a2:=QeJ c;have ec:Qhl b d=Qhl b (d+0):=by simp
 have hc:0<=Qhl b d/\Qhl b d<=1:=by unfold U64 at hb hd;unfold Qhl;omega
 have k1:=fun w=>QkD b d 0 hb.1 hd.1 (by omega) (by omega) w;have k2:=fun w=>QkD (uw a) (uw c) (Qhl b d) a1.1 a2.1 hc.1 hc.2 w;have e1:IntKind.u64.wrap a=uw a:=IntKind.wrap_u64 a;have e2:IntKind.u64.wrap c=uw c:=IntKind.wrap_u64 c;have HF:Hid (wrap64 (uw (uw a+uw c+Qhl b d))=QaO a b c d/\uw (b+d)=QaS b d):=⟨by unfold QaO wrap64 uw;omega,rfl⟩;clear hb hd a1 a2 ec hc;go_enter Tryz.func279,Tryz.ntmps279;go_wp2;exact bodyPost_ret (v:=.agg #[.int .i64 (wrap64 (uw (uw a+uw c+Qhl b d))),.int .u64 (uw (b+d))]) (by simp [results,Tryz.results279,go_sem]) rfl ⟨Qd2 HF.out.1 HF.out.2,(((Below.refl _ _).alloc (Nat.le_refl _) _).alloc (by simp) _).alloc (by simp;omega) _⟩
open Go.Lib Go.PlainAid
abbrev Qbb (w:World) (g:Nat) (z:Int) (p n:Value) (h l:Int):Prop:=w.cell? ⟨g,0,none⟩=some (.int .u64 z)/\w.cell? ⟨g,1,none⟩=some p/\w.cell? ⟨g,2,none⟩=some n/\w.cell? ⟨g,3,none⟩=some (.int .i64 h)/\w.cell? ⟨g,4,none⟩=some (.int .u64 l)
theorem QaB {w w':World} {g:Nat} {z h l:Int} {p n:Value} (k:Qbb w g z p n h l) (hb:Below w.heap.size w w'):Qbb w' g z p n h l:=
 ⟨Qab hb k.1,Qab hb k.2.1,Qab hb k.2.2.1,Qab hb k.2.2.2.1,Qab hb k.2.2.2.2⟩
theorem QdD (w:World) (t:TypeId) (z h l:Int) (p n:Value):Qbb (w.alloc (.cells #[.int .u64 z,p,n,.int .i64 h,.int .u64 l] t)) w.heap.size z p n h l:=by
 have hb:=heap_alloc_new w (.cells #[.int .u64 z,p,n,.int .i64 h,.int .u64 l] t);exact ⟨by rw [cell_of_row _ w.heap.size 0 _ _ (0,0) hb];rfl,by rw [cell_of_row _ w.heap.size 1 _ _ (0,0) hb];rfl,by rw [cell_of_row _ w.heap.size 2 _ _ (0,0) hb];rfl,by rw [cell_of_row _ w.heap.size 3 _ _ (0,0) hb];rfl,by rw [cell_of_row _ w.heap.size 4 _ _ (0,0) hb];rfl⟩
theorem Qad {w:World} {r:Nat} {cs:Array Value} {T:TypeId} (h:w.heap[r]?=some (.cells cs T (0,0))) (j:Nat) {v:Value} (e:cs[j]?=some v):w.cell? ⟨r,j,none⟩=some v:=by rw [cell_of_row _ _ j _ _ (0,0) h];exact e
theorem cA4 {w:World} {r:Nat} {T:TypeId} {a0 a1 a2 a3:Value} (h:w.heap[r]?=some (.cells #[a0,a1,a2,a3] T (0,0))):w.cell? ⟨r,0,none⟩=some a0/\w.cell? ⟨r,1,none⟩=some a1/\w.cell? ⟨r,2,none⟩=some a2/\w.cell? ⟨r,3,none⟩=some a3:=⟨Qad h 0 rfl,Qad h 1 rfl,Qad h 2 rfl,Qad h 3 rfl⟩
theorem cA7 {w:World} {r:Nat} {T:TypeId} {a0 a1 a2 a3 a4 a5 a6:Value} (h:w.heap[r]?=some (.cells #[a0,a1,a2,a3,a4,a5,a6] T (0,0))):w.cell? ⟨r,0,none⟩=some a0/\w.cell? ⟨r,1,none⟩=some a1/\w.cell? ⟨r,2,none⟩=some a2/\w.cell? ⟨r,3,none⟩=some a3/\w.cell? ⟨r,4,none⟩=some a4/\w.cell? ⟨r,5,none⟩=some a5/\w.cell? ⟨r,6,none⟩=some a6:=⟨Qad h 0 rfl,Qad h 1 rfl,Qad h 2 rfl,Qad h 3 rfl,Qad h 4 rfl,Qad h 5 rfl,Qad h 6 rfl⟩
theorem Qbt {w:World} {r:Nat} {T:TypeId} {a0 a1 a2 a3 a4 a5 a6 a7 a8 a9 a10 a11 a12:Value} (h:w.heap[r]?=some (.cells #[a0,a1,a2,a3,a4,a5,a6,a7,a8,a9,a10,a11,a12] T (0,0))):w.cell? ⟨r,0,none⟩=some a0/\w.cell? ⟨r,1,none⟩=some a1/\w.cell? ⟨r,2,none⟩=some a2/\w.cell? ⟨r,3,none⟩=some a3/\w.cell? ⟨r,4,none⟩=some a4/\w.cell? ⟨r,5,none⟩=some a5/\w.cell? ⟨r,6,none⟩=some a6/\w.cell? ⟨r,7,none⟩=some a7/\w.cell? ⟨r,8,none⟩=some a8/\w.cell? ⟨r,9,none⟩=some a9/\w.cell? ⟨r,10,none⟩=some a10/\w.cell? ⟨r,11,none⟩=some a11/\w.cell? ⟨r,12,none⟩=some a12:=⟨Qad h 0 rfl,Qad h 1 rfl,Qad h 2 rfl,Qad h 3 rfl,Qad h 4 rfl,Qad h 5 rfl,Qad h 6 rfl,Qad h 7 rfl,Qad h 8 rfl,Qad h 9 rfl,Qad h 10 rfl,Qad h 11 rfl,Qad h 12 rfl⟩
theorem Qoz {w:World} {r:Nat} {T:TypeId} {a0 a1 a2 a3 a4 a5 a6 a7 a8 a9 a10 a11 a12 a13 a14:Value} (h:w.heap[r]?=some (.cells #[a0,a1,a2,a3,a4,a5,a6,a7,a8,a9,a10,a11,a12,a13,a14] T (0,0))):w.cell? ⟨r,0,none⟩=some a0/\w.cell? ⟨r,1,none⟩=some a1/\w.cell? ⟨r,2,none⟩=some a2/\w.cell? ⟨r,3,none⟩=some a3/\w.cell? ⟨r,4,none⟩=some a4/\w.cell? ⟨r,5,none⟩=some a5/\w.cell? ⟨r,6,none⟩=some a6/\w.cell? ⟨r,7,none⟩=some a7/\w.cell? ⟨r,8,none⟩=some a8/\w.cell? ⟨r,9,none⟩=some a9/\w.cell? ⟨r,10,none⟩=some a10/\w.cell? ⟨r,11,none⟩=some a11/\w.cell? ⟨r,12,none⟩=some a12/\w.cell? ⟨r,13,none⟩=some a13/\w.cell? ⟨r,14,none⟩=some a14:=⟨Qad h 0 rfl,Qad h 1 rfl,Qad h 2 rfl,Qad h 3 rfl,Qad h 4 rfl,Qad h 5 rfl,Qad h 6 rfl,Qad h 7 rfl,Qad h 8 rfl,Qad h 9 rfl,Qad h 10 rfl,Qad h 11 rfl,Qad h 12 rfl,Qad h 13 rfl,Qad h 14 rfl⟩
theorem fA4 {w:World} {r:Nat} {T:TypeId} {cs:Array Value} (h:w.heap[r]?=some (.cells cs T (0,0))):w.frozen? ⟨r,0,none⟩=false/\w.frozen? ⟨r,1,none⟩=false/\w.frozen? ⟨r,2,none⟩=false/\w.frozen? ⟨r,3,none⟩=false:=⟨frozen_of_row w r 0 _ _ h,frozen_of_row w r 1 _ _ h,frozen_of_row w r 2 _ _ h,frozen_of_row w r 3 _ _ h⟩
theorem fA5 {w:World} {r:Nat} {T:TypeId} {cs:Array Value} (h:w.heap[r]?=some (.cells cs T (0,0))):w.frozen? ⟨r,0,none⟩=false/\w.frozen? ⟨r,1,none⟩=false/\w.frozen? ⟨r,2,none⟩=false/\w.frozen? ⟨r,3,none⟩=false/\w.frozen? ⟨r,4,none⟩=false:=⟨frozen_of_row w r 0 _ _ h,frozen_of_row w r 1 _ _ h,frozen_of_row w r 2 _ _ h,frozen_of_row w r 3 _ _ h,frozen_of_row w r 4 _ _ h⟩
theorem fA7 {w:World} {r:Nat} {T:TypeId} {cs:Array Value} (h:w.heap[r]?=some (.cells cs T (0,0))):w.frozen? ⟨r,0,none⟩=false/\w.frozen? ⟨r,1,none⟩=false/\w.frozen? ⟨r,2,none⟩=false/\w.frozen? ⟨r,3,none⟩=false/\w.frozen? ⟨r,4,none⟩=false/\w.frozen? ⟨r,5,none⟩=false/\w.frozen? ⟨r,6,none⟩=false:=⟨frozen_of_row w r 0 _ _ h,frozen_of_row w r 1 _ _ h,frozen_of_row w r 2 _ _ h,frozen_of_row w r 3 _ _ h,frozen_of_row w r 4 _ _ h,frozen_of_row w r 5 _ _ h,frozen_of_row w r 6 _ _ h⟩
theorem QcN {w:World} {r:Nat} {T:TypeId} {cs:Array Value} (h:w.heap[r]?=some (.cells cs T (0,0))):w.frozen? ⟨r,0,none⟩=false/\w.frozen? ⟨r,1,none⟩=false/\w.frozen? ⟨r,2,none⟩=false/\w.frozen? ⟨r,3,none⟩=false/\w.frozen? ⟨r,4,none⟩=false/\w.frozen? ⟨r,5,none⟩=false/\w.frozen? ⟨r,6,none⟩=false/\w.frozen? ⟨r,7,none⟩=false/\w.frozen? ⟨r,8,none⟩=false/\w.frozen? ⟨r,9,none⟩=false/\w.frozen? ⟨r,10,none⟩=false/\w.frozen? ⟨r,11,none⟩=false/\w.frozen? ⟨r,12,none⟩=false:=⟨frozen_of_row w r 0 _ _ h,frozen_of_row w r 1 _ _ h,frozen_of_row w r 2 _ _ h,frozen_of_row w r 3 _ _ h,frozen_of_row w r 4 _ _ h,frozen_of_row w r 5 _ _ h,frozen_of_row w r 6 _ _ h,frozen_of_row w r 7 _ _ h,frozen_of_row w r 8 _ _ h,frozen_of_row w r 9 _ _ h,frozen_of_row w r 10 _ _ h,frozen_of_row w r 11 _ _ h,frozen_of_row w r 12 _ _ h⟩
theorem fA15 {w:World} {r:Nat} {T:TypeId} {cs:Array Value} (h:w.heap[r]?=some (.cells cs T (0,0))):w.frozen? ⟨r,0,none⟩=false/\w.frozen? ⟨r,1,none⟩=false/\w.frozen? ⟨r,2,none⟩=false/\w.frozen? ⟨r,3,none⟩=false/\w.frozen? ⟨r,4,none⟩=false/\w.frozen? ⟨r,5,none⟩=false/\w.frozen? ⟨r,6,none⟩=false/\w.frozen? ⟨r,7,none⟩=false/\w.frozen? ⟨r,8,none⟩=false/\w.frozen? ⟨r,9,none⟩=false/\w.frozen? ⟨r,10,none⟩=false/\w.frozen? ⟨r,11,none⟩=false/\w.frozen? ⟨r,12,none⟩=false/\w.frozen? ⟨r,13,none⟩=false/\w.frozen? ⟨r,14,none⟩=false:=⟨frozen_of_row w r 0 _ _ h,frozen_of_row w r 1 _ _ h,frozen_of_row w r 2 _ _ h,frozen_of_row w r 3 _ _ h,frozen_of_row w r 4 _ _ h,frozen_of_row w r 5 _ _ h,frozen_of_row w r 6 _ _ h,frozen_of_row w r 7 _ _ h,frozen_of_row w r 8 _ _ h,frozen_of_row w r 9 _ _ h,frozen_of_row w r 10 _ _ h,frozen_of_row w r 11 _ _ h,frozen_of_row w r 12 _ _ h,frozen_of_row w r 13 _ _ h,frozen_of_row w r 14 _ _ h⟩
abbrev ZZa:=@Nat.le_refl
abbrev ZZb:=@Below.refl
abbrev ZZc:=@Array.getElem?_eq_some_iff
abbrev ZZd:=@List.getElem?_eq_some_iff
abbrev ZZe:=@List.getElem?_eq_getElem
abbrev ZZf:=@beq_eq_false_iff_ne
abbrev ZZg:=@decide_eq_false
abbrev ZZh:=@decide_eq_true
abbrev ZZi:=@IntWalk.i64_in
abbrev ZZj:=@Nat.zero_le
abbrev ZZk:=@heap_alloc_new
abbrev ZZl:=@heap_setCell_same
abbrev ZZm:=@List.mem_cons_of_mem
abbrev ZZn:=@List.mem_of_getElem?
abbrev ZZo:=@List.mem_of_mem_take
abbrev ZZp:=@List.mem_of_mem_drop
theorem gK {A:Prop} {S:World->Prop} {B K:Act->World->Prop} {a:Act} {w:World} (hK:Shut (∀ a w,(A->S w)->B a w->K a w)) (hS:S w) (h:B a w):K a w:=hK.out _ _ (fun _=>hS) h
theorem zI {k:IntKind} {n:Int}:Go.RowKit.intOf (.int k n)=n:=rfl
end Go.Proofs.YtandnmpllheniaaGreatDoor
