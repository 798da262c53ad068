/-
 Parts.
-/
import Derived.Test.YtdbaabbmcfnjbaaGreatDoorDVC
import Derived.Test.YtdbaabbmcfnjbaaGreatDoorDWM
import Derived.Lib.OwnKind
set_option maxRecDepth 10000
set_option maxHeartbeats 16000000
set_option linter.all false
namespace Go.Proofs.YtdbaabbmcfnjbaaGreatDoor
open Go.ChangeShapes Go.WideShapes Go.ChangeAt Go.RowKit Go.PlainAid Go.Lib Go.Maps Tryz
variable {W w w' w2:World}
variable {ao ea eb pa ra rb:Option Addr}
variable {B b c c1 c2 d1 d2 g k m1 m2 n n1 n2 ob off pc pn r:Nat}
variable {T:TypeId}
variable {b0 p q u0 u1 u2 v v0 v1 v2:Value}
variable {D d da t ta wt:Int}
section
abbrev Hv:=ByteArray×Int
def QbM (x:Hv):List Value:=[.string x.1,.int .i64 x.2]
theorem QeV (x:Hv):(QbM x).length=2:=rfl
theorem Qcp (m:Hv):∀ u∈QbM m,u.oneCell'=true:=fun u hu=>by simp [QbM] at hu;rcases hu with rfl | rfl <;> rfl
theorem QcU (R:List Hv):∀ u∈fl QbM R,u.oneCell'=true:=fun u hu=>by
 obtain ⟨m,_,h⟩:=List.mem_flatMap.1 hu;exact Qcp m u h
def HvOk (x:Hv):Prop:=x.1.size<=1048576/\I64 x.2
def Qc1 (w:World) (ao:Option Addr) (L:List Hv):Prop:=
 0<L.length->∃ b off,ao=some ⟨b,off,none⟩/\∀ i x,L[i]?=some x->w.cell? ⟨b,off+i*2,none⟩=some (.string x.1)/\w.cell? ⟨b,off+i*2+1,none⟩=some (.int .i64 x.2)
theorem Qbr {L:List Hv} (h:Qc1 w ao L) (hb:Below w.heap.size w w'):Qc1 w' ao L:=fun h0=>by
 obtain ⟨b,off,e,hc⟩:=h h0;exact ⟨b,off,e,fun i x hx=>⟨Qab hb (hc i x hx).1,Qab hb (hc i x hx).2⟩⟩
theorem QrZ {L:List Hv} {x:Hv} (h:w.ownsRow B T 2 (.slice (some ⟨g,0,none⟩) n c) n (fl QbM L)) (hn:n=L.length) (hk:L[k]?=some x) :
  w.cell? ⟨g,k*2,none⟩=some (.string x.1)/\w.cell? ⟨g,k*2+1,none⟩=some (.int .i64 x.2):=by
 have aa:=(ZZd.1 hk).1;have h0:=Qel QeV L k x 0 (by omega) hk;have h1:=Qel QeV L k x 1 (by omega) hk;rw [Nat.add_zero] at h0;exact ⟨by rw [h.cellAt (k*2) (by omega),h0];rfl,by rw [h.cellAt (k*2+1) (by omega),h1];rfl⟩
theorem QoZ {L:List Hv} (h:w.ownsRow B T 2 v n (fl QbM L)) (hn:n=L.length) (e:v=.slice ao n c):Qc1 w ao L:=fun h0=>by
 obtain ⟨g,c',e'⟩:=Qhq h (by omega);rw [e'] at e h
 cases e
 exact ⟨g,0,rfl,fun i x hx=>by have:=QrZ h hn hx;rw [Nat.zero_add];exact this⟩
theorem Qf5:(prog.info? 100).map (fun i=>(i.zero,i.size,i.bytes))=some (some (.agg #[.string ByteArray.empty,.int .i64 0]),2,24):=by kernel_rfl
abbrev QcW (w:World) (g:Nat) (p:Value) (d t:Int):Prop:=w.cell? ⟨g,0,none⟩=some p/\w.cell? ⟨g,1,none⟩=some (.int .i64 d)/\w.cell? ⟨g,2,none⟩=some (.int .i64 t)
theorem QhM (k:QcW w g p d t) (hb:Below w.heap.size w w'):QcW w' g p d t:=
 ⟨Qab hb k.1,Qab hb k.2.1,Qab hb k.2.2⟩
theorem Qsg (w:World) (T:TypeId) (p:Value) (d t:Int):QcW (w.alloc (.cells #[p,.int .i64 d,.int .i64 t] T)) w.heap.size p d t:=by
 have hb:=ZZk w (.cells #[p,.int .i64 d,.int .i64 t] T);exact ⟨by rw [cell_of_row _ w.heap.size 0 _ _ (0,0) hb];rfl,by rw [cell_of_row _ w.heap.size 1 _ _ (0,0) hb];rfl,by rw [cell_of_row _ w.heap.size 2 _ _ (0,0) hb];rfl⟩
end
section
def Qgy (u:ByteArray):Bool:=decide (1<=u.size) && decide (u.size<=100)
def aftB:Option ByteArray->ByteArray->Bool
 | none,_=>true
 | some p,u=>Qaz p u
def itB (t:Int):Option ByteArray->Int->List Hv->Bool
 | _,n,[]=>decide (n<=t)
 | p,n,x :: r=>Qgy x.1 && aftB p x.1 && decide (1<=x.2) && decide (x.2<=1000000000000000) && itB t (some x.1) (n+x.2) r
def Qcm (L:List Hv) (d t:Int):Bool:=decide (L.length<=5) && decide (0<=d) && decide (d<=1000000000000000) && decide (t<=1000000000000000) && itB t none (6*d) L
def Qgg (L:List Hv) (k:Nat):Option ByteArray:=match k with
 | 0=>none
 | j+1=>(L[j]?).map Prod.fst
theorem QgK {L:List Hv} {x:Hv} (h:L[k]?=some x):Qgg L (k+1)=some x.1:=by simp [Qgg,h]
theorem Qtp {L:List Hv} {x:Hv} (h:L[k]?=some x) (t:Int) (p:Option ByteArray) (n:Int):itB t p n (L.drop k)=(Qgy x.1 && aftB p x.1 && decide (1<=x.2) && decide (x.2<=1000000000000000) && itB t (some x.1) (n+x.2) (L.drop (k+1))):=by
 have hk:=(ZZd.1 h).1;rw [List.drop_eq_getElem_cons hk,(List.getElem?_eq_some_iff.1 h).2];rfl
theorem QqA:∀ {L:List Hv} {t:Int} {p:Option ByteArray} {n:Int},itB t p n L=true->n<=t
 | [],t,p,n,h=>by simpa [itB] using h
 | x :: r,t,p,n,h=>by
  simp only [itB,Bool.and_eq_true,decide_eq_true_eq] at h;have:=QqA h.2;omega
theorem it_end {L:List Hv} (h:L.length<=k) (t:Int) (p:Option ByteArray) (n:Int):itB t p n (L.drop k)=decide (n<=t):=by
 rw [List.drop_eq_nil_of_le h];rfl
theorem Qcf {a b:Bool} (h:a=b):Ending.returned (.bool a)=.returned (.bool b):=by rw [h]
theorem Qa0 (u:ByteArray) (w:World) (hu:u.size<=1048576) :
  Calls prog 60 #[.string u] w fun e w'=>e=.returned (.bool (Qgy u))/\w'=w:=by
 by_cases h:1<=u.size
 ·have d1:decide (1<=(u.size:Int))=true:=ZZh (by omega)
  have HE:Hid (decide ((u.size:Int)<=100)=Qgy u):=(by unfold Qgy;rw [decide_eq_true h,Bool.true_and];exact decide_eq_decide.2 (by omega):decide ((u.size:Int)<=100)=Qgy u);clear h;go_enter func60,ntmps60;go_wp2;go_ret;exact ⟨Qcf HE,rfl⟩
 ·have d1:decide (1<=(u.size:Int))=false:=ZZg (by omega)
  have HE:Hid (false=Qgy u):=(by unfold Qgy;rw [decide_eq_false h];rfl:false=Qgy u);clear h;go_enter func60,ntmps60;go_wp2;go_ret;exact ⟨Qcf HE,rfl⟩
end
section
def Qmk (L:List Hv):Prop:=∀ (i j:Nat) (x y:Hv),L[i]?=some x->L[j]?=some y->i<j->Qaz x.1 y.1=true
end
variable {y:Hv}
section
def Qay:List Hv->Hv->List Hv
 | [],x=>[x]
 | y :: r,x=>if Qaz y.1 x.1=true then y :: Qay r x else if y.1=x.1 then (y.1,y.2+x.2) :: r else x :: y :: r
theorem Qpo (x:Hv):∀ L:List Hv,L.length<=(Qay L x).length/\(Qay L x).length<=L.length+1
 | []=>by simp [Qay]
 | y :: r=>by
  have:=Qpo x r;unfold Qay
  split
  ·simp;omega
  ·split <;> simp
theorem riseH_cons {r:List Hv}:Qmk (y :: r)↔(∀ x∈r,Qaz y.1 x.1=true)/\Qmk r:=by
 constructor
 ·intro h
  refine ⟨fun x hx=>?_,fun i j a b ha hb aa=>h (i+1) (j+1) a b (by simpa using ha) (by simpa using hb) (by omega)⟩;obtain ⟨j,hj⟩:=List.getElem?_of_mem hx;exact h 0 (j+1) y x rfl (by simpa using hj) (by omega)
 ·rintro ⟨h1,h2⟩ i j a b ha hb aa
  cases i with
  | zero=>
   obtain rfl:y=a:=by simpa using ha
   cases j with
   | zero=>omega
   | succ j=>exact h1 b (List.mem_of_getElem? (by simpa using hb))
  | succ i=>
   cases j with
   | zero=>omega
   | succ j=>exact h2 i j a b (by simpa using ha) (by simpa using hb) (by omega)
theorem QoW {x:Hv}:∀ {L:List Hv} {z:Hv},z∈Qay L x->z=x∨z∈L∨∃ y∈L,y.1=x.1/\z=(y.1,y.2+x.2)
 | [],z,h=>by simp [Qay] at h;exact .inl h
 | y :: r,z,h=>by
  unfold Qay at h
  split at h
  ·rcases List.mem_cons.1 h with rfl | h
   ·exact .inr (.inl (List.mem_cons_self ..))
   ·rcases QoW h with h | h | ⟨q,hq,e,e2⟩
    ·exact .inl h
    ·exact .inr (.inl (ZZm _ h))
    ·exact .inr (.inr ⟨q,ZZm _ hq,e,e2⟩)
  ·split at h
   ·rename_i e
    rcases List.mem_cons.1 h with rfl | h
    ·exact .inr (.inr ⟨y,List.mem_cons_self ..,e,rfl⟩)
    ·exact .inr (.inl (ZZm _ h))
   ·rcases List.mem_cons.1 h with rfl | h
    ·exact .inl rfl
    ·exact .inr (.inl h)
def QaM (L:List Hv) (d:Int):List Hv:=L.filterMap fun x=>if d<x.2 then some (x.1,x.2 - d) else none
theorem QqE (d:Int):QaM [] d=[]:=rfl
theorem QcF (x:Hv) (r:List Hv) (d:Int):QaM (x :: r) d=if d<x.2 then (x.1,x.2 - d) :: QaM r d else QaM r d:=by
 unfold QaM;rw [List.filterMap_cons]
 split <;> rename_i h <;> split at h <;> simp_all
theorem Qjd:∀ {L:List Hv},(∀ x∈L,1<=x.2)->QaM L 0=L
 | [],_=>rfl
 | x :: r,h=>by
  have h1:=h x (List.mem_cons_self ..);rw [QcF,if_pos (by omega),Qjd (fun y hy=>h y (List.mem_cons_of_mem _ hy))];simp
theorem QkX {L:List Hv} {z:Hv} (h:z∈QaM L d):∃ y∈L,z=(y.1,y.2 - d)/\d<y.2:=by
 unfold QaM at h;obtain ⟨y,hy,e⟩:=List.mem_filterMap.1 h
 split at e
 ·exact ⟨y,hy,(Option.some.inj e).symm,by assumption⟩
 ·cases e
theorem Qpn {x:Hv} {L:List Hv} (h:∀ y∈L,Qaz x.1 y.1=true):Qay L x=x :: L:=by
 cases L with
 | nil=>rfl
 | cons y r=>
  have hy:=h y (List.mem_cons_self ..);unfold Qay;rw [if_neg (by rw [Qeh hy];decide),if_neg (fun e=>by rw [e,Qbn] at hy;cases hy)]
theorem QlI {x:Hv} {d:Int}:∀ {L:List Hv},Qmk L->(∀ y∈L,y.1≠x.1)->QaM (Qay L x) d=if d<x.2 then Qay (QaM L d) (x.1,x.2 - d) else QaM L d
 | [],_,_=>by
  show QaM [x] d=_
  rw [QcF,QqE];split <;> rfl
 | y :: r,h,hk=>by
  obtain ⟨h1,h2⟩:=riseH_cons.1 h;have ih:=QlI (x:=x) (d:=d) h2 (fun z hz=>hk z (ZZm _ hz));have hne:=hk y (List.mem_cons_self ..);rw [Qay];by_cases hy:Qaz y.1 x.1=true
  ·rw [if_pos hy,QcF,ih,QcF]
   by_cases hd:d<y.2
   ·rw [if_pos hd,if_pos hd]
    split
    ·rw [Qay,if_pos (by exact hy)]
    ·rfl
   ·rw [if_neg hd,if_neg hd]
  ·rw [if_neg hy,if_neg hne,QcF]
   have hyx:Qaz x.1 y.1=true:=by
    rcases QcH (by simpa using hy) with h | h
    ·exact h
    ·exact absurd h hne
   have aa:∀ z∈QaM (y :: r) d,Qaz x.1 z.1=true:=fun z hz=>by
    obtain ⟨q,hq,rfl,_⟩:=QkX hz;rcases List.mem_cons.1 hq with rfl | hq
    ·exact hyx
    ·exact Qbu hyx (h1 q hq)
   split
   ·rw [Qpn (x:=(x.1,x.2 - d)) aa]
   ·rfl
end
section
def Qr4 (C:List Int) (v:Int):Prop:=C.countP (fun x=>decide (v<x))<=5/\6<=C.countP (fun x=>decide (v<=x))
theorem QhH {α:Type} (p:α->Bool) (l:List α):l.countP p<=l.length:=List.countP_le_length
def QeF (L:List Hv):List Int:=L.map Prod.snd
end
section
def OwnH (w:World) (B:Nat) (v:Value) (L:List Hv):Prop:=w.ownsRow B 100 2 v L.length (fl QbM L)
theorem OwnH.past {L:List Hv} (h:OwnH w B v L) (hb:Below w.heap.size w w'):OwnH w' B v L:=Qat h hb
theorem OwnH.le {B':Nat} {L:List Hv} (h:OwnH w B v L) (hb:B'<=B):OwnH w B' v L:=Qa1 h hb
theorem OwnH.any {L:List Hv} (h:OwnH w B v L):∃ ao c,v=.slice ao L.length c:=Qag h
theorem OwnH.at {L:List Hv} (h:OwnH w B (.slice ao n c) L):Qc1 w ao L:=by
 obtain ⟨aa,c',e⟩:=h.any
 cases e
 exact QoZ h rfl rfl
theorem Qcn {A:Addr} {L:List Hv} (hA:Qc1 w (some A) L):∀ j z,(fl QbM L)[j]?=some z->w.cell? (A.add j)=some z:=fun j z hz=>by
 have hj:=(ZZd.1 hz).1;rw [QbH QeV] at hj;obtain ⟨b,off,e,hcell⟩:=hA (by omega)
 cases e
 obtain ⟨x,hx⟩:∃ x,L[j / 2]?=some x:=⟨L[j / 2]'(by omega),ZZe (by omega)⟩;have h1:=Qel QeV L (j / 2) x (j % 2) (by omega) hx;rw [show j / 2*2+j % 2=j by omega,hz] at h1;have hc:=hcell (j / 2) x hx;rw [Addr.add_lit];have:j % 2=0∨j % 2=1:=by omega
 rcases this with e | e
 ·rw [e] at h1;rw [show off+j=off+j / 2*2 by omega,hc.1];simpa [QbM] using h1.symm
 ·rw [e] at h1;rw [show off+j=off+j / 2*2+1 by omega,hc.2];simpa [QbM] using h1.symm
theorem Qup {L:List Hv} (h:Qc1 w none L):L=[]:=by
 rcases Nat.eq_zero_or_pos L.length with h0 | h0
 ·exact List.eq_nil_of_length_eq_zero h0
 ·obtain ⟨b,aa,e,_⟩:=h h0;cases e
theorem Qns {L:List Hv} {x:Hv} (h:L[k]?=some x) (d:Int):QaM (L.take (k+1)) d=QaM (L.take k) d ++ (if d<x.2 then [(x.1,x.2 - d)] else []):=by
 rw [List.take_add_one,h];unfold QaM;rw [List.filterMap_append]
 congr 1
 simp only [Option.toList,List.filterMap_cons,List.filterMap_nil]
 split <;> rename_i h <;> split at h <;> simp_all
end
section
theorem Qjz {L:List Hv} (cap N:Nat) (hn:L.length=N) (hl:N<=1048576) (hA:Qc1 w ao L) (hok:∀ x∈L,HvOk x) (hd:I64 d) (ht:I64 t) :
  Calls prog 59 #[.agg #[.slice ao N cap,.int .i64 d,.int .i64 t]] w fun e w'=>e=.returned (.bool (Qcm L d t))/\Below w.heap.size w w':=by
 have HA:=Qaa hA;have HK:=Qaa hok;have HN:=Qaa hn;have aB:=Qsa 9;have ag:Hid (∀ o,Below w.heap.size w (w.alloc o)):=(fun o=>(ZZb _ _).alloc (ZZa _) o:∀ o,Below w.heap.size w (w.alloc o));unfold I64 at hd ht;have an:(5<N)∨(¬ 5<N/\d<0)∨(¬ 5<N/\¬ d<0/\t<0)∨(¬ 5<N/\¬ d<0/\¬ t<0/\1000000000000000<t)∨(¬ 5<N/\¬ d<0/\¬ t<0/\¬ 1000000000000000<t/\1000000000000000<d)∨(¬ 5<N/\¬ d<0/\¬ t<0/\¬ 1000000000000000<t/\¬ 1000000000000000<d):=by omega
 rcases an with q1 | ⟨q1,q2⟩ | ⟨q1,q2,q3⟩ | ⟨q1,q2,q3,q4⟩ | ⟨q1,q2,q3,q4,q5⟩ | ⟨q1,q2,q3,q4,q5⟩
 ·have HE:Hid (false=Qcm L d t):=(by unfold Qcm;rw [decide_eq_false (by omega:¬ L.length<=5)];rfl:false=Qcm L d t)
  clear hA hok hn;go_enter func59,ntmps59;go_wp2;go_ret;exact ⟨Qcf HE,ag.out _⟩
 ·have HE:Hid (false=Qcm L d t):=(by unfold Qcm;rw [decide_eq_false (by omega:¬ 0<=d)];simp:false=Qcm L d t)
  clear hA hok hn;go_enter func59,ntmps59;go_wp2;go_ret;exact ⟨Qcf HE,ag.out _⟩
 ·have HE:Hid (false=Qcm L d t):=by
   refine (?_:false=Qcm L d t)
   cases h:Qcm L d t with
   | false=>rfl
   | true=>
    unfold Qcm at h;have:=QqA (Bool.and_eq_true_iff.1 h).2;omega
  clear hA hok hn;go_enter func59,ntmps59;go_wp2;go_ret;exact ⟨Qcf HE,ag.out _⟩
 ·have HE:Hid (false=Qcm L d t):=(by unfold Qcm;rw [decide_eq_false (by omega:¬ t<=1000000000000000)];simp:false=Qcm L d t)
  clear hA hok hn;go_enter func59,ntmps59;go_wp2;go_ret;exact ⟨Qcf HE,ag.out _⟩
 ·have HE:Hid (false=Qcm L d t):=(by unfold Qcm;rw [decide_eq_false (by omega:¬ d<=1000000000000000)];simp:false=Qcm L d t)
  clear hA hok hn;go_enter func59,ntmps59;go_wp2;go_ret;exact ⟨Qcf HE,ag.out _⟩
 ·have HF:Hid (Qcm L d t=itB t none (6*d) L):=(by unfold Qcm;rw [decide_eq_true (by omega:L.length<=5),decide_eq_true (by omega:0<=d),decide_eq_true (by omega:d<=1000000000000000),decide_eq_true (by omega:t<=1000000000000000)];rfl:Qcm L d t=itB t none (6*d) L)
  clear hA hok hn;go_enter func59,ntmps59;go_wp2
  go_loopw [3,4] (fun q i wr=>Below w.heap.size w wr/\QcW wr w.heap.size (.slice ao N cap) d t/\∃ (k:Nat) (n:Int),k<=N/\i=.int .i64 k/\q=.int .i64 n/\0<=n/\n<=6000000000000000+k*1000000000000000/\Hid (Qcm L d t=itB t (Qgg L k) n (L.drop k))) (fun q i wr=>N - (Go.RowKit.intOf i).toNat)
  case atStart=>exact ⟨ag.out _,Qsg _ _ _ _ _,0,6*d,ZZj _,rfl,rfl,by omega,by omega,HF⟩
  case round=>
   obtain ⟨ab,hT,k,n,hk,rfl,rfl,aD,av,HR⟩:=hrel;have HB:=Qaa ab;have HT:=Qaa hT;obtain ⟨x0,x1,x2⟩:=hT;have hz:=ab.size;have aC:w.heap.size<wr.heap.size:=World.block_lt_of_cell? _ _ x0;by_cases aw:k<N
   ·obtain ⟨⟨u,c⟩,af⟩:∃ a,L[k]?=some a:=⟨L[k]'(by have:=HN.out;omega),ZZe _⟩
    obtain ⟨aq,ap,ar⟩:=HK.out _ (ZZn af);obtain ⟨b,ai,rfl,ac⟩:=HA.out (by have:=HN.out;omega);have am:=Qab ab (ac k _ af).1;have az:=Qab ab (ac k _ af).2;have ay:b<wr.heap.size:=World.block_lt_of_cell? _ _ am;have HD:=Qaa (Qtp af t (Qgg L k) n);have ak:=Qaa (QgK af);have al:Hid (∀ o,QcW (wr.alloc o) w.heap.size (.slice (some ⟨b,ai,none⟩) N cap) d t):=(fun o=>QhM HT ((ZZb _ _).alloc (ZZa _) o):∀ o,QcW (wr.alloc o) w.heap.size (.slice (some ⟨b,ai,none⟩) N cap) d t)
    have ad:0<k->∃ (j:Nat) (p:ByteArray),k=j+1/\Qgg L k=some p/\wr.cell? ⟨b,ai+j*2,none⟩=some (.string p):=fun h0=>by
     obtain ⟨j,rfl⟩:∃ j,k=j+1:=⟨k - 1,by omega⟩;obtain ⟨x,hx⟩:∃ a,L[j]?=some a:=⟨L[j]'(by have:=HN.out;omega),ZZe _⟩;exact ⟨j,x.1,rfl,QgK hx,Qab ab (ac j _ hx).1⟩
    have HP:=Qaa ad;simp at aq ap ar;clear ab ac af ad HT
    cases hkey:Qgy u with
    | false=>
     have HE:Hid (false=Qcm L d t):=(by rw [HR.out,HD.out];simp [hkey]:false=Qcm L d t);go_wp2
     go_quiet (first | (go_at_call 60;refine Calls.quiet_of_same (Qa0 _ _ (by omega))))
     go_wp2;go_ret;exact ⟨Qcf HE,Qar (HB.out.alloc hz _) _⟩
    | true=>
     have aa:(k=0/\aftB (Qgg L k) (u,c).1=true)∨(∃ (j:Nat) (p:ByteArray),k=j+1/\aftB (Qgg L k) (u,c).1=Qaz p u/\wr.cell? ⟨b,ai+j*2,none⟩=some (.string p)):=by
      rcases Nat.eq_zero_or_pos k with rfl | aj
      ·exact .inl ⟨rfl,rfl⟩
      ·obtain ⟨j,p,e1,e2,e3⟩:=HP.out aj
       exact .inr ⟨j,p,e1,by rw [e2];rfl,e3⟩
     by_cases q1:c<1
     ·have HE:Hid (false=Qcm L d t):=(by rw [HR.out,HD.out,decide_eq_false (by show ¬ 1<=c;omega)];simp:false=Qcm L d t)
      have d1:decide (c<1)=true:=ZZh q1;clear aa HP;go_wp2
      go_quiet (first | (go_at_call 60;refine Calls.quiet_of_same (Qa0 _ _ (by omega))))
      go_wp2;go_ret;exact ⟨Qcf HE,Qar (HB.out.alloc hz _) _⟩
     ·have d1:decide (c<1)=false:=ZZg q1
      by_cases q2:1000000000000000<c
      ·have HE:Hid (false=Qcm L d t):=(by rw [HR.out,HD.out,decide_eq_false (p:=(u,c).2<=1000000000000000) (by show ¬ c<=1000000000000000;omega)];simp:false=Qcm L d t)
       have d2:decide (1000000000000000<c)=true:=ZZh q2;clear aa HP;go_wp2
       go_quiet (first | (go_at_call 60;refine Calls.quiet_of_same (Qa0 _ _ (by omega))))
       go_wp2;go_ret;exact ⟨Qcf HE,Qar (HB.out.alloc hz _) _⟩
      ·have d2:decide (1000000000000000<c)=false:=ZZg q2
       rcases aa with ⟨ah,ae⟩ | ⟨j,p,ah,ae,ax⟩
       ·have HE:Hid (Qcm L d t=itB t (Qgg L (k+1)) (n+c) (L.drop (k+1))):=by
         refine (?_:Qcm L d t=itB t (Qgg L (k+1)) (n+c) (L.drop (k+1)));rw [HR.out,HD.out,ak.out,ae,decide_eq_true (p:=1<=(u,c).2) (by show 1<=c;omega),decide_eq_true (p:=(u,c).2<=1000000000000000) (by show c<=1000000000000000;omega)];simp [hkey]
        have d4:decide (0<k)=false:=ZZg (by omega);clear ae HP ah;go_wp2
        go_quiet (first | (go_at_call 60;refine Calls.quiet_of_same (Qa0 _ _ (by omega))))
        go_wp2;go_roundw
        case rel=>exact ⟨Qar (HB.out.alloc hz _) _,al.out _,k+1,n+c,by omega,by go_num,by go_num,by omega,by omega,HE⟩
        case measure=>simp [zI];omega
       ·have ek:((k:Int) - 1)=(j:Int):=by omega
        have au:0<k:=by omega
        have aA:j<N:=by omega
        have ew:IntKind.i64.wrap (j:Int)=j:=ZZi _ ⟨by omega,by omega⟩
        cases hlt:Qaz p u with
        | false=>
         have HE:Hid (false=Qcm L d t):=(by rw [HR.out,HD.out];simp [ae,hlt]:false=Qcm L d t);clear ae HP ah;go_wp2
         go_quiet (first | (go_at_call 60;refine Calls.quiet_of_same (Qa0 _ _ (by omega))))
         go_wp2;go_ret;exact ⟨Qcf HE,Qar (HB.out.alloc hz _) _⟩
        | true=>
         have HE:Hid (Qcm L d t=itB t (Qgg L (k+1)) (n+c) (L.drop (k+1))):=by
          refine (?_:Qcm L d t=itB t (Qgg L (k+1)) (n+c) (L.drop (k+1)));rw [HR.out,HD.out,ak.out,ae,hlt,decide_eq_true (p:=1<=(u,c).2) (by show 1<=c;omega),decide_eq_true (p:=(u,c).2<=1000000000000000) (by show c<=1000000000000000;omega)];simp [hkey]
         clear ae HP ah;go_wp2
         go_quiet (first | (go_at_call 60;refine Calls.quiet_of_same (Qa0 _ _ (by omega))))
         go_wp2;go_roundw
         case rel=>exact ⟨Qar (HB.out.alloc hz _) _,al.out _,k+1,n+c,by omega,by go_num,by go_num,by omega,by omega,HE⟩
         case measure=>simp [zI];omega
   ·have HE:Hid (decide (n<=t)=Qcm L d t):=(by rw [HR.out,it_end (by have:=HN.out;omega)]:decide (n<=t)=Qcm L d t)
    clear ab;go_wp2;go_ret;exact ⟨Qcf HE,HB⟩
end
section
theorem QpB:∀ {L:List Hv} {t:Int} {p:Option ByteArray} {n:Int},itB t p n L=true->(∀ q,p=some q->∀ x∈L,Qaz q x.1=true)/\Qmk L
 | [],t,p,n,h=>⟨fun q _ x hx=>absurd hx List.not_mem_nil,fun i j x y hx=>by simp at hx⟩
 | z :: r,t,p,n,h=>by
  simp only [itB,Bool.and_eq_true,decide_eq_true_eq] at h;obtain ⟨⟨⟨⟨h1,h2⟩,h3⟩,h4⟩,h5⟩:=h;obtain ⟨k1,k2⟩:=QpB h5;have k1:=k1 _ rfl;refine ⟨fun q hq x hx=>?_,fun i j x y hx hy hij=>?_⟩
  ·subst hq
   rcases List.mem_cons.1 hx with rfl | hx
   ·exact h2
   ·exact Qbu h2 (k1 x hx)
  ·obtain ⟨j,rfl⟩:∃ m,j=m+1:=⟨j - 1,by omega⟩
   rw [List.getElem?_cons_succ] at hy
   cases i with
   | zero=>
    obtain rfl:z=x:=by simpa using hx
    exact k1 y (ZZn hy)
   | succ i=>
    rw [List.getElem?_cons_succ] at hx;exact k2 i j x y hx hy (by omega)
theorem Qig {L:List Hv} (h:Qcm L d t=true):Qmk L/\L.length<=5:=by
 unfold Qcm at h;simp only [Bool.and_eq_true,decide_eq_true_eq] at h;exact ⟨(QpB h.2).2,h.1.1.1.1⟩
theorem QsA:∀ {L:List Hv} {t:Int} {p:Option ByteArray} {n:Int},itB t p n L=true->∀ x∈L,Qgy x.1=true/\1<=x.2/\x.2<=1000000000000000
 | [],t,p,n,h,x,hx=>absurd hx List.not_mem_nil
 | z :: r,t,p,n,h,x,hx=>by
  simp only [itB,Bool.and_eq_true,decide_eq_true_eq] at h;obtain ⟨⟨⟨⟨h1,h2⟩,h3⟩,h4⟩,h5⟩:=h;rcases List.mem_cons.1 hx with rfl | hx
  ·exact ⟨h1,h3,h4⟩
  ·exact QsA h5 x hx
theorem QuO {L:List Hv} (h:Qcm L d t=true):∀ x∈L,Qgy x.1=true/\1<=x.2/\x.2<=1000000000000000:=by
 unfold Qcm at h;exact QsA (Bool.and_eq_true_iff.1 h).2
end
variable {P:List Hv}
section
def Qgn (A:List Hv) (d:Int):Prop:=(A.length<=5/\d=0)∨(6<=A.length/\Qr4 (QeF A) d/\∃ x∈A,x.2=d)
def TopOut (w:World) (B:Nat) (v:Value) (L:List Hv) (d t:Int):Prop:=∃ p,v=.agg #[p,.int .i64 d,.int .i64 t]/\OwnH w B p L
theorem TopOut.past {L:List Hv} (k:TopOut w B v L d t) (hb:Below w.heap.size w w'):TopOut w' B v L d t:=by
 obtain ⟨p,e,h⟩:=k;exact ⟨p,e,h.past hb⟩
abbrev tp3 (w:World) (r:Nat) (p:Value) (D T:Int):World:=((w.setCell ⟨r,0,none⟩ p).setCell ⟨r,1,none⟩ (.int .i64 D)).setCell ⟨r,2,none⟩ (.int .i64 T)
abbrev Qdh:Array Value:=#[.slice none 0 0,.int .i64 0,.int .i64 0]
theorem QdR (h:w.heap[r]?=some (.cells #[u0,u1,u2] T (0,0))) :
  w.cell? ⟨r,0,none⟩=some u0/\w.cell? ⟨r,1,none⟩=some u1/\w.cell? ⟨r,2,none⟩=some u2:=
 ⟨by rw [cell_of_row w r 0 _ _ (0,0) h];rfl,by rw [cell_of_row w r 1 _ _ (0,0) h];rfl,by rw [cell_of_row w r 2 _ _ (0,0) h];rfl⟩
theorem OwnH.ne {L:List Hv} (h:OwnH w B v L) {cs:Array Value} {fz:Nat×Nat} (hr:w.heap[r]?=some (.cells cs T fz)) (hT:T≠100):v.ownBlock≠some r:=fun e=>by
 obtain ⟨c,fz',hc⟩:=Lib.ownsRow_kind h r e;rw [hr] at hc
 cases hc
 exact hT rfl
theorem OwnH.set {L:List Hv} (h:OwnH w B v L) {a:Addr} (hne:v.ownBlock≠some a.block) (u:Value):OwnH (w.setCell a u) B v L:=ownsRow_setCell_other h hne u
theorem Qdy {T:Int} (hT:Below w.heap.size w w2) (hr:w2.heap[r]?=some (.cells Qdh 39 (0,0))) (hwr:w.heap.size<=r) (hp:OwnH w2 w.heap.size p P) :
  TopOut (tp3 w2 r p D T) w.heap.size (.agg #[p,.int .i64 D,.int .i64 T]) P D T/\Below w.heap.size w (tp3 w2 r p D T):=by
 have q1:=hp.ne hr (by decide);refine ⟨⟨p,rfl,((hp.set q1 _).set q1 _).set q1 _⟩,?_⟩
 repeat (refine Below.setCell ?_ hwr _)
 exact hT
end
section
theorem Qhy {L:List Hv} (k:Nat) (h:Qc1 w (some ⟨b,off,none⟩) L):Qc1 w (some ⟨b,off,none⟩) (L.take k):=fun h0=>by
 obtain ⟨b',off',e,hc⟩:=h (by rw [List.length_take] at h0;omega);exact ⟨b',off',e,fun i x hx=>hc i x (by rw [List.getElem?_take] at hx;split at hx;exact hx;cases hx)⟩
theorem Qk2 {L:List Hv} (k:Nat) (h:Qc1 w (some ⟨b,off,none⟩) L):Qc1 w (some ⟨b,off+k*2,none⟩) (L.drop k):=fun h0=>by
 obtain ⟨b',off',e,hc⟩:=h (by rw [List.length_drop] at h0;omega)
 cases e
 exact ⟨b,off+k*2,rfl,fun i x hx=>by
  rw [List.getElem?_drop] at hx;have:=hc (k+i) x hx;rw [show off+k*2+i*2=off+(k+i)*2 by rw [Nat.add_mul];omega];exact this⟩
def Qe5 (L:List Hv) (p:ByteArray) (k:Nat):Prop:=k<=L.length/\(∀ (t:Nat) (x:Hv),L[t]?=some x->t<k->Qaz x.1 p=true)/\∀ x,L[k]?=some x->Qaz x.1 p=false
theorem QfX {r:List Hv} {p:ByteArray} (h:Qe5 (y :: r) p (k+1)):Qe5 r p k:=
 ⟨by have:=h.1;simp at this;exact this,fun t x hx ht=>h.2.1 (t+1) x (by simpa using hx) (by omega),fun x hx=>h.2.2 x (by simpa using hx)⟩
theorem Qgt {a:ByteArray} {u c:Int}:∀ (L:List Hv) (k:Nat),Qe5 L a k->L[k]?=some (a,c)->Qay L (a,u)=L.take k ++ (a,c+u) :: L.drop (k+1)
 | [],k,_,h=>by simp at h
 | y :: r,0,hp,h=>by
  obtain rfl:y=(a,c):=by simpa using h
  have:Qaz a a=false:=Qbn a;simp [Qay,this]
 | y :: r,k+1,hp,h=>by
  have hy:=hp.2.1 0 y rfl (by omega);rw [Qay,if_pos hy,Qgt r k (QfX hp) (by simpa using h)];rfl
theorem Qfn {a:ByteArray} {u:Int}:∀ (L:List Hv) (k:Nat),Qe5 L a k->(∀ x,L[k]?=some x->x.1≠a)->Qay L (a,u)=L.take k ++ (a,u) :: L.drop k
 | [],k,hp,h=>by have:=hp.1;simp at this;subst this;rfl
 | y :: r,0,hp,h=>by
  have hy:=hp.2.2 y rfl;have hne:y.1≠a:=h y rfl;rw [Qay,if_neg (by show ¬ Qaz y.1 a=true;rw [hy];decide),if_neg hne];rfl
 | y :: r,k+1,hp,h=>by
  have hy:=hp.2.1 0 y rfl (by omega);rw [Qay,if_pos hy,Qfn r k (QfX hp) (fun x hx=>h x (by simpa using hx))];rfl
theorem QeN {L:List Hv} (a:ByteArray) (u:Int) (hn:L.length=n) (hl:n<=1000) (hcap:n<=c) (hcm:c<=maxLen) (hno:ao=none->c=0) (hs:∀ x∈L,I64 (x.2+u)) (hA:Qc1 w ao L) :
  Calls prog 62 #[.slice ao n c,.string a,.int .i64 u] w fun e w'=>∃ v,e=.returned v/\OwnH w' w.heap.size v (Qay L (a,u))/\Below w.heap.size w w':=by
 obtain ⟨i0,hi,ad,ae,af⟩:=info_parts Qf5;have aM:=Qpm 9;have HA:=Qaa hA;have HN:=Qaa hn;have HS:=Qaa hs;have aG:=Qaa hno;unfold maxLen at hcm;clear hA hn hs hno;go_enter func62,ntmps62;go_wp2
 go_loop [7] (fun i=>∃ k:Nat,k<=n/\i=.int .i64 k/\Hid (∀ (t:Nat) (x:Hv),L[t]?=some x->t<k->Qaz x.1 a=true)) (fun i=>n - (Go.RowKit.intOf i).toNat)
 case atStart=>exact ⟨0,ZZj _,rfl,(fun t x _ h=>absurd h (by omega):∀ (t:Nat) (x:Hv),L[t]?=some x->t<0->Qaz x.1 a=true)⟩
 case round=>
  obtain ⟨k,hk,rfl,HF⟩:=hrel
  have ag:k<n->∃ b ah y,ao=some ⟨b,ah,none⟩/\L[k]?=some y/\w.cell? ⟨b,ah+k*2,none⟩=some (.string y.1)/\w.cell? ⟨b,ah+k*2+1,none⟩=some (.int .i64 y.2):=fun h=>by
   obtain ⟨b,ah,e,ai⟩:=HA.out (by have:=HN.out;omega);obtain ⟨y,hy⟩:∃ y,L[k]?=some y:=⟨L[k]'(by have:=HN.out;omega),ZZe _⟩;exact ⟨b,ah,y,e,hy,(ai k y hy).1,(ai k y hy).2⟩
  by_cases aD:k<n
  ·obtain ⟨b,ah,⟨q,x⟩,rfl,an,ar,aq⟩:=ag aD
   simp only at ar aq
   cases hlt:Qaz q a with
   | true=>
    have aA:Hid (∀ (t:Nat) (x:Hv),L[t]?=some x->t<k+1->Qaz x.1 a=true):=(fun t z hz ht=>by
     by_cases e:t=k
     ·subst e;rw [an] at hz;obtain rfl:=Option.some.inj hz;exact hlt
     ·exact HF.out t z hz (by omega):∀ (t:Nat) (x:Hv),L[t]?=some x->t<k+1->Qaz x.1 a=true)
    clear an ag;go_wp2
    go_round
    case rel=>exact ⟨k+1,by omega,by go_num,aA⟩
    case measure=>simp [zI];omega
   | false=>
    have HK:Hid (Qe5 L a k):=(⟨by have:=HN.out;omega,HF,fun z hz=>by rw [an] at hz;obtain rfl:=Option.some.inj hz;exact hlt⟩:Qe5 L a k);have ak:=Qaa an;clear an ag HF
    cases heq:(q.toList == a.toList) with
    | true=>
     have av:a=q:=(QbV heq).symm;subst av;have aF:I64 (x+u):=HS.out _ (ZZn ak);unfold I64 at aF;have hw:IntKind.i64.wrap (x+u)=x+u:=ZZi _ ⟨by omega,by omega⟩;have aK:IntKind.i64.wrap ((k:Int)+1)=(k:Int)+1:=by rw [IntKind.wrap_i64];omega
     have aN:((k:Int)+1).toNat=k+1:=by omega
     have aJ:(0:Int)<=(k:Int)+1:=by omega
     have aI:(k:Int)+1<=(n:Int):=by omega
     by_cases aH:c=k+1
     ·subst aH
      have aB:n=k+1:=by omega
      have aL:k+1 - (k+1)=0:=by omega
      subst aB
      go_wp2_with (first
       | (at_builtin;refine wpList_append_own _ rfl (.tmp 24) (.tmp 27) 37 rfl w.heap.size 100 i0 (.agg #[.string ByteArray.empty,.int .i64 0]) 2 24 underlying37 hi ad ae af rfl (by decide) _ _ _ rfl (World.ownsRow_made _ #[] 0 (Nat.le_refl _) (Nat.zero_le _) rfl) ⟨b,ah,none⟩ k (k+1) (fl QbM (L.take k)) rfl (by rw [QbH QeV,List.length_take];have:=HN.out;omega) (Qcn (Qbr (Qhy k HA) ((Below.refl _ _).alloc (Nat.le_refl _) _))) (QcU _) (by unfold maxLen;omega) (by omega) (by simp) ?_;intro v1 w1 ab aa ac;simp only [Nat.zero_add,List.nil_append] at ab;obtain ⟨ap,c1,rfl⟩:=Qag ab;have O1:=Qaa ab;have B1:=Qaa (((Below.refl w.heap.size w).alloc (Nat.le_refl _) _).grown aa (by simp) (fun j hj=>by cases hj;exact Nat.le_refl _));have y0:=Qab B1 ar;have y1:=Qab B1 aq;clear ab aa ac)
       | (at_builtin;refine wpList_append_own _ rfl (.tmp 42) (.tmp 52) 37 rfl w.heap.size 100 i0 (.agg #[.string ByteArray.empty,.int .i64 0]) 2 24 underlying37 hi ad ae af rfl (by decide) _ _ _ rfl (Qat O1 ((Below.refl _ _).alloc (Nat.le_refl _) _)) ⟨w1.heap.size,0,none⟩ 1 1 (QbM (a,x+u)) rfl rfl (Qav (cs:=#[.string a,.int .i64 (x+u)]) rfl) (Qcp _) (by unfold maxLen;omega) (by omega) (by simp;have:=B1.out.size;omega) ?_;intro v2 w2 ab aa ac;obtain ⟨al,c2,rfl⟩:=Qag ab;have O2:=Qaa ab;have B2:=Qaa ((B1.out.alloc B1.out.size _).grown aa (by simp;have:=B1.out.size;omega) (fun j hj=>(O1.out.lt j hj).1));clear ab aa ac)
       | (at_builtin;refine Qad _ rfl (.tmp 54) (.tmp 58) 37 rfl w.heap.size 100 i0 (.agg #[.string ByteArray.empty,.int .i64 0]) 2 24 underlying37 hi ad ae af rfl (by decide) _ _ _ rfl O2 (some ⟨b,ah,none⟩) 0 0 [] rfl rfl (fun e=>by cases e) (fun A _ j z hz=>by simp at hz) (fun u hu=>absurd hu List.not_mem_nil) (by unfold maxLen;omega) (by omega) (by have:=B2.out.size;omega) ?_;intro v3 w3 ab aa ac;obtain ⟨am,c3,rfl⟩:=Qag ab;have O3:=Qaa ab;have B3:=Qaa (B2.out.grown aa B2.out.size (fun j hj=>(O2.out.lt j hj).1));clear ab aa ac))
      go_ret;refine ⟨_,rfl,?_,B3⟩;unfold OwnH;have aC:L.drop (k+1)=[]:=List.drop_eq_nil_of_le (by have:=HN.out;omega)
      have e:fl QbM (L.take k) ++ QbM (a,x+u) ++ []=fl QbM (Qay L (a,u)):=by
       rw [Qgt L k HK.out ak.out,QdK,QbS,aC];simp [fl]
      have el:(Qay L (a,u)).length=k+1+0:=by
       rw [Qgt L k HK.out ak.out];have:=HN.out;simp;omega
      rw [<- e,el];exact O3.out
     ·go_wp2_with (first
       | (at_builtin;refine wpList_append_own _ rfl (.tmp 24) (.tmp 27) 37 rfl w.heap.size 100 i0 (.agg #[.string ByteArray.empty,.int .i64 0]) 2 24 underlying37 hi ad ae af rfl (by decide) _ _ _ rfl (World.ownsRow_made _ #[] 0 (Nat.le_refl _) (Nat.zero_le _) rfl) ⟨b,ah,none⟩ k c (fl QbM (L.take k)) rfl (by rw [QbH QeV,List.length_take];have:=HN.out;omega) (Qcn (Qbr (Qhy k HA) ((Below.refl _ _).alloc (Nat.le_refl _) _))) (QcU _) (by unfold maxLen;omega) (by omega) (by simp) ?_;intro v1 w1 ab aa ac;simp only [Nat.zero_add,List.nil_append] at ab;obtain ⟨ap,c1,rfl⟩:=Qag ab;have O1:=Qaa ab;have B1:=Qaa (((Below.refl w.heap.size w).alloc (Nat.le_refl _) _).grown aa (by simp) (fun j hj=>by cases hj;exact Nat.le_refl _));have y0:=Qab B1 ar;have y1:=Qab B1 aq;clear ab aa ac)
       | (at_builtin;refine wpList_append_own _ rfl (.tmp 42) (.tmp 52) 37 rfl w.heap.size 100 i0 (.agg #[.string ByteArray.empty,.int .i64 0]) 2 24 underlying37 hi ad ae af rfl (by decide) _ _ _ rfl (Qat O1 ((Below.refl _ _).alloc (Nat.le_refl _) _)) ⟨w1.heap.size,0,none⟩ 1 1 (QbM (a,x+u)) rfl rfl (Qav (cs:=#[.string a,.int .i64 (x+u)]) rfl) (Qcp _) (by unfold maxLen;omega) (by omega) (by simp;have:=B1.out.size;omega) ?_;intro v2 w2 ab aa ac;obtain ⟨al,c2,rfl⟩:=Qag ab;have O2:=Qaa ab;have B2:=Qaa ((B1.out.alloc B1.out.size _).grown aa (by simp;have:=B1.out.size;omega) (fun j hj=>(O1.out.lt j hj).1));clear ab aa ac)
       | (at_builtin;refine Qad _ rfl (.tmp 54) (.tmp 58) 37 rfl w.heap.size 100 i0 (.agg #[.string ByteArray.empty,.int .i64 0]) 2 24 underlying37 hi ad ae af rfl (by decide) _ _ _ rfl O2 (some ⟨b,ah+(k+1)*2,none⟩) (n - (k+1)) (c - (k+1)) (fl QbM (L.drop (k+1))) rfl (by rw [QbH QeV,List.length_drop];have:=HN.out;omega) (fun e=>by cases e) (fun A e=>by cases e;exact Qcn (Qbr (Qk2 (k+1) HA) B2)) (QcU _) (by unfold maxLen;omega) (by omega) (by have:=B2.out.size;omega) ?_;intro v3 w3 ab aa ac;obtain ⟨am,c3,rfl⟩:=Qag ab;have O3:=Qaa ab;have B3:=Qaa (B2.out.grown aa B2.out.size (fun j hj=>(O2.out.lt j hj).1));clear ab aa ac))
      all_goals
       go_ret;refine ⟨_,rfl,?_,B3⟩;unfold OwnH
       have e:fl QbM (L.take k) ++ QbM (a,x+u) ++ fl QbM (L.drop (k+1))=fl QbM (Qay L (a,u)):=by
        rw [Qgt L k HK.out ak.out,QdK,QbS,List.append_assoc]
       have el:(Qay L (a,u)).length=k+1+(n - (k+1)):=by
        rw [Qgt L k HK.out ak.out];have:=HN.out;simp;omega
       rw [<- e,el];exact O3.out
    | false=>
     have ay:∀ z,L[k]?=some z->z.1≠a:=fun z hz e=>by
      rw [ak.out] at hz;obtain rfl:=Option.some.inj hz;have e:q=a:=e;subst e;simp at heq
     have ax:=Qaa ay;clear ay;have az:¬ (c=k):=by omega
     go_wp2_with (first
      | (at_builtin;refine wpList_append_own _ rfl (.tmp 24) (.tmp 27) 37 rfl w.heap.size 100 i0 (.agg #[.string ByteArray.empty,.int .i64 0]) 2 24 underlying37 hi ad ae af rfl (by decide) _ _ _ rfl (World.ownsRow_made _ #[] 0 (Nat.le_refl _) (Nat.zero_le _) rfl) ⟨b,ah,none⟩ k c (fl QbM (L.take k)) rfl (by rw [QbH QeV,List.length_take];have:=HN.out;omega) (Qcn (Qbr (Qhy k HA) ((Below.refl _ _).alloc (Nat.le_refl _) _))) (QcU _) (by unfold maxLen;omega) (by omega) (by simp) ?_;intro v1 w1 ab aa ac;simp only [Nat.zero_add,List.nil_append] at ab;obtain ⟨ap,c1,rfl⟩:=Qag ab;have O1:=Qaa ab;have B1:=Qaa (((Below.refl w.heap.size w).alloc (Nat.le_refl _) _).grown aa (by simp) (fun j hj=>by cases hj;exact Nat.le_refl _));have y0:=Qab B1 ar;have y1:=Qab B1 aq;clear ab aa ac)
      | (at_builtin;refine wpList_append_own _ rfl (.tmp 60) (.tmp 64) 37 rfl w.heap.size 100 i0 (.agg #[.string ByteArray.empty,.int .i64 0]) 2 24 underlying37 hi ad ae af rfl (by decide) _ _ _ rfl (Qat O1 ((Below.refl _ _).alloc (Nat.le_refl _) _)) ⟨w1.heap.size,0,none⟩ 1 1 (QbM (a,u)) rfl rfl (Qav (cs:=#[.string a,.int .i64 (u)]) rfl) (Qcp _) (by unfold maxLen;omega) (by omega) (by simp;have:=B1.out.size;omega) ?_;intro v2 w2 ab aa ac;obtain ⟨al,c2,rfl⟩:=Qag ab;have O2:=Qaa ab;have B2:=Qaa ((B1.out.alloc B1.out.size _).grown aa (by simp;have:=B1.out.size;omega) (fun j hj=>(O1.out.lt j hj).1));clear ab aa ac)
      | (at_builtin;refine Qad _ rfl (.tmp 66) (.tmp 69) 37 rfl w.heap.size 100 i0 (.agg #[.string ByteArray.empty,.int .i64 0]) 2 24 underlying37 hi ad ae af rfl (by decide) _ _ _ rfl O2 (some ⟨b,ah+k*2,none⟩) (n - k) (c - k) (fl QbM (L.drop k)) rfl (by rw [QbH QeV,List.length_drop];have:=HN.out;omega) (fun e=>by cases e) (fun A e=>by cases e;exact Qcn (Qbr (Qk2 k HA) B2)) (QcU _) (by unfold maxLen;omega) (by omega) (by have:=B2.out.size;omega) ?_;intro v3 w3 ab aa ac;obtain ⟨am,c3,rfl⟩:=Qag ab;have O3:=Qaa ab;have B3:=Qaa (B2.out.grown aa B2.out.size (fun j hj=>(O2.out.lt j hj).1));clear ab aa ac))
     all_goals
      go_ret;refine ⟨_,rfl,?_,B3⟩;unfold OwnH
      have e:fl QbM (L.take k) ++ QbM (a,u) ++ fl QbM (L.drop k)=fl QbM (Qay L (a,u)):=by
       rw [Qfn L k HK.out ax.out,QdK,QbS,List.append_assoc]
      have el:(Qay L (a,u)).length=k+1+(n - k):=by
       rw [Qfn L k HK.out ax.out];have:=HN.out;simp;omega
      rw [<- e,el];exact O3.out
  ·have au:k=n:=by omega
   subst au;have HK:Hid (Qe5 L a k):=(⟨by have:=HN.out;omega,HF,fun z hz=>absurd (ZZd.1 hz).1 (by have:=HN.out;omega)⟩:Qe5 L a k)
   have aj:Qay L (a,u)=L ++ [(a,u)]:=by
    rw [Qfn L k HK.out (fun z hz=>absurd (List.getElem?_eq_some_iff.1 hz).1 (by have:=HN.out;omega)),List.take_of_length_le (by have:=HN.out;omega),List.drop_eq_nil_of_le (by have:=HN.out;omega)]
   have HE:Hid (fl QbM (Qay L (a,u))=fl QbM L ++ QbM (a,u)):=(by rw [aj,QdK,QlC]:fl QbM (Qay L (a,u))=fl QbM L ++ QbM (a,u));have aw:Hid ((Qay L (a,u)).length=k+1):=(by rw [aj];have:=HN.out;simp;omega:(Qay L (a,u)).length=k+1);clear aj ag HK HF
   cases ao with
   | none=>
    have h0:c=0:=aG.out rfl;subst h0;have aE:k=0:=by omega
    subst aE
    go_wp2_with (first
     | (at_builtin;refine Qad _ rfl (.tmp 24) (.tmp 27) 37 rfl w.heap.size 100 i0 (.agg #[.string ByteArray.empty,.int .i64 0]) 2 24 underlying37 hi ad ae af rfl (by decide) _ _ _ rfl (World.ownsRow_made _ #[] 0 (Nat.le_refl _) (Nat.zero_le _) rfl) none 0 0 (fl QbM L) rfl (by rw [QbH QeV];have:=HN.out;omega) (fun e=>⟨rfl,rfl⟩) (fun A e=>by cases e) (QcU _) (by unfold maxLen;omega) (by omega) (by simp) ?_;intro v1 w1 ab aa ac;simp only [Nat.zero_add,List.nil_append] at ab;obtain ⟨ap,c1,rfl⟩:=Qag ab;have O1:=Qaa ab;have B1:=Qaa (((Below.refl w.heap.size w).alloc (Nat.le_refl _) _).grown aa (by simp) (fun j hj=>by cases hj;exact Nat.le_refl _));clear ab aa ac)
     | (at_builtin;refine wpList_append_own _ rfl (.tmp 60) (.tmp 64) 37 rfl w.heap.size 100 i0 (.agg #[.string ByteArray.empty,.int .i64 0]) 2 24 underlying37 hi ad ae af rfl (by decide) _ _ _ rfl (Qat O1 ((Below.refl _ _).alloc (Nat.le_refl _) _)) ⟨w1.heap.size,0,none⟩ 1 1 (QbM (a,u)) rfl rfl (Qav (cs:=#[.string a,.int .i64 (u)]) rfl) (Qcp _) (by unfold maxLen;omega) (by omega) (by simp;have:=B1.out.size;omega) ?_;intro v2 w2 ab aa ac;obtain ⟨al,c2,rfl⟩:=Qag ab;have O2:=Qaa ab;have B2:=Qaa ((B1.out.alloc B1.out.size _).grown aa (by simp;have:=B1.out.size;omega) (fun j hj=>(O1.out.lt j hj).1));clear ab aa ac)
     | (at_builtin;refine Qad _ rfl (.tmp 66) (.tmp 69) 37 rfl w.heap.size 100 i0 (.agg #[.string ByteArray.empty,.int .i64 0]) 2 24 underlying37 hi ad ae af rfl (by decide) _ _ _ rfl O2 none 0 0 [] rfl rfl (fun e=>⟨rfl,rfl⟩) (fun A e=>by cases e) (fun u hu=>absurd hu List.not_mem_nil) (by unfold maxLen;omega) (by omega) (by have:=B2.out.size;omega) ?_;intro v3 w3 ab aa ac;obtain ⟨am,c3,rfl⟩:=Qag ab;have O3:=Qaa ab;have B3:=Qaa (B2.out.grown aa B2.out.size (fun j hj=>(O2.out.lt j hj).1));clear ab aa ac))
    all_goals
     go_ret;refine ⟨_,rfl,?_,B3⟩;unfold OwnH;have e:fl QbM L ++ QbM (a,u) ++ []=fl QbM (Qay L (a,u)):=by rw [HE.out,List.append_nil]
     have el:(Qay L (a,u)).length=0+1+0:=by rw [aw.out]
     rw [<- e,el];exact O3.out
   | some A=>
    by_cases az:c=k
    ·subst az
     go_wp2_with (first
      | (at_builtin;refine Qad _ rfl (.tmp 24) (.tmp 27) 37 rfl w.heap.size 100 i0 (.agg #[.string ByteArray.empty,.int .i64 0]) 2 24 underlying37 hi ad ae af rfl (by decide) _ _ _ rfl (World.ownsRow_made _ #[] 0 (Nat.le_refl _) (Nat.zero_le _) rfl) (some A) c c (fl QbM L) rfl (by rw [QbH QeV];have:=HN.out;omega) (fun e=>by cases e) (fun A e=>by cases e;exact Qcn (Qbr HA ((Below.refl _ _).alloc (Nat.le_refl _) _))) (QcU _) (by unfold maxLen;omega) (by omega) (by simp) ?_;intro v1 w1 ab aa ac;simp only [Nat.zero_add,List.nil_append] at ab;obtain ⟨ap,c1,rfl⟩:=Qag ab;have O1:=Qaa ab;have B1:=Qaa (((Below.refl w.heap.size w).alloc (Nat.le_refl _) _).grown aa (by simp) (fun j hj=>by cases hj;exact Nat.le_refl _));clear ab aa ac)
      | (at_builtin;refine wpList_append_own _ rfl (.tmp 60) (.tmp 64) 37 rfl w.heap.size 100 i0 (.agg #[.string ByteArray.empty,.int .i64 0]) 2 24 underlying37 hi ad ae af rfl (by decide) _ _ _ rfl (Qat O1 ((Below.refl _ _).alloc (Nat.le_refl _) _)) ⟨w1.heap.size,0,none⟩ 1 1 (QbM (a,u)) rfl rfl (Qav (cs:=#[.string a,.int .i64 (u)]) rfl) (Qcp _) (by unfold maxLen;omega) (by omega) (by simp;have:=B1.out.size;omega) ?_;intro v2 w2 ab aa ac;obtain ⟨al,c2,rfl⟩:=Qag ab;have O2:=Qaa ab;have B2:=Qaa ((B1.out.alloc B1.out.size _).grown aa (by simp;have:=B1.out.size;omega) (fun j hj=>(O1.out.lt j hj).1));clear ab aa ac)
      | (at_builtin;refine Qad _ rfl (.tmp 66) (.tmp 69) 37 rfl w.heap.size 100 i0 (.agg #[.string ByteArray.empty,.int .i64 0]) 2 24 underlying37 hi ad ae af rfl (by decide) _ _ _ rfl O2 _ 0 _ [] rfl rfl (fun e=>by cases e) (fun A _ j z hz=>by simp at hz) (fun u hu=>absurd hu List.not_mem_nil) (by unfold maxLen;omega) (by omega) (by have:=B2.out.size;omega) ?_;intro v3 w3 ab aa ac;obtain ⟨am,c3,rfl⟩:=Qag ab;have O3:=Qaa ab;have B3:=Qaa (B2.out.grown aa B2.out.size (fun j hj=>(O2.out.lt j hj).1));clear ab aa ac))
     all_goals
      go_ret;refine ⟨_,rfl,?_,B3⟩;unfold OwnH;have e:fl QbM L ++ QbM (a,u) ++ []=fl QbM (Qay L (a,u)):=by rw [HE.out,List.append_nil]
      have el:(Qay L (a,u)).length=c+1+0:=by rw [aw.out]
      rw [<- e,el];exact O3.out
    ·go_wp2_with (first
      | (at_builtin;refine Qad _ rfl (.tmp 24) (.tmp 27) 37 rfl w.heap.size 100 i0 (.agg #[.string ByteArray.empty,.int .i64 0]) 2 24 underlying37 hi ad ae af rfl (by decide) _ _ _ rfl (World.ownsRow_made _ #[] 0 (Nat.le_refl _) (Nat.zero_le _) rfl) (some A) k c (fl QbM L) rfl (by rw [QbH QeV];have:=HN.out;omega) (fun e=>by cases e) (fun A e=>by cases e;exact Qcn (Qbr HA ((Below.refl _ _).alloc (Nat.le_refl _) _))) (QcU _) (by unfold maxLen;omega) (by omega) (by simp) ?_;intro v1 w1 ab aa ac;simp only [Nat.zero_add,List.nil_append] at ab;obtain ⟨ap,c1,rfl⟩:=Qag ab;have O1:=Qaa ab;have B1:=Qaa (((Below.refl w.heap.size w).alloc (Nat.le_refl _) _).grown aa (by simp) (fun j hj=>by cases hj;exact Nat.le_refl _));clear ab aa ac)
      | (at_builtin;refine wpList_append_own _ rfl (.tmp 60) (.tmp 64) 37 rfl w.heap.size 100 i0 (.agg #[.string ByteArray.empty,.int .i64 0]) 2 24 underlying37 hi ad ae af rfl (by decide) _ _ _ rfl (Qat O1 ((Below.refl _ _).alloc (Nat.le_refl _) _)) ⟨w1.heap.size,0,none⟩ 1 1 (QbM (a,u)) rfl rfl (Qav (cs:=#[.string a,.int .i64 (u)]) rfl) (Qcp _) (by unfold maxLen;omega) (by omega) (by simp;have:=B1.out.size;omega) ?_;intro v2 w2 ab aa ac;obtain ⟨al,c2,rfl⟩:=Qag ab;have O2:=Qaa ab;have B2:=Qaa ((B1.out.alloc B1.out.size _).grown aa (by simp;have:=B1.out.size;omega) (fun j hj=>(O1.out.lt j hj).1));clear ab aa ac)
      | (at_builtin;refine Qad _ rfl (.tmp 66) (.tmp 69) 37 rfl w.heap.size 100 i0 (.agg #[.string ByteArray.empty,.int .i64 0]) 2 24 underlying37 hi ad ae af rfl (by decide) _ _ _ rfl O2 _ 0 _ [] rfl rfl (fun e=>by cases e) (fun A _ j z hz=>by simp at hz) (fun u hu=>absurd hu List.not_mem_nil) (by unfold maxLen;omega) (by omega) (by have:=B2.out.size;omega) ?_;intro v3 w3 ab aa ac;obtain ⟨am,c3,rfl⟩:=Qag ab;have O3:=Qaa ab;have B3:=Qaa (B2.out.grown aa B2.out.size (fun j hj=>(O2.out.lt j hj).1));clear ab aa ac))
     all_goals
      go_ret;refine ⟨_,rfl,?_,B3⟩;unfold OwnH;have e:fl QbM L ++ QbM (a,u) ++ []=fl QbM (Qay L (a,u)):=by rw [HE.out,List.append_nil]
      have el:(Qay L (a,u)).length=k+1+0:=by rw [aw.out]
      rw [<- e,el];exact O3.out
end
section
theorem QmA (x y:Int) (w:World) :
  Calls prog 63 #[.int .i64 x,.int .i64 y] w fun e w'=>e=.returned (.int .i64 (if x<y then x else y))/\w'=w:=by
 by_cases h:x<y
 ·rw [if_pos h]
  go_enter func63,ntmps63;go_wp2;go_ret;exact ⟨rfl,rfl⟩
 ·rw [if_neg h]
  go_enter func63,ntmps63;go_wp2;go_ret;exact ⟨rfl,rfl⟩
def Qfd (L:List Hv) (p:ByteArray):Bool:=L.any (fun x=>decide (x.1=p))
theorem QqC {L:List Hv} {x:Hv} (h:L[k]?=some x) (p:ByteArray):Qfd (L.drop k) p=(decide (x.1=p) || Qfd (L.drop (k+1)) p):=by
 have hk:=(ZZd.1 h).1;rw [List.drop_eq_getElem_cons hk,(List.getElem?_eq_some_iff.1 h).2];rfl
theorem QeU {L:List Hv} (p:ByteArray) (hn:L.length=n) (hl:n<=1048576) (hA:Qc1 w ao L) :
  Calls prog 61 #[.slice ao n c,.string p] w fun e w'=>e=.returned (.bool (Qfd L p))/\w'=w:=by
 have HA:=Qaa hA;have HN:=Qaa hn;clear hA hn;go_enter func61,ntmps61;go_wp2
 go_loop [5] (fun i=>∃ k:Nat,k<=n/\i=.int .i64 k/\Hid (Qfd L p=Qfd (L.drop k) p)) (fun i=>n - (Go.RowKit.intOf i).toNat)
 case atStart=>exact ⟨0,ZZj _,rfl,(rfl:Qfd L p=Qfd (L.drop 0) p)⟩
 case round=>
  obtain ⟨k,hk,rfl,HR⟩:=hrel;by_cases af:k<n
  ·obtain ⟨⟨u,x⟩,ab⟩:∃ a,L[k]?=some a:=⟨L[k]'(by have:=HN.out;omega),ZZe _⟩
   obtain ⟨b,ac,rfl,aa⟩:=HA.out (by have:=HN.out;omega);have ad:=(aa k _ ab).1;have ae:=(aa k _ ab).2;have HD:=Qaa (QqC ab p);clear aa ab
   cases heq:(u.toList == p.toList) with
   | true=>
    have HE:Hid (true=Qfd L p):=(by rw [HR.out,HD.out,decide_eq_true (show (u,x).1=p from QbV heq)];rfl:true=Qfd L p);go_wp2;go_ret;exact ⟨Qcf HE,rfl⟩
   | false=>
    have HE:Hid (Qfd L p=Qfd (L.drop (k+1)) p):=(by rw [HR.out,HD.out,decide_eq_false (show ¬ (u,x).1=p from fun e=>by have e:u=p:=e;rw [e] at heq;simp at heq),Bool.false_or]:Qfd L p=Qfd (L.drop (k+1)) p);go_wp2
    go_round
    case rel=>exact ⟨k+1,by omega,by go_num,HE⟩
    case measure=>simp [zI];omega
  ·have HE:Hid (false=Qfd L p):=(by rw [HR.out,List.drop_eq_nil_of_le (by have:=HN.out;omega)];rfl:false=Qfd L p)
   go_wp2;go_ret;exact ⟨Qcf HE,rfl⟩
theorem Qj5 {L:List Hv} (d:Int) (hd:0<=d) (hd2:d<=9000000000000000) (hk:∀ x∈L,0<=x.2/\x.2<=9000000000000000) (hn:L.length=n) (hl:n<=1000) (hA:Qc1 w ao L) :
  Calls prog 64 #[.slice ao n c,.int .i64 d] w fun e w'=>∃ v,e=.returned v/\OwnH w' w.heap.size v (QaM L d)/\Below w.heap.size w w':=by
 obtain ⟨i0,hi,aw,ay,aB⟩:=info_parts Qf5;have HA:=Qaa hA;have HN:=Qaa hn;have HK:=Qaa hk;clear hA hn hk;go_enter func64,ntmps64;go_wp2;have ag:OwnH (w.alloc (Obj.cells #[] 100)) w.heap.size (.slice (some ⟨w.heap.size,0,none⟩) 0 0) []:=World.ownsRow_made w #[] 0 (ZZa _) (ZZj _) rfl
 go_loopw [5,6] (fun sv i wr=>Below w.heap.size w wr/\∃ k:Nat,k<=n/\i=.int .i64 k/\(∃ ah n' c',sv=.slice ah n' c'/\n'<=k)/\Hid (OwnH wr w.heap.size sv (QaM (L.take k) d))) (fun sv i wr=>n - (Go.RowKit.intOf i).toNat)
 case atStart=>exact ⟨(ZZb _ _).alloc (ZZa _) _,0,ZZj _,rfl,⟨_,_,_,rfl,ZZa _⟩,(ag:OwnH _ w.heap.size (.slice (some ⟨w.heap.size,0,none⟩) 0 0) (QaM (L.take 0) d))⟩
 case round=>
  clear ag;obtain ⟨ac,k,hk,rfl,⟨ah,n',c',rfl,aD⟩,ai⟩:=hrel;have HB:=Qaa ac;have hz:=ac.size;by_cases aF:k<n
  ·obtain ⟨⟨u,x⟩,aj⟩:∃ a,L[k]?=some a:=⟨L[k]'(by have:=HN.out;omega),ZZe _⟩
   obtain ⟨av,aC⟩:=HK.out _ (ZZn aj);obtain ⟨b,ad,rfl,ab⟩:=HA.out (by have:=HN.out;omega);have ar:=Qaa (ab k _ aj);have aA:=Qab ac (ab k _ aj).1;have ax:=Qab ac (ab k _ aj).2;have HE:=Qaa (Qns aj d);simp only at av aC;clear ac ab aj;by_cases ap:d<x
   ·have aE:IntKind.i64.wrap (x - d)=x - d:=ZZi _ ⟨by omega,by omega⟩
    have an:Hid (QaM (L.take (k+1)) d=QaM (L.take k) d ++ [(u,x - d)]):=(by rw [HE.out,if_pos ap]:QaM (L.take (k+1)) d=QaM (L.take k) d ++ [(u,x - d)]);have az:Hid (∀ o1,(((wr.alloc o1).drew).ownsRow w.heap.size 100 2 (.slice ah n' c') (QaM (L.take k) d).length (fl QbM (QaM (L.take k) d)))):=(fun o1=>Qat ai (((ZZb _ _).alloc (ZZa _) o1).drew):∀ o1,(((wr.alloc o1).drew).ownsRow w.heap.size 100 2 (.slice ah n' c') (QaM (L.take k) d).length (fl QbM (QaM (L.take k) d))));have au:Hid (∀ o1,Below w.heap.size w (wr.alloc o1).drew):=(fun o1=>(HB.out.alloc hz o1).drew:∀ o1,Below w.heap.size w (wr.alloc o1).drew);have aq:n'=(QaM (L.take k) d).length:=by obtain ⟨a1,c1,e⟩:=ai.out.any;cases e;rfl
    have al:=Qaa aq;clear aq;go_wp2_with fail;have am:=Qaa (fun (W:World) (hW:Below w.heap.size w W)=>(⟨Qab hW ar.out.1,Qab hW ar.out.2⟩:(fun W=>W.cell? ⟨b,ad+k*2,none⟩=some (.string u)/\W.cell? ⟨b,ad+k*2+1,none⟩=some (.int .i64 x)) W));have aa:(fun W=>W.cell? ⟨b,ad+k*2,none⟩=some (.string u)/\W.cell? ⟨b,ad+k*2+1,none⟩=some (.int .i64 x)) wr.drew:=⟨aA,ax⟩;refine Qao (fun W=>W.cell? ⟨b,ad+k*2,none⟩=some (.string u)/\W.cell? ⟨b,ad+k*2+1,none⟩=some (.int .i64 x)) 16 (by kernel_rfl) ?_;refine tkL 0 (.slice ah n' c') aa (fun W hW=>?_) ?_
    ·obtain ⟨x0,x1⟩:=hW
     go_simp
    refine tkL 1 (.slice (some ⟨b,ad,none⟩) n c) aa (fun W hW=>?_) ?_
    ·obtain ⟨x0,x1⟩:=hW
     go_simp
    refine tkL 2 (.int .i64 k) aa (fun W hW=>?_) ?_
    ·obtain ⟨x0,x1⟩:=hW
     go_simp
    simp only [sX];refine tkL 3 (.pointer (some ⟨b,ad+k*2,none⟩)) aa (fun W hW=>?_) ?_
    ·obtain ⟨x0,x1⟩:=hW
     go_simp
    refine tkL 4 (.pointer (some ⟨b,ad+k*2,none⟩)) aa (fun W hW=>?_) ?_
    ·obtain ⟨x0,x1⟩:=hW
     go_simp
    refine tkL 5 (.string u) aa (fun W hW=>?_) ?_
    ·obtain ⟨x0,x1⟩:=hW
     go_simp
    simp only [sX];refine tkL 6 (.slice (some ⟨b,ad,none⟩) n c) aa (fun W hW=>?_) ?_
    ·obtain ⟨x0,x1⟩:=hW
     go_simp
    refine tkL 7 (.int .i64 k) aa (fun W hW=>?_) ?_
    ·obtain ⟨x0,x1⟩:=hW
     go_simp
    refine tkL 8 (.pointer (some ⟨b,ad+k*2,none⟩)) aa (fun W hW=>?_) ?_
    ·obtain ⟨x0,x1⟩:=hW
     go_simp
    simp only [sX];refine tkL 9 (.pointer (some ⟨b,ad+k*2+1,none⟩)) aa (fun W hW=>?_) ?_
    ·obtain ⟨x0,x1⟩:=hW
     go_simp
    refine tkL 10 (.int .i64 x) aa (fun W hW=>?_) ?_
    ·obtain ⟨x0,x1⟩:=hW
     go_simp
    refine tkL 11 (.int .i64 d) aa (fun W hW=>?_) ?_
    ·obtain ⟨x0,x1⟩:=hW
     go_simp
    simp only [sX];refine tkL 12 (.int .i64 (x - d)) aa (fun W hW=>?_) ?_
    ·obtain ⟨x0,x1⟩:=hW
     go_simp
    refine tkL 13 (.agg #[.string u,.int .i64 (x - d)]) aa (fun W hW=>?_) ?_
    ·obtain ⟨x0,x1⟩:=hW
     go_simp
    simp only [sX];refine onE 14 fun K hK=>?_;go_simp;refine hK.out _ _ (fun _=>am.out _ (au.out _)) ?_
    try simp only [sX]
    refine onE 15 fun K hK=>?_;rw [if_pos (by rfl)];refine wp_append_own _ (.tmp 21) (.tmp 35) 37 rfl w.heap.size 100 i0 (.agg #[.string ByteArray.empty,.int .i64 0]) 2 24 underlying37 hi aw ay aB rfl (by decide) _ _ _ rfl (az.out _) ⟨wr.heap.size,0,none⟩ 1 1 (QbM (u,x - d)) rfl rfl (Qav (cs:=#[.string u,.int .i64 (x - d)]) rfl) (Qcp _) (by rw [<- al.out];unfold maxLen;omega) (by rw [<- al.out];omega) (by simp;omega) ?_;intro v1 w1 af ae ak;have O1:=Qaa af;have B1:=Qaa ((au.out _).grown ae (by simp;omega) (fun j hj=>(ai.out.lt j hj).1));clear af ae ak;refine hK.out _ _ (fun _=>am.out _ B1) ?_;obtain ⟨aG,c1,e1⟩:=Qag O1;subst e1
    try simp only [sX]
    refine onE 16 fun K hK=>?_;go_simp;refine hK.out _ _ (fun _=>am.out _ B1) ?_
    try simp only [sX]
    refine dnE ?_ _;go_wp2;go_roundw
    case rel=>
     refine ⟨B1,k+1,by omega,by go_num,⟨_,_,_,rfl,by rw [<- al.out];omega⟩,(?_:OwnH w1 w.heap.size _ (QaM (L.take (k+1)) d))⟩;unfold OwnH;rw [an.out,QdK,QlC,List.length_append];exact O1.out
    case measure=>simp [zI];omega
   ·have an:Hid (QaM (L.take (k+1)) d=QaM (L.take k) d):=(by rw [HE.out,if_neg ap,List.append_nil]:QaM (L.take (k+1)) d=QaM (L.take k) d)
    go_wp2;go_roundw
    case rel=>exact ⟨HB,k+1,by omega,by go_num,⟨_,_,_,rfl,by omega⟩,(by rw [an.out];exact ai.out:OwnH _ w.heap.size _ (QaM (L.take (k+1)) d))⟩
    case measure=>simp [zI];omega
  ·have HF:Hid (OwnH wr w.heap.size (.slice ah n' c') (QaM L d)):=by
    refine (?_:OwnH wr w.heap.size (.slice ah n' c') (QaM L d));have:=ai.out;rw [List.take_of_length_le (by have:=HN.out;omega)] at this;exact this
   clear ac ai;go_wp2;go_ret;exact ⟨_,rfl,HF,HB⟩
end
section
theorem QkN (hp:P.length=pn) (lp:pn<=1048576) (hP:Qc1 w pa P) (cA:pa=none->pc=0) :
  Calls prog 58 #[.agg #[.slice pa pn pc,.int .i64 d,.int .i64 t]] w fun e w'=>∃ v,e=.returned v/\TopOut w' w.heap.size v P d t/\Below w.heap.size w w':=by
 obtain ⟨i0,hi,ah,ai,ak⟩:=info_parts Qf5;have HP:=Qaa hP;have EP:=Qaa hp;have CA:=Qaa cA;clear hP hp cA;have hW:∀ o1 o2 o3,Below w.heap.size w (((w.alloc o1).alloc o2).alloc o3):=fun o1 o2 o3=>(((Below.refl _ _).alloc (Nat.le_refl _) _).alloc (by simp) _).alloc (by simp;omega) _;have HW:=Qaa hW;clear hW
 have hM:∀ o1 o2,(((w.alloc o1).alloc o2).alloc (.cells #[] 100)).ownsRow (w.heap.size+1+1) 100 2 (.slice (some ⟨w.heap.size+1+1,0,none⟩) 0 0) 0 []:=fun o1 o2=>by
  have h:(((w.alloc o1).alloc o2).alloc (.cells #[] 100)).ownsRow ((w.alloc o1).alloc o2).heap.size 100 2 (.slice (some ⟨((w.alloc o1).alloc o2).heap.size,0,none⟩) 0 0) 0 []:=World.ownsRow_made _ #[] 0 (ZZa _) (ZZj _) rfl
  simpa using h
 have aj:=Qaa hM;clear hM
 have hR:∀ o3 W,(((w.alloc (Obj.cells #[.slice pa pn pc,.int .i64 d,.int .i64 t] 39)).alloc (Obj.cells Qdh 39)).alloc o3).grownBy W (some (w.heap.size+1+1))->Below w.heap.size w W/\W.heap[w.heap.size]?=some (.cells #[.slice pa pn pc,.int .i64 d,.int .i64 t] 39 (0,0))/\W.heap[w.heap.size+1]?=some (.cells Qdh 39 (0,0)):=fun o3 W hg=>by
  have h0:Below w.heap.size w W:=(HW.out _ _ _).grown hg (by simp;omega) (fun j hj=>by cases hj;omega);refine ⟨h0,?_,?_⟩
  ·rw [hg.block w.heap.size (by simp;omega) (fun e=>by have:=Option.some.inj e;omega)]
   have hb:Below (w.heap.size+1) (w.alloc (Obj.cells #[.slice pa pn pc,.int .i64 d,.int .i64 t] 39)) (((w.alloc (Obj.cells #[.slice pa pn pc,.int .i64 d,.int .i64 t] 39)).alloc (Obj.cells Qdh 39)).alloc o3):=((Below.refl _ _).alloc (by simp) _).alloc (by simp) _;rw [hb.block _ (by omega)];exact ZZk w _
  ·rw [hg.block (w.heap.size+1) (by simp) (fun e=>by have:=Option.some.inj e;omega)]
   exact Qoi w _ _ _ _
 have HR:=Qaa hR;clear hR;go_enter func58,ntmps58;go_wp2_with (at_builtin;refine Qad _ rfl (.tmp 3) (.tmp 5) 37 rfl (w.heap.size+1+1) 100 i0 (.agg #[.string ByteArray.empty,.int .i64 0]) 2 24 underlying37 hi ah ai ak rfl (by decide) _ _ _ rfl (aj.out _ _) pa pn pc (fl QbM P) rfl (by rw [QbH QeV,EP.out]) (fun e=>⟨by have:=Qup (e ▸ HP.out);rw [<- EP.out,this];rfl,CA.out e⟩) (fun A e=>Qcn (e ▸ Qbr HP (HW.out _ _ _))) (QcU _) (by unfold maxLen;omega) (by omega) (by simp) ?_;intro v1 w1 aa ab ad;simp only [Nat.zero_add,List.nil_append] at aa;obtain ⟨ag,c1,rfl⟩:=Qag aa;obtain ⟨af,ae,ac⟩:=HR.out _ _ ab;obtain ⟨k0,k1,k2⟩:=QdR ae;obtain ⟨r0,r1,r2⟩:=QdR ac;have f0:=frozen_of_row w1 w.heap.size 0 _ _ ae;have e0:=frozen_of_row w1 (w.heap.size+1) 0 _ _ ac;have e1:=frozen_of_row w1 (w.heap.size+1) 1 _ _ ac;have e2:=frozen_of_row w1 (w.heap.size+1) 2 _ _ ac;have O1:=Qaa aa;have T1:=Qaa af;have S1:=Qaa ac;have R1:=Qaa ae;clear aa ab ad af ac ae);refine bodyPost_ret (v:=.agg #[.slice ag pn c1,.int .i64 d,.int .i64 t]) (by simp [results,results58,go_sem,r0,r1,r2]) rfl ⟨_,rfl,⟨_,rfl,?_⟩,?_⟩
 ·have ho:OwnH w1 w.heap.size (.slice ag pn c1) P:=by unfold OwnH;rw [EP.out];exact Qa1 O1 (by omega)
  have n1:=ho.ne S1 (by decide);have n2:=ho.ne R1 (by decide);exact (((ho.set n2 _).set n1 _).set n1 _).set n1 _
 ·repeat (refine Below.setCell ?_ (by simp <;> omega) _)
  exact T1.out
end
section
theorem Qqt (h:Qcm P d t=true):(0<=d/\d<=1000000000000000)/\(0<=t/\t<=1000000000000000):=by
 unfold Qcm at h;simp only [Bool.and_eq_true,decide_eq_true_eq] at h;obtain ⟨⟨⟨⟨h1,h2⟩,h3⟩,h4⟩,h5⟩:=h;have:=QqA h5;omega
theorem QdQ (h:Qcm P d t=true):∀ x∈P,1<=x.2/\x.2<=1000000000000000:=fun x hx=>(QuO h x hx).2
end
section
def QpR (P:List Hv) (d t:Int) (key:ByteArray) (wt:Int):Prop:=Qcm P d t=true/\Qgy key=true/\1<=wt/\wt<=1000000/\t+wt<=1000000000000000
end
section
theorem OwnH.cap {L:List Hv} (h:OwnH w B (.slice ao n c) L):n=L.length/\n<=c/\c<=maxLen/\(ao=none->c=0):=by
 rcases h.2 with ⟨e,e0⟩ | ⟨g,cap,aa,e,h1,h2,h3,h4,h5,h6⟩
 ·cases e;exact ⟨e0.symm,ZZa _,ZZj _,fun _=>rfl⟩
 ·cases e;exact ⟨rfl,h3,h4,fun e=>by cases e⟩
theorem row3 (h:w.heap[r]?=some (.cells #[u0,u1,u2] T (0,0))) :
  (((w.setCell ⟨r,0,none⟩ v0).setCell ⟨r,1,none⟩ v1).setCell ⟨r,2,none⟩ v2).heap[r]?=some (.cells #[v0,v1,v2] T (0,0)):=by
 have h0:=ZZl w r 0 _ _ v0 h;have h1:=ZZl _ r 1 _ _ v1 h0;exact ZZl _ r 2 _ _ v2 h1
end
variable {key:ByteArray}
section
theorem QcG (n lo hi:Int) (w:World) (hn:I64 n) :
  Calls prog 18 #[.int .i64 n,.int .i64 lo,.int .i64 hi] w fun e w'=>e=.returned (.bool (decide (lo<=n) && decide (n<=hi)))/\w'=w:=by
 by_cases h:lo<=n
 ·have d1:decide (lo<=n)=true:=ZZh h
  go_enter func18,ntmps18;go_wp2;go_ret;exact ⟨Qcf (by rw [d1,Bool.true_and]),rfl⟩
 ·have d1:decide (lo<=n)=false:=ZZg h
  go_enter func18,ntmps18;go_wp2;go_ret;exact ⟨rfl,rfl⟩
theorem QpG {p:ByteArray} {u:Int}:∀ {L:List Hv},Qmk L->Qfd L p=true->(Qay L (p,u)).length=L.length
 | [],_,h=>by simp [Qfd] at h
 | y :: r,hr,h=>by
  obtain ⟨h1,h2⟩:=riseH_cons.1 hr;unfold Qay;by_cases hy:Qaz y.1 p=true
  ·rw [if_pos hy]
   have:Qfd r p=true:=by
    unfold Qfd at h ⊢;rw [List.any_cons] at h;have ab:decide (y.1=p)=false:=decide_eq_false (fun e=>by rw [e,Qbn] at hy;cases hy);rw [ab,Bool.false_or] at h;exact h
   rw [List.length_cons,QpG h2 this,List.length_cons]
  ·rw [if_neg hy]
   by_cases he:y.1=p
   ·rw [if_pos he];simp
   ·exfalso
    have ac:Qaz p y.1=true:=by
     rcases QcH (by simpa using hy) with h | h
     ·exact h
     ·exact absurd h he
    unfold Qfd at h;rw [List.any_eq_true] at h;obtain ⟨x,hx,aa⟩:=h;have aa:x.1=p:=by simpa using aa
    rcases List.mem_cons.1 hx with rfl | hx
    ·exact he aa
    ·have:=Qbu ac (h1 x hx)
     rw [aa,Qbn] at this;cases this
theorem Qpv {L:List Hv} {p:ByteArray} (h:Qfd L p=false):∀ x∈L,x.1≠p:=fun x hx e=>by
 have:Qfd L p=true:=by unfold Qfd;rw [List.any_eq_true];exact ⟨x,hx,by simp [e]⟩
 rw [this] at h;cases h
theorem Qps {x:Hv}:∀ {L:List Hv},(∀ y∈L,y.1≠x.1)->(∀ z,z∈Qay L x↔z=x∨z∈L)/\(Qay L x).length=L.length+1
 | [],_=>by simp [Qay]
 | y :: r,h=>by
  have ih:=Qps (L:=r) (fun z hz=>h z (ZZm _ hz));have hne:=h y (List.mem_cons_self ..);unfold Qay
  split
  ·refine ⟨fun z=>?_,by rw [List.length_cons,ih.2,List.length_cons]⟩
   rw [List.mem_cons,ih.1,List.mem_cons];constructor
   ·rintro (h | h | h)
    ·exact .inr (.inl h)
    ·exact .inl h
    ·exact .inr (.inr h)
   ·rintro (h | h | h)
    ·exact .inr (.inl h)
    ·exact .inl h
    ·exact .inr (.inr h)
  ·exact ⟨fun z=>List.mem_cons,rfl⟩
theorem Qni {A:List Hv} (h6:A.length=6) (hall:∀ x∈A,d<=x.2) (hex:∃ x∈A,x.2=d):Qr4 (QeF A) d:=by
 have hl:(QeF A).length=6:=by simp [QeF,h6]
 refine ⟨?_,?_⟩
 ·have:(QeF A).countP (fun x=>decide (d<x))≠(QeF A).length:=fun e=>by
   rw [List.countP_eq_length] at e;obtain ⟨x,hx,hd⟩:=hex;have:=e x.2 (List.mem_map.2 ⟨x,hx,rfl⟩);simp [hd] at this
  have h2:=QhH (fun x=>decide (d<x)) (QeF A);omega
 ·have:(QeF A).countP (fun x=>decide (d<=x))=(QeF A).length:=by
   rw [List.countP_eq_length];intro x hx;obtain ⟨y,hy,rfl⟩:=List.mem_map.1 hx
   simpa using hall y hy
  omega
def Qft:Int->List Hv->Int
 | d,[]=>d
 | d,x :: r=>Qft (if d<x.2 then d else x.2) r
theorem Qm5:∀ (d:Int) (L:List Hv),Qft d L<=d/\∀ x∈L,Qft d L<=x.2
 | d,[]=>⟨Int.le_refl _,fun x hx=>absurd hx List.not_mem_nil⟩
 | d,x :: r=>by
  have ih:=Qm5 (if d<x.2 then d else x.2) r;have h1:(if d<x.2 then d else x.2)<=d/\(if d<x.2 then d else x.2)<=x.2:=by split <;> omega
  refine ⟨by unfold Qft;omega,fun y hy=>?_⟩;unfold Qft;rcases List.mem_cons.1 hy with rfl | hy
  ·omega
  ·exact ih.2 y hy
theorem QnU:∀ (d:Int) (L:List Hv),Qft d L=d∨∃ x∈L,x.2=Qft d L
 | d,[]=>.inl rfl
 | d,x :: r=>by
  unfold Qft;rcases QnU (if d<x.2 then d else x.2) r with h | ⟨y,hy,h⟩
  ·rw [h]
   split
   ·exact .inl rfl
   ·exact .inr ⟨x,List.mem_cons_self ..,rfl⟩
  ·exact .inr ⟨y,ZZm _ hy,h⟩
theorem Qrm (h5:P.length=5) (hn:Qfd P key=false):Qgn (Qay P (key,wt)) (Qft wt P):=by
 obtain ⟨hm,hl⟩:=Qps (x:=(key,wt)) (Qpv hn);have ac:=Qm5 wt P
 have aa:∀ x∈Qay P (key,wt),Qft wt P<=x.2:=fun x hx=>by
  rcases (hm x).1 hx with rfl | h
  ·exact ac.1
  ·exact ac.2 x h
 have ab:∃ x∈Qay P (key,wt),x.2=Qft wt P:=by
  rcases QnU wt P with h | ⟨x,hx,h⟩
  ·exact ⟨(key,wt),(hm _).2 (.inl rfl),h.symm⟩
  ·exact ⟨x,(hm _).2 (.inr hx),h⟩
 exact .inr ⟨by omega,Qni (by omega) aa ab,ab⟩
theorem QqR {L:List Hv} {x:Hv} (h:L[k]?=some x) (d:Int):Qft d (L.drop k)=Qft (if d<x.2 then d else x.2) (L.drop (k+1)):=by
 have hk:=(ZZd.1 h).1;rw [List.drop_eq_getElem_cons hk,(List.getElem?_eq_some_iff.1 h).2];rfl
structure OB (w:World) (b0:Value) (da ta:Int) (ob:Nat) (W:World) (p:Value) (D T:Int):Prop where
 bel:Below w.heap.size w W
 arg:W.heap[w.heap.size]?=some (.cells #[b0,.int .i64 da,.int .i64 ta] 39 (0,0))
 res:W.heap[w.heap.size+1]?=some (.cells Qdh 39 (0,0))
 out:W.heap[ob]?=some (.cells #[p,.int .i64 D,.int .i64 T] 39 (0,0))
 ge:w.heap.size+1<ob
theorem OB.past {W':World} {T:Int} (h:OB w b0 da ta ob W p D T) (hb:Below W.heap.size W W'):OB w b0 da ta ob W' p D T:=
 ⟨Qac h.bel hb,by rw [hb.block _ (Array.getElem?_eq_some_iff.1 h.arg).1];exact h.arg,by rw [hb.block _ (Array.getElem?_eq_some_iff.1 h.res).1];exact h.res,by rw [hb.block _ (Array.getElem?_eq_some_iff.1 h.out).1];exact h.out,h.ge⟩
theorem OB.set0 {T:Int} (h:OB w b0 da ta ob W p D T) (q:Value):OB w b0 da ta ob (W.setCell ⟨ob,0,none⟩ q) q D T:=
 ⟨h.bel.setCell (by have:=h.ge;show w.heap.size<=ob;omega) _,by rw [heap_setCell_other _ _ _ _ (by have:=h.ge;simp;omega)];exact h.arg,by rw [heap_setCell_other _ _ _ _ (by have:=h.ge;simp;omega)];exact h.res,heap_setCell_same W ob 0 _ _ q h.out,h.ge⟩
theorem OB.set1 {T:Int} (h:OB w b0 da ta ob W p D T) (D':Int):OB w b0 da ta ob (W.setCell ⟨ob,1,none⟩ (.int .i64 D')) p D' T:=
 ⟨h.bel.setCell (by have:=h.ge;show w.heap.size<=ob;omega) _,by rw [heap_setCell_other _ _ _ _ (by have:=h.ge;simp;omega)];exact h.arg,by rw [heap_setCell_other _ _ _ _ (by have:=h.ge;simp;omega)];exact h.res,heap_setCell_same W ob 1 _ _ _ h.out,h.ge⟩
theorem OB.set2 {T:Int} (h:OB w b0 da ta ob W p D T) (T':Int):OB w b0 da ta ob (W.setCell ⟨ob,2,none⟩ (.int .i64 T')) p D T':=
 ⟨h.bel.setCell (by have:=h.ge;show w.heap.size<=ob;omega) _,by rw [heap_setCell_other _ _ _ _ (by have:=h.ge;simp;omega)];exact h.arg,by rw [heap_setCell_other _ _ _ _ (by have:=h.ge;simp;omega)];exact h.res,heap_setCell_same W ob 2 _ _ _ h.out,h.ge⟩
theorem OB.cells {T:Int} (h:OB w b0 da ta ob W p D T):(QcW W w.heap.size b0 da ta/\QcW W ob p D T/\QcW W (w.heap.size+1) (.slice none 0 0) 0 0)/\(∀ j,W.frozen? ⟨ob,j,none⟩=false)/\∀ j,W.frozen? ⟨w.heap.size+1,j,none⟩=false:=
 ⟨⟨QdR h.arg,QdR h.out,QdR h.res⟩,fun j=>frozen_of_row W ob j _ _ h.out,fun j=>frozen_of_row W (w.heap.size+1) j _ _ h.res⟩
theorem OB.answer {T D' T':Int} {L:List Hv} (h:OB w b0 da ta ob W p D T) (ho:OwnH W w.heap.size q L):TopOut (tp3 W (w.heap.size+1) q D' T') w.heap.size (.agg #[q,.int .i64 D',.int .i64 T']) L D' T'/\Below w.heap.size w (tp3 W (w.heap.size+1) q D' T'):=
 Qdy h.bel h.res (by omega) ho
theorem OB.ne {T:Int} {L:List Hv} (h:OB w b0 da ta ob W p D T) (ho:OwnH W B q L):q.ownBlock≠some ob:=ho.ne h.out (by decide)
theorem QmN (hkz:key.size<=1048576) (hp:P.length=pn) (lp:pn<=1048576) (hcap:pn<=pc) (hcm:pc<=maxLen) (hP:Qc1 w pa P) (cA:pa=none->pc=0) (kP:∀ x∈P,HvOk x) (ha:I64 da) (hta:I64 ta) (hwt:I64 wt) :
  Calls prog 22 #[.agg #[.slice pa pn pc,.int .i64 da,.int .i64 ta],.string key,.int .i64 wt] w fun e w'=>∃ v,e=.returned v/\Below w.heap.size w w'/\((QpR P da ta key wt/\∃ d,Qgn (Qay P (key,wt)) d/\TopOut w' w.heap.size v (QaM (Qay P (key,wt)) d) (da+d) (ta+wt))∨(¬ QpR P da ta key wt/\TopOut w' w.heap.size v P da ta)):=by
 have HP:=Qaa hP;have EP:=Qaa hp;have KP:=Qaa kP;have HA:=Qaa ha;have bf:=Qaa hta;have aH:=Qaa hwt;have CA:=Qaa cA;have a6:=Qaa hcm;unfold I64 at hwt;clear hP hp kP ha hta cA hcm;go_enter func22,ntmps22;go_wp2_with fail;generalize hW0:(w.alloc (Obj.cells #[.slice pa pn pc,.int .i64 da,.int .i64 ta] 39)).alloc (Obj.cells Qdh 39)=W0;have T0:Below w.heap.size w W0:=by rw [<- hW0];exact ((Below.refl _ _).alloc (Nat.le_refl _) _).alloc (by simp) _
 have K0:QcW W0 w.heap.size (.slice pa pn pc) da ta:=by rw [<- hW0];exact QhM (Qsg w _ _ _ _) ((ZZb _ _).alloc (ZZa _) _)
 have R0:W0.heap[w.heap.size+1]?=some (.cells Qdh 39 (0,0)):=by rw [<- hW0];simpa using heap_alloc_new (w.alloc (Obj.cells #[.slice pa pn pc,.int .i64 da,.int .i64 ta] 39)) (Obj.cells Qdh 39)
 have bm:W0.heap.size=w.heap.size+2:=by rw [<- hW0];simp
 have A0:W0.heap[w.heap.size]?=some (.cells #[.slice pa pn pc,.int .i64 da,.int .i64 ta] 39 (0,0)):=by
  rw [<- hW0];have hb:Below (w.heap.size+1) (w.alloc (Obj.cells #[.slice pa pn pc,.int .i64 da,.int .i64 ta] 39)) ((w.alloc (Obj.cells #[.slice pa pn pc,.int .i64 da,.int .i64 ta] 39)).alloc (Obj.cells Qdh 39)):=(Below.refl _ _).alloc (by simp) _;rw [hb.block _ (by omega)];exact ZZk w _
 clear hW0;have a2:=Qaa T0;clear T0;refine (QkN EP lp (Qbr HP a2) CA).mono ?_;rintro e w1 ⟨v1,rfl,hq,ap⟩;obtain ⟨p1,rfl,aM⟩:=hq;obtain ⟨aa,c1,rfl⟩:=aM.any;rw [EP.out] at aM;rw [EP.out];have aV:=Qaa (Qac a2 ap);have hC:∀ W,Below w1.heap.size w1 W->QcW W w.heap.size (.slice pa pn pc) da ta/\W.heap[w.heap.size+1]?=some (.cells Qdh 39 (0,0))/\OwnH W w.heap.size (.slice aa pn c1) P:=fun W hW=>⟨QhM (QhM K0 ap) hW,by rw [hW.block _ (by have:=ap.size;omega),ap.block _ (by omega)];exact R0,(aM.le (by omega)).past hW⟩;have HC:=Qaa hC;have aq:∀ W,Below w1.heap.size w1 W->W.heap[w.heap.size]?=some (.cells #[.slice pa pn pc,.int .i64 da,.int .i64 ta] 39 (0,0)):=fun W hW=>by rw [hW.block _ (by have:=ap.size;omega),ap.block _ (by omega)];exact A0
 have ar:=Qaa aq;have bu:=ap.size;clear ap K0 R0 hC aM A0 aq;obtain ⟨x0,x1,x2⟩:=(HC.out _ (ZZb _ _)).1
 have be:∀ W,Below (w1.alloc (Obj.cells #[.slice aa pn c1,.int .i64 da,.int .i64 ta] 39)).heap.size (w1.alloc (Obj.cells #[.slice aa pn c1,.int .i64 da,.int .i64 ta] 39)) W->QcW W w.heap.size (.slice pa pn pc) da ta/\W.heap[w.heap.size+1]?=some (.cells Qdh 39 (0,0))/\OwnH W w.heap.size (.slice aa pn c1) P/\W.heap[w1.heap.size]?=some (.cells #[.slice aa pn c1,.int .i64 da,.int .i64 ta] 39 (0,0)):=fun W hW=>by
  have hA:Below w1.heap.size w1 (w1.alloc (Obj.cells #[.slice aa pn c1,.int .i64 da,.int .i64 ta] 39)):=(ZZb _ _).alloc (ZZa _) _;obtain ⟨c1,c2,c3⟩:=HC.out W (Qac hA hW);exact ⟨c1,c2,c3,by rw [hW.block _ (by simp)];exact heap_alloc_new w1 _⟩
 have aw:Hid (Below w.heap.size w (w1.alloc (Obj.cells #[.slice aa pn c1,.int .i64 da,.int .i64 ta] 39))):=(aV.out.alloc aV.out.size _:_);have HD:=Qaa be
 have aF:∀ W,Below (w1.alloc (Obj.cells #[.slice aa pn c1,.int .i64 da,.int .i64 ta] 39)).heap.size (w1.alloc (Obj.cells #[.slice aa pn c1,.int .i64 da,.int .i64 ta] 39)) W->W.heap[w.heap.size]?=some (.cells #[.slice pa pn pc,.int .i64 da,.int .i64 ta] 39 (0,0)):=fun W hW=>by
  have hA:Below w1.heap.size w1 (w1.alloc (Obj.cells #[.slice aa pn c1,.int .i64 da,.int .i64 ta] 39)):=(ZZb _ _).alloc (ZZa _) _;exact ar.out W (Qac hA hW)
 have au:=Qaa aF;clear be aF;by_cases bq:20000<key.size
 ·have an:Hid (¬ QpR P da ta key wt):=fun h=>by have h2:=h.2.1;unfold Qgy at h2;simp at h2;omega
  have bh:w.heap.size+1<w1.heap.size:=by omega
  have R:=(HC.out _ (ZZb _ _)).2.1;obtain ⟨q0,af,ag⟩:=QdR R;have f0:=fzR 0 R;have f1:=fzR 1 R;have f2:=fzR 2 R;have hF:=Qdy (D:=da) (T:=ta) aV R (by omega) (HC.out _ (ZZb _ _)).2.2;have aU:∀ o,Below (tp3 w1 (w.heap.size+1) (.slice aa pn c1) da ta).heap.size (tp3 w1 (w.heap.size+1) (.slice aa pn c1) da ta) ((tp3 w1 (w.heap.size+1) (.slice aa pn c1) da ta).alloc o):=fun o=>(ZZb _ _).alloc (ZZa _) o
  have aI:∀ o,((tp3 w1 (w.heap.size+1) (.slice aa pn c1) da ta).alloc o).heap[w.heap.size+1]?=some (.cells #[.slice aa pn c1,.int .i64 da,.int .i64 ta] 39 (0,0)):=fun o=>by
   have h3:=row3 (v0:=.slice aa pn c1) (v1:=.int .i64 da) (v2:=.int .i64 ta) R;rw [(aU o).block _ (Array.getElem?_eq_some_iff.1 h3).1];exact h3
  obtain ⟨k0,k1,k2⟩:=QdR (aI (Obj.cells #[.slice aa pn c1,.int .i64 da,.int .i64 ta] 39));have HF:Hid (∀ o,TopOut ((tp3 w1 (w.heap.size+1) (.slice aa pn c1) da ta).alloc o) w.heap.size (.agg #[.slice aa pn c1,.int .i64 da,.int .i64 ta]) P da ta/\Below w.heap.size w ((tp3 w1 (w.heap.size+1) (.slice aa pn c1) da ta).alloc o)):=(fun o=>⟨hF.1.past (aU o),hF.2.alloc hF.2.size o⟩:_);clear R hF aI aU;go_wp2;refine bodyPost_ret (v:=.agg #[.slice aa pn c1,.int .i64 da,.int .i64 ta]) (by simp [results,results22,go_sem,k0,k1,k2]) rfl ⟨_,rfl,(HF.out _).2,.inr ⟨an,(HF.out _).1⟩⟩
 ·have bg:w.heap.size<w1.heap.size:=by omega
  go_wp2_with fail;generalize hW1:w1.alloc (Obj.cells #[.slice aa pn c1,.int .i64 da,.int .i64 ta] 39)=W1;have bp:W1.heap.size=w1.heap.size+1:=by rw [<- hW1];simp
  rw [hW1] at HD aw au;clear hW1 HC ar x0 x1 x2;refine (Qjz _ _ EP lp (Qbr HP aw) KP HA bf).mono ?_;rintro e w2 ⟨rfl,aP⟩;have ab:=Qaa aP;have bA:=aP.size;clear aP;obtain ⟨x0,x1,x2⟩:=(HD.out _ ab).1
  cases hs:Qcm P da ta with
  | false=>
   have an:Hid (¬ QpR P da ta key wt):=fun h=>by rw [h.1] at hs;cases hs
   clear hs;have R:=(HD.out _ ab).2.1;obtain ⟨q0,af,ag⟩:=QdR R;have f0:=fzR 0 R;have f1:=fzR 1 R;have f2:=fzR 2 R;obtain ⟨z0,z1,z2⟩:=QdR (HD.out _ ab).2.2.2;have HF:=Qaa (Qdy (D:=da) (T:=ta) (Qac aw ab) R (by omega) (HD.out _ ab).2.2.1);clear R;go_wp2;refine bodyPost_ret (v:=.agg #[.slice aa pn c1,.int .i64 da,.int .i64 ta]) (by simp [results,results22,go_sem,q0,af,ag]) rfl ⟨_,rfl,HF.out.2,.inr ⟨an,HF.out.1⟩⟩
  | true=>
   have aj:=Qaa hs;have na:=Qqt hs;clear hs
   have bl:Qgy key=false∨(Qgy key=true/\(decide (1<=wt) && decide (wt<=1000000))=false)∨(Qgy key=true/\(decide (1<=wt) && decide (wt<=1000000))=true/\1000000000000000<ta+wt)∨(Qgy key=true/\(decide (1<=wt) && decide (wt<=1000000))=true/\¬ 1000000000000000<ta+wt):=by
    cases Qgy key <;> cases (decide (1<=wt) && decide (wt<=1000000)) <;> simp <;> omega
   rcases bl with q1 | ⟨q1,q2⟩ | ⟨q1,q2,q3⟩ | ⟨q1,q2,q3⟩
   ·have an:Hid (¬ QpR P da ta key wt):=fun h=>by rw [h.2.1] at q1;cases q1
    have R:=(HD.out _ ab).2.1;obtain ⟨q0,af,ag⟩:=QdR R;have f0:=fzR 0 R;have f1:=fzR 1 R;have f2:=fzR 2 R;obtain ⟨z0,z1,z2⟩:=QdR (HD.out _ ab).2.2.2;have HF:=Qaa (Qdy (D:=da) (T:=ta) (Qac aw ab) R (by omega) (HD.out _ ab).2.2.1);clear R;go_wp2_with (go_at_call 60;refine (Qa0 _ _ hkz).mono ?_;rintro e w3 ⟨rfl,hw⟩;obtain rfl:=hw.symm;rw [q1]);refine bodyPost_ret (v:=.agg #[.slice aa pn c1,.int .i64 da,.int .i64 ta]) (by simp [results,results22,go_sem,q0,af,ag]) rfl ⟨_,rfl,HF.out.2,.inr ⟨an,HF.out.1⟩⟩
   ·have an:Hid (¬ QpR P da ta key wt):=fun h=>by
     have h1:=ZZh h.2.2.1;have h2:=ZZh h.2.2.2.1;rw [h1,h2] at q2;cases q2
    have R:=(HD.out _ ab).2.1;obtain ⟨q0,af,ag⟩:=QdR R;have f0:=fzR 0 R;have f1:=fzR 1 R;have f2:=fzR 2 R;obtain ⟨z0,z1,z2⟩:=QdR (HD.out _ ab).2.2.2;have HF:=Qaa (Qdy (D:=da) (T:=ta) (Qac aw ab) R (by omega) (HD.out _ ab).2.2.1);clear R;go_wp2_with (first | (go_at_call 60;refine (Qa0 _ _ hkz).mono ?_;rintro e w3 ⟨rfl,hw⟩;obtain rfl:=hw.symm;rw [q1]) | (go_at_call 18;refine (QcG _ _ _ _ aH).mono ?_;rintro e w3 ⟨rfl,hw⟩;obtain rfl:=hw.symm;rw [q2]));refine bodyPost_ret (v:=.agg #[.slice aa pn c1,.int .i64 da,.int .i64 ta]) (by simp [results,results22,go_sem,q0,af,ag]) rfl ⟨_,rfl,HF.out.2,.inr ⟨an,HF.out.1⟩⟩
   ·have an:Hid (¬ QpR P da ta key wt):=fun h=>absurd h.2.2.2.2 (by omega)
    have ao:1<=wt/\wt<=1000000:=by simpa using q2
    have d4:decide (1000000000000000<ta+wt)=true:=ZZh q3;have bn:IntKind.i64.wrap (ta+wt)=ta+wt:=ZZi _ ⟨by omega,by omega⟩;have R:=(HD.out _ ab).2.1;obtain ⟨q0,af,ag⟩:=QdR R;have f0:=fzR 0 R;have f1:=fzR 1 R;have f2:=fzR 2 R;obtain ⟨z0,z1,z2⟩:=QdR (HD.out _ ab).2.2.2;have HF:=Qaa (Qdy (D:=da) (T:=ta) (Qac aw ab) R (by omega) (HD.out _ ab).2.2.1);clear R;go_wp2_with (first | (go_at_call 60;refine (Qa0 _ _ hkz).mono ?_;rintro e w3 ⟨rfl,hw⟩;obtain rfl:=hw.symm;rw [q1]) | (go_at_call 18;refine (QcG _ _ _ _ aH).mono ?_;rintro e w3 ⟨rfl,hw⟩;obtain rfl:=hw.symm;rw [q2]));refine bodyPost_ret (v:=.agg #[.slice aa pn c1,.int .i64 da,.int .i64 ta]) (by simp [results,results22,go_sem,q0,af,ag]) rfl ⟨_,rfl,HF.out.2,.inr ⟨an,HF.out.1⟩⟩
   ·have ao:1<=wt/\wt<=1000000:=by simpa using q2
    have am:Hid (QpR P da ta key wt):=(⟨aj,q1,ao.1,ao.2,by omega⟩:QpR P da ta key wt);have d4:decide (1000000000000000<ta+wt)=false:=ZZg q3;have bn:IntKind.i64.wrap (ta+wt)=ta+wt:=ZZi _ ⟨by omega,by omega⟩;have br:pn<=5:=by have:=(Qig aj).2;have:=EP.out;omega
    have av:OB w (.slice pa pn pc) da ta w1.heap.size w2 (.slice aa pn c1) da ta:=⟨Qac aw ab,by
     have h:=au.out _ ab;exact h,(HD.out _ ab).2.1,(HD.out _ ab).2.2.2,by omega⟩
    have al:=Qaa (av.set2 (ta+wt));obtain ⟨⟨⟨x0,x1,x2⟩,⟨z0,z1,z2⟩,_⟩,ac,_⟩:=av.cells;have g2:=ac 2;have g0:=ac 0;have g1:=ac 1;clear ac av;have aG:Qc1 (w2.setCell ⟨w1.heap.size,2,none⟩ (.int .i64 (ta+wt))) pa P:=Qbr HP al.out.bel;have ae:=Qaa aG;have bj:¬ (w1.heap.size=w.heap.size):=by omega
    clear aG
    have aD:∀ x∈Qay P (key,wt),1<=x.2:=fun x hx=>by
     rcases QoW hx with rfl | h | ⟨y,hy,_,rfl⟩
     ·exact ao.1
     ·exact (QdQ aj x h).1
     ·have:=(QdQ aj y hy).1;show 1<=y.2+wt;omega
    have HZ:Hid (QaM (Qay P (key,wt)) 0=Qay P (key,wt)):=(Qjd aD:QaM (Qay P (key,wt)) 0=Qay P (key,wt));clear aD
    cases hhas:Qfd P key with
    | true=>
     have aS:Hid (Qgn (Qay P (key,wt)) 0):=(.inl ⟨by rw [QpG (Qig aj.out).1 hhas];have:=EP.out;omega,rfl⟩:Qgn (Qay P (key,wt)) 0);go_wp2_with (first | (go_at_call 60;refine (Qa0 _ _ hkz).mono ?_;rintro e w3 ⟨rfl,hw⟩;obtain rfl:=hw.symm;rw [q1]) | (go_at_call 18;refine (QcG _ _ _ _ aH).mono ?_;rintro e w3 ⟨rfl,hw⟩;obtain rfl:=hw.symm;rw [q2]) | (go_at_call 61;refine (QeU _ EP lp ae).mono ?_;rintro e w3 ⟨rfl,hw⟩;obtain rfl:=hw.symm;rw [hhas]));generalize hW5:w2.setCell ⟨w1.heap.size,2,none⟩ (.int .i64 (ta+wt))=W5;rw [hW5] at al ae;clear hW5 z0 z1 z2 g0 g1 g2 x0 x1 x2;refine (QeN _ _ EP (by omega) hcap a6 CA (fun x hx=>by have:=QdQ aj x hx;unfold I64;omega) ae).mono ?_;rintro e w6 ⟨v6,rfl,ay,aK⟩;have ah:=Qaa (al.out.past aK);have az:=Qaa (ay.le (B':=w.heap.size) al.out.bel.size);obtain ⟨aE,c6,rfl⟩:=ay.any;obtain ⟨n6,aA⟩:∃ n6,(Qay P (key,wt)).length=n6:=⟨_,rfl⟩;rw [aA] at az;rw [aA];clear aA ay aK;obtain ⟨⟨⟨x0,x1,x2⟩,⟨z0,z1,z2⟩,⟨q0,af,ag⟩⟩,ac,ad⟩:=ah.out.cells;have g0:=ac 0;have f0:=ad 0;have f1:=ad 1;have f2:=ad 2;have HF:=Qaa ((ah.out.set0 (.slice aE n6 c6)).answer (D':=da) (T':=ta+wt) (az.out.set (ah.out.ne az) _));have a1:=ah.out.ge;clear ac ad;go_wp2;refine bodyPost_ret (v:=.agg #[.slice aE n6 c6,.int .i64 da,.int .i64 (ta+wt)]) (by simp [results,results22,go_sem,q0,af,ag]) rfl ⟨_,rfl,HF.out.2,.inl ⟨am,0,aS,?_⟩⟩;rw [HZ.out,Int.add_zero];exact HF.out.1
    | false=>
     by_cases h5:pn<5
     ·have aS:Hid (Qgn (Qay P (key,wt)) 0):=(.inl ⟨by have:=(Qpo (key,wt) P).2;have:=EP.out;omega,rfl⟩:Qgn (Qay P (key,wt)) 0)
      go_wp2_with (first | (go_at_call 60;refine (Qa0 _ _ hkz).mono ?_;rintro e w3 ⟨rfl,hw⟩;obtain rfl:=hw.symm;rw [q1]) | (go_at_call 18;refine (QcG _ _ _ _ aH).mono ?_;rintro e w3 ⟨rfl,hw⟩;obtain rfl:=hw.symm;rw [q2]) | (go_at_call 61;refine (QeU _ EP lp ae).mono ?_;rintro e w3 ⟨rfl,hw⟩;obtain rfl:=hw.symm;rw [hhas]));generalize hW5:w2.setCell ⟨w1.heap.size,2,none⟩ (.int .i64 (ta+wt))=W5;rw [hW5] at al ae;clear hW5 z0 z1 z2 g0 g1 g2 x0 x1 x2;refine (QeN _ _ EP (by omega) hcap a6 CA (fun x hx=>by have:=QdQ aj x hx;unfold I64;omega) ae).mono ?_;rintro e w6 ⟨v6,rfl,ay,aK⟩;have ah:=Qaa (al.out.past aK);have az:=Qaa (ay.le (B':=w.heap.size) al.out.bel.size);obtain ⟨aE,c6,rfl⟩:=ay.any;obtain ⟨n6,aA⟩:∃ n6,(Qay P (key,wt)).length=n6:=⟨_,rfl⟩;rw [aA] at az;rw [aA];clear aA ay aK;obtain ⟨⟨⟨x0,x1,x2⟩,⟨z0,z1,z2⟩,⟨q0,af,ag⟩⟩,ac,ad⟩:=ah.out.cells;have g0:=ac 0;have f0:=ad 0;have f1:=ad 1;have f2:=ad 2;have HF:=Qaa ((ah.out.set0 (.slice aE n6 c6)).answer (D':=da) (T':=ta+wt) (az.out.set (ah.out.ne az) _));have a1:=ah.out.ge;clear ac ad;go_wp2;refine bodyPost_ret (v:=.agg #[.slice aE n6 c6,.int .i64 da,.int .i64 (ta+wt)]) (by simp [results,results22,go_sem,q0,af,ag]) rfl ⟨_,rfl,HF.out.2,.inl ⟨am,0,aS,?_⟩⟩;rw [HZ.out,Int.add_zero];exact HF.out.1
     ·have ba:Hid (Qgn (Qay P (key,wt)) (Qft wt P)):=(Qrm (by have:=EP.out;omega) hhas:Qgn (Qay P (key,wt)) (Qft wt P))
      have aZ:Hid (∀ y∈P,y.1≠key):=(Qpv hhas:∀ y∈P,y.1≠key);go_wp2_with (first | (go_at_call 60;refine (Qa0 _ _ hkz).mono ?_;rintro e w3 ⟨rfl,hw⟩;obtain rfl:=hw.symm;rw [q1]) | (go_at_call 18;refine (QcG _ _ _ _ aH).mono ?_;rintro e w3 ⟨rfl,hw⟩;obtain rfl:=hw.symm;rw [q2]) | (go_at_call 61;refine (QeU _ EP lp ae).mono ?_;rintro e w3 ⟨rfl,hw⟩;obtain rfl:=hw.symm;rw [hhas]));generalize hW5:w2.setCell ⟨w1.heap.size,2,none⟩ (.int .i64 (ta+wt))=W5;rw [hW5] at al ae;clear hW5 z0 z1 z2 g0 g1 g2 x0 x1 x2;obtain ⟨⟨⟨x0,x1,x2⟩,⟨z0,z1,z2⟩,_⟩,ac,_⟩:=al.out.cells;have g0:=ac 0;have g1:=ac 1;clear ac
      go_loop [8,9] (fun dv iv=>∃ (k:Nat) (dk:Int),k<=pn/\iv=.int .i64 k/\dv=.int .i64 dk/\1<=dk/\dk<=1000000/\Hid (Qft wt P=Qft dk (P.drop k))) (fun dv iv=>pn - (Go.RowKit.intOf iv).toNat)
      case atStart=>exact ⟨0,wt,ZZj _,rfl,rfl,by omega,by omega,(rfl:Qft wt P=Qft wt (P.drop 0))⟩
      case round=>
       obtain ⟨k,dk,hk,rfl,rfl,bw,bt,HR⟩:=hrel;by_cases bv:k<pn
       ·obtain ⟨⟨u,x⟩,aL⟩:∃ a,P[k]?=some a:=⟨P[k]'(by have:=EP.out;omega),ZZe _⟩
        have a7:=(QdQ aj _ (ZZn aL)).1;obtain ⟨b,bs,rfl,ak⟩:=ae.out (by have:=EP.out;omega);have bo:=(ak k _ aL).1;have bi:=(ak k _ aL).2;have HE:Hid (Qft wt P=Qft (if dk<x then dk else x) (P.drop (k+1))):=(by rw [HR.out,QqR aL]:Qft wt P=Qft (if dk<x then dk else x) (P.drop (k+1)))
        have aX:1<=(if dk<x then dk else x)/\(if dk<x then dk else x)<=1000000:=by
         simp only at a7
         split <;> omega
        simp only at bo bi;clear ak aL a7;obtain ⟨dn,a4⟩:∃ dn,(if dk<x then dk else x)=dn:=⟨_,rfl⟩;rw [a4] at HE aX;go_wp2_with (go_at_call 63;refine (QmA _ _ _).mono ?_;rintro e w3 ⟨rfl,hw⟩;obtain rfl:=hw.symm;rw [a4])
        go_round
        case rel=>exact ⟨k+1,dn,by omega,by go_num,rfl,aX.1,aX.2,HE⟩
        case measure=>simp [zI];omega
       ·have a8:dk=Qft wt P:=by rw [HR.out,List.drop_eq_nil_of_le (by have:=EP.out;omega)];rfl
        have bd:Hid (Qgn (Qay P (key,wt)) dk):=(by rw [a8];exact ba.out:Qgn (Qay P (key,wt)) dk);have bc:=Qaa (QlI (x:=(key,wt)) (d:=dk) (Qig aj).1 aZ);clear a8 HR ba;have bz:IntKind.i64.wrap (da+dk)=da+dk:=ZZi _ ⟨by omega,by omega⟩;go_wp2_with fail;generalize hW6:W5.setCell ⟨w1.heap.size,1,none⟩ (.int .i64 (da+dk))=W6;have ah:=Qaa (al.out.set1 (da+dk));rw [hW6] at ah;clear hW6 x0 x1 x2 z0 z1 z2 g0 g1;refine (Qj5 dk (by omega) (by omega) (fun x hx=>by have:=QdQ aj x hx;omega) EP (by omega) (Qbr HP ah.out.bel)).mono ?_;rintro e w7 ⟨v7,rfl,aO,a5⟩;have aB:=Qaa (ah.out.past a5);have aC:=Qaa (aO.le (B':=w.heap.size) ah.out.bel.size);obtain ⟨aJ,c7,rfl⟩:=aO.any;have ai:=aC.out.cap;obtain ⟨n7,aN⟩:∃ n7,(QaM P dk).length=n7:=⟨_,rfl⟩
        have bx:n7<=5:=by
         have:(QaM P dk).length<=P.length:=List.length_filterMap_le _ _;have:=EP.out;omega
        rw [aN] at aC ai;rw [aN];have bk:=Qaa aN;have ax:=Qaa ai;clear aN aO a5 ai;obtain ⟨⟨⟨x0,x1,x2⟩,⟨z0,z1,z2⟩,⟨q0,af,ag⟩⟩,ac,ad⟩:=aB.out.cells;have g0:=ac 0;have f0:=ad 0;have f1:=ad 1;have f2:=ad 2;have a1:=aB.out.ge;clear ac ad;by_cases a3:dk<wt
        ·have bB:IntKind.i64.wrap (wt - dk)=wt - dk:=ZZi _ ⟨by omega,by omega⟩
         go_wp2_with fail;generalize hW8:w7.setCell ⟨w1.heap.size,0,none⟩ (.slice aJ n7 c7)=W8;have aR:=Qaa (aB.out.set0 (.slice aJ n7 c7));have bb:=Qaa (aC.out.set (aB.out.ne aC) (a:=⟨w1.heap.size,0,none⟩) (.slice aJ n7 c7));rw [hW8] at aR bb;clear hW8 x0 x1 x2 z0 z1 z2 q0 af ag g0 f0 f1 f2
         refine (QeN _ _ bk (by omega) ax.out.2.1 ax.out.2.2.1 ax.out.2.2.2 (fun x hx=>by
          obtain ⟨y,hy,rfl,_⟩:=QkX hx;have:=QdQ aj y hy;unfold I64
          show -9223372036854775808<=y.2 - dk+(wt - dk)/\y.2 - dk+(wt - dk)<=9223372036854775807
          omega) bb.out.at).mono ?_
         rintro e w9 ⟨v9,rfl,aY,a9⟩;have aT:=Qaa (aR.out.past a9);have aQ:=Qaa (aY.le (B':=w.heap.size) aR.out.bel.size);obtain ⟨a0,c9,rfl⟩:=aY.any;obtain ⟨n9,aW⟩:∃ n9,(Qay (QaM P dk) (key,wt - dk)).length=n9:=⟨_,rfl⟩;rw [aW] at aQ;rw [aW];clear aW aY a9;obtain ⟨⟨⟨x0,x1,x2⟩,⟨z0,z1,z2⟩,⟨q0,af,ag⟩⟩,ac,ad⟩:=aT.out.cells;have g0:=ac 0;have f0:=ad 0;have f1:=ad 1;have f2:=ad 2;have HF:=Qaa ((aT.out.set0 (.slice a0 n9 c9)).answer (D':=da+dk) (T':=ta+wt) (aQ.out.set (aT.out.ne aQ) _));have HE:Hid (QaM (Qay P (key,wt)) dk=Qay (QaM P dk) (key,wt - dk)):=(by rw [bc.out,if_pos a3]:QaM (Qay P (key,wt)) dk=Qay (QaM P dk) (key,wt - dk));clear ac ad;go_wp2;refine bodyPost_ret (v:=.agg #[.slice a0 n9 c9,.int .i64 (da+dk),.int .i64 (ta+wt)]) (by simp [results,results22,go_sem,q0,af,ag]) rfl ⟨_,rfl,HF.out.2,.inl ⟨am,dk,bd,?_⟩⟩;rw [HE.out];exact HF.out.1
        ·have HF:=Qaa ((aB.out.set0 (.slice aJ n7 c7)).answer (D':=da+dk) (T':=ta+wt) (aC.out.set (aB.out.ne aC) _))
         have HE:Hid (QaM (Qay P (key,wt)) dk=QaM P dk):=(by rw [bc.out,if_neg a3]:QaM (Qay P (key,wt)) dk=QaM P dk);go_wp2;refine bodyPost_ret (v:=.agg #[.slice aJ n7 c7,.int .i64 (da+dk),.int .i64 (ta+wt)]) (by simp [results,results22,go_sem,q0,af,ag]) rfl ⟨_,rfl,HF.out.2,.inl ⟨am,dk,bd,?_⟩⟩;rw [HE.out];exact HF.out.1
end
section
theorem Qo6 (l m:List Int) (x:Int):QcO l (m ++ [x])=Qb0 (QcO l m) x:=by simp [QcO,List.foldl_append]
end
section
theorem QqV {L M:List Int} {y:Int} (h:M[k]?=some y):QcO L (M.take (k+1))=Qb0 (QcO L (M.take k)) y:=by
 rw [List.take_add_one,h];exact Qo6 _ _ _
end
variable {A E1 E2 R R1 R2:List Int}
section
theorem QnC (A B:List Int) (m:Nat) (hm:m<A.length):(mxL A B m).set m (max (A.getD m 0) (B.getD m 0))=mxL A B (m+1):=by
 apply List.ext_getElem (by simp [Qdg]);intro i h1 h2;rw [List.getElem_set];have hi:i<A.length:=by simpa [Qdg] using h2
 split
 ·rename_i e;subst e
  simp only [mxL,List.getElem_map,List.getElem_range];rw [if_pos (by omega)]
 ·rename_i e
  simp only [mxL,List.getElem_map,List.getElem_range];by_cases q:i<m
  ·rw [if_pos q,if_pos (by omega)]
  ·rw [if_neg q,if_neg (by omega)]
theorem Laid.mx {B:List Int} {S:Int->Prop} (h:Laid A S R) (m:Nat):Laid (mxL A B m) S (mxL R B m):=by
 refine ⟨by rw [Qdg,Qdg,h.1],fun i hi=>?_⟩;rw [Qdg] at hi;obtain ⟨h1,h2,h3⟩:=h.2 i hi;rw [Qge A B m i hi,Qge R B m i (by rw [h.1];exact hi)]
 split
 ·refine ⟨by omega,fun x hx hr=>by have:=h2 x hx hr;omega,?_⟩
  by_cases q:B.getD i 0<=R.getD i 0
  ·rcases h3 with h3 | ⟨x,hx,hr,hv⟩
   ·exact .inl (by omega)
   ·exact .inr ⟨x,hx,hr,by omega⟩
  ·exact .inl (by omega)
 ·exact ⟨h1,h2,h3⟩
theorem Qpr:∀ (m l:List Int),(QcO l m).length<=l.length+m.length
 | [],l=>by simp [QcO]
 | x :: m,l=>by
  have h:=Qpr m (Qb0 l x);have h2:(Qb0 l x).length<=l.length+1:=Qgd l x
  show (QcO (Qb0 l x) m).length<=_
  simp only [List.length_cons];omega
end
section
theorem Qh0 (w:World) (T1 T2 T3:TypeId) (p n p' n' x y:Value) (w1:World) (hb:Below (((w.alloc (.cells #[p,n] T1)).alloc (.cells #[p',n'] T2)).alloc (.cells #[x,y] T3)).heap.size (((w.alloc (.cells #[p,n] T1)).alloc (.cells #[p',n'] T2)).alloc (.cells #[x,y] T3)) w1):QbC w1 w.heap.size p n/\QbC w1 (w.heap.size+1) p' n'/\w1.heap[w.heap.size+1+1]?=some (.cells #[x,y] T3 (0,0)):=by
 have k0:=Qf4 w T1 p n;have k1:=Qf4 (w.alloc (.cells #[p,n] T1)) T2 p' n';rw [World.size_alloc] at k1;have a1:∀ (W:World) o,Below W.heap.size W (W.alloc o):=fun W o=>(ZZb _ _).alloc (ZZa _) _;have h2:=ZZk ((w.alloc (.cells #[p,n] T1)).alloc (.cells #[p',n'] T2)) (.cells #[x,y] T3);simp only [World.size_alloc] at h2;exact ⟨Qbi (Qbi (Qbi k0 (a1 _ _)) (a1 _ _)) hb,Qbi (Qbi k1 (a1 _ _)) hb,(hb.block _ (by simp)).trans h2⟩
end
section
theorem Qs3 {B:List Int} (hm:R2.length=m2) (hno:¬ (R1.length=0/\R2.length=0)) (h64:(QeC R1).length=64) (hA:Laid (QeC R1) (·∈E1) A) (hB:Laid (QeC A) (·∈E2) B):Mg E1 R1 E2 R2 [] (mxL B R2 m2):=by
 refine .inr ⟨fun k=>hno ⟨k.1,k.2.1⟩,rfl,?_⟩;rw [Qfl (hA.1.trans h64)] at hB;rw [hm];exact (hA.trans hB (fun x=>Qmb x E1 E2)).mx m2
theorem Qqj (hu:upN E1=true) (h40:¬ (QcO E1 E2).length<=40) (h:Laid (QeC []) (·∈QcO E1 E2) A):Mg E1 [] E2 [] [] A:=by
 refine .inr ⟨fun k=>h40 (by rw [<- QdD hu];exact k.2.2),rfl,?_⟩;rw [List.length_nil,Qdl,QdD hu];exact h
theorem Qtf (hu:upN E1=true) (h40:(QcO E1 E2).length<=40):Mg E1 [] E2 [] (QcO E1 E2) []:=
 .inl ⟨rfl,rfl,by rw [QdD hu];exact h40,(QdD hu E2).symm,rfl⟩
def MgOut (w:World) (E1 R1 E2 R2:List Int) (e:Ending) (w':World):Prop:=∃ v E R,e=.returned v/\Mg E1 R1 E2 R2 E R/\Qqd w' w.heap.size v E R/\Below w.heap.size w w'
theorem MgOut.mk {E:List Int} (h:Mg E1 R1 E2 R2 E R) (o:Qqd w' w.heap.size v E R) (b:Below w.heap.size w w'):MgOut w E1 R1 E2 R2 (.returned v) w':=⟨v,E,R,rfl,h,o,b⟩
theorem Qmi (h1:E1.length=n1) (h3:E2.length=n2) (l1:n1<=40) (l3:n2<=40) (hup:upN E1=true) (c1e:ea=none->c1=0)
  (hE1:QaH .u64 w ea E1) (hE2:QaH .u64 w eb E2) (u1:∀ x∈E1,U64 x) (u2:∀ x∈E2,U64 x) :
  Calls prog 123 #[.agg #[.slice ea n1 c1,.slice ra 0 d1],.agg #[.slice eb n2 c2,.slice rb 0 d2]] w fun e w'=>MgOut w E1 [] E2 [] e w':=by
 obtain ⟨i0,hi,ay,aB,aE⟩:=info_parts QdM;have au:=Qaa hE1;have aH:=Qaa hE2;have H1:=Qaa h1;have H3:=Qaa h3;have U1:=Qaa u1;have U2:=Qaa u2;have C1:=Qaa c1e;have aw:=Qaa hup;have ap:Hid (∀ o1 o2 o3,Below w.heap.size w (((w.alloc o1).alloc o2).alloc o3)):=fun o1 o2 o3=>(((Below.refl _ _).alloc (Nat.le_refl _) _).alloc (by simp) _).alloc (by simp;omega) _
 have HM:Hid (∀ o1 o2 o3,((((w.alloc o1).alloc o2).alloc o3).alloc (.cells #[] 69)).ownsRow (w.heap.size+1+1+1) 69 1 (.slice (some ⟨w.heap.size+1+1+1,0,none⟩) 0 0) 0 []):=fun o1 o2 o3=>by
  have:=World.ownsRow_made (base:=w.heap.size+1+1+1) (e:=69) (size:=1) (((w.alloc o1).alloc o2).alloc o3) #[] 0 (by simp) (Nat.zero_le _) rfl
  simpa using this
 have HC:Hid (∀ W,Below (w.heap.size+1+1+1) (((w.alloc (.cells #[.slice ea n1 c1,.slice ra 0 d1] 88)).alloc (.cells #[.slice eb n2 c2,.slice rb 0 d2] 88)).alloc (.cells #[.slice none 0 0,.slice none 0 0] 88)) W->QbC W w.heap.size (.slice ea n1 c1) (.slice ra 0 d1)/\QbC W (w.heap.size+1) (.slice eb n2 c2) (.slice rb 0 d2)/\W.heap[w.heap.size+1+1]?=some (.cells #[.slice none 0 0,.slice none 0 0] 88 (0,0))/\Below w.heap.size w W):=fun W h=>by
  obtain ⟨q1,q2,q3⟩:=Qh0 w _ _ _ _ _ _ _ _ _ W (by simpa using h);exact ⟨q1,q2,q3,(ap.out _ _ _).trans (h.mono (by omega))⟩
 clear hE1 hE2 h1 h3 u1 u2 c1e hup;go_enter func123,ntmps123;go_wp2_with (at_builtin;refine Qad _ rfl (.tmp 19) (.tmp 21) 85 rfl (w.heap.size+1+1+1) 69 i0 (.int .u64 0) 1 8 underlying85 hi ay aB aE rfl (by decide) _ _ _ rfl (HM.out _ _ _) ea n1 c1 (E1.map (Value.int .u64)) rfl (by simp [H1.out]) (fun e=>⟨Qd3 au H1 e,C1.out e⟩) (Qbt (Qah au ((ap.out _ _ _).alloc (by simp;omega) _))) (QaQ _ _) (by unfold maxLen;omega) (by omega) (by simp) ?_;intro v1 w1 aa ab af;simp only [Nat.zero_add,List.nil_append] at aa;obtain ⟨aI,k1,rfl⟩:=Qag aa;have O1:=Qaa aa;have av:Below (w.heap.size+1+1+1) (((w.alloc (.cells #[.slice ea n1 c1,.slice ra 0 d1] 88)).alloc (.cells #[.slice eb n2 c2,.slice rb 0 d2] 88)).alloc (.cells #[.slice none 0 0,.slice none 0 0] 88)) w1:=((Below.refl _ _).alloc (by simp) _).grown ab (by simp) (fun j hj=>by cases hj;exact Nat.le_refl _);have B1:=Qaa av;clear aa ab af av)
 go_loopw [5,6] (fun lv i wr=>∃ (k:Nat) (ao:Option Addr) (n c:Nat),k<=n2/\i=.int .i64 k/\lv=.slice ao n c/\n<=80/\Hid ((QcO E1 (E2.take k)).length=n)/\Hid (wr.ownsRow (w.heap.size+1+1+1) 69 1 (.slice ao n c) n ((QcO E1 (E2.take k)).map (Value.int .u64)))/\Hid (Below (w.heap.size+1+1+1) (((w.alloc (.cells #[.slice ea n1 c1,.slice ra 0 d1] 88)).alloc (.cells #[.slice eb n2 c2,.slice rb 0 d2] 88)).alloc (.cells #[.slice none 0 0,.slice none 0 0] 88)) wr)) (fun lv i wr=>n2 - (Go.RowKit.intOf i).toNat)
 case atStart=>exact ⟨0,aI,n1,k1,ZZj _,rfl,rfl,by omega,H1,O1,B1⟩
 case round=>
  clear O1 B1;obtain ⟨k,ao,n,c,hk,rfl,rfl,aG,HL,HO,am⟩:=hrel;obtain ⟨⟨x0,x1⟩,⟨y0,y1⟩,r1,t1⟩:=HC.out wr am;have HT:=Qaa t1;have ag:=Qaa r1;have hz:w.heap.size+1+1+1<=wr.heap.size:=by have:=am.out.size;simpa using this
  clear t1 r1;by_cases aD:k<n2
  ·obtain ⟨b,aJ,e,ac⟩:=aH.out (by have:=H3.out;omega)
   subst e;obtain ⟨y,hy⟩:∃ y,E2[k]?=some y:=⟨E2[k]'(by have:=H3.out;omega),ZZe _⟩;have aK:=Qab HT (ac k y hy);have HS:Hid (QcO E1 (E2.take (k+1))=Qb0 (QcO E1 (E2.take k)) y):=QqV hy;have ah:=Qaa (QfC (L:=QcO E1 (E2.take k)) (by rw [HL.out];exact HO.out))
   have aF:Hid ((QcO E1 (E2.take (k+1))).length<=80):=by
    have:=Qpr (E2.take (k+1)) E1;have:=H1.out;have:(E2.take (k+1)).length<=40:=by rw [List.length_take];omega
    show (QcO E1 (E2.take (k+1))).length<=80
    omega
   clear ac hy;go_wp2_with (go_at_call 173;refine (Qi0 y HL (by omega) ah.out.2.2.2.1 ah.out.2.2.2.2.1 ah.out.2.1 ah.out.2.2.2.2.2 ah.out.1).mono ?_;rintro e w4 ⟨v4,rfl,o4,ar⟩;rw [<- HS.out] at o4;obtain ⟨a4,c4,rfl⟩:=Qag o4;have O4:=Qaa (Qa1 o4 hz);have B4:=Qaa (am.out.trans (ar.mono hz));clear o4 ar);go_roundw
   case rel=>exact ⟨k+1,a4,_,c4,by omega,by go_num,rfl,aF,Qaa rfl,O4,B4⟩
   case measure=>simp [zI];omega
  ·have eL:E2.take k=E2:=List.take_of_length_le (by have:=H3.out;omega)
   rw [eL] at HL HO;obtain rfl:k=n2:=by omega
   clear eL aD hk;have q0:wr.cell? ⟨w.heap.size+1+1,0,none⟩=some (.slice none 0 0):=by rw [cell_of_row _ _ 0 _ _ (0,0) ag.out];rfl
   have ai:wr.cell? ⟨w.heap.size+1+1,1,none⟩=some (.slice none 0 0):=by rw [cell_of_row _ _ 1 _ _ (0,0) ag.out];rfl
   have f0:=fzR 0 ag;have f1:=fzR 1 ag;by_cases aq:n<=40
   ·have aj:¬ (40:Int)<(n:Int):=by omega
    have an:Hid (Mg E1 [] E2 [] (QcO E1 E2) []):=Qtf aw (by rw [HL.out];exact aq);go_wp2;refine bodyPost_ret (v:=.agg #[.slice ao n c,.slice none 0 0]) (by simp [results,results123,go_sem,q0,ai]) rfl (MgOut.mk an ⟨_,_,rfl,?_,World.ownsRow_nil _ _ _ _⟩ ?_)
    ·refine Qa1 (B:=w.heap.size+1+1+1) ?_ (by omega)
     repeat (refine ownsRow_setCell_below ?_ (by simp) _)
     rw [HL.out];exact HO.out
    ·exact (HT.out.setCell (by simp;omega) _).setCell (by simp;omega) _
   ·have aj:(40:Int)<(n:Int):=by omega
    have az:Hid (∀ A,Laid (QeC []) (·∈QcO E1 E2) A->Mg E1 [] E2 [] [] A):=fun A h=>Qqj aw (by rw [HL.out];exact aq) h
    have aA:Hid (∀ y∈QcO E1 E2,U64 y):=fun y hy=>by
     rcases (QcT y E2 E1).1 hy with h | h
     ·exact U1.out y h
     ·exact U2.out y h
    have al:=(QfC (L:=QcO E1 E2) (T:=69) (kd:=.u64) (w:=wr) (ao:=ao) (n:=n) (c:=c) (B:=w.heap.size+1+1+1) (by rw [HL.out];exact HO.out)).1;have al:=Qaa al;clear q0 ai f0 f1;go_wp2_with fail;refine (Qce (R:=[]) rfl HL (.inl rfl) (by omega) (fun h=>by simp at h) al aA).mono ?_;rintro e w2 ⟨g,A,rfl,ax,ae,ak⟩;have r2:=(ak.block (w.heap.size+1+1) (by omega)).trans ag;have q0:w2.cell? ⟨w.heap.size+1+1,0,none⟩=some (.slice none 0 0):=by rw [cell_of_row _ _ 0 _ _ (0,0) r2];rfl
    have ai:w2.cell? ⟨w.heap.size+1+1,1,none⟩=some (.slice none 0 0):=by rw [cell_of_row _ _ 1 _ _ (0,0) r2];rfl
    have f0:=fzR 0 r2;have f1:=fzR 1 r2;have an:=Qaa (az.out A ax);have aC:=Qaa (Qac HT ak);have ad:=Qaa ae;clear ax ae ak r2;go_wp2;refine bodyPost_ret (v:=.agg #[.slice none 0 0,.slice (some ⟨g,0,none⟩) 64 64]) (by simp [results,results123,go_sem,q0,ai]) rfl (MgOut.mk an ⟨_,_,rfl,World.ownsRow_nil _ _ _ _,?_⟩ ?_)
    ·refine Qa1 (B:=wr.heap.size) ?_ (by omega)
     repeat (refine ownsRow_setCell_below ?_ (by simp;omega) _)
     rw [ad.out.1];exact ad.out.2
    ·exact (aC.out.setCell (by simp;omega) _).setCell (by simp;omega) _
end
section
theorem Qng {a b:Value} (h:w.heap[g]?=some (.cells #[a,b] 88 (0,0))) (p q:Value):((w.setCell ⟨g,0,none⟩ p).setCell ⟨g,1,none⟩ q).heap[g]?=some (.cells #[p,q] 88 (0,0)):=by
 exact ZZl _ g 1 _ _ q (ZZl w g 0 _ _ p h)
theorem Qmt (h1:E1.length=n1) (h2:R1.length=m1) (h3:E2.length=n2) (h4:R2.length=m2) (l1:n1<=40) (l2:m1=0∨m1=64) (l3:n2<=40) (l4:m2=0∨m2=64) (hno:¬ (m1=0/\m2=0))
  (hE1:QaH .u64 w ea E1) (hR1:QaH .i64 w ra R1) (hE2:QaH .u64 w eb E2) (hR2:QaH .i64 w rb R2) (u1:∀ x∈E1,U64 x) (u2:∀ x∈E2,U64 x) :
  Calls prog 123 #[.agg #[.slice ea n1 c1,.slice ra m1 d1],.agg #[.slice eb n2 c2,.slice rb m2 d2]] w fun e w'=>MgOut w E1 R1 E2 R2 e w':=by
 have a0:=Qaa hE1;have a1:=Qaa hE2;have aX:=Qaa hR1;have aY:=Qaa hR2;have H1:=Qaa h1;have H2:=Qaa h2;have H3:=Qaa h3;have H4:=Qaa h4;have U1:=Qaa u1;have U2:=Qaa u2;have L2:=Qaa l2;have L4:=Qaa l4;have a9:Hid ((QeC R1).length=64):=Qhk (by rw [h2];exact l2);have aZ:Hid (∀ A B,Laid (QeC R1) (·∈E1) A->Laid (QeC A) (·∈E2) B->Mg E1 R1 E2 R2 [] (mxL B R2 m2)):=fun A B hA hB=>Qs3 h4 (by rw [h2,h4];exact hno) (Qhk (by rw [h2];exact l2)) hA hB;have ay:Hid (∀ o1 o2 o3,Below w.heap.size w (((w.alloc o1).alloc o2).alloc o3)):=fun o1 o2 o3=>(((Below.refl _ _).alloc (Nat.le_refl _) _).alloc (by simp) _).alloc (by simp;omega) _;clear hE1 hE2 hR1 hR2 h1 h2 h3 h4 u1 u2;by_cases a2:m1=0
 ·obtain rfl:m2=64:=by omega
  subst a2;have a3:64<=64:=by omega
  go_enter func123,ntmps123;go_wp2_with fail;refine (Qce H2 H1 (.inl rfl) (by omega) (Qah aX (ay.out _ _ _)) (Qah a0 (ay.out _ _ _)) U1).mono ?_;rintro e w1 ⟨g1,A,rfl,az,aa,ap⟩;obtain ⟨_,⟨y0,y1⟩,aj⟩:=Qh0 w _ _ _ _ _ _ _ _ _ w1 ap;have aL:=ap.size;have aA:Below w.heap.size w w1:=(ay.out _ _ _).trans (ap.mono (by simp;omega));simp only [World.size_alloc] at aL aa;have ao:=Qaa aA;have aW:=Qaa aj;have aO:=Qaa az;have aw:=Qaa aa.1
  have aU:Hid (QaH .i64 w1 (some ⟨g1,0,none⟩) A):=(fun _=>⟨g1,0,rfl,fun i x hx=>by
   have hi:=(ZZd.1 hx).1;rw [Nat.zero_add];exact aa.cell (by have:=aa.1;omega) (by rw [List.getD_eq_getElem?_getD,hx];rfl)⟩)
  have aD:Hid (QbC w1 (w.heap.size+1) (.slice eb n2 c2) (.slice rb 64 d2)):=⟨y0,y1⟩;have aq:Hid (∀ o,Below w1.heap.size w1 (w1.alloc o)):=fun o=>(ZZb _ _).alloc (ZZa _) _;have aG:∀ o,(w1.alloc o).cell? ⟨w.heap.size+1,0,none⟩=some (.slice eb n2 c2):=fun o=>Qab (aq.out o) y0;have aF:=Qaa (ZZk w1 (.cells #[.slice none 0 0,.slice (some ⟨g1,0,none⟩) 64 64] 88));clear ap aA aj az aa;go_wp2_with fail;refine (Qce (R:=A) aw H3 (.inr rfl) (by omega) (Qah aU (aq.out _)) (Qah a1 (ao.out.trans ((aq.out _).mono ao.out.size))) U2).mono ?_;rintro e w2 ⟨g2,B,rfl,aC,ac,am⟩;simp only [World.size_alloc] at ac am;have a7:w1.heap.size+1<=w2.heap.size:=by have:=am.size;simpa using this
  have ad:Hid (RowI w2 (w1.heap.size+1) g2 B):=ac;have aI:=Qaa (aZ.out A B aO aC);have a6:w1.heap.size<g2:=by have:=ac.lt.1;omega
  have r2:=(am.block w1.heap.size (by omega)).trans aF;have q0:w2.cell? ⟨w1.heap.size,0,none⟩=some (.slice none 0 0):=by rw [cell_of_row _ _ 0 _ _ (0,0) r2];rfl
  have q1:w2.cell? ⟨w1.heap.size,1,none⟩=some (.slice (some ⟨g1,0,none⟩) 64 64):=by rw [cell_of_row _ _ 1 _ _ (0,0) r2];rfl
  have f0:=fzR 0 r2;have f1:=fzR 1 r2;have ax:=Qaa ((aq.out (.cells #[.slice none 0 0,.slice (some ⟨g1,0,none⟩) 64 64] 88)).trans (am.mono (by omega)));have al:=Qaa (Qng r2 (.slice none 0 0) (.slice (some ⟨g2,0,none⟩) 64 64));clear aC ac am r2;clear y0 y1 aG;obtain ⟨y0,y1⟩:=Qbi aD ax
  have ai:Hid (RowI ((w2.setCell ⟨w1.heap.size,0,none⟩ (.slice none 0 0)).setCell ⟨w1.heap.size,1,none⟩ (.slice (some ⟨g2,0,none⟩) 64 64)) (w1.heap.size+1) g2 (mxL B R2 0)):=by
   rw [Qdl];refine ⟨ad.out.1,?_⟩
   repeat (refine ownsRow_setCell_below ?_ (by simp) _)
   exact ad.out.2
  have ak:Hid (Below w1.heap.size w1 ((w2.setCell ⟨w1.heap.size,0,none⟩ (.slice none 0 0)).setCell ⟨w1.heap.size,1,none⟩ (.slice (some ⟨g2,0,none⟩) 64 64))):=(ax.out.setCell (ZZa _) _).setCell (ZZa _) _;have an:=Qaa ad.out.1;clear ad ax;go_wp2_with fail;clear q0 q1 f0 f1 y0 y1
  go_loopw [8] (fun iv wr=>∃ k:Nat,k<=64/\iv=.int .i64 k/\Hid (RowI wr (w1.heap.size+1) g2 (mxL B R2 k))/\Hid (wr.heap[w1.heap.size]?=some (.cells #[.slice none 0 0,.slice (some ⟨g2,0,none⟩) 64 64] 88 (0,0)))/\Hid (Below w1.heap.size w1 wr)) (fun iv wr=>64 - (Go.RowKit.intOf iv).toNat)
  case atStart=>exact ⟨0,ZZj _,rfl,ai,al,ak⟩
  case round=>
   clear ai al ak;obtain ⟨k,hk,rfl,ah,al,ag⟩:=hrel;have af:=ah.out.lt.2;have aM:=ag.out.size
   have HC:Hid (∀ W,Below wr.heap.size wr W->QbC W (w.heap.size+1) (.slice eb n2 c2) (.slice rb 64 d2)/\QbC W w1.heap.size (.slice none 0 0) (.slice (some ⟨g2,0,none⟩) 64 64)):=fun W hW=>by
    have hr:W.heap[w1.heap.size]?=some (.cells #[.slice none 0 0,.slice (some ⟨g2,0,none⟩) 64 64] 88 (0,0)):=by rw [hW.block _ (by omega)];exact al.out
    refine ⟨Qbi (Qbi aD ag) hW,?_,?_⟩
    ·rw [cell_of_row _ _ 0 _ _ (0,0) hr];rfl
    ·rw [cell_of_row _ _ 1 _ _ (0,0) hr];rfl
   by_cases a5:k<64
   ·have a8:(k:Int)<(64:Int):=by omega
    have aQ:(k:Int)<64:=by omega
    obtain ⟨b,av,e,ae⟩:=aY.out (by have:=H4.out;omega);subst e;obtain ⟨y,hy⟩:∃ y,R2[k]?=some y:=⟨R2[k]'(by have:=H4.out;omega),ZZe _⟩;obtain ⟨u,hu⟩:∃ u,B.getD k 0=u:=⟨_,rfl⟩;have aB:=Qab (Qac ao ag) (ae k y hy);have aE:u=(mxL B R2 k).getD k 0:=by rw [Qge B R2 k k (by rw [an.out];omega),if_neg (Nat.lt_irrefl _)];exact hu.symm
    have ar:Hid (∀ W,Below wr.heap.size wr W->W.cell? ⟨b,av+k,none⟩=some (.int .i64 y)/\W.cell? ⟨g2,k,none⟩=some (.int .i64 u)):=fun W hW=>⟨Qab hW aB,(ah.out.below af hW).cell (by omega) aE⟩
    have aV:Hid ((mxL B R2 k).set k (max u y)=mxL B R2 (k+1)):=by
     have aJ:R2.getD k 0=y:=by rw [List.getD_eq_getElem?_getD,hy];rfl
     have:=QnC B R2 k (by rw [an.out];omega);rw [hu,aJ] at this;exact this
    clear ae aB hu aE hy;have a4:(0:Int)<=(k:Int):=by omega
    obtain ⟨⟨y0,y1⟩,⟨z0,z1⟩⟩:=HC.out wr (ZZb _ _);go_wp2_with fail;clear y0 y1 z0 z1;have ab:(fun W=>Below wr.heap.size wr W) wr.drew:=(ZZb _ _).drew;refine Qao (fun W=>Below wr.heap.size wr W) 15 (by kernel_rfl) ?_;refine tkL 0 (.pointer (some ⟨w1.heap.size,1,none⟩)) ab (fun W hW=>?_) ?_
    ·obtain ⟨⟨y0,y1⟩,⟨z0,z1⟩⟩:=HC.out W hW
     go_simp
    refine tkL 1 (.slice (some ⟨g2,0,none⟩) 64 64) ab (fun W hW=>?_) ?_
    ·obtain ⟨⟨y0,y1⟩,⟨z0,z1⟩⟩:=HC.out W hW
     go_simp
    refine tkL 2 (.int .i64 (k:Int)) ab (fun W hW=>?_) ?_
    ·obtain ⟨⟨y0,y1⟩,⟨z0,z1⟩⟩:=HC.out W hW
     go_simp
    simp only [sX];refine tkL 3 (.pointer (some ⟨w1.heap.size,1,none⟩)) ab (fun W hW=>?_) ?_
    ·obtain ⟨⟨y0,y1⟩,⟨z0,z1⟩⟩:=HC.out W hW
     go_simp
    refine tkL 4 (.slice (some ⟨g2,0,none⟩) 64 64) ab (fun W hW=>?_) ?_
    ·obtain ⟨⟨y0,y1⟩,⟨z0,z1⟩⟩:=HC.out W hW
     go_simp
    refine tkL 5 (.int .i64 (k:Int)) ab (fun W hW=>?_) ?_
    ·obtain ⟨⟨y0,y1⟩,⟨z0,z1⟩⟩:=HC.out W hW
     go_simp
    simp only [sX];refine tkL 6 (.pointer (some ⟨g2,k,none⟩)) ab (fun W hW=>?_) ?_
    ·obtain ⟨⟨y0,y1⟩,⟨z0,z1⟩⟩:=HC.out W hW
     go_simp
    refine tkL 7 (.int .i64 u) ab (fun W hW=>?_) ?_
    ·obtain ⟨p0,p1⟩:=ar.out W hW
     go_simp
    refine tkL 8 (.pointer (some ⟨w.heap.size+1,1,none⟩)) ab (fun W hW=>?_) ?_
    ·obtain ⟨⟨y0,y1⟩,⟨z0,z1⟩⟩:=HC.out W hW
     go_simp
    simp only [sX];refine tkL 9 (.slice (some ⟨b,av,none⟩) 64 d2) ab (fun W hW=>?_) ?_
    ·obtain ⟨⟨y0,y1⟩,⟨z0,z1⟩⟩:=HC.out W hW
     go_simp
    refine tkL 10 (.int .i64 (k:Int)) ab (fun W hW=>?_) ?_
    ·obtain ⟨⟨y0,y1⟩,⟨z0,z1⟩⟩:=HC.out W hW
     go_simp
    refine tkL 11 (.pointer (some ⟨b,av+k,none⟩)) ab (fun W hW=>?_) ?_
    ·obtain ⟨⟨y0,y1⟩,⟨z0,z1⟩⟩:=HC.out W hW
     go_simp
    simp only [sX];refine tkL 12 (.int .i64 y) ab (fun W hW=>?_) ?_
    ·obtain ⟨p0,p1⟩:=ar.out W hW
     go_simp
    simp only [sX];refine onE 13 fun K hK=>?_;go_simp;refine (Qb6 _ _ _).mono ?_;rintro e wz ⟨rfl,aS⟩;obtain rfl:=aS.symm;dsimp only;refine gK hK ab ?_
    try simp only [sX]
    refine tkL 14 (.pointer (some ⟨g2,k,none⟩)) ab (fun W hW=>?_) ?_
    ·obtain ⟨⟨y0,y1⟩,⟨z0,z1⟩⟩:=HC.out W hW
     go_simp
    simp only [sX];have aT:wr.drew.frozen? ⟨g2,k,none⟩=false:=(ah.out.below af (ZZb _ _).drew).froz k;have aP:=(ar.out wr.drew (ZZb _ _).drew).2;refine onE 15 fun K hK=>?_;go_simp;refine hK.out _ _ (fun h=>absurd rfl h) ?_
    try simp only [sX]
    refine dnE ?_ _
    have aR:Hid (RowI (wr.drew.setCell ⟨g2,k,none⟩ (.int .i64 (max u y))) (w1.heap.size+1) g2 (mxL B R2 (k+1))):=by
     rw [<- aV.out];exact (ah.out.below af (ZZb _ _).drew).set k (max u y)
    have aH:Hid (Below w1.heap.size w1 (wr.drew.setCell ⟨g2,k,none⟩ (.int .i64 (max u y)))):=(ag.out.drew).setCell (by simp;omega) _
    have au:Hid ((wr.drew.setCell ⟨g2,k,none⟩ (.int .i64 (max u y))).heap[w1.heap.size]?=some (.cells #[.slice none 0 0,.slice (some ⟨g2,0,none⟩) 64 64] 88 (0,0))):=by
     rw [heap_setCell_other _ _ _ _ (by simp;omega)];exact al.out
    clear aT aP;go_wp2;go_roundw
    case rel=>exact ⟨k+1,by omega,by go_num,aR,au,aH⟩
    case measure=>simp [zI];omega
   ·obtain rfl:k=64:=by omega
    obtain ⟨⟨y0,y1⟩,⟨z0,z1⟩⟩:=HC.out wr (ZZb _ _);have r3:=(ag.out.block (w.heap.size+1+1) (by omega)).trans aW;have q0:wr.cell? ⟨w.heap.size+1+1,0,none⟩=some (.slice none 0 0):=by rw [cell_of_row _ _ 0 _ _ (0,0) r3];rfl
    have aK:wr.cell? ⟨w.heap.size+1+1,1,none⟩=some (.slice none 0 0):=by rw [cell_of_row _ _ 1 _ _ (0,0) r3];rfl
    have f0:=fzR 0 r3;have f1:=fzR 1 r3;have aN:=Qaa (Qac ao ag);clear r3;go_wp2;refine bodyPost_ret (v:=.agg #[.slice none 0 0,.slice (some ⟨g2,0,none⟩) 64 64]) (by simp [results,results123,go_sem,q0,aK]) rfl (MgOut.mk aI ⟨_,_,rfl,World.ownsRow_nil _ _ _ _,?_⟩ ?_)
    ·refine Qa1 (B:=w1.heap.size+1) ?_ (by omega)
     repeat (refine ownsRow_setCell_below ?_ (by simp;omega) _)
     rw [ah.out.1];exact ah.out.2
    ·exact (aN.out.setCell (by simp;omega) _).setCell (by simp;omega) _
 ·obtain rfl:m1=64:=by omega
  have a3:m2<=64:=by omega
  clear a2 hno l4 l2;go_enter func123,ntmps123;go_wp2_with fail;refine (Qce H2 H1 (.inr rfl) (by omega) (Qah aX (ay.out _ _ _)) (Qah a0 (ay.out _ _ _)) U1).mono ?_;rintro e w1 ⟨g1,A,rfl,az,aa,ap⟩;obtain ⟨_,⟨y0,y1⟩,aj⟩:=Qh0 w _ _ _ _ _ _ _ _ _ w1 ap;have aL:=ap.size;have aA:Below w.heap.size w w1:=(ay.out _ _ _).trans (ap.mono (by simp;omega));simp only [World.size_alloc] at aL aa;have ao:=Qaa aA;have aW:=Qaa aj;have aO:=Qaa az;have aw:=Qaa aa.1
  have aU:Hid (QaH .i64 w1 (some ⟨g1,0,none⟩) A):=(fun _=>⟨g1,0,rfl,fun i x hx=>by
   have hi:=(ZZd.1 hx).1;rw [Nat.zero_add];exact aa.cell (by have:=aa.1;omega) (by rw [List.getD_eq_getElem?_getD,hx];rfl)⟩)
  have aD:Hid (QbC w1 (w.heap.size+1) (.slice eb n2 c2) (.slice rb m2 d2)):=⟨y0,y1⟩;have aq:Hid (∀ o,Below w1.heap.size w1 (w1.alloc o)):=fun o=>(ZZb _ _).alloc (ZZa _) _;have aG:∀ o,(w1.alloc o).cell? ⟨w.heap.size+1,0,none⟩=some (.slice eb n2 c2):=fun o=>Qab (aq.out o) y0;have aF:=Qaa (ZZk w1 (.cells #[.slice none 0 0,.slice (some ⟨g1,0,none⟩) 64 64] 88));clear ap aA aj az aa;go_wp2_with fail;refine (Qce (R:=A) aw H3 (.inr rfl) (by omega) (Qah aU (aq.out _)) (Qah a1 (ao.out.trans ((aq.out _).mono ao.out.size))) U2).mono ?_;rintro e w2 ⟨g2,B,rfl,aC,ac,am⟩;simp only [World.size_alloc] at ac am;have a7:w1.heap.size+1<=w2.heap.size:=by have:=am.size;simpa using this
  have ad:Hid (RowI w2 (w1.heap.size+1) g2 B):=ac;have aI:=Qaa (aZ.out A B aO aC);have a6:w1.heap.size<g2:=by have:=ac.lt.1;omega
  have r2:=(am.block w1.heap.size (by omega)).trans aF;have q0:w2.cell? ⟨w1.heap.size,0,none⟩=some (.slice none 0 0):=by rw [cell_of_row _ _ 0 _ _ (0,0) r2];rfl
  have q1:w2.cell? ⟨w1.heap.size,1,none⟩=some (.slice (some ⟨g1,0,none⟩) 64 64):=by rw [cell_of_row _ _ 1 _ _ (0,0) r2];rfl
  have f0:=fzR 0 r2;have f1:=fzR 1 r2;have ax:=Qaa ((aq.out (.cells #[.slice none 0 0,.slice (some ⟨g1,0,none⟩) 64 64] 88)).trans (am.mono (by omega)));have al:=Qaa (Qng r2 (.slice none 0 0) (.slice (some ⟨g2,0,none⟩) 64 64));clear aC ac am r2;clear y0 y1 aG;obtain ⟨y0,y1⟩:=Qbi aD ax
  have ai:Hid (RowI ((w2.setCell ⟨w1.heap.size,0,none⟩ (.slice none 0 0)).setCell ⟨w1.heap.size,1,none⟩ (.slice (some ⟨g2,0,none⟩) 64 64)) (w1.heap.size+1) g2 (mxL B R2 0)):=by
   rw [Qdl];refine ⟨ad.out.1,?_⟩
   repeat (refine ownsRow_setCell_below ?_ (by simp) _)
   exact ad.out.2
  have ak:Hid (Below w1.heap.size w1 ((w2.setCell ⟨w1.heap.size,0,none⟩ (.slice none 0 0)).setCell ⟨w1.heap.size,1,none⟩ (.slice (some ⟨g2,0,none⟩) 64 64))):=(ax.out.setCell (ZZa _) _).setCell (ZZa _) _;have an:=Qaa ad.out.1;clear ad ax;go_wp2_with fail;clear q0 q1 f0 f1 y0 y1
  go_loopw [8] (fun iv wr=>∃ k:Nat,k<=m2/\iv=.int .i64 k/\Hid (RowI wr (w1.heap.size+1) g2 (mxL B R2 k))/\Hid (wr.heap[w1.heap.size]?=some (.cells #[.slice none 0 0,.slice (some ⟨g2,0,none⟩) 64 64] 88 (0,0)))/\Hid (Below w1.heap.size w1 wr)) (fun iv wr=>m2 - (Go.RowKit.intOf iv).toNat)
  case atStart=>exact ⟨0,ZZj _,rfl,ai,al,ak⟩
  case round=>
   clear ai al ak;obtain ⟨k,hk,rfl,ah,al,ag⟩:=hrel;have af:=ah.out.lt.2;have aM:=ag.out.size
   have HC:Hid (∀ W,Below wr.heap.size wr W->QbC W (w.heap.size+1) (.slice eb n2 c2) (.slice rb m2 d2)/\QbC W w1.heap.size (.slice none 0 0) (.slice (some ⟨g2,0,none⟩) 64 64)):=fun W hW=>by
    have hr:W.heap[w1.heap.size]?=some (.cells #[.slice none 0 0,.slice (some ⟨g2,0,none⟩) 64 64] 88 (0,0)):=by rw [hW.block _ (by omega)];exact al.out
    refine ⟨Qbi (Qbi aD ag) hW,?_,?_⟩
    ·rw [cell_of_row _ _ 0 _ _ (0,0) hr];rfl
    ·rw [cell_of_row _ _ 1 _ _ (0,0) hr];rfl
   by_cases a5:k<m2
   ·have a8:(k:Int)<(m2:Int):=by omega
    have aQ:(k:Int)<64:=by omega
    obtain ⟨b,av,e,ae⟩:=aY.out (by have:=H4.out;omega);subst e;obtain ⟨y,hy⟩:∃ y,R2[k]?=some y:=⟨R2[k]'(by have:=H4.out;omega),ZZe _⟩;obtain ⟨u,hu⟩:∃ u,B.getD k 0=u:=⟨_,rfl⟩;have aB:=Qab (Qac ao ag) (ae k y hy);have aE:u=(mxL B R2 k).getD k 0:=by rw [Qge B R2 k k (by rw [an.out];omega),if_neg (Nat.lt_irrefl _)];exact hu.symm
    have ar:Hid (∀ W,Below wr.heap.size wr W->W.cell? ⟨b,av+k,none⟩=some (.int .i64 y)/\W.cell? ⟨g2,k,none⟩=some (.int .i64 u)):=fun W hW=>⟨Qab hW aB,(ah.out.below af hW).cell (by omega) aE⟩
    have aV:Hid ((mxL B R2 k).set k (max u y)=mxL B R2 (k+1)):=by
     have aJ:R2.getD k 0=y:=by rw [List.getD_eq_getElem?_getD,hy];rfl
     have:=QnC B R2 k (by rw [an.out];omega);rw [hu,aJ] at this;exact this
    clear ae aB hu aE hy;have a4:(0:Int)<=(k:Int):=by omega
    obtain ⟨⟨y0,y1⟩,⟨z0,z1⟩⟩:=HC.out wr (ZZb _ _);go_wp2_with fail;clear y0 y1 z0 z1;have ab:(fun W=>Below wr.heap.size wr W) wr.drew:=(ZZb _ _).drew;refine Qao (fun W=>Below wr.heap.size wr W) 15 (by kernel_rfl) ?_;refine tkL 0 (.pointer (some ⟨w1.heap.size,1,none⟩)) ab (fun W hW=>?_) ?_
    ·obtain ⟨⟨y0,y1⟩,⟨z0,z1⟩⟩:=HC.out W hW
     go_simp
    refine tkL 1 (.slice (some ⟨g2,0,none⟩) 64 64) ab (fun W hW=>?_) ?_
    ·obtain ⟨⟨y0,y1⟩,⟨z0,z1⟩⟩:=HC.out W hW
     go_simp
    refine tkL 2 (.int .i64 (k:Int)) ab (fun W hW=>?_) ?_
    ·obtain ⟨⟨y0,y1⟩,⟨z0,z1⟩⟩:=HC.out W hW
     go_simp
    simp only [sX];refine tkL 3 (.pointer (some ⟨w1.heap.size,1,none⟩)) ab (fun W hW=>?_) ?_
    ·obtain ⟨⟨y0,y1⟩,⟨z0,z1⟩⟩:=HC.out W hW
     go_simp
    refine tkL 4 (.slice (some ⟨g2,0,none⟩) 64 64) ab (fun W hW=>?_) ?_
    ·obtain ⟨⟨y0,y1⟩,⟨z0,z1⟩⟩:=HC.out W hW
     go_simp
    refine tkL 5 (.int .i64 (k:Int)) ab (fun W hW=>?_) ?_
    ·obtain ⟨⟨y0,y1⟩,⟨z0,z1⟩⟩:=HC.out W hW
     go_simp
    simp only [sX];refine tkL 6 (.pointer (some ⟨g2,k,none⟩)) ab (fun W hW=>?_) ?_
    ·obtain ⟨⟨y0,y1⟩,⟨z0,z1⟩⟩:=HC.out W hW
     go_simp
    refine tkL 7 (.int .i64 u) ab (fun W hW=>?_) ?_
    ·obtain ⟨p0,p1⟩:=ar.out W hW
     go_simp
    refine tkL 8 (.pointer (some ⟨w.heap.size+1,1,none⟩)) ab (fun W hW=>?_) ?_
    ·obtain ⟨⟨y0,y1⟩,⟨z0,z1⟩⟩:=HC.out W hW
     go_simp
    simp only [sX];refine tkL 9 (.slice (some ⟨b,av,none⟩) m2 d2) ab (fun W hW=>?_) ?_
    ·obtain ⟨⟨y0,y1⟩,⟨z0,z1⟩⟩:=HC.out W hW
     go_simp
    refine tkL 10 (.int .i64 (k:Int)) ab (fun W hW=>?_) ?_
    ·obtain ⟨⟨y0,y1⟩,⟨z0,z1⟩⟩:=HC.out W hW
     go_simp
    refine tkL 11 (.pointer (some ⟨b,av+k,none⟩)) ab (fun W hW=>?_) ?_
    ·obtain ⟨⟨y0,y1⟩,⟨z0,z1⟩⟩:=HC.out W hW
     go_simp
    simp only [sX];refine tkL 12 (.int .i64 y) ab (fun W hW=>?_) ?_
    ·obtain ⟨p0,p1⟩:=ar.out W hW
     go_simp
    simp only [sX];refine onE 13 fun K hK=>?_;go_simp;refine (Qb6 _ _ _).mono ?_;rintro e wz ⟨rfl,aS⟩;obtain rfl:=aS.symm;dsimp only;refine gK hK ab ?_
    try simp only [sX]
    refine tkL 14 (.pointer (some ⟨g2,k,none⟩)) ab (fun W hW=>?_) ?_
    ·obtain ⟨⟨y0,y1⟩,⟨z0,z1⟩⟩:=HC.out W hW
     go_simp
    simp only [sX];have aT:wr.drew.frozen? ⟨g2,k,none⟩=false:=(ah.out.below af (ZZb _ _).drew).froz k;have aP:=(ar.out wr.drew (ZZb _ _).drew).2;refine onE 15 fun K hK=>?_;go_simp;refine hK.out _ _ (fun h=>absurd rfl h) ?_
    try simp only [sX]
    refine dnE ?_ _
    have aR:Hid (RowI (wr.drew.setCell ⟨g2,k,none⟩ (.int .i64 (max u y))) (w1.heap.size+1) g2 (mxL B R2 (k+1))):=by
     rw [<- aV.out];exact (ah.out.below af (ZZb _ _).drew).set k (max u y)
    have aH:Hid (Below w1.heap.size w1 (wr.drew.setCell ⟨g2,k,none⟩ (.int .i64 (max u y)))):=(ag.out.drew).setCell (by simp;omega) _
    have au:Hid ((wr.drew.setCell ⟨g2,k,none⟩ (.int .i64 (max u y))).heap[w1.heap.size]?=some (.cells #[.slice none 0 0,.slice (some ⟨g2,0,none⟩) 64 64] 88 (0,0))):=by
     rw [heap_setCell_other _ _ _ _ (by simp;omega)];exact al.out
    clear aT aP;go_wp2;go_roundw
    case rel=>exact ⟨k+1,by omega,by go_num,aR,au,aH⟩
    case measure=>simp [zI];omega
   ·obtain rfl:k=m2:=by omega
    obtain ⟨⟨y0,y1⟩,⟨z0,z1⟩⟩:=HC.out wr (ZZb _ _);have r3:=(ag.out.block (w.heap.size+1+1) (by omega)).trans aW;have q0:wr.cell? ⟨w.heap.size+1+1,0,none⟩=some (.slice none 0 0):=by rw [cell_of_row _ _ 0 _ _ (0,0) r3];rfl
    have aK:wr.cell? ⟨w.heap.size+1+1,1,none⟩=some (.slice none 0 0):=by rw [cell_of_row _ _ 1 _ _ (0,0) r3];rfl
    have f0:=fzR 0 r3;have f1:=fzR 1 r3;have aN:=Qaa (Qac ao ag);clear r3;go_wp2;refine bodyPost_ret (v:=.agg #[.slice none 0 0,.slice (some ⟨g2,0,none⟩) 64 64]) (by simp [results,results123,go_sem,q0,aK]) rfl (MgOut.mk aI ⟨_,_,rfl,World.ownsRow_nil _ _ _ _,?_⟩ ?_)
    ·refine Qa1 (B:=w1.heap.size+1) ?_ (by omega)
     repeat (refine ownsRow_setCell_below ?_ (by simp;omega) _)
     rw [ah.out.1];exact ah.out.2
    ·exact (aN.out.setCell (by simp;omega) _).setCell (by simp;omega) _
end
section
theorem QmS (q1:hlB E1 R1=true) (q2:hlB E2 R2=true) (h1:E1.length=n1) (h2:R1.length=m1) (h3:E2.length=n2) (h4:R2.length=m2) (c1e:ea=none->c1=0)
  (hE1:QaH .u64 w ea E1) (hR1:QaH .i64 w ra R1) (hE2:QaH .u64 w eb E2) (hR2:QaH .i64 w rb R2) (u1:∀ x∈E1,U64 x) (u2:∀ x∈E2,U64 x) :
  Calls prog 123 #[.agg #[.slice ea n1 c1,.slice ra m1 d1],.agg #[.slice eb n2 c2,.slice rb m2 d2]] w fun e w'=>MgOut w E1 R1 E2 R2 e w':=by
 obtain ⟨a1,a2⟩:=Qc6 q1;obtain ⟨b1,b2⟩:=Qc6 q2;rw [h1] at a1;rw [h2] at a2;rw [h3] at b1;rw [h4] at b2;by_cases h:m1=0/\m2=0
 ·obtain ⟨rfl,rfl⟩:=h
  obtain rfl:=List.eq_nil_of_length_eq_zero h2;obtain rfl:=List.eq_nil_of_length_eq_zero h4
  have hu:upN E1=true:=by
   rcases Qga q1 with ⟨_,k⟩ | ⟨k,_⟩
   ·exact k
   ·simp at k
  exact Qmi h1 h3 a1 b1 hu c1e hE1 hE2 u1 u2
 ·exact Qmt h1 h2 h3 h4 a1 a2 b1 b2 h hE1 hR1 hE2 hR2 u1 u2
end
variable {N:List Bn}
section
abbrev sk5 (w:World) (r:Nat) (Z:Int) (p n:Value) (H L:Int):World:=((((w.setCell ⟨r,0,none⟩ (.int .u64 Z)).setCell ⟨r,1,none⟩ p).setCell ⟨r,2,none⟩ n).setCell ⟨r,3,none⟩ (.int .i64 H)).setCell ⟨r,4,none⟩ (.int .u64 L)
theorem Qqz {a:Nat} {Z H L:Int} {n:Value} {P:List Bn} (hT:Below w.heap.size w w2) (hr:w2.heap[r]?=some (.cells Qbm 84 (0,0))) (hwr:w.heap.size<=r) (hp:OwnB w2 w.heap.size p a P) (hn:OwnB w2 w.heap.size n b N) (hap:Qgc p n) :
  QoG (sk5 w2 r Z p n H L) w.heap.size (.agg #[.int .u64 Z,p,n,.int .i64 H,.int .u64 L]) Z P N H L/\Below w.heap.size w (sk5 w2 r Z p n H L):=by
 have q1:=hp.ne hr (by decide);have q2:=hn.ne hr (by decide);refine ⟨⟨p,n,a,b,rfl,((((hp.set q1 _).set q1 _).set q1 _).set q1 _).set q1 _,((((hn.set q2 _).set q2 _).set q2 _).set q2 _).set q2 _,hap⟩,?_⟩
 repeat (refine Below.setCell ?_ hwr _)
 exact hT
end
section
theorem Qjs {z h l z' h' l':Int} {na pb nb:Option Addr} {nn nc pm pd nm nd:Nat} {P P' N':List Bn} (hz:U64 z) (hl0:U64 l) (hz':U64 z') (hl0':U64 l') (hp:P.length=pn) (hn:N.length=nn) (hp':P'.length=pm) (hn':N'.length=nm) (lp:pn<=30) (ln:nn<=30) (lp':pm<=30) (ln':nm<=30) (hP:QaJ w pa P) (hN:QaJ w na N) (hP':QaJ w pb P') (hN':QaJ w nb N') (kP:∀ x∈P,Qbw x) (kN:∀ x∈N,Qbw x) (kP':∀ x∈P',Qbw x) (kN':∀ x∈N',Qbw x) :
  Calls prog 122 #[.agg #[.int .u64 z,.slice pa pn pc,.slice na nn nc,.int .i64 h,.int .u64 l],.agg #[.int .u64 z',.slice pb pm pd,.slice nb nm nd,.int .i64 h',.int .u64 l']] w fun e w'=>∃ v,e=.returned v/\Below w.heap.size w w'/\QoG w' w.heap.size v (QaD z z') (Qaq (mrg P P')) (Qaq (mrg N N')) (Qbg h l h' l') (Qbl l l'):=by
 have HP:=Qaa hP;have HN:=Qaa hN;have KP:=Qaa kP;have KN:=Qaa kN;have aC:=Qaa hP';have aA:=Qaa hN';have az:=Qaa kP';have aF:=Qaa kN';clear hP hN kP kN hP' hN' kP' kN';go_enter func122,ntmps122;go_wp2_with fail;generalize hW0:((w.alloc (Obj.cells #[.int .u64 z,.slice pa pn pc,.slice na nn nc,.int .i64 h,.int .u64 l] 84)).alloc (Obj.cells #[.int .u64 z',.slice pb pm pd,.slice nb nm nd,.int .i64 h',.int .u64 l'] 84)).alloc (Obj.cells Qbm 84)=W0;have T0:Below w.heap.size w W0:=by rw [<- hW0];exact (((Below.refl _ _).alloc (Nat.le_refl _) _).alloc (by simp) _).alloc (by simp;omega) _
 have K0:Qcg W0 w.heap.size z (.slice pa pn pc) (.slice na nn nc) h l:=by rw [<- hW0];exact Qca (Qg1 w _ _ _ _ _ _) (((Below.refl _ _).alloc (Nat.le_refl _) _).alloc (by simp) _)
 have J0:Qcg W0 (w.heap.size+1) z' (.slice pb pm pd) (.slice nb nm nd) h' l':=by
  rw [<- hW0];have:=Qg1 (w.alloc (Obj.cells #[.int .u64 z,.slice pa pn pc,.slice na nn nc,.int .i64 h,.int .u64 l] 84)) 84 z' h' l' (.slice pb pm pd) (.slice nb nm nd);exact Qca (by simpa using this) ((Below.refl _ _).alloc (Nat.le_refl _) _)
 have R0:W0.heap[w.heap.size+1+1]?=some (.cells Qbm 84 (0,0)):=by rw [<- hW0];simpa using heap_alloc_new ((w.alloc (Obj.cells #[.int .u64 z,.slice pa pn pc,.slice na nn nc,.int .i64 h,.int .u64 l] 84)).alloc (Obj.cells #[.int .u64 z',.slice pb pm pd,.slice nb nm nd,.int .i64 h',.int .u64 l'] 84)) (Obj.cells Qbm 84)
 have aE:W0.heap.size=w.heap.size+3:=by rw [<- hW0];simp
 clear hW0;have aG:=Qaa T0;clear T0;have hC:∀ W,Below W0.heap.size W0 W->Qcg W w.heap.size z (.slice pa pn pc) (.slice na nn nc) h l/\Qcg W (w.heap.size+1) z' (.slice pb pm pd) (.slice nb nm nd) h' l'/\W.heap[w.heap.size+1+1]?=some (.cells Qbm 84 (0,0)):=fun W hW=>⟨Qca K0 hW,Qca J0 hW,by rw [hW.block _ (by omega)];exact R0⟩;have HC:=Qaa hC;have ab:=Qaa aG;clear hC K0 J0 R0;have aa:(fun W=>Below W0.heap.size W0 W) W0.drew:=(ZZb _ _).drew;refine Qao (fun W=>Below W0.heap.size W0 W) 21 (by kernel_rfl) ?_;refine tkL 0 (.pointer (some ⟨w.heap.size,0,none⟩)) aa (fun W hW=>?_) ?_
 ·obtain ⟨⟨x0,x1,x2,x3,x4⟩,⟨y0,y1,y2,y3,y4⟩,_⟩:=HC.out W hW
  go_simp
 refine tkL 1 (.int .u64 z) aa (fun W hW=>?_) ?_
 ·obtain ⟨⟨x0,x1,x2,x3,x4⟩,⟨y0,y1,y2,y3,y4⟩,_⟩:=HC.out W hW
  go_simp
 refine tkL 2 (.pointer (some ⟨w.heap.size+1,0,none⟩)) aa (fun W hW=>?_) ?_
 ·obtain ⟨⟨x0,x1,x2,x3,x4⟩,⟨y0,y1,y2,y3,y4⟩,_⟩:=HC.out W hW
  go_simp
 simp only [sX];refine tkL 3 (.int .u64 z') aa (fun W hW=>?_) ?_
 ·obtain ⟨⟨x0,x1,x2,x3,x4⟩,⟨y0,y1,y2,y3,y4⟩,_⟩:=HC.out W hW
  go_simp
 refine tkL 5 (.pointer (some ⟨w.heap.size,1,none⟩)) aa (fun W hW=>?_) ?_
 ·obtain ⟨⟨x0,x1,x2,x3,x4⟩,⟨y0,y1,y2,y3,y4⟩,_⟩:=HC.out W hW
  go_simp
 refine tkL 6 (.slice pa pn pc) aa (fun W hW=>?_) ?_
 ·obtain ⟨⟨x0,x1,x2,x3,x4⟩,⟨y0,y1,y2,y3,y4⟩,_⟩:=HC.out W hW
  go_simp
 simp only [sX];refine tkL 7 (.pointer (some ⟨w.heap.size+1,1,none⟩)) aa (fun W hW=>?_) ?_
 ·obtain ⟨⟨x0,x1,x2,x3,x4⟩,⟨y0,y1,y2,y3,y4⟩,_⟩:=HC.out W hW
  go_simp
 refine tkL 8 (.slice pb pm pd) aa (fun W hW=>?_) ?_
 ·obtain ⟨⟨x0,x1,x2,x3,x4⟩,⟨y0,y1,y2,y3,y4⟩,_⟩:=HC.out W hW
  go_simp
 refine tkL 10 (.pointer (some ⟨w.heap.size,2,none⟩)) aa (fun W hW=>?_) ?_
 ·obtain ⟨⟨x0,x1,x2,x3,x4⟩,⟨y0,y1,y2,y3,y4⟩,_⟩:=HC.out W hW
  go_simp
 simp only [sX];refine tkL 11 (.slice na nn nc) aa (fun W hW=>?_) ?_
 ·obtain ⟨⟨x0,x1,x2,x3,x4⟩,⟨y0,y1,y2,y3,y4⟩,_⟩:=HC.out W hW
  go_simp
 refine tkL 12 (.pointer (some ⟨w.heap.size+1,2,none⟩)) aa (fun W hW=>?_) ?_
 ·obtain ⟨⟨x0,x1,x2,x3,x4⟩,⟨y0,y1,y2,y3,y4⟩,_⟩:=HC.out W hW
  go_simp
 refine tkL 13 (.slice nb nm nd) aa (fun W hW=>?_) ?_
 ·obtain ⟨⟨x0,x1,x2,x3,x4⟩,⟨y0,y1,y2,y3,y4⟩,_⟩:=HC.out W hW
  go_simp
 simp only [sX];refine tkL 15 (.pointer (some ⟨w.heap.size,3,none⟩)) aa (fun W hW=>?_) ?_
 ·obtain ⟨⟨x0,x1,x2,x3,x4⟩,⟨y0,y1,y2,y3,y4⟩,_⟩:=HC.out W hW
  go_simp
 refine tkL 16 (.agg #[.int .i64 h,.int .u64 l]) aa (fun W hW=>?_) ?_
 ·obtain ⟨⟨x0,x1,x2,x3,x4⟩,⟨y0,y1,y2,y3,y4⟩,_⟩:=HC.out W hW
  go_simp
 refine tkL 17 (.pointer (some ⟨w.heap.size+1,3,none⟩)) aa (fun W hW=>?_) ?_
 ·obtain ⟨⟨x0,x1,x2,x3,x4⟩,⟨y0,y1,y2,y3,y4⟩,_⟩:=HC.out W hW
  go_simp
 simp only [sX];refine tkL 18 (.agg #[.int .i64 h',.int .u64 l']) aa (fun W hW=>?_) ?_
 ·obtain ⟨⟨x0,x1,x2,x3,x4⟩,⟨y0,y1,y2,y3,y4⟩,_⟩:=HC.out W hW
  go_simp
 simp only [sX];refine onE 4 fun K hK=>?_;go_simp;refine (Qax _ _ hz hz' _).mono ?_;rintro e w4 ⟨rfl,rfl⟩;dsimp only;refine gK hK aa ?_
 try simp only [sX]
 refine onE 9 fun K hK=>?_;go_simp;refine (Qb4 _ _ _ _ hp hp' (by omega) (by omega) (Qak HP (Qac ab aa)) (Qak aC (Qac ab aa)) KP az).mono ?_;rintro e w5 ⟨v5,n5,rfl,av,ap,au⟩;have al:=OwnB.of av ap;clear av ap;dsimp only;have ac:=Qaa ((aa:Below W0.heap.size W0 W0.drew).trans au);have ay:=Qaa (al.le (B':=w.heap.size) ab.out.size);obtain ⟨ag,c5,rfl⟩:=al.any;clear al au;refine gK hK ac.out ?_
 try simp only [sX]
 refine onE 14 fun K hK=>?_;go_simp;refine (Qb4 _ _ _ _ hn hn' (by omega) (by omega) (Qak HN (Qac ab ac)) (Qak aA (Qac ab ac)) KN aF).mono ?_;rintro e w6 ⟨v6,n6,rfl,aw,ax,ai⟩;have af:=OwnB.of aw ax;clear aw ax;dsimp only;have ar:=Qaa (Qac ac ai);have an:=Qaa (ay.out.past ai);have aD:Hid (Qgc (.slice ag n5 c5) v6):=(fun k e1 e2=>by have:=(ay.out.lt k e1).2;have:=(af.lt k e2).1;omega:Qgc (.slice ag n5 c5) v6);have aB:=Qaa (af.le (B':=w.heap.size) (by have:=ab.out.size;have:=ac.out.size;omega));obtain ⟨aq,c6,rfl⟩:=af.any;clear af ai;refine gK hK ar.out ?_
 try simp only [sX]
 refine onE 19 fun K hK=>?_;go_simp;refine (Qbs _ _ _ _ _ hl0 hl0').mono ?_;rintro e w7 ⟨rfl,ae⟩;dsimp only;have ad:=Qaa (Qac ar ae);have ah:=Qaa (an.out.past ae);have aj:=Qaa (aB.out.past ae);clear ae;refine gK hK ad.out ?_
 try simp only [sX]
 obtain ⟨Z7,ao⟩:∃ X,QaD z z'=X:=⟨_,rfl⟩;obtain ⟨H7,ak⟩:∃ X,Qbg h l h' l'=X:=⟨_,rfl⟩;obtain ⟨L7,am⟩:∃ X,Qbl l l'=X:=⟨_,rfl⟩;rw [ao,ak,am];have HE:=Qaa (And.intro ao (And.intro ak am));clear ao ak am;refine tkS 20 (.agg #[.int .u64 Z7,.slice ag n5 c5,.slice aq n6 c6,.int .i64 H7,.int .u64 L7]) ad ?_;simp only [sX];have R7:=(HC.out _ ad).2.2;have HF:=Qaa (Qqz (Z:=Z7) (H:=H7) (L:=L7) (Qac ab ad) R7 (by omega) ah aj aD);obtain ⟨q0,q1,q2,q3,q4⟩:=Qem R7;obtain ⟨f0,f1,f2,f3,f4⟩:=fA5 R7;refine onE 21 fun K hK=>?_;go_simp;refine hK.out _ _ (fun h=>absurd rfl h) ?_
 try simp only [sX]
 refine dnE ?_ _;clear R7 HC;go_wp2;refine bodyPost_ret (v:=.agg #[.int .u64 Z7,.slice ag n5 c5,.slice aq n6 c6,.int .i64 H7,.int .u64 L7]) (by simp [results,results122,go_sem,q0,q1,q2,q3,q4]) rfl ⟨_,rfl,HF.out.2,by rw [HE.out.1,HE.out.2.1,HE.out.2.2];exact HF.out.1⟩
end
section
abbrev QjE:Array Value:=Qan Qe8 pl0
theorem Qpj (w:World) (g g':Ag) (p p':Pl) (W:World) (hb:Below (((w.alloc (.cells (Qan g p) 90)).alloc (.cells (Qan g' p') 90)).alloc (.cells QjE 90)).heap.size (((w.alloc (.cells (Qan g p) 90)).alloc (.cells (Qan g' p') 90)).alloc (.cells QjE 90)) W) :
  Qgm W w.heap.size g p/\Qgm W (w.heap.size+1) g' p'/\W.heap[w.heap.size+1+1]?=some (.cells QjE 90 (0,0)):=by
 have a1:∀ (W:World) o,Below W.heap.size W (W.alloc o):=fun W o=>(ZZb _ _).alloc (ZZa _) _;have k0:=Qkc w 90 g p;have k1:=Qkc (w.alloc (.cells (Qan g p) 90)) 90 g' p';have h2:=ZZk ((w.alloc (.cells (Qan g p) 90)).alloc (.cells (Qan g' p') 90)) (.cells QjE 90);simp only [World.size_alloc] at k1 h2;exact ⟨Qbh (Qbh (Qbh k0 (a1 _ _)) (a1 _ _)) hb,Qbh (Qbh k1 (a1 _ _)) hb,(hb.block _ (by simp)).trans h2⟩
end
section
theorem Qny {u3 u4 u5 u6 u7 u8 u9 u10 u11 u12 v3 v4 v5 v6 v7 v8 v9 v10 v11 v12:Value} (h:w.heap[r]?=some (.cells #[u0,u1,u2,u3,u4,u5,u6,u7,u8,u9,u10,u11,u12] T (0,0))) :
  (((((((((((((w.setCell ⟨r,0,none⟩ v0).setCell ⟨r,1,none⟩ v1).setCell ⟨r,2,none⟩ v2).setCell ⟨r,3,none⟩ v3).setCell ⟨r,4,none⟩ v4).setCell ⟨r,5,none⟩ v5).setCell ⟨r,6,none⟩ v6).setCell ⟨r,7,none⟩ v7).setCell ⟨r,8,none⟩ v8).setCell ⟨r,9,none⟩ v9).setCell ⟨r,10,none⟩ v10).setCell ⟨r,11,none⟩ v11).setCell ⟨r,12,none⟩ v12).heap[r]?=some (.cells #[v0,v1,v2,v3,v4,v5,v6,v7,v8,v9,v10,v11,v12] T (0,0)):=by
 have h0:(w.setCell ⟨r,0,none⟩ v0).heap[r]?=some (.cells #[v0,u1,u2,u3,u4,u5,u6,u7,u8,u9,u10,u11,u12] T (0,0)):=ZZl _ r 0 _ _ v0 h;have h1:((w.setCell ⟨r,0,none⟩ v0).setCell ⟨r,1,none⟩ v1).heap[r]?=some (.cells #[v0,v1,u2,u3,u4,u5,u6,u7,u8,u9,u10,u11,u12] T (0,0)):=ZZl _ r 1 _ _ v1 h0;have h2:(((w.setCell ⟨r,0,none⟩ v0).setCell ⟨r,1,none⟩ v1).setCell ⟨r,2,none⟩ v2).heap[r]?=some (.cells #[v0,v1,v2,u3,u4,u5,u6,u7,u8,u9,u10,u11,u12] T (0,0)):=ZZl _ r 2 _ _ v2 h1;have h3:((((w.setCell ⟨r,0,none⟩ v0).setCell ⟨r,1,none⟩ v1).setCell ⟨r,2,none⟩ v2).setCell ⟨r,3,none⟩ v3).heap[r]?=some (.cells #[v0,v1,v2,v3,u4,u5,u6,u7,u8,u9,u10,u11,u12] T (0,0)):=ZZl _ r 3 _ _ v3 h2;have h4:(((((w.setCell ⟨r,0,none⟩ v0).setCell ⟨r,1,none⟩ v1).setCell ⟨r,2,none⟩ v2).setCell ⟨r,3,none⟩ v3).setCell ⟨r,4,none⟩ v4).heap[r]?=some (.cells #[v0,v1,v2,v3,v4,u5,u6,u7,u8,u9,u10,u11,u12] T (0,0)):=ZZl _ r 4 _ _ v4 h3;have h5:((((((w.setCell ⟨r,0,none⟩ v0).setCell ⟨r,1,none⟩ v1).setCell ⟨r,2,none⟩ v2).setCell ⟨r,3,none⟩ v3).setCell ⟨r,4,none⟩ v4).setCell ⟨r,5,none⟩ v5).heap[r]?=some (.cells #[v0,v1,v2,v3,v4,v5,u6,u7,u8,u9,u10,u11,u12] T (0,0)):=ZZl _ r 5 _ _ v5 h4;have h6:(((((((w.setCell ⟨r,0,none⟩ v0).setCell ⟨r,1,none⟩ v1).setCell ⟨r,2,none⟩ v2).setCell ⟨r,3,none⟩ v3).setCell ⟨r,4,none⟩ v4).setCell ⟨r,5,none⟩ v5).setCell ⟨r,6,none⟩ v6).heap[r]?=some (.cells #[v0,v1,v2,v3,v4,v5,v6,u7,u8,u9,u10,u11,u12] T (0,0)):=ZZl _ r 6 _ _ v6 h5;have h7:((((((((w.setCell ⟨r,0,none⟩ v0).setCell ⟨r,1,none⟩ v1).setCell ⟨r,2,none⟩ v2).setCell ⟨r,3,none⟩ v3).setCell ⟨r,4,none⟩ v4).setCell ⟨r,5,none⟩ v5).setCell ⟨r,6,none⟩ v6).setCell ⟨r,7,none⟩ v7).heap[r]?=some (.cells #[v0,v1,v2,v3,v4,v5,v6,v7,u8,u9,u10,u11,u12] T (0,0)):=ZZl _ r 7 _ _ v7 h6;have h8:(((((((((w.setCell ⟨r,0,none⟩ v0).setCell ⟨r,1,none⟩ v1).setCell ⟨r,2,none⟩ v2).setCell ⟨r,3,none⟩ v3).setCell ⟨r,4,none⟩ v4).setCell ⟨r,5,none⟩ v5).setCell ⟨r,6,none⟩ v6).setCell ⟨r,7,none⟩ v7).setCell ⟨r,8,none⟩ v8).heap[r]?=some (.cells #[v0,v1,v2,v3,v4,v5,v6,v7,v8,u9,u10,u11,u12] T (0,0)):=ZZl _ r 8 _ _ v8 h7;have h9:((((((((((w.setCell ⟨r,0,none⟩ v0).setCell ⟨r,1,none⟩ v1).setCell ⟨r,2,none⟩ v2).setCell ⟨r,3,none⟩ v3).setCell ⟨r,4,none⟩ v4).setCell ⟨r,5,none⟩ v5).setCell ⟨r,6,none⟩ v6).setCell ⟨r,7,none⟩ v7).setCell ⟨r,8,none⟩ v8).setCell ⟨r,9,none⟩ v9).heap[r]?=some (.cells #[v0,v1,v2,v3,v4,v5,v6,v7,v8,v9,u10,u11,u12] T (0,0)):=ZZl _ r 9 _ _ v9 h8;have ac:(((((((((((w.setCell ⟨r,0,none⟩ v0).setCell ⟨r,1,none⟩ v1).setCell ⟨r,2,none⟩ v2).setCell ⟨r,3,none⟩ v3).setCell ⟨r,4,none⟩ v4).setCell ⟨r,5,none⟩ v5).setCell ⟨r,6,none⟩ v6).setCell ⟨r,7,none⟩ v7).setCell ⟨r,8,none⟩ v8).setCell ⟨r,9,none⟩ v9).setCell ⟨r,10,none⟩ v10).heap[r]?=some (.cells #[v0,v1,v2,v3,v4,v5,v6,v7,v8,v9,v10,u11,u12] T (0,0)):=ZZl _ r 10 _ _ v10 h9;have ab:((((((((((((w.setCell ⟨r,0,none⟩ v0).setCell ⟨r,1,none⟩ v1).setCell ⟨r,2,none⟩ v2).setCell ⟨r,3,none⟩ v3).setCell ⟨r,4,none⟩ v4).setCell ⟨r,5,none⟩ v5).setCell ⟨r,6,none⟩ v6).setCell ⟨r,7,none⟩ v7).setCell ⟨r,8,none⟩ v8).setCell ⟨r,9,none⟩ v9).setCell ⟨r,10,none⟩ v10).setCell ⟨r,11,none⟩ v11).heap[r]?=some (.cells #[v0,v1,v2,v3,v4,v5,v6,v7,v8,v9,v10,v11,u12] T (0,0)):=ZZl _ r 11 _ _ v11 ac;have aa:(((((((((((((w.setCell ⟨r,0,none⟩ v0).setCell ⟨r,1,none⟩ v1).setCell ⟨r,2,none⟩ v2).setCell ⟨r,3,none⟩ v3).setCell ⟨r,4,none⟩ v4).setCell ⟨r,5,none⟩ v5).setCell ⟨r,6,none⟩ v6).setCell ⟨r,7,none⟩ v7).setCell ⟨r,8,none⟩ v8).setCell ⟨r,9,none⟩ v9).setCell ⟨r,10,none⟩ v10).setCell ⟨r,11,none⟩ v11).setCell ⟨r,12,none⟩ v12).heap[r]?=some (.cells #[v0,v1,v2,v3,v4,v5,v6,v7,v8,v9,v10,v11,v12] T (0,0)):=ZZl _ r 12 _ _ v12 ab;exact aa
end
section
theorem Qqf {g g':Ag} {p p':Pl} (hg:agB g=true/\agB g'=true/\g.k=g'.k) (ok:AgOk g) (ok':AgOk g') (hA:AgAt w g p) (hA':AgAt w g' p') (ce:p.ea=none->p.ec=0) :
  Calls prog 83 #[.agg (Qan g p),.agg (Qan g' p')] w fun e w'=>AgRes w (AgMrg g g') e w':=by
 have HA:=Qaa hA;have aJ:=Qaa hA';have OK:=Qaa ok;have av:=Qaa ok';have HG:=Qaa hg;have NO:=Qaa (Qa9 hg.1);have aN:=Qaa (Qa9 hg.2.1);have CE:=Qaa ce;have LS:Hid ((g.P.length<=30/\g.N.length<=30)/\(g'.P.length<=30/\g'.N.length<=30)):=⟨⟨(Qda NO.out.sk).1.2,(Qda NO.out.sk).2.2⟩,⟨(Qda aN.out.sk).1.2,(Qda aN.out.sk).2.2⟩⟩;have aZ:Hid (∀ o1 o2 o3,Below w.heap.size w (((w.alloc o1).alloc o2).alloc o3)):=fun o1 o2 o3=>(((Below.refl _ _).alloc (Nat.le_refl _) _).alloc (by simp) _).alloc (by simp;omega) _;clear ok ok' hA hA' hg ce;go_enter func83,ntmps83;go_wp2_with fail;generalize hW0:((w.alloc (Obj.cells (Qan g p) 90)).alloc (Obj.cells (Qan g' p') 90)).alloc (Obj.cells #[.int .i64 0,.int .u64 0,.int .i64 0,.int .u64 0,.int .i64 0,.int .i64 0,.int .u64 0,.slice none 0 0,.slice none 0 0,.int .i64 0,.int .u64 0,.slice none 0 0,.slice none 0 0] 90)=W0;have T0:Below w.heap.size w W0:=by rw [<- hW0];exact aZ.out _ _ _
 have hC:∀ W,Below W0.heap.size W0 W->Qgm W w.heap.size g p/\Qgm W (w.heap.size+1) g' p'/\W.heap[w.heap.size+1+1]?=some (.cells QjE 90 (0,0)):=fun W hW=>Qpj w g g' p p' W (by have h:=hW;rw [<- hW0] at h;exact h);have aH:W0.heap.size=w.heap.size+3:=by rw [<- hW0];simp
 have HC:=Qaa hC;have ax:=Qaa T0;have bf:=Qaa aH;clear hW0 hC T0 aH
 go_cut [5] (fun v w'=>∃ b:Nat,v=.pointer (some ⟨b,0,none⟩)/\Hid (w'.heap[b]?=some (.cells (Qan ⟨g.k,QaD g.s g'.s,Qbg g.h g.l g'.h g'.l,Qbl g.l g'.l,g.a,g.t,0,[],[],0,0,[],[]⟩ pl0) 90 (0,0)))/\W0.heap.size<=b/\Hid (Below W0.heap.size W0 w'))
 case first=>
  have ad:(fun W=>Below W0.heap.size W0 W) W0.drew:=(ZZb _ _).drew;refine Qao (fun W=>Below W0.heap.size W0 W) 18 (by kernel_rfl) ?_;refine tkL 0 (.pointer (some ⟨w.heap.size,0,none⟩)) ad (fun W hW=>?_) ?_
  ·obtain ⟨⟨x0,x1,x2,x3,x4,x5,x6,x7,x8,x9,ah,ag,ac⟩,⟨y0,y1,y2,y3,y4,y5,y6,y7,y8,y9,ab,ae,af⟩,_⟩:=HC.out W hW
   clear hW;go_simp
  refine tkL 1 (.int .i64 g.k) ad (fun W hW=>?_) ?_
  ·obtain ⟨⟨x0,x1,x2,x3,x4,x5,x6,x7,x8,x9,ah,ag,ac⟩,⟨y0,y1,y2,y3,y4,y5,y6,y7,y8,y9,ab,ae,af⟩,_⟩:=HC.out W hW
   clear hW;go_simp
  refine tkL 2 (.pointer (some ⟨w.heap.size,1,none⟩)) ad (fun W hW=>?_) ?_
  ·obtain ⟨⟨x0,x1,x2,x3,x4,x5,x6,x7,x8,x9,ah,ag,ac⟩,⟨y0,y1,y2,y3,y4,y5,y6,y7,y8,y9,ab,ae,af⟩,_⟩:=HC.out W hW
   clear hW;go_simp
  simp only [sX];refine tkL 3 (.int .u64 g.s) ad (fun W hW=>?_) ?_
  ·obtain ⟨⟨x0,x1,x2,x3,x4,x5,x6,x7,x8,x9,ah,ag,ac⟩,⟨y0,y1,y2,y3,y4,y5,y6,y7,y8,y9,ab,ae,af⟩,_⟩:=HC.out W hW
   clear hW;go_simp
  refine tkL 4 (.pointer (some ⟨w.heap.size+1,1,none⟩)) ad (fun W hW=>?_) ?_
  ·obtain ⟨⟨x0,x1,x2,x3,x4,x5,x6,x7,x8,x9,ah,ag,ac⟩,⟨y0,y1,y2,y3,y4,y5,y6,y7,y8,y9,ab,ae,af⟩,_⟩:=HC.out W hW
   clear hW;go_simp
  refine tkL 5 (.int .u64 g'.s) ad (fun W hW=>?_) ?_
  ·obtain ⟨⟨x0,x1,x2,x3,x4,x5,x6,x7,x8,x9,ah,ag,ac⟩,⟨y0,y1,y2,y3,y4,y5,y6,y7,y8,y9,ab,ae,af⟩,_⟩:=HC.out W hW
   clear hW;go_simp
  simp only [sX];refine tkL 7 (.pointer (some ⟨w.heap.size,2,none⟩)) ad (fun W hW=>?_) ?_
  ·obtain ⟨⟨x0,x1,x2,x3,x4,x5,x6,x7,x8,x9,ah,ag,ac⟩,⟨y0,y1,y2,y3,y4,y5,y6,y7,y8,y9,ab,ae,af⟩,_⟩:=HC.out W hW
   clear hW;go_simp
  refine tkL 8 (.agg #[.int .i64 g.h,.int .u64 g.l]) ad (fun W hW=>?_) ?_
  ·obtain ⟨⟨x0,x1,x2,x3,x4,x5,x6,x7,x8,x9,ah,ag,ac⟩,⟨y0,y1,y2,y3,y4,y5,y6,y7,y8,y9,ab,ae,af⟩,_⟩:=HC.out W hW
   clear hW;go_simp
  refine tkL 9 (.pointer (some ⟨w.heap.size+1,2,none⟩)) ad (fun W hW=>?_) ?_
  ·obtain ⟨⟨x0,x1,x2,x3,x4,x5,x6,x7,x8,x9,ah,ag,ac⟩,⟨y0,y1,y2,y3,y4,y5,y6,y7,y8,y9,ab,ae,af⟩,_⟩:=HC.out W hW
   clear hW;go_simp
  simp only [sX];refine tkL 10 (.agg #[.int .i64 g'.h,.int .u64 g'.l]) ad (fun W hW=>?_) ?_
  ·obtain ⟨⟨x0,x1,x2,x3,x4,x5,x6,x7,x8,x9,ah,ag,ac⟩,⟨y0,y1,y2,y3,y4,y5,y6,y7,y8,y9,ab,ae,af⟩,_⟩:=HC.out W hW
   clear hW;go_simp
  refine tkL 12 (.pointer (some ⟨w.heap.size,4,none⟩)) ad (fun W hW=>?_) ?_
  ·obtain ⟨⟨x0,x1,x2,x3,x4,x5,x6,x7,x8,x9,ah,ag,ac⟩,⟨y0,y1,y2,y3,y4,y5,y6,y7,y8,y9,ab,ae,af⟩,_⟩:=HC.out W hW
   clear hW;go_simp
  refine tkL 13 (.int .i64 g.a) ad (fun W hW=>?_) ?_
  ·obtain ⟨⟨x0,x1,x2,x3,x4,x5,x6,x7,x8,x9,ah,ag,ac⟩,⟨y0,y1,y2,y3,y4,y5,y6,y7,y8,y9,ab,ae,af⟩,_⟩:=HC.out W hW
   clear hW;go_simp
  simp only [sX];refine tkL 14 (.pointer (some ⟨w.heap.size,5,none⟩)) ad (fun W hW=>?_) ?_
  ·obtain ⟨⟨x0,x1,x2,x3,x4,x5,x6,x7,x8,x9,ah,ag,ac⟩,⟨y0,y1,y2,y3,y4,y5,y6,y7,y8,y9,ab,ae,af⟩,_⟩:=HC.out W hW
   clear hW;go_simp
  refine tkL 15 (.int .i64 g.t) ad (fun W hW=>?_) ?_
  ·obtain ⟨⟨x0,x1,x2,x3,x4,x5,x6,x7,x8,x9,ah,ag,ac⟩,⟨y0,y1,y2,y3,y4,y5,y6,y7,y8,y9,ab,ae,af⟩,_⟩:=HC.out W hW
   clear hW;go_simp
  simp only [sX];refine QjV (i:=6) (j:=17) (by kernel_rfl) rfl rfl (fun K hK=>?_) (fun K hK=>?_)
  ·go_simp
   refine (Qax _ _ OK.out.s av.out.s _).mono ?_;rintro e wz ⟨rfl,aQ⟩;obtain rfl:=aQ.symm
   try dsimp only
   refine gK hK ad ?_
   try simp only [sX]
   refine QjV (i:=11) (j:=17) (by kernel_rfl) rfl rfl (fun K hK=>?_) (fun K hK=>?_)
   ·go_simp
    refine (Qbs _ _ _ _ _ OK.out.l av.out.l).mono ?_;rintro e w1 ⟨rfl,aB⟩;have ak:Hid (Below W0.heap.size W0 w1):=(ad:Below W0.heap.size W0 _).trans (aB.mono (ad:Below W0.heap.size W0 _).size)
    try dsimp only
    refine gK hK ak.out ?_
    try simp only [sX]
    refine tkS 16 (.agg (Qan ⟨g.k,QaD g.s g'.s,Qbg g.h g.l g'.h g'.l,Qbl g.l g'.l,g.a,g.t,0,[],[],0,0,[],[]⟩ pl0)) ak ?_;simp only [sX];refine onE 17 fun K hK=>?_;go_simp;have aa:Hid (Below W0.heap.size W0 (w1.alloc (.cells #[.int .i64 0,.int .u64 0,.int .i64 0,.int .u64 0,.int .i64 0,.int .i64 0,.int .u64 0,.slice none 0 0,.slice none 0 0,.int .i64 0,.int .u64 0,.slice none 0 0,.slice none 0 0] 90))):=Below.alloc (ak.out:Below W0.heap.size W0 w1) (ak.out:Below W0.heap.size W0 w1).size _;have aG:Hid ((w1.alloc (.cells #[.int .i64 0,.int .u64 0,.int .i64 0,.int .u64 0,.int .i64 0,.int .i64 0,.int .u64 0,.slice none 0 0,.slice none 0 0,.int .i64 0,.int .u64 0,.slice none 0 0,.slice none 0 0] 90)).heap[w1.heap.size]?=some (.cells #[.int .i64 0,.int .u64 0,.int .i64 0,.int .u64 0,.int .i64 0,.int .i64 0,.int .u64 0,.slice none 0 0,.slice none 0 0,.int .i64 0,.int .u64 0,.slice none 0 0,.slice none 0 0] 90 (0,0))):=(ZZk w1 (.cells #[.int .i64 0,.int .u64 0,.int .i64 0,.int .u64 0,.int .i64 0,.int .i64 0,.int .u64 0,.slice none 0 0,.slice none 0 0,.int .i64 0,.int .u64 0,.slice none 0 0,.slice none 0 0] 90):_)
    try dsimp only
    refine gK hK aa.out ?_
    try simp only [sX]
    have R5:=aG.out;obtain ⟨q0,q1,q2,q3,q4,q5,q6,q7,q8,q9,au,ar,ao⟩:=Qdz R5;obtain ⟨f0,f1,f2,f3,f4,f5,f6,f7,f8,f9,aw,an,aq⟩:=QeL R5;refine onE 18 fun K hK=>?_;go_simp;refine hK.out _ _ (fun h=>absurd rfl h) ?_
    try simp only [sX]
    refine dnE ?_ _;clear q0 f0 q1 f1 q2 f2 q3 f3 q4 f4 q5 f5 q6 f6 q7 f7 q8 f8 q9 f9 au aw ar an ao aq;go_wp2;go_meet;exact ⟨w1.heap.size,rfl,Qaa (ZZk w1 _),ak.out.size,Qaa (Below.alloc ak ak.out.size _)⟩
   ·go_simp
    have aa:Hid (Below W0.heap.size W0 (W0.drew.alloc (.cells #[.int .i64 0,.int .u64 0,.int .i64 0,.int .u64 0,.int .i64 0,.int .i64 0,.int .u64 0,.slice none 0 0,.slice none 0 0,.int .i64 0,.int .u64 0,.slice none 0 0,.slice none 0 0] 90))):=Below.alloc (ad:Below W0.heap.size W0 W0.drew) (ad:Below W0.heap.size W0 W0.drew).size _;have aG:Hid ((W0.drew.alloc (.cells #[.int .i64 0,.int .u64 0,.int .i64 0,.int .u64 0,.int .i64 0,.int .i64 0,.int .u64 0,.slice none 0 0,.slice none 0 0,.int .i64 0,.int .u64 0,.slice none 0 0,.slice none 0 0] 90)).heap[W0.heap.size]?=some (.cells #[.int .i64 0,.int .u64 0,.int .i64 0,.int .u64 0,.int .i64 0,.int .i64 0,.int .u64 0,.slice none 0 0,.slice none 0 0,.int .i64 0,.int .u64 0,.slice none 0 0,.slice none 0 0] 90 (0,0))):=(ZZk W0.drew (.cells #[.int .i64 0,.int .u64 0,.int .i64 0,.int .u64 0,.int .i64 0,.int .i64 0,.int .u64 0,.slice none 0 0,.slice none 0 0,.int .i64 0,.int .u64 0,.slice none 0 0,.slice none 0 0] 90):_)
    try dsimp only
    refine gK hK aa.out ?_
    try simp only [sX]
    refine onE 11 fun K hK=>?_;go_simp;refine (Qbs _ _ _ _ _ OK.out.l av.out.l).mono ?_;rintro e w1 ⟨rfl,aB⟩;have ak:Hid (Below W0.heap.size W0 w1):=(aa.out:Below W0.heap.size W0 _).trans (aB.mono (aa.out:Below W0.heap.size W0 _).size);have aS:Hid (w1.heap[W0.heap.size]?=some (.cells #[.int .i64 0,.int .u64 0,.int .i64 0,.int .u64 0,.int .i64 0,.int .i64 0,.int .u64 0,.slice none 0 0,.slice none 0 0,.int .i64 0,.int .u64 0,.slice none 0 0,.slice none 0 0] 90 (0,0))):=(aB.block _ (by show W0.heap.size<(W0.drew.alloc (.cells #[.int .i64 0,.int .u64 0,.int .i64 0,.int .u64 0,.int .i64 0,.int .i64 0,.int .u64 0,.slice none 0 0,.slice none 0 0,.int .i64 0,.int .u64 0,.slice none 0 0,.slice none 0 0] 90)).heap.size;simp)).trans aG
    try dsimp only
    refine gK hK ak.out ?_
    try simp only [sX]
    refine tkS 16 (.agg (Qan ⟨g.k,QaD g.s g'.s,Qbg g.h g.l g'.h g'.l,Qbl g.l g'.l,g.a,g.t,0,[],[],0,0,[],[]⟩ pl0)) ak ?_;simp only [sX];have R5:=aS.out;obtain ⟨q0,q1,q2,q3,q4,q5,q6,q7,q8,q9,au,ar,ao⟩:=Qdz R5;obtain ⟨f0,f1,f2,f3,f4,f5,f6,f7,f8,f9,aw,an,aq⟩:=QeL R5;refine onE 18 fun K hK=>?_;go_simp;refine hK.out _ _ (fun h=>absurd rfl h) ?_
    try simp only [sX]
    refine dnE ?_ _;clear q0 f0 q1 f1 q2 f2 q3 f3 q4 f4 q5 f5 q6 f6 q7 f7 q8 f8 q9 f9 au aw ar an ao aq;have al:(((((((((((((w1.setCell ⟨W0.heap.size,0,none⟩ (.int .i64 g.k)).setCell ⟨W0.heap.size,1,none⟩ (.int .u64 (QaD g.s g'.s))).setCell ⟨W0.heap.size,2,none⟩ (.int .i64 (Qbg g.h g.l g'.h g'.l))).setCell ⟨W0.heap.size,3,none⟩ (.int .u64 (Qbl g.l g'.l))).setCell ⟨W0.heap.size,4,none⟩ (.int .i64 g.a)).setCell ⟨W0.heap.size,5,none⟩ (.int .i64 g.t)).setCell ⟨W0.heap.size,6,none⟩ (.int .u64 0)).setCell ⟨W0.heap.size,7,none⟩ (.slice none 0 0)).setCell ⟨W0.heap.size,8,none⟩ (.slice none 0 0)).setCell ⟨W0.heap.size,9,none⟩ (.int .i64 0)).setCell ⟨W0.heap.size,10,none⟩ (.int .u64 0)).setCell ⟨W0.heap.size,11,none⟩ (.slice none 0 0)).setCell ⟨W0.heap.size,12,none⟩ (.slice none 0 0)).heap[W0.heap.size]?=some (.cells (Qan ⟨g.k,QaD g.s g'.s,Qbg g.h g.l g'.h g'.l,Qbl g.l g'.l,g.a,g.t,0,[],[],0,0,[],[]⟩ pl0) 90 (0,0)):=Qny R5
    have am:Below W0.heap.size W0 (((((((((((((w1.setCell ⟨W0.heap.size,0,none⟩ (.int .i64 g.k)).setCell ⟨W0.heap.size,1,none⟩ (.int .u64 (QaD g.s g'.s))).setCell ⟨W0.heap.size,2,none⟩ (.int .i64 (Qbg g.h g.l g'.h g'.l))).setCell ⟨W0.heap.size,3,none⟩ (.int .u64 (Qbl g.l g'.l))).setCell ⟨W0.heap.size,4,none⟩ (.int .i64 g.a)).setCell ⟨W0.heap.size,5,none⟩ (.int .i64 g.t)).setCell ⟨W0.heap.size,6,none⟩ (.int .u64 0)).setCell ⟨W0.heap.size,7,none⟩ (.slice none 0 0)).setCell ⟨W0.heap.size,8,none⟩ (.slice none 0 0)).setCell ⟨W0.heap.size,9,none⟩ (.int .i64 0)).setCell ⟨W0.heap.size,10,none⟩ (.int .u64 0)).setCell ⟨W0.heap.size,11,none⟩ (.slice none 0 0)).setCell ⟨W0.heap.size,12,none⟩ (.slice none 0 0)):=by
     repeat (refine Below.setCell ?_ (by exact ZZa _) _)
     exact ak.out
    have aC:=Qaa al;have aA:=Qaa am;clear al am R5;go_wp2;go_meet;exact ⟨W0.heap.size,rfl,aC,ZZa _,aA⟩
  ·go_simp
   have aa:Hid (Below W0.heap.size W0 (W0.drew.alloc (.cells #[.int .i64 0,.int .u64 0,.int .i64 0,.int .u64 0,.int .i64 0,.int .i64 0,.int .u64 0,.slice none 0 0,.slice none 0 0,.int .i64 0,.int .u64 0,.slice none 0 0,.slice none 0 0] 90))):=Below.alloc (ad:Below W0.heap.size W0 W0.drew) (ad:Below W0.heap.size W0 W0.drew).size _;have aG:Hid ((W0.drew.alloc (.cells #[.int .i64 0,.int .u64 0,.int .i64 0,.int .u64 0,.int .i64 0,.int .i64 0,.int .u64 0,.slice none 0 0,.slice none 0 0,.int .i64 0,.int .u64 0,.slice none 0 0,.slice none 0 0] 90)).heap[W0.heap.size]?=some (.cells #[.int .i64 0,.int .u64 0,.int .i64 0,.int .u64 0,.int .i64 0,.int .i64 0,.int .u64 0,.slice none 0 0,.slice none 0 0,.int .i64 0,.int .u64 0,.slice none 0 0,.slice none 0 0] 90 (0,0))):=(ZZk W0.drew (.cells #[.int .i64 0,.int .u64 0,.int .i64 0,.int .u64 0,.int .i64 0,.int .i64 0,.int .u64 0,.slice none 0 0,.slice none 0 0,.int .i64 0,.int .u64 0,.slice none 0 0,.slice none 0 0] 90):_)
   try dsimp only
   refine gK hK aa.out ?_
   try simp only [sX]
   refine onE 6 fun K hK=>?_;go_simp;refine (Qax _ _ OK.out.s av.out.s _).mono ?_;rintro e wz ⟨rfl,aQ⟩;obtain rfl:=aQ.symm
   try dsimp only
   refine gK hK aa.out ?_
   try simp only [sX]
   refine onE 11 fun K hK=>?_;go_simp;refine (Qbs _ _ _ _ _ OK.out.l av.out.l).mono ?_;rintro e w1 ⟨rfl,aB⟩;have ak:Hid (Below W0.heap.size W0 w1):=(aa.out:Below W0.heap.size W0 _).trans (aB.mono (aa.out:Below W0.heap.size W0 _).size);have aS:Hid (w1.heap[W0.heap.size]?=some (.cells #[.int .i64 0,.int .u64 0,.int .i64 0,.int .u64 0,.int .i64 0,.int .i64 0,.int .u64 0,.slice none 0 0,.slice none 0 0,.int .i64 0,.int .u64 0,.slice none 0 0,.slice none 0 0] 90 (0,0))):=(aB.block _ (by show W0.heap.size<(W0.drew.alloc (.cells #[.int .i64 0,.int .u64 0,.int .i64 0,.int .u64 0,.int .i64 0,.int .i64 0,.int .u64 0,.slice none 0 0,.slice none 0 0,.int .i64 0,.int .u64 0,.slice none 0 0,.slice none 0 0] 90)).heap.size;simp)).trans aG
   try dsimp only
   refine gK hK ak.out ?_
   try simp only [sX]
   refine tkS 16 (.agg (Qan ⟨g.k,QaD g.s g'.s,Qbg g.h g.l g'.h g'.l,Qbl g.l g'.l,g.a,g.t,0,[],[],0,0,[],[]⟩ pl0)) ak ?_;simp only [sX];have R5:=aS.out;obtain ⟨q0,q1,q2,q3,q4,q5,q6,q7,q8,q9,au,ar,ao⟩:=Qdz R5;obtain ⟨f0,f1,f2,f3,f4,f5,f6,f7,f8,f9,aw,an,aq⟩:=QeL R5;refine onE 18 fun K hK=>?_;go_simp;refine hK.out _ _ (fun h=>absurd rfl h) ?_
   try simp only [sX]
   refine dnE ?_ _;clear q0 f0 q1 f1 q2 f2 q3 f3 q4 f4 q5 f5 q6 f6 q7 f7 q8 f8 q9 f9 au aw ar an ao aq;have al:(((((((((((((w1.setCell ⟨W0.heap.size,0,none⟩ (.int .i64 g.k)).setCell ⟨W0.heap.size,1,none⟩ (.int .u64 (QaD g.s g'.s))).setCell ⟨W0.heap.size,2,none⟩ (.int .i64 (Qbg g.h g.l g'.h g'.l))).setCell ⟨W0.heap.size,3,none⟩ (.int .u64 (Qbl g.l g'.l))).setCell ⟨W0.heap.size,4,none⟩ (.int .i64 g.a)).setCell ⟨W0.heap.size,5,none⟩ (.int .i64 g.t)).setCell ⟨W0.heap.size,6,none⟩ (.int .u64 0)).setCell ⟨W0.heap.size,7,none⟩ (.slice none 0 0)).setCell ⟨W0.heap.size,8,none⟩ (.slice none 0 0)).setCell ⟨W0.heap.size,9,none⟩ (.int .i64 0)).setCell ⟨W0.heap.size,10,none⟩ (.int .u64 0)).setCell ⟨W0.heap.size,11,none⟩ (.slice none 0 0)).setCell ⟨W0.heap.size,12,none⟩ (.slice none 0 0)).heap[W0.heap.size]?=some (.cells (Qan ⟨g.k,QaD g.s g'.s,Qbg g.h g.l g'.h g'.l,Qbl g.l g'.l,g.a,g.t,0,[],[],0,0,[],[]⟩ pl0) 90 (0,0)):=Qny R5
   have am:Below W0.heap.size W0 (((((((((((((w1.setCell ⟨W0.heap.size,0,none⟩ (.int .i64 g.k)).setCell ⟨W0.heap.size,1,none⟩ (.int .u64 (QaD g.s g'.s))).setCell ⟨W0.heap.size,2,none⟩ (.int .i64 (Qbg g.h g.l g'.h g'.l))).setCell ⟨W0.heap.size,3,none⟩ (.int .u64 (Qbl g.l g'.l))).setCell ⟨W0.heap.size,4,none⟩ (.int .i64 g.a)).setCell ⟨W0.heap.size,5,none⟩ (.int .i64 g.t)).setCell ⟨W0.heap.size,6,none⟩ (.int .u64 0)).setCell ⟨W0.heap.size,7,none⟩ (.slice none 0 0)).setCell ⟨W0.heap.size,8,none⟩ (.slice none 0 0)).setCell ⟨W0.heap.size,9,none⟩ (.int .i64 0)).setCell ⟨W0.heap.size,10,none⟩ (.int .u64 0)).setCell ⟨W0.heap.size,11,none⟩ (.slice none 0 0)).setCell ⟨W0.heap.size,12,none⟩ (.slice none 0 0)):=by
    repeat (refine Below.setCell ?_ (by exact ZZa _) _)
    exact ak.out
   have aC:=Qaa al;have aA:=Qaa am;clear al am R5;go_wp2;go_meet;exact ⟨W0.heap.size,rfl,aC,ZZa _,aA⟩
 case rest=>
  obtain ⟨b,rfl,aD,ay,aE⟩:=hcut;obtain ⟨⟨x0,x1,x2,x3,x4,x5,x6,x7,x8,x9,ah,ag,ac⟩,⟨y0,y1,y2,y3,y4,y5,y6,y7,y8,y9,ab,ae,af⟩,_⟩:=HC.out wc aE;clear x1 x2 x3 x4 x5 x6 x7 x8 x9 ah ag ac y0 y1 y2 y3 y4 y5 y6 y7 y8 y9 ab ae af;go_upto_if 25 with fail;clear x0
  go_cut [5] (fun v w'=>v=.pointer (some ⟨b,0,none⟩)/\Hid (w'.heap[b]?=some (.cells (Qan ⟨g.k,QaD g.s g'.s,Qbg g.h g.l g'.h g'.l,Qbl g.l g'.l,if g.k=2 then gA g.a g.t g'.a g'.t else 0,if g.k=2 then gT g.a g.t g'.a g'.t else 0,0,[],[],0,0,[],[]⟩ pl0) 90 (0,0)))/\Hid (Below W0.heap.size W0 w'))
  case first=>
   by_cases hk:g.k=2
   ·have ek:(g.k == 2)=true:=by simp [hk]
    have aX:=Qaa hk;obtain ⟨⟨x0,x1,x2,x3,x4,x5,x6,x7,x8,x9,ah,ag,ac⟩,⟨y0,y1,y2,y3,y4,y5,y6,y7,y8,y9,ab,ae,af⟩,_⟩:=HC.out wc aE;obtain ⟨q0,q1,q2,q3,q4,q5,q6,q7,q8,q9,au,ar,ao⟩:=Qdz aD;obtain ⟨f0,f1,f2,f3,f4,f5,f6,f7,f8,f9,aw,an,aq⟩:=QeL aD;clear x0 x1 x2 x3 x4 x5 x6 x7 x8 x9 ah ag ac hk;go_wp2_with fail;clear q0 f0 q1 f1 q2 f2 q3 f3 q4 f4 q5 f5 q6 f6 q7 f7 q8 f8 q9 f9 au aw ar an ao aq y0 y1 y2 y3 y4 y5 y6 y7 y8 y9 ab ae af;refine (Qix ⟨g.k,QaD g.s g'.s,Qbg g.h g.l g'.h g'.l,Qbl g.l g'.l,g.a,g.t,0,[],[],0,0,[],[]⟩ pl0 g'.a g'.t wc).mono ?_;rintro e u3 ⟨rfl,aM⟩;have R3:=(aM.block b (ZZc.1 aD).1).trans aD;have B3:=Qac aE aM
    have HY:Hid ((((((((((((((u3.setCell ⟨b,0,none⟩ (.int .i64 g.k)).setCell ⟨b,1,none⟩ (.int .u64 (QaD g.s g'.s))).setCell ⟨b,2,none⟩ (.int .i64 (Qbg g.h g.l g'.h g'.l))).setCell ⟨b,3,none⟩ (.int .u64 (Qbl g.l g'.l))).setCell ⟨b,4,none⟩ (.int .i64 (gA g.a g.t g'.a g'.t))).setCell ⟨b,5,none⟩ (.int .i64 (gT g.a g.t g'.a g'.t))).setCell ⟨b,6,none⟩ (.int .u64 0)).setCell ⟨b,7,none⟩ (.slice none 0 0)).setCell ⟨b,8,none⟩ (.slice none 0 0)).setCell ⟨b,9,none⟩ (.int .i64 0)).setCell ⟨b,10,none⟩ (.int .u64 0)).setCell ⟨b,11,none⟩ (.slice none 0 0)).setCell ⟨b,12,none⟩ (.slice none 0 0)).heap[b]?=some (.cells (Qan ⟨g.k,QaD g.s g'.s,Qbg g.h g.l g'.h g'.l,Qbl g.l g'.l,if g.k=2 then gA g.a g.t g'.a g'.t else 0,if g.k=2 then gT g.a g.t g'.a g'.t else 0,0,[],[],0,0,[],[]⟩ pl0) 90 (0,0))):=by
     rw [if_pos aX.out,if_pos aX.out];exact Qny R3
    have ap:Hid (Below W0.heap.size W0 (((((((((((((u3.setCell ⟨b,0,none⟩ (.int .i64 g.k)).setCell ⟨b,1,none⟩ (.int .u64 (QaD g.s g'.s))).setCell ⟨b,2,none⟩ (.int .i64 (Qbg g.h g.l g'.h g'.l))).setCell ⟨b,3,none⟩ (.int .u64 (Qbl g.l g'.l))).setCell ⟨b,4,none⟩ (.int .i64 (gA g.a g.t g'.a g'.t))).setCell ⟨b,5,none⟩ (.int .i64 (gT g.a g.t g'.a g'.t))).setCell ⟨b,6,none⟩ (.int .u64 0)).setCell ⟨b,7,none⟩ (.slice none 0 0)).setCell ⟨b,8,none⟩ (.slice none 0 0)).setCell ⟨b,9,none⟩ (.int .i64 0)).setCell ⟨b,10,none⟩ (.int .u64 0)).setCell ⟨b,11,none⟩ (.slice none 0 0)).setCell ⟨b,12,none⟩ (.slice none 0 0))):=by
     repeat (refine Below.setCell ?_ (by exact ay) _)
     exact B3
    obtain ⟨q0,q1,q2,q3,q4,q5,q6,q7,q8,q9,au,ar,ao⟩:=Qdz R3;obtain ⟨f0,f1,f2,f3,f4,f5,f6,f7,f8,f9,aw,an,aq⟩:=QeL R3;clear R3 B3 aM;go_wp2;go_meet;exact ⟨rfl,HY,ap⟩
   ·have ek:(g.k == 2)=false:=ZZf.2 hk
    have HY:Hid (wc.heap[b]?=some (.cells (Qan ⟨g.k,QaD g.s g'.s,Qbg g.h g.l g'.h g'.l,Qbl g.l g'.l,if g.k=2 then gA g.a g.t g'.a g'.t else 0,if g.k=2 then gT g.a g.t g'.a g'.t else 0,0,[],[],0,0,[],[]⟩ pl0) 90 (0,0))):=by
     obtain ⟨a1,a2⟩:=NO.out.ng hk;rw [if_neg hk,if_neg hk];have:=aD.out;rw [a1,a2] at this;exact this
    go_wp2;go_meet;exact ⟨rfl,HY,aE⟩
  case rest=>
   obtain ⟨rfl,HY,ap⟩:=hcut;clear aD aE;go_upto_region 4 with fail
   go_cut [5] (fun v w'=>∃ (pa:Option Addr) (pc:Nat) (na:Option Addr) (nc:Nat),v=.pointer (some ⟨b,0,none⟩)/\Hid (w'.heap[b]?=some (.cells (Qan ⟨g.k,QaD g.s g'.s,Qbg g.h g.l g'.h g'.l,Qbl g.l g'.l,if g.k=2 then gA g.a g.t g'.a g'.t else 0,if g.k=2 then gT g.a g.t g'.a g'.t else 0,QaD g.z g'.z,Qaq (mrg g.P g'.P),Qaq (mrg g.N g'.N),Qbg g.x g.y g'.x g'.y,Qbl g.y g'.y,[],[]⟩ ⟨pa,pc,na,nc,none,0,none,0⟩) 90 (0,0)))/\Hid (OwnB w' W0.heap.size (.slice pa (Qaq (mrg g.P g'.P)).length pc) (Qaq (mrg g.P g'.P)).length (Qaq (mrg g.P g'.P))/\OwnB w' W0.heap.size (.slice na (Qaq (mrg g.N g'.N)).length nc) (Qaq (mrg g.N g'.N)).length (Qaq (mrg g.N g'.N))/\Qgc (.slice pa (Qaq (mrg g.P g'.P)).length pc) (.slice na (Qaq (mrg g.N g'.N)).length nc))/\Hid (Below W0.heap.size W0 w'))
   case first=>
    obtain ⟨⟨x0,x1,x2,x3,x4,x5,x6,x7,x8,x9,ah,ag,ac⟩,⟨y0,y1,y2,y3,y4,y5,y6,y7,y8,y9,ab,ae,af⟩,_⟩:=HC.out wc ap;go_wp2_with fail;clear x0 x1 x2 x3 x4 x5 x6 x7 x8 x9 ah ag ac y0 y1 y2 y3 y4 y5 y6 y7 y8 y9 ab ae af;refine (Qjs OK.out.z OK.out.y av.out.z av.out.y rfl rfl rfl rfl LS.out.1.1 LS.out.1.2 LS.out.2.1 LS.out.2.2 (Qak HA.out.P (Qac ax ap)) (Qak HA.out.N (Qac ax ap)) (Qak aJ.out.P (Qac ax ap)) (Qak aJ.out.N (Qac ax ap)) OK.out.P OK.out.N av.out.P av.out.N).mono ?_;rintro e u4 ⟨v4,rfl,aO,bh⟩;obtain ⟨vp,vn,pn,nn,rfl,oP,oN,aV⟩:=bh;obtain ⟨pa,pc,rfl⟩:=oP.any;obtain ⟨na,nc,rfl⟩:=oN.any;obtain rfl:=oP.1;obtain rfl:=oN.1;have ai:=(ZZc.1 HY).1;have az:=ap.out.size;have R4:=(aO.block b ai).trans HY;have bd:=Qaa (Qac ap aO)
    have bi:Hid ((((((u4.setCell ⟨b,6,none⟩ (.int .u64 (QaD g.z g'.z))).setCell ⟨b,7,none⟩ (.slice pa (Qaq (mrg g.P g'.P)).length pc)).setCell ⟨b,8,none⟩ (.slice na (Qaq (mrg g.N g'.N)).length nc)).setCell ⟨b,9,none⟩ (.int .i64 (Qbg g.x g.y g'.x g'.y))).setCell ⟨b,10,none⟩ (.int .u64 (Qbl g.y g'.y))).heap[b]?=some (.cells (Qan ⟨g.k,QaD g.s g'.s,Qbg g.h g.l g'.h g'.l,Qbl g.l g'.l,if g.k=2 then gA g.a g.t g'.a g'.t else 0,if g.k=2 then gT g.a g.t g'.a g'.t else 0,QaD g.z g'.z,Qaq (mrg g.P g'.P),Qaq (mrg g.N g'.N),Qbg g.x g.y g'.x g'.y,Qbl g.y g'.y,[],[]⟩ ⟨pa,pc,na,nc,none,0,none,0⟩) 90 (0,0))):=by
     have k0:(u4.setCell ⟨b,6,none⟩ (.int .u64 (QaD g.z g'.z))).heap[b]?=some (.cells #[.int .i64 g.k,.int .u64 (QaD g.s g'.s),.int .i64 (Qbg g.h g.l g'.h g'.l),.int .u64 (Qbl g.l g'.l),.int .i64 (if g.k=2 then gA g.a g.t g'.a g'.t else 0),.int .i64 (if g.k=2 then gT g.a g.t g'.a g'.t else 0),.int .u64 (QaD g.z g'.z),.slice none 0 0,.slice none 0 0,.int .i64 0,.int .u64 0,.slice none 0 0,.slice none 0 0] 90 (0,0)):=ZZl _ b 6 _ _ (.int .u64 (QaD g.z g'.z)) R4;have k1:((u4.setCell ⟨b,6,none⟩ (.int .u64 (QaD g.z g'.z))).setCell ⟨b,7,none⟩ (.slice pa (Qaq (mrg g.P g'.P)).length pc)).heap[b]?=some (.cells #[.int .i64 g.k,.int .u64 (QaD g.s g'.s),.int .i64 (Qbg g.h g.l g'.h g'.l),.int .u64 (Qbl g.l g'.l),.int .i64 (if g.k=2 then gA g.a g.t g'.a g'.t else 0),.int .i64 (if g.k=2 then gT g.a g.t g'.a g'.t else 0),.int .u64 (QaD g.z g'.z),.slice pa (Qaq (mrg g.P g'.P)).length pc,.slice none 0 0,.int .i64 0,.int .u64 0,.slice none 0 0,.slice none 0 0] 90 (0,0)):=ZZl _ b 7 _ _ (.slice pa (Qaq (mrg g.P g'.P)).length pc) k0;have k2:(((u4.setCell ⟨b,6,none⟩ (.int .u64 (QaD g.z g'.z))).setCell ⟨b,7,none⟩ (.slice pa (Qaq (mrg g.P g'.P)).length pc)).setCell ⟨b,8,none⟩ (.slice na (Qaq (mrg g.N g'.N)).length nc)).heap[b]?=some (.cells #[.int .i64 g.k,.int .u64 (QaD g.s g'.s),.int .i64 (Qbg g.h g.l g'.h g'.l),.int .u64 (Qbl g.l g'.l),.int .i64 (if g.k=2 then gA g.a g.t g'.a g'.t else 0),.int .i64 (if g.k=2 then gT g.a g.t g'.a g'.t else 0),.int .u64 (QaD g.z g'.z),.slice pa (Qaq (mrg g.P g'.P)).length pc,.slice na (Qaq (mrg g.N g'.N)).length nc,.int .i64 0,.int .u64 0,.slice none 0 0,.slice none 0 0] 90 (0,0)):=ZZl _ b 8 _ _ (.slice na (Qaq (mrg g.N g'.N)).length nc) k1;have k3:((((u4.setCell ⟨b,6,none⟩ (.int .u64 (QaD g.z g'.z))).setCell ⟨b,7,none⟩ (.slice pa (Qaq (mrg g.P g'.P)).length pc)).setCell ⟨b,8,none⟩ (.slice na (Qaq (mrg g.N g'.N)).length nc)).setCell ⟨b,9,none⟩ (.int .i64 (Qbg g.x g.y g'.x g'.y))).heap[b]?=some (.cells #[.int .i64 g.k,.int .u64 (QaD g.s g'.s),.int .i64 (Qbg g.h g.l g'.h g'.l),.int .u64 (Qbl g.l g'.l),.int .i64 (if g.k=2 then gA g.a g.t g'.a g'.t else 0),.int .i64 (if g.k=2 then gT g.a g.t g'.a g'.t else 0),.int .u64 (QaD g.z g'.z),.slice pa (Qaq (mrg g.P g'.P)).length pc,.slice na (Qaq (mrg g.N g'.N)).length nc,.int .i64 (Qbg g.x g.y g'.x g'.y),.int .u64 0,.slice none 0 0,.slice none 0 0] 90 (0,0)):=ZZl _ b 9 _ _ (.int .i64 (Qbg g.x g.y g'.x g'.y)) k2;have k4:(((((u4.setCell ⟨b,6,none⟩ (.int .u64 (QaD g.z g'.z))).setCell ⟨b,7,none⟩ (.slice pa (Qaq (mrg g.P g'.P)).length pc)).setCell ⟨b,8,none⟩ (.slice na (Qaq (mrg g.N g'.N)).length nc)).setCell ⟨b,9,none⟩ (.int .i64 (Qbg g.x g.y g'.x g'.y))).setCell ⟨b,10,none⟩ (.int .u64 (Qbl g.y g'.y))).heap[b]?=some (.cells #[.int .i64 g.k,.int .u64 (QaD g.s g'.s),.int .i64 (Qbg g.h g.l g'.h g'.l),.int .u64 (Qbl g.l g'.l),.int .i64 (if g.k=2 then gA g.a g.t g'.a g'.t else 0),.int .i64 (if g.k=2 then gT g.a g.t g'.a g'.t else 0),.int .u64 (QaD g.z g'.z),.slice pa (Qaq (mrg g.P g'.P)).length pc,.slice na (Qaq (mrg g.N g'.N)).length nc,.int .i64 (Qbg g.x g.y g'.x g'.y),.int .u64 (Qbl g.y g'.y),.slice none 0 0,.slice none 0 0] 90 (0,0)):=ZZl _ b 10 _ _ (.int .u64 (Qbl g.y g'.y)) k3;exact k4
    have bc:Hid (Below W0.heap.size W0 (((((u4.setCell ⟨b,6,none⟩ (.int .u64 (QaD g.z g'.z))).setCell ⟨b,7,none⟩ (.slice pa (Qaq (mrg g.P g'.P)).length pc)).setCell ⟨b,8,none⟩ (.slice na (Qaq (mrg g.N g'.N)).length nc)).setCell ⟨b,9,none⟩ (.int .i64 (Qbg g.x g.y g'.x g'.y))).setCell ⟨b,10,none⟩ (.int .u64 (Qbl g.y g'.y)))):=((((bd.out.setCell (by exact ay) _).setCell (by exact ay) _).setCell (by exact ay) _).setCell (by exact ay) _).setCell (by exact ay) _;have HO:Hid (OwnB (((((u4.setCell ⟨b,6,none⟩ (.int .u64 (QaD g.z g'.z))).setCell ⟨b,7,none⟩ (.slice pa (Qaq (mrg g.P g'.P)).length pc)).setCell ⟨b,8,none⟩ (.slice na (Qaq (mrg g.N g'.N)).length nc)).setCell ⟨b,9,none⟩ (.int .i64 (Qbg g.x g.y g'.x g'.y))).setCell ⟨b,10,none⟩ (.int .u64 (Qbl g.y g'.y))) W0.heap.size (.slice pa (Qaq (mrg g.P g'.P)).length pc) (Qaq (mrg g.P g'.P)).length (Qaq (mrg g.P g'.P))/\OwnB (((((u4.setCell ⟨b,6,none⟩ (.int .u64 (QaD g.z g'.z))).setCell ⟨b,7,none⟩ (.slice pa (Qaq (mrg g.P g'.P)).length pc)).setCell ⟨b,8,none⟩ (.slice na (Qaq (mrg g.N g'.N)).length nc)).setCell ⟨b,9,none⟩ (.int .i64 (Qbg g.x g.y g'.x g'.y))).setCell ⟨b,10,none⟩ (.int .u64 (Qbl g.y g'.y))) W0.heap.size (.slice na (Qaq (mrg g.N g'.N)).length nc) (Qaq (mrg g.N g'.N)).length (Qaq (mrg g.N g'.N))/\Qgc (.slice pa (Qaq (mrg g.P g'.P)).length pc) (.slice na (Qaq (mrg g.N g'.N)).length nc)):=⟨(((((oP.below ai _).below ai _).below ai _).below ai _).below ai _).le az,(((((oN.below ai _).below ai _).below ai _).below ai _).below ai _).le az,aV⟩;obtain ⟨q0,q1,q2,q3,q4,q5,q6,q7,q8,q9,au,ar,ao⟩:=Qdz R4;obtain ⟨f0,f1,f2,f3,f4,f5,f6,f7,f8,f9,aw,an,aq⟩:=QeL R4;clear R4 aO oP oN aV ai az;go_wp2;go_meet;exact ⟨pa,pc,na,nc,rfl,bi,HO,bc⟩
   case rest=>
    obtain ⟨pa,pc,na,nc,rfl,aR,aL,aj⟩:=hcut;clear HY ap;go_upto_region 5 with fail
    go_cut [5] (fun v w'=>∃ (ea:Option Addr) (ec:Nat) (ra:Option Addr) (rc:Nat) (E R:List Int),v=.pointer (some ⟨b,0,none⟩)/\Hid (Mg g.E g.R g'.E g'.R E R)/\Hid (w'.heap[b]?=some (.cells (Qan (QmJ g g' E R) ⟨pa,pc,na,nc,ea,ec,ra,rc⟩) 90 (0,0)))/\Hid (AgO w' W0.heap.size ((QmJ g g' E R)) ⟨pa,pc,na,nc,ea,ec,ra,rc⟩)/\Hid (Below W0.heap.size W0 w'))
    case first=>
     obtain ⟨⟨x0,x1,x2,x3,x4,x5,x6,x7,x8,x9,ah,ag,ac⟩,⟨y0,y1,y2,y3,y4,y5,y6,y7,y8,y9,ab,ae,af⟩,_⟩:=HC.out wc aj;go_wp2_with fail;clear x0 x1 x2 x3 x4 x5 x6 x7 x8 x9 ah ag ac y0 y1 y2 y3 y4 y5 y6 y7 y8 y9 ab ae af;refine (QmS NO.out.hl aN.out.hl rfl rfl rfl rfl CE (Qah HA.out.E (Qac ax aj)) (Qah HA.out.R (Qac ax aj)) (Qah aJ.out.E (Qac ax aj)) (Qah aJ.out.R (Qac ax aj)) OK.out.E av.out.E).mono ?_;rintro e u6 ⟨v6,E,R,rfl,hM,⟨ve,vr,rfl,oE,oR⟩,aF⟩;obtain ⟨ea,ec,rfl⟩:=Qag oE;obtain ⟨ra,rc,rfl⟩:=Qag oR;have ai:=(ZZc.1 aR).1;have az:=aj.out.size;have R6:=(aF.block b ai).trans aR;have bg:=Qaa (Qac aj aF)
     have aI:Hid (((u6.setCell ⟨b,11,none⟩ (.slice ea E.length ec)).setCell ⟨b,12,none⟩ (.slice ra R.length rc)).heap[b]?=some (.cells (Qan ((QmJ g g' E R)) ⟨pa,pc,na,nc,ea,ec,ra,rc⟩) 90 (0,0))):=by
      have k0:(u6.setCell ⟨b,11,none⟩ (.slice ea E.length ec)).heap[b]?=some (.cells #[.int .i64 g.k,.int .u64 (QaD g.s g'.s),.int .i64 (Qbg g.h g.l g'.h g'.l),.int .u64 (Qbl g.l g'.l),.int .i64 (if g.k=2 then gA g.a g.t g'.a g'.t else 0),.int .i64 (if g.k=2 then gT g.a g.t g'.a g'.t else 0),.int .u64 (QaD g.z g'.z),.slice pa (Qaq (mrg g.P g'.P)).length pc,.slice na (Qaq (mrg g.N g'.N)).length nc,.int .i64 (Qbg g.x g.y g'.x g'.y),.int .u64 (Qbl g.y g'.y),.slice ea E.length ec,.slice none 0 0] 90 (0,0)):=ZZl _ b 11 _ _ (.slice ea E.length ec) R6;have k1:((u6.setCell ⟨b,11,none⟩ (.slice ea E.length ec)).setCell ⟨b,12,none⟩ (.slice ra R.length rc)).heap[b]?=some (.cells #[.int .i64 g.k,.int .u64 (QaD g.s g'.s),.int .i64 (Qbg g.h g.l g'.h g'.l),.int .u64 (Qbl g.l g'.l),.int .i64 (if g.k=2 then gA g.a g.t g'.a g'.t else 0),.int .i64 (if g.k=2 then gT g.a g.t g'.a g'.t else 0),.int .u64 (QaD g.z g'.z),.slice pa (Qaq (mrg g.P g'.P)).length pc,.slice na (Qaq (mrg g.N g'.N)).length nc,.int .i64 (Qbg g.x g.y g'.x g'.y),.int .u64 (Qbl g.y g'.y),.slice ea E.length ec,.slice ra R.length rc] 90 (0,0)):=ZZl _ b 12 _ _ (.slice ra R.length rc) k0;exact k1
     have aK:Hid (Below W0.heap.size W0 ((u6.setCell ⟨b,11,none⟩ (.slice ea E.length ec)).setCell ⟨b,12,none⟩ (.slice ra R.length rc))):=(bg.out.setCell (by exact ay) _).setCell (by exact ay) _;have aY:OwnN .u64 69 u6 wc.heap.size (.slice ea E.length ec) E.length E:=⟨rfl,oE⟩;have aW:OwnN .i64 2 u6 wc.heap.size (.slice ra R.length rc) R.length R:=⟨rfl,oR⟩;have aT:=R6;have n1:=aL.out.1.past aF;have n2:=aL.out.2.1.past aF;have e1:(Value.slice pa (Qaq (mrg g.P g'.P)).length pc).ownBlock≠some b:=n1.ne R6 (by decide);have e2:(Value.slice na (Qaq (mrg g.N g'.N)).length nc).ownBlock≠some b:=n2.ne R6 (by decide);have aU:Hid (AgO ((u6.setCell ⟨b,11,none⟩ (.slice ea E.length ec)).setCell ⟨b,12,none⟩ (.slice ra R.length rc)) W0.heap.size ((QmJ g g' E R)) ⟨pa,pc,na,nc,ea,ec,ra,rc⟩):=⟨(n1.set e1 _).set e1 _,(n2.set e2 _).set e2 _,aL.out.2.2,((aY.below ai _).below ai _).le az,((aW.below ai _).below ai _).le az⟩;have aP:=Qaa hM;obtain ⟨q0,q1,q2,q3,q4,q5,q6,q7,q8,q9,au,ar,ao⟩:=Qdz R6;obtain ⟨f0,f1,f2,f3,f4,f5,f6,f7,f8,f9,aw,an,aq⟩:=QeL R6;clear aT n1 n2 e1 e2 aY aW R6 aF oE oR hM ai az;go_wp2;go_meet;exact ⟨ea,ec,ra,rc,E,R,rfl,aP,aI,aU,aK⟩
    case rest=>
     obtain ⟨ea,ec,ra,rc,E,R,rfl,aP,aI,aU,aK⟩:=hcut;clear aR aL aj;have RR:=(HC.out _ aK).2.2;obtain ⟨a0,a1,a2,a3,a4,a5,a6,a7,a8,a9,bl,bq,br⟩:=Qdz aI;obtain ⟨b0,b1,b2,b3,b4,b5,b6,b7,b8,b9,bk,bm,bp⟩:=QeL aI;obtain ⟨c0,c1,c2,c3,c4,c5,c6,c7,c8,c9,ba,be,bj⟩:=Qdz RR;obtain ⟨d0,d1,d2,d3,d4,d5,d6,d7,d8,d9,bo,bs,bn⟩:=QeL RR;clear RR;go_wp2;have bb:=bf.out;refine bodyPost_ret (v:=.agg (Qan ((QmJ g g' E R)) ⟨pa,pc,na,nc,ea,ec,ra,rc⟩)) (by simp [results,results83,go_sem,c0,c1,c2,c3,c4,c5,c6,c7,c8,c9,ba,be,bj]) rfl (AgRes.mk (o:=(QmJ g g' E R)) (p:=⟨pa,pc,na,nc,ea,ec,ra,rc⟩) ?_ ?_ ?_)
     ·unfold AgMrg;rw [if_pos HG.out];exact ⟨E,R,aP,rfl⟩
     ·refine AgO.le (B:=W0.heap.size) ?_ (by omega)
      repeat (refine AgO.below ?_ (by omega) _)
      exact aU.out
     ·repeat (refine Below.setCell ?_ (by simp <;> omega) _)
      exact Qac ax aK
end
end Go.Proofs.YtdbaabbmcfnjbaaGreatDoor
