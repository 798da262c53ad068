/-
 The tags of a series, in order, each once; and the series' text. Of no program's walk.
-/
import Derived.Test.YthchmdmncmioiaaGreatDoorZJM
import Derived.Sort.KeysCollected
import Derived.Sort.Walk0
import Derived.Lib.Join
import Derived.RegionTactic
import Derived.BigRegion
import Derived.SliceStrings
set_option maxHeartbeats 4000000
namespace Go.Proofs.YthchmdmncmioiaaGreatDoor
set_option linter.unusedVariables false
set_option linter.unusedSimpArgs false
open Go.ChangeShapes Go.WideShapes Go.ChangeAt Go.RowKit Go.PlainAid
def toL (b:ByteArray):List UInt8:=b.data.toList
theorem Qdp {a b:ByteArray} (h:toL a=toL b):a=b:=by
 cases a;cases b;simp [toL] at h;simp [h]
theorem Qgl (b:ByteArray):(⟨(toL b).toArray⟩:ByteArray)=b:=by cases b;simp [toL]
theorem Qcc (l:List UInt8):toL ⟨l.toArray⟩=l:=by simp [toL]
theorem QaC (b:ByteArray):(toL b).length=b.size:=by unfold toL;rw [Array.length_toList];rfl
theorem mk_app (a b:List UInt8):(⟨a.toArray⟩:ByteArray) ++ ⟨b.toArray⟩=⟨(a ++ b).toArray⟩:=by
 apply ByteArray.ext;rw [ByteArray.data_append];simp
theorem lt_toL (a b:ByteArray):QaZ a b=decide (toL a<toL b):=by
 unfold QaZ toL;rw [ByteArray.toList_eq,ByteArray.toList_eq];exact Go.Proofs.bytesLess_eq _ _
def QeP:List ByteArray->ByteArray->List ByteArray
 | [],t=>[t]
 | y :: r,t=>if QaZ y t=true then y :: QeP r t else if y=t then y :: r else t :: y :: r
def Qgp (l:List ByteArray):Prop:=l.Pairwise (fun a b=>QaZ a b=true)
theorem mem_insT {x t:ByteArray}:∀ {l:List ByteArray},x∈QeP l t↔x=t∨x∈l
 | []=>by simp [QeP]
 | y :: r=>by
  unfold QeP
  split
  ·simp only [List.mem_cons,mem_insT (l:=r)]
   constructor
   ·rintro (h | h | h)
    ·exact .inr (.inl h)
    ·exact .inl h
    ·exact .inr (.inr h)
   ·rintro (h | h | h)
    ·exact .inr (.inl h)
    ·exact .inl h
    ·exact .inr (.inr h)
  ·split
   ·rename_i h;subst h;simp
   ·simp
theorem QiD {t:ByteArray}:∀ {l:List ByteArray},Qgp l->Qgp (QeP l t)
 | [],_=>by simp [QeP,Qgp]
 | y :: r,h=>by
  obtain ⟨h1,h2⟩:=List.pairwise_cons.1 h;unfold QeP
  split
  ·rename_i hy
   refine List.pairwise_cons.2 ⟨fun x hx=>?_,QiD h2⟩;rcases mem_insT.1 hx with rfl | hx
   ·exact hy
   ·exact h1 x hx
  ·rename_i hy
   split
   ·exact h
   ·rename_i hne
    have hty:QaZ t y=true:=by
     rcases Qf9 (a:=y) (b:=t) (by simpa using hy) with e | e
     ·exact e
     ·exact absurd e hne
    refine List.pairwise_cons.2 ⟨fun x hx=>?_,h⟩;rcases List.mem_cons.1 hx with rfl | hx
    ·exact hty
    ·exact QdW hty (h1 x hx)
def QdS (L:List ByteArray):List ByteArray:=L.foldl QeP []
theorem QiZ:∀ (L l:List ByteArray),Qgp l->Qgp (L.foldl QeP l)
 | [],l,h=>h
 | t :: r,l,h=>QiZ r (QeP l t) (QiD h)
theorem QkN (x:ByteArray):∀ (L l:List ByteArray),x∈L.foldl QeP l↔x∈L∨x∈l
 | [],l=>by simp
 | t :: r,l=>by
  rw [List.foldl_cons,QkN x r,mem_insT,List.mem_cons];constructor
  ·rintro (h | h | h)
   ·exact .inl (.inr h)
   ·exact .inl (.inl h)
   ·exact .inr h
  ·rintro ((h | h) | h)
   ·exact .inr (.inl h)
   ·exact .inl h
   ·exact .inr (.inr h)
theorem Qen (L:List ByteArray):Qgp (QdS L):=QiZ L [] List.Pairwise.nil
theorem mem_serK {L:List ByteArray} {x:ByteArray}:x∈QdS L↔x∈L:=by unfold QdS;rw [QkN];simp
theorem QkJ (t:ByteArray):∀ l:List ByteArray,(QeP l t).length<=l.length+1
 | []=>by simp [QeP]
 | y :: r=>by
  unfold QeP;have:=QkJ t r
  split
  ·simp;omega
  ·split <;> simp
theorem Qj7:∀ (L l:List ByteArray),(L.foldl QeP l).length<=l.length+L.length
 | [],l=>by simp
 | t :: r,l=>by
  have h1:=Qj7 r (QeP l t);have h2:=QkJ t l;simp only [List.foldl_cons,List.length_cons];omega
theorem QfN (L:List ByteArray):(QdS L).length<=L.length:=by have:=Qj7 L [];simpa [QdS] using this
theorem QeM {l:List ByteArray} (h:Qgp l):l.Nodup:=h.imp (fun {a b} hab e=>by subst e;rw [QeE] at hab;cases hab)
theorem QmB {l m:List ByteArray} (h:Qgp l) (k:Qgp m) (hm:∀ x,x∈l↔x∈m):l=m:=by
 have hp:l.Perm m:=(List.perm_ext_iff_of_nodup (QeM h) (QeM k)).2 hm;refine hp.eq_of_pairwise (le:=fun a b=>QaZ a b=true) (fun a b _ _ h1 h2=>?_) h k;rw [Qne h1] at h2;cases h2
def QlY (t:ByteArray):Lit:=.string (toL t)
def setT (L:List ByteArray):DataW Unit:=Go.Maps.setOf (.agg []) (L.map QlY)
theorem Qnz (L:List ByteArray) (t:ByteArray):setT (L ++ [t])=(setT L).put (QlY t) (.agg []):=by unfold setT;rw [List.map_append];exact Go.Maps.setOf_snoc _ _ _
theorem QkA (L:List ByteArray):∀ x∈L.map QlY,WideAt.IsKeyLit x:=fun x hx=>by
 obtain ⟨t,_,rfl⟩:=List.mem_map.1 hx;exact trivial
theorem QeC (L:List ByteArray) (hk:∃ es,setT L=.map es/\∀ p∈es,∃ x,p.1=Lit.string x):((QdS L).map toL).Perm (Go.strKeys (setT L)):=by
 obtain ⟨es,e,hs⟩:=hk;obtain ⟨es',e',hp⟩:=Go.Maps.tidy_setOf (H:=Unit) (.agg []) (L.map QlY) (QkA L);have e':setT L=.map es':=e';obtain rfl:es=es':=by rw [e] at e'; simpa using e'
 rw [e];refine Go.perm_strKeys hp hs ?_ (fun x=>?_)
 ·exact List.pairwise_map.2 ((QeM (Qen L)).imp (fun {a b} hne h=>hne (Qdp h)))
 ·have hh:=Go.Maps.has_setOf (H:=Unit) (.agg []) (.string x) (L.map QlY) (QkA L)
  have hh:Go.Maps.has (setT L) (.string x)=(L.map QlY).any (fun y=>y.sameKey (.string x)):=hh;rw [<- e,hh,List.any_eq_true,List.mem_map];constructor
  ·rintro ⟨t,ht,rfl⟩
   exact ⟨QlY t,List.mem_map.2 ⟨t,mem_serK.1 ht,rfl⟩,by simp [QlY,Lit.sameKey]⟩
  ·rintro ⟨y,hy,hs⟩
   obtain ⟨t,ht,rfl⟩:=List.mem_map.1 hy;exact ⟨t,mem_serK.2 ht,by simpa [QlY,Lit.sameKey] using hs⟩
theorem Qd9 {L:List ByteArray} (hk:∃ es,setT L=.map es/\∀ p∈es,∃ x,p.1=Lit.string x) {ss:List (List UInt8)} (h:ss.Perm (Go.strKeys (setT L))) :
  ss.mergeSort (fun x y=>decide (x<=y))=(QdS L).map toL/\ss.length=(QdS L).length/\Go.Maps.size (setT L)=(QdS L).length:=by
 have hp:=h.trans (QeC L hk).symm;have hl:=hp.length_eq;rw [List.length_map] at hl;refine ⟨?_,hl,?_⟩
 ·have e:=Go.mergeSort_of_perm hp
  have e2:((QdS L).map toL).mergeSort Go.leB=(QdS L).map toL:=by
   refine List.mergeSort_of_pairwise ?_;refine List.pairwise_map.2 ((Qen L).imp (fun {a b} hab=>?_));rw [lt_toL] at hab;have hab:=of_decide_eq_true hab;exact ZZh (List.le_of_lt hab)
  exact e.trans e2
 ·have h2:=(QeC L hk).length_eq
  rw [List.length_map] at h2;rw [h2];obtain ⟨es,e,_⟩:=hk;rw [e];simp [Go.Maps.size,Go.strKeys]
def QaO (K:List ByteArray):List UInt8:=Lib.join (K.map toL) [44]
theorem Qil:QaO []=[]:=rfl
theorem Qeu (x:ByteArray):QaO [x]=toL x:=Lib.join_one _ _
theorem Qmj (sep:List UInt8) (r:List (List UInt8)) (x:List UInt8):Lib.joinTail sep (r ++ [x])=Lib.joinTail sep r ++ (sep ++ x):=by simp [Lib.joinTail]
theorem Qhj {K:List ByteArray} (h:K≠[]) (x:ByteArray):QaO (K ++ [x])=QaO K ++ [44] ++ toL x:=by
 cases K with
 | nil=>exact absurd rfl h
 | cons y r=>
  unfold QaO;rw [List.cons_append,List.map_cons,List.map_cons,Lib.join_cons,Lib.join_cons,List.map_append,List.map_cons,List.map_nil,Qmj];simp
theorem Qgm {m:Nat}:∀ {K:List ByteArray},(∀ x∈K,x.size<=m)->(QaO K).length<=K.length*(m+1):=by
 have ht:∀ r:List ByteArray,(∀ x∈r,x.size<=m)->(Lib.joinTail [44] (r.map toL)).length<=r.length*(m+1):=by
  intro r
  induction r with
  | nil=>intro _;simp [Lib.joinTail]
  | cons y r ih=>
   intro h;have h1:=h y List.mem_cons_self;have h2:=ih (fun x hx=>h x (ZZm _ hx));have e:Lib.joinTail [44] ((y :: r).map toL)=44 :: toL y ++ Lib.joinTail [44] (r.map toL):=by simp [Lib.joinTail]
   rw [e];simp only [List.length_append,List.length_cons,QaC,Nat.add_mul];omega
 intro K h
 cases K with
 | nil=>simp [QaO,Lib.join]
 | cons y r=>
  have h1:=h y List.mem_cons_self;have h2:=ht r (fun x hx=>h x (ZZm _ hx));unfold QaO;rw [List.map_cons,Lib.join_cons];simp only [List.length_append,List.length_cons,QaC,Nat.add_mul];omega
def Qc0 (name:ByteArray) (K:List ByteArray):List UInt8:=toL name ++ [123] ++ QaO K
def QnS (name:ByteArray) (K:List ByteArray):ByteArray:=⟨(Qc0 name K ++ [125]).toArray⟩
theorem Qis (name:ByteArray) (K:List ByteArray):(QnS name K).size=name.size+(QaO K).length+2:=by
 rw [<- QaC,QnS,Qcc];simp [Qc0,QaC];omega
def QdM (name:ByteArray) (L:List ByteArray):ByteArray:=if 8<(QdS L).length∨100<(QnS name (QdS L)).size then ByteArray.empty else QnS name (QdS L)
def Qa2 (w:World) (ao:Option Addr) (L:List ByteArray):Prop:=
 0<L.length->∃ b off,ao=some ⟨b,off,none⟩/\∀ i u,L[i]?=some u->w.cell? ⟨b,off+i,none⟩=some (.string u)
theorem QbC {w w':World} {ao:Option Addr} {L:List ByteArray} (h:Qa2 w ao L) (hb:Below w.heap.size w w'):Qa2 w' ao L:=fun h0=>by
 obtain ⟨b,off,e,hc⟩:=h h0;exact ⟨b,off,e,fun i u hi=>Qab hb (hc i u hi)⟩
theorem Qhl {w:World} {B g cap:Nat} {L:List ByteArray} (h:w.ownsRow B 9 1 (.slice (some ⟨g,0,none⟩) L.length cap) L.length (L.map Value.string)):Qa2 w (some ⟨g,0,none⟩) L:=fun _=>
 ⟨g,0,rfl,fun i u hi=>by
  have hl:=(ZZd.1 hi).1;rw [Nat.zero_add,h.cellAt i (by omega)];simp [hi]⟩
def fillL (xs:List Value) (z:Value) (k:Nat):List Value:=xs.take k ++ List.replicate (xs.length - k) z
theorem QnK:(Tryz.prog.info? 9).map (fun i=>(i.zero,i.size,i.bytes))=some (some (.string ByteArray.empty),1,16):=by kernel_rfl
def Qg9 (c:Int):Bool:=decide (97<=c) && decide (c<=122)
def QmD (c:Int):Bool:=decide (48<=c) && decide (c<=57)
def nmB (c:Int):Bool:=Qg9 c || QmD c || c == 95 || c == 46
def QgD (s:ByteArray):Nat->Bool
 | 0=>true
 | n+1=>QgD s n && nmB (bt s n)
def Qa1 (s:ByteArray):Bool:=decide (1<=s.size) && decide (s.size<=40) && Qg9 (bt s 0) && QgD s s.size
theorem QaF {a b:Bool} (h:a=b):Ending.returned (.bool a)=.returned (.bool b):=by rw [h]
theorem Qjd {s:ByteArray} {k:Nat} (h:nmB (bt s k)=false):∀ n,k<n->QgD s n=false
 | 0,hk=>by omega
 | n+1,hk=>by
  unfold QgD;by_cases e:k=n
  ·subst e;rw [h];simp
  ·rw [Qjd h n (by omega)];simp
theorem Qe6 (c:Int) (w:World) :
  Calls Tryz.prog 99 #[.int .u8 c] w fun e w'=>e=.returned (.bool (Qg9 c))/\w'=w:=by
 by_cases h1:97<=c <;> by_cases h2:c<=122 <;> (go_enter Tryz.func99,Tryz.ntmps99;go_wp2;go_ret;exact ⟨by simp [Qg9,h1,h2],rfl⟩)
theorem Qnj (c:Int) (w:World) :
  Calls Tryz.prog 140 #[.int .u8 c] w fun e w'=>e=.returned (.bool (QmD c))/\w'=w:=by
 by_cases h1:48<=c <;> by_cases h2:c<=57 <;> (go_enter Tryz.func140,Tryz.ntmps140;go_wp2;go_ret;exact ⟨by simp [QmD,h1,h2],rfl⟩)
theorem Qb5 (c:Int) (w:World) :
  Calls Tryz.prog 100 #[.int .u8 c] w fun e w'=>e=.returned (.bool (nmB c))/\w'=w:=by
 cases h1:Qg9 c <;> cases h2:QmD c <;> by_cases h3:c=95 <;> by_cases h4:c=46 <;>
 ·go_enter Tryz.func100,Tryz.ntmps100
  go_wp2_with (first
   | (go_at_call 99;refine (Qe6 _ _).mono ?_;rintro e w1 ⟨rfl,rfl⟩)
   | (go_at_call 140;refine (Qnj _ _).mono ?_;rintro e w1 ⟨rfl,rfl⟩))
  all_goals (go_ret;exact ⟨by simp [nmB,h1,h2,h3,h4],rfl⟩)
theorem QcW (s:ByteArray) (w:World) (hs:s.size<=maxLen) :
  Calls Tryz.prog 50 #[.string s] w fun e w'=>e=.returned (.bool (Qa1 s))/\w'=w:=by
 unfold maxLen at hs;have hbt:=get_bt s;by_cases h0:s.size<1
 ·have HN:Hid (Qa1 s=false):=(by unfold Qa1;rw [show decide (1<=s.size)=false from decide_eq_false (by omega)];rfl:Qa1 s=false)
  have hi:((s.size:Int)<1):=by omega
  go_enter Tryz.func50,Tryz.ntmps50;go_wp2;go_ret;exact ⟨QaF HN.out.symm,rfl⟩
 ·by_cases h1:40<s.size
  ·have HN:Hid (Qa1 s=false):=(by unfold Qa1;rw [show decide (s.size<=40)=false from decide_eq_false (by omega)];simp:Qa1 s=false)
   have hi:¬ ((s.size:Int)<1):=by omega
   have hj:(40:Int)<(s.size:Int):=by omega
   go_enter Tryz.func50,Tryz.ntmps50;go_wp2;go_ret;exact ⟨QaF HN.out.symm,rfl⟩
  ·have hi:¬ ((s.size:Int)<1):=by omega
   have hj:¬ (40:Int)<(s.size:Int):=by omega
   have hp:(0:Int)<(s.size:Int):=by omega
   cases hl:Qg9 (bt s 0)
   ·have HN:Hid (Qa1 s=false):=(by unfold Qa1;rw [hl];simp:Qa1 s=false)
    go_enter Tryz.func50,Tryz.ntmps50;go_wp2_with (go_at_call 99;refine (Qe6 _ _).mono ?_;rintro e w1 ⟨rfl,rfl⟩);go_ret;exact ⟨QaF HN.out.symm,rfl⟩
   ·have HN:Hid (Qa1 s=QgD s s.size):=(by unfold Qa1;rw [hl,show decide (1<=s.size)=true from decide_eq_true (by omega),show decide (s.size<=40)=true from decide_eq_true (by omega)];rfl:Qa1 s=QgD s s.size)
    go_enter Tryz.func50,Tryz.ntmps50;go_wp2_with (go_at_call 99;refine (Qe6 _ _).mono ?_;rintro e w1 ⟨rfl,rfl⟩)
    go_loop [20,3] (fun i _=>∃ k:Nat,k<=s.size/\i=.int .i64 k/\QgD s k=true) (fun i _=>s.size - (Go.RowKit.intOf i).toNat)
    case atStart=>exact ⟨0,ZZj _,rfl,rfl⟩
    case round=>
     obtain ⟨k,hk,rfl,ha⟩:=hrel;have HA:Hid (QgD s k=true):=ha;clear ha;by_cases hlt:k<s.size
     ·cases hn:nmB (bt s k)
      ·have HB:Hid (QgD s s.size=false):=Qjd hn _ hlt
       go_wp2_with (go_at_call 100;refine (Qb5 _ _).mono ?_;rintro e w1 ⟨rfl,rfl⟩);go_ret;exact ⟨QaF (HN.out.trans HB.out).symm,rfl⟩
      ·have HB:Hid (QgD s (k+1)=true):=(by unfold QgD;rw [HA.out,hn];rfl:QgD s (k+1)=true)
       go_wp2_with (go_at_call 100;refine (Qb5 _ _).mono ?_;rintro e w1 ⟨rfl,rfl⟩)
       go_round
       case rel=>exact ⟨k+1,by omega,by go_num,HB.out⟩
       case measure=>simp [Go.RowKit.intOf];omega
     ·have e:k=s.size:=by omega
      have HB:Hid (QgD s s.size=true):=(by rw [<- e];exact HA.out:QgD s s.size=true);clear e;go_wp2;go_ret;exact ⟨QaF (HN.out.trans HB.out).symm,rfl⟩
theorem Qpm {c:Int} (h:97<=c) (k:c<=122):Qg9 c=true:=by simp [Qg9,h,k]
theorem Qo8 {c:Int} (h:c<97∨122<c):Qg9 c=false:=by
 unfold Qg9;rcases h with h | h
 ·rw [show decide (97<=c)=false from decide_eq_false (by omega)];rfl
 ·rw [show decide (c<=122)=false from decide_eq_false (by omega)];simp
theorem Qpl {c:Int} (h:48<=c) (k:c<=57):QmD c=true:=by simp [QmD,h,k]
theorem Qpz {c:Int} (h:c<48∨57<c):QmD c=false:=by
 unfold QmD;rcases h with h | h
 ·rw [show decide (48<=c)=false from decide_eq_false (by omega)];rfl
 ·rw [show decide (c<=57)=false from decide_eq_false (by omega)];simp
theorem Qno (c:Int):(97<=c/\c<=122)∨((c<97∨122<c)/\((48<=c/\c<=57)∨c=95∨c=46∨((c<48∨57<c)/\(c == 95)=false/\(c == 46)=false))):=by
 by_cases a:97<=c/\c<=122
 ·exact .inl a
 ·refine .inr ⟨by omega,?_⟩
  by_cases b:48<=c/\c<=57
  ·exact .inl b
  ·by_cases d:c=95
   ·exact .inr (.inl d)
   ·by_cases e:c=46
    ·exact .inr (.inr (.inl e))
    ·exact .inr (.inr (.inr ⟨by omega,by simpa using d,by simpa using e⟩))
theorem nmB_l {c:Int} (h:Qg9 c=true):nmB c=true:=by simp [nmB,h]
theorem nmB_d {c:Int} (h:QmD c=true):nmB c=true:=by simp [nmB,h]
theorem nmB_95:nmB 95=true:=by decide
theorem nmB_46:nmB 46=true:=by decide
theorem nmB_n {c:Int} (h:Qg9 c=false) (k:QmD c=false) (d:(c == 95)=false) (e:(c == 46)=false):nmB c=false:=by simp [nmB,h,k,d,e]
theorem Qk2 {s:ByteArray} (h:Qg9 (bt s 0)=false):Qa1 s=false:=by unfold Qa1;rw [h];simp
theorem Qqh {s:ByteArray} {k:Nat} (hk:k<s.size) (h:nmB (bt s k)=false):Qa1 s=false:=by unfold Qa1;rw [Qjd h _ hk];simp
theorem QpI {s:ByteArray} (h1:¬ s.size<1) (h2:¬ 40<s.size) (hl:Qg9 (bt s 0)=true) (ha:QgD s s.size=true):Qa1 s=true:=by
 unfold Qa1;rw [hl,ha,show decide (1<=s.size)=true from decide_eq_true (by omega),show decide (s.size<=40)=true from decide_eq_true (by omega)];rfl
theorem QeA {s:ByteArray} {k:Nat} (h:QgD s k=true) (hn:nmB (bt s k)=true):QgD s (k+1)=true:=by unfold QgD;rw [h,hn];rfl
theorem Qbn (s:ByteArray) (w:World) (hs:s.size<=maxLen) :
  Calls Tryz.prog 89 #[.string s] w fun e w'=>e=.returned (.bool (Qa1 s))/\w'=w:=by
 unfold maxLen at hs;have hbt:=get_bt s;by_cases h0:s.size<1
 ·have HN:Hid (Qa1 s=false):=(by unfold Qa1;rw [show decide (1<=s.size)=false from decide_eq_false (by omega)];rfl:Qa1 s=false)
  have hi:((s.size:Int)<1):=by omega
  go_enter Tryz.func89,Tryz.ntmps89;go_wp2;go_ret;exact ⟨QaF HN.out.symm,rfl⟩
 ·have hi:¬ ((s.size:Int)<1):=by omega
  by_cases h1:40<s.size
  ·have HN:Hid (Qa1 s=false):=(by unfold Qa1;rw [show decide (s.size<=40)=false from decide_eq_false (by omega)];simp:Qa1 s=false)
   have hj:(40:Int)<(s.size:Int):=by omega
   go_enter Tryz.func89,Tryz.ntmps89;go_wp2;go_ret;exact ⟨QaF HN.out.symm,rfl⟩
  ·have hj:¬ (40:Int)<(s.size:Int):=by omega
   go_enter Tryz.func89,Tryz.ntmps89;go_wp2
   go_loop [3,4] (fun i _=>∃ k:Nat,k<=s.size/\i=.int .i64 k/\QgD s k=true/\(k=0∨Qg9 (bt s 0)=true)) (fun i _=>s.size - (Go.RowKit.intOf i).toNat)
   case atStart=>exact ⟨0,ZZj _,rfl,rfl,.inl rfl⟩
   case round=>
    obtain ⟨k,hk,rfl,ha,hl⟩:=hrel;have HA:Hid (QgD s k=true):=ha;have HL:Hid (k=0∨Qg9 (bt s 0)=true):=hl;clear ha hl;by_cases hlt:k<s.size
    ·rcases Qno (bt s k) with ⟨c1,c2⟩ | ⟨hno,hrest⟩
     ·have HB:Hid (Qg9 (bt s k)=true):=Qpm c1 c2
      go_wp2
      go_round
      case rel=>exact ⟨k+1,by omega,by go_num,QeA HA.out (nmB_l HB.out),.inr (by rcases HL.out with rfl | h;exact HB.out;exact h)⟩
      case measure=>simp [Go.RowKit.intOf];omega
     ·have HB:Hid (Qg9 (bt s k)=false):=Qo8 hno
      rcases Nat.eq_zero_or_pos k with rfl | hpos
      ·clear hrest
       have g2:122<bt s 0->(decide (bt s 0<=122)=false/\97<=bt s 0):=fun h=>⟨ZZg (by omega),by omega⟩;rcases hno with hno | hno
       ·clear g2
        go_wp2;go_ret;exact ⟨QaF (Qk2 HB.out).symm,rfl⟩
       ·obtain ⟨g3,g4⟩:=g2 hno
        clear g2;go_wp2;go_ret;exact ⟨QaF (Qk2 HB.out).symm,rfl⟩
      ·have HL1:Hid (Qg9 (bt s 0)=true):=by rcases HL.out with h | h;omega;exact h
       have hk0:((k:Int) == 0)=false:=by simp;omega
       rcases hrest with ⟨d1,d2⟩ | he | he | ⟨hd,e1,e2⟩
       ·have HD:Hid (QmD (bt s k)=true):=Qpl d1 d2
        clear hno;go_wp2
        go_round
        case rel=>exact ⟨k+1,by omega,by go_num,QeA HA.out (nmB_d HD.out),.inr HL1.out⟩
        case measure=>simp [Go.RowKit.intOf];omega
       ·have HD:Hid (nmB (bt s k)=true):=(by rw [he];exact nmB_95:nmB (bt s k)=true)
        clear hno;go_wp2
        go_round
        case rel=>exact ⟨k+1,by omega,by go_num,QeA HA.out HD.out,.inr HL1.out⟩
        case measure=>simp [Go.RowKit.intOf];omega
       ·have HD:Hid (nmB (bt s k)=true):=(by rw [he];exact nmB_46:nmB (bt s k)=true)
        clear hno;go_wp2
        go_round
        case rel=>exact ⟨k+1,by omega,by go_num,QeA HA.out HD.out,.inr HL1.out⟩
        case measure=>simp [Go.RowKit.intOf];omega
       ·have HD:Hid (nmB (bt s k)=false):=nmB_n HB.out (Qpz hd) e1 e2
        have g1:(bt s k<97/\bt s k<48)∨(bt s k<97/\48<=bt s k/\decide (bt s k<=57)=false)∨(97<=bt s k/\decide (bt s k<=122)=false/\48<=bt s k/\decide (bt s k<=57)=false):=by
         simp only [decide_eq_false_iff_not];omega
        have n1:(bt s k != 95)=true:=by simpa using e1
        have n2:(bt s k != 46)=true:=by simpa using e2
        have n3:¬ bt s k=95:=by simpa using e1
        have n4:¬ bt s k=46:=by simpa using e2
        clear hno hd e1 e2;rcases g1 with ⟨g1,g2⟩ | ⟨g1,g2,g3⟩ | ⟨g1,g2,g3,g4⟩
        all_goals
         go_wp2;go_ret;exact ⟨QaF (Qqh hlt HD.out).symm,rfl⟩
    ·have e:k=s.size:=by omega
     have HB:Hid (Qa1 s=true):=by
      subst e;refine QpI h0 h1 ?_ HA.out;rcases HL.out with h | h
      ·omega
      ·exact h
     clear e;go_wp2;go_ret;exact ⟨QaF HB.out.symm,rfl⟩
def tgB (c:Int):Bool:=nmB c || c == 45 || c == 58
def QgA (s:ByteArray):Nat->Bool
 | 0=>true
 | n+1=>QgA s n && tgB (bt s n)
def QbB (s:ByteArray):Bool:=decide (1<=s.size) && decide (s.size<=20) && QgA s s.size
theorem QnL {s:ByteArray} {k:Nat} (h:tgB (bt s k)=false):∀ n,k<n->QgA s n=false
 | 0,hk=>by omega
 | n+1,hk=>by
  unfold QgA;by_cases e:k=n
  ·subst e;rw [h];simp
  ·rw [QnL h n (by omega)];simp
theorem QbS {s:ByteArray} {k:Nat} (h:QgA s k=true) (hn:tgB (bt s k)=true):QgA s (k+1)=true:=by unfold QgA;rw [h,hn];rfl
theorem Qo7 {s:ByteArray} {k:Nat} (hk:k<s.size) (h:tgB (bt s k)=false):QbB s=false:=by unfold QbB;rw [QnL h _ hk];simp
theorem QnP {s:ByteArray} (h:s.size<1):QbB s=false:=by unfold QbB;rw [show decide (1<=s.size)=false from decide_eq_false (by omega)];rfl
theorem Qmh {s:ByteArray} (h:20<s.size):QbB s=false:=by unfold QbB;rw [show decide (s.size<=20)=false from decide_eq_false (by omega)];simp
theorem Qpf {s:ByteArray} (h1:¬ s.size<1) (h2:¬ 20<s.size) (ha:QgA s s.size=true):QbB s=true:=by
 unfold QbB;rw [ha,show decide (1<=s.size)=true from decide_eq_true (by omega),show decide (s.size<=20)=true from decide_eq_true (by omega)];rfl
theorem tgB_45:tgB 45=true:=by decide
theorem Qpq:tgB 58=true:=by decide
theorem Qp5 {c:Int} (h:nmB c=true):tgB c=true:=by simp [tgB,h]
theorem tgB_f {c:Int} (h:nmB c=false) (a:c≠45) (b:c≠58):tgB c=false:=by simp [tgB,h,a,b]
theorem Qde (s:ByteArray) (w:World) (hs:s.size<=maxLen) :
  Calls Tryz.prog 123 #[.string s] w fun e w'=>e=.returned (.bool (QbB s))/\w'=w:=by
 unfold maxLen at hs;have hbt:=get_bt s;by_cases h0:s.size<1
 ·have HN:Hid (QbB s=false):=QnP h0
  have hi:((s.size:Int)<1):=by omega
  go_enter Tryz.func123,Tryz.ntmps123;go_wp2;go_ret;exact ⟨QaF HN.out.symm,rfl⟩
 ·by_cases h1:20<s.size
  ·have HN:Hid (QbB s=false):=Qmh h1
   have hi:¬ ((s.size:Int)<1):=by omega
   have hj:(20:Int)<(s.size:Int):=by omega
   go_enter Tryz.func123,Tryz.ntmps123;go_wp2;go_ret;exact ⟨QaF HN.out.symm,rfl⟩
  ·have hi:¬ ((s.size:Int)<1):=by omega
   have hj:¬ (20:Int)<(s.size:Int):=by omega
   go_enter Tryz.func123,Tryz.ntmps123;go_wp2
   go_loop [14,2] (fun i _=>∃ k:Nat,k<=s.size/\i=.int .i64 k/\QgA s k=true) (fun i _=>s.size - (Go.RowKit.intOf i).toNat)
   case atStart=>exact ⟨0,ZZj _,rfl,rfl⟩
   case round=>
    obtain ⟨k,hk,rfl,ha⟩:=hrel;have HA:Hid (QgA s k=true):=ha;clear ha;by_cases hlt:k<s.size
    ·cases hn:nmB (bt s k)
     ·by_cases e1:bt s k=45
      ·have HB:Hid (QgA s (k+1)=true):=QbS HA.out (by rw [e1];exact tgB_45)
       go_wp2_with (go_at_call 100;refine (Qb5 _ _).mono ?_;rintro e w1 ⟨rfl,rfl⟩)
       go_round
       case rel=>exact ⟨k+1,by omega,by go_num,HB.out⟩
       case measure=>simp [Go.RowKit.intOf];omega
      ·by_cases e2:bt s k=58
       ·have HB:Hid (QgA s (k+1)=true):=QbS HA.out (by rw [e2];exact Qpq)
        go_wp2_with (go_at_call 100;refine (Qb5 _ _).mono ?_;rintro e w1 ⟨rfl,rfl⟩)
        go_round
        case rel=>exact ⟨k+1,by omega,by go_num,HB.out⟩
        case measure=>simp [Go.RowKit.intOf];omega
       ·have HB:Hid (QbB s=false):=Qo7 hlt (tgB_f hn e1 e2)
        have n1:(bt s k != 45)=true:=by simpa using e1
        have n2:(bt s k != 58)=true:=by simpa using e2
        go_wp2_with (go_at_call 100;refine (Qb5 _ _).mono ?_;rintro e w1 ⟨rfl,rfl⟩);go_ret;exact ⟨QaF HB.out.symm,rfl⟩
     ·have HB:Hid (QgA s (k+1)=true):=QbS HA.out (Qp5 hn)
      go_wp2_with (go_at_call 100;refine (Qb5 _ _).mono ?_;rintro e w1 ⟨rfl,rfl⟩)
      go_round
      case rel=>exact ⟨k+1,by omega,by go_num,HB.out⟩
      case measure=>simp [Go.RowKit.intOf];omega
    ·have e:k=s.size:=by omega
     have HB:Hid (QbB s=true):=Qpf h0 h1 (by rw [<- e];exact HA.out);clear e;go_wp2;go_ret;exact ⟨QaF HB.out.symm,rfl⟩
theorem Qo0 (c:Int):(97<=c/\c<=122/\tgB c=true)∨((c<97∨122<c)/\((48<=c/\c<=58/\tgB c=true)∨(c=95/\tgB c=true)∨(c=46/\tgB c=true)∨(c=45/\tgB c=true)∨((c<48∨58<c)/\c≠95/\c≠46/\c≠45/\tgB c=false))):=by
 by_cases a:97<=c/\c<=122
 ·exact .inl ⟨a.1,a.2,Qp5 (nmB_l (Qpm a.1 a.2))⟩
 ·have hl:Qg9 c=false:=Qo8 (by omega)
  refine .inr ⟨by omega,?_⟩;by_cases b:48<=c/\c<=58
  ·refine .inl ⟨b.1,b.2,?_⟩
   by_cases b2:c=58
   ·rw [b2];exact Qpq
   ·exact Qp5 (nmB_d (Qpl b.1 (by omega)))
  ·by_cases d:c=95
   ·exact .inr (.inl ⟨d,by rw [d];decide⟩)
   ·by_cases e:c=46
    ·exact .inr (.inr (.inl ⟨e,by rw [e];decide⟩))
    ·by_cases f:c=45
     ·exact .inr (.inr (.inr (.inl ⟨f,by rw [f];decide⟩)))
     ·exact .inr (.inr (.inr (.inr ⟨by omega,d,e,f,tgB_f (nmB_n hl (Qpz (by omega)) (by simpa using d) (by simpa using e)) f (by omega)⟩)))
theorem QbT (s:ByteArray) (w:World) (hs:s.size<=maxLen) :
  Calls Tryz.prog 92 #[.string s] w fun e w'=>e=.returned (.bool (QbB s))/\w'=w:=by
 unfold maxLen at hs;have hbt:=get_bt s;go_enter Tryz.func92,Tryz.ntmps92;go_wp2
 go_loop [3,4] (fun i _=>∃ k:Nat,k<=s.size/\i=.int .i64 k/\QgA s k=true) (fun i _=>s.size - (Go.RowKit.intOf i).toNat)
 case atStart=>exact ⟨0,ZZj _,rfl,rfl⟩
 case round=>
  obtain ⟨k,hk,rfl,ha⟩:=hrel;have HA:Hid (QgA s k=true):=ha;clear ha;by_cases hlt:k<s.size
  ·rcases Qo0 (bt s k) with ⟨c1,c2,hn⟩ | ⟨hno,hrest⟩
   ·have HB:Hid (QgA s (k+1)=true):=QbS HA.out hn
    clear hn;go_wp2
    go_round
    case rel=>exact ⟨k+1,by omega,by go_num,HB.out⟩
    case measure=>simp [Go.RowKit.intOf];omega
   ·rcases hrest with ⟨d1,d2,hn⟩ | ⟨he,hn⟩ | ⟨he,hn⟩ | ⟨he,hn⟩ | ⟨hd,e1,e2,e3,hn⟩
    ·have HB:Hid (QgA s (k+1)=true):=QbS HA.out hn
     clear hn hno;go_wp2
     go_round
     case rel=>exact ⟨k+1,by omega,by go_num,HB.out⟩
     case measure=>simp [Go.RowKit.intOf];omega
    ·have HB:Hid (QgA s (k+1)=true):=QbS HA.out hn
     clear hn hno;go_wp2
     go_round
     case rel=>exact ⟨k+1,by omega,by go_num,HB.out⟩
     case measure=>simp [Go.RowKit.intOf];omega
    ·have HB:Hid (QgA s (k+1)=true):=QbS HA.out hn
     clear hn hno;go_wp2
     go_round
     case rel=>exact ⟨k+1,by omega,by go_num,HB.out⟩
     case measure=>simp [Go.RowKit.intOf];omega
    ·have HB:Hid (QgA s (k+1)=true):=QbS HA.out hn
     clear hn hno;go_wp2
     go_round
     case rel=>exact ⟨k+1,by omega,by go_num,HB.out⟩
     case measure=>simp [Go.RowKit.intOf];omega
    ·have HD:Hid (QbB s=false):=Qo7 hlt hn
     have g1:(bt s k<97/\bt s k<48)∨(bt s k<97/\48<=bt s k/\decide (bt s k<=58)=false)∨(97<=bt s k/\decide (bt s k<=122)=false/\48<=bt s k/\decide (bt s k<=58)=false):=by
      simp only [decide_eq_false_iff_not];omega
     have n3:¬ bt s k=95:=e1;have n4:¬ bt s k=46:=e2;have n5:¬ bt s k=45:=e3;have m1:(bt s k == 95)=false:=by simpa using e1
     have m2:(bt s k == 46)=false:=by simpa using e2
     have m3:(bt s k == 45)=false:=by simpa using e3
     clear hno hd hn e1 e2 e3;rcases g1 with ⟨g1,g2⟩ | ⟨g1,g2,g3⟩ | ⟨g1,g2,g3,g4⟩
     all_goals
      go_wp2;go_ret;exact ⟨QaF HD.out.symm,rfl⟩
  ·have e:k=s.size:=by omega
   by_cases h0:s.size<1
   ·have HB:Hid (QbB s=false):=QnP h0
    have hi:¬ (1:Int)<=(s.size:Int):=by omega
    clear e;go_wp2;go_ret;exact ⟨QaF HB.out.symm,rfl⟩
   ·have hi:(1:Int)<=(s.size:Int):=by omega
    by_cases h1:20<s.size
    ·have HB:Hid (QbB s=false):=Qmh h1
     have hj:¬ (s.size:Int)<=20:=by omega
     clear e;go_wp2;go_ret;exact ⟨QaF HB.out.symm,rfl⟩
    ·have HB:Hid (QbB s=true):=Qpf h0 h1 (by rw [<- e];exact HA.out)
     have hj:(s.size:Int)<=20:=by omega
     clear e;go_wp2;go_ret;exact ⟨QaF HB.out.symm,rfl⟩
set_option maxRecDepth 10000
def OwnT (w:World) (B:Nat) (v:Value) (L:List ByteArray):Prop:=w.ownsRow B 9 1 v L.length (L.map Value.string)
theorem OwnT.at {w:World} {B n c:Nat} {ao:Option Addr} {L:List ByteArray} (h:OwnT w B (.slice ao n c) L):Qa2 w ao L:=fun h0=>by
 rcases h.2 with ⟨e,h1⟩ | ⟨g,cap,cur,e,_⟩
 ·omega
 ·cases e
  exact Qhl h h0
theorem OwnT.cap {w:World} {B n c:Nat} {ao:Option Addr} {L:List ByteArray} (h:OwnT w B (.slice ao n c) L):n=L.length/\n<=c/\c<=maxLen/\(ao=none->c=0):=by
 rcases h.2 with ⟨e,h1⟩ | ⟨g,cap,cur,e,_,_,h2,h3,_⟩
 ·cases e;exact ⟨h1.symm,ZZa _,ZZj _,fun _=>rfl⟩
 ·cases e;exact ⟨rfl,h2,h3,fun e=>by cases e⟩
theorem Qcd {w:World} {A:Addr} {L:List ByteArray} (h:Qa2 w (some A) L):∀ j u,(L.map Value.string)[j]?=some u->w.cell? (A.add j)=some u:=fun j u hj=>by
 rw [List.getElem?_map] at hj
 cases hx:L[j]? with
 | none=>rw [hx] at hj;cases hj
 | some x=>
  rw [hx] at hj;obtain rfl:=Option.some.inj hj;obtain ⟨b,off,e,hc⟩:=h (by have:=(ZZd.1 hx).1;omega)
  cases e
  have:=hc j x hx
  rwa [show (⟨b,off,none⟩:Addr).add j=⟨b,off+j,none⟩ from by unfold Addr.add;split <;> simp_all]
theorem Qdb {w:World} {ao:Option Addr} {L:List ByteArray} (k:Nat) (h:Qa2 w ao L):Qa2 w ao (L.take k):=fun h0=>by
 obtain ⟨b',off',e,hc⟩:=h (by rw [List.length_take] at h0;omega);exact ⟨b',off',e,fun i x hx=>hc i x (by rw [List.getElem?_take] at hx;split at hx;exact hx;cases hx)⟩
theorem Qir {w:World} {b off:Nat} {L:List ByteArray} (k:Nat) (h:Qa2 w (some ⟨b,off,none⟩) L):Qa2 w (some ⟨b,off+k,none⟩) (L.drop k):=fun h0=>by
 obtain ⟨b',off',e,hc⟩:=h (by rw [List.length_drop] at h0;omega)
 cases e
 exact ⟨b,off+k,rfl,fun i x hx=>by
  rw [List.getElem?_drop] at hx;have:=hc (k+i) x hx
  rwa [Nat.add_assoc]⟩
theorem QaV (L:List ByteArray):∀ u∈L.map Value.string,u.oneCell'=true:=fun u hu=>by
 obtain ⟨x,_,rfl⟩:=List.mem_map.1 hu;rfl
def QgX (L:List ByteArray) (p:ByteArray) (k:Nat):Prop:=k<=L.length/\(∀ (t:Nat) (x:ByteArray),L[t]?=some x->t<k->QaZ x p=true)/\∀ x,L[k]?=some x->QaZ x p=false
theorem Qgd {y:ByteArray} {r:List ByteArray} {p:ByteArray} {k:Nat} (h:QgX (y :: r) p (k+1)):QgX r p k:=
 ⟨by have:=h.1;simp at this;exact this,fun t x hx ht=>h.2.1 (t+1) x (by simpa using hx) (by omega),fun x hx=>h.2.2 x (by simpa using hx)⟩
theorem Qnp {a:ByteArray}:∀ (L:List ByteArray) (k:Nat),QgX L a k->L[k]?=some a->QeP L a=L.take k ++ [a] ++ L.drop (k+1)
 | [],k,_,h=>by simp at h
 | y :: r,0,hp,h=>by
  obtain rfl:y=a:=by simpa using h
  have:QaZ y y=false:=QeE y;simp [QeP,this]
 | y :: r,k+1,hp,h=>by
  have hy:=hp.2.1 0 y rfl (by omega);rw [QeP,if_pos hy,Qnp r k (Qgd hp) (by simpa using h)];simp
theorem QhT {a:ByteArray}:∀ (L:List ByteArray) (k:Nat),QgX L a k->(∀ x,L[k]?=some x->x≠a)->QeP L a=L.take k ++ [a] ++ L.drop k
 | [],k,hp,h=>by have:=hp.1;simp at this;subst this;rfl
 | y :: r,0,hp,h=>by
  have hy:=hp.2.2 y rfl;have hne:y≠a:=h y rfl;rw [QeP,if_neg (by rw [hy];decide),if_neg hne];rfl
 | y :: r,k+1,hp,h=>by
  have hy:=hp.2.1 0 y rfl (by omega);rw [QeP,if_pos hy,QhT r k (Qgd hp) (fun x hx=>h x (by simpa using hx))];simp
theorem OwnT.of {w:World} {B n:Nat} {v:Value} {L:List ByteArray} {xs:List Value} (h:w.ownsRow B 9 1 v n xs) (e:xs=L.map Value.string):OwnT w B v L:=by
 have hl:=h.1;subst e;rw [List.length_map,Nat.mul_one] at hl;unfold OwnT;rw [hl];exact h
theorem Qko {w:World} {B:Nat} {v:Value} {L:List ByteArray} (h:OwnT w B v L):∃ ao c,v=.slice ao L.length c:=Qam h
theorem QlG {w:World} {n c:Nat} {ao:Option Addr} {L:List ByteArray} (a:ByteArray) (hn:L.length=n) (hl:n<=100000) (hcap:n<=c) (hcm:c<=maxLen) (hno:ao=none->c=0) (hA:Qa2 w ao L) :
  Calls Tryz.prog 186 #[.slice ao n c,.string a] w fun e w'=>∃ v,e=.returned v/\OwnT w' w.heap.size v (QeP L a)/\Below w.heap.size w w':=by
 obtain ⟨i0,hi,hz0,hz1,hz2⟩:=info_parts QnK;have hls:=QqG 9;have HA:=Qaa hA;have HN:=Qaa hn;have HNo:=Qaa hno;unfold maxLen at hcm;clear hA hn hno;go_enter Tryz.func186,Tryz.ntmps186;go_wp2
 go_loop [5] (fun i=>∃ k:Nat,k<=n/\i=.int .i64 k/\Hid (∀ (t:Nat) (x:ByteArray),L[t]?=some x->t<k->QaZ x a=true)) (fun i=>n - (Go.RowKit.intOf i).toNat)
 case atStart=>exact ⟨0,ZZj _,rfl,(fun t x _ h=>absurd h (by omega):∀ (t:Nat) (x:ByteArray),L[t]?=some x->t<0->QaZ x a=true)⟩
 case round=>
  obtain ⟨k,hk,rfl,HF⟩:=hrel
  have hrest:k<n->∃ b off y,ao=some ⟨b,off,none⟩/\L[k]?=some y/\w.cell? ⟨b,off+k,none⟩=some (.string y):=fun h=>by
   obtain ⟨b,off,e,hcell⟩:=HA.out (by have:=HN.out;omega);obtain ⟨y,hy⟩:∃ y,L[k]?=some y:=⟨L[k]'(by have:=HN.out;omega),ZZe _⟩;exact ⟨b,off,y,e,hy,hcell k y hy⟩
  by_cases hkn:k<n
  ·obtain ⟨b,off,q,rfl,hRk,hc0⟩:=hrest hkn
   cases hlt:QaZ q a with
   | true=>
    have HF2:Hid (∀ (t:Nat) (x:ByteArray),L[t]?=some x->t<k+1->QaZ x a=true):=(fun t z hz ht=>by
     by_cases e:t=k
     ·subst e;rw [hRk] at hz;obtain rfl:=Option.some.inj hz;exact hlt
     ·exact HF.out t z hz (by omega):∀ (t:Nat) (x:ByteArray),L[t]?=some x->t<k+1->QaZ x a=true)
    clear hRk hrest;go_wp2
    go_round
    case rel=>exact ⟨k+1,by omega,by go_num,HF2⟩
    case measure=>simp [Go.RowKit.intOf];omega
   | false=>
    have HK:Hid (QgX L a k):=(⟨by have:=HN.out;omega,HF.out,fun z hz=>by rw [hRk] at hz;obtain rfl:=Option.some.inj hz;exact hlt⟩:QgX L a k);have HRk:=Qaa hRk;clear hRk hrest HF
    cases heq:(q.toList == a.toList) with
    | true=>
     have heq2:a=q:=(QjG heq).symm;subst heq2;have hw1:IntKind.i64.wrap ((k:Int)+1)=(k:Int)+1:=by rw [IntKind.wrap_i64];omega
     have htn:((k:Int)+1).toNat=k+1:=by omega
     have hb1:(0:Int)<=(k:Int)+1:=by omega
     have hb3:(k:Int)+1<=(n:Int):=by omega
     have HE:Hid (QeP L a=L.take k ++ [a] ++ L.drop (k+1)):=Qnp L k HK.out HRk.out;by_cases hce:c=k+1
     ·subst hce
      have hn1:n=k+1:=by omega
      have hn0:k+1 - (k+1)=0:=by omega
      subst hn1
      go_wp2_with (first
       | (at_builtin;refine Qaf _ rfl (.tmp 21) (.tmp 24) 119 rfl w.heap.size 9 i0 (.string ByteArray.empty) 1 16 Tryz.underlying119 hi hz0 hz1 hz2 rfl (by decide) _ _ _ rfl (World.ownsRow_made _ #[] 0 (Nat.le_refl _) (Nat.zero_le _) rfl) (some ⟨b,off,none⟩) k (k+1) ((L.take k).map Value.string) rfl (by rw [List.length_map,List.length_take];have:=HN.out;omega) (fun e=>by cases e) (fun A e=>by cases e;exact Qcd (QbC (Qdb _ HA.out) ((Below.refl _ _).alloc (Nat.le_refl _) _))) (QaV _) (by unfold maxLen;omega) (by omega) (by simp) ?_;intro v1 w1 hown hgrow hnil;simp only [Nat.zero_add,List.nil_append] at hown;obtain ⟨ao1,c1,rfl⟩:=Qam hown;have O1:=Qaa hown;have B1:=Qaa (((Below.refl w.heap.size w).alloc (Nat.le_refl _) _).grown hgrow (by simp) (fun j hj=>by cases hj;exact Nat.le_refl _));have y0:=Qab B1.out hc0;clear hown hgrow hnil)
       | (at_builtin;refine wpList_append_own _ rfl (.tmp 26) (.tmp 28) 119 rfl w.heap.size 9 i0 (.string ByteArray.empty) 1 16 Tryz.underlying119 hi hz0 hz1 hz2 rfl (by decide) _ _ _ rfl (QaP O1.out ((Below.refl _ _).alloc (Nat.le_refl _) _)) ⟨w1.heap.size,0,none⟩ 1 1 [.string a] rfl rfl (QaM (cs:=#[.string a]) rfl) (QaV [a]) (by unfold maxLen;omega) (by omega) (by simp;have:=B1.out.size;omega) ?_;intro v2 w2 hown hgrow hnil;obtain ⟨ao2,c2,rfl⟩:=Qam hown;have O2:=Qaa hown;have B2:=Qaa ((B1.out.alloc B1.out.size _).grown hgrow (by simp;have:=B1.out.size;omega) (fun j hj=>(O1.out.lt j hj).1));have y2:=Qab B2.out hc0;clear hown hgrow hnil)
       | (at_builtin;refine Qaf _ rfl (.tmp 44) (.tmp 47) 119 rfl w.heap.size 9 i0 (.string ByteArray.empty) 1 16 Tryz.underlying119 hi hz0 hz1 hz2 rfl (by decide) _ _ _ rfl O2.out (some ⟨b,off,none⟩) 0 0 [] rfl rfl (fun e=>by cases e) (fun A _ j z hz=>by simp at hz) (by first | exact QaV _ | exact fun u hu=>absurd hu List.not_mem_nil) (by unfold maxLen;omega) (by omega) (by have:=B2.out.size;omega) ?_;intro v3 w3 hown hgrow hnil;obtain ⟨ao3,c3,rfl⟩:=Qam hown;have O3:=Qaa hown;have B3:=Qaa (B2.out.grown hgrow B2.out.size (fun j hj=>(O2.out.lt j hj).1));clear hown hgrow hnil))
      all_goals
       go_ret;refine ⟨_,rfl,OwnT.of O3.out ?_,B3.out⟩;rw [HE.out]
       try rw [List.drop_eq_nil_of_le (by have:=HN.out;omega)]
       simp
     ·skip
      go_wp2_with (first
       | (at_builtin;refine Qaf _ rfl (.tmp 21) (.tmp 24) 119 rfl w.heap.size 9 i0 (.string ByteArray.empty) 1 16 Tryz.underlying119 hi hz0 hz1 hz2 rfl (by decide) _ _ _ rfl (World.ownsRow_made _ #[] 0 (Nat.le_refl _) (Nat.zero_le _) rfl) (some ⟨b,off,none⟩) k c ((L.take k).map Value.string) rfl (by rw [List.length_map,List.length_take];have:=HN.out;omega) (fun e=>by cases e) (fun A e=>by cases e;exact Qcd (QbC (Qdb _ HA.out) ((Below.refl _ _).alloc (Nat.le_refl _) _))) (QaV _) (by unfold maxLen;omega) (by omega) (by simp) ?_;intro v1 w1 hown hgrow hnil;simp only [Nat.zero_add,List.nil_append] at hown;obtain ⟨ao1,c1,rfl⟩:=Qam hown;have O1:=Qaa hown;have B1:=Qaa (((Below.refl w.heap.size w).alloc (Nat.le_refl _) _).grown hgrow (by simp) (fun j hj=>by cases hj;exact Nat.le_refl _));have y0:=Qab B1.out hc0;clear hown hgrow hnil)
       | (at_builtin;refine wpList_append_own _ rfl (.tmp 26) (.tmp 28) 119 rfl w.heap.size 9 i0 (.string ByteArray.empty) 1 16 Tryz.underlying119 hi hz0 hz1 hz2 rfl (by decide) _ _ _ rfl (QaP O1.out ((Below.refl _ _).alloc (Nat.le_refl _) _)) ⟨w1.heap.size,0,none⟩ 1 1 [.string a] rfl rfl (QaM (cs:=#[.string a]) rfl) (QaV [a]) (by unfold maxLen;omega) (by omega) (by simp;have:=B1.out.size;omega) ?_;intro v2 w2 hown hgrow hnil;obtain ⟨ao2,c2,rfl⟩:=Qam hown;have O2:=Qaa hown;have B2:=Qaa ((B1.out.alloc B1.out.size _).grown hgrow (by simp;have:=B1.out.size;omega) (fun j hj=>(O1.out.lt j hj).1));have y2:=Qab B2.out hc0;clear hown hgrow hnil)
       | (at_builtin;refine Qaf _ rfl (.tmp 44) (.tmp 47) 119 rfl w.heap.size 9 i0 (.string ByteArray.empty) 1 16 Tryz.underlying119 hi hz0 hz1 hz2 rfl (by decide) _ _ _ rfl O2.out (some ⟨b,off+(k+1),none⟩) (n - (k+1)) (c - (k+1)) ((L.drop (k+1)).map Value.string) rfl (by rw [List.length_map,List.length_drop];have:=HN.out;omega) (fun e=>by cases e) (fun A e=>by cases e;exact Qcd (QbC (Qir (k+1) HA.out) B2.out)) (by first | exact QaV _ | exact fun u hu=>absurd hu List.not_mem_nil) (by unfold maxLen;omega) (by omega) (by have:=B2.out.size;omega) ?_;intro v3 w3 hown hgrow hnil;obtain ⟨ao3,c3,rfl⟩:=Qam hown;have O3:=Qaa hown;have B3:=Qaa (B2.out.grown hgrow B2.out.size (fun j hj=>(O2.out.lt j hj).1));clear hown hgrow hnil))
      all_goals
       go_ret;refine ⟨_,rfl,OwnT.of O3.out ?_,B3.out⟩;rw [HE.out]
       try rw [List.drop_eq_nil_of_le (by have:=HN.out;omega)]
       simp
    | false=>
     have hne:∀ z,L[k]?=some z->z≠a:=fun z hz e=>by
      rw [HRk.out] at hz;obtain rfl:=Option.some.inj hz;subst e;simp at heq
     have HE:Hid (QeP L a=L.take k ++ [a] ++ L.drop k):=QhT L k HK.out hne;clear hne;have hck:¬ (c=k):=by omega
     go_wp2_with (first
      | (at_builtin;refine Qaf _ rfl (.tmp 21) (.tmp 24) 119 rfl w.heap.size 9 i0 (.string ByteArray.empty) 1 16 Tryz.underlying119 hi hz0 hz1 hz2 rfl (by decide) _ _ _ rfl (World.ownsRow_made _ #[] 0 (Nat.le_refl _) (Nat.zero_le _) rfl) (some ⟨b,off,none⟩) k c ((L.take k).map Value.string) rfl (by rw [List.length_map,List.length_take];have:=HN.out;omega) (fun e=>by cases e) (fun A e=>by cases e;exact Qcd (QbC (Qdb _ HA.out) ((Below.refl _ _).alloc (Nat.le_refl _) _))) (QaV _) (by unfold maxLen;omega) (by omega) (by simp) ?_;intro v1 w1 hown hgrow hnil;simp only [Nat.zero_add,List.nil_append] at hown;obtain ⟨ao1,c1,rfl⟩:=Qam hown;have O1:=Qaa hown;have B1:=Qaa (((Below.refl w.heap.size w).alloc (Nat.le_refl _) _).grown hgrow (by simp) (fun j hj=>by cases hj;exact Nat.le_refl _));have y0:=Qab B1.out hc0;clear hown hgrow hnil)
      | (at_builtin;refine wpList_append_own _ rfl (.tmp 26) (.tmp 28) 119 rfl w.heap.size 9 i0 (.string ByteArray.empty) 1 16 Tryz.underlying119 hi hz0 hz1 hz2 rfl (by decide) _ _ _ rfl (QaP O1.out ((Below.refl _ _).alloc (Nat.le_refl _) _)) ⟨w1.heap.size,0,none⟩ 1 1 [.string a] rfl rfl (QaM (cs:=#[.string a]) rfl) (QaV [a]) (by unfold maxLen;omega) (by omega) (by simp;have:=B1.out.size;omega) ?_;intro v2 w2 hown hgrow hnil;obtain ⟨ao2,c2,rfl⟩:=Qam hown;have O2:=Qaa hown;have B2:=Qaa ((B1.out.alloc B1.out.size _).grown hgrow (by simp;have:=B1.out.size;omega) (fun j hj=>(O1.out.lt j hj).1));have y2:=Qab B2.out hc0;clear hown hgrow hnil)
      | (at_builtin;refine Qaf _ rfl (.tmp 44) (.tmp 47) 119 rfl w.heap.size 9 i0 (.string ByteArray.empty) 1 16 Tryz.underlying119 hi hz0 hz1 hz2 rfl (by decide) _ _ _ rfl O2.out (some ⟨b,off+k,none⟩) (n - k) (c - k) ((L.drop k).map Value.string) rfl (by rw [List.length_map,List.length_drop];have:=HN.out;omega) (fun e=>by cases e) (fun A e=>by cases e;exact Qcd (QbC (Qir k HA.out) B2.out)) (by first | exact QaV _ | exact fun u hu=>absurd hu List.not_mem_nil) (by unfold maxLen;omega) (by omega) (by have:=B2.out.size;omega) ?_;intro v3 w3 hown hgrow hnil;obtain ⟨ao3,c3,rfl⟩:=Qam hown;have O3:=Qaa hown;have B3:=Qaa (B2.out.grown hgrow B2.out.size (fun j hj=>(O2.out.lt j hj).1));clear hown hgrow hnil))
     all_goals
      go_ret;refine ⟨_,rfl,OwnT.of O3.out ?_,B3.out⟩;rw [HE.out]
      try rw [List.drop_eq_nil_of_le (by have:=HN.out;omega)]
      simp
  ·have hkn2:k=n:=by omega
   subst hkn2;have HE:Hid (QeP L a=L.take k ++ [a] ++ L.drop k):=QhT L k ⟨by have:=HN.out;omega,HF.out,fun z hz=>absurd (ZZd.1 hz).1 (by have:=HN.out;omega)⟩ (fun z hz=>absurd (ZZd.1 hz).1 (by have:=HN.out;omega));clear hrest HF
   cases ao with
   | none=>
    have h0:c=0:=HNo.out rfl;subst h0;have hk0:k=0:=by omega
    subst hk0
    go_wp2_with (first
     | (at_builtin;refine Qaf _ rfl (.tmp 21) (.tmp 24) 119 rfl w.heap.size 9 i0 (.string ByteArray.empty) 1 16 Tryz.underlying119 hi hz0 hz1 hz2 rfl (by decide) _ _ _ rfl (World.ownsRow_made _ #[] 0 (Nat.le_refl _) (Nat.zero_le _) rfl) none 0 0 ((L.take 0).map Value.string) rfl (by rw [List.length_map,List.length_take];have:=HN.out;omega) (fun e=>⟨rfl,rfl⟩) (fun A e=>by cases e) (QaV _) (by unfold maxLen;omega) (by omega) (by simp) ?_;intro v1 w1 hown hgrow hnil;simp only [Nat.zero_add,List.nil_append] at hown;obtain ⟨ao1,c1,rfl⟩:=Qam hown;have O1:=Qaa hown;have B1:=Qaa (((Below.refl w.heap.size w).alloc (Nat.le_refl _) _).grown hgrow (by simp) (fun j hj=>by cases hj;exact Nat.le_refl _));clear hown hgrow hnil)
     | (at_builtin;refine wpList_append_own _ rfl (.tmp 26) (.tmp 28) 119 rfl w.heap.size 9 i0 (.string ByteArray.empty) 1 16 Tryz.underlying119 hi hz0 hz1 hz2 rfl (by decide) _ _ _ rfl (QaP O1.out ((Below.refl _ _).alloc (Nat.le_refl _) _)) ⟨w1.heap.size,0,none⟩ 1 1 [.string a] rfl rfl (QaM (cs:=#[.string a]) rfl) (QaV [a]) (by unfold maxLen;omega) (by omega) (by simp;have:=B1.out.size;omega) ?_;intro v2 w2 hown hgrow hnil;obtain ⟨ao2,c2,rfl⟩:=Qam hown;have O2:=Qaa hown;have B2:=Qaa ((B1.out.alloc B1.out.size _).grown hgrow (by simp;have:=B1.out.size;omega) (fun j hj=>(O1.out.lt j hj).1));clear hown hgrow hnil)
     | (at_builtin;refine Qaf _ rfl (.tmp 44) (.tmp 47) 119 rfl w.heap.size 9 i0 (.string ByteArray.empty) 1 16 Tryz.underlying119 hi hz0 hz1 hz2 rfl (by decide) _ _ _ rfl O2.out none 0 0 [] rfl rfl (fun e=>⟨rfl,rfl⟩) (fun A e=>by cases e) (by first | exact QaV _ | exact fun u hu=>absurd hu List.not_mem_nil) (by unfold maxLen;omega) (by omega) (by have:=B2.out.size;omega) ?_;intro v3 w3 hown hgrow hnil;obtain ⟨ao3,c3,rfl⟩:=Qam hown;have O3:=Qaa hown;have B3:=Qaa (B2.out.grown hgrow B2.out.size (fun j hj=>(O2.out.lt j hj).1));clear hown hgrow hnil))
    all_goals
     go_ret;refine ⟨_,rfl,OwnT.of O3.out ?_,B3.out⟩;rw [HE.out]
     try rw [List.drop_eq_nil_of_le (by have:=HN.out;omega)]
     simp
   | some A=>
    by_cases hck:c=k
    ·subst hck
     go_wp2_with (first
      | (at_builtin;refine Qaf _ rfl (.tmp 21) (.tmp 24) 119 rfl w.heap.size 9 i0 (.string ByteArray.empty) 1 16 Tryz.underlying119 hi hz0 hz1 hz2 rfl (by decide) _ _ _ rfl (World.ownsRow_made _ #[] 0 (Nat.le_refl _) (Nat.zero_le _) rfl) (some A) c c ((L.take c).map Value.string) rfl (by rw [List.length_map,List.length_take];have:=HN.out;omega) (fun e=>by cases e) (fun A e=>by cases e;exact Qcd (QbC (Qdb _ HA.out) ((Below.refl _ _).alloc (Nat.le_refl _) _))) (QaV _) (by unfold maxLen;omega) (by omega) (by simp) ?_;intro v1 w1 hown hgrow hnil;simp only [Nat.zero_add,List.nil_append] at hown;obtain ⟨ao1,c1,rfl⟩:=Qam hown;have O1:=Qaa hown;have B1:=Qaa (((Below.refl w.heap.size w).alloc (Nat.le_refl _) _).grown hgrow (by simp) (fun j hj=>by cases hj;exact Nat.le_refl _));clear hown hgrow hnil)
      | (at_builtin;refine wpList_append_own _ rfl (.tmp 26) (.tmp 28) 119 rfl w.heap.size 9 i0 (.string ByteArray.empty) 1 16 Tryz.underlying119 hi hz0 hz1 hz2 rfl (by decide) _ _ _ rfl (QaP O1.out ((Below.refl _ _).alloc (Nat.le_refl _) _)) ⟨w1.heap.size,0,none⟩ 1 1 [.string a] rfl rfl (QaM (cs:=#[.string a]) rfl) (QaV [a]) (by unfold maxLen;omega) (by omega) (by simp;have:=B1.out.size;omega) ?_;intro v2 w2 hown hgrow hnil;obtain ⟨ao2,c2,rfl⟩:=Qam hown;have O2:=Qaa hown;have B2:=Qaa ((B1.out.alloc B1.out.size _).grown hgrow (by simp;have:=B1.out.size;omega) (fun j hj=>(O1.out.lt j hj).1));clear hown hgrow hnil)
      | (at_builtin;refine Qaf _ rfl (.tmp 44) (.tmp 47) 119 rfl w.heap.size 9 i0 (.string ByteArray.empty) 1 16 Tryz.underlying119 hi hz0 hz1 hz2 rfl (by decide) _ _ _ rfl O2.out _ 0 _ [] rfl rfl (fun e=>by cases e) (fun A _ j z hz=>by simp at hz) (by first | exact QaV _ | exact fun u hu=>absurd hu List.not_mem_nil) (by unfold maxLen;omega) (by omega) (by have:=B2.out.size;omega) ?_;intro v3 w3 hown hgrow hnil;obtain ⟨ao3,c3,rfl⟩:=Qam hown;have O3:=Qaa hown;have B3:=Qaa (B2.out.grown hgrow B2.out.size (fun j hj=>(O2.out.lt j hj).1));clear hown hgrow hnil))
     all_goals
      go_ret;refine ⟨_,rfl,OwnT.of O3.out ?_,B3.out⟩;rw [HE.out]
      try rw [List.drop_eq_nil_of_le (by have:=HN.out;omega)]
      simp
    ·skip
     go_wp2_with (first
      | (at_builtin;refine Qaf _ rfl (.tmp 21) (.tmp 24) 119 rfl w.heap.size 9 i0 (.string ByteArray.empty) 1 16 Tryz.underlying119 hi hz0 hz1 hz2 rfl (by decide) _ _ _ rfl (World.ownsRow_made _ #[] 0 (Nat.le_refl _) (Nat.zero_le _) rfl) (some A) k c ((L.take k).map Value.string) rfl (by rw [List.length_map,List.length_take];have:=HN.out;omega) (fun e=>by cases e) (fun A e=>by cases e;exact Qcd (QbC (Qdb _ HA.out) ((Below.refl _ _).alloc (Nat.le_refl _) _))) (QaV _) (by unfold maxLen;omega) (by omega) (by simp) ?_;intro v1 w1 hown hgrow hnil;simp only [Nat.zero_add,List.nil_append] at hown;obtain ⟨ao1,c1,rfl⟩:=Qam hown;have O1:=Qaa hown;have B1:=Qaa (((Below.refl w.heap.size w).alloc (Nat.le_refl _) _).grown hgrow (by simp) (fun j hj=>by cases hj;exact Nat.le_refl _));clear hown hgrow hnil)
      | (at_builtin;refine wpList_append_own _ rfl (.tmp 26) (.tmp 28) 119 rfl w.heap.size 9 i0 (.string ByteArray.empty) 1 16 Tryz.underlying119 hi hz0 hz1 hz2 rfl (by decide) _ _ _ rfl (QaP O1.out ((Below.refl _ _).alloc (Nat.le_refl _) _)) ⟨w1.heap.size,0,none⟩ 1 1 [.string a] rfl rfl (QaM (cs:=#[.string a]) rfl) (QaV [a]) (by unfold maxLen;omega) (by omega) (by simp;have:=B1.out.size;omega) ?_;intro v2 w2 hown hgrow hnil;obtain ⟨ao2,c2,rfl⟩:=Qam hown;have O2:=Qaa hown;have B2:=Qaa ((B1.out.alloc B1.out.size _).grown hgrow (by simp;have:=B1.out.size;omega) (fun j hj=>(O1.out.lt j hj).1));clear hown hgrow hnil)
      | (at_builtin;refine Qaf _ rfl (.tmp 44) (.tmp 47) 119 rfl w.heap.size 9 i0 (.string ByteArray.empty) 1 16 Tryz.underlying119 hi hz0 hz1 hz2 rfl (by decide) _ _ _ rfl O2.out _ 0 _ [] rfl rfl (fun e=>by cases e) (fun A _ j z hz=>by simp at hz) (by first | exact QaV _ | exact fun u hu=>absurd hu List.not_mem_nil) (by unfold maxLen;omega) (by omega) (by have:=B2.out.size;omega) ?_;intro v3 w3 hown hgrow hnil;obtain ⟨ao3,c3,rfl⟩:=Qam hown;have O3:=Qaa hown;have B3:=Qaa (B2.out.grown hgrow B2.out.size (fun j hj=>(O2.out.lt j hj).1));clear hown hgrow hnil))
     all_goals
      go_ret;refine ⟨_,rfl,OwnT.of O3.out ?_,B3.out⟩;rw [HE.out]
      try rw [List.drop_eq_nil_of_le (by have:=HN.out;omega)]
      simp
theorem Qcu {a b:ByteArray} {x y:List UInt8} (ha:a=⟨x.toArray⟩) (hb:b=⟨y.toArray⟩) (h:x.length+y.length<=1000000):Op.stringOp .add a b=pure (.string ⟨(x ++ y).toArray⟩):=by
 subst ha;subst hb;unfold Op.stringOp;have e1:(⟨x.toArray⟩:ByteArray).size=x.length:=by rw [<- QaC,Qcc]
 have e2:(⟨y.toArray⟩:ByteArray).size=y.length:=by rw [<- QaC,Qcc]
 have:¬ ((((⟨x.toArray⟩:ByteArray).size+(⟨y.toArray⟩:ByteArray).size:Nat):Int) > IntKind.i64.max):=by
  have e:IntKind.i64.max=9223372036854775807:=by decide
  rw [e,e1,e2];omega
 simp only [if_neg this,mk_app]
theorem Qnc {w:World} {B B' size n:Nat} {e:TypeId} {v:Value} {xs:List Value} (h:w.ownsRow B e size v n xs) (hb:B'<=B):w.ownsRow B' e size v n xs:=by
 refine ⟨h.1,?_⟩;rcases h.2 with h2 | ⟨g,cap,cur,e1,e2,e3⟩
 ·exact .inl h2
 ·exact .inr ⟨g,cap,cur,e1,Nat.le_trans hb e2,e3⟩
theorem Qmk {L:List ByteArray} {k:Nat} {x:ByteArray} (h:L[k]?=some x):QdS (L.take (k+1))=QeP (QdS (L.take k)) x:=by
 rw [List.take_add_one,h];simp [QdS,List.foldl_append]
theorem Qpr {L:List ByteArray} {k:Nat} {x:ByteArray} (h:L[k]?=some x) (hx:QbB x=false):L.all QbB=false:=by
 rw [List.all_eq_false];exact ⟨x,List.mem_of_getElem? h,by rw [hx];decide⟩
theorem QcU {w:World} {ao:Option Addr} {L:List ByteArray} (c n:Nat) (hn:L.length=n) (hl:n<=1048576) (hu:∀ u∈L,u.size<=maxLen) (hA:Qa2 w ao L) :
  Calls Tryz.prog 146 #[.slice ao n c] w fun e w'=>e=.returned (.bool (L.all QbB))/\w'=w:=by
 have HA:=Qaa hA;have HN:=Qaa hn;have HU:=Qaa hu;clear hA hn hu;go_enter Tryz.func146,Tryz.ntmps146;go_wp2
 go_loop [3] (fun i=>∃ k:Nat,k<=n/\i=.int .i64 k/\Hid ((L.take k).all QbB=true)) (fun i=>n - (Go.RowKit.intOf i).toNat)
 case atStart=>exact ⟨0,Nat.zero_le _,rfl,(by simp:(L.take 0).all QbB=true)⟩
 case round=>
  obtain ⟨k,hk,rfl,HF⟩:=hrel;by_cases hkn:k<n
  ·obtain ⟨b,off,e,hcell⟩:=HA.out (by have:=HN.out;omega)
   subst e;obtain ⟨y,hy⟩:∃ y,L[k]?=some y:=⟨L[k]'(by have:=HN.out;omega),ZZe _⟩;have hc0:=hcell k y hy;have HZ:=Qaa (HU.out y (ZZn hy));have HY:=Qaa hy;clear hcell hy
   cases ht:QbB y with
   | false=>
    have HE:Hid (L.all QbB=false):=Qpr HY.out ht;go_wp2_with (go_at_call 92;refine (QbT _ _ HZ.out).mono ?_;rintro e w1 ⟨rfl,rfl⟩);go_ret;exact ⟨QaF HE.out.symm,rfl⟩
   | true=>
    have HE:Hid ((L.take (k+1)).all QbB=true):=(by rw [List.take_add_one,HY.out,List.all_append,HF.out];simp [ht]:(L.take (k+1)).all QbB=true);go_wp2_with (go_at_call 92;refine (QbT _ _ HZ.out).mono ?_;rintro e w1 ⟨rfl,rfl⟩)
    go_round
    case rel=>exact ⟨k+1,by omega,by go_num,HE⟩
    case measure=>simp [Go.RowKit.intOf];omega
  ·have HE:Hid (L.all QbB=true):=(by have:=HF.out;rwa [List.take_of_length_le (by have:=HN.out;omega)] at this:L.all QbB=true)
   go_wp2;go_ret;exact ⟨QaF HE.out.symm,rfl⟩
theorem Qk0 {name:ByteArray} {K:List ByteArray} (h:name.size<=100) (hk:∀ x∈K,x.size<=20) (hl:K.length<=20100):(Qc0 name K).length<=422300:=by
 have:=Qgm hk;unfold Qc0;simp only [List.length_append,QaC,List.length_cons,List.length_nil];omega
theorem Qnn {K:List ByteArray} {x:ByteArray} (name:ByteArray) (h:K[0]?=some x):Qc0 name (K.take 0) ++ toL x=Qc0 name (K.take 1):=by
 rw [List.take_add_one,h];simp [Qc0,Qeu,Qil]
theorem QnD {K:List ByteArray} {x:ByteArray} {i:Nat} (name:ByteArray) (h:K[i]?=some x) (h0:0<i):Qc0 name (K.take i) ++ [44] ++ toL x=Qc0 name (K.take (i+1)):=by
 have hl:=(ZZd.1 h).1;rw [List.take_add_one,h];unfold Qc0;rw [show (some x).toList=[x] from rfl,Qhj (fun e=>by have:=congrArg List.length e;rw [List.length_take,List.length_nil] at this;omega)];simp
theorem Qc2 {w:World} {ao:Option Addr} {L:List ByteArray} (name:ByteArray) (c n:Nat) (hnm:name.size<=100) (hn:L.length=n) (hl:n<=20100) (hu:∀ u∈L,u.size<=20) (hA:Qa2 w ao L) :
  Calls Tryz.prog 147 #[.string name,.slice ao n c] w fun e w'=>e=.returned (.string (QdM name L))/\Below w.heap.size w w':=by
 have HA:=Qaa hA;have HN:=Qaa hn;have HU:=Qaa hu;clear hA hn hu;go_enter Tryz.func147,Tryz.ntmps147;go_wp2;have O0:OwnT (w.alloc (.cells #[] 9)) w.heap.size (.slice (some ⟨w.heap.size,0,none⟩) 0 0) []:=World.ownsRow_made w #[] 0 (ZZa _) (ZZj _) rfl
 go_loopw [5,6] (fun lv i wr=>∃ (k:Nat) (lo:Option Addr) (m lc:Nat),k<=n/\i=.int .i64 k/\lv=.slice lo m lc/\Hid (OwnT wr w.heap.size (.slice lo m lc) (QdS (L.take k))/\m=(QdS (L.take k)).length)/\Hid (Below w.heap.size w wr)) (fun lv i wr=>n - (Go.RowKit.intOf i).toNat)
 case atStart=>exact ⟨0,_,0,0,ZZj _,rfl,rfl,⟨O0,rfl⟩,(ZZb _ _).alloc (ZZa _) _⟩
 case round=>
  clear O0;obtain ⟨k,lo,m,lc,hk,rfl,rfl,HO,HB⟩:=hrel;by_cases hkn:k<n
  ·obtain ⟨b,off,e,hcell⟩:=HA.out (by have:=HN.out;omega)
   obtain ⟨y,hy⟩:∃ y,L[k]?=some y:=⟨L[k]'(by have:=HN.out;omega),ZZe _⟩;subst e;have hc0:=Qab HB.out (hcell k y hy);have HE:=Qaa (Qmk hy);have hml:m<=20100:=by have:=QfN (L.take k);have:=HO.out.2;rw [List.length_take] at *; omega
   clear hcell hy;have G:=Qaa HO.out.1.cap;go_wp2_with (go_at_call 186;refine (QlG y HO.out.2.symm (by omega) G.out.2.1 G.out.2.2.1 G.out.2.2.2 HO.out.1.at).mono ?_;rintro e w2 ⟨v2,rfl,o2,hb2⟩;obtain ⟨ao2,c2,rfl⟩:=Qko o2;rw [<- HE.out] at o2;have HO2:=Qaa o2;have HB2:=Qaa (HB.out.trans (hb2.mono HB.out.size));have o2z:=hb2.size;clear o2 hb2);go_roundw
   case rel=>
    rw [<- HE.out];refine ⟨k+1,ao2,_,c2,by omega,by go_num,rfl,⟨?_,rfl⟩,HB2⟩;have h:=HO2.out;unfold OwnT at h ⊢;exact Qnc h HB.out.size
   case measure=>simp [Go.RowKit.intOf];omega
  ·have hke:k=n:=by omega
   subst hke;have eL:L.take k=L:=List.take_of_length_le (by have:=HN.out;omega);rw [eL] at HO;clear eL;obtain ⟨K,hK⟩:∃ K,QdS L=K:=⟨_,rfl⟩;have HK:=Qaa hK;rw [hK] at HO;have HKu:Hid (∀ x∈K,x.size<=20):=(fun x hx=>HU.out x (mem_serK.1 (by rw [hK];exact hx)):∀ x∈K,x.size<=20);have hml:m<=20100:=by have:=QfN L;have:=HO.out.2;have:=HN.out;rw [hK] at *; omega
   clear hK;have HKl:Hid (K.length<=20100):=(by have:=HO.out.2;omega:K.length<=20100);obtain ⟨T0,hT0⟩:∃ T0:ByteArray,T0=⟨(Qc0 name (K.take 0)).toArray⟩:=⟨_,rfl⟩
   have hadd0:Op.stringOp .add name ⟨#[123]⟩=pure (.string T0):=by
    rw [Qcu (x:=toL name) (y:=[123]) (Qgl name).symm rfl (by rw [QaC];simp;omega),hT0];simp [Qc0,Qil]
   have HT0:=Qaa hT0;clear hT0;go_wp2
   go_loop [7,8] (fun tv i=>∃ (j:Nat) (T:ByteArray),j<=m/\i=.int .i64 j/\tv=.string T/\Hid (T=⟨(Qc0 name (K.take j)).toArray⟩)) (fun tv i=>m - (Go.RowKit.intOf i).toNat)
   case atStart=>exact ⟨0,T0,ZZj _,rfl,rfl,HT0⟩
   case round=>
    clear HT0 hadd0;obtain ⟨j,T,hj,rfl,rfl,HT⟩:=hrel;by_cases hjm:j<m
    ·obtain ⟨b,off,e,hcell⟩:=HO.out.1.at (by have:=HO.out.2;omega)
     obtain ⟨y,hy⟩:∃ y,K[j]?=some y:=⟨K[j]'(by have:=HO.out.2;omega),ZZe _⟩;subst e;have hc0:=hcell j y hy;have hys:y.size<=20:=HKu.out y (ZZn hy);have hlen:=Qk0 (name:=name) (K:=K.take j) hnm (fun x hx=>HKu.out x (List.mem_of_mem_take hx)) (by rw [List.length_take];have:=HKl.out;omega);rcases Nat.eq_zero_or_pos j with h0 | h0
     ·subst h0
      rw [Nat.add_zero] at hc0;obtain ⟨T2,hT2⟩:∃ T2:ByteArray,T2=⟨(Qc0 name (K.take 1)).toArray⟩:=⟨_,rfl⟩
      have hadd:Op.stringOp .add T y=pure (.string T2):=by
       rw [Qcu HT.out (Qgl y).symm (by rw [QaC];omega),Qnn name hy,hT2]
      have HT2:=Qaa hT2;clear hT2 hy hcell hlen hys;go_wp2
      go_round
      case rel=>exact ⟨1,T2,by omega,by go_num,rfl,HT2⟩
      case measure=>simp [Go.RowKit.intOf];omega
     ·have h0i:(0:Int)<(j:Int):=by omega
      obtain ⟨T1,hT1⟩:∃ T1:ByteArray,T1=⟨(Qc0 name (K.take j) ++ [44]).toArray⟩:=⟨_,rfl⟩
      have hadd1:Op.stringOp .add T ⟨#[44]⟩=pure (.string T1):=by
       rw [Qcu (y:=[44]) HT.out rfl (by simp;omega),hT1]
      obtain ⟨T2,hT2⟩:∃ T2:ByteArray,T2=⟨(Qc0 name (K.take (j+1))).toArray⟩:=⟨_,rfl⟩
      have hadd2:Op.stringOp .add T1 y=pure (.string T2):=by
       rw [Qcu hT1 (Qgl y).symm (by rw [QaC];simp;omega),QnD name hy h0,hT2]
      have HT2:=Qaa hT2;clear hT2 hT1 hy hcell hlen hys;go_wp2
      go_round
      case rel=>exact ⟨j+1,T2,by omega,by go_num,rfl,HT2⟩
      case measure=>simp [Go.RowKit.intOf];omega
    ·have hjm2:j=m:=by omega
     have eK:K.take j=K:=List.take_of_length_le (by have:=HO.out.2;omega);have hlen:=Qk0 (name:=name) (K:=K) hnm HKu.out HKl.out;obtain ⟨T2,hT2⟩:∃ T2:ByteArray,T2=QnS name K:=⟨_,rfl⟩
     have hadd:Op.stringOp .add T ⟨#[125]⟩=pure (.string T2):=by
      rw [Qcu (y:=[125]) HT.out rfl (by rw [eK];simp;omega),eK,hT2];rfl
     have hs2:T2.size<=1000000:=by rw [hT2,<- QaC,QnS,Qcc];simp;omega
     have HF:Hid (QdM name L=if 8<m∨100<T2.size then ByteArray.empty else T2):=(by unfold QdM;rw [HK.out,hT2,<- HO.out.2]:QdM name L=if 8<m∨100<T2.size then ByteArray.empty else T2);clear hT2 eK hlen HT hjm2;by_cases h8:8<m
     ·have h8i:(8:Int)<(m:Int):=by omega
      have HF2:Hid (QdM name L=ByteArray.empty):=(by rw [HF.out,if_pos (.inl h8)]:QdM name L=ByteArray.empty);go_wp2;go_ret;exact ⟨by rw [HF2.out];rfl,HB.out⟩
     ·have h8i:¬ (8:Int)<(m:Int):=by omega
      by_cases h100:100<T2.size
      ·have h100i:(100:Int)<(T2.size:Int):=by omega
       have HF2:Hid (QdM name L=ByteArray.empty):=(by rw [HF.out,if_pos (.inr h100)]:QdM name L=ByteArray.empty);go_wp2;go_ret;exact ⟨by rw [HF2.out];rfl,HB.out⟩
      ·have h100i:¬ (100:Int)<(T2.size:Int):=by omega
       have HF2:Hid (QdM name L=T2):=(by rw [HF.out,if_neg (by omega)]:QdM name L=T2);go_wp2;go_ret;exact ⟨by rw [HF2.out];rfl,HB.out⟩
end Go.Proofs.YthchmdmncmioiaaGreatDoor
