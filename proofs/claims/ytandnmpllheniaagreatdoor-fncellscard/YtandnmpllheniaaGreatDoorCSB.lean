/-
 Parts.
-/
import Derived.Test.YtandnmpllheniaaGreatDoorCJM
import Derived.Sort.KeysCollected
import Derived.Sort.Walk0
import Derived.Lib.Join
import Derived.RegionTactic
import Derived.BigRegion
import Derived.SliceStrings
set_option linter.all false
set_option maxHeartbeats 4000000
namespace Go.Proofs.YtandnmpllheniaaGreatDoor
open Go.ChangeShapes Go.WideShapes Go.ChangeAt Go.RowKit Go.PlainAid
def toL (b:ByteArray):List UInt8:=b.data.toList
theorem QdR {a b:ByteArray} (h:toL a=toL b):a=b:=by
 cases a;cases b;simp [toL] at h;simp [h]
theorem Qgv (b:ByteArray):(⟨(toL b).toArray⟩:ByteArray)=b:=by cases b;simp [toL]
theorem QcD (l:List UInt8):toL ⟨l.toArray⟩=l:=by simp [toL]
theorem QaC (b:ByteArray):(toL b).length=b.size:=by unfold toL;rw [Array.length_toList];rfl
theorem mk_app (a b:List UInt8):(⟨a.toArray⟩:ByteArray) ++ ⟨b.toArray⟩=⟨(a ++ b).toArray⟩:=by
 apply ByteArray.ext;rw [ByteArray.data_append];simp
theorem lt_toL (a b:ByteArray):Qa4 a b=decide (toL a<toL b):=by
 unfold Qa4 toL;rw [ByteArray.toList_eq,ByteArray.toList_eq];exact Go.Proofs.bytesLess_eq _ _
def QfR:List ByteArray->ByteArray->List ByteArray
 | [],t=>[t]
 | y :: r,t=>if Qa4 y t=true then y :: QfR r t else if y=t then y :: r else t :: y :: r
def Qgx (l:List ByteArray):Prop:=l.Pairwise (fun a b=>Qa4 a b=true)
theorem mem_insT {x t:ByteArray}:∀ {l:List ByteArray},x∈QfR l t↔x=t∨x∈l
 | []=>by simp [QfR]
 | y :: r=>by
  unfold QfR
  split
  ·simp only [List.mem_cons,mem_insT (l:=r)]
   constructor
   ·rintro (h | h | h)
    ·exact .inr (.inl h)
    ·exact .inl h
    ·exact .inr (.inr h)
   ·rintro (h | h | h)
    ·exact .inr (.inl h)
    ·exact .inl h
    ·exact .inr (.inr h)
  ·split
   ·rename_i h;subst h;simp
   ·simp
theorem Qi6 {t:ByteArray}:∀ {l:List ByteArray},Qgx l->Qgx (QfR l t)
 | [],_=>by simp [QfR,Qgx]
 | y :: r,h=>by
  obtain ⟨h1,h2⟩:=List.pairwise_cons.1 h;unfold QfR
  split
  ·rename_i hy
   refine List.pairwise_cons.2 ⟨fun x hx=>?_,Qi6 h2⟩;rcases mem_insT.1 hx with rfl | hx
   ·exact hy
   ·exact h1 x hx
  ·rename_i hy
   split
   ·exact h
   ·rename_i hne
    have hty:Qa4 t y=true:=by
     rcases QgJ (a:=y) (b:=t) (by simpa using hy) with e | e
     ·exact e
     ·exact absurd e hne
    refine List.pairwise_cons.2 ⟨fun x hx=>?_,h⟩;rcases List.mem_cons.1 hx with rfl | hx
    ·exact hty
    ·exact QeO hty (h1 x hx)
def Qeo (L:List ByteArray):List ByteArray:=L.foldl QfR []
theorem Qja:∀ (L l:List ByteArray),Qgx l->Qgx (L.foldl QfR l)
 | [],l,h=>h
 | t :: r,l,h=>Qja r (QfR l t) (Qi6 h)
theorem Qk9 (x:ByteArray):∀ (L l:List ByteArray),x∈L.foldl QfR l↔x∈L∨x∈l
 | [],l=>by simp
 | t :: r,l=>by
  rw [List.foldl_cons,Qk9 x r,mem_insT,List.mem_cons];constructor
  ·rintro (h | h | h)
   ·exact .inl (.inr h)
   ·exact .inl (.inl h)
   ·exact .inr h
  ·rintro ((h | h) | h)
   ·exact .inr (.inl h)
   ·exact .inl h
   ·exact .inr (.inr h)
theorem Qfa (L:List ByteArray):Qgx (Qeo L):=Qja L [] List.Pairwise.nil
theorem mem_serK {L:List ByteArray} {x:ByteArray}:x∈Qeo L↔x∈L:=by unfold Qeo;rw [Qk9];simp
theorem QkW (t:ByteArray):∀ l:List ByteArray,(QfR l t).length<=l.length+1
 | []=>by simp [QfR]
 | y :: r=>by
  unfold QfR;have:=QkW t r
  split
  ·simp;omega
  ·split <;> simp
theorem Ql0:∀ (L l:List ByteArray),(L.foldl QfR l).length<=l.length+L.length
 | [],l=>by simp
 | t :: r,l=>by
  have h1:=Ql0 r (QfR l t);have h2:=QkW t l;simp only [List.foldl_cons,List.length_cons];omega
theorem Qgq (L:List ByteArray):(Qeo L).length<=L.length:=by have:=Ql0 L [];simpa [Qeo] using this
theorem QfS {l:List ByteArray} (h:Qgx l):l.Nodup:=h.imp (fun {a b} hab e=>by subst e;rw [QeW] at hab;cases hab)
theorem QnK {l m:List ByteArray} (h:Qgx l) (k:Qgx m) (hm:∀ x,x∈l↔x∈m):l=m:=by
 have hp:l.Perm m:=(List.perm_ext_iff_of_nodup (QfS h) (QfS k)).2 hm;refine hp.eq_of_pairwise (le:=fun a b=>Qa4 a b=true) (fun a b _ _ h1 h2=>?_) h k;rw [Qol h1] at h2;cases h2
def QmG (t:ByteArray):Lit:=.string (toL t)
def setT (L:List ByteArray):DataW Unit:=Go.Maps.setOf (.agg []) (L.map QmG)
theorem QnF (L:List ByteArray) (t:ByteArray):setT (L ++ [t])=(setT L).put (QmG t) (.agg []):=by unfold setT;rw [List.map_append];exact Go.Maps.setOf_snoc _ _ _
theorem Qlw (L:List ByteArray):∀ x∈L.map QmG,WideAt.IsKeyLit x:=fun x hx=>by
 obtain ⟨t,_,rfl⟩:=List.mem_map.1 hx;exact trivial
theorem Qfc (L:List ByteArray) (hk:∃ es,setT L=.map es/\∀ p∈es,∃ x,p.1=Lit.string x):((Qeo L).map toL).Perm (Go.strKeys (setT L)):=by
 obtain ⟨es,e,hs⟩:=hk;obtain ⟨aa,e',hp⟩:=Go.Maps.tidy_setOf (H:=Unit) (.agg []) (L.map QmG) (Qlw L);have e':setT L=.map aa:=e';obtain rfl:es=aa:=by rw [e] at e'; simpa using e'
 rw [e];refine Go.perm_strKeys hp hs ?_ (fun x=>?_)
 ·exact List.pairwise_map.2 ((QfS (Qfa L)).imp (fun {a b} hne h=>hne (QdR h)))
 ·have hh:=Go.Maps.has_setOf (H:=Unit) (.agg []) (.string x) (L.map QmG) (Qlw L)
  have hh:Go.Maps.has (setT L) (.string x)=(L.map QmG).any (fun y=>y.sameKey (.string x)):=hh;rw [<- e,hh,List.any_eq_true,List.mem_map];constructor
  ·rintro ⟨t,ht,rfl⟩
   exact ⟨QmG t,List.mem_map.2 ⟨t,mem_serK.1 ht,rfl⟩,by simp [QmG,Lit.sameKey]⟩
  ·rintro ⟨y,hy,hs⟩
   obtain ⟨t,ht,rfl⟩:=List.mem_map.1 hy;exact ⟨t,mem_serK.2 ht,by simpa [QmG,Lit.sameKey] using hs⟩
theorem QeG {L:List ByteArray} (hk:∃ es,setT L=.map es/\∀ p∈es,∃ x,p.1=Lit.string x) {ss:List (List UInt8)} (h:ss.Perm (Go.strKeys (setT L))) :
  ss.mergeSort (fun x y=>decide (x<=y))=(Qeo L).map toL/\ss.length=(Qeo L).length/\Go.Maps.size (setT L)=(Qeo L).length:=by
 have hp:=h.trans (Qfc L hk).symm;have hl:=hp.length_eq;rw [List.length_map] at hl;refine ⟨?_,hl,?_⟩
 ·have e:=Go.mergeSort_of_perm hp
  have e2:((Qeo L).map toL).mergeSort Go.leB=(Qeo L).map toL:=by
   refine List.mergeSort_of_pairwise ?_;refine List.pairwise_map.2 ((Qfa L).imp (fun {a b} aa=>?_));rw [lt_toL] at aa;have aa:=of_decide_eq_true aa;exact ZZh (List.le_of_lt aa)
  exact e.trans e2
 ·have h2:=(Qfc L hk).length_eq
  rw [List.length_map] at h2;rw [h2];obtain ⟨es,e,_⟩:=hk;rw [e];simp [Go.Maps.size,Go.strKeys]
def QaT (K:List ByteArray):List UInt8:=Lib.join (K.map toL) [44]
theorem Qi5:QaT []=[]:=rfl
theorem QeS (x:ByteArray):QaT [x]=toL x:=Lib.join_one _ _
theorem Qno (sep:List UInt8) (r:List (List UInt8)) (x:List UInt8):Lib.joinTail sep (r ++ [x])=Lib.joinTail sep r ++ (sep ++ x):=by simp [Lib.joinTail]
theorem QhY {K:List ByteArray} (h:K≠[]) (x:ByteArray):QaT (K ++ [x])=QaT K ++ [44] ++ toL x:=by
 cases K with
 | nil=>exact absurd rfl h
 | cons y r=>
  unfold QaT;rw [List.cons_append,List.map_cons,List.map_cons,Lib.join_cons,Lib.join_cons,List.map_append,List.map_cons,List.map_nil,Qno];simp
theorem QgQ {m:Nat}:∀ {K:List ByteArray},(∀ x∈K,x.size<=m)->(QaT K).length<=K.length*(m+1):=by
 have ht:∀ r:List ByteArray,(∀ x∈r,x.size<=m)->(Lib.joinTail [44] (r.map toL)).length<=r.length*(m+1):=by
  intro r
  induction r with
  | nil=>intro _;simp [Lib.joinTail]
  | cons y r ih=>
   intro h;have h1:=h y List.mem_cons_self;have h2:=ih (fun x hx=>h x (ZZm _ hx));have e:Lib.joinTail [44] ((y :: r).map toL)=44 :: toL y ++ Lib.joinTail [44] (r.map toL):=by simp [Lib.joinTail]
   rw [e];simp only [List.length_append,List.length_cons,QaC,Nat.add_mul];omega
 intro K h
 cases K with
 | nil=>simp [QaT,Lib.join]
 | cons y r=>
  have h1:=h y List.mem_cons_self;have h2:=ht r (fun x hx=>h x (ZZm _ hx));unfold QaT;rw [List.map_cons,Lib.join_cons];simp only [List.length_append,List.length_cons,QaC,Nat.add_mul];omega
def Qdf (name:ByteArray) (K:List ByteArray):List UInt8:=toL name ++ [123] ++ QaT K
def Qoy (name:ByteArray) (K:List ByteArray):ByteArray:=⟨(Qdf name K ++ [125]).toArray⟩
theorem Qi4 (name:ByteArray) (K:List ByteArray):(Qoy name K).size=name.size+(QaT K).length+2:=by
 rw [<- QaC,Qoy,QcD];simp [Qdf,QaC];omega
def Qeg (name:ByteArray) (L:List ByteArray):ByteArray:=if 8<(Qeo L).length∨100<(Qoy name (Qeo L)).size then ByteArray.empty else Qoy name (Qeo L)
def Qa6 (w:World) (ao:Option Addr) (L:List ByteArray):Prop:=
 0<L.length->∃ b off,ao=some ⟨b,off,none⟩/\∀ i u,L[i]?=some u->w.cell? ⟨b,off+i,none⟩=some (.string u)
theorem QbY {w w':World} {ao:Option Addr} {L:List ByteArray} (h:Qa6 w ao L) (hb:Below w.heap.size w w'):Qa6 w' ao L:=fun h0=>by
 obtain ⟨b,off,e,hc⟩:=h h0;exact ⟨b,off,e,fun i u hi=>Qab hb (hc i u hi)⟩
theorem QhL {w:World} {B g cap:Nat} {L:List ByteArray} (h:w.ownsRow B 9 1 (.slice (some ⟨g,0,none⟩) L.length cap) L.length (L.map Value.string)):Qa6 w (some ⟨g,0,none⟩) L:=fun _=>
 ⟨g,0,rfl,fun i u hi=>by
  have hl:=(ZZd.1 hi).1;rw [Nat.zero_add,h.cellAt i (by omega)];simp [hi]⟩
def fillL (xs:List Value) (z:Value) (k:Nat):List Value:=xs.take k ++ List.replicate (xs.length - k) z
theorem Qnn:(Tryz.prog.info? 9).map (fun i=>(i.zero,i.size,i.bytes))=some (some (.string ByteArray.empty),1,16):=by kernel_rfl
def QhR (c:Int):Bool:=decide (97<=c) && decide (c<=122)
def Qot (c:Int):Bool:=decide (48<=c) && decide (c<=57)
def nmB (c:Int):Bool:=QhR c || Qot c || c == 95 || c == 46
def Qhk (s:ByteArray):Nat->Bool
 | 0=>true
 | n+1=>Qhk s n && nmB (bt s n)
def Qa3 (s:ByteArray):Bool:=decide (1<=s.size) && decide (s.size<=40) && QhR (bt s 0) && Qhk s s.size
theorem QaI {a b:Bool} (h:a=b):Ending.returned (.bool a)=.returned (.bool b):=by rw [h]
theorem QjS {s:ByteArray} {k:Nat} (h:nmB (bt s k)=false):∀ n,k<n->Qhk s n=false
 | 0,hk=>by omega
 | n+1,hk=>by
  unfold Qhk;by_cases e:k=n
  ·subst e;rw [h];simp
  ·rw [QjS h n (by omega)];simp
theorem QfE (c:Int) (w:World) :
  Calls Tryz.prog 99 #[.int .u8 c] w fun e w'=>e=.returned (.bool (QhR c))/\w'=w:=by
 by_cases h1:97<=c <;> by_cases h2:c<=122 <;> (go_enter Tryz.func99,Tryz.ntmps99;go_wp2;go_ret;exact ⟨by simp [QhR,h1,h2],rfl⟩)
theorem QnA (c:Int) (w:World) :
  Calls Tryz.prog 140 #[.int .u8 c] w fun e w'=>e=.returned (.bool (Qot c))/\w'=w:=by
 by_cases h1:48<=c <;> by_cases h2:c<=57 <;> (go_enter Tryz.func140,Tryz.ntmps140;go_wp2;go_ret;exact ⟨by simp [Qot,h1,h2],rfl⟩)
theorem Qco (c:Int) (w:World) :
  Calls Tryz.prog 100 #[.int .u8 c] w fun e w'=>e=.returned (.bool (nmB c))/\w'=w:=by
 cases h1:QhR c <;> cases h2:Qot c <;> by_cases h3:c=95 <;> by_cases h4:c=46 <;>
 ·go_enter Tryz.func100,Tryz.ntmps100
  go_wp2_with (first
   | (go_at_call 99;refine (QfE _ _).mono ?_;rintro e w1 ⟨rfl,rfl⟩)
   | (go_at_call 140;refine (QnA _ _).mono ?_;rintro e w1 ⟨rfl,rfl⟩))
  all_goals (go_ret;exact ⟨by simp [nmB,h1,h2,h3,h4],rfl⟩)
theorem Qdc (s:ByteArray) (w:World) (hs:s.size<=maxLen) :
  Calls Tryz.prog 50 #[.string s] w fun e w'=>e=.returned (.bool (Qa3 s))/\w'=w:=by
 unfold maxLen at hs;have ab:=get_bt s;by_cases h0:s.size<1
 ·have HN:Hid (Qa3 s=false):=(by unfold Qa3;rw [show decide (1<=s.size)=false from decide_eq_false (by omega)];rfl:Qa3 s=false)
  have hi:((s.size:Int)<1):=by omega
  go_enter Tryz.func50,Tryz.ntmps50;go_wp2;go_ret;exact ⟨QaI HN.out.symm,rfl⟩
 ·by_cases h1:40<s.size
  ·have HN:Hid (Qa3 s=false):=(by unfold Qa3;rw [show decide (s.size<=40)=false from decide_eq_false (by omega)];simp:Qa3 s=false)
   have hi:¬ ((s.size:Int)<1):=by omega
   have hj:(40:Int)<(s.size:Int):=by omega
   go_enter Tryz.func50,Tryz.ntmps50;go_wp2;go_ret;exact ⟨QaI HN.out.symm,rfl⟩
  ·have hi:¬ ((s.size:Int)<1):=by omega
   have hj:¬ (40:Int)<(s.size:Int):=by omega
   have hp:(0:Int)<(s.size:Int):=by omega
   cases hl:QhR (bt s 0)
   ·have HN:Hid (Qa3 s=false):=(by unfold Qa3;rw [hl];simp:Qa3 s=false)
    go_enter Tryz.func50,Tryz.ntmps50;go_wp2_with (go_at_call 99;refine (QfE _ _).mono ?_;rintro e w1 ⟨rfl,rfl⟩);go_ret;exact ⟨QaI HN.out.symm,rfl⟩
   ·have HN:Hid (Qa3 s=Qhk s s.size):=(by unfold Qa3;rw [hl,show decide (1<=s.size)=true from decide_eq_true (by omega),show decide (s.size<=40)=true from decide_eq_true (by omega)];rfl:Qa3 s=Qhk s s.size)
    go_enter Tryz.func50,Tryz.ntmps50;go_wp2_with (go_at_call 99;refine (QfE _ _).mono ?_;rintro e w1 ⟨rfl,rfl⟩)
    go_loop [20,3] (fun i _=>∃ k:Nat,k<=s.size/\i=.int .i64 k/\Qhk s k=true) (fun i _=>s.size - (Go.RowKit.intOf i).toNat)
    case atStart=>exact ⟨0,ZZj _,rfl,rfl⟩
    case round=>
     obtain ⟨k,hk,rfl,ha⟩:=hrel;have HA:Hid (Qhk s k=true):=ha;clear ha;by_cases aa:k<s.size
     ·cases hn:nmB (bt s k)
      ·have HB:Hid (Qhk s s.size=false):=QjS hn _ aa
       go_wp2_with (go_at_call 100;refine (Qco _ _).mono ?_;rintro e w1 ⟨rfl,rfl⟩);go_ret;exact ⟨QaI (HN.out.trans HB).symm,rfl⟩
      ·have HB:Hid (Qhk s (k+1)=true):=(by unfold Qhk;rw [HA.out,hn];rfl:Qhk s (k+1)=true)
       go_wp2_with (go_at_call 100;refine (Qco _ _).mono ?_;rintro e w1 ⟨rfl,rfl⟩)
       go_round
       case rel=>exact ⟨k+1,by omega,by go_num,HB⟩
       case measure=>simp [zI];omega
     ·have e:k=s.size:=by omega
      have HB:Hid (Qhk s s.size=true):=(by rw [<- e];exact HA.out:Qhk s s.size=true);clear e;go_wp2;go_ret;exact ⟨QaI (HN.out.trans HB).symm,rfl⟩
theorem Qqa {c:Int} (h:97<=c) (k:c<=122):QhR c=true:=by simp [QhR,h,k]
theorem Qp5 {c:Int} (h:c<97∨122<c):QhR c=false:=by
 unfold QhR;rcases h with h | h
 ·rw [show decide (97<=c)=false from decide_eq_false (by omega)];rfl
 ·rw [show decide (c<=122)=false from decide_eq_false (by omega)];simp
theorem Qqj {c:Int} (h:48<=c) (k:c<=57):Qot c=true:=by simp [Qot,h,k]
theorem Qp2 {c:Int} (h:c<48∨57<c):Qot c=false:=by
 unfold Qot;rcases h with h | h
 ·rw [show decide (48<=c)=false from decide_eq_false (by omega)];rfl
 ·rw [show decide (c<=57)=false from decide_eq_false (by omega)];simp
theorem Qna (c:Int):(97<=c/\c<=122)∨((c<97∨122<c)/\((48<=c/\c<=57)∨c=95∨c=46∨((c<48∨57<c)/\(c == 95)=false/\(c == 46)=false))):=by
 by_cases a:97<=c/\c<=122
 ·exact .inl a
 ·refine .inr ⟨by omega,?_⟩
  by_cases b:48<=c/\c<=57
  ·exact .inl b
  ·by_cases d:c=95
   ·exact .inr (.inl d)
   ·by_cases e:c=46
    ·exact .inr (.inr (.inl e))
    ·exact .inr (.inr (.inr ⟨by omega,by simpa using d,by simpa using e⟩))
theorem nmB_l {c:Int} (h:QhR c=true):nmB c=true:=by simp [nmB,h]
theorem nmB_d {c:Int} (h:Qot c=true):nmB c=true:=by simp [nmB,h]
theorem nmB_95:nmB 95=true:=by decide
theorem nmB_46:nmB 46=true:=by decide
theorem nmB_n {c:Int} (h:QhR c=false) (k:Qot c=false) (d:(c == 95)=false) (e:(c == 46)=false):nmB c=false:=by simp [nmB,h,k,d,e]
theorem Qk8 {s:ByteArray} (h:QhR (bt s 0)=false):Qa3 s=false:=by unfold Qa3;rw [h];simp
theorem Qqr {s:ByteArray} {k:Nat} (hk:k<s.size) (h:nmB (bt s k)=false):Qa3 s=false:=by unfold Qa3;rw [QjS h _ hk];simp
theorem Qrp {s:ByteArray} (h1:¬ s.size<1) (h2:¬ 40<s.size) (hl:QhR (bt s 0)=true) (ha:Qhk s s.size=true):Qa3 s=true:=by
 unfold Qa3;rw [hl,ha,show decide (1<=s.size)=true from decide_eq_true (by omega),show decide (s.size<=40)=true from decide_eq_true (by omega)];rfl
theorem QeZ {s:ByteArray} {k:Nat} (h:Qhk s k=true) (hn:nmB (bt s k)=true):Qhk s (k+1)=true:=by unfold Qhk;rw [h,hn];rfl
theorem Qby (s:ByteArray) (w:World) (hs:s.size<=maxLen) :
  Calls Tryz.prog 89 #[.string s] w fun e w'=>e=.returned (.bool (Qa3 s))/\w'=w:=by
 unfold maxLen at hs;have af:=get_bt s;by_cases h0:s.size<1
 ·have HN:Hid (Qa3 s=false):=(by unfold Qa3;rw [show decide (1<=s.size)=false from decide_eq_false (by omega)];rfl:Qa3 s=false)
  have hi:((s.size:Int)<1):=by omega
  go_enter Tryz.func89,Tryz.ntmps89;go_wp2;go_ret;exact ⟨QaI HN.out.symm,rfl⟩
 ·have hi:¬ ((s.size:Int)<1):=by omega
  by_cases h1:40<s.size
  ·have HN:Hid (Qa3 s=false):=(by unfold Qa3;rw [show decide (s.size<=40)=false from decide_eq_false (by omega)];simp:Qa3 s=false)
   have hj:(40:Int)<(s.size:Int):=by omega
   go_enter Tryz.func89,Tryz.ntmps89;go_wp2;go_ret;exact ⟨QaI HN.out.symm,rfl⟩
  ·have hj:¬ (40:Int)<(s.size:Int):=by omega
   go_enter Tryz.func89,Tryz.ntmps89;go_wp2
   go_loop [3,4] (fun i _=>∃ k:Nat,k<=s.size/\i=.int .i64 k/\Qhk s k=true/\(k=0∨QhR (bt s 0)=true)) (fun i _=>s.size - (Go.RowKit.intOf i).toNat)
   case atStart=>exact ⟨0,ZZj _,rfl,rfl,.inl rfl⟩
   case round=>
    obtain ⟨k,hk,rfl,ha,hl⟩:=hrel;have HA:Hid (Qhk s k=true):=ha;have HL:Hid (k=0∨QhR (bt s 0)=true):=hl;clear ha hl;by_cases ad:k<s.size
    ·rcases Qna (bt s k) with ⟨c1,c2⟩ | ⟨aa,ab⟩
     ·have HB:Hid (QhR (bt s k)=true):=Qqa c1 c2
      go_wp2
      go_round
      case rel=>exact ⟨k+1,by omega,by go_num,QeZ HA (nmB_l HB),.inr (by rcases HL.out with rfl | h;exact HB.out;exact h)⟩
      case measure=>simp [zI];omega
     ·have HB:Hid (QhR (bt s k)=false):=Qp5 aa
      rcases Nat.eq_zero_or_pos k with rfl | ae
      ·clear ab
       have g2:122<bt s 0->(decide (bt s 0<=122)=false/\97<=bt s 0):=fun h=>⟨ZZg (by omega),by omega⟩;rcases aa with aa | aa
       ·clear g2
        go_wp2;go_ret;exact ⟨QaI (Qk8 HB).symm,rfl⟩
       ·obtain ⟨g3,g4⟩:=g2 aa
        clear g2;go_wp2;go_ret;exact ⟨QaI (Qk8 HB).symm,rfl⟩
      ·have ac:Hid (QhR (bt s 0)=true):=by rcases HL.out with h | h;omega;exact h
       have ag:((k:Int) == 0)=false:=by simp;omega
       rcases ab with ⟨d1,d2⟩ | he | he | ⟨hd,e1,e2⟩
       ·have HD:Hid (Qot (bt s k)=true):=Qqj d1 d2
        clear aa;go_wp2
        go_round
        case rel=>exact ⟨k+1,by omega,by go_num,QeZ HA (nmB_d HD),.inr ac⟩
        case measure=>simp [zI];omega
       ·have HD:Hid (nmB (bt s k)=true):=(by rw [he];exact nmB_95:nmB (bt s k)=true)
        clear aa;go_wp2
        go_round
        case rel=>exact ⟨k+1,by omega,by go_num,QeZ HA HD,.inr ac⟩
        case measure=>simp [zI];omega
       ·have HD:Hid (nmB (bt s k)=true):=(by rw [he];exact nmB_46:nmB (bt s k)=true)
        clear aa;go_wp2
        go_round
        case rel=>exact ⟨k+1,by omega,by go_num,QeZ HA HD,.inr ac⟩
        case measure=>simp [zI];omega
       ·have HD:Hid (nmB (bt s k)=false):=nmB_n HB (Qp2 hd) e1 e2
        have g1:(bt s k<97/\bt s k<48)∨(bt s k<97/\48<=bt s k/\decide (bt s k<=57)=false)∨(97<=bt s k/\decide (bt s k<=122)=false/\48<=bt s k/\decide (bt s k<=57)=false):=by
         simp only [decide_eq_false_iff_not];omega
        have n1:(bt s k != 95)=true:=by simpa using e1
        have n2:(bt s k != 46)=true:=by simpa using e2
        have n3:¬ bt s k=95:=by simpa using e1
        have n4:¬ bt s k=46:=by simpa using e2
        clear aa hd e1 e2;rcases g1 with ⟨g1,g2⟩ | ⟨g1,g2,g3⟩ | ⟨g1,g2,g3,g4⟩
        all_goals
         go_wp2;go_ret;exact ⟨QaI (Qqr ad HD).symm,rfl⟩
    ·have e:k=s.size:=by omega
     have HB:Hid (Qa3 s=true):=by
      subst e;refine Qrp h0 h1 ?_ HA;rcases HL.out with h | h
      ·omega
      ·exact h
     clear e;go_wp2;go_ret;exact ⟨QaI HB.out.symm,rfl⟩
def tgB (c:Int):Bool:=nmB c || c == 45 || c == 58
def Qhi (s:ByteArray):Nat->Bool
 | 0=>true
 | n+1=>Qhi s n && tgB (bt s n)
def QbS (s:ByteArray):Bool:=decide (1<=s.size) && decide (s.size<=20) && Qhi s s.size
theorem Qod {s:ByteArray} {k:Nat} (h:tgB (bt s k)=false):∀ n,k<n->Qhi s n=false
 | 0,hk=>by omega
 | n+1,hk=>by
  unfold Qhi;by_cases e:k=n
  ·subst e;rw [h];simp
  ·rw [Qod h n (by omega)];simp
theorem Qcb {s:ByteArray} {k:Nat} (h:Qhi s k=true) (hn:tgB (bt s k)=true):Qhi s (k+1)=true:=by unfold Qhi;rw [h,hn];rfl
theorem Qp8 {s:ByteArray} {k:Nat} (hk:k<s.size) (h:tgB (bt s k)=false):QbS s=false:=by unfold QbS;rw [Qod h _ hk];simp
theorem Qm5 {s:ByteArray} (h:s.size<1):QbS s=false:=by unfold QbS;rw [show decide (1<=s.size)=false from decide_eq_false (by omega)];rfl
theorem Qng {s:ByteArray} (h:20<s.size):QbS s=false:=by unfold QbS;rw [show decide (s.size<=20)=false from decide_eq_false (by omega)];simp
theorem Qqm {s:ByteArray} (h1:¬ s.size<1) (h2:¬ 20<s.size) (ha:Qhi s s.size=true):QbS s=true:=by
 unfold QbS;rw [ha,show decide (1<=s.size)=true from decide_eq_true (by omega),show decide (s.size<=20)=true from decide_eq_true (by omega)];rfl
theorem tgB_45:tgB 45=true:=by decide
theorem Qql:tgB 58=true:=by decide
theorem Qq6 {c:Int} (h:nmB c=true):tgB c=true:=by simp [tgB,h]
theorem tgB_f {c:Int} (h:nmB c=false) (a:c≠45) (b:c≠58):tgB c=false:=by simp [tgB,h,a,b]
theorem QdW (s:ByteArray) (w:World) (hs:s.size<=maxLen) :
  Calls Tryz.prog 123 #[.string s] w fun e w'=>e=.returned (.bool (QbS s))/\w'=w:=by
 unfold maxLen at hs;have ab:=get_bt s;by_cases h0:s.size<1
 ·have HN:Hid (QbS s=false):=Qm5 h0
  have hi:((s.size:Int)<1):=by omega
  go_enter Tryz.func123,Tryz.ntmps123;go_wp2;go_ret;exact ⟨QaI HN.out.symm,rfl⟩
 ·by_cases h1:20<s.size
  ·have HN:Hid (QbS s=false):=Qng h1
   have hi:¬ ((s.size:Int)<1):=by omega
   have hj:(20:Int)<(s.size:Int):=by omega
   go_enter Tryz.func123,Tryz.ntmps123;go_wp2;go_ret;exact ⟨QaI HN.out.symm,rfl⟩
  ·have hi:¬ ((s.size:Int)<1):=by omega
   have hj:¬ (20:Int)<(s.size:Int):=by omega
   go_enter Tryz.func123,Tryz.ntmps123;go_wp2
   go_loop [14,2] (fun i _=>∃ k:Nat,k<=s.size/\i=.int .i64 k/\Qhi s k=true) (fun i _=>s.size - (Go.RowKit.intOf i).toNat)
   case atStart=>exact ⟨0,ZZj _,rfl,rfl⟩
   case round=>
    obtain ⟨k,hk,rfl,ha⟩:=hrel;have HA:Hid (Qhi s k=true):=ha;clear ha;by_cases aa:k<s.size
    ·cases hn:nmB (bt s k)
     ·by_cases e1:bt s k=45
      ·have HB:Hid (Qhi s (k+1)=true):=Qcb HA (by rw [e1];exact tgB_45)
       go_wp2_with (go_at_call 100;refine (Qco _ _).mono ?_;rintro e w1 ⟨rfl,rfl⟩)
       go_round
       case rel=>exact ⟨k+1,by omega,by go_num,HB⟩
       case measure=>simp [zI];omega
      ·by_cases e2:bt s k=58
       ·have HB:Hid (Qhi s (k+1)=true):=Qcb HA (by rw [e2];exact Qql)
        go_wp2_with (go_at_call 100;refine (Qco _ _).mono ?_;rintro e w1 ⟨rfl,rfl⟩)
        go_round
        case rel=>exact ⟨k+1,by omega,by go_num,HB⟩
        case measure=>simp [zI];omega
       ·have HB:Hid (QbS s=false):=Qp8 aa (tgB_f hn e1 e2)
        have n1:(bt s k != 45)=true:=by simpa using e1
        have n2:(bt s k != 58)=true:=by simpa using e2
        go_wp2_with (go_at_call 100;refine (Qco _ _).mono ?_;rintro e w1 ⟨rfl,rfl⟩);go_ret;exact ⟨QaI HB.out.symm,rfl⟩
     ·have HB:Hid (Qhi s (k+1)=true):=Qcb HA (Qq6 hn)
      go_wp2_with (go_at_call 100;refine (Qco _ _).mono ?_;rintro e w1 ⟨rfl,rfl⟩)
      go_round
      case rel=>exact ⟨k+1,by omega,by go_num,HB⟩
      case measure=>simp [zI];omega
    ·have e:k=s.size:=by omega
     have HB:Hid (QbS s=true):=Qqm h0 h1 (by rw [<- e];exact HA.out);clear e;go_wp2;go_ret;exact ⟨QaI HB.out.symm,rfl⟩
theorem QpM (c:Int):(97<=c/\c<=122/\tgB c=true)∨((c<97∨122<c)/\((48<=c/\c<=58/\tgB c=true)∨(c=95/\tgB c=true)∨(c=46/\tgB c=true)∨(c=45/\tgB c=true)∨((c<48∨58<c)/\c≠95/\c≠46/\c≠45/\tgB c=false))):=by
 by_cases a:97<=c/\c<=122
 ·exact .inl ⟨a.1,a.2,Qq6 (nmB_l (Qqa a.1 a.2))⟩
 ·have hl:QhR c=false:=Qp5 (by omega)
  refine .inr ⟨by omega,?_⟩;by_cases b:48<=c/\c<=58
  ·refine .inl ⟨b.1,b.2,?_⟩
   by_cases b2:c=58
   ·rw [b2];exact Qql
   ·exact Qq6 (nmB_d (Qqj b.1 (by omega)))
  ·by_cases d:c=95
   ·exact .inr (.inl ⟨d,by rw [d];decide⟩)
   ·by_cases e:c=46
    ·exact .inr (.inr (.inl ⟨e,by rw [e];decide⟩))
    ·by_cases f:c=45
     ·exact .inr (.inr (.inr (.inl ⟨f,by rw [f];decide⟩)))
     ·exact .inr (.inr (.inr (.inr ⟨by omega,d,e,f,tgB_f (nmB_n hl (Qp2 (by omega)) (by simpa using d) (by simpa using e)) f (by omega)⟩)))
theorem Qb8 (s:ByteArray) (w:World) (hs:s.size<=maxLen) :
  Calls Tryz.prog 92 #[.string s] w fun e w'=>e=.returned (.bool (QbS s))/\w'=w:=by
 unfold maxLen at hs;have ad:=get_bt s;go_enter Tryz.func92,Tryz.ntmps92;go_wp2
 go_loop [3,4] (fun i _=>∃ k:Nat,k<=s.size/\i=.int .i64 k/\Qhi s k=true) (fun i _=>s.size - (Go.RowKit.intOf i).toNat)
 case atStart=>exact ⟨0,ZZj _,rfl,rfl⟩
 case round=>
  obtain ⟨k,hk,rfl,ha⟩:=hrel;have HA:Hid (Qhi s k=true):=ha;clear ha;by_cases ac:k<s.size
  ·rcases QpM (bt s k) with ⟨c1,c2,hn⟩ | ⟨aa,ab⟩
   ·have HB:Hid (Qhi s (k+1)=true):=Qcb HA hn
    clear hn;go_wp2
    go_round
    case rel=>exact ⟨k+1,by omega,by go_num,HB⟩
    case measure=>simp [zI];omega
   ·rcases ab with ⟨d1,d2,hn⟩ | ⟨he,hn⟩ | ⟨he,hn⟩ | ⟨he,hn⟩ | ⟨hd,e1,e2,e3,hn⟩
    ·have HB:Hid (Qhi s (k+1)=true):=Qcb HA hn
     clear hn aa;go_wp2
     go_round
     case rel=>exact ⟨k+1,by omega,by go_num,HB⟩
     case measure=>simp [zI];omega
    ·have HB:Hid (Qhi s (k+1)=true):=Qcb HA hn
     clear hn aa;go_wp2
     go_round
     case rel=>exact ⟨k+1,by omega,by go_num,HB⟩
     case measure=>simp [zI];omega
    ·have HB:Hid (Qhi s (k+1)=true):=Qcb HA hn
     clear hn aa;go_wp2
     go_round
     case rel=>exact ⟨k+1,by omega,by go_num,HB⟩
     case measure=>simp [zI];omega
    ·have HB:Hid (Qhi s (k+1)=true):=Qcb HA hn
     clear hn aa;go_wp2
     go_round
     case rel=>exact ⟨k+1,by omega,by go_num,HB⟩
     case measure=>simp [zI];omega
    ·have HD:Hid (QbS s=false):=Qp8 ac hn
     have g1:(bt s k<97/\bt s k<48)∨(bt s k<97/\48<=bt s k/\decide (bt s k<=58)=false)∨(97<=bt s k/\decide (bt s k<=122)=false/\48<=bt s k/\decide (bt s k<=58)=false):=by
      simp only [decide_eq_false_iff_not];omega
     have n3:¬ bt s k=95:=e1;have n4:¬ bt s k=46:=e2;have n5:¬ bt s k=45:=e3;have m1:(bt s k == 95)=false:=by simpa using e1
     have m2:(bt s k == 46)=false:=by simpa using e2
     have m3:(bt s k == 45)=false:=by simpa using e3
     clear aa hd hn e1 e2 e3;rcases g1 with ⟨g1,g2⟩ | ⟨g1,g2,g3⟩ | ⟨g1,g2,g3,g4⟩
     all_goals
      go_wp2;go_ret;exact ⟨QaI HD.out.symm,rfl⟩
  ·have e:k=s.size:=by omega
   by_cases h0:s.size<1
   ·have HB:Hid (QbS s=false):=Qm5 h0
    have hi:¬ (1:Int)<=(s.size:Int):=by omega
    clear e;go_wp2;go_ret;exact ⟨QaI HB.out.symm,rfl⟩
   ·have hi:(1:Int)<=(s.size:Int):=by omega
    by_cases h1:20<s.size
    ·have HB:Hid (QbS s=false):=Qng h1
     have hj:¬ (s.size:Int)<=20:=by omega
     clear e;go_wp2;go_ret;exact ⟨QaI HB.out.symm,rfl⟩
    ·have HB:Hid (QbS s=true):=Qqm h0 h1 (by rw [<- e];exact HA.out)
     have hj:(s.size:Int)<=20:=by omega
     clear e;go_wp2;go_ret;exact ⟨QaI HB.out.symm,rfl⟩
set_option maxRecDepth 10000
def OwnT (w:World) (B:Nat) (v:Value) (L:List ByteArray):Prop:=w.ownsRow B 9 1 v L.length (L.map Value.string)
theorem OwnT.at {w:World} {B n c:Nat} {ao:Option Addr} {L:List ByteArray} (h:OwnT w B (.slice ao n c) L):Qa6 w ao L:=fun h0=>by
 rcases h.2 with ⟨e,h1⟩ | ⟨g,cap,cur,e,_⟩
 ·omega
 ·cases e
  exact QhL h h0
theorem OwnT.cap {w:World} {B n c:Nat} {ao:Option Addr} {L:List ByteArray} (h:OwnT w B (.slice ao n c) L):n=L.length/\n<=c/\c<=maxLen/\(ao=none->c=0):=by
 rcases h.2 with ⟨e,h1⟩ | ⟨g,cap,aa,e,_,_,h2,h3,_⟩
 ·cases e;exact ⟨h1.symm,ZZa _,ZZj _,fun _=>rfl⟩
 ·cases e;exact ⟨rfl,h2,h3,fun e=>by cases e⟩
theorem Qcu {w:World} {A:Addr} {L:List ByteArray} (h:Qa6 w (some A) L):∀ j u,(L.map Value.string)[j]?=some u->w.cell? (A.add j)=some u:=fun j u hj=>by
 rw [List.getElem?_map] at hj
 cases hx:L[j]? with
 | none=>rw [hx] at hj;cases hj
 | some x=>
  rw [hx] at hj;obtain rfl:=Option.some.inj hj;obtain ⟨b,off,e,hc⟩:=h (by have:=(ZZd.1 hx).1;omega)
  cases e
  have:=hc j x hx
  rwa [show (⟨b,off,none⟩:Addr).add j=⟨b,off+j,none⟩ from by unfold Addr.add;split <;> simp_all]
theorem QdM {w:World} {ao:Option Addr} {L:List ByteArray} (k:Nat) (h:Qa6 w ao L):Qa6 w ao (L.take k):=fun h0=>by
 obtain ⟨b',off',e,hc⟩:=h (by rw [List.length_take] at h0;omega);exact ⟨b',off',e,fun i x hx=>hc i x (by rw [List.getElem?_take] at hx;split at hx;exact hx;cases hx)⟩
theorem Qje {w:World} {b off:Nat} {L:List ByteArray} (k:Nat) (h:Qa6 w (some ⟨b,off,none⟩) L):Qa6 w (some ⟨b,off+k,none⟩) (L.drop k):=fun h0=>by
 obtain ⟨b',off',e,hc⟩:=h (by rw [List.length_drop] at h0;omega)
 cases e
 exact ⟨b,off+k,rfl,fun i x hx=>by
  rw [List.getElem?_drop] at hx;have:=hc (k+i) x hx
  rwa [Nat.add_assoc]⟩
theorem QaY (L:List ByteArray):∀ u∈L.map Value.string,u.oneCell'=true:=fun u hu=>by
 obtain ⟨x,_,rfl⟩:=List.mem_map.1 hu;rfl
def QhA (L:List ByteArray) (p:ByteArray) (k:Nat):Prop:=k<=L.length/\(∀ (t:Nat) (x:ByteArray),L[t]?=some x->t<k->Qa4 x p=true)/\∀ x,L[k]?=some x->Qa4 x p=false
theorem QgX {y:ByteArray} {r:List ByteArray} {p:ByteArray} {k:Nat} (h:QhA (y :: r) p (k+1)):QhA r p k:=
 ⟨by have:=h.1;simp at this;exact this,fun t x hx ht=>h.2.1 (t+1) x (by simpa using hx) (by omega),fun x hx=>h.2.2 x (by simpa using hx)⟩
theorem QmX {a:ByteArray}:∀ (L:List ByteArray) (k:Nat),QhA L a k->L[k]?=some a->QfR L a=L.take k ++ [a] ++ L.drop (k+1)
 | [],k,_,h=>by simp at h
 | y :: r,0,hp,h=>by
  obtain rfl:y=a:=by simpa using h
  have:Qa4 y y=false:=QeW y;simp [QfR,this]
 | y :: r,k+1,hp,h=>by
  have hy:=hp.2.1 0 y rfl (by omega);rw [QfR,if_pos hy,QmX r k (QgX hp) (by simpa using h)];simp
theorem Qiz {a:ByteArray}:∀ (L:List ByteArray) (k:Nat),QhA L a k->(∀ x,L[k]?=some x->x≠a)->QfR L a=L.take k ++ [a] ++ L.drop k
 | [],k,hp,h=>by have:=hp.1;simp at this;subst this;rfl
 | y :: r,0,hp,h=>by
  have hy:=hp.2.2 y rfl;have hne:y≠a:=h y rfl;rw [QfR,if_neg (by rw [hy];decide),if_neg hne];rfl
 | y :: r,k+1,hp,h=>by
  have hy:=hp.2.1 0 y rfl (by omega);rw [QfR,if_pos hy,Qiz r k (QgX hp) (fun x hx=>h x (by simpa using hx))];simp
theorem OwnT.of {w:World} {B n:Nat} {v:Value} {L:List ByteArray} {xs:List Value} (h:w.ownsRow B 9 1 v n xs) (e:xs=L.map Value.string):OwnT w B v L:=by
 have hl:=h.1;subst e;rw [List.length_map,Nat.mul_one] at hl;unfold OwnT;rw [hl];exact h
theorem QlI {w:World} {B:Nat} {v:Value} {L:List ByteArray} (h:OwnT w B v L):∃ ao c,v=.slice ao L.length c:=Qam h
theorem Qmx {w:World} {n c:Nat} {ao:Option Addr} {L:List ByteArray} (a:ByteArray) (hn:L.length=n) (hl:n<=100000) (hcap:n<=c) (hcm:c<=maxLen) (hno:ao=none->c=0) (hA:Qa6 w ao L) :
  Calls Tryz.prog 186 #[.slice ao n c,.string a] w fun e w'=>∃ v,e=.returned v/\OwnT w' w.heap.size v (QfR L a)/\Below w.heap.size w w':=by
 obtain ⟨i0,hi,ad,ae,af⟩:=info_parts Qnn;have aH:=Qrb 9;have HA:=Qaa hA;have HN:=Qaa hn;have aB:=Qaa hno;unfold maxLen at hcm;clear hA hn hno;go_enter Tryz.func186,Tryz.ntmps186;go_wp2
 go_loop [5] (fun i=>∃ k:Nat,k<=n/\i=.int .i64 k/\Hid (∀ (t:Nat) (x:ByteArray),L[t]?=some x->t<k->Qa4 x a=true)) (fun i=>n - (Go.RowKit.intOf i).toNat)
 case atStart=>exact ⟨0,ZZj _,rfl,(fun t x _ h=>absurd h (by omega):∀ (t:Nat) (x:ByteArray),L[t]?=some x->t<0->Qa4 x a=true)⟩
 case round=>
  obtain ⟨k,hk,rfl,HF⟩:=hrel
  have ag:k<n->∃ b ah y,ao=some ⟨b,ah,none⟩/\L[k]?=some y/\w.cell? ⟨b,ah+k,none⟩=some (.string y):=fun h=>by
   obtain ⟨b,ah,e,an⟩:=HA.out (by have:=HN.out;omega);obtain ⟨y,hy⟩:∃ y,L[k]?=some y:=⟨L[k]'(by have:=HN.out;omega),ZZe _⟩;exact ⟨b,ah,y,e,hy,an k y hy⟩
  by_cases ay:k<n
  ·obtain ⟨b,ah,q,rfl,ak,ai⟩:=ag ay
   cases hlt:Qa4 q a with
   | true=>
    have aw:Hid (∀ (t:Nat) (x:ByteArray),L[t]?=some x->t<k+1->Qa4 x a=true):=(fun t z hz ht=>by
     by_cases e:t=k
     ·subst e;rw [ak] at hz;obtain rfl:=Option.some.inj hz;exact hlt
     ·exact HF.out t z hz (by omega):∀ (t:Nat) (x:ByteArray),L[t]?=some x->t<k+1->Qa4 x a=true)
    clear ak ag;go_wp2
    go_round
    case rel=>exact ⟨k+1,by omega,by go_num,aw⟩
    case measure=>simp [zI];omega
   | false=>
    have HK:Hid (QhA L a k):=(⟨by have:=HN.out;omega,HF,fun z hz=>by rw [ak] at hz;obtain rfl:=Option.some.inj hz;exact hlt⟩:QhA L a k);have av:=Qaa ak;clear ak ag HF
    cases heq:(q.toList == a.toList) with
    | true=>
     have aq:a=q:=(QjT heq).symm;subst aq;have aC:IntKind.i64.wrap ((k:Int)+1)=(k:Int)+1:=by rw [IntKind.wrap_i64];omega
     have aG:((k:Int)+1).toNat=k+1:=by omega
     have aE:(0:Int)<=(k:Int)+1:=by omega
     have aD:(k:Int)+1<=(n:Int):=by omega
     have HE:Hid (QfR L a=L.take k ++ [a] ++ L.drop (k+1)):=QmX L k HK av;by_cases az:c=k+1
     ·subst az
      have ax:n=k+1:=by omega
      have aF:k+1 - (k+1)=0:=by omega
      subst ax
      go_wp2_with (first
       | (at_builtin;refine Qag _ rfl (.tmp 21) (.tmp 24) 119 rfl w.heap.size 9 i0 (.string ByteArray.empty) 1 16 Tryz.underlying119 hi ad ae af rfl (by decide) _ _ _ rfl (World.ownsRow_made _ #[] 0 (Nat.le_refl _) (Nat.zero_le _) rfl) (some ⟨b,ah,none⟩) k (k+1) ((L.take k).map Value.string) rfl (by rw [List.length_map,List.length_take];have:=HN.out;omega) (fun e=>by cases e) (fun A e=>by cases e;exact Qcu (QbY (QdM _ HA) ((Below.refl _ _).alloc (Nat.le_refl _) _))) (QaY _) (by unfold maxLen;omega) (by omega) (by simp) ?_;intro v1 w1 ab aa ac;simp only [Nat.zero_add,List.nil_append] at ab;obtain ⟨am,c1,rfl⟩:=Qam ab;have O1:=Qaa ab;have B1:=Qaa (((Below.refl w.heap.size w).alloc (Nat.le_refl _) _).grown aa (by simp) (fun j hj=>by cases hj;exact Nat.le_refl _));have y0:=Qab B1 ai;clear ab aa ac)
       | (at_builtin;refine wpList_append_own _ rfl (.tmp 26) (.tmp 28) 119 rfl w.heap.size 9 i0 (.string ByteArray.empty) 1 16 Tryz.underlying119 hi ad ae af rfl (by decide) _ _ _ rfl (QaU O1 ((Below.refl _ _).alloc (Nat.le_refl _) _)) ⟨w1.heap.size,0,none⟩ 1 1 [.string a] rfl rfl (QaP (cs:=#[.string a]) rfl) (QaY [a]) (by unfold maxLen;omega) (by omega) (by simp;have:=B1.out.size;omega) ?_;intro v2 w2 ab aa ac;obtain ⟨al,c2,rfl⟩:=Qam ab;have O2:=Qaa ab;have B2:=Qaa ((B1.out.alloc B1.out.size _).grown aa (by simp;have:=B1.out.size;omega) (fun j hj=>(O1.out.lt j hj).1));have y2:=Qab B2 ai;clear ab aa ac)
       | (at_builtin;refine Qag _ rfl (.tmp 44) (.tmp 47) 119 rfl w.heap.size 9 i0 (.string ByteArray.empty) 1 16 Tryz.underlying119 hi ad ae af rfl (by decide) _ _ _ rfl O2 (some ⟨b,ah,none⟩) 0 0 [] rfl rfl (fun e=>by cases e) (fun A _ j z hz=>by simp at hz) (by first | exact QaY _ | exact fun u hu=>absurd hu List.not_mem_nil) (by unfold maxLen;omega) (by omega) (by have:=B2.out.size;omega) ?_;intro v3 w3 ab aa ac;obtain ⟨aj,c3,rfl⟩:=Qam ab;have O3:=Qaa ab;have B3:=Qaa (B2.out.grown aa B2.out.size (fun j hj=>(O2.out.lt j hj).1));clear ab aa ac))
      all_goals
       go_ret;refine ⟨_,rfl,OwnT.of O3 ?_,B3⟩;rw [HE.out]
       try rw [List.drop_eq_nil_of_le (by have:=HN.out;omega)]
       simp
     ·skip
      go_wp2_with (first
       | (at_builtin;refine Qag _ rfl (.tmp 21) (.tmp 24) 119 rfl w.heap.size 9 i0 (.string ByteArray.empty) 1 16 Tryz.underlying119 hi ad ae af rfl (by decide) _ _ _ rfl (World.ownsRow_made _ #[] 0 (Nat.le_refl _) (Nat.zero_le _) rfl) (some ⟨b,ah,none⟩) k c ((L.take k).map Value.string) rfl (by rw [List.length_map,List.length_take];have:=HN.out;omega) (fun e=>by cases e) (fun A e=>by cases e;exact Qcu (QbY (QdM _ HA) ((Below.refl _ _).alloc (Nat.le_refl _) _))) (QaY _) (by unfold maxLen;omega) (by omega) (by simp) ?_;intro v1 w1 ab aa ac;simp only [Nat.zero_add,List.nil_append] at ab;obtain ⟨am,c1,rfl⟩:=Qam ab;have O1:=Qaa ab;have B1:=Qaa (((Below.refl w.heap.size w).alloc (Nat.le_refl _) _).grown aa (by simp) (fun j hj=>by cases hj;exact Nat.le_refl _));have y0:=Qab B1 ai;clear ab aa ac)
       | (at_builtin;refine wpList_append_own _ rfl (.tmp 26) (.tmp 28) 119 rfl w.heap.size 9 i0 (.string ByteArray.empty) 1 16 Tryz.underlying119 hi ad ae af rfl (by decide) _ _ _ rfl (QaU O1 ((Below.refl _ _).alloc (Nat.le_refl _) _)) ⟨w1.heap.size,0,none⟩ 1 1 [.string a] rfl rfl (QaP (cs:=#[.string a]) rfl) (QaY [a]) (by unfold maxLen;omega) (by omega) (by simp;have:=B1.out.size;omega) ?_;intro v2 w2 ab aa ac;obtain ⟨al,c2,rfl⟩:=Qam ab;have O2:=Qaa ab;have B2:=Qaa ((B1.out.alloc B1.out.size _).grown aa (by simp;have:=B1.out.size;omega) (fun j hj=>(O1.out.lt j hj).1));have y2:=Qab B2 ai;clear ab aa ac)
       | (at_builtin;refine Qag _ rfl (.tmp 44) (.tmp 47) 119 rfl w.heap.size 9 i0 (.string ByteArray.empty) 1 16 Tryz.underlying119 hi ad ae af rfl (by decide) _ _ _ rfl O2 (some ⟨b,ah+(k+1),none⟩) (n - (k+1)) (c - (k+1)) ((L.drop (k+1)).map Value.string) rfl (by rw [List.length_map,List.length_drop];have:=HN.out;omega) (fun e=>by cases e) (fun A e=>by cases e;exact Qcu (QbY (Qje (k+1) HA) B2)) (by first | exact QaY _ | exact fun u hu=>absurd hu List.not_mem_nil) (by unfold maxLen;omega) (by omega) (by have:=B2.out.size;omega) ?_;intro v3 w3 ab aa ac;obtain ⟨aj,c3,rfl⟩:=Qam ab;have O3:=Qaa ab;have B3:=Qaa (B2.out.grown aa B2.out.size (fun j hj=>(O2.out.lt j hj).1));clear ab aa ac))
      all_goals
       go_ret;refine ⟨_,rfl,OwnT.of O3 ?_,B3⟩;rw [HE.out]
       try rw [List.drop_eq_nil_of_le (by have:=HN.out;omega)]
       simp
    | false=>
     have au:∀ z,L[k]?=some z->z≠a:=fun z hz e=>by
      rw [av.out] at hz;obtain rfl:=Option.some.inj hz;subst e;simp at heq
     have HE:Hid (QfR L a=L.take k ++ [a] ++ L.drop k):=Qiz L k HK au;clear au;have ar:¬ (c=k):=by omega
     go_wp2_with (first
      | (at_builtin;refine Qag _ rfl (.tmp 21) (.tmp 24) 119 rfl w.heap.size 9 i0 (.string ByteArray.empty) 1 16 Tryz.underlying119 hi ad ae af rfl (by decide) _ _ _ rfl (World.ownsRow_made _ #[] 0 (Nat.le_refl _) (Nat.zero_le _) rfl) (some ⟨b,ah,none⟩) k c ((L.take k).map Value.string) rfl (by rw [List.length_map,List.length_take];have:=HN.out;omega) (fun e=>by cases e) (fun A e=>by cases e;exact Qcu (QbY (QdM _ HA) ((Below.refl _ _).alloc (Nat.le_refl _) _))) (QaY _) (by unfold maxLen;omega) (by omega) (by simp) ?_;intro v1 w1 ab aa ac;simp only [Nat.zero_add,List.nil_append] at ab;obtain ⟨am,c1,rfl⟩:=Qam ab;have O1:=Qaa ab;have B1:=Qaa (((Below.refl w.heap.size w).alloc (Nat.le_refl _) _).grown aa (by simp) (fun j hj=>by cases hj;exact Nat.le_refl _));have y0:=Qab B1 ai;clear ab aa ac)
      | (at_builtin;refine wpList_append_own _ rfl (.tmp 26) (.tmp 28) 119 rfl w.heap.size 9 i0 (.string ByteArray.empty) 1 16 Tryz.underlying119 hi ad ae af rfl (by decide) _ _ _ rfl (QaU O1 ((Below.refl _ _).alloc (Nat.le_refl _) _)) ⟨w1.heap.size,0,none⟩ 1 1 [.string a] rfl rfl (QaP (cs:=#[.string a]) rfl) (QaY [a]) (by unfold maxLen;omega) (by omega) (by simp;have:=B1.out.size;omega) ?_;intro v2 w2 ab aa ac;obtain ⟨al,c2,rfl⟩:=Qam ab;have O2:=Qaa ab;have B2:=Qaa ((B1.out.alloc B1.out.size _).grown aa (by simp;have:=B1.out.size;omega) (fun j hj=>(O1.out.lt j hj).1));have y2:=Qab B2 ai;clear ab aa ac)
      | (at_builtin;refine Qag _ rfl (.tmp 44) (.tmp 47) 119 rfl w.heap.size 9 i0 (.string ByteArray.empty) 1 16 Tryz.underlying119 hi ad ae af rfl (by decide) _ _ _ rfl O2 (some ⟨b,ah+k,none⟩) (n - k) (c - k) ((L.drop k).map Value.string) rfl (by rw [List.length_map,List.length_drop];have:=HN.out;omega) (fun e=>by cases e) (fun A e=>by cases e;exact Qcu (QbY (Qje k HA) B2)) (by first | exact QaY _ | exact fun u hu=>absurd hu List.not_mem_nil) (by unfold maxLen;omega) (by omega) (by have:=B2.out.size;omega) ?_;intro v3 w3 ab aa ac;obtain ⟨aj,c3,rfl⟩:=Qam ab;have O3:=Qaa ab;have B3:=Qaa (B2.out.grown aa B2.out.size (fun j hj=>(O2.out.lt j hj).1));clear ab aa ac))
     all_goals
      go_ret;refine ⟨_,rfl,OwnT.of O3 ?_,B3⟩;rw [HE.out]
      try rw [List.drop_eq_nil_of_le (by have:=HN.out;omega)]
      simp
  ·have ap:k=n:=by omega
   subst ap;have HE:Hid (QfR L a=L.take k ++ [a] ++ L.drop k):=Qiz L k ⟨by have:=HN.out;omega,HF,fun z hz=>absurd (ZZd.1 hz).1 (by have:=HN.out;omega)⟩ (fun z hz=>absurd (ZZd.1 hz).1 (by have:=HN.out;omega));clear ag HF
   cases ao with
   | none=>
    have h0:c=0:=aB.out rfl;subst h0;have aA:k=0:=by omega
    subst aA
    go_wp2_with (first
     | (at_builtin;refine Qag _ rfl (.tmp 21) (.tmp 24) 119 rfl w.heap.size 9 i0 (.string ByteArray.empty) 1 16 Tryz.underlying119 hi ad ae af rfl (by decide) _ _ _ rfl (World.ownsRow_made _ #[] 0 (Nat.le_refl _) (Nat.zero_le _) rfl) none 0 0 ((L.take 0).map Value.string) rfl (by rw [List.length_map,List.length_take];have:=HN.out;omega) (fun e=>⟨rfl,rfl⟩) (fun A e=>by cases e) (QaY _) (by unfold maxLen;omega) (by omega) (by simp) ?_;intro v1 w1 ab aa ac;simp only [Nat.zero_add,List.nil_append] at ab;obtain ⟨am,c1,rfl⟩:=Qam ab;have O1:=Qaa ab;have B1:=Qaa (((Below.refl w.heap.size w).alloc (Nat.le_refl _) _).grown aa (by simp) (fun j hj=>by cases hj;exact Nat.le_refl _));clear ab aa ac)
     | (at_builtin;refine wpList_append_own _ rfl (.tmp 26) (.tmp 28) 119 rfl w.heap.size 9 i0 (.string ByteArray.empty) 1 16 Tryz.underlying119 hi ad ae af rfl (by decide) _ _ _ rfl (QaU O1 ((Below.refl _ _).alloc (Nat.le_refl _) _)) ⟨w1.heap.size,0,none⟩ 1 1 [.string a] rfl rfl (QaP (cs:=#[.string a]) rfl) (QaY [a]) (by unfold maxLen;omega) (by omega) (by simp;have:=B1.out.size;omega) ?_;intro v2 w2 ab aa ac;obtain ⟨al,c2,rfl⟩:=Qam ab;have O2:=Qaa ab;have B2:=Qaa ((B1.out.alloc B1.out.size _).grown aa (by simp;have:=B1.out.size;omega) (fun j hj=>(O1.out.lt j hj).1));clear ab aa ac)
     | (at_builtin;refine Qag _ rfl (.tmp 44) (.tmp 47) 119 rfl w.heap.size 9 i0 (.string ByteArray.empty) 1 16 Tryz.underlying119 hi ad ae af rfl (by decide) _ _ _ rfl O2 none 0 0 [] rfl rfl (fun e=>⟨rfl,rfl⟩) (fun A e=>by cases e) (by first | exact QaY _ | exact fun u hu=>absurd hu List.not_mem_nil) (by unfold maxLen;omega) (by omega) (by have:=B2.out.size;omega) ?_;intro v3 w3 ab aa ac;obtain ⟨aj,c3,rfl⟩:=Qam ab;have O3:=Qaa ab;have B3:=Qaa (B2.out.grown aa B2.out.size (fun j hj=>(O2.out.lt j hj).1));clear ab aa ac))
    all_goals
     go_ret;refine ⟨_,rfl,OwnT.of O3 ?_,B3⟩;rw [HE.out]
     try rw [List.drop_eq_nil_of_le (by have:=HN.out;omega)]
     simp
   | some A=>
    by_cases ar:c=k
    ·subst ar
     go_wp2_with (first
      | (at_builtin;refine Qag _ rfl (.tmp 21) (.tmp 24) 119 rfl w.heap.size 9 i0 (.string ByteArray.empty) 1 16 Tryz.underlying119 hi ad ae af rfl (by decide) _ _ _ rfl (World.ownsRow_made _ #[] 0 (Nat.le_refl _) (Nat.zero_le _) rfl) (some A) c c ((L.take c).map Value.string) rfl (by rw [List.length_map,List.length_take];have:=HN.out;omega) (fun e=>by cases e) (fun A e=>by cases e;exact Qcu (QbY (QdM _ HA) ((Below.refl _ _).alloc (Nat.le_refl _) _))) (QaY _) (by unfold maxLen;omega) (by omega) (by simp) ?_;intro v1 w1 ab aa ac;simp only [Nat.zero_add,List.nil_append] at ab;obtain ⟨am,c1,rfl⟩:=Qam ab;have O1:=Qaa ab;have B1:=Qaa (((Below.refl w.heap.size w).alloc (Nat.le_refl _) _).grown aa (by simp) (fun j hj=>by cases hj;exact Nat.le_refl _));clear ab aa ac)
      | (at_builtin;refine wpList_append_own _ rfl (.tmp 26) (.tmp 28) 119 rfl w.heap.size 9 i0 (.string ByteArray.empty) 1 16 Tryz.underlying119 hi ad ae af rfl (by decide) _ _ _ rfl (QaU O1 ((Below.refl _ _).alloc (Nat.le_refl _) _)) ⟨w1.heap.size,0,none⟩ 1 1 [.string a] rfl rfl (QaP (cs:=#[.string a]) rfl) (QaY [a]) (by unfold maxLen;omega) (by omega) (by simp;have:=B1.out.size;omega) ?_;intro v2 w2 ab aa ac;obtain ⟨al,c2,rfl⟩:=Qam ab;have O2:=Qaa ab;have B2:=Qaa ((B1.out.alloc B1.out.size _).grown aa (by simp;have:=B1.out.size;omega) (fun j hj=>(O1.out.lt j hj).1));clear ab aa ac)
      | (at_builtin;refine Qag _ rfl (.tmp 44) (.tmp 47) 119 rfl w.heap.size 9 i0 (.string ByteArray.empty) 1 16 Tryz.underlying119 hi ad ae af rfl (by decide) _ _ _ rfl O2 _ 0 _ [] rfl rfl (fun e=>by cases e) (fun A _ j z hz=>by simp at hz) (by first | exact QaY _ | exact fun u hu=>absurd hu List.not_mem_nil) (by unfold maxLen;omega) (by omega) (by have:=B2.out.size;omega) ?_;intro v3 w3 ab aa ac;obtain ⟨aj,c3,rfl⟩:=Qam ab;have O3:=Qaa ab;have B3:=Qaa (B2.out.grown aa B2.out.size (fun j hj=>(O2.out.lt j hj).1));clear ab aa ac))
     all_goals
      go_ret;refine ⟨_,rfl,OwnT.of O3 ?_,B3⟩;rw [HE.out]
      try rw [List.drop_eq_nil_of_le (by have:=HN.out;omega)]
      simp
    ·skip
     go_wp2_with (first
      | (at_builtin;refine Qag _ rfl (.tmp 21) (.tmp 24) 119 rfl w.heap.size 9 i0 (.string ByteArray.empty) 1 16 Tryz.underlying119 hi ad ae af rfl (by decide) _ _ _ rfl (World.ownsRow_made _ #[] 0 (Nat.le_refl _) (Nat.zero_le _) rfl) (some A) k c ((L.take k).map Value.string) rfl (by rw [List.length_map,List.length_take];have:=HN.out;omega) (fun e=>by cases e) (fun A e=>by cases e;exact Qcu (QbY (QdM _ HA) ((Below.refl _ _).alloc (Nat.le_refl _) _))) (QaY _) (by unfold maxLen;omega) (by omega) (by simp) ?_;intro v1 w1 ab aa ac;simp only [Nat.zero_add,List.nil_append] at ab;obtain ⟨am,c1,rfl⟩:=Qam ab;have O1:=Qaa ab;have B1:=Qaa (((Below.refl w.heap.size w).alloc (Nat.le_refl _) _).grown aa (by simp) (fun j hj=>by cases hj;exact Nat.le_refl _));clear ab aa ac)
      | (at_builtin;refine wpList_append_own _ rfl (.tmp 26) (.tmp 28) 119 rfl w.heap.size 9 i0 (.string ByteArray.empty) 1 16 Tryz.underlying119 hi ad ae af rfl (by decide) _ _ _ rfl (QaU O1 ((Below.refl _ _).alloc (Nat.le_refl _) _)) ⟨w1.heap.size,0,none⟩ 1 1 [.string a] rfl rfl (QaP (cs:=#[.string a]) rfl) (QaY [a]) (by unfold maxLen;omega) (by omega) (by simp;have:=B1.out.size;omega) ?_;intro v2 w2 ab aa ac;obtain ⟨al,c2,rfl⟩:=Qam ab;have O2:=Qaa ab;have B2:=Qaa ((B1.out.alloc B1.out.size _).grown aa (by simp;have:=B1.out.size;omega) (fun j hj=>(O1.out.lt j hj).1));clear ab aa ac)
      | (at_builtin;refine Qag _ rfl (.tmp 44) (.tmp 47) 119 rfl w.heap.size 9 i0 (.string ByteArray.empty) 1 16 Tryz.underlying119 hi ad ae af rfl (by decide) _ _ _ rfl O2 _ 0 _ [] rfl rfl (fun e=>by cases e) (fun A _ j z hz=>by simp at hz) (by first | exact QaY _ | exact fun u hu=>absurd hu List.not_mem_nil) (by unfold maxLen;omega) (by omega) (by have:=B2.out.size;omega) ?_;intro v3 w3 ab aa ac;obtain ⟨aj,c3,rfl⟩:=Qam ab;have O3:=Qaa ab;have B3:=Qaa (B2.out.grown aa B2.out.size (fun j hj=>(O2.out.lt j hj).1));clear ab aa ac))
     all_goals
      go_ret;refine ⟨_,rfl,OwnT.of O3 ?_,B3⟩;rw [HE.out]
      try rw [List.drop_eq_nil_of_le (by have:=HN.out;omega)]
      simp
theorem QcM {a b:ByteArray} {x y:List UInt8} (ha:a=⟨x.toArray⟩) (hb:b=⟨y.toArray⟩) (h:x.length+y.length<=1000000):Op.stringOp .add a b=pure (.string ⟨(x ++ y).toArray⟩):=by
 subst ha;subst hb;unfold Op.stringOp;have e1:(⟨x.toArray⟩:ByteArray).size=x.length:=by rw [<- QaC,QcD]
 have e2:(⟨y.toArray⟩:ByteArray).size=y.length:=by rw [<- QaC,QcD]
 have:¬ ((((⟨x.toArray⟩:ByteArray).size+(⟨y.toArray⟩:ByteArray).size:Nat):Int) > IntKind.i64.max):=by
  have e:IntKind.i64.max=9223372036854775807:=by decide
  rw [e,e1,e2];omega
 simp only [if_neg this,mk_app]
theorem QmN {w:World} {B B' size n:Nat} {e:TypeId} {v:Value} {xs:List Value} (h:w.ownsRow B e size v n xs) (hb:B'<=B):w.ownsRow B' e size v n xs:=by
 refine ⟨h.1,?_⟩;rcases h.2 with h2 | ⟨g,ab,aa,e1,e2,e3⟩
 ·exact .inl h2
 ·exact .inr ⟨g,ab,aa,e1,Nat.le_trans hb e2,e3⟩
theorem Qne {L:List ByteArray} {k:Nat} {x:ByteArray} (h:L[k]?=some x):Qeo (L.take (k+1))=QfR (Qeo (L.take k)) x:=by
 rw [List.take_add_one,h];simp [Qeo,List.foldl_append]
theorem Qqg {L:List ByteArray} {k:Nat} {x:ByteArray} (h:L[k]?=some x) (hx:QbS x=false):L.all QbS=false:=by
 rw [List.all_eq_false];exact ⟨x,List.mem_of_getElem? h,by rw [hx];decide⟩
theorem Qdd {w:World} {ao:Option Addr} {L:List ByteArray} (c n:Nat) (hn:L.length=n) (hl:n<=1048576) (hu:∀ u∈L,u.size<=maxLen) (hA:Qa6 w ao L) :
  Calls Tryz.prog 146 #[.slice ao n c] w fun e w'=>e=.returned (.bool (L.all QbS))/\w'=w:=by
 have HA:=Qaa hA;have HN:=Qaa hn;have HU:=Qaa hu;clear hA hn hu;go_enter Tryz.func146,Tryz.ntmps146;go_wp2
 go_loop [3] (fun i=>∃ k:Nat,k<=n/\i=.int .i64 k/\Hid ((L.take k).all QbS=true)) (fun i=>n - (Go.RowKit.intOf i).toNat)
 case atStart=>exact ⟨0,Nat.zero_le _,rfl,(by simp:(L.take 0).all QbS=true)⟩
 case round=>
  obtain ⟨k,hk,rfl,HF⟩:=hrel;by_cases ab:k<n
  ·obtain ⟨b,ad,e,aa⟩:=HA.out (by have:=HN.out;omega)
   subst e;obtain ⟨y,hy⟩:∃ y,L[k]?=some y:=⟨L[k]'(by have:=HN.out;omega),ZZe _⟩;have ac:=aa k y hy;have HZ:=Qaa (HU.out y (ZZn hy));have HY:=Qaa hy;clear aa hy
   cases ht:QbS y with
   | false=>
    have HE:Hid (L.all QbS=false):=Qqg HY ht;go_wp2_with (go_at_call 92;refine (Qb8 _ _ HZ).mono ?_;rintro e w1 ⟨rfl,rfl⟩);go_ret;exact ⟨QaI HE.out.symm,rfl⟩
   | true=>
    have HE:Hid ((L.take (k+1)).all QbS=true):=(by rw [List.take_add_one,HY.out,List.all_append,HF.out];simp [ht]:(L.take (k+1)).all QbS=true);go_wp2_with (go_at_call 92;refine (Qb8 _ _ HZ).mono ?_;rintro e w1 ⟨rfl,rfl⟩)
    go_round
    case rel=>exact ⟨k+1,by omega,by go_num,HE⟩
    case measure=>simp [zI];omega
  ·have HE:Hid (L.all QbS=true):=(by have:=HF.out;rwa [List.take_of_length_le (by have:=HN.out;omega)] at this:L.all QbS=true)
   go_wp2;go_ret;exact ⟨QaI HE.out.symm,rfl⟩
theorem QkU {name:ByteArray} {K:List ByteArray} (h:name.size<=100) (hk:∀ x∈K,x.size<=20) (hl:K.length<=20100):(Qdf name K).length<=422300:=by
 have:=QgQ hk;unfold Qdf;simp only [List.length_append,QaC,List.length_cons,List.length_nil];omega
theorem Qny {K:List ByteArray} {x:ByteArray} (name:ByteArray) (h:K[0]?=some x):Qdf name (K.take 0) ++ toL x=Qdf name (K.take 1):=by
 rw [List.take_add_one,h];simp [Qdf,QeS,Qi5]
theorem QnL {K:List ByteArray} {x:ByteArray} {i:Nat} (name:ByteArray) (h:K[i]?=some x) (h0:0<i):Qdf name (K.take i) ++ [44] ++ toL x=Qdf name (K.take (i+1)):=by
 have hl:=(ZZd.1 h).1;rw [List.take_add_one,h];unfold Qdf;rw [show (some x).toList=[x] from rfl,QhY (fun e=>by have:=congrArg List.length e;rw [List.length_take,List.length_nil] at this;omega)];simp
theorem Qdq {w:World} {ao:Option Addr} {L:List ByteArray} (name:ByteArray) (c n:Nat) (hnm:name.size<=100) (hn:L.length=n) (hl:n<=20100) (hu:∀ u∈L,u.size<=20) (hA:Qa6 w ao L) :
  Calls Tryz.prog 147 #[.string name,.slice ao n c] w fun e w'=>e=.returned (.string (Qeg name L))/\Below w.heap.size w w':=by
 have HA:=Qaa hA;have HN:=Qaa hn;have HU:=Qaa hu;clear hA hn hu;go_enter Tryz.func147,Tryz.ntmps147;go_wp2;have O0:OwnT (w.alloc (.cells #[] 9)) w.heap.size (.slice (some ⟨w.heap.size,0,none⟩) 0 0) []:=World.ownsRow_made w #[] 0 (ZZa _) (ZZj _) rfl
 go_loopw [5,6] (fun lv i wr=>∃ (k:Nat) (lo:Option Addr) (m lc:Nat),k<=n/\i=.int .i64 k/\lv=.slice lo m lc/\Hid (OwnT wr w.heap.size (.slice lo m lc) (Qeo (L.take k))/\m=(Qeo (L.take k)).length)/\Hid (Below w.heap.size w wr)) (fun lv i wr=>n - (Go.RowKit.intOf i).toNat)
 case atStart=>exact ⟨0,_,0,0,ZZj _,rfl,rfl,⟨O0,rfl⟩,(ZZb _ _).alloc (ZZa _) _⟩
 case round=>
  clear O0;obtain ⟨k,lo,m,lc,hk,rfl,rfl,HO,HB⟩:=hrel;by_cases aI:k<n
  ·obtain ⟨b,aA,e,aa⟩:=HA.out (by have:=HN.out;omega)
   obtain ⟨y,hy⟩:∃ y,L[k]?=some y:=⟨L[k]'(by have:=HN.out;omega),ZZe _⟩;subst e;have aw:=Qab HB (aa k y hy);have HE:=Qaa (Qne hy);have aD:m<=20100:=by have:=Qgq (L.take k);have:=HO.out.2;rw [List.length_take] at *; omega
   clear aa hy;have G:=Qaa HO.out.1.cap;go_wp2_with (go_at_call 186;refine (Qmx y HO.out.2.symm (by omega) G.out.2.1 G.out.2.2.1 G.out.2.2.2 HO.out.1.at).mono ?_;rintro e w2 ⟨v2,rfl,o2,an⟩;obtain ⟨ax,c2,rfl⟩:=QlI o2;rw [<- HE.out] at o2;have aC:=Qaa o2;have ay:=Qaa (HB.out.trans (an.mono HB.out.size));have aG:=an.size;clear o2 an);go_roundw
   case rel=>
    rw [<- HE.out];refine ⟨k+1,ax,_,c2,by omega,by go_num,rfl,⟨?_,rfl⟩,ay⟩;have h:=aC.out;unfold OwnT at h ⊢;exact QmN h HB.out.size
   case measure=>simp [zI];omega
  ·have az:k=n:=by omega
   subst az;have eL:L.take k=L:=List.take_of_length_le (by have:=HN.out;omega);rw [eL] at HO;clear eL;obtain ⟨K,hK⟩:∃ K,Qeo L=K:=⟨_,rfl⟩;have HK:=Qaa hK;rw [hK] at HO;have al:Hid (∀ x∈K,x.size<=20):=(fun x hx=>HU.out x (mem_serK.1 (by rw [hK];exact hx)):∀ x∈K,x.size<=20);have aD:m<=20100:=by have:=Qgq L;have:=HO.out.2;have:=HN.out;rw [hK] at *; omega
   clear hK;have aq:Hid (K.length<=20100):=(by have:=HO.out.2;omega:K.length<=20100);obtain ⟨T0,ai⟩:∃ T0:ByteArray,T0=⟨(Qdf name (K.take 0)).toArray⟩:=⟨_,rfl⟩
   have ad:Op.stringOp .add name ⟨#[123]⟩=pure (.string T0):=by
    rw [QcM (x:=toL name) (y:=[123]) (Qgv name).symm rfl (by rw [QaC];simp;omega),ai];simp [Qdf,Qi5]
   have ar:=Qaa ai;clear ai;go_wp2
   go_loop [7,8] (fun tv i=>∃ (j:Nat) (T:ByteArray),j<=m/\i=.int .i64 j/\tv=.string T/\Hid (T=⟨(Qdf name (K.take j)).toArray⟩)) (fun tv i=>m - (Go.RowKit.intOf i).toNat)
   case atStart=>exact ⟨0,T0,ZZj _,rfl,rfl,ar⟩
   case round=>
    clear ar ad;obtain ⟨j,T,hj,rfl,rfl,HT⟩:=hrel;by_cases aF:j<m
    ·obtain ⟨b,aA,e,aa⟩:=HO.out.1.at (by have:=HO.out.2;omega)
     obtain ⟨y,hy⟩:∃ y,K[j]?=some y:=⟨K[j]'(by have:=HO.out.2;omega),ZZe _⟩;subst e;have aw:=aa j y hy;have ap:y.size<=20:=al.out y (ZZn hy);have ac:=QkU (name:=name) (K:=K.take j) hnm (fun x hx=>al.out x (List.mem_of_mem_take hx)) (by rw [List.length_take];have:=aq.out;omega);rcases Nat.eq_zero_or_pos j with h0 | h0
     ·subst h0
      rw [Nat.add_zero] at aw;obtain ⟨T2,ab⟩:∃ T2:ByteArray,T2=⟨(Qdf name (K.take 1)).toArray⟩:=⟨_,rfl⟩
      have ak:Op.stringOp .add T y=pure (.string T2):=by
       rw [QcM HT.out (Qgv y).symm (by rw [QaC];omega),Qny name hy,ab]
      have ah:=Qaa ab;clear ab hy aa ac ap;go_wp2
      go_round
      case rel=>exact ⟨1,T2,by omega,by go_num,rfl,ah⟩
      case measure=>simp [zI];omega
     ·have aH:(0:Int)<(j:Int):=by omega
      obtain ⟨T1,ag⟩:∃ T1:ByteArray,T1=⟨(Qdf name (K.take j) ++ [44]).toArray⟩:=⟨_,rfl⟩
      have av:Op.stringOp .add T ⟨#[44]⟩=pure (.string T1):=by
       rw [QcM (y:=[44]) HT.out rfl (by simp;omega),ag]
      obtain ⟨T2,ab⟩:∃ T2:ByteArray,T2=⟨(Qdf name (K.take (j+1))).toArray⟩:=⟨_,rfl⟩
      have au:Op.stringOp .add T1 y=pure (.string T2):=by
       rw [QcM ag (Qgv y).symm (by rw [QaC];simp;omega),QnL name hy h0,ab]
      have ah:=Qaa ab;clear ab ag hy aa ac ap;go_wp2
      go_round
      case rel=>exact ⟨j+1,T2,by omega,by go_num,rfl,ah⟩
      case measure=>simp [zI];omega
    ·have am:j=m:=by omega
     have eK:K.take j=K:=List.take_of_length_le (by have:=HO.out.2;omega);have ac:=QkU (name:=name) (K:=K) hnm al aq;obtain ⟨T2,ab⟩:∃ T2:ByteArray,T2=Qoy name K:=⟨_,rfl⟩
     have ak:Op.stringOp .add T ⟨#[125]⟩=pure (.string T2):=by
      rw [QcM (y:=[125]) HT.out rfl (by rw [eK];simp;omega),eK,ab];rfl
     have aE:T2.size<=1000000:=by rw [ab,<- QaC,Qoy,QcD];simp;omega
     have HF:Hid (Qeg name L=if 8<m∨100<T2.size then ByteArray.empty else T2):=(by unfold Qeg;rw [HK.out,ab,<- HO.out.2]:Qeg name L=if 8<m∨100<T2.size then ByteArray.empty else T2);clear ab eK ac HT am;by_cases h8:8<m
     ·have aB:(8:Int)<(m:Int):=by omega
      have af:Hid (Qeg name L=ByteArray.empty):=(by rw [HF.out,if_pos (.inl h8)]:Qeg name L=ByteArray.empty);go_wp2;go_ret;exact ⟨by rw [af.out];rfl,HB⟩
     ·have aB:¬ (8:Int)<(m:Int):=by omega
      by_cases aj:100<T2.size
      ·have ae:(100:Int)<(T2.size:Int):=by omega
       have af:Hid (Qeg name L=ByteArray.empty):=(by rw [HF.out,if_pos (.inr aj)]:Qeg name L=ByteArray.empty);go_wp2;go_ret;exact ⟨by rw [af.out];rfl,HB⟩
      ·have ae:¬ (100:Int)<(T2.size:Int):=by omega
       have af:Hid (Qeg name L=T2):=(by rw [HF.out,if_neg (by omega)]:Qeg name L=T2);go_wp2;go_ret;exact ⟨by rw [af.out];rfl,HB⟩
end Go.Proofs.YtandnmpllheniaaGreatDoor
