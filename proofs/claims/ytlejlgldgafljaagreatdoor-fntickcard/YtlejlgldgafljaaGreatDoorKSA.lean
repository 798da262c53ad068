/-
 Parts.
-/
import Derived.Test.YtlejlgldgafljaaGreatDoorKJA
import Derived.Maps.OwnSet
import Derived.Sort.KeysCollected
import Derived.Sort.Walk0
import Derived.Lib.Join
import Derived.RegionTactic
import Derived.BigRegion
import Derived.SliceStrings
set_option maxHeartbeats 4000000
set_option linter.all false
namespace Go.Proofs.YtlejlgldgafljaaGreatDoor
open Go.ChangeShapes Go.WideShapes Go.ChangeAt Go.RowKit Go.PlainAid Tryz
def QaJ (a b:ByteArray):Bool:=Op.bytesLess a.toList b.toList
theorem QrN (t:TypeId) (a b:ByteArray):binOp .geq t (.string a) (.string b)=pure (.bool !(QaJ a b)):=by simp [binOp,Op.stringOp,QaJ]
theorem QfQ:∀ x y:List UInt8,Op.bytesLess x y=true->Op.bytesLess y x=false
 | _,[],h=>by simp [Op.bytesLess] at h
 | [],_ :: _,_=>by simp [Op.bytesLess]
 | a :: x,b :: y,h=>by
  simp only [Op.bytesLess,Bool.or_eq_true,Bool.and_eq_true,decide_eq_true_eq,beq_iff_eq] at h;simp only [Op.bytesLess,Bool.or_eq_false_iff,Bool.and_eq_false_iff,decide_eq_false_iff_not,beq_eq_false_iff_ne];rcases h with h | ⟨rfl,h⟩
  ·exact ⟨fun k=>by have:=UInt8.lt_asymm h k;exact this,.inl (fun e=>by subst e;exact UInt8.lt_irrefl _ h)⟩
  ·exact ⟨UInt8.lt_irrefl _,.inr (QfQ x y h)⟩
theorem QhR:∀ x y:List UInt8,Op.bytesLess x y=false->(x == y)=false->Op.bytesLess y x=true
 | [],[],_,h=>by simp at h
 | _ :: _,[],_,_=>by simp [Op.bytesLess]
 | [],_ :: _,h,_=>by simp [Op.bytesLess] at h
 | a :: x,b :: y,h,k=>by
  simp only [Op.bytesLess,Bool.or_eq_false_iff,Bool.and_eq_false_iff,decide_eq_false_iff_not,beq_eq_false_iff_ne] at h;simp only [Op.bytesLess,Bool.or_eq_true,Bool.and_eq_true,decide_eq_true_eq,beq_iff_eq];by_cases e:a=b
  ·subst e
   refine .inr ⟨rfl,QhR x y ?_ ?_⟩
   ·rcases h.2 with h | h
    ·exact absurd rfl h
    ·exact h
   ·simpa using k
  ·left
   have h1:=h.1;simp only [UInt8.lt_iff_toNat_lt] at h1 ⊢;have:a.toNat≠b.toNat:=fun q=>e (UInt8.toNat_inj.1 q);omega
variable {y:List UInt8}
theorem Qoc {x:List UInt8} (h:(x == y)=true):Op.bytesLess y x=false:=by
 have h:=beq_iff_eq.1 h;subst h
 cases e:Op.bytesLess x x with
 | false=>rfl
 | true=>have:=QfQ x x e;rw [this] at e;cases e
theorem op_gtr (t:TypeId) (a b:ByteArray):binOp .gtr t (.string a) (.string b)=pure (.bool (QaJ b a)):=by
 have e:(!(Op.bytesLess a.toList b.toList || a.toList == b.toList))=Op.bytesLess b.toList a.toList:=by
  cases h1:Op.bytesLess a.toList b.toList
  ·cases h2:(a.toList == b.toList)
   ·rw [QhR _ _ h1 h2];rfl
   ·rw [Qoc h2];rfl
  ·rw [QfQ _ _ h1];rfl
 show Op.stringOp .gtr a b=_
 unfold Op.stringOp QaJ;rw [<- e]
theorem Qhw:∀ x y z:List UInt8,Op.bytesLess x y=true->Op.bytesLess y z=true->Op.bytesLess x z=true
 | _,[],_,h,_=>by simp [Op.bytesLess] at h
 | _,_ :: _,[],_,h=>by simp [Op.bytesLess] at h
 | [],_ :: _,_ :: _,_,_=>by simp [Op.bytesLess]
 | a :: x,b :: y,c :: z,h,k=>by
  simp only [Op.bytesLess,Bool.or_eq_true,Bool.and_eq_true,decide_eq_true_eq,beq_iff_eq] at h k ⊢;rcases h with h | ⟨rfl,h⟩
  ·rcases k with k | ⟨rfl,k⟩
   ·exact .inl (UInt8.lt_trans h k)
   ·exact .inl h
  ·rcases k with k | ⟨rfl,k⟩
   ·exact .inl k
   ·exact .inr ⟨rfl,Qhw x y z h k⟩
variable {a b s x:ByteArray}
theorem QgC (h:(a.toList == b.toList)=true):a=b:=by
 have h:=beq_iff_eq.1 h;rw [ByteArray.toList_eq,ByteArray.toList_eq] at h
 cases a;cases b
 simp at h;simp [h]
theorem QcS {c:ByteArray} (h:QaJ a b=true) (k:QaJ b c=true):QaJ a c=true:=Qhw _ _ _ h k
theorem Qb9 (a:ByteArray):QaJ a a=false:=Qoc (x:=a.toList) (y:=a.toList) (by simp)
theorem QgF (h:QaJ a b=true):QaJ b a=false:=QfQ _ _ h
theorem Qez (h:QaJ a b=false):QaJ b a=true∨a=b:=by
 cases e:(a.toList == b.toList) with
 | true=>exact .inr (QgC e)
 | false=>exact .inl (QhR _ _ h e)
theorem Qki {c:ByteArray} (h:QaJ b a=false) (k:QaJ c b=false):QaJ c a=false:=by
 cases e:QaJ c a with
 | false=>rfl
 | true=>
  rcases Qez k with q | q
  ·rw [QcS q e] at h;cases h
  ·subst q;rw [e] at h;cases h
def toL (b:ByteArray):List UInt8:=b.data.toList
theorem Qa5 (h:toL a=toL b):a=b:=by
 cases a;cases b;simp [toL] at h;simp [h]
theorem Qfw (b:ByteArray):(⟨(toL b).toArray⟩:ByteArray)=b:=by cases b;simp [toL]
theorem Qa8 (l:List UInt8):toL ⟨l.toArray⟩=l:=by simp [toL]
theorem Qaq (b:ByteArray):(toL b).length=b.size:=by unfold toL;rw [Array.length_toList];rfl
theorem mk_app (a b:List UInt8):(⟨a.toArray⟩:ByteArray) ++ ⟨b.toArray⟩=⟨(a ++ b).toArray⟩:=by
 apply ByteArray.ext;rw [ByteArray.data_append];simp
theorem Qr0 (a b:ByteArray):QaJ a b=decide (toL a<toL b):=by
 unfold QaJ toL;rw [ByteArray.toList_eq,ByteArray.toList_eq];exact Go.Proofs.bytesLess_eq _ _
def QcC:List ByteArray->ByteArray->List ByteArray
 | [],t=>[t]
 | y :: r,t=>if QaJ y t=true then y :: QcC r t else if y=t then y :: r else t :: y :: r
def QdP (l:List ByteArray):Prop:=l.Pairwise (fun a b=>QaJ a b=true)
theorem mem_insT {x t:ByteArray}:∀ {l:List ByteArray},x∈QcC l t↔x=t∨x∈l
 | []=>by simp [QcC]
 | y :: r=>by
  unfold QcC
  split
  ·simp only [List.mem_cons,mem_insT (l:=r)]
   constructor
   ·rintro (h | h | h)
    ·exact .inr (.inl h)
    ·exact .inl h
    ·exact .inr (.inr h)
   ·rintro (h | h | h)
    ·exact .inr (.inl h)
    ·exact .inl h
    ·exact .inr (.inr h)
  ·split
   ·rename_i h;subst h;simp
   ·simp
theorem Qf6 {t:ByteArray}:∀ {l:List ByteArray},QdP l->QdP (QcC l t)
 | [],_=>by simp [QcC,QdP]
 | y :: r,h=>by
  obtain ⟨h1,h2⟩:=List.pairwise_cons.1 h;unfold QcC
  split
  ·rename_i hy
   refine List.pairwise_cons.2 ⟨fun x hx=>?_,Qf6 h2⟩;rcases mem_insT.1 hx with rfl | hx
   ·exact hy
   ·exact h1 x hx
  ·rename_i hy
   split
   ·exact h
   ·rename_i hne
    have hty:QaJ t y=true:=by
     rcases Qez (a:=y) (b:=t) (by simpa using hy) with e | e
     ·exact e
     ·exact absurd e hne
    refine List.pairwise_cons.2 ⟨fun x hx=>?_,h⟩;rcases List.mem_cons.1 hx with rfl | hx
    ·exact hty
    ·exact QcS hty (h1 x hx)
def QdS (L:List ByteArray):List ByteArray:=L.foldl QcC []
theorem Qj5:∀ (L l:List ByteArray),QdP l->QdP (L.foldl QcC l)
 | [],l,h=>h
 | t :: r,l,h=>Qj5 r (QcC l t) (Qf6 h)
theorem Qma (x:ByteArray):∀ (L l:List ByteArray),x∈L.foldl QcC l↔x∈L∨x∈l
 | [],l=>by simp
 | t :: r,l=>by
  rw [List.foldl_cons,Qma x r,mem_insT,List.mem_cons];constructor
  ·rintro (h | h | h)
   ·exact .inl (.inr h)
   ·exact .inl (.inl h)
   ·exact .inr h
  ·rintro ((h | h) | h)
   ·exact .inr (.inl h)
   ·exact .inl h
   ·exact .inr (.inr h)
theorem Qev (L:List ByteArray):QdP (QdS L):=Qj5 L [] List.Pairwise.nil
variable {K L l:List ByteArray}
theorem mem_serK:x∈QdS L↔x∈L:=by unfold QdS;rw [Qma];simp
theorem QiN (t:ByteArray):∀ l:List ByteArray,(QcC l t).length<=l.length+1
 | []=>by simp [QcC]
 | y :: r=>by
  unfold QcC;have:=QiN t r
  split
  ·simp;omega
  ·split <;> simp
theorem Ql1:∀ (L l:List ByteArray),(L.foldl QcC l).length<=l.length+L.length
 | [],l=>by simp
 | t :: r,l=>by
  have h1:=Ql1 r (QcC l t);have h2:=QiN t l;simp only [List.foldl_cons,List.length_cons];omega
theorem QfR (L:List ByteArray):(QdS L).length<=L.length:=by have:=Ql1 L [];simpa [QdS] using this
theorem Qdx (h:QdP l):l.Nodup:=h.imp (fun {a b} hab e=>by subst e;rw [Qb9] at hab;cases hab)
theorem Qnk {m:List ByteArray} (h:QdP l) (k:QdP m) (hm:∀ x,x∈l↔x∈m):l=m:=by
 have hp:l.Perm m:=(List.perm_ext_iff_of_nodup (Qdx h) (Qdx k)).2 hm;refine hp.eq_of_pairwise (le:=fun a b=>QaJ a b=true) (fun a b _ _ h1 h2=>?_) h k;rw [QgF h1] at h2;cases h2
def Qey (t:ByteArray):Lit:=.string (toL t)
def QfE (L:List ByteArray):DataW Unit:=Go.Maps.setOf (.agg []) (L.map Qey)
theorem QoI (L:List ByteArray) (t:ByteArray):QfE (L ++ [t])=(QfE L).put (Qey t) (.agg []):=by unfold QfE;rw [List.map_append];exact Go.Maps.setOf_snoc _ _ _
theorem QlZ (L:List ByteArray):∀ x∈L.map Qey,WideAt.IsKeyLit x:=fun x hx=>by
 obtain ⟨t,_,rfl⟩:=List.mem_map.1 hx;exact trivial
theorem Qep (L:List ByteArray) (hk:∃ es,QfE L=.map es/\∀ p∈es,∃ x,p.1=Lit.string x):((QdS L).map toL).Perm (Go.strKeys (QfE L)):=by
 obtain ⟨es,e,hs⟩:=hk;obtain ⟨aa,e',hp⟩:=Go.Maps.tidy_setOf (H:=Unit) (.agg []) (L.map Qey) (QlZ L);have e':QfE L=.map aa:=e';obtain rfl:es=aa:=by rw [e] at e'; simpa using e'
 rw [e];refine Go.perm_strKeys hp hs ?_ (fun x=>?_)
 ·exact List.pairwise_map.2 ((Qdx (Qev L)).imp (fun {a b} hne h=>hne (Qa5 h)))
 ·have hh:=Go.Maps.has_setOf (H:=Unit) (.agg []) (.string x) (L.map Qey) (QlZ L)
  have hh:Go.Maps.has (QfE L) (.string x)=(L.map Qey).any (fun y=>y.sameKey (.string x)):=hh;rw [<- e,hh,List.any_eq_true,List.mem_map];constructor
  ·rintro ⟨t,ht,rfl⟩
   exact ⟨Qey t,List.mem_map.2 ⟨t,mem_serK.1 ht,rfl⟩,by simp [Qey,Lit.sameKey]⟩
  ·rintro ⟨y,hy,hs⟩
   obtain ⟨t,ht,rfl⟩:=List.mem_map.1 hy;exact ⟨t,mem_serK.2 ht,by simpa [Qey,Lit.sameKey] using hs⟩
theorem Qea (hk:∃ es,QfE L=.map es/\∀ p∈es,∃ x,p.1=Lit.string x) {ss:List (List UInt8)} (h:ss.Perm (Go.strKeys (QfE L))) :
  ss.mergeSort (fun x y=>decide (x<=y))=(QdS L).map toL/\ss.length=(QdS L).length/\Go.Maps.size (QfE L)=(QdS L).length:=by
 have hp:=h.trans (Qep L hk).symm;have hl:=hp.length_eq;rw [List.length_map] at hl;refine ⟨?_,hl,?_⟩
 ·have e:=Go.mergeSort_of_perm hp
  have e2:((QdS L).map toL).mergeSort Go.leB=(QdS L).map toL:=by
   refine List.mergeSort_of_pairwise ?_;refine List.pairwise_map.2 ((Qev L).imp (fun {a b} aa=>?_));rw [Qr0] at aa;have aa:=of_decide_eq_true aa;exact decide_eq_true (List.le_of_lt aa)
  exact e.trans e2
 ·have h2:=(Qep L hk).length_eq
  rw [List.length_map] at h2;rw [h2];obtain ⟨es,e,_⟩:=hk;rw [e];simp [Go.Maps.size,Go.strKeys]
def QaM (K:List ByteArray):List UInt8:=Lib.join (K.map toL) [44]
theorem QiY:QaM []=[]:=rfl
theorem Qda (x:ByteArray):QaM [x]=toL x:=Lib.join_one _ _
theorem QjB (sep:List UInt8) (r:List (List UInt8)) (x:List UInt8):Lib.joinTail sep (r ++ [x])=Lib.joinTail sep r ++ (sep ++ x):=by simp [Lib.joinTail]
theorem Qfb (h:K≠[]) (x:ByteArray):QaM (K ++ [x])=QaM K ++ [44] ++ toL x:=by
 cases K with
 | nil=>exact absurd rfl h
 | cons y r=>
  unfold QaM;rw [List.cons_append,List.map_cons,List.map_cons,Lib.join_cons,Lib.join_cons,List.map_append,List.map_cons,List.map_nil,QjB];simp
theorem QeC {m:Nat}:∀ {K:List ByteArray},(∀ x∈K,x.size<=m)->(QaM K).length<=K.length*(m+1):=by
 have ht:∀ r:List ByteArray,(∀ x∈r,x.size<=m)->(Lib.joinTail [44] (r.map toL)).length<=r.length*(m+1):=by
  intro r
  induction r with
  | nil=>intro _;simp [Lib.joinTail]
  | cons y r ih=>
   intro h;have h1:=h y List.mem_cons_self;have h2:=ih (fun x hx=>h x (List.mem_cons_of_mem _ hx));have e:Lib.joinTail [44] ((y :: r).map toL)=44 :: toL y ++ Lib.joinTail [44] (r.map toL):=by simp [Lib.joinTail]
   rw [e];simp only [List.length_append,List.length_cons,Qaq,Nat.add_mul];omega
 intro K h
 cases K with
 | nil=>simp [QaM,Lib.join]
 | cons y r=>
  have h1:=h y List.mem_cons_self;have h2:=ht r (fun x hx=>h x (List.mem_cons_of_mem _ hx));unfold QaM;rw [List.map_cons,Lib.join_cons];simp only [List.length_append,List.length_cons,Qaq,Nat.add_mul];omega
def QcT (name:ByteArray) (K:List ByteArray):List UInt8:=toL name ++ [123] ++ QaM K
def QpV (name:ByteArray) (K:List ByteArray):ByteArray:=⟨(QcT name K ++ [125]).toArray⟩
theorem Qjw (name:ByteArray) (K:List ByteArray):(QpV name K).size=name.size+(QaM K).length+2:=by
 rw [<- Qaq,QpV,Qa8];simp [QcT,Qaq];omega
def Qb2 (name:ByteArray) (L:List ByteArray):ByteArray:=if 8<(QdS L).length∨100<(QpV name (QdS L)).size then ByteArray.empty else QpV name (QdS L)
def Qas (w:World) (ao:Option Addr) (L:List ByteArray):Prop:=
 0<L.length->∃ b off,ao=some ⟨b,off,none⟩/\∀ i u,L[i]?=some u->w.cell? ⟨b,off+i,none⟩=some (.string u)
variable {w w':World}
variable {ao:Option Addr}
theorem Qay (h:Qas w ao L) (hb:Below w.heap.size w w'):Qas w' ao L:=fun h0=>by
 obtain ⟨b,off,e,hc⟩:=h h0;exact ⟨b,off,e,fun i u hi=>Qab hb (hc i u hi)⟩
variable {B k n:Nat}
theorem QdI {g cap:Nat} (h:w.ownsRow B 9 1 (.slice (some ⟨g,0,none⟩) L.length cap) L.length (L.map Value.string)):Qas w (some ⟨g,0,none⟩) L:=fun _=>
 ⟨g,0,rfl,fun i u hi=>by
  have hl:=(List.getElem?_eq_some_iff.1 hi).1;rw [Nat.zero_add,h.cellAt i (by omega)];simp [hi]⟩
def fillL (xs:List Value) (z:Value) (k:Nat):List Value:=xs.take k ++ List.replicate (xs.length - k) z
theorem Qf2:(prog.info? 9).map (fun i=>(i.zero,i.size,i.bytes))=some (some (.string ByteArray.empty),1,16):=by kernel_rfl
def Qhi (c:Int):Bool:=decide (97<=c) && decide (c<=122)
def Qoo (c:Int):Bool:=decide (48<=c) && decide (c<=57)
def nmB (c:Int):Bool:=Qhi c || Qoo c || c == 95 || c == 46
def QgV (s:ByteArray):Nat->Bool
 | 0=>true
 | n+1=>QgV s n && nmB (bt s n)
def QaE (s:ByteArray):Bool:=decide (1<=s.size) && decide (s.size<=40) && Qhi (bt s 0) && QgV s s.size
theorem Qaw {a b:Bool} (h:a=b):Ending.returned (.bool a)=.returned (.bool b):=by rw [h]
theorem QkJ {s:ByteArray} {k:Nat} (h:nmB (bt s k)=false):∀ n,k<n->QgV s n=false
 | 0,hk=>by omega
 | n+1,hk=>by
  unfold QgV;by_cases e:k=n
  ·subst e;rw [h];simp
  ·rw [QkJ h n (by omega)];simp
theorem Qe4 (c:Int) (w:World) :
  Calls prog 103 #[.int .u8 c] w fun e w'=>e=.returned (.bool (Qhi c))/\w'=w:=by
 by_cases h1:97<=c <;> by_cases h2:c<=122 <;> (go_enter func103,ntmps103;go_wp2;go_ret;exact ⟨by simp [Qhi,h1,h2],rfl⟩)
theorem Qon (c:Int) (w:World) :
  Calls prog 144 #[.int .u8 c] w fun e w'=>e=.returned (.bool (Qoo c))/\w'=w:=by
 by_cases h1:48<=c <;> by_cases h2:c<=57 <;> (go_enter func144,ntmps144;go_wp2;go_ret;exact ⟨by simp [Qoo,h1,h2],rfl⟩)
theorem Qb7 (c:Int) (w:World) :
  Calls prog 104 #[.int .u8 c] w fun e w'=>e=.returned (.bool (nmB c))/\w'=w:=by
 cases h1:Qhi c <;> cases h2:Qoo c <;> by_cases h3:c=95 <;> by_cases h4:c=46 <;>
 ·go_enter func104,ntmps104
  go_wp2_with (first
   | (go_at_call 103;refine (Qe4 _ _).mono ?_;rintro e w1 ⟨rfl,rfl⟩)
   | (go_at_call 144;refine (Qon _ _).mono ?_;rintro e w1 ⟨rfl,rfl⟩))
  all_goals (go_ret;exact ⟨by simp [nmB,h1,h2,h3,h4],rfl⟩)
theorem Qbg (s:ByteArray) (w:World) (hs:s.size<=maxLen) :
  Calls prog 71 #[.string s] w fun e w'=>e=.returned (.bool (QaE s))/\w'=w:=by
 unfold maxLen at hs;have ab:=get_bt s;by_cases h0:s.size<1
 ·have HN:Hid (QaE s=false):=(by unfold QaE;rw [show decide (1<=s.size)=false from decide_eq_false (by omega)];rfl:QaE s=false)
  have hi:((s.size:Int)<1):=by omega
  go_enter func71,ntmps71;go_wp2;go_ret;exact ⟨Qaw HN.out.symm,rfl⟩
 ·by_cases h1:40<s.size
  ·have HN:Hid (QaE s=false):=(by unfold QaE;rw [show decide (s.size<=40)=false from decide_eq_false (by omega)];simp:QaE s=false)
   have hi:¬ ((s.size:Int)<1):=by omega
   have hj:(40:Int)<(s.size:Int):=by omega
   go_enter func71,ntmps71;go_wp2;go_ret;exact ⟨Qaw HN.out.symm,rfl⟩
  ·have hi:¬ ((s.size:Int)<1):=by omega
   have hj:¬ (40:Int)<(s.size:Int):=by omega
   have hp:(0:Int)<(s.size:Int):=by omega
   cases hl:Qhi (bt s 0)
   ·have HN:Hid (QaE s=false):=(by unfold QaE;rw [hl];simp:QaE s=false)
    go_enter func71,ntmps71;go_wp2_with (go_at_call 103;refine (Qe4 _ _).mono ?_;rintro e w1 ⟨rfl,rfl⟩);go_ret;exact ⟨Qaw HN.out.symm,rfl⟩
   ·have HN:Hid (QaE s=QgV s s.size):=(by unfold QaE;rw [hl,show decide (1<=s.size)=true from decide_eq_true (by omega),show decide (s.size<=40)=true from decide_eq_true (by omega)];rfl:QaE s=QgV s s.size)
    go_enter func71,ntmps71;go_wp2_with (go_at_call 103;refine (Qe4 _ _).mono ?_;rintro e w1 ⟨rfl,rfl⟩)
    go_loop [20,3] (fun i _=>∃ k:Nat,k<=s.size/\i=.int .i64 k/\QgV s k=true) (fun i _=>s.size - (Go.RowKit.intOf i).toNat)
    case atStart=>exact ⟨0,Nat.zero_le _,rfl,rfl⟩
    case round=>
     obtain ⟨k,hk,rfl,ha⟩:=hrel;have HA:Hid (QgV s k=true):=ha;clear ha;by_cases aa:k<s.size
     ·cases hn:nmB (bt s k)
      ·have HB:Hid (QgV s s.size=false):=QkJ hn _ aa
       go_wp2_with (go_at_call 104;refine (Qb7 _ _).mono ?_;rintro e w1 ⟨rfl,rfl⟩);go_ret;exact ⟨Qaw (HN.out.trans HB).symm,rfl⟩
      ·have HB:Hid (QgV s (k+1)=true):=(by unfold QgV;rw [HA.out,hn];rfl:QgV s (k+1)=true)
       go_wp2_with (go_at_call 104;refine (Qb7 _ _).mono ?_;rintro e w1 ⟨rfl,rfl⟩)
       go_round
       case rel=>exact ⟨k+1,by omega,by go_num,HB⟩
       case measure=>simp [Go.RowKit.intOf];omega
     ·have e:k=s.size:=by omega
      have HB:Hid (QgV s s.size=true):=(by rw [<- e];exact HA.out:QgV s s.size=true);clear e;go_wp2;go_ret;exact ⟨Qaw (HN.out.trans HB).symm,rfl⟩
variable {c:Int}
theorem Qsf (h:97<=c) (k:c<=122):Qhi c=true:=by simp [Qhi,h,k]
theorem Qr3 (h:c<97∨122<c):Qhi c=false:=by
 unfold Qhi;rcases h with h | h
 ·rw [show decide (97<=c)=false from decide_eq_false (by omega)];rfl
 ·rw [show decide (c<=122)=false from decide_eq_false (by omega)];simp
theorem QrS (h:48<=c) (k:c<=57):Qoo c=true:=by simp [Qoo,h,k]
theorem Qsc (h:c<48∨57<c):Qoo c=false:=by
 unfold Qoo;rcases h with h | h
 ·rw [show decide (48<=c)=false from decide_eq_false (by omega)];rfl
 ·rw [show decide (c<=57)=false from decide_eq_false (by omega)];simp
theorem Qo1 (c:Int):(97<=c/\c<=122)∨((c<97∨122<c)/\((48<=c/\c<=57)∨c=95∨c=46∨((c<48∨57<c)/\(c == 95)=false/\(c == 46)=false))):=by
 by_cases a:97<=c/\c<=122
 ·exact .inl a
 ·refine .inr ⟨by omega,?_⟩
  by_cases b:48<=c/\c<=57
  ·exact .inl b
  ·by_cases d:c=95
   ·exact .inr (.inl d)
   ·by_cases e:c=46
    ·exact .inr (.inr (.inl e))
    ·exact .inr (.inr (.inr ⟨by omega,by simpa using d,by simpa using e⟩))
theorem nmB_l (h:Qhi c=true):nmB c=true:=by simp [nmB,h]
theorem nmB_d (h:Qoo c=true):nmB c=true:=by simp [nmB,h]
theorem nmB_95:nmB 95=true:=by decide
theorem nmB_46:nmB 46=true:=by decide
theorem nmB_n (h:Qhi c=false) (k:Qoo c=false) (d:(c == 95)=false) (e:(c == 46)=false):nmB c=false:=by simp [nmB,h,k,d,e]
theorem QkZ (h:Qhi (bt s 0)=false):QaE s=false:=by unfold QaE;rw [h];simp
theorem Qt5 (hk:k<s.size) (h:nmB (bt s k)=false):QaE s=false:=by unfold QaE;rw [QkJ h _ hk];simp
theorem QtG (h1:¬ s.size<1) (h2:¬ 40<s.size) (hl:Qhi (bt s 0)=true) (ha:QgV s s.size=true):QaE s=true:=by
 unfold QaE;rw [hl,ha,show decide (1<=s.size)=true from decide_eq_true (by omega),show decide (s.size<=40)=true from decide_eq_true (by omega)];rfl
theorem Qen (h:QgV s k=true) (hn:nmB (bt s k)=true):QgV s (k+1)=true:=by unfold QgV;rw [h,hn];rfl
theorem QaI (s:ByteArray) (w:World) (hs:s.size<=maxLen) :
  Calls prog 44 #[.string s] w fun e w'=>e=.returned (.bool (QaE s))/\w'=w:=by
 unfold maxLen at hs;have af:=get_bt s;by_cases h0:s.size<1
 ·have HN:Hid (QaE s=false):=(by unfold QaE;rw [show decide (1<=s.size)=false from decide_eq_false (by omega)];rfl:QaE s=false)
  have hi:((s.size:Int)<1):=by omega
  go_enter func44,ntmps44;go_wp2;go_ret;exact ⟨Qaw HN.out.symm,rfl⟩
 ·have hi:¬ ((s.size:Int)<1):=by omega
  by_cases h1:40<s.size
  ·have HN:Hid (QaE s=false):=(by unfold QaE;rw [show decide (s.size<=40)=false from decide_eq_false (by omega)];simp:QaE s=false)
   have hj:(40:Int)<(s.size:Int):=by omega
   go_enter func44,ntmps44;go_wp2;go_ret;exact ⟨Qaw HN.out.symm,rfl⟩
  ·have hj:¬ (40:Int)<(s.size:Int):=by omega
   go_enter func44,ntmps44;go_wp2
   go_loop [3,4] (fun i _=>∃ k:Nat,k<=s.size/\i=.int .i64 k/\QgV s k=true/\(k=0∨Qhi (bt s 0)=true)) (fun i _=>s.size - (Go.RowKit.intOf i).toNat)
   case atStart=>exact ⟨0,Nat.zero_le _,rfl,rfl,.inl rfl⟩
   case round=>
    obtain ⟨k,hk,rfl,ha,hl⟩:=hrel;have HA:Hid (QgV s k=true):=ha;have HL:Hid (k=0∨Qhi (bt s 0)=true):=hl;clear ha hl;by_cases ad:k<s.size
    ·rcases Qo1 (bt s k) with ⟨c1,c2⟩ | ⟨aa,ab⟩
     ·have HB:Hid (Qhi (bt s k)=true):=Qsf c1 c2
      go_wp2
      go_round
      case rel=>exact ⟨k+1,by omega,by go_num,Qen HA (nmB_l HB),.inr (by rcases HL.out with rfl | h;exact HB.out;exact h)⟩
      case measure=>simp [Go.RowKit.intOf];omega
     ·have HB:Hid (Qhi (bt s k)=false):=Qr3 aa
      rcases Nat.eq_zero_or_pos k with rfl | ae
      ·clear ab
       have g2:122<bt s 0->(decide (bt s 0<=122)=false/\97<=bt s 0):=fun h=>⟨decide_eq_false (by omega),by omega⟩;rcases aa with aa | aa
       ·clear g2
        go_wp2;go_ret;exact ⟨Qaw (QkZ HB).symm,rfl⟩
       ·obtain ⟨g3,g4⟩:=g2 aa
        clear g2;go_wp2;go_ret;exact ⟨Qaw (QkZ HB).symm,rfl⟩
      ·have ac:Hid (Qhi (bt s 0)=true):=by rcases HL.out with h | h;omega;exact h
       have ag:((k:Int) == 0)=false:=by simp;omega
       rcases ab with ⟨d1,d2⟩ | he | he | ⟨hd,e1,e2⟩
       ·have HD:Hid (Qoo (bt s k)=true):=QrS d1 d2
        clear aa;go_wp2
        go_round
        case rel=>exact ⟨k+1,by omega,by go_num,Qen HA (nmB_d HD),.inr ac⟩
        case measure=>simp [Go.RowKit.intOf];omega
       ·have HD:Hid (nmB (bt s k)=true):=(by rw [he];exact nmB_95:nmB (bt s k)=true)
        clear aa;go_wp2
        go_round
        case rel=>exact ⟨k+1,by omega,by go_num,Qen HA HD,.inr ac⟩
        case measure=>simp [Go.RowKit.intOf];omega
       ·have HD:Hid (nmB (bt s k)=true):=(by rw [he];exact nmB_46:nmB (bt s k)=true)
        clear aa;go_wp2
        go_round
        case rel=>exact ⟨k+1,by omega,by go_num,Qen HA HD,.inr ac⟩
        case measure=>simp [Go.RowKit.intOf];omega
       ·have HD:Hid (nmB (bt s k)=false):=nmB_n HB (Qsc hd) e1 e2
        have g1:(bt s k<97/\bt s k<48)∨(bt s k<97/\48<=bt s k/\decide (bt s k<=57)=false)∨(97<=bt s k/\decide (bt s k<=122)=false/\48<=bt s k/\decide (bt s k<=57)=false):=by
         simp only [decide_eq_false_iff_not];omega
        have n1:(bt s k != 95)=true:=by simpa using e1
        have n2:(bt s k != 46)=true:=by simpa using e2
        have n3:¬ bt s k=95:=by simpa using e1
        have n4:¬ bt s k=46:=by simpa using e2
        clear aa hd e1 e2;rcases g1 with ⟨g1,g2⟩ | ⟨g1,g2,g3⟩ | ⟨g1,g2,g3,g4⟩
        all_goals
         go_wp2;go_ret;exact ⟨Qaw (Qt5 ad HD).symm,rfl⟩
    ·have e:k=s.size:=by omega
     have HB:Hid (QaE s=true):=by
      subst e;refine QtG h0 h1 ?_ HA;rcases HL.out with h | h
      ·omega
      ·exact h
     clear e;go_wp2;go_ret;exact ⟨Qaw HB.out.symm,rfl⟩
def tgB (c:Int):Bool:=nmB c || c == 45 || c == 58
def QgU (s:ByteArray):Nat->Bool
 | 0=>true
 | n+1=>QgU s n && tgB (bt s n)
def Qbk (s:ByteArray):Bool:=decide (1<=s.size) && decide (s.size<=20) && QgU s s.size
theorem Qnb {s:ByteArray} {k:Nat} (h:tgB (bt s k)=false):∀ n,k<n->QgU s n=false
 | 0,hk=>by omega
 | n+1,hk=>by
  unfold QgU;by_cases e:k=n
  ·subst e;rw [h];simp
  ·rw [Qnb h n (by omega)];simp
theorem QbU (h:QgU s k=true) (hn:tgB (bt s k)=true):QgU s (k+1)=true:=by unfold QgU;rw [h,hn];rfl
theorem QrU (hk:k<s.size) (h:tgB (bt s k)=false):Qbk s=false:=by unfold Qbk;rw [Qnb h _ hk];simp
theorem Qob (h:s.size<1):Qbk s=false:=by unfold Qbk;rw [show decide (1<=s.size)=false from decide_eq_false (by omega)];rfl
theorem Qn2 (h:20<s.size):Qbk s=false:=by unfold Qbk;rw [show decide (s.size<=20)=false from decide_eq_false (by omega)];simp
theorem Qsd (h1:¬ s.size<1) (h2:¬ 20<s.size) (ha:QgU s s.size=true):Qbk s=true:=by
 unfold Qbk;rw [ha,show decide (1<=s.size)=true from decide_eq_true (by omega),show decide (s.size<=20)=true from decide_eq_true (by omega)];rfl
theorem tgB_45:tgB 45=true:=by decide
theorem Qsh:tgB 58=true:=by decide
theorem QsZ (h:nmB c=true):tgB c=true:=by simp [tgB,h]
theorem tgB_f (h:nmB c=false) (a:c≠45) (b:c≠58):tgB c=false:=by simp [tgB,h,a,b]
theorem Qfm (s:ByteArray) (w:World) (hs:s.size<=maxLen) :
  Calls prog 217 #[.string s] w fun e w'=>e=.returned (.bool (Qbk s))/\w'=w:=by
 unfold maxLen at hs;have ab:=get_bt s;by_cases h0:s.size<1
 ·have HN:Hid (Qbk s=false):=Qob h0
  have hi:((s.size:Int)<1):=by omega
  go_enter func217,ntmps217;go_wp2;go_ret;exact ⟨Qaw HN.out.symm,rfl⟩
 ·by_cases h1:20<s.size
  ·have HN:Hid (Qbk s=false):=Qn2 h1
   have hi:¬ ((s.size:Int)<1):=by omega
   have hj:(20:Int)<(s.size:Int):=by omega
   go_enter func217,ntmps217;go_wp2;go_ret;exact ⟨Qaw HN.out.symm,rfl⟩
  ·have hi:¬ ((s.size:Int)<1):=by omega
   have hj:¬ (20:Int)<(s.size:Int):=by omega
   go_enter func217,ntmps217;go_wp2
   go_loop [14,2] (fun i _=>∃ k:Nat,k<=s.size/\i=.int .i64 k/\QgU s k=true) (fun i _=>s.size - (Go.RowKit.intOf i).toNat)
   case atStart=>exact ⟨0,Nat.zero_le _,rfl,rfl⟩
   case round=>
    obtain ⟨k,hk,rfl,ha⟩:=hrel;have HA:Hid (QgU s k=true):=ha;clear ha;by_cases aa:k<s.size
    ·cases hn:nmB (bt s k)
     ·by_cases e1:bt s k=45
      ·have HB:Hid (QgU s (k+1)=true):=QbU HA (by rw [e1];exact tgB_45)
       go_wp2_with (go_at_call 104;refine (Qb7 _ _).mono ?_;rintro e w1 ⟨rfl,rfl⟩)
       go_round
       case rel=>exact ⟨k+1,by omega,by go_num,HB⟩
       case measure=>simp [Go.RowKit.intOf];omega
      ·by_cases e2:bt s k=58
       ·have HB:Hid (QgU s (k+1)=true):=QbU HA (by rw [e2];exact Qsh)
        go_wp2_with (go_at_call 104;refine (Qb7 _ _).mono ?_;rintro e w1 ⟨rfl,rfl⟩)
        go_round
        case rel=>exact ⟨k+1,by omega,by go_num,HB⟩
        case measure=>simp [Go.RowKit.intOf];omega
       ·have HB:Hid (Qbk s=false):=QrU aa (tgB_f hn e1 e2)
        have n1:(bt s k != 45)=true:=by simpa using e1
        have n2:(bt s k != 58)=true:=by simpa using e2
        go_wp2_with (go_at_call 104;refine (Qb7 _ _).mono ?_;rintro e w1 ⟨rfl,rfl⟩);go_ret;exact ⟨Qaw HB.out.symm,rfl⟩
     ·have HB:Hid (QgU s (k+1)=true):=QbU HA (QsZ hn)
      go_wp2_with (go_at_call 104;refine (Qb7 _ _).mono ?_;rintro e w1 ⟨rfl,rfl⟩)
      go_round
      case rel=>exact ⟨k+1,by omega,by go_num,HB⟩
      case measure=>simp [Go.RowKit.intOf];omega
    ·have e:k=s.size:=by omega
     have HB:Hid (Qbk s=true):=Qsd h0 h1 (by rw [<- e];exact HA.out);clear e;go_wp2;go_ret;exact ⟨Qaw HB.out.symm,rfl⟩
theorem Qrl (c:Int):(97<=c/\c<=122/\tgB c=true)∨((c<97∨122<c)/\((48<=c/\c<=58/\tgB c=true)∨(c=95/\tgB c=true)∨(c=46/\tgB c=true)∨(c=45/\tgB c=true)∨((c<48∨58<c)/\c≠95/\c≠46/\c≠45/\tgB c=false))):=by
 by_cases a:97<=c/\c<=122
 ·exact .inl ⟨a.1,a.2,QsZ (nmB_l (Qsf a.1 a.2))⟩
 ·have hl:Qhi c=false:=Qr3 (by omega)
  refine .inr ⟨by omega,?_⟩;by_cases b:48<=c/\c<=58
  ·refine .inl ⟨b.1,b.2,?_⟩
   by_cases b2:c=58
   ·rw [b2];exact Qsh
   ·exact QsZ (nmB_d (QrS b.1 (by omega)))
  ·by_cases d:c=95
   ·exact .inr (.inl ⟨d,by rw [d];decide⟩)
   ·by_cases e:c=46
    ·exact .inr (.inr (.inl ⟨e,by rw [e];decide⟩))
    ·by_cases f:c=45
     ·exact .inr (.inr (.inr (.inl ⟨f,by rw [f];decide⟩)))
     ·exact .inr (.inr (.inr (.inr ⟨by omega,d,e,f,tgB_f (nmB_n hl (Qsc (by omega)) (by simpa using d) (by simpa using e)) f (by omega)⟩)))
theorem Qbs (s:ByteArray) (w:World) (hs:s.size<=maxLen) :
  Calls prog 125 #[.string s] w fun e w'=>e=.returned (.bool (Qbk s))/\w'=w:=by
 unfold maxLen at hs;have ad:=get_bt s;go_enter func125,ntmps125;go_wp2
 go_loop [3,4] (fun i _=>∃ k:Nat,k<=s.size/\i=.int .i64 k/\QgU s k=true) (fun i _=>s.size - (Go.RowKit.intOf i).toNat)
 case atStart=>exact ⟨0,Nat.zero_le _,rfl,rfl⟩
 case round=>
  obtain ⟨k,hk,rfl,ha⟩:=hrel;have HA:Hid (QgU s k=true):=ha;clear ha;by_cases ac:k<s.size
  ·rcases Qrl (bt s k) with ⟨c1,c2,hn⟩ | ⟨aa,ab⟩
   ·have HB:Hid (QgU s (k+1)=true):=QbU HA hn
    clear hn;go_wp2
    go_round
    case rel=>exact ⟨k+1,by omega,by go_num,HB⟩
    case measure=>simp [Go.RowKit.intOf];omega
   ·rcases ab with ⟨d1,d2,hn⟩ | ⟨he,hn⟩ | ⟨he,hn⟩ | ⟨he,hn⟩ | ⟨hd,e1,e2,e3,hn⟩
    ·have HB:Hid (QgU s (k+1)=true):=QbU HA hn
     clear hn aa;go_wp2
     go_round
     case rel=>exact ⟨k+1,by omega,by go_num,HB⟩
     case measure=>simp [Go.RowKit.intOf];omega
    ·have HB:Hid (QgU s (k+1)=true):=QbU HA hn
     clear hn aa;go_wp2
     go_round
     case rel=>exact ⟨k+1,by omega,by go_num,HB⟩
     case measure=>simp [Go.RowKit.intOf];omega
    ·have HB:Hid (QgU s (k+1)=true):=QbU HA hn
     clear hn aa;go_wp2
     go_round
     case rel=>exact ⟨k+1,by omega,by go_num,HB⟩
     case measure=>simp [Go.RowKit.intOf];omega
    ·have HB:Hid (QgU s (k+1)=true):=QbU HA hn
     clear hn aa;go_wp2
     go_round
     case rel=>exact ⟨k+1,by omega,by go_num,HB⟩
     case measure=>simp [Go.RowKit.intOf];omega
    ·have HD:Hid (Qbk s=false):=QrU ac hn
     have g1:(bt s k<97/\bt s k<48)∨(bt s k<97/\48<=bt s k/\decide (bt s k<=58)=false)∨(97<=bt s k/\decide (bt s k<=122)=false/\48<=bt s k/\decide (bt s k<=58)=false):=by
      simp only [decide_eq_false_iff_not];omega
     have n3:¬ bt s k=95:=e1;have n4:¬ bt s k=46:=e2;have n5:¬ bt s k=45:=e3;have m1:(bt s k == 95)=false:=by simpa using e1
     have m2:(bt s k == 46)=false:=by simpa using e2
     have m3:(bt s k == 45)=false:=by simpa using e3
     clear aa hd hn e1 e2 e3;rcases g1 with ⟨g1,g2⟩ | ⟨g1,g2,g3⟩ | ⟨g1,g2,g3,g4⟩
     all_goals
      go_wp2;go_ret;exact ⟨Qaw HD.out.symm,rfl⟩
  ·have e:k=s.size:=by omega
   by_cases h0:s.size<1
   ·have HB:Hid (Qbk s=false):=Qob h0
    have hi:¬ (1:Int)<=(s.size:Int):=by omega
    clear e;go_wp2;go_ret;exact ⟨Qaw HB.out.symm,rfl⟩
   ·have hi:(1:Int)<=(s.size:Int):=by omega
    by_cases h1:20<s.size
    ·have HB:Hid (Qbk s=false):=Qn2 h1
     have hj:¬ (s.size:Int)<=20:=by omega
     clear e;go_wp2;go_ret;exact ⟨Qaw HB.out.symm,rfl⟩
    ·have HB:Hid (Qbk s=true):=Qsd h0 h1 (by rw [<- e];exact HA.out)
     have hj:(s.size:Int)<=20:=by omega
     clear e;go_wp2;go_ret;exact ⟨Qaw HB.out.symm,rfl⟩
theorem Qad {P:Program} (w:World) {ops:Array Oper} {rest:List Oper} {o:Oper} {a:Act} {Q:Exit->Act->World->Prop} (hgd:o.guard=none) (s x:Operand) (t:TypeId)
  (ho:o.op=.call { callee:=.builtin .append,args:=#[s,x],argTypes:=#[t,t] })
  (base:Nat) (e:TypeId) (i:TypeInfo) (z:Value) (size bytes:Nat) (ht:P.underlying t=some (.slice e)) (hi:P.info? e=some i) (hz:i.zero=some z)
  (hsize:i.size=size) (hby:i.bytes=bytes) (hzs:z.cells.size=size) (hsz:0<size)
  (v:Value) (n:Nat) (xs:List Value) (hs:a.eval s=v) (hown:w.ownsRow base e size v n xs)
  (xo:Option Addr) (m c:Nat) (news:List Value) (hx:a.eval x=.slice xo m c) (hl:news.length=m*size) (hno:xo=none->m=0/\c=0) (hnews:∀ ad,xo=some ad->∀ j u,news[j]?=some u->w.cell? (ad.add j)=some u) (h1:∀ u∈news,u.oneCell'=true)
  (h63:n+m<=maxLen) (hbytes:(n+m)*bytes<=140737488355328) (hbase:base<=w.heap.size)
  (h:∀ v' w',w'.ownsRow base e size v' (n+m) (xs ++ news)->w.grownBy w' v.ownBlock->(v'=.slice none 0 0↔v=.slice none 0 0/\m=0)->wpList P ops Q rest (a.put o.dst v') w'):wpList P ops Q (o :: rest) a w:=by
 cases xo with
 | some ad=>exact wpList_append_own w hgd s x t ho base e i z size bytes ht hi hz hsize hby hzs hsz v n xs hs hown ad m c news hx hl (hnews ad rfl) h1 h63 hbytes hbase h
 | none=>
  obtain ⟨rfl,rfl⟩:=hno rfl;obtain rfl:news=[]:=List.eq_nil_of_length_eq_zero (by rw [hl,Nat.zero_mul]);refine wpList_plain hgd fun _ hK=>?_;have hr:=run_append_owned_none (P:=P) (w:=w) base t o.type e i size ht hi v n xs hown;unfold Oper.wp execOp;simp only [ho,resolve,invoke,builtin,Sem.run_bind,Sem.run_pure,Result.andThen_ok,List.map_toArray,List.map_cons,List.map_nil,hs,hx,hr];exact hK _ _ (h v w (by rw [Nat.add_zero,List.append_nil];exact hown) (World.grownBy.refl _ _) (by simp))
theorem Qtf (t:TypeId) (a b:ByteArray):binOp .lss t (.string a) (.string b)=pure (.bool (QaJ a b)):=by simp [binOp,Op.stringOp,QaJ]
set_option maxRecDepth 10000
def OwnT (w:World) (B:Nat) (v:Value) (L:List ByteArray):Prop:=w.ownsRow B 9 1 v L.length (L.map Value.string)
variable {v:Value}
theorem OwnT.past (h:OwnT w B v L) (hb:Below w.heap.size w w'):OwnT w' B v L:=QaY h hb
theorem OwnT.at {c:Nat} (h:OwnT w B (.slice ao n c) L):Qas w ao L:=fun h0=>by
 rcases h.2 with ⟨e,h1⟩ | ⟨g,cap,cur,e,_⟩
 ·omega
 ·cases e
  exact QdI h h0
theorem OwnT.cap {c:Nat} (h:OwnT w B (.slice ao n c) L):n=L.length/\n<=c/\c<=maxLen/\(ao=none->c=0):=by
 rcases h.2 with ⟨e,h1⟩ | ⟨g,cap,aa,e,_,_,h2,h3,_⟩
 ·cases e;exact ⟨h1.symm,Nat.le_refl _,Nat.zero_le _,fun _=>rfl⟩
 ·cases e;exact ⟨rfl,h2,h3,fun e=>by cases e⟩
theorem Qcj {A:Addr} (h:Qas w (some A) L):∀ j u,(L.map Value.string)[j]?=some u->w.cell? (A.add j)=some u:=fun j u hj=>by
 rw [List.getElem?_map] at hj
 cases hx:L[j]? with
 | none=>rw [hx] at hj;cases hj
 | some x=>
  rw [hx] at hj;obtain rfl:=Option.some.inj hj;obtain ⟨b,off,e,hc⟩:=h (by have:=(List.getElem?_eq_some_iff.1 hx).1;omega)
  cases e
  have:=hc j x hx
  rwa [show (⟨b,off,none⟩:Addr).add j=⟨b,off+j,none⟩ from by unfold Addr.add;split <;> simp_all]
theorem Qdg (k:Nat) (h:Qas w ao L):Qas w ao (L.take k):=fun h0=>by
 obtain ⟨b',off',e,hc⟩:=h (by rw [List.length_take] at h0;omega);exact ⟨b',off',e,fun i x hx=>hc i x (by rw [List.getElem?_take] at hx;split at hx;exact hx;cases hx)⟩
theorem Qi9 {b off:Nat} (k:Nat) (h:Qas w (some ⟨b,off,none⟩) L):Qas w (some ⟨b,off+k,none⟩) (L.drop k):=fun h0=>by
 obtain ⟨b',off',e,hc⟩:=h (by rw [List.length_drop] at h0;omega)
 cases e
 exact ⟨b,off+k,rfl,fun i x hx=>by
  rw [List.getElem?_drop] at hx;have:=hc (k+i) x hx
  rwa [Nat.add_assoc]⟩
theorem QaS (L:List ByteArray):∀ u∈L.map Value.string,u.oneCell'=true:=fun u hu=>by
 obtain ⟨x,_,rfl⟩:=List.mem_map.1 hu;rfl
def Qhx (L:List ByteArray) (p:ByteArray) (k:Nat):Prop:=k<=L.length/\(∀ (t:Nat) (x:ByteArray),L[t]?=some x->t<k->QaJ x p=true)/\∀ x,L[k]?=some x->QaJ x p=false
theorem QgK {y:ByteArray} {r:List ByteArray} {p:ByteArray} (h:Qhx (y :: r) p (k+1)):Qhx r p k:=
 ⟨by have:=h.1;simp at this;exact this,fun t x hx ht=>h.2.1 (t+1) x (by simpa using hx) (by omega),fun x hx=>h.2.2 x (by simpa using hx)⟩
theorem QnW {a:ByteArray}:∀ (L:List ByteArray) (k:Nat),Qhx L a k->L[k]?=some a->QcC L a=L.take k ++ [a] ++ L.drop (k+1)
 | [],k,_,h=>by simp at h
 | y :: r,0,hp,h=>by
  obtain rfl:y=a:=by simpa using h
  have:QaJ y y=false:=Qb9 y;simp [QcC,this]
 | y :: r,k+1,hp,h=>by
  have hy:=hp.2.1 0 y rfl (by omega);rw [QcC,if_pos hy,QnW r k (QgK hp) (by simpa using h)];simp
theorem QhT {a:ByteArray}:∀ (L:List ByteArray) (k:Nat),Qhx L a k->(∀ x,L[k]?=some x->x≠a)->QcC L a=L.take k ++ [a] ++ L.drop k
 | [],k,hp,h=>by have:=hp.1;simp at this;subst this;rfl
 | y :: r,0,hp,h=>by
  have hy:=hp.2.2 y rfl;have hne:y≠a:=h y rfl;rw [QcC,if_neg (by rw [hy];decide),if_neg hne];rfl
 | y :: r,k+1,hp,h=>by
  have hy:=hp.2.1 0 y rfl (by omega);rw [QcC,if_pos hy,QhT r k (QgK hp) (fun x hx=>h x (by simpa using hx))];simp
variable {xs:List Value}
theorem OwnT.of (h:w.ownsRow B 9 1 v n xs) (e:xs=L.map Value.string):OwnT w B v L:=by
 have hl:=h.1;subst e;rw [List.length_map,Nat.mul_one] at hl;unfold OwnT;rw [hl];exact h
theorem QdJ (h:OwnT w B v L):∃ ao c,v=.slice ao L.length c:=Qan h
theorem Qhs {c:Nat} (a:ByteArray) (hn:L.length=n) (hl:n<=100000) (hcap:n<=c) (hcm:c<=maxLen) (hno:ao=none->c=0) (hA:Qas w ao L) :
  Calls prog 47 #[.slice ao n c,.string a] w fun e w'=>∃ v,e=.returned v/\OwnT w' w.heap.size v (QcC L a)/\Below w.heap.size w w':=by
 obtain ⟨i0,hi,ae,af,ad⟩:=info_parts Qf2;have aF:=Qtf 9;have HA:=Qaa hA;have HN:=Qaa hn;have ay:=Qaa hno;unfold maxLen at hcm;clear hA hn hno;go_enter func47,ntmps47;go_wp2
 go_loop [5] (fun i=>∃ k:Nat,k<=n/\i=.int .i64 k/\Hid (∀ (t:Nat) (x:ByteArray),L[t]?=some x->t<k->QaJ x a=true)) (fun i=>n - (Go.RowKit.intOf i).toNat)
 case atStart=>exact ⟨0,Nat.zero_le _,rfl,(fun t x _ h=>absurd h (by omega):∀ (t:Nat) (x:ByteArray),L[t]?=some x->t<0->QaJ x a=true)⟩
 case round=>
  obtain ⟨k,hk,rfl,HF⟩:=hrel
  have ag:k<n->∃ b ah y,ao=some ⟨b,ah,none⟩/\L[k]?=some y/\w.cell? ⟨b,ah+k,none⟩=some (.string y):=fun h=>by
   obtain ⟨b,ah,e,al⟩:=HA.out (by have:=HN.out;omega);obtain ⟨y,hy⟩:∃ y,L[k]?=some y:=⟨L[k]'(by have:=HN.out;omega),List.getElem?_eq_getElem _⟩;exact ⟨b,ah,y,e,hy,al k y hy⟩
  by_cases aA:k<n
  ·obtain ⟨b,ah,q,rfl,an,ai⟩:=ag aA
   cases hlt:QaJ q a with
   | true=>
    have az:Hid (∀ (t:Nat) (x:ByteArray),L[t]?=some x->t<k+1->QaJ x a=true):=(fun t z hz ht=>by
     by_cases e:t=k
     ·subst e;rw [an] at hz;obtain rfl:=Option.some.inj hz;exact hlt
     ·exact HF.out t z hz (by omega):∀ (t:Nat) (x:ByteArray),L[t]?=some x->t<k+1->QaJ x a=true)
    clear an ag;go_wp2
    go_round
    case rel=>exact ⟨k+1,by omega,by go_num,az⟩
    case measure=>simp [Go.RowKit.intOf];omega
   | false=>
    have HK:Hid (Qhx L a k):=(⟨by have:=HN.out;omega,HF,fun z hz=>by rw [an] at hz;obtain rfl:=Option.some.inj hz;exact hlt⟩:Qhx L a k);have ar:=Qaa an;clear an ag HF
    cases heq:(q.toList == a.toList) with
    | true=>
     have ap:a=q:=(QgC heq).symm;subst ap;have aD:IntKind.i64.wrap ((k:Int)+1)=(k:Int)+1:=by rw [IntKind.wrap_i64];omega
     have aE:((k:Int)+1).toNat=k+1:=by omega
     have aG:(0:Int)<=(k:Int)+1:=by omega
     have aC:(k:Int)+1<=(n:Int):=by omega
     have HE:Hid (QcC L a=L.take k ++ [a] ++ L.drop (k+1)):=QnW L k HK ar;by_cases ax:c=k+1
     ·subst ax
      have aw:n=k+1:=by omega
      have aH:k+1 - (k+1)=0:=by omega
      subst aw
      go_wp2_with (first
       | (at_builtin;refine Qad _ rfl (.tmp 21) (.tmp 24) 57 rfl w.heap.size 9 i0 (.string ByteArray.empty) 1 16 underlying57 hi ae af ad rfl (by decide) _ _ _ rfl (World.ownsRow_made _ #[] 0 (Nat.le_refl _) (Nat.zero_le _) rfl) (some ⟨b,ah,none⟩) k (k+1) ((L.take k).map Value.string) rfl (by rw [List.length_map,List.length_take];have:=HN.out;omega) (fun e=>by cases e) (fun A e=>by cases e;exact Qcj (Qay (Qdg _ HA) ((Below.refl _ _).alloc (Nat.le_refl _) _))) (QaS _) (by unfold maxLen;omega) (by omega) (by simp) ?_;intro v1 w1 ab aa ac;simp only [Nat.zero_add,List.nil_append] at ab;obtain ⟨ak,c1,rfl⟩:=Qan ab;have O1:=Qaa ab;have B1:=Qaa (((Below.refl w.heap.size w).alloc (Nat.le_refl _) _).grown aa (by simp) (fun j hj=>by cases hj;exact Nat.le_refl _));have y0:=Qab B1 ai;clear ab aa ac)
       | (at_builtin;refine wpList_append_own _ rfl (.tmp 26) (.tmp 28) 57 rfl w.heap.size 9 i0 (.string ByteArray.empty) 1 16 underlying57 hi ae af ad rfl (by decide) _ _ _ rfl (QaY O1 ((Below.refl _ _).alloc (Nat.le_refl _) _)) ⟨w1.heap.size,0,none⟩ 1 1 [.string a] rfl rfl (Qau (cs:=#[.string a]) rfl) (QaS [a]) (by unfold maxLen;omega) (by omega) (by simp;have:=B1.out.size;omega) ?_;intro v2 w2 ab aa ac;obtain ⟨am,c2,rfl⟩:=Qan ab;have O2:=Qaa ab;have B2:=Qaa ((B1.out.alloc B1.out.size _).grown aa (by simp;have:=B1.out.size;omega) (fun j hj=>(O1.out.lt j hj).1));have y2:=Qab B2 ai;clear ab aa ac)
       | (at_builtin;refine Qad _ rfl (.tmp 44) (.tmp 47) 57 rfl w.heap.size 9 i0 (.string ByteArray.empty) 1 16 underlying57 hi ae af ad rfl (by decide) _ _ _ rfl O2 (some ⟨b,ah,none⟩) 0 0 [] rfl rfl (fun e=>by cases e) (fun A _ j z hz=>by simp at hz) (by first | exact QaS _ | exact fun u hu=>absurd hu List.not_mem_nil) (by unfold maxLen;omega) (by omega) (by have:=B2.out.size;omega) ?_;intro v3 w3 ab aa ac;obtain ⟨aj,c3,rfl⟩:=Qan ab;have O3:=Qaa ab;have B3:=Qaa (B2.out.grown aa B2.out.size (fun j hj=>(O2.out.lt j hj).1));clear ab aa ac))
      all_goals
       go_ret;refine ⟨_,rfl,OwnT.of O3 ?_,B3⟩;rw [HE.out]
       try rw [List.drop_eq_nil_of_le (by have:=HN.out;omega)]
       simp
     ·skip
      go_wp2_with (first
       | (at_builtin;refine Qad _ rfl (.tmp 21) (.tmp 24) 57 rfl w.heap.size 9 i0 (.string ByteArray.empty) 1 16 underlying57 hi ae af ad rfl (by decide) _ _ _ rfl (World.ownsRow_made _ #[] 0 (Nat.le_refl _) (Nat.zero_le _) rfl) (some ⟨b,ah,none⟩) k c ((L.take k).map Value.string) rfl (by rw [List.length_map,List.length_take];have:=HN.out;omega) (fun e=>by cases e) (fun A e=>by cases e;exact Qcj (Qay (Qdg _ HA) ((Below.refl _ _).alloc (Nat.le_refl _) _))) (QaS _) (by unfold maxLen;omega) (by omega) (by simp) ?_;intro v1 w1 ab aa ac;simp only [Nat.zero_add,List.nil_append] at ab;obtain ⟨ak,c1,rfl⟩:=Qan ab;have O1:=Qaa ab;have B1:=Qaa (((Below.refl w.heap.size w).alloc (Nat.le_refl _) _).grown aa (by simp) (fun j hj=>by cases hj;exact Nat.le_refl _));have y0:=Qab B1 ai;clear ab aa ac)
       | (at_builtin;refine wpList_append_own _ rfl (.tmp 26) (.tmp 28) 57 rfl w.heap.size 9 i0 (.string ByteArray.empty) 1 16 underlying57 hi ae af ad rfl (by decide) _ _ _ rfl (QaY O1 ((Below.refl _ _).alloc (Nat.le_refl _) _)) ⟨w1.heap.size,0,none⟩ 1 1 [.string a] rfl rfl (Qau (cs:=#[.string a]) rfl) (QaS [a]) (by unfold maxLen;omega) (by omega) (by simp;have:=B1.out.size;omega) ?_;intro v2 w2 ab aa ac;obtain ⟨am,c2,rfl⟩:=Qan ab;have O2:=Qaa ab;have B2:=Qaa ((B1.out.alloc B1.out.size _).grown aa (by simp;have:=B1.out.size;omega) (fun j hj=>(O1.out.lt j hj).1));have y2:=Qab B2 ai;clear ab aa ac)
       | (at_builtin;refine Qad _ rfl (.tmp 44) (.tmp 47) 57 rfl w.heap.size 9 i0 (.string ByteArray.empty) 1 16 underlying57 hi ae af ad rfl (by decide) _ _ _ rfl O2 (some ⟨b,ah+(k+1),none⟩) (n - (k+1)) (c - (k+1)) ((L.drop (k+1)).map Value.string) rfl (by rw [List.length_map,List.length_drop];have:=HN.out;omega) (fun e=>by cases e) (fun A e=>by cases e;exact Qcj (Qay (Qi9 (k+1) HA) B2)) (by first | exact QaS _ | exact fun u hu=>absurd hu List.not_mem_nil) (by unfold maxLen;omega) (by omega) (by have:=B2.out.size;omega) ?_;intro v3 w3 ab aa ac;obtain ⟨aj,c3,rfl⟩:=Qan ab;have O3:=Qaa ab;have B3:=Qaa (B2.out.grown aa B2.out.size (fun j hj=>(O2.out.lt j hj).1));clear ab aa ac))
      all_goals
       go_ret;refine ⟨_,rfl,OwnT.of O3 ?_,B3⟩;rw [HE.out]
       try rw [List.drop_eq_nil_of_le (by have:=HN.out;omega)]
       simp
    | false=>
     have av:∀ z,L[k]?=some z->z≠a:=fun z hz e=>by
      rw [ar.out] at hz;obtain rfl:=Option.some.inj hz;subst e;simp at heq
     have HE:Hid (QcC L a=L.take k ++ [a] ++ L.drop k):=QhT L k HK av;clear av;have au:¬ (c=k):=by omega
     go_wp2_with (first
      | (at_builtin;refine Qad _ rfl (.tmp 21) (.tmp 24) 57 rfl w.heap.size 9 i0 (.string ByteArray.empty) 1 16 underlying57 hi ae af ad rfl (by decide) _ _ _ rfl (World.ownsRow_made _ #[] 0 (Nat.le_refl _) (Nat.zero_le _) rfl) (some ⟨b,ah,none⟩) k c ((L.take k).map Value.string) rfl (by rw [List.length_map,List.length_take];have:=HN.out;omega) (fun e=>by cases e) (fun A e=>by cases e;exact Qcj (Qay (Qdg _ HA) ((Below.refl _ _).alloc (Nat.le_refl _) _))) (QaS _) (by unfold maxLen;omega) (by omega) (by simp) ?_;intro v1 w1 ab aa ac;simp only [Nat.zero_add,List.nil_append] at ab;obtain ⟨ak,c1,rfl⟩:=Qan ab;have O1:=Qaa ab;have B1:=Qaa (((Below.refl w.heap.size w).alloc (Nat.le_refl _) _).grown aa (by simp) (fun j hj=>by cases hj;exact Nat.le_refl _));have y0:=Qab B1 ai;clear ab aa ac)
      | (at_builtin;refine wpList_append_own _ rfl (.tmp 26) (.tmp 28) 57 rfl w.heap.size 9 i0 (.string ByteArray.empty) 1 16 underlying57 hi ae af ad rfl (by decide) _ _ _ rfl (QaY O1 ((Below.refl _ _).alloc (Nat.le_refl _) _)) ⟨w1.heap.size,0,none⟩ 1 1 [.string a] rfl rfl (Qau (cs:=#[.string a]) rfl) (QaS [a]) (by unfold maxLen;omega) (by omega) (by simp;have:=B1.out.size;omega) ?_;intro v2 w2 ab aa ac;obtain ⟨am,c2,rfl⟩:=Qan ab;have O2:=Qaa ab;have B2:=Qaa ((B1.out.alloc B1.out.size _).grown aa (by simp;have:=B1.out.size;omega) (fun j hj=>(O1.out.lt j hj).1));have y2:=Qab B2 ai;clear ab aa ac)
      | (at_builtin;refine Qad _ rfl (.tmp 44) (.tmp 47) 57 rfl w.heap.size 9 i0 (.string ByteArray.empty) 1 16 underlying57 hi ae af ad rfl (by decide) _ _ _ rfl O2 (some ⟨b,ah+k,none⟩) (n - k) (c - k) ((L.drop k).map Value.string) rfl (by rw [List.length_map,List.length_drop];have:=HN.out;omega) (fun e=>by cases e) (fun A e=>by cases e;exact Qcj (Qay (Qi9 k HA) B2)) (by first | exact QaS _ | exact fun u hu=>absurd hu List.not_mem_nil) (by unfold maxLen;omega) (by omega) (by have:=B2.out.size;omega) ?_;intro v3 w3 ab aa ac;obtain ⟨aj,c3,rfl⟩:=Qan ab;have O3:=Qaa ab;have B3:=Qaa (B2.out.grown aa B2.out.size (fun j hj=>(O2.out.lt j hj).1));clear ab aa ac))
     all_goals
      go_ret;refine ⟨_,rfl,OwnT.of O3 ?_,B3⟩;rw [HE.out]
      try rw [List.drop_eq_nil_of_le (by have:=HN.out;omega)]
      simp
  ·have aq:k=n:=by omega
   subst aq;have HE:Hid (QcC L a=L.take k ++ [a] ++ L.drop k):=QhT L k ⟨by have:=HN.out;omega,HF,fun z hz=>absurd (List.getElem?_eq_some_iff.1 hz).1 (by have:=HN.out;omega)⟩ (fun z hz=>absurd (List.getElem?_eq_some_iff.1 hz).1 (by have:=HN.out;omega));clear ag HF
   cases ao with
   | none=>
    have h0:c=0:=ay.out rfl;subst h0;have aB:k=0:=by omega
    subst aB
    go_wp2_with (first
     | (at_builtin;refine Qad _ rfl (.tmp 21) (.tmp 24) 57 rfl w.heap.size 9 i0 (.string ByteArray.empty) 1 16 underlying57 hi ae af ad rfl (by decide) _ _ _ rfl (World.ownsRow_made _ #[] 0 (Nat.le_refl _) (Nat.zero_le _) rfl) none 0 0 ((L.take 0).map Value.string) rfl (by rw [List.length_map,List.length_take];have:=HN.out;omega) (fun e=>⟨rfl,rfl⟩) (fun A e=>by cases e) (QaS _) (by unfold maxLen;omega) (by omega) (by simp) ?_;intro v1 w1 ab aa ac;simp only [Nat.zero_add,List.nil_append] at ab;obtain ⟨ak,c1,rfl⟩:=Qan ab;have O1:=Qaa ab;have B1:=Qaa (((Below.refl w.heap.size w).alloc (Nat.le_refl _) _).grown aa (by simp) (fun j hj=>by cases hj;exact Nat.le_refl _));clear ab aa ac)
     | (at_builtin;refine wpList_append_own _ rfl (.tmp 26) (.tmp 28) 57 rfl w.heap.size 9 i0 (.string ByteArray.empty) 1 16 underlying57 hi ae af ad rfl (by decide) _ _ _ rfl (QaY O1 ((Below.refl _ _).alloc (Nat.le_refl _) _)) ⟨w1.heap.size,0,none⟩ 1 1 [.string a] rfl rfl (Qau (cs:=#[.string a]) rfl) (QaS [a]) (by unfold maxLen;omega) (by omega) (by simp;have:=B1.out.size;omega) ?_;intro v2 w2 ab aa ac;obtain ⟨am,c2,rfl⟩:=Qan ab;have O2:=Qaa ab;have B2:=Qaa ((B1.out.alloc B1.out.size _).grown aa (by simp;have:=B1.out.size;omega) (fun j hj=>(O1.out.lt j hj).1));clear ab aa ac)
     | (at_builtin;refine Qad _ rfl (.tmp 44) (.tmp 47) 57 rfl w.heap.size 9 i0 (.string ByteArray.empty) 1 16 underlying57 hi ae af ad rfl (by decide) _ _ _ rfl O2 none 0 0 [] rfl rfl (fun e=>⟨rfl,rfl⟩) (fun A e=>by cases e) (by first | exact QaS _ | exact fun u hu=>absurd hu List.not_mem_nil) (by unfold maxLen;omega) (by omega) (by have:=B2.out.size;omega) ?_;intro v3 w3 ab aa ac;obtain ⟨aj,c3,rfl⟩:=Qan ab;have O3:=Qaa ab;have B3:=Qaa (B2.out.grown aa B2.out.size (fun j hj=>(O2.out.lt j hj).1));clear ab aa ac))
    all_goals
     go_ret;refine ⟨_,rfl,OwnT.of O3 ?_,B3⟩;rw [HE.out]
     try rw [List.drop_eq_nil_of_le (by have:=HN.out;omega)]
     simp
   | some A=>
    by_cases au:c=k
    ·subst au
     go_wp2_with (first
      | (at_builtin;refine Qad _ rfl (.tmp 21) (.tmp 24) 57 rfl w.heap.size 9 i0 (.string ByteArray.empty) 1 16 underlying57 hi ae af ad rfl (by decide) _ _ _ rfl (World.ownsRow_made _ #[] 0 (Nat.le_refl _) (Nat.zero_le _) rfl) (some A) c c ((L.take c).map Value.string) rfl (by rw [List.length_map,List.length_take];have:=HN.out;omega) (fun e=>by cases e) (fun A e=>by cases e;exact Qcj (Qay (Qdg _ HA) ((Below.refl _ _).alloc (Nat.le_refl _) _))) (QaS _) (by unfold maxLen;omega) (by omega) (by simp) ?_;intro v1 w1 ab aa ac;simp only [Nat.zero_add,List.nil_append] at ab;obtain ⟨ak,c1,rfl⟩:=Qan ab;have O1:=Qaa ab;have B1:=Qaa (((Below.refl w.heap.size w).alloc (Nat.le_refl _) _).grown aa (by simp) (fun j hj=>by cases hj;exact Nat.le_refl _));clear ab aa ac)
      | (at_builtin;refine wpList_append_own _ rfl (.tmp 26) (.tmp 28) 57 rfl w.heap.size 9 i0 (.string ByteArray.empty) 1 16 underlying57 hi ae af ad rfl (by decide) _ _ _ rfl (QaY O1 ((Below.refl _ _).alloc (Nat.le_refl _) _)) ⟨w1.heap.size,0,none⟩ 1 1 [.string a] rfl rfl (Qau (cs:=#[.string a]) rfl) (QaS [a]) (by unfold maxLen;omega) (by omega) (by simp;have:=B1.out.size;omega) ?_;intro v2 w2 ab aa ac;obtain ⟨am,c2,rfl⟩:=Qan ab;have O2:=Qaa ab;have B2:=Qaa ((B1.out.alloc B1.out.size _).grown aa (by simp;have:=B1.out.size;omega) (fun j hj=>(O1.out.lt j hj).1));clear ab aa ac)
      | (at_builtin;refine Qad _ rfl (.tmp 44) (.tmp 47) 57 rfl w.heap.size 9 i0 (.string ByteArray.empty) 1 16 underlying57 hi ae af ad rfl (by decide) _ _ _ rfl O2 _ 0 _ [] rfl rfl (fun e=>by cases e) (fun A _ j z hz=>by simp at hz) (by first | exact QaS _ | exact fun u hu=>absurd hu List.not_mem_nil) (by unfold maxLen;omega) (by omega) (by have:=B2.out.size;omega) ?_;intro v3 w3 ab aa ac;obtain ⟨aj,c3,rfl⟩:=Qan ab;have O3:=Qaa ab;have B3:=Qaa (B2.out.grown aa B2.out.size (fun j hj=>(O2.out.lt j hj).1));clear ab aa ac))
     all_goals
      go_ret;refine ⟨_,rfl,OwnT.of O3 ?_,B3⟩;rw [HE.out]
      try rw [List.drop_eq_nil_of_le (by have:=HN.out;omega)]
      simp
    ·skip
     go_wp2_with (first
      | (at_builtin;refine Qad _ rfl (.tmp 21) (.tmp 24) 57 rfl w.heap.size 9 i0 (.string ByteArray.empty) 1 16 underlying57 hi ae af ad rfl (by decide) _ _ _ rfl (World.ownsRow_made _ #[] 0 (Nat.le_refl _) (Nat.zero_le _) rfl) (some A) k c ((L.take k).map Value.string) rfl (by rw [List.length_map,List.length_take];have:=HN.out;omega) (fun e=>by cases e) (fun A e=>by cases e;exact Qcj (Qay (Qdg _ HA) ((Below.refl _ _).alloc (Nat.le_refl _) _))) (QaS _) (by unfold maxLen;omega) (by omega) (by simp) ?_;intro v1 w1 ab aa ac;simp only [Nat.zero_add,List.nil_append] at ab;obtain ⟨ak,c1,rfl⟩:=Qan ab;have O1:=Qaa ab;have B1:=Qaa (((Below.refl w.heap.size w).alloc (Nat.le_refl _) _).grown aa (by simp) (fun j hj=>by cases hj;exact Nat.le_refl _));clear ab aa ac)
      | (at_builtin;refine wpList_append_own _ rfl (.tmp 26) (.tmp 28) 57 rfl w.heap.size 9 i0 (.string ByteArray.empty) 1 16 underlying57 hi ae af ad rfl (by decide) _ _ _ rfl (QaY O1 ((Below.refl _ _).alloc (Nat.le_refl _) _)) ⟨w1.heap.size,0,none⟩ 1 1 [.string a] rfl rfl (Qau (cs:=#[.string a]) rfl) (QaS [a]) (by unfold maxLen;omega) (by omega) (by simp;have:=B1.out.size;omega) ?_;intro v2 w2 ab aa ac;obtain ⟨am,c2,rfl⟩:=Qan ab;have O2:=Qaa ab;have B2:=Qaa ((B1.out.alloc B1.out.size _).grown aa (by simp;have:=B1.out.size;omega) (fun j hj=>(O1.out.lt j hj).1));clear ab aa ac)
      | (at_builtin;refine Qad _ rfl (.tmp 44) (.tmp 47) 57 rfl w.heap.size 9 i0 (.string ByteArray.empty) 1 16 underlying57 hi ae af ad rfl (by decide) _ _ _ rfl O2 _ 0 _ [] rfl rfl (fun e=>by cases e) (fun A _ j z hz=>by simp at hz) (by first | exact QaS _ | exact fun u hu=>absurd hu List.not_mem_nil) (by unfold maxLen;omega) (by omega) (by have:=B2.out.size;omega) ?_;intro v3 w3 ab aa ac;obtain ⟨aj,c3,rfl⟩:=Qan ab;have O3:=Qaa ab;have B3:=Qaa (B2.out.grown aa B2.out.size (fun j hj=>(O2.out.lt j hj).1));clear ab aa ac))
     all_goals
      go_ret;refine ⟨_,rfl,OwnT.of O3 ?_,B3⟩;rw [HE.out]
      try rw [List.drop_eq_nil_of_le (by have:=HN.out;omega)]
      simp
theorem Qcq {x:List UInt8} (ha:a=⟨x.toArray⟩) (hb:b=⟨y.toArray⟩) (h:x.length+y.length<=1000000):Op.stringOp .add a b=pure (.string ⟨(x ++ y).toArray⟩):=by
 subst ha;subst hb;unfold Op.stringOp;have e1:(⟨x.toArray⟩:ByteArray).size=x.length:=by rw [<- Qaq,Qa8]
 have e2:(⟨y.toArray⟩:ByteArray).size=y.length:=by rw [<- Qaq,Qa8]
 have:¬ ((((⟨x.toArray⟩:ByteArray).size+(⟨y.toArray⟩:ByteArray).size:Nat):Int) > IntKind.i64.max):=by
  have e:IntKind.i64.max=9223372036854775807:=by decide
  rw [e,e1,e2];omega
 simp only [if_neg this,mk_app]
theorem Qih {B' size:Nat} {e:TypeId} (h:w.ownsRow B e size v n xs) (hb:B'<=B):w.ownsRow B' e size v n xs:=by
 refine ⟨h.1,?_⟩;rcases h.2 with h2 | ⟨g,ab,aa,e1,e2,e3⟩
 ·exact .inl h2
 ·exact .inr ⟨g,ab,aa,e1,Nat.le_trans hb e2,e3⟩
theorem QoZ (h:L[k]?=some x):QdS (L.take (k+1))=QcC (QdS (L.take k)) x:=by
 rw [List.take_add_one,h];simp [QdS,List.foldl_append]
theorem Qsk (h:L[k]?=some x) (hx:Qbk x=false):L.all Qbk=false:=by
 rw [List.all_eq_false];exact ⟨x,List.mem_of_getElem? h,by rw [hx];decide⟩
theorem Qcm (c n:Nat) (hn:L.length=n) (hl:n<=1048576) (hu:∀ u∈L,u.size<=maxLen) (hA:Qas w ao L) :
  Calls prog 158 #[.slice ao n c] w fun e w'=>e=.returned (.bool (L.all Qbk))/\w'=w:=by
 have HA:=Qaa hA;have HN:=Qaa hn;have HU:=Qaa hu;clear hA hn hu;go_enter func158,ntmps158;go_wp2
 go_loop [3] (fun i=>∃ k:Nat,k<=n/\i=.int .i64 k/\Hid ((L.take k).all Qbk=true)) (fun i=>n - (Go.RowKit.intOf i).toNat)
 case atStart=>exact ⟨0,Nat.zero_le _,rfl,(by simp:(L.take 0).all Qbk=true)⟩
 case round=>
  obtain ⟨k,hk,rfl,HF⟩:=hrel;by_cases ad:k<n
  ·obtain ⟨b,ac,e,aa⟩:=HA.out (by have:=HN.out;omega)
   subst e;obtain ⟨y,hy⟩:∃ y,L[k]?=some y:=⟨L[k]'(by have:=HN.out;omega),List.getElem?_eq_getElem _⟩;have ab:=aa k y hy;have HZ:=Qaa (HU.out y (List.mem_of_getElem? hy));have HY:=Qaa hy;clear aa hy
   cases ht:Qbk y with
   | false=>
    have HE:Hid (L.all Qbk=false):=Qsk HY ht;go_wp2_with (go_at_call 125;refine (Qbs _ _ HZ).mono ?_;rintro e w1 ⟨rfl,rfl⟩);go_ret;exact ⟨Qaw HE.out.symm,rfl⟩
   | true=>
    have HE:Hid ((L.take (k+1)).all Qbk=true):=(by rw [List.take_add_one,HY.out,List.all_append,HF.out];simp [ht]:(L.take (k+1)).all Qbk=true);go_wp2_with (go_at_call 125;refine (Qbs _ _ HZ).mono ?_;rintro e w1 ⟨rfl,rfl⟩)
    go_round
    case rel=>exact ⟨k+1,by omega,by go_num,HE⟩
    case measure=>simp [Go.RowKit.intOf];omega
  ·have HE:Hid (L.all Qbk=true):=(by have:=HF.out;rwa [List.take_of_length_le (by have:=HN.out;omega)] at this:L.all Qbk=true)
   go_wp2;go_ret;exact ⟨Qaw HE.out.symm,rfl⟩
theorem Qlp {name:ByteArray} (h:name.size<=100) (hk:∀ x∈K,x.size<=20) (hl:K.length<=20100):(QcT name K).length<=422300:=by
 have:=QeC hk;unfold QcT;simp only [List.length_append,Qaq,List.length_cons,List.length_nil];omega
theorem Qpq (name:ByteArray) (h:K[0]?=some x):QcT name (K.take 0) ++ toL x=QcT name (K.take 1):=by
 rw [List.take_add_one,h];simp [QcT,Qda,QiY]
theorem Qpz {i:Nat} (name:ByteArray) (h:K[i]?=some x) (h0:0<i):QcT name (K.take i) ++ [44] ++ toL x=QcT name (K.take (i+1)):=by
 have hl:=(List.getElem?_eq_some_iff.1 h).1;rw [List.take_add_one,h];unfold QcT;rw [show (some x).toList=[x] from rfl,Qfb (fun e=>by have:=congrArg List.length e;rw [List.length_take,List.length_nil] at this;omega)];simp
theorem Qbu (name:ByteArray) (c n:Nat) (hnm:name.size<=100) (hn:L.length=n) (hl:n<=20100) (hu:∀ u∈L,u.size<=20) (hA:Qas w ao L) :
  Calls prog 114 #[.string name,.slice ao n c] w fun e w'=>e=.returned (.string (Qb2 name L))/\Below w.heap.size w w':=by
 have HA:=Qaa hA;have HN:=Qaa hn;have HU:=Qaa hu;clear hA hn hu;go_enter func114,ntmps114;go_wp2;have O0:OwnT (w.alloc (.cells #[] 9)) w.heap.size (.slice (some ⟨w.heap.size,0,none⟩) 0 0) []:=World.ownsRow_made w #[] 0 (Nat.le_refl _) (Nat.zero_le _) rfl
 go_loopw [5,6] (fun lv i wr=>∃ (k:Nat) (lo:Option Addr) (m lc:Nat),k<=n/\i=.int .i64 k/\lv=.slice lo m lc/\Hid (OwnT wr w.heap.size (.slice lo m lc) (QdS (L.take k))/\m=(QdS (L.take k)).length)/\Hid (Below w.heap.size w wr)) (fun lv i wr=>n - (Go.RowKit.intOf i).toNat)
 case atStart=>exact ⟨0,_,0,0,Nat.zero_le _,rfl,rfl,⟨O0,rfl⟩,(Below.refl _ _).alloc (Nat.le_refl _) _⟩
 case round=>
  clear O0;obtain ⟨k,lo,m,lc,hk,rfl,rfl,HO,HB⟩:=hrel;by_cases aI:k<n
  ·obtain ⟨b,aC,e,aa⟩:=HA.out (by have:=HN.out;omega)
   obtain ⟨y,hy⟩:∃ y,L[k]?=some y:=⟨L[k]'(by have:=HN.out;omega),List.getElem?_eq_getElem _⟩;subst e;have av:=Qab HB (aa k y hy);have HE:=Qaa (QoZ hy);have aD:m<=20100:=by have:=QfR (L.take k);have:=HO.out.2;rw [List.length_take] at *; omega
   clear aa hy;have G:=Qaa HO.out.1.cap;go_wp2_with (go_at_call 47;refine (Qhs y HO.out.2.symm (by omega) G.out.2.1 G.out.2.2.1 G.out.2.2.2 HO.out.1.at).mono ?_;rintro e w2 ⟨v2,rfl,o2,ah⟩;obtain ⟨ay,c2,rfl⟩:=QdJ o2;rw [<- HE.out] at o2;have ax:=Qaa o2;have aA:=Qaa (HB.out.trans (ah.mono HB.out.size));have aH:=ah.size;clear o2 ah);go_roundw
   case rel=>
    rw [<- HE.out];refine ⟨k+1,ay,_,c2,by omega,by go_num,rfl,⟨?_,rfl⟩,aA⟩;have h:=ax.out;unfold OwnT at h ⊢;exact Qih h HB.out.size
   case measure=>simp [Go.RowKit.intOf];omega
  ·have az:k=n:=by omega
   subst az;have eL:L.take k=L:=List.take_of_length_le (by have:=HN.out;omega);rw [eL] at HO;clear eL;obtain ⟨K,hK⟩:∃ K,QdS L=K:=⟨_,rfl⟩;have HK:=Qaa hK;rw [hK] at HO;have al:Hid (∀ x∈K,x.size<=20):=(fun x hx=>HU.out x (mem_serK.1 (by rw [hK];exact hx)):∀ x∈K,x.size<=20);have aD:m<=20100:=by have:=QfR L;have:=HO.out.2;have:=HN.out;rw [hK] at *; omega
   clear hK;have au:Hid (K.length<=20100):=(by have:=HO.out.2;omega:K.length<=20100);obtain ⟨T0,am⟩:∃ T0:ByteArray,T0=⟨(QcT name (K.take 0)).toArray⟩:=⟨_,rfl⟩
   have ad:Op.stringOp .add name ⟨#[123]⟩=pure (.string T0):=by
    rw [Qcq (x:=toL name) (y:=[123]) (Qfw name).symm rfl (by rw [Qaq];simp;omega),am];simp [QcT,QiY]
   have aw:=Qaa am;clear am;go_wp2
   go_loop [7,8] (fun tv i=>∃ (j:Nat) (T:ByteArray),j<=m/\i=.int .i64 j/\tv=.string T/\Hid (T=⟨(QcT name (K.take j)).toArray⟩)) (fun tv i=>m - (Go.RowKit.intOf i).toNat)
   case atStart=>exact ⟨0,T0,Nat.zero_le _,rfl,rfl,aw⟩
   case round=>
    clear aw ad;obtain ⟨j,T,hj,rfl,rfl,HT⟩:=hrel;by_cases aF:j<m
    ·obtain ⟨b,aC,e,aa⟩:=HO.out.1.at (by have:=HO.out.2;omega)
     obtain ⟨y,hy⟩:∃ y,K[j]?=some y:=⟨K[j]'(by have:=HO.out.2;omega),List.getElem?_eq_getElem _⟩;subst e;have av:=aa j y hy;have ap:y.size<=20:=al.out y (List.mem_of_getElem? hy);have ac:=Qlp (name:=name) (K:=K.take j) hnm (fun x hx=>al.out x (List.mem_of_mem_take hx)) (by rw [List.length_take];have:=au.out;omega);rcases Nat.eq_zero_or_pos j with h0 | h0
     ·subst h0
      rw [Nat.add_zero] at av;obtain ⟨T2,ab⟩:∃ T2:ByteArray,T2=⟨(QcT name (K.take 1)).toArray⟩:=⟨_,rfl⟩
      have ai:Op.stringOp .add T y=pure (.string T2):=by
       rw [Qcq HT.out (Qfw y).symm (by rw [Qaq];omega),Qpq name hy,ab]
      have ak:=Qaa ab;clear ab hy aa ac ap;go_wp2
      go_round
      case rel=>exact ⟨1,T2,by omega,by go_num,rfl,ak⟩
      case measure=>simp [Go.RowKit.intOf];omega
     ·have aG:(0:Int)<(j:Int):=by omega
      obtain ⟨T1,ag⟩:∃ T1:ByteArray,T1=⟨(QcT name (K.take j) ++ [44]).toArray⟩:=⟨_,rfl⟩
      have ar:Op.stringOp .add T ⟨#[44]⟩=pure (.string T1):=by
       rw [Qcq (y:=[44]) HT.out rfl (by simp;omega),ag]
      obtain ⟨T2,ab⟩:∃ T2:ByteArray,T2=⟨(QcT name (K.take (j+1))).toArray⟩:=⟨_,rfl⟩
      have aq:Op.stringOp .add T1 y=pure (.string T2):=by
       rw [Qcq ag (Qfw y).symm (by rw [Qaq];simp;omega),Qpz name hy h0,ab]
      have ak:=Qaa ab;clear ab ag hy aa ac ap;go_wp2
      go_round
      case rel=>exact ⟨j+1,T2,by omega,by go_num,rfl,ak⟩
      case measure=>simp [Go.RowKit.intOf];omega
    ·have an:j=m:=by omega
     have eK:K.take j=K:=List.take_of_length_le (by have:=HO.out.2;omega);have ac:=Qlp (name:=name) (K:=K) hnm al au;obtain ⟨T2,ab⟩:∃ T2:ByteArray,T2=QpV name K:=⟨_,rfl⟩
     have ai:Op.stringOp .add T ⟨#[125]⟩=pure (.string T2):=by
      rw [Qcq (y:=[125]) HT.out rfl (by rw [eK];simp;omega),eK,ab];rfl
     have aE:T2.size<=1000000:=by rw [ab,<- Qaq,QpV,Qa8];simp;omega
     have HF:Hid (Qb2 name L=if 8<m∨100<T2.size then ByteArray.empty else T2):=(by unfold Qb2;rw [HK.out,ab,<- HO.out.2]:Qb2 name L=if 8<m∨100<T2.size then ByteArray.empty else T2);clear ab eK ac HT an;by_cases h8:8<m
     ·have aB:(8:Int)<(m:Int):=by omega
      have ae:Hid (Qb2 name L=ByteArray.empty):=(by rw [HF.out,if_pos (.inl h8)]:Qb2 name L=ByteArray.empty);go_wp2;go_ret;exact ⟨by rw [ae.out];rfl,HB⟩
     ·have aB:¬ (8:Int)<(m:Int):=by omega
      by_cases aj:100<T2.size
      ·have af:(100:Int)<(T2.size:Int):=by omega
       have ae:Hid (Qb2 name L=ByteArray.empty):=(by rw [HF.out,if_pos (.inr aj)]:Qb2 name L=ByteArray.empty);go_wp2;go_ret;exact ⟨by rw [ae.out];rfl,HB⟩
      ·have af:¬ (100:Int)<(T2.size:Int):=by omega
       have ae:Hid (Qb2 name L=T2):=(by rw [HF.out,if_neg (by omega)]:Qb2 name L=T2);go_wp2;go_ret;exact ⟨by rw [ae.out];rfl,HB⟩
end Go.Proofs.YtlejlgldgafljaaGreatDoor
