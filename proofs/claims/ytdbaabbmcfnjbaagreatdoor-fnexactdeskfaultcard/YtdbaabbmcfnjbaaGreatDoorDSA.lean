/-
 Parts.
-/
import Derived.Test.YtdbaabbmcfnjbaaGreatDoorDJA
import Derived.Maps.OwnSet
import Derived.Sort.KeysCollected
import Derived.Sort.Walk0
import Derived.Lib.Join
import Derived.RegionTactic
import Derived.BigRegion
import Derived.SliceStrings
set_option maxHeartbeats 4000000
set_option linter.all false
namespace Go.Proofs.YtdbaabbmcfnjbaaGreatDoor
open Go.ChangeShapes Go.WideShapes Go.ChangeAt Go.RowKit Go.PlainAid Tryz
def Qaz (a b:ByteArray):Bool:=Op.bytesLess a.toList b.toList
theorem Qsa (t:TypeId) (a b:ByteArray):binOp .geq t (.string a) (.string b)=pure (.bool !(Qaz a b)):=by simp [binOp,Op.stringOp,Qaz]
theorem Qfy:∀ x y:List UInt8,Op.bytesLess x y=true->Op.bytesLess y x=false
 | _,[],h=>by simp [Op.bytesLess] at h
 | [],_ :: _,_=>by simp [Op.bytesLess]
 | a :: x,b :: y,h=>by
  simp only [Op.bytesLess,Bool.or_eq_true,Bool.and_eq_true,decide_eq_true_eq,beq_iff_eq] at h;simp only [Op.bytesLess,Bool.or_eq_false_iff,Bool.and_eq_false_iff,decide_eq_false_iff_not,beq_eq_false_iff_ne];rcases h with h | ⟨rfl,h⟩
  ·exact ⟨fun k=>by have:=UInt8.lt_asymm h k;exact this,.inl (fun e=>by subst e;exact UInt8.lt_irrefl _ h)⟩
  ·exact ⟨UInt8.lt_irrefl _,.inr (Qfy x y h)⟩
theorem Qht:∀ x y:List UInt8,Op.bytesLess x y=false->(x == y)=false->Op.bytesLess y x=true
 | [],[],_,h=>by simp at h
 | _ :: _,[],_,_=>by simp [Op.bytesLess]
 | [],_ :: _,h,_=>by simp [Op.bytesLess] at h
 | a :: x,b :: y,h,k=>by
  simp only [Op.bytesLess,Bool.or_eq_false_iff,Bool.and_eq_false_iff,decide_eq_false_iff_not,beq_eq_false_iff_ne] at h;simp only [Op.bytesLess,Bool.or_eq_true,Bool.and_eq_true,decide_eq_true_eq,beq_iff_eq];by_cases e:a=b
  ·subst e
   refine .inr ⟨rfl,Qht x y ?_ ?_⟩
   ·rcases h.2 with h | h
    ·exact absurd rfl h
    ·exact h
   ·simpa using k
  ·left
   have h1:=h.1;simp only [UInt8.lt_iff_toNat_lt] at h1 ⊢;have:a.toNat≠b.toNat:=fun q=>e (UInt8.toNat_inj.1 q);omega
variable {y:List UInt8}
theorem Qo3 {x:List UInt8} (h:(x == y)=true):Op.bytesLess y x=false:=by
 have h:=beq_iff_eq.1 h;subst h
 cases e:Op.bytesLess x x with
 | false=>rfl
 | true=>have:=Qfy x x e;rw [this] at e;cases e
theorem op_gtr (t:TypeId) (a b:ByteArray):binOp .gtr t (.string a) (.string b)=pure (.bool (Qaz b a)):=by
 have e:(!(Op.bytesLess a.toList b.toList || a.toList == b.toList))=Op.bytesLess b.toList a.toList:=by
  cases h1:Op.bytesLess a.toList b.toList
  ·cases h2:(a.toList == b.toList)
   ·rw [Qht _ _ h1 h2];rfl
   ·rw [Qo3 h2];rfl
  ·rw [Qfy _ _ h1];rfl
 show Op.stringOp .gtr a b=_
 unfold Op.stringOp Qaz;rw [<- e]
theorem QgL:∀ x y z:List UInt8,Op.bytesLess x y=true->Op.bytesLess y z=true->Op.bytesLess x z=true
 | _,[],_,h,_=>by simp [Op.bytesLess] at h
 | _,_ :: _,[],_,h=>by simp [Op.bytesLess] at h
 | [],_ :: _,_ :: _,_,_=>by simp [Op.bytesLess]
 | a :: x,b :: y,c :: z,h,k=>by
  simp only [Op.bytesLess,Bool.or_eq_true,Bool.and_eq_true,decide_eq_true_eq,beq_iff_eq] at h k ⊢;rcases h with h | ⟨rfl,h⟩
  ·rcases k with k | ⟨rfl,k⟩
   ·exact .inl (UInt8.lt_trans h k)
   ·exact .inl h
  ·rcases k with k | ⟨rfl,k⟩
   ·exact .inl k
   ·exact .inr ⟨rfl,QgL x y z h k⟩
variable {a b s x:ByteArray}
theorem QbV (h:(a.toList == b.toList)=true):a=b:=by
 have h:=beq_iff_eq.1 h;rw [ByteArray.toList_eq,ByteArray.toList_eq] at h
 cases a;cases b
 simp at h;simp [h]
theorem Qbu {c:ByteArray} (h:Qaz a b=true) (k:Qaz b c=true):Qaz a c=true:=QgL _ _ _ h k
theorem Qbn (a:ByteArray):Qaz a a=false:=Qo3 (x:=a.toList) (y:=a.toList) (by simp)
theorem Qeh (h:Qaz a b=true):Qaz b a=false:=Qfy _ _ h
theorem QcH (h:Qaz a b=false):Qaz b a=true∨a=b:=by
 cases e:(a.toList == b.toList) with
 | true=>exact .inr (QbV e)
 | false=>exact .inl (Qht _ _ h e)
theorem Qkg {c:ByteArray} (h:Qaz b a=false) (k:Qaz c b=false):Qaz c a=false:=by
 cases e:Qaz c a with
 | false=>rfl
 | true=>
  rcases QcH k with q | q
  ·rw [Qbu q e] at h;cases h
  ·subst q;rw [e] at h;cases h
def toL (b:ByteArray):List UInt8:=b.data.toList
theorem Qbf (h:toL a=toL b):a=b:=by
 cases a;cases b;simp [toL] at h;simp [h]
theorem Qk3 (b:ByteArray):(⟨(toL b).toArray⟩:ByteArray)=b:=by cases b;simp [toL]
theorem Qbc (l:List UInt8):toL ⟨l.toArray⟩=l:=by simp [toL]
theorem Qap (b:ByteArray):(toL b).length=b.size:=by unfold toL;rw [Array.length_toList];rfl
theorem mk_app (a b:List UInt8):(⟨a.toArray⟩:ByteArray) ++ ⟨b.toArray⟩=⟨(a ++ b).toArray⟩:=by
 apply ByteArray.ext;rw [ByteArray.data_append];simp
def QcE:List ByteArray->ByteArray->List ByteArray
 | [],t=>[t]
 | y :: r,t=>if Qaz y t=true then y :: QcE r t else if y=t then y :: r else t :: y :: r
def Qfj (l:List ByteArray):Prop:=l.Pairwise (fun a b=>Qaz a b=true)
theorem mem_insT {x t:ByteArray}:∀ {l:List ByteArray},x∈QcE l t↔x=t∨x∈l
 | []=>by simp [QcE]
 | y :: r=>by
  unfold QcE
  split
  ·simp only [List.mem_cons,mem_insT (l:=r)]
   constructor
   ·rintro (h | h | h)
    ·exact .inr (.inl h)
    ·exact .inl h
    ·exact .inr (.inr h)
   ·rintro (h | h | h)
    ·exact .inr (.inl h)
    ·exact .inl h
    ·exact .inr (.inr h)
  ·split
   ·rename_i h;subst h;simp
   ·simp
theorem Qf7 {t:ByteArray}:∀ {l:List ByteArray},Qfj l->Qfj (QcE l t)
 | [],_=>by simp [QcE,Qfj]
 | y :: r,h=>by
  obtain ⟨h1,h2⟩:=List.pairwise_cons.1 h;unfold QcE
  split
  ·rename_i hy
   refine List.pairwise_cons.2 ⟨fun x hx=>?_,Qf7 h2⟩;rcases mem_insT.1 hx with rfl | hx
   ·exact hy
   ·exact h1 x hx
  ·rename_i hy
   split
   ·exact h
   ·rename_i hne
    have hty:Qaz t y=true:=by
     rcases QcH (a:=y) (b:=t) (by simpa using hy) with e | e
     ·exact e
     ·exact absurd e hne
    refine List.pairwise_cons.2 ⟨fun x hx=>?_,h⟩;rcases List.mem_cons.1 hx with rfl | hx
    ·exact hty
    ·exact Qbu hty (h1 x hx)
def QjW (L:List ByteArray):List ByteArray:=L.foldl QcE []
theorem QiU:∀ (L l:List ByteArray),Qfj l->Qfj (L.foldl QcE l)
 | [],l,h=>h
 | t :: r,l,h=>QiU r (QcE l t) (Qf7 h)
theorem Qme (x:ByteArray):∀ (L l:List ByteArray),x∈L.foldl QcE l↔x∈L∨x∈l
 | [],l=>by simp
 | t :: r,l=>by
  rw [List.foldl_cons,Qme x r,mem_insT,List.mem_cons];constructor
  ·rintro (h | h | h)
   ·exact .inl (.inr h)
   ·exact .inl (.inl h)
   ·exact .inr h
  ·rintro ((h | h) | h)
   ·exact .inr (.inl h)
   ·exact .inl h
   ·exact .inr (.inr h)
theorem Qjy (L:List ByteArray):Qfj (QjW L):=QiU L [] List.Pairwise.nil
variable {K L l:List ByteArray}
theorem mem_serK:x∈QjW L↔x∈L:=by unfold QjW;rw [Qme];simp
theorem Qlq (t:ByteArray):∀ l:List ByteArray,(QcE l t).length<=l.length+1
 | []=>by simp [QcE]
 | y :: r=>by
  unfold QcE;have:=Qlq t r
  split
  ·simp;omega
  ·split <;> simp
theorem Qld:∀ (L l:List ByteArray),(L.foldl QcE l).length<=l.length+L.length
 | [],l=>by simp
 | t :: r,l=>by
  have h1:=Qld r (QcE l t);have h2:=Qlq t l;simp only [List.foldl_cons,List.length_cons];omega
theorem QlT (L:List ByteArray):(QjW L).length<=L.length:=by have:=Qld L [];simpa [QjW] using this
theorem QbK (h:Qfj l):l.Nodup:=h.imp (fun {a b} hab e=>by subst e;rw [Qbn] at hab;cases hab)
theorem Qnw {m:List ByteArray} (h:Qfj l) (k:Qfj m) (hm:∀ x,x∈l↔x∈m):l=m:=by
 have hp:l.Perm m:=(List.perm_ext_iff_of_nodup (QbK h) (QbK k)).2 hm;refine hp.eq_of_pairwise (le:=fun a b=>Qaz a b=true) (fun a b _ _ h1 h2=>?_) h k;rw [Qeh h1] at h2;cases h2
def QdZ (t:ByteArray):Lit:=.string (toL t)
def setT (L:List ByteArray):DataW Unit:=Go.Maps.setOf (.agg []) (L.map QdZ)
def Qb1 (K:List ByteArray):List UInt8:=Lib.join (K.map toL) [44]
theorem QiY:Qb1 []=[]:=rfl
theorem Qi2 (x:ByteArray):Qb1 [x]=toL x:=Lib.join_one _ _
theorem QiB (sep:List UInt8) (r:List (List UInt8)) (x:List UInt8):Lib.joinTail sep (r ++ [x])=Lib.joinTail sep r ++ (sep ++ x):=by simp [Lib.joinTail]
theorem Qhb (h:K≠[]) (x:ByteArray):Qb1 (K ++ [x])=Qb1 K ++ [44] ++ toL x:=by
 cases K with
 | nil=>exact absurd rfl h
 | cons y r=>
  unfold Qb1;rw [List.cons_append,List.map_cons,List.map_cons,Lib.join_cons,Lib.join_cons,List.map_append,List.map_cons,List.map_nil,QiB];simp
theorem QoL {m:Nat}:∀ {K:List ByteArray},(∀ x∈K,x.size<=m)->(Qb1 K).length<=K.length*(m+1):=by
 have ht:∀ r:List ByteArray,(∀ x∈r,x.size<=m)->(Lib.joinTail [44] (r.map toL)).length<=r.length*(m+1):=by
  intro r
  induction r with
  | nil=>intro _;simp [Lib.joinTail]
  | cons y r ih=>
   intro h;have h1:=h y List.mem_cons_self;have h2:=ih (fun x hx=>h x (List.mem_cons_of_mem _ hx));have e:Lib.joinTail [44] ((y :: r).map toL)=44 :: toL y ++ Lib.joinTail [44] (r.map toL):=by simp [Lib.joinTail]
   rw [e];simp only [List.length_append,List.length_cons,Qap,Nat.add_mul];omega
 intro K h
 cases K with
 | nil=>simp [Qb1,Lib.join]
 | cons y r=>
  have h1:=h y List.mem_cons_self;have h2:=ht r (fun x hx=>h x (List.mem_cons_of_mem _ hx));unfold Qb1;rw [List.map_cons,Lib.join_cons];simp only [List.length_append,List.length_cons,Qap,Nat.add_mul];omega
def QdI (name:ByteArray) (K:List ByteArray):List UInt8:=toL name ++ [123] ++ Qb1 K
def Qur (name:ByteArray) (K:List ByteArray):ByteArray:=⟨(QdI name K ++ [125]).toArray⟩
def Qdk (name:ByteArray) (L:List ByteArray):ByteArray:=if 8<(QjW L).length∨100<(Qur name (QjW L)).size then ByteArray.empty else Qur name (QjW L)
def Qaw (w:World) (ao:Option Addr) (L:List ByteArray):Prop:=
 0<L.length->∃ b off,ao=some ⟨b,off,none⟩/\∀ i u,L[i]?=some u->w.cell? ⟨b,off+i,none⟩=some (.string u)
variable {w w':World}
variable {ao:Option Addr}
theorem QaB (h:Qaw w ao L) (hb:Below w.heap.size w w'):Qaw w' ao L:=fun h0=>by
 obtain ⟨b,off,e,hc⟩:=h h0;exact ⟨b,off,e,fun i u hi=>Qab hb (hc i u hi)⟩
variable {B k n:Nat}
theorem QeK {g cap:Nat} (h:w.ownsRow B 9 1 (.slice (some ⟨g,0,none⟩) L.length cap) L.length (L.map Value.string)):Qaw w (some ⟨g,0,none⟩) L:=fun _=>
 ⟨g,0,rfl,fun i u hi=>by
  have hl:=(List.getElem?_eq_some_iff.1 hi).1;rw [Nat.zero_add,h.cellAt i (by omega)];simp [hi]⟩
def fillL (xs:List Value) (z:Value) (k:Nat):List Value:=xs.take k ++ List.replicate (xs.length - k) z
theorem QkR:(prog.info? 9).map (fun i=>(i.zero,i.size,i.bytes))=some (some (.string ByteArray.empty),1,16):=by kernel_rfl
def QjS (c:Int):Bool:=decide (97<=c) && decide (c<=122)
def Qsr (c:Int):Bool:=decide (48<=c) && decide (c<=57)
def nmB (c:Int):Bool:=QjS c || Qsr c || c == 95 || c == 46
def Qm0 (s:ByteArray):Nat->Bool
 | 0=>true
 | n+1=>Qm0 s n && nmB (bt s n)
def QaK (s:ByteArray):Bool:=decide (1<=s.size) && decide (s.size<=40) && QjS (bt s 0) && Qm0 s s.size
theorem QaW {a b:Bool} (h:a=b):Ending.returned (.bool a)=.returned (.bool b):=by rw [h]
theorem Qnd {s:ByteArray} {k:Nat} (h:nmB (bt s k)=false):∀ n,k<n->Qm0 s n=false
 | 0,hk=>by omega
 | n+1,hk=>by
  unfold Qm0;by_cases e:k=n
  ·subst e;rw [h];simp
  ·rw [Qnd h n (by omega)];simp
variable {c:Int}
theorem QsK (h:97<=c) (k:c<=122):QjS c=true:=by simp [QjS,h,k]
theorem Qsh (h:c<97∨122<c):QjS c=false:=by
 unfold QjS;rcases h with h | h
 ·rw [show decide (97<=c)=false from decide_eq_false (by omega)];rfl
 ·rw [show decide (c<=122)=false from decide_eq_false (by omega)];simp
theorem Qsb (h:48<=c) (k:c<=57):Qsr c=true:=by simp [Qsr,h,k]
theorem QsR (h:c<48∨57<c):Qsr c=false:=by
 unfold Qsr;rcases h with h | h
 ·rw [show decide (48<=c)=false from decide_eq_false (by omega)];rfl
 ·rw [show decide (c<=57)=false from decide_eq_false (by omega)];simp
theorem Qpd (c:Int):(97<=c/\c<=122)∨((c<97∨122<c)/\((48<=c/\c<=57)∨c=95∨c=46∨((c<48∨57<c)/\(c == 95)=false/\(c == 46)=false))):=by
 by_cases a:97<=c/\c<=122
 ·exact .inl a
 ·refine .inr ⟨by omega,?_⟩
  by_cases b:48<=c/\c<=57
  ·exact .inl b
  ·by_cases d:c=95
   ·exact .inr (.inl d)
   ·by_cases e:c=46
    ·exact .inr (.inr (.inl e))
    ·exact .inr (.inr (.inr ⟨by omega,by simpa using d,by simpa using e⟩))
theorem nmB_l (h:QjS c=true):nmB c=true:=by simp [nmB,h]
theorem nmB_d (h:Qsr c=true):nmB c=true:=by simp [nmB,h]
theorem nmB_95:nmB 95=true:=by decide
theorem nmB_46:nmB 46=true:=by decide
theorem nmB_n (h:QjS c=false) (k:Qsr c=false) (d:(c == 95)=false) (e:(c == 46)=false):nmB c=false:=by simp [nmB,h,k,d,e]
theorem QkY (h:QjS (bt s 0)=false):QaK s=false:=by unfold QaK;rw [h];simp
theorem Qum (hk:k<s.size) (h:nmB (bt s k)=false):QaK s=false:=by unfold QaK;rw [Qnd h _ hk];simp
theorem QtU (h1:¬ s.size<1) (h2:¬ 40<s.size) (hl:QjS (bt s 0)=true) (ha:Qm0 s s.size=true):QaK s=true:=by
 unfold QaK;rw [hl,ha,show decide (1<=s.size)=true from decide_eq_true (by omega),show decide (s.size<=40)=true from decide_eq_true (by omega)];rfl
theorem Qeg (h:Qm0 s k=true) (hn:nmB (bt s k)=true):Qm0 s (k+1)=true:=by unfold Qm0;rw [h,hn];rfl
theorem QaL (s:ByteArray) (w:World) (hs:s.size<=maxLen) :
  Calls prog 49 #[.string s] w fun e w'=>e=.returned (.bool (QaK s))/\w'=w:=by
 unfold maxLen at hs;have ag:=get_bt s;by_cases h0:s.size<1
 ·have HN:Hid (QaK s=false):=(by unfold QaK;rw [show decide (1<=s.size)=false from decide_eq_false (by omega)];rfl:QaK s=false)
  have hi:((s.size:Int)<1):=by omega
  go_enter func49,ntmps49;go_wp2;go_ret;exact ⟨QaW HN.out.symm,rfl⟩
 ·have hi:¬ ((s.size:Int)<1):=by omega
  by_cases h1:40<s.size
  ·have HN:Hid (QaK s=false):=(by unfold QaK;rw [show decide (s.size<=40)=false from decide_eq_false (by omega)];simp:QaK s=false)
   have hj:(40:Int)<(s.size:Int):=by omega
   go_enter func49,ntmps49;go_wp2;go_ret;exact ⟨QaW HN.out.symm,rfl⟩
  ·have hj:¬ (40:Int)<(s.size:Int):=by omega
   go_enter func49,ntmps49;go_wp2
   go_loop [3,4] (fun i _=>∃ k:Nat,k<=s.size/\i=.int .i64 k/\Qm0 s k=true/\(k=0∨QjS (bt s 0)=true)) (fun i _=>s.size - (Go.RowKit.intOf i).toNat)
   case atStart=>exact ⟨0,Nat.zero_le _,rfl,rfl,.inl rfl⟩
   case round=>
    obtain ⟨k,hk,rfl,ha,hl⟩:=hrel;have HA:Hid (Qm0 s k=true):=ha;have HL:Hid (k=0∨QjS (bt s 0)=true):=hl;clear ha hl;by_cases ad:k<s.size
    ·rcases Qpd (bt s k) with ⟨c1,c2⟩ | ⟨aa,ab⟩
     ·have HB:Hid (QjS (bt s k)=true):=QsK c1 c2
      go_wp2
      go_round
      case rel=>exact ⟨k+1,by omega,by go_num,Qeg HA (nmB_l HB),.inr (by rcases HL.out with rfl | h;exact HB.out;exact h)⟩
      case measure=>simp [Go.RowKit.intOf];omega
     ·have HB:Hid (QjS (bt s k)=false):=Qsh aa
      rcases Nat.eq_zero_or_pos k with rfl | ae
      ·clear ab
       have g2:122<bt s 0->(decide (bt s 0<=122)=false/\97<=bt s 0):=fun h=>⟨decide_eq_false (by omega),by omega⟩;rcases aa with aa | aa
       ·clear g2
        go_wp2;go_ret;exact ⟨QaW (QkY HB).symm,rfl⟩
       ·obtain ⟨g3,g4⟩:=g2 aa
        clear g2;go_wp2;go_ret;exact ⟨QaW (QkY HB).symm,rfl⟩
      ·have ac:Hid (QjS (bt s 0)=true):=by rcases HL.out with h | h;omega;exact h
       have af:((k:Int) == 0)=false:=by simp;omega
       rcases ab with ⟨d1,d2⟩ | he | he | ⟨hd,e1,e2⟩
       ·have HD:Hid (Qsr (bt s k)=true):=Qsb d1 d2
        clear aa;go_wp2
        go_round
        case rel=>exact ⟨k+1,by omega,by go_num,Qeg HA (nmB_d HD),.inr ac⟩
        case measure=>simp [Go.RowKit.intOf];omega
       ·have HD:Hid (nmB (bt s k)=true):=(by rw [he];exact nmB_95:nmB (bt s k)=true)
        clear aa;go_wp2
        go_round
        case rel=>exact ⟨k+1,by omega,by go_num,Qeg HA HD,.inr ac⟩
        case measure=>simp [Go.RowKit.intOf];omega
       ·have HD:Hid (nmB (bt s k)=true):=(by rw [he];exact nmB_46:nmB (bt s k)=true)
        clear aa;go_wp2
        go_round
        case rel=>exact ⟨k+1,by omega,by go_num,Qeg HA HD,.inr ac⟩
        case measure=>simp [Go.RowKit.intOf];omega
       ·have HD:Hid (nmB (bt s k)=false):=nmB_n HB (QsR hd) e1 e2
        have g1:(bt s k<97/\bt s k<48)∨(bt s k<97/\48<=bt s k/\decide (bt s k<=57)=false)∨(97<=bt s k/\decide (bt s k<=122)=false/\48<=bt s k/\decide (bt s k<=57)=false):=by
         simp only [decide_eq_false_iff_not];omega
        have n1:(bt s k != 95)=true:=by simpa using e1
        have n2:(bt s k != 46)=true:=by simpa using e2
        have n3:¬ bt s k=95:=by simpa using e1
        have n4:¬ bt s k=46:=by simpa using e2
        clear aa hd e1 e2;rcases g1 with ⟨g1,g2⟩ | ⟨g1,g2,g3⟩ | ⟨g1,g2,g3,g4⟩
        all_goals
         go_wp2;go_ret;exact ⟨QaW (Qum ad HD).symm,rfl⟩
    ·have e:k=s.size:=by omega
     have HB:Hid (QaK s=true):=by
      subst e;refine QtU h0 h1 ?_ HA;rcases HL.out with h | h
      ·omega
      ·exact h
     clear e;go_wp2;go_ret;exact ⟨QaW HB.out.symm,rfl⟩
def tgB (c:Int):Bool:=nmB c || c == 45 || c == 58
def QiN (s:ByteArray):Nat->Bool
 | 0=>true
 | n+1=>QiN s n && tgB (bt s n)
def QbG (s:ByteArray):Bool:=decide (1<=s.size) && decide (s.size<=20) && QiN s s.size
theorem QoF {s:ByteArray} {k:Nat} (h:tgB (bt s k)=false):∀ n,k<n->QiN s n=false
 | 0,hk=>by omega
 | n+1,hk=>by
  unfold QiN;by_cases e:k=n
  ·subst e;rw [h];simp
  ·rw [QoF h n (by omega)];simp
theorem Qc4 (h:QiN s k=true) (hn:tgB (bt s k)=true):QiN s (k+1)=true:=by unfold QiN;rw [h,hn];rfl
theorem tagB_f (hk:k<s.size) (h:tgB (bt s k)=false):QbG s=false:=by unfold QbG;rw [QoF h _ hk];simp
theorem QuM (h:s.size<1):QbG s=false:=by unfold QbG;rw [show decide (1<=s.size)=false from decide_eq_false (by omega)];rfl
theorem QuS (h:20<s.size):QbG s=false:=by unfold QbG;rw [show decide (s.size<=20)=false from decide_eq_false (by omega)];simp
theorem tagB_t (h1:¬ s.size<1) (h2:¬ 20<s.size) (ha:QiN s s.size=true):QbG s=true:=by
 unfold QbG;rw [ha,show decide (1<=s.size)=true from decide_eq_true (by omega),show decide (s.size<=20)=true from decide_eq_true (by omega)];rfl
theorem tgB_58:tgB 58=true:=by decide
theorem tgB_n (h:nmB c=true):tgB c=true:=by simp [tgB,h]
theorem tgB_f (h:nmB c=false) (a:c≠45) (b:c≠58):tgB c=false:=by simp [tgB,h,a,b]
theorem Qqr (c:Int):(97<=c/\c<=122/\tgB c=true)∨((c<97∨122<c)/\((48<=c/\c<=58/\tgB c=true)∨(c=95/\tgB c=true)∨(c=46/\tgB c=true)∨(c=45/\tgB c=true)∨((c<48∨58<c)/\c≠95/\c≠46/\c≠45/\tgB c=false))):=by
 by_cases a:97<=c/\c<=122
 ·exact .inl ⟨a.1,a.2,tgB_n (nmB_l (QsK a.1 a.2))⟩
 ·have hl:QjS c=false:=Qsh (by omega)
  refine .inr ⟨by omega,?_⟩;by_cases b:48<=c/\c<=58
  ·refine .inl ⟨b.1,b.2,?_⟩
   by_cases b2:c=58
   ·rw [b2];exact tgB_58
   ·exact tgB_n (nmB_d (Qsb b.1 (by omega)))
  ·by_cases d:c=95
   ·exact .inr (.inl ⟨d,by rw [d];decide⟩)
   ·by_cases e:c=46
    ·exact .inr (.inr (.inl ⟨e,by rw [e];decide⟩))
    ·by_cases f:c=45
     ·exact .inr (.inr (.inr (.inl ⟨f,by rw [f];decide⟩)))
     ·exact .inr (.inr (.inr (.inr ⟨by omega,d,e,f,tgB_f (nmB_n hl (QsR (by omega)) (by simpa using d) (by simpa using e)) f (by omega)⟩)))
theorem Qco (s:ByteArray) (w:World) (hs:s.size<=maxLen) :
  Calls prog 116 #[.string s] w fun e w'=>e=.returned (.bool (QbG s))/\w'=w:=by
 unfold maxLen at hs;have ad:=get_bt s;go_enter func116,ntmps116;go_wp2
 go_loop [3,4] (fun i _=>∃ k:Nat,k<=s.size/\i=.int .i64 k/\QiN s k=true) (fun i _=>s.size - (Go.RowKit.intOf i).toNat)
 case atStart=>exact ⟨0,Nat.zero_le _,rfl,rfl⟩
 case round=>
  obtain ⟨k,hk,rfl,ha⟩:=hrel;have HA:Hid (QiN s k=true):=ha;clear ha;by_cases ac:k<s.size
  ·rcases Qqr (bt s k) with ⟨c1,c2,hn⟩ | ⟨aa,ab⟩
   ·have HB:Hid (QiN s (k+1)=true):=Qc4 HA hn
    clear hn;go_wp2
    go_round
    case rel=>exact ⟨k+1,by omega,by go_num,HB⟩
    case measure=>simp [Go.RowKit.intOf];omega
   ·rcases ab with ⟨d1,d2,hn⟩ | ⟨he,hn⟩ | ⟨he,hn⟩ | ⟨he,hn⟩ | ⟨hd,e1,e2,e3,hn⟩
    ·have HB:Hid (QiN s (k+1)=true):=Qc4 HA hn
     clear hn aa;go_wp2
     go_round
     case rel=>exact ⟨k+1,by omega,by go_num,HB⟩
     case measure=>simp [Go.RowKit.intOf];omega
    ·have HB:Hid (QiN s (k+1)=true):=Qc4 HA hn
     clear hn aa;go_wp2
     go_round
     case rel=>exact ⟨k+1,by omega,by go_num,HB⟩
     case measure=>simp [Go.RowKit.intOf];omega
    ·have HB:Hid (QiN s (k+1)=true):=Qc4 HA hn
     clear hn aa;go_wp2
     go_round
     case rel=>exact ⟨k+1,by omega,by go_num,HB⟩
     case measure=>simp [Go.RowKit.intOf];omega
    ·have HB:Hid (QiN s (k+1)=true):=Qc4 HA hn
     clear hn aa;go_wp2
     go_round
     case rel=>exact ⟨k+1,by omega,by go_num,HB⟩
     case measure=>simp [Go.RowKit.intOf];omega
    ·have HD:Hid (QbG s=false):=tagB_f ac hn
     have g1:(bt s k<97/\bt s k<48)∨(bt s k<97/\48<=bt s k/\decide (bt s k<=58)=false)∨(97<=bt s k/\decide (bt s k<=122)=false/\48<=bt s k/\decide (bt s k<=58)=false):=by
      simp only [decide_eq_false_iff_not];omega
     have n3:¬ bt s k=95:=e1;have n4:¬ bt s k=46:=e2;have n5:¬ bt s k=45:=e3;have m1:(bt s k == 95)=false:=by simpa using e1
     have m2:(bt s k == 46)=false:=by simpa using e2
     have m3:(bt s k == 45)=false:=by simpa using e3
     clear aa hd hn e1 e2 e3;rcases g1 with ⟨g1,g2⟩ | ⟨g1,g2,g3⟩ | ⟨g1,g2,g3,g4⟩
     all_goals
      go_wp2;go_ret;exact ⟨QaW HD.out.symm,rfl⟩
  ·have e:k=s.size:=by omega
   by_cases h0:s.size<1
   ·have HB:Hid (QbG s=false):=QuM h0
    have hi:¬ (1:Int)<=(s.size:Int):=by omega
    clear e;go_wp2;go_ret;exact ⟨QaW HB.out.symm,rfl⟩
   ·have hi:(1:Int)<=(s.size:Int):=by omega
    by_cases h1:20<s.size
    ·have HB:Hid (QbG s=false):=QuS h1
     have hj:¬ (s.size:Int)<=20:=by omega
     clear e;go_wp2;go_ret;exact ⟨QaW HB.out.symm,rfl⟩
    ·have HB:Hid (QbG s=true):=tagB_t h0 h1 (by rw [<- e];exact HA.out)
     have hj:(s.size:Int)<=20:=by omega
     clear e;go_wp2;go_ret;exact ⟨QaW HB.out.symm,rfl⟩
theorem Qad {P:Program} (w:World) {ops:Array Oper} {rest:List Oper} {o:Oper} {a:Act} {Q:Exit->Act->World->Prop} (hgd:o.guard=none) (s x:Operand) (t:TypeId)
  (ho:o.op=.call { callee:=.builtin .append,args:=#[s,x],argTypes:=#[t,t] })
  (base:Nat) (e:TypeId) (i:TypeInfo) (z:Value) (size bytes:Nat) (ht:P.underlying t=some (.slice e)) (hi:P.info? e=some i) (hz:i.zero=some z)
  (hsize:i.size=size) (hby:i.bytes=bytes) (hzs:z.cells.size=size) (hsz:0<size)
  (v:Value) (n:Nat) (xs:List Value) (hs:a.eval s=v) (hown:w.ownsRow base e size v n xs)
  (xo:Option Addr) (m c:Nat) (news:List Value) (hx:a.eval x=.slice xo m c) (hl:news.length=m*size) (hno:xo=none->m=0/\c=0) (hnews:∀ ad,xo=some ad->∀ j u,news[j]?=some u->w.cell? (ad.add j)=some u) (h1:∀ u∈news,u.oneCell'=true)
  (h63:n+m<=maxLen) (hbytes:(n+m)*bytes<=140737488355328) (hbase:base<=w.heap.size)
  (h:∀ v' w',w'.ownsRow base e size v' (n+m) (xs ++ news)->w.grownBy w' v.ownBlock->(v'=.slice none 0 0↔v=.slice none 0 0/\m=0)->wpList P ops Q rest (a.put o.dst v') w'):wpList P ops Q (o :: rest) a w:=by
 cases xo with
 | some ad=>exact wpList_append_own w hgd s x t ho base e i z size bytes ht hi hz hsize hby hzs hsz v n xs hs hown ad m c news hx hl (hnews ad rfl) h1 h63 hbytes hbase h
 | none=>
  obtain ⟨rfl,rfl⟩:=hno rfl;obtain rfl:news=[]:=List.eq_nil_of_length_eq_zero (by rw [hl,Nat.zero_mul]);refine wpList_plain hgd fun _ hK=>?_;have hr:=run_append_owned_none (P:=P) (w:=w) base t o.type e i size ht hi v n xs hown;unfold Oper.wp execOp;simp only [ho,resolve,invoke,builtin,Sem.run_bind,Sem.run_pure,Result.andThen_ok,List.map_toArray,List.map_cons,List.map_nil,hs,hx,hr];exact hK _ _ (h v w (by rw [Nat.add_zero,List.append_nil];exact hown) (World.grownBy.refl _ _) (by simp))
theorem Qpm (t:TypeId) (a b:ByteArray):binOp .lss t (.string a) (.string b)=pure (.bool (Qaz a b)):=by simp [binOp,Op.stringOp,Qaz]
set_option maxRecDepth 10000
def OwnT (w:World) (B:Nat) (v:Value) (L:List ByteArray):Prop:=w.ownsRow B 9 1 v L.length (L.map Value.string)
variable {v:Value}
theorem OwnT.past (h:OwnT w B v L) (hb:Below w.heap.size w w'):OwnT w' B v L:=Qat h hb
theorem OwnT.at {c:Nat} (h:OwnT w B (.slice ao n c) L):Qaw w ao L:=fun h0=>by
 rcases h.2 with ⟨e,h1⟩ | ⟨g,cap,cur,e,_⟩
 ·omega
 ·cases e
  exact QeK h h0
theorem OwnT.cap {c:Nat} (h:OwnT w B (.slice ao n c) L):n=L.length/\n<=c/\c<=maxLen/\(ao=none->c=0):=by
 rcases h.2 with ⟨e,h1⟩ | ⟨g,cap,aa,e,_,_,h2,h3,_⟩
 ·cases e;exact ⟨h1.symm,Nat.le_refl _,Nat.zero_le _,fun _=>rfl⟩
 ·cases e;exact ⟨rfl,h2,h3,fun e=>by cases e⟩
theorem Qci {A:Addr} (h:Qaw w (some A) L):∀ j u,(L.map Value.string)[j]?=some u->w.cell? (A.add j)=some u:=fun j u hj=>by
 rw [List.getElem?_map] at hj
 cases hx:L[j]? with
 | none=>rw [hx] at hj;cases hj
 | some x=>
  rw [hx] at hj;obtain rfl:=Option.some.inj hj;obtain ⟨b,off,e,hc⟩:=h (by have:=(List.getElem?_eq_some_iff.1 hx).1;omega)
  cases e
  have:=hc j x hx
  rwa [show (⟨b,off,none⟩:Addr).add j=⟨b,off+j,none⟩ from by unfold Addr.add;split <;> simp_all]
theorem Qdj (k:Nat) (h:Qaw w ao L):Qaw w ao (L.take k):=fun h0=>by
 obtain ⟨b',off',e,hc⟩:=h (by rw [List.length_take] at h0;omega);exact ⟨b',off',e,fun i x hx=>hc i x (by rw [List.getElem?_take] at hx;split at hx;exact hx;cases hx)⟩
theorem QiP {b off:Nat} (k:Nat) (h:Qaw w (some ⟨b,off,none⟩) L):Qaw w (some ⟨b,off+k,none⟩) (L.drop k):=fun h0=>by
 obtain ⟨b',off',e,hc⟩:=h (by rw [List.length_drop] at h0;omega)
 cases e
 exact ⟨b,off+k,rfl,fun i x hx=>by
  rw [List.getElem?_drop] at hx;have:=hc (k+i) x hx
  rwa [Nat.add_assoc]⟩
theorem QaV (L:List ByteArray):∀ u∈L.map Value.string,u.oneCell'=true:=fun u hu=>by
 obtain ⟨x,_,rfl⟩:=List.mem_map.1 hu;rfl
def QgQ (L:List ByteArray) (p:ByteArray) (k:Nat):Prop:=k<=L.length/\(∀ (t:Nat) (x:ByteArray),L[t]?=some x->t<k->Qaz x p=true)/\∀ x,L[k]?=some x->Qaz x p=false
theorem QfS {y:ByteArray} {r:List ByteArray} {p:ByteArray} (h:QgQ (y :: r) p (k+1)):QgQ r p k:=
 ⟨by have:=h.1;simp at this;exact this,fun t x hx ht=>h.2.1 (t+1) x (by simpa using hx) (by omega),fun x hx=>h.2.2 x (by simpa using hx)⟩
theorem Qoj {a:ByteArray}:∀ (L:List ByteArray) (k:Nat),QgQ L a k->L[k]?=some a->QcE L a=L.take k ++ [a] ++ L.drop (k+1)
 | [],k,_,h=>by simp at h
 | y :: r,0,hp,h=>by
  obtain rfl:y=a:=by simpa using h
  have:Qaz y y=false:=Qbn y;simp [QcE,this]
 | y :: r,k+1,hp,h=>by
  have hy:=hp.2.1 0 y rfl (by omega);rw [QcE,if_pos hy,Qoj r k (QfS hp) (by simpa using h)];simp
theorem Qh5 {a:ByteArray}:∀ (L:List ByteArray) (k:Nat),QgQ L a k->(∀ x,L[k]?=some x->x≠a)->QcE L a=L.take k ++ [a] ++ L.drop k
 | [],k,hp,h=>by have:=hp.1;simp at this;subst this;rfl
 | y :: r,0,hp,h=>by
  have hy:=hp.2.2 y rfl;have hne:y≠a:=h y rfl;rw [QcE,if_neg (by rw [hy];decide),if_neg hne];rfl
 | y :: r,k+1,hp,h=>by
  have hy:=hp.2.1 0 y rfl (by omega);rw [QcE,if_pos hy,Qh5 r k (QfS hp) (fun x hx=>h x (by simpa using hx))];simp
variable {xs:List Value}
theorem OwnT.of (h:w.ownsRow B 9 1 v n xs) (e:xs=L.map Value.string):OwnT w B v L:=by
 have hl:=h.1;subst e;rw [List.length_map,Nat.mul_one] at hl;unfold OwnT;rw [hl];exact h
theorem Qfo (h:OwnT w B v L):∃ ao c,v=.slice ao L.length c:=Qag h
theorem Qhd {c:Nat} (a:ByteArray) (hn:L.length=n) (hl:n<=100000) (hcap:n<=c) (hcm:c<=maxLen) (hno:ao=none->c=0) (hA:Qaw w ao L) :
  Calls prog 73 #[.slice ao n c,.string a] w fun e w'=>∃ v,e=.returned v/\OwnT w' w.heap.size v (QcE L a)/\Below w.heap.size w w':=by
 obtain ⟨i0,hi,ad,af,ae⟩:=info_parts QkR;have aD:=Qpm 9;have HA:=Qaa hA;have HN:=Qaa hn;have aA:=Qaa hno;unfold maxLen at hcm;clear hA hn hno;go_enter func73,ntmps73;go_wp2
 go_loop [5] (fun i=>∃ k:Nat,k<=n/\i=.int .i64 k/\Hid (∀ (t:Nat) (x:ByteArray),L[t]?=some x->t<k->Qaz x a=true)) (fun i=>n - (Go.RowKit.intOf i).toNat)
 case atStart=>exact ⟨0,Nat.zero_le _,rfl,(fun t x _ h=>absurd h (by omega):∀ (t:Nat) (x:ByteArray),L[t]?=some x->t<0->Qaz x a=true)⟩
 case round=>
  obtain ⟨k,hk,rfl,HF⟩:=hrel
  have ag:k<n->∃ b ah y,ao=some ⟨b,ah,none⟩/\L[k]?=some y/\w.cell? ⟨b,ah+k,none⟩=some (.string y):=fun h=>by
   obtain ⟨b,ah,e,ak⟩:=HA.out (by have:=HN.out;omega);obtain ⟨y,hy⟩:∃ y,L[k]?=some y:=⟨L[k]'(by have:=HN.out;omega),List.getElem?_eq_getElem _⟩;exact ⟨b,ah,y,e,hy,ak k y hy⟩
  by_cases ay:k<n
  ·obtain ⟨b,ah,q,rfl,am,ai⟩:=ag ay
   cases hlt:Qaz q a with
   | true=>
    have aw:Hid (∀ (t:Nat) (x:ByteArray),L[t]?=some x->t<k+1->Qaz x a=true):=(fun t z hz ht=>by
     by_cases e:t=k
     ·subst e;rw [am] at hz;obtain rfl:=Option.some.inj hz;exact hlt
     ·exact HF.out t z hz (by omega):∀ (t:Nat) (x:ByteArray),L[t]?=some x->t<k+1->Qaz x a=true)
    clear am ag;go_wp2
    go_round
    case rel=>exact ⟨k+1,by omega,by go_num,aw⟩
    case measure=>simp [Go.RowKit.intOf];omega
   | false=>
    have HK:Hid (QgQ L a k):=(⟨by have:=HN.out;omega,HF,fun z hz=>by rw [am] at hz;obtain rfl:=Option.some.inj hz;exact hlt⟩:QgQ L a k);have av:=Qaa am;clear am ag HF
    cases heq:(q.toList == a.toList) with
    | true=>
     have aq:a=q:=(QbV heq).symm;subst aq;have aG:IntKind.i64.wrap ((k:Int)+1)=(k:Int)+1:=by rw [IntKind.wrap_i64];omega
     have aE:((k:Int)+1).toNat=k+1:=by omega
     have aF:(0:Int)<=(k:Int)+1:=by omega
     have aC:(k:Int)+1<=(n:Int):=by omega
     have HE:Hid (QcE L a=L.take k ++ [a] ++ L.drop (k+1)):=Qoj L k HK av;by_cases aB:c=k+1
     ·subst aB
      have ax:n=k+1:=by omega
      have aH:k+1 - (k+1)=0:=by omega
      subst ax
      go_wp2_with (first
       | (at_builtin;refine Qad _ rfl (.tmp 21) (.tmp 24) 30 rfl w.heap.size 9 i0 (.string ByteArray.empty) 1 16 underlying30 hi ad af ae rfl (by decide) _ _ _ rfl (World.ownsRow_made _ #[] 0 (Nat.le_refl _) (Nat.zero_le _) rfl) (some ⟨b,ah,none⟩) k (k+1) ((L.take k).map Value.string) rfl (by rw [List.length_map,List.length_take];have:=HN.out;omega) (fun e=>by cases e) (fun A e=>by cases e;exact Qci (QaB (Qdj _ HA) ((Below.refl _ _).alloc (Nat.le_refl _) _))) (QaV _) (by unfold maxLen;omega) (by omega) (by simp) ?_;intro v1 w1 ab aa ac;simp only [Nat.zero_add,List.nil_append] at ab;obtain ⟨an,c1,rfl⟩:=Qag ab;have O1:=Qaa ab;have B1:=Qaa (((Below.refl w.heap.size w).alloc (Nat.le_refl _) _).grown aa (by simp) (fun j hj=>by cases hj;exact Nat.le_refl _));have y0:=Qab B1 ai;clear ab aa ac)
       | (at_builtin;refine wpList_append_own _ rfl (.tmp 26) (.tmp 28) 30 rfl w.heap.size 9 i0 (.string ByteArray.empty) 1 16 underlying30 hi ad af ae rfl (by decide) _ _ _ rfl (Qat O1 ((Below.refl _ _).alloc (Nat.le_refl _) _)) ⟨w1.heap.size,0,none⟩ 1 1 [.string a] rfl rfl (Qav (cs:=#[.string a]) rfl) (QaV [a]) (by unfold maxLen;omega) (by omega) (by simp;have:=B1.out.size;omega) ?_;intro v2 w2 ab aa ac;obtain ⟨aj,c2,rfl⟩:=Qag ab;have O2:=Qaa ab;have B2:=Qaa ((B1.out.alloc B1.out.size _).grown aa (by simp;have:=B1.out.size;omega) (fun j hj=>(O1.out.lt j hj).1));have y2:=Qab B2 ai;clear ab aa ac)
       | (at_builtin;refine Qad _ rfl (.tmp 44) (.tmp 47) 30 rfl w.heap.size 9 i0 (.string ByteArray.empty) 1 16 underlying30 hi ad af ae rfl (by decide) _ _ _ rfl O2 (some ⟨b,ah,none⟩) 0 0 [] rfl rfl (fun e=>by cases e) (fun A _ j z hz=>by simp at hz) (by first | exact QaV _ | exact fun u hu=>absurd hu List.not_mem_nil) (by unfold maxLen;omega) (by omega) (by have:=B2.out.size;omega) ?_;intro v3 w3 ab aa ac;obtain ⟨al,c3,rfl⟩:=Qag ab;have O3:=Qaa ab;have B3:=Qaa (B2.out.grown aa B2.out.size (fun j hj=>(O2.out.lt j hj).1));clear ab aa ac))
      all_goals
       go_ret;refine ⟨_,rfl,OwnT.of O3 ?_,B3⟩;rw [HE.out]
       try rw [List.drop_eq_nil_of_le (by have:=HN.out;omega)]
       simp
     ·skip
      go_wp2_with (first
       | (at_builtin;refine Qad _ rfl (.tmp 21) (.tmp 24) 30 rfl w.heap.size 9 i0 (.string ByteArray.empty) 1 16 underlying30 hi ad af ae rfl (by decide) _ _ _ rfl (World.ownsRow_made _ #[] 0 (Nat.le_refl _) (Nat.zero_le _) rfl) (some ⟨b,ah,none⟩) k c ((L.take k).map Value.string) rfl (by rw [List.length_map,List.length_take];have:=HN.out;omega) (fun e=>by cases e) (fun A e=>by cases e;exact Qci (QaB (Qdj _ HA) ((Below.refl _ _).alloc (Nat.le_refl _) _))) (QaV _) (by unfold maxLen;omega) (by omega) (by simp) ?_;intro v1 w1 ab aa ac;simp only [Nat.zero_add,List.nil_append] at ab;obtain ⟨an,c1,rfl⟩:=Qag ab;have O1:=Qaa ab;have B1:=Qaa (((Below.refl w.heap.size w).alloc (Nat.le_refl _) _).grown aa (by simp) (fun j hj=>by cases hj;exact Nat.le_refl _));have y0:=Qab B1 ai;clear ab aa ac)
       | (at_builtin;refine wpList_append_own _ rfl (.tmp 26) (.tmp 28) 30 rfl w.heap.size 9 i0 (.string ByteArray.empty) 1 16 underlying30 hi ad af ae rfl (by decide) _ _ _ rfl (Qat O1 ((Below.refl _ _).alloc (Nat.le_refl _) _)) ⟨w1.heap.size,0,none⟩ 1 1 [.string a] rfl rfl (Qav (cs:=#[.string a]) rfl) (QaV [a]) (by unfold maxLen;omega) (by omega) (by simp;have:=B1.out.size;omega) ?_;intro v2 w2 ab aa ac;obtain ⟨aj,c2,rfl⟩:=Qag ab;have O2:=Qaa ab;have B2:=Qaa ((B1.out.alloc B1.out.size _).grown aa (by simp;have:=B1.out.size;omega) (fun j hj=>(O1.out.lt j hj).1));have y2:=Qab B2 ai;clear ab aa ac)
       | (at_builtin;refine Qad _ rfl (.tmp 44) (.tmp 47) 30 rfl w.heap.size 9 i0 (.string ByteArray.empty) 1 16 underlying30 hi ad af ae rfl (by decide) _ _ _ rfl O2 (some ⟨b,ah+(k+1),none⟩) (n - (k+1)) (c - (k+1)) ((L.drop (k+1)).map Value.string) rfl (by rw [List.length_map,List.length_drop];have:=HN.out;omega) (fun e=>by cases e) (fun A e=>by cases e;exact Qci (QaB (QiP (k+1) HA) B2)) (by first | exact QaV _ | exact fun u hu=>absurd hu List.not_mem_nil) (by unfold maxLen;omega) (by omega) (by have:=B2.out.size;omega) ?_;intro v3 w3 ab aa ac;obtain ⟨al,c3,rfl⟩:=Qag ab;have O3:=Qaa ab;have B3:=Qaa (B2.out.grown aa B2.out.size (fun j hj=>(O2.out.lt j hj).1));clear ab aa ac))
      all_goals
       go_ret;refine ⟨_,rfl,OwnT.of O3 ?_,B3⟩;rw [HE.out]
       try rw [List.drop_eq_nil_of_le (by have:=HN.out;omega)]
       simp
    | false=>
     have ar:∀ z,L[k]?=some z->z≠a:=fun z hz e=>by
      rw [av.out] at hz;obtain rfl:=Option.some.inj hz;subst e;simp at heq
     have HE:Hid (QcE L a=L.take k ++ [a] ++ L.drop k):=Qh5 L k HK ar;clear ar;have au:¬ (c=k):=by omega
     go_wp2_with (first
      | (at_builtin;refine Qad _ rfl (.tmp 21) (.tmp 24) 30 rfl w.heap.size 9 i0 (.string ByteArray.empty) 1 16 underlying30 hi ad af ae rfl (by decide) _ _ _ rfl (World.ownsRow_made _ #[] 0 (Nat.le_refl _) (Nat.zero_le _) rfl) (some ⟨b,ah,none⟩) k c ((L.take k).map Value.string) rfl (by rw [List.length_map,List.length_take];have:=HN.out;omega) (fun e=>by cases e) (fun A e=>by cases e;exact Qci (QaB (Qdj _ HA) ((Below.refl _ _).alloc (Nat.le_refl _) _))) (QaV _) (by unfold maxLen;omega) (by omega) (by simp) ?_;intro v1 w1 ab aa ac;simp only [Nat.zero_add,List.nil_append] at ab;obtain ⟨an,c1,rfl⟩:=Qag ab;have O1:=Qaa ab;have B1:=Qaa (((Below.refl w.heap.size w).alloc (Nat.le_refl _) _).grown aa (by simp) (fun j hj=>by cases hj;exact Nat.le_refl _));have y0:=Qab B1 ai;clear ab aa ac)
      | (at_builtin;refine wpList_append_own _ rfl (.tmp 26) (.tmp 28) 30 rfl w.heap.size 9 i0 (.string ByteArray.empty) 1 16 underlying30 hi ad af ae rfl (by decide) _ _ _ rfl (Qat O1 ((Below.refl _ _).alloc (Nat.le_refl _) _)) ⟨w1.heap.size,0,none⟩ 1 1 [.string a] rfl rfl (Qav (cs:=#[.string a]) rfl) (QaV [a]) (by unfold maxLen;omega) (by omega) (by simp;have:=B1.out.size;omega) ?_;intro v2 w2 ab aa ac;obtain ⟨aj,c2,rfl⟩:=Qag ab;have O2:=Qaa ab;have B2:=Qaa ((B1.out.alloc B1.out.size _).grown aa (by simp;have:=B1.out.size;omega) (fun j hj=>(O1.out.lt j hj).1));have y2:=Qab B2 ai;clear ab aa ac)
      | (at_builtin;refine Qad _ rfl (.tmp 44) (.tmp 47) 30 rfl w.heap.size 9 i0 (.string ByteArray.empty) 1 16 underlying30 hi ad af ae rfl (by decide) _ _ _ rfl O2 (some ⟨b,ah+k,none⟩) (n - k) (c - k) ((L.drop k).map Value.string) rfl (by rw [List.length_map,List.length_drop];have:=HN.out;omega) (fun e=>by cases e) (fun A e=>by cases e;exact Qci (QaB (QiP k HA) B2)) (by first | exact QaV _ | exact fun u hu=>absurd hu List.not_mem_nil) (by unfold maxLen;omega) (by omega) (by have:=B2.out.size;omega) ?_;intro v3 w3 ab aa ac;obtain ⟨al,c3,rfl⟩:=Qag ab;have O3:=Qaa ab;have B3:=Qaa (B2.out.grown aa B2.out.size (fun j hj=>(O2.out.lt j hj).1));clear ab aa ac))
     all_goals
      go_ret;refine ⟨_,rfl,OwnT.of O3 ?_,B3⟩;rw [HE.out]
      try rw [List.drop_eq_nil_of_le (by have:=HN.out;omega)]
      simp
  ·have ap:k=n:=by omega
   subst ap;have HE:Hid (QcE L a=L.take k ++ [a] ++ L.drop k):=Qh5 L k ⟨by have:=HN.out;omega,HF,fun z hz=>absurd (List.getElem?_eq_some_iff.1 hz).1 (by have:=HN.out;omega)⟩ (fun z hz=>absurd (List.getElem?_eq_some_iff.1 hz).1 (by have:=HN.out;omega));clear ag HF
   cases ao with
   | none=>
    have h0:c=0:=aA.out rfl;subst h0;have az:k=0:=by omega
    subst az
    go_wp2_with (first
     | (at_builtin;refine Qad _ rfl (.tmp 21) (.tmp 24) 30 rfl w.heap.size 9 i0 (.string ByteArray.empty) 1 16 underlying30 hi ad af ae rfl (by decide) _ _ _ rfl (World.ownsRow_made _ #[] 0 (Nat.le_refl _) (Nat.zero_le _) rfl) none 0 0 ((L.take 0).map Value.string) rfl (by rw [List.length_map,List.length_take];have:=HN.out;omega) (fun e=>⟨rfl,rfl⟩) (fun A e=>by cases e) (QaV _) (by unfold maxLen;omega) (by omega) (by simp) ?_;intro v1 w1 ab aa ac;simp only [Nat.zero_add,List.nil_append] at ab;obtain ⟨an,c1,rfl⟩:=Qag ab;have O1:=Qaa ab;have B1:=Qaa (((Below.refl w.heap.size w).alloc (Nat.le_refl _) _).grown aa (by simp) (fun j hj=>by cases hj;exact Nat.le_refl _));clear ab aa ac)
     | (at_builtin;refine wpList_append_own _ rfl (.tmp 26) (.tmp 28) 30 rfl w.heap.size 9 i0 (.string ByteArray.empty) 1 16 underlying30 hi ad af ae rfl (by decide) _ _ _ rfl (Qat O1 ((Below.refl _ _).alloc (Nat.le_refl _) _)) ⟨w1.heap.size,0,none⟩ 1 1 [.string a] rfl rfl (Qav (cs:=#[.string a]) rfl) (QaV [a]) (by unfold maxLen;omega) (by omega) (by simp;have:=B1.out.size;omega) ?_;intro v2 w2 ab aa ac;obtain ⟨aj,c2,rfl⟩:=Qag ab;have O2:=Qaa ab;have B2:=Qaa ((B1.out.alloc B1.out.size _).grown aa (by simp;have:=B1.out.size;omega) (fun j hj=>(O1.out.lt j hj).1));clear ab aa ac)
     | (at_builtin;refine Qad _ rfl (.tmp 44) (.tmp 47) 30 rfl w.heap.size 9 i0 (.string ByteArray.empty) 1 16 underlying30 hi ad af ae rfl (by decide) _ _ _ rfl O2 none 0 0 [] rfl rfl (fun e=>⟨rfl,rfl⟩) (fun A e=>by cases e) (by first | exact QaV _ | exact fun u hu=>absurd hu List.not_mem_nil) (by unfold maxLen;omega) (by omega) (by have:=B2.out.size;omega) ?_;intro v3 w3 ab aa ac;obtain ⟨al,c3,rfl⟩:=Qag ab;have O3:=Qaa ab;have B3:=Qaa (B2.out.grown aa B2.out.size (fun j hj=>(O2.out.lt j hj).1));clear ab aa ac))
    all_goals
     go_ret;refine ⟨_,rfl,OwnT.of O3 ?_,B3⟩;rw [HE.out]
     try rw [List.drop_eq_nil_of_le (by have:=HN.out;omega)]
     simp
   | some A=>
    by_cases au:c=k
    ·subst au
     go_wp2_with (first
      | (at_builtin;refine Qad _ rfl (.tmp 21) (.tmp 24) 30 rfl w.heap.size 9 i0 (.string ByteArray.empty) 1 16 underlying30 hi ad af ae rfl (by decide) _ _ _ rfl (World.ownsRow_made _ #[] 0 (Nat.le_refl _) (Nat.zero_le _) rfl) (some A) c c ((L.take c).map Value.string) rfl (by rw [List.length_map,List.length_take];have:=HN.out;omega) (fun e=>by cases e) (fun A e=>by cases e;exact Qci (QaB (Qdj _ HA) ((Below.refl _ _).alloc (Nat.le_refl _) _))) (QaV _) (by unfold maxLen;omega) (by omega) (by simp) ?_;intro v1 w1 ab aa ac;simp only [Nat.zero_add,List.nil_append] at ab;obtain ⟨an,c1,rfl⟩:=Qag ab;have O1:=Qaa ab;have B1:=Qaa (((Below.refl w.heap.size w).alloc (Nat.le_refl _) _).grown aa (by simp) (fun j hj=>by cases hj;exact Nat.le_refl _));clear ab aa ac)
      | (at_builtin;refine wpList_append_own _ rfl (.tmp 26) (.tmp 28) 30 rfl w.heap.size 9 i0 (.string ByteArray.empty) 1 16 underlying30 hi ad af ae rfl (by decide) _ _ _ rfl (Qat O1 ((Below.refl _ _).alloc (Nat.le_refl _) _)) ⟨w1.heap.size,0,none⟩ 1 1 [.string a] rfl rfl (Qav (cs:=#[.string a]) rfl) (QaV [a]) (by unfold maxLen;omega) (by omega) (by simp;have:=B1.out.size;omega) ?_;intro v2 w2 ab aa ac;obtain ⟨aj,c2,rfl⟩:=Qag ab;have O2:=Qaa ab;have B2:=Qaa ((B1.out.alloc B1.out.size _).grown aa (by simp;have:=B1.out.size;omega) (fun j hj=>(O1.out.lt j hj).1));clear ab aa ac)
      | (at_builtin;refine Qad _ rfl (.tmp 44) (.tmp 47) 30 rfl w.heap.size 9 i0 (.string ByteArray.empty) 1 16 underlying30 hi ad af ae rfl (by decide) _ _ _ rfl O2 _ 0 _ [] rfl rfl (fun e=>by cases e) (fun A _ j z hz=>by simp at hz) (by first | exact QaV _ | exact fun u hu=>absurd hu List.not_mem_nil) (by unfold maxLen;omega) (by omega) (by have:=B2.out.size;omega) ?_;intro v3 w3 ab aa ac;obtain ⟨al,c3,rfl⟩:=Qag ab;have O3:=Qaa ab;have B3:=Qaa (B2.out.grown aa B2.out.size (fun j hj=>(O2.out.lt j hj).1));clear ab aa ac))
     all_goals
      go_ret;refine ⟨_,rfl,OwnT.of O3 ?_,B3⟩;rw [HE.out]
      try rw [List.drop_eq_nil_of_le (by have:=HN.out;omega)]
      simp
    ·skip
     go_wp2_with (first
      | (at_builtin;refine Qad _ rfl (.tmp 21) (.tmp 24) 30 rfl w.heap.size 9 i0 (.string ByteArray.empty) 1 16 underlying30 hi ad af ae rfl (by decide) _ _ _ rfl (World.ownsRow_made _ #[] 0 (Nat.le_refl _) (Nat.zero_le _) rfl) (some A) k c ((L.take k).map Value.string) rfl (by rw [List.length_map,List.length_take];have:=HN.out;omega) (fun e=>by cases e) (fun A e=>by cases e;exact Qci (QaB (Qdj _ HA) ((Below.refl _ _).alloc (Nat.le_refl _) _))) (QaV _) (by unfold maxLen;omega) (by omega) (by simp) ?_;intro v1 w1 ab aa ac;simp only [Nat.zero_add,List.nil_append] at ab;obtain ⟨an,c1,rfl⟩:=Qag ab;have O1:=Qaa ab;have B1:=Qaa (((Below.refl w.heap.size w).alloc (Nat.le_refl _) _).grown aa (by simp) (fun j hj=>by cases hj;exact Nat.le_refl _));clear ab aa ac)
      | (at_builtin;refine wpList_append_own _ rfl (.tmp 26) (.tmp 28) 30 rfl w.heap.size 9 i0 (.string ByteArray.empty) 1 16 underlying30 hi ad af ae rfl (by decide) _ _ _ rfl (Qat O1 ((Below.refl _ _).alloc (Nat.le_refl _) _)) ⟨w1.heap.size,0,none⟩ 1 1 [.string a] rfl rfl (Qav (cs:=#[.string a]) rfl) (QaV [a]) (by unfold maxLen;omega) (by omega) (by simp;have:=B1.out.size;omega) ?_;intro v2 w2 ab aa ac;obtain ⟨aj,c2,rfl⟩:=Qag ab;have O2:=Qaa ab;have B2:=Qaa ((B1.out.alloc B1.out.size _).grown aa (by simp;have:=B1.out.size;omega) (fun j hj=>(O1.out.lt j hj).1));clear ab aa ac)
      | (at_builtin;refine Qad _ rfl (.tmp 44) (.tmp 47) 30 rfl w.heap.size 9 i0 (.string ByteArray.empty) 1 16 underlying30 hi ad af ae rfl (by decide) _ _ _ rfl O2 _ 0 _ [] rfl rfl (fun e=>by cases e) (fun A _ j z hz=>by simp at hz) (by first | exact QaV _ | exact fun u hu=>absurd hu List.not_mem_nil) (by unfold maxLen;omega) (by omega) (by have:=B2.out.size;omega) ?_;intro v3 w3 ab aa ac;obtain ⟨al,c3,rfl⟩:=Qag ab;have O3:=Qaa ab;have B3:=Qaa (B2.out.grown aa B2.out.size (fun j hj=>(O2.out.lt j hj).1));clear ab aa ac))
     all_goals
      go_ret;refine ⟨_,rfl,OwnT.of O3 ?_,B3⟩;rw [HE.out]
      try rw [List.drop_eq_nil_of_le (by have:=HN.out;omega)]
      simp
theorem Qed {x:List UInt8} (ha:a=⟨x.toArray⟩) (hb:b=⟨y.toArray⟩) (h:x.length+y.length<=1000000):Op.stringOp .add a b=pure (.string ⟨(x ++ y).toArray⟩):=by
 subst ha;subst hb;unfold Op.stringOp;have e1:(⟨x.toArray⟩:ByteArray).size=x.length:=by rw [<- Qap,Qbc]
 have e2:(⟨y.toArray⟩:ByteArray).size=y.length:=by rw [<- Qap,Qbc]
 have:¬ ((((⟨x.toArray⟩:ByteArray).size+(⟨y.toArray⟩:ByteArray).size:Nat):Int) > IntKind.i64.max):=by
  have e:IntKind.i64.max=9223372036854775807:=by decide
  rw [e,e1,e2];omega
 simp only [if_neg this,mk_app]
theorem Qtb {B' size:Nat} {e:TypeId} (h:w.ownsRow B e size v n xs) (hb:B'<=B):w.ownsRow B' e size v n xs:=by
 refine ⟨h.1,?_⟩;rcases h.2 with h2 | ⟨g,ab,aa,e1,e2,e3⟩
 ·exact .inl h2
 ·exact .inr ⟨g,ab,aa,e1,Nat.le_trans hb e2,e3⟩
theorem Qne (h:L[k]?=some x):QjW (L.take (k+1))=QcE (QjW (L.take k)) x:=by
 rw [List.take_add_one,h];simp [QjW,List.foldl_append]
theorem all_no (h:L[k]?=some x) (hx:QbG x=false):L.all QbG=false:=by
 rw [List.all_eq_false];exact ⟨x,List.mem_of_getElem? h,by rw [hx];decide⟩
theorem Qd0 (c n:Nat) (hn:L.length=n) (hl:n<=1048576) (hu:∀ u∈L,u.size<=maxLen) (hA:Qaw w ao L) :
  Calls prog 114 #[.slice ao n c] w fun e w'=>e=.returned (.bool (L.all QbG))/\w'=w:=by
 have HA:=Qaa hA;have HN:=Qaa hn;have HU:=Qaa hu;clear hA hn hu;go_enter func114,ntmps114;go_wp2
 go_loop [3] (fun i=>∃ k:Nat,k<=n/\i=.int .i64 k/\Hid ((L.take k).all QbG=true)) (fun i=>n - (Go.RowKit.intOf i).toNat)
 case atStart=>exact ⟨0,Nat.zero_le _,rfl,(by simp:(L.take 0).all QbG=true)⟩
 case round=>
  obtain ⟨k,hk,rfl,HF⟩:=hrel;by_cases ac:k<n
  ·obtain ⟨b,ad,e,aa⟩:=HA.out (by have:=HN.out;omega)
   subst e;obtain ⟨y,hy⟩:∃ y,L[k]?=some y:=⟨L[k]'(by have:=HN.out;omega),List.getElem?_eq_getElem _⟩;have ab:=aa k y hy;have HZ:=Qaa (HU.out y (List.mem_of_getElem? hy));have HY:=Qaa hy;clear aa hy
   cases ht:QbG y with
   | false=>
    have HE:Hid (L.all QbG=false):=all_no HY ht;go_wp2_with (go_at_call 116;refine (Qco _ _ HZ).mono ?_;rintro e w1 ⟨rfl,rfl⟩);go_ret;exact ⟨QaW HE.out.symm,rfl⟩
   | true=>
    have HE:Hid ((L.take (k+1)).all QbG=true):=(by rw [List.take_add_one,HY.out,List.all_append,HF.out];simp [ht]:(L.take (k+1)).all QbG=true);go_wp2_with (go_at_call 116;refine (Qco _ _ HZ).mono ?_;rintro e w1 ⟨rfl,rfl⟩)
    go_round
    case rel=>exact ⟨k+1,by omega,by go_num,HE⟩
    case measure=>simp [Go.RowKit.intOf];omega
  ·have HE:Hid (L.all QbG=true):=(by have:=HF.out;rwa [List.take_of_length_le (by have:=HN.out;omega)] at this:L.all QbG=true)
   go_wp2;go_ret;exact ⟨QaW HE.out.symm,rfl⟩
theorem QlV {name:ByteArray} (h:name.size<=100) (hk:∀ x∈K,x.size<=20) (hl:K.length<=20100):(QdI name K).length<=422300:=by
 have:=QoL hk;unfold QdI;simp only [List.length_append,Qap,List.length_cons,List.length_nil];omega
theorem Qpk (name:ByteArray) (h:K[0]?=some x):QdI name (K.take 0) ++ toL x=QdI name (K.take 1):=by
 rw [List.take_add_one,h];simp [QdI,Qi2,QiY]
theorem Qpg {i:Nat} (name:ByteArray) (h:K[i]?=some x) (h0:0<i):QdI name (K.take i) ++ [44] ++ toL x=QdI name (K.take (i+1)):=by
 have hl:=(List.getElem?_eq_some_iff.1 h).1;rw [List.take_add_one,h];unfold QdI;rw [show (some x).toList=[x] from rfl,Qhb (fun e=>by have:=congrArg List.length e;rw [List.length_take,List.length_nil] at this;omega)];simp
theorem QbA (name:ByteArray) (c n:Nat) (hnm:name.size<=100) (hn:L.length=n) (hl:n<=20100) (hu:∀ u∈L,u.size<=20) (hA:Qaw w ao L) :
  Calls prog 68 #[.string name,.slice ao n c] w fun e w'=>e=.returned (.string (Qdk name L))/\Below w.heap.size w w':=by
 have HA:=Qaa hA;have HN:=Qaa hn;have HU:=Qaa hu;clear hA hn hu;go_enter func68,ntmps68;go_wp2;have O0:OwnT (w.alloc (.cells #[] 9)) w.heap.size (.slice (some ⟨w.heap.size,0,none⟩) 0 0) []:=World.ownsRow_made w #[] 0 (Nat.le_refl _) (Nat.zero_le _) rfl
 go_loopw [5,6] (fun lv i wr=>∃ (k:Nat) (lo:Option Addr) (m lc:Nat),k<=n/\i=.int .i64 k/\lv=.slice lo m lc/\Hid (OwnT wr w.heap.size (.slice lo m lc) (QjW (L.take k))/\m=(QjW (L.take k)).length)/\Hid (Below w.heap.size w wr)) (fun lv i wr=>n - (Go.RowKit.intOf i).toNat)
 case atStart=>exact ⟨0,_,0,0,Nat.zero_le _,rfl,rfl,⟨O0,rfl⟩,(Below.refl _ _).alloc (Nat.le_refl _) _⟩
 case round=>
  clear O0;obtain ⟨k,lo,m,lc,hk,rfl,rfl,HO,HB⟩:=hrel;by_cases aG:k<n
  ·obtain ⟨b,az,e,aa⟩:=HA.out (by have:=HN.out;omega)
   obtain ⟨y,hy⟩:∃ y,L[k]?=some y:=⟨L[k]'(by have:=HN.out;omega),List.getElem?_eq_getElem _⟩;subst e;have ar:=Qab HB (aa k y hy);have HE:=Qaa (Qne hy);have aC:m<=20100:=by have:=QlT (L.take k);have:=HO.out.2;rw [List.length_take] at *; omega
   clear aa hy;have G:=Qaa HO.out.1.cap;go_wp2_with (go_at_call 73;refine (Qhd y HO.out.2.symm (by omega) G.out.2.1 G.out.2.2.1 G.out.2.2.2 HO.out.1.at).mono ?_;rintro e w2 ⟨v2,rfl,o2,al⟩;obtain ⟨aA,c2,rfl⟩:=Qfo o2;rw [<- HE.out] at o2;have aD:=Qaa o2;have aB:=Qaa (HB.out.trans (al.mono HB.out.size));have aF:=al.size;clear o2 al);go_roundw
   case rel=>
    rw [<- HE.out];refine ⟨k+1,aA,_,c2,by omega,by go_num,rfl,⟨?_,rfl⟩,aB⟩;have h:=aD.out;unfold OwnT at h ⊢;exact Qtb h HB.out.size
   case measure=>simp [Go.RowKit.intOf];omega
  ·have ay:k=n:=by omega
   subst ay;have eL:L.take k=L:=List.take_of_length_le (by have:=HN.out;omega);rw [eL] at HO;clear eL;obtain ⟨K,hK⟩:∃ K,QjW L=K:=⟨_,rfl⟩;have HK:=Qaa hK;rw [hK] at HO;have ag:Hid (∀ x∈K,x.size<=20):=(fun x hx=>HU.out x (mem_serK.1 (by rw [hK];exact hx)):∀ x∈K,x.size<=20);have aC:m<=20100:=by have:=QlT L;have:=HO.out.2;have:=HN.out;rw [hK] at *; omega
   clear hK;have au:Hid (K.length<=20100):=(by have:=HO.out.2;omega:K.length<=20100);obtain ⟨T0,ah⟩:∃ T0:ByteArray,T0=⟨(QdI name (K.take 0)).toArray⟩:=⟨_,rfl⟩
   have ae:Op.stringOp .add name ⟨#[123]⟩=pure (.string T0):=by
    rw [Qed (x:=toL name) (y:=[123]) (Qk3 name).symm rfl (by rw [Qap];simp;omega),ah];simp [QdI,QiY]
   have aw:=Qaa ah;clear ah;go_wp2
   go_loop [7,8] (fun tv i=>∃ (j:Nat) (T:ByteArray),j<=m/\i=.int .i64 j/\tv=.string T/\Hid (T=⟨(QdI name (K.take j)).toArray⟩)) (fun tv i=>m - (Go.RowKit.intOf i).toNat)
   case atStart=>exact ⟨0,T0,Nat.zero_le _,rfl,rfl,aw⟩
   case round=>
    clear aw ae;obtain ⟨j,T,hj,rfl,rfl,HT⟩:=hrel;by_cases aH:j<m
    ·obtain ⟨b,az,e,aa⟩:=HO.out.1.at (by have:=HO.out.2;omega)
     obtain ⟨y,hy⟩:∃ y,K[j]?=some y:=⟨K[j]'(by have:=HO.out.2;omega),List.getElem?_eq_getElem _⟩;subst e;have ar:=aa j y hy;have ap:y.size<=20:=ag.out y (List.mem_of_getElem? hy);have ac:=QlV (name:=name) (K:=K.take j) hnm (fun x hx=>ag.out x (List.mem_of_mem_take hx)) (by rw [List.length_take];have:=au.out;omega);rcases Nat.eq_zero_or_pos j with h0 | h0
     ·subst h0
      rw [Nat.add_zero] at ar;obtain ⟨T2,ab⟩:∃ T2:ByteArray,T2=⟨(QdI name (K.take 1)).toArray⟩:=⟨_,rfl⟩
      have am:Op.stringOp .add T y=pure (.string T2):=by
       rw [Qed HT.out (Qk3 y).symm (by rw [Qap];omega),Qpk name hy,ab]
      have aj:=Qaa ab;clear ab hy aa ac ap;go_wp2
      go_round
      case rel=>exact ⟨1,T2,by omega,by go_num,rfl,aj⟩
      case measure=>simp [Go.RowKit.intOf];omega
     ·have aI:(0:Int)<(j:Int):=by omega
      obtain ⟨T1,ai⟩:∃ T1:ByteArray,T1=⟨(QdI name (K.take j) ++ [44]).toArray⟩:=⟨_,rfl⟩
      have aq:Op.stringOp .add T ⟨#[44]⟩=pure (.string T1):=by
       rw [Qed (y:=[44]) HT.out rfl (by simp;omega),ai]
      obtain ⟨T2,ab⟩:∃ T2:ByteArray,T2=⟨(QdI name (K.take (j+1))).toArray⟩:=⟨_,rfl⟩
      have av:Op.stringOp .add T1 y=pure (.string T2):=by
       rw [Qed ai (Qk3 y).symm (by rw [Qap];simp;omega),Qpg name hy h0,ab]
      have aj:=Qaa ab;clear ab ai hy aa ac ap;go_wp2
      go_round
      case rel=>exact ⟨j+1,T2,by omega,by go_num,rfl,aj⟩
      case measure=>simp [Go.RowKit.intOf];omega
    ·have ak:j=m:=by omega
     have eK:K.take j=K:=List.take_of_length_le (by have:=HO.out.2;omega);have ac:=QlV (name:=name) (K:=K) hnm ag au;obtain ⟨T2,ab⟩:∃ T2:ByteArray,T2=Qur name K:=⟨_,rfl⟩
     have am:Op.stringOp .add T ⟨#[125]⟩=pure (.string T2):=by
      rw [Qed (y:=[125]) HT.out rfl (by rw [eK];simp;omega),eK,ab];rfl
     have aE:T2.size<=1000000:=by rw [ab,<- Qap,Qur,Qbc];simp;omega
     have HF:Hid (Qdk name L=if 8<m∨100<T2.size then ByteArray.empty else T2):=(by unfold Qdk;rw [HK.out,ab,<- HO.out.2]:Qdk name L=if 8<m∨100<T2.size then ByteArray.empty else T2);clear ab eK ac HT ak;by_cases h8:8<m
     ·have ax:(8:Int)<(m:Int):=by omega
      have ad:Hid (Qdk name L=ByteArray.empty):=(by rw [HF.out,if_pos (.inl h8)]:Qdk name L=ByteArray.empty);go_wp2;go_ret;exact ⟨by rw [ad.out];rfl,HB⟩
     ·have ax:¬ (8:Int)<(m:Int):=by omega
      by_cases an:100<T2.size
      ·have af:(100:Int)<(T2.size:Int):=by omega
       have ad:Hid (Qdk name L=ByteArray.empty):=(by rw [HF.out,if_pos (.inr an)]:Qdk name L=ByteArray.empty);go_wp2;go_ret;exact ⟨by rw [ad.out];rfl,HB⟩
      ·have af:¬ (100:Int)<(T2.size:Int):=by omega
       have ad:Hid (Qdk name L=T2):=(by rw [HF.out,if_neg (by omega)]:Qdk name L=T2);go_wp2;go_ret;exact ⟨by rw [ad.out];rfl,HB⟩
end Go.Proofs.YtdbaabbmcfnjbaaGreatDoor
