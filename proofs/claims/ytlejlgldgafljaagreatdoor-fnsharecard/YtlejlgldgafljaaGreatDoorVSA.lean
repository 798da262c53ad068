/-
 Parts.
-/
import Derived.Test.YtlejlgldgafljaaGreatDoorVJA
import Derived.Maps.OwnSet
import Derived.Sort.KeysCollected
import Derived.Sort.Walk0
import Derived.Lib.Join
import Derived.RegionTactic
import Derived.BigRegion
import Derived.SliceStrings
set_option maxHeartbeats 4000000
set_option linter.all false
namespace Go.Proofs.YtlejlgldgafljaaGreatDoor
open Go.ChangeShapes Go.WideShapes Go.ChangeAt Go.RowKit Go.PlainAid Tryz
def QaM (a b:ByteArray):Bool:=Op.bytesLess a.toList b.toList
theorem Qta (t:TypeId) (a b:ByteArray):binOp .geq t (.string a) (.string b)=pure (.bool !(QaM a b)):=by simp [binOp,Op.stringOp,QaM]
theorem QfZ:∀ x y:List UInt8,Op.bytesLess x y=true->Op.bytesLess y x=false
 | _,[],h=>by simp [Op.bytesLess] at h
 | [],_ :: _,_=>by simp [Op.bytesLess]
 | a :: x,b :: y,h=>by
  simp only [Op.bytesLess,Bool.or_eq_true,yB,decide_eq_true_eq,beq_iff_eq] at h;simp only [Op.bytesLess,Bool.or_eq_false_iff,Bool.and_eq_false_iff,decide_eq_false_iff_not,beq_eq_false_iff_ne];rcases h with h | ⟨rfl,h⟩
  ·exact ⟨fun k=>by have:=UInt8.lt_asymm h k;exact this,.inl (fun e=>by subst e;exact UInt8.lt_irrefl _ h)⟩
  ·exact ⟨UInt8.lt_irrefl _,.inr (QfZ x y h)⟩
theorem QiZ:∀ x y:List UInt8,Op.bytesLess x y=false->(x == y)=false->Op.bytesLess y x=true
 | [],[],_,h=>by simp at h
 | _ :: _,[],_,_=>by simp [Op.bytesLess]
 | [],_ :: _,h,_=>by simp [Op.bytesLess] at h
 | a :: x,b :: y,h,k=>by
  simp only [Op.bytesLess,Bool.or_eq_false_iff,Bool.and_eq_false_iff,decide_eq_false_iff_not,beq_eq_false_iff_ne] at h;simp only [Op.bytesLess,Bool.or_eq_true,yB,decide_eq_true_eq,beq_iff_eq];by_cases e:a=b
  ·subst e
   refine .inr ⟨rfl,QiZ x y ?_ ?_⟩
   ·rcases h.2 with h | h
    ·exact absurd rfl h
    ·exact h
   ·simpa using k
  ·left
   have h1:=h.1;simp only [UInt8.lt_iff_toNat_lt] at h1 ⊢;have:a.toNat≠b.toNat:=fun q=>e (UInt8.toNat_inj.1 q);omega
variable {y:List UInt8}
theorem Qou {x:List UInt8} (h:(x == y)=true):Op.bytesLess y x=false:=by
 have h:=beq_iff_eq.1 h;subst h
 cases e:Op.bytesLess x x with
 | false=>rfl
 | true=>have:=QfZ x x e;rw [this] at e;cases e
theorem op_gtr (t:TypeId) (a b:ByteArray):binOp .gtr t (.string a) (.string b)=pure (.bool (QaM b a)):=by
 have e:(!(Op.bytesLess a.toList b.toList || a.toList == b.toList))=Op.bytesLess b.toList a.toList:=by
  cases h1:Op.bytesLess a.toList b.toList
  ·cases h2:(a.toList == b.toList)
   ·rw [QiZ _ _ h1 h2];rfl
   ·rw [Qou h2];rfl
  ·rw [QfZ _ _ h1];rfl
 show Op.stringOp .gtr a b=_
 unfold Op.stringOp QaM;rw [<- e]
theorem Qh5:∀ x y z:List UInt8,Op.bytesLess x y=true->Op.bytesLess y z=true->Op.bytesLess x z=true
 | _,[],_,h,_=>by simp [Op.bytesLess] at h
 | _,_ :: _,[],_,h=>by simp [Op.bytesLess] at h
 | [],_ :: _,_ :: _,_,_=>by simp [Op.bytesLess]
 | a :: x,b :: y,c :: z,h,k=>by
  simp only [Op.bytesLess,Bool.or_eq_true,yB,decide_eq_true_eq,beq_iff_eq] at h k ⊢;rcases h with h | ⟨rfl,h⟩
  ·rcases k with k | ⟨rfl,k⟩
   ·exact .inl (UInt8.lt_trans h k)
   ·exact .inl h
  ·rcases k with k | ⟨rfl,k⟩
   ·exact .inl k
   ·exact .inr ⟨rfl,Qh5 x y z h k⟩
variable {a b s x:ByteArray}
theorem QfC (h:(a.toList == b.toList)=true):a=b:=by
 have h:=beq_iff_eq.1 h;rw [ByteArray.toList_eq,ByteArray.toList_eq] at h
 cases a;cases b
 simp at h;simp [h]
theorem Qc2 {c:ByteArray} (h:QaM a b=true) (k:QaM b c=true):QaM a c=true:=Qh5 _ _ _ h k
theorem Qcq (a:ByteArray):QaM a a=false:=Qou (x:=a.toList) (y:=a.toList) (by simp)
theorem QeH (h:QaM a b=true):QaM b a=false:=QfZ _ _ h
theorem Qe0 (h:QaM a b=false):QaM b a=true∨a=b:=by
 cases e:(a.toList == b.toList) with
 | true=>exact .inr (QfC e)
 | false=>exact .inl (QiZ _ _ h e)
theorem QgV {c:ByteArray} (h:QaM b a=false) (k:QaM c b=false):QaM c a=false:=by
 cases e:QaM c a with
 | false=>rfl
 | true=>
  rcases Qe0 k with q | q
  ·rw [Qc2 q e] at h;cases h
  ·subst q;rw [e] at h;cases h
def toL (b:ByteArray):List UInt8:=b.data.toList
theorem Qbc (h:toL a=toL b):a=b:=by
 cases a;cases b;simp [toL] at h;simp [h]
theorem QfM (b:ByteArray):(⟨(toL b).toArray⟩:ByteArray)=b:=by cases b;simp [toL]
theorem Qba (l:List UInt8):toL ⟨l.toArray⟩=l:=by simp [toL]
theorem Qaq (b:ByteArray):(toL b).length=b.size:=by unfold toL;rw [Array.length_toList];rfl
theorem mk_app (a b:List UInt8):(⟨a.toArray⟩:ByteArray) ++ ⟨b.toArray⟩=⟨(a ++ b).toArray⟩:=by
 apply ByteArray.ext;rw [ByteArray.data_append];simp
theorem Qtg (a b:ByteArray):QaM a b=decide (toL a<toL b):=by
 unfold QaM toL;rw [ByteArray.toList_eq,ByteArray.toList_eq];exact Go.Proofs.bytesLess_eq _ _
def QbL:List ByteArray->ByteArray->List ByteArray
 | [],t=>[t]
 | y :: r,t=>if QaM y t=true then y :: QbL r t else if y=t then y :: r else t :: y :: r
def Qcd (l:List ByteArray):Prop:=l.Pairwise (fun a b=>QaM a b=true)
theorem mem_insT {x t:ByteArray}:∀ {l:List ByteArray},x∈QbL l t↔x=t∨x∈l
 | []=>by simp [QbL]
 | y :: r=>by
  unfold QbL
  split
  ·simp only [List.mem_cons,mem_insT (l:=r)]
   constructor
   ·rintro (h | h | h)
    ·exact .inr (.inl h)
    ·exact .inl h
    ·exact .inr (.inr h)
   ·rintro (h | h | h)
    ·exact .inr (.inl h)
    ·exact .inl h
    ·exact .inr (.inr h)
  ·split
   ·rename_i h;subst h;simp
   ·simp
theorem QeW {t:ByteArray}:∀ {l:List ByteArray},Qcd l->Qcd (QbL l t)
 | [],_=>by simp [QbL,Qcd]
 | y :: r,h=>by
  obtain ⟨h1,h2⟩:=List.pairwise_cons.1 h;unfold QbL
  split
  ·rename_i hy
   refine List.pairwise_cons.2 ⟨fun x hx=>?_,QeW h2⟩;rcases mem_insT.1 hx with rfl | hx
   ·exact hy
   ·exact h1 x hx
  ·rename_i hy
   split
   ·exact h
   ·rename_i hne
    have hty:QaM t y=true:=by
     rcases Qe0 (a:=y) (b:=t) (by simpa using hy) with e | e
     ·exact e
     ·exact absurd e hne
    refine List.pairwise_cons.2 ⟨fun x hx=>?_,h⟩;rcases List.mem_cons.1 hx with rfl | hx
    ·exact hty
    ·exact Qc2 hty (h1 x hx)
def Qd6 (L:List ByteArray):List ByteArray:=L.foldl QbL []
theorem Qj0:∀ (L l:List ByteArray),Qcd l->Qcd (L.foldl QbL l)
 | [],l,h=>h
 | t :: r,l,h=>Qj0 r (QbL l t) (QeW h)
theorem QmT (x:ByteArray):∀ (L l:List ByteArray),x∈L.foldl QbL l↔x∈L∨x∈l
 | [],l=>by simp
 | t :: r,l=>by
  rw [List.foldl_cons,QmT x r,mem_insT,List.mem_cons];constructor
  ·rintro (h | h | h)
   ·exact .inl (.inr h)
   ·exact .inl (.inl h)
   ·exact .inr h
  ·rintro ((h | h) | h)
   ·exact .inr (.inl h)
   ·exact .inl h
   ·exact .inr (.inr h)
theorem QeA (L:List ByteArray):Qcd (Qd6 L):=Qj0 L [] List.Pairwise.nil
variable {K L l:List ByteArray}
theorem mem_serK:x∈Qd6 L↔x∈L:=by unfold Qd6;rw [QmT];simp
theorem QiO (t:ByteArray):∀ l:List ByteArray,(QbL l t).length<=l.length+1
 | []=>by simp [QbL]
 | y :: r=>by
  unfold QbL;have:=QiO t r
  split
  ·simp;omega
  ·split <;> simp
theorem QmM:∀ (L l:List ByteArray),(L.foldl QbL l).length<=l.length+L.length
 | [],l=>by simp
 | t :: r,l=>by
  have h1:=QmM r (QbL l t);have h2:=QiO t l;simp only [List.foldl_cons,List.length_cons];omega
theorem Qf7 (L:List ByteArray):(Qd6 L).length<=L.length:=by have:=QmM L [];simpa [Qd6] using this
theorem Qbo (h:Qcd l):l.Nodup:=h.imp (fun {a b} hab e=>by subst e;rw [Qcq] at hab;cases hab)
theorem Qp2 {m:List ByteArray} (h:Qcd l) (k:Qcd m) (hm:∀ x,x∈l↔x∈m):l=m:=by
 have hp:l.Perm m:=(List.perm_ext_iff_of_nodup (Qbo h) (Qbo k)).2 hm;refine hp.eq_of_pairwise (le:=fun a b=>QaM a b=true) (fun a b _ _ h1 h2=>?_) h k;rw [QeH h1] at h2;cases h2
def QcP (t:ByteArray):Lit:=.string (toL t)
def QfY (L:List ByteArray):DataW Unit:=Go.Maps.setOf (.agg []) (L.map QcP)
theorem QpQ (L:List ByteArray) (t:ByteArray):QfY (L ++ [t])=(QfY L).put (QcP t) (.agg []):=by unfold QfY;rw [List.map_append];exact Go.Maps.setOf_snoc _ _ _
theorem QmG (L:List ByteArray):∀ x∈L.map QcP,WideAt.IsKeyLit x:=fun x hx=>by
 obtain ⟨t,_,rfl⟩:=List.mem_map.1 hx;exact trivial
theorem Qfb (L:List ByteArray) (hk:∃ es,QfY L=.map es/\∀ p∈es,∃ x,p.1=Lit.string x):((Qd6 L).map toL).Perm (Go.strKeys (QfY L)):=by
 obtain ⟨es,e,hs⟩:=hk;obtain ⟨aa,e',hp⟩:=Go.Maps.tidy_setOf (H:=Unit) (.agg []) (L.map QcP) (QmG L);have e':QfY L=.map aa:=e';obtain rfl:es=aa:=by rw [e] at e'; simpa using e'
 rw [e];refine Go.perm_strKeys hp hs ?_ (fun x=>?_)
 ·exact List.pairwise_map.2 ((Qbo (QeA L)).imp (fun {a b} hne h=>hne (Qbc h)))
 ·have hh:=Go.Maps.has_setOf (H:=Unit) (.agg []) (.string x) (L.map QcP) (QmG L)
  have hh:Go.Maps.has (QfY L) (.string x)=(L.map QcP).any (fun y=>y.sameKey (.string x)):=hh;rw [<- e,hh,List.any_eq_true,List.mem_map];constructor
  ·rintro ⟨t,ht,rfl⟩
   exact ⟨QcP t,List.mem_map.2 ⟨t,mem_serK.1 ht,rfl⟩,by simp [QcP,Lit.sameKey]⟩
  ·rintro ⟨y,hy,hs⟩
   obtain ⟨t,ht,rfl⟩:=List.mem_map.1 hy;exact ⟨t,mem_serK.2 ht,by simpa [QcP,Lit.sameKey] using hs⟩
theorem Qee (hk:∃ es,QfY L=.map es/\∀ p∈es,∃ x,p.1=Lit.string x) {ss:List (List UInt8)} (h:ss.Perm (Go.strKeys (QfY L))) :
  ss.mergeSort (fun x y=>decide (x<=y))=(Qd6 L).map toL/\ss.length=(Qd6 L).length/\Go.Maps.size (QfY L)=(Qd6 L).length:=by
 have hp:=h.trans (Qfb L hk).symm;have hl:=hp.length_eq;rw [yA] at hl;refine ⟨?_,hl,?_⟩
 ·have e:=Go.mergeSort_of_perm hp
  have e2:((Qd6 L).map toL).mergeSort Go.leB=(Qd6 L).map toL:=by
   refine List.mergeSort_of_pairwise ?_;refine List.pairwise_map.2 ((QeA L).imp (fun {a b} aa=>?_));rw [Qtg] at aa;have aa:=of_decide_eq_true aa;exact decide_eq_true (List.le_of_lt aa)
  exact e.trans e2
 ·have h2:=(Qfb L hk).length_eq
  rw [yA] at h2;rw [h2];obtain ⟨es,e,_⟩:=hk;rw [e];simp [Go.Maps.size,Go.strKeys]
def QaQ (K:List ByteArray):List UInt8:=Lib.join (K.map toL) [44]
theorem Qjy:QaQ []=[]:=rfl
theorem Qdm (x:ByteArray):QaQ [x]=toL x:=Lib.join_one _ _
theorem QjE (sep:List UInt8) (r:List (List UInt8)) (x:List UInt8):Lib.joinTail sep (r ++ [x])=Lib.joinTail sep r ++ (sep ++ x):=by simp [Lib.joinTail]
theorem Qfx (h:K≠[]) (x:ByteArray):QaQ (K ++ [x])=QaQ K ++ [44] ++ toL x:=by
 cases K with
 | nil=>exact absurd rfl h
 | cons y r=>
  unfold QaQ;rw [List.cons_append,List.map_cons,List.map_cons,Lib.join_cons,Lib.join_cons,List.map_append,List.map_cons,List.map_nil,QjE];simp
theorem QeY {m:Nat}:∀ {K:List ByteArray},(∀ x∈K,x.size<=m)->(QaQ K).length<=K.length*(m+1):=by
 have ht:∀ r:List ByteArray,(∀ x∈r,x.size<=m)->(Lib.joinTail [44] (r.map toL)).length<=r.length*(m+1):=by
  intro r
  induction r with
  | nil=>intro _;simp [Lib.joinTail]
  | cons y r ih=>
   intro h;have h1:=h y List.mem_cons_self;have h2:=ih (fun x hx=>h x (List.mem_cons_of_mem _ hx));have e:Lib.joinTail [44] ((y :: r).map toL)=44 :: toL y ++ Lib.joinTail [44] (r.map toL):=by simp [Lib.joinTail]
   rw [e];simp only [List.length_append,List.length_cons,Qaq,Nat.add_mul];omega
 intro K h
 cases K with
 | nil=>simp [QaQ,Lib.join]
 | cons y r=>
  have h1:=h y List.mem_cons_self;have h2:=ht r (fun x hx=>h x (List.mem_cons_of_mem _ hx));unfold QaQ;rw [List.map_cons,Lib.join_cons];simp only [List.length_append,List.length_cons,Qaq,Nat.add_mul];omega
def QcY (name:ByteArray) (K:List ByteArray):List UInt8:=toL name ++ [123] ++ QaQ K
def QqW (name:ByteArray) (K:List ByteArray):ByteArray:=⟨(QcY name K ++ [125]).toArray⟩
theorem QkC (name:ByteArray) (K:List ByteArray):(QqW name K).size=name.size+(QaQ K).length+2:=by
 rw [<- Qaq,QqW,Qba];simp [QcY,Qaq];omega
def Qch (name:ByteArray) (L:List ByteArray):ByteArray:=if 8<(Qd6 L).length∨100<(QqW name (Qd6 L)).size then ByteArray.empty else QqW name (Qd6 L)
def Qau (w:World) (ao:Option Addr) (L:List ByteArray):Prop:=
 0<L.length->∃ b off,ao=some ⟨b,off,none⟩/\∀ i u,L[i]?=some u->w.cell? ⟨b,off+i,none⟩=some (.string u)
variable {w w':World}
variable {ao:Option Addr}
theorem QaA (h:Qau w ao L) (hb:Bw w w'):Qau w' ao L:=fun h0=>by
 obtain ⟨b,off,e,hc⟩:=h h0;exact ⟨b,off,e,fun i u hi=>Qab hb (hc i u hi)⟩
variable {B k n:Nat}
theorem QdM {g cap:Nat} (h:w.ownsRow B 9 1 (.slice (some ⟨g,0,none⟩) L.length cap) L.length (L.map Value.string)):Qau w (some ⟨g,0,none⟩) L:=fun _=>
 ⟨g,0,rfl,fun i u hi=>by
  have hl:=(List.getElem?_eq_some_iff.1 hi).1;rw [Nat.zero_add,h.cellAt i (by omega)];simp [hi]⟩
def fillL (xs:List Value) (z:Value) (k:Nat):List Value:=xs.take k ++ List.replicate (xs.length - k) z
theorem Qen:(prog.info? 9).map (fun i=>(i.zero,i.size,i.bytes))=some (some (.string ByteArray.empty),1,16):=by kernel_rfl
def QhV (c:Int):Bool:=decide (97<=c) && decide (c<=122)
def QoA (c:Int):Bool:=decide (48<=c) && decide (c<=57)
def nmB (c:Int):Bool:=QhV c || QoA c || c == 95 || c == 46
def Qhn (s:ByteArray):Nat->Bool
 | 0=>true
 | n+1=>Qhn s n && nmB (bt s n)
def QaB (s:ByteArray):Bool:=decide (1<=s.size) && decide (s.size<=40) && QhV (bt s 0) && Qhn s s.size
theorem Qax {a b:Bool} (h:a=b):Ending.returned (.bool a)=.returned (.bool b):=by rw [h]
theorem Qld {s:ByteArray} {k:Nat} (h:nmB (bt s k)=false):∀ n,k<n->Qhn s n=false
 | 0,hk=>by omega
 | n+1,hk=>by
  unfold Qhn;by_cases e:k=n
  ·subst e;rw [h];simp
  ·rw [Qld h n (by omega)];simp
theorem Qfp (c:Int) (w:World) :
  Calls prog 103 #[.int .u8 c] w fun e w'=>e=.returned (.bool (QhV c))/\w'=w:=by
 by_cases h1:97<=c <;> by_cases h2:c<=122 <;> (go_enter func103,ntmps103;go_wp2;go_ret;exact ⟨by simp [QhV,h1,h2],rfl⟩)
theorem Qop (c:Int) (w:World) :
  Calls prog 144 #[.int .u8 c] w fun e w'=>e=.returned (.bool (QoA c))/\w'=w:=by
 by_cases h1:48<=c <;> by_cases h2:c<=57 <;> (go_enter func144,ntmps144;go_wp2;go_ret;exact ⟨by simp [QoA,h1,h2],rfl⟩)
theorem Qcl (c:Int) (w:World) :
  Calls prog 104 #[.int .u8 c] w fun e w'=>e=.returned (.bool (nmB c))/\w'=w:=by
 cases h1:QhV c <;> cases h2:QoA c <;> by_cases h3:c=95 <;> by_cases h4:c=46 <;>
 ·go_enter func104,ntmps104
  go_wp2_with (first
   | (go_at_call 103;refine (Qfp _ _).mono ?_;rintro e w1 ⟨rfl,rfl⟩)
   | (go_at_call 144;refine (Qop _ _).mono ?_;rintro e w1 ⟨rfl,rfl⟩))
  all_goals (go_ret;exact ⟨by simp [nmB,h1,h2,h3,h4],rfl⟩)
theorem Qa9 (s:ByteArray) (w:World) (hs:s.size<=maxLen) :
  Calls prog 71 #[.string s] w fun e w'=>e=.returned (.bool (QaB s))/\w'=w:=by
 unfold maxLen at hs;have ab:=get_bt s;by_cases h0:s.size<1
 ·have HN:Hid (QaB s=false):=(by unfold QaB;rw [show decide (1<=s.size)=false from decide_eq_false (by omega)];rfl:QaB s=false)
  have hi:((s.size:Int)<1):=by omega
  go_enter func71,ntmps71;go_wp2;go_ret;exact ⟨Qax HN.symm,rfl⟩
 ·by_cases h1:40<s.size
  ·have HN:Hid (QaB s=false):=(by unfold QaB;rw [show decide (s.size<=40)=false from decide_eq_false (by omega)];simp:QaB s=false)
   have hi:¬ ((s.size:Int)<1):=by omega
   have hj:(40:Int)<(s.size:Int):=by omega
   go_enter func71,ntmps71;go_wp2;go_ret;exact ⟨Qax HN.symm,rfl⟩
  ·have hi:¬ ((s.size:Int)<1):=by omega
   have hj:¬ (40:Int)<(s.size:Int):=by omega
   have hp:(0:Int)<(s.size:Int):=by omega
   cases hl:QhV (bt s 0)
   ·have HN:Hid (QaB s=false):=(by unfold QaB;rw [hl];simp:QaB s=false)
    go_enter func71,ntmps71;go_wp2_with (go_at_call 103;refine (Qfp _ _).mono ?_;rintro e w1 ⟨rfl,rfl⟩);go_ret;exact ⟨Qax HN.symm,rfl⟩
   ·have HN:Hid (QaB s=Qhn s s.size):=(by unfold QaB;rw [hl,show decide (1<=s.size)=true from decide_eq_true (by omega),show decide (s.size<=40)=true from decide_eq_true (by omega)];rfl:QaB s=Qhn s s.size)
    go_enter func71,ntmps71;go_wp2_with (go_at_call 103;refine (Qfp _ _).mono ?_;rintro e w1 ⟨rfl,rfl⟩)
    go_loop [20,3] (fun i _=>∃ k:Nat,k<=s.size/\i=.int .i64 k/\Qhn s k=true) (fun i _=>s.size - (Go.RowKit.intOf i).toNat)
    case atStart=>exact ⟨0,Nat.zero_le _,rfl,rfl⟩
    case round=>
     obtain ⟨k,hk,rfl,ha⟩:=hrel;have HA:Hid (Qhn s k=true):=ha;clear ha;by_cases aa:k<s.size
     ·cases hn:nmB (bt s k)
      ·have HB:Hid (Qhn s s.size=false):=Qld hn _ aa
       go_wp2_with (go_at_call 104;refine (Qcl _ _).mono ?_;rintro e w1 ⟨rfl,rfl⟩);go_ret;exact ⟨Qax (HN.trans HB).symm,rfl⟩
      ·have HB:Hid (Qhn s (k+1)=true):=(by unfold Qhn;rw [HA.out,hn];rfl:Qhn s (k+1)=true)
       go_wp2_with (go_at_call 104;refine (Qcl _ _).mono ?_;rintro e w1 ⟨rfl,rfl⟩)
       go_round
       case rel=>exact ⟨k+1,by omega,by go_num,HB⟩
       case measure=>simp [Go.RowKit.intOf];omega
     ·have e:k=s.size:=by omega
      have HB:Hid (Qhn s s.size=true):=(by rw [<- e];exact HA.out:Qhn s s.size=true);clear e;go_wp2;go_ret;exact ⟨Qax (HN.trans HB).symm,rfl⟩
variable {c:Int}
theorem QsK (h:97<=c) (k:c<=122):QhV c=true:=by simp [QhV,h,k]
theorem Qtl (h:c<97∨122<c):QhV c=false:=by
 unfold QhV;rcases h with h | h
 ·rw [show decide (97<=c)=false from decide_eq_false (by omega)];rfl
 ·rw [show decide (c<=122)=false from decide_eq_false (by omega)];simp
theorem Qs8 (h:48<=c) (k:c<=57):QoA c=true:=by simp [QoA,h,k]
theorem Qtc (h:c<48∨57<c):QoA c=false:=by
 unfold QoA;rcases h with h | h
 ·rw [show decide (48<=c)=false from decide_eq_false (by omega)];rfl
 ·rw [show decide (c<=57)=false from decide_eq_false (by omega)];simp
theorem QqK (c:Int):(97<=c/\c<=122)∨((c<97∨122<c)/\((48<=c/\c<=57)∨c=95∨c=46∨((c<48∨57<c)/\(c == 95)=false/\(c == 46)=false))):=by
 by_cases a:97<=c/\c<=122
 ·exact .inl a
 ·refine .inr ⟨by omega,?_⟩
  by_cases b:48<=c/\c<=57
  ·exact .inl b
  ·by_cases d:c=95
   ·exact .inr (.inl d)
   ·by_cases e:c=46
    ·exact .inr (.inr (.inl e))
    ·exact .inr (.inr (.inr ⟨by omega,by simpa using d,by simpa using e⟩))
theorem nmB_l (h:QhV c=true):nmB c=true:=by simp [nmB,h]
theorem nmB_d (h:QoA c=true):nmB c=true:=by simp [nmB,h]
theorem nmB_95:nmB 95=true:=by decide
theorem nmB_46:nmB 46=true:=by decide
theorem nmB_n (h:QhV c=false) (k:QoA c=false) (d:(c == 95)=false) (e:(c == 46)=false):nmB c=false:=by simp [nmB,h,k,d,e]
theorem QlU (h:QhV (bt s 0)=false):QaB s=false:=by unfold QaB;rw [h];simp
theorem QuT (hk:k<s.size) (h:nmB (bt s k)=false):QaB s=false:=by unfold QaB;rw [Qld h _ hk];simp
theorem QtF (h1:¬ s.size<1) (h2:¬ 40<s.size) (hl:QhV (bt s 0)=true) (ha:Qhn s s.size=true):QaB s=true:=by
 unfold QaB;rw [hl,ha,show decide (1<=s.size)=true from decide_eq_true (by omega),show decide (s.size<=40)=true from decide_eq_true (by omega)];rfl
theorem Qfc (h:Qhn s k=true) (hn:nmB (bt s k)=true):Qhn s (k+1)=true:=by unfold Qhn;rw [h,hn];rfl
theorem QaH (s:ByteArray) (w:World) (hs:s.size<=maxLen) :
  Calls prog 44 #[.string s] w fun e w'=>e=.returned (.bool (QaB s))/\w'=w:=by
 unfold maxLen at hs;have ag:=get_bt s;by_cases h0:s.size<1
 ·have HN:Hid (QaB s=false):=(by unfold QaB;rw [show decide (1<=s.size)=false from decide_eq_false (by omega)];rfl:QaB s=false)
  have hi:((s.size:Int)<1):=by omega
  go_enter func44,ntmps44;go_wp2;go_ret;exact ⟨Qax HN.symm,rfl⟩
 ·have hi:¬ ((s.size:Int)<1):=by omega
  by_cases h1:40<s.size
  ·have HN:Hid (QaB s=false):=(by unfold QaB;rw [show decide (s.size<=40)=false from decide_eq_false (by omega)];simp:QaB s=false)
   have hj:(40:Int)<(s.size:Int):=by omega
   go_enter func44,ntmps44;go_wp2;go_ret;exact ⟨Qax HN.symm,rfl⟩
  ·have hj:¬ (40:Int)<(s.size:Int):=by omega
   go_enter func44,ntmps44;go_wp2
   go_loop [3,4] (fun i _=>∃ k:Nat,k<=s.size/\i=.int .i64 k/\Qhn s k=true/\(k=0∨QhV (bt s 0)=true)) (fun i _=>s.size - (Go.RowKit.intOf i).toNat)
   case atStart=>exact ⟨0,Nat.zero_le _,rfl,rfl,.inl rfl⟩
   case round=>
    obtain ⟨k,hk,rfl,ha,hl⟩:=hrel;have HA:Hid (Qhn s k=true):=ha;have HL:Hid (k=0∨QhV (bt s 0)=true):=hl;clear ha hl;by_cases ae:k<s.size
    ·rcases QqK (bt s k) with ⟨c1,c2⟩ | ⟨aa,ab⟩
     ·have HB:Hid (QhV (bt s k)=true):=QsK c1 c2
      go_wp2
      go_round
      case rel=>exact ⟨k+1,by omega,by go_num,Qfc HA (nmB_l HB),.inr (by rcases HL.out with rfl | h;exact HB.out;exact h)⟩
      case measure=>simp [Go.RowKit.intOf];omega
     ·have HB:Hid (QhV (bt s k)=false):=Qtl aa
      rcases Nat.eq_zero_or_pos k with rfl | ad
      ·clear ab
       have g2:122<bt s 0->(decide (bt s 0<=122)=false/\97<=bt s 0):=fun h=>⟨decide_eq_false (by omega),by omega⟩;rcases aa with aa | aa
       ·clear g2
        go_wp2;go_ret;exact ⟨Qax (QlU HB).symm,rfl⟩
       ·obtain ⟨g3,g4⟩:=g2 aa
        clear g2;go_wp2;go_ret;exact ⟨Qax (QlU HB).symm,rfl⟩
      ·have ac:Hid (QhV (bt s 0)=true):=by rcases HL.out with h | h;omega;exact h
       have af:((k:Int) == 0)=false:=by simp;omega
       rcases ab with ⟨d1,d2⟩ | he | he | ⟨hd,e1,e2⟩
       ·have HD:Hid (QoA (bt s k)=true):=Qs8 d1 d2
        clear aa;go_wp2
        go_round
        case rel=>exact ⟨k+1,by omega,by go_num,Qfc HA (nmB_d HD),.inr ac⟩
        case measure=>simp [Go.RowKit.intOf];omega
       ·have HD:Hid (nmB (bt s k)=true):=(by rw [he];exact nmB_95:nmB (bt s k)=true)
        clear aa;go_wp2
        go_round
        case rel=>exact ⟨k+1,by omega,by go_num,Qfc HA HD,.inr ac⟩
        case measure=>simp [Go.RowKit.intOf];omega
       ·have HD:Hid (nmB (bt s k)=true):=(by rw [he];exact nmB_46:nmB (bt s k)=true)
        clear aa;go_wp2
        go_round
        case rel=>exact ⟨k+1,by omega,by go_num,Qfc HA HD,.inr ac⟩
        case measure=>simp [Go.RowKit.intOf];omega
       ·have HD:Hid (nmB (bt s k)=false):=nmB_n HB (Qtc hd) e1 e2
        have g1:(bt s k<97/\bt s k<48)∨(bt s k<97/\48<=bt s k/\decide (bt s k<=57)=false)∨(97<=bt s k/\decide (bt s k<=122)=false/\48<=bt s k/\decide (bt s k<=57)=false):=by
         simp only [decide_eq_false_iff_not];omega
        have n1:(bt s k != 95)=true:=by simpa using e1
        have n2:(bt s k != 46)=true:=by simpa using e2
        have n3:¬ bt s k=95:=by simpa using e1
        have n4:¬ bt s k=46:=by simpa using e2
        clear aa hd e1 e2;rcases g1 with ⟨g1,g2⟩ | ⟨g1,g2,g3⟩ | ⟨g1,g2,g3,g4⟩
        all_goals
         go_wp2;go_ret;exact ⟨Qax (QuT ae HD).symm,rfl⟩
    ·have e:k=s.size:=by omega
     have HB:Hid (QaB s=true):=by
      subst e;refine QtF h0 h1 ?_ HA;rcases HL.out with h | h
      ·omega
      ·exact h
     clear e;go_wp2;go_ret;exact ⟨Qax HB.symm,rfl⟩
def tgB (c:Int):Bool:=nmB c || c == 45 || c == 58
def Qho (s:ByteArray):Nat->Bool
 | 0=>true
 | n+1=>Qho s n && tgB (bt s n)
def Qbn (s:ByteArray):Bool:=decide (1<=s.size) && decide (s.size<=20) && Qho s s.size
theorem QpH {s:ByteArray} {k:Nat} (h:tgB (bt s k)=false):∀ n,k<n->Qho s n=false
 | 0,hk=>by omega
 | n+1,hk=>by
  unfold Qho;by_cases e:k=n
  ·subst e;rw [h];simp
  ·rw [QpH h n (by omega)];simp
theorem Qb7 (h:Qho s k=true) (hn:tgB (bt s k)=true):Qho s (k+1)=true:=by unfold Qho;rw [h,hn];rfl
theorem QsT (hk:k<s.size) (h:tgB (bt s k)=false):Qbn s=false:=by unfold Qbn;rw [QpH h _ hk];simp
theorem Qps (h:s.size<1):Qbn s=false:=by unfold Qbn;rw [show decide (1<=s.size)=false from decide_eq_false (by omega)];rfl
theorem QpP (h:20<s.size):Qbn s=false:=by unfold Qbn;rw [show decide (s.size<=20)=false from decide_eq_false (by omega)];simp
theorem Qs1 (h1:¬ s.size<1) (h2:¬ 20<s.size) (ha:Qho s s.size=true):Qbn s=true:=by
 unfold Qbn;rw [ha,show decide (1<=s.size)=true from decide_eq_true (by omega),show decide (s.size<=20)=true from decide_eq_true (by omega)];rfl
theorem tgB_45:tgB 45=true:=by decide
theorem Qs2:tgB 58=true:=by decide
theorem Qu1 (h:nmB c=true):tgB c=true:=by simp [tgB,h]
theorem tgB_f (h:nmB c=false) (a:c≠45) (b:c≠58):tgB c=false:=by simp [tgB,h,a,b]
theorem QfH (s:ByteArray) (w:World) (hs:s.size<=maxLen) :
  Calls prog 217 #[.string s] w fun e w'=>e=.returned (.bool (Qbn s))/\w'=w:=by
 unfold maxLen at hs;have ab:=get_bt s;by_cases h0:s.size<1
 ·have HN:Hid (Qbn s=false):=Qps h0
  have hi:((s.size:Int)<1):=by omega
  go_enter func217,ntmps217;go_wp2;go_ret;exact ⟨Qax HN.symm,rfl⟩
 ·by_cases h1:20<s.size
  ·have HN:Hid (Qbn s=false):=QpP h1
   have hi:¬ ((s.size:Int)<1):=by omega
   have hj:(20:Int)<(s.size:Int):=by omega
   go_enter func217,ntmps217;go_wp2;go_ret;exact ⟨Qax HN.symm,rfl⟩
  ·have hi:¬ ((s.size:Int)<1):=by omega
   have hj:¬ (20:Int)<(s.size:Int):=by omega
   go_enter func217,ntmps217;go_wp2
   go_loop [14,2] (fun i _=>∃ k:Nat,k<=s.size/\i=.int .i64 k/\Qho s k=true) (fun i _=>s.size - (Go.RowKit.intOf i).toNat)
   case atStart=>exact ⟨0,Nat.zero_le _,rfl,rfl⟩
   case round=>
    obtain ⟨k,hk,rfl,ha⟩:=hrel;have HA:Hid (Qho s k=true):=ha;clear ha;by_cases aa:k<s.size
    ·cases hn:nmB (bt s k)
     ·by_cases e1:bt s k=45
      ·have HB:Hid (Qho s (k+1)=true):=Qb7 HA (by rw [e1];exact tgB_45)
       go_wp2_with (go_at_call 104;refine (Qcl _ _).mono ?_;rintro e w1 ⟨rfl,rfl⟩)
       go_round
       case rel=>exact ⟨k+1,by omega,by go_num,HB⟩
       case measure=>simp [Go.RowKit.intOf];omega
      ·by_cases e2:bt s k=58
       ·have HB:Hid (Qho s (k+1)=true):=Qb7 HA (by rw [e2];exact Qs2)
        go_wp2_with (go_at_call 104;refine (Qcl _ _).mono ?_;rintro e w1 ⟨rfl,rfl⟩)
        go_round
        case rel=>exact ⟨k+1,by omega,by go_num,HB⟩
        case measure=>simp [Go.RowKit.intOf];omega
       ·have HB:Hid (Qbn s=false):=QsT aa (tgB_f hn e1 e2)
        have n1:(bt s k != 45)=true:=by simpa using e1
        have n2:(bt s k != 58)=true:=by simpa using e2
        go_wp2_with (go_at_call 104;refine (Qcl _ _).mono ?_;rintro e w1 ⟨rfl,rfl⟩);go_ret;exact ⟨Qax HB.symm,rfl⟩
     ·have HB:Hid (Qho s (k+1)=true):=Qb7 HA (Qu1 hn)
      go_wp2_with (go_at_call 104;refine (Qcl _ _).mono ?_;rintro e w1 ⟨rfl,rfl⟩)
      go_round
      case rel=>exact ⟨k+1,by omega,by go_num,HB⟩
      case measure=>simp [Go.RowKit.intOf];omega
    ·have e:k=s.size:=by omega
     have HB:Hid (Qbn s=true):=Qs1 h0 h1 (by rw [<- e];exact HA.out);clear e;go_wp2;go_ret;exact ⟨Qax HB.symm,rfl⟩
theorem Qsu (c:Int):(97<=c/\c<=122/\tgB c=true)∨((c<97∨122<c)/\((48<=c/\c<=58/\tgB c=true)∨(c=95/\tgB c=true)∨(c=46/\tgB c=true)∨(c=45/\tgB c=true)∨((c<48∨58<c)/\c≠95/\c≠46/\c≠45/\tgB c=false))):=by
 by_cases a:97<=c/\c<=122
 ·exact .inl ⟨a.1,a.2,Qu1 (nmB_l (QsK a.1 a.2))⟩
 ·have hl:QhV c=false:=Qtl (by omega)
  refine .inr ⟨by omega,?_⟩;by_cases b:48<=c/\c<=58
  ·refine .inl ⟨b.1,b.2,?_⟩
   by_cases b2:c=58
   ·rw [b2];exact Qs2
   ·exact Qu1 (nmB_d (Qs8 b.1 (by omega)))
  ·by_cases d:c=95
   ·exact .inr (.inl ⟨d,by rw [d];decide⟩)
   ·by_cases e:c=46
    ·exact .inr (.inr (.inl ⟨e,by rw [e];decide⟩))
    ·by_cases f:c=45
     ·exact .inr (.inr (.inr (.inl ⟨f,by rw [f];decide⟩)))
     ·exact .inr (.inr (.inr (.inr ⟨by omega,d,e,f,tgB_f (nmB_n hl (Qtc (by omega)) (by simpa using d) (by simpa using e)) f (by omega)⟩)))
theorem Qbw (s:ByteArray) (w:World) (hs:s.size<=maxLen) :
  Calls prog 125 #[.string s] w fun e w'=>e=.returned (.bool (Qbn s))/\w'=w:=by
 unfold maxLen at hs;have ad:=get_bt s;go_enter func125,ntmps125;go_wp2
 go_loop [3,4] (fun i _=>∃ k:Nat,k<=s.size/\i=.int .i64 k/\Qho s k=true) (fun i _=>s.size - (Go.RowKit.intOf i).toNat)
 case atStart=>exact ⟨0,Nat.zero_le _,rfl,rfl⟩
 case round=>
  obtain ⟨k,hk,rfl,ha⟩:=hrel;have HA:Hid (Qho s k=true):=ha;clear ha;by_cases ac:k<s.size
  ·rcases Qsu (bt s k) with ⟨c1,c2,hn⟩ | ⟨ab,aa⟩
   ·have HB:Hid (Qho s (k+1)=true):=Qb7 HA hn
    clear hn;go_wp2
    go_round
    case rel=>exact ⟨k+1,by omega,by go_num,HB⟩
    case measure=>simp [Go.RowKit.intOf];omega
   ·rcases aa with ⟨d1,d2,hn⟩ | ⟨he,hn⟩ | ⟨he,hn⟩ | ⟨he,hn⟩ | ⟨hd,e1,e2,e3,hn⟩
    ·have HB:Hid (Qho s (k+1)=true):=Qb7 HA hn
     clear hn ab;go_wp2
     go_round
     case rel=>exact ⟨k+1,by omega,by go_num,HB⟩
     case measure=>simp [Go.RowKit.intOf];omega
    ·have HB:Hid (Qho s (k+1)=true):=Qb7 HA hn
     clear hn ab;go_wp2
     go_round
     case rel=>exact ⟨k+1,by omega,by go_num,HB⟩
     case measure=>simp [Go.RowKit.intOf];omega
    ·have HB:Hid (Qho s (k+1)=true):=Qb7 HA hn
     clear hn ab;go_wp2
     go_round
     case rel=>exact ⟨k+1,by omega,by go_num,HB⟩
     case measure=>simp [Go.RowKit.intOf];omega
    ·have HB:Hid (Qho s (k+1)=true):=Qb7 HA hn
     clear hn ab;go_wp2
     go_round
     case rel=>exact ⟨k+1,by omega,by go_num,HB⟩
     case measure=>simp [Go.RowKit.intOf];omega
    ·have HD:Hid (Qbn s=false):=QsT ac hn
     have g1:(bt s k<97/\bt s k<48)∨(bt s k<97/\48<=bt s k/\decide (bt s k<=58)=false)∨(97<=bt s k/\decide (bt s k<=122)=false/\48<=bt s k/\decide (bt s k<=58)=false):=by
      simp only [decide_eq_false_iff_not];omega
     have n3:¬ bt s k=95:=e1;have n4:¬ bt s k=46:=e2;have n5:¬ bt s k=45:=e3;have m1:(bt s k == 95)=false:=by simpa using e1
     have m2:(bt s k == 46)=false:=by simpa using e2
     have m3:(bt s k == 45)=false:=by simpa using e3
     clear ab hd hn e1 e2 e3;rcases g1 with ⟨g1,g2⟩ | ⟨g1,g2,g3⟩ | ⟨g1,g2,g3,g4⟩
     all_goals
      go_wp2;go_ret;exact ⟨Qax HD.symm,rfl⟩
  ·have e:k=s.size:=by omega
   by_cases h0:s.size<1
   ·have HB:Hid (Qbn s=false):=Qps h0
    have hi:¬ (1:Int)<=(s.size:Int):=by omega
    clear e;go_wp2;go_ret;exact ⟨Qax HB.symm,rfl⟩
   ·have hi:(1:Int)<=(s.size:Int):=by omega
    by_cases h1:20<s.size
    ·have HB:Hid (Qbn s=false):=QpP h1
     have hj:¬ (s.size:Int)<=20:=by omega
     clear e;go_wp2;go_ret;exact ⟨Qax HB.symm,rfl⟩
    ·have HB:Hid (Qbn s=true):=Qs1 h0 h1 (by rw [<- e];exact HA.out)
     have hj:(s.size:Int)<=20:=by omega
     clear e;go_wp2;go_ret;exact ⟨Qax HB.symm,rfl⟩
theorem Qae {P:Program} (w:World) {ops:Array Oper} {rest:List Oper} {o:Oper} {a:Act} {Q:Exit->Act->World->Prop} (hgd:o.guard=none) (s x:Operand) (t:TypeId)
  (ho:o.op=.call { callee:=.builtin .append,args:=#[s,x],argTypes:=#[t,t] })
  (base:Nat) (e:TypeId) (i:TypeInfo) (z:Value) (size bytes:Nat) (ht:P.underlying t=some (.slice e)) (hi:P.info? e=some i) (hz:i.zero=some z)
  (hsize:i.size=size) (hby:i.bytes=bytes) (hzs:z.cells.size=size) (hsz:0<size)
  (v:Value) (n:Nat) (xs:List Value) (hs:a.eval s=v) (hown:w.ownsRow base e size v n xs)
  (xo:Option Addr) (m c:Nat) (news:List Value) (hx:a.eval x=.slice xo m c) (hl:news.length=m*size) (hno:xo=none->m=0/\c=0) (hnews:∀ ad,xo=some ad->∀ j u,news[j]?=some u->w.cell? (ad.add j)=some u) (h1:∀ u∈news,u.oneCell'=true)
  (h63:n+m<=maxLen) (hbytes:(n+m)*bytes<=140737488355328) (hbase:base<=w.heap.size)
  (h:∀ v' w',w'.ownsRow base e size v' (n+m) (xs ++ news)->w.grownBy w' v.ownBlock->(v'=.slice none 0 0↔v=.slice none 0 0/\m=0)->wpList P ops Q rest (a.put o.dst v') w'):wpList P ops Q (o :: rest) a w:=by
 cases xo with
 | some ad=>exact wpList_append_own w hgd s x t ho base e i z size bytes ht hi hz hsize hby hzs hsz v n xs hs hown ad m c news hx hl (hnews ad rfl) h1 h63 hbytes hbase h
 | none=>
  obtain ⟨rfl,rfl⟩:=hno rfl;obtain rfl:news=[]:=List.eq_nil_of_length_eq_zero (by rw [hl,Nat.zero_mul]);refine wpList_plain hgd fun _ hK=>?_;have hr:=run_append_owned_none (P:=P) (w:=w) base t o.type e i size ht hi v n xs hown;unfold Oper.wp execOp;simp only [ho,resolve,invoke,builtin,Sem.run_bind,Sem.run_pure,Result.andThen_ok,List.map_toArray,List.map_cons,List.map_nil,hs,hx,hr];exact hK _ _ (h v w (by rw [Nat.add_zero,List.append_nil];exact hown) (World.grownBy.refl _ _) (by simp))
theorem Qvh (t:TypeId) (a b:ByteArray):binOp .lss t (.string a) (.string b)=pure (.bool (QaM a b)):=by simp [binOp,Op.stringOp,QaM]
set_option maxRecDepth 10000
def OwnT (w:World) (B:Nat) (v:Value) (L:List ByteArray):Prop:=w.ownsRow B 9 1 v L.length (L.map Value.string)
variable {v:Value}
theorem OwnT.past (h:OwnT w B v L) (hb:Bw w w'):OwnT w' B v L:=QaY h hb
theorem OwnT.at {c:Nat} (h:OwnT w B (.slice ao n c) L):Qau w ao L:=fun h0=>by
 rcases h.2 with ⟨e,h1⟩ | ⟨g,cap,cur,e,_⟩
 ·omega
 ·cases e
  exact QdM h h0
theorem OwnT.cap {c:Nat} (h:OwnT w B (.slice ao n c) L):n=L.length/\n<=c/\c<=maxLen/\(ao=none->c=0):=by
 rcases h.2 with ⟨e,h1⟩ | ⟨g,cap,aa,e,_,_,h2,h3,_⟩
 ·cases e;exact ⟨h1.symm,Nat.le_refl _,Nat.zero_le _,fun _=>rfl⟩
 ·cases e;exact ⟨rfl,h2,h3,fun e=>by cases e⟩
theorem Qcu {A:Addr} (h:Qau w (some A) L):∀ j u,(L.map Value.string)[j]?=some u->w.cell? (A.add j)=some u:=fun j u hj=>by
 rw [List.getElem?_map] at hj
 cases hx:L[j]? with
 | none=>rw [hx] at hj;cases hj
 | some x=>
  rw [hx] at hj;obtain rfl:=Option.some.inj hj;obtain ⟨b,off,e,hc⟩:=h (by have:=(List.getElem?_eq_some_iff.1 hx).1;omega)
  cases e
  have:=hc j x hx
  rwa [show (⟨b,off,none⟩:Addr).add j=⟨b,off+j,none⟩ from by unfold Addr.add;split <;> simp_all]
theorem Qdz (k:Nat) (h:Qau w ao L):Qau w ao (L.take k):=fun h0=>by
 obtain ⟨b',off',e,hc⟩:=h (by rw [List.length_take] at h0;omega);exact ⟨b',off',e,fun i x hx=>hc i x (by rw [List.getElem?_take] at hx;split at hx;exact hx;cases hx)⟩
theorem QjA {b off:Nat} (k:Nat) (h:Qau w (some ⟨b,off,none⟩) L):Qau w (some ⟨b,off+k,none⟩) (L.drop k):=fun h0=>by
 obtain ⟨b',off',e,hc⟩:=h (by rw [List.length_drop] at h0;omega)
 cases e
 exact ⟨b,off+k,rfl,fun i x hx=>by
  rw [List.getElem?_drop] at hx;have:=hc (k+i) x hx
  rwa [Nat.add_assoc]⟩
theorem Qa0 (L:List ByteArray):∀ u∈L.map Value.string,u.oneCell'=true:=fun u hu=>by
 obtain ⟨x,_,rfl⟩:=List.mem_map.1 hu;rfl
def Qie (L:List ByteArray) (p:ByteArray) (k:Nat):Prop:=k<=L.length/\(∀ (t:Nat) (x:ByteArray),L[t]?=some x->t<k->QaM x p=true)/\∀ x,L[k]?=some x->QaM x p=false
theorem QgQ {y:ByteArray} {r:List ByteArray} {p:ByteArray} (h:Qie (y :: r) p (k+1)):Qie r p k:=
 ⟨by have:=h.1;simp at this;exact this,fun t x hx ht=>h.2.1 (t+1) x (by simpa using hx) (by omega),fun x hx=>h.2.2 x (by simpa using hx)⟩
theorem QqU {a:ByteArray}:∀ (L:List ByteArray) (k:Nat),Qie L a k->L[k]?=some a->QbL L a=L.take k ++ [a] ++ L.drop (k+1)
 | [],k,_,h=>by simp at h
 | y :: r,0,hp,h=>by
  obtain rfl:y=a:=by simpa using h
  have:QaM y y=false:=Qcq y;simp [QbL,this]
 | y :: r,k+1,hp,h=>by
  have hy:=hp.2.1 0 y rfl (by omega);rw [QbL,if_pos hy,QqU r k (QgQ hp) (by simpa using h)];simp
theorem QiB {a:ByteArray}:∀ (L:List ByteArray) (k:Nat),Qie L a k->(∀ x,L[k]?=some x->x≠a)->QbL L a=L.take k ++ [a] ++ L.drop k
 | [],k,hp,h=>by have:=hp.1;simp at this;subst this;rfl
 | y :: r,0,hp,h=>by
  have hy:=hp.2.2 y rfl;have hne:y≠a:=h y rfl;rw [QbL,if_neg (by rw [hy];decide),if_neg hne];rfl
 | y :: r,k+1,hp,h=>by
  have hy:=hp.2.1 0 y rfl (by omega);rw [QbL,if_pos hy,QiB r k (QgQ hp) (fun x hx=>h x (by simpa using hx))];simp
variable {xs:List Value}
theorem OwnT.of (h:w.ownsRow B 9 1 v n xs) (e:xs=L.map Value.string):OwnT w B v L:=by
 have hl:=h.1;subst e;rw [yA,Nat.mul_one] at hl;unfold OwnT;rw [hl];exact h
theorem Qcj (h:OwnT w B v L):∃ ao c,v=.slice ao L.length c:=Qam h
theorem QhY {c:Nat} (a:ByteArray) (hn:L.length=n) (hl:n<=100000) (hcap:n<=c) (hcm:c<=maxLen) (hno:ao=none->c=0) (hA:Qau w ao L) :
  Calls prog 47 #[.slice ao n c,.string a] w fun e w'=>∃ v,e=.returned v/\OwnT w' w.heap.size v (QbL L a)/\Bw w w':=by
 obtain ⟨i0,hi,af,ad,ae⟩:=info_parts Qen;have aH:=Qvh 9;have HA:=Qaa hA;have HN:=Qaa hn;have ay:=Qaa hno;unfold maxLen at hcm;clear hA hn hno;go_enter func47,ntmps47;go_wp2
 go_loop [5] (fun i=>∃ k:Nat,k<=n/\i=.int .i64 k/\Hid (∀ (t:Nat) (x:ByteArray),L[t]?=some x->t<k->QaM x a=true)) (fun i=>n - (Go.RowKit.intOf i).toNat)
 case atStart=>exact ⟨0,Nat.zero_le _,rfl,(fun t x _ h=>absurd h (by omega):∀ (t:Nat) (x:ByteArray),L[t]?=some x->t<0->QaM x a=true)⟩
 case round=>
  obtain ⟨k,hk,rfl,HF⟩:=hrel
  have ag:k<n->∃ b ah y,ao=some ⟨b,ah,none⟩/\L[k]?=some y/\w.cell? ⟨b,ah+k,none⟩=some (.string y):=fun h=>by
   obtain ⟨b,ah,e,ak⟩:=HA.out (by have:=HN.out;omega);obtain ⟨y,hy⟩:∃ y,L[k]?=some y:=⟨L[k]'(by have:=HN.out;omega),List.getElem?_eq_getElem _⟩;exact ⟨b,ah,y,e,hy,ak k y hy⟩
  by_cases aA:k<n
  ·obtain ⟨b,ah,q,rfl,an,ai⟩:=ag aA
   cases hlt:QaM q a with
   | true=>
    have aB:Hid (∀ (t:Nat) (x:ByteArray),L[t]?=some x->t<k+1->QaM x a=true):=(fun t z hz ht=>by
     by_cases e:t=k
     ·subst e;rw [an] at hz;obtain rfl:=Option.some.inj hz;exact hlt
     ·exact HF.out t z hz (by omega):∀ (t:Nat) (x:ByteArray),L[t]?=some x->t<k+1->QaM x a=true)
    clear an ag;go_wp2
    go_round
    case rel=>exact ⟨k+1,by omega,by go_num,aB⟩
    case measure=>simp [Go.RowKit.intOf];omega
   | false=>
    have HK:Hid (Qie L a k):=(⟨by have:=HN.out;omega,HF,fun z hz=>by rw [an] at hz;obtain rfl:=Option.some.inj hz;exact hlt⟩:Qie L a k);have au:=Qaa an;clear an ag HF
    cases heq:(q.toList == a.toList) with
    | true=>
     have aq:a=q:=(QfC heq).symm;subst aq;have aG:IntKind.i64.wrap ((k:Int)+1)=(k:Int)+1:=by rw [IntKind.wrap_i64];omega
     have aC:((k:Int)+1).toNat=k+1:=by omega
     have aD:(0:Int)<=(k:Int)+1:=by omega
     have aF:(k:Int)+1<=(n:Int):=by omega
     have HE:Hid (QbL L a=L.take k ++ [a] ++ L.drop (k+1)):=QqU L k HK au;by_cases aw:c=k+1
     ·subst aw
      have ax:n=k+1:=by omega
      have aE:k+1 - (k+1)=0:=by omega
      subst ax
      go_wp2_with (first
       | (at_builtin;refine Qae _ rfl (.tmp 21) (.tmp 24) 57 rfl w.heap.size 9 i0 (.string ByteArray.empty) 1 16 underlying57 hi af ad ae rfl (by decide) _ _ _ rfl (World.ownsRow_made _ #[] 0 (Nat.le_refl _) (Nat.zero_le _) rfl) (some ⟨b,ah,none⟩) k (k+1) ((L.take k).map Value.string) rfl (by rw [yA,List.length_take];have:=HN.out;omega) (fun e=>by cases e) (fun A e=>by cases e;exact Qcu (QaA (Qdz _ HA) bA)) (Qa0 _) (by unfold maxLen;omega) (by omega) (by simp) ?_;intro v1 w1 ab aa ac;simp only [Nat.zero_add,List.nil_append] at ab;obtain ⟨al,c1,rfl⟩:=Qam ab;have O1:=Qaa ab;have B1:=Qaa (((Below.refl w.heap.size w).alloc (Nat.le_refl _) _).grown aa (by simp) (fun j hj=>by cases hj;exact Nat.le_refl _));have y0:=Qab B1 ai;clear ab aa ac)
       | (at_builtin;refine wpList_append_own _ rfl (.tmp 26) (.tmp 28) 57 rfl w.heap.size 9 i0 (.string ByteArray.empty) 1 16 underlying57 hi af ad ae rfl (by decide) _ _ _ rfl (QaY O1 bA) ⟨w1.heap.size,0,none⟩ 1 1 [.string a] rfl rfl (Qav (cs:=#[.string a]) rfl) (Qa0 [a]) (by unfold maxLen;omega) (by omega) (by simp;have:=B1.size;omega) ?_;intro v2 w2 ab aa ac;obtain ⟨aj,c2,rfl⟩:=Qam ab;have O2:=Qaa ab;have B2:=Qaa ((B1.alloc B1.size _).grown aa (by simp;have:=B1.size;omega) (fun j hj=>(O1.lt j hj).1));have y2:=Qab B2 ai;clear ab aa ac)
       | (at_builtin;refine Qae _ rfl (.tmp 44) (.tmp 47) 57 rfl w.heap.size 9 i0 (.string ByteArray.empty) 1 16 underlying57 hi af ad ae rfl (by decide) _ _ _ rfl O2 (some ⟨b,ah,none⟩) 0 0 [] rfl rfl (fun e=>by cases e) (fun A _ j z hz=>by simp at hz) (by first | exact Qa0 _ | exact fun u hu=>absurd hu List.not_mem_nil) (by unfold maxLen;omega) (by omega) (by have:=B2.size;omega) ?_;intro v3 w3 ab aa ac;obtain ⟨am,c3,rfl⟩:=Qam ab;have O3:=Qaa ab;have B3:=Qaa (B2.grown aa B2.size (fun j hj=>(O2.lt j hj).1));clear ab aa ac))
      all_goals
       go_ret;refine ⟨_,rfl,OwnT.of O3 ?_,B3⟩;rw [HE.out]
       try rw [List.drop_eq_nil_of_le (by have:=HN.out;omega)]
       simp
     ·skip
      go_wp2_with (first
       | (at_builtin;refine Qae _ rfl (.tmp 21) (.tmp 24) 57 rfl w.heap.size 9 i0 (.string ByteArray.empty) 1 16 underlying57 hi af ad ae rfl (by decide) _ _ _ rfl (World.ownsRow_made _ #[] 0 (Nat.le_refl _) (Nat.zero_le _) rfl) (some ⟨b,ah,none⟩) k c ((L.take k).map Value.string) rfl (by rw [yA,List.length_take];have:=HN.out;omega) (fun e=>by cases e) (fun A e=>by cases e;exact Qcu (QaA (Qdz _ HA) bA)) (Qa0 _) (by unfold maxLen;omega) (by omega) (by simp) ?_;intro v1 w1 ab aa ac;simp only [Nat.zero_add,List.nil_append] at ab;obtain ⟨al,c1,rfl⟩:=Qam ab;have O1:=Qaa ab;have B1:=Qaa (((Below.refl w.heap.size w).alloc (Nat.le_refl _) _).grown aa (by simp) (fun j hj=>by cases hj;exact Nat.le_refl _));have y0:=Qab B1 ai;clear ab aa ac)
       | (at_builtin;refine wpList_append_own _ rfl (.tmp 26) (.tmp 28) 57 rfl w.heap.size 9 i0 (.string ByteArray.empty) 1 16 underlying57 hi af ad ae rfl (by decide) _ _ _ rfl (QaY O1 bA) ⟨w1.heap.size,0,none⟩ 1 1 [.string a] rfl rfl (Qav (cs:=#[.string a]) rfl) (Qa0 [a]) (by unfold maxLen;omega) (by omega) (by simp;have:=B1.size;omega) ?_;intro v2 w2 ab aa ac;obtain ⟨aj,c2,rfl⟩:=Qam ab;have O2:=Qaa ab;have B2:=Qaa ((B1.alloc B1.size _).grown aa (by simp;have:=B1.size;omega) (fun j hj=>(O1.lt j hj).1));have y2:=Qab B2 ai;clear ab aa ac)
       | (at_builtin;refine Qae _ rfl (.tmp 44) (.tmp 47) 57 rfl w.heap.size 9 i0 (.string ByteArray.empty) 1 16 underlying57 hi af ad ae rfl (by decide) _ _ _ rfl O2 (some ⟨b,ah+(k+1),none⟩) (n - (k+1)) (c - (k+1)) ((L.drop (k+1)).map Value.string) rfl (by rw [yA,List.length_drop];have:=HN.out;omega) (fun e=>by cases e) (fun A e=>by cases e;exact Qcu (QaA (QjA (k+1) HA) B2)) (by first | exact Qa0 _ | exact fun u hu=>absurd hu List.not_mem_nil) (by unfold maxLen;omega) (by omega) (by have:=B2.size;omega) ?_;intro v3 w3 ab aa ac;obtain ⟨am,c3,rfl⟩:=Qam ab;have O3:=Qaa ab;have B3:=Qaa (B2.grown aa B2.size (fun j hj=>(O2.lt j hj).1));clear ab aa ac))
      all_goals
       go_ret;refine ⟨_,rfl,OwnT.of O3 ?_,B3⟩;rw [HE.out]
       try rw [List.drop_eq_nil_of_le (by have:=HN.out;omega)]
       simp
    | false=>
     have ar:∀ z,L[k]?=some z->z≠a:=fun z hz e=>by
      rw [au.out] at hz;obtain rfl:=Option.some.inj hz;subst e;simp at heq
     have HE:Hid (QbL L a=L.take k ++ [a] ++ L.drop k):=QiB L k HK ar;clear ar;have av:¬ (c=k):=by omega
     go_wp2_with (first
      | (at_builtin;refine Qae _ rfl (.tmp 21) (.tmp 24) 57 rfl w.heap.size 9 i0 (.string ByteArray.empty) 1 16 underlying57 hi af ad ae rfl (by decide) _ _ _ rfl (World.ownsRow_made _ #[] 0 (Nat.le_refl _) (Nat.zero_le _) rfl) (some ⟨b,ah,none⟩) k c ((L.take k).map Value.string) rfl (by rw [yA,List.length_take];have:=HN.out;omega) (fun e=>by cases e) (fun A e=>by cases e;exact Qcu (QaA (Qdz _ HA) bA)) (Qa0 _) (by unfold maxLen;omega) (by omega) (by simp) ?_;intro v1 w1 ab aa ac;simp only [Nat.zero_add,List.nil_append] at ab;obtain ⟨al,c1,rfl⟩:=Qam ab;have O1:=Qaa ab;have B1:=Qaa (((Below.refl w.heap.size w).alloc (Nat.le_refl _) _).grown aa (by simp) (fun j hj=>by cases hj;exact Nat.le_refl _));have y0:=Qab B1 ai;clear ab aa ac)
      | (at_builtin;refine wpList_append_own _ rfl (.tmp 26) (.tmp 28) 57 rfl w.heap.size 9 i0 (.string ByteArray.empty) 1 16 underlying57 hi af ad ae rfl (by decide) _ _ _ rfl (QaY O1 bA) ⟨w1.heap.size,0,none⟩ 1 1 [.string a] rfl rfl (Qav (cs:=#[.string a]) rfl) (Qa0 [a]) (by unfold maxLen;omega) (by omega) (by simp;have:=B1.size;omega) ?_;intro v2 w2 ab aa ac;obtain ⟨aj,c2,rfl⟩:=Qam ab;have O2:=Qaa ab;have B2:=Qaa ((B1.alloc B1.size _).grown aa (by simp;have:=B1.size;omega) (fun j hj=>(O1.lt j hj).1));have y2:=Qab B2 ai;clear ab aa ac)
      | (at_builtin;refine Qae _ rfl (.tmp 44) (.tmp 47) 57 rfl w.heap.size 9 i0 (.string ByteArray.empty) 1 16 underlying57 hi af ad ae rfl (by decide) _ _ _ rfl O2 (some ⟨b,ah+k,none⟩) (n - k) (c - k) ((L.drop k).map Value.string) rfl (by rw [yA,List.length_drop];have:=HN.out;omega) (fun e=>by cases e) (fun A e=>by cases e;exact Qcu (QaA (QjA k HA) B2)) (by first | exact Qa0 _ | exact fun u hu=>absurd hu List.not_mem_nil) (by unfold maxLen;omega) (by omega) (by have:=B2.size;omega) ?_;intro v3 w3 ab aa ac;obtain ⟨am,c3,rfl⟩:=Qam ab;have O3:=Qaa ab;have B3:=Qaa (B2.grown aa B2.size (fun j hj=>(O2.lt j hj).1));clear ab aa ac))
     all_goals
      go_ret;refine ⟨_,rfl,OwnT.of O3 ?_,B3⟩;rw [HE.out]
      try rw [List.drop_eq_nil_of_le (by have:=HN.out;omega)]
      simp
  ·have ap:k=n:=by omega
   subst ap;have HE:Hid (QbL L a=L.take k ++ [a] ++ L.drop k):=QiB L k ⟨by have:=HN.out;omega,HF,fun z hz=>absurd (List.getElem?_eq_some_iff.1 hz).1 (by have:=HN.out;omega)⟩ (fun z hz=>absurd (List.getElem?_eq_some_iff.1 hz).1 (by have:=HN.out;omega));clear ag HF
   cases ao with
   | none=>
    have h0:c=0:=ay.out rfl;subst h0;have az:k=0:=by omega
    subst az
    go_wp2_with (first
     | (at_builtin;refine Qae _ rfl (.tmp 21) (.tmp 24) 57 rfl w.heap.size 9 i0 (.string ByteArray.empty) 1 16 underlying57 hi af ad ae rfl (by decide) _ _ _ rfl (World.ownsRow_made _ #[] 0 (Nat.le_refl _) (Nat.zero_le _) rfl) none 0 0 ((L.take 0).map Value.string) rfl (by rw [yA,List.length_take];have:=HN.out;omega) (fun e=>⟨rfl,rfl⟩) (fun A e=>by cases e) (Qa0 _) (by unfold maxLen;omega) (by omega) (by simp) ?_;intro v1 w1 ab aa ac;simp only [Nat.zero_add,List.nil_append] at ab;obtain ⟨al,c1,rfl⟩:=Qam ab;have O1:=Qaa ab;have B1:=Qaa (((Below.refl w.heap.size w).alloc (Nat.le_refl _) _).grown aa (by simp) (fun j hj=>by cases hj;exact Nat.le_refl _));clear ab aa ac)
     | (at_builtin;refine wpList_append_own _ rfl (.tmp 26) (.tmp 28) 57 rfl w.heap.size 9 i0 (.string ByteArray.empty) 1 16 underlying57 hi af ad ae rfl (by decide) _ _ _ rfl (QaY O1 bA) ⟨w1.heap.size,0,none⟩ 1 1 [.string a] rfl rfl (Qav (cs:=#[.string a]) rfl) (Qa0 [a]) (by unfold maxLen;omega) (by omega) (by simp;have:=B1.size;omega) ?_;intro v2 w2 ab aa ac;obtain ⟨aj,c2,rfl⟩:=Qam ab;have O2:=Qaa ab;have B2:=Qaa ((B1.alloc B1.size _).grown aa (by simp;have:=B1.size;omega) (fun j hj=>(O1.lt j hj).1));clear ab aa ac)
     | (at_builtin;refine Qae _ rfl (.tmp 44) (.tmp 47) 57 rfl w.heap.size 9 i0 (.string ByteArray.empty) 1 16 underlying57 hi af ad ae rfl (by decide) _ _ _ rfl O2 none 0 0 [] rfl rfl (fun e=>⟨rfl,rfl⟩) (fun A e=>by cases e) (by first | exact Qa0 _ | exact fun u hu=>absurd hu List.not_mem_nil) (by unfold maxLen;omega) (by omega) (by have:=B2.size;omega) ?_;intro v3 w3 ab aa ac;obtain ⟨am,c3,rfl⟩:=Qam ab;have O3:=Qaa ab;have B3:=Qaa (B2.grown aa B2.size (fun j hj=>(O2.lt j hj).1));clear ab aa ac))
    all_goals
     go_ret;refine ⟨_,rfl,OwnT.of O3 ?_,B3⟩;rw [HE.out]
     try rw [List.drop_eq_nil_of_le (by have:=HN.out;omega)]
     simp
   | some A=>
    by_cases av:c=k
    ·subst av
     go_wp2_with (first
      | (at_builtin;refine Qae _ rfl (.tmp 21) (.tmp 24) 57 rfl w.heap.size 9 i0 (.string ByteArray.empty) 1 16 underlying57 hi af ad ae rfl (by decide) _ _ _ rfl (World.ownsRow_made _ #[] 0 (Nat.le_refl _) (Nat.zero_le _) rfl) (some A) c c ((L.take c).map Value.string) rfl (by rw [yA,List.length_take];have:=HN.out;omega) (fun e=>by cases e) (fun A e=>by cases e;exact Qcu (QaA (Qdz _ HA) bA)) (Qa0 _) (by unfold maxLen;omega) (by omega) (by simp) ?_;intro v1 w1 ab aa ac;simp only [Nat.zero_add,List.nil_append] at ab;obtain ⟨al,c1,rfl⟩:=Qam ab;have O1:=Qaa ab;have B1:=Qaa (((Below.refl w.heap.size w).alloc (Nat.le_refl _) _).grown aa (by simp) (fun j hj=>by cases hj;exact Nat.le_refl _));clear ab aa ac)
      | (at_builtin;refine wpList_append_own _ rfl (.tmp 26) (.tmp 28) 57 rfl w.heap.size 9 i0 (.string ByteArray.empty) 1 16 underlying57 hi af ad ae rfl (by decide) _ _ _ rfl (QaY O1 bA) ⟨w1.heap.size,0,none⟩ 1 1 [.string a] rfl rfl (Qav (cs:=#[.string a]) rfl) (Qa0 [a]) (by unfold maxLen;omega) (by omega) (by simp;have:=B1.size;omega) ?_;intro v2 w2 ab aa ac;obtain ⟨aj,c2,rfl⟩:=Qam ab;have O2:=Qaa ab;have B2:=Qaa ((B1.alloc B1.size _).grown aa (by simp;have:=B1.size;omega) (fun j hj=>(O1.lt j hj).1));clear ab aa ac)
      | (at_builtin;refine Qae _ rfl (.tmp 44) (.tmp 47) 57 rfl w.heap.size 9 i0 (.string ByteArray.empty) 1 16 underlying57 hi af ad ae rfl (by decide) _ _ _ rfl O2 _ 0 _ [] rfl rfl (fun e=>by cases e) (fun A _ j z hz=>by simp at hz) (by first | exact Qa0 _ | exact fun u hu=>absurd hu List.not_mem_nil) (by unfold maxLen;omega) (by omega) (by have:=B2.size;omega) ?_;intro v3 w3 ab aa ac;obtain ⟨am,c3,rfl⟩:=Qam ab;have O3:=Qaa ab;have B3:=Qaa (B2.grown aa B2.size (fun j hj=>(O2.lt j hj).1));clear ab aa ac))
     all_goals
      go_ret;refine ⟨_,rfl,OwnT.of O3 ?_,B3⟩;rw [HE.out]
      try rw [List.drop_eq_nil_of_le (by have:=HN.out;omega)]
      simp
    ·skip
     go_wp2_with (first
      | (at_builtin;refine Qae _ rfl (.tmp 21) (.tmp 24) 57 rfl w.heap.size 9 i0 (.string ByteArray.empty) 1 16 underlying57 hi af ad ae rfl (by decide) _ _ _ rfl (World.ownsRow_made _ #[] 0 (Nat.le_refl _) (Nat.zero_le _) rfl) (some A) k c ((L.take k).map Value.string) rfl (by rw [yA,List.length_take];have:=HN.out;omega) (fun e=>by cases e) (fun A e=>by cases e;exact Qcu (QaA (Qdz _ HA) bA)) (Qa0 _) (by unfold maxLen;omega) (by omega) (by simp) ?_;intro v1 w1 ab aa ac;simp only [Nat.zero_add,List.nil_append] at ab;obtain ⟨al,c1,rfl⟩:=Qam ab;have O1:=Qaa ab;have B1:=Qaa (((Below.refl w.heap.size w).alloc (Nat.le_refl _) _).grown aa (by simp) (fun j hj=>by cases hj;exact Nat.le_refl _));clear ab aa ac)
      | (at_builtin;refine wpList_append_own _ rfl (.tmp 26) (.tmp 28) 57 rfl w.heap.size 9 i0 (.string ByteArray.empty) 1 16 underlying57 hi af ad ae rfl (by decide) _ _ _ rfl (QaY O1 bA) ⟨w1.heap.size,0,none⟩ 1 1 [.string a] rfl rfl (Qav (cs:=#[.string a]) rfl) (Qa0 [a]) (by unfold maxLen;omega) (by omega) (by simp;have:=B1.size;omega) ?_;intro v2 w2 ab aa ac;obtain ⟨aj,c2,rfl⟩:=Qam ab;have O2:=Qaa ab;have B2:=Qaa ((B1.alloc B1.size _).grown aa (by simp;have:=B1.size;omega) (fun j hj=>(O1.lt j hj).1));clear ab aa ac)
      | (at_builtin;refine Qae _ rfl (.tmp 44) (.tmp 47) 57 rfl w.heap.size 9 i0 (.string ByteArray.empty) 1 16 underlying57 hi af ad ae rfl (by decide) _ _ _ rfl O2 _ 0 _ [] rfl rfl (fun e=>by cases e) (fun A _ j z hz=>by simp at hz) (by first | exact Qa0 _ | exact fun u hu=>absurd hu List.not_mem_nil) (by unfold maxLen;omega) (by omega) (by have:=B2.size;omega) ?_;intro v3 w3 ab aa ac;obtain ⟨am,c3,rfl⟩:=Qam ab;have O3:=Qaa ab;have B3:=Qaa (B2.grown aa B2.size (fun j hj=>(O2.lt j hj).1));clear ab aa ac))
     all_goals
      go_ret;refine ⟨_,rfl,OwnT.of O3 ?_,B3⟩;rw [HE.out]
      try rw [List.drop_eq_nil_of_le (by have:=HN.out;omega)]
      simp
theorem QcG {x:List UInt8} (ha:a=⟨x.toArray⟩) (hb:b=⟨y.toArray⟩) (h:x.length+y.length<=1000000):Op.stringOp .add a b=pure (.string ⟨(x ++ y).toArray⟩):=by
 subst ha;subst hb;unfold Op.stringOp;have e1:(⟨x.toArray⟩:ByteArray).size=x.length:=by rw [<- Qaq,Qba]
 have e2:(⟨y.toArray⟩:ByteArray).size=y.length:=by rw [<- Qaq,Qba]
 have:¬ ((((⟨x.toArray⟩:ByteArray).size+(⟨y.toArray⟩:ByteArray).size:Nat):Int) > IntKind.i64.max):=by
  have e:IntKind.i64.max=9223372036854775807:=by decide
  rw [e,e1,e2];omega
 simp only [if_neg this,mk_app]
theorem Qir {B' size:Nat} {e:TypeId} (h:w.ownsRow B e size v n xs) (hb:B'<=B):w.ownsRow B' e size v n xs:=by
 refine ⟨h.1,?_⟩;rcases h.2 with h2 | ⟨g,ab,aa,e1,e2,e3⟩
 ·exact .inl h2
 ·exact .inr ⟨g,ab,aa,e1,Nat.le_trans hb e2,e3⟩
theorem QpT (h:L[k]?=some x):Qd6 (L.take (k+1))=QbL (Qd6 (L.take k)) x:=by
 rw [List.take_add_one,h];simp [Qd6,List.foldl_append]
theorem QsO (h:L[k]?=some x) (hx:Qbn x=false):L.all Qbn=false:=by
 rw [List.all_eq_false];exact ⟨x,List.mem_of_getElem? h,by rw [hx];decide⟩
theorem QcD (c n:Nat) (hn:L.length=n) (hl:n<=1048576) (hu:∀ u∈L,u.size<=maxLen) (hA:Qau w ao L) :
  Calls prog 158 #[.slice ao n c] w fun e w'=>e=.returned (.bool (L.all Qbn))/\w'=w:=by
 have HA:=Qaa hA;have HN:=Qaa hn;have HU:=Qaa hu;clear hA hn hu;go_enter func158,ntmps158;go_wp2
 go_loop [3] (fun i=>∃ k:Nat,k<=n/\i=.int .i64 k/\Hid ((L.take k).all Qbn=true)) (fun i=>n - (Go.RowKit.intOf i).toNat)
 case atStart=>exact ⟨0,Nat.zero_le _,rfl,(by simp:(L.take 0).all Qbn=true)⟩
 case round=>
  obtain ⟨k,hk,rfl,HF⟩:=hrel;by_cases ad:k<n
  ·obtain ⟨b,ac,e,aa⟩:=HA.out (by have:=HN.out;omega)
   subst e;obtain ⟨y,hy⟩:∃ y,L[k]?=some y:=⟨L[k]'(by have:=HN.out;omega),List.getElem?_eq_getElem _⟩;have ab:=aa k y hy;have HZ:=Qaa (HU.out y (List.mem_of_getElem? hy));have HY:=Qaa hy;clear aa hy
   cases ht:Qbn y with
   | false=>
    have HE:Hid (L.all Qbn=false):=QsO HY ht;go_wp2_with (go_at_call 125;refine (Qbw _ _ HZ).mono ?_;rintro e w1 ⟨rfl,rfl⟩);go_ret;exact ⟨Qax HE.symm,rfl⟩
   | true=>
    have HE:Hid ((L.take (k+1)).all Qbn=true):=(by rw [List.take_add_one,HY.out,List.all_append,HF.out];simp [ht]:(L.take (k+1)).all Qbn=true);go_wp2_with (go_at_call 125;refine (Qbw _ _ HZ).mono ?_;rintro e w1 ⟨rfl,rfl⟩)
    go_round
    case rel=>exact ⟨k+1,by omega,by go_num,HE⟩
    case measure=>simp [Go.RowKit.intOf];omega
  ·have HE:Hid (L.all Qbn=true):=(by have:=HF.out;rwa [List.take_of_length_le (by have:=HN.out;omega)] at this:L.all Qbn=true)
   go_wp2;go_ret;exact ⟨Qax HE.symm,rfl⟩
theorem Qm8 {name:ByteArray} (h:name.size<=100) (hk:∀ x∈K,x.size<=20) (hl:K.length<=20100):(QcY name K).length<=422300:=by
 have:=QeY hk;unfold QcY;simp only [List.length_append,Qaq,List.length_cons,List.length_nil];omega
theorem Qql (name:ByteArray) (h:K[0]?=some x):QcY name (K.take 0) ++ toL x=QcY name (K.take 1):=by
 rw [List.take_add_one,h];simp [QcY,Qdm,Qjy]
theorem Qpf {i:Nat} (name:ByteArray) (h:K[i]?=some x) (h0:0<i):QcY name (K.take i) ++ [44] ++ toL x=QcY name (K.take (i+1)):=by
 have hl:=(List.getElem?_eq_some_iff.1 h).1;rw [List.take_add_one,h];unfold QcY;rw [show (some x).toList=[x] from rfl,Qfx (fun e=>by have:=congrArg List.length e;rw [List.length_take,List.length_nil] at this;omega)];simp
theorem QbA (name:ByteArray) (c n:Nat) (hnm:name.size<=100) (hn:L.length=n) (hl:n<=20100) (hu:∀ u∈L,u.size<=20) (hA:Qau w ao L) :
  Calls prog 114 #[.string name,.slice ao n c] w fun e w'=>e=.returned (.string (Qch name L))/\Bw w w':=by
 have HA:=Qaa hA;have HN:=Qaa hn;have HU:=Qaa hu;clear hA hn hu;go_enter func114,ntmps114;go_wp2;have O0:OwnT (w.alloc (.cells #[] 9)) w.heap.size (.slice (some ⟨w.heap.size,0,none⟩) 0 0) []:=World.ownsRow_made w #[] 0 (Nat.le_refl _) (Nat.zero_le _) rfl
 go_loopw [5,6] (fun lv i wr=>∃ (k:Nat) (lo:Option Addr) (m lc:Nat),k<=n/\i=.int .i64 k/\lv=.slice lo m lc/\Hid (OwnT wr w.heap.size (.slice lo m lc) (Qd6 (L.take k))/\m=(Qd6 (L.take k)).length)/\Hid (Bw w wr)) (fun lv i wr=>n - (Go.RowKit.intOf i).toNat)
 case atStart=>exact ⟨0,_,0,0,Nat.zero_le _,rfl,rfl,⟨O0,rfl⟩,(Below.refl _ _).alloc (Nat.le_refl _) _⟩
 case round=>
  clear O0;obtain ⟨k,lo,m,lc,hk,rfl,rfl,HO,HB⟩:=hrel;by_cases aF:k<n
  ·obtain ⟨b,aC,e,aa⟩:=HA.out (by have:=HN.out;omega)
   obtain ⟨y,hy⟩:∃ y,L[k]?=some y:=⟨L[k]'(by have:=HN.out;omega),List.getElem?_eq_getElem _⟩;subst e;have au:=Qab HB (aa k y hy);have HE:=Qaa (QpT hy);have aD:m<=20100:=by have:=Qf7 (L.take k);have:=HO.2;rw [List.length_take] at *; omega
   clear aa hy;have G:=Qaa HO.1.cap;go_wp2_with (go_at_call 47;refine (QhY y HO.2.symm (by omega) G.2.1 G.2.2.1 G.2.2.2 HO.1.at).mono ?_;rintro e w2 ⟨v2,rfl,o2,ak⟩;obtain ⟨ay,c2,rfl⟩:=Qcj o2;rw [<- HE.out] at o2;have ax:=Qaa o2;have aA:=Qaa (HB.trans (ak.mono HB.size));have aE:=ak.size;clear o2 ak);go_roundw
   case rel=>
    rw [<- HE.out];refine ⟨k+1,ay,_,c2,by omega,by go_num,rfl,⟨?_,rfl⟩,aA⟩;have h:=ax.out;unfold OwnT at h ⊢;exact Qir h HB.size
   case measure=>simp [Go.RowKit.intOf];omega
  ·have az:k=n:=by omega
   subst az;have eL:L.take k=L:=List.take_of_length_le (by have:=HN.out;omega);rw [eL] at HO;clear eL;obtain ⟨K,hK⟩:∃ K,Qd6 L=K:=⟨_,rfl⟩;have HK:=Qaa hK;rw [hK] at HO;have ai:Hid (∀ x∈K,x.size<=20):=(fun x hx=>HU.out x (mem_serK.1 (by rw [hK];exact hx)):∀ x∈K,x.size<=20);have aD:m<=20100:=by have:=Qf7 L;have:=HO.2;have:=HN.out;rw [hK] at *; omega
   clear hK;have ar:Hid (K.length<=20100):=(by have:=HO.2;omega:K.length<=20100);obtain ⟨T0,am⟩:∃ T0:ByteArray,T0=⟨(QcY name (K.take 0)).toArray⟩:=⟨_,rfl⟩
   have ad:Op.stringOp .add name ⟨#[123]⟩=pure (.string T0):=by
    rw [QcG (x:=toL name) (y:=[123]) (QfM name).symm rfl (by rw [Qaq];simp;omega),am];simp [QcY,Qjy]
   have aq:=Qaa am;clear am;go_wp2
   go_loop [7,8] (fun tv i=>∃ (j:Nat) (T:ByteArray),j<=m/\i=.int .i64 j/\tv=.string T/\Hid (T=⟨(QcY name (K.take j)).toArray⟩)) (fun tv i=>m - (Go.RowKit.intOf i).toNat)
   case atStart=>exact ⟨0,T0,Nat.zero_le _,rfl,rfl,aq⟩
   case round=>
    clear aq ad;obtain ⟨j,T,hj,rfl,rfl,HT⟩:=hrel;by_cases aG:j<m
    ·obtain ⟨b,aC,e,aa⟩:=HO.1.at (by have:=HO.2;omega)
     obtain ⟨y,hy⟩:∃ y,K[j]?=some y:=⟨K[j]'(by have:=HO.2;omega),List.getElem?_eq_getElem _⟩;subst e;have au:=aa j y hy;have av:y.size<=20:=ai.out y (List.mem_of_getElem? hy);have ac:=Qm8 (name:=name) (K:=K.take j) hnm (fun x hx=>ai.out x (List.mem_of_mem_take hx)) (by rw [List.length_take];have:=ar.out;omega);rcases Nat.eq_zero_or_pos j with h0 | h0
     ·subst h0
      rw [Nat.add_zero] at au;obtain ⟨T2,ab⟩:∃ T2:ByteArray,T2=⟨(QcY name (K.take 1)).toArray⟩:=⟨_,rfl⟩
      have an:Op.stringOp .add T y=pure (.string T2):=by
       rw [QcG HT.out (QfM y).symm (by rw [Qaq];omega),Qql name hy,ab]
      have al:=Qaa ab;clear ab hy aa ac av;go_wp2
      go_round
      case rel=>exact ⟨1,T2,by omega,by go_num,rfl,al⟩
      case measure=>simp [Go.RowKit.intOf];omega
     ·have aI:(0:Int)<(j:Int):=by omega
      obtain ⟨T1,ag⟩:∃ T1:ByteArray,T1=⟨(QcY name (K.take j) ++ [44]).toArray⟩:=⟨_,rfl⟩
      have aw:Op.stringOp .add T ⟨#[44]⟩=pure (.string T1):=by
       rw [QcG (y:=[44]) HT.out rfl (by simp;omega),ag]
      obtain ⟨T2,ab⟩:∃ T2:ByteArray,T2=⟨(QcY name (K.take (j+1))).toArray⟩:=⟨_,rfl⟩
      have ap:Op.stringOp .add T1 y=pure (.string T2):=by
       rw [QcG ag (QfM y).symm (by rw [Qaq];simp;omega),Qpf name hy h0,ab]
      have al:=Qaa ab;clear ab ag hy aa ac av;go_wp2
      go_round
      case rel=>exact ⟨j+1,T2,by omega,by go_num,rfl,al⟩
      case measure=>simp [Go.RowKit.intOf];omega
    ·have aj:j=m:=by omega
     have eK:K.take j=K:=List.take_of_length_le (by have:=HO.2;omega);have ac:=Qm8 (name:=name) (K:=K) hnm ai ar;obtain ⟨T2,ab⟩:∃ T2:ByteArray,T2=QqW name K:=⟨_,rfl⟩
     have an:Op.stringOp .add T ⟨#[125]⟩=pure (.string T2):=by
      rw [QcG (y:=[125]) HT.out rfl (by rw [eK];simp;omega),eK,ab];rfl
     have aH:T2.size<=1000000:=by rw [ab,<- Qaq,QqW,Qba];simp;omega
     have HF:Hid (Qch name L=if 8<m∨100<T2.size then ByteArray.empty else T2):=(by unfold Qch;rw [HK.out,ab,<- HO.2]:Qch name L=if 8<m∨100<T2.size then ByteArray.empty else T2);clear ab eK ac HT aj;by_cases h8:8<m
     ·have aB:(8:Int)<(m:Int):=by omega
      have ae:Hid (Qch name L=ByteArray.empty):=(by rw [HF.out,if_pos (.inl h8)]:Qch name L=ByteArray.empty);go_wp2;go_ret;exact ⟨by rw [ae.out];rfl,HB⟩
     ·have aB:¬ (8:Int)<(m:Int):=by omega
      by_cases ah:100<T2.size
      ·have af:(100:Int)<(T2.size:Int):=by omega
       have ae:Hid (Qch name L=ByteArray.empty):=(by rw [HF.out,if_pos (.inr ah)]:Qch name L=ByteArray.empty);go_wp2;go_ret;exact ⟨by rw [ae.out];rfl,HB⟩
      ·have af:¬ (100:Int)<(T2.size:Int):=by omega
       have ae:Hid (Qch name L=T2):=(by rw [HF.out,if_neg (by omega)]:Qch name L=T2);go_wp2;go_ret;exact ⟨by rw [ae.out];rfl,HB⟩
end Go.Proofs.YtlejlgldgafljaaGreatDoor
