/-
 Parts.
-/
import Derived.Test.YtioohanfodmddaaGreatDoorCJA
import Derived.Maps.OwnSet
import Derived.Sort.KeysCollected
import Derived.Sort.Walk0
import Derived.Lib.Join
import Derived.RegionTactic
import Derived.BigRegion
import Derived.SliceStrings
set_option maxHeartbeats 4000000
set_option linter.all false
namespace Go.Proofs.YtioohanfodmddaaGreatDoor
open Go.ChangeShapes Go.WideShapes Go.ChangeAt Go.RowKit Go.PlainAid Tryz
theorem mAy {p:Prop} (h:p:=by
 go_ret;refine ⟨_,rfl,OwnT.of O3 ?_,B3⟩;rw [HE.out]
 try rw [List.drop_eq_nil_of_le (oA HN.out)]
 simp):p:=h
theorem mA9 {p:Prop} (h:p:=by obtain ⟨rfl,rfl⟩:=hno rfl;obtain rfl:news=[]:=List.eq_nil_of_length_eq_zero xA;refine wpList_plain hgd fun _ hK=>?_;have hr:=run_append_owned_none (P:=P) (w:=w) base t o.type e i size ht hi v n xs hown;unfold Oper.wp execOp;simp only [ho,resolve,invoke,builtin,Sem.run_bind,Sem.run_pure,Result.andThen_ok,List.map_toArray,List.map_cons,List.map_nil,hs,hx,hr];exact hK _ _ (h v w OI (World.grownBy.refl _ _) oE)):p:=h
theorem mCg {p:Prop} (h:p:=by go_wp2;go_ret;exact ⟨Qaw HN.symm,rfl⟩):p:=h
theorem mCh {p:Prop} (h:p:=by clear e;go_wp2;go_ret;exact ⟨Qaw HB.symm,rfl⟩):p:=h
theorem mC5 {p:Prop} (h:p:=by rw [List.cons_append,List.map_cons,List.map_cons,Lib.join_cons,Lib.join_cons,List.map_append,List.map_cons,List.map_nil,Qkx];simp):p:=h
theorem mDt {p:Prop} (h:p:=by
 rintro (h | h | h)
 ·exact .inr (.inl h)
 ·exact .inl h
 ·exact .inr (.inr h)):p:=h
theorem mD0 {p:Prop} (h:p:=by apply ByteArray.ext;rw [ByteArray.data_append];simp):p:=h
theorem mD5 {p:Prop} (h:p:=by go_wp2;go_ret;exact ⟨by rw [ad.out];rfl,HB⟩):p:=h
def QaJ (a b:ByteArray):Bool:=Op.bytesLess a.toList b.toList
theorem Qt2 (t:TypeId) (a b:ByteArray):binOp .geq t (.string a) (.string b)=pure (.bool !(QaJ a b)):=by simp [binOp,Op.stringOp,QaJ]
theorem Qf9:∀ x y:List UInt8,Op.bytesLess x y=true->Op.bytesLess y x=false
 | _,[],h=>by simp [Op.bytesLess] at h
 | [],_ :: _,_=>by simp [Op.bytesLess]
 | a :: x,b :: y,h=>by
  simp only [Op.bytesLess,Bool.or_eq_true,yB,decide_eq_true_eq,beq_iff_eq] at h;simp only [Op.bytesLess,Bool.or_eq_false_iff,Bool.and_eq_false_iff,decide_eq_false_iff_not,beq_eq_false_iff_ne];rcases h with h | ⟨rfl,h⟩
  ·exact ⟨fun k=>by have:=UInt8.lt_asymm h k;exact this,.inl (fun e=>by subst e;exact UInt8.lt_irrefl _ h)⟩
  ·exact ⟨UInt8.lt_irrefl _,.inr (Qf9 x y h)⟩
theorem QiX:∀ x y:List UInt8,Op.bytesLess x y=false->(x == y)=false->Op.bytesLess y x=true
 | [],[],_,h=>by simp at h
 | _ :: _,[],_,_=>by simp [Op.bytesLess]
 | [],_ :: _,h,_=>by simp [Op.bytesLess] at h
 | a :: x,b :: y,h,k=>by
  simp only [Op.bytesLess,Bool.or_eq_false_iff,Bool.and_eq_false_iff,decide_eq_false_iff_not,beq_eq_false_iff_ne] at h;simp only [Op.bytesLess,Bool.or_eq_true,yB,decide_eq_true_eq,beq_iff_eq];by_cases e:a=b
  ·subst e
   refine .inr ⟨rfl,QiX x y ?_ ?_⟩
   ·rcases h.2 with h | h
    ·exact absurd rfl h
    ·exact h
   ·simpa using k
  ·left
   have h1:=h.1;simp only [UInt8.lt_iff_toNat_lt] at h1 ⊢;have:a.toNat≠b.toNat:=fun q=>e (UInt8.toNat_inj.1 q);omega
variable {y:List UInt8}
theorem QpF {x:List UInt8} (h:(x == y)=true):Op.bytesLess y x=false:=by
 have h:=beq_iff_eq.1 h;subst h
 cases e:Op.bytesLess x x with
 | false=>rfl
 | true=>have:=Qf9 x x e;rw [this] at e;cases e
theorem op_gtr (t:TypeId) (a b:ByteArray):binOp .gtr t (.string a) (.string b)=pure (.bool (QaJ b a)):=by
 have e:(!(Op.bytesLess a.toList b.toList || a.toList == b.toList))=Op.bytesLess b.toList a.toList:=by
  cases h1:Op.bytesLess a.toList b.toList
  ·cases h2:(a.toList == b.toList)
   ·rw [QiX _ _ h1 h2];rfl
   ·rw [QpF h2];rfl
  ·rw [Qf9 _ _ h1];rfl
 show Op.stringOp .gtr a b=_
 unfold Op.stringOp QaJ;rw [<- e]
theorem Qh3:∀ x y z:List UInt8,Op.bytesLess x y=true->Op.bytesLess y z=true->Op.bytesLess x z=true
 | _,[],_,h,_=>by simp [Op.bytesLess] at h
 | _,_ :: _,[],_,h=>by simp [Op.bytesLess] at h
 | [],_ :: _,_ :: _,_,_=>by simp [Op.bytesLess]
 | a :: x,b :: y,c :: z,h,k=>by
  simp only [Op.bytesLess,Bool.or_eq_true,yB,decide_eq_true_eq,beq_iff_eq] at h k ⊢;rcases h with h | ⟨rfl,h⟩
  ·rcases k with k | ⟨rfl,k⟩
   ·exact .inl (UInt8.lt_trans h k)
   ·exact .inl h
  ·rcases k with k | ⟨rfl,k⟩
   ·exact .inl k
   ·exact .inr ⟨rfl,Qh3 x y z h k⟩
variable {a b s x:ByteArray}
theorem QgR (h:(a.toList == b.toList)=true):a=b:=by
 have h:=beq_iff_eq.1 h;rw [ByteArray.toList_eq,ByteArray.toList_eq] at h
 cases a;cases b
 simp at h;simp [h]
theorem QcX {c:ByteArray} (h:QaJ a b=true) (k:QaJ b c=true):QaJ a c=true:=Qh3 _ _ _ h k
theorem Qcf (a:ByteArray):QaJ a a=false:=QpF (x:=a.toList) (y:=a.toList) oE
theorem Qhb (h:QaJ a b=true):QaJ b a=false:=Qf9 _ _ h
theorem QeS (h:QaJ a b=false):QaJ b a=true∨a=b:=by
 cases e:(a.toList == b.toList) with
 | true=>exact .inr (QgR e)
 | false=>exact .inl (QiX _ _ h e)
theorem QgM {c:ByteArray} (h:QaJ b a=false) (k:QaJ c b=false):QaJ c a=false:=by
 cases e:QaJ c a with
 | false=>rfl
 | true=>
  rcases QeS k with q | q
  ·rw [QcX q e] at h;cases h
  ·subst q;rw [e] at h;cases h
def toL (b:ByteArray):List UInt8:=b.data.toList
theorem QaW (h:toL a=toL b):a=b:=by
 cases a;cases b;simp [toL] at h;simp [h]
theorem Qee (b:ByteArray):(⟨(toL b).toArray⟩:ByteArray)=b:=by cases b;simp [toL]
theorem QaQ (l:List UInt8):toL ⟨l.toArray⟩=l:=by simp [toL]
theorem Qam (b:ByteArray):(toL b).length=b.size:=by unfold toL;rw [Array.length_toList];rfl
theorem mk_app (a b:List UInt8):(⟨a.toArray⟩:ByteArray) ++ ⟨b.toArray⟩=⟨(a ++ b).toArray⟩:=by
 exact mD0
theorem Qt6 (a b:ByteArray):QaJ a b=decide (toL a<toL b):=by
 unfold QaJ toL;rw [ByteArray.toList_eq,ByteArray.toList_eq];exact Go.Proofs.bytesLess_eq _ _
def QcI:List ByteArray->ByteArray->List ByteArray
 | [],t=>[t]
 | y :: r,t=>if QaJ y t=true then y :: QcI r t else if y=t then y :: r else t :: y :: r
def Qeh (l:List ByteArray):Prop:=l.Pairwise (fun a b=>QaJ a b=true)
theorem mem_insT {x t:ByteArray}:∀ {l:List ByteArray},x∈QcI l t↔x=t∨x∈l
 | []=>by simp [QcI]
 | y :: r=>by
  unfold QcI
  split
  ·simp only [List.mem_cons,mem_insT (l:=r)]
   constructor
   ·exact mDt
   ·exact mDt
  ·split
   ·rename_i h;subst h;simp
   ·simp
theorem Qhf {t:ByteArray}:∀ {l:List ByteArray},Qeh l->Qeh (QcI l t)
 | [],_=>by simp [QcI,Qeh]
 | y :: r,h=>by
  obtain ⟨h1,h2⟩:=List.pairwise_cons.1 h;unfold QcI
  split
  ·rename_i hy
   refine List.pairwise_cons.2 ⟨fun x hx=>?_,Qhf h2⟩;rcases mem_insT.1 hx with rfl | hx
   ·exact hy
   ·exact h1 x hx
  ·rename_i hy
   split
   ·exact h
   ·rename_i hne
    have hty:QaJ t y=true:=by
     rcases QeS (a:=y) (b:=t) (by simpa using hy) with e | e
     ·exact e
     ·exact absurd e hne
    refine List.pairwise_cons.2 ⟨fun x hx=>?_,h⟩;rcases List.mem_cons.1 hx with rfl | hx
    ·exact hty
    ·exact QcX hty (h1 x hx)
def Qef (L:List ByteArray):List ByteArray:=L.foldl QcI []
theorem QkO:∀ (L l:List ByteArray),Qeh l->Qeh (L.foldl QcI l)
 | [],l,h=>h
 | t :: r,l,h=>QkO r (QcI l t) (Qhf h)
theorem Qms (x:ByteArray):∀ (L l:List ByteArray),x∈L.foldl QcI l↔x∈L∨x∈l
 | [],l=>by simp
 | t :: r,l=>by
  rw [List.foldl_cons,Qms x r,mem_insT,List.mem_cons];constructor
  ·rintro (h | h | h)
   ·exact .inl (.inr h)
   ·exact .inl (.inl h)
   ·exact .inr h
  ·rintro ((h | h) | h)
   ·exact .inr (.inl h)
   ·exact .inl h
   ·exact .inr (.inr h)
theorem Qe0 (L:List ByteArray):Qeh (Qef L):=QkO L [] List.Pairwise.nil
variable {K L l:List ByteArray}
theorem mem_serK:x∈Qef L↔x∈L:=by unfold Qef;rw [Qms];simp
theorem QiW (t:ByteArray):∀ l:List ByteArray,(QcI l t).length<=l.length+1
 | []=>by simp [QcI]
 | y :: r=>by
  unfold QcI;have:=QiW t r
  split
  ·simp;omega
  ·split <;> simp
theorem Qm2:∀ (L l:List ByteArray),(L.foldl QcI l).length<=l.length+L.length
 | [],l=>by simp
 | t :: r,l=>by
  have h1:=Qm2 r (QcI l t);have h2:=QiW t l;simp only [List.foldl_cons,List.length_cons];omega
theorem Qgp (L:List ByteArray):(Qef L).length<=L.length:=by have:=Qm2 L [];simpa [Qef] using this
theorem QdI (h:Qeh l):l.Nodup:=h.imp (fun {a b} hab e=>by subst e;rw [Qcf] at hab;cases hab)
theorem QoP {m:List ByteArray} (h:Qeh l) (k:Qeh m) (hm:∀ x,x∈l↔x∈m):l=m:=by
 have hp:l.Perm m:=(List.perm_ext_iff_of_nodup (QdI h) (QdI k)).2 hm;refine hp.eq_of_pairwise (le:=fun a b=>QaJ a b=true) (fun a b _ _ h1 h2=>?_) h k;rw [Qhb h1] at h2;cases h2
def Qda (t:ByteArray):Lit:=.string (toL t)
def Qgs (L:List ByteArray):DataW Unit:=Go.Maps.setOf (.agg []) (L.map Qda)
theorem QoM (L:List ByteArray) (t:ByteArray):Qgs (L ++ [t])=(Qgs L).put (Qda t) (.agg []):=by unfold Qgs;rw [List.map_append];exact Go.Maps.setOf_snoc _ _ _
theorem Qm8 (L:List ByteArray):∀ x∈L.map Qda,WideAt.IsKeyLit x:=fun x hx=>by
 obtain ⟨t,_,rfl⟩:=List.mem_map.1 hx;exact trivial
theorem Qfj (L:List ByteArray) (hk:∃ es,Qgs L=.map es/\∀ p∈es,∃ x,p.1=Lit.string x):((Qef L).map toL).Perm (Go.strKeys (Qgs L)):=by
 obtain ⟨es,e,hs⟩:=hk;obtain ⟨aa,e',hp⟩:=Go.Maps.tidy_setOf (H:=Unit) (.agg []) (L.map Qda) (Qm8 L);have e':Qgs L=.map aa:=e';obtain rfl:es=aa:=by rw [e] at e'; simpa using e'
 rw [e];refine Go.perm_strKeys hp hs ?_ (fun x=>?_)
 ·exact List.pairwise_map.2 ((QdI (Qe0 L)).imp (fun {a b} hne h=>hne (QaW h)))
 ·have hh:=Go.Maps.has_setOf (H:=Unit) (.agg []) (.string x) (L.map Qda) (Qm8 L)
  have hh:Go.Maps.has (Qgs L) (.string x)=(L.map Qda).any (fun y=>y.sameKey (.string x)):=hh;rw [<- e,hh,List.any_eq_true,List.mem_map];constructor
  ·rintro ⟨t,ht,rfl⟩
   exact ⟨Qda t,List.mem_map.2 ⟨t,mem_serK.1 ht,rfl⟩,by simp [Qda,Lit.sameKey]⟩
  ·rintro ⟨y,hy,hs⟩
   obtain ⟨t,ht,rfl⟩:=List.mem_map.1 hy;exact ⟨t,mem_serK.2 ht,by simpa [Qda,Lit.sameKey] using hs⟩
theorem Qew (hk:∃ es,Qgs L=.map es/\∀ p∈es,∃ x,p.1=Lit.string x) {ss:List (List UInt8)} (h:ss.Perm (Go.strKeys (Qgs L))) :
  ss.mergeSort (fun x y=>decide (x<=y))=(Qef L).map toL/\ss.length=(Qef L).length/\Go.Maps.size (Qgs L)=(Qef L).length:=by
 have hp:=h.trans (Qfj L hk).symm;have hl:=hp.length_eq;rw [yA] at hl;refine ⟨?_,hl,?_⟩
 ·have e:=Go.mergeSort_of_perm hp
  have e2:((Qef L).map toL).mergeSort Go.leB=(Qef L).map toL:=by
   refine List.mergeSort_of_pairwise ?_;refine List.pairwise_map.2 ((Qe0 L).imp (fun {a b} aa=>?_));rw [Qt6] at aa;have aa:=of_decide_eq_true aa;exact decide_eq_true (List.le_of_lt aa)
  exact e.trans e2
 ·have h2:=(Qfj L hk).length_eq
  rw [yA] at h2;rw [h2];obtain ⟨es,e,_⟩:=hk;rw [e];simp [Go.Maps.size,Go.strKeys]
def QaN (K:List ByteArray):List UInt8:=Lib.join (K.map toL) [44]
theorem Qk0:QaN []=[]:=rfl
theorem Qdw (x:ByteArray):QaN [x]=toL x:=Lib.join_one _ _
theorem Qkx (sep:List UInt8) (r:List (List UInt8)) (x:List UInt8):Lib.joinTail sep (r ++ [x])=Lib.joinTail sep r ++ (sep ++ x):=by simp [Lib.joinTail]
theorem QfB (h:K≠[]) (x:ByteArray):QaN (K ++ [x])=QaN K ++ [44] ++ toL x:=by
 cases K with
 | nil=>exact absurd rfl h
 | cons y r=>
  unfold QaN;exact mC5
theorem Qe8 {m:Nat}:∀ {K:List ByteArray},(∀ x∈K,x.size<=m)->(QaN K).length<=K.length*(m+1):=by
 have ht:∀ r:List ByteArray,(∀ x∈r,x.size<=m)->(Lib.joinTail [44] (r.map toL)).length<=r.length*(m+1):=by
  intro r
  induction r with
  | nil=>intro _;simp [Lib.joinTail]
  | cons y r ih=>
   intro h;have h1:=h y List.mem_cons_self;have h2:=ih (fun x hx=>h x (List.mem_cons_of_mem _ hx));have e:Lib.joinTail [44] ((y :: r).map toL)=44 :: toL y ++ Lib.joinTail [44] (r.map toL):=by simp [Lib.joinTail]
   rw [e];simp only [List.length_append,List.length_cons,Qam,Nat.add_mul];omega
 intro K h
 cases K with
 | nil=>simp [QaN,Lib.join]
 | cons y r=>
  have h1:=h y List.mem_cons_self;have h2:=ht r (fun x hx=>h x (List.mem_cons_of_mem _ hx));unfold QaN;rw [List.map_cons,Lib.join_cons];simp only [List.length_append,List.length_cons,Qam,Nat.add_mul];omega
def QcY (name:ByteArray) (K:List ByteArray):List UInt8:=toL name ++ [123] ++ QaN K
def Qru (name:ByteArray) (K:List ByteArray):ByteArray:=⟨(QcY name K ++ [125]).toArray⟩
theorem Qkd (name:ByteArray) (K:List ByteArray):(Qru name K).size=name.size+(QaN K).length+2:=by
 rw [<- Qam,Qru,QaQ];simp [QcY,Qam];omega
def Qb6 (name:ByteArray) (L:List ByteArray):ByteArray:=if 8<(Qef L).length∨100<(Qru name (Qef L)).size then ByteArray.empty else Qru name (Qef L)
def Qat (w:World) (ao:Option Addr) (L:List ByteArray):Prop:=
 0<L.length->∃ b off,ao=some ⟨b,off,none⟩/\∀ i u,L[i]?=some u->w.cell? ⟨b,off+i,none⟩=some (.string u)
variable {w w':World}
variable {ao:Option Addr}
theorem QaA (h:Qat w ao L) (hb:Bw w w'):Qat w' ao L:=fun h0=>by
 obtain ⟨b,off,e,hc⟩:=h h0;exact ⟨b,off,e,fun i u hi=>Qab hb (hc i u hi)⟩
variable {B k n:Nat}
theorem QdX {g cap:Nat} (h:w.ownsRow B 9 1 (.slice (some ⟨g,0,none⟩) L.length cap) L.length (L.map Value.string)):Qat w (some ⟨g,0,none⟩) L:=fun _=>
 ⟨g,0,rfl,fun i u hi=>by
  have hl:=(List.getElem?_eq_some_iff.1 hi).1;rw [Nat.zero_add,h.cellAt i oB];simp [hi]⟩
def fillL (xs:List Value) (z:Value) (k:Nat):List Value:=xs.take k ++ List.replicate (xs.length - k) z
theorem QgO:(prog.info? 9).map (fun i=>(i.zero,i.size,i.bytes))=some (some (.string ByteArray.empty),1,16):=oG
def Qiq (c:Int):Bool:=decide (97<=c) && decide (c<=122)
def QqB (c:Int):Bool:=decide (48<=c) && decide (c<=57)
def nmB (c:Int):Bool:=Qiq c || QqB c || c == 95 || c == 46
def Qht (s:ByteArray):Nat->Bool
 | 0=>true
 | n+1=>Qht s n && nmB (bt s n)
def QaF (s:ByteArray):Bool:=decide (1<=s.size) && decide (s.size<=40) && Qiq (bt s 0) && Qht s s.size
theorem Qaw {a b:Bool} (h:a=b):Ending.returned (.bool a)=.returned (.bool b):=by rw [h]
theorem QlB {s:ByteArray} {k:Nat} (h:nmB (bt s k)=false):∀ n,k<n->Qht s n=false
 | 0,hk=>by omega
 | n+1,hk=>by
  unfold Qht;by_cases e:k=n
  ·subst e;rw [h];simp
  ·rw [QlB h n oB];simp
theorem Qfv (c:Int) (w:World) :
  Calls prog 203 #[.int .u8 c] w fun e w'=>e=.returned (.bool (Qiq c))/\w'=w:=by
 by_cases h1:97<=c <;> by_cases h2:c<=122 <;> (go_enter func203,ntmps203;go_wp2;go_ret;exact ⟨by simp [Qiq,h1,h2],rfl⟩)
theorem Qrl (c:Int) (w:World) :
  Calls prog 242 #[.int .u8 c] w fun e w'=>e=.returned (.bool (QqB c))/\w'=w:=by
 by_cases h1:48<=c <;> by_cases h2:c<=57 <;> (go_enter func242,ntmps242;go_wp2;go_ret;exact ⟨by simp [QqB,h1,h2],rfl⟩)
theorem Qcd (c:Int) (w:World) :
  Calls prog 204 #[.int .u8 c] w fun e w'=>e=.returned (.bool (nmB c))/\w'=w:=by
 cases h1:Qiq c <;> cases h2:QqB c <;> by_cases h3:c=95 <;> by_cases h4:c=46 <;>
 ·go_enter func204,ntmps204
  go_wp2_with (first
   | (go_at_call 203;refine (Qfv _ _).mono ?_;rintro e w1 ⟨rfl,rfl⟩)
   | (go_at_call 242;refine (Qrl _ _).mono ?_;rintro e w1 ⟨rfl,rfl⟩))
  all_goals (go_ret;exact ⟨by simp [nmB,h1,h2,h3,h4],rfl⟩)
theorem Qbd (s:ByteArray) (w:World) (hs:s.size<=maxLen) :
  Calls prog 147 #[.string s] w fun e w'=>e=.returned (.bool (QaF s))/\w'=w:=by
 unfold maxLen at hs;have ab:=get_bt s;by_cases h0:s.size<1
 ·have HN:Hid (QaF s=false):=Qaa OB
  have hi:((s.size:Int)<1):=oB
  go_enter func147,ntmps147;exact mCg
 ·by_cases h1:40<s.size
  ·have HN:Hid (QaF s=false):=Qaa OA
   have hi:¬ ((s.size:Int)<1):=oB
   have hj:(40:Int)<(s.size:Int):=oB
   go_enter func147,ntmps147;exact mCg
  ·have hi:¬ ((s.size:Int)<1):=by omega
   have hj:¬ (40:Int)<(s.size:Int):=oB
   have hp:(0:Int)<(s.size:Int):=oB
   cases hl:Qiq (bt s 0)
   ·have HN:Hid (QaF s=false):=Qaa (by unfold QaF;rw [hl];simp)
    go_enter func147,ntmps147;go_wp2_with (go_at_call 203;refine (Qfv _ _).mono ?_;rintro e w1 ⟨rfl,rfl⟩);go_ret;exact ⟨Qaw HN.symm,rfl⟩
   ·have HN:Hid (QaF s=Qht s s.size):=Qaa (by unfold QaF;rw [hl,show decide (1<=s.size)=true from decide_eq_true oB,show decide (s.size<=40)=true from decide_eq_true oB];rfl)
    go_enter func147,ntmps147;go_wp2_with (go_at_call 203;refine (Qfv _ _).mono ?_;rintro e w1 ⟨rfl,rfl⟩)
    go_loop [20,3] (fun i _=>∃ k:Nat,k<=s.size/\i=.int .i64 k/\Qht s k=true) (fun i _=>s.size - (Go.RowKit.intOf i).toNat)
    case atStart=>exact ⟨0,Nat.zero_le _,rfl,rfl⟩
    case round=>
     obtain ⟨k,hk,rfl,ha⟩:=hrel;have HA:Hid (Qht s k=true):=ha;clear ha;by_cases aa:k<s.size
     ·cases hn:nmB (bt s k)
      ·have HB:Hid (Qht s s.size=false):=QlB hn _ aa
       go_wp2_with (go_at_call 204;refine (Qcd _ _).mono ?_;rintro e w1 ⟨rfl,rfl⟩);go_ret;exact ⟨Qaw (HN.trans HB).symm,rfl⟩
      ·have HB:Hid (Qht s (k+1)=true):=Qaa (by unfold Qht;rw [HA.out,hn];rfl)
       go_wp2_with (go_at_call 204;refine (Qcd _ _).mono ?_;rintro e w1 ⟨rfl,rfl⟩)
       go_round
       case rel=>exact ⟨k+1,by omega,by go_num,HB⟩
       case measure=>simp [Go.RowKit.intOf];omega
     ·have e:k=s.size:=by omega
      have HB:Hid (Qht s s.size=true):=Qaa xO;clear e;go_wp2;go_ret;exact ⟨Qaw (HN.trans HB).symm,rfl⟩
variable {c:Int}
theorem QtM (h:97<=c) (k:c<=122):Qiq c=true:=by simp [Qiq,h,k]
theorem QtU (h:c<97∨122<c):Qiq c=false:=by
 unfold Qiq;rcases h with h | h
 ·rw [show decide (97<=c)=false from decide_eq_false oB];rfl
 ·rw [show decide (c<=122)=false from decide_eq_false oB];simp
theorem QtN (h:48<=c) (k:c<=57):QqB c=true:=by simp [QqB,h,k]
theorem Qtu (h:c<48∨57<c):QqB c=false:=by
 unfold QqB;rcases h with h | h
 ·rw [show decide (48<=c)=false from decide_eq_false oB];rfl
 ·rw [show decide (c<=57)=false from decide_eq_false oB];simp
theorem Qrd (c:Int):(97<=c/\c<=122)∨((c<97∨122<c)/\((48<=c/\c<=57)∨c=95∨c=46∨((c<48∨57<c)/\(c == 95)=false/\(c == 46)=false))):=by
 by_cases a:97<=c/\c<=122
 ·exact .inl a
 ·refine .inr ⟨by omega,?_⟩
  by_cases b:48<=c/\c<=57
  ·exact .inl b
  ·by_cases d:c=95
   ·exact .inr (.inl d)
   ·by_cases e:c=46
    ·exact .inr (.inr (.inl e))
    ·exact .inr (.inr (.inr ⟨by omega,by simpa using d,by simpa using e⟩))
theorem nmB_l (h:Qiq c=true):nmB c=true:=by simp [nmB,h]
theorem nmB_d (h:QqB c=true):nmB c=true:=by simp [nmB,h]
theorem nmB_95:nmB 95=true:=oF
theorem nmB_46:nmB 46=true:=oF
theorem nmB_n (h:Qiq c=false) (k:QqB c=false) (d:(c == 95)=false) (e:(c == 46)=false):nmB c=false:=by simp [nmB,h,k,d,e]
theorem Qmw (h:Qiq (bt s 0)=false):QaF s=false:=by unfold QaF;rw [h];simp
theorem Qux (hk:k<s.size) (h:nmB (bt s k)=false):QaF s=false:=by unfold QaF;rw [QlB h _ hk];simp
theorem Qva (h1:¬ s.size<1) (h2:¬ 40<s.size) (hl:Qiq (bt s 0)=true) (ha:Qht s s.size=true):QaF s=true:=by
 unfold QaF;rw [hl,ha,show decide (1<=s.size)=true from decide_eq_true oB,show decide (s.size<=40)=true from decide_eq_true oB];rfl
theorem QeO (h:Qht s k=true) (hn:nmB (bt s k)=true):Qht s (k+1)=true:=by unfold Qht;rw [h,hn];rfl
theorem QaH (s:ByteArray) (w:World) (hs:s.size<=maxLen) :
  Calls prog 66 #[.string s] w fun e w'=>e=.returned (.bool (QaF s))/\w'=w:=by
 unfold maxLen at hs;have ag:=get_bt s;by_cases h0:s.size<1
 ·have HN:Hid (QaF s=false):=Qaa OB
  have hi:((s.size:Int)<1):=oB
  go_enter func66,ntmps66;exact mCg
 ·have hi:¬ ((s.size:Int)<1):=by omega
  by_cases h1:40<s.size
  ·have HN:Hid (QaF s=false):=Qaa OA
   have hj:(40:Int)<(s.size:Int):=oB
   go_enter func66,ntmps66;exact mCg
  ·have hj:¬ (40:Int)<(s.size:Int):=by omega
   go_enter func66,ntmps66;go_wp2
   go_loop [3,4] (fun i _=>∃ k:Nat,k<=s.size/\i=.int .i64 k/\Qht s k=true/\(k=0∨Qiq (bt s 0)=true)) (fun i _=>s.size - (Go.RowKit.intOf i).toNat)
   case atStart=>exact ⟨0,Nat.zero_le _,rfl,rfl,.inl rfl⟩
   case round=>
    obtain ⟨k,hk,rfl,ha,hl⟩:=hrel;have HA:Hid (Qht s k=true):=ha;have HL:Hid (k=0∨Qiq (bt s 0)=true):=hl;clear ha hl;by_cases ad:k<s.size
    ·rcases Qrd (bt s k) with ⟨c1,c2⟩ | ⟨aa,ab⟩
     ·have HB:Hid (Qiq (bt s k)=true):=QtM c1 c2
      go_wp2
      go_round
      case rel=>exact ⟨k+1,by omega,by go_num,QeO HA (nmB_l HB),.inr (by rcases HL.out with rfl | h;exact HB.out;exact h)⟩
      case measure=>simp [Go.RowKit.intOf];omega
     ·have HB:Hid (Qiq (bt s k)=false):=QtU aa
      rcases Nat.eq_zero_or_pos k with rfl | ae
      ·clear ab
       have g2:122<bt s 0->(decide (bt s 0<=122)=false/\97<=bt s 0):=fun h=>⟨decide_eq_false oB,by omega⟩;rcases aa with aa | aa
       ·clear g2
        go_wp2;go_ret;exact ⟨Qaw (Qmw HB).symm,rfl⟩
       ·obtain ⟨g3,g4⟩:=g2 aa
        clear g2;go_wp2;go_ret;exact ⟨Qaw (Qmw HB).symm,rfl⟩
      ·have ac:Hid (Qiq (bt s 0)=true):=by rcases HL.out with h | h;omega;exact h
       have af:((k:Int) == 0)=false:=by simp;omega
       rcases ab with ⟨d1,d2⟩ | he | he | ⟨hd,e1,e2⟩
       ·have HD:Hid (QqB (bt s k)=true):=QtN d1 d2
        clear aa;go_wp2
        go_round
        case rel=>exact ⟨k+1,by omega,by go_num,QeO HA (nmB_d HD),.inr ac⟩
        case measure=>simp [Go.RowKit.intOf];omega
       ·have HD:Hid (nmB (bt s k)=true):=Qaa (by rw [he];exact nmB_95)
        clear aa;go_wp2
        go_round
        case rel=>exact ⟨k+1,by omega,by go_num,QeO HA HD,.inr ac⟩
        case measure=>simp [Go.RowKit.intOf];omega
       ·have HD:Hid (nmB (bt s k)=true):=Qaa (by rw [he];exact nmB_46)
        clear aa;go_wp2
        go_round
        case rel=>exact ⟨k+1,by omega,by go_num,QeO HA HD,.inr ac⟩
        case measure=>simp [Go.RowKit.intOf];omega
       ·have HD:Hid (nmB (bt s k)=false):=nmB_n HB (Qtu hd) e1 e2
        have g1:(bt s k<97/\bt s k<48)∨(bt s k<97/\48<=bt s k/\decide (bt s k<=57)=false)∨(97<=bt s k/\decide (bt s k<=122)=false/\48<=bt s k/\decide (bt s k<=57)=false):=by
         simp only [decide_eq_false_iff_not];omega
        have n1:(bt s k != 95)=true:=by simpa using e1
        have n2:(bt s k != 46)=true:=by simpa using e2
        have n3:¬ bt s k=95:=by simpa using e1
        have n4:¬ bt s k=46:=by simpa using e2
        clear aa hd e1 e2;rcases g1 with ⟨g1,g2⟩ | ⟨g1,g2,g3⟩ | ⟨g1,g2,g3,g4⟩
        all_goals
         go_wp2;go_ret;exact ⟨Qaw (Qux ad HD).symm,rfl⟩
    ·have e:k=s.size:=by omega
     have HB:Hid (QaF s=true):=by
      subst e;refine Qva h0 h1 ?_ HA;rcases HL.out with h | h
      ·omega
      ·exact h
     exact mCh
def tgB (c:Int):Bool:=nmB c || c == 45 || c == 58
def Qhs (s:ByteArray):Nat->Bool
 | 0=>true
 | n+1=>Qhs s n && tgB (bt s n)
def Qbg (s:ByteArray):Bool:=decide (1<=s.size) && decide (s.size<=20) && Qhs s s.size
theorem QoJ {s:ByteArray} {k:Nat} (h:tgB (bt s k)=false):∀ n,k<n->Qhs s n=false
 | 0,hk=>by omega
 | n+1,hk=>by
  unfold Qhs;by_cases e:k=n
  ·subst e;rw [h];simp
  ·rw [QoJ h n oB];simp
theorem QbY (h:Qhs s k=true) (hn:tgB (bt s k)=true):Qhs s (k+1)=true:=by unfold Qhs;rw [h,hn];rfl
theorem QtP (hk:k<s.size) (h:tgB (bt s k)=false):Qbg s=false:=by unfold Qbg;rw [QoJ h _ hk];simp
theorem Qpj (h:s.size<1):Qbg s=false:=by unfold Qbg;rw [show decide (1<=s.size)=false from decide_eq_false oB];rfl
theorem Qp0 (h:20<s.size):Qbg s=false:=by unfold Qbg;rw [show decide (s.size<=20)=false from decide_eq_false oB];simp
theorem QtL (h1:¬ s.size<1) (h2:¬ 20<s.size) (ha:Qhs s s.size=true):Qbg s=true:=by
 unfold Qbg;rw [ha,show decide (1<=s.size)=true from decide_eq_true oB,show decide (s.size<=20)=true from decide_eq_true oB];rfl
theorem tgB_45:tgB 45=true:=oF
theorem Qtp:tgB 58=true:=oF
theorem QvW (h:nmB c=true):tgB c=true:=by simp [tgB,h]
theorem tgB_f (h:nmB c=false) (a:c≠45) (b:c≠58):tgB c=false:=by simp [tgB,h,a,b]
theorem QfT (s:ByteArray) (w:World) (hs:s.size<=maxLen) :
  Calls prog 173 #[.string s] w fun e w'=>e=.returned (.bool (Qbg s))/\w'=w:=by
 unfold maxLen at hs;have ab:=get_bt s;by_cases h0:s.size<1
 ·have HN:Hid (Qbg s=false):=Qpj h0
  have hi:((s.size:Int)<1):=oB
  go_enter func173,ntmps173;exact mCg
 ·by_cases h1:20<s.size
  ·have HN:Hid (Qbg s=false):=Qp0 h1
   have hi:¬ ((s.size:Int)<1):=oB
   have hj:(20:Int)<(s.size:Int):=oB
   go_enter func173,ntmps173;exact mCg
  ·have hi:¬ ((s.size:Int)<1):=by omega
   have hj:¬ (20:Int)<(s.size:Int):=oB
   go_enter func173,ntmps173;go_wp2
   go_loop [14,2] (fun i _=>∃ k:Nat,k<=s.size/\i=.int .i64 k/\Qhs s k=true) (fun i _=>s.size - (Go.RowKit.intOf i).toNat)
   case atStart=>exact ⟨0,Nat.zero_le _,rfl,rfl⟩
   case round=>
    obtain ⟨k,hk,rfl,ha⟩:=hrel;have HA:Hid (Qhs s k=true):=ha;clear ha;by_cases aa:k<s.size
    ·cases hn:nmB (bt s k)
     ·by_cases e1:bt s k=45
      ·have HB:Hid (Qhs s (k+1)=true):=QbY HA (by rw [e1];exact tgB_45)
       go_wp2_with (go_at_call 204;refine (Qcd _ _).mono ?_;rintro e w1 ⟨rfl,rfl⟩)
       go_round
       case rel=>exact ⟨k+1,by omega,by go_num,HB⟩
       case measure=>simp [Go.RowKit.intOf];omega
      ·by_cases e2:bt s k=58
       ·have HB:Hid (Qhs s (k+1)=true):=QbY HA (by rw [e2];exact Qtp)
        go_wp2_with (go_at_call 204;refine (Qcd _ _).mono ?_;rintro e w1 ⟨rfl,rfl⟩)
        go_round
        case rel=>exact ⟨k+1,by omega,by go_num,HB⟩
        case measure=>simp [Go.RowKit.intOf];omega
       ·have HB:Hid (Qbg s=false):=QtP aa (tgB_f hn e1 e2)
        have n1:(bt s k != 45)=true:=by simpa using e1
        have n2:(bt s k != 58)=true:=by simpa using e2
        go_wp2_with (go_at_call 204;refine (Qcd _ _).mono ?_;rintro e w1 ⟨rfl,rfl⟩);go_ret;exact ⟨Qaw HB.symm,rfl⟩
     ·have HB:Hid (Qhs s (k+1)=true):=QbY HA (QvW hn)
      go_wp2_with (go_at_call 204;refine (Qcd _ _).mono ?_;rintro e w1 ⟨rfl,rfl⟩)
      go_round
      case rel=>exact ⟨k+1,by omega,by go_num,HB⟩
      case measure=>simp [Go.RowKit.intOf];omega
    ·have e:k=s.size:=by omega
     have HB:Hid (Qbg s=true):=QtL h0 h1 xO;exact mCh
theorem QrB (c:Int):(97<=c/\c<=122/\tgB c=true)∨((c<97∨122<c)/\((48<=c/\c<=58/\tgB c=true)∨(c=95/\tgB c=true)∨(c=46/\tgB c=true)∨(c=45/\tgB c=true)∨((c<48∨58<c)/\c≠95/\c≠46/\c≠45/\tgB c=false))):=by
 by_cases a:97<=c/\c<=122
 ·exact .inl ⟨a.1,a.2,QvW (nmB_l (QtM a.1 a.2))⟩
 ·have hl:Qiq c=false:=QtU oB
  refine .inr ⟨by omega,?_⟩;by_cases b:48<=c/\c<=58
  ·refine .inl ⟨b.1,b.2,?_⟩
   by_cases b2:c=58
   ·rw [b2];exact Qtp
   ·exact QvW (nmB_d (QtN b.1 oB))
  ·by_cases d:c=95
   ·exact .inr (.inl ⟨d,by rw [d];decide⟩)
   ·by_cases e:c=46
    ·exact .inr (.inr (.inl ⟨e,by rw [e];decide⟩))
    ·by_cases f:c=45
     ·exact .inr (.inr (.inr (.inl ⟨f,by rw [f];decide⟩)))
     ·exact .inr (.inr (.inr (.inr ⟨by omega,d,e,f,tgB_f (nmB_n hl (Qtu oB) (by simpa using d) (by simpa using e)) f oB⟩)))
theorem Qbp (s:ByteArray) (w:World) (hs:s.size<=maxLen) :
  Calls prog 141 #[.string s] w fun e w'=>e=.returned (.bool (Qbg s))/\w'=w:=by
 unfold maxLen at hs;have ad:=get_bt s;go_enter func141,ntmps141;go_wp2
 go_loop [3,4] (fun i _=>∃ k:Nat,k<=s.size/\i=.int .i64 k/\Qhs s k=true) (fun i _=>s.size - (Go.RowKit.intOf i).toNat)
 case atStart=>exact ⟨0,Nat.zero_le _,rfl,rfl⟩
 case round=>
  obtain ⟨k,hk,rfl,ha⟩:=hrel;have HA:Hid (Qhs s k=true):=ha;clear ha;by_cases ac:k<s.size
  ·rcases QrB (bt s k) with ⟨c1,c2,hn⟩ | ⟨ab,aa⟩
   ·have HB:Hid (Qhs s (k+1)=true):=QbY HA hn
    clear hn;go_wp2
    go_round
    case rel=>exact ⟨k+1,by omega,by go_num,HB⟩
    case measure=>simp [Go.RowKit.intOf];omega
   ·rcases aa with ⟨d1,d2,hn⟩ | ⟨he,hn⟩ | ⟨he,hn⟩ | ⟨he,hn⟩ | ⟨hd,e1,e2,e3,hn⟩
    ·have HB:Hid (Qhs s (k+1)=true):=QbY HA hn
     clear hn ab;go_wp2
     go_round
     case rel=>exact ⟨k+1,by omega,by go_num,HB⟩
     case measure=>simp [Go.RowKit.intOf];omega
    ·have HB:Hid (Qhs s (k+1)=true):=QbY HA hn
     clear hn ab;go_wp2
     go_round
     case rel=>exact ⟨k+1,by omega,by go_num,HB⟩
     case measure=>simp [Go.RowKit.intOf];omega
    ·have HB:Hid (Qhs s (k+1)=true):=QbY HA hn
     clear hn ab;go_wp2
     go_round
     case rel=>exact ⟨k+1,by omega,by go_num,HB⟩
     case measure=>simp [Go.RowKit.intOf];omega
    ·have HB:Hid (Qhs s (k+1)=true):=QbY HA hn
     clear hn ab;go_wp2
     go_round
     case rel=>exact ⟨k+1,by omega,by go_num,HB⟩
     case measure=>simp [Go.RowKit.intOf];omega
    ·have HD:Hid (Qbg s=false):=QtP ac hn
     have g1:(bt s k<97/\bt s k<48)∨(bt s k<97/\48<=bt s k/\decide (bt s k<=58)=false)∨(97<=bt s k/\decide (bt s k<=122)=false/\48<=bt s k/\decide (bt s k<=58)=false):=by
      simp only [decide_eq_false_iff_not];omega
     have n3:¬ bt s k=95:=e1;have n4:¬ bt s k=46:=e2;have n5:¬ bt s k=45:=e3;have m1:(bt s k == 95)=false:=by simpa using e1
     have m2:(bt s k == 46)=false:=by simpa using e2
     have m3:(bt s k == 45)=false:=by simpa using e3
     clear ab hd hn e1 e2 e3;rcases g1 with ⟨g1,g2⟩ | ⟨g1,g2,g3⟩ | ⟨g1,g2,g3,g4⟩
     all_goals
      go_wp2;go_ret;exact ⟨Qaw HD.symm,rfl⟩
  ·have e:k=s.size:=by omega
   by_cases h0:s.size<1
   ·have HB:Hid (Qbg s=false):=Qpj h0
    have hi:¬ (1:Int)<=(s.size:Int):=oB
    exact mCh
   ·have hi:(1:Int)<=(s.size:Int):=by omega
    by_cases h1:20<s.size
    ·have HB:Hid (Qbg s=false):=Qp0 h1
     have hj:¬ (s.size:Int)<=20:=oB
     exact mCh
    ·have HB:Hid (Qbg s=true):=QtL h0 h1 xO
     have hj:(s.size:Int)<=20:=oB
     exact mCh
theorem Qad {P:Program} (w:World) {ops:Array Oper} {rest:List Oper} {o:Oper} {a:Act} {Q:Exit->Act->World->Prop} (hgd:o.guard=none) (s x:Operand) (t:TypeId)
  (ho:o.op=.call { callee:=.builtin .append,args:=#[s,x],argTypes:=#[t,t] })
  (base:Nat) (e:TypeId) (i:TypeInfo) (z:Value) (size bytes:Nat) (ht:P.underlying t=some (.slice e)) (hi:P.info? e=some i) (hz:i.zero=some z)
  (hsize:i.size=size) (hby:i.bytes=bytes) (hzs:z.cells.size=size) (hsz:0<size)
  (v:Value) (n:Nat) (xs:List Value) (hs:a.eval s=v) (hown:w.ownsRow base e size v n xs)
  (xo:Option Addr) (m c:Nat) (news:List Value) (hx:a.eval x=.slice xo m c) (hl:news.length=m*size) (hno:xo=none->m=0/\c=0) (hnews:∀ ad,xo=some ad->∀ j u,news[j]?=some u->w.cell? (ad.add j)=some u) (h1:∀ u∈news,u.oneCell'=true)
  (h63:n+m<=maxLen) (hbytes:(n+m)*bytes<=140737488355328) (hbase:base<=w.heap.size)
  (h:∀ v' w',w'.ownsRow base e size v' (n+m) (xs ++ news)->w.grownBy w' v.ownBlock->(v'=.slice none 0 0↔v=.slice none 0 0/\m=0)->wpList P ops Q rest (a.put o.dst v') w'):wpList P ops Q (o :: rest) a w:=by
 cases xo with
 | some ad=>exact wpList_append_own w hgd s x t ho base e i z size bytes ht hi hz hsize hby hzs hsz v n xs hs hown ad m c news hx hl (hnews ad rfl) h1 h63 hbytes hbase h
 | none=>
  exact mA9
theorem Qvd (t:TypeId) (a b:ByteArray):binOp .lss t (.string a) (.string b)=pure (.bool (QaJ a b)):=by simp [binOp,Op.stringOp,QaJ]
set_option maxRecDepth 10000
def OwnT (w:World) (B:Nat) (v:Value) (L:List ByteArray):Prop:=w.ownsRow B 9 1 v L.length (L.map Value.string)
variable {v:Value}
theorem OwnT.past (h:OwnT w B v L) (hb:Bw w w'):OwnT w' B v L:=QaX h hb
theorem OwnT.at {c:Nat} (h:OwnT w B (.slice ao n c) L):Qat w ao L:=fun h0=>by
 rcases h.2 with ⟨e,h1⟩ | ⟨g,cap,cur,e,_⟩
 ·omega
 ·cases e
  exact QdX h h0
theorem OwnT.cap {c:Nat} (h:OwnT w B (.slice ao n c) L):n=L.length/\n<=c/\c<=maxLen/\(ao=none->c=0):=by
 rcases h.2 with ⟨e,h1⟩ | ⟨g,cap,aa,e,_,_,h2,h3,_⟩
 ·cases e;exact ⟨h1.symm,Nat.le_refl _,Nat.zero_le _,fun _=>rfl⟩
 ·cases e;exact ⟨rfl,h2,h3,fun e=>by cases e⟩
theorem Qcp {A:Addr} (h:Qat w (some A) L):∀ j u,(L.map Value.string)[j]?=some u->w.cell? (A.add j)=some u:=fun j u hj=>by
 rw [List.getElem?_map] at hj
 cases hx:L[j]? with
 | none=>rw [hx] at hj;cases hj
 | some x=>
  rw [hx] at hj;obtain rfl:=Option.some.inj hj;obtain ⟨b,off,e,hc⟩:=h (by have:=(List.getElem?_eq_some_iff.1 hx).1;omega)
  cases e
  have:=hc j x hx
  rwa [show (⟨b,off,none⟩:Addr).add j=⟨b,off+j,none⟩ from by unfold Addr.add;split <;> simp_all]
theorem Qdy (k:Nat) (h:Qat w ao L):Qat w ao (L.take k):=fun h0=>by
 obtain ⟨b',off',e,hc⟩:=h OQ;exact ⟨b',off',e,fun i x hx=>hc i x OP⟩
theorem QkY {b off:Nat} (k:Nat) (h:Qat w (some ⟨b,off,none⟩) L):Qat w (some ⟨b,off+k,none⟩) (L.drop k):=fun h0=>by
 obtain ⟨b',off',e,hc⟩:=h (by rw [List.length_drop] at h0;omega)
 cases e
 exact ⟨b,off+k,rfl,fun i x hx=>by
  rw [List.getElem?_drop] at hx;have:=hc (k+i) x hx
  rwa [Nat.add_assoc]⟩
theorem QaY (L:List ByteArray):∀ u∈L.map Value.string,u.oneCell'=true:=fun u hu=>by
 obtain ⟨x,_,rfl⟩:=List.mem_map.1 hu;rfl
def Qio (L:List ByteArray) (p:ByteArray) (k:Nat):Prop:=k<=L.length/\(∀ (t:Nat) (x:ByteArray),L[t]?=some x->t<k->QaJ x p=true)/\∀ x,L[k]?=some x->QaJ x p=false
theorem Qhm {y:ByteArray} {r:List ByteArray} {p:ByteArray} (h:Qio (y :: r) p (k+1)):Qio r p k:=
 ⟨by have:=h.1;simp at this;exact this,fun t x hx ht=>h.2.1 (t+1) x OG oB,fun x hx=>h.2.2 x OG⟩
theorem Qpr {a:ByteArray}:∀ (L:List ByteArray) (k:Nat),Qio L a k->L[k]?=some a->QcI L a=L.take k ++ [a] ++ L.drop (k+1)
 | [],k,_,h=>by simp at h
 | y :: r,0,hp,h=>by
  obtain rfl:y=a:=oU
  have:QaJ y y=false:=Qcf y;simp [QcI,this]
 | y :: r,k+1,hp,h=>by
  have hy:=hp.2.1 0 y rfl oB;rw [QcI,if_pos hy,Qpr r k (Qhm hp) oU];simp
theorem Qjg {a:ByteArray}:∀ (L:List ByteArray) (k:Nat),Qio L a k->(∀ x,L[k]?=some x->x≠a)->QcI L a=L.take k ++ [a] ++ L.drop k
 | [],k,hp,h=>by have:=hp.1;simp at this;subst this;rfl
 | y :: r,0,hp,h=>by
  have hy:=hp.2.2 y rfl;have hne:y≠a:=h y rfl;rw [QcI,if_neg (by rw [hy];decide),if_neg hne];rfl
 | y :: r,k+1,hp,h=>by
  have hy:=hp.2.1 0 y rfl oB;rw [QcI,if_pos hy,Qjg r k (Qhm hp) (fun x hx=>h x OG)];simp
variable {xs:List Value}
theorem OwnT.of (h:w.ownsRow B 9 1 v n xs) (e:xs=L.map Value.string):OwnT w B v L:=by
 have hl:=h.1;subst e;rw [yA,Nat.mul_one] at hl;unfold OwnT;rw [hl];exact h
theorem QcR (h:OwnT w B v L):∃ ao c,v=.slice ao L.length c:=Qan h
theorem Qih {c:Nat} (a:ByteArray) (hn:L.length=n) (hl:n<=100000) (hcap:n<=c) (hcm:c<=maxLen) (hno:ao=none->c=0) (hA:Qat w ao L) :
  Calls prog 82 #[.slice ao n c,.string a] w fun e w'=>∃ v,e=.returned v/\OwnT w' w.heap.size v (QcI L a)/\Bw w w':=by
 obtain ⟨i0,hi,af,ae,ad⟩:=info_parts QgO;have aG:=Qvd 9;have HA:=Qaa hA;have HN:=Qaa hn;have az:=Qaa hno;unfold maxLen at hcm;clear hA hn hno;go_enter func82,ntmps82;go_wp2
 go_loop [5] (fun i=>∃ k:Nat,k<=n/\i=.int .i64 k/\Hid (∀ (t:Nat) (x:ByteArray),L[t]?=some x->t<k->QaJ x a=true)) (fun i=>n - (Go.RowKit.intOf i).toNat)
 case atStart=>exact ⟨0,Nat.zero_le _,rfl,(fun t x _ h=>absurd h oB:∀ (t:Nat) (x:ByteArray),L[t]?=some x->t<0->QaJ x a=true)⟩
 case round=>
  obtain ⟨k,hk,rfl,HF⟩:=hrel
  have ag:k<n->∃ b ah y,ao=some ⟨b,ah,none⟩/\L[k]?=some y/\w.cell? ⟨b,ah+k,none⟩=some (.string y):=fun h=>by
   obtain ⟨b,ah,e,ak⟩:=HA.out (oA HN.out);obtain ⟨y,hy⟩:∃ y,L[k]?=some y:=⟨L[k]'(oA HN.out),List.getElem?_eq_getElem _⟩;exact ⟨b,ah,y,e,hy,ak k y hy⟩
  by_cases aw:k<n
  ·obtain ⟨b,ah,q,rfl,al,ai⟩:=ag aw
   cases hlt:QaJ q a with
   | true=>
    have ax:Hid (∀ (t:Nat) (x:ByteArray),L[t]?=some x->t<k+1->QaJ x a=true):=Qaa (fun t z hz ht=>by
     by_cases e:t=k
     ·subst e;rw [al] at hz;obtain rfl:=Option.some.inj hz;exact hlt
     ·exact HF.out t z hz oB)
    clear al ag;go_wp2
    go_round
    case rel=>exact ⟨k+1,by omega,by go_num,ax⟩
    case measure=>simp [Go.RowKit.intOf];omega
   | false=>
    have HK:Hid (Qio L a k):=Qaa (⟨by have:=HN.out;omega,HF,fun z hz=>by rw [al] at hz;obtain rfl:=Option.some.inj hz;exact hlt⟩);have au:=Qaa al;clear al ag HF
    cases heq:(q.toList == a.toList) with
    | true=>
     have aq:a=q:=(QgR heq).symm;subst aq;have aC:IntKind.i64.wrap ((k:Int)+1)=(k:Int)+1:=by rw [IntKind.wrap_i64];omega
     have aE:((k:Int)+1).toNat=k+1:=oB
     have aH:(0:Int)<=(k:Int)+1:=oB
     have aF:(k:Int)+1<=(n:Int):=oB
     have HE:Hid (QcI L a=L.take k ++ [a] ++ L.drop (k+1)):=Qpr L k HK au;by_cases aA:c=k+1
     ·subst aA
      have aB:n=k+1:=oB
      have aD:k+1 - (k+1)=0:=oB
      subst aB
      go_wp2_with (first
       | (at_builtin;refine Qad _ rfl (.tmp 21) (.tmp 24) 75 rfl w.heap.size 9 i0 (.string ByteArray.empty) 1 16 underlying75 hi af ae ad rfl oF _ _ _ rfl (World.ownsRow_made _ #[] 0 (Nat.le_refl _) (Nat.zero_le _) rfl) (some ⟨b,ah,none⟩) k (k+1) ((L.take k).map Value.string) rfl oK (fun e=>by cases e) (fun A e=>by cases e;exact Qcp (QaA (Qdy _ HA) bAA)) (QaY _) oC oB oE ?_;intro v1 w1 ab aa ac;simp only [Nat.zero_add,List.nil_append] at ab;obtain ⟨am,c1,rfl⟩:=Qan ab;have O1:=Qaa ab;have B1:=Qaa (((Below.refl w.heap.size w).alloc (Nat.le_refl _) _).grown aa oE (fun j hj=>by cases hj;exact Nat.le_refl _));have y0:=Qab B1 ai;clear ab aa ac)
       | (at_builtin;refine wpList_append_own _ rfl (.tmp 26) (.tmp 28) 75 rfl w.heap.size 9 i0 (.string ByteArray.empty) 1 16 underlying75 hi af ae ad rfl oF _ _ _ rfl (QaX O1 bAA) ⟨w1.heap.size,0,none⟩ 1 1 [.string a] rfl rfl (Qav (cs:=#[.string a]) rfl) (QaY [a]) oC oB oI ?_;intro v2 w2 ab aa ac;obtain ⟨an,c2,rfl⟩:=Qan ab;have O2:=Qaa ab;have B2:=Qaa ((B1.alloc B1.size _).grown aa oI (fun j hj=>(O1.lt j hj).1));have y2:=Qab B2 ai;clear ab aa ac)
       | (at_builtin;refine Qad _ rfl (.tmp 44) (.tmp 47) 75 rfl w.heap.size 9 i0 (.string ByteArray.empty) 1 16 underlying75 hi af ae ad rfl oF _ _ _ rfl O2 (some ⟨b,ah,none⟩) 0 0 [] rfl rfl (fun e=>by cases e) (fun A _ j z hz=>by simp at hz) oM oC oB (oA B2.size) ?_;intro v3 w3 ab aa ac;obtain ⟨aj,c3,rfl⟩:=Qan ab;have O3:=Qaa ab;have B3:=Qaa (B2.grown aa B2.size (fun j hj=>(O2.lt j hj).1));clear ab aa ac))
      all_goals
       exact mAy
     ·skip
      go_wp2_with (first
       | (at_builtin;refine Qad _ rfl (.tmp 21) (.tmp 24) 75 rfl w.heap.size 9 i0 (.string ByteArray.empty) 1 16 underlying75 hi af ae ad rfl oF _ _ _ rfl (World.ownsRow_made _ #[] 0 (Nat.le_refl _) (Nat.zero_le _) rfl) (some ⟨b,ah,none⟩) k c ((L.take k).map Value.string) rfl oK (fun e=>by cases e) (fun A e=>by cases e;exact Qcp (QaA (Qdy _ HA) bAA)) (QaY _) oC oB oE ?_;intro v1 w1 ab aa ac;simp only [Nat.zero_add,List.nil_append] at ab;obtain ⟨am,c1,rfl⟩:=Qan ab;have O1:=Qaa ab;have B1:=Qaa (((Below.refl w.heap.size w).alloc (Nat.le_refl _) _).grown aa oE (fun j hj=>by cases hj;exact Nat.le_refl _));have y0:=Qab B1 ai;clear ab aa ac)
       | (at_builtin;refine wpList_append_own _ rfl (.tmp 26) (.tmp 28) 75 rfl w.heap.size 9 i0 (.string ByteArray.empty) 1 16 underlying75 hi af ae ad rfl oF _ _ _ rfl (QaX O1 bAA) ⟨w1.heap.size,0,none⟩ 1 1 [.string a] rfl rfl (Qav (cs:=#[.string a]) rfl) (QaY [a]) oC oB oI ?_;intro v2 w2 ab aa ac;obtain ⟨an,c2,rfl⟩:=Qan ab;have O2:=Qaa ab;have B2:=Qaa ((B1.alloc B1.size _).grown aa oI (fun j hj=>(O1.lt j hj).1));have y2:=Qab B2 ai;clear ab aa ac)
       | (at_builtin;refine Qad _ rfl (.tmp 44) (.tmp 47) 75 rfl w.heap.size 9 i0 (.string ByteArray.empty) 1 16 underlying75 hi af ae ad rfl oF _ _ _ rfl O2 (some ⟨b,ah+(k+1),none⟩) (n - (k+1)) (c - (k+1)) ((L.drop (k+1)).map Value.string) rfl oY (fun e=>by cases e) (fun A e=>by cases e;exact Qcp (QaA (QkY (k+1) HA) B2)) oM oC oB (oA B2.size) ?_;intro v3 w3 ab aa ac;obtain ⟨aj,c3,rfl⟩:=Qan ab;have O3:=Qaa ab;have B3:=Qaa (B2.grown aa B2.size (fun j hj=>(O2.lt j hj).1));clear ab aa ac))
      all_goals
       exact mAy
    | false=>
     have ar:∀ z,L[k]?=some z->z≠a:=fun z hz e=>by
      rw [au.out] at hz;obtain rfl:=Option.some.inj hz;subst e;simp at heq
     have HE:Hid (QcI L a=L.take k ++ [a] ++ L.drop k):=Qjg L k HK ar;clear ar;have av:¬ (c=k):=oB
     go_wp2_with (first
      | (at_builtin;refine Qad _ rfl (.tmp 21) (.tmp 24) 75 rfl w.heap.size 9 i0 (.string ByteArray.empty) 1 16 underlying75 hi af ae ad rfl oF _ _ _ rfl (World.ownsRow_made _ #[] 0 (Nat.le_refl _) (Nat.zero_le _) rfl) (some ⟨b,ah,none⟩) k c ((L.take k).map Value.string) rfl oK (fun e=>by cases e) (fun A e=>by cases e;exact Qcp (QaA (Qdy _ HA) bAA)) (QaY _) oC oB oE ?_;intro v1 w1 ab aa ac;simp only [Nat.zero_add,List.nil_append] at ab;obtain ⟨am,c1,rfl⟩:=Qan ab;have O1:=Qaa ab;have B1:=Qaa (((Below.refl w.heap.size w).alloc (Nat.le_refl _) _).grown aa oE (fun j hj=>by cases hj;exact Nat.le_refl _));have y0:=Qab B1 ai;clear ab aa ac)
      | (at_builtin;refine wpList_append_own _ rfl (.tmp 26) (.tmp 28) 75 rfl w.heap.size 9 i0 (.string ByteArray.empty) 1 16 underlying75 hi af ae ad rfl oF _ _ _ rfl (QaX O1 bAA) ⟨w1.heap.size,0,none⟩ 1 1 [.string a] rfl rfl (Qav (cs:=#[.string a]) rfl) (QaY [a]) oC oB oI ?_;intro v2 w2 ab aa ac;obtain ⟨an,c2,rfl⟩:=Qan ab;have O2:=Qaa ab;have B2:=Qaa ((B1.alloc B1.size _).grown aa oI (fun j hj=>(O1.lt j hj).1));have y2:=Qab B2 ai;clear ab aa ac)
      | (at_builtin;refine Qad _ rfl (.tmp 44) (.tmp 47) 75 rfl w.heap.size 9 i0 (.string ByteArray.empty) 1 16 underlying75 hi af ae ad rfl oF _ _ _ rfl O2 (some ⟨b,ah+k,none⟩) (n - k) (c - k) ((L.drop k).map Value.string) rfl oY (fun e=>by cases e) (fun A e=>by cases e;exact Qcp (QaA (QkY k HA) B2)) oM oC oB (oA B2.size) ?_;intro v3 w3 ab aa ac;obtain ⟨aj,c3,rfl⟩:=Qan ab;have O3:=Qaa ab;have B3:=Qaa (B2.grown aa B2.size (fun j hj=>(O2.lt j hj).1));clear ab aa ac))
     all_goals
      exact mAy
  ·have ap:k=n:=by omega
   subst ap;have HE:Hid (QcI L a=L.take k ++ [a] ++ L.drop k):=Qjg L k ⟨by have:=HN.out;omega,HF,fun z hz=>absurd (List.getElem?_eq_some_iff.1 hz).1 (oA HN.out)⟩ (fun z hz=>absurd (List.getElem?_eq_some_iff.1 hz).1 (oA HN.out));clear ag HF
   cases ao with
   | none=>
    have h0:c=0:=az.out rfl;subst h0;have ay:k=0:=oB
    subst ay
    go_wp2_with (first
     | (at_builtin;refine Qad _ rfl (.tmp 21) (.tmp 24) 75 rfl w.heap.size 9 i0 (.string ByteArray.empty) 1 16 underlying75 hi af ae ad rfl oF _ _ _ rfl (World.ownsRow_made _ #[] 0 (Nat.le_refl _) (Nat.zero_le _) rfl) none 0 0 ((L.take 0).map Value.string) rfl oK (fun e=>⟨rfl,rfl⟩) (fun A e=>by cases e) (QaY _) oC oB oE ?_;intro v1 w1 ab aa ac;simp only [Nat.zero_add,List.nil_append] at ab;obtain ⟨am,c1,rfl⟩:=Qan ab;have O1:=Qaa ab;have B1:=Qaa (((Below.refl w.heap.size w).alloc (Nat.le_refl _) _).grown aa oE (fun j hj=>by cases hj;exact Nat.le_refl _));clear ab aa ac)
     | (at_builtin;refine wpList_append_own _ rfl (.tmp 26) (.tmp 28) 75 rfl w.heap.size 9 i0 (.string ByteArray.empty) 1 16 underlying75 hi af ae ad rfl oF _ _ _ rfl (QaX O1 bAA) ⟨w1.heap.size,0,none⟩ 1 1 [.string a] rfl rfl (Qav (cs:=#[.string a]) rfl) (QaY [a]) oC oB oI ?_;intro v2 w2 ab aa ac;obtain ⟨an,c2,rfl⟩:=Qan ab;have O2:=Qaa ab;have B2:=Qaa ((B1.alloc B1.size _).grown aa oI (fun j hj=>(O1.lt j hj).1));clear ab aa ac)
     | (at_builtin;refine Qad _ rfl (.tmp 44) (.tmp 47) 75 rfl w.heap.size 9 i0 (.string ByteArray.empty) 1 16 underlying75 hi af ae ad rfl oF _ _ _ rfl O2 none 0 0 [] rfl rfl (fun e=>⟨rfl,rfl⟩) (fun A e=>by cases e) oM oC oB (oA B2.size) ?_;intro v3 w3 ab aa ac;obtain ⟨aj,c3,rfl⟩:=Qan ab;have O3:=Qaa ab;have B3:=Qaa (B2.grown aa B2.size (fun j hj=>(O2.lt j hj).1));clear ab aa ac))
    all_goals
     exact mAy
   | some A=>
    by_cases av:c=k
    ·subst av
     go_wp2_with (first
      | (at_builtin;refine Qad _ rfl (.tmp 21) (.tmp 24) 75 rfl w.heap.size 9 i0 (.string ByteArray.empty) 1 16 underlying75 hi af ae ad rfl oF _ _ _ rfl (World.ownsRow_made _ #[] 0 (Nat.le_refl _) (Nat.zero_le _) rfl) (some A) c c ((L.take c).map Value.string) rfl oK (fun e=>by cases e) (fun A e=>by cases e;exact Qcp (QaA (Qdy _ HA) bAA)) (QaY _) oC oB oE ?_;intro v1 w1 ab aa ac;simp only [Nat.zero_add,List.nil_append] at ab;obtain ⟨am,c1,rfl⟩:=Qan ab;have O1:=Qaa ab;have B1:=Qaa (((Below.refl w.heap.size w).alloc (Nat.le_refl _) _).grown aa oE (fun j hj=>by cases hj;exact Nat.le_refl _));clear ab aa ac)
      | (at_builtin;refine wpList_append_own _ rfl (.tmp 26) (.tmp 28) 75 rfl w.heap.size 9 i0 (.string ByteArray.empty) 1 16 underlying75 hi af ae ad rfl oF _ _ _ rfl (QaX O1 bAA) ⟨w1.heap.size,0,none⟩ 1 1 [.string a] rfl rfl (Qav (cs:=#[.string a]) rfl) (QaY [a]) oC oB oI ?_;intro v2 w2 ab aa ac;obtain ⟨an,c2,rfl⟩:=Qan ab;have O2:=Qaa ab;have B2:=Qaa ((B1.alloc B1.size _).grown aa oI (fun j hj=>(O1.lt j hj).1));clear ab aa ac)
      | (at_builtin;refine Qad _ rfl (.tmp 44) (.tmp 47) 75 rfl w.heap.size 9 i0 (.string ByteArray.empty) 1 16 underlying75 hi af ae ad rfl oF _ _ _ rfl O2 _ 0 _ [] rfl rfl (fun e=>by cases e) (fun A _ j z hz=>by simp at hz) oM oC oB (oA B2.size) ?_;intro v3 w3 ab aa ac;obtain ⟨aj,c3,rfl⟩:=Qan ab;have O3:=Qaa ab;have B3:=Qaa (B2.grown aa B2.size (fun j hj=>(O2.lt j hj).1));clear ab aa ac))
     all_goals
      exact mAy
    ·skip
     go_wp2_with (first
      | (at_builtin;refine Qad _ rfl (.tmp 21) (.tmp 24) 75 rfl w.heap.size 9 i0 (.string ByteArray.empty) 1 16 underlying75 hi af ae ad rfl oF _ _ _ rfl (World.ownsRow_made _ #[] 0 (Nat.le_refl _) (Nat.zero_le _) rfl) (some A) k c ((L.take k).map Value.string) rfl oK (fun e=>by cases e) (fun A e=>by cases e;exact Qcp (QaA (Qdy _ HA) bAA)) (QaY _) oC oB oE ?_;intro v1 w1 ab aa ac;simp only [Nat.zero_add,List.nil_append] at ab;obtain ⟨am,c1,rfl⟩:=Qan ab;have O1:=Qaa ab;have B1:=Qaa (((Below.refl w.heap.size w).alloc (Nat.le_refl _) _).grown aa oE (fun j hj=>by cases hj;exact Nat.le_refl _));clear ab aa ac)
      | (at_builtin;refine wpList_append_own _ rfl (.tmp 26) (.tmp 28) 75 rfl w.heap.size 9 i0 (.string ByteArray.empty) 1 16 underlying75 hi af ae ad rfl oF _ _ _ rfl (QaX O1 bAA) ⟨w1.heap.size,0,none⟩ 1 1 [.string a] rfl rfl (Qav (cs:=#[.string a]) rfl) (QaY [a]) oC oB oI ?_;intro v2 w2 ab aa ac;obtain ⟨an,c2,rfl⟩:=Qan ab;have O2:=Qaa ab;have B2:=Qaa ((B1.alloc B1.size _).grown aa oI (fun j hj=>(O1.lt j hj).1));clear ab aa ac)
      | (at_builtin;refine Qad _ rfl (.tmp 44) (.tmp 47) 75 rfl w.heap.size 9 i0 (.string ByteArray.empty) 1 16 underlying75 hi af ae ad rfl oF _ _ _ rfl O2 _ 0 _ [] rfl rfl (fun e=>by cases e) (fun A _ j z hz=>by simp at hz) oM oC oB (oA B2.size) ?_;intro v3 w3 ab aa ac;obtain ⟨aj,c3,rfl⟩:=Qan ab;have O3:=Qaa ab;have B3:=Qaa (B2.grown aa B2.size (fun j hj=>(O2.lt j hj).1));clear ab aa ac))
     all_goals
      exact mAy
theorem Qcy {x:List UInt8} (ha:a=⟨x.toArray⟩) (hb:b=⟨y.toArray⟩) (h:x.length+y.length<=1000000):Op.stringOp .add a b=pure (.string ⟨(x ++ y).toArray⟩):=by
 subst ha;subst hb;unfold Op.stringOp;have e1:(⟨x.toArray⟩:ByteArray).size=x.length:=by rw [<- Qam,QaQ]
 have e2:(⟨y.toArray⟩:ByteArray).size=y.length:=by rw [<- Qam,QaQ]
 have:¬ ((((⟨x.toArray⟩:ByteArray).size+(⟨y.toArray⟩:ByteArray).size:Nat):Int) > IntKind.i64.max):=by
  have e:IntKind.i64.max=9223372036854775807:=oF
  rw [e,e1,e2];omega
 simp only [if_neg this,mk_app]
theorem Qjk {B' size:Nat} {e:TypeId} (h:w.ownsRow B e size v n xs) (hb:B'<=B):w.ownsRow B' e size v n xs:=by
 refine ⟨h.1,?_⟩;rcases h.2 with h2 | ⟨g,aa,ab,e1,e2,e3⟩
 ·exact .inl h2
 ·exact .inr ⟨g,aa,ab,e1,Nat.le_trans hb e2,e3⟩
theorem QqI (h:L[k]?=some x):Qef (L.take (k+1))=QcI (Qef (L.take k)) x:=by
 rw [List.take_add_one,h];simp [Qef,List.foldl_append]
theorem Qtj (h:L[k]?=some x) (hx:Qbg x=false):L.all Qbg=false:=by
 rw [List.all_eq_false];exact ⟨x,List.mem_of_getElem? h,by rw [hx];decide⟩
theorem Qcn (c n:Nat) (hn:L.length=n) (hl:n<=1048576) (hu:∀ u∈L,u.size<=maxLen) (hA:Qat w ao L) :
  Calls prog 193 #[.slice ao n c] w fun e w'=>e=.returned (.bool (L.all Qbg))/\w'=w:=by
 have HA:=Qaa hA;have HN:=Qaa hn;have HU:=Qaa hu;clear hA hn hu;go_enter func193,ntmps193;go_wp2
 go_loop [3] (fun i=>∃ k:Nat,k<=n/\i=.int .i64 k/\Hid ((L.take k).all Qbg=true)) (fun i=>n - (Go.RowKit.intOf i).toNat)
 case atStart=>exact ⟨0,Nat.zero_le _,rfl,(by simp:(L.take 0).all Qbg=true)⟩
 case round=>
  obtain ⟨k,hk,rfl,HF⟩:=hrel;by_cases ab:k<n
  ·obtain ⟨b,ad,e,aa⟩:=HA.out (oA HN.out)
   subst e;obtain ⟨y,hy⟩:∃ y,L[k]?=some y:=⟨L[k]'(oA HN.out),List.getElem?_eq_getElem _⟩;have ac:=aa k y hy;have HZ:=Qaa (HU.out y (List.mem_of_getElem? hy));have HY:=Qaa hy;clear aa hy
   cases ht:Qbg y with
   | false=>
    have HE:Hid (L.all Qbg=false):=Qtj HY ht;go_wp2_with (go_at_call 141;refine (Qbp _ _ HZ).mono ?_;rintro e w1 ⟨rfl,rfl⟩);go_ret;exact ⟨Qaw HE.symm,rfl⟩
   | true=>
    have HE:Hid ((L.take (k+1)).all Qbg=true):=Qaa (by rw [List.take_add_one,HY.out,List.all_append,HF.out];simp [ht]);go_wp2_with (go_at_call 141;refine (Qbp _ _ HZ).mono ?_;rintro e w1 ⟨rfl,rfl⟩)
    go_round
    case rel=>exact ⟨k+1,by omega,by go_num,HE⟩
    case measure=>simp [Go.RowKit.intOf];omega
  ·have HE:Hid (L.all Qbg=true):=Qaa (by have:=HF.out;rwa [List.take_of_length_le (oA HN.out)] at this)
   go_wp2;go_ret;exact ⟨Qaw HE.symm,rfl⟩
theorem Qnf {name:ByteArray} (h:name.size<=100) (hk:∀ x∈K,x.size<=20) (hl:K.length<=20100):(QcY name K).length<=422300:=by
 have:=Qe8 hk;unfold QcY;simp only [List.length_append,Qam,List.length_cons,List.length_nil];omega
theorem QpZ (name:ByteArray) (h:K[0]?=some x):QcY name (K.take 0) ++ toL x=QcY name (K.take 1):=by
 rw [List.take_add_one,h];simp [QcY,Qdw,Qk0]
theorem QpA {i:Nat} (name:ByteArray) (h:K[i]?=some x) (h0:0<i):QcY name (K.take i) ++ [44] ++ toL x=QcY name (K.take (i+1)):=by
 have hl:=(List.getElem?_eq_some_iff.1 h).1;rw [List.take_add_one,h];unfold QcY;rw [show (some x).toList=[x] from rfl,QfB (fun e=>by have:=congrArg List.length e;rw [List.length_take,List.length_nil] at this;omega)];simp
theorem Qbs (name:ByteArray) (c n:Nat) (hnm:name.size<=100) (hn:L.length=n) (hl:n<=20100) (hu:∀ u∈L,u.size<=20) (hA:Qat w ao L) :
  Calls prog 136 #[.string name,.slice ao n c] w fun e w'=>e=.returned (.string (Qb6 name L))/\Bw w w':=by
 have HA:=Qaa hA;have HN:=Qaa hn;have HU:=Qaa hu;clear hA hn hu;go_enter func136,ntmps136;go_wp2;have O0:OwnT (w.alloc (.cells #[] 9)) w.heap.size (.slice (some ⟨w.heap.size,0,none⟩) 0 0) []:=World.ownsRow_made w #[] 0 (Nat.le_refl _) (Nat.zero_le _) rfl
 go_loopw [5,6] (fun lv i wr=>∃ (k:Nat) (lo:Option Addr) (m lc:Nat),k<=n/\i=.int .i64 k/\lv=.slice lo m lc/\Hid (OwnT wr w.heap.size (.slice lo m lc) (Qef (L.take k))/\m=(Qef (L.take k)).length)/\Hid (Bw w wr)) (fun lv i wr=>n - (Go.RowKit.intOf i).toNat)
 case atStart=>exact ⟨0,_,0,0,Nat.zero_le _,rfl,rfl,⟨O0,rfl⟩,(Below.refl _ _).alloc (Nat.le_refl _) _⟩
 case round=>
  clear O0;obtain ⟨k,lo,m,lc,hk,rfl,rfl,HO,HB⟩:=hrel;by_cases aE:k<n
  ·obtain ⟨b,aD,e,aa⟩:=HA.out (oA HN.out)
   obtain ⟨y,hy⟩:∃ y,L[k]?=some y:=⟨L[k]'(oA HN.out),List.getElem?_eq_getElem _⟩;subst e;have aq:=Qab HB (aa k y hy);have HE:=Qaa (QqI hy);have aA:m<=20100:=by have:=Qgp (L.take k);have:=HO.2;rw [List.length_take] at *; omega
   clear aa hy;have G:=Qaa HO.1.cap;go_wp2_with (go_at_call 82;refine (Qih y HO.2.symm oB G.2.1 G.2.2.1 G.2.2.2 HO.1.at).mono ?_;rintro e w2 ⟨v2,rfl,o2,ag⟩;obtain ⟨ay,c2,rfl⟩:=QcR o2;rw [<- HE.out] at o2;have az:=Qaa o2;have aB:=Qaa (HB.trans (ag.mono HB.size));have aG:=ag.size;clear o2 ag);go_roundw
   case rel=>
    rw [<- HE.out];refine ⟨k+1,ay,_,c2,by omega,by go_num,rfl,⟨?_,rfl⟩,aB⟩;have h:=az.out;unfold OwnT at h ⊢;exact Qjk h HB.size
   case measure=>simp [Go.RowKit.intOf];omega
  ·have aC:k=n:=by omega
   subst aC;have eL:L.take k=L:=List.take_of_length_le (oA HN.out);rw [eL] at HO;clear eL;obtain ⟨K,hK⟩:∃ K,Qef L=K:=⟨_,rfl⟩;have HK:=Qaa hK;rw [hK] at HO;have am:Hid (∀ x∈K,x.size<=20):=Qaa (fun x hx=>HU.out x (mem_serK.1 (by rw [hK];exact hx)));have aA:m<=20100:=by have:=Qgp L;have:=HO.2;have:=HN.out;rw [hK] at *; omega
   clear hK;have ar:Hid (K.length<=20100):=Qaa (oA HO.2);obtain ⟨T0,aj⟩:∃ T0:ByteArray,T0=⟨(QcY name (K.take 0)).toArray⟩:=⟨_,rfl⟩
   have af:Op.stringOp .add name ⟨#[123]⟩=pure (.string T0):=by
    rw [Qcy (x:=toL name) (y:=[123]) (Qee name).symm rfl xS,aj];simp [QcY,Qk0]
   have av:=Qaa aj;clear aj;go_wp2
   go_loop [7,8] (fun tv i=>∃ (j:Nat) (T:ByteArray),j<=m/\i=.int .i64 j/\tv=.string T/\Hid (T=⟨(QcY name (K.take j)).toArray⟩)) (fun tv i=>m - (Go.RowKit.intOf i).toNat)
   case atStart=>exact ⟨0,T0,Nat.zero_le _,rfl,rfl,av⟩
   case round=>
    clear av af;obtain ⟨j,T,hj,rfl,rfl,HT⟩:=hrel;by_cases aI:j<m
    ·obtain ⟨b,aD,e,aa⟩:=HO.1.at (oA HO.2)
     obtain ⟨y,hy⟩:∃ y,K[j]?=some y:=⟨K[j]'(oA HO.2),List.getElem?_eq_getElem _⟩;subst e;have aq:=aa j y hy;have au:y.size<=20:=am.out y (List.mem_of_getElem? hy);have ac:=Qnf (name:=name) (K:=K.take j) hnm (fun x hx=>am.out x (List.mem_of_mem_take hx)) (by rw [List.length_take];have:=ar.out;omega);rcases Nat.eq_zero_or_pos j with h0 | h0
     ·subst h0
      rw [Nat.add_zero] at aq;obtain ⟨T2,ab⟩:∃ T2:ByteArray,T2=⟨(QcY name (K.take 1)).toArray⟩:=⟨_,rfl⟩
      have an:Op.stringOp .add T y=pure (.string T2):=by
       rw [Qcy HT.out (Qee y).symm (by rw [Qam];omega),QpZ name hy,ab]
      have ah:=Qaa ab;clear ab hy aa ac au;go_wp2
      go_round
      case rel=>exact ⟨1,T2,by omega,by go_num,rfl,ah⟩
      case measure=>simp [Go.RowKit.intOf];omega
     ·have aH:(0:Int)<(j:Int):=by omega
      obtain ⟨T1,ak⟩:∃ T1:ByteArray,T1=⟨(QcY name (K.take j) ++ [44]).toArray⟩:=⟨_,rfl⟩
      have aw:Op.stringOp .add T ⟨#[44]⟩=pure (.string T1):=by
       rw [Qcy (y:=[44]) HT.out rfl oH,ak]
      obtain ⟨T2,ab⟩:∃ T2:ByteArray,T2=⟨(QcY name (K.take (j+1))).toArray⟩:=⟨_,rfl⟩
      have ap:Op.stringOp .add T1 y=pure (.string T2):=by
       rw [Qcy ak (Qee y).symm xS,QpA name hy h0,ab]
      have ah:=Qaa ab;clear ab ak hy aa ac au;go_wp2
      go_round
      case rel=>exact ⟨j+1,T2,by omega,by go_num,rfl,ah⟩
      case measure=>simp [Go.RowKit.intOf];omega
    ·have al:j=m:=by omega
     have eK:K.take j=K:=List.take_of_length_le (oA HO.2);have ac:=Qnf (name:=name) (K:=K) hnm am ar;obtain ⟨T2,ab⟩:∃ T2:ByteArray,T2=Qru name K:=⟨_,rfl⟩
     have an:Op.stringOp .add T ⟨#[125]⟩=pure (.string T2):=by
      rw [Qcy (y:=[125]) HT.out rfl (by rw [eK];simp;omega),eK,ab];rfl
     have aF:T2.size<=1000000:=by rw [ab,<- Qam,Qru,QaQ];simp;omega
     have HF:Hid (Qb6 name L=if 8<m∨100<T2.size then ByteArray.empty else T2):=Qaa (by unfold Qb6;rw [HK.out,ab,<- HO.2]);clear ab eK ac HT al;by_cases h8:8<m
     ·have ax:(8:Int)<(m:Int):=by omega
      have ad:Hid (Qb6 name L=ByteArray.empty):=Qaa (by rw [HF.out,if_pos (.inl h8)]);exact mD5
     ·have ax:¬ (8:Int)<(m:Int):=by omega
      by_cases ai:100<T2.size
      ·have ae:(100:Int)<(T2.size:Int):=by omega
       have ad:Hid (Qb6 name L=ByteArray.empty):=Qaa (by rw [HF.out,if_pos (.inr ai)]);exact mD5
      ·have ae:¬ (100:Int)<(T2.size:Int):=by omega
       have ad:Hid (Qb6 name L=T2):=Qaa (by rw [HF.out,if_neg oB]);exact mD5
end Go.Proofs.YtioohanfodmddaaGreatDoor
