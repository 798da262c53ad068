/-
 Parts.
-/
import Derived.Test.YtdbaabbmcfnjbaaGreatDoorDSA
import Derived.Test.YtdbaabbmcfnjbaaGreatDoorDKF
import Derived.Test.YtdbaabbmcfnjbaaGreatDoorDJK
import Derived.Sort.EveryDepth
import Derived.Lib.Split
import Derived.Lib.CountLaws
import Derived.Lib.SplitLaws
import Derived.Lib.Strings
set_option maxRecDepth 10000
set_option linter.all false
namespace Go.Proofs.YtdbaabbmcfnjbaaGreatDoor
open Go.ChangeShapes Go.WideShapes Go.ChangeAt Go.RowKit Go.PlainAid Go.Shelf
open Go.Sort
def Qgx (name:ByteArray) (L:List ByteArray):ByteArray:=if QaK name=true/\L.all QbG=true then Qdk name L else ByteArray.empty
variable {name s t x:ByteArray}
theorem Qrd (h:QbG x=true):x.size<=20:=by
 unfold QbG at h;simp only [Bool.and_eq_true,decide_eq_true_eq] at h;exact h.1.2
theorem Qeu (h:QaK x=true):x.size<=40:=by
 unfold QaK at h;simp only [Bool.and_eq_true,decide_eq_true_eq] at h;exact h.1.1.2
variable {K L:List ByteArray}
theorem Qhz (h:L.all QbG=true):∀ x∈L,x.size<=20:=fun x hx=>Qrd (List.all_eq_true.1 h x hx)
def serO (name:ByteArray) (L:List ByteArray):ByteArray:=if 400<L.length then ByteArray.empty else Qgx name L
theorem QnZ {x:UInt8} (h:x∈toL s):∃ k,k<s.size/\bt s k=(x.toNat:Int):=by
 obtain ⟨k,hk,e⟩:=List.mem_iff_getElem.1 h;have aa:k<s.size:=by rw [<- Qap];exact hk
 refine ⟨k,aa,?_⟩;unfold bt;rw [dif_pos aa,<- e];simp [toL]
 rfl
theorem Qou {s:ByteArray}:∀ {n k:Nat},Qm0 s n=true->k<n->nmB (bt s k)=true
 | n+1,k,h,hk=>by
  unfold Qm0 at h;obtain ⟨h1,h2⟩:=Bool.and_eq_true_iff.1 h;by_cases e:k=n
  ·subst e;exact h2
  ·exact Qou h1 (by omega)
theorem Qnh {s:ByteArray}:∀ {n k:Nat},QiN s n=true->k<n->tgB (bt s k)=true
 | n+1,k,h,hk=>by
  unfold QiN at h;obtain ⟨h1,h2⟩:=Bool.and_eq_true_iff.1 h;by_cases e:k=n
  ·subst e;exact h2
  ·exact Qnh h1 (by omega)
theorem Qti (h:QaK s=true):(123:UInt8) ∉ toL s:=fun hm=>by
 obtain ⟨k,hk,e⟩:=QnZ hm;unfold QaK at h;have ha:=(Bool.and_eq_true_iff.1 h).2;have:=Qou ha hk;rw [e] at this
 revert this;decide
theorem Qo7 (h:QbG s=true):(123:UInt8) ∉ toL s/\(44:UInt8) ∉ toL s:=by
 unfold QbG at h;have ha:=(Bool.and_eq_true_iff.1 h).2;refine ⟨fun hm=>?_,fun hm=>?_⟩ <;>
 ·obtain ⟨k,hk,e⟩:=QnZ hm
  have:=Qnh ha hk;rw [e] at this
  revert this;decide
theorem Qun (h:QbG s=true):1<=s.size:=by
 unfold QbG at h;simp only [Bool.and_eq_true,decide_eq_true_eq] at h;exact h.1.1
def QkB (t name:ByteArray) (K:List ByteArray):Prop:=QaK name=true/\K.all QbG=true/\Qfj K/\K.length<=8/\t.size<=100/\t=Qur name K
def QbY (t:ByteArray):Prop:=∃ name K,QkB t name K
noncomputable def Qby (t:ByteArray):Bool:=@decide (QbY t) (Classical.propDecidable _)
theorem QcR (h:¬ QbY t):Qby t=false:=@ZZg _ (Classical.propDecidable _) h
theorem QcB (h:QbY t):Qby t=true:=@ZZh _ (Classical.propDecidable _) h
theorem Qto (h:Qfj K):QjW K=K:=Qnw (Qjy K) h (fun x=>mem_serK)
theorem Qtu (h:QkB t name K):Qgx name K=t:=by
 obtain ⟨h1,h2,h3,h4,h5,h6⟩:=h;unfold Qgx Qdk;rw [if_pos ⟨h1,h2⟩,Qto h3,<- h6,if_neg (by omega)]
theorem QoJ (h:Qgx name L=t) (h0:0<t.size):QbY t:=by
 unfold Qgx at h
 split at h
 ·rename_i hc
  unfold Qdk at h
  split at h
  ·subst h;exact absurd h0 (by decide)
  ·rename_i aa
   refine ⟨name,QjW L,hc.1,List.all_eq_true.2 (fun x hx=>List.all_eq_true.1 hc.2 x (mem_serK.1 hx)),Qjy L,by omega,by rw [<- h];omega,h.symm⟩
 ·subst h;exact absurd h0 (by decide)
theorem Qp3 (name:ByteArray) (K:List ByteArray):toL (Qur name K)=toL name ++ 123 :: (Qb1 K ++ [125]):=by
 unfold Qur;rw [Qbc];simp [QdI]
theorem Qhw {c:UInt8}:∀ {l:List UInt8},c ∉ l->Lib.index l [c]=-1
 | [],_=>by simp [Lib.index]
 | x :: l,h=>by
  have h1:¬ c=x:=fun e=>h (by rw [e];exact List.mem_cons_self);have h2:=Qhw (l:=l) (fun m=>h (ZZm _ m));unfold Lib.index;rw [h2];simp [h1]
theorem Qfm {c:UInt8}:∀ {p:List UInt8} {r:List UInt8},c ∉ p->Lib.index (p ++ c :: r) [c]=p.length
 | [],r,_=>by simp [Lib.index]
 | x :: p,r,h=>by
  have h1:¬ c=x:=fun e=>h (by rw [e];exact List.mem_cons_self);have h2:=Qfm (p:=p) (r:=r) (fun m=>h (ZZm _ m));rw [List.cons_append];unfold Lib.index;rw [h2];simp [h1]
theorem QsF {c:UInt8} {p r:List UInt8} (h:c ∉ p):Lib.cut (p ++ c :: r) [c]=(p,r,true):=by
 unfold Lib.cut;rw [Qfm h,if_pos (by omega)];simp
theorem Qqm (h:K.all QbG=true):(123:UInt8) ∉ Qb1 K:=by
 cases K with
 | nil=>simp [Qb1,Lib.join]
 | cons y r=>
  have aa:=List.all_eq_true.1 h;unfold Qb1;rw [List.map_cons,Lib.join_cons];intro hm;rcases List.mem_append.1 hm with hm | hm
  ·exact (Qo7 (aa y List.mem_cons_self)).1 hm
  ·unfold Lib.joinTail at hm
   obtain ⟨l,hl,hx⟩:=List.mem_flatten.1 hm;obtain ⟨l2,ac,rfl⟩:=List.mem_map.1 hl;obtain ⟨x,ab,rfl⟩:=List.mem_map.1 ac;rcases List.mem_append.1 hx with hx | hx
   ·revert hx;decide
   ·exact (Qo7 (aa x (ZZm _ ab))).1 hx
theorem Qo8 (h:K.all QbG=true) (hne:K≠[]):Qb1 K≠[]:=by
 cases K with
 | nil=>exact absurd rfl hne
 | cons y r=>
  have h1:=Qun (List.all_eq_true.1 h y List.mem_cons_self);unfold Qb1;rw [List.map_cons,Lib.join_cons];intro e;have:=congrArg List.length e;rw [List.length_append,Qap,List.length_nil] at this;omega
end Go.Proofs.YtdbaabbmcfnjbaaGreatDoor
