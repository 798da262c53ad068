/-
 Lists of bins brought together: in any order, and however they are put together.
-/
import Derived.Test.YtiiclgcpagdekaaGreatDoorSJV
namespace Go.Proofs.YtiiclgcpagdekaaGreatDoor
set_option linter.unusedVariables false
set_option linter.unusedSimpArgs false
def capW (t:Int):Int:=if 18446744073709551615<t then 18446744073709551615 else t
def sumW (L:List Bn):Int:=(L.map (fun x=>x.2)).sum
def lowL (m:Int) (L:List Bn):List Bn:=L.filter (fun x=>decide (x.1≤m))
def highL (m:Int) (L:List Bn):List Bn:=L.filter (fun x=>decide (m<x.1))
set_option maxRecDepth 10000
open Go.ChangeAt Go.ChangeShapes Go.Lib Go.PlainAid Go.RowKit Go.WideShapes
def satU (n:Int):Int:=if 18446744073709551615<n then 18446744073709551615 else n
def wsum:List Bn→Int
 | []=>0
 | x :: r=>x.2+wsum r
def skW (z:Int) (P N:List Bn):Int:=if skB P N=true then satU (z+wsum P+wsum N) else 0
set_option maxRecDepth 512
def BnR (x:Bn):Prop:=0<x.1∧x.1≤6878∧x.2≠0
theorem riseB_iff:∀ {L:List Bn} {q:Int},riseB q L=true↔Rise L∧∀ x∈L,q<x.1∧x.1≤6878∧x.2≠0
 | [],q=>⟨fun _=>⟨rise_nil,fun x hx=>by simp at hx⟩,fun _=>rfl⟩
 | y :: r,q=>by
  simp only [riseB,Bool.and_eq_true,decide_eq_true_eq,riseB_iff (L:=r)]
  constructor
  ·rintro ⟨⟨⟨h1,h2⟩,h3⟩,h4,h5⟩
   refine ⟨rise_cons.2 ⟨fun x hx=>(h5 x hx).1,h4⟩,fun x hx=>?_⟩
   rcases List.mem_cons.1 hx with rfl | hx
   ·exact ⟨h1,h2,h3⟩
   ·have:=h5 x hx;exact ⟨by omega,this.2⟩
  ·rintro ⟨h1,h2⟩
   have h0:=h2 y List.mem_cons_self
   exact ⟨⟨⟨h0.1,h0.2.1⟩,h0.2.2⟩,(rise_cons.1 h1).2,fun x hx=>⟨(rise_cons.1 h1).1 x hx,(h2 x (List.mem_cons_of_mem _ hx)).2⟩⟩
theorem binsB_iff {L:List Bn}:binsB L=true↔L.length≤30∧Rise L∧∀ x∈L,BnR x:=by
 unfold binsB BnR
 simp only [Bool.and_eq_true,decide_eq_true_eq,riseB_iff]
theorem skB_and {P N:List Bn}:skB P N=true↔binsB P=true∧binsB N=true:=by unfold skB;simp
structure T5 where
 z:Int
 P:List Bn
 N:List Bn
 h:Int
 l:Int
def T5.M (a b:T5):T5:=⟨wAdd a.z b.z,keepL (mrg a.P b.P),keepL (mrg a.N b.N),addH a.h a.l b.h b.l,addL a.l b.l⟩
structure T5.Ok (a:T5):Prop where
 hz:U64 a.z
 hl:U64 a.l
 kP:∀ x∈a.P,BnOk x
 kN:∀ x∈a.N,BnOk x
structure T5.Good (a:T5):Prop extends T5.Ok a where
 sk:skB a.P a.N=true
def one5 (v w:Int):T5:=⟨if v=0 then w else 0,if 0<v then [(binI v,w)] else [],if v<0 then [(binI (-v),w)] else [],thH v w,thL v w⟩
theorem binW_1' {v:Nat} (h:1≤v):1≤binW v:=by
 unfold binW;split <;> omega
theorem binI_1 {v:Int} (h:1≤v) (h2:v≤999999999999999999):1≤binI v:=by
 rw [binI_yes h h2];have:=binW_1' (v:=v.toNat) (by omega);omega
theorem bins_nilB:binsB []=true:=by decide
theorem bins_oneB {v w:Int} (h:1≤v) (h2:v≤999999999999999999) (hw:w≠0):binsB [(binI v,w)]=true:=by
 refine binsB_iff.2 ⟨by simp,rise_one _,fun x hx=>?_⟩
 obtain rfl:=List.mem_singleton.1 hx
 exact ⟨by have:=binI_1 h h2;show 0<binI v;omega,(binI_in v).2,hw⟩
theorem ok_oneB {v w:Int} (hw:U64 w):∀ x∈[(binI v,w)],BnOk x:=fun x hx=>by
 obtain rfl:=List.mem_singleton.1 hx
 have:=binI_in v
 exact ⟨by show I64 (binI v);unfold I64;omega,hw⟩
theorem one_good {v w:Int} (hv:-999999999999999999≤v∧v≤999999999999999999) (hw:U64 w) (h0:w≠0):(one5 v w).Good:=by
 refine ⟨⟨?_,uw_in _,?_,?_⟩,?_⟩
 ·show U64 (if v=0 then w else 0);split
  ·exact hw
  ·unfold U64;omega
 ·show ∀ x∈(if 0<v then [(binI v,w)] else []),BnOk x;split
  ·exact ok_oneB hw
  ·intro x hx;simp at hx
 ·show ∀ x∈(if v<0 then [(binI (-v),w)] else []),BnOk x;split
  ·exact ok_oneB hw
  ·intro x hx;simp at hx
 ·show skB (if 0<v then [(binI v,w)] else []) (if v<0 then [(binI (-v),w)] else [])=true
  refine skB_and.2 ⟨?_,?_⟩
  ·split
   ·exact bins_oneB (by omega) (by omega) h0
   ·exact bins_nilB
  ·split
   ·exact bins_oneB (by omega) (by omega) h0
   ·exact bins_nilB
theorem keep_same {P:List Bn} (h:P.length≤30):keepL P=P:=by unfold keepL;rw [if_pos h]
theorem wAdd_0 {z:Int} (h:U64 z):wAdd z 0=z:=by unfold wAdd;unfold U64 at h;rw [if_neg (by omega),Int.add_zero]
structure PutIs (a b:T5) (v w:Int):Prop where
 yes:putOk a.P a.N v w→b=⟨putZ a.z v w,putPS a.P v w,putNS a.N v w,addH a.h a.l (thH v w) (thL v w),addL a.l (thL v w)⟩
 no:¬ putOk a.P a.N v w→b=a
structure MrgIs (a b c:T5):Prop where
 yes:mrgOk a.P a.N b.P b.N→c=a.M b
 no:¬ mrgOk a.P a.N b.P b.N→c=⟨0,[],[],0,0⟩
theorem PutIs.M {a b:T5} {v w:Int} (h:PutIs a b v w) (ha:a.Ok) (ok:putOk a.P a.N v w):b=a.M (one5 v w):=by
 rw [h.yes ok]
 have r:=sk_rise ok.1
 unfold T5.M one5 putZ putPS putNS
 dsimp only
 congr 1
 ·split
  ·rfl
  ·rw [wAdd_0 ha.hz]
 ·split
  ·rfl
  ·rw [mrg_nil',keep_same r.1.2]
 ·split
  ·rfl
  ·rw [mrg_nil',keep_same r.2.2]
end Go.Proofs.YtiiclgcpagdekaaGreatDoor
