/-
 A region whose order is open, and whose last operation k, which waits for all others, writes what they read: a condition S is kept behind every operation but k. Of no program.
-/
import Derived.Test.YtmjogablacnlgaaGreatDoorOJA
namespace Go.Proofs.YtmjogablacnlgaaGreatDoor
set_option linter.unusedVariables false
open Go.RowKit
section
variable {P:Program} {ops:Array Oper} {Q:Exit→Act→World→Prop} {md:Region.Mode} {S:World→Prop} {k:Nat}
def wpAnyK (P:Program) (md:Region.Mode) (ops:Array Oper) (Q:Exit→Act→World→Prop) (S:World→Prop) (k:Nat):Nat→Array Bool→Act→World→Prop
 | 0,listed,a,w=>Region.ready md ops listed=[]∧Q .normal a w
 | fuel+1,listed,a,w=>
  (Region.ready md ops listed=[]→Q .normal a w) ∧
  ∀ i∈Region.ready md ops listed,wpOp P ops Q i (fun a' w'=>(i≠k→S w')∧wpAnyK P md ops Q S k fuel (listed.setIfInBounds i true) a' w') a w
theorem wpAny_of_K:∀ (fuel:Nat) (listed:Array Bool) (a:Act) (w:World),wpAnyK P md ops Q S k fuel listed a w→wpAny P md ops Q fuel listed a w
 | 0,_,_,_,h=>h
 | fuel+1,_,_,_,h=>⟨h.1,fun i hi=>wpOp_mono (fun a' w' h'=>wpAny_of_K fuel _ a' w' h'.2) (h.2 i hi)⟩
theorem wpAnyK_first {i:Nat} {oi:Oper} {v:Value} (hi:ops[i]?=some oi) (hsel:∀ (j:Nat) (o:Oper) cs b,ops[j]?=some o→o.op≠.select cs b)
  (hik:i≠k) (hwait:∀ ok,ops[k]?=some ok→∃ e∈ok.after,Region.binds md e=true∧e.on=i)
  (hQ:∀ c a w,Q (.panic c) (a.put oi.dst v) w→Q (.panic c) a w) :
  ∀ (fuel:Nat) (listed:Array Bool) (a:Act) (w:World),
   (∀ j oj,ops[j]?=some oj→j≠i→listed.getD j true=false→(∀ e∈oj.after,Region.binds md e=true→e.on≠i)→oi.apart ops oj=true) →
   i∈Region.ready md ops listed→YieldsIf P ops S oi v a→S w →
   wpAnyK P md ops Q S k fuel (listed.setIfInBounds i true) (a.put oi.dst v) w→wpAnyK P md ops Q S k (fuel+1) listed a w:=by
 intro fuel
 induction fuel with
 | zero=>
  intro listed a w _ hr hy hS H;refine ⟨fun h=>(by rw [h] at hr;cases hr),fun j hj=>?_⟩;by_cases hji:j=i
  ·subst hji;exact hy.wpOp hi hS ⟨fun _=>hS,H⟩
  ·have:=ready_mono hj hji
   rw [H.1] at this
   cases this
 | succ fuel ih=>
  intro listed a w hfree hr hy hS H;refine ⟨fun h=>(by rw [h] at hr;cases hr),fun j hj=>?_⟩;by_cases hji:j=i
  ·subst hji;exact hy.wpOp hi hS ⟨fun _=>hS,H⟩
  ·have h1:=H.2 j (ready_mono hj hji)
   obtain ⟨hjun,oj,hoj,hall⟩:=mem_ready.1 hj
   have hnot:∀ e∈oj.after,Region.binds md e=true→e.on≠i:=fun e he hb heq=>by
    have h1:=hall e he hb;have h0:=(mem_ready.1 hr).1;rw [heq] at h1;rcases Nat.lt_or_ge i listed.size with h' | h'
    ·simp [h'] at h0 h1;rw [h0] at h1;cases h1
    ·simp [Array.getElem?_eq_none h'] at h1
   have hjk:j≠k:=fun e=>by
    subst e;obtain ⟨e,he,hb,heq⟩:=hwait oj hoj;exact hnot e he hb heq
   have h2:=wpOp_putIf hoj (hfree j oj hoj hji hjun hnot) (fun cs b=>hsel i oi cs b hi) (fun cs b=>hsel j oj cs b hoj) hQ hy h1
   have hfree':∀ q oq,ops[q]?=some oq→q≠i→(listed.setIfInBounds j true).getD q true=false →
     (∀ e∈oq.after,Region.binds md e=true→e.on≠i)→oi.apart ops oq=true:=fun q oq hq hqi hun hno=>by
    refine hfree q oq hq hqi ?_ hno;by_cases hjq:j=q
    ·subst hjq;exact hjun
    ·rw [getD_set_ne true hjq] at hun;exact hun
   refine wpOp_mono (fun a' w' h3=>⟨h3.2.1,ih (listed.setIfInBounds j true) a' w' hfree' (ready_mono hr (Ne.symm hji)) h3.1 (h3.2.1 hjk) ?_⟩) h2;rw [Array.setIfInBounds_comm _ _ hji];exact h3.2.2
def waits (md:Region.Mode) (ops:Array Oper) (k i:Nat):Bool:=match ops[k]? with
 | some o=>o.after.toList.any (fun e=>Region.binds md e && e.on == i)
 | none=>true
theorem waits_spec {md:Region.Mode} {ops:Array Oper} {k i:Nat} (h:waits md ops k i=true):∀ ok,ops[k]?=some ok→∃ e∈ok.after,Region.binds md e=true∧e.on=i:=fun ok hk=>by
 unfold waits at h;rw [hk] at h;obtain ⟨e,he,h2⟩:=List.any_eq_true.1 h;have:=Bool.and_eq_true_iff.1 h2;exact ⟨e,Array.mem_toList_iff.1 he,this.1,by simpa using this.2⟩
theorem takeK {i d:Nat} {oi:Oper} {v:Value} {fuel:Nat} {listed:Array Bool} {t:Array Value} {df:List Deferred} {w:World} (hi:ops[i]?=some oi) (hd:oi.dst=some d)
  (hs:Region.noSelect ops=true) (hf:Region.free md ops listed i=true) (hr:(Region.ready md ops listed).contains i=true) (hik:i≠k) (hw:waits md ops k i=true)
  (hQ:∀ c a w,Q (.panic c) (a.put oi.dst v) w→Q (.panic c) a w) (hy:YieldsIf P ops S oi v ⟨t,df⟩) (hS:S w)
  (h:wpAnyK P md ops Q S k fuel (listed.setIfInBounds i true) ⟨t.setIfInBounds d v,df⟩ w):wpAnyK P md ops Q S k (fuel+1) listed ⟨t,df⟩ w:=by
 refine wpAnyK_first hi (Region.noSelect_spec hs) hik (waits_spec hw) hQ fuel listed ⟨t,df⟩ w (Region.free_spec hi hf) (by simpa using hr) hy hS ?_;rw [hd];exact h
theorem tkL {i d:Nat} {oi:Oper} {v:Value} {fuel:Nat} {listed:Array Bool} {t:Array Value} {df:List Deferred} {w:World} (hi:ops[i]?=some oi) (hd:oi.dst=some d) (hS:S w)
  (hy:∀ W,S W→(execOp (Act.eval ⟨t,df⟩) oi).run P W=.ok (.value v) W) (h:wpAnyK P md ops Q S k fuel (listed.setIfInBounds i true) ⟨t.setIfInBounds d v,df⟩ w)
  (hs:Region.noSelect ops=true:=by kernel_rfl) (hf:Region.free md ops listed i=true:=by kernel_rfl) (hr:(Region.ready md ops listed).contains i=true:=by kernel_rfl) (hik:i≠k:=by decide) (hw:waits md ops k i=true:=by kernel_rfl)
  (hQ:∀ c a w,Q (.panic c) (a.put oi.dst v) w→Q (.panic c) a w:=by exact fun _ _ _ h=>h) (hwt:Region.wanted oi (yielded ops t)=true:=by rfl):wpAnyK P md ops Q S k (fuel+1) listed ⟨t,df⟩ w:=
 takeK hi hd hs hf hr hik hw hQ (Or.inl ⟨hwt,hy⟩) hS h
theorem tkS {i d:Nat} {oi:Oper} {v:Value} {fuel:Nat} {listed:Array Bool} {t:Array Value} {df:List Deferred} {w:World} (hi:ops[i]?=some oi) (hd:oi.dst=some d) (hS:S w)
  (h:wpAnyK P md ops Q S k fuel (listed.setIfInBounds i true) ⟨t.setIfInBounds d v,df⟩ w) (hy:∀ W,S W→(execOp (Act.eval ⟨t,df⟩) oi).run P W=.ok (.value v) W:=by intro W hW;clear hW;go_simp)
  (hs:Region.noSelect ops=true:=by kernel_rfl) (hf:Region.free md ops listed i=true:=by kernel_rfl) (hr:(Region.ready md ops listed).contains i=true:=by kernel_rfl) (hik:i≠k:=by decide) (hw:waits md ops k i=true:=by kernel_rfl)
  (hQ:∀ c a w,Q (.panic c) (a.put oi.dst v) w→Q (.panic c) a w:=by exact fun _ _ _ h=>h) (hwt:Region.wanted oi (yielded ops t)=true:=by rfl):wpAnyK P md ops Q S k (fuel+1) listed ⟨t,df⟩ w:=
 takeK hi hd hs hf hr hik hw hQ (Or.inl ⟨hwt,hy⟩) hS h
theorem tkU {i d:Nat} {oi:Oper} {fuel:Nat} {listed:Array Bool} {t:Array Value} {df:List Deferred} {w:World} (hi:ops[i]?=some oi) (hd:oi.dst=some d) (hS:S w)
  (h:wpAnyK P md ops Q S k fuel (listed.setIfInBounds i true) ⟨t.setIfInBounds d undef,df⟩ w)
  (hs:Region.noSelect ops=true:=by kernel_rfl) (hf:Region.free md ops listed i=true:=by kernel_rfl) (hr:(Region.ready md ops listed).contains i=true:=by kernel_rfl) (hik:i≠k:=by decide) (hw:waits md ops k i=true:=by kernel_rfl)
  (hQ:∀ c a w,Q (.panic c) (a.put oi.dst undef) w→Q (.panic c) a w:=by exact fun _ _ _ h=>h) (hwt:Region.wanted oi (yielded ops t)=false:=by rfl):wpAnyK P md ops Q S k (fuel+1) listed ⟨t,df⟩ w:=
 takeK hi hd hs hf hr hik hw hQ (Or.inr ⟨hwt,rfl⟩) hS h
theorem oneK {i:Nat} {oi:Oper} {fuel:Nat} {listed:Array Bool} {a:Act} {w:World} (hr:Region.ready md ops listed=[i]) (hi:ops[i]?=some oi)
  (h:∀ K':Act→World→Prop,Shut (∀ a w,(i≠k→S w)→wpAnyK P md ops Q S k fuel (listed.setIfInBounds i true) a w→K' a w)→if Region.wanted oi (yielded ops a.tmps)=true then Oper.wp P oi a w K' Q else K' (a.put oi.dst undef) w) :
  wpAnyK P md ops Q S k (fuel+1) listed a w:=by
 refine ⟨fun h0=>(by rw [hr] at h0;cases h0),fun j hj=>?_⟩;rw [hr] at hj;obtain rfl:j=i:=by simpa using hj
 exact wpOp_step hi (fun K' hK=>h K' (fun a w hS hW=>hK a w ⟨hS,hW⟩))
theorem onE {i:Nat} {oi:Oper} {fuel:Nat} {listed:Array Bool} {a:Act} {w:World} (hi:ops[i]?=some oi)
  (h:∀ K':Act→World→Prop,Shut (∀ a w,(i≠k→S w)→wpAnyK P md ops Q S k fuel (listed.setIfInBounds i true) a w→K' a w)→if Region.wanted oi (yielded ops a.tmps)=true then Oper.wp P oi a w K' Q else K' (a.put oi.dst undef) w)
  (hr:Region.ready md ops listed=[i]:=by kernel_rfl):wpAnyK P md ops Q S k (fuel+1) listed a w:=oneK hr hi h
theorem doneK {listed:Array Bool} {a:Act} {w:World} (hr:Region.ready md ops listed=[]) (h:Q .normal a w):∀ fuel,wpAnyK P md ops Q S k fuel listed a w
 | 0=>⟨hr,h⟩
 | _+1=>⟨fun _=>h,by rw [hr];simp⟩
theorem regionK {id:Nat} {a:Act} {w:World} (S:World→Prop) (k:Nat) (hm:P.follows .mixedOrders=true) (h:wpAnyK P .any ops Q S k ops.size (Array.replicate ops.size false) a w.drew):(Code.region id ops true).wp P Q a w:=
 wp_region_any hm (wpAny_of_K _ _ _ _ h)
end
theorem fzR {w:World} {g:Nat} {cs:Array Value} {t:TypeId} (j:Nat) (hg:w.heap[g]?=some (.cells cs t (0,0))):w.frozen? ⟨g,j,none⟩=false:=frozen_of_row w g j cs t hg
theorem sA {α:Type} {l:List α} {i:Nat} {a:α}:l.toArray.setIfInBounds i a=(l.set i a).toArray:=List.setIfInBounds_toArray ..
theorem sB {α:Type} {x:α} {xs:List α} {a:α}:(x :: xs).set 0 a=a :: xs:=List.set_cons_zero ..
theorem sC {α:Type} {x:α} {xs:List α} {i:Nat} {a:α}:(x :: xs).set (i+1) a=x :: xs.set i a:=List.set_cons_succ ..
end Go.Proofs.YtmjogablacnlgaaGreatDoor
namespace Go.Proofs.YtmjogablacnlgaaGreatDoor
set_option linter.unusedVariables false
theorem twoK {P:Program} {md:Region.Mode} {ops:Array Oper} {Q:Exit→Act→World→Prop} {S:World→Prop} {k i j:Nat} {oi oj:Oper} {fuel:Nat} {listed:Array Bool} {a:Act} {w:World} (hr:Region.ready md ops listed=[i,j]) (hi:ops[i]?=some oi) (hj:ops[j]?=some oj)
  (h:∀ K':Act→World→Prop,Shut (∀ a w,(i≠k→S w)→wpAnyK P md ops Q S k fuel (listed.setIfInBounds i true) a w→K' a w)→if Region.wanted oi (yielded ops a.tmps)=true then Oper.wp P oi a w K' Q else K' (a.put oi.dst undef) w)
  (h':∀ K':Act→World→Prop,Shut (∀ a w,(j≠k→S w)→wpAnyK P md ops Q S k fuel (listed.setIfInBounds j true) a w→K' a w)→if Region.wanted oj (yielded ops a.tmps)=true then Oper.wp P oj a w K' Q else K' (a.put oj.dst undef) w) :
  wpAnyK P md ops Q S k (fuel+1) listed a w:=by
 refine ⟨fun h0=>(by rw [hr] at h0;cases h0),fun q hq=>?_⟩;rw [hr] at hq;have:q=i∨q=j:=by simpa using hq
 rcases this with rfl | rfl
 ·exact wpOp_step hi (fun K' hK=>h K' (fun a w hS hW=>hK a w ⟨hS,hW⟩))
 ·exact wpOp_step hj (fun K' hK=>h' K' (fun a w hS hW=>hK a w ⟨hS,hW⟩))
end Go.Proofs.YtmjogablacnlgaaGreatDoor
