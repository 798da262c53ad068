/-
 Parts.
-/
import Derived.Test.YtdbaabbmcfnjbaaGreatDoorDJA
set_option linter.all false
namespace Go.Proofs.YtdbaabbmcfnjbaaGreatDoor
open Go.RowKit
variable {d fuel i k r:Nat}
variable {oi:Oper}
variable {a0 a1 a10 a11 a12 a2 a3 a4 a5 a6 a7 a8 a9 v:Value}
variable {md:Region.Mode}
variable {ops:Array Oper}
variable {listed:Array Bool}
variable {cs t:Array Value}
variable {df:List Deferred}
variable {w:World}
variable {a:Act}
section
variable {P:Program} {ops:Array Oper} {Q:Exit->Act->World->Prop} {md:Region.Mode} {S:World->Prop} {k:Nat}
def Qbo (P:Program) (md:Region.Mode) (ops:Array Oper) (Q:Exit->Act->World->Prop) (S:World->Prop) (k:Nat):Nat->Array Bool->Act->World->Prop
 | 0,listed,a,w=>Region.ready md ops listed=[]/\Q .normal a w
 | fuel+1,listed,a,w=>
  (Region.ready md ops listed=[]->Q .normal a w) /\
  ∀ i∈Region.ready md ops listed,wpOp P ops Q i (fun a' w'=>(i≠k->S w')/\Qbo P md ops Q S k fuel (listed.setIfInBounds i true) a' w') a w
theorem QgR:∀ (fuel:Nat) (listed:Array Bool) (a:Act) (w:World),Qbo P md ops Q S k fuel listed a w->wpAny P md ops Q fuel listed a w
 | 0,_,_,_,h=>h
 | fuel+1,_,_,_,h=>⟨h.1,fun i hi=>wpOp_mono (fun a' w' h'=>QgR fuel _ a' w' h'.2) (h.2 i hi)⟩
theorem QiR (hi:ops[i]?=some oi) (hsel:∀ (j:Nat) (o:Oper) cs b,ops[j]?=some o->o.op≠.select cs b)
  (hik:i≠k) (hwait:∀ ok,ops[k]?=some ok->∃ e∈ok.after,Region.binds md e=true/\e.on=i)
  (hQ:∀ c a w,Q (.panic c) (a.put oi.dst v) w->Q (.panic c) a w) :
  ∀ (fuel:Nat) (listed:Array Bool) (a:Act) (w:World),
   (∀ j oj,ops[j]?=some oj->j≠i->listed.getD j true=false->(∀ e∈oj.after,Region.binds md e=true->e.on≠i)->oi.apart ops oj=true) ->
   i∈Region.ready md ops listed->YieldsIf P ops S oi v a->S w ->
   Qbo P md ops Q S k fuel (listed.setIfInBounds i true) (a.put oi.dst v) w->Qbo P md ops Q S k (fuel+1) listed a w:=by
 intro fuel
 induction fuel with
 | zero=>
  intro listed a w _ hr hy hS H;refine ⟨fun h=>(by rw [h] at hr;cases hr),fun j hj=>?_⟩;by_cases ab:j=i
  ·subst ab;exact hy.wpOp hi hS ⟨fun _=>hS,H⟩
  ·have:=ready_mono hj ab
   rw [H.1] at this
   cases this
 | succ fuel ih=>
  intro listed a w aa hr hy hS H;refine ⟨fun h=>(by rw [h] at hr;cases hr),fun j hj=>?_⟩;by_cases ab:j=i
  ·subst ab;exact hy.wpOp hi hS ⟨fun _=>hS,H⟩
  ·have h1:=H.2 j (ready_mono hj ab)
   obtain ⟨ae,oj,af,ah⟩:=mem_ready.1 hj
   have ad:∀ e∈oj.after,Region.binds md e=true->e.on≠i:=fun e he hb ag=>by
    have h1:=ah e he hb;have h0:=(mem_ready.1 hr).1;rw [ag] at h1;rcases Nat.lt_or_ge i listed.size with h' | h'
    ·simp [h'] at h0 h1;rw [h0] at h1;cases h1
    ·simp [Array.getElem?_eq_none h'] at h1
   have aj:j≠k:=fun e=>by
    subst e;obtain ⟨e,he,hb,ag⟩:=hwait oj af;exact ad e he hb ag
   have h2:=wpOp_putIf af (aa j oj af ab ae ad) (fun cs b=>hsel i oi cs b hi) (fun cs b=>hsel j oj cs b af) hQ hy h1
   have ac:∀ q oq,ops[q]?=some oq->q≠i->(listed.setIfInBounds j true).getD q true=false ->
     (∀ e∈oq.after,Region.binds md e=true->e.on≠i)->oi.apart ops oq=true:=fun q oq hq hqi hun hno=>by
    refine aa q oq hq hqi ?_ hno;by_cases ai:j=q
    ·subst ai;exact ae
    ·rw [getD_set_ne true ai] at hun;exact hun
   refine wpOp_mono (fun a' w' h3=>⟨h3.2.1,ih (listed.setIfInBounds j true) a' w' ac (ready_mono hr (Ne.symm ab)) h3.1 (h3.2.1 aj) ?_⟩) h2;rw [Array.setIfInBounds_comm _ _ ab];exact h3.2.2
def Qkq (md:Region.Mode) (ops:Array Oper) (k i:Nat):Bool:=match ops[k]? with
 | some o=>o.after.toList.any (fun e=>Region.binds md e && e.on == i)
 | none=>true
theorem QmQ (h:Qkq md ops k i=true):∀ ok,ops[k]?=some ok->∃ e∈ok.after,Region.binds md e=true/\e.on=i:=fun ok hk=>by
 unfold Qkq at h;rw [hk] at h;obtain ⟨e,he,h2⟩:=List.any_eq_true.1 h;have:=Bool.and_eq_true_iff.1 h2;exact ⟨e,Array.mem_toList_iff.1 he,this.1,by simpa using this.2⟩
theorem Qu0 (hi:ops[i]?=some oi) (hd:oi.dst=some d)
  (hs:Region.noSelect ops=true) (hf:Region.free md ops listed i=true) (hr:(Region.ready md ops listed).contains i=true) (hik:i≠k) (hw:Qkq md ops k i=true)
  (hQ:∀ c a w,Q (.panic c) (a.put oi.dst v) w->Q (.panic c) a w) (hy:YieldsIf P ops S oi v ⟨t,df⟩) (hS:S w)
  (h:Qbo P md ops Q S k fuel (listed.setIfInBounds i true) ⟨t.setIfInBounds d v,df⟩ w):Qbo P md ops Q S k (fuel+1) listed ⟨t,df⟩ w:=by
 refine QiR hi (Region.noSelect_spec hs) hik (QmQ hw) hQ fuel listed ⟨t,df⟩ w (Region.free_spec hi hf) (by simpa using hr) hy hS ?_;rw [hd];exact h
theorem tkL (i:Nat) (v:Value) (hS:S w)
  (hy:∀ W,S W->(execOp (Act.eval ⟨t,df⟩) oi).run P W=.ok (.value v) W) (h:Qbo P md ops Q S k fuel (listed.setIfInBounds i true) ⟨t.setIfInBounds d v,df⟩ w) (hi:ops[i]?=some oi:=by exact rfl) (hd:oi.dst=some d:=by exact rfl)
  (hs:Region.noSelect ops=true:=by kernel_rfl) (hf:Region.free md ops listed i=true:=by kernel_rfl) (hr:(Region.ready md ops listed).contains i=true:=by kernel_rfl) (hik:i≠k:=by decide) (hw:Qkq md ops k i=true:=by kernel_rfl)
  (hQ:∀ c a w,Q (.panic c) (a.put oi.dst v) w->Q (.panic c) a w:=by exact fun _ _ _ h=>h) (hwt:Region.wanted oi (yielded ops t)=true:=by rfl):Qbo P md ops Q S k (fuel+1) listed ⟨t,df⟩ w:=
 Qu0 hi hd hs hf hr hik hw hQ (Or.inl ⟨hwt,hy⟩) hS h
theorem tkS (i:Nat) (v:Value) (hS:S w)
  (h:Qbo P md ops Q S k fuel (listed.setIfInBounds i true) ⟨t.setIfInBounds d v,df⟩ w) (hi:ops[i]?=some oi:=by exact rfl) (hd:oi.dst=some d:=by exact rfl) (hy:∀ W,S W->(execOp (Act.eval ⟨t,df⟩) oi).run P W=.ok (.value v) W:=by intro W hW;clear hW;go_simp)
  (hs:Region.noSelect ops=true:=by kernel_rfl) (hf:Region.free md ops listed i=true:=by kernel_rfl) (hr:(Region.ready md ops listed).contains i=true:=by kernel_rfl) (hik:i≠k:=by decide) (hw:Qkq md ops k i=true:=by kernel_rfl)
  (hQ:∀ c a w,Q (.panic c) (a.put oi.dst v) w->Q (.panic c) a w:=by exact fun _ _ _ h=>h) (hwt:Region.wanted oi (yielded ops t)=true:=by rfl):Qbo P md ops Q S k (fuel+1) listed ⟨t,df⟩ w:=
 Qu0 hi hd hs hf hr hik hw hQ (Or.inl ⟨hwt,hy⟩) hS h
theorem tkU (i:Nat) (hS:S w)
  (h:Qbo P md ops Q S k fuel (listed.setIfInBounds i true) ⟨t.setIfInBounds d undef,df⟩ w) (hi:ops[i]?=some oi:=by exact rfl) (hd:oi.dst=some d:=by exact rfl)
  (hs:Region.noSelect ops=true:=by kernel_rfl) (hf:Region.free md ops listed i=true:=by kernel_rfl) (hr:(Region.ready md ops listed).contains i=true:=by kernel_rfl) (hik:i≠k:=by decide) (hw:Qkq md ops k i=true:=by kernel_rfl)
  (hQ:∀ c a w,Q (.panic c) (a.put oi.dst undef) w->Q (.panic c) a w:=by exact fun _ _ _ h=>h) (hwt:Region.wanted oi (yielded ops t)=false:=by rfl):Qbo P md ops Q S k (fuel+1) listed ⟨t,df⟩ w:=
 Qu0 hi hd hs hf hr hik hw hQ (Or.inr ⟨hwt,rfl⟩) hS h
theorem oneK (hr:Region.ready md ops listed=[i]) (hi:ops[i]?=some oi)
  (h:∀ K':Act->World->Prop,Shut (∀ a w,(i≠k->S w)->Qbo P md ops Q S k fuel (listed.setIfInBounds i true) a w->K' a w)->if Region.wanted oi (yielded ops a.tmps)=true then Oper.wp P oi a w K' Q else K' (a.put oi.dst undef) w) :
  Qbo P md ops Q S k (fuel+1) listed a w:=by
 refine ⟨fun h0=>(by rw [hr] at h0;cases h0),fun j hj=>?_⟩;rw [hr] at hj;obtain rfl:j=i:=by simpa using hj
 exact wpOp_step hi (fun K' hK=>h K' (fun a w hS hW=>hK a w ⟨hS,hW⟩))
theorem onE (i:Nat) 
  (h:∀ K':Act->World->Prop,Shut (∀ a w,(i≠k->S w)->Qbo P md ops Q S k fuel (listed.setIfInBounds i true) a w->K' a w)->if Region.wanted oi (yielded ops a.tmps)=true then Oper.wp P oi a w K' Q else K' (a.put oi.dst undef) w)
  (hr:Region.ready md ops listed=[i]:=by kernel_rfl) (hi:ops[i]?=some oi:=by exact rfl):Qbo P md ops Q S k (fuel+1) listed a w:=oneK hr hi h
theorem QaC (hr:Region.ready md ops listed=[]) (h:Q .normal a w):∀ fuel,Qbo P md ops Q S k fuel listed a w
 | 0=>⟨hr,h⟩
 | _+1=>⟨fun _=>h,by rw [hr];simp⟩
theorem dnE (h:Q .normal a w) (fuel:Nat) (hr:Region.ready md ops listed=[]:=by kernel_rfl):Qbo P md ops Q S k fuel listed a w:=QaC hr h fuel
theorem Qao {id:Nat} (S:World->Prop) (k:Nat) (hm:P.follows .mixedOrders=true) (h:Qbo P .any ops Q S k ops.size (Array.replicate ops.size false) a w.drew):(Code.region id ops true).wp P Q a w:=
 wp_region_any hm (QgR _ _ _ _ h)
end
theorem fzR {g:Nat} {t:TypeId} (j:Nat) (hg:w.heap[g]?=some (.cells cs t (0,0))):w.frozen? ⟨g,j,none⟩=false:=frozen_of_row w g j cs t hg
variable {α:Type}
theorem sA {l:List α} {a:α}:l.toArray.setIfInBounds i a=(l.set i a).toArray:=List.setIfInBounds_toArray ..
theorem sB {x:α} {xs:List α} {a:α}:(x :: xs).set 0 a=a :: xs:=List.set_cons_zero ..
theorem sC {x:α} {xs:List α} {a:α}:(x :: xs).set (i+1) a=x :: xs.set i a:=List.set_cons_succ ..
theorem sX:(∀ {α:Type} {l:List α} {i:Nat} {a:α},l.toArray.setIfInBounds i a=(l.set i a).toArray)/\(∀ {α:Type} {x:α} {xs:List α} {a:α},(x :: xs).set 0 a=a :: xs)/\(∀ {α:Type} {x:α} {xs:List α} {i:Nat} {a:α},(x :: xs).set (i+1) a=x :: xs.set i a)/\(∀ (t:Array Value) (f:List Deferred) (d:Nat) (v:Value),Act.put ⟨t,f⟩ (some d) v=⟨t.setIfInBounds d v,f⟩)/\(∀ (a:Act) (v:Value),Act.put a none v=a):=⟨sA,sB,sC,fun _ _ _ _=>rfl,fun _ _=>rfl⟩
variable {S:World->Prop}
theorem QjV {P:Program} {Q:Exit->Act->World->Prop} {j:Nat} {oj:Oper} (hr:Region.ready md ops listed=[i,j]) (hi:ops[i]?=some oi) (hj:ops[j]?=some oj)
  (h:∀ K':Act->World->Prop,Shut (∀ a w,(i≠k->S w)->Qbo P md ops Q S k fuel (listed.setIfInBounds i true) a w->K' a w)->if Region.wanted oi (yielded ops a.tmps)=true then Oper.wp P oi a w K' Q else K' (a.put oi.dst undef) w)
  (h':∀ K':Act->World->Prop,Shut (∀ a w,(j≠k->S w)->Qbo P md ops Q S k fuel (listed.setIfInBounds j true) a w->K' a w)->if Region.wanted oj (yielded ops a.tmps)=true then Oper.wp P oj a w K' Q else K' (a.put oj.dst undef) w) :
  Qbo P md ops Q S k (fuel+1) listed a w:=by
 refine ⟨fun h0=>(by rw [hr] at h0;cases h0),fun q hq=>?_⟩;rw [hr] at hq;have:q=i∨q=j:=by simpa using hq
 rcases this with rfl | rfl
 ·exact wpOp_step hi (fun K' hK=>h K' (fun a w hS hW=>hK a w ⟨hS,hW⟩))
 ·exact wpOp_step hj (fun K' hK=>h' K' (fun a w hS hW=>hK a w ⟨hS,hW⟩))
variable {T:TypeId}
theorem Qau (h:w.heap[r]?=some (.cells cs T (0,0))) (j:Nat) (e:cs[j]?=some v):w.cell? ⟨r,j,none⟩=some v:=by rw [cell_of_row _ _ j _ _ (0,0) h];exact e
theorem cA5 (h:w.heap[r]?=some (.cells #[a0,a1,a2,a3,a4] T (0,0))):w.cell? ⟨r,0,none⟩=some a0/\w.cell? ⟨r,1,none⟩=some a1/\w.cell? ⟨r,2,none⟩=some a2/\w.cell? ⟨r,3,none⟩=some a3/\w.cell? ⟨r,4,none⟩=some a4:=⟨Qau h 0 rfl,Qau h 1 rfl,Qau h 2 rfl,Qau h 3 rfl,Qau h 4 rfl⟩
theorem cA7 (h:w.heap[r]?=some (.cells #[a0,a1,a2,a3,a4,a5,a6] T (0,0))):w.cell? ⟨r,0,none⟩=some a0/\w.cell? ⟨r,1,none⟩=some a1/\w.cell? ⟨r,2,none⟩=some a2/\w.cell? ⟨r,3,none⟩=some a3/\w.cell? ⟨r,4,none⟩=some a4/\w.cell? ⟨r,5,none⟩=some a5/\w.cell? ⟨r,6,none⟩=some a6:=⟨Qau h 0 rfl,Qau h 1 rfl,Qau h 2 rfl,Qau h 3 rfl,Qau h 4 rfl,Qau h 5 rfl,Qau h 6 rfl⟩
theorem Qdz (h:w.heap[r]?=some (.cells #[a0,a1,a2,a3,a4,a5,a6,a7,a8,a9,a10,a11,a12] T (0,0))):w.cell? ⟨r,0,none⟩=some a0/\w.cell? ⟨r,1,none⟩=some a1/\w.cell? ⟨r,2,none⟩=some a2/\w.cell? ⟨r,3,none⟩=some a3/\w.cell? ⟨r,4,none⟩=some a4/\w.cell? ⟨r,5,none⟩=some a5/\w.cell? ⟨r,6,none⟩=some a6/\w.cell? ⟨r,7,none⟩=some a7/\w.cell? ⟨r,8,none⟩=some a8/\w.cell? ⟨r,9,none⟩=some a9/\w.cell? ⟨r,10,none⟩=some a10/\w.cell? ⟨r,11,none⟩=some a11/\w.cell? ⟨r,12,none⟩=some a12:=⟨Qau h 0 rfl,Qau h 1 rfl,Qau h 2 rfl,Qau h 3 rfl,Qau h 4 rfl,Qau h 5 rfl,Qau h 6 rfl,Qau h 7 rfl,Qau h 8 rfl,Qau h 9 rfl,Qau h 10 rfl,Qau h 11 rfl,Qau h 12 rfl⟩
theorem QuJ {a13 a14:Value} (h:w.heap[r]?=some (.cells #[a0,a1,a2,a3,a4,a5,a6,a7,a8,a9,a10,a11,a12,a13,a14] T (0,0))):w.cell? ⟨r,0,none⟩=some a0/\w.cell? ⟨r,1,none⟩=some a1/\w.cell? ⟨r,2,none⟩=some a2/\w.cell? ⟨r,3,none⟩=some a3/\w.cell? ⟨r,4,none⟩=some a4/\w.cell? ⟨r,5,none⟩=some a5/\w.cell? ⟨r,6,none⟩=some a6/\w.cell? ⟨r,7,none⟩=some a7/\w.cell? ⟨r,8,none⟩=some a8/\w.cell? ⟨r,9,none⟩=some a9/\w.cell? ⟨r,10,none⟩=some a10/\w.cell? ⟨r,11,none⟩=some a11/\w.cell? ⟨r,12,none⟩=some a12/\w.cell? ⟨r,13,none⟩=some a13/\w.cell? ⟨r,14,none⟩=some a14:=⟨Qau h 0 rfl,Qau h 1 rfl,Qau h 2 rfl,Qau h 3 rfl,Qau h 4 rfl,Qau h 5 rfl,Qau h 6 rfl,Qau h 7 rfl,Qau h 8 rfl,Qau h 9 rfl,Qau h 10 rfl,Qau h 11 rfl,Qau h 12 rfl,Qau h 13 rfl,Qau h 14 rfl⟩
theorem fA5 (h:w.heap[r]?=some (.cells cs T (0,0))):w.frozen? ⟨r,0,none⟩=false/\w.frozen? ⟨r,1,none⟩=false/\w.frozen? ⟨r,2,none⟩=false/\w.frozen? ⟨r,3,none⟩=false/\w.frozen? ⟨r,4,none⟩=false:=⟨frozen_of_row w r 0 _ _ h,frozen_of_row w r 1 _ _ h,frozen_of_row w r 2 _ _ h,frozen_of_row w r 3 _ _ h,frozen_of_row w r 4 _ _ h⟩
theorem fA7 (h:w.heap[r]?=some (.cells cs T (0,0))):w.frozen? ⟨r,0,none⟩=false/\w.frozen? ⟨r,1,none⟩=false/\w.frozen? ⟨r,2,none⟩=false/\w.frozen? ⟨r,3,none⟩=false/\w.frozen? ⟨r,4,none⟩=false/\w.frozen? ⟨r,5,none⟩=false/\w.frozen? ⟨r,6,none⟩=false:=⟨frozen_of_row w r 0 _ _ h,frozen_of_row w r 1 _ _ h,frozen_of_row w r 2 _ _ h,frozen_of_row w r 3 _ _ h,frozen_of_row w r 4 _ _ h,frozen_of_row w r 5 _ _ h,frozen_of_row w r 6 _ _ h⟩
theorem QeL (h:w.heap[r]?=some (.cells cs T (0,0))):w.frozen? ⟨r,0,none⟩=false/\w.frozen? ⟨r,1,none⟩=false/\w.frozen? ⟨r,2,none⟩=false/\w.frozen? ⟨r,3,none⟩=false/\w.frozen? ⟨r,4,none⟩=false/\w.frozen? ⟨r,5,none⟩=false/\w.frozen? ⟨r,6,none⟩=false/\w.frozen? ⟨r,7,none⟩=false/\w.frozen? ⟨r,8,none⟩=false/\w.frozen? ⟨r,9,none⟩=false/\w.frozen? ⟨r,10,none⟩=false/\w.frozen? ⟨r,11,none⟩=false/\w.frozen? ⟨r,12,none⟩=false:=⟨frozen_of_row w r 0 _ _ h,frozen_of_row w r 1 _ _ h,frozen_of_row w r 2 _ _ h,frozen_of_row w r 3 _ _ h,frozen_of_row w r 4 _ _ h,frozen_of_row w r 5 _ _ h,frozen_of_row w r 6 _ _ h,frozen_of_row w r 7 _ _ h,frozen_of_row w r 8 _ _ h,frozen_of_row w r 9 _ _ h,frozen_of_row w r 10 _ _ h,frozen_of_row w r 11 _ _ h,frozen_of_row w r 12 _ _ h⟩
theorem fA15 (h:w.heap[r]?=some (.cells cs T (0,0))):w.frozen? ⟨r,0,none⟩=false/\w.frozen? ⟨r,1,none⟩=false/\w.frozen? ⟨r,2,none⟩=false/\w.frozen? ⟨r,3,none⟩=false/\w.frozen? ⟨r,4,none⟩=false/\w.frozen? ⟨r,5,none⟩=false/\w.frozen? ⟨r,6,none⟩=false/\w.frozen? ⟨r,7,none⟩=false/\w.frozen? ⟨r,8,none⟩=false/\w.frozen? ⟨r,9,none⟩=false/\w.frozen? ⟨r,10,none⟩=false/\w.frozen? ⟨r,11,none⟩=false/\w.frozen? ⟨r,12,none⟩=false/\w.frozen? ⟨r,13,none⟩=false/\w.frozen? ⟨r,14,none⟩=false:=⟨frozen_of_row w r 0 _ _ h,frozen_of_row w r 1 _ _ h,frozen_of_row w r 2 _ _ h,frozen_of_row w r 3 _ _ h,frozen_of_row w r 4 _ _ h,frozen_of_row w r 5 _ _ h,frozen_of_row w r 6 _ _ h,frozen_of_row w r 7 _ _ h,frozen_of_row w r 8 _ _ h,frozen_of_row w r 9 _ _ h,frozen_of_row w r 10 _ _ h,frozen_of_row w r 11 _ _ h,frozen_of_row w r 12 _ _ h,frozen_of_row w r 13 _ _ h,frozen_of_row w r 14 _ _ h⟩
abbrev ZZa:=@Nat.le_refl
abbrev ZZb:=@Below.refl
abbrev ZZc:=@Array.getElem?_eq_some_iff
abbrev ZZd:=@List.getElem?_eq_some_iff
abbrev ZZe:=@List.getElem?_eq_getElem
abbrev ZZf:=@beq_eq_false_iff_ne
abbrev ZZg:=@decide_eq_false
abbrev ZZh:=@decide_eq_true
abbrev ZZi:=@IntWalk.i64_in
abbrev ZZj:=@Nat.zero_le
abbrev ZZk:=@heap_alloc_new
abbrev ZZl:=@heap_setCell_same
abbrev ZZm:=@List.mem_cons_of_mem
abbrev ZZn:=@List.mem_of_getElem?
abbrev ZZo:=@List.mem_of_mem_take
abbrev ZZp:=@List.mem_of_mem_drop
theorem gK {A:Prop} {B K:Act->World->Prop} (hK:Shut (∀ a w,(A->S w)->B a w->K a w)) (hS:S w) (h:B a w):K a w:=hK.out _ _ (fun _=>hS) h
theorem zI {k:IntKind} {n:Int}:Go.RowKit.intOf (.int k n)=n:=rfl
end Go.Proofs.YtdbaabbmcfnjbaaGreatDoor
