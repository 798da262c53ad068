/-
 FnExactPipeClose: at every Pipe PipeClose answers as its model, the Pipe that it was handed stays as it was, and what it hands back owns its memory. Condition: the tables of the library as the text of the program lays them.
-/
import Derived.Test.YtmjogablacnlgaaGreatDoorOLW
import Derived.Test.YtmjogablacnlgaaGreatDoorOLC
import Derived.Test.YtmjogablacnlgaaGreatDoorTie
import Derived.Test.YtmjogablacnlgaaGreatDoorCards
namespace Go.Proofs.YtmjogablacnlgaaGreatDoor
set_option linter.unusedVariables false
set_option linter.unusedSimpArgs false
open Go.ChangeMaps (open_string shut_string)
open Go.ChangeShapes Go.WideShapes Go.ChangeAt Go.RowKit Go.Joins
set_option maxRecDepth 10000
set_option maxRecDepth 100000
theorem own:ownKnob Tryz.prog.godebug=none:=by kernel_rfl
theorem laidOut:laidOutB Tryz.prog=true:=by kernel_rfl
theorem liftedPipeClose (os:Os) (started:os.Started) (H:Type) (enc:TypeId×Value→H) :
  ReturnsInHanded {} Tryz.checked os 8 .any (fun w args=>(Rows.fnExactPipeCloseSpec.pre enc Tryz.prog Tryz.f8 [] false w args∧laidMetH Tryz.prog Rows.fnExactPipeCloseRow.laid w)∧sizedMet enc Tryz.prog Tryz.f8 (OpenSpec.ofChange Rows.fnExactPipeCloseSpec) false w args)
   (Rows.fnExactPipeCloseSpec.post enc Tryz.prog Tryz.f8 false true false false):=by
 refine handed_shaped (C:=Tryz.checked) (L:=Rows.fnExactPipeCloseRow.laid) own started (by kernel_rfl) Tryz.func8
  (ChangeSpec.witness_shaped (enc:=enc) (C:=Tryz.checked) (os:=os) (X:=fun w _=>laidMetH Tryz.prog Rows.fnExactPipeCloseRow.laid w) false (World.laidAll Tryz.prog os Rows.fnExactPipeCloseRow.laid) #[.agg #[.slice none 0 0,.int .i64 0,.int .i64 0,.int .i64 0,.int .i64 0]] 8 (World.laidAll_os _ _ _)
   (World.shaped_of_ZipB (by kernel_rfl) (by kernel_rfl)) (by kernel_rfl) (by kernel_rfl) (by kernel_rfl)
   (by rw [MakeChecks.laidMetH_plain _ _ _ (by kernel_rfl)];exact laidMet_laidAll _ (by kernel_rfl) (by kernel_rfl))) ?_
 intro W base args ds gs before hval0 hW hL hsh;have hval:∀ (j:Nat) t v,Tryz.f8.params[j]?=some t→args[j]?=some v→Value.okWide Tryz.prog W .any base t v:=hval0;have hW':=hW;obtain ⟨p,q,hA0,hV,rfl,hfz,hnd⟩:=hW;have hA:DataW.TrodAll enc Tryz.prog W 0 (fun _=>true) true Tryz.f8.params.toList args.toList ds p:=hA0;rw [Tryz.params8] at hA hval;obtain ⟨v0,vs0,d0,ds0,p0,q0,hargs,rfl,rfl,h0,r0⟩:=trodAll_cons hA;obtain ⟨rfl,rfl,rfl⟩:=trodAll_nil r0;obtain rfl:args=#[v0]:=by cases args;simp_all
 obtain ⟨rfl,rfl⟩:=trodVars_none hV;have k0:=h0;have lt0:∀ x∈p0,x.block<W.heap.size:=by obtain ⟨m,hm⟩:=k0;exact DataW.trod_lt m _ _ _ hm
 obtain ⟨a0,c0,S0,pi0,rfl,ln0,at0,ok0,_⟩:=open_pipe (hval 0 24 v0 rfl rfl) h0;clear hA0 hval0;refine (walkPipeClose a0 c0 S0 pi0 W ln0 at0 ok0 (mx_of hsh)).mono fun e W' ⟨he,bel⟩=>?_;subst he;exact ⟨_,rfl,_,_,_,[],_,[],hW',trodAll_mk1 (shut_bool Tryz.underlying4 _),(trodAll_cons_mk (Below.trod laidOut (by kernel_rfl) (of_decide_eq_true (by kernel_rfl)) k0 bel lt0) trodAll_mk0),rfl,bel.frame _,fun h=>by cases h⟩
theorem saidPipeClose:Rows.FnExactPipeCloseSaid:=
 OpenClaim.holds_of_wide 8 Tryz.f8 rfl rfl rfl rfl rfl rfl rfl ⟨rfl,rfl,rfl,rfl,rfl⟩ rfl rfl rfl rfl rfl (by kernel_rfl) Tryz.func8 closedPipeClose
  (of_decide_eq_true (by kernel_rfl)) (by unfold Func.isWrapper;first | (rw [if_pos (by decide +kernel)];kernel_rfl) | (rw [if_neg (by decide +kernel)];exact ⟨rfl,rfl⟩))
  (fun os started H enc _=>liftedPipeClose os started H enc)
theorem plainPipeClose (f:FuncId) (fn:Func) (hf:Tryz.pinned.checked.prog.funcNamed Rows.fnExactPipeCloseRow.func=some f) (hfn:Tryz.pinned.checked.prog.funcs[f]?=some fn) :
  Rows.fnExactPipeCloseCard.stood.looks=Tryz.pinned.checked.prog.looks []∧∀ (j:Nat) t,fn.params[j]?=some t→Tryz.pinned.checked.prog.wantsStandIn t=false:=by
 obtain rfl:f=8:=Option.some.inj ((show Tryz.prog.funcNamed Rows.fnExactPipeCloseRow.func=some 8 by kernel_rfl).symm.trans hf) |>.symm
 obtain rfl:fn=Tryz.f8:=(Option.some.inj (Tryz.func8.symm.trans hfn)).symm;refine ⟨by kernel_rfl,fun j t ht=>?_⟩;rw [Tryz.params8] at ht;have ht2:=Array.mem_of_getElem? ht;simp only [List.mem_toArray,List.mem_cons,List.not_mem_nil,or_false] at ht2;obtain rfl:=ht2;exact (show Tryz.prog.wantsStandIn 24=false by kernel_rfl)
theorem fnExactPipeClose_card:Rows.FnExactPipeCloseCardSaid:=
 Claim7.holds_tied_plain_at .later [] _ _ _ _ saidPipeClose (fun _ h=>by cases h) (by kernel_rfl) (fun _ h=>by cases h) fnExactPipeClose_row_tie rfl ⟨rfl,rfl⟩ (by kernel_rfl) rfl plainPipeClose (by kernel_rfl)
#print axioms fnExactPipeClose_card
end Go.Proofs.YtmjogablacnlgaaGreatDoor
