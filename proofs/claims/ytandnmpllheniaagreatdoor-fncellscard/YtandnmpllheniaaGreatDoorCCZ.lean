/-
 The law FnCells: drawn right cells are brought together either way round, where they may be; and a sample is put ahead of that, or behind, to the same, where there is room. Condition: the library's tables as the program's text lays them (the card ties them).
-/
import Derived.Test.YtandnmpllheniaaGreatDoorCCX
import Derived.Test.YtandnmpllheniaaGreatDoorCCY
import Derived.Test.YtandnmpllheniaaGreatDoorTie
import Derived.Test.YtandnmpllheniaaGreatDoorCards
set_option linter.all false
set_option maxRecDepth 100000
namespace Go.Proofs.YtandnmpllheniaaGreatDoor
open Go.ChangeMaps (open_string shut_string)
open Go.ChangeShapes Go.WideShapes Go.ChangeAt Go.RowKit Go.Joins
theorem own:ownKnob Tryz.prog.godebug=none:=by kernel_rfl
theorem Qnw:laidOutB Tryz.prog=true:=by kernel_rfl
theorem Qj9 (os:Os) (started:os.Started) (H:Type) (enc:TypeId×Value->H) :
  ReturnsInHanded {} Tryz.checked os 4 .any (fun w args=>(Rows.fnCellsSpec.pre enc Tryz.prog Tryz.f4 [] false w args/\laidMetH Tryz.prog Rows.fnCellsRow.laid w)/\sizedMet enc Tryz.prog Tryz.f4 (OpenSpec.ofChange Rows.fnCellsSpec) false w args)
   (Rows.fnCellsSpec.post enc Tryz.prog Tryz.f4 false true false false):=by
 refine QiF (C:=Tryz.checked) (L:=Rows.fnCellsRow.laid) own started (by kernel_rfl) Tryz.func4
  (ChangeSpec.witness_shaped (enc:=enc) (C:=Tryz.checked) (os:=os) (X:=fun w _=>laidMetH Tryz.prog Rows.fnCellsRow.laid w) false (World.laidAll Tryz.prog os Rows.fnCellsRow.laid) #[.slice none 0 0,.slice none 0 0] 8 (World.laidAll_os _ _ _)
   (World.shaped_of_ZipB (by kernel_rfl) (by kernel_rfl)) (by kernel_rfl) (by kernel_rfl) (by kernel_rfl)
   (by rw [MakeChecks.laidMetH_plain _ _ _ (by kernel_rfl)];exact laidMet_laidAll _ (by kernel_rfl) (by kernel_rfl))) ?_
 intro W ad args ds gs ac aa hW hL ai;have ab:∀ (j:Nat) t v,Tryz.f4.params[j]?=some t->args[j]?=some v->Value.okWide Tryz.prog W .any ad t v:=aa;have ag:=hW;obtain ⟨p,q,af,hV,rfl,ap,ao⟩:=hW;have hA:DataW.TrodAll enc Tryz.prog W 0 (fun _=>true) true Tryz.f4.params.toList args.toList ds p:=af;rw [Tryz.params4] at hA ab;obtain ⟨v0,ak,d0,am,p0,q0,ae,rfl,rfl,h0,r0⟩:=trodAll_cons hA;obtain ⟨v1,al,d1,an,p1,q1,rfl,rfl,rfl,h1,r1⟩:=trodAll_cons r0;obtain ⟨rfl,rfl,rfl⟩:=trodAll_nil r1;obtain rfl:args=#[v0,v1]:=by cases args;simp_all
 obtain ⟨rfl,rfl⟩:=trodVars_none hV;have k0:=h0;have ah:∀ x∈p0,x.block<W.heap.size:=by obtain ⟨m,hm⟩:=k0;exact DataW.trod_lt m _ _ _ hm
 obtain ⟨a0,n0,c0,rfl,m0,s0⟩:=Qjd (ab 0 22 v0 rfl rfl) h0;have k1:=h1;have aj:∀ x∈p1,x.block<W.heap.size:=by obtain ⟨m,hm⟩:=k1;exact DataW.trod_lt m _ _ _ hm
 obtain ⟨a1,n1,c1,rfl,m1,s1⟩:=Qjd (ab 1 22 v1 rfl rfl) h1;clear af aa;refine (QnT a0 n0 c0 a1 n1 c1 W m0 s0 m1 s1 (mx_of ai)).mono fun e W' ⟨he,bel⟩=>?_;subst he;exact ⟨_,rfl,_,_,_,[],_,[],ag,trodAll_mk1 (shut_bool Tryz.underlying4 _),(trodAll_cons_mk (Below.trod Qnw (by kernel_rfl) (of_decide_eq_true (by kernel_rfl)) k0 bel ah) (trodAll_cons_mk (Below.trod Qnw (by kernel_rfl) (of_decide_eq_true (by kernel_rfl)) k1 bel aj) trodAll_mk0)),rfl,bel.frame _,fun h=>by cases h⟩
theorem QnH:Rows.FnCellsSaid:=
 OpenClaim.holds_of_wide 4 Tryz.f4 rfl rfl rfl rfl rfl rfl rfl ⟨rfl,rfl,rfl,rfl,rfl⟩ rfl rfl rfl rfl rfl (by kernel_rfl) Tryz.func4 Qkr
  (of_decide_eq_true (by kernel_rfl)) (by unfold Func.isWrapper;first | (rw [if_pos (by decide +kernel)];kernel_rfl) | (rw [if_neg (by decide +kernel)];exact ⟨rfl,rfl⟩))
  (fun os started H enc _=>Qj9 os started H enc)
theorem Qmk (f:FuncId) (fn:Func) (hf:Tryz.pinned.checked.prog.funcNamed Rows.fnCellsRow.func=some f) (hfn:Tryz.pinned.checked.prog.funcs[f]?=some fn) :
  Rows.fnCellsCard.stood.looks=Tryz.pinned.checked.prog.looks []/\∀ (j:Nat) t,fn.params[j]?=some t->Tryz.pinned.checked.prog.wantsStandIn t=false:=by
 obtain rfl:f=4:=Option.some.inj ((show Tryz.prog.funcNamed Rows.fnCellsRow.func=some 4 by kernel_rfl).symm.trans hf) |>.symm
 obtain rfl:fn=Tryz.f4:=(Option.some.inj (Tryz.func4.symm.trans hfn)).symm;refine ⟨by kernel_rfl,fun j t ht=>?_⟩;rw [Tryz.params4] at ht;have aa:=Array.mem_of_getElem? ht;simp only [List.mem_toArray,List.mem_cons,List.not_mem_nil,or_false] at aa;rcases aa with rfl | rfl
 ·exact (show Tryz.prog.wantsStandIn 22=false by kernel_rfl)
 ·exact (show Tryz.prog.wantsStandIn 22=false by kernel_rfl)
theorem fnCells_card:Rows.FnCellsCardSaid:=
 Claim7.holds_tied_plain_at .later [] _ _ _ _ QnH (fun _ h=>by cases h) (by kernel_rfl) (fun _ h=>by cases h) fnCells_row_tie rfl ⟨rfl,rfl⟩ (by kernel_rfl) rfl Qmk (by kernel_rfl)
#print axioms fnCells_card
end Go.Proofs.YtandnmpllheniaaGreatDoor
