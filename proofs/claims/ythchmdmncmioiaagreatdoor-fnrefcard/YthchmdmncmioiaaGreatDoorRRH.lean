/-
 A world over which the listed variables are laid. Of no program.
-/
import Derived.Test.YthchmdmncmioiaaGreatDoorRRF
import Derived.Test.YthchmdmncmioiaaGreatDoorRRG
import Derived.Test.YthchmdmncmioiaaGreatDoorTie
import Derived.Test.YthchmdmncmioiaaGreatDoorCards
namespace Go.Proofs.YthchmdmncmioiaaGreatDoor
set_option linter.unusedVariables false
set_option linter.unusedSimpArgs false
open Go.RowKit
open Go.ChangeMaps (open_string shut_string)
open Go.ChangeAt Go.ChangeShapes Go.PlainAid Go.WideShapes
set_option maxRecDepth 100000 in
theorem open_code {H:Type} {enc:TypeId×Value→H} {W:World} {r:Reach} {b0 base:Nat} {sp:Nat→Bool} {held:Bool} {v:Value} {d:DataW H} {ps:List MemPlace}
  (hval:Value.okWide Tryz.prog W r b0 22 v) (hd:DataW.Trod enc Tryz.prog W base sp held 22 v d ps):∃ ao ln cap,v=.slice ao ln cap∧ln≤maxLen∧(ln≤1048576→CodeAt W W.heap.size ao ln):=by
 obtain ⟨ao,ln,cap,rfl⟩:=okWide_slice Tryz.underlying22 hval;obtain ⟨fuel,hf⟩:=hd;rcases open_ints Tryz.underlying22 Tryz.underlying5 (show Tryz.prog.cellsOf 5=1 by kernel_rfl) hf with ⟨hcs,hx⟩ | ⟨a,len',cap',zs,hcs,_,hl,hm,hz,hx,hcell,hwz⟩
 ·simp [Value.cells] at hcs
  obtain ⟨rfl,rfl,rfl⟩:=hcs;exact ⟨none,0,0,rfl,Nat.zero_le _,fun _=>⟨by omega,fun h=>absurd h (by omega)⟩⟩
 ·simp [Value.cells] at hcs
  obtain ⟨rfl,rfl,rfl⟩:=hcs;refine ⟨some a,ln,cap,rfl,Nat.le_trans hl hm,fun h=>⟨h,fun h0=>?_⟩⟩;have hzl:ln≤zs.length:=by rw [hz];split <;> omega
  have g0:=hcell 0 (by omega);obtain ⟨b,off,spot⟩:=a;have hspot:spot=none:=by simpa [Addr.add] using World.cell?_spot g0
  subst hspot;refine ⟨b,off,rfl,by have:=World.block_lt_of_cell? W _ g0;simpa [Addr.add] using this,fun i hi=>⟨zs.getD i 0,?_,by have:=range_u8 hwz i;simpa [List.getD] using this⟩⟩;have:=hcell i (by omega);by_cases hi0:i=0
  ·subst hi0;simpa [Addr.add] using this
  ·simpa [Addr.add,hi0] using this
end Go.Proofs.YthchmdmncmioiaaGreatDoor
namespace Go.Proofs.YthchmdmncmioiaaGreatDoor
set_option linter.unusedVariables false
set_option linter.unusedSimpArgs false
open Go.ChangeMaps (open_string shut_string)
open Go.ChangeShapes Go.WideShapes Go.ChangeAt Go.RowKit Go.Joins
set_option maxRecDepth 10000
set_option maxRecDepth 100000
theorem own:ownKnob Tryz.prog.godebug=none:=by kernel_rfl
theorem laidOut:laidOutB Tryz.prog=true:=by kernel_rfl
theorem liftedRef (os:Os) (started:os.Started) (H:Type) (enc:TypeId×Value→H) :
  ReturnsInHanded {} Tryz.checked os 5 .any (fun w args=>(Rows.fnRefSpec.pre enc Tryz.prog Tryz.f5 [] false w args∧laidMetH Tryz.prog Rows.fnRefRow.laid w)∧sizedMet enc Tryz.prog Tryz.f5 (OpenSpec.ofChange Rows.fnRefSpec) false w args)
   (Rows.fnRefSpec.post enc Tryz.prog Tryz.f5 false true false false):=by
 refine handed_shaped (C:=Tryz.checked) (L:=Rows.fnRefRow.laid) own started (by kernel_rfl) Tryz.func5
  (ChangeSpec.witness_shaped (enc:=enc) (C:=Tryz.checked) (os:=os) (X:=fun w _=>laidMetH Tryz.prog Rows.fnRefRow.laid w) false (World.laidAll Tryz.prog os Rows.fnRefRow.laid) #[.slice none 0 0,.slice none 0 0] 8 (World.laidAll_os _ _ _)
   (World.shaped_of_ZipB (by kernel_rfl) (by kernel_rfl)) (by kernel_rfl) (by kernel_rfl) (by kernel_rfl)
   (by rw [MakeChecks.laidMetH_plain _ _ _ (by kernel_rfl)];exact laidMet_laidAll _ (by kernel_rfl) (by kernel_rfl))) ?_
 intro W base args ds gs before hval0 hW hL hsh;have hval:∀ (j:Nat) t v,Tryz.f5.params[j]?=some t→args[j]?=some v→Value.okWide Tryz.prog W .any base t v:=hval0;have hW':=hW;obtain ⟨p,q,hA0,hV,rfl,hfz,hnd⟩:=hW;have hA:DataW.TrodAll enc Tryz.prog W 0 (fun _=>true) true Tryz.f5.params.toList args.toList ds p:=hA0;rw [Tryz.params5] at hA hval;obtain ⟨v0,vs0,d0,ds0,p0,q0,hargs,rfl,rfl,h0,r0⟩:=trodAll_cons hA;obtain ⟨v1,vs1,d1,ds1,p1,q1,rfl,rfl,rfl,h1,r1⟩:=trodAll_cons r0;obtain ⟨rfl,rfl,rfl⟩:=trodAll_nil r1;obtain rfl:args=#[v0,v1]:=by cases args;simp_all
 obtain ⟨rfl,rfl⟩:=trodVars_none hV;have k0:=h0;have lt0:∀ x∈p0,x.block<W.heap.size:=by obtain ⟨m,hm⟩:=k0;exact DataW.trod_lt m _ _ _ hm
 obtain ⟨a0,n0,c0,rfl,m0,s0⟩:=open_code (hval 0 22 v0 rfl rfl) h0;have k1:=h1;have lt1:∀ x∈p1,x.block<W.heap.size:=by obtain ⟨m,hm⟩:=k1;exact DataW.trod_lt m _ _ _ hm
 obtain ⟨a1,n1,c1,rfl,m1,s1⟩:=open_code (hval 1 22 v1 rfl rfl) h1;clear hA0 hval0;refine (walkRef a0 n0 c0 a1 n1 c1 W m0 s0 m1 s1 (mx_of hsh)).mono fun e W' ⟨he,bel⟩=>?_;subst he;exact ⟨_,rfl,_,_,_,[],_,[],hW',trodAll_mk1 (shut_bool Tryz.underlying4 _),(trodAll_cons_mk (Below.trod laidOut (by kernel_rfl) (of_decide_eq_true (by kernel_rfl)) k0 bel lt0) (trodAll_cons_mk (Below.trod laidOut (by kernel_rfl) (of_decide_eq_true (by kernel_rfl)) k1 bel lt1) trodAll_mk0)),rfl,bel.frame _,fun h=>by cases h⟩
theorem saidRef:Rows.FnRefSaid:=
 OpenClaim.holds_of_wide 5 Tryz.f5 rfl rfl rfl rfl rfl rfl rfl ⟨rfl,rfl,rfl,rfl,rfl⟩ rfl rfl rfl rfl rfl (by kernel_rfl) Tryz.func5 closedRef
  (of_decide_eq_true (by kernel_rfl)) (by unfold Func.isWrapper;first | (rw [if_pos (by decide +kernel)];kernel_rfl) | (rw [if_neg (by decide +kernel)];exact ⟨rfl,rfl⟩))
  (fun os started H enc _=>liftedRef os started H enc)
theorem plainRef (f:FuncId) (fn:Func) (hf:Tryz.pinned.checked.prog.funcNamed Rows.fnRefRow.func=some f) (hfn:Tryz.pinned.checked.prog.funcs[f]?=some fn) :
  Rows.fnRefCard.stood.looks=Tryz.pinned.checked.prog.looks []∧∀ (j:Nat) t,fn.params[j]?=some t→Tryz.pinned.checked.prog.wantsStandIn t=false:=by
 obtain rfl:f=5:=Option.some.inj ((show Tryz.prog.funcNamed Rows.fnRefRow.func=some 5 by kernel_rfl).symm.trans hf) |>.symm
 obtain rfl:fn=Tryz.f5:=(Option.some.inj (Tryz.func5.symm.trans hfn)).symm;refine ⟨by kernel_rfl,fun j t ht=>?_⟩;rw [Tryz.params5] at ht;have ht2:=Array.mem_of_getElem? ht;simp only [List.mem_toArray,List.mem_cons,List.not_mem_nil,or_false] at ht2;rcases ht2 with rfl | rfl
 ·exact (show Tryz.prog.wantsStandIn 22=false by kernel_rfl)
 ·exact (show Tryz.prog.wantsStandIn 22=false by kernel_rfl)
theorem fnRef_card:Rows.FnRefCardSaid:=
 Claim7.holds_tied_plain_at .later [] _ _ _ _ saidRef (fun _ h=>by cases h) (by kernel_rfl) (fun _ h=>by cases h) fnRef_row_tie rfl ⟨rfl,rfl⟩ (by kernel_rfl) rfl plainRef (by kernel_rfl)
#print axioms fnRef_card
end Go.Proofs.YthchmdmncmioiaaGreatDoor
