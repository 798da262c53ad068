/-
 An argument that is a slice of bytes, opened; the listed variables' world with a handle among them.
-/
import Derived.Test.YtlejlgldgafljaaGreatDoorVTC
import Derived.Test.YtlejlgldgafljaaGreatDoorVTB
import Derived.Test.YtlejlgldgafljaaGreatDoorTie
import Derived.Test.YtlejlgldgafljaaGreatDoorCards
set_option maxRecDepth 100000
set_option linter.all false
namespace Go.Proofs.YtlejlgldgafljaaGreatDoor
open Go.ChangeMaps (open_string shut_string)
open Go.ChangeShapes Go.WideShapes Go.ChangeAt Go.RowKit Go.PlainAid
set_option maxRecDepth 100000 in
theorem QkI {H:Type} {enc:TypeId×Value->H} {W:World} {r:Reach} {b0 base:Nat} {sp:Nat->Bool} {held:Bool} {v:Value} {d:DataW H} {ps:List MemPlace}
  (hval:Value.okWide Tryz.prog W r b0 22 v) (hd:DataW.Trod enc Tryz.prog W base sp held 22 v d ps):∃ ao ln cap,v=.slice ao ln cap/\ln<=maxLen/\(ln<=1048576->Qbq W W.heap.size ao ln):=by
 obtain ⟨ao,ln,cap,rfl⟩:=okWide_slice Tryz.underlying22 hval;obtain ⟨aj,hf⟩:=hd;rcases open_ints Tryz.underlying22 Tryz.underlying5 (show Tryz.prog.cellsOf 5=1 by kernel_rfl) hf with ⟨ab,hx⟩ | ⟨a,af,ag,zs,ab,_,hl,hm,hz,hx,aa,ah⟩
 ·simp [Value.cells] at ab
  obtain ⟨rfl,rfl,rfl⟩:=ab;exact ⟨none,0,0,rfl,ZZj _,fun _=>⟨by omega,fun h=>absurd h (by omega)⟩⟩
 ·simp [Value.cells] at ab
  obtain ⟨rfl,rfl,rfl⟩:=ab;refine ⟨some a,ln,cap,rfl,Nat.le_trans hl hm,fun h=>⟨h,fun h0=>?_⟩⟩;have ak:ln<=zs.length:=by rw [hz];split <;> omega
  have g0:=aa 0 (by omega);obtain ⟨b,ai,ad⟩:=a;have ac:ad=none:=by simpa [Addr.add] using World.cell?_spot g0
  subst ac;refine ⟨b,ai,rfl,by have:=World.block_lt_of_cell? W _ g0;simpa [Addr.add] using this,fun i hi=>⟨zs.getD i 0,?_,by have:=range_u8 ah i;simpa [List.getD] using this⟩⟩;have:=aa i (by omega);by_cases ae:i=0
  ·subst ae;simpa [Addr.add] using this
  ·simpa [Addr.add,ae] using this
end Go.Proofs.YtlejlgldgafljaaGreatDoor
namespace Go.Proofs.YtlejlgldgafljaaGreatDoor
open Go.ChangeMaps (open_string shut_string)
open Go.ChangeShapes Go.WideShapes Go.ChangeAt Go.RowKit Go.Joins
theorem own:ownKnob Tryz.prog.godebug=none:=by kernel_rfl
theorem Qo4:laidOutB Tryz.prog=true:=by kernel_rfl
theorem QlE (os:Os) (started:os.Started) (H:Type) (enc:TypeId×Value->H) :
  ReturnsInHanded {} Tryz.checked os 4 .any (fun w args=>(Rows.fnShareSpec.pre enc Tryz.prog Tryz.f4 [] false w args/\laidMetH Tryz.prog Rows.fnShareRow.laid w)/\sizedMet enc Tryz.prog Tryz.f4 (OpenSpec.ofChange Rows.fnShareSpec) false w args)
   (Rows.fnShareSpec.post enc Tryz.prog Tryz.f4 false true false false):=by
 refine Qjl (C:=Tryz.checked) (L:=Rows.fnShareRow.laid) own started (by kernel_rfl) Tryz.func4
  (ChangeSpec.witness_shaped (enc:=enc) (C:=Tryz.checked) (os:=os) (X:=fun w _=>laidMetH Tryz.prog Rows.fnShareRow.laid w) false (World.laidAll Tryz.prog os Rows.fnShareRow.laid) #[.slice none 0 0,.slice none 0 0] 8 (World.laidAll_os _ _ _)
   (World.shaped_of_ZipB (by kernel_rfl) (by kernel_rfl)) (by kernel_rfl) (by kernel_rfl) (by kernel_rfl)
   (by rw [MakeChecks.laidMetH_plain _ _ _ (by kernel_rfl)];exact laidMet_laidAll _ (by kernel_rfl) (by kernel_rfl))) ?_
 intro W ac args ds gs ad aa hW hL ai;have ab:∀ (j:Nat) t v,Tryz.f4.params[j]?=some t->args[j]?=some v->Value.okWide Tryz.prog W .any ac t v:=aa;have aj:=hW;obtain ⟨p,q,ae,hV,rfl,am,ap⟩:=hW;have hA:DataW.TrodAll enc Tryz.prog W 0 (fun _=>true) true Tryz.f4.params.toList args.toList ds p:=ae;rw [Tryz.params4] at hA ab;obtain ⟨v0,al,d0,ao,p0,q0,af,rfl,rfl,h0,r0⟩:=trodAll_cons hA;obtain ⟨v1,an,d1,ak,p1,q1,rfl,rfl,rfl,h1,r1⟩:=trodAll_cons r0;obtain ⟨rfl,rfl,rfl⟩:=trodAll_nil r1;obtain rfl:args=#[v0,v1]:=by cases args;simp_all
 obtain ⟨rfl,rfl⟩:=trodVars_none hV;have k0:=h0;have ag:∀ x∈p0,x.block<W.heap.size:=by obtain ⟨m,hm⟩:=k0;exact DataW.trod_lt m _ _ _ hm
 obtain ⟨a0,n0,c0,rfl,m0,s0⟩:=QkI (ab 0 22 v0 rfl rfl) h0;have k1:=h1;have ah:∀ x∈p1,x.block<W.heap.size:=by obtain ⟨m,hm⟩:=k1;exact DataW.trod_lt m _ _ _ hm
 obtain ⟨a1,n1,c1,rfl,m1,s1⟩:=QkI (ab 1 22 v1 rfl rfl) h1;clear ae aa;refine (QqN a0 n0 c0 a1 n1 c1 W m0 s0 m1 s1 (mx_of ai)).mono fun e W' ⟨he,bel⟩=>?_;subst he;exact ⟨_,rfl,_,_,_,[],_,[],aj,trodAll_mk1 (shut_bool Tryz.underlying4 _),(trodAll_cons_mk (Below.trod Qo4 (by kernel_rfl) (of_decide_eq_true (by kernel_rfl)) k0 bel ag) (trodAll_cons_mk (Below.trod Qo4 (by kernel_rfl) (of_decide_eq_true (by kernel_rfl)) k1 bel ah) trodAll_mk0)),rfl,bel.frame _,fun h=>by cases h⟩
theorem QpN:Rows.FnShareSaid:=
 OpenClaim.holds_of_wide 4 Tryz.f4 rfl rfl rfl rfl rfl rfl rfl ⟨rfl,rfl,rfl,rfl,rfl⟩ rfl rfl rfl rfl rfl (by kernel_rfl) Tryz.func4 Qlq
  (of_decide_eq_true (by kernel_rfl)) (by unfold Func.isWrapper;first | (rw [if_pos (by decide +kernel)];kernel_rfl) | (rw [if_neg (by decide +kernel)];exact ⟨rfl,rfl⟩))
  (fun os started H enc _=>QlE os started H enc)
theorem QnT (f:FuncId) (fn:Func) (hf:Tryz.pinned.checked.prog.funcNamed Rows.fnShareRow.func=some f) (hfn:Tryz.pinned.checked.prog.funcs[f]?=some fn) :
  Rows.fnShareCard.stood.looks=Tryz.pinned.checked.prog.looks []/\∀ (j:Nat) t,fn.params[j]?=some t->Tryz.pinned.checked.prog.wantsStandIn t=false:=by
 obtain rfl:f=4:=Option.some.inj ((show Tryz.prog.funcNamed Rows.fnShareRow.func=some 4 by kernel_rfl).symm.trans hf) |>.symm
 obtain rfl:fn=Tryz.f4:=(Option.some.inj (Tryz.func4.symm.trans hfn)).symm;refine ⟨by kernel_rfl,fun j t ht=>?_⟩;rw [Tryz.params4] at ht;have aa:=Array.mem_of_getElem? ht;simp only [List.mem_toArray,List.mem_cons,List.not_mem_nil,or_false] at aa;rcases aa with rfl | rfl
 ·exact (show Tryz.prog.wantsStandIn 22=false by kernel_rfl)
 ·exact (show Tryz.prog.wantsStandIn 22=false by kernel_rfl)
theorem fnShare_card:Rows.FnShareCardSaid:=
 Claim7.holds_tied_plain_at .later [] _ _ _ _ QpN (fun _ h=>by cases h) (by kernel_rfl) (fun _ h=>by cases h) fnShare_row_tie rfl ⟨rfl,rfl⟩ (by kernel_rfl) rfl QnT (by kernel_rfl)
#print axioms fnShare_card
end Go.Proofs.YtlejlgldgafljaaGreatDoor
