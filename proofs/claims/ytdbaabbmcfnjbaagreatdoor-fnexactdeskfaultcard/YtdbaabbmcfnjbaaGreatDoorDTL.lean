/-
 Parts.
-/
import Derived.Test.YtdbaabbmcfnjbaaGreatDoorDEB
import Derived.Test.YtdbaabbmcfnjbaaGreatDoorDTC
import Derived.Test.YtdbaabbmcfnjbaaGreatDoorCards
set_option maxRecDepth 100000
set_option linter.all false
namespace Go.Proofs.YtdbaabbmcfnjbaaGreatDoor
open Go.ChangeMaps (open_string shut_string)
open Go.ChangeShapes Go.WideShapes Go.ChangeAt Go.RowKit Go.Joins
theorem QgT {W:World} {name:String} {nm:String} {d:DataW Unit} {g:Nat} {t:TypeId} {ms:Array (String×TypeId)} {rest:List (String×DataW Unit)} (hg:Tryz.prog.globalNamed name=some g) (hty:(Tryz.prog.globals[g]?).map (·.type)=some t) (ht:Tryz.prog.underlying t=some (.interface ms)) (h:laidMet Tryz.prog ((name,.iface nm d) :: rest) W) :
  ∃ te pe,W.cell? ⟨g,0,none⟩=some (.iface te pe):=by
 obtain ⟨ps,⟨g',t',cs,ae,p,q,ac,ad,aa,hd,_,_⟩,_⟩:=h;obtain rfl:=Option.some.inj (hg.symm.trans ac);obtain rfl:=Option.some.inj (hty.symm.trans ad);obtain ⟨_,u,v,ab,_,_⟩:=iface_of_trod ht hd;refine ⟨u,v,?_⟩;rw [World.var?_cell hg aa 0,<- Array.getElem?_toList,ab]
 rfl
set_option maxRecDepth 100000 in
theorem Qt6 {W:World} (h:laidMetH Tryz.prog Rows.fnExactDeskFaultRow.laid W):LnG W:=by
 refine ⟨?_,?_,?_⟩
 ·have h2:=((laidMetH_iff.1 h).1).filter (fun x=>x.1 == "internal/strconv.uint64pow10")
  rw [show (Rows.fnExactDeskFaultRow.laid.filter fun x=>x.2.handleName?.isNone).filter (fun x=>x.1 == "internal/strconv.uint64pow10")=[("internal/strconv.uint64pow10",Lib.tabData .u64 Lib.pow10Tab)] by kernel_rfl] at h2;exact Lib.tabIs_of_head (g:=1) (t:=388) (e:=69) (n:=20) (by kernel_rfl) (by kernel_rfl) Tryz.underlying388 Tryz.underlying69 (by kernel_rfl) (by kernel_rfl) h2
 ·have h2:=((laidMetH_iff.1 h).1).filter (fun x=>x.1 == "strconv.ErrSyntax")
  rw [show (Rows.fnExactDeskFaultRow.laid.filter fun x=>x.2.handleName?.isNone).filter (fun x=>x.1 == "strconv.ErrSyntax")=[("strconv.ErrSyntax",Rows.laid_strconv_ErrSyntax)] by kernel_rfl] at h2;exact QgT (by kernel_rfl) (by kernel_rfl) Tryz.underlying194 h2
 ·have h2:=((laidMetH_iff.1 h).1).filter (fun x=>x.1 == "strconv.ErrRange")
  rw [show (Rows.fnExactDeskFaultRow.laid.filter fun x=>x.2.handleName?.isNone).filter (fun x=>x.1 == "strconv.ErrRange")=[("strconv.ErrRange",Rows.laid_strconv_ErrRange)] by kernel_rfl] at h2;exact QgT (by kernel_rfl) (by kernel_rfl) Tryz.underlying194 h2
theorem own:ownKnob Tryz.prog.godebug=none:=by kernel_rfl
theorem Qth:laidOutB Tryz.prog=true:=by kernel_rfl
noncomputable def dataL:List (String×DataW Unit):=Rows.fnExactDeskFaultRow.laid.filter fun x=>x.2.handleName?.isNone
noncomputable def base0 (os:Os):World:={ World.holding Tryz.prog os ⟨#[],#[],[]⟩ with heap:=(World.holding Tryz.prog os ⟨#[],#[],[]⟩).heap.modify 0 fun | .cells _ t frozen=>.cells #[.iface 372 (.agg #[.pointer (some ⟨11,194,none⟩)])] t frozen | o=>o }
noncomputable def witW (os:Os):World:=(base0 os).layVars Tryz.prog dataL
theorem Qp9 (os:Os) (args:Array Value):laidMetH Tryz.prog Rows.fnExactDeskFaultRow.laid ((witW os).forCall (fun _ _=>0) ⟨#[],args,[]⟩).memory:=
 laidMetH_of_parts (QiC (W0:=base0 os) (laid:=dataL) args (by kernel_rfl) (by kernel_rfl)) (by kernel_rfl)
theorem QfF (os:Os) (started:os.Started) (H:Type) (enc:TypeId×Value->H) :
  ReturnsInHanded {} Tryz.checked os 3 .any (fun w args=>(Rows.fnExactDeskFaultSpec.pre enc Tryz.prog Tryz.f3 [] false w args/\laidMetH Tryz.prog Rows.fnExactDeskFaultRow.laid w)/\sizedMet enc Tryz.prog Tryz.f3 (OpenSpec.ofChange Rows.fnExactDeskFaultSpec) false w args)
   (Rows.fnExactDeskFaultSpec.post enc Tryz.prog Tryz.f3 false true false false):=by
 refine Qhj (C:=Tryz.checked) (L:=Rows.fnExactDeskFaultRow.laid) own started (by kernel_rfl) Tryz.func3
  (ChangeSpec.witness_shaped (enc:=enc) (C:=Tryz.checked) (os:=os) (X:=fun w _=>laidMetH Tryz.prog Rows.fnExactDeskFaultRow.laid w) false (witW os) #[.string ByteArray.empty] 8 (World.layVars_os _ _ _)
   (World.shaped_of_ZipB (by kernel_rfl) (by kernel_rfl)) (by kernel_rfl) (by kernel_rfl) (by kernel_rfl) (Qp9 os _)) ?_
 intro W ad args ds gs ac aa hW hL aj;have ab:∀ (j:Nat) t v,Tryz.f3.params[j]?=some t->args[j]?=some v->Value.okWide Tryz.prog W .any ad t v:=aa;have ah:=hW;obtain ⟨p,q,af,hV,rfl,al,am⟩:=hW;have hA:DataW.TrodAll enc Tryz.prog W 0 (fun _=>true) true Tryz.f3.params.toList args.toList ds p:=af;rw [Tryz.params3] at hA ab;obtain ⟨v0,ak,d0,ai,p0,q0,ae,rfl,rfl,h0,r0⟩:=trodAll_cons hA;obtain ⟨rfl,rfl,rfl⟩:=trodAll_nil r0;obtain rfl:args=#[v0]:=by cases args;simp_all
 obtain ⟨rfl,rfl⟩:=trodVars_none hV;have k0:=h0;have ag:∀ x∈p0,x.block<W.heap.size:=by obtain ⟨m,hm⟩:=k0;exact DataW.trod_lt m _ _ _ hm
 obtain ⟨a0,rfl,rfl,rfl,w0⟩:=open_string Tryz.underlying9 (ab 0 9 v0 rfl rfl) h0;clear af aa;refine (Qhv a0 W (Qt6 hL)).mono fun e W' ⟨he,bel⟩=>?_;subst he;exact ⟨_,rfl,_,_,_,[],_,[],ah,trodAll_mk1 (shut_bool Tryz.underlying4 _),(trodAll_cons_mk (Below.trod Qth (by kernel_rfl) (of_decide_eq_true (by kernel_rfl)) k0 bel ag) trodAll_mk0),rfl,bel.frame _,fun h=>by cases h⟩
theorem saidDeskFault:Rows.FnExactDeskFaultSaid:=
 OpenClaim.holds_of_wide 3 Tryz.f3 rfl rfl rfl rfl rfl rfl rfl ⟨rfl,rfl,rfl,rfl,rfl⟩ rfl rfl rfl rfl rfl (by kernel_rfl) Tryz.func3 QfK
  (of_decide_eq_true (by kernel_rfl)) (by unfold Func.isWrapper;first | (rw [if_pos (by decide +kernel)];kernel_rfl) | (rw [if_neg (by decide +kernel)];exact ⟨rfl,rfl⟩))
  (fun os started H enc _=>QfF os started H enc)
theorem plainDeskFault (f:FuncId) (fn:Func) (hf:Tryz.pinned.checked.prog.funcNamed Rows.fnExactDeskFaultRow.func=some f) (hfn:Tryz.pinned.checked.prog.funcs[f]?=some fn) :
  Rows.fnExactDeskFaultCard.stood.looks=Tryz.pinned.checked.prog.looks []/\∀ (j:Nat) t,fn.params[j]?=some t->Tryz.pinned.checked.prog.wantsStandIn t=false:=by
 obtain rfl:f=3:=Option.some.inj ((show Tryz.prog.funcNamed Rows.fnExactDeskFaultRow.func=some 3 by kernel_rfl).symm.trans hf) |>.symm
 obtain rfl:fn=Tryz.f3:=(Option.some.inj (Tryz.func3.symm.trans hfn)).symm;refine ⟨by kernel_rfl,fun j t ht=>?_⟩;rw [Tryz.params3] at ht;have aa:=Array.mem_of_getElem? ht;simp only [List.mem_toArray,List.mem_cons,List.not_mem_nil,or_false] at aa;subst aa;exact (show Tryz.prog.wantsStandIn 9=false by kernel_rfl)
end Go.Proofs.YtdbaabbmcfnjbaaGreatDoor
