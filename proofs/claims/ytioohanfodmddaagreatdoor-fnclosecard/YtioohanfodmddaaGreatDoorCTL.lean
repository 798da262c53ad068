/-
 An argument that is a slice of bytes, opened; the listed variables' world with a handle among them.
-/
import Derived.Test.YtioohanfodmddaaGreatDoorCTC
import Derived.Test.YtioohanfodmddaaGreatDoorCTB
import Derived.Test.YtioohanfodmddaaGreatDoorTie
import Derived.Test.YtioohanfodmddaaGreatDoorCards
set_option maxRecDepth 100000
set_option linter.all false
namespace Go.Proofs.YtioohanfodmddaaGreatDoor
open Go.ChangeMaps (open_string shut_string)
open Go.ChangeShapes Go.WideShapes Go.ChangeAt Go.RowKit Go.PlainAid
set_option maxRecDepth 100000 in
theorem Qj1 {H:Type} {enc:TypeId×Value->H} {W:World} {r:Reach} {b0 base:Nat} {sp:Nat->Bool} {held:Bool} {v:Value} {d:DataW H} {ps:List MemPlace}
  (hval:Value.okWide Tryz.prog W r b0 22 v) (hd:DataW.Trod enc Tryz.prog W base sp held 22 v d ps):∃ ao ln cap,v=.slice ao ln cap/\ln<=maxLen/\(ln<=1048576->Qbi W W.heap.size ao ln):=by
 obtain ⟨ao,ln,cap,rfl⟩:=okWide_slice Tryz.underlying22 hval;obtain ⟨ag,hf⟩:=hd;rcases open_ints Tryz.underlying22 Tryz.underlying5 (show Tryz.prog.cellsOf 5=1 by kernel_rfl) hf with ⟨ab,hx⟩ | ⟨a,ai,aj,zs,ab,_,hl,hm,hz,hx,aa,af⟩
 ·simp [Value.cells] at ab
  obtain ⟨rfl,rfl,rfl⟩:=ab;exact ⟨none,0,0,rfl,ZZj _,fun _=>⟨by omega,fun h=>absurd h (by omega)⟩⟩
 ·simp [Value.cells] at ab
  obtain ⟨rfl,rfl,rfl⟩:=ab;refine ⟨some a,ln,cap,rfl,Nat.le_trans hl hm,fun h=>⟨h,fun h0=>?_⟩⟩;have ak:ln<=zs.length:=by rw [hz];split <;> omega
  have g0:=aa 0 (by omega);obtain ⟨b,ah,ad⟩:=a;have ac:ad=none:=by simpa [Addr.add] using World.cell?_spot g0
  subst ac;refine ⟨b,ah,rfl,by have:=World.block_lt_of_cell? W _ g0;simpa [Addr.add] using this,fun i hi=>⟨zs.getD i 0,?_,by have:=range_u8 af i;simpa [List.getD] using this⟩⟩;have:=aa i (by omega);by_cases ae:i=0
  ·subst ae;simpa [Addr.add] using this
  ·simpa [Addr.add,ae] using this
end Go.Proofs.YtioohanfodmddaaGreatDoor
namespace Go.Proofs.YtioohanfodmddaaGreatDoor
open Go.ChangeMaps (open_string shut_string)
open Go.ChangeShapes Go.WideShapes Go.ChangeAt Go.RowKit Go.Joins
theorem Qh6 {W:World} {name:String} {nm:String} {d:DataW Unit} {g:Nat} {t:TypeId} {ms:Array (String×TypeId)} {rest:List (String×DataW Unit)} (hg:Tryz.prog.globalNamed name=some g) (hty:(Tryz.prog.globals[g]?).map (·.type)=some t) (ht:Tryz.prog.underlying t=some (.interface ms)) (h:laidMet Tryz.prog ((name,.iface nm d) :: rest) W) :
  ∃ te pe,W.cell? ⟨g,0,none⟩=some (.iface te pe):=by
 obtain ⟨ps,⟨g',t',cs,ad,p,q,ae,ab,aa,hd,_,_⟩,_⟩:=h;obtain rfl:=Option.some.inj (hg.symm.trans ae);obtain rfl:=Option.some.inj (hty.symm.trans ab);obtain ⟨_,u,v,ac,_,_⟩:=iface_of_trod ht hd;refine ⟨u,v,?_⟩;rw [World.var?_cell hg aa 0,<- Array.getElem?_toList,ac]
 rfl
set_option maxRecDepth 100000 in
theorem QvH {W:World} (h:laidMetH Tryz.prog Rows.fnCloseRow.laid W):LnG W:=by
 refine ⟨?_,?_,?_⟩
 ·have h2:=((laidMetH_iff.1 h).1).filter (fun x=>x.1 == "internal/strconv.uint64pow10")
  rw [show (Rows.fnCloseRow.laid.filter fun x=>x.2.handleName?.isNone).filter (fun x=>x.1 == "internal/strconv.uint64pow10")=[("internal/strconv.uint64pow10",Lib.tabData .u64 Lib.pow10Tab)] by kernel_rfl] at h2;exact Lib.tabIs_of_head (g:=4) (t:=365) (e:=33) (n:=20) (by kernel_rfl) (by kernel_rfl) Tryz.underlying365 Tryz.underlying33 (by kernel_rfl) (by kernel_rfl) h2
 ·have h2:=((laidMetH_iff.1 h).1).filter (fun x=>x.1 == "strconv.ErrSyntax")
  rw [show (Rows.fnCloseRow.laid.filter fun x=>x.2.handleName?.isNone).filter (fun x=>x.1 == "strconv.ErrSyntax")=[("strconv.ErrSyntax",Rows.laid_strconv_ErrSyntax)] by kernel_rfl] at h2;exact Qh6 (by kernel_rfl) (by kernel_rfl) Tryz.underlying121 h2
 ·have h2:=((laidMetH_iff.1 h).1).filter (fun x=>x.1 == "strconv.ErrRange")
  rw [show (Rows.fnCloseRow.laid.filter fun x=>x.2.handleName?.isNone).filter (fun x=>x.1 == "strconv.ErrRange")=[("strconv.ErrRange",Rows.laid_strconv_ErrRange)] by kernel_rfl] at h2;exact Qh6 (by kernel_rfl) (by kernel_rfl) Tryz.underlying121 h2
theorem own:ownKnob Tryz.prog.godebug=none:=by kernel_rfl
theorem QoT:laidOutB Tryz.prog=true:=by kernel_rfl
noncomputable def dataL:List (String×DataW Unit):=Rows.fnCloseRow.laid.filter fun x=>x.2.handleName?.isNone
noncomputable def base0 (os:Os):World:={ World.holding Tryz.prog os ⟨#[],#[],[]⟩ with heap:=(World.holding Tryz.prog os ⟨#[],#[],[]⟩).heap.modify 0 fun | .cells _ t frozen=>.cells #[.iface 285 (.agg #[.pointer (some ⟨9,121,none⟩)])] t frozen | o=>o }
noncomputable def witW (os:Os):World:=(base0 os).layVars Tryz.prog dataL
theorem QsU (os:Os) (args:Array Value):laidMetH Tryz.prog Rows.fnCloseRow.laid ((witW os).forCall (fun _ _=>0) ⟨#[],args,[]⟩).memory:=
 laidMetH_of_parts (QjK (W0:=base0 os) (laid:=dataL) args (by kernel_rfl) (by kernel_rfl)) (by kernel_rfl)
theorem QlR (os:Os) (started:os.Started) (H:Type) (enc:TypeId×Value->H) :
  ReturnsInHanded {} Tryz.checked os 3 .any (fun w args=>(Rows.fnCloseSpec.pre enc Tryz.prog Tryz.f3 [] false w args/\laidMetH Tryz.prog Rows.fnCloseRow.laid w)/\sizedMet enc Tryz.prog Tryz.f3 (OpenSpec.ofChange Rows.fnCloseSpec) false w args)
   (Rows.fnCloseSpec.post enc Tryz.prog Tryz.f3 false true false false):=by
 refine Qjn (C:=Tryz.checked) (L:=Rows.fnCloseRow.laid) own started (by kernel_rfl) Tryz.func3
  (ChangeSpec.witness_shaped (enc:=enc) (C:=Tryz.checked) (os:=os) (X:=fun w _=>laidMetH Tryz.prog Rows.fnCloseRow.laid w) false (witW os) #[.slice none 0 0,.slice none 0 0] 8 (World.layVars_os _ _ _)
   (World.shaped_of_ZipB (by kernel_rfl) (by kernel_rfl)) (by kernel_rfl) (by kernel_rfl) (by kernel_rfl) (QsU os _)) ?_
 intro W ad args ds gs ac aa hW hL ah;have ab:∀ (j:Nat) t v,Tryz.f3.params[j]?=some t->args[j]?=some v->Value.okWide Tryz.prog W .any ad t v:=aa;have ag:=hW;obtain ⟨p,q,af,hV,rfl,an,ao⟩:=hW;have hA:DataW.TrodAll enc Tryz.prog W 0 (fun _=>true) true Tryz.f3.params.toList args.toList ds p:=af;rw [Tryz.params3] at hA ab;obtain ⟨v0,ap,d0,ak,p0,q0,ae,rfl,rfl,h0,r0⟩:=trodAll_cons hA;obtain ⟨v1,am,d1,al,p1,q1,rfl,rfl,rfl,h1,r1⟩:=trodAll_cons r0;obtain ⟨rfl,rfl,rfl⟩:=trodAll_nil r1;obtain rfl:args=#[v0,v1]:=by cases args;simp_all
 obtain ⟨rfl,rfl⟩:=trodVars_none hV;have k0:=h0;have ai:∀ x∈p0,x.block<W.heap.size:=by obtain ⟨m,hm⟩:=k0;exact DataW.trod_lt m _ _ _ hm
 obtain ⟨a0,n0,c0,rfl,m0,s0⟩:=Qj1 (ab 0 22 v0 rfl rfl) h0;have k1:=h1;have aj:∀ x∈p1,x.block<W.heap.size:=by obtain ⟨m,hm⟩:=k1;exact DataW.trod_lt m _ _ _ hm
 obtain ⟨a1,n1,c1,rfl,m1,s1⟩:=Qj1 (ab 1 22 v1 rfl rfl) h1;clear af aa;refine (Qqq a0 n0 c0 a1 n1 c1 W m0 s0 m1 s1 (mx_of ah) (QvH hL)).mono fun e W' ⟨he,bel⟩=>?_;subst he;exact ⟨_,rfl,_,_,_,[],_,[],ag,trodAll_mk1 (shut_bool Tryz.underlying4 _),(trodAll_cons_mk (Below.trod QoT (by kernel_rfl) (of_decide_eq_true (by kernel_rfl)) k0 bel ai) (trodAll_cons_mk (Below.trod QoT (by kernel_rfl) (of_decide_eq_true (by kernel_rfl)) k1 bel aj) trodAll_mk0)),rfl,bel.frame _,fun h=>by cases h⟩
theorem Qqj:Rows.FnCloseSaid:=
 OpenClaim.holds_of_wide 3 Tryz.f3 rfl rfl rfl rfl rfl rfl rfl ⟨rfl,rfl,rfl,rfl,rfl⟩ rfl rfl rfl rfl rfl (by kernel_rfl) Tryz.func3 Qlh
  (of_decide_eq_true (by kernel_rfl)) (by unfold Func.isWrapper;first | (rw [if_pos (by decide +kernel)];kernel_rfl) | (rw [if_neg (by decide +kernel)];exact ⟨rfl,rfl⟩))
  (fun os started H enc _=>QlR os started H enc)
theorem QnT (f:FuncId) (fn:Func) (hf:Tryz.pinned.checked.prog.funcNamed Rows.fnCloseRow.func=some f) (hfn:Tryz.pinned.checked.prog.funcs[f]?=some fn) :
  Rows.fnCloseCard.stood.looks=Tryz.pinned.checked.prog.looks []/\∀ (j:Nat) t,fn.params[j]?=some t->Tryz.pinned.checked.prog.wantsStandIn t=false:=by
 obtain rfl:f=3:=Option.some.inj ((show Tryz.prog.funcNamed Rows.fnCloseRow.func=some 3 by kernel_rfl).symm.trans hf) |>.symm
 obtain rfl:fn=Tryz.f3:=(Option.some.inj (Tryz.func3.symm.trans hfn)).symm;refine ⟨by kernel_rfl,fun j t ht=>?_⟩;rw [Tryz.params3] at ht;have aa:=Array.mem_of_getElem? ht;simp only [List.mem_toArray,List.mem_cons,List.not_mem_nil,or_false] at aa;rcases aa with rfl | rfl
 ·exact (show Tryz.prog.wantsStandIn 22=false by kernel_rfl)
 ·exact (show Tryz.prog.wantsStandIn 22=false by kernel_rfl)
theorem fnClose_card:Rows.FnCloseCardSaid:=
 Claim7.holds_tied_plain_at .later [] _ _ _ _ Qqj (fun _ h=>by cases h) (by kernel_rfl) (fun _ h=>by cases h) fnClose_row_tie rfl ⟨rfl,rfl⟩ (by kernel_rfl) rfl QnT (by kernel_rfl)
#print axioms fnClose_card
end Go.Proofs.YtioohanfodmddaaGreatDoor
