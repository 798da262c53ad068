/-
 has, answer of a live pipe; memberFault; what comes of a member that comes or leaves.
-/
import Derived.Test.YtmjogablacnlgaaGreatDoorVZC
import Derived.Test.YtmjogablacnlgaaGreatDoorVZO
namespace Go.Proofs.YtmjogablacnlgaaGreatDoor
set_option linter.unusedVariables false
set_option linter.unusedSimpArgs false
open Go.ChangeShapes Go.WideShapes Go.ChangeAt Go.RowKit Go.PlainAid Go.Lib Go.Maps
set_option maxRecDepth 10000
abbrev q0:Pi:=⟨0,0,0,0⟩
noncomputable def inK (K:List ByteArray) (u:ByteArray):Bool:=@decide (u∈K) (Classical.propDecidable _)
theorem inK_yes {K:List ByteArray} {u:ByteArray} (h:u∈K):inK K u=true:=by unfold inK;exact @decide_eq_true _ (Classical.propDecidable _) h
theorem inK_no {K:List ByteArray} {u:ByteArray} (h:¬ u∈K):inK K u=false:=by unfold inK;exact @decide_eq_false _ (Classical.propDecidable _) h
theorem inK_iff {K:List ByteArray} {u:ByteArray}:inK K u=true↔u∈K:=by
 constructor
 ·intro h
  by_cases q:u∈K
  ·exact q
  ·rw [inK_no q] at h;cases h
 ·exact inK_yes
theorem MpS.look2 {w:World} {b n:Nat} {L:List Sd} {mm:ByteArray} (h:MpS w b n L) (hz:mm.size≤maxLen):∃ x a k c,(Instr.lookup 80 (.map (some b)) (.string mm) true).run Tryz.prog w=.ok (.tuple #[.agg #[.string x,.slice a k c],.bool (inK (L.map Sd.nm) mm)]) w:=by
 obtain ⟨D,hD,hH⟩:=h;obtain ⟨v,ps,hrun,hv⟩:=hD.look_ok (zd:=.held (.agg #[.string ByteArray.empty,.slice none 0 0])) (zp:=[]) lawSh Tryz.underlying80 (zeroSh w) rfl (keySh hz);by_cases hm:mm∈L.map Sd.nm
 ·obtain ⟨s,hs,rfl⟩:=List.mem_map.1 hm
  rw [hH.some hs] at hrun;rw [hH.val s hs] at hv;obtain ⟨cs,rfl⟩:=rS_inv hv;have e:(DataW.held (Value.agg cs):DataW Value)=heldS s:=congrArg Prod.fst (Option.some.inj hv);rw [heldS_inj e] at hrun;exact ⟨s.nm,s.ao,s.L.length,s.cp,by rw [inK_yes hm];exact hrun⟩
 ·have hh:Maps.has D (litT mm)=false:=hH.none (fun d hd e=>hm (List.mem_map.2 ⟨d,hd,e⟩))
  rw [hh] at hrun;rw [atKey_of_not_has hh] at hv;obtain ⟨cs,rfl⟩:=rS_inv hv;have e:(DataW.held (Value.agg cs):DataW Value)=.held (.agg #[.string ByteArray.empty,.slice none 0 0]):=congrArg Prod.fst (Option.some.inj hv);injection e with e;injection e with e;rw [e] at hrun;exact ⟨ByteArray.empty,none,0,0,by rw [inK_no hm];exact hrun⟩
set_option maxHeartbeats 2000000 in
theorem c_has {w:World} {mb n:Nat} {M:List Sd} (p:Pi) (mm:ByteArray) (hz:mm.size≤maxLen) (hM:MpS w mb n M) :
  Calls Tryz.prog 96 #[.agg (lvArr p mb),.string mm] w fun e w'=>e=.returned (.bool (inK (M.map Sd.nm) mm))∧Below w.heap.size w w':=by
 have al:Below w.heap.size w (w.alloc (.cells (lvArr p mb) 82)):=(Below.refl _ _).alloc (Nat.le_refl _) _;obtain ⟨x,a,k,c,hlk⟩:=(hM.past al).look2 (mm:=mm) hz;obtain ⟨B,hB⟩:∃ B,inK (M.map Sd.nm) mm=B:=⟨_,rfl⟩;rw [hB] at hlk ⊢;have r4:(w.alloc (.cells (lvArr p mb) 82)).cell? ⟨w.heap.size,4,none⟩=some (.map (some mb)):=cellKQ (heap_alloc_new w (.cells (lvArr p mb) 82)) 4 rfl;have HT0:=hide al;clear hM al hB;go_enter Tryz.func96,Tryz.ntmps96;go_upto_region 1 with fail;generalize w.alloc (.cells (lvArr p mb) 82)=W0 at HT0 hlk r4 ⊢;go_wp2;go_ret;exact ⟨rfl,chain HT0.out ((Below.refl _ _).alloc (Nat.le_refl _) _)⟩
set_option maxHeartbeats 2000000 in
theorem c_answer0 {w:World} {mb:Nat} (p:Pi) (cd:Int) (hc:cd≠0) :
  Calls Tryz.prog 69 #[.agg (lvArr p mb),.int .i64 cd] w fun e w'=>e=.returned (.agg (poArr (.slice none 0 0) q0 (.slice none 0 0) cd))∧Below w.heap.size w w':=by
 have hb:(cd != 0)=true:=by simpa using hc
 have hd:decide (cd=0)=false:=decide_eq_false hc;have HB:Hid (∀ o1 o2,Below w.heap.size w ((w.alloc o1).alloc o2)):=fun o1 o2=>((Below.refl _ _).alloc (Nat.le_refl _) _).alloc (by simp) _;go_enter Tryz.func69,Tryz.ntmps69;go_wp2;exact bodyPost_ret (v:=.agg (poArr (.slice none 0 0) q0 (.slice none 0 0) cd)) (by simp [results,Tryz.results69,go_sem]) rfl ⟨rfl,HB.out _ _⟩
set_option maxHeartbeats 4000000 in
theorem c_answer1 {w:World} {mb n:Nat} {M T:List Sd} (p:Pi) (hM:MpS w mb n M) (hT:T.Perm M) (hr:RiseT (T.map Sd.nm)) (hl:T.length≤1000) (hz:∀ s∈T,s.nm.size≤maxLen) :
  Calls Tryz.prog 69 #[.agg (lvArr p mb),.int .i64 0] w fun e w'=>∃ a c,e=.returned (.agg (poArr (.slice a T.length c) p (.slice none 0 0) 0))∧OwnD w' w.heap.size (.slice a T.length c) T∧Below w.heap.size w w':=by
 have a1:∀ (X:World) o,Below X.heap.size X (X.alloc o):=fun X o=>(Below.refl _ _).alloc (Nat.le_refl _) _;have k0:=heap_alloc_new w (.cells (lvArr p mb) 82);have k1:=heap_alloc_new (w.alloc (.cells (lvArr p mb) 82)) (.cells (poArr (.slice none 0 0) q0 (.slice none 0 0) 0) 41);simp only [World.size_alloc] at k1;have HR0:=hide (hpast k0 (a1 _ (.cells (poArr (.slice none 0 0) q0 (.slice none 0 0) 0) 41)));have HR1:=hide k1;have HT0:=hide (chain (a1 w (.cells (lvArr p mb) 82)) (a1 _ (.cells (poArr (.slice none 0 0) q0 (.slice none 0 0) 0) 41)));have HM:=hide (hM.past HT0.out);have HTp:=hide hT;have HR:=hide hr;have HZ:=hide hz;clear a1 k0 k1 hM hT hr hz;go_enter Tryz.func69,Tryz.ntmps69;go_upto_region 1 with fail;generalize (w.alloc (.cells (lvArr p mb) 82)).alloc (.cells (poArr (.slice none 0 0) q0 (.slice none 0 0) 0) 41)=W0 at HR0 HR1 HT0 HM ⊢;obtain ⟨x0,x1,x2,x3,x4⟩:=box5 HR0.out;go_wp2_with fail;clear x0 x1 x2 x3 x4;refine (c_pipe p HM.out HTp.out HR.out hl HZ.out).mono ?_;rintro e w1 ⟨v,rfl,ho,hb1⟩;obtain ⟨av,cv,rfl,_⟩:=ho.form;have hlo:w.heap.size+1+1≤W0.heap.size:=(Array.getElem?_eq_some_iff.1 HR1.out).1;have R1:=hpast HR1.out hb1;obtain ⟨y0,y1,y2,y3,y4,y5,y6⟩:=box7 R1;have f0:=fzR 0 R1;have f1:=fzR 1 R1;have f2:=fzR 2 R1;have f3:=fzR 3 R1;have f4:=fzR 4 R1;have f5:=fzR 5 R1;have f6:=fzR 6 R1;have HO:=hide ho;have HB:=hide (chain HT0.out hb1);have HFar:Hid (∀ j,(Value.slice av T.length cv).ownBlock=some j→w.heap.size+1+1≤j):=fun j q=>Nat.le_trans hlo (World.ownsRow.lt HO.out j q).1;have HOl:=hide (ho.le (Nat.le_trans (by omega) hlo:w.heap.size≤W0.heap.size));clear R1 ho hb1 hlo HR0 HR1 HM;go_wp2;refine bodyPost_ret (v:=.agg (poArr (.slice av T.length cv) p (.slice none 0 0) 0)) (by simp [results,Tryz.results69,go_sem,y0,y1,y2,y3,y4,y5,y6]) rfl ⟨av,cv,rfl,?_,?_⟩
 ·have st:∀ (W:World) (j:Nat) (u:Value),OwnD W w.heap.size (.slice av T.length cv) T→OwnD (W.setCell ⟨w.heap.size+1,j,none⟩ u) w.heap.size (.slice av T.length cv) T:=fun W j u o=>by
   refine World.ownsRow.kept o (grown_one W _ j u) ?_
   cases q:(Value.slice av T.length cv).ownBlock with
   | none=>exact .inl rfl
   | some i=>exact .inr (fun e=>by have:=HFar.out i q;injection e with e;omega)
  repeat (refine st _ _ _ ?_)
  exact HOl.out
 ·repeat (refine Below.setCell ?_ (by show _≤w.heap.size+1;omega) _)
  exact HB.out
noncomputable def mfC (S:List Sd) (p:Pi) (mm:ByteArray):Int:=if 20000<mm.size then 2 else if pipB S p=false∨nameB mm=false then 1 else 0
set_option maxHeartbeats 4000000 in
theorem c_memberFault {w:World} {ao:Option Addr} {N ca:Nat} {S:List Sd} (p:Pi) (mm:ByteArray) (hz:mm.size≤maxLen) (hm:MX w) (hI:PpI w ao N S) :
  Calls Tryz.prog 68 #[.agg (piArr (.slice ao N ca) p),.string mm] w fun e w'=>e=.returned (.int .i64 (mfC S p mm))∧Below w.heap.size w w':=by
 have HI:=hide hI;have HM:=hide hm;have HT0:=hide (((Below.refl _ _).alloc (Nat.le_refl _) _:Below w.heap.size w (w.alloc (.cells (piArr (.slice ao N ca) p) 29))));have HC:=hide (heap_alloc_new w (.cells (piArr (.slice ao N ca) p) 29));obtain ⟨cd,hcd⟩:∃ cd,mfC S p mm=cd:=⟨_,rfl⟩;rw [hcd];have HCd:=hide hcd;clear hI hm hcd;go_enter Tryz.func68,Tryz.ntmps68;go_upto_region 1 with fail;generalize w.alloc (.cells (piArr (.slice ao N ca) p) 29)=W0 at HT0 HC ⊢;go_wp2_with fail;refine (c_textFitsH mm hz W0).mono ?_;rintro e w1 ⟨rfl,rfl⟩;by_cases hs:mm.size≤20000
 ·have d1:decide (mm.size≤20000)=true:=decide_eq_true hs
  obtain ⟨x0,x1,x2,x3,x4⟩:=box5 HC.out;go_wp2_with fail;clear x0 x1 x2 x3 x4 d1;refine (c_i_PipeRight p HI.out.n HI.out.sm (fun s hs c hc=>⟨(HI.out.ok s hs c hc).1,(HI.out.ok s hs c hc).2.1⟩) (HM.out.past HT0.out) (sds_past HI.out.at' HT0.out)).mono ?_;rintro e w2 ⟨rfl,hb2⟩;have HT2:=hide (chain HT0.out hb2);clear hb2
  cases hp:pipB S p with
  | false=>
   obtain rfl:cd=1:=by rw [← HCd.out];unfold mfC;rw [if_neg (by omega),if_pos (.inl hp)]
   clear hp;go_wp2;go_ret;exact ⟨rfl,HT2.out⟩
  | true=>
   go_wp2_with fail;refine (c_i_NameRight mm w2 hz).mono ?_;rintro e w3 ⟨rfl,rfl⟩
   cases hn:nameB mm with
   | false=>
    obtain rfl:cd=1:=by rw [← HCd.out];unfold mfC;rw [if_neg (by omega),if_pos (.inr hn)]
    clear hp hn;go_wp2;go_ret;exact ⟨rfl,HT2.out⟩
   | true=>
    obtain rfl:cd=0:=by rw [← HCd.out];unfold mfC;rw [if_neg (by omega),if_neg (by rw [hp,hn];simp)]
    clear hp hn;go_wp2;go_ret;exact ⟨rfl,HT2.out⟩
 ·have d1:decide (mm.size≤20000)=false:=decide_eq_false hs
  obtain rfl:cd=2:=by rw [← HCd.out];unfold mfC;rw [if_pos (by omega)]
  go_wp2;go_ret;exact ⟨rfl,HT0.out⟩
end Go.Proofs.YtmjogablacnlgaaGreatDoor
