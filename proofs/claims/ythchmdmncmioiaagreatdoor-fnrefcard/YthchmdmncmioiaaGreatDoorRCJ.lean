/-
  AggNew of the program and of the model; marks in an Agg of nothing.
-/
import Derived.Test.YthchmdmncmioiaaGreatDoorRPA
import Derived.Test.YthchmdmncmioiaaGreatDoorRCI
namespace Go.Proofs.YthchmdmncmioiaaGreatDoor
set_option linter.unusedVariables false
set_option linter.unusedSimpArgs false
open Go.ChangeShapes Go.WideShapes Go.ChangeAt Go.RowKit Go.PlainAid Go.Lib
set_option maxRecDepth 10000
def agNew (k:Int):Ag:=if 1≤k∧k≤4 then ⟨k,0,0,0,0,if k=2 then -1 else 0,0,[],[],0,0,[],[]⟩ else ⟨0,0,0,0,0,0,0,[],[],0,0,[],[]⟩
def plNil:Pl:=⟨none,0,none,0,none,0,none,0⟩
abbrev agNewV (kd t:Int):Value:=.agg #[.int .i64 kd,.int .u64 0,.int .i64 0,.int .u64 0,.int .i64 0,.int .i64 t,.int .u64 0,.slice none 0 0,.slice none 0 0,.int .i64 0,.int .u64 0,.slice none 0 0,.slice none 0 0]
theorem c_kindRightA (k:Int) (w:World):Calls Tryz.prog 77 #[.int .i64 k] w fun e w'=>e=.returned (.bool (decide (1≤k) && decide (k≤4)))∧w'=w:=by
  by_cases h1:1≤k <;> by_cases h2:k≤4 <;> (go_enter Tryz.func77,Tryz.ntmps77;go_wp2;go_ret;exact ⟨by simp [h1,h2],rfl⟩)
theorem c_s_l01IsA (n lo hi:Int) (w:World):Calls Tryz.prog 90 #[.int .i64 n,.int .i64 lo,.int .i64 hi] w fun e w'=>e=.returned (.bool (decide (lo≤n) && decide (n≤hi)))∧w'=w:=by
  by_cases h1:lo≤n <;> by_cases h2:n≤hi <;> (go_enter Tryz.func90,Tryz.ntmps90;go_wp2;go_ret;exact ⟨by simp [h1,h2],rfl⟩)
set_option maxHeartbeats 1000000 in
theorem c_i_AggNew (k:Int) (w:World):Calls Tryz.prog 83 #[.int .i64 k] w fun e w'=>e=.returned (agNewV (agNew k).k (agNew k).t)∧Below w.heap.size w w':=by
  by_cases h14:1≤k∧k≤4
  · have hb:(decide (1≤k) && decide (k≤4))=true:=by simp [h14.1,h14.2]
    by_cases h2:k=2
    · have HE:Hid ((agNew k).k=k∧(agNew k).t=-1):=by unfold agNew;rw [if_pos h14];exact ⟨rfl,by simp [h2]⟩
      have b2:(k == 2)=true:=by simp [h2]
      clear h14 h2;go_enter Tryz.func83,Tryz.ntmps83;go_wp2_with (go_at_call 77;refine (c_kindRightA _ _).mono ?_;rintro e w1 ⟨rfl,hw⟩;subst hw;rw [hb]);exact bodyPost_ret (v:=agNewV k (-1)) (by simp [results,Tryz.results83,go_sem]) rfl ⟨by rw [HE.out.1,HE.out.2],((Below.refl _ _).alloc (Nat.le_refl _) _).alloc (by simp) _⟩
    · have HE:Hid ((agNew k).k=k∧(agNew k).t=0):=by unfold agNew;rw [if_pos h14];exact ⟨rfl,by simp [h2]⟩
      have b2:(k == 2)=false:=beq_eq_false_iff_ne.2 h2;clear h14 h2;go_enter Tryz.func83,Tryz.ntmps83;go_wp2_with (go_at_call 77;refine (c_kindRightA _ _).mono ?_;rintro e w1 ⟨rfl,hw⟩;subst hw;rw [hb]);exact bodyPost_ret (v:=agNewV k 0) (by simp [results,Tryz.results83,go_sem]) rfl ⟨by rw [HE.out.1,HE.out.2],((Below.refl _ _).alloc (Nat.le_refl _) _).alloc (by simp) _⟩
  · have hb:(decide (1≤k) && decide (k≤4))=false:=by
      rw [Bool.eq_false_iff];intro hh;simp at hh;exact h14 hh
    have HE:Hid ((agNew k).k=0∧(agNew k).t=0):=by unfold agNew;rw [if_neg h14];exact ⟨rfl,rfl⟩
    clear h14;go_enter Tryz.func83,Tryz.ntmps83;go_wp2_with (go_at_call 77;refine (c_kindRightA _ _).mono ?_;rintro e w1 ⟨rfl,hw⟩;subst hw;rw [hb]);exact bodyPost_ret (v:=agNewV 0 0) (by simp [results,Tryz.results83,go_sem]) rfl ⟨by rw [HE.out.1,HE.out.2],(Below.refl _ _).alloc (Nat.le_refl _) _⟩
set_option maxHeartbeats 1000000 in
theorem c_s_AggNew (k:Int) (w:World):Calls Tryz.prog 95 #[.int .i64 k] w fun e w'=>e=.returned (agNewV (agNew k).k (agNew k).t)∧Below w.heap.size w w':=by
  by_cases h14:1≤k∧k≤4
  · have hb:(decide (1≤k) && decide (k≤4))=true:=by simp [h14.1,h14.2]
    by_cases h2:k=2
    · have HE:Hid ((agNew k).k=k∧(agNew k).t=-1):=by unfold agNew;rw [if_pos h14];exact ⟨rfl,by simp [h2]⟩
      have b2:(k == 2)=true:=by simp [h2]
      clear h14 h2;go_enter Tryz.func95,Tryz.ntmps95;go_wp2_with (go_at_call 90;refine (c_s_l01IsA _ _ _ _).mono ?_;rintro e w1 ⟨rfl,hw⟩;subst hw;rw [hb]);exact bodyPost_ret (v:=agNewV k (-1)) (by simp [results,Tryz.results95,go_sem]) rfl ⟨by rw [HE.out.1,HE.out.2],((Below.refl _ _).alloc (Nat.le_refl _) _).alloc (by simp) _⟩
    · have HE:Hid ((agNew k).k=k∧(agNew k).t=0):=by unfold agNew;rw [if_pos h14];exact ⟨rfl,by simp [h2]⟩
      have b2:(k == 2)=false:=beq_eq_false_iff_ne.2 h2;clear h14 h2;go_enter Tryz.func95,Tryz.ntmps95;go_wp2_with (go_at_call 90;refine (c_s_l01IsA _ _ _ _).mono ?_;rintro e w1 ⟨rfl,hw⟩;subst hw;rw [hb]);exact bodyPost_ret (v:=agNewV k 0) (by simp [results,Tryz.results95,go_sem]) rfl ⟨by rw [HE.out.1,HE.out.2],((Below.refl _ _).alloc (Nat.le_refl _) _).alloc (by simp) _⟩
  · have hb:(decide (1≤k) && decide (k≤4))=false:=by
      rw [Bool.eq_false_iff];intro hh;simp at hh;exact h14 hh
    have HE:Hid ((agNew k).k=0∧(agNew k).t=0):=by unfold agNew;rw [if_neg h14];exact ⟨rfl,rfl⟩
    clear h14;go_enter Tryz.func95,Tryz.ntmps95;go_wp2_with (go_at_call 90;refine (c_s_l01IsA _ _ _ _).mono ?_;rintro e w1 ⟨rfl,hw⟩;subst hw;rw [hb]);exact bodyPost_ret (v:=agNewV 0 0) (by simp [results,Tryz.results95,go_sem]) rfl ⟨by rw [HE.out.1,HE.out.2],(Below.refl _ _).alloc (Nat.le_refl _) _⟩
abbrev NwCell (w:World) (b:Nat) (kd t:Int):Prop:=
  w.cell? ⟨b,0,none⟩=some (.int .i64 kd)∧w.cell? ⟨b,1,none⟩=some (.int .u64 0)∧w.cell? ⟨b,2,none⟩=some (.int .i64 0)∧w.cell? ⟨b,3,none⟩=some (.int .u64 0)∧w.cell? ⟨b,4,none⟩=some (.int .i64 0)∧w.cell? ⟨b,5,none⟩=some (.int .i64 t)∧w.cell? ⟨b,6,none⟩=some (.int .u64 0)∧w.cell? ⟨b,7,none⟩=some (.slice none 0 0)∧w.cell? ⟨b,8,none⟩=some (.slice none 0 0)∧w.cell? ⟨b,9,none⟩=some (.int .i64 0)∧w.cell? ⟨b,10,none⟩=some (.int .u64 0)∧w.cell? ⟨b,11,none⟩=some (.slice none 0 0)∧w.cell? ⟨b,12,none⟩=some (.slice none 0 0)
abbrev agx (kd t:Int):Ag:=⟨kd,0,0,0,0,t,0,[],[],0,0,[],[]⟩
open Go.Maps
theorem zeroAgg (w:World):(zeroValue 49).run Tryz.prog w=.ok (.agg z13) w:=by kernel_rfl
theorem mapMadeC (z:Int) (w:World):(Instr.makeMap 82 (some (.int .i64 z))).run Tryz.prog w=.ok (.map (some w.heap.size)) (w.alloc (.map #[] 0)):=by
  have h:=Tryz.underlying82;simp [Instr.makeMap,h];rfl
structure MoI (w wr:World) (L:List Ce) (k:Nat) (M:List Ce):Prop where
  m:MpC wr w.heap.size k M
  ky:M.map Ce.key=(L.take k).map Ce.key
  o:CesO wr (w.heap.size+1) M
  b:Below w.heap.size w wr
theorem key_mem {L M:List Ce} (h:M.map Ce.key=L.map Ce.key) {d:Ce} (hd:d∈M):∃ c∈L,c.n=d.n∧c.s=d.s∧c.g=d.g:=by
  have:d.key∈L.map Ce.key:=by rw [← h];exact List.mem_map.2 ⟨d,hd,rfl⟩
  obtain ⟨c,hc,e⟩:=List.mem_map.1 this;unfold Ce.key at e;injection e with e1 e2;injection e2 with e2 e3;exact ⟨c,hc,e1,e2,e3⟩
theorem MoI.step {w wr W1 W2:World} {L M:List Ce} {k:Nat} {c:Ce} {q:Pl} {D:DataW Value} (h:MoI w wr L k M) (hc:L[k]?=some c) (hk:KeyOk c.n c.s) (ap:L.Pairwise (fun c d=>¬ SameKey c d))
    (hD:W1.ownsMap Tryz.prog 85 rA w.heap.size k D) (hH:HoldsC D M) (hb:Below wr.heap.size wr W1) (ho:AgO W1 wr.heap.size c.g q)
    (hD2:W2.ownsMap Tryz.prog 85 rA w.heap.size (k+1) (D.put (kL c.n c.s) (heldC ⟨c.n,c.s,c.g,q⟩))) (hg:W1.grownBy W2 (some w.heap.size)):MoI w W2 L (k+1) (M ++ [⟨c.n,c.s,c.g,q⟩]):=by
  have hi:=(List.getElem?_eq_some_iff.1 hc).1
  have hne:∀ d∈M,¬ SameKey d ⟨c.n,c.s,c.g,q⟩:=fun d hd e=>by
    obtain ⟨x,hx,e1,e2,_⟩:=key_mem h.ky hd;obtain ⟨j,hj⟩:=List.mem_iff_getElem?.1 hx
    have hjk:j<k:=by
      have:=(List.getElem?_eq_some_iff.1 hj).1;simp at this;omega
    rw [List.getElem?_take_of_lt hjk] at hj;obtain ⟨hj1,hj2⟩:=List.getElem?_eq_some_iff.1 hj;obtain ⟨hi1,hi2⟩:=List.getElem?_eq_some_iff.1 hc;have:=(List.pairwise_iff_getElem.1 ap) j k hj1 hi1 hjk;rw [hj2,hi2] at this;exact this ⟨e1.trans e.1,e2.trans e.2⟩
  have hp:(⟨c.n,c.s,c.g,q⟩ :: M:List Ce).Perm (M ++ [⟨c.n,c.s,c.g,q⟩]):=(List.perm_append_singleton _ _).symm;have hO:=((h.o.add hb (by have:=h.m.lt;omega) (c:=⟨c.n,c.s,c.g,q⟩) ho).grown hg (Nat.lt_succ_self _)).perm hp;refine ⟨⟨_,hD2,(hH.put_new (hD.tidy keyC) (c:=⟨c.n,c.s,c.g,q⟩) hk hne).perm hp⟩,?_,hO,?_⟩
  · rw [List.map_append,h.ky,List.take_add_one,hc,List.map_append];rfl
  · exact (h.b.trans (hb.mono h.b.size)).grown hg (Nat.le_trans h.b.size hb.size) (fun j hj=>by cases hj;exact Nat.le_refl _)
theorem box_ce (w:World) (c:Ce):Below w.heap.size w (w.alloc (.cells (ceArr c) 51))∧∀ W,Below (w.alloc (.cells (ceArr c) 51)).heap.size (w.alloc (.cells (ceArr c) 51)) W→CeCell W w.heap.size 0 c:=
  ⟨(Below.refl _ _).alloc (Nat.le_refl _) _,fun W hW=>cec_past (cec_new w _ c) hW⟩
set_option maxHeartbeats 8000000 in
theorem c_mapOfCells {w:World} {ao:Option Addr} {N ca:Nat} {L:List Ce} (hN:L.length=N) (lN:N≤1048576) (ap:L.Pairwise (fun c d=>¬ SameKey c d)) (ky:∀ c∈L,KeyOk c.n c.s) (sm:∀ c∈L,AgSm c.g) (pl:∀ c∈L,PlG c.g c.p) (hA:CesAt w ao L) :
    Calls Tryz.prog 41 #[.slice ao N ca] w fun e w'=>∃ M,e=.returned (.map (some w.heap.size))∧MpC w' w.heap.size N M∧M.map Ce.key=L.map Ce.key∧CesO w' (w.heap.size+1) M∧Below w.heap.size w w':=by
  have HA:=hide hA;have HN:=hide hN;have AP:=hide ap;have KY:=hide ky;have SM:=hide sm;have PL:=hide pl;have hmm:=mapMadeC;have M0:Hid (MoI w (w.alloc (.map #[] 0)) L 0 []):=(⟨MpC.made w,by simp,CesO.nil _ _,(Below.refl _ _).alloc (Nat.le_refl _) _⟩:MoI w (w.alloc (.map #[] 0)) L 0 []);clear hA hN ap ky sm pl;go_enter Tryz.func41,Tryz.ntmps41;go_wp2
  go_loopw [11] (fun i wr=>∃ (k:Nat) (M:List Ce),k≤N∧i=.int .i64 k∧Hid (MoI w wr L k M)) (fun i wr=>N - (Go.RowKit.intOf i).toNat)
  case atStart=>exact ⟨0,[],Nat.zero_le _,rfl,M0⟩
  case round=>
    clear M0;obtain ⟨k,M,hk,rfl,HI⟩:=hrel;by_cases hkn:k<N
    · obtain ⟨g,off,e,hcell⟩:=HA.out.1 (by have:=HN.out;omega)
      obtain ⟨c,hc⟩:∃ c,L[k]?=some c:=⟨L[k]'(by have:=HN.out;omega),List.getElem?_eq_getElem _⟩;subst e;obtain ⟨x0,x1,x2,x3,x4,x5,x6,x7,x8,x9,x10,x11,x12,x13,x14⟩:=cec_past (cec_past (hcell k c hc) (Below.refl _ _)) (HI.out.b);have hm:=List.mem_of_getElem? hc;have HC:=hide hc;have KC:=hide (KY.out c hm);have SC:=hide (SM.out c hm);have PC:=hide (PL.out c hm);have AC:=hide (ag_past (HA.out.2 c hm) HI.out.b);have BX:=box_ce wr c;have HB0:=hide BX.1;have HX:=hide BX.2;have hkni:(k:Int)<(N:Int):=by omega
      clear hcell hc hm BX;go_wp2_with fail;clear x0 x1 x2 x3 x4 x5 x6 x7 x8 x9 x10 x11 x12 x13 x14;generalize hW0:wr.alloc (.cells (ceArr c) 51)=W0 at HB0 HX ⊢;clear hW0;have HS0:(fun W=>Below W0.heap.size W0 W) W0.drew:=(Below.refl _ _).drew;refine regionK (fun W=>Below W0.heap.size W0 W) 6 (by kernel_rfl) ?_;refine tkS (i:=0) (v:=.map (some w.heap.size)) rfl rfl HS0 ?_;refine tkL (i:=1) (v:=.agg (ceArr c)) rfl rfl HS0 (fun W hW=>?_) ?_
      · obtain ⟨x0,x1,x2,x3,x4,x5,x6,x7,x8,x9,x10,x11,x12,x13,x14⟩:=HX.out W hW
        clear hW;go_simp
      refine tkS (i:=3) (v:=.pointer (some ⟨wr.heap.size,2,none⟩)) rfl rfl HS0 ?_;simp only [sA,sB,sC];refine tkL (i:=4) (v:=.agg (agArr c.g c.p)) rfl rfl HS0 (fun W hW=>?_) ?_
      · obtain ⟨x0,x1,x2,x3,x4,x5,x6,x7,x8,x9,x10,x11,x12,x13,x14⟩:=HX.out W hW
        clear hW;go_simp
      simp only [sA,sB,sC];refine onE (i:=2) rfl (fun K hK=>?_);go_simp;refine (c_keyOf c _).mono ?_;rintro e w1 ⟨rfl,hb1⟩;have HB1:Hid (Below W0.heap.size W0 w1):=(HS0:Below W0.heap.size W0 W0.drew).trans (hb1.mono (Nat.le_refl _));clear hb1;dsimp only;refine hK.out _ _ (fun _=>HB1.out) ?_;clear hK K
      try simp only [Act.put,sA,sB,sC]
      refine onE (i:=5) rfl (fun K hK=>?_);go_simp;refine (c_copyAgg SC.out PC.out (ag_past AC.out (chain HB0.out HB1.out))).mono ?_;rintro e w2 ⟨v,o,rfl,rfl,⟨q,rfl,ho⟩,hb2⟩;have HB2:Hid (Below W0.heap.size W0 w2):=chain HB1.out hb2;have HO:=hide (ho.le (show wr.heap.size≤w1.heap.size from (chain HB0.out HB1.out).size));clear hb2 ho;dsimp only;refine hK.out _ _ (fun _=>HB2.out) ?_;clear hK K
      try simp only [Act.put,sA,sB,sC]
      obtain ⟨D,hD,hH⟩:=(HI.out.m.past (chain HB0.out HB2.out));obtain ⟨W3,hrun,hD3,hg3⟩:=hD.update (val:=.agg (agArr c.g q)) (d:=heldC ⟨c.n,c.s,c.g,q⟩) (ps:=[]) keyC Tryz.underlying82 (by unfold maxLen;omega) (keyOf_cell KC.out) rfl;have HF:=hide (HI.out.step HC.out KC.out AP.out hD hH (chain HB0.out HB2.out) HO.out hD3 hg3);clear hD hH hD3 hg3;refine onE (i:=6) rfl (fun K hK=>?_);go_simp;refine hK.out _ _ (fun h=>absurd rfl h) ?_;clear hK K
      try simp only [Act.put,sA,sB,sC]
      refine doneK (by kernel_rfl) ?_ _;go_wp2;go_roundw
      case rel=>exact ⟨k+1,_,by omega,by go_num,HF⟩
      case measure=>simp [Go.RowKit.intOf];omega
    · have eL:L.take k=L:=List.take_of_length_le (by have:=HN.out;omega)
      obtain rfl:k=N:=by omega
      have HF:Hid (M.map Ce.key=L.map Ce.key):=by have:=HI.out.ky;rw [eL] at this;exact this
      clear eL hk hkn;go_wp2;go_ret;exact ⟨M,rfl,HI.out.m,HF.out,HI.out.o,HI.out.b⟩
def isW (win:Int) (c:Ce):Bool:=c.n == win
structure TkS (w:World) (b:Nat) (win:Int) (L:List Ce) (wr:World) (D:DataW Value) (left:Lit→Bool) (cnt n:Nat) (T M R:List Ce):Prop where
  rg:wr.ranges Tryz.prog 85 rA b (w.heap.size+1) n D left cnt
  ho:HoldsC D (M ++ R)
  rc:RgC D left (M ++ R) M R
  mt:MpC wr w.heap.size T.length T
  p:(T ++ (M ++ R)).Perm L
  ty:∀ c∈T,c.n=win
  mn:∀ c∈M,c.n≠win
  g:w.grownBy wr (some b)
def TkI (w:World) (b n:Nat) (win:Int) (L:List Ce) (wr:World):Prop:=∃ D left cnt T M R,TkS w b win L wr D left cnt n T M R
structure TkN (w:World) (b:Nat) (win:Int) (L:List Ce) (W:World) (D:DataW Value) (left':Lit→Bool) (cnt2 n:Nat) (T M R':List Ce) (c:Ce):Prop where
  rg:W.ranges Tryz.prog 85 rA b (w.heap.size+1) n D left' cnt2
  ho:HoldsC D ((M ++ [c]) ++ R')
  rc:RgC D left' ((M ++ [c]) ++ R') (M ++ [c]) R'
  mt:MpC W w.heap.size T.length T
  p:(T ++ ((M ++ [c]) ++ R')).Perm L
  ty:∀ c∈T,c.n=win
  mn:∀ c∈M,c.n≠win
  g:w.grownBy W (some b)
theorem MpC.look_yes {w:World} {b n:Nat} {L:List Ce} {c:Ce} (h:MpC w b n L) (hc:c∈L):(Instr.lookup 82 (.map (some b)) (keyV c.n c.s) true).run Tryz.prog w=.ok (.tuple #[.agg (agArr c.g c.p),.bool true]) w:=by
  obtain ⟨D,hD,hH⟩:=h;obtain ⟨v,ps,hrun,hv⟩:=hD.look_ok (zd:=.held (.agg z13)) (zp:=[]) keyC Tryz.underlying82 (zeroAgg w) rfl (keyOf_cell (hH.wf c hc));rw [hH.some hc] at hrun;rw [hH.val c hc] at hv;obtain ⟨cs,rfl⟩:=rA_inv hv
  have e:(DataW.held (Value.agg cs):DataW Value)=heldC c:=by
    have:=Option.some.inj hv;exact congrArg Prod.fst this
  rw [held_inj e] at hrun;exact hrun
theorem MpC.look_no {w:World} {b n:Nat} {L:List Ce} {m:Int} {s:ByteArray} (h:MpC w b n L) (k:KeyOk m s) (hn:∀ d∈L,¬ (d.n=m∧d.s=s)):(Instr.lookup 82 (.map (some b)) (keyV m s) true).run Tryz.prog w=.ok (.tuple #[.agg z13,.bool false]) w:=by
  obtain ⟨D,hD,hH⟩:=h;obtain ⟨v,ps,hrun,hv⟩:=hD.look_ok (zd:=.held (.agg z13)) (zp:=[]) keyC Tryz.underlying82 (zeroAgg w) rfl (keyOf_cell k);have hh:=hH.none k hn;rw [hh] at hrun;rw [atKey_of_not_has hh] at hv;obtain ⟨cs,rfl⟩:=rA_inv hv
  have e:(DataW.held (Value.agg cs):DataW Value)=.held (.agg z13):=by
    have:=Option.some.inj hv;exact congrArg Prod.fst this
  injection e with e;injection e with e;rw [e] at hrun;exact hrun
theorem c_newX {w:World} {k:Int} (h1:1≤k) (h4:k≤4):Calls Tryz.prog 83 #[.int .i64 k] w fun e w'=>e=.returned (.agg (agArr (agNew k) pl0))∧Below w.heap.size w w':=by
  refine (c_i_AggNew k w).mono (fun e w' h=>?_);have e:agNew k=⟨k,0,0,0,0,if k=2 then -1 else 0,0,[],[],0,0,[],[]⟩:=by unfold agNew;rw [if_pos ⟨h1,h4⟩]
  rw [e] at h ⊢;exact h
theorem box_af (w:World) (n:Int) (s:ByteArray):Hid (Below w.heap.size w ((w.alloc (.cells #[.int .i64 n,.string s] 85)).alloc (.cells z13 49)))∧Hid (((w.alloc (.cells #[.int .i64 n,.string s] 85)).alloc (.cells z13 49)).heap[w.heap.size]?=some (.cells #[.int .i64 n,.string s] 85 (0,0)))∧Hid (((w.alloc (.cells #[.int .i64 n,.string s] 85)).alloc (.cells z13 49)).heap[w.heap.size+1]?=some (.cells z13 49 (0,0))):=by
  have a1:∀ (X:World) o,Below X.heap.size X (X.alloc o):=fun X o=>(Below.refl _ _).alloc (Nat.le_refl _) _;have k0:=heap_alloc_new w (.cells #[.int .i64 n,.string s] 85);have k1:=heap_alloc_new (w.alloc (.cells #[.int .i64 n,.string s] 85)) (.cells z13 49);simp only [World.size_alloc] at k1;exact ⟨hide (chain (a1 _ _) (a1 _ _)),hide (((a1 _ _).block _ (by simp)).trans k0),hide k1⟩
set_option maxHeartbeats 8000000 in
theorem c_aggFor_no {w:World} {b n:Nat} {L:List Ce} (m:Int) (s:ByteArray) (kind:Int) (h:MpC w b n L) (k:KeyOk m s) (hn:∀ d∈L,¬ (d.n=m∧d.s=s)) (h1:1≤kind) (h4:kind≤4) :
    Calls Tryz.prog 42 #[.map (some b),keyV m s,.int .i64 kind] w fun e w'=>e=.returned (.tuple #[.agg (agArr (agNew kind) pl0),.int .i64 0])∧Below w.heap.size w w':=by
  obtain ⟨k0,k1,k2⟩:=box_af w m s;have hlk:=(h.past k0.out).look_no k hn;have x0:=cellKC k1.out 0 rfl;have x1:=cellKC k1.out 1 rfl;clear h k hn;go_enter Tryz.func42,Tryz.ntmps42;go_wp2_with fail;generalize hW0:(w.alloc (.cells #[.int .i64 m,.string s] 85)).alloc (.cells z13 49)=W0 at k0 k1 k2 hlk x0 x1 ⊢;clear hlk x0 x1 hW0;have a1:Below W0.heap.size W0 (W0.alloc (.cells z13 49)):=(Below.refl _ _).alloc (Nat.le_refl _) _;have A1:=hide a1;clear a1;refine (c_newX h1 h4).mono ?_;rintro e w1 ⟨rfl,hb1⟩;have HT1:=hide (chain k0.out (chain A1.out hb1));have k3:=hide ((((chain A1.out hb1).block _ (Array.getElem?_eq_some_iff.1 k2.out).1)).trans k2.out);have f0:=fzR 0 k3.out;have y0:=cellKC k3.out 0 rfl;have f1:=fzR 1 k3.out;have y1:=cellKC k3.out 1 rfl;have f2:=fzR 2 k3.out;have y2:=cellKC k3.out 2 rfl;have f3:=fzR 3 k3.out;have y3:=cellKC k3.out 3 rfl;have f4:=fzR 4 k3.out;have y4:=cellKC k3.out 4 rfl;have f5:=fzR 5 k3.out;have y5:=cellKC k3.out 5 rfl;have f6:=fzR 6 k3.out;have y6:=cellKC k3.out 6 rfl;have f7:=fzR 7 k3.out;have y7:=cellKC k3.out 7 rfl;have f8:=fzR 8 k3.out;have y8:=cellKC k3.out 8 rfl;have f9:=fzR 9 k3.out;have y9:=cellKC k3.out 9 rfl;have f10:=fzR 10 k3.out;have y10:=cellKC k3.out 10 rfl;have f11:=fzR 11 k3.out;have y11:=cellKC k3.out 11 rfl;have f12:=fzR 12 k3.out;have y12:=cellKC k3.out 12 rfl;clear hb1;go_wp2;refine bodyPost_ret (v:=.tuple #[.agg (agArr (agNew kind) pl0),.int .i64 0]) (by simp [results,Tryz.results42,go_sem,y0,y1,y2,y3,y4,y5,y6,y7,y8,y9,y10,y11,y12]) rfl ⟨rfl,?_⟩
  repeat (refine Below.setCell ?_ (by simp) _)
  exact HT1.out
set_option maxHeartbeats 8000000 in
theorem c_aggFor_yes {w:World} {b n:Nat} {L:List Ce} {c:Ce} (kind:Int) (h:MpC w b n L) (hc:c∈L) (hk:c.g.k=kind) :
    Calls Tryz.prog 42 #[.map (some b),keyV c.n c.s,.int .i64 kind] w fun e w'=>e=.returned (.tuple #[.agg (agArr c.g c.p),.int .i64 0])∧Below w.heap.size w w':=by
  obtain ⟨k0,k1,k2⟩:=box_af w c.n c.s;have hlk:=(h.past k0.out).look_yes hc;have x0:=cellKC k1.out 0 rfl;have x1:=cellKC k1.out 1 rfl;clear h hc;have hkb:(c.g.k != kind)=false:=by simp [hk]
  clear hk;have f0:=fzR 0 k2.out;have y0:=cellKC k2.out 0 rfl;have f1:=fzR 1 k2.out;have y1:=cellKC k2.out 1 rfl;have f2:=fzR 2 k2.out;have y2:=cellKC k2.out 2 rfl;have f3:=fzR 3 k2.out;have y3:=cellKC k2.out 3 rfl;have f4:=fzR 4 k2.out;have y4:=cellKC k2.out 4 rfl;have f5:=fzR 5 k2.out;have y5:=cellKC k2.out 5 rfl;have f6:=fzR 6 k2.out;have y6:=cellKC k2.out 6 rfl;have f7:=fzR 7 k2.out;have y7:=cellKC k2.out 7 rfl;have f8:=fzR 8 k2.out;have y8:=cellKC k2.out 8 rfl;have f9:=fzR 9 k2.out;have y9:=cellKC k2.out 9 rfl;have f10:=fzR 10 k2.out;have y10:=cellKC k2.out 10 rfl;have f11:=fzR 11 k2.out;have y11:=cellKC k2.out 11 rfl;have f12:=fzR 12 k2.out;have y12:=cellKC k2.out 12 rfl;go_enter Tryz.func42,Tryz.ntmps42;go_wp2;refine bodyPost_ret (v:=.tuple #[.agg (agArr c.g c.p),.int .i64 0]) (by simp [results,Tryz.results42,go_sem]) rfl ⟨rfl,?_⟩
  first
    | exact (k0.out.alloc (by simp <;> omega) _)
    | (repeat (first | refine Below.setCell ?_ (by simp) _ | refine Below.alloc ?_ (by simp <;> omega) _)
       exact Below.refl _ _)
set_option maxHeartbeats 8000000 in
theorem c_aggFor_bad {w:World} {b n:Nat} {L:List Ce} {c:Ce} (kind:Int) (h:MpC w b n L) (hc:c∈L) (hk:¬ c.g.k=kind) :
    Calls Tryz.prog 42 #[.map (some b),keyV c.n c.s,.int .i64 kind] w fun e w'=>e=.returned (.tuple #[.agg z13,.int .i64 9])∧Below w.heap.size w w':=by
  obtain ⟨k0,k1,k2⟩:=box_af w c.n c.s;have hlk:=(h.past k0.out).look_yes hc;have x0:=cellKC k1.out 0 rfl;have x1:=cellKC k1.out 1 rfl;clear h hc;have hkb:(c.g.k != kind)=true:=by simp [hk]
  clear hk;have f0:=fzR 0 k2.out;have y0:=cellKC k2.out 0 rfl;have f1:=fzR 1 k2.out;have y1:=cellKC k2.out 1 rfl;have f2:=fzR 2 k2.out;have y2:=cellKC k2.out 2 rfl;have f3:=fzR 3 k2.out;have y3:=cellKC k2.out 3 rfl;have f4:=fzR 4 k2.out;have y4:=cellKC k2.out 4 rfl;have f5:=fzR 5 k2.out;have y5:=cellKC k2.out 5 rfl;have f6:=fzR 6 k2.out;have y6:=cellKC k2.out 6 rfl;have f7:=fzR 7 k2.out;have y7:=cellKC k2.out 7 rfl;have f8:=fzR 8 k2.out;have y8:=cellKC k2.out 8 rfl;have f9:=fzR 9 k2.out;have y9:=cellKC k2.out 9 rfl;have f10:=fzR 10 k2.out;have y10:=cellKC k2.out 10 rfl;have f11:=fzR 11 k2.out;have y11:=cellKC k2.out 11 rfl;have f12:=fzR 12 k2.out;have y12:=cellKC k2.out 12 rfl;go_enter Tryz.func42,Tryz.ntmps42;go_wp2;refine bodyPost_ret (v:=.tuple #[.agg z13,.int .i64 9]) (by simp [results,Tryz.results42,go_sem]) rfl ⟨rfl,?_⟩
  first
    | exact (k0.out.alloc (by simp <;> omega) _)
    | (repeat (first | refine Below.setCell ?_ (by simp) _ | refine Below.alloc ?_ (by simp <;> omega) _)
       exact Below.refl _ _)
end Go.Proofs.YthchmdmncmioiaaGreatDoor
